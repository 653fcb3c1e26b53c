import PyProof.Rows.All
import Wide.All
import OpenK.AllK
import Wide.FinOn
import PyProof.EqAt
import PyProof.EqKinds
import PyProof.TupleCall
import PySem.Challenge.RW_trueline_k45_determinants
set_option Elab.async false
set_option linter.all false
set_option maxRecDepth 100000
namespace L2
open PySem PySem.Spec PyProof.Rows
abbrev Key:=Sum Int Str
def keyIs:Key->Value->Bool
 | .inl k,v=>Value.isInt k v
 | .inr x,v=>Value.isStrOf x v
def keyH (w:World):Key->Int
 | .inl k=>hashInt k
 | .inr x=>hashStr w x
theorem keyIs_shape:∀ {k:Key} {v:Value},keyIs k v=true->(∃ i t,k=Sum.inl i /\ v=Value.int i t) \/ (∃ x t,k=Sum.inr x /\ v=Value.str x t)
 | .inl i,v,h=>by
   obtain ⟨t,e⟩:=Value.isInt_shape (k:=i) (v:=v) h
   exact .inl ⟨i,t,rfl,e⟩
 | .inr x,v,h=>by
   obtain ⟨t,e⟩:=Value.isStrOf_shape (x:=x) (v:=v) h
   exact .inr ⟨x,t,rfl,e⟩
theorem key_ll (a b:Int):decide ((Sum.inl a:Key)=Sum.inl b)=(a == b):=by
 by_cases e:a=b
 ·subst e;simp
 ·have h:¬ (Sum.inl a:Key)=Sum.inl b:=fun q=>e (Sum.inl.inj q)
  rw [decide_eq_false h]
  exact (beq_eq_false_iff_ne.mpr e).symm
theorem key_rr (a b:Str):decide ((Sum.inr a:Key)=Sum.inr b)=decide (a=b):=by
 by_cases e:a=b
 ·subst e;simp
 ·have h:¬ (Sum.inr a:Key)=Sum.inr b:=fun q=>e (Sum.inr.inj q)
  rw [decide_eq_false h,decide_eq_false e]
theorem key_lr (a:Int) (b:Str):decide ((Sum.inl a:Key)=Sum.inr b)=false:=decide_eq_false (fun q=>nomatch q)
theorem key_rl (a:Str) (b:Int):decide ((Sum.inr a:Key)=Sum.inl b)=false:=decide_eq_false (fun q=>nomatch q)
def mixKind (prog:Program) (w:World):PySem.KeyKind prog w Key where
 is:=keyIs
 hash:=keyH w
 inj:=fun v a b ha hb=>by
  rcases keyIs_shape ha with ⟨i,t,rfl,rfl⟩ | ⟨x,t,rfl,rfl⟩
  ·rcases keyIs_shape hb with ⟨j,u,rfl,e⟩ | ⟨y,u,rfl,e⟩
   ·injection e with e1 _;rw [e1]
   ·exact nomatch e
  ·rcases keyIs_shape hb with ⟨j,u,rfl,e⟩ | ⟨y,u,rfl,e⟩
   ·exact nomatch e
   ·injection e with e1 _;rw [e1]
 byValue:=fun k v h=>by
  rcases keyIs_shape h with ⟨i,t,rfl,rfl⟩ | ⟨x,t,rfl,rfl⟩ <;> rfl
 pyHash:=fun hv h=>by
  rcases keyIs_shape hv with ⟨i,t,rfl,rfl⟩ | ⟨x,t,rfl,rfl⟩
  ·exact wpAny_pyHash_int h
  ·exact wpAny_pyHash_str h
 eqBool:=fun hu hv h=>by
  rcases keyIs_shape hu with ⟨i,t,rfl,rfl⟩ | ⟨x,t,rfl,rfl⟩
  ·rcases keyIs_shape hv with ⟨j,u,rfl,rfl⟩ | ⟨y,u,rfl,rfl⟩
   ·rw [key_ll] at h;exact wpAny_eqBool_int h
   ·rw [key_lr] at h;exact SeqAt.EqAt.int_str i t y u _ _ _ _ h
  ·rcases keyIs_shape hv with ⟨j,u,rfl,rfl⟩ | ⟨y,u,rfl,rfl⟩
   ·rw [key_rl] at h;exact SeqAt.EqAt.str_int x t j u _ _ _ _ h
   ·rw [key_rr] at h;exact wpAny_eqBool_str h
 «strs»:=fun k x t v h=>by
  rcases keyIs_shape h with ⟨i,u,rfl,e⟩ | ⟨y,u,rfl,e⟩
  ·exact nomatch e
  ·injection e with e1 _
   subst e1
   cases v <;> rfl
end L2
namespace L2
open PySem PySem.Spec PyProof.Rows
inductive V where
 | non | bl (b:Bool) | int (i:Int) | str (x:Str) | byt (b:Array UInt8) | flt (b:UInt64) | ref (a:Addr) | ty (n:String)
 deriving DecidableEq
def RelV:V->Value->Prop
 | .non,u=>u=Value.none
 | .bl b,u=>u=Value.bool b
 | .int i,u=>∃ t,u=Value.int i t
 | .str x,u=>∃ t,u=Value.str x t
 | .byt b,u=>∃ t,u=Value.bytes b t
 | .flt b,u=>∃ t,u=Value.float b t
 | .ref a,u=>u=Value.ref a
 | .ty n,u=>u=Value.type n
abbrev Vals:List V->List Value->Prop:=Paired RelV
theorem Vals.length {xs:List V} {us:List Value} (r:Vals xs us):xs.length=us.length:=Paired.length r
theorem Vals.get:∀ {xs:List V} {us:List Value} {i:Nat} {x:V},Vals xs us->xs[i]?=some x->∃ u,us[i]?=some u /\ RelV x u
 | _,_,_,_,.nil,e=>by simp at e
 | _,_,0,_,.cons r _,e=>by simp at e;subst e;exact ⟨_,rfl,r⟩
 | _,_,i + 1,x,.cons _ t,e=>by
   obtain ⟨u,h1,h2⟩:=Vals.get (i:=i) (x:=x) t (by simpa using e)
   exact ⟨u,by simpa using h1,h2⟩
theorem Vals.set {x:V} {u:Value} (r:RelV x u):∀ {xs:List V} {us:List Value} (i:Nat),Vals xs us->Vals (xs.set i x) (us.set i u)
 | _,_,_,.nil=>.nil
 | _,_,0,.cons _ t=>.cons r t
 | _,_,i + 1,.cons q t=>.cons q (Vals.set r i t)
theorem Vals.append:∀ {xs ys:List V} {us ws:List Value},Vals xs us->Vals ys ws->Vals (xs ++ ys) (us ++ ws)
 | _,_,_,_,.nil,s=>s
 | _,_,_,_,.cons r t,s=>.cons r (Vals.append t s)
theorem Vals.take:∀ {xs:List V} {us:List Value} (n:Nat),Vals xs us->Vals (xs.take n) (us.take n)
 | _,_,0,_=>.nil
 | _,_,_ + 1,.nil=>.nil
 | _,_,n + 1,.cons r t=>.cons r (Vals.take n t)
theorem Vals.drop:∀ {xs:List V} {us:List Value} (n:Nat),Vals xs us->Vals (xs.drop n) (us.drop n)
 | _,_,0,r=>r
 | _,_,_ + 1,.nil=>.nil
 | _,_,n + 1,.cons _ t=>Vals.drop n t
def RelO:Option V->Option Value->Prop
 | some v,some u=>RelV v u
 | none,none=>True
 | _,_=>False
def KV {κ:Type}:List (κ × V)->List (κ × Value)->Prop:=Paired fun (p:κ × V) (q:κ × Value)=>p.1=q.1 /\ RelV p.2 q.2
def kV:Key->V
 | .inl i=>.int i
 | .inr x=>.str x
inductive HO where
 | lst (xs:List V)
 | tup (xs:List V)
 | dK (kvs:List (Key × V)) | dT (kvs:List (List Key × V))
 | set (S:Int->Bool) (n:Nat)
 | ins (C dx:Addr) (fs:List (Str × V))
 | own (x:Addr)
 | xd (fs:List (Str × V))
 | met (f x:Addr)
 | rng (lo hi:Int)
 | frz (o:Obj) (u:HO)
 | tbl (ps:Array Value)
 | ext (φ:Heap->Prop)
abbrev Hp:=Addr->Option HO
def upd (H:Hp) (a:Addr) (o:HO):Hp:=fun b=>if b=a then some o else H b
theorem upd_same {H:Hp} {a:Addr} {o:HO}:upd H a o a=some o:=by unfold upd;rw [if_pos rfl]
theorem upd_ne {H:Hp} {a b:Addr} {o:HO} (h:b ≠ a):upd H a o b=H b:=by unfold upd;rw [if_neg h]
theorem ne_of_none {H:Hp} {a b:Addr} {o:HO} (h:H a=some o) (h':H b=none):a ≠ b:=by
 intro e;subst e;rw [h] at h';cases h'
section
variable (P:Program) (w:World)
def ObjOk (H:Hp) (h:Heap) (a:Addr):HO->Prop
 | .lst xs=>xs.length<=sizeLine /\ ∃ (its:List Value) (n:Nat),Vals xs its /\ h.get? a=some { cls:=.type "list",data:=.seq its.toArray n }
 | .tup xs=>xs.length<=sizeLine /\ ∃ its:List Value,Vals xs its /\ IsTup h a its.toArray
 | .dK kvs=>kvs.length<=sizeLine /\ (a == sysModules)=false /\ ∃ vs,KV kvs vs /\ h.DictOf (mixKind P w) a vs
 | .dT kvs=>kvs.length<=sizeLine /\ (a == sysModules)=false /\ ∃ xs:List (List Key × Addr × Value),
  Paired (fun (p:List Key × V) (q:List Key × Addr × Value)=>p.1=q.1 /\ H q.2.1=some (.tup (p.1.map kV)) /\ RelV p.2 q.2.2) kvs xs /\
  ∃ o es ep,h.get? a=some o /\ o.ExactDict /\ o.data=.dict es ep /\ es.toList=xs.map (entryOfKey (tupleKind (mixKind P w))) /\ (xs.map (·.1)).Nodup
 | .set S n=>h.SetOf (intKind P w) a S n
 | .ins C dx fs=>H dx=some (.own a) /\ fs.length<=1000 /\ dx ≠ a /\ h.get? a=some (PySem.W.instObj C dx) /\
  ∃ mA,h.Ns1 dx mA /\ (∀ f,RelO (fs.lookup f) (mA f)) /\ PySem.Within mA (fs.map (·.1))
 | .own _=>∃ o,h.get? a=some o
 | .xd fs=>∃ mA,h.Ns1 a mA /\ ∀ f,RelO (fs.lookup f) (mA f)
 | .rng lo hi=>∃ t u v,h.get? a=some { cls:=.type "range",data:=.fields #[.int lo t,.int hi u,.int 1 v] }
 | .frz o u=>h.get? a=some o /\ ObjOk H h a u
 | .tbl ps=>h.get? a=some { cls:=.none,data:=.fields ps }
 | .met f x=>h.get? a=some (PySem.W.methodObj (.ref f) (.ref x))
 | .ext φ=>φ h /\ (∃ o,h.get? a=some o) /\ ∀ h1 h2:Heap,φ h1->(∀ o,h1.get? a=some o->h2.get? a=some o)->φ h2
def HOk (H:Hp) (h:Heap):Prop:=∀ a o,H a=some o->ObjOk P w H h a o
end
section
variable {P:Program} {w:World} {H H':Hp} {h h':Heap} {a:Addr} {o:HO}
theorem ObjOk.lt (x:ObjOk P w H h a o):a < h.objs.size:=by
 cases o with
 | lst xs=>obtain ⟨_,_,_,_,e⟩:=x;exact Heap.lt_size e
 | tup xs=>obtain ⟨_,_,_,p⟩:=x;exact p.lt
 | dK kvs=>obtain ⟨_,_,_,_,o,_,_,e,_⟩:=x;exact Heap.lt_size e
 | dT kvs=>obtain ⟨_,_,_,_,o,_,_,e,_⟩:=x;exact Heap.lt_size e
 | set S n=>obtain ⟨o,_,_,_,e,_⟩:=x;exact Heap.lt_size e
 | ins C dx fs=>obtain ⟨_,_,_,e,_⟩:=x;exact Heap.lt_size e
 | own y=>obtain ⟨_,e⟩:=x;exact Heap.lt_size e
 | xd fs=>obtain ⟨_,⟨_,_,_,e,_⟩,_⟩:=x;exact Heap.lt_size e
 | rng lo hi=>obtain ⟨_,_,_,e⟩:=x;exact Heap.lt_size e
 | frz ob u=>obtain ⟨e,_⟩:=x;exact Heap.lt_size e
 | tbl ps=>exact Heap.lt_size (show h.get? a=some _ from x)
 | met f y=>exact Heap.lt_size (show h.get? a=some _ from x)
 | ext φ=>obtain ⟨_,⟨_,e⟩,_⟩:=x;exact Heap.lt_size e
theorem Paired.mapP {α β:Type} {F G:α->β->Prop}:∀ {l₁:List α} {l₂:List β},Paired F l₁ l₂->(∀ a b,F a b->G a b)->Paired G l₁ l₂
 | _,_,.nil,_=>.nil
 | _,_,.cons r t,f=>.cons (f _ _ r) (Paired.mapP t f)
theorem ObjOk.stay (x:ObjOk P w H h a o) (k:∀ b u,(b=a \/ H b=some (.own a))->h.get? b=some u->h'.get? b=some u)
 (ho:∀ b,H b=some (.own a)->H' b=some (.own a)) (ht:∀ b xs,H b=some (.tup xs)->H' b=some (.tup xs)):ObjOk P w H' h' a o:=by
 induction o with
 | lst xs=>obtain ⟨z,its,n,r,e⟩:=x;exact ⟨z,its,n,r,k _ _ (.inl rfl) e⟩
 | tup xs=>obtain ⟨z,its,r,ob,e,c⟩:=x;exact ⟨z,its,r,ob,k _ _ (.inl rfl) e,c⟩
 | dK kvs=>obtain ⟨z,y,vs,r,ob,es,ep,e,c⟩:=x;exact ⟨z,y,vs,r,ob,es,ep,k _ _ (.inl rfl) e,c⟩
 | dT kvs =>
   obtain ⟨z,y,xs,r,ob,es,ep,e,c⟩:=x
   exact ⟨z,y,xs,Paired.mapP r fun p q z=>⟨z.1,ht _ _ z.2.1,z.2.2⟩,ob,es,ep,k _ _ (.inl rfl) e,c⟩
 | set S n=>obtain ⟨ob,es,ep,t,e,c⟩:=x;exact ⟨ob,es,ep,t,k _ _ (.inl rfl) e,c⟩
 | ins C dx fs =>
   obtain ⟨d,z,ne,e,mA,⟨od,es,ep,e2,c⟩,r⟩:=x
   exact ⟨ho _ d,z,ne,k _ _ (.inl rfl) e,mA,⟨od,es,ep,k _ _ (.inr d) e2,c⟩,r⟩
 | own y=>obtain ⟨ob,e⟩:=x;exact ⟨ob,k _ _ (.inl rfl) e⟩
 | xd fs=>obtain ⟨mA,⟨od,es,ep,e,c⟩,r⟩:=x;exact ⟨mA,⟨od,es,ep,k _ _ (.inl rfl) e,c⟩,r⟩
 | rng lo hi=>obtain ⟨t,u,v,e⟩:=x;exact ⟨t,u,v,k _ _ (.inl rfl) e⟩
 | frz ob u ih=>obtain ⟨e,q⟩:=x;exact ⟨k _ _ (.inl rfl) e,ih q⟩
 | tbl ps =>
   have e:h.get? a=some { cls:=.none,data:=.fields ps }:=x
   show h'.get? a=some { cls:=.none,data:=.fields ps }
   exact k a _ (.inl rfl) e
 | met f y =>
   have e:h.get? a=some (PySem.W.methodObj (.ref f) (.ref y)):=x
   show h'.get? a=some (PySem.W.methodObj (.ref f) (.ref y))
   exact k a _ (.inl rfl) e
 | ext φ=>obtain ⟨p,⟨o,e⟩,st⟩:=x;exact ⟨st _ _ p fun o q=>k _ _ (.inl rfl) q,⟨o,k _ _ (.inl rfl) e⟩,st⟩
theorem HOk.lt (x:HOk P w H h) (e:H a=some o):a < h.objs.size:=(x a o e).lt
theorem HOk.fresh (x:HOk P w H h) (e:h.objs.size<=a):H a=none:=by
 cases q:H a with
 | none=>rfl
 | some u=>exact absurd (Nat.lt_of_lt_of_le (x.lt q) e) (Nat.lt_irrefl _)
theorem HOk.kept (x:HOk P w H h) (k:∀ b u,h.get? b=some u->h'.get? b=some u):HOk P w H h':=fun a o e =>
 (x a o e).stay (fun b u _ q=>k b u q) (fun _ q=>q) fun _ _ q=>q
theorem HOk.laid (x:HOk P w H h) (k:∀ b u,h.get? b=some u->h'.get? b=some u) (hp:h.objs.size<=a) (new:ObjOk P w (upd H a o) h' a o):HOk P w (upd H a o) h':=fun b u e=>by
 have hn:=x.fresh hp
 by_cases hb:b=a
 ·subst hb;rw [upd_same] at e;cases e;exact new
 ·rw [upd_ne hb] at e
  exact (x b u e).stay (fun c v _ q=>k c v q) (fun c q=>by rw [upd_ne (ne_of_none q hn)];exact q) fun c xs q=>by rw [upd_ne (ne_of_none q hn)];exact q
end
def Rd (H:Hp) (a:Addr) (u:HO):Prop:=H a=some u \/ ∃ o,H a=some (.frz o u)
theorem Rd.ok {P:Program} {w:World} {H:Hp} {h:Heap} {a:Addr} {u:HO} (r:Rd H a u) (x:HOk P w H h):ObjOk P w H h a u:=by
 rcases r with r | ⟨o,r⟩
 ·exact x a u r
 ·obtain ⟨_,q⟩:=x a _ r
  exact q
def Mut:Option HO->Prop
 | some (.lst _)=>True
 | some (.dK _)=>True
 | some (.dT _)=>True
 | some (.set _ _)=>True
 | some (.ins _ _ _)=>True
 | some (.ext _)=>True
 | _=>False
section
variable {P:Program} {w:World} {H:Hp} {h h':Heap} {x e:Addr} {o':HO}
theorem HOk.write (ok:HOk P w H h) (mu:Mut (H x)) (he:e=x \/ H e=some (.own x)) (k:∀ b u,b ≠ e->h.get? b=some u->h'.get? b=some u) (heo:∃ u,h'.get? e=some u)
 (new:ObjOk P w (upd H x o') h' x o'):HOk P w (upd H x o') h':=fun b u q=>by
 have nown:∀ c y,H c=some (.own y)->c ≠ x:=fun c y r z=>by subst z;rw [r] at mu;exact mu
 have ntup:∀ c xs,H c=some (.tup xs)->c ≠ x:=fun c xs r z=>by subst z;rw [r] at mu;exact mu
 by_cases hb:b=x
 ·subst hb;rw [upd_same] at q;cases q;exact new
 ·rw [upd_ne hb] at q
  by_cases hbe:b=e
  ·have q':H b=some (.own x):=by
    rcases he with z | z
    ·exact absurd (hbe.trans z) hb
    ·rw [hbe];exact z
   rw [q] at q';cases q'
   obtain ⟨v,hv⟩:=heo
   exact ⟨v,by rw [hbe];exact hv⟩
  ·refine (ok b u q).stay (fun c v hc r=>k c v ?_ r) (fun c r=>by rw [upd_ne (nown c b r)];exact r) fun c xs r=>by rw [upd_ne (ntup c xs r)];exact r
   rcases hc with rfl | hc
   ·exact hbe
   ·rintro rfl
    rcases he with z | z
    ·exact nown c b hc z
    ·rw [hc] at z;cases z;exact hb rfl
end
structure Un (fs ex:List Addr) (H H':Hp) (h h':Heap):Prop where
 keep:∀ b o,h.get? b=some o->H b=none->b ∉ fs->b ∉ ex->h'.get? b=some o
 slot:∀ b o,h.get? b=some o->H b=none->b ∈ fs->b ∉ ex->∃ sl,h'.get? b=some { o with slots:=sl }
 free:∀ b o,h.get? b=some o->H b=none->b ∉ ex->H' b=none
 there:∀ b o,h.get? b=some o->b ∉ ex->∃ o',h'.get? b=some o'
 tups:∀ b xs,H b=some (.tup xs)->H' b=some (.tup xs)
 frzs:∀ b o u,H b=some (.frz o u)->H' b=some (.frz o u)
 tbls:∀ b ps,H b=some (.tbl ps)->∃ more,H' b=some (.tbl (ps ++ more))
section
variable {fs fs' ex ex':List Addr} {H H1 H2:Hp} {h h1 h2 h':Heap} {a x e:Addr} {o:HO}
theorem Un.any (u:Un fs ex H H1 h h1) {b:Addr} {ob:Obj} (q:h.get? b=some ob) (n:H b=none) (hx:b ∉ ex):∃ sl,h1.get? b=some { ob with slots:=sl }:=by
 by_cases hb:b ∈ fs
 ·exact u.slot b ob q n hb hx
 ·exact ⟨ob.slots,u.keep b ob q n hb hx⟩
theorem Un.kept (k:∀ b u,h.get? b=some u->h'.get? b=some u):Un fs ex H H h h' :=
 ⟨fun b ob q _ _ _=>k b ob q,fun b ob q _ _ _=>⟨ob.slots,k b ob q⟩,fun _ _ _ n _=>n,fun b ob q _=>⟨ob,k b ob q⟩,fun _ _ q=>q,fun _ _ _ q=>q,fun _ ps q=>⟨#[],by rw [q];simp⟩⟩
theorem Un.refl:Un fs ex H H h h:=Un.kept fun _ _ q=>q
theorem Un.laid (k:∀ b u,h.get? b=some u->h'.get? b=some u) (hp:h.objs.size<=a) (hn:H a=none):Un fs ex H (upd H a o) h h' where
 keep:=fun b u q _ _ _=>k b u q
 slot:=fun b u q _ _ _=>⟨u.slots,k b u q⟩
 free:=fun b u q n _=>by rw [upd_ne (Nat.ne_of_lt (Nat.lt_of_lt_of_le (Heap.lt_size q) hp))];exact n
 there:=fun b u q _=>⟨u,k b u q⟩
 tups:=fun b xs q=>by rw [upd_ne (ne_of_none q hn)];exact q
 frzs:=fun b u xs q=>by rw [upd_ne (ne_of_none q hn)];exact q
 tbls:=fun b ps q=>⟨#[],by rw [upd_ne (ne_of_none q hn),q];simp⟩
theorem Un.write (mu:Mut (H x)) (he:e=x \/ H e=some (.own x)) (k:∀ b u,b ≠ e->h.get? b=some u->h'.get? b=some u) (heo:∃ u,h'.get? e=some u):Un fs ex H (upd H x o) h h':=by
 have hx:∀ b,H b=none->b ≠ x:=fun b n z=>by subst z;rw [n] at mu;exact mu
 have hb:∀ b,H b=none->b ≠ e:=fun b n z=>by
  subst z
  rcases he with r | r
  ·exact hx b n r
  ·rw [n] at r;cases r
 have hm:∀ b u,H b=some u->¬ Mut (some u)->b ≠ x:=fun b u q nm z=>by subst z;rw [q] at mu;exact nm mu
 refine ⟨fun b u q n _ _=>k b u (hb b n) q,fun b u q n _ _=>⟨u.slots,k b u (hb b n) q⟩,fun b u q n _=>by rw [upd_ne (hx b n)];exact n,fun b u q _=>?_,
  fun b xs q=>by rw [upd_ne (hm b _ q fun z=>z)];exact q,fun b u xs q=>by rw [upd_ne (hm b _ q fun z=>z)];exact q,fun b ps q=>⟨#[],by rw [upd_ne (hm b _ q fun z=>z),q];simp⟩⟩
 by_cases hbe:b=e
 ·subst hbe;exact heo
 ·exact ⟨u,k b u hbe q⟩
end
def trk (h:Heap) (H:Hp):List Addr:=(List.range h.objs.size).filter fun a=>(H a).isSome
def hidT (h:Heap) (H:Hp):Heap:=PySem.W.hideAll h (trk h H)
theorem hidT_size (h:Heap) (H:Hp):(hidT h H).objs.size=h.objs.size:=PySem.W.hideAll_size _ _
theorem hidT_get {h:Heap} {H:Hp} {b:Addr} {o:Obj} (e:h.get? b=some o) (n:H b=none):(hidT h H).get? b=some o :=
 PySem.W.hideAll_get _ e fun hm=>by
  have q:(H b).isSome=true:=(List.mem_filter.mp hm).2
  rw [n] at q;simp at q
theorem of_hidT {h:Heap} {H:Hp} {b:Addr} {o:Obj} (e:(hidT h H).get? b=some o):h.get? b=some o /\ H b=none:=by
 have e':h.get? b=some o:=PySem.W.of_hideAll (trk h H) e
 refine ⟨e',?_⟩
 cases q:H b with
 | none=>rfl
 | some x =>
   have hm:b ∈ trk h H:=List.mem_filter.mpr ⟨List.mem_range.mpr (Heap.lt_size e'),by simp [q]⟩
   have z:(hidT h H).get? b=none:=PySem.W.hideAll_none (trk h H) hm
   rw [z] at e;cases e
end L2
namespace L2
open PySem PySem.Spec PyProof.Rows
structure Mod (K:PySem.W.Frag) (mg:Str->Option Value) (base:Heap):Prop where
 kin:K.In base
 glob:base.Ns mainGlobals mg
 blt:∃ mb,base.Ns builtinsNs mb /\ ∀ x:Str,x ≠ "__name__"->mb x=bootBuiltins x
 nolimit:base.NoLimit /\ base.NoDigits
structure Cx where
 prog:Program
 w:World
 K:PySem.W.Frag
 mg:Str->Option Value
 base:Heap
 A:Around
 N:List Str
 s₀:Shared
 H₀:Hp
 env:Env
 outer:List Env
 stack:List Env
 ex:List Addr
 fn:Str->Bool
 calm:Bool
 pn:List (Addr × Obj)
 xe:Value->Shared->Prop
def frs (l:List Env):List Addr:=l.filterMap (·.frame)
abbrev Cx.fs (X:Cx):List Addr:=frs X.outer
def Vis (sc:Scope) (x:Str):Prop:=sc.names.lookup x=some .local \/ sc.names.lookup x=some .cell \/ sc.names.lookup x=some .free
def Loc (sc:Scope) (x:Str):Prop:=sc.names.lookup x=some .local \/ sc.names.lookup x=some .cell
def Look (env:Env) (h:Heap) (m:Str->Option Value) (x:Str) (u:Value):Prop :=
 (env.kindOf x=some .local /\ m x=some u) \/ ((env.kindOf x=some .cell \/ env.kindOf x=some .free) /\ ∃ c,env.cells.lookup x=some c /\ h.IsCell c (some u))
structure Cx.Ok (X:Cx):Prop where
 mod:Mod X.K X.mg X.base
 kind:X.env.scope.kind=.function
 glob:X.env.globals=mainGlobals
 blt:X.env.builtins=builtinsNs
 above:X.s₀.heap.objs.size<=X.env.locals
 inj:∀ x y c,X.env.cells.lookup x=some c->X.env.cells.lookup y=some c->x=y
 has:∀ x,(X.env.kindOf x=some .cell \/ X.env.kindOf x=some .free)->∃ c,X.env.cells.lookup x=some c
 cab:∀ x c,X.fn x=true->X.env.cells.lookup x=some c->X.s₀.heap.objs.size<=c
 hd:X.calm=true->X.A.handled=none
 frames:X.A.frames=some X.stack
 stk:X.stack=X.outer \/ (X.stack=X.env :: X.outer /\ X.env.frame=some X.env.locals)
 exf:∀ b ∈ X.ex,b ≠ X.env.locals /\ ∀ x c,X.env.cells.lookup x=some c->c ≠ b
 bs:∀ b o,X.base.get? b=some o->X.s₀.heap.get? b=some o /\ X.H₀ b=none
 bsz:X.base.objs.size<=X.s₀.heap.objs.size
 noex:∀ b o,X.base.get? b=some o->b ∉ X.ex
 exfs:∀ b ∈ X.ex,b ∉ X.fs
 funs:X.s₀.heap.FunFrames X.base X.outer
 frf:∀ b ∈ X.fs,X.H₀ b=none
structure Inv (X:Cx) (pins:List (Addr × Obj)) (σ:List (Option V)) (H:Hp) (s:Shared):Prop where
 ok:X.Ok
 os:s.os=X.s₀.os
 bare:AllBare s.gens
 base:Un X.fs X.ex X.H₀ H X.s₀.heap s.heap
 loc:∃ m,s.heap.Ns X.env.locals m /\ ∀ (i:Nat) (x:Str) (v:V),X.N[i]?=some x->σ[i]?=some (some v)->Vis X.env.scope x->∃ u,RelV v u /\ Look X.env s.heap m x u
 cell:∀ x c,X.env.cells.lookup x=some c->∃ v,s.heap.IsCell c v
 free:H X.env.locals=none
 freeC:∀ x c,X.env.cells.lookup x=some c->H c=none
 pin:∀ p ∈ X.pn ++ pins,s.heap.get? p.1=some p.2 /\ H p.1=none /\ p.1 ≠ X.env.locals /\ p.1 ∉ X.fs /\ ∀ v,p.2.data ≠ .cell v
 hok:HOk X.prog X.w H s.heap
 len:σ.length=X.N.length
section
variable {X:Cx} {pins:List (Addr × Obj)} {σ:List (Option V)} {H H':Hp} {s:Shared} {h':Heap}
theorem Cx.Ok.nofr (ok:X.Ok) {b:Addr} {o:Obj} (e:X.base.get? b=some o):b ∉ X.fs:=fun hb=>by
 have:=(ok.funs.mem hb).1
 rw [e] at this;cases this
theorem Inv.bs (I:Inv X pins σ H s):∀ b o,X.base.get? b=some o->s.heap.get? b=some o /\ H b=none:=fun b o e =>
 ⟨I.base.keep b o (I.ok.bs b o e).1 (I.ok.bs b o e).2 (I.ok.nofr e) (I.ok.noex b o e),I.base.free b o (I.ok.bs b o e).1 (I.ok.bs b o e).2 (I.ok.noex b o e)⟩
theorem Inv.bk (I:Inv X pins σ H s):∀ b o,X.base.get? b=some o->s.heap.get? b=some o:=fun b o e=>(I.bs b o e).1
theorem Inv.mod (I:Inv X pins σ H s):Mod X.K X.mg X.base:=I.ok.mod
theorem Inv.kIn (I:Inv X pins σ H s):X.K.In s.heap:=I.ok.mod.kin.keeps I.bk
theorem Inv.lt (I:Inv X pins σ H s):X.env.locals < s.heap.objs.size:=let ⟨_,hn,_⟩:=I.loc;hn.lt
theorem Inv.sz (I:Inv X pins σ H s):X.s₀.heap.objs.size<=s.heap.objs.size:=Nat.le_trans I.ok.above (Nat.le_of_lt I.lt)
theorem Inv.nofs (I:Inv X pins σ H s) {a:Addr} (h:s.heap.objs.size<=a):a ∉ X.fs:=fun hb=>by
 obtain ⟨_,o,ho,_⟩:=I.ok.funs.mem hb
 exact absurd (Nat.lt_of_lt_of_le (Heap.lt_size ho) (Nat.le_trans I.sz h)) (Nat.lt_irrefl _)
theorem Inv.cne (I:Inv X pins σ H s):∀ x c,X.env.cells.lookup x=some c->c ≠ X.env.locals:=fun x c e z=>by
 obtain ⟨v,o,ho,hd⟩:=I.cell x c e
 obtain ⟨m,⟨o',es,ep,ho',hd',_⟩,_⟩:=I.loc
 rw [z,ho'] at ho;cases ho;rw [hd'] at hd;cases hd
theorem Inv.funs (I:Inv X pins σ H s):s.heap.FunFrames X.base X.outer:=by
 have all:∀ (l:List Env),(∀ b ∈ frs l,b ∈ X.fs)->X.s₀.heap.FunFrames X.base l->s.heap.FunFrames X.base l:=by
  intro l
  induction l with
  | nil=>intro _ _;trivial
  | cons env r ih =>
    intro hs hl
    obtain ⟨hk,⟨L,o,hf,hn,ho,hd⟩,hr⟩:=hl
    have hL:L ∈ X.fs:=hs L (by unfold frs;rw [List.filterMap_cons,hf];exact List.mem_cons_self)
    obtain ⟨sl,e⟩:=I.base.slot L o ho (I.ok.frf L hL) hL fun z=>I.ok.exfs L z hL
    exact ⟨hk,⟨L,_,hf,hn,e,hd⟩,ih (fun b hb=>hs b (by unfold frs;rw [List.filterMap_cons,hf];exact List.mem_cons_of_mem _ hb)) hr⟩
 exact all X.outer (fun _ hb=>hb) I.ok.funs
theorem Inv.stack (I:Inv X pins σ H s):s.heap.FunFrames X.base X.stack:=by
 rcases I.ok.stk with e | ⟨e,hf⟩
 ·rw [e];exact I.funs
 ·rw [e]
  obtain ⟨m,hn,_⟩:=I.loc
  refine .cons (by rw [I.ok.kind];decide) hf hn ?_ I.funs
  exact Heap.get?_none_of_le (Nat.le_trans I.ok.bsz I.ok.above)
theorem Inv.stkSub (I:Inv X pins σ H s):∀ b ∈ frs X.stack,b ∈ X.env.locals :: X.fs:=fun b hb=>by
 rcases I.ok.stk with e | ⟨e,hf⟩
 ·rw [e] at hb;exact List.mem_cons_of_mem _ hb
 ·rw [e] at hb
  unfold frs at hb
  rw [List.filterMap_cons,hf] at hb
  exact hb
theorem Inv.stkFree (I:Inv X pins σ H s):∀ b ∈ frs X.stack,H b=none:=fun b hb=>by
 rcases List.mem_cons.mp (I.stkSub b hb) with e | hb
 ·rw [e];exact I.free
 ·obtain ⟨_,o,ho,_⟩:=I.ok.funs.mem hb
  exact I.base.free b o ho (I.ok.frf b hb) fun z=>I.ok.exfs b z hb
theorem Inv.step {g':Array GenState} {t':Nat} {d':Drawn} {ch:List Addr} (I:Inv X pins σ H s)
 (hch:∀ b ∈ ch,(b ∈ X.ex \/ X.s₀.heap.objs.size<=b) /\ b ≠ X.env.locals /\ (∀ x c,X.env.cells.lookup x=some c->c ≠ b) /\ ∀ p ∈ X.pn ++ pins,p.1 ≠ b)
 (keep:∀ b o,b ≠ X.env.locals->b ∉ X.fs->b ∉ ch->s.heap.get? b=some o->H b=none->h'.get? b=some o)
 (slot:∀ b o,b ≠ X.env.locals->b ∈ X.fs->b ∉ ch->s.heap.get? b=some o->H b=none->∃ sl,h'.get? b=some { o with slots:=sl }) (free:∀ b o,b ∉ ch->s.heap.get? b=some o->H b=none->H' b=none)
 (there:∀ b o,b ∉ ch->s.heap.get? b=some o->∃ o',h'.get? b=some o')
 (tups:∀ b xs,H b=some (.tup xs)->H' b=some (.tup xs)) (frzs:∀ b o u,H b=some (.frz o u)->H' b=some (.frz o u)) (tbls:∀ b ps,H b=some (.tbl ps)->∃ more,H' b=some (.tbl (ps ++ more)))
 (ns:∀ m,s.heap.Ns X.env.locals m->h'.Ns X.env.locals m) (hok:HOk X.prog X.w H' h') (hg:AllBare g') :
 Inv X pins σ H' { s with heap:=h',gens:=g',drawn:=d',toks:=t' }:=by
 have neL:∀ b o,X.s₀.heap.get? b=some o->b ≠ X.env.locals:=fun b o e=>Nat.ne_of_lt (Nat.lt_of_lt_of_le (Heap.lt_size e) I.ok.above)
 have neC:∀ b o,X.s₀.heap.get? b=some o->b ∉ X.ex->b ∉ ch:=fun b o e hx hb=>by
  rcases (hch b hb).1 with z | z
  ·exact hx z
  ·exact absurd (Nat.lt_of_lt_of_le (Heap.lt_size e) z) (Nat.lt_irrefl _)
 have cellK:∀ x c,X.env.cells.lookup x=some c->∀ v,s.heap.IsCell c v->h'.IsCell c v:=fun x c e v ⟨o,ho,hd⟩=>by
  have nch:c ∉ ch:=fun z=>(hch c z).2.2.1 x c e rfl
  by_cases hc:c ∈ X.fs
  ·obtain ⟨sl,q⟩:=slot c o (I.cne x c e) hc nch ho (I.freeC x c e)
   exact ⟨_,q,hd⟩
  ·exact ⟨o,keep c o (I.cne x c e) hc nch ho (I.freeC x c e),hd⟩
 refine ⟨I.ok,I.os,hg,⟨fun b o e n hb hx=>?_,fun b o e n hb hx=>?_,fun b o e n hx=>?_,fun b o e hx=>?_,fun b xs e=>tups b xs (I.base.tups b xs e),fun b o xs e=>frzs b o xs (I.base.frzs b o xs e),fun b ps e=>?_⟩,?_,fun x c e=>?_,?_,fun x c e=>?_,fun p hp=>?_,hok,I.len⟩
 ·exact keep b o (neL b o e) hb (neC b o e hx) (I.base.keep b o e n hb hx) (I.base.free b o e n hx)
 ·obtain ⟨sl,e1⟩:=I.base.slot b o e n hb hx
  obtain ⟨sl',e2⟩:=slot b _ (neL b o e) hb (neC b o e hx) e1 (I.base.free b o e n hx)
  exact ⟨sl',e2⟩
 ·obtain ⟨o',e1⟩:=I.base.there b o e hx
  exact free b o' (neC b o e hx) e1 (I.base.free b o e n hx)
 ·obtain ⟨o',e1⟩:=I.base.there b o e hx
  exact there b o' (neC b o e hx) e1
 ·obtain ⟨m1,e1⟩:=I.base.tbls b ps e
  obtain ⟨m2,e2⟩:=tbls b _ e1
  exact ⟨m1 ++ m2,by rw [e2,Array.append_assoc]⟩
 ·obtain ⟨m,hn,hl⟩:=I.loc
  refine ⟨m,ns m hn,fun i x v e1 e2 e3=>?_⟩
  obtain ⟨u,r,l⟩:=hl i x v e1 e2 e3
  refine ⟨u,r,?_⟩
  rcases l with l | ⟨k,c,e,z⟩
  ·exact .inl l
  ·exact .inr ⟨k,c,e,cellK x c e _ z⟩
 ·obtain ⟨v,z⟩:=I.cell x c e
  exact ⟨v,cellK x c e v z⟩
 ·obtain ⟨m,⟨o,_,_,ho,_⟩,_⟩:=I.loc
  exact free _ o (fun z=>(hch _ z).2.1 rfl) ho I.free
 ·obtain ⟨v,o,ho,hd⟩:=I.cell x c e
  exact free c o (fun z=>(hch c z).2.2.1 x c e rfl) ho (I.freeC x c e)
 ·obtain ⟨e,n,ne,nf,d⟩:=I.pin p hp
  have nch:p.1 ∉ ch:=fun z=>(hch p.1 z).2.2.2 p hp rfl
  exact ⟨keep p.1 p.2 ne nf nch e n,free p.1 p.2 nch e n,ne,nf,d⟩
theorem Inv.un {t':Nat} (I:Inv X pins σ H s) (u:Un X.fs [] H H' s.heap h') (hok:HOk X.prog X.w H' h'):Inv X pins σ H' { s with heap:=h',toks:=t' }:=by
 obtain ⟨m,⟨o,es,ep,ho,r⟩,_⟩:=id I.loc
 obtain ⟨sl,hL⟩:=u.any ho I.free (by simp)
 exact I.step (g':=s.gens) (d':=s.drawn) (ch:=[]) (fun _ z=>nomatch z) (fun b o _ hb _ e n=>u.keep b o e n hb (by simp)) (fun b o _ hb _ e n=>u.slot b o e n hb (by simp)) (fun b o _ e n=>u.free b o e n (by simp)) (fun b o _ e=>u.there b o e (by simp)) u.tups u.frzs u.tbls (fun m' hm=>by
  obtain ⟨o',es',ep',ho',r'⟩:=hm
  rw [ho] at ho';cases ho'
  exact ⟨_,es',ep',hL,r'⟩) hok I.bare
theorem Inv.call {g':Array GenState} {t':Nat} {d':Drawn} {ch:List Addr} (I:Inv X pins σ H s) (u:Un (frs X.stack) ch H H' s.heap h') (hok:HOk X.prog X.w H' h') (hg:AllBare g')
 (hch:∀ b ∈ ch,(b ∈ X.ex \/ X.s₀.heap.objs.size<=b) /\ b ≠ X.env.locals /\ (∀ x c,X.env.cells.lookup x=some c->c ≠ b) /\ ∀ p ∈ X.pn ++ pins,p.1 ≠ b) :
 Inv X pins σ H' { s with heap:=h',gens:=g',drawn:=d',toks:=t' }:=by
 obtain ⟨m,⟨o,es,ep,ho,r⟩,_⟩:=id I.loc
 obtain ⟨sl,hL⟩:=u.any ho I.free fun z=>(hch _ z).2.1 rfl
 exact I.step (ch:=ch) hch (fun b o hL hb hc e n=>u.keep b o e n (fun z=>(List.mem_cons.mp (I.stkSub b z)).elim hL hb) hc) (fun b o _ _ hc e n=>u.any e n hc) (fun b o hc e n=>u.free b o e n hc) (fun b o hc e=>u.there b o e hc) u.tups u.frzs u.tbls (fun m' hm=>by
  obtain ⟨o',es',ep',ho',r'⟩:=hm
  rw [ho] at ho';cases ho'
  exact ⟨_,es',ep',hL,r'⟩) hok hg
theorem Inv.turned {t':Nat} {it:Addr} (I:Inv X pins σ H s) (k:∀ b o,b ≠ it->s.heap.get? b=some o->h'.get? b=some o) (hn:H it=none) (hL:it ≠ X.env.locals)
 (h1:it ∈ X.ex \/ X.s₀.heap.objs.size<=it) (h2:∀ x c,X.env.cells.lookup x=some c->c ≠ it) (h3:∀ p ∈ X.pn ++ pins,p.1 ≠ it):Inv X pins σ H { s with heap:=h',toks:=t' }:=by
 have nit:∀ b u,H b=some u->b ≠ it:=fun b u e z=>by rw [z,hn] at e;cases e
 refine I.step (g':=s.gens) (d':=s.drawn) (ch:=[it]) (fun b hb=>?_) (fun b o _ _ hc e _=>k b o (fun z=>hc (by simp [z])) e) (fun b o _ _ hc e _=>⟨o.slots,k b o (fun z=>hc (by simp [z])) e⟩) (fun _ _ _ _ n=>n)
  (fun b o hc e=>⟨o,k b o (fun z=>hc (by simp [z])) e⟩) (fun _ _ e=>e) (fun _ _ _ e=>e) (fun b ps e=>⟨#[],by rw [e];simp⟩) (fun m hm=>?_) (fun b u e=>?_) I.bare
 ·have e:b=it:=by simpa using hb
  subst e
  exact ⟨h1,hL,h2,h3⟩
 ·obtain ⟨o,es,ep,ho,r⟩:=hm
  exact ⟨o,es,ep,k _ o (Ne.symm hL) ho,r⟩
 ·refine (I.hok b u e).stay (fun c v hc q=>k c v ?_ q) (fun _ q=>q) fun _ _ q=>q
  rcases hc with z | z
  ·rw [z];exact nit b u e
  ·exact nit c _ z
theorem Inv.tok (I:Inv X pins σ H s) (t:Nat):Inv X pins σ H { s with toks:=t }:=I.un (h':=s.heap) (t':=t) Un.refl I.hok
theorem Inv.kept {t':Nat} (I:Inv X pins σ H s) (k:∀ b u,s.heap.get? b=some u->h'.get? b=some u):Inv X pins σ H { s with heap:=h',toks:=t' }:=I.un (Un.kept k) (I.hok.kept k)
theorem Inv.laid {a:Addr} {o:HO} {t':Nat} (I:Inv X pins σ H s) (k:∀ b u,s.heap.get? b=some u->h'.get? b=some u) (hp:s.heap.objs.size<=a) (new:ObjOk X.prog X.w (upd H a o) h' a o) :
 Inv X pins σ (upd H a o) { s with heap:=h',toks:=t' }:=I.un (Un.laid k hp (I.hok.fresh hp)) (I.hok.laid k hp new)
theorem Inv.write {x e:Addr} {o:HO} {t':Nat} (I:Inv X pins σ H s) (mu:Mut (H x)) (he:e=x \/ H e=some (.own x)) (k:∀ b u,b ≠ e->s.heap.get? b=some u->h'.get? b=some u) (heo:∃ u,h'.get? e=some u)
 (new:ObjOk X.prog X.w (upd H x o) h' x o):Inv X pins σ (upd H x o) { s with heap:=h',toks:=t' }:=I.un (Un.write mu he k heo) (I.hok.write mu he k heo new)
theorem Inv.pins_of {pins':List (Addr × Obj)} (I:Inv X pins σ H s) (h:∀ p ∈ pins',s.heap.get? p.1=some p.2 /\ H p.1=none /\ p.1 ≠ X.env.locals /\ p.1 ∉ X.fs /\ ∀ v,p.2.data ≠ .cell v):Inv X pins' σ H s :=
 ⟨I.ok,I.os,I.bare,I.base,I.loc,I.cell,I.free,I.freeC,fun p hp=>(List.mem_append.mp hp).elim (fun z=>I.pin p (List.mem_append_left _ z)) (h p),I.hok,I.len⟩
theorem nodup_ix {N:List Str} (hN:N.Nodup) {i j:Nat} {x:Str} (a:N[i]?=some x) (b:N[j]?=some x):i=j:=by
 obtain ⟨h1,e1⟩:=List.getElem?_eq_some_iff.mp a
 obtain ⟨h2,e2⟩:=List.getElem?_eq_some_iff.mp b
 exact (List.getElem_inj hN).mp (e1.trans e2.symm)
theorem store_ok2 {M:Model} {A:Around} {E:Value->Shared->Prop} {i:Nat} {x:Str} {v:V} {u:Value} {Q:Unit->Shared->Prop} (I:Inv X pins σ H s) (hN:X.N.Nodup) (hi:X.N[i]?=some x) (hx:Loc X.env.scope x) (r:RelV v u)
 (h:∀ s',Inv X pins (σ.set i (some v)) H s'->(∃ a,Heap.SameBut a s.heap s'.heap /\ (a=X.env.locals \/ X.env.cells.lookup x=some a))->Q () s') (hf:X.fn x=true \/ X.env.scope.names.lookup x=some .local:=by first | exact .inl rfl | exact .inr rfl | assumption):wpAny M A (storeName X.env x u) Q E s:=by
 obtain ⟨m,hn,hl⟩:=id I.loc
 have hcls:(X.env.scope.kind == .class || (X.env.scope.kind == .module && X.env.locals != X.env.globals))=false:=by rw [I.ok.kind];rfl
 have hiσ:i < σ.length:=by rw [I.len];exact (List.getElem?_eq_some_iff.mp hi).1
 have cne:=I.cne
 have tracked:∀ {a:Addr} {h':Heap},(∃ o,s.heap.get? a=some o /\ H a=none)->Heap.SameBut a s.heap h'->HOk X.prog X.w H h':=fun {a h'} ha hs b ob e=>by
  obtain ⟨_,_,hfree⟩:=ha
  refine (I.hok b ob e).stay (fun c w' hc q=>(hs.2 c ?_).trans q) (fun _ q=>q) fun _ _ q=>q
  rintro rfl
  rcases hc with rfl | hc
  ·rw [hfree] at e;cases e
  ·rw [hfree] at hc;cases hc
 rcases hx with hk | hk
 ·refine wpAny_storeName_local hk hn (fun h' hn' hs=>?_) hcls
  obtain ⟨oL,_,_,hoL,_⟩:=id hn
  refine h _ ⟨I.ok,I.os,I.bare,⟨fun b o e n hb hx=>?_,fun b o e n hb hx=>?_,I.base.free,fun b o e hx=>?_,I.base.tups,I.base.frzs,I.base.tbls⟩,⟨_,hn',fun j y v' e1 e2 e3=>?_⟩,fun y c e=>?_,I.free,I.freeC,fun p hp=>?_,tracked ⟨oL,hoL,I.free⟩ hs,by simpa using I.len⟩ ⟨_,hs,.inl rfl⟩
  ·exact (hs.2 b (Nat.ne_of_lt (Nat.lt_of_lt_of_le (Heap.lt_size e) I.ok.above))).trans (I.base.keep b o e n hb hx)
  ·obtain ⟨sl,e1⟩:=I.base.slot b o e n hb hx
   exact ⟨sl,(hs.2 b (Nat.ne_of_lt (Nat.lt_of_lt_of_le (Heap.lt_size e) I.ok.above))).trans e1⟩
  ·obtain ⟨o',e1⟩:=I.base.there b o e hx
   exact ⟨o',(hs.2 b (Nat.ne_of_lt (Nat.lt_of_lt_of_le (Heap.lt_size e) I.ok.above))).trans e1⟩
  ·by_cases hj:j=i
   ·subst hj
    rw [hi] at e1;cases e1
    rw [List.getElem?_set_self hiσ] at e2
    cases e2
    exact ⟨u,r,.inl ⟨hk,by simp⟩⟩
   ·rw [List.getElem?_set_ne (Ne.symm hj)] at e2
    obtain ⟨u',r',q⟩:=hl j y v' e1 e2 e3
    refine ⟨u',r',?_⟩
    rcases q with ⟨k,e⟩ | ⟨k,c,e,z⟩
    ·refine .inl ⟨k,?_⟩
     have:y ≠ x:=fun e=>hj (nodup_ix hN e1 (e ▸ hi))
     simp [this,e]
    ·exact .inr ⟨k,c,e,z.sameBut hs (cne y c e)⟩
  ·obtain ⟨w',z⟩:=I.cell y c e
   exact ⟨w',z.sameBut hs (cne y c e)⟩
  ·obtain ⟨e,n,ne,nf,d⟩:=I.pin p hp
   exact ⟨(hs.2 p.1 ne).trans e,n,ne,nf,d⟩
 ·have hfn:X.fn x=true:=by
   rcases hf with z | z
   ·exact z
   ·rw [z] at hk;cases hk
  obtain ⟨c,hc⟩:=I.ok.has x (.inl hk)
  obtain ⟨w',z⟩:=I.cell x c hc
  refine wpAny_storeName_cell I.ok.kind hk hc z (fun h' hc' hs=>?_)
  obtain ⟨oc,hoc,hocd⟩:=id z
  refine h { s with heap:=h' } ⟨I.ok,I.os,I.bare,⟨fun b o e n hb hx=>?_,fun b o e n hb hx=>?_,I.base.free,fun b o e hx=>?_,I.base.tups,I.base.frzs,I.base.tbls⟩,⟨m,hn.sameBut hs (Ne.symm (cne x c hc)),fun j y v' e1 e2 e3=>?_⟩,fun y c' e=>?_,I.free,I.freeC,fun p hp=>?_,tracked ⟨oc,hoc,I.freeC x c hc⟩ hs,by simpa using I.len⟩ ⟨c,hs,.inr hc⟩
  ·exact (hs.2 b (Nat.ne_of_lt (Nat.lt_of_lt_of_le (Heap.lt_size e) (I.ok.cab x c hfn hc)))).trans (I.base.keep b o e n hb hx)
  ·obtain ⟨sl,e1⟩:=I.base.slot b o e n hb hx
   exact ⟨sl,(hs.2 b (Nat.ne_of_lt (Nat.lt_of_lt_of_le (Heap.lt_size e) (I.ok.cab x c hfn hc)))).trans e1⟩
  ·obtain ⟨o',e1⟩:=I.base.there b o e hx
   exact ⟨o',(hs.2 b (Nat.ne_of_lt (Nat.lt_of_lt_of_le (Heap.lt_size e) (I.ok.cab x c hfn hc)))).trans e1⟩
  ·by_cases hj:j=i
   ·subst hj
    rw [hi] at e1;cases e1
    rw [List.getElem?_set_self hiσ] at e2
    cases e2
    exact ⟨u,r,.inr ⟨.inl hk,c,hc,hc'⟩⟩
   ·rw [List.getElem?_set_ne (Ne.symm hj)] at e2
    obtain ⟨u',r',q⟩:=hl j y v' e1 e2 e3
    refine ⟨u',r',?_⟩
    rcases q with q | ⟨k,c',e,z'⟩
    ·exact .inl q
    ·refine .inr ⟨k,c',e,z'.sameBut hs ?_⟩
     rintro rfl
     exact hj (nodup_ix hN e1 (I.ok.inj _ _ _ e hc ▸ hi))
  ·by_cases hcc:c'=c
   ·subst hcc;exact ⟨_,hc'⟩
   ·obtain ⟨w2,z2⟩:=I.cell y c' e
    exact ⟨w2,z2.sameBut hs hcc⟩
  ·obtain ⟨e,n,ne,nf,d⟩:=I.pin p hp
   refine ⟨(hs.2 p.1 ?_).trans e,n,ne,nf,d⟩
   intro q
   rw [q,hoc] at e
   have q':oc=p.2:=Option.some.inj e
   exact d w' (by rw [<- q'];exact hocd)
theorem store_ok {M:Model} {A:Around} {E:Value->Shared->Prop} {i:Nat} {x:Str} {v:V} {u:Value} {Q:Unit->Shared->Prop} (I:Inv X pins σ H s) (hN:X.N.Nodup) (hi:X.N[i]?=some x) (hx:Loc X.env.scope x) (r:RelV v u)
 (h:∀ s',Inv X pins (σ.set i (some v)) H s'->Q () s') (hf:X.fn x=true \/ X.env.scope.names.lookup x=some .local:=by first | exact .inl rfl | exact .inr rfl | assumption):wpAny M A (storeName X.env x u) Q E s :=
 store_ok2 I hN hi hx r (fun s' I' _=>h s' I') hf
theorem Inv.call' {s':Shared} {ch:List Addr} (I:Inv X pins σ H s) (ho:s'.os=s.os) (u:Un (frs X.stack) ch H H' s.heap s'.heap) (hok:HOk X.prog X.w H' s'.heap) (hg:AllBare s'.gens)
 (hch:∀ b ∈ ch,(b ∈ X.ex \/ X.s₀.heap.objs.size<=b) /\ b ≠ X.env.locals /\ (∀ x c,X.env.cells.lookup x=some c->c ≠ b) /\ ∀ p ∈ X.pn ++ pins,p.1 ≠ b):Inv X pins σ H' s':=by
 obtain ⟨h',g',d',t',o'⟩:=s'
 have e:o'=s.os:=ho
 subst e
 exact I.call (g':=g') (t':=t') (d':=d') u hok hg hch
end
abbrev XK:=Value->Option Addr->Hp->Prop
abbrev St:=List (Option V)
abbrev VK:=V->Hp->Prop
abbrev TE:=St->Hp->VK->Prop
abbrev TT:=St->Hp->(Bool->Hp->Prop)->Prop
abbrev TA:=St->Hp->(List V->Hp->Prop)->Prop
structure Ends where
 nx:St->Hp->Prop
 rt:VK
 bk:St->Hp->Prop:=fun _ _=>False
 ct:St->Hp->Prop:=fun _ _=>False
abbrev TS:=Ends->St->Hp->Prop
def EP (X:Cx) (pins:List (Addr × Obj)) (σ:St) (Q:VK) (u:Value) (s':Shared):Prop:=∃ v H',Inv X pins σ H' s' /\ RelV v u /\ Q v H'
def TP (X:Cx) (pins:List (Addr × Obj)) (σ:St) (Q:Bool->Hp->Prop) (b:Bool) (s':Shared):Prop:=∃ H',Inv X pins σ H' s' /\ Q b H'
def AP (X:Cx) (pins:List (Addr × Obj)) (σ:St) (Q:List V->Hp->Prop) (us:List Value) (s':Shared):Prop:=∃ vs H',Inv X pins σ H' s' /\ Vals vs us /\ Q vs H'
def SP (X:Cx) (pins:List (Addr × Obj)) (D:Ends) (f:Flow) (s':Shared):Prop :=
 match f with
 | .next=>∃ σ' H',Inv X pins σ' H' s' /\ D.nx σ' H'
 | .brk=>∃ σ' H',Inv X pins σ' H' s' /\ D.bk σ' H'
 | .cont=>∃ σ' H',Inv X pins σ' H' s' /\ D.ct σ' H'
 | .ret u=>∃ v σ' H',Inv X pins σ' H' s' /\ RelV v u /\ D.rt v H'
def PE (X:Cx) (e:Expr) (t:TE):Prop :=
 ∀ (pins:List (Addr × Obj)) (s:Shared) (σ:St) (H:Hp) (Q:VK),Inv X pins σ H s->t σ H Q->wpAny (model X.prog X.w) X.A (eval e X.env) (EP X pins σ Q) X.xe s
def PT (X:Cx) (e:Expr) (t:TT):Prop :=
 ∀ (pins:List (Addr × Obj)) (s:Shared) (σ:St) (H:Hp) (Q:Bool->Hp->Prop),Inv X pins σ H s->t σ H Q->wpAny (model X.prog X.w) X.A (isTrue e X.env (eval e X.env)) (TP X pins σ Q) X.xe s
def PW (X:Cx) (e:Expr) (t:TT):Prop :=
 ∀ (whole:Sem Value) (pins:List (Addr × Obj)) (s:Shared) (σ:St) (H:Hp) (Q:Bool->Hp->Prop),Inv X pins σ H s->t σ H Q->wpAny (model X.prog X.w) X.A (isTrue e X.env whole) (TP X pins σ Q) X.xe s
theorem PW.pt {X:Cx} {e:Expr} {t:TT} (h:PW X e t):PT X e t:=h _
def PA (X:Cx) (es:List Expr) (t:TA):Prop :=
 ∀ (pos:Pos) (pins:List (Addr × Obj)) (s:Shared) (σ:St) (H:Hp) (Q:List V->Hp->Prop),Inv X pins σ H s->t σ H Q->wpAny (model X.prog X.w) X.A (spliced (backTo pos (starEach es X.env))) (AP X pins σ Q) X.xe s
def PS (X:Cx) (st:Stmt) (t:TS):Prop :=
 ∀ (pins:List (Addr × Obj)) (s:Shared) (σ:St) (H:Hp) (D:Ends),Inv X pins σ H s->t D σ H->wpAny (model X.prog X.w) X.A (exec st X.env) (SP X pins D) X.xe s
def PSs (X:Cx) (st:List Stmt) (t:TS):Prop :=
 ∀ (pins:List (Addr × Obj)) (s:Shared) (σ:St) (H:Hp) (D:Ends),Inv X pins σ H s->t D σ H->wpAny (model X.prog X.w) X.A (execs st X.env) (SP X pins D) X.xe s
theorem thn {α:Type} {t:Sem α} {Q Q':α->Shared->Prop} {M:Model} {A:Around} {E:Value->Shared->Prop} {s:Shared} (h:wpAny M A t Q E s) (hQ:∀ a s,Q a s->Q' a s):wpAny M A t Q' E s:=wpAny_mono h hQ fun _ _ x=>x
end L2
namespace L2
open PySem PySem.Spec PyProof.Rows
section
variable {X:Cx}
def tVar (i:Nat):TE:=fun σ H Q=>∃ v,σ[i]?=some (some v) /\ Q v H
def tC (v:V):TE:=fun _ H Q=>Q v H
theorem pe_var {i:Nat} {x:Str} {pos:Pos} (hN:X.N[i]?=some x) (hv:Vis X.env.scope x) (hd:(x == ("__debug__":Str))=false:=by decide) (hcd:(x == ("__classdict__":Str))=false:=by decide):PE X (.Name x pos) (tVar i):=by
 intro pins s σ H Q I h
 obtain ⟨v,e,h⟩:=h
 obtain ⟨m,hn,hl⟩:=I.loc
 obtain ⟨u,r,l⟩:=hl i x v hN e hv
 have fin:EP X pins σ Q u s:=⟨v,H,I,r,h⟩
 rcases l with ⟨hk,hm⟩ | ⟨hk,c,hc,hcell⟩
 ·exact wpAny_Name (wpAny_loadName_local I.ok.kind hk hn hm fin) hd
 ·rcases hk with hk | hk
  ·exact wpAny_Name (wpAny_loadName_cell I.ok.kind hk hc hcell fin) hd
  ·exact wpAny_Name (wpAny_loadName_free I.ok.kind hk hc hcell fin hcd) hd
theorem pe_int {i j pos}:PE X (.Constant (.int i) j pos) (tC (.int i)):=fun _ _ _ H _ I h=>wpAny_Constant_int ⟨.int i,H,I.tok _,⟨_,rfl⟩,h⟩
theorem pe_bl {b j pos}:PE X (.Constant (.bool b) j pos) (tC (.bl b)):=fun _ _ _ H _ I h=>Constant_bool ⟨.bl b,H,I,rfl,h⟩
theorem pe_non {j pos}:PE X (.Constant .none j pos) (tC .non):=fun _ _ _ H _ I h=>Constant_none ⟨.non,H,I,rfl,h⟩
theorem pe_str {x j pos}:PE X (.Constant (.str x) j pos) (tC (.str x)):=fun _ _ _ H _ I h=>Calls.Constant_str ⟨.str x,H,I.tok _,⟨_,rfl⟩,h⟩
def Gl (X:Cx) (x:Str):Prop:=X.env.kindOf x=some .globalImplicit
theorem ld_glob {E:Value->Shared->Prop} {pins:List (Addr × Obj)} {s:Shared} {σ:St} {H:Hp} {x:Str} {u:Value} {pos:Pos} {Q:Value->Shared->Prop} (I:Inv X pins σ H s) (hg:Gl X x) (hm:X.mg x=some u) (h:Q u s)
 (hd:(x == ("__debug__":Str))=false:=by decide):wpAny (model X.prog X.w) X.A (eval (.Name x pos) X.env) Q E s :=
 Calls.Name_function_global I.ok.kind hg (Calls.loadGlobal_global (by rw [I.ok.glob];exact I.mod.glob.keeps I.bk) hm h) hd
theorem ld_blt {E:Value->Shared->Prop} {pins:List (Addr × Obj)} {s:Shared} {σ:St} {H:Hp} {x:Str} {u:Value} {pos:Pos} {Q:Value->Shared->Prop} (I:Inv X pins σ H s) (hg:Gl X x) (hm:X.mg x=none) (hv:bootBuiltins x=some u) (h:Q u s)
 (hn:x ≠ "__name__":=by decide) (hd:(x == ("__debug__":Str))=false:=by decide):wpAny (model X.prog X.w) X.A (eval (.Name x pos) X.env) Q E s:=by
 obtain ⟨mb,h1,h2⟩:=I.mod.blt
 exact Calls.Name_function_global I.ok.kind hg (Calls.loadGlobal_builtin (by rw [I.ok.glob];exact I.mod.glob.keeps I.bk) hm (by rw [I.ok.blt];exact h1.keeps I.bk) ((h2 x hn).trans hv) h) hd
theorem pe_glob {x:Str} {v:V} {u:Value} {pos:Pos} (hg:Gl X x) (hm:X.mg x=some u) (r:RelV v u) (hd:(x == ("__debug__":Str))=false:=by decide):PE X (.Name x pos) (tC v) :=
 fun _ _ _ H _ I h=>ld_glob I hg hm ⟨v,H,I,r,h⟩ hd
theorem pe_bltn {x:Str} {v:V} {u:Value} {pos:Pos} (hg:Gl X x) (hm:X.mg x=none) (hv:bootBuiltins x=some u) (r:RelV v u) (hn:x ≠ "__name__":=by decide) (hd:(x == ("__debug__":Str))=false:=by decide):PE X (.Name x pos) (tC v) :=
 fun _ _ _ H _ I h=>ld_blt I hg hm hv ⟨v,H,I,r,h⟩ hn hd
variable {a b:Expr} {ta tb:TE} {pos:Pos}
def tB (t:TE):TT:=fun σ H Q=>t σ H fun x H1=>∃ c,x=.bl c /\ Q c H1
theorem pt_val {e:Expr} {t:TE} (h:PE X e t) (he:∀ whole,isTrue e X.env whole=(do let v <- whole;standAt e.pos;holding [v] (truthy v)):=by intro _;rfl):PT X e (tB t):=by
 intro pins s σ H Q I hw
 refine isTrue_plain (thn (h pins s σ H _ I hw) fun v s1 ⟨x,H1,I1,r1,q1⟩=>?_) (he _)
 obtain ⟨d,rfl,q⟩:=q1
 cases r1
 exact wpAny_truthy_bool ⟨H1,I1,q⟩
variable {tA tB':TT} {rest:List Expr}
def tAnd (t u:TT):TT:=fun σ H Q=>t σ H fun c H1=>if c=true then u σ H1 Q else Q false H1
def tOr (t u:TT):TT:=fun σ H Q=>t σ H fun c H1=>if c=true then Q true H1 else u σ H1 Q
def tNot (t:TT):TT:=fun σ H Q=>t σ H fun c H1=>Q (!c) H1
theorem pw_and1 (ha:PT X a tA):PW X (.BoolOp .And [a] pos) tA:=by
 intro wh pins s σ H Q I h
 refine isTrue_and (thn (ha pins s σ H Q I h) fun c s1 e=>?_)
 cases c with
 | true=>exact isTrue_and_nil e
 | false=>exact e
theorem pw_or1 (ha:PT X a tA):PW X (.BoolOp .Or [a] pos) tA:=by
 intro wh pins s σ H Q I h
 refine isTrue_or (thn (ha pins s σ H Q I h) fun c s1 e=>?_)
 cases c with
 | false=>exact isTrue_or_nil e
 | true=>exact e
theorem pw_and (ha:PT X a tA) (hb:PW X (.BoolOp .And (b :: rest) pos) tB'):PW X (.BoolOp .And (a :: b :: rest) pos) (tAnd tA tB'):=by
 intro wh pins s σ H Q I h
 refine isTrue_and (thn (ha pins s σ H _ I h) fun c s1 ⟨H1,I1,q1⟩=>?_)
 cases c with
 | true=>exact hb wh pins s1 σ H1 Q I1 q1
 | false=>exact ⟨H1,I1,q1⟩
theorem pw_or (ha:PT X a tA) (hb:PW X (.BoolOp .Or (b :: rest) pos) tB'):PW X (.BoolOp .Or (a :: b :: rest) pos) (tOr tA tB'):=by
 intro wh pins s σ H Q I h
 refine isTrue_or (thn (ha pins s σ H _ I h) fun c s1 ⟨H1,I1,q1⟩=>?_)
 cases c with
 | true=>exact ⟨H1,I1,q1⟩
 | false=>exact hb wh pins s1 σ H1 Q I1 q1
theorem pt_not (ha:PT X a tA):PT X (.UnaryOp .Not a pos) (tNot tA):=by
 intro pins s σ H Q I h
 exact isTrue_not (ha pins s σ H (fun c H1=>Q (!c) H1) I h)
def tAndV (ta tb:TE):TE:=fun σ H Q=>ta σ H fun x H1=>∃ c,x=.bl c /\ if c=true then tb σ H1 Q else Q (.bl false) H1
def tOrV (ta tb:TE):TE:=fun σ H Q=>ta σ H fun x H1=>∃ c,x=.bl c /\ if c=true then Q (.bl true) H1 else tb σ H1 Q
def tNotV (ta:TE):TE:=fun σ H Q=>ta σ H fun x H1=>∃ c,x=.bl c /\ Q (.bl (!c)) H1
theorem pe_one {op} {t:TE} (h:PE X a t):PE X (.BoolOp op [a] pos) t:=fun pins s σ H Q I hw=>BoolOp_one (h pins s σ H Q I hw)
theorem pe_and (ha:PE X a ta) (hb:PE X (.BoolOp .And (b :: rest) pos) tb):PE X (.BoolOp .And (a :: b :: rest) pos) (tAndV ta tb):=by
 intro pins s σ H Q I h
 refine BoolOp_and (thn (ha pins s σ H _ I h) fun v s1 ⟨x,H1,I1,r1,q1⟩=>?_)
 obtain ⟨c,rfl,q1⟩:=q1
 cases r1
 refine wpAny_truthy_bool ?_
 cases c with
 | true=>exact hb pins s1 σ H1 Q I1 q1
 | false=>exact ⟨.bl false,H1,I1,rfl,q1⟩
theorem pe_or (ha:PE X a ta) (hb:PE X (.BoolOp .Or (b :: rest) pos) tb):PE X (.BoolOp .Or (a :: b :: rest) pos) (tOrV ta tb):=by
 intro pins s σ H Q I h
 refine BoolOp_or (thn (ha pins s σ H _ I h) fun v s1 ⟨x,H1,I1,r1,q1⟩=>?_)
 obtain ⟨c,rfl,q1⟩:=q1
 cases r1
 refine wpAny_truthy_bool ?_
 cases c with
 | false=>exact hb pins s1 σ H1 Q I1 q1
 | true=>exact ⟨.bl true,H1,I1,rfl,q1⟩
theorem pe_not (ha:PE X a ta):PE X (.UnaryOp .Not a pos) (tNotV ta):=by
 intro pins s σ H Q I h
 refine UnaryOp_ (thn (ha pins s σ H _ I h) fun v s1 ⟨x,H1,I1,r1,q1⟩=>?_)
 obtain ⟨c,rfl,q1⟩:=q1
 cases r1
 exact not_of (wpAny_truthy_bool ⟨.bl (!c),H1,I1,rfl,q1⟩)
def tIf (t:TT) (ta tb:TE):TE:=fun σ H Q=>t σ H fun c H1=>if c=true then ta σ H1 Q else tb σ H1 Q
theorem pe_ifExp {c:Expr} (hc:PT X c tA) (ha:PE X a ta) (hb:PE X b tb):PE X (.IfExp c a b pos) (tIf tA ta tb):=by
 intro pins s σ H Q I h
 refine wpAny_IfExp (thn (hc pins s σ H _ I h) fun d s1 ⟨H1,I1,q1⟩=>?_)
 cases d with
 | true=>exact ha pins s1 σ H1 Q I1 q1
 | false=>exact hb pins s1 σ H1 Q I1 q1
end
end L2
namespace L2
open PySem PySem.Spec PyProof.Rows
def SqL (K:PySem.W.Frag) (H:Hp) (a:Addr) (xs:List V):Prop :=
 Rd H a (.lst xs) \/
  ∃ (o:Obj) (its:Array Value) (n:Nat),K.lookup a=some o /\ o.cls=.type "list" /\ o.dict=none /\ o.data=.seq its n /\ its.size<=sizeLine /\ Vals xs its.toList
def SqT (K:PySem.W.Frag) (H:Hp) (a:Addr) (xs:List V):Prop :=
 Rd H a (.tup xs) \/
  ∃ (o:Obj) (its:Array Value) (n:Nat),K.lookup a=some o /\ o.cls=.type "tuple" /\ o.data=.seq its n /\ its.size<=sizeLine /\ Vals xs its.toList
def absV:Value->Option V
 | .none=>some .non
 | .bool b=>some (.bl b)
 | .int i _=>some (.int i)
 | .str x _=>some (.str x)
 | .bytes b _=>some (.byt b)
 | .float b _=>some (.flt b)
 | .ref a=>some (.ref a)
 | .type n=>some (.ty n)
 | _=>none
theorem RelV.abs {x:V} {u:Value} (r:RelV x u):absV u=some x:=by
 cases x with
 | non=>cases r;rfl
 | bl _=>cases r;rfl
 | int _=>obtain ⟨t,rfl⟩:=r;rfl
 | str _=>obtain ⟨t,rfl⟩:=r;rfl
 | byt _=>obtain ⟨t,rfl⟩:=r;rfl
 | flt _=>obtain ⟨t,rfl⟩:=r;rfl
 | ref _=>cases r;rfl
 | ty _=>cases r;rfl
theorem RelV.inj {x y:V} {u:Value} (r:RelV x u) (q:RelV y u):x=y:=Option.some.inj (r.abs.symm.trans q.abs)
theorem Vals.inj:∀ {xs ys:List V} {us:List Value},Vals xs us->Vals ys us->xs=ys
 | _,_,_,.nil,.nil=>rfl
 | _,_,_,.cons r t,.cons r' t'=>by rw [r.inj r',Vals.inj t t']
section
variable {X:Cx} {pins:List (Addr × Obj)} {σ:St} {H:Hp} {s:Shared} {a:Addr} {xs ys:List V}
theorem SqL.of {K:PySem.W.Frag} (h:H a=some (.lst xs)):SqL K H a xs:=.inl (.inl h)
theorem SqT.of {K:PySem.W.Frag} (h:H a=some (.tup xs)):SqT K H a xs:=.inl (.inl h)
theorem Inv.list (I:Inv X pins σ H s) (h:SqL X.K H a xs):∃ its:List Value,Vals xs its /\ PlainL s.heap a its.toArray /\ xs.length<=sizeLine:=by
 rcases h with h | ⟨o,its,n,hk,hc,hd,hs,hz,r⟩
 ·obtain ⟨z,its,n,r,e⟩:=h.ok I.hok
  exact ⟨its,r,⟨_,n,e,rfl,rfl,rfl⟩,z⟩
 ·refine ⟨its.toList,r,⟨o,n,I.kIn a o hk,hc,hd,by simpa using hs⟩,?_⟩
  have e:=r.length
  simp only [Array.length_toList] at e
  omega
theorem Inv.tuple (I:Inv X pins σ H s) (h:SqT X.K H a xs):∃ its:List Value,Vals xs its /\ IsTup s.heap a its.toArray /\ xs.length<=sizeLine:=by
 rcases h with h | ⟨o,its,n,hk,hc,hs,hz,r⟩
 ·obtain ⟨z,its,r,p⟩:=h.ok I.hok
  exact ⟨its,r,p,z⟩
 ·refine ⟨its.toList,r,⟨o,I.kIn a o hk,hc,n,by simpa using hs⟩,?_⟩
  have e:=r.length
  simp only [Array.length_toList] at e
  omega
theorem Inv.list_inj (I:Inv X pins σ H s) (h:SqL X.K H a xs) (h':SqL X.K H a ys):xs=ys:=by
 obtain ⟨its,r,⟨o,n,e,_,_,d⟩,_⟩:=I.list h
 obtain ⟨its',r',⟨o',n',e',_,_,d'⟩,_⟩:=I.list h'
 rw [e] at e';cases e'
 rw [d] at d'
 injection d' with d1 _
 have:its=its':=by simpa using congrArg Array.toList d1
 subst this
 exact r.inj r'
theorem Inv.tuple_inj (I:Inv X pins σ H s) (h:SqT X.K H a xs) (h':SqT X.K H a ys):xs=ys:=by
 obtain ⟨its,r,⟨o,e,_,n,d⟩,_⟩:=I.tuple h
 obtain ⟨its',r',⟨o',e',_,n',d'⟩,_⟩:=I.tuple h'
 rw [e] at e';cases e'
 rw [d] at d'
 injection d' with d1 _
 have:its=its':=by simpa using congrArg Array.toList d1
 subst this
 exact r.inj r'
end
abbrev Cx.wish (X:Cx) (E:Value->Shared->Prop):Cx:={ X with xe:=E }
abbrev Cx.nox (X:Cx):Cx:=X.wish fun _ _=>False
theorem Cx.Ok.wish {X:Cx} (ok:X.Ok) (E:Value->Shared->Prop):(X.wish E).Ok :=
 ⟨ok.mod,ok.kind,ok.glob,ok.blt,ok.above,ok.inj,ok.has,ok.cab,ok.hd,ok.frames,ok.stk,ok.exf,ok.bs,ok.bsz,ok.noex,ok.exfs,ok.funs,ok.frf⟩
theorem Cx.Ok.unwish {X:Cx} {E:Value->Shared->Prop} (ok:(X.wish E).Ok):X.Ok :=
 ⟨ok.mod,ok.kind,ok.glob,ok.blt,ok.above,ok.inj,ok.has,ok.cab,ok.hd,ok.frames,ok.stk,ok.exf,ok.bs,ok.bsz,ok.noex,ok.exfs,ok.funs,ok.frf⟩
section
variable {X:Cx} {pins:List (Addr × Obj)} {σ:St} {H:Hp} {s:Shared} {E:Value->Shared->Prop}
theorem Inv.wish (I:Inv X pins σ H s) (E:Value->Shared->Prop):Inv (X.wish E) pins σ H s:=⟨I.ok.wish E,I.os,I.bare,I.base,I.loc,I.cell,I.free,I.freeC,I.pin,I.hok,I.len⟩
theorem Inv.unwish (I:Inv (X.wish E) pins σ H s):Inv X pins σ H s:=⟨I.ok.unwish,I.os,I.bare,I.base,I.loc,I.cell,I.free,I.freeC,I.pin,I.hok,I.len⟩
theorem SP.unwish {D:Ends} {f:Flow} {s':Shared} (h:SP (X.wish E) pins D f s'):SP X pins D f s':=by
 cases f with
 | next=>obtain ⟨σ',H',I,q⟩:=h;exact ⟨σ',H',I.unwish,q⟩
 | brk=>obtain ⟨σ',H',I,q⟩:=h;exact ⟨σ',H',I.unwish,q⟩
 | cont=>obtain ⟨σ',H',I,q⟩:=h;exact ⟨σ',H',I.unwish,q⟩
 | ret u=>obtain ⟨v,σ',H',I,r,q⟩:=h;exact ⟨v,σ',H',I.unwish,r,q⟩
theorem PT.nox {e:Expr} {t:TT} (h:PT X.nox e t):PT X e t:=fun pins s σ H Q I hw =>
 wpAny_mono (h pins s σ H Q (I.wish _) hw) (fun _ _ ⟨H',I',q⟩=>⟨H',I'.unwish,q⟩) fun _ _ z=>False.elim z
theorem PSs.nox {st:List Stmt} {t:TS} (h:PSs X.nox st t):PSs X st t:=fun pins s σ H D I hw =>
 wpAny_mono (h pins s σ H D (I.wish _) hw) (fun _ _ q=>q.unwish) fun _ _ z=>False.elim z
end
section
variable {X:Cx} {st:Stmt} {rest:List Stmt} {t u:TS} {e:Expr} {te:TE} {pos:Pos}
def tNext:TS:=fun D σ H=>D.nx σ H
def tSeq (t u:TS):TS:=fun D σ H=>t { D with nx:=u D } σ H
theorem pss_nil:PSs X [] tNext:=fun _ _ σ H _ I h=>wpAny_execs_nil ⟨σ,H,I,h⟩
theorem pss_cons (h1:PS X st t) (h2:PSs X rest u):PSs X (st :: rest) (tSeq t u):=by
 intro pins s σ H D I h
 refine wpAny_execs_cons (thn (h1 pins s σ H { D with nx:=u D } I h) fun f s1 q=>?_)
 cases f with
 | next =>
   obtain ⟨σ',H',I',q⟩:=q
   exact h2 pins s1 σ' H' D I' q
 | ret v=>exact q
 | brk=>exact q
 | cont=>exact q
theorem pss_one (h1:PS X st t):PSs X [st] t:=by
 intro pins s σ H D I h
 refine wpAny_execs_cons (thn (h1 pins s σ H D I h) fun f s1 q=>?_)
 cases f with
 | next=>exact wpAny_execs_nil q
 | ret v=>exact q
 | brk=>exact q
 | cont=>exact q
def tBreak:TS:=fun D σ H=>D.bk σ H
def tCont:TS:=fun D σ H=>D.ct σ H
theorem ps_break:PS X (.Break pos) tBreak:=fun _ _ σ H _ I h=>wpAny_Break ⟨σ,H,I,h⟩
theorem ps_continue:PS X (.Continue pos) tCont:=fun _ _ σ H _ I h=>wpAny_Continue ⟨σ,H,I,h⟩
theorem Inv.quiet {pins:List (Addr × Obj)} {σ:St} {H:Hp} {s:Shared} (I:Inv X pins σ H s):interactive X.env=false:=by simp [interactive,I.ok.kind]
def tDrop (te:TE):TS:=fun D σ H=>te σ H fun _ H1=>D.nx σ H1
theorem ps_expr (he:PE X e te) (hs:swapsWith e none pos.line X.env=pure false:=by rfl):PS X (.Expr e pos) (tDrop te):=by
 intro pins s σ H D I h
 exact wpAny_Expr_any (thn (he pins s σ H _ I h) fun v s1 ⟨x,H1,I1,r1,q1⟩=>⟨σ,H1,I1,q1⟩) I.quiet hs
def tRet (te:TE):TS:=fun D σ H=>te σ H D.rt
theorem ps_ret (he:PE X e te):PS X (.Return (some e) pos) (tRet te):=by
 intro pins s σ H D I h
 exact wpAny_Return_some (thn (he pins s σ H _ I h) fun v s1 ⟨x,H1,I1,r1,q1⟩=>⟨x,σ,H1,I1,r1,q1⟩)
def tIfS (c:TT) (t u:TS):TS:=fun D σ H=>c σ H fun b H1=>if b=true then t D σ H1 else u D σ H1
theorem ps_if {c:Expr} {a b:List Stmt} {tc:TT} (hc:PT X c tc) (ha:PSs X a t) (hb:PSs X b u):PS X (.If c a b pos) (tIfS tc t u):=by
 intro pins s σ H D I h
 refine wpAny_If (thn (hc pins s σ H _ I h) fun d s1 ⟨H1,I1,q1⟩=>?_)
 cases d with
 | true=>exact ha pins s1 σ H1 D I1 q1
 | false=>exact hb pins s1 σ H1 D I1 q1
def tNever:TS:=fun _ _ _=>False
theorem ps_never:PS X st tNever:=fun _ _ _ _ _ _ h=>h.elim
end
abbrev TG:=V->St->Hp->(St->Hp->Prop)->Prop
abbrev TGs:=List V->St->Hp->(St->Hp->Prop)->Prop
def PG (X:Cx) (target:Expr) (t:TG):Prop :=
 ∀ (pins:List (Addr × Obj)) (s:Shared) (σ:St) (H:Hp) (v:V) (u:Value) (Q:St->Hp->Prop),Inv X pins σ H s->RelV v u->t v σ H Q ->
   wpAny (model X.prog X.w) X.A (assign target X.env u) (fun _ s'=>∃ σ' H',Inv X pins σ' H' s' /\ Q σ' H') X.xe s
def PGs (X:Cx) (ts:List Expr) (t:TGs):Prop :=
 ∀ (pins:List (Addr × Obj)) (s:Shared) (σ:St) (H:Hp) (vs:List V) (us:List Value) (Q:St->Hp->Prop),Inv X pins σ H s->Vals vs us->t vs σ H Q ->
   wpAny (model X.prog X.w) X.A (assignInOrder ((assignEach ts X.env).map (·.2)) us) (fun _ s'=>∃ σ' H',Inv X pins σ' H' s' /\ Q σ' H') X.xe s
abbrev TSet:=V->V->V->Hp->(Hp->Prop)->Prop
def PSet (X:Cx) (t:TSet):Prop :=
 ∀ (pins:List (Addr × Obj)) (s:Shared) (σ:St) (H:Hp) (o i v:V) (ov iv u:Value) (Q:Hp->Prop),Inv X pins σ H s->RelV o ov->RelV i iv->RelV v u->t o i v H Q ->
   wpAny (model X.prog X.w) X.A (setItem ov iv u) (fun _ s'=>∃ H',Inv X pins σ H' s' /\ Q H') X.xe s
section
variable {X:Cx} {pos:Pos}
def gName (i:Nat):TG:=fun v σ H Q=>Q (σ.set i (some v)) H
theorem pg_name {i:Nat} {x:Str} (hN:X.N.Nodup) (hi:X.N[i]?=some x) (hx:Loc X.env.scope x) (hf:X.fn x=true \/ X.env.scope.names.lookup x=some .local:=by first | exact .inl rfl | exact .inr rfl | assumption):PG X (.Name x pos) (gName i):=by
 intro pins s σ H v u Q I r h
 exact wpAny_assign_Name (store_ok I hN hi hx r (fun s' I'=>⟨_,H,I',h⟩) hf)
def gNil:TGs:=fun vs σ H Q=>vs=[] /\ Q σ H
def gCons (t:TG) (u:TGs):TGs:=fun vs σ H Q=>∃ v r,vs=v :: r /\ t v σ H fun σ' H'=>u r σ' H' Q
theorem pgs_nil:PGs X [] gNil:=by
 intro pins s σ H vs us Q I r h
 obtain ⟨e,h⟩:=h
 subst e
 cases r
 exact assignInOrder_nil ⟨σ,H,I,h⟩
theorem pgs_cons {e:Expr} {es:List Expr} {t:TG} {u:TGs} (h1:PG X e t) (h2:PGs X es u)
 (hs:(assignEach (e :: es) X.env).map (·.2)=assign e X.env :: (assignEach es X.env).map (·.2):=by rfl):PGs X (e :: es) (gCons t u):=by
 intro pins s σ H vs us Q I r h
 obtain ⟨v,vr,e1,h⟩:=h
 subst e1
 cases r with
 | cons r rr =>
   rw [hs]
   refine assignInOrder_cons (thn (h1 pins s σ H _ _ _ I r h) fun _ s1 ⟨σ1,H1,I1,q1⟩=>?_)
   exact h2 pins s1 σ1 H1 _ _ Q I1 rr q1
def gTup (K:PySem.W.Frag) (n:Nat) (t:TGs):TG:=fun v σ H Q=>∃ a xs,v=.ref a /\ SqT K H a xs /\ xs.length=n /\ t xs σ H Q
theorem pg_tup {es:List Expr} {k:Nat} {t:TGs} {n:Nat} (hc:X.calm=true) (h:PGs X es t)
 (hn:(assignEach es X.env).length=n:=by rfl) (hst:(assignEach es X.env).findIdx? (·.1)=none:=by rfl):PG X (.Tuple es k pos) (gTup X.K n t):=by
 intro pins s σ H v u Q I r hw
 obtain ⟨a,xs,e1,hq,hl,hw⟩:=hw
 subst e1
 cases r
 obtain ⟨its,rv,ht,hz⟩:=I.tuple hq
 refine assign_Tuple_tuple (I.ok.hd hc) ht (by simp [hn,<- hl,rv.length]) hst fun h' hx=>?_
 have I1:Inv X pins σ H { s with heap:=h' }:=I.kept (t':=s.toks) fun b o e=>hx b o (Nat.ne_of_lt (Heap.lt_size e)) e
 exact h pins _ σ H xs _ Q I1 (by simpa using rv) hw
def gSub (to ti:TE) (t:TSet):TG:=fun v σ H Q=>to σ H fun o H1=>ti σ H1 fun i H2=>t o i v H2 fun H3=>Q σ H3
theorem pg_sub {o i:Expr} {to ti:TE} {t:TSet} (ho:PE X o to) (hi:PE X i ti) (hs:PSet X t)
 (ha:∀ v,assign (.Subscript o i pos) X.env v=(do
  let ov <- holding [v] (eval o X.env)
  let iv <- holding [v,ov] (eval i X.env)
  standAt pos
  holding [v,ov,iv] (setItem ov iv v)
  release [v,ov,iv] []):=by intro _;rfl):PG X (.Subscript o i pos) (gSub to ti t):=by
 intro pins s σ H v u Q I r h
 rw [ha]
 refine wpAny_bind (wpAny_holding (thn (ho pins s σ H _ I h) fun ov s1 ⟨x,H1,I1,r1,q1⟩=>?_))
 refine wpAny_bind (wpAny_holding (thn (hi pins s1 σ H1 _ I1 q1) fun iv s2 ⟨y,H2,I2,r2,q2⟩=>?_))
 refine wpAny_bind (wpAny_standAt (wpAny_bind (wpAny_holding (thn (hs pins s2 σ H2 x y v ov iv u _ I2 r1 r2 r q2) fun _ s3 ⟨H3,I3,q3⟩=>?_))))
 exact wpAny_release ⟨σ,H3,I3,q3⟩
def tAsg (te:TE) (g:TG):TS:=fun D σ H=>te σ H fun x H1=>g x σ H1 D.nx
theorem ps_asg {tg e:Expr} {te:TE} {g:TG} (he:PE X e te) (hg:PG X tg g) (hs:swapsWithSole [tg] e pos.line X.env=pure false:=by rfl) (hw:swappedStores [tg] e X.env=pure none:=by rfl)
 (h1:(assignEach [tg] X.env).map (·.2)=[assign tg X.env]:=by rfl):PS X (.Assign [tg] e pos) (tAsg te g):=by
 intro pins s σ H D I h
 refine wpAny_Assign_stores (thn (he pins s σ H _ I h) fun v s1 ⟨x,H1,I1,r1,q1⟩=>?_) hs hw
 rw [h1]
 exact thn (hg pins s1 σ H1 x v _ I1 r1 q1) fun _ s2 q=>q
theorem ps_set {i:Nat} {x:Str} {e:Expr} {te:TE} {pos':Pos} (hN:X.N.Nodup) (hi:X.N[i]?=some x) (hx:Loc X.env.scope x) (he:PE X e te) (hs:swapsWith e (some (.Name x pos')) pos.line X.env=pure false:=by rfl) (hf:X.fn x=true \/ X.env.scope.names.lookup x=some .local:=by first | exact .inl rfl | exact .inr rfl | assumption) :
 PS X (.Assign [.Name x pos'] e pos) (tAsg te (gName i)):=by
 intro pins s σ H D I h
 refine wpAny_Assign_Name (thn (he pins s σ H _ I h) fun v s1 ⟨y,H1,I1,r1,q1⟩=>?_) hs
 exact store_ok I1 hN hi hx r1 (fun s2 I2=>⟨_,H1,I2,q1⟩) hf
end
section
variable {X:Cx} {pos:Pos}
def tWhile (c:TT) (tb:TS):TS:=fun D σ H=>∃ W:Nat->St->Hp->Prop,(∃ m,W m σ H) /\ ∀ m σ H,W m σ H ->
 c σ H fun b H1=>if b=true then ∃ N:St->Hp->Prop,(∀ σ' H',N σ' H'->∃ m',m' < m /\ W m' σ' H') /\ tb { D with nx:=N,ct:=N,bk:=D.nx } σ H1 else D.nx σ H1
theorem ps_while {c:Expr} {body:List Stmt} {tc:TT} {tb:TS} (hp:PassesOwn (model X.prog X.w) X.A X.env X.xe) (hc:PT X c tc) (hb:PSs X body tb):PS X (.While c body [] pos) (tWhile tc tb):=by
 intro pins s σ H D I h
 obtain ⟨W,⟨m0,w0⟩,turn⟩:=h
 refine wpAny_While (codeAny_whileLoop (fun n s'=>∃ σ' H',Inv X pins σ' H' s' /\ W n σ' H') ?_ m0 ⟨σ,H,I,w0⟩)
 rintro n s1 ⟨σ1,H1,I1,w1⟩
 refine wpAny_passesOwn hp (thn (hc pins s1 σ1 H1 _ I1 (turn n σ1 H1 w1)) fun b s2 ⟨H2,I2,q2⟩=>?_)
 cases b with
 | true =>
   obtain ⟨N,hN,q2⟩:=q2
   rw [if_pos rfl]
   refine wpAny_passesOwn hp (thn (hb pins s2 σ1 H2 _ I2 q2) fun f s3 q3=>?_)
   cases f with
   | next =>
     obtain ⟨σ3,H3,I3,n3⟩:=q3
     obtain ⟨m',hm,w3⟩:=hN σ3 H3 n3
     exact ⟨m',hm,σ3,H3,I3,w3⟩
   | cont =>
     obtain ⟨σ3,H3,I3,n3⟩:=q3
     obtain ⟨m',hm,w3⟩:=hN σ3 H3 n3
     exact ⟨m',hm,σ3,H3,I3,w3⟩
   | brk=>exact q3
   | ret v=>exact q3
 | false =>
   rw [if_neg Bool.false_ne_true]
   exact wpAny_execs_nil ⟨σ1,H2,I2,q2⟩
end
structure It where
 go:Nat->Hp->Prop
 yld:Nat->Hp->V->Hp->Prop
 stop:Nat->Hp->Prop
def FpOk (X:Cx) (pins:List (Addr × Obj)) (H:Hp) (b:Addr):Prop :=
 H b=none /\ b ≠ X.env.locals /\ b ∉ X.fs /\ (b ∈ X.ex \/ X.s₀.heap.objs.size<=b) /\ (∀ x c,X.env.cells.lookup x=some c->c ≠ b) /\ ∀ p ∈ X.pn ++ pins,p.1 ≠ b
theorem Inv.fpOk {X:Cx} {pins:List (Addr × Obj)} {σ:St} {H H':Hp} {s:Shared} {b:Addr} (I:Inv X pins σ H s) (hb:s.heap.objs.size<=b) (hn:H' b=none):FpOk X pins H' b:=by
 refine ⟨hn,Nat.ne_of_gt (Nat.lt_of_lt_of_le I.lt hb),I.nofs hb,.inr (Nat.le_trans I.sz hb),fun x c e z=>?_,fun p hp z=>?_⟩
 ·obtain ⟨v,q⟩:=I.cell x c e
  exact absurd (Nat.lt_of_lt_of_le q.lt (by rw [z];exact hb)) (Nat.lt_irrefl _)
 ·exact absurd (Nat.lt_of_lt_of_le (Heap.lt_size (I.pin p hp).1) (by rw [z];exact hb)) (Nat.lt_irrefl _)
structure Turn (P:Program) (w:World) (K:PySem.W.Frag) (tg:Expr) (J:It) (fp:List Addr) (it:Addr) (tn:Nat->Heap->Prop):Prop where
 mem:it ∈ fp
 obj:∀ i h,tn i h->∀ b ∈ fp,∃ o,h.get? b=some o /\ ∀ v,o.data ≠ .cell v
 keep:∀ i h h',tn i h->(∀ b ∈ fp,∀ o,h.get? b=some o->h'.get? b=some o)->tn i h'
 item:∀ (X:Cx),X.prog=P->X.w=w->X.K=K->X.calm=true->∀ (i:Nat) (pins:List (Addr × Obj)) (s:Shared) (σ:St) (H:Hp) (E:Value->Shared->Prop),Inv X pins σ H s->(∀ b ∈ fp,FpOk X pins H b)->tn i s.heap->J.go i H ->
  wpAny (model P w) X.A (pyNext (.ref it)) (fun r s1=>∃ u,r=some u /\
   wpAny (model P w) X.A (letOwnedTupleGo tg (.ref it) u) (fun _ s2=>∃ x H',Inv X pins σ H' s2 /\ RelV x u /\ J.yld i H x H' /\ tn (i + 1) s2.heap /\ ∀ b ∈ fp,H' b=none) E s1) E s
 done:∀ (X:Cx),X.prog=P->X.w=w->X.K=K->X.calm=true->∀ (i:Nat) (pins:List (Addr × Obj)) (s:Shared) (σ:St) (H:Hp) (E:Value->Shared->Prop),Inv X pins σ H s->(∀ b ∈ fp,FpOk X pins H b)->tn i s.heap->J.stop i H ->
  wpAny (model P w) X.A (pyNext (.ref it)) (fun r s1=>r=none /\ Inv X pins σ H s1) E s
 self:∀ (A:Around) (i:Nat) (s:Shared) (Q:Value->Shared->Prop) (E:Value->Shared->Prop),tn i s.heap->Q (.ref it) s->wpAny (model P w) A (pyIter (.ref it)) Q E s
abbrev TI:=St->Hp->(It->Hp->Prop)->Prop
def PIE (X:Cx) (pins:List (Addr × Obj)) (σ:St) (tg:Expr) (R:It->Hp->Prop) (itv:Value) (s2:Shared):Prop :=
 ∃ (it:Addr) (fp:List Addr) (tn:Nat->Heap->Prop) (J:It) (H':Hp),itv=.ref it /\ Inv X pins σ H' s2 /\ Turn X.prog X.w X.K tg J fp it tn /\ tn 0 s2.heap /\ (∀ b ∈ fp,FpOk X pins H' b) /\ R J H'
def PI (X:Cx) (tg iter:Expr) (wi:TI):Prop :=
 ∀ (pins:List (Addr × Obj)) (s:Shared) (σ:St) (H:Hp) (R:It->Hp->Prop),Inv X pins σ H s->wi σ H R ->
   wpAny (model X.prog X.w) X.A (eval iter X.env) (fun v s1=>wpAny (model X.prog X.w) X.A (pyIter v) (PIE X pins σ tg R) X.xe s1) X.xe s
theorem go_of {M:Model} {A:Around} {E:Value->Shared->Prop} {s:Shared} {tg:Expr} {it:Addr} {u:Value} {o:Obj} {n:String} {vs:Array Value} {Q:Unit->Shared->Prop} (ho:s.heap.get? it=some o) (hc:o.cls=.type n) (hd:o.data=.fields vs)
 (hn:["enumerate","zip","dict_itemiterator","dict_reverseitemiterator","odict_iterator","itertools.zip_longest","itertools.pairwise"].contains n=false) (hQ:Q () s):wpAny M A (letOwnedTupleGo tg (.ref it) u) Q E s:=by
 unfold letOwnedTupleGo
 cases tg <;> first
  | exact wpAny_pure hQ
  | (cases u <;> first
   | exact wpAny_pure hQ
   | (refine wpAny_bind (wpAny_load ho ?_)
      rw [hc,hd]
      show wpAny M A (if (["enumerate","zip","dict_itemiterator","dict_reverseitemiterator","odict_iterator","itertools.zip_longest","itertools.pairwise"].contains n && vs[0]? == some (rawInt _))=true then _ else _) Q E s
      rw [if_neg (by intro h;rw [hn,Bool.false_and] at h;cases h)]
      exact wpAny_pure hQ))
def Itl (K:PySem.W.Frag) (a:Addr):It :=
 ⟨fun i H=>∃ xs x,SqL K H a xs /\ xs[i]?=some x,fun i H x H'=>H'=H /\ ∀ xs,SqL K H a xs->xs[i]?=some x,fun i H=>∃ xs,SqL K H a xs /\ xs.length<=i⟩
def Itt (K:PySem.W.Frag) (a:Addr):It :=
 ⟨fun i H=>∃ xs x,SqT K H a xs /\ xs[i]?=some x,fun i H x H'=>H'=H /\ ∀ xs,SqT K H a xs->xs[i]?=some x,fun i H=>∃ xs,SqT K H a xs /\ xs.length<=i⟩
theorem turn_list {P:Program} {w:World} {K:PySem.W.Frag} {tg:Expr} (a it:Addr):Turn P w K tg (Itl K a) [it] it (fun i h=>h.IsListIter it a i) where
 mem:=by simp
 obj:=fun i h st b hb=>by
  have e:b=it:=by simpa using hb
  subst e
  obtain ⟨o,e,c,d⟩:=st
  exact ⟨o,e,fun v z=>by rw [d] at z;cases z⟩
 keep:=fun i h h' st k=>st.at fun o e=>k it (by simp) o e
 item:=by
  intro X hP hw hK hc i pins s σ H E I hf st hg
  subst hP hw hK
  obtain ⟨xs,x,hq,hx⟩:=hg
  obtain ⟨its,rv,p,hz⟩:=I.list hq
  obtain ⟨u,hu,ru⟩:=rv.get hx
  obtain ⟨f0,f1,f2,f3,f4,f5⟩:=hf it (by simp)
  refine wpAny_pyNext_list_item st p.isList (x:=u) (by simpa using hu) fun h' st' sb=>?_
  have I1:Inv X pins σ H { s with heap:=h' }:=I.turned (t':=s.toks) (fun b o hb e=>(sb.2 b hb).trans e) f0 f1 f3 f4 f5
  obtain ⟨o,e,c,d⟩:=id st'
  exact ⟨u,rfl,go_of (s:={ s with heap:=h' }) e c d (by decide) ⟨x,H,I1,ru,⟨rfl,fun ys hy=>by rw [I.list_inj hy hq];exact hx⟩,st',fun b hb=>(hf b hb).1⟩⟩
 done:=by
  intro X hP hw hK hc i pins s σ H E I hf st hg
  subst hP hw hK
  obtain ⟨xs,hq,hx⟩:=hg
  obtain ⟨its,rv,p,hz⟩:=I.list hq
  obtain ⟨f0,f1,f2,f3,f4,f5⟩:=hf it (by simp)
  have hl:=rv.length
  exact wpAny_pyNext_list_end (I.ok.hd hc) st p.isList (by simp;omega) fun h' eb=>⟨rfl,I.turned (t':=s.toks) (fun b o hb e=>eb b o hb e) f0 f1 f3 f4 f5⟩
 self:=fun _ _ _ _ _ st h=>wpAny_pyIter_listiter st h
theorem turn_tuple {P:Program} {w:World} {K:PySem.W.Frag} {tg:Expr} (a it:Addr):Turn P w K tg (Itt K a) [it] it (fun i h=>h.IsTupleIter it a i) where
 mem:=by simp
 obj:=fun i h st b hb=>by
  have e:b=it:=by simpa using hb
  subst e
  obtain ⟨o,e,c,d⟩:=st
  exact ⟨o,e,fun v z=>by rw [d] at z;cases z⟩
 keep:=fun i h h' st k=>st.at fun o e=>k it (by simp) o e
 item:=by
  intro X hP hw hK hc i pins s σ H E I hf st hg
  subst hP hw hK
  obtain ⟨xs,x,hq,hx⟩:=hg
  obtain ⟨its,rv,p,hz⟩:=I.tuple hq
  obtain ⟨u,hu,ru⟩:=rv.get hx
  obtain ⟨f0,f1,f2,f3,f4,f5⟩:=hf it (by simp)
  refine wpAny_pyNext_tuple_item st (show s.heap.IsTuple a its.toArray from p) (x:=u) (by simpa using hu) fun h' st' sb=>?_
  have I1:Inv X pins σ H { s with heap:=h' }:=I.turned (t':=s.toks) (fun b o hb e=>(sb.2 b hb).trans e) f0 f1 f3 f4 f5
  obtain ⟨o,e,c,d⟩:=id st'
  exact ⟨u,rfl,go_of (s:={ s with heap:=h' }) e c d (by decide) ⟨x,H,I1,ru,⟨rfl,fun ys hy=>by rw [I.tuple_inj hy hq];exact hx⟩,st',fun b hb=>(hf b hb).1⟩⟩
 done:=by
  intro X hP hw hK hc i pins s σ H E I hf st hg
  subst hP hw hK
  obtain ⟨xs,hq,hx⟩:=hg
  obtain ⟨its,rv,p,hz⟩:=I.tuple hq
  obtain ⟨f0,f1,f2,f3,f4,f5⟩:=hf it (by simp)
  have hl:=rv.length
  exact wpAny_pyNext_tuple_end (I.ok.hd hc) st (show s.heap.IsTuple a its.toArray from p) (by simp;omega) fun h' eb=>⟨rfl,I.turned (t':=s.toks) (fun b o hb e=>eb b o hb e) f0 f1 f3 f4 f5⟩
 self:=fun _ _ _ _ _ st h=>wpAny_pyIter_tupleiter st h
end L2
namespace L2
open PySem PySem.Spec PyProof.Rows
section
variable {X:Cx} {tg:Expr}
def tFor (wi:TI) (g:TG) (tb:TS):TS:=fun D σ H=>wi σ H fun J H1=>∃ W:Nat->Nat->St->Hp->Prop,(∃ m,W 0 m σ H1) /\ ∀ i m σ H,W i m σ H ->
 (J.stop i H /\ D.nx σ H) \/ (J.go i H /\ ∃ N:St->Hp->Prop,(∀ σ' H',N σ' H'->∃ m',m' < m /\ W (i + 1) m' σ' H') /\ ∀ x H',J.yld i H x H'->g x σ H' fun σ2 H2=>tb { D with nx:=N,ct:=N,bk:=D.nx } σ2 H2)
def pinsAt (fp:List Addr) (h:Heap):List (Addr × Obj):=fp.filterMap fun b=>(h.get? b).map fun o=>(b,o)
theorem mem_pinsAt {fp:List Addr} {h:Heap} {b:Addr} {o:Obj} (hb:b ∈ fp) (e:h.get? b=some o):(b,o) ∈ pinsAt fp h:=List.mem_filterMap.mpr ⟨b,hb,by rw [e];rfl⟩
theorem of_pinsAt {fp:List Addr} {h:Heap} {p:Addr × Obj} (hp:p ∈ pinsAt fp h):p.1 ∈ fp /\ h.get? p.1=some p.2:=by
 obtain ⟨b,hb,e⟩:=List.mem_filterMap.mp hp
 cases q:h.get? b with
 | none=>rw [q] at e;cases e
 | some o =>
   rw [q] at e
   have e':(b,o)=p:=Option.some.inj e
   subst e'
   exact ⟨hb,q⟩
theorem Inv.pinned {pins:List (Addr × Obj)} {σ:St} {H:Hp} {s:Shared} {fp:List Addr} (I:Inv X pins σ H s) (hf:∀ b ∈ fp,FpOk X pins H b) (ho:∀ b ∈ fp,∃ o,s.heap.get? b=some o /\ ∀ v,o.data ≠ .cell v):Inv X (pins ++ pinsAt fp s.heap) σ H s :=
 I.pins_of fun p hp=>(List.mem_append.mp hp).elim (fun z=>I.pin p (List.mem_append_right _ z)) fun z=>by
  obtain ⟨hb,e⟩:=of_pinsAt z
  obtain ⟨f0,f1,f2,_⟩:=hf p.1 hb
  obtain ⟨o,e',d⟩:=ho p.1 hb
  rw [e] at e';cases e'
  exact ⟨e,f0,f1,f2,d⟩
theorem Inv.unpinned {pins pl:List (Addr × Obj)} {σ:St} {H:Hp} {s:Shared} (I:Inv X (pins ++ pl) σ H s):Inv X pins σ H s:=I.pins_of fun p hp=>I.pin p (List.mem_append_right _ (List.mem_append_left _ hp))
theorem ps_for {iter:Expr} {body:List Stmt} {wi:TI} {g:TG} {tb:TS} {pos:Pos} (hp:PassesOwn (model X.prog X.w) X.A X.env X.xe) (hc:X.calm=true) (hi:PI X tg iter wi) (hg:PG X tg g) (hb:PSs X body tb)
 (hs:∀ x,foldedSetIterable iter X.env x=pure x:=by intro _;rfl):PS X (.For tg iter body [] pos) (tFor wi g tb):=by
 intro pins s σ H D I h
 refine wpAny_For (thn (hi pins s σ H _ I h) fun v s1 h1=>thn h1 fun itv s2 h2=>?_) hs
 obtain ⟨it,fp,tn,J,H2,e,I2,T,st2,f2,W,⟨m0,w0⟩,turn⟩:=h2
 subst e
 have stat:∀ {H':Hp},(∀ b ∈ fp,H' b=none)->∀ b ∈ fp,FpOk X pins H' b:=fun hn b hb=>⟨hn b hb,(f2 b hb).2⟩
 refine codeAny_forLoop_any (fun n s'=>∃ i σ' H',Inv X pins σ' H' s' /\ tn i s'.heap /\ (∀ b ∈ fp,H' b=none) /\ W i n σ' H') ?_ m0 ⟨0,σ,H2,I2,st2,fun b hb=>(f2 b hb).1,w0⟩
 rintro n s3 ⟨i,σ3,H3,I3,st3,fr3,w3⟩
 rcases turn i n σ3 H3 w3 with ⟨stop,qn⟩ | ⟨go,N,hN,step⟩
 ·refine wpAny_passesOwn hp (thn (T.done X rfl rfl rfl hc i pins s3 σ3 H3 X.xe I3 (stat fr3) st3 stop) fun r s4 ⟨hr,I4⟩=>?_)
  subst hr
  exact wpAny_execs_nil ⟨σ3,H3,I4,qn⟩
 ·refine wpAny_passesOwn hp (thn (T.item X rfl rfl rfl hc i pins s3 σ3 H3 X.xe I3 (stat fr3) st3 go) fun r s4 ⟨u,hr,h4⟩=>?_)
  subst hr
  refine wpAny_passesOwn hp (thn h4 fun _ s5 ⟨x,H5,I5,r5,y5,st5,fr5⟩=>?_)
  have I5':=I5.pinned (stat fr5) (T.obj _ _ st5)
  refine wpAny_passesOwn hp (thn (hg _ s5 σ3 H5 x u _ I5' r5 (step x H5 y5)) fun _ s6 ⟨σ6,H6,I6,q6⟩=>?_)
  refine wpAny_passesOwn hp (thn (hb _ s6 σ6 H6 _ I6 q6) fun f s7 q7=>?_)
  have again:∀ {σ7:St} {H7:Hp},Inv X (pins ++ pinsAt fp s5.heap) σ7 H7 s7->N σ7 H7->∃ m,m < n /\ ∃ i σ' H',Inv X pins σ' H' s7 /\ tn i s7.heap /\ (∀ b ∈ fp,H' b=none) /\ W i m σ' H':=fun {σ7 H7} I7 n7=>by
   obtain ⟨m',hm,w7⟩:=hN σ7 H7 n7
   refine ⟨m',hm,i + 1,σ7,H7,I7.unpinned,T.keep _ _ _ st5 fun b hb o e=>(I7.pin (b,o) (List.mem_append_right _ (List.mem_append_right _ (mem_pinsAt hb e)))).1,fun b hb=>?_,w7⟩
   obtain ⟨o,e,d⟩:=T.obj _ _ st5 b hb
   exact (I7.pin (b,o) (List.mem_append_right _ (List.mem_append_right _ (mem_pinsAt hb e)))).2.1
  cases f with
  | next=>obtain ⟨σ7,H7,I7,n7⟩:=q7;exact again I7 n7
  | cont=>obtain ⟨σ7,H7,I7,n7⟩:=q7;exact again I7 n7
  | brk=>obtain ⟨σ7,H7,I7,q7⟩:=q7;exact ⟨σ7,H7,I7.unpinned,q7⟩
  | ret v=>obtain ⟨x7,σ7,H7,I7,r7,q7⟩:=q7;exact ⟨x7,σ7,H7,I7.unpinned,r7,q7⟩
end
end L2
namespace L2
open PySem PySem.Spec PyProof.Rows
abbrev R2:=V->V->Hp->VK->Prop
def OpR (X:Cx) (f:Value->Value->Sem Value) (r:R2):Prop :=
 ∀ (pins:List (Addr × Obj)) (s:Shared) (σ:St) (H:Hp) (x y:V) (v u:Value) (Q:VK),Inv X pins σ H s->RelV x v->RelV y u->r x y H Q ->
   wpAny (model X.prog X.w) X.A (f v u) (EP X pins σ Q) X.xe s
def UnR (X:Cx) (f:Value->Sem Value) (r:V->Hp->VK->Prop):Prop :=
 ∀ (pins:List (Addr × Obj)) (s:Shared) (σ:St) (H:Hp) (x:V) (v:Value) (Q:VK),Inv X pins σ H s->RelV x v->r x H Q ->
   wpAny (model X.prog X.w) X.A (f v) (EP X pins σ Q) X.xe s
def CallR (X:Cx) (f:Value) (r:List V->Hp->VK->Prop):Prop :=
 ∀ (pins:List (Addr × Obj)) (s:Shared) (σ:St) (H:Hp) (xs:List V) (us:List Value) (Q:VK),Inv X pins σ H s->Vals xs us->r xs H Q ->
   wpAny (model X.prog X.w) X.A (call f us) (EP X pins σ Q) X.xe s
def tOp (r:R2) (ta tb:TE):TE:=fun σ H Q=>ta σ H fun x H1=>tb σ H1 fun y H2=>r x y H2 Q
def tUn (r:V->Hp->VK->Prop) (ta:TE):TE:=fun σ H Q=>ta σ H fun x H1=>r x H1 Q
def rI (C:Int->Int->Prop) (g:Int->Int->V):R2:=fun x y H Q=>∃ i j,x=.int i /\ y=.int j /\ C i j /\ Q (g i j) H
def rI0 (g:Int->Int->V):R2:=fun x y H Q=>∃ i j,x=.int i /\ y=.int j /\ Q (g i j) H
def rU (g:Int->V):V->Hp->VK->Prop:=fun x H Q=>∃ i,x=.int i /\ Q (g i) H
section
variable {X:Cx} {a b c:Expr} {ta tb tc:TE} {pos:Pos}
theorem binT (ha:PE X a ta) (hb:PE X b tb) {pins:List (Addr × Obj)} {s:Shared} {σ:St} {H:Hp} {R:V->V->Hp->Prop} (I:Inv X pins σ H s)
 (h:ta σ H fun x H1=>tb σ H1 fun y H2=>R x y H2) {Q:Value->Shared->Prop} {f:Value->Value->Sem Value}
 (hf:∀ v u s2 x y H2,Inv X pins σ H2 s2->RelV x v->RelV y u->R x y H2->wpAny (model X.prog X.w) X.A (f v u) Q X.xe s2) :
 wpAny (model X.prog X.w) X.A (eval a X.env) (fun v s₁=>wpAny (model X.prog X.w) X.A (eval b X.env) (fun u s₂=>wpAny (model X.prog X.w) X.A (f v u) Q X.xe s₂) X.xe s₁) X.xe s:=by
 refine thn (ha pins s σ H _ I h) fun v s1 ⟨x,H1,I1,r1,q1⟩=>?_
 refine thn (hb pins s1 σ H1 _ I1 q1) fun u s2 ⟨y,H2,I2,r2,q2⟩=>?_
 exact hf v u s2 x y H2 I2 r1 r2 q2
theorem pe_op {op:Operator} {r:R2} (ho:OpR X (binaryOp op) r) (ha:PE X a ta) (hb:PE X b tb):PE X (.BinOp a op b pos) (tOp r ta tb):=by
 intro pins s σ H Q I h
 exact wpAny_BinOp (binT ha hb I h fun v u s2 x y H2 I2 rx ry q=>ho pins s2 σ H2 x y v u Q I2 rx ry q)
theorem pe_un {op:UnaryOp} {r:V->Hp->VK->Prop} (ho:UnR X (unaryOp op) r) (ha:PE X a ta):PE X (.UnaryOp op a pos) (tUn r ta):=by
 intro pins s σ H Q I h
 exact UnaryOp_ (thn (ha pins s σ H _ I h) fun v s1 ⟨x,H1,I1,r1,q1⟩=>ho pins s1 σ H1 x v Q I1 r1 q1)
theorem opI {f:Value->Value->Sem Value} {C:Int->Int->Prop} {g:Int->Int->Int}
 (rule:∀ (i j:Int) (t u:Tok) (s:Shared) (Q:Value->Shared->Prop) (E:Value->Shared->Prop),C i j->Q (.int (g i j) s.toks) { s with toks:=s.toks + 1 }->wpAny (model X.prog X.w) X.A (f (.int i t) (.int j u)) Q E s) :
 OpR X f (rI C fun i j=>.int (g i j)):=by
 intro pins s σ H x y v u Q I rx ry h
 obtain ⟨i,j,rfl,rfl,hc,q⟩:=h
 obtain ⟨t,rfl⟩:=rx
 obtain ⟨t',rfl⟩:=ry
 exact rule i j t t' s _ _ hc ⟨.int (g i j),H,I.tok _,⟨_,rfl⟩,q⟩
theorem opI0 {f:Value->Value->Sem Value} {g:Int->Int->Int}
 (rule:∀ (i j:Int) (t u:Tok) (s:Shared) (Q:Value->Shared->Prop) (E:Value->Shared->Prop),Q (.int (g i j) s.toks) { s with toks:=s.toks + 1 }->wpAny (model X.prog X.w) X.A (f (.int i t) (.int j u)) Q E s) :
 OpR X f (rI0 fun i j=>.int (g i j)):=by
 intro pins s σ H x y v u Q I rx ry h
 obtain ⟨i,j,rfl,rfl,q⟩:=h
 obtain ⟨t,rfl⟩:=rx
 obtain ⟨t',rfl⟩:=ry
 exact rule i j t t' s _ _ ⟨.int (g i j),H,I.tok _,⟨_,rfl⟩,q⟩
theorem opB0 {f:Value->Value->Sem Value} {g:Int->Int->Bool}
 (rule:∀ (i j:Int) (t u:Tok) (s:Shared) (Q:Value->Shared->Prop) (E:Value->Shared->Prop),Q (.bool (g i j)) s->wpAny (model X.prog X.w) X.A (f (.int i t) (.int j u)) Q E s) :
 OpR X f (rI0 fun i j=>.bl (g i j)):=by
 intro pins s σ H x y v u Q I rx ry h
 obtain ⟨i,j,rfl,rfl,q⟩:=h
 obtain ⟨t,rfl⟩:=rx
 obtain ⟨t',rfl⟩:=ry
 exact rule i j t t' s _ _ ⟨.bl (g i j),H,I,rfl,q⟩
theorem two_pow_nn (k:Nat):(0:Int)<=2 ^ k:=by
 rw [two_pow_cast]
 exact Int.natCast_nonneg _
theorem op_shr:OpR X (binaryOp .RShift) (rI (fun _ j=>0<=j) fun i j=>.int (i / 2 ^ j.toNat)):=opI fun i j _ _ _ _ _ hc q =>
 rshift_int hc (by rw [Int.fdiv_eq_ediv_of_nonneg i (two_pow_nn _)];exact q)
theorem op_and:OpR X (binaryOp .BitAnd) (rI0 fun i j=>.int (Builtin.bitAnd i j)):=opI0 fun _ _ _ _ _ _ _ q=>and_int q
theorem unI {f:Value->Sem Value} {g:Int->Int}
 (rule:∀ (i:Int) (t:Tok) (s:Shared) (Q:Value->Shared->Prop) (E:Value->Shared->Prop),Q (.int (g i) s.toks) { s with toks:=s.toks + 1 }->wpAny (model X.prog X.w) X.A (f (.int i t)) Q E s) :
 UnR X f (rU fun i=>.int (g i)):=by
 intro pins s σ H x v Q I rx h
 obtain ⟨i,rfl,q⟩:=h
 obtain ⟨t,rfl⟩:=rx
 exact rule i t s _ _ ⟨.int (g i),H,I.tok _,⟨_,rfl⟩,q⟩
theorem un_neg:UnR X (unaryOp .USub) (rU fun i=>.int (-i)):=unI fun _ _ _ _ _ q=>neg_int q
end
def scal:V->V->Bool
 | .non,.non=>true | .non,.int _=>true | .int _,.non=>true | .non,.bl _=>true | .bl _,.non=>true | .non,.str _=>true | .str _,.non=>true
 | .int _,.int _=>true | .bl _,.bl _=>true | .str _,.str _=>true | .byt _,.byt _=>true
 | .int _,.str _=>true | .str _,.int _=>true | .bl _,.str _=>true | .str _,.bl _=>true
 | _,_=>false
def rEq:R2:=fun x y H Q=>scal x y=true /\ Q (.bl (decide (x=y))) H
theorem dec_int {i j:Int}:decide (V.int i=V.int j)=(i == j):=by
 rw [Bool.eq_iff_iff]
 simp
theorem dec_bl {i j:Bool}:decide (V.bl i=V.bl j)=(i == j):=by
 rw [Bool.eq_iff_iff]
 simp
theorem dec_str {i j:Str}:decide (V.str i=V.str j)=(i == j):=by
 rw [Bool.eq_iff_iff]
 simp
theorem dec_byt {i j:Array UInt8}:decide (V.byt i=V.byt j)=(i.toList == j.toList):=by
 rw [Bool.eq_iff_iff]
 cases i
 cases j
 simp
section
variable {X:Cx} {a b c:Expr} {ta tb tc:TE} {pos:Pos}
theorem fin_bl {pins:List (Addr × Obj)} {σ:St} {H:Hp} {s:Shared} {Q:VK} {k k':Bool} (I:Inv X pins σ H s) (q:Q (.bl k) H) (e:k=k'):EP X pins σ Q (.bool k') s:=by
 subst e
 exact ⟨.bl k,H,I,rfl,q⟩
theorem op_eq:OpR X (compareOp .Eq) rEq:=by
 intro pins s σ H x y v u Q I rx ry h
 obtain ⟨hs,q⟩:=h
 cases x with
 | non =>
   cases rx
   cases y with
   | non=>cases ry;exact PySem.EqNone.eq_none_none (fin_bl I q (by simp))
   | bl j=>cases ry;exact PySem.EqNone.eq_none_bool (fin_bl I q (by simp))
   | int j=>obtain ⟨t',rfl⟩:=ry;exact PySem.EqNone.eq_none_int (fin_bl I q (by simp))
   | str j=>obtain ⟨t',rfl⟩:=ry;exact PySem.EqNone.eq_none_str (fin_bl I q (by simp))
   | _=>exact absurd (show false=true from hs) Bool.false_ne_true
 | bl i =>
   cases rx
   cases y with
   | non=>cases ry;exact PySem.EqNone.eq_bool_none (fin_bl I q (by simp))
   | bl j=>cases ry;exact eq_bool (fin_bl I q dec_bl)
   | str j=>obtain ⟨t',rfl⟩:=ry;exact PySem.EqMixed.eq_bool_str (fin_bl I q (by simp))
   | _=>exact absurd (show false=true from hs) Bool.false_ne_true
 | int i =>
   obtain ⟨t,rfl⟩:=rx
   cases y with
   | non=>cases ry;exact PySem.EqNone.eq_int_none (fin_bl I q (by simp))
   | int j=>obtain ⟨t',rfl⟩:=ry;exact eq_int (fin_bl I q dec_int)
   | str j=>obtain ⟨t',rfl⟩:=ry;exact PySem.EqMixed.eq_int_str (fin_bl I q (by simp))
   | _=>exact absurd (show false=true from hs) Bool.false_ne_true
 | str i =>
   obtain ⟨t,rfl⟩:=rx
   cases y with
   | non=>cases ry;exact PySem.EqNone.eq_str_none (fin_bl I q (by simp))
   | bl j=>cases ry;exact PySem.EqMixed.eq_str_bool (fin_bl I q (by simp))
   | int j=>obtain ⟨t',rfl⟩:=ry;exact PySem.EqMixed.eq_str_int (fin_bl I q (by simp))
   | str j=>obtain ⟨t',rfl⟩:=ry;exact eq_str (fin_bl I q dec_str)
   | _=>exact absurd (show false=true from hs) Bool.false_ne_true
 | byt i =>
   obtain ⟨t,rfl⟩:=rx
   cases y with
   | byt j=>obtain ⟨t',rfl⟩:=ry;exact PySem.W.eq_bytes (fin_bl I q dec_byt)
   | _=>exact absurd (show false=true from hs) Bool.false_ne_true
 | _=>cases y <;> exact absurd (show false=true from hs) Bool.false_ne_true
theorem op_lt:OpR X (compareOp .Lt) (rI0 fun i j=>.bl (decide (i < j))):=opB0 fun _ _ _ _ _ _ _ q=>lt_int q
theorem op_le:OpR X (compareOp .LtE) (rI0 fun i j=>.bl (decide (i<=j))):=opB0 fun _ _ _ _ _ _ _ q=>le_int q
theorem op_gt:OpR X (compareOp .Gt) (rI0 fun i j=>.bl (decide (j < i))):=opB0 fun _ _ _ _ _ _ _ q=>gt_int q
theorem op_ge:OpR X (compareOp .GtE) (rI0 fun i j=>.bl (decide (j<=i))):=opB0 fun _ _ _ _ _ _ _ q=>ge_int q
theorem op_isN:OpR X (compareOp .Is) (fun x y H Q=>y=.non /\ Q (.bl (decide (x=.non))) H):=by
 intro pins s σ H x y v u Q I rx ry h
 obtain ⟨rfl,q⟩:=h
 cases ry
 refine is_none_gen (fin_bl I q ?_)
 cases x <;> first
  | (cases rx;rfl)
  | (obtain ⟨t,rfl⟩:=rx;rfl)
theorem op_notN:OpR X (compareOp .IsNot) (fun x y H Q=>y=.non /\ Q (.bl (!decide (x=.non))) H):=by
 intro pins s σ H x y v u Q I rx ry h
 obtain ⟨rfl,q⟩:=h
 cases ry
 refine isnot_none_gen (fin_bl I q ?_)
 cases x <;> first
  | (cases rx;rfl)
  | (obtain ⟨t,rfl⟩:=rx;rfl)
theorem nomark (b:Expr) {op:CmpOp} (h:op ≠ .In:=by decide) (h2:op ≠ .NotIn:=by decide):behindInMarks op b=false:=by
 have e1:(op == CmpOp.In)=false:=by cases op <;> first | rfl | exact absurd rfl h
 have e2:(op == CmpOp.NotIn)=false:=by cases op <;> first | rfl | exact absurd rfl h2
 cases b <;> simp [behindInMarks,e1,e2]
theorem pe_cmpR {op:CmpOp} {r:R2} (ho:OpR X (compareOp op) r) (ha:PE X a ta) (hb:PE X b tb) (hm:behindInMarks op b=false):PE X (.Compare a [op] [b] pos) (tOp r ta tb):=by
 intro pins s σ H Q I h
 exact wpAny_Compare1 (binT ha hb I h fun v u s2 x y H2 I2 rx ry q=>ho pins s2 σ H2 x y v u Q I2 rx ry q) hm
def tTest (t:TE):TT:=fun σ H Q=>t σ H fun x H'=>∃ k,x=.bl k /\ Q k H'
theorem pt_cmpR {op:CmpOp} {r:R2} (ho:OpR X (compareOp op) r) (ha:PE X a ta) (hb:PE X b tb) (hm:behindInMarks op b=false):PT X (.Compare a [op] [b] pos) (tTest (tOp r ta tb)):=by
 intro pins s σ H Q I h
 refine wpAny_isTrue_Compare1 (thn (ha pins s σ H _ I h) fun v s1 ⟨x,H1,I1,r1,q1⟩=>thn (hb pins s1 σ H1 _ I1 q1) fun u s2 ⟨y,H2,I2,r2,q2⟩ =>
  thn (ho pins s2 σ H2 x y v u _ I2 r1 r2 q2) fun c s3 ⟨z,H3,I3,r3,k,e,q3⟩=>?_) hm
 subst e
 cases r3
 exact wpAny_truthy_bool ⟨H3,I3,q3⟩
def tChain (r r':R2) (ta tb tc:TE):TE:=fun σ H Q=>ta σ H fun x H1=>tb σ H1 fun y H2=>r x y H2 fun z H3=>∃ k,z=.bl k /\
 (if k=true then tc σ H3 fun w' H4=>r' y w' H4 Q else Q (.bl false) H3)
theorem pe_chain {op op':CmpOp} {r r':R2} (ho:OpR X (compareOp op) r) (ho':OpR X (compareOp op') r') (ha:PE X a ta) (hb:PE X b tb) (hc:PE X c tc)
 (hm:lastMarks [op,op'] [b,c]=false:=by with_unfolding_all rfl):PE X (.Compare a [op,op'] [b,c] pos) (tChain r r' ta tb tc):=by
 intro pins s σ H Q I h
 refine Compare_chain (thn (ha pins s σ H _ I h) fun v s1 ⟨x,H1,I1,r1,q1⟩=>chain_link (thn (hb pins s1 σ H1 _ I1 q1) fun u s2 ⟨y,H2,I2,r2,q2⟩ =>
  thn (ho pins s2 σ H2 x y v u _ I2 r1 r2 q2) fun d s3 ⟨z,H3,I3,r3,k,e,q3⟩=>?_)) hm
 subst e
 cases r3
 refine wpAny_truthy_bool ?_
 cases k with
 | false=>exact ite_ff ⟨.bl false,H3,I3,rfl,q3⟩
 | true=>exact ite_tt (chain_last (thn (hc pins s3 σ H3 _ I3 q3) fun w' s4 ⟨z',H4,I4,r4,q4⟩=>ho' pins s4 σ H4 y z' u w' Q I4 r2 r4 q4))
theorem pt_chain {op op':CmpOp} {r r':R2} (ho:OpR X (compareOp op) r) (ho':OpR X (compareOp op') r') (ha:PE X a ta) (hb:PE X b tb) (hc:PE X c tc)
 (hm:lastMarks [op,op'] [b,c]=false:=by with_unfolding_all rfl):PT X (.Compare a [op,op'] [b,c] pos) (tTest (tChain r r' ta tb tc)):=by
 intro pins s σ H Q I h
 refine isTrue_chain (thn (ha pins s σ H _ I h) fun v s1 ⟨x,H1,I1,r1,q1⟩=>test_link (thn (hb pins s1 σ H1 _ I1 q1) fun u s2 ⟨y,H2,I2,r2,q2⟩ =>
  thn (ho pins s2 σ H2 x y v u _ I2 r1 r2 q2) fun d s3 ⟨z,H3,I3,r3,k,e,q3⟩=>?_)) hm
 subst e
 cases r3
 refine wpAny_truthy_bool ?_
 cases k with
 | false =>
   obtain ⟨k',e',q'⟩:=q3
   cases e'
   exact ite_ff ⟨H3,I3,q'⟩
 | true =>
   refine ite_tt (test_last (thn (hc pins s3 σ H3 _ I3 q3) fun w' s4 ⟨z',H4,I4,r4,q4⟩=>thn (ho' pins s4 σ H4 y z' u w' _ I4 r2 r4 q4) fun d' s5 ⟨z2,H5,I5,r5,k2,e2,q5⟩=>?_))
   subst e2
   cases r5
   exact wpAny_truthy_bool ⟨H5,I5,q5⟩
theorem line63:(sizeLine:Nat) < 2 ^ 63:=by rw [sizeLine_eq];decide
theorem op_add_str:OpR X (binaryOp .Add) (fun x y H Q=>∃ i j,x=.str i /\ y=.str j /\ i.length + j.length<=sizeLine /\ Q (.str (i ++ j)) H):=by
 intro pins s σ H x y v u Q I rx ry h
 obtain ⟨i,j,rfl,rfl,hz,q⟩:=h
 obtain ⟨t,rfl⟩:=rx
 obtain ⟨t',rfl⟩:=ry
 exact add_str (fun t' tk=>⟨.str (i ++ j),H,I.tok _,⟨_,rfl⟩,q⟩) hz
theorem vals1 {x:V} {us:List Value} (r:Vals [x] us):∃ u,us=[u] /\ RelV x u:=by
 cases r with
 | cons r1 r2=>cases r2;exact ⟨_,rfl,r1⟩
theorem vals2 {x y:V} {us:List Value} (r:Vals [x,y] us):∃ u w',us=[u,w'] /\ RelV x u /\ RelV y w':=by
 cases r with
 | cons r1 r2 =>
   cases r2 with
   | cons r3 r4=>cases r4;exact ⟨_,_,rfl,r1,r3⟩
theorem call_abs:CallR X (.builtin "abs") (fun xs H Q=>∃ i,xs=[.int i] /\ Q (.int (if i < 0 then -i else i)) H):=by
 intro pins s σ H xs us Q I r h
 obtain ⟨i,rfl,q⟩:=h
 obtain ⟨u,rfl,t,rfl⟩:=vals1 r
 exact call_abs_int fun u tk=>⟨.int (if i < 0 then -i else i),H,I.tok _,⟨_,rfl⟩,q⟩
theorem call_max2 (hc:X.calm=true):CallR X (.builtin "max") (fun xs H Q=>∃ i j,xs=[.int i,.int j] /\ Q (.int (if j > i then j else i)) H):=by
 intro pins s σ H xs us Q I r h
 obtain ⟨i,j,rfl,q⟩:=h
 obtain ⟨u,w',rfl,⟨t,rfl⟩,⟨t',rfl⟩⟩:=vals2 r
 refine max_two_ints (I.ok.hd hc) fun h' tk k=>⟨_,H,I.kept k,?_,q⟩
 by_cases hj:j > i
 ·rw [if_pos hj,if_pos hj];exact ⟨_,rfl⟩
 ·rw [if_neg hj,if_neg hj];exact ⟨_,rfl⟩
theorem call_min2 (hc:X.calm=true):CallR X (.builtin "min") (fun xs H Q=>∃ i j,xs=[.int i,.int j] /\ Q (.int (if j < i then j else i)) H):=by
 intro pins s σ H xs us Q I r h
 obtain ⟨i,j,rfl,q⟩:=h
 obtain ⟨u,w',rfl,⟨t,rfl⟩,⟨t',rfl⟩⟩:=vals2 r
 refine min_two_ints (I.ok.hd hc) fun h' tk k=>⟨_,H,I.kept k,?_,q⟩
 by_cases hj:j < i
 ·rw [if_pos hj,if_pos hj];exact ⟨_,rfl⟩
 ·rw [if_neg hj,if_neg hj];exact ⟨_,rfl⟩
theorem call_int1:CallR X (.type "int") (fun xs H Q=>(∃ i,xs=[.int i] /\ Q (.int i) H) \/ ∃ k,xs=[.bl k] /\ Q (.int (if k then 1 else 0)) H):=by
 intro pins s σ H xs us Q I r h
 rcases h with ⟨i,rfl,q⟩ | ⟨k,rfl,q⟩
 ·obtain ⟨u,rfl,t,rfl⟩:=vals1 r
  exact call_int_int ⟨.int i,H,I,⟨_,rfl⟩,q⟩
 ·obtain ⟨u,rfl,r1⟩:=vals1 r
  cases r1
  exact call_int_bool ⟨.int (if k then 1 else 0),H,I.tok _,⟨_,rfl⟩,q⟩
theorem call_str_int:CallR X (.type "str") (fun xs H Q=>∃ i,xs=[.int i] /\ i.natAbs.log2 < 1920 /\ Q (.str (toString i)) H):=by
 intro pins s σ H xs us Q I r h
 obtain ⟨i,rfl,hz,q⟩:=h
 obtain ⟨u,rfl,t,rfl⟩:=vals1 r
 exact PySem.P.str_of_int hz ⟨.str _,H,I.tok _,⟨_,rfl⟩,q⟩
end
end L2
namespace L2
open PySem PySem.Spec PyProof.Rows
section
variable {prog:Program} {w:World} {A:Around} {E:Value->Shared->Prop} {s:Shared} {K:PySem.W.Frag} {x dx C f:Addr} {mA:Str->Option Value} {name:Str} {v:Value}
end
section
variable {P:Program} {w:World} {H H':Hp} {h h':Heap} {a C dx:Addr} {fs fs':List (Str × V)}
end
section
variable {X:Cx} {pins:List (Addr × Obj)} {σ:St} {H:Hp} {s:Shared} {a C dx:Addr} {fs:List (Str × V)} {f:Str} {v:V} {A:Around} {E:Value->Shared->Prop}
end
section
variable {X:Cx} {o e value:Expr} {f:Str} {pos pos' tpos:Pos} {ta tv:TE}
end
section
variable {X:Cx} {pins:List (Addr × Obj)} {σ:St} {H:Hp} {s:Shared} {A:Around} {E:Value->Shared->Prop} {Q:Value->Shared->Prop} {c:Value} {b:Bool}
end
end L2
namespace L2
open PySem PySem.Spec PyProof.Rows
structure Room (k:Nat) (A:Around):Prop where
 hd:2<=k->A.handled=none
 dp:A.depth + 3 * k + 5 < recursionLimit
 un:A.units + 16 * k + 200 < cLine
theorem Room.mono {j k:Nat} {A:Around} (r:Room k A) (h:j<=k):Room j A:=⟨fun z=>r.hd (by omega),by have:=r.dp;omega,by have:=r.un;omega⟩
theorem Room.deeper {k:Nat} {A:Around} (r:Room (k + 1) A) (env:Env):Room k (A.deeper env) :=
 ⟨fun z=>r.hd (by omega),by have:=r.dp;show A.depth + 1 + 3 * k + 5 < _;omega,by have:=r.un;show A.units + 3 + 16 * k + 200 < _;omega⟩
theorem Room.depth {k:Nat} {A:Around} (r:Room k A):A.depth < recursionLimit:=by have:=r.dp;omega
def tNil:TA:=fun _ H Q=>Q [] H
def tCons (ta:TE) (tr:TA):TA:=fun σ H Q=>ta σ H fun x H1=>tr σ H1 fun xs H2=>Q (x :: xs) H2
section
variable {X:Cx} {e:Expr} {es:List Expr} {te:TE} {t:TA} {pos:Pos}
theorem pa_nil:PA X [] tNil:=fun _ _ _ _ H Q I h=>Calls.spliced_nil ⟨[],H,I,.nil,h⟩
theorem pa_cons (ha:PE X e te) (hr:PA X es t) (hs:starEach (e :: es) X.env=(false,eval e X.env) :: starEach es X.env:=by rfl):PA X (e :: es) (tCons te t):=by
 intro pos pins s σ H Q I h
 rw [hs]
 show wpAny _ _ (spliced ((false,eval e X.env) :: backTo pos (starEach es X.env))) _ _ s
 refine Calls.spliced_cons (thn (ha pins s σ H _ I h) fun u s1 ⟨x,H1,I1,r1,q1⟩=>?_)
 exact thn (hr pos pins s1 σ H1 _ I1 q1) fun us s2 ⟨xs,H2,I2,r2,q2⟩=>⟨x :: xs,H2,I2,.cons r1 r2,q2⟩
def tTup (t:TA):TE:=fun σ H Q=>t σ H fun xs H1=>xs.length<=sizeLine /\ ∀ p,H1 p=none->Q (.ref p) (upd H1 p (.tup xs))
def tLst (t:TA):TE:=fun σ H Q=>t σ H fun xs H1=>xs.length<=sizeLine /\ ∀ p,H1 p=none->Q (.ref p) (upd H1 p (.lst xs))
theorem pe_tup {x1} (h:PA X es t):PE X (.Tuple es x1 pos) (tTup t):=by
 intro pins s σ H Q I hq
 refine wpAny_Tuple_spliced (thn (h pos pins s σ H _ I hq) fun us s1 ⟨xs,H1,I1,r,z,q⟩=>⟨by rw [<- r.length];exact z,?_⟩)
 have hf:H1 s1.heap.objs.size=none:=I1.hok.fresh (Nat.le_refl _)
 refine ⟨.ref s1.heap.objs.size,upd H1 s1.heap.objs.size (.tup xs),I1.laid (t':=s1.toks) (fun b u e=>Heap.get?_push_of_some _ e) (Nat.le_refl _) ?_,rfl,q _ hf⟩
 exact ⟨z,us,r,⟨_,Heap.get?_push_size _ rfl,rfl,_,rfl⟩⟩
theorem pe_lst (h:PA X es t):PE X (.List es pos) (tLst t):=by
 intro pins s σ H Q I hq
 refine wpAny_List_spliced (thn (h pos pins s σ H _ I hq) fun us s1 ⟨xs,H1,I1,r,z,q⟩=>⟨by rw [<- r.length];exact z,?_⟩)
 have hf:H1 s1.heap.objs.size=none:=I1.hok.fresh (Nat.le_refl _)
 refine ⟨.ref s1.heap.objs.size,upd H1 s1.heap.objs.size (.lst xs),I1.laid (t':=s1.toks) (fun b u e=>Heap.get?_push_of_some _ e) (Nat.le_refl _) ?_,rfl,q _ hf⟩
 exact ⟨z,us,0,r,Heap.get?_push_size _ rfl⟩
end
abbrev Sp:=List V->Hp->VK->XK->Prop
abbrev CXT:=List Env->Hp->Shared->XK->Value->Shared->Prop
structure Env0 (P:Program) (w:World) (K:PySem.W.Frag) (mg:Str->Option Value) (base:Heap) (A:Around) (outer:List Env) (s:Shared) (H:Hp):Prop where
 frames:A.frames=some outer
 mod:Mod K mg base
 bs:∀ b o,base.get? b=some o->s.heap.get? b=some o /\ H b=none
 bsz:base.objs.size<=s.heap.objs.size
 funs:s.heap.FunFrames base outer
 frf:∀ b ∈ frs outer,H b=none
 hok:HOk P w H s.heap
 bare:AllBare s.gens
def CE (outer:List Env) (P:Program) (w:World) (H:Hp) (s:Shared) (Q:VK) (u:Value) (s':Shared):Prop :=
 ∃ v H',s'.os=s.os /\ AllBare s'.gens /\ Un (frs outer) [] H H' s.heap s'.heap /\ HOk P w H' s'.heap /\ RelV v u /\ Q v H'
def CR (CX:CXT) (outer:List Env) (P:Program) (w:World) (H:Hp) (s:Shared) (Q:VK) (E:XK) (r:Result) (s':Shared):Prop :=
 match r with
 | .ok (.ret u)=>CE outer P w H s Q u s'
 | .ok _=>False
 | .error e=>CX outer H s E e s'
structure FnOk (P:Program) (w:World) (K:PySem.W.Frag) (mg:Str->Option Value) (base:Heap) (CX:CXT) (k:Nat) (f:Addr) (fd:FuncData) (ps:List Str) (sp:Sp):Prop where
 len:∀ vs H Q E,sp vs H Q E->vs.length=ps.length
 run:∀ (A:Around) (outer:List Env) (s:Shared) (H:Hp) (args:Args) (us:List Value) (vs:List V) (Q:VK) (E:XK),Room k A->Env0 P w K mg base A outer s H->BindsTo s fd args (ps.zip us)->Vals vs us->sp vs H Q E ->
  codeAny (model P w) A (.call (.ref f) args) (CR CX outer P w H s Q E) s
theorem FnOk.mono {P:Program} {w:World} {K:PySem.W.Frag} {mg:Str->Option Value} {base:Heap} {CX:CXT} {j k:Nat} {f:Addr} {fd:FuncData} {ps:List Str} {sp:Sp} (F:FnOk P w K mg base CX j f fd ps sp) (h:j<=k) :
 FnOk P w K mg base CX k f fd ps sp:=⟨F.len,fun A outer s H args us vs Q E hr=>F.run A outer s H args us vs Q E (hr.mono h)⟩
section
variable {X:Cx} {pins:List (Addr × Obj)} {σ:St} {H:Hp} {s s':Shared}
theorem Inv.env0 (I:Inv X pins σ H s):Env0 X.prog X.w X.K X.mg X.base X.A X.stack s H :=
 ⟨I.ok.frames,I.ok.mod,I.bs,Nat.le_trans I.ok.bsz I.sz,I.stack,I.stkFree,I.hok,I.bare⟩
theorem Inv.after {Q:VK} {u:Value} (I:Inv X pins σ H s) (h:CE X.stack X.prog X.w H s Q u s'):EP X pins σ Q u s':=by
 obtain ⟨v,H',os,bare,un,hok,r,q⟩:=h
 obtain ⟨hh,g,d,t,os'⟩:=s'
 obtain rfl:os'=s.os:=os
 exact ⟨v,H',I.call (h':=hh) (g':=g) (d':=d) (t':=t) (ch:=[]) un hok bare (fun b z=>absurd z (by simp)),r,q⟩
end
def tCall (sp:Sp) (dvs:List V) (E:XK) (t:TA):TE:=fun σ H Q=>t σ H fun vs H1=>sp (vs ++ dvs) H1 Q E
def Binds (K:PySem.W.Frag) (fd:FuncData) (ps:List Str) (ds:List Value):Prop :=
 ∀ (s:Shared) (us:List Value),K.In s.heap->(us ++ ds).length=ps.length->BindsTo s fd ⟨us,[]⟩ (ps.zip (us ++ ds))
theorem Binds.all {K:PySem.W.Frag} {fd:FuncData} {ps:List Str} (h:∀ us:List Value,us.length=ps.length->bindArgs fd ⟨us,[]⟩=pure (ps.zip us)):Binds K fd ps []:=fun s us _ hl=>by
 rw [List.append_nil] at hl ⊢
 exact .of_eq (h us hl)
def Passes (CX:CXT) (X:Cx) (E:XK):Prop:=∀ (pins:List (Addr × Obj)) (σ:St) (H:Hp) (s:Shared) (e:Value) (s':Shared),Inv X pins σ H s->CX X.stack H s E e s'->X.xe e s'
section
variable {X:Cx} {CX:CXT} {k:Nat} {f C:Addr} {fd:FuncData} {ps:List Str} {sp:Sp} {dvs:List V} {ds:List Value} {E:XK} {x m:Str} {p pos apos:Pos} {e o:Expr} {es:List Expr} {ta:TE} {t:TA}
theorem run_fn {pins:List (Addr × Obj)} {σ:St} {H:Hp} {s:Shared} {Q:VK} {us:List Value} {vs:List V} (F:FnOk X.prog X.w X.K X.mg X.base CX k f fd ps sp) (hr:Room k X.A) (hb:Binds X.K fd ps ds) (hd:Vals dvs ds) (hx:Passes CX X E)
 (I:Inv X pins σ H s) (r:Vals vs us) (h:sp (vs ++ dvs) H Q E):wpAny (model X.prog X.w) X.A (call (.ref f) us) (EP X pins σ Q) X.xe s:=by
 have r2:Vals (vs ++ dvs) (us ++ ds):=r.append hd
 have hl:(us ++ ds).length=ps.length:=by rw [<- r2.length];exact F.len _ _ _ _ h
 refine wpAny_call (codeAny_mono (F.run X.A X.stack s H ⟨us,[]⟩ (us ++ ds) (vs ++ dvs) Q E hr I.env0 (hb s us I.kIn hl) r2 h) fun r s' hq=>?_)
 cases r with
 | error e=>exact hx pins σ H s e s' I hq
 | ok fl =>
   cases fl with
   | ret u=>exact I.after hq
   | next=>exact False.elim hq
   | brk=>exact False.elim hq
   | cont=>exact False.elim hq
theorem pe_call (F:FnOk X.prog X.w X.K X.mg X.base CX k f fd ps sp) (hr:Room k X.A) (hg:Gl X x) (hm:X.mg x=some (.ref f)) (hk:PySem.W.keepIn X.K (.ref f)=true) (hb:Binds X.K fd ps ds) (hd:Vals dvs ds) (hx:Passes CX X E)
 (ha:PA X (e :: es) t) (hdb:(x == ("__debug__":Str))=false:=by decide) (he:starEach (e :: es) X.env=(false,eval e X.env) :: starEach es X.env:=by rfl) (hpl:(backTo pos (starEach es X.env)).any (·.1)=false:=by rfl) :
 PE X (.Call (.Name x p) (e :: es) [] pos) (tCall sp dvs E t):=by
 intro pins s σ H Q I h
 refine wpAny_Call_Name_kw (ld_glob I hg hm ?_ hdb)
 refine PySem.W.callWith_K (h₀:=X.base) I.ok.mod.kin hk (thn (ha pos pins s σ H _ I h) fun us s1 ⟨vs,H1,I1,r,q⟩=>⟨I1.kIn,?_⟩) he hpl
 exact run_fn F hr hb hd hx I1 r q
end
section
variable {X:Cx} {CX:CXT} {k:Nat} {f C:Addr} {fd:FuncData} {ps ks:List Str} {sp:Sp} {E:XK} {x m:Str} {p pos apos kpos:Pos} {e o:Expr} {es:List Expr} {kws:List Keyword} {te ta:TE} {t tk:TA} {nm:Option Str}
variable {g:List Value->List Value->List Value} {gV:List V->List V->List V}
end
structure FnScope (N P:List Str) (sc:Scope):Prop where
 kind:sc.kind=.function
 co:sc.isCoroutine=false
 gen:sc.isGenerator=false
 nd:N.Nodup
 pre:N.take P.length=P
 par:∀ x ∈ P,sc.names.lookup x=some .local \/ sc.names.lookup x=some .cell
 nofree:∀ y ∈ sc.names,y.2 ≠ .free
theorem bindL_out {kindOf:Str->Option NameKind} {x:Str}:∀ {binds:List (Str × Value)} {m:Str->Option Value},(∀ v,(x,v) ∉ binds)->bindL kindOf binds m x=m x
 | [],_,_=>rfl
 | (n,v) :: r,m,h=>by
   unfold bindL
   rw [bindL_out fun w hw=>h w (List.mem_cons_of_mem _ hw)]
   split
   ·have:x ≠ n:=by rintro rfl;exact h v List.mem_cons_self
    simp [this]
   ·rfl
theorem bindC_out {kindOf:Str->Option NameKind} {x:Str}:∀ {binds:List (Str × Value)} {m:Str->Option Value},(∀ v,(x,v) ∉ binds)->bindC kindOf binds m x=m x
 | [],_,_=>rfl
 | (n,v) :: r,m,h=>by
   unfold bindC
   rw [bindC_out fun w hw=>h w (List.mem_cons_of_mem _ hw)]
   split
   ·rfl
   ·have:x ≠ n:=by rintro rfl;exact h v List.mem_cons_self
    simp [this]
theorem bindL_get {kindOf:Str->Option NameKind} {x:Str} {v:Value}:∀ {P:List Str} {vs:List Value} {i:Nat} {m:Str->Option Value},P.Nodup->P[i]?=some x->vs[i]?=some v->kindOf x=some .local ->
 bindL kindOf (P.zip vs) m x=some v
 | [],_,_,_,_,h,_,_=>by simp at h
 | _ :: _,[],_,_,_,_,h,_=>by simp at h
 | p :: P,w :: vs,0,m,nd,h1,h2,hk=>by
   simp at h1 h2;subst h1;subst h2
   show bindL kindOf ((p,w) :: P.zip vs) m p=_
   unfold bindL
   rw [bindL_out fun v hv=>(List.nodup_cons.mp nd).1 (List.of_mem_zip hv).1,if_pos hk]
   simp
 | p :: P,w :: vs,i + 1,m,nd,h1,h2,hk=>by
   show bindL kindOf ((p,w) :: P.zip vs) m x=_
   unfold bindL
   exact bindL_get (i:=i) (List.nodup_cons.mp nd).2 (by simpa using h1) (by simpa using h2) hk
theorem bindC_get {kindOf:Str->Option NameKind} {x:Str} {v:Value}:∀ {P:List Str} {vs:List Value} {i:Nat} {m:Str->Option Value},P.Nodup->P[i]?=some x->vs[i]?=some v->kindOf x ≠ some .local ->
 bindC kindOf (P.zip vs) m x=some v
 | [],_,_,_,_,h,_,_=>by simp at h
 | _ :: _,[],_,_,_,_,h,_=>by simp at h
 | p :: P,w :: vs,0,m,nd,h1,h2,hk=>by
   simp at h1 h2;subst h1;subst h2
   show bindC kindOf ((p,w) :: P.zip vs) m p=_
   unfold bindC
   rw [bindC_out fun v hv=>(List.nodup_cons.mp nd).1 (List.of_mem_zip hv).1,if_neg hk]
   simp
 | p :: P,w :: vs,i + 1,m,nd,h1,h2,hk=>by
   show bindC kindOf ((p,w) :: P.zip vs) m x=_
   unfold bindC
   exact bindC_get (i:=i) (List.nodup_cons.mp nd).2 (by simpa using h1) (by simpa using h2) hk
def start (N:List Str) (vs:List V):St:=vs.map some ++ List.replicate (N.length - vs.length) none
def cxOf (CX:CXT) (P:Program) (w:World) (K:PySem.W.Frag) (mg:Str->Option Value) (base:Heap) (N:List Str) (qual:Str) (scope:Scope) (f:Addr) (cd:Value) (A:Around) (outer:List Env) (s:Shared) (H:Hp) (E:XK):Cx where
 prog:=P
 w:=w
 K:=K
 mg:=mg
 base:=base
 A:=A.deeper (envOfC qual scope s.heap.objs.size f cd)
 N:=N
 s₀:=s
 H₀:=H
 env:=envOfC qual scope s.heap.objs.size f cd
 outer:=outer
 stack:=envOfC qual scope s.heap.objs.size f cd :: outer
 ex:=[]
 calm:=A.handled.isNone
 fn:=fun _=>true
 pn:=[]
 xe:=fun e s'=>wpAny (model P w) (A.deeper (envOfC qual scope s.heap.objs.size f cd)) (leaving (envOfC qual scope s.heap.objs.size f cd) e) (fun _ s''=>CX outer H s E e s'') (fun e' s''=>CX outer H s E e' s'') s'
theorem cell_has {sc:Scope} {n:Nat} {x:Str} (h:sc.names.lookup x=some .cell):∃ c,(cellsFrom n sc.names []).lookup x=some c:=by
 have q:=PySem.W.cellsFrom_some sc.names n [] (.inl h)
 exact Option.isSome_iff_exists.mp q
theorem inv_start {CX:CXT} {P:Program} {w:World} {K:PySem.W.Frag} {mg:Str->Option Value} {base:Heap} {N ps:List Str} {qual:Str} {scope:Scope} {f:Addr} {cd:Value} {A:Around} {outer:List Env} {s s1:Shared} {H:Hp} {E:XK} {us:List Value} {vs:List V}
 (S:FnScope N ps scope) (hd:A.handled.isNone=true->A.handled=none) (e0:Env0 P w K mg base A outer s H) (hl:vs.length=ps.length) (r:Vals vs us)
 (x:InCallC s s.heap.objs.size (bindL (envOfC qual scope s.heap.objs.size f cd).kindOf (ps.zip us) fun _=>none) (cellsFrom (s.heap.objs.size + 1) scope.names []) (bindC (envOfC qual scope s.heap.objs.size f cd).kindOf (ps.zip us) fun _=>none) s1) :
 Inv (cxOf CX P w K mg base N qual scope f cd A outer s H E) [] (start N vs) H s1:=by
 have hpl:ps.length<=N.length:=by have:=congrArg List.length S.pre;rw [List.length_take] at this;omega
 obtain ⟨h1,tk,rfl,hk⟩:=x.done
 have noA:∀ b:Addr,b ∉ (cxOf CX P w K mg base N qual scope f cd A outer s H E).ex:=fun b z=>absurd (show b ∈ ([]:List Addr) from z) (by simp)
 refine ⟨⟨e0.mod,S.kind,rfl,rfl,Nat.le_refl _,fun y z c h1 h2=>?_,fun y hy=>?_,fun y c _ h=>?_,hd,Around.frames_deeper e0.frames,.inr ⟨rfl,rfl⟩,fun b z=>absurd z (noA b),e0.bs,e0.bsz,fun b _ _=>noA b,fun b z=>absurd z (noA b),e0.funs,e0.frf⟩,
  rfl,e0.bare,Un.kept hk,⟨_,x.toInCall.ns,fun i y v h1 h2 h3=>?_⟩,fun y c h=>⟨_,x.cell y c h⟩,e0.hok.fresh (Nat.le_refl _),fun y c h=>?_,fun p hp=>absurd (show p ∈ ([]:List (Addr × Obj)) from hp) (by simp),e0.hok.kept hk,?_⟩
 ·exact name_of_addr x.apart (PySem.mem_of_lookup h1) (PySem.mem_of_lookup h2)
 ·have hy:scope.names.lookup y=some .cell \/ scope.names.lookup y=some .free:=hy
  rcases hy with hy | hy
  ·exact cell_has hy
  ·exact absurd rfl (S.nofree _ (PySem.mem_of_lookup hy))
 ·exact Nat.le_of_lt (x.above y c (PySem.mem_of_lookup h))
 ·have hi:i < vs.length:=by
   unfold start at h2
   by_cases hi:i < vs.length
   ·exact hi
   ·rw [List.getElem?_append_right (by simpa using hi)] at h2
    rw [List.getElem?_replicate] at h2
    split at h2 <;> cases h2
  have ha:vs[i]?=some v:=by
   unfold start at h2
   rw [List.getElem?_append_left (by simpa using hi),List.getElem?_map] at h2
   cases e:vs[i]? with
   | none=>rw [e] at h2;cases h2
   | some a=>rw [e] at h2;cases h2;rfl
  obtain ⟨u,hu,rv⟩:=r.get ha
  have hp:ps[i]?=some y:=by
   rw [<- S.pre,List.getElem?_take_of_lt (by omega)];exact h1
  have ndP:ps.Nodup:=by rw [<- S.pre];exact S.nd.sublist (List.take_sublist _ _)
  refine ⟨u,rv,?_⟩
  rcases S.par y (List.mem_of_getElem? hp) with k | k
  ·exact .inl ⟨k,bindL_get ndP hp hu k⟩
  ·obtain ⟨c,e⟩:=cell_has (n:=s.heap.objs.size + 1) k
   refine .inr ⟨.inl k,c,e,?_⟩
   have q:=x.cell y c e
   rw [bindC_get ndP hp hu (by show scope.names.lookup y ≠ _;rw [k];decide)] at q
   exact q
 ·exact e0.hok.fresh (Nat.le_of_lt (x.above y c (PySem.mem_of_lookup h)))
 ·unfold start
  show _=N.length
  rw [List.length_append,List.length_map,List.length_replicate]
  omega
theorem fn_of {CX:CXT} {P:Program} {w:World} {K:PySem.W.Frag} {mg:Str->Option Value} {base:Heap} {k:Nat} {f:Addr} {name qual:Str} {params:Arguments} {body:List Stmt} {scope:Scope} {dV kV doc pm cdv ct oc:Value} {an od:Option Addr}
 {osl:Array (Option Value)} {N ps:List Str} {sp:Sp} (lk:K.lookup f=some ⟨oc,od,.func (PySem.W.fnOf name qual params body scope dV kV doc pm an cdv ct),osl⟩) (hcd:PySem.W.codeIn K cdv qual=true) (S:FnScope N ps scope)
 (len:∀ vs H Q E,sp vs H Q E->vs.length=ps.length)
 (hbody:∀ (A:Around) (outer:List Env) (s:Shared) (H:Hp) (vs:List V) (Q:VK) (E:XK),Room k (A.deeper (envOfC qual scope s.heap.objs.size f cdv))->sp vs H Q E ->
  ∃ t,PSs (cxOf CX P w K mg base N qual scope f cdv A outer s H E) body t /\ t { nx:=fun _ H'=>Q .non H',rt:=Q } (start N vs) H) :
 FnOk P w K mg base CX (k + 1) f (PySem.W.fnOf name qual params body scope dV kV doc pm an cdv ct) ps sp:=by
 refine ⟨len,fun A outer s H args us vs Q E hr e0 hb r hsp=>?_⟩
 have hl:=len _ _ _ _ hsp
 have KX:K.In s.heap:=e0.mod.kin.keeps fun b o e=>(e0.bs b o e).1
 have lim:s.heap.NoLimit:=e0.mod.nolimit.1.keeps fun b o e=>(e0.bs b o e).1
 have hkind:∀ y ∈ ps.zip us,scope.names.lookup y.1=some .local \/ (scope.names.lookup y.1=some .cell /\ ((cellsFrom (s.heap.objs.size + 1) scope.names []).lookup y.1).isSome=true):=fun ⟨n,v⟩ hy=>by
  rcases S.par n (List.of_mem_zip hy).1 with q | q
  ·exact .inl q
  ·exact .inr ⟨q,PySem.W.cellsFrom_some _ _ _ (.inl q)⟩
 refine codeAny_call_function hr.depth (KX _ _ lk) rfl S.co S.gen rfl (PySem.W.codeRec_of KX hcd) (hb _ _ _ _ ?_)
 refine wpAny_newFunctionEnv_cells S.kind hkind fun env he s1 x=>?_
 subst he
 refine ⟨lim.keeps x.toInCall.keep,codeAny_func ?_⟩
 obtain ⟨t,ht,hq⟩:=hbody A outer s H vs Q E (hr.deeper _) hsp
 have I:Inv (cxOf CX P w K mg base N qual scope f cdv A outer s H E) [] (start N vs) H s1:=inv_start S (fun z=>by simpa using z) e0 hl r x
 refine wpAny_mono (ht [] s1 (start N vs) H _ I hq) (fun fl s' hs=>?_) fun e s' hs=>hs
 have fin:∀ {σ':St} {H':Hp} {v:V} {u:Value},Inv (cxOf CX P w K mg base N qual scope f cdv A outer s H E) [] σ' H' s'->RelV v u->Q v H'->CE outer P w H s Q u s' :=
  fun {σ' H' v u} J rv q=>⟨v,H',J.os,J.bare,J.base,J.hok,rv,q⟩
 cases fl with
 | ret u =>
   obtain ⟨v,σ',H',J,rv,q⟩:=hs
   exact fin J rv q
 | next =>
   obtain ⟨σ',H',J,q⟩:=hs
   exact fin (v:=V.non) (u:=Value.none) J rfl q
 | brk =>
   obtain ⟨_,_,_,q⟩:=hs
   exact False.elim q
 | cont =>
   obtain ⟨_,_,_,q⟩:=hs
   exact False.elim q
end L2
namespace L2
open PySem PySem.Spec PyProof.Rows
section
variable {X:Cx} {x:Str} {p pos:Pos} {e:Expr} {es:List Expr} {t:TA} {id T:String} {r:List V->Hp->VK->Prop}
def tCB (r:List V->Hp->VK->Prop) (t:TA):TE:=fun σ H Q=>t σ H fun vs H1=>r vs H1 Q
theorem pe_callB (hc:CallR X (.builtin id) r) (hg:Gl X x) (hm:X.mg x=none) (hv:bootBuiltins x=some (.builtin id)) (ha:PA X (e :: es) t) (hn:x ≠ "__name__":=by decide) (hdb:(x == ("__debug__":Str))=false:=by decide)
 (he:starEach (e :: es) X.env=(false,eval e X.env) :: starEach es X.env:=by rfl) (hpl:(backTo pos (starEach es X.env)).any (·.1)=false:=by rfl):PE X (.Call (.Name x p) (e :: es) [] pos) (tCB r t):=by
 intro pins s σ H Q I h
 refine wpAny_Call_Name_kw (ld_blt I hg hm hv ?_ hn hdb)
 exact PyProof.Rows.callWith_builtin1 (thn (ha pos pins s σ H _ I h) fun us s1 ⟨vs,H1,I1,r1,q1⟩=>hc pins s1 σ H1 vs us Q I1 r1 q1) he hpl
theorem pe_callTy (hc:CallR X (.type T) r) (hg:Gl X x) (hm:X.mg x=none) (hv:bootBuiltins x=some (.type T)) (ha:PA X (e :: es) t) (hn:x ≠ "__name__":=by decide) (hdb:(x == ("__debug__":Str))=false:=by decide)
 (he:starEach (e :: es) X.env=(false,eval e X.env) :: starEach es X.env:=by rfl) (hpl:(backTo pos (starEach es X.env)).any (·.1)=false:=by rfl):PE X (.Call (.Name x p) (e :: es) [] pos) (tCB r t):=by
 intro pins s σ H Q I h
 refine wpAny_Call_Name_kw (ld_blt I hg hm hv ?_ hn hdb)
 exact PyProof.Rows.callWith_type1 (thn (ha pos pins s σ H _ I h) fun us s1 ⟨vs,H1,I1,r1,q1⟩=>hc pins s1 σ H1 vs us Q I1 r1 q1) he hpl
end
end L2
namespace HT
open PySem PyProof.Rows
section
open PySem.SeqAt
open PySem.AutoSeq1 (wpAny_loadPart')
open PySem.MeetsSeq PySem.MeetsSeq2 PySem.MeetsSeq3
end
section
variable {prog:Program} {w:World} {A:Around} {E:Value->Shared->Prop} {s:Shared}
def sIx (n d:Nat):Option Int->Nat
 | none=>d
 | some v=>if v < 0 then (v + (n:Int)).toNat else min v.toNat n
end
end HT
namespace L2
open PySem PySem.Spec PyProof.Rows
abbrev TO:=St->Hp->(Option Int->Hp->Prop)->Prop
def PO (X:Cx) (e:Option Expr) (t:TO):Prop :=
 ∀ (pins:List (Addr × Obj)) (s:Shared) (σ:St) (H:Hp) (Q:Option Int->Hp->Prop),Inv X pins σ H s->t σ H Q ->
   wpAny (model X.prog X.w) X.A (evalPart e X.env) (fun u s'=>∃ o H',Inv X pins σ H' s' /\ IsPart u o /\ Q o H') X.xe s
def tNoPart:TO:=fun _ H Q=>Q none H
def tPart (t:TE):TO:=fun σ H Q=>t σ H fun x H1=>∃ i,x=.int i /\ Q (some i) H1
section
variable {X:Cx} {e:Expr} {te:TE} {lo hi:Option Expr} {tl th:TO} {pos p2:Pos}
theorem po_none:PO X none tNoPart:=by
 intro pins s σ H Q I h
 rw [evalPart_none]
 exact wpAny_pure ⟨none,H,I,.none,h⟩
theorem po_some (h:PE X e te):PO X (some e) (tPart te):=by
 intro pins s σ H Q I hw
 rw [evalPart_some]
 refine thn (h pins s σ H _ I hw) fun u s1 ⟨x,H1,I1,r1,q1⟩=>?_
 obtain ⟨i,rfl,q⟩:=q1
 obtain ⟨t,rfl⟩:=r1
 exact ⟨some i,H1,I1,.int i t,q⟩
def SlR (X:Cx) (r:V->Option Int->Option Int->Hp->VK->Prop):Prop :=
 ∀ (pins:List (Addr × Obj)) (s:Shared) (σ:St) (H:Hp) (x:V) (v vl vu:Value) (lo hi:Option Int) (sl:Addr) (Q:VK),Inv X pins σ H s->RelV x v->s.heap.IsSliceOf sl vl vu .none->IsPart vl lo->IsPart vu hi->r x lo hi H Q ->
   ∃ T id,typeLookup (.type T) "__getitem__"=pure (some (.builtin id)) /\ s.TypeIs v T /\ wpAny (model X.prog X.w) X.A (getItem v (.ref sl)) (EP X pins σ Q) X.xe s
theorem SlR.or {r r':V->Option Int->Option Int->Hp->VK->Prop} (h:SlR X r) (h':SlR X r'):SlR X (fun x lo hi H Q=>r x lo hi H Q \/ r' x lo hi H Q):=by
 intro pins s σ H x v vl vu lo hi sl Q I rx hs pl pu q
 rcases q with q | q
 ·exact h pins s σ H x v vl vu lo hi sl Q I rx hs pl pu q
 ·exact h' pins s σ H x v vl vu lo hi sl Q I rx hs pl pu q
def tSl (r:V->Option Int->Option Int->Hp->VK->Prop) (te:TE) (tl th:TO):TE:=fun σ H Q=>te σ H fun x H1=>tl σ H1 fun l H2=>th σ H2 fun u H3=>r x l u H3 Q
theorem pe_slice {r:V->Option Int->Option Int->Hp->VK->Prop} (hr:SlR X r) (he:PE X e te) (hl:PO X lo tl) (hu:PO X hi th):PE X (.Subscript e (.Slice lo hi none p2) pos) (tSl r te tl th):=by
 intro pins s σ H Q I h
 refine Subscript_ (thn (he pins s σ H _ I h) fun v s1 ⟨x,H1,I1,r1,q1⟩=>?_)
 refine wpAny_Slice (thn (hl pins s1 σ H1 _ I1 q1) fun vl s2 ⟨l,H2,I2,pl,q2⟩=>thn (hu pins s2 σ H2 _ I2 q2) fun vu s3 ⟨u,H3,I3,pu,q3⟩=>?_)
 rw [evalPart_none]
 refine wpAny_pure ?_
 have I4:Inv X pins σ H3 { s3 with heap:=s3.heap.push { cls:=.type "slice",data:=.fields #[vl,vu,.none] } }:=I3.kept (t':=s3.toks) fun b ob q=>Heap.get?_push_of_some _ q
 obtain ⟨T,id,hT,ht,hg⟩:=hr pins { s3 with heap:=s3.heap.push { cls:=.type "slice",data:=.fields #[vl,vu,.none] } } σ H3 x v vl vu l u s3.heap.objs.size Q I4 r1 (Heap.IsSliceOf.new ..) pl pu q3
 show wpAny (model X.prog X.w) X.A (subscriptTail e (.Slice lo hi none p2) v (.ref s3.heap.objs.size)) (EP X pins σ Q) X.xe { s3 with heap:=s3.heap.push { cls:=.type "slice",data:=.fields #[vl,vu,.none] } }
 exact tail_any (ops:=[.ref s3.heap.objs.size,v]) ht hT hg (by with_unfolding_all rfl)
def cutV (xs:List V) (lo hi:Option Int):List V:=(xs.drop (HT.sIx xs.length 0 lo)).take (HT.sIx xs.length xs.length hi - HT.sIx xs.length 0 lo)
theorem cutV_length (xs:List V) (lo hi:Option Int):(cutV xs lo hi).length<=xs.length:=by
 unfold cutV
 rw [List.length_take,List.length_drop]
 omega
end
end L2
namespace L2
open PySem PySem.Spec PyProof.Rows
def ixN (n:Nat) (i:Int):Option Nat:=if 0<=i then (if i < n then some i.toNat else none) else if -(n:Int)<=i then some (i + n).toNat else none
def atI {α:Type} (xs:List α) (i:Int):Option α:=(ixN xs.length i).bind fun j=>xs[j]?
theorem ixN_seq {n:Nat} {i:Int} {j:Nat} (h:ixN n i=some j):seqIndex? i n=some j /\ j < n /\ -(n:Int)<=i /\ i < n:=by
 unfold ixN at h
 by_cases h0:0<=i
 ·rw [if_pos h0] at h
  by_cases h1:i < n
  ·rw [if_pos h1] at h
   have e:i.toNat=j:=Option.some.inj h
   exact ⟨by rw [seqIndex_of h0 h1,e],by omega,by omega,h1⟩
  ·rw [if_neg h1] at h;cases h
 ·rw [if_neg h0] at h
  by_cases h1:-(n:Int)<=i
  ·rw [if_pos h1] at h
   have e:(i + n).toNat=j:=Option.some.inj h
   exact ⟨by rw [seqIndex_neg (by omega) h1,e],by omega,h1,by omega⟩
  ·rw [if_neg h1] at h;cases h
theorem atI_get {α:Type} {xs:List α} {i:Int} {v:α} (h:atI xs i=some v):∃ j,seqIndex? i xs.length=some j /\ xs[j]?=some v /\ j < xs.length /\ -(xs.length:Int)<=i /\ i < xs.length:=by
 unfold atI at h
 cases e:ixN xs.length i with
 | none=>rw [e] at h;cases h
 | some j =>
   rw [e] at h
   obtain ⟨h1,h2,h3,h4⟩:=ixN_seq e
   exact ⟨j,h1,h,h2,h3,h4⟩
def PlainIx (b:Expr):Prop:=∀ o i,subscripted b false o i=operate [o,i] (getItem o i)
def IxR (X:Cx) (r:R2):Prop :=
 ∀ (value slice:Expr) (pins:List (Addr × Obj)) (s:Shared) (σ:St) (H:Hp) (x y:V) (v u:Value) (Q:VK),Inv X pins σ H s->RelV x v->RelV y u->r x y H Q ->
   subscripted slice false v u=operate [v,u] (getItem v u)->wpAny (model X.prog X.w) X.A (subscriptTail value slice v u) (EP X pins σ Q) X.xe s
def MtR (X:Cx) (id:String) (r:V->List V->Hp->VK->Prop):Prop :=
 ∀ (pins:List (Addr × Obj)) (s:Shared) (σ:St) (H:Hp) (x:V) (xs:List V) (v:Value) (us:List Value) (Q:VK),Inv X pins σ H s->RelV x v->Vals xs us->r x xs H Q ->
   wpAny (model X.prog X.w) X.A (call (.builtin id) (v :: us)) (EP X pins σ Q) X.xe s
section
variable {X:Cx} {a b:Expr} {ta tb:TE} {pos:Pos}
theorem pe_ix {r:R2} (hr:IxR X r) (ha:PE X a ta) (hb:PE X b tb) (hs:PlainIx b):PE X (.Subscript a b pos) (tOp r ta tb):=by
 intro pins s σ H Q I h
 exact Subscript_ (binT ha hb I h fun v u s2 x y H2 I2 rx ry q=>hr a b pins s2 σ H2 x y v u Q I2 rx ry q (hs _ _))
def rIxL (K:PySem.W.Frag):R2:=fun x y H Q=>∃ p xs i v,x=.ref p /\ y=.int i /\ SqL K H p xs /\ atI xs i=some v /\ Q v H
def rIxT (K:PySem.W.Frag):R2:=fun x y H Q=>∃ p xs i v,x=.ref p /\ y=.int i /\ SqT K H p xs /\ atI xs i=some v /\ Q v H
def rIxS:R2:=fun x y H Q=>∃ z i c,x=.str z /\ y=.int i /\ z.length<=sizeLine /\ atI z.cps.toList i=some c /\ Q (.str ⟨#[c]⟩) H
theorem ix_list:IxR X (rIxL X.K):=by
 intro value slice pins s σ H x y v u Q I rx ry h hs
 obtain ⟨p,xs,i,z,rfl,rfl,hq,he,q⟩:=h
 cases rx
 obtain ⟨t,rfl⟩:=ry
 obtain ⟨its,r,pl,hz⟩:=I.list hq
 obtain ⟨j,h1,h2,h3,h4,h5⟩:=atI_get he
 obtain ⟨w,ew,rw'⟩:=r.get h2
 have hl:=r.length
 have hn:=line63
 have fin:EP X pins σ Q w s:=⟨z,H,I,rw',q⟩
 by_cases h0:0<=i
 ·have hj:i.toNat=j:=by
   rw [seqIndex_of h0 h5] at h1
   exact Option.some.inj h1
  exact item_listR pl.isList h0 (by omega) (by rw [hj];simpa using ew) fin hs
 ·have hj:(i + (its.toArray.size:Int)).toNat=j:=by
   rw [seqIndex_neg (by omega) h4] at h1
   rw [List.size_toArray,<- hl]
   exact Option.some.inj h1
  exact subscriptTail_builtinR (x:=w) pl.isList.typeIs slot_list_getitem.lookup
   (wpAny_getItem_list_neg (Q:=fun r s'=>r=w /\ EP X pins σ Q r s') pl.isList (by omega) (by rw [List.size_toArray] <;> omega) (by omega) (by rw [hj];simpa using ew) ⟨rfl,fin⟩) hs
theorem ix_tup:IxR X (rIxT X.K):=by
 intro value slice pins s σ H x y v u Q I rx ry h hs
 obtain ⟨p,xs,i,z,rfl,rfl,hq,he,q⟩:=h
 cases rx
 obtain ⟨t,rfl⟩:=ry
 obtain ⟨its,r,pl,hz⟩:=I.tuple hq
 obtain ⟨j,h1,h2,h3,h4,h5⟩:=atI_get he
 obtain ⟨w,ew,rw'⟩:=r.get h2
 have hl:=r.length
 have hn:=line63
 have fin:EP X pins σ Q w s:=⟨z,H,I,rw',q⟩
 exact subscriptTail_builtinR (x:=w) pl.typeIs slot_tuple_getitem.lookup
  (getItem_tuple (j:=j) (Q:=fun r s'=>r=w /\ EP X pins σ Q r s') pl (by omega) (by omega) (by rw [List.size_toArray,<- hl];exact h1) (by simpa using ew) ⟨rfl,fin⟩) hs
theorem ix_str:IxR X rIxS:=by
 intro value slice pins s σ H x y v u Q I rx ry h hs
 obtain ⟨z,i,c,rfl,rfl,hz,he,q⟩:=h
 obtain ⟨t,rfl⟩:=rx
 obtain ⟨t',rfl⟩:=ry
 obtain ⟨j,h1,h2,h3,h4,h5⟩:=atI_get he
 have hl:z.cps.toList.length=z.length:=by simp [Str.length]
 rw [hl] at h1 h4 h5
 have hn:=line63
 exact tail_any (typeIs_str s z t) slot_str_getitem.lookup (getItem_str (c:=c) (by
  have e1:decide (i < -(2 ^ 63:Int))=false:=decide_eq_false (by omega)
  have e2:decide (i ≥ 2 ^ 63)=false:=decide_eq_false (by omega)
  rw [e1,e2,Bool.or_false]) (by rw [h1];simpa using h2) ⟨.str ⟨#[c]⟩,H,I.tok _,⟨_,rfl⟩,q⟩) hs
theorem mapSeq_set (its:List Value) (n j:Nat) (u:Value):Obj.mapSeq (·.setIfInBounds j u) { cls:=.type "list",data:=.seq its.toArray n }={ cls:=.type "list",data:=.seq (its.set j u).toArray n }:=by
 simp [Obj.mapSeq]
theorem Inv.lst {pins:List (Addr × Obj)} {σ:St} {H:Hp} {s:Shared} {p:Addr} {xs:List V} (I:Inv X pins σ H s) (h:H p=some (.lst xs)) :
 ∃ (its:List Value) (n:Nat),Vals xs its /\ s.heap.get? p=some { cls:=.type "list",data:=.seq its.toArray n } /\ xs.length<=sizeLine:=by
 obtain ⟨z,its,n,r,e⟩:=I.hok p _ h
 exact ⟨its,n,r,e,z⟩
theorem Inv.lstUpd {pins:List (Addr × Obj)} {σ:St} {H:Hp} {s:Shared} {p:Addr} {xs ys:List V} {its its':List Value} {n n':Nat} {f:Obj->Obj} (I:Inv X pins σ H s) (h:H p=some (.lst xs))
 (ho:s.heap.get? p=some { cls:=.type "list",data:=.seq its.toArray n }) (hf:f { cls:=.type "list",data:=.seq its.toArray n }={ cls:=.type "list",data:=.seq its'.toArray n' }) (r:Vals ys its') (hz:ys.length<=sizeLine) (t:Nat) :
 Inv X pins σ (upd H p (.lst ys)) { s with heap:=s.heap.update p f,toks:=t }:=by
 have e:(s.heap.update p f).get? p=some { cls:=.type "list",data:=.seq its'.toArray n' }:=by
  rw [Heap.get?_update_self f ho (by rw [hf] <;> rfl),hf]
 refine I.write (x:=p) (e:=p) (by rw [h];trivial) (.inl rfl) (fun b u hb q=>(Heap.get?_update_other _ _ (Ne.symm hb)).trans q) ⟨_,e⟩ ?_
 exact ⟨hz,its',n',r,e⟩
def rSetL:V->V->V->Hp->(Hp->Prop)->Prop:=fun o i v H Q=>∃ p xs k j,o=.ref p /\ i=.int k /\ H p=some (.lst xs) /\ ixN xs.length k=some j /\ Q (upd H p (.lst (xs.set j v)))
theorem set_list:PSet X rSetL:=by
 intro pins s σ H o i v ov iv u Q I ro ri rv h
 obtain ⟨p,xs,k,j,rfl,rfl,hp,hj,q⟩:=h
 cases ro
 obtain ⟨t,rfl⟩:=ri
 obtain ⟨its,n,r,ho,hz⟩:=I.lst hp
 obtain ⟨h1,h2,h3,h4⟩:=ixN_seq hj
 have hl:=r.length
 have hn:=line63
 have I':Inv X pins σ (upd H p (.lst (xs.set j v))) { s with heap:=s.heap.update p (Obj.mapSeq (·.setIfInBounds j u)) } :=
  I.lstUpd hp ho (mapSeq_set its n j u) (r.set rv j) (by rw [List.length_set];exact hz) s.toks
 by_cases h0:0<=k
 ·have hk:k.toNat=j:=by
   rw [seqIndex_of h0 h4] at h1
   exact Option.some.inj h1
  exact PySem.W.ki_setAt ho h0 (by omega) (by rw [List.size_toArray,<- hl];exact h4) (by rw [hk];exact ⟨_,I',q⟩)
 ·have hk:(k + (its.toArray.size:Int)).toNat=j:=by
   rw [seqIndex_neg (by omega) h3] at h1
   rw [List.size_toArray,<- hl]
   exact Option.some.inj h1
  exact PySem.W.ki_setBack ho (by omega) (by rw [List.size_toArray,<- hl];exact h3) (by omega) (by rw [hk];exact ⟨_,I',q⟩)
theorem slice_bounds (lo hi:Option Int) (n:Nat):(sliceBounds lo hi none n).1=((HT.sIx n 0 lo:Nat):Int) /\ (sliceBounds lo hi none n).2.1=((HT.sIx n n hi:Nat):Int) /\ (sliceBounds lo hi none n).2.2=1:=by
 refine ⟨?_,?_,rfl⟩
 ·cases lo with
  | none=>simp [sliceBounds,HT.sIx]
  | some i =>
    simp only [sliceBounds,HT.sIx,Option.getD_none,show (1:Int) > 0 by decide,if_true]
    by_cases h:i < 0
    ·simp only [h,if_true] <;> omega
    ·simp only [h,if_false] <;> omega
 ·cases hi with
  | none=>simp [sliceBounds,HT.sIx]
  | some i =>
    simp only [sliceBounds,HT.sIx,Option.getD_none,show (1:Int) > 0 by decide,if_true]
    by_cases h:i < 0
    ·simp only [h,if_true] <;> omega
    ·simp only [h,if_false] <;> omega
theorem slicePick_cut (its:List Value) (lo hi:Option Int):slicePick its.toArray lo hi none=((its.drop (HT.sIx its.length 0 lo)).take (HT.sIx its.length its.length hi - HT.sIx its.length 0 lo)).toArray:=by
 obtain ⟨h1,h2,h3⟩:=slice_bounds lo hi its.toArray.size
 unfold slicePick
 rw [h1,h2,h3]
 simp only [sliceRange_one,pick_run,List.size_toArray] <;> rfl
def rSlL (K:PySem.W.Frag):V->Option Int->Option Int->Hp->VK->Prop:=fun x lo hi H Q=>∃ a xs,x=.ref a /\ SqL K H a xs /\ ∀ p,H p=none->Q (.ref p) (upd H p (.lst (cutV xs lo hi)))
theorem sl_list:SlR X (rSlL X.K):=by
 intro pins s σ H x v vl vu lo hi sl Q I rx hs pl pu h
 obtain ⟨a,xs,rfl,hx,q⟩:=h
 cases rx
 obtain ⟨its,r,ht,hz⟩:=I.list hx
 have hlen:=r.length
 refine ⟨"list",_,slot_list_getitem.lookup,ht.isList.typeIs,?_⟩
 refine wpAny_getItem_list_slice ht.isList hs pl pu .none (by simp) ?_ (by rw [List.size_toArray] <;> omega)
 rw [slicePick_cut,<- hlen]
 refine ⟨.ref s.heap.objs.size,_,I.laid (t':=s.toks) (o:=.lst (cutV xs lo hi)) (fun b ob q=>Heap.get?_push_of_some _ q) (Nat.le_refl _) ?_,rfl,q _ (I.hok.fresh (Nat.le_refl _))⟩
 exact ⟨Nat.le_trans (cutV_length xs lo hi) hz,_,0,(r.drop (HT.sIx xs.length 0 lo)).take (HT.sIx xs.length xs.length hi - HT.sIx xs.length 0 lo),Heap.get?_push_size _ rfl⟩
theorem call_len_seq:CallR X (.builtin "len") (fun xs H Q=>∃ p ys,xs=[.ref p] /\ (SqL X.K H p ys \/ SqT X.K H p ys) /\ Q (.int ys.length) H):=by
 intro pins s σ H xs us Q I r h
 obtain ⟨p,ys,rfl,hq,q⟩:=h
 obtain ⟨u,rfl,rx⟩:=vals1 r
 cases rx
 have hn:=line63
 rcases hq with hq | hq
 ·obtain ⟨its,r',pl,hz⟩:=I.list hq
  have hlen:=r'.length
  exact Calls.call_len_list pl.isList (by simp only [List.size_toArray] <;> omega) ⟨.int ys.length,H,I.tok _,⟨s.toks + 1,by rw [List.size_toArray,hlen]⟩,q⟩
 ·obtain ⟨its,r',pl,hz⟩:=I.tuple hq
  have hlen:=r'.length
  exact len_tuple pl (by simp only [List.size_toArray] <;> omega) ⟨.int ys.length,H,I.tok _,⟨s.toks + 1,by rw [List.size_toArray,hlen]⟩,q⟩
theorem call_len_str:CallR X (.builtin "len") (fun xs H Q=>∃ z,xs=[.str z] /\ z.length<=sizeLine /\ Q (.int z.length) H):=by
 intro pins s σ H xs us Q I r h
 obtain ⟨z,rfl,hz,q⟩:=h
 obtain ⟨u,rfl,t,rfl⟩:=vals1 r
 have hn:=line63
 exact len_str (by omega) ⟨.int z.length,H,I.tok _,⟨_,rfl⟩,q⟩
theorem call_list_of:CallR X (.type "list") (fun xs H Q=>∃ p ys,xs=[.ref p] /\ (SqL X.K H p ys \/ SqT X.K H p ys) /\ ∀ l,H l=none->Q (.ref l) (upd H l (.lst ys))):=by
 intro pins s σ H xs us Q I r h
 obtain ⟨p,ys,rfl,hq,q⟩:=h
 obtain ⟨u,rfl,rx⟩:=vals1 r
 cases rx
 have fin:∀ (its:List Value),Vals ys its->ys.length<=sizeLine->∀ (h':Heap) (c':Nat),(∀ b o',s.heap.get? b=some o'->h'.get? b=some o') ->
  h'.get? s.heap.objs.size=some { cls:=.type "list",dict:=none,data:=.seq its.toArray c',slots:=#[] }->EP X pins σ Q (.ref s.heap.objs.size) { s with heap:=h' }:=fun its r' hz h' c' kp e =>
  ⟨.ref s.heap.objs.size,_,I.laid (t':=s.toks) kp (Nat.le_refl _) (show ObjOk X.prog X.w _ h' _ (.lst ys) from ⟨hz,its,c',r',e⟩),rfl,q _ (I.hok.fresh (Nat.le_refl _))⟩
 rcases hq with hq | hq
 ·obtain ⟨its,r',pl,hz⟩:=I.list hq
  have hlen:=r'.length
  obtain ⟨o,ho,hc,n,hd⟩:=pl.isList
  exact call_list_seq p (.inl rfl) ho hc hd (fun h' c' kp e=>fin its r' hz h' c' kp e) (by simp only [List.size_toArray] <;> omega)
 ·obtain ⟨its,r',pl,hz⟩:=I.tuple hq
  have hlen:=r'.length
  obtain ⟨o,ho,hc,n,hd⟩:=pl
  exact call_list_seq p (.inr rfl) ho hc hd (fun h' c' kp e=>fin its r' hz h' c' kp e) (by simp only [List.size_toArray] <;> omega)
theorem call_tuple_of:CallR X (.type "tuple") (fun xs H Q=>∃ p ys,xs=[.ref p] /\ ((SqL X.K H p ys /\ ∀ l,H l=none->Q (.ref l) (upd H l (.tup ys))) \/ (SqT X.K H p ys /\ Q (.ref p) H))):=by
 intro pins s σ H xs us Q I r h
 obtain ⟨p,ys,rfl,h⟩:=h
 obtain ⟨u,rfl,rx⟩:=vals1 r
 cases rx
 rcases h with ⟨hq,q⟩ | ⟨hq,q⟩
 ·obtain ⟨its,r',pl,hz⟩:=I.list hq
  have hlen:=r'.length
  refine call_tuple_list pl.isList (fun h' kp=>?_) (by simp only [List.size_toArray] <;> omega)
  have I1:Inv X pins σ H { s with heap:=h' }:=I.kept (t':=s.toks) kp
  have I2:Inv X pins σ (upd H h'.objs.size (.tup ys)) { s with heap:=h'.push { cls:=.type "tuple",data:=.seq its.toArray } } :=
   I1.laid (t':=s.toks) (fun b o e=>Heap.get?_push_of_some _ e) (Nat.le_refl _) (show ObjOk X.prog X.w _ _ _ (.tup ys) from ⟨hz,its,r',IsTup.new _ _⟩)
  exact ⟨.ref h'.objs.size,_,I2,rfl,q _ (I1.hok.fresh (Nat.le_refl _))⟩
 ·obtain ⟨its,r',pl,hz⟩:=I.tuple hq
  exact call_tuple_same pl ⟨.ref p,H,I,rfl,q⟩
def tyV (K:PySem.W.Frag) (T:String) (x:V) (H:Hp):Prop:=match x with
 | .str _=>T="str"
 | .int _=>T="int"
 | .ref p=>(T="list" /\ ∃ xs,SqL K H p xs) \/ (T="tuple" /\ ∃ o,K.lookup p=some o /\ o.cls=.type "tuple" /\ o.dict=none) \/
  (T="dict" /\ ((∃ kvs,H p=some (.dK kvs)) \/ ∃ kvs,H p=some (.dT kvs))) \/ (T="set" /\ ∃ S n,H p=some (.set S n))
 | _=>False
theorem tyV_is {pins:List (Addr × Obj)} {σ:St} {H:Hp} {s:Shared} {T:String} {x:V} {v:Value} (I:Inv X pins σ H s) (r:RelV x v) (ty:tyV X.K T x H) :
 s.TypeIs v T /\ ∀ a,v=.ref a->∃ ob,s.heap.get? a=some ob /\ ob.dict=none:=by
 cases x with
 | str z =>
   obtain ⟨t,rfl⟩:=r
   cases (show T="str" from ty)
   exact ⟨typeIs_str s z t,fun _ e=>nomatch e⟩
 | int i =>
   obtain ⟨t,rfl⟩:=r
   cases (show T="int" from ty)
   exact ⟨typeIs_int s i t,fun _ e=>nomatch e⟩
 | ref p =>
   cases r
   rcases ty with ⟨rfl,xs,hq⟩ | ⟨rfl,o,hk,hc,hd⟩ | ⟨rfl,hk⟩ | ⟨rfl,S,n,hk⟩
   ·obtain ⟨its,_,pl,_⟩:=I.list hq
    refine ⟨pl.isList.typeIs,fun a e=>?_⟩
    cases e
    obtain ⟨o,n,e,c,hd,_⟩:=pl
    exact ⟨o,e,hd⟩
   ·refine ⟨⟨o,I.kIn p o hk,hc⟩,fun a e=>?_⟩
    cases e
    exact ⟨o,I.kIn _ o hk,hd⟩
   ·have z:∃ o,s.heap.get? p=some o /\ o.ExactDict:=by
     rcases hk with ⟨kvs,hk⟩ | ⟨kvs,hk⟩
     ·obtain ⟨_,_,_,_,o,_,_,e,ex,_⟩:=I.hok p _ hk
      exact ⟨o,e,ex⟩
     ·obtain ⟨_,_,_,_,o,_,_,e,ex,_⟩:=I.hok p _ hk
      exact ⟨o,e,ex⟩
    obtain ⟨o,e,ex⟩:=z
    refine ⟨⟨o,e,ex.1⟩,fun a e2=>?_⟩
    cases e2
    exact ⟨o,e,ex.2.1⟩
   ·obtain ⟨o,_,_,_,e,ex,_⟩:=I.hok p _ hk
    refine ⟨⟨o,e,ex.1⟩,fun a e2=>?_⟩
    cases e2
    exact ⟨o,e,ex.2.1⟩
 | _=>exact False.elim ty
def tBM0 (K:PySem.W.Frag) (T:String) (r:V->List V->Hp->VK->Prop) (to:TE):TE:=fun σ H Q=>to σ H fun x H1=>tyV K T x H1 /\ r x [] H1 Q
def tBM (K:PySem.W.Frag) (T:String) (r:V->List V->Hp->VK->Prop) (to:TE) (t:TA):TE:=fun σ H Q=>to σ H fun x H1=>tyV K T x H1 /\ t σ H1 fun xs H2=>r x xs H2 Q
variable {o e:Expr} {es:List Expr} {to:TE} {t:TA} {name:Str} {apos cpos:Pos} {T id:String} {r:V->List V->Hp->VK->Prop}
theorem pe_bm0 (pa:PlainAttrs T) (slot:Slot T name id) (hty:typeOf (.builtin id)=pure (.type "method_descriptor")) (hm:MtR X id r) (ho:PE X o to)
 (hbase:attributeBase o name X.env (eval o X.env)=eval o X.env:=by rfl) (hline:(apos.endLine == cpos.line)=true:=by rfl):PE X (.Call (.Attribute o name apos) [] [] cpos) (tBM0 X.K T r to):=by
 intro pins s σ H Q I h
 refine wpAny_Call_method0_late hbase hline (thn (ho pins s σ H _ I h) fun v s1 ⟨x,H1,I1,r1,ty,q1⟩=>?_)
 obtain ⟨h1,h2⟩:=tyV_is I1 r1 ty
 exact ⟨T,id,pa,slot,hty,h1,h2,Calls.callWith_builtin rfl (PySem.evalArgs_none (hm pins s1 σ H1 x [] v [] Q I1 r1 .nil q1))⟩
theorem pe_bm (pa:PlainAttrs T) (slot:Slot T name id) (hty:typeOf (.builtin id)=pure (.type "method_descriptor")) (hm:MtR X id r) (ho:PE X o to) (ha:PA X (e :: es) t)
 (hbase:attributeBase o name X.env (eval o X.env)=eval o X.env:=by rfl)
 (hfew:((backTo cpos (starEach (e :: es) X.env)).all (fun x=>!x.1) && (backToKw cpos (keywordEach [] X.env)).all (fun x=>x.1.isSome)
  && decide ((e :: es).length + ([]:List Keyword).length + (if ([]:List Keyword).isEmpty then 0 else 1) < 30))=true:=by rfl)
 (hline:(apos.endLine == cpos.line)=true:=by rfl) (hs:starEach (e :: es) X.env=(false,eval e X.env) :: starEach es X.env:=by rfl) (hplain:(backTo cpos (starEach es X.env)).any (·.1)=false:=by rfl) :
 PE X (.Call (.Attribute o name apos) (e :: es) [] cpos) (tBM X.K T r to t):=by
 intro pins s σ H Q I h
 refine wpAny_Call_method_late hbase hfew hline rfl (thn (ho pins s σ H _ I h) fun v s1 ⟨x,H1,I1,r1,ty,q1⟩=>?_)
 obtain ⟨h1,h2⟩:=tyV_is I1 r1 ty
 refine ⟨T,id,pa,slot,hty,h1,h2,?_⟩
 have hA:=ha cpos pins s1 σ H1 _ I1 q1
 rw [hs] at hA ⊢
 refine Calls.callWith_builtin (by show (false || (backTo cpos (starEach es X.env)).any (·.1))=false;rw [hplain] <;> rfl) (Calls.evalArgs_plain ?_)
 exact thn hA fun us s2 ⟨vs,H2,I2,r2,q2⟩=>hm pins s2 σ H2 x vs v us Q I2 r1 r2 q2
/- xs.append(e),list.index on a module's tuple .. are MtR facts of 06m -/
end
end L2
namespace L2
open PySem PySem.Spec PyProof.Rows
def MtM (X:Cx) (id:String) (r:V->List V->Hp->VK->Prop):Prop :=
 ∀ (pins:List (Addr × Obj)) (s:Shared) (σ:St) (H:Hp) (x:V) (xs:List V) (v:Value) (us:List Value) (Q:VK),Inv X pins σ H s->RelV x v->Vals xs us->r x xs H Q ->
   wpAny (model X.prog X.w) X.A (call (.builtin id) (v :: us)) (EP X pins σ Q) X.xe s
theorem Vals.one:∀ {x:V} {us:List Value},Vals [x] us->∃ u,us=[u] /\ RelV x u
 | _,_,.cons r .nil=>⟨_,rfl,r⟩
theorem Vals.rep {xs:List V} {us:List Value} (h:Vals xs us):∀ k:Nat,Vals (List.replicate k xs).flatten (List.replicate k us).flatten
 | 0=>.nil
 | k + 1=>by
   rw [List.replicate_succ,List.replicate_succ,List.flatten_cons,List.flatten_cons]
   exact Vals.append h (Vals.rep h k)
theorem foldl_rep (its:List Value):∀ (k:Nat) (acc:List Value),
 List.foldl (fun x1 x2=>x1 ++ x2) acc.toArray (List.replicate k its.toArray)=(acc ++ (List.replicate k its).flatten).toArray
 | 0,acc=>by simp
 | k + 1,acc=>by
   have e:acc.toArray ++ its.toArray=(acc ++ its).toArray:=by simp
   have e2:(acc ++ its) ++ (List.replicate k its).flatten=acc ++ (List.replicate (k + 1) its).flatten:=by
    rw [List.replicate_succ,List.flatten_cons,List.append_assoc]
   rw [<- e2,<- foldl_rep its k (acc ++ its),<- e,List.replicate_succ,List.foldl_cons]
section
variable {X:Cx} {pins:List (Addr × Obj)} {σ:St} {H:Hp} {s:Shared} {l b:Addr} {xs ys zs:List V}
theorem Inv.lset {its its':List Value} {n:Nat} {f:Array Value->Array Value} {t':Nat} (I:Inv X pins σ H s) (hH:H l=some (.lst xs))
 (e:s.heap.get? l=some { cls:=.type "list",data:=.seq its.toArray n }) (hf:f its.toArray=its'.toArray) (hv:Vals ys its') (hz:ys.length<=sizeLine) :
 Inv X pins σ (upd H l (.lst ys)) { s with heap:=s.heap.update l (Obj.mapSeq f),toks:=t' }:=by
 have q:=PySem.IsL.update e f
 rw [hf] at q
 refine I.write (x:=l) (e:=l) (by rw [hH];exact trivial) (.inl rfl) (fun b' u hb hu=>(Heap.get?_update_other s.heap (Obj.mapSeq f) (Ne.symm hb)).trans hu) ⟨_,q⟩ ?_
 exact ⟨hz,its',_,hv,q⟩
theorem Inv.lnew {its:List Value} {t':Nat} (I:Inv X pins σ H s) (hv:Vals ys its) (hz:ys.length<=sizeLine) :
 Inv X pins σ (upd H s.heap.objs.size (.lst ys)) { s with heap:=s.heap.push { cls:=.type "list",data:=.seq its.toArray },toks:=t' } :=
 I.laid (fun _ _ q=>Heap.get?_push_of_some _ q) (Nat.le_refl _) ⟨hz,its,0,hv,Heap.get?_push_size _ rfl⟩
theorem Inv.fresh (I:Inv X pins σ H s):H s.heap.objs.size=none:=I.hok.fresh (Nat.le_refl _)
theorem Inv.lstM (I:Inv X pins σ H s) (hH:H l=some (.lst xs)):xs.length<=sizeLine /\ ∃ (its:List Value) (n:Nat),Vals xs its /\ xs.length=its.length /\ s.heap.get? l=some { cls:=.type "list",data:=.seq its.toArray n }:=by
 obtain ⟨z,its,n,r,e⟩:=I.hok l _ hH
 exact ⟨z,its,n,r,r.length,e⟩
theorem notLongL {n:Nat} (h:n<=sizeLine):Builtin.List.listTooLong n=false:=by
 unfold Builtin.List.listTooLong
 exact decide_eq_false (by omega)
end
section
variable {X:Cx}
def rAppend:V->List V->Hp->VK->Prop:=fun x vs H Q=>∃ l xs y,x=.ref l /\ vs=[y] /\ H l=some (.lst xs) /\ xs.length < sizeLine /\ Q .non (upd H l (.lst (xs ++ [y])))
theorem mt_append:MtM X "list.append" rAppend:=by
 intro pins s σ H x vs v us Q I rx rv h
 obtain ⟨l,xs,y,rfl,rfl,hH,hz,q⟩:=h
 cases rx
 obtain ⟨u,rfl,ru⟩:=rv.one
 obtain ⟨z,its,n,r,hl,e⟩:=I.lstM hH
 refine call_meets F.slot_list_append ⟨_,e,rfl⟩ F.entry_list_append (F.args_list_append_2 _ _) (PySem.list_append l its.toArray n u (by rw [List.size_toArray];omega)) ⟨e,?_⟩
 refine ⟨.non,_,I.lset (its':=its ++ [u]) hH e (by simp) (r.append (.cons ru .nil)) ?_,rfl,q⟩
 rw [List.length_append,List.length_singleton]
 omega
theorem len_rep {α:Type} (xs:List α) (k:Nat):(List.replicate k xs).flatten.length=k * xs.length:=by
 induction k with
 | zero=>simp
 | succ k ih=>rw [List.replicate_succ,List.flatten_cons,List.length_append,ih,Nat.succ_mul,Nat.add_comm]
end
section
variable {prog:Program} {w:World} {A:Around} {E:Value->Shared->Prop} {s:Shared}
set_option maxRecDepth 100000 in
end
section
variable {X:Cx}
end
end L2
namespace Att
open PySem PySem.W PySem.Calls PyProof.Rows
theorem ints_of_wellAll {P:Params} {h:Heap}:∀ (ns:List Int) (vs:List Value),WellAll P h vs (ns.map WData.int)->IntsAre vs ns:=by
 intro ns
 induction ns with
 | nil =>
   intro vs w
   rw [List.map_nil] at w
   cases w
   exact .nil
 | cons n ns ih =>
   intro vs w
   rw [List.map_cons] at w
   cases w with
   | cons a b =>
     cases a
     exact .cons _ _ (ih _ b)
theorem script_of {l:OpenLaw} {n:Nat} (hn:l.most=some n) {P:Params} {h:Heap} {args:List WData} {vals:List Value}
 (hpre:l.row.toRowW.claim.pre args=true) (hwl:WellAll P h vals args) :
 ∃ a vs ns,vals=[Value.ref a] /\ args=[WData.list (ns.map WData.int)] /\ h.get? a=some { cls:=.type "list",data:=.seq vs.toArray } /\ IntsAre vs ns /\ ns.length<=n:=by
 have hsh:WShape.hasAll [] args [.list .int]=true:=(pre_splitW hpre).1
 have hc:l.pre.holds [] { args:=args }=true:=(pre_splitW hpre).2
 obtain ⟨d,r,rfl,h1,h2⟩:=hasAllW_cons hsh
 obtain rfl:=hasAllW_nil h2
 obtain ⟨xs,rfl,h3⟩:=hasW_list h1
 obtain ⟨ns,rfl⟩:=items_int h3
 have hlen:ns.length<=n:=by
  unfold OpenLaw.pre at hc
  have h4:(WTm.not (.lt (.lit (.int (n:Int))) (.len (.arg 0)))).holds [] { args:=[.list (ns.map .int)] }=true:=by
   have h4:=(holds_andW hc).1
   rw [hn] at h4
   exact h4
  have h5:=condW_of h4 (w_not (w_lt w_lit (w_len_list (w_arg rfl))))
  rw [List.length_map] at h5
  refine Nat.le_of_not_lt fun q=>?_
  have q':(n:Int) < ((ns.length:Nat):Int):=by omega
  first
   | (rw [decide_eq_true q'] at h5;exact absurd h5 (by decide))
   | (simp at h5;omega)
 cases hwl with
 | cons w1 w2 =>
   cases w2
   cases w1 with
   | list ho hall=>exact ⟨_,_,ns,rfl,rfl,ho,ints_of_wellAll ns _ hall,hlen⟩
theorem post_true (l:OpenLaw) (args:List WData):l.row.toRowW.claim.post args (.bool true) args=true :=
 postW_of (r:=l.row.toRowW) (X:=(true == true))
  (show WShape.has [] (.bool true) .bool=true by first | rfl | decide | simp [WShape.has,WShape.arms,WShape.armsAll])
  (show (WTm.eq .res (.lit (.bool true))).value [] { args:=args,res:=some (.bool true),after:=args }=some (.bool (true == true)) from w_eq_bool (w_res rfl) w_lit) rfl
theorem attach_call {l:OpenLaw} {n:Nat} {q:Program} {loose:List Str} {XP:(Str->Option Value)->Heap->Prop} {YP:World->Heap->Prop} {d:DefRec}
 (hn:l.most=some n) (hdf:d.params.defaults=[])
 (call:∀ (w:World) (s₀ s₁:Shared) (mg mb:Str->Option Value) (fa:Addr) (o:Obj) (pm cd doc:Value) (a:Addr) (vs:List Value) (ns:List Int),
  Ground q loose [] XP w s₀ mg mb s₁.heap->YP w s₁.heap ->
  s₁.heap.get? fa=some o->o.data=.func (docDef d.name d.params d.body d.scope pm cd doc)->s₁.heap.CodeRec cd d.name->mg d.name=some (.ref fa) ->
  s₁.heap.get? a=some { cls:=.type "list",data:=.seq vs.toArray }->IntsAre vs ns->ns.length<=n->s₁.gens=#[] ->
  codeAny (model l.prog w) callerA (.call (.ref fa) ⟨[.ref a],[]⟩) (fun r s'=>r=.ok (.ret (.bool true)) /\ OldK s₁.heap s'.heap /\ s'.os=s₁.os /\ AllBare s'.gens) s₁) :
 WalkO q loose XP YP l.row.toRowW d [] (fun f vs=>PySem.call f vs):=by
 intro w s₀ s₁ mg mb G Y fa o pm cd doc dV kV ho hd hcd hD hmg hg args vals as hpre hlay hrd hwl hlo
 obtain rfl:dV=.none:=Dflts.none hD hdf
 obtain rfl:kV=.none:=Dflts.noKw hD
 obtain ⟨a,vs,ns,rfl,rfl,hobj,hints,hlen⟩:=script_of hn hpre hwl
 refine enter_call (codeAny_mono (call w s₀ s₁ mg mb fa o pm cd doc a vs ns G Y ho (fd_plain hd) hcd hmg hobj hints hlen hg) fun r s' hq=>?_)
 obtain ⟨rfl,h2,h3,h4⟩:=hq
 exact ⟨.inl ⟨.bool true,.bool true,[],rfl,fun _=>rfl,.bool true,post_true l _,fun _=>⟨List.Pairwise.nil,fun _ hm=>(nomatch hm)⟩⟩,h2,h3,h4⟩
section
variable {prog:Program} {w:World} {A:Around} {E:Value->Shared->Prop} {s:Shared} {K:Frag}
end
end Att
namespace L2
open PySem PySem.Spec PyProof.Rows
theorem vals_ints:∀ {vs:List Value} {ns:List Int},IntsAre vs ns->Vals (ns.map V.int) vs
 | _,_,.nil=>.nil
 | _,_,.cons n t h=>.cons ⟨t,rfl⟩ (vals_ints h)
def Only (H:Hp):Prop:=∀ b,H b=none \/ ∃ o xs,H b=some (.frz o (.lst xs))
theorem law_call {P:Program} {w:World} {K:PySem.W.Frag} {mg mb:Str->Option Value} {CX:CXT} {k:Nat} {fa a:Addr} {fd:FuncData} {x:Str} {sp:Sp} {s₁:Shared} {vs:List Value} {ns:List Int}
 (KX:K.In s₁.heap) (hns:s₁.heap.Ns mainGlobals mg) (hb:s₁.heap.Ns builtinsNs mb) (hbb:∀ x:Str,x ≠ "__name__"->mb x=bootBuiltins x) (hlim:s₁.heap.NoLimit /\ s₁.heap.NoDigits) (hg:s₁.gens=#[])
 (ha:s₁.heap.get? a=some { cls:=.type "list",data:=.seq vs.toArray }) (hi:IntsAre vs ns) (hl:ns.length<=sizeLine) (hr:Room k callerA)
 (F:∀ base:Heap,K.In base->base.Ns mainGlobals mg->FnOk P w K mg base CX k fa fd [x] sp) (hbind:∀ (s:Shared) (u:Value),BindsTo s fd ⟨[u],[]⟩ [(x,u)])
 (hsp:∀ H:Hp,Only H->SqL K H a (ns.map V.int)->sp [.ref a] H (fun v _=>v=.bl true) fun _ _ _=>False)
 (hCX:∀ H e s',CX [] H s₁ (fun _ _ _=>False) e s'->False) :
 codeAny (model P w) callerA (.call (.ref fa) ⟨[.ref a],[]⟩) (fun r s'=>r=.ok (.ret (.bool true)) /\ OldK s₁.heap s'.heap /\ s'.os=s₁.os /\ AllBare s'.gens) s₁:=by
 have rv:=vals_ints hi
 have lenV:=hi.length
 have core:∀ H:Hp,Only H->SqL K H a (ns.map V.int)->HOk P w H s₁.heap->(∀ b,H b ≠ none->b=a)->(H a ≠ none->K.lookup a=none) ->
  codeAny (model P w) callerA (.call (.ref fa) ⟨[.ref a],[]⟩) (fun r s'=>r=.ok (.ret (.bool true)) /\ OldK s₁.heap s'.heap /\ s'.os=s₁.os /\ AllBare s'.gens) s₁:=by
  intro H hO hS hok hA hK
  have base_of:∀ {b:Addr} {o:Obj},s₁.heap.get? b=some o->H b=none->(hidT s₁.heap H).get? b=some o:=fun e n=>hidT_get e n
  have noA:∀ {b:Addr} {o:Obj} {es:Array DictEntry} {ep:Nat},s₁.heap.get? b=some o->o.data=.dict es ep->H b=none:=fun {b o es ep} e d=>by
   cases q:H b with
   | none=>rfl
   | some u =>
     have e':b=a:=hA b (by rw [q];simp)
     subst e'
     rw [ha] at e;cases e
     have d':Data.seq vs.toArray _=Data.dict es ep:=d
     cases d'
  have nsK:∀ {b:Addr} {m:Str->Option Value},s₁.heap.Ns b m->(hidT s₁.heap H).Ns b m:=fun {b m} ⟨o,es,ep,e,d,r⟩=>⟨o,es,ep,base_of e (noA e d),d,r⟩
  have hKb:K.In (hidT s₁.heap H):=fun b o e=>base_of (KX b o e) (by
   cases q:H b with
   | none=>rfl
   | some u =>
     have e':b=a:=hA b (by rw [q];simp)
     subst e'
     rw [hK (by rw [q];simp)] at e;cases e)
  have hM:Mod K mg (hidT s₁.heap H):=⟨hKb,nsK hns,⟨mb,nsK hb,hbb⟩,(let ⟨mc,h1,h2⟩:=hlim.1;⟨mc,nsK h1,h2⟩),(let ⟨mc,h1,h2⟩:=hlim.2;⟨mc,nsK h1,h2⟩)⟩
  have e0:Env0 P w K mg (hidT s₁.heap H) callerA [] s₁ H:=⟨rfl,hM,fun b o e=>of_hidT e,Nat.le_of_eq (hidT_size _ _),trivial,fun b hb=>absurd (show b ∈ ([]:List Addr) from hb) (by simp),hok,.of_eq hg⟩
  refine codeAny_mono ((F _ hKb (nsK hns)).run callerA [] s₁ H ⟨[.ref a],[]⟩ [.ref a] [.ref a] _ _ hr e0 (hbind s₁ (.ref a)) (.cons rfl .nil) (hsp H hO hS)) fun r s' h=>?_
  cases r with
  | error e=>exact (hCX H e s' h).elim
  | ok fl =>
    cases fl with
    | next=>exact False.elim h
    | brk=>exact False.elim h
    | cont=>exact False.elim h
    | ret u =>
      obtain ⟨v,H',os,bare,un,hok',r',q⟩:=h
      have q':v=.bl true:=q
      subst q'
      obtain rfl:u=Value.bool true:=r'
      refine ⟨rfl,OldK.of_keep fun b o e=>?_,os,bare⟩
      cases q:H b with
      | none=>exact un.keep b o e q (by intro z;exact absurd (show b ∈ ([]:List Addr) from z) (by simp)) (by simp)
      | some u =>
        rcases hO b with z | ⟨ob,xs,z⟩
        ·rw [q] at z;cases z
        ·have z2:=un.frzs b ob _ z
         obtain ⟨e1,_⟩:=hok b _ z
         obtain ⟨e2,_⟩:=hok' b _ z2
         rw [e] at e1;cases e1
         exact e2
 cases hk:K.lookup a with
 | some o =>
   have e:=KX a o hk
   rw [ha] at e
   cases e
   refine core (fun _=>none) (fun _=>.inl rfl) (.inr ⟨_,vs.toArray,_,hk,rfl,rfl,rfl,by rw [List.size_toArray,lenV];exact hl,by simpa using rv⟩) (fun b u z=>by have z':(none:Option HO)=some u:=z;cases z') (fun b z=>absurd rfl z) fun z=>absurd rfl z
 | none =>
   refine core (fun b=>if b=a then some (.frz { cls:=.type "list",data:=.seq vs.toArray } (.lst (ns.map V.int))) else none) (fun b=>?_) (.inl (.inr ⟨{ cls:=.type "list",data:=.seq vs.toArray },if_pos rfl⟩)) (fun b u z=>?_) (fun b z=>?_) fun _=>hk
   ·by_cases hb:b=a
    ·exact .inr ⟨_,_,if_pos hb⟩
    ·exact .inl (if_neg hb)
   ·by_cases hb:b=a
    ·have z':=(if_pos hb).symm.trans z
     cases z'
     subst hb
     exact ⟨ha,by rw [List.length_map];exact hl,vs,_,rv,ha⟩
    ·have z':=(if_neg hb).symm.trans z
     cases z'
   ·by_cases hb:b=a
    ·exact hb
    ·exact absurd (if_neg hb) z
end L2
namespace L2
open PySem PySem.Spec PyProof.Rows
theorem walk_of {l:PySem.W.OpenLaw} {n k:Nat} {q:Program} {loose:List Str} {XP:(Str->Option Value)->Heap->Prop} {YP:World->Heap->Prop} {d:DefRec} {K:Params->PySem.W.Frag} {CX:World->CXT} {sp:World->Sp} {x:Str}
 (hn:l.most=some n) (hn2:n<=sizeLine) (hdf:d.params.defaults=[]) (hr:Room k callerA)
 (hY:∀ (w:World) (h:Heap),YP w h->(K w.params).In h)
 (F:∀ (w:World) (mg:Str->Option Value) (fa:Addr) (h:Heap),(K w.params).In h->h.Ns mainGlobals mg->mg d.name=some (.ref fa) ->
  ∃ fd:FuncData,(∀ (s:Shared) (u:Value),BindsTo s fd ⟨[u],[]⟩ [(x,u)]) /\
    ∀ base:Heap,(K w.params).In base->base.Ns mainGlobals mg->FnOk l.prog w (K w.params) mg base (CX w) k fa fd [x] (sp w))
 (hsp:∀ (w:World) (H:Hp) (a:Addr) (ns:List Int),ns.length<=n->Only H->SqL (K w.params) H a (ns.map V.int)->sp w [.ref a] H (fun v _=>v=.bl true) fun _ _ _=>False)
 (hCX:∀ (w:World) (H:Hp) (s:Shared) (e:Value) (s':Shared),CX w [] H s (fun _ _ _=>False) e s'->False) :
 PySem.W.WalkO q loose XP YP l.row.toRowW d [] (fun f vs=>PySem.call f vs):=by
 refine Att.attach_call hn hdf fun w s₀ s₁ mg mb fa o pm cd doc a vs ns G Y ho hd hcd hmg hobj hints hlen hg=>?_
 have KX:=hY w _ Y
 obtain ⟨fd,hb,hF⟩:=F w mg fa _ KX G.T.g hmg
 exact law_call KX G.T.g G.T.b G.T.builtins ⟨G.T.nolimit,G.T.nodigits⟩ hg hobj hints (Nat.le_trans hlen hn2) hr hF hb (fun H hO hS=>hsp w H a ns hlen hO hS) fun H e s'=>hCX w H s₁ e s'
end L2
/- THE LAST THEOREM (shape;LID,My.* are yours):
   My.Adr: a structure of the addresses that your layer names (classes,functions);My.Txt K t: a structure (Prop) of the equations over K;
   My.txt_mk:{K} {implicit addresses ..} (e1:nsIn K mainGlobals "law"=some (some (.ref f))) (e2:K.lookup f=some ⟨oc,od,.func (fnOf "law" "law" params body scope dV kV doc pm an cdv ct),sl⟩) (e3:codeIn K cdv "law"=true) ..:∃ t,My.Txt K t
set_option maxRecDepth 100000 in
set_option maxHeartbeats 0 in
theorem PySem.Challenge.cw_LID_holds : PySem.Challenge.rw_LID.Holds := by
 w_on;o_law;k_head;(case hw=>w_witness2)
 k_fill
 refine L2.walk_of (l:=PySem.Challenge.rw_LID) (n:=63) (k:=40) (x:="script") (CX:=fun w=>..) (sp:=fun _=>My.sp_law) rfl (by decide) rfl ⟨rfl,by decide,by decide⟩ (fun w h Y=>PySem.W.kIn_of Y) ?F ?S ?C
 case F =>
  intro w mg fa h KX G hmg
  have T:∃ t,My.Txt (L2.KOf KX) t:=by
   dsimp only [L2.KOf]                          -- K must stand as «<heap const> w.params» for k_is
   refine' My.txt_mk ?e1 ?e2 ?e3 ..
   (case e1=>PySem.W.k_is)                    -- in the order: a name -> its address -> its object -> its parts
   (case e2=>PySem.W.k_is)
   ..
  obtain ⟨t,T⟩:=T
  have e0:=hmg.symm.trans (PySem.W.mg_of KX G T.law)
  cases e0                                       -- fa is the law's own address
  exact ⟨_,fun s u=>.of_eq rfl,fun base kb nb=>My.law_fn T kb nb⟩     -- if «.of_eq rfl» comes too early: refine' ⟨_,?b,fun base kb nb=>My.law_fn T kb nb⟩;exact fun s u=>.of_eq rfl
 case S=>exact fun w H a ns hl hO hS=>..
 case C=>exact ..
(the tactic k_is has no namespace: write k_is) -/
namespace L2
open PySem PySem.Spec PyProof.Rows
def defArgs (s:Stmt):Arguments:=match s with
 | .FunctionDef _ a _ _ _ _ _ _ _ _=>a
 | _=>{ posonlyargs:=[],args:=[],vararg:=none,kwonlyargs:=[],kw_defaults:=[],kwarg:=none,defaults:=[] }
def defBody (s:Stmt):List Stmt:=match s with
 | .FunctionDef _ _ b _ _ _ _ _ _ _=>b
 | _=>[]
def defScope (s:Stmt):Scope:=match s with
 | .FunctionDef _ _ _ _ _ _ sc _ _ _=>sc
 | _=>{ kind:=.function,names:=[],isGenerator:=false,isCoroutine:=false }
abbrev E0:XK:=fun _ _ _=>False
structure Fun (K:PySem.W.Frag) (x qual:Str) (st:Stmt) (f:Addr) (fd:FuncData):Prop where
 ex:∃ (oc:Value) (od:Option Addr) (kV doc pm:Value) (an:Option Addr) (cdv ct:Value) (osl:Array (Option Value)),
  fd=PySem.W.fnOf x qual (defArgs st) (defBody st) (defScope st) .none kV doc pm an cdv ct /\ K.lookup f=some ⟨oc,od,.func fd,osl⟩ /\ PySem.W.codeIn K cdv qual=true
 kp:PySem.W.keepIn K (.ref f)=true
section
variable {P:Program} {w:World} {K:PySem.W.Frag} {mg:Str->Option Value} {base:Heap}
theorem fun_mk {x qual:Str} {st:Stmt} {f:Addr} {oc:Value} {od an:Option Addr} {osl:Array (Option Value)} {kV doc pm cdv ct:Value} (l:K.lookup f=some ⟨oc,od,.func (PySem.W.fnOf x qual (defArgs st) (defBody st) (defScope st) .none kV doc pm an cdv ct),osl⟩)
 (c:PySem.W.codeIn K cdv qual=true) (k:PySem.W.keepIn K (.ref f)=true):Fun K x qual st f (PySem.W.fnOf x qual (defArgs st) (defBody st) (defScope st) .none kV doc pm an cdv ct):=⟨⟨oc,od,kV,doc,pm,an,cdv,ct,osl,rfl,l,c⟩,k⟩
end
section
variable {X:Cx}
end
def Same (H H':Hp):Prop:=∀ b o,H b=some o->H' b=some o
theorem Same.refl (H:Hp):Same H H:=fun _ _ h=>h
theorem Same.trans {H H1 H2:Hp} (a:Same H H1) (b:Same H1 H2):Same H H2:=fun c o h=>b c o (a c o h)
theorem Same.seq {K:PySem.W.Frag} {H H':Hp} {a:Addr} {xs:List V} (e:Same H H') (h:SqL K H a xs):SqL K H' a xs:=by
 rcases h with (h | ⟨o,h⟩) | h
 ·exact .inl (.inl (e _ _ h))
 ·exact .inl (.inr ⟨o,e _ _ h⟩)
 ·exact .inr h
end L2
noncomputable section
namespace Z
open PySem
inductive D where
 | non | bl (b:Bool) | int (i:Int) | str (x:Str) | tup (xs:List D) | lst (xs:List D)
mutual
def eqD:D->D->Bool
 | .non,.non=>true
 | .bl a,.bl b=>a == b
 | .bl a,.int j=>(if a then 1 else 0) == j
 | .int i,.bl b=>i == (if b then 1 else 0)
 | .int i,.int j=>i == j
 | .str x,.str y=>x == y
 | .tup xs,.tup ys=>eqDs xs ys
 | .lst xs,.lst ys=>eqDs xs ys
 | _,_=>false
def eqDs:List D->List D->Bool
 | [],[]=>true
 | x :: xs,y :: ys=>eqD x y && eqDs xs ys
 | _,_=>false
end
mutual
def depD:D->Nat
 | .tup xs=>depDs xs + 1
 | .lst xs=>depDs xs + 1
 | _=>0
def depDs:List D->Nat
 | []=>0
 | x :: xs=>max (depD x) (depDs xs)
end
mutual
def nol:D->Bool
 | .tup xs=>nols xs
 | .lst _=>false
 | _=>true
def nols:List D->Bool
 | []=>true
 | x :: xs=>nol x && nols xs
end
structure XD where
 c:Nat
 t:Str
 f:List D
inductive BOp where
 | add | sub | mul | fdiv | mod | shl | shr | band | pow
 deriving DecidableEq
inductive COp where
 | eq | ne | lt | le | gt | ge | isN | notN | isT | notT
 deriving DecidableEq
inductive Bi where
 | abs | max | min | len | int | list | sum | all | any | tuple | str
 deriving DecidableEq
inductive Mt where
 | bitlen
 deriving DecidableEq
inductive Ty where
 | int | bool | tuple | list | str
 deriving DecidableEq
inductive SOp where
 | idx | join | part
 deriving DecidableEq
noncomputable def SOp.nm:SOp->Str
 | .idx=>"index"
 | .join=>"join"
 | .part=>"partition"
inductive Ex where
 | var (i:Nat)
 | cst (d:D)
 | con (k:Nat)
 | bin (o:BOp) (a b:Ex)
 | neg (a:Ex)
 | not (a:Ex)
 | cmp (o:COp) (a b:Ex)
 | chain (o p:COp) (a b c:Ex)
 | and (a b:Ex)
 | or (a b:Ex)
 | ife (c a b:Ex)
 | tup (es:List Ex)
 | lst (es:List Ex)
 | ix (a b:Ex)
 | call (f:Nat) (es:List Ex)
 | bi (f:Bi) (es:List Ex)
 | meth (m:Mt) (o:Ex)
 | isi (a:Ex) (t:Ty)
 | compR (es:List Ex) (e:Ex)
 | compE (a e:Ex)
 | oix (i:Nat) (e:Ex)
 | obs (i:Nat) (e:Ex)
 | slc (a l h:Ex)
 | obsT (i:Nat) (e:Ex)
 | obsL (i:Nat) (e:Ex)
inductive RSt where
 | sto (c:Option Ex) (e v:Ex)
 | app (v:Ex)
inductive Sm where
 | nop
 | seq (a b:Sm)
 | set (i:Nat) (e:Ex)
 | unp (is:List Nat) (e:Ex)
 | ret (e:Ex)
 | ite (c:Ex) (a b:Sm)
 | whl (c:Ex) (b:Sm)
 | forR (i:Nat) (es:List Ex) (b:Sm)
 | forE (i:Nat) (e:Ex) (b:Sm)
 | brk | cnt
 | never
 | new (i:Nat)
 | app (i:Nat) (e:Ex)
 | sto (i:Nat) (e v:Ex)
 | shr (i:Nat)
 | setF (i f:Nat) (es:List Ex)
 | retO (i:Nat)
 | ext (i:Nat) (e:Ex)
 | retF (e:Ex)
 | retG (e:Ex)
 | setG (i f:Nat) (es:List Ex)
 | ownG (i:Nat) (e:Ex)
 | app2 (i:Nat) (e v:Ex)
 | appN (i:Nat)
 | forT (j i:Nat) (ss:List RSt)
 | shrT (i:Nat)
 | hlfT (i:Nat)
 | tabO (j i:Nat) (e:Ex)
 | forN (i:Nat) (e:Ex) (b:Sm)
 | st2 (i:Nat) (a b v:Ex)
inductive Sl where
 | sh (d:D)
 | ow (ds:List D)
 | ot (rows:List (List D))
abbrev Sto:=List (Option Sl)
def getS:Sto->Nat->Option Sl
 | [],_=>none
 | x :: _,0=>x
 | _ :: r,i + 1=>getS r i
def setS:Sto->Nat->Option Sl->Sto
 | [],_,_=>[]
 | _ :: r,0,v=>v :: r
 | x :: r,i + 1,v=>x :: setS r i v
abbrev bits (i:Int):Nat:=Builtin.Int.intBits i
def lim:Nat:=16777216
def MulOk (i j:Int):Prop:=bits i<=64 \/ bits j<=64 \/ bits i + bits j<=134217728
def ShlOk (i j:Int):Prop:=0<=j /\ (bits i:Int) + j<=134217728
def PowOk (i j:Int):Prop:=0<=j /\ (bits i:Int) * j<=134217728
def RepOk (n:Nat) (k:Int):Prop:=(-9223372036854775808<=k /\ k < 9223372036854775808) /\ n * k.toNat<=lim
def intD (f:Int->Int->(D->Prop)->Prop):D->D->(D->Prop)->Prop
 | .int i,.int j,Q=>f i j Q
 | _,_,_=>False
def addD:D->D->(D->Prop)->Prop
 | .int i,.int j,Q=>Q (.int (i + j))
 | .str x,.str y,Q=>x.length + y.length<=lim /\ Q (.str (x ++ y))
 | .lst xs,.lst ys,Q=>xs.length + ys.length<=lim /\ Q (.lst (xs ++ ys))
 | _,_,_=>False
def mulD:D->D->(D->Prop)->Prop
 | .int i,.int j,Q=>MulOk i j /\ Q (.int (i * j))
 | .lst xs,.int k,Q=>RepOk xs.length k /\ Q (.lst (List.replicate k.toNat xs).flatten)
 | .str x,.int k,Q=>RepOk x.length k /\ Q (.str ⟨(List.replicate k.toNat x.cps.toList).flatten.toArray⟩)
 | _,_,_=>False
def binD:BOp->D->D->(D->Prop)->Prop
 | .add=>addD
 | .sub=>intD fun i j Q=>Q (.int (i - j))
 | .mul=>mulD
 | .fdiv=>intD fun i j Q=>(j ≠ 0 /\ bits j<=9000) /\ Q (.int (i.fdiv j))
 | .mod=>intD fun i j Q=>j ≠ 0 /\ Q (.int (i.fmod j))
 | .shl=>intD fun i j Q=>ShlOk i j /\ Q (.int (i * 2 ^ j.toNat))
 | .shr=>intD fun i j Q=>0<=j /\ Q (.int (i / 2 ^ j.toNat))
 | .band=>intD fun i j Q=>Q (.int (Builtin.bitAnd i j))
 | .pow=>intD fun i j Q=>PowOk i j /\ Q (.int (i ^ j.toNat))
noncomputable def isNonD:D->Bool
 | .non=>true
 | _=>false
def nonD (t:Bool):D->D->(D->Prop)->Prop
 | x,.non,Q=>Q (.bl (isNonD x == t))
 | _,_,_=>False
noncomputable def isTD (t:Bool):D->D->(D->Prop)->Prop
 | .bl b,.bl c,Q=>Q (.bl ((b == c) == t))
 | _,_,_=>False
def lexlt (p q:Int × Int):Bool:=decide (p.1 < q.1 \/ (p.1=q.1 /\ p.2 < q.2))
def prD (p:Int × Int):D:=.tup [.int p.1,.int p.2]
noncomputable def sortD:D->(D->Prop)->Prop
 | .lst xs,Q=>xs.length < 64 /\ ((∃ ns:List Int,xs=ns.map D.int /\ ∀ ms:List Int,ms.Perm ns->ms.Pairwise (·<=·)->Q (.lst (ms.map D.int))) \/
  ∃ ps:List (Int × Int),xs=ps.map prD /\ ∀ qs:List (Int × Int),qs.Perm ps->qs.Pairwise (fun a b=>lexlt b a=false)->Q (.lst (qs.map prD)))
 | _,_=>False
def cmpD:COp->D->D->(D->Prop)->Prop
 | .eq=>fun x y Q=>min (depD x) (depD y)<=100 /\ Q (.bl (eqD x y))
 | .ne=>fun x y Q=>min (depD x) (depD y)<=100 /\ Q (.bl (!eqD x y))
 | .lt=>intD fun i j Q=>Q (.bl (decide (i < j)))
 | .le=>intD fun i j Q=>Q (.bl (decide (i<=j)))
 | .gt=>intD fun i j Q=>Q (.bl (decide (j < i)))
 | .ge=>intD fun i j Q=>Q (.bl (decide (j<=i)))
 | .isN=>nonD true
 | .notN=>nonD false
 | .isT=>isTD true
 | .notT=>isTD false
def atD (xs:List D) (i:Int):Option D :=
 if 0<=i then xs[i.toNat]? else if -(xs.length:Int)<=i then xs[(i + xs.length).toNat]? else none
def ixD:D->D->(D->Prop)->Prop
 | .lst xs,.int i,Q=>∃ d,atD xs i=some d /\ Q d
 | .tup xs,.int i,Q=>∃ d,atD xs i=some d /\ Q d
 | .str x,.int i,Q=>∃ c,(x.length<=lim /\ 0<=i /\ x.cps[i.toNat]?=some c) /\ Q (.str ⟨#[c]⟩)
 | _,_,_=>False
def tyD:Ty->D->Bool
 | .int,.int _=>true
 | .int,.bl _=>true
 | .bool,.bl _=>true
 | .tuple,.tup _=>true
 | .list,.lst _=>true
 | .str,.str _=>true
 | _,_=>false
def one1 (f:D->(D->Prop)->Prop):List D->(D->Prop)->Prop
 | [x],Q=>f x Q
 | _,_=>False
def two2 (f:D->D->(D->Prop)->Prop):List D->(D->Prop)->Prop
 | [x,y],Q=>f x y Q
 | _,_=>False
def absD:D->(D->Prop)->Prop
 | .int i,Q=>Q (.int (if i < 0 then -i else i))
 | _,_=>False
def lenD:D->(D->Prop)->Prop
 | .lst xs,Q=>Q (.int xs.length)
 | .tup xs,Q=>Q (.int xs.length)
 | .str x,Q=>x.length<=lim /\ Q (.int x.length)
 | _,_=>False
def toIntD:D->(D->Prop)->Prop
 | .int i,Q=>Q (.int i)
 | .bl b,Q=>Q (.int (if b then 1 else 0))
 | .str x,Q=>∃ v,((x.length<=640 \/ (640 < (PySem.numSeenOf x).length /\ x.length<=lim)) /\ PySem.intText? x=some v) /\ Q (.int v)
 | _,_=>False
def toStrD:D->(D->Prop)->Prop
 | .int i,Q=>i.natAbs.log2 < 1920 /\ Q (.str (toString i:String))
 | _,_=>False
def toListD:D->(D->Prop)->Prop
 | .lst xs,Q=>Q (.lst xs)
 | .tup xs,Q=>Q (.lst xs)
 | _,_=>False
def toTupD:D->(D->Prop)->Prop
 | .lst xs,Q=>Q (.tup xs)
 | .tup xs,Q=>Q (.tup xs)
 | _,_=>False
def listD (f:List D->(D->Prop)->Prop):D->(D->Prop)->Prop
 | .lst xs,Q=>f xs Q
 | _,_=>False
def pick (mx:Bool) (a b:Int):Int:=if mx then (if b > a then b else a) else (if b < a then b else a)
def mmF (mx:Bool) (d:Int):List Int->Int
 | []=>d
 | n :: ns=>ns.foldl (pick mx) n
def minD:List D->(D->Prop)->Prop
 | [x],Q=>listD (fun xs Q=>∃ ns:List Int,xs=ns.map .int /\ ns ≠ [] /\ Q (.int (mmF false 0 ns))) x Q
 | [x,y],Q=>intD (fun i j Q=>Q (.int (if j < i then j else i))) x y Q
 | _,_=>False
def biD:Bi->List D->(D->Prop)->Prop
 | .abs=>one1 absD
 | .max=>two2 (intD fun i j Q=>Q (.int (if j > i then j else i)))
 | .min=>minD
 | .len=>one1 lenD
 | .int=>one1 toIntD
 | .list=>one1 toListD
 | .tuple=>one1 toTupD
 | .str=>one1 toStrD
 | .sum=>one1 (listD fun xs Q=>∃ ns:List Int,xs=ns.map .int /\ Q (.int ns.sum))
 | .all=>one1 (listD fun xs Q=>∃ bs:List Bool,xs=bs.map .bl /\ Q (.bl (bs.all id)))
 | .any=>one1 (listD fun xs Q=>∃ bs:List Bool,xs=bs.map .bl /\ Q (.bl (bs.any id)))
def sIx (n d:Nat):Option Int->Nat
 | none=>d
 | some v=>if v < 0 then (v + (n:Int)).toNat else min v.toNat n
def cutD (xs:List D) (lo hi:Option Int):List D:=(xs.drop (sIx xs.length 0 lo)).take (sIx xs.length xs.length hi - sIx xs.length 0 lo)
def cutS (x:Str) (lo hi:Option Int):Str:=⟨((x.cps.toList.drop (sIx x.length 0 lo)).take (sIx x.length x.length hi - sIx x.length 0 lo)).toArray⟩
def slD:D->Option Int->Option Int->(D->Prop)->Prop
 | .lst xs,lo,hi,Q=>Q (.lst (cutD xs lo hi))
 | .str x,lo,hi,Q=>x.length<=lim /\ Q (.str (cutS x lo hi))
 | _,_,_,_=>False
noncomputable def isNon:Ex->Bool
 | .cst .non=>true
 | _=>false
def intO (R:Option Int->Prop):D->Prop
 | .int i=>R (some i)
 | _=>False
def prt (b:Bool) (w:(D->Prop)->Prop) (R:Option Int->Prop):Prop:=if b=true then R none else w (intO R)
def mmD (mx:Bool):D->D->(D->Prop)->Prop
 | .lst xs,.int d,Q=>∃ ns:List Int,xs=ns.map .int /\ Q (.int (mmF mx d ns))
 | _,_,_=>False
def mtD:Mt->D->(D->Prop)->Prop
 | .bitlen,.int i,Q=>Q (.int (bits i))
 | _,_,_=>False
noncomputable def fmtS:D->Option Str
 | .str x=>some x
 | .int i=>if i.natAbs.log2 < 1920 then some (toString i:String) else none
 | _=>none
structure Ctr where
 pre:List D->Prop
 res:List D->D->Prop
 exn:List D->XD->Prop:=fun _ _=>False
structure Cfg where
 ct:Nat->Ctr
 cn:Nat->D
 fr:Nat->Bool:=fun _=>false
 f2:Nat->Bool:=fun _=>false
 E:XD->Prop:=fun _=>False
def Ctr.wp (c:Ctr) (ds:List D) (Q:D->Prop) (E:XD->Prop):Prop:=c.pre ds /\ (∀ d,c.res ds d->Q d) /\ ∀ x,c.exn ds x->E x
def itemsD:D->Option (List D)
 | .lst xs=>some xs
 | .tup xs=>some xs
 | .str x=>some (x.cps.toList.map fun c=>.str ⟨#[c]⟩)
 | _=>none
def rangeD (lo st:Int):Nat->List D
 | 0=>[]
 | n + 1=>.int lo :: rangeD (lo + st) st n
def RgOk (i:Int):Prop:=-4611686018427387904<=i /\ i < 4611686018427387904
def rgD:List D->(List D->Prop)->Prop
 | [.int hi],Q=>RgOk hi /\ Q (rangeD 0 1 hi.toNat)
 | [.int lo,.int hi],Q=>(RgOk lo /\ RgOk hi) /\ Q (rangeD lo 1 (hi - lo).toNat)
 | [.int lo,.int hi,.int st],Q=>(RgOk lo /\ RgOk hi /\ 0 < st /\ st < 1000) /\ Q (rangeD lo st (if lo < hi then (hi - lo - 1) / st + 1 else 0).toNat)
 | _,_=>False
noncomputable def enmD (xs:List D):List D:=xs.zipIdx.map fun p=>.tup [.int p.2,p.1]
noncomputable def isL (f:List D->Prop):D->Prop
 | .lst xs=>f xs
 | _=>False
def rowsD (rows:List (List D)):D:=.lst (rows.map .lst)
noncomputable def isLL (f:List (List D)->Prop) (d:D):Prop:=∃ rows,d=rowsD rows /\ f rows
def obD (f:List (List D)->Prop) (p:Prop):Option Sl->Prop
 | some (.ot rows)=>f rows
 | some (.sh _)=>p
 | _=>False
def otD (f:List (List D)->Prop):Option Sl->Prop
 | some (.ot rows)=>f rows
 | _=>False
noncomputable def isB (Q:Bool->Prop):D->Prop
 | .bl k=>Q k
 | _=>False
def compL (f:D->(D->Prop)->Prop):List D->(List D->Prop)->Prop
 | [],Q=>Q []
 | d :: ds,Q=>f d fun y=>compL f ds fun ys=>Q (y :: ys)
mutual
def apt (x:List D):D->Prop
 | .lst xs=>xs ≠ x /\ apts x xs
 | .tup xs=>apts x xs
 | _=>True
def apts (x:List D):List D->Prop
 | []=>True
 | d :: ds=>apt x d /\ apts x ds
end
noncomputable def isI (f:Int->Prop):D->Prop
 | .int n=>f n
 | _=>False
def is2 (f:D->D->Prop):D->Prop
 | .tup [x,y]=>f x y
 | _=>False
mutual
noncomputable def wpE (C:Cfg):Ex->Sto->(D->Prop)->Prop
 | .var i,σ,Q=>match getS σ i with | some (.sh d)=>Q d | _=>False
 | .cst d,_,Q=>Q d
 | .con k,_,Q=>Q (C.cn k)
 | .bin o a b,σ,Q=>wpE C a σ fun x=>wpE C b σ fun y=>binD o x y Q
 | .neg a,σ,Q=>wpE C a σ fun x=>match x with | .int i=>Q (.int (-i)) | _=>False
 | .not a,σ,Q=>wpE C a σ fun x=>match x with | .bl c=>Q (.bl (!c)) | _=>False
 | .cmp o a b,σ,Q=>wpE C a σ fun x=>wpE C b σ fun y=>cmpD o x y Q
 | .chain o p a b c,σ,Q=>wpE C a σ fun x=>wpE C b σ fun y=>cmpD o x y fun z=>match z with
  | .bl k=>if k=true then wpE C c σ fun u=>cmpD p y u Q else Q (.bl false)
  | _=>False
 | .and a b,σ,Q=>wpE C a σ fun x=>match x with | .bl k=>if k=true then wpE C b σ Q else Q (.bl false) | _=>False
 | .or a b,σ,Q=>wpE C a σ fun x=>match x with | .bl k=>if k=true then Q (.bl true) else wpE C b σ Q | _=>False
 | .ife c a b,σ,Q=>wpE C c σ fun x=>match x with | .bl k=>if k=true then wpE C a σ Q else wpE C b σ Q | _=>False
 | .tup es,σ,Q=>wpEs C es σ fun ds=>Q (.tup ds)
 | .lst es,σ,Q=>wpEs C es σ fun ds=>Q (.lst ds)
 | .ix a b,σ,Q=>wpE C a σ fun x=>wpE C b σ fun y=>ixD x y Q
 | .call f es,σ,Q=>wpEs C es σ fun ds=>(C.ct f).wp ds Q C.E
 | .bi f es,σ,Q=>wpEs C es σ fun ds=>biD f ds Q
 | .meth m o,σ,Q=>wpE C o σ fun x=>mtD m x Q
 | .isi a t,σ,Q=>wpE C a σ fun x=>Q (.bl (tyD t x))
 | .compR es e,σ,Q=>wpEs C es σ fun ds=>rgD ds fun xs=>xs.length<=lim /\ compL (fun d Q=>wpE C e (σ ++ [some (.sh d)]) Q) xs fun ys=>Q (.lst ys)
 | .compE a e,σ,Q=>wpE C a σ fun d=>∃ xs,itemsD d=some xs /\ xs.length<=lim /\ compL (fun d Q=>wpE C e (σ ++ [some (.sh d)]) Q) xs fun ys=>Q (.lst ys)
 | .oix i e,σ,Q=>match getS σ i with | some (.ow ds)=>wpE C e σ fun y=>ixD (.lst ds) y Q | _=>False
 | .obs i e,σ,Q=>match getS σ i with | some (.ow ds)=>wpE C e (setS σ i (some (.sh (.lst ds)))) fun d=>nol d=true /\ Q d | _=>False
 | .slc a l h,σ,Q=>wpE C a σ fun x=>prt (isNon l) (fun R=>wpE C l σ R) fun y=>prt (isNon h) (fun R=>wpE C h σ R) fun z=>slD x y z Q
 | .obsL i e,σ,Q=>match getS σ i with | some (.ow ds)=>wpE C e (setS σ i (some (.sh (.lst ds)))) fun d=>apt ds d /\ Q d | _=>False
 | .obsT i e,σ,Q=>obD (fun rows=>wpE C e (setS σ i (some (.sh (rowsD rows)))) fun d=>nol d=true /\ Q d) (wpE C e σ Q) (getS σ i)
noncomputable def wpFs (C:Cfg):List Ex->List Nat->Sto->(List Nat->Prop)->Prop
 | [],out,_,Q=>Q out
 | e :: es,out,σ,Q=>wpE C e σ fun d=>∃ z,(fmtS d=some z /\ out.length + z.length<=lim) /\ wpFs C es (out ++ z.cps.toList) σ Q
noncomputable def wpEs (C:Cfg):List Ex->Sto->(List D->Prop)->Prop
 | [],_,Q=>Q []
 | e :: es,σ,Q=>wpE C e σ fun d=>wpEs C es σ fun ds=>Q (d :: ds)
end
structure DE where
 nx:Sto->Prop
 rt:D->Prop
 bk:Sto->Prop:=fun _=>False
 ct:Sto->Prop:=fun _=>False
 rf:List D->Prop:=fun _=>False
 xn:Str->Prop:=fun _=>False
 rg:List (List D)->Prop:=fun _=>False
def setAll:List Nat->List D->Sto->Option Sto
 | [],[],σ=>some σ
 | i :: is,d :: ds,σ=>setAll is ds (setS σ i (some (.sh d)))
 | _,_,_=>none
def forL (body:DE->Sto->Prop) (i:Nat) (K:DE):List D->Sto->Prop
 | [],σ=>K.nx σ
 | d :: ds,σ=>body { K with nx:=forL body i K ds,ct:=forL body i K ds,bk:=K.nx } (setS σ i (some (.sh d)))
def whileW (c:Sto->(Bool->Prop)->Prop) (body:DE->Sto->Prop) (K:DE) (σ:Sto):Prop :=
 ∃ W:Nat->Sto->Prop,(∃ m,W m σ) /\ ∀ m σ,W m σ->c σ fun t=>if t=true then
   body { K with nx:=fun σ'=>∃ m',m' < m /\ W m' σ',ct:=fun σ'=>∃ m',m' < m /\ W m' σ',bk:=K.nx } σ else K.nx σ
def extD (K:DE) (σ:Sto) (i:Nat) (ds:List D):D->Prop
 | .lst xs=>ds.length + xs.length<=lim /\ K.nx (setS σ i (some (.ow (ds ++ xs))))
 | _=>False
def ocD (f:List D->Prop) (g:List (List D)->Prop):Option Sl->Prop
 | some (.ow ds)=>f ds
 | some (.ot rows)=>g rows
 | _=>False
def ownD (f:List D->Prop):Option Sl->Prop
 | some (.ow ds)=>f ds
 | _=>False
def insD (K:DE) (σ:Sto) (i:Nat) (ds:List D) (v:D):D->Prop
 | .int k=>(0<=k /\ k<=ds.length /\ ds.length < lim) /\ K.nx (setS σ i (some (.ow (ds.take k.toNat ++ v :: ds.drop k.toNat))))
 | _=>False
def app2D (K:DE) (σ:Sto) (i:Nat) (rows:List (List D)) (w:(D->Prop)->Prop):D->Prop
 | .int k=>∃ row,(0<=k /\ rows[k.toNat]?=some row /\ row.length < lim) /\ w fun y=>K.nx (setS σ i (some (.ot (rows.set k.toNat (row ++ [y])))))
 | _=>False
def popD (K:DE) (σ:Sto) (i j:Nat) (ms ls:List D):D->Prop
 | .int k=>∃ d,(0<=k /\ ls[k.toNat]?=some d /\ ms.length < lim /\ k < 16777216) /\ K.nx (setS (setS σ j (some (.ow (ls.eraseIdx k.toNat)))) i (some (.ow (ms ++ [d]))))
 | _=>False
def stoR (row:List D) (d:D) (Q:List D->Prop):D->Prop
 | .int k=>(0<=k /\ k < row.length) /\ Q (row.set k.toNat d)
 | _=>False
noncomputable def wpR1 (C:Cfg) (j:Nat) (σ:Sto):RSt->List D->(List D->Prop)->Prop
 | .app v,row,Q=>row.length < lim /\ wpE C v (setS σ j none) fun d=>Q (row ++ [d])
 | .sto none e v,row,Q=>wpE C v (setS σ j (some (.sh (.lst row)))) fun d=>nol d=true /\ wpE C e (setS σ j none) (stoR row d Q)
 | .sto (some c) e v,row,Q=>wpE C c (setS σ j none) (isB fun b=>if b=true then wpE C v (setS σ j (some (.sh (.lst row)))) (fun d=>nol d=true /\ wpE C e (setS σ j none) (stoR row d Q)) else Q row)
noncomputable def wpR (C:Cfg) (j:Nat) (σ:Sto):List RSt->List D->(List D->Prop)->Prop
 | [],row,Q=>Q row
 | s :: ss,row,Q=>wpR1 C j σ s row fun row'=>wpR C j σ ss row' Q
def rowsW (f:List D->(List D->Prop)->Prop):List (List D)->(List (List D)->Prop)->Prop
 | [],Q=>Q []
 | r :: rs,Q=>f r fun r'=>rowsW f rs fun rs'=>Q (r' :: rs')
def notT:Option Sl->Bool
 | some (.ot _)=>false
 | _=>true
def noT:Sto->Nat->Bool
 | [],_=>true
 | _ :: r,0=>r.all notT
 | x :: r,i + 1=>notT x && noT r i
def frIt (C:Cfg):Ex->Bool
 | .call f _=>C.fr f
 | _=>true
def compLL (f:D->(List D->Prop)->Prop):List D->(List (List D)->Prop)->Prop
 | [],Q=>Q []
 | d :: ds,Q=>f d fun y=>compLL f ds fun ys=>Q (y :: ys)
noncomputable def wpG (C:Cfg):Ex->Sto->(List (List D)->Prop)->Prop
 | .compR es b,σ,Q=>frIt C b=true /\ wpEs C es σ fun ds=>rgD ds fun xs=>xs.length<=lim /\ compLL (fun d Q=>wpE C b (σ ++ [some (.sh d)]) (isL Q)) xs Q
 | .compE a b,σ,Q=>frIt C b=true /\ wpE C a σ fun d=>∃ xs,itemsD d=some xs /\ xs.length<=lim /\ compLL (fun d Q=>wpE C b (σ ++ [some (.sh d)]) (isL Q)) xs Q
 | _,_,_=>False
noncomputable def wpS (C:Cfg):Sm->DE->Sto->Prop
 | .nop,K,σ=>K.nx σ
 | .seq a b,K,σ=>wpS C a { K with nx:=fun σ'=>wpS C b K σ' } σ
 | .set i e,K,σ=>wpE C e σ fun d=>K.nx (setS σ i (some (.sh d)))
 | .unp is e,K,σ=>wpE C e σ fun d=>match d with | .tup ds=>∃ σ',setAll is ds σ=some σ' /\ K.nx σ' | .lst ds=>∃ σ',setAll is ds σ=some σ' /\ K.nx σ' | _=>False
 | .ret e,K,σ=>wpE C e σ K.rt
 | .ite c a b,K,σ=>wpE C c σ (isB fun t=>if t=true then wpS C a K σ else wpS C b K σ)
 | .whl c b,K,σ=>whileW (fun σ Q=>wpE C c σ (isB Q)) (fun K σ=>wpS C b K σ) K σ
 | .forR i es b,K,σ=>wpEs C es σ fun ds=>rgD ds fun xs=>forL (fun K σ=>wpS C b K σ) i K xs σ
 | .forE i e b,K,σ=>wpE C e σ fun d=>∃ xs,itemsD d=some xs /\ forL (fun K σ=>wpS C b K σ) i K xs σ
 | .brk,K,σ=>K.bk σ
 | .cnt,K,σ=>K.ct σ
 | .never,_,_=>False
 | .new i,K,σ=>K.nx (setS σ i (some (.ow [])))
 | .ext i e,K,σ=>match getS σ i with | some (.ow ds)=>wpE C e σ (extD K σ i ds) | _=>False
 | .app i e,K,σ=>match getS σ i with | some (.ow ds)=>ds.length < lim /\ wpE C e σ fun d=>K.nx (setS σ i (some (.ow (ds ++ [d])))) | _=>False
 | .sto i e v,K,σ=>match getS σ i with | some (.ow ds)=>wpE C v σ fun d=>wpE C e σ fun y=>(match y with | .int k=>(0<=k /\ k < ds.length) /\ K.nx (setS σ i (some (.ow (ds.set k.toNat d)))) | _=>False) | _=>False
 | .shr i,K,σ=>match getS σ i with | some (.ow ds)=>K.nx (setS σ i (some (.sh (.lst ds)))) | _=>False
 | .setF i f es,K,σ=>wpEs C es σ fun ds=>C.fr f=true /\ (C.ct f).wp ds (fun d=>∃ xs,d=.lst xs /\ K.nx (setS σ i (some (.ow xs)))) C.E
 | .retO i,K,σ=>match getS σ i with | some (.ow ds)=>K.rf ds | _=>False
 | .retF e,K,σ=>wpE C e σ (isL K.rf)
 | .retG e,K,σ=>wpG C e σ K.rg
 | .setG i f es,K,σ=>wpEs C es σ fun ds=>((C.fr f=false /\ C.f2 f=true) /\ noT σ i=true) /\ (C.ct f).wp ds (isLL fun rows=>K.nx (setS σ i (some (.ot rows)))) C.E
 | .ownG i e,K,σ=>noT σ i=true /\ wpG C e σ fun rows=>K.nx (setS σ i (some (.ot rows)))
 | .app2 i e v,K,σ=>otD (fun rows=>wpE C e σ (app2D K σ i rows (wpE C v σ))) (getS σ i)
 | .appN i,K,σ=>otD (fun rows=>rows.length < lim /\ K.nx (setS σ i (some (.ot (rows ++ [[]]))))) (getS σ i)
 | .forT j i ss,K,σ=>otD (fun rows=>rowsW (wpR C j (setS σ i none) ss) rows fun rows'=>K.nx (setS (setS σ i (some (.ot rows'))) j none)) (getS σ i)
 | .shrT i,K,σ=>otD (fun rows=>K.nx (setS σ i (some (.sh (rowsD rows))))) (getS σ i)
 | .tabO j i e,K,σ=>ocD (fun ds=>wpG C e (setS σ j (some (.sh (.lst ds)))) fun rows=>(rows.all nols=true) /\ K.nx (setS σ i (some (.sh (rowsD rows))))) (fun rs=>wpG C e (setS σ j (some (.sh (rowsD rs)))) fun rows=>(rows.all nols=true) /\ K.nx (setS σ i (some (.sh (rowsD rows))))) (getS σ j)
 | .hlfT i,K,σ=>ocD (fun _=>K.nx σ) (fun rows=>K.nx (setS σ i (some (.ow (rows.map .lst))))) (getS σ i)
 | .forN i e b,K,σ=>wpE C e σ (isL fun xs=>forL (fun K σ=>wpS C b K σ) i K (enmD xs) σ)
 | .st2 i a b v,K,σ=>ownD (fun ds=>wpE C v σ (is2 fun x y=>wpE C a σ (isI fun m=>(0<=m /\ m < ds.length) /\ wpE C b (setS σ i (some (.ow (ds.set m.toNat x)))) (isI fun n=>(0<=n /\ n < ds.length) /\ K.nx (setS σ i (some (.ow ((ds.set m.toNat x).set n.toNat y)))))))) (getS σ i)
theorem intD_mono {f:Int->Int->(D->Prop)->Prop} {x y:D} {Q Q':D->Prop} (hf:∀ i j,f i j Q->f i j Q') (w:intD f x y Q):intD f x y Q':=by
 cases x <;> first | exact w.elim | (cases y <;> first | exact w.elim | exact hf _ _ w)
theorem binD_mono {o:BOp} {x y:D} {Q Q':D->Prop} (h:∀ d,Q d->Q' d) (w:binD o x y Q):binD o x y Q':=by
 cases o <;> first | exact intD_mono (fun i j z=>h _ z) w | exact intD_mono (fun i j z=>⟨z.1,h _ z.2⟩) w | skip
 ·cases x <;> first | exact w.elim | (cases y <;> first | exact w.elim | exact h _ w | exact ⟨w.1,h _ w.2⟩)
 ·cases x <;> first | exact w.elim | (cases y <;> first | exact w.elim | exact h _ w | exact ⟨w.1,h _ w.2⟩)
theorem cmpD_mono {o:COp} {x y:D} {Q Q':D->Prop} (h:∀ d,Q d->Q' d) (w:cmpD o x y Q):cmpD o x y Q':=by
 cases o <;> first | exact intD_mono (fun i j z=>h _ z) w | exact ⟨w.1,h _ w.2⟩ | skip
 ·cases y <;> first | exact w.elim | exact h _ w
 ·cases y <;> first | exact w.elim | exact h _ w
 ·cases x <;> first | exact w.elim | (cases y <;> first | exact w.elim | (next k=>cases k <;> first | exact w.elim | exact h _ w))
 ·cases x <;> first | exact w.elim | (cases y <;> first | exact w.elim | (next k=>cases k <;> first | exact w.elim | exact h _ w))
theorem ixD_mono {x y:D} {Q Q':D->Prop} (h:∀ d,Q d->Q' d) (w:ixD x y Q):ixD x y Q':=by
 unfold ixD at *
 split at w <;> first | exact ⟨w.choose,w.choose_spec.1,h _ w.choose_spec.2⟩ | exact w.elim
theorem one1_mono {f:D->(D->Prop)->Prop} {xs:List D} {Q Q':D->Prop} (hf:∀ x,f x Q->f x Q') (w:one1 f xs Q):one1 f xs Q':=by
 match xs,w with
 | [x],w=>exact hf x w
theorem two2_mono {f:D->D->(D->Prop)->Prop} {xs:List D} {Q Q':D->Prop} (hf:∀ x y,f x y Q->f x y Q') (w:two2 f xs Q):two2 f xs Q':=by
 match xs,w with
 | [x,y],w=>exact hf x y w
theorem minD_mono {Q Q':D->Prop} (h:∀ d,Q d->Q' d):∀ {xs:List D},minD xs Q->minD xs Q'
 | [x],w=>by
   cases x <;> first | exact w.elim | exact ⟨w.choose,w.choose_spec.1,w.choose_spec.2.1,h _ w.choose_spec.2.2⟩
 | [x,y],w=>intD_mono (fun i j z=>h _ z) w
theorem biD_mono {f:Bi} {xs:List D} {Q Q':D->Prop} (h:∀ d,Q d->Q' d) (w:biD f xs Q):biD f xs Q':=by
 cases f <;> first | exact minD_mono h w | exact one1_mono (f:=sortD) (fun x z=>sortD_mono h z) w | exact two2_mono (fun x y z=>intD_mono (fun i j z=>⟨z.1,h _ z.2⟩) z) w | exact two2_mono (fun x y z=>intD_mono (fun i j z=>h _ z) z) w | refine one1_mono (fun x z=>?_) w
 all_goals cases x <;> first | exact z.elim | exact h _ z | exact And.intro z.1 (h _ z.2) | exact ⟨z.choose,z.choose_spec.1,h _ z.choose_spec.2⟩
theorem mtD_mono {f:Mt} {x:D} {Q Q':D->Prop} (h:∀ d,Q d->Q' d) (w:mtD f x Q):mtD f x Q':=by
 unfold mtD at *
 split at w <;> first | exact h _ w | exact ⟨w.1,h _ w.2⟩ | exact w.elim
theorem Ctr.wp_mono {c:Ctr} {ds:List D} {Q Q':D->Prop} {E:XD->Prop} (h:∀ d,Q d->Q' d) (w:c.wp ds Q E):c.wp ds Q' E:=⟨w.1,fun d r=>h d (w.2.1 d r),w.2.2⟩
theorem isB_mono {Q Q':Bool->Prop} (h:∀ k,Q k->Q' k) {d:D} (w:isB Q d):isB Q' d:=by
 cases d <;> first | exact h _ w | exact w.elim
theorem rgD_mono {ds:List D} {Q Q':List D->Prop} (h:∀ d,Q d->Q' d) (w:rgD ds Q):rgD ds Q':=by
 unfold rgD at *
 split at w
 ·exact ⟨w.1,h _ w.2⟩
 ·exact ⟨w.1,h _ w.2⟩
 ·exact ⟨w.1,h _ w.2⟩
 ·exact w.elim
theorem compL_mono {f:D->(D->Prop)->Prop} (hf:∀ d {Q Q':D->Prop},(∀ y,Q y->Q' y)->f d Q->f d Q'):∀ (xs:List D) {Q Q':List D->Prop},(∀ ys,Q ys->Q' ys)->compL f xs Q->compL f xs Q'
 | [],Q,Q',h,w=>h _ w
 | d :: ds,Q,Q',h,w=>hf d (fun y wy=>compL_mono hf ds (fun ys=>h _) wy) w
theorem slD_mono {x:D} {l h:Option Int} {Q Q':D->Prop} (k:∀ d,Q d->Q' d) (w:slD x l h Q):slD x l h Q':=by
 unfold slD at *
 split at w <;> first | exact w.elim | exact k _ w | exact ⟨w.1,k _ w.2⟩
theorem intO_mono {R R':Option Int->Prop} (h:∀ o,R o->R' o) {d:D} (w:intO R d):intO R' d:=by
 cases d <;> first | exact w.elim | exact h _ w
theorem prt_mono {b:Bool} {w:(D->Prop)->Prop} (hw:∀ {Q Q':D->Prop},(∀ d,Q d->Q' d)->w Q->w Q') {R R':Option Int->Prop} (h:∀ o,R o->R' o) (k:prt b w R):prt b w R':=by
 unfold prt at *
 split
 ·next e=>rw [if_pos e] at k;exact h _ k
 ·next e=>rw [if_neg e] at k;exact hw (fun d=>intO_mono h) k
theorem otD_mono {o:Option Sl} {f g:List (List D)->Prop} (h:∀ rows,f rows->g rows) (w:otD f o):otD g o:=by
 match o,w with
 | some (.ot rows),w=>exact h rows w
theorem obD_mono {f g:List (List D)->Prop} {p q:Prop} (h:∀ rows,f rows->g rows) (k:p->q) {o:Option Sl} (w:obD f p o):obD g q o:=by
 match o,w with
 | some (.ot rows),w=>exact h _ w
 | some (.sh _),w=>exact k w
theorem isLL_mono {f g:List (List D)->Prop} (h:∀ rows,f rows->g rows) {d:D} (w:isLL f d):isLL g d:=⟨w.choose,w.choose_spec.1,h _ w.choose_spec.2⟩
mutual
theorem wpE_mono {C:Cfg}:∀ (e:Ex) {σ:Sto} {Q Q':D->Prop},(∀ d,Q d->Q' d)->wpE C e σ Q->wpE C e σ Q'
 | .var i,σ,Q,Q',h,w=>by
   unfold wpE at *
   cases g:getS σ i with
   | none=>rw [g] at w;exact w.elim
   | some z=>rw [g] at w;cases z <;> first | exact h _ w | exact w.elim
 | .cst d,σ,Q,Q',h,w=>by unfold wpE at *;exact h _ w
 | .con k,σ,Q,Q',h,w=>by unfold wpE at *;exact h _ w
 | .bin o a b,σ,Q,Q',h,w=>by
   unfold wpE at *
   exact wpE_mono a (fun x wx=>wpE_mono b (fun y wy=>binD_mono h wy) wx) w
 | .neg a,σ,Q,Q',h,w=>by
   unfold wpE at *
   exact wpE_mono a (fun x wx=>by cases x <;> first | exact h _ wx | exact wx.elim) w
 | .not a,σ,Q,Q',h,w=>by
   unfold wpE at *
   exact wpE_mono a (fun x wx=>by cases x <;> first | exact h _ wx | exact wx.elim) w
 | .cmp o a b,σ,Q,Q',h,w=>by
   unfold wpE at *
   exact wpE_mono a (fun x wx=>wpE_mono b (fun y wy=>cmpD_mono h wy) wx) w
 | .chain o p a b c,σ,Q,Q',h,w=>by
   unfold wpE at *
   refine wpE_mono a (fun x wx=>wpE_mono b (fun y wy=>cmpD_mono (fun z wz=>?_) wy) wx) w
   cases z with
   | bl k=>cases k with
     | true=>exact wpE_mono c (fun u wu=>cmpD_mono h wu) wz
     | false=>exact h _ wz
   | _=>exact wz.elim
 | .and a b,σ,Q,Q',h,w=>by
   unfold wpE at *
   refine wpE_mono a (fun x wx=>?_) w
   cases x with
   | bl k=>cases k with
     | true=>exact wpE_mono b h wx
     | false=>exact h _ wx
   | _=>exact wx.elim
 | .or a b,σ,Q,Q',h,w=>by
   unfold wpE at *
   refine wpE_mono a (fun x wx=>?_) w
   cases x with
   | bl k=>cases k with
     | true=>exact h _ wx
     | false=>exact wpE_mono b h wx
   | _=>exact wx.elim
 | .ife c a b,σ,Q,Q',h,w=>by
   unfold wpE at *
   refine wpE_mono c (fun x wx=>?_) w
   cases x with
   | bl k=>cases k with
     | true=>exact wpE_mono a h wx
     | false=>exact wpE_mono b h wx
   | _=>exact wx.elim
 | .tup es,σ,Q,Q',h,w=>by unfold wpE at *;exact wpEs_mono es (fun ds=>h _) w
 | .lst es,σ,Q,Q',h,w=>by unfold wpE at *;exact wpEs_mono es (fun ds=>h _) w
 | .ix a b,σ,Q,Q',h,w=>by
   unfold wpE at *
   exact wpE_mono a (fun x wx=>wpE_mono b (fun y wy=>ixD_mono h wy) wx) w
 | .call f es,σ,Q,Q',h,w=>by unfold wpE at *;exact wpEs_mono es (fun ds=>Ctr.wp_mono h) w
 | .bi f es,σ,Q,Q',h,w=>by unfold wpE at *;exact wpEs_mono es (fun ds=>biD_mono h) w
 | .meth m o,σ,Q,Q',h,w=>by unfold wpE at *;exact wpE_mono o (fun x=>mtD_mono h) w
 | .isi a t,σ,Q,Q',h,w=>by unfold wpE at *;exact wpE_mono a (fun x=>h _) w
 | .compR es e,σ,Q,Q',h,w=>by
   unfold wpE at *
   exact wpEs_mono es (fun ds=>rgD_mono fun xs wx=>⟨wx.1,compL_mono (f:=fun d Q=>wpE C e (σ ++ [some (.sh d)]) Q) (fun d _ _ hq=>wpE_mono e hq) xs (fun ys=>h _) wx.2⟩) w
 | .compE a e,σ,Q,Q',h,w=>by
   unfold wpE at *
   exact wpE_mono a (fun d ⟨xs,e1,wx⟩=>⟨xs,e1,wx.1,compL_mono (f:=fun d Q=>wpE C e (σ ++ [some (.sh d)]) Q) (fun d _ _ hq=>wpE_mono e hq) xs (fun ys=>h _) wx.2⟩) w
 | .slc a l u,σ,Q,Q',h,w=>by
   unfold wpE at *
   exact wpE_mono a (fun x wx=>prt_mono (fun hq=>wpE_mono l hq) (fun y wy=>prt_mono (fun hq=>wpE_mono u hq) (fun z=>slD_mono h) wy) wx) w
 | .oix i e,σ,Q,Q',h,w=>by
   unfold wpE at *
   cases g:getS σ i with
   | none=>rw [g] at w;exact w.elim
   | some z =>
     rw [g] at w
     cases z with
     | sh d=>exact w.elim
     | ot _=>exact w.elim
     | ow ds=>exact wpE_mono e (fun y wy=>ixD_mono h wy) w
 | .obs i e,σ,Q,Q',h,w=>by
   unfold wpE at *
   cases g:getS σ i with
   | none=>rw [g] at w;exact w.elim
   | some z =>
     rw [g] at w
     cases z with
     | sh d=>exact w.elim
     | ot _=>exact w.elim
     | ow ds=>exact wpE_mono e (fun y wy=>⟨wy.1,h _ wy.2⟩) w
 | .obsL i e,σ,Q,Q',h,w=>by
   unfold wpE at *
   cases g:getS σ i with
   | none=>rw [g] at w;exact w.elim
   | some z =>
     rw [g] at w
     cases z with
     | sh d=>exact w.elim
     | ot _=>exact w.elim
     | ow ds=>exact wpE_mono e (fun y wy=>⟨wy.1,h _ wy.2⟩) w
 | .obsT i e,σ,Q,Q',h,w=>by unfold wpE at *;exact obD_mono (fun rows=>wpE_mono e fun d wd=>⟨wd.1,h _ wd.2⟩) (wpE_mono e h) w
theorem wpFs_mono {C:Cfg}:∀ (es:List Ex) {out:List Nat} {σ:Sto} {Q Q':List Nat->Prop},(∀ d,Q d->Q' d)->wpFs C es out σ Q->wpFs C es out σ Q'
 | [],out,σ,Q,Q',h,w=>by unfold wpFs at *;exact h _ w
 | e :: es,out,σ,Q,Q',h,w=>by
   unfold wpFs at *
   exact wpE_mono e (fun d ⟨z,a,wd⟩=>⟨z,a,wpFs_mono es h wd⟩) w
theorem wpEs_mono {C:Cfg}:∀ (es:List Ex) {σ:Sto} {Q Q':List D->Prop},(∀ d,Q d->Q' d)->wpEs C es σ Q->wpEs C es σ Q'
 | [],σ,Q,Q',h,w=>by unfold wpEs at *;exact h _ w
 | e :: es,σ,Q,Q',h,w=>by
   unfold wpEs at *
   exact wpE_mono e (fun d wd=>wpEs_mono es (fun ds=>h _) wd) w
end
structure DE.le (K K':DE):Prop where
 nx:∀ σ,K.nx σ->K'.nx σ
 rt:∀ d,K.rt d->K'.rt d
 bk:∀ σ,K.bk σ->K'.bk σ
 ct:∀ σ,K.ct σ->K'.ct σ
 rf:∀ ds,K.rf ds->K'.rf ds
 xn:∀ x,K.xn x->K'.xn x:=by exact fun _ z=>z
 rg:∀ rows,K.rg rows->K'.rg rows:=by exact fun _ z=>z
theorem forL_mono {body:DE->Sto->Prop} (hb:∀ K K' σ,DE.le K K'->body K σ->body K' σ) {i:Nat} {K K':DE} (h:DE.le K K'):∀ (xs:List D) {σ:Sto},forL body i K xs σ->forL body i K' xs σ
 | [],σ,w=>h.nx _ w
 | d :: ds,σ,w=>by
   unfold forL at *
   refine hb _ _ _ ?_ w
   exact ⟨fun _=>forL_mono hb h ds,h.rt,h.nx,fun _=>forL_mono hb h ds,h.rf,h.xn,h.rg⟩
theorem ocD_mono {o:Option Sl} {f f':List D->Prop} {g g':List (List D)->Prop} (h:∀ ds,f ds->f' ds) (k:∀ rs,g rs->g' rs) (w:ocD f g o):ocD f' g' o:=by
 match o,w with
 | some (.ow ds),w=>exact h ds w
 | some (.ot rows),w=>exact k rows w
theorem isI_mono {f g:Int->Prop} (h:∀ n,f n->g n) {d:D} (w:isI f d):isI g d:=by cases d <;> first | exact w.elim | exact h _ w
theorem is2_mono {f g:D->D->Prop} (h:∀ x y,f x y->g x y) {d:D} (w:is2 f d):is2 g d:=by
 match d,w with
 | .tup [x,y],w=>exact h x y w
theorem ownD_mono {o:Option Sl} {f g:List D->Prop} (h:∀ ds,f ds->g ds) (w:ownD f o):ownD g o:=by
 match o,w with
 | some (.ow ds),w=>exact h ds w
theorem isL_mono {f g:List D->Prop} (h:∀ ds,f ds->g ds) {d:D} (w:isL f d):isL g d:=by
 cases d <;> first | exact w.elim | exact h _ w
theorem compLL_mono {f:D->(List D->Prop)->Prop} (hf:∀ d {Q Q':List D->Prop},(∀ y,Q y->Q' y)->f d Q->f d Q'):∀ (xs:List D) {Q Q':List (List D)->Prop},(∀ ys,Q ys->Q' ys)->compLL f xs Q->compLL f xs Q'
 | [],Q,Q',h,w=>h _ w
 | d :: ds,Q,Q',h,w=>hf d (fun y wy=>compLL_mono hf ds (fun ys=>h _) wy) w
theorem wpG_mono {C:Cfg} {e:Ex} {σ:Sto} {Q Q':List (List D)->Prop} (h:∀ r,Q r->Q' r) (w:wpG C e σ Q):wpG C e σ Q':=by
 cases e <;> first | exact w.elim | skip
 ·next es b=>exact ⟨w.1,wpEs_mono es (fun ds=>rgD_mono fun xs wx=>⟨wx.1,compLL_mono (f:=fun d Q=>wpE C b (σ ++ [some (.sh d)]) (isL Q)) (fun d _ _ hq=>wpE_mono b fun _=>isL_mono hq) xs h wx.2⟩) w.2⟩
 ·next a b=>exact ⟨w.1,wpE_mono a (fun d ⟨xs,e1,wx⟩=>⟨xs,e1,wx.1,compLL_mono (f:=fun d Q=>wpE C b (σ ++ [some (.sh d)]) (isL Q)) (fun d _ _ hq=>wpE_mono b fun _=>isL_mono hq) xs h wx.2⟩) w.2⟩
theorem stoR_mono {row:List D} {d:D} {Q Q':List D->Prop} (h:∀ r,Q r->Q' r) {y:D} (w:stoR row d Q y):stoR row d Q' y:=by
 cases y <;> first | exact w.elim | exact ⟨w.1,h _ w.2⟩
theorem wpR1_mono {C:Cfg} {j:Nat} {σ:Sto} {s:RSt} {row:List D} {Q Q':List D->Prop} (h:∀ r,Q r->Q' r) (w:wpR1 C j σ s row Q):wpR1 C j σ s row Q':=by
 cases s with
 | app v=>exact ⟨w.1,wpE_mono v (fun _=>h _) w.2⟩
 | sto c e v =>
   cases c with
   | none=>exact wpE_mono v (fun d wd=>⟨wd.1,wpE_mono e (fun y=>stoR_mono h) wd.2⟩) w
   | some c =>
     refine wpE_mono c (fun d=>isB_mono fun k wk=>?_) w
     cases k with
     | true=>exact wpE_mono v (fun d wd=>⟨wd.1,wpE_mono e (fun y=>stoR_mono h) wd.2⟩) wk
     | false=>exact h _ wk
theorem wpR_mono {C:Cfg} {j:Nat} {σ:Sto}:∀ (ss:List RSt) {row:List D} {Q Q':List D->Prop},(∀ r,Q r->Q' r)->wpR C j σ ss row Q->wpR C j σ ss row Q'
 | [],row,Q,Q',h,w=>h _ w
 | s :: ss,row,Q,Q',h,w=>wpR1_mono (fun r wr=>wpR_mono ss h wr) w
theorem rowsW_mono {f:List D->(List D->Prop)->Prop} (hf:∀ r {Q Q':List D->Prop},(∀ y,Q y->Q' y)->f r Q->f r Q'):∀ (rs:List (List D)) {Q Q':List (List D)->Prop},(∀ r,Q r->Q' r)->rowsW f rs Q->rowsW f rs Q'
 | [],Q,Q',h,w=>h _ w
 | r :: rs,Q,Q',h,w=>hf r (fun y wy=>rowsW_mono hf rs (fun ys=>h _) wy) w
theorem wpS_mono {C:Cfg}:∀ (s:Sm) {K K':DE} {σ:Sto},DE.le K K'->wpS C s K σ->wpS C s K' σ
 | .nop,K,K',σ,h,w=>by unfold wpS at *;exact h.nx _ w
 | .seq a b,K,K',σ,h,w=>by
   unfold wpS at *
   refine wpS_mono a ?_ w
   exact ⟨fun _=>wpS_mono b h,h.rt,h.bk,h.ct,h.rf,h.xn,h.rg⟩
 | .set i e,K,K',σ,h,w=>by unfold wpS at *;exact wpE_mono e (fun _=>h.nx _) w
 | .unp is e,K,K',σ,h,w=>by
   unfold wpS at *
   refine wpE_mono e (fun d wd=>?_) w
   cases d <;> first | exact ⟨wd.choose,wd.choose_spec.1,h.nx _ wd.choose_spec.2⟩ | exact wd.elim
 | .ret e,K,K',σ,h,w=>by unfold wpS at *;exact wpE_mono e h.rt w
 | .ite c a b,K,K',σ,h,w=>by
   unfold wpS at *
   refine wpE_mono c (fun d=>isB_mono fun k wk=>?_) w
   cases k with
   | true=>exact wpS_mono a h wk
   | false=>exact wpS_mono b h wk
 | .whl c b,K,K',σ,h,w=>by
   unfold wpS at *
   obtain ⟨W,w0,turn⟩:=w
   refine ⟨W,w0,fun m σ hW=>wpE_mono c (fun d=>isB_mono fun k wk=>?_) (turn m σ hW)⟩
   cases k with
   | true =>
     refine wpS_mono b ?_ wk
     exact ⟨fun _ z=>z,h.rt,h.nx,fun _ z=>z,h.rf,h.xn,h.rg⟩
   | false=>exact h.nx _ wk
 | .forR i es b,K,K',σ,h,w=>by
   unfold wpS at *
   exact wpEs_mono es (fun ds=>rgD_mono fun xs=>forL_mono (body:=fun K σ=>wpS C b K σ) (fun K K' σ h=>wpS_mono b h) h xs) w
 | .forE i e b,K,K',σ,h,w=>by
   unfold wpS at *
   exact wpE_mono e (fun d ⟨xs,e1,wx⟩=>⟨xs,e1,forL_mono (body:=fun K σ=>wpS C b K σ) (fun K K' σ h=>wpS_mono b h) h xs wx⟩) w
 | .brk,K,K',σ,h,w=>by unfold wpS at *;exact h.bk _ w
 | .cnt,K,K',σ,h,w=>by unfold wpS at *;exact h.ct _ w
 | .never,K,K',σ,h,w=>by unfold wpS at *;exact w.elim
 | .new i,K,K',σ,h,w=>by unfold wpS at *;exact h.nx _ w
 | .ext i e,K,K',σ,h,w=>by
   unfold wpS at *
   cases g:getS σ i with
   | none=>rw [g] at w;exact w.elim
   | some z =>
     rw [g] at w
     cases z with
     | sh d=>exact w.elim
     | ot _=>exact w.elim
     | ow ds =>
       refine wpE_mono e (fun d wd=>?_) w
       cases d <;> first | exact wd.elim | exact ⟨wd.1,h.nx _ wd.2⟩
 | .app i e,K,K',σ,h,w=>by
   unfold wpS at *
   cases g:getS σ i with
   | none=>rw [g] at w;exact w.elim
   | some z =>
     rw [g] at w
     cases z with
     | sh d=>exact w.elim
     | ot _=>exact w.elim
     | ow ds=>exact ⟨w.1,wpE_mono e (fun _=>h.nx _) w.2⟩
 | .sto i e v,K,K',σ,h,w=>by
   unfold wpS at *
   cases g:getS σ i with
   | none=>rw [g] at w;exact w.elim
   | some z =>
     rw [g] at w
     cases z with
     | sh d=>exact w.elim
     | ot _=>exact w.elim
     | ow ds =>
       refine wpE_mono v (fun d wd=>wpE_mono e (fun y wy=>?_) wd) w
       cases y <;> first | exact ⟨wy.1,h.nx _ wy.2⟩ | exact wy.elim
 | .shr i,K,K',σ,h,w=>by
   unfold wpS at *
   cases g:getS σ i with
   | none=>rw [g] at w;exact w.elim
   | some z =>
     rw [g] at w
     cases z with
     | sh d=>exact w.elim
     | ot _=>exact w.elim
     | ow ds=>exact h.nx _ w
 | .setF i f es,K,K',σ,h,w=>by
   unfold wpS at *
   exact wpEs_mono es (fun ds wd=>⟨wd.1,wd.2.1,fun d r=>by obtain ⟨xs,e,q⟩:=wd.2.2.1 d r;exact ⟨xs,e,h.nx _ q⟩,wd.2.2.2⟩) w
 | .retO i,K,K',σ,h,w=>by
   unfold wpS at *
   cases g:getS σ i with
   | none=>rw [g] at w;exact w.elim
   | some z =>
     rw [g] at w
     cases z with
     | sh d=>exact w.elim
     | ot _=>exact w.elim
     | ow ds=>exact h.rf _ w
 | .retF e,K,K',σ,h,w=>by unfold wpS at *;exact wpE_mono e (fun d=>isL_mono fun xs=>h.rf _) w
 | .retG e,K,K',σ,h,w=>by unfold wpS at *;exact wpG_mono (fun rows=>h.rg _) w
 | .setG i f es,K,K',σ,h,w=>by unfold wpS at *;exact wpEs_mono es (fun ds wd=>⟨wd.1,Ctr.wp_mono (fun d=>isLL_mono fun rows=>h.nx _) wd.2⟩) w
 | .ownG i e,K,K',σ,h,w=>by unfold wpS at *;exact ⟨w.1,wpG_mono (fun rows=>h.nx _) w.2⟩
 | .app2 i e v,K,K',σ,h,w=>by
   unfold wpS at *
   exact otD_mono (fun rows=>wpE_mono e fun x q=>by cases x <;> first | exact q.elim | exact ⟨q.choose,q.choose_spec.1,wpE_mono v (fun y=>h.nx _) q.choose_spec.2⟩) w
 | .appN i,K,K',σ,h,w=>by unfold wpS at *;exact otD_mono (fun rows q=>⟨q.1,h.nx _ q.2⟩) w
 | .forT j i ss,K,K',σ,h,w=>by unfold wpS at *;exact otD_mono (fun rows=>rowsW_mono (f:=wpR C j (setS σ i none) ss) (fun r _ _ hq=>wpR_mono ss hq) rows fun _=>h.nx _) w
 | .shrT i,K,K',σ,h,w=>by unfold wpS at *;exact otD_mono (fun rows=>h.nx _) w
 | .tabO j i e,K,K',σ,h,w=>by unfold wpS at *;exact ocD_mono (fun ds=>wpG_mono fun rows q=>⟨q.1,h.nx _ q.2⟩) (fun rs=>wpG_mono fun rows q=>⟨q.1,h.nx _ q.2⟩) w
 | .hlfT i,K,K',σ,h,w=>by unfold wpS at *;exact ocD_mono (fun _=>h.nx _) (fun rows=>h.nx _) w
 | .forN i e b,K,K',σ,h,w=>by
   unfold wpS at *
   exact wpE_mono e (fun d=>isL_mono fun xs=>forL_mono (body:=fun K σ=>wpS C b K σ) (fun K K' σ h=>wpS_mono b h) h _) w
 | .st2 i a b v,K,K',σ,h,w=>by
   unfold wpS at *
   exact ownD_mono (fun ds=>wpE_mono v fun d=>is2_mono fun x y=>wpE_mono a fun k=>isI_mono fun m q=>⟨q.1,wpE_mono b (fun k=>isI_mono fun n q=>⟨q.1,h.nx _ q.2⟩) q.2⟩) w
end Z
namespace Z
open PySem
theorem bits_def (i:Int):bits i=if i=0 then 0 else i.natAbs.log2 + 1:=by
 unfold bits Builtin.Int.intBits
 by_cases h:i=0
 ·simp [h]
 ·simp [h]
theorem bits_le_iff {i:Int} {n:Nat}:bits i<=n ↔ i.natAbs < 2 ^ n:=by
 rw [bits_def]
 by_cases h:i=0
 ·subst h;simp [Nat.two_pow_pos]
 ·rw [if_neg h]
  have h0:i.natAbs ≠ 0:=by omega
  rw [<- Nat.log2_lt h0]
  omega
theorem lt_bits (i:Int):i.natAbs < 2 ^ bits i:=bits_le_iff.mp (Nat.le_refl _)
theorem bits_ge_iff {i:Int} {n:Nat}:n < bits i ↔ 2 ^ n<=i.natAbs:=by
 have:=@bits_le_iff i n
 omega
theorem bits_pos_le {i:Int} (h:i ≠ 0):2 ^ (bits i - 1)<=i.natAbs:=by
 refine bits_ge_iff.mp ?_
 have:bits i ≠ 0:=by rw [bits_def,if_neg h];omega
 omega
theorem bits_pos {i:Int} (h:i ≠ 0):0 < bits i:=by rw [bits_def,if_neg h];omega
theorem bits_eq_iff {i:Int} {n:Nat}:bits i=n + 1 ↔ 2 ^ n<=i.natAbs /\ i.natAbs < 2 ^ (n + 1):=by
 have h1:=@bits_le_iff i (n + 1)
 have h2:=@bits_ge_iff i n
 constructor
 ·intro h;exact ⟨h2.mp (by omega),h1.mp (by omega)⟩
 ·intro ⟨a,b⟩;have:=h1.mpr b;have:=h2.mpr a;omega
theorem bits_neg (i:Int):bits (-i)=bits i:=by
 rw [bits_def,bits_def,Int.natAbs_neg]
 by_cases h:i=0
 ·simp [h]
 ·rw [if_neg h,if_neg (by omega)]
theorem bits_abs (i:Int):bits (i.natAbs:Int)=bits i:=by
 rw [bits_def,bits_def,Int.natAbs_natCast]
 by_cases h:i=0
 ·simp [h]
 ·rw [if_neg h,if_neg (by omega)]
theorem bits_mul (a b:Int):bits (a * b)<=bits a + bits b:=by
 rw [bits_le_iff,Int.natAbs_mul,Nat.pow_add]
 have h1:=lt_bits a
 have h2:=lt_bits b
 exact Nat.mul_lt_mul'' h1 h2
theorem bits_add (a b:Int):bits (a + b)<=max (bits a) (bits b) + 1:=by
 rw [bits_le_iff,Nat.pow_succ]
 have h1:=lt_bits a
 have h2:=lt_bits b
 have h3:2 ^ bits a<=2 ^ max (bits a) (bits b):=Nat.pow_le_pow_right (by decide) (by omega)
 have h4:2 ^ bits b<=2 ^ max (bits a) (bits b):=Nat.pow_le_pow_right (by decide) (by omega)
 omega
theorem bits_mono {a b:Int} (h:a.natAbs<=b.natAbs):bits a<=bits b:=by
 rw [bits_le_iff];have:=lt_bits b;omega
theorem bits_two_pow (n:Nat):bits (2 ^ n:Int)=n + 1:=by
 rw [bits_eq_iff]
 have e:((2:Int) ^ n).natAbs=2 ^ n:=by rw [Int.natAbs_pow];rfl
 rw [e]
 exact ⟨Nat.le_refl _,Nat.pow_lt_pow_right (by decide) (by omega)⟩
theorem bits_pow_lt {n:Nat} {i:Int} (h0:0<=i) (h:i < 2 ^ n):bits i<=n:=by
 rw [bits_le_iff]
 have:(i.natAbs:Int) < 2 ^ n:=by omega
 exact_mod_cast this
theorem two_pow_pos (n:Nat):(0:Int) < 2 ^ n:=by
 have:=Nat.two_pow_pos n
 exact_mod_cast this
theorem fdiv_pos {a b:Int} (h:0<=b):a.fdiv b=a / b:=Int.fdiv_eq_ediv_of_nonneg a h
theorem fmod_pos {a b:Int} (h:0<=b):a.fmod b=a % b:=Int.fmod_eq_emod_of_nonneg a h
theorem bits_ediv {a b:Int} (h:0 < b):bits (a / b)<=bits a:=by
 refine bits_mono ?_
 by_cases h0:0<=a
 ·have h1:0<=a / b:=Int.ediv_nonneg h0 (Int.le_of_lt h)
  have h2:a / b<=a:=Int.ediv_le_self b h0
  omega
 ·have h1:a / b < 0:=Int.ediv_neg_of_neg_of_pos (by omega) h
  have h2:a<=a / b:=by
   have:=Int.le_ediv_iff_mul_le (a:=a) (b:=a) h
   have h3:a * b<=a:=by
    have:=Int.mul_le_mul_of_nonpos_left (a:=a) (b:=b) (c:=1) (by omega) (by omega)
    omega
   omega
  omega
end Z
namespace Z
open PySem
def startS (n:Nat) (ds:List D):Sto:=ds.map (fun d=>some (.sh d)) ++ List.replicate (n - ds.length) none
def Keeps (C:Cfg) (n:Nat) (b:Sm) (c:Ctr):Prop:=∀ ds,c.pre ds->wpS C b { nx:=fun _=>c.res ds .non,rt:=c.res ds } (startS n ds)
def KeepsF (C:Cfg) (n:Nat) (b:Sm) (c:Ctr):Prop:=∀ ds,c.pre ds->wpS C b { nx:=fun _=>False,rt:=fun _=>False,rf:=fun xs=>c.res ds (.lst xs) } (startS n ds)
def KeepsG (C:Cfg) (n:Nat) (b:Sm) (c:Ctr):Prop:=∀ ds,c.pre ds->wpS C b { nx:=fun _=>False,rt:=fun _=>False,rg:=fun rows=>c.res ds (rowsD rows) } (startS n ds)
def KeepsX (C:Cfg) (n:Nat) (b:Sm) (c:Ctr):Prop:=∀ ds,c.pre ds->wpS C b { nx:=fun _=>c.res ds .non,rt:=c.res ds,xn:=fun x=>c.exn ds ⟨0,x,[]⟩ } (startS n ds)
def KeepsQ (C:Cfg) (n:Nat) (b:Sm) (c:Ctr):Prop:=∀ ds,c.pre ds->wpS C b { nx:=fun _=>False,rt:=fun d=>nol d=true /\ c.res ds d,rg:=fun rows=>c.res ds (rowsD rows),xn:=fun x=>c.exn ds ⟨0,x,[]⟩ } (startS n ds)
section
variable {C:Cfg} {K:DE} {σ:Sto}
theorem ws_nop:wpS C .nop K σ=K.nx σ:=by unfold wpS;rfl
theorem ws_seq {a b:Sm}:wpS C (.seq a b) K σ=wpS C a { K with nx:=fun σ'=>wpS C b K σ' } σ:=by rw [wpS]
theorem ws_set {i:Nat} {e:Ex}:wpS C (.set i e) K σ=wpE C e σ fun d=>K.nx (setS σ i (some (.sh d))):=by rw [wpS]
def unpD (is:List Nat) (K:DE) (σ:Sto):D->Prop
 | .tup ds=>∃ σ',setAll is ds σ=some σ' /\ K.nx σ'
 | .lst ds=>∃ σ',setAll is ds σ=some σ' /\ K.nx σ'
 | _=>False
theorem ws_unp {is:List Nat} {e:Ex}:wpS C (.unp is e) K σ=wpE C e σ (unpD is K σ):=by
 rw [wpS]
 congr 1
theorem ws_ret {e:Ex}:wpS C (.ret e) K σ=wpE C e σ K.rt:=by rw [wpS]
theorem ws_ite {c:Ex} {a b:Sm}:wpS C (.ite c a b) K σ=wpE C c σ (isB fun t=>if t=true then wpS C a K σ else wpS C b K σ):=by rw [wpS]
theorem ws_brk:wpS C .brk K σ=K.bk σ:=by unfold wpS;rfl
theorem ws_cnt:wpS C .cnt K σ=K.ct σ:=by unfold wpS;rfl
theorem ws_never:wpS C .never K σ=False:=by unfold wpS;rfl
def appD (K:DE) (σ:Sto) (i:Nat) (w:(D->Prop)->Prop):Option Sl->Prop
 | some (.ow ds)=>ds.length < lim /\ w fun d=>K.nx (setS σ i (some (.ow (ds ++ [d]))))
 | _=>False
def stoD (K:DE) (σ:Sto) (i:Nat) (ds:List D) (d:D):D->Prop
 | .int k=>(0<=k /\ k < ds.length) /\ K.nx (setS σ i (some (.ow (ds.set k.toNat d))))
 | _=>False
def stoW (K:DE) (σ:Sto) (i:Nat) (w:(D->Prop)->Prop) (u:(D->Prop)->Prop):Option Sl->Prop
 | some (.ow ds)=>w fun d=>u (stoD K σ i ds d)
 | _=>False
theorem appD_ow {i:Nat} {w:(D->Prop)->Prop} {ds:List D}:appD K σ i w (some (.ow ds))=(ds.length < lim /\ w fun d=>K.nx (setS σ i (some (.ow (ds ++ [d]))))):=rfl
theorem stoD_int {i:Nat} {ds:List D} {d:D} {k:Int}:stoD K σ i ds d (.int k)=((0<=k /\ k < ds.length) /\ K.nx (setS σ i (some (.ow (ds.set k.toNat d))))):=rfl
theorem stoW_ow {i:Nat} {w u:(D->Prop)->Prop} {ds:List D}:stoW K σ i w u (some (.ow ds))=w fun d=>u (stoD K σ i ds d):=rfl
theorem ownD_ow {f:List D->Prop} {ds:List D}:ownD f (some (.ow ds))=f ds:=rfl
theorem ws_new {i:Nat}:wpS C (.new i) K σ=K.nx (setS σ i (some (.ow []))):=by rw [wpS]
theorem ws_app {i:Nat} {e:Ex}:wpS C (.app i e) K σ=appD K σ i (wpE C e σ) (getS σ i):=by
 rw [wpS]
 unfold appD
 cases getS σ i with
 | none=>rfl
 | some z=>cases z <;> rfl
theorem ws_sto {i:Nat} {e v:Ex}:wpS C (.sto i e v) K σ=stoW K σ i (wpE C v σ) (wpE C e σ) (getS σ i):=by
 rw [wpS]
 unfold stoW
 cases getS σ i with
 | none=>rfl
 | some z=>cases z with
   | sh d=>rfl
   | ot _=>rfl
   | ow ds =>
     simp only []
     congr 1
theorem ws_shr {i:Nat}:wpS C (.shr i) K σ=ownD (fun ds=>K.nx (setS σ i (some (.sh (.lst ds))))) (getS σ i):=by
 rw [wpS]
 unfold ownD
 cases getS σ i with
 | none=>rfl
 | some z=>cases z <;> rfl
theorem ws_retO {i:Nat}:wpS C (.retO i) K σ=ownD K.rf (getS σ i):=by
 rw [wpS]
 unfold ownD
 cases getS σ i with
 | none=>rfl
 | some z=>cases z <;> rfl
theorem ws_setF {i f:Nat} {es:List Ex}:wpS C (.setF i f es) K σ=wpEs C es σ fun ds=>C.fr f=true /\ (C.ct f).wp ds (fun d=>∃ xs,d=.lst xs /\ K.nx (setS σ i (some (.ow xs)))) C.E:=by rw [wpS]
theorem we_obs {i:Nat} {e:Ex} {Q:D->Prop}:wpE C (.obs i e) σ Q=ownD (fun ds=>wpE C e (setS σ i (some (.sh (.lst ds)))) fun d=>nol d=true /\ Q d) (getS σ i):=by
 rw [wpE]
 unfold ownD
 cases getS σ i with
 | none=>rfl
 | some z=>cases z <;> rfl
theorem ws_seq_set {i:Nat} {e:Ex} {b:Sm}:wpS C (.seq (.set i e) b) K σ=wpE C e σ fun d=>wpS C b K (setS σ i (some (.sh d))):=by rw [ws_seq,ws_set]
theorem ws_seq_unp {is:List Nat} {e:Ex} {b:Sm}:wpS C (.seq (.unp is e) b) K σ=wpE C e σ (unpD is { K with nx:=fun σ'=>wpS C b K σ' } σ):=by rw [ws_seq,ws_unp]
theorem ws_seq_ret {e:Ex} {b:Sm}:wpS C (.seq (.ret e) b) K σ=wpE C e σ K.rt:=by rw [ws_seq,ws_ret]
theorem ws_seq_new {i:Nat} {b:Sm}:wpS C (.seq (.new i) b) K σ=wpS C b K (setS σ i (some (.ow []))):=by rw [ws_seq,ws_new]
theorem ws_seq_app {i:Nat} {e:Ex} {b:Sm}:wpS C (.seq (.app i e) b) K σ=appD { K with nx:=fun σ'=>wpS C b K σ' } σ i (wpE C e σ) (getS σ i):=by rw [ws_seq,ws_app]
theorem ws_seq_sto {i:Nat} {e v:Ex} {b:Sm}:wpS C (.seq (.sto i e v) b) K σ=stoW { K with nx:=fun σ'=>wpS C b K σ' } σ i (wpE C v σ) (wpE C e σ) (getS σ i):=by rw [ws_seq,ws_sto]
theorem ws_seq_shr {i:Nat} {b:Sm}:wpS C (.seq (.shr i) b) K σ=ownD (fun ds=>wpS C b K (setS σ i (some (.sh (.lst ds))))) (getS σ i):=by rw [ws_seq,ws_shr]
theorem ws_seq_setF {i f:Nat} {es:List Ex} {b:Sm}:wpS C (.seq (.setF i f es) b) K σ=wpEs C es σ fun ds=>C.fr f=true /\ (C.ct f).wp ds (fun d=>∃ xs,d=.lst xs /\ wpS C b K (setS σ i (some (.ow xs)))) C.E:=by rw [ws_seq,ws_setF]
theorem ws_seq_retO {i:Nat} {b:Sm}:wpS C (.seq (.retO i) b) K σ=ownD K.rf (getS σ i):=by rw [ws_seq,ws_retO]
theorem isL_lst {f:List D->Prop} {xs:List D}:isL f (.lst xs)=f xs:=rfl
theorem insD_int {i:Nat} {ds:List D} {d:D} {k:Int}:insD K σ i ds d (.int k)=((0<=k /\ k<=ds.length /\ ds.length < lim) /\ K.nx (setS σ i (some (.ow (ds.take k.toNat ++ d :: ds.drop k.toNat))))):=rfl
theorem ws_retF {e:Ex}:wpS C (.retF e) K σ=wpE C e σ (isL K.rf):=by rw [wpS]
theorem ws_seq_retF {e:Ex} {b:Sm}:wpS C (.seq (.retF e) b) K σ=wpE C e σ (isL K.rf):=by rw [ws_seq,ws_retF]
theorem obD_ot {f:List (List D)->Prop} {p:Prop} {rows:List (List D)}:obD f p (some (.ot rows))=f rows:=rfl
theorem obD_sh {f:List (List D)->Prop} {p:Prop} {d:D}:obD f p (some (.sh d))=p:=rfl
theorem ocD_ow {f:List D->Prop} {g:List (List D)->Prop} {ds:List D}:ocD f g (some (.ow ds))=f ds:=rfl
theorem ocD_ot {f:List D->Prop} {g:List (List D)->Prop} {rows:List (List D)}:ocD f g (some (.ot rows))=g rows:=rfl
theorem otD_ot {f:List (List D)->Prop} {rows:List (List D)}:otD f (some (.ot rows))=f rows:=rfl
theorem app2D_int {i:Nat} {rows:List (List D)} {w:(D->Prop)->Prop} {k:Int}:app2D K σ i rows w (.int k)=∃ row,(0<=k /\ rows[k.toNat]?=some row /\ row.length < lim) /\ w fun y=>K.nx (setS σ i (some (.ot (rows.set k.toNat (row ++ [y]))))):=rfl
theorem ws_retG {e:Ex}:wpS C (.retG e) K σ=wpG C e σ K.rg:=by rw [wpS]
theorem ws_setG {i f:Nat} {es:List Ex}:wpS C (.setG i f es) K σ=wpEs C es σ fun ds=>((C.fr f=false /\ C.f2 f=true) /\ noT σ i=true) /\ (C.ct f).wp ds (isLL fun rows=>K.nx (setS σ i (some (.ot rows)))) C.E:=by rw [wpS]
theorem ws_ownG {i:Nat} {e:Ex}:wpS C (.ownG i e) K σ=(noT σ i=true /\ wpG C e σ fun rows=>K.nx (setS σ i (some (.ot rows)))):=by rw [wpS]
theorem ws_app2 {i:Nat} {e v:Ex}:wpS C (.app2 i e v) K σ=otD (fun rows=>wpE C e σ (app2D K σ i rows (wpE C v σ))) (getS σ i):=by rw [wpS]
theorem ws_appN {i:Nat}:wpS C (.appN i) K σ=otD (fun rows=>rows.length < lim /\ K.nx (setS σ i (some (.ot (rows ++ [[]]))))) (getS σ i):=by rw [wpS]
theorem ws_forT {j i:Nat} {ss:List RSt}:wpS C (.forT j i ss) K σ=otD (fun rows=>rowsW (wpR C j (setS σ i none) ss) rows fun rows'=>K.nx (setS (setS σ i (some (.ot rows'))) j none)) (getS σ i):=by rw [wpS]
theorem ws_shrT {i:Nat}:wpS C (.shrT i) K σ=otD (fun rows=>K.nx (setS σ i (some (.sh (rowsD rows))))) (getS σ i):=by rw [wpS]
theorem ws_hlfT {i:Nat}:wpS C (.hlfT i) K σ=ocD (fun _=>K.nx σ) (fun rows=>K.nx (setS σ i (some (.ow (rows.map .lst))))) (getS σ i):=by rw [wpS]
theorem ws_forN {i:Nat} {e:Ex} {b:Sm}:wpS C (.forN i e b) K σ=wpE C e σ (isL fun xs=>forL (fun K σ=>wpS C b K σ) i K (enmD xs) σ):=by rw [wpS]
theorem ws_st2 {i:Nat} {a b v:Ex}:wpS C (.st2 i a b v) K σ=ownD (fun ds=>wpE C v σ (is2 fun x y=>wpE C a σ (isI fun m=>(0<=m /\ m < ds.length) /\ wpE C b (setS σ i (some (.ow (ds.set m.toNat x)))) (isI fun n=>(0<=n /\ n < ds.length) /\ K.nx (setS σ i (some (.ow ((ds.set m.toNat x).set n.toNat y)))))))) (getS σ i):=by rw [wpS]
theorem popD_int {i j:Nat} {ms ls:List D} {k:Int}:popD K σ i j ms ls (.int k)=∃ d,(0<=k /\ ls[k.toNat]?=some d /\ ms.length < lim /\ k < 16777216) /\ K.nx (setS (setS σ j (some (.ow (ls.eraseIdx k.toNat)))) i (some (.ow (ms ++ [d])))):=rfl
theorem ws_tabO {j i:Nat} {e:Ex}:wpS C (.tabO j i e) K σ=ocD (fun ds=>wpG C e (setS σ j (some (.sh (.lst ds)))) fun rows=>(rows.all nols=true) /\ K.nx (setS σ i (some (.sh (rowsD rows))))) (fun rs=>wpG C e (setS σ j (some (.sh (rowsD rs)))) fun rows=>(rows.all nols=true) /\ K.nx (setS σ i (some (.sh (rowsD rows))))) (getS σ j):=by rw [wpS]
theorem ws_seq_tabO {j i:Nat} {e:Ex} {b:Sm}:wpS C (.seq (.tabO j i e) b) K σ=ocD (fun ds=>wpG C e (setS σ j (some (.sh (.lst ds)))) fun rows=>(rows.all nols=true) /\ wpS C b K (setS σ i (some (.sh (rowsD rows))))) (fun rs=>wpG C e (setS σ j (some (.sh (rowsD rs)))) fun rows=>(rows.all nols=true) /\ wpS C b K (setS σ i (some (.sh (rowsD rows))))) (getS σ j):=by rw [ws_seq,ws_tabO]
theorem ws_seq_retG {e:Ex} {b:Sm}:wpS C (.seq (.retG e) b) K σ=wpG C e σ K.rg:=by rw [ws_seq,ws_retG]
theorem ws_seq_setG {i f:Nat} {es:List Ex} {b:Sm}:wpS C (.seq (.setG i f es) b) K σ=wpEs C es σ fun ds=>((C.fr f=false /\ C.f2 f=true) /\ noT σ i=true) /\ (C.ct f).wp ds (isLL fun rows=>wpS C b K (setS σ i (some (.ot rows)))) C.E:=by rw [ws_seq,ws_setG]
theorem ws_seq_ownG {i:Nat} {e:Ex} {b:Sm}:wpS C (.seq (.ownG i e) b) K σ=(noT σ i=true /\ wpG C e σ fun rows=>wpS C b K (setS σ i (some (.ot rows)))):=by rw [ws_seq,ws_ownG]
theorem ws_seq_app2 {i:Nat} {e v:Ex} {b:Sm}:wpS C (.seq (.app2 i e v) b) K σ=otD (fun rows=>wpE C e σ (app2D { K with nx:=fun σ'=>wpS C b K σ' } σ i rows (wpE C v σ))) (getS σ i):=by rw [ws_seq,ws_app2]
theorem ws_seq_appN {i:Nat} {b:Sm}:wpS C (.seq (.appN i) b) K σ=otD (fun rows=>rows.length < lim /\ wpS C b K (setS σ i (some (.ot (rows ++ [[]]))))) (getS σ i):=by rw [ws_seq,ws_appN]
theorem ws_seq_shrT {i:Nat} {b:Sm}:wpS C (.seq (.shrT i) b) K σ=otD (fun rows=>wpS C b K (setS σ i (some (.sh (rowsD rows))))) (getS σ i):=by rw [ws_seq,ws_shrT]
theorem ws_seq_hlfT {i:Nat} {b:Sm}:wpS C (.seq (.hlfT i) b) K σ=ocD (fun _=>wpS C b K σ) (fun rows=>wpS C b K (setS σ i (some (.ow (rows.map .lst))))) (getS σ i):=by rw [ws_seq,ws_hlfT]
theorem ws_forE {i:Nat} {e:Ex} {b:Sm}:wpS C (.forE i e b) K σ=wpE C e σ fun d=>∃ xs,itemsD d=some xs /\ forL (fun K σ=>wpS C b K σ) i K xs σ:=by rw [wpS]
theorem ws_forR {i:Nat} {es:List Ex} {b:Sm}:wpS C (.forR i es b) K σ=wpEs C es σ fun ds=>rgD ds fun xs=>forL (fun K σ=>wpS C b K σ) i K xs σ:=by rw [wpS]
end
theorem forL_cons {body:DE->Sto->Prop} {i:Nat} {K:DE} {d:D} {ds:List D} {σ:Sto}:forL body i K (d :: ds) σ=body { K with nx:=forL body i K ds,ct:=forL body i K ds,bk:=K.nx } (setS σ i (some (.sh d))):=rfl
theorem forL_by {body:DE->Sto->Prop} {i:Nat} {K:DE} (P:List D->Sto->Prop) (hb:∀ K K' σ,DE.le K K'->body K σ->body K' σ) :
 ∀ (xs:List D) (σ:Sto),P xs σ->(∀ d ds σ,P (d :: ds) σ->body { K with nx:=P ds,ct:=P ds,bk:=K.nx } (setS σ i (some (.sh d))))->(∀ σ,P [] σ->K.nx σ)->forL body i K xs σ
 | [],σ,h0,hs,he=>he σ h0
 | d :: ds,σ,h0,hs,he=>by
   rw [forL_cons]
   refine hb _ _ _ ?_ (hs d ds σ h0)
   exact ⟨fun σ' p=>forL_by P hb ds σ' p hs he,fun _ z=>z,fun _ z=>z,fun σ' p=>forL_by P hb ds σ' p hs he,fun _ z=>z,fun _ z=>z,fun _ z=>z⟩
theorem forS_by {C:Cfg} {b:Sm} {i:Nat} {K:DE} {xs:List D} {σ:Sto} (P:List D->Sto->Prop) (h0:P xs σ) (hs:∀ d ds σ,P (d :: ds) σ->wpS C b { K with nx:=P ds,ct:=P ds,bk:=K.nx } (setS σ i (some (.sh d)))) (he:∀ σ,P [] σ->K.nx σ) :
 forL (fun K σ=>wpS C b K σ) i K xs σ:=forL_by (body:=fun K σ=>wpS C b K σ) P (fun K K' σ h w=>wpS_mono b h w) xs σ h0 hs he
theorem whileW_by {c:Sto->(Bool->Prop)->Prop} {body:DE->Sto->Prop} {K:DE} {σ:Sto} (P:Sto->Prop) (μ:Sto->Nat) (h0:P σ)
 (hs:∀ σ,P σ->c σ fun t=>if t=true then body { K with nx:=fun σ'=>μ σ' < μ σ /\ P σ',ct:=fun σ'=>μ σ' < μ σ /\ P σ',bk:=K.nx } σ else K.nx σ)
 (hc:∀ σ Q Q',(∀ t,Q t->Q' t)->c σ Q->c σ Q') (hb:∀ K K' σ,DE.le K K'->body K σ->body K' σ):whileW c body K σ:=by
 refine ⟨fun m σ=>m=μ σ /\ P σ,⟨_,rfl,h0⟩,?_⟩
 rintro m σ ⟨rfl,p⟩
 refine hc σ _ _ (fun t w=>?_) (hs σ p)
 cases t with
 | true =>
   refine hb _ _ _ ?_ w
   exact ⟨fun σ' ⟨l,p'⟩=>⟨_,l,rfl,p'⟩,fun _ z=>z,fun _ z=>z,fun σ' ⟨l,p'⟩=>⟨_,l,rfl,p'⟩,fun _ z=>z,fun _ z=>z,fun _ z=>z⟩
 | false=>exact w
theorem whl_by {C:Cfg} {c:Ex} {b:Sm} {K:DE} {σ:Sto} (P:Sto->Prop) (μ:Sto->Nat) (h0:P σ)
 (hs:∀ σ,P σ->wpE C c σ (isB fun t=>if t=true then wpS C b { K with nx:=fun σ'=>μ σ' < μ σ /\ P σ',ct:=fun σ'=>μ σ' < μ σ /\ P σ',bk:=K.nx } σ else K.nx σ)):wpS C (.whl c b) K σ:=by
 unfold wpS
 exact whileW_by P μ h0 hs (fun σ Q Q' h w=>wpE_mono c (fun d=>isB_mono h) w) fun K K' σ h w=>wpS_mono b h w
theorem eq_non_non:eqD .non .non=true:=by unfold eqD;rfl
theorem eq_non_bl {v:Bool}:eqD .non (.bl v)=false:=by unfold eqD;rfl
theorem eq_non_int {v:Int}:eqD .non (.int v)=false:=by unfold eqD;rfl
theorem eq_non_str {v:Str}:eqD .non (.str v)=false:=by unfold eqD;rfl
theorem eq_non_tup {v:List D}:eqD .non (.tup v)=false:=by unfold eqD;rfl
theorem eq_non_lst {v:List D}:eqD .non (.lst v)=false:=by unfold eqD;rfl
theorem eq_bl_non {u:Bool}:eqD (.bl u) .non=false:=by unfold eqD;rfl
theorem eq_bl_bl {u:Bool} {v:Bool}:eqD (.bl u) (.bl v)=(u == v):=by unfold eqD;rfl
theorem eq_bl_int {u:Bool} {v:Int}:eqD (.bl u) (.int v)=((if u then 1 else 0) == v):=by unfold eqD;rfl
theorem eq_bl_str {u:Bool} {v:Str}:eqD (.bl u) (.str v)=false:=by unfold eqD;rfl
theorem eq_bl_tup {u:Bool} {v:List D}:eqD (.bl u) (.tup v)=false:=by unfold eqD;rfl
theorem eq_bl_lst {u:Bool} {v:List D}:eqD (.bl u) (.lst v)=false:=by unfold eqD;rfl
theorem eq_int_non {u:Int}:eqD (.int u) .non=false:=by unfold eqD;rfl
theorem eq_int_bl {u:Int} {v:Bool}:eqD (.int u) (.bl v)=(u == (if v then 1 else 0)):=by unfold eqD;rfl
theorem eq_int_int {u:Int} {v:Int}:eqD (.int u) (.int v)=(u == v):=by unfold eqD;rfl
theorem eq_int_str {u:Int} {v:Str}:eqD (.int u) (.str v)=false:=by unfold eqD;rfl
theorem eq_int_tup {u:Int} {v:List D}:eqD (.int u) (.tup v)=false:=by unfold eqD;rfl
theorem eq_int_lst {u:Int} {v:List D}:eqD (.int u) (.lst v)=false:=by unfold eqD;rfl
theorem eq_str_non {u:Str}:eqD (.str u) .non=false:=by unfold eqD;rfl
theorem eq_str_bl {u:Str} {v:Bool}:eqD (.str u) (.bl v)=false:=by unfold eqD;rfl
theorem eq_str_int {u:Str} {v:Int}:eqD (.str u) (.int v)=false:=by unfold eqD;rfl
theorem eq_str_str {u:Str} {v:Str}:eqD (.str u) (.str v)=(u == v):=by unfold eqD;rfl
theorem eq_str_tup {u:Str} {v:List D}:eqD (.str u) (.tup v)=false:=by unfold eqD;rfl
theorem eq_str_lst {u:Str} {v:List D}:eqD (.str u) (.lst v)=false:=by unfold eqD;rfl
theorem eq_tup_non {u:List D}:eqD (.tup u) .non=false:=by unfold eqD;rfl
theorem eq_tup_bl {u:List D} {v:Bool}:eqD (.tup u) (.bl v)=false:=by unfold eqD;rfl
theorem eq_tup_int {u:List D} {v:Int}:eqD (.tup u) (.int v)=false:=by unfold eqD;rfl
theorem eq_tup_str {u:List D} {v:Str}:eqD (.tup u) (.str v)=false:=by unfold eqD;rfl
theorem eq_tup_tup {u:List D} {v:List D}:eqD (.tup u) (.tup v)=eqDs u v:=by unfold eqD;rfl
theorem eq_tup_lst {u:List D} {v:List D}:eqD (.tup u) (.lst v)=false:=by unfold eqD;rfl
theorem eq_lst_non {u:List D}:eqD (.lst u) .non=false:=by unfold eqD;rfl
theorem eq_lst_bl {u:List D} {v:Bool}:eqD (.lst u) (.bl v)=false:=by unfold eqD;rfl
theorem eq_lst_int {u:List D} {v:Int}:eqD (.lst u) (.int v)=false:=by unfold eqD;rfl
theorem eq_lst_str {u:List D} {v:Str}:eqD (.lst u) (.str v)=false:=by unfold eqD;rfl
theorem eq_lst_tup {u:List D} {v:List D}:eqD (.lst u) (.tup v)=false:=by unfold eqD;rfl
theorem eq_lst_lst {u:List D} {v:List D}:eqD (.lst u) (.lst v)=eqDs u v:=by unfold eqD;rfl
theorem eqs_nn:eqDs [] []=true:=by unfold eqDs;rfl
theorem eqs_nc {y:D} {ys:List D}:eqDs [] (y :: ys)=false:=by unfold eqDs;rfl
theorem eqs_cn {y:D} {ys:List D}:eqDs (y :: ys) []=false:=by unfold eqDs;rfl
theorem eqs_cc {x y:D} {xs ys:List D}:eqDs (x :: xs) (y :: ys)=(eqD x y && eqDs xs ys):=by rw [eqDs]
theorem dep_non:depD .non=0:=by unfold depD;rfl
theorem dep_bl {u:Bool}:depD (.bl u)=0:=by unfold depD;rfl
theorem dep_int {u:Int}:depD (.int u)=0:=by unfold depD;rfl
theorem dep_str {u:Str}:depD (.str u)=0:=by unfold depD;rfl
theorem dep_tup {u:List D}:depD (.tup u)=depDs u + 1:=by unfold depD;rfl
theorem dep_lst {u:List D}:depD (.lst u)=depDs u + 1:=by unfold depD;rfl
theorem deps_n:depDs []=0:=by unfold depDs;rfl
theorem deps_c {x:D} {xs:List D}:depDs (x :: xs)=max (depD x) (depDs xs):=by rw [depDs]
section
variable {Q:D->Prop} {i j:Int}
theorem bin_add:binD .add (.int i) (.int j) Q=Q (.int (i + j)):=rfl
theorem bin_adds {x y:Str}:binD .add (.str x) (.str y) Q=(x.length + y.length<=lim /\ Q (.str (x ++ y))):=rfl
theorem bin_addl {x y:List D}:binD .add (.lst x) (.lst y) Q=(x.length + y.length<=lim /\ Q (.lst (x ++ y))):=rfl
theorem bin_sub:binD .sub (.int i) (.int j) Q=Q (.int (i - j)):=rfl
theorem bin_mul:binD .mul (.int i) (.int j) Q=(MulOk i j /\ Q (.int (i * j))):=rfl
theorem bin_mull {x:List D} {k:Int}:binD .mul (.lst x) (.int k) Q=(RepOk x.length k /\ Q (.lst (List.replicate k.toNat x).flatten)):=rfl
theorem bin_fdiv:binD .fdiv (.int i) (.int j) Q=((j ≠ 0 /\ bits j<=9000) /\ Q (.int (i.fdiv j))):=rfl
theorem bin_mod:binD .mod (.int i) (.int j) Q=(j ≠ 0 /\ Q (.int (i.fmod j))):=rfl
theorem bin_shl:binD .shl (.int i) (.int j) Q=(ShlOk i j /\ Q (.int (i * 2 ^ j.toNat))):=rfl
theorem bin_shr:binD .shr (.int i) (.int j) Q=(0<=j /\ Q (.int (i / 2 ^ j.toNat))):=rfl
theorem bin_band:binD .band (.int i) (.int j) Q=Q (.int (Builtin.bitAnd i j)):=rfl
theorem bin_pow:binD .pow (.int i) (.int j) Q=(PowOk i j /\ Q (.int (i ^ j.toNat))):=rfl
theorem cmp_eq {x y:D}:cmpD .eq x y Q=(min (depD x) (depD y)<=100 /\ Q (.bl (eqD x y))):=rfl
theorem cmp_ne {x y:D}:cmpD .ne x y Q=(min (depD x) (depD y)<=100 /\ Q (.bl (!eqD x y))):=rfl
theorem cmp_lt:cmpD .lt (.int i) (.int j) Q=Q (.bl (decide (i < j))):=rfl
theorem cmp_le:cmpD .le (.int i) (.int j) Q=Q (.bl (decide (i<=j))):=rfl
theorem cmp_gt:cmpD .gt (.int i) (.int j) Q=Q (.bl (decide (j < i))):=rfl
theorem cmp_ge:cmpD .ge (.int i) (.int j) Q=Q (.bl (decide (j<=i))):=rfl
theorem cmp_isT {b:Bool}:cmpD .isT (.bl b) (.bl true) Q=Q (.bl b):=by cases b <;> rfl
theorem cmp_notT {b:Bool}:cmpD .notT (.bl b) (.bl true) Q=Q (.bl (!b)):=by cases b <;> rfl
theorem ix_lst {xs:List D}:ixD (.lst xs) (.int i) Q=∃ d,atD xs i=some d /\ Q d:=rfl
theorem ix_tup {xs:List D}:ixD (.tup xs) (.int i) Q=∃ d,atD xs i=some d /\ Q d:=rfl
theorem bi_abs:biD .abs [.int i] Q=Q (.int (if i < 0 then -i else i)):=rfl
theorem bi_max:biD .max [.int i,.int j] Q=Q (.int (if j > i then j else i)):=rfl
theorem bi_min:biD .min [.int i,.int j] Q=Q (.int (if j < i then j else i)):=rfl
theorem bi_lenl {xs:List D}:biD .len [.lst xs] Q=Q (.int xs.length):=rfl
theorem bi_lent {xs:List D}:biD .len [.tup xs] Q=Q (.int xs.length):=rfl
theorem bi_int:biD .int [.int i] Q=Q (.int i):=rfl
theorem bi_intb {b:Bool}:biD .int [.bl b] Q=Q (.int (if b then 1 else 0)):=rfl
theorem bi_listl {xs:List D}:biD .list [.lst xs] Q=Q (.lst xs):=rfl
theorem bi_tupl {xs:List D}:biD .tuple [.lst xs] Q=Q (.tup xs):=rfl
theorem bi_tupt {xs:List D}:biD .tuple [.tup xs] Q=Q (.tup xs):=rfl
theorem bi_listt {xs:List D}:biD .list [.tup xs] Q=Q (.lst xs):=rfl
theorem map_inj {α:Type} {f:α->D} (hf:∀ a b,f a=f b->a=b):∀ {xs ys:List α},xs.map f=ys.map f->xs=ys
 | [],[],_=>rfl
 | [],_ :: _,h=>by simp at h
 | _ :: _,[],h=>by simp at h
 | x :: xs,y :: ys,h=>by
   simp only [List.map_cons,List.cons.injEq] at h
   rw [hf _ _ h.1,map_inj hf h.2]
theorem bi_sum {ns:List Int} {Q:D->Prop}:biD .sum [.lst (ns.map .int)] Q ↔ Q (.int ns.sum):=by
 unfold biD one1 listD
 exact ⟨fun ⟨ms,e,q⟩=>by rw [map_inj (fun a b h=>by injection h) e];exact q,fun q=>⟨ns,rfl,q⟩⟩
theorem bi_all {bs:List Bool} {Q:D->Prop}:biD .all [.lst (bs.map .bl)] Q ↔ Q (.bl (bs.all id)):=by
 unfold biD one1 listD
 exact ⟨fun ⟨ms,e,q⟩=>by rw [map_inj (fun a b h=>by injection h) e];exact q,fun q=>⟨bs,rfl,q⟩⟩
theorem bi_any {bs:List Bool} {Q:D->Prop}:biD .any [.lst (bs.map .bl)] Q ↔ Q (.bl (bs.any id)):=by
 unfold biD one1 listD
 exact ⟨fun ⟨ms,e,q⟩=>by rw [map_inj (fun a b h=>by injection h) e];exact q,fun q=>⟨bs,rfl,q⟩⟩
theorem mm_ints {mx:Bool} {ns:List Int} {d:Int} {Q:D->Prop}:mmD mx (.lst (ns.map .int)) (.int d) Q ↔ Q (.int (mmF mx d ns)):=by
 unfold mmD
 exact ⟨fun ⟨ms,e,q⟩=>by rw [map_inj (fun a b h=>by injection h) e];exact q,fun q=>⟨ns,rfl,q⟩⟩
theorem bi_min1 {ns:List Int} {Q:D->Prop}:biD .min [.lst (ns.map .int)] Q ↔ ns ≠ [] /\ Q (.int (mmF false 0 ns)):=by
 exact ⟨fun ⟨ms,e,h,q⟩=>by rw [map_inj (fun a b h=>by injection h) e];exact ⟨h,q⟩,fun q=>⟨ns,rfl,q.1,q.2⟩⟩
theorem mt_bits:mtD .bitlen (.int i) Q=Q (.int (bits i)):=rfl
theorem isB_bl {P:Bool->Prop} {b:Bool}:isB P (.bl b)=P b:=rfl
theorem unp_lst {is:List Nat} {K:DE} {σ:Sto} {ds:List D}:unpD is K σ (.lst ds)=∃ σ',setAll is ds σ=some σ' /\ K.nx σ':=rfl
theorem unp_tup {is:List Nat} {K:DE} {σ:Sto} {ds:List D}:unpD is K σ (.tup ds)=∃ σ',setAll is ds σ=some σ' /\ K.nx σ':=rfl
theorem rg_1 {P:List D->Prop}:rgD [.int i] P=(RgOk i /\ P (rangeD 0 1 i.toNat)):=rfl
theorem rg_2 {P:List D->Prop}:rgD [.int i,.int j] P=((RgOk i /\ RgOk j) /\ P (rangeD i 1 (j - i).toNat)):=rfl
theorem rg_3 {P:List D->Prop} {k:Int}:rgD [.int i,.int j,.int k] P=((RgOk i /\ RgOk j /\ 0 < k /\ k < 1000) /\ P (rangeD i k (if i < j then (j - i - 1) / k + 1 else 0).toNat)):=rfl
end
theorem atD_0 {x:D} {xs:List D}:atD (x :: xs) 0=some x:=rfl
theorem atD_1 {x y:D} {xs:List D}:atD (x :: y :: xs) 1=some y:=rfl
theorem atD_2 {x y z:D} {xs:List D}:atD (x :: y :: z :: xs) 2=some z:=rfl
theorem atD_3 {x y z u:D} {xs:List D}:atD (x :: y :: z :: u :: xs) 3=some u:=rfl
noncomputable def zC:=And.intro @popD_int (And.intro @otD_ot (And.intro @obD_ot (And.intro @obD_sh (And.intro @app2D_int (And.intro @isL_lst (And.intro @insD_int (And.intro @appD_ow (And.intro @stoD_int (And.intro @stoW_ow (And.intro @ownD_ow (And.intro @ocD_ow (And.intro @ocD_ot (And.intro @bin_add (And.intro @bin_adds (And.intro @bin_addl (And.intro @bin_sub (And.intro @bin_mul (And.intro @bin_mull (And.intro @bin_fdiv (And.intro @bin_mod (And.intro @bin_shl (And.intro @bin_shr (And.intro @bin_band (And.intro @bin_pow (And.intro @cmp_eq (And.intro @cmp_ne (And.intro @cmp_lt (And.intro @cmp_le (And.intro @cmp_gt (And.intro @cmp_ge (And.intro @cmp_isT (And.intro @cmp_notT (And.intro @ix_lst (And.intro @ix_tup (And.intro @bi_abs (And.intro @bi_max (And.intro @bi_min (And.intro @bi_lenl (And.intro @bi_lent (And.intro @bi_int (And.intro @bi_intb (And.intro @bi_listl (And.intro @bi_listt (And.intro @bi_tupl (And.intro @bi_tupt (And.intro @bi_sum (And.intro @bi_all (And.intro @bi_any (And.intro @mm_ints (And.intro @mt_bits (And.intro @isB_bl (And.intro @unp_tup (And.intro @unp_lst (And.intro @rg_1 (And.intro @rg_2 (And.intro @rg_3 (And.intro @eq_non_non (And.intro @eq_non_bl (And.intro @eq_non_int (And.intro @eq_non_str (And.intro @eq_non_tup (And.intro @eq_non_lst (And.intro @eq_bl_non (And.intro @eq_bl_bl (And.intro @eq_bl_int (And.intro @eq_bl_str (And.intro @eq_bl_tup (And.intro @eq_bl_lst (And.intro @eq_int_non (And.intro @eq_int_bl (And.intro @eq_int_int (And.intro @eq_int_str (And.intro @eq_int_tup (And.intro @eq_int_lst (And.intro @eq_str_non (And.intro @eq_str_bl (And.intro @eq_str_int (And.intro @eq_str_str (And.intro @eq_str_tup (And.intro @eq_str_lst (And.intro @eq_tup_non (And.intro @eq_tup_bl (And.intro @eq_tup_int (And.intro @eq_tup_str (And.intro @eq_tup_tup (And.intro @eq_tup_lst (And.intro @eq_lst_non (And.intro @eq_lst_bl (And.intro @eq_lst_int (And.intro @eq_lst_str (And.intro @eq_lst_tup (And.intro @eq_lst_lst (And.intro @eqs_nn (And.intro @eqs_nc (And.intro @eqs_cn (And.intro @eqs_cc (And.intro @dep_non (And.intro @dep_bl (And.intro @dep_int (And.intro @dep_str (And.intro @dep_tup (And.intro @dep_lst (And.intro @deps_n (And.intro @deps_c (And.intro @decide_eq_true_eq (And.intro @Bool.not_eq_true' (And.intro @Bool.and_eq_true (And.intro @Bool.not_true (And.intro @Bool.not_false (And.intro @decide_eq_false_iff_not (And.intro @false_implies (And.intro @and_true (And.intro @true_and (And.intro @and_false (And.intro @false_and (And.intro @Nat.min_self (And.intro @Nat.max_self (And.intro @Nat.zero_le (And.intro @Nat.min_zero (And.intro @Nat.zero_min (And.intro @Nat.max_zero (And.intro @Nat.zero_max (And.intro @atD_0 (And.intro @atD_1 (And.intro @atD_2 (And.intro @atD_3 (And.intro @Bool.true_eq_false (And.intro @Bool.false_eq_true (And.intro @not_false_eq_true (And.intro @not_true_eq_false (And.intro @Bool.and_true (And.intro @Bool.true_and (And.intro @Bool.and_false (And.intro @Bool.false_and (And.intro @Bool.or_true (And.intro @Bool.true_or (And.intro @Bool.or_false (And.intro @Bool.false_or (@Int.cast_ofNat_Int)))))))))))))))))))))))))))))))))))))))))))))))))))))))))))))))))))))))))))))))))))))))))))))))))))))))))))))))))))))))))))))))))))))))))))
noncomputable def zP:=And.intro @ws_nop (And.intro @ws_seq (And.intro @ws_set (And.intro @ws_unp (And.intro @ws_ret (And.intro @ws_ite (And.intro @ws_brk (And.intro @ws_cnt (And.intro @ws_never (And.intro @ws_new (And.intro @ws_app (And.intro @ws_sto (And.intro @ws_shr (And.intro @ws_setF (And.intro @ws_retO (And.intro @ws_retF (And.intro @ws_retG (And.intro @ws_setG (And.intro @ws_ownG (And.intro @ws_app2 (And.intro @ws_appN (And.intro @ws_tabO (And.intro @ws_shrT (@ws_hlfT)))))))))))))))))))))))
noncomputable def zS:=And.intro @ws_seq_set (And.intro @ws_seq_unp (And.intro @ws_seq_ret (And.intro @ws_seq_new (And.intro @ws_seq_app (And.intro @ws_seq_sto (And.intro @ws_seq_shr (And.intro @ws_seq_setF (And.intro @ws_seq_retO (And.intro @ws_seq_retF (And.intro @ws_seq_retG (And.intro @ws_seq_setG (And.intro @ws_seq_ownG (And.intro @ws_seq_app2 (And.intro @ws_seq_appN (And.intro @ws_seq_tabO (And.intro @ws_seq_shrT (And.intro @ws_seq_hlfT (And.intro @ws_nop (And.intro @ws_ret (And.intro @ws_brk (And.intro @ws_cnt (And.intro @ws_never (And.intro @ws_retO (And.intro @ws_retF (@ws_retG)))))))))))))))))))))))))
def sInt (σ:Sto) (i:Nat):Int:=match getS σ i with | some (.sh (.int k))=>k | _=>0
theorem mulOk_bits {i j:Int} (h:bits i + bits j<=134217728):MulOk i j:=.inr (.inr h)
def b_two_to:Sm :=
 (.seq (.set 1 (.cst (.int 1)))
 (.seq (.set 2 (.cst (.int 2)))
 (.seq (.set 3 (.var 0))
 (.seq (.whl (.cmp .gt (.var 3) (.cst (.int 0))) (.seq (.ite (.cmp .eq (.bin .mod (.var 3) (.cst (.int 2))) (.cst (.int 1))) (.seq (.set 1 (.bin .mul (.var 1) (.var 2)))
  .nop) .nop)
  (.seq (.set 2 (.bin .mul (.var 2) (.var 2)))
  (.seq (.set 3 (.bin .fdiv (.var 3) (.cst (.int 2))))
  .nop))))
 (.seq (.ret (.var 1))
 .nop)))))
def b_value (i_two_to:Nat):Sm :=
 (.seq (.ite (.cmp .lt (.ix (.var 0) (.cst (.int 1))) (.cst (.int 0))) (.seq (.ret (.tup [(.ix (.var 0) (.cst (.int 0))),(.call i_two_to [(.neg (.ix (.var 0) (.cst (.int 1))))])]))
  .nop) .nop)
 (.seq (.ret (.tup [(.bin .mul (.ix (.var 0) (.cst (.int 0))) (.call i_two_to [(.ix (.var 0) (.cst (.int 1)))])),(.cst (.int 1))]))
 .nop))
def c_two_to:Ctr where
 pre ds:=match ds with | [.int n]=>0<=n /\ n<=1000000 | _=>False
 res ds d:=match ds with | [.int n]=>d=.int (2 ^ n.toNat) | _=>False
theorem k_two_to {C:Cfg}:Keeps C 4 b_two_to c_two_to:=by
 rintro ds h
 simp only [c_two_to] at h
 split at h
 case h_2=>exact h.elim
 next n =>
 obtain ⟨n,rfl⟩:∃ m:Nat,n=m:=⟨n.toNat,by lia⟩
 have hn:n<=1000000:=by lia
 try simp only [zP,zC,wpE,wpEs,getS,setS,setAll,tyD,itemsD,Ctr.wp,startS,List.map,List.replicate,Nat.reduceSub,Nat.reduceAdd,reduceIte,Nat.reduceLeDiff,Nat.reduceLT,Int.reduceEq,Int.reduceNeg,Int.reduceLT,Int.reduceLE,Int.reduceSub,Int.reduceAdd,Int.reduceBEq,List.map_cons,List.map_nil,List.replicate_succ,List.replicate_zero,List.length_cons,List.length_nil,List.cons_append,List.nil_append,List.append_nil,forall_eq,forall_eq',implies_true,if_true,if_false,ite_true,ite_false,Option.some.injEq,exists_eq_left',exists_eq_left,ne_eq,beq_iff_eq,beq_self_eq_true,beq_eq_false_iff_ne,Option.isSome_some,b_two_to,c_two_to,Int.toNat_natCast]
 refine whl_by (fun σ=>∃ j:Nat,2 ^ j<=2 * n + 2 /\ σ=[some (.sh (.int n)),some (.sh (.int (2 ^ (n % 2 ^ j)))),some (.sh (.int (2 ^ (2 ^ j)))),some (.sh (.int ((n / 2 ^ j:Nat):Int)))]) (fun σ=>(sInt σ 3).toNat) ?_ ?_
 ·refine ⟨0,by lia,?_⟩
  simp [Nat.mod_one]
 ·rintro σ ⟨j,hj,rfl⟩
  try simp only [zP,zC,wpE,wpEs,getS,setS,setAll,tyD,itemsD,Ctr.wp,startS,List.map,List.replicate,Nat.reduceSub,Nat.reduceAdd,reduceIte,Nat.reduceLeDiff,Nat.reduceLT,Int.reduceEq,Int.reduceNeg,Int.reduceLT,Int.reduceLE,Int.reduceSub,Int.reduceAdd,Int.reduceBEq,List.map_cons,List.map_nil,List.replicate_succ,List.replicate_zero,List.length_cons,List.length_nil,List.cons_append,List.nil_append,List.append_nil,forall_eq,forall_eq',implies_true,if_true,if_false,ite_true,ite_false,Option.some.injEq,exists_eq_left',exists_eq_left,ne_eq,beq_iff_eq,beq_self_eq_true,beq_eq_false_iff_ne,Option.isSome_some,sInt]
  by_cases h0:0 < n / 2 ^ j
  ·rw [if_pos (by lia)]
   have hle:2 ^ j<=n:=by
    rcases Nat.lt_or_ge n (2 ^ j) with h | h
    ·rw [Nat.div_eq_of_lt h] at h0;lia
    ·exact h
   have e1:((n / 2 ^ j:Nat):Int).fmod 2=((n / 2 ^ j % 2:Nat):Int):=by rw [fmod_pos (by decide)];lia
   have e2:((n / 2 ^ j:Nat):Int).fdiv 2=((n / 2 ^ (j + 1):Nat):Int):=by
    rw [fdiv_pos (by decide),Nat.pow_succ,<- Nat.div_div_eq_div_mul];lia
   have e3:(2:Int) ^ 2 ^ j * 2 ^ 2 ^ j=2 ^ 2 ^ (j + 1):=by rw [<- Int.pow_add,Nat.pow_succ];congr 1;lia
   have m2:MulOk ((2:Int) ^ 2 ^ j) (2 ^ 2 ^ j):=mulOk_bits (by rw [bits_two_pow];lia)
   have lt:(((n / 2 ^ (j + 1):Nat):Int)).toNat < (((n / 2 ^ j:Nat):Int)).toNat:=by
    have:n / 2 ^ (j + 1) < n / 2 ^ j:=by rw [Nat.pow_succ,<- Nat.div_div_eq_div_mul];lia
    lia
   have hj':2 ^ (j + 1)<=2 * n + 2:=by rw [Nat.pow_succ];lia
   rw [e1,e2,e3]
   have dec:n % 2 ^ (j + 1)=n % 2 ^ j + 2 ^ j * (n / 2 ^ j % 2):=by rw [Nat.pow_succ,Nat.mod_mul]
   by_cases ho:n / 2 ^ j % 2=1
   ·rw [if_pos (by lia)]
    have e4:(2:Int) ^ (n % 2 ^ j) * 2 ^ 2 ^ j=2 ^ (n % 2 ^ (j + 1)):=by rw [<- Int.pow_add,dec,ho];congr 1;lia
    have hm:n % 2 ^ j < 2 ^ j:=Nat.mod_lt _ (Nat.two_pow_pos j)
    have m1:MulOk ((2:Int) ^ (n % 2 ^ j)) (2 ^ 2 ^ j):=mulOk_bits (by rw [bits_two_pow,bits_two_pow];lia)
    exact ⟨m1,m2,by decide,lt,j + 1,hj',by rw [e4]⟩
   ·rw [if_neg (by lia)]
    have e4:n % 2 ^ (j + 1)=n % 2 ^ j:=by
     have:n / 2 ^ j % 2=0:=by lia
     rw [dec,this];lia
    exact ⟨m2,by decide,lt,j + 1,hj',by rw [e4]⟩
  ·rw [if_neg (by lia)]
   have:n < 2 ^ j:=by
    rcases Nat.lt_or_ge n (2 ^ j) with h | h
    ·exact h
    ·have:=Nat.div_pos h (Nat.two_pow_pos j);lia
   rw [Nat.mod_eq_of_lt this]
theorem seq_cut {C:Cfg} {a b:Sm} {K:DE} {σ:Sto} (P:Sto->Prop) (h1:wpS C a { K with nx:=P } σ) (h2:∀ σ',P σ'->wpS C b K σ'):wpS C (.seq a b) K σ:=by
 rw [ws_seq]
 refine wpS_mono a ?_ h1
 exact ⟨fun σ' p=>h2 σ' p,fun _ z=>z,fun _ z=>z,fun _ z=>z,fun _ z=>z,fun _ z=>z,fun _ z=>z⟩
def c_value:Ctr where
 pre ds:=match ds with | [.tup [.int w,.int p]]=>(-1000000<=p /\ p<=1000000) /\ bits w<=1000000 | _=>False
 res ds d:=match ds with | [.tup [.int w,.int p]]=>d=.tup [.int (if p < 0 then w else w * 2 ^ p.toNat),.int (if p < 0 then 2 ^ (-p).toNat else 1)] | _=>False
theorem k_value {C:Cfg} {i:Nat} (h1:C.ct i=c_two_to):Keeps C 1 (b_value i) c_value:=by
 rintro ds h
 simp only [c_value] at h
 split at h
 case h_2=>exact h.elim
 next w p =>
 obtain ⟨⟨p1,p2⟩,hw⟩:=h
 try simp only [zP,zC,wpE,wpEs,getS,setS,setAll,tyD,itemsD,Ctr.wp,startS,List.map,List.replicate,Nat.reduceSub,Nat.reduceAdd,reduceIte,Nat.reduceLeDiff,Nat.reduceLT,Int.reduceEq,Int.reduceNeg,Int.reduceLT,Int.reduceLE,Int.reduceSub,Int.reduceAdd,Int.reduceBEq,List.map_cons,List.map_nil,List.replicate_succ,List.replicate_zero,List.length_cons,List.length_nil,List.cons_append,List.nil_append,List.append_nil,forall_eq,forall_eq',implies_true,if_true,if_false,ite_true,ite_false,Option.some.injEq,exists_eq_left',exists_eq_left,ne_eq,beq_iff_eq,beq_self_eq_true,beq_eq_false_iff_ne,Option.isSome_some,b_value,c_value,h1,c_two_to]
 by_cases hp:p < 0
 ·rw [if_pos hp]
  simp only [hp,if_true]
  exact ⟨⟨by lia,by lia⟩,trivial⟩
 ·rw [if_neg hp]
  simp only [hp,if_false]
  refine ⟨⟨by lia,by lia⟩,mulOk_bits ?_,trivial⟩
  rw [bits_two_pow];lia
end Z
local macro_rules | `(tactic| simp_all_arith! only [$ls,*])=>`(tactic| try simp only [Z.zP,Z.zC,Z.wpE,Z.wpEs,Z.getS,Z.setS,Z.setAll,Z.tyD,Z.itemsD,Z.Ctr.wp,Z.startS,List.map,List.replicate,Nat.reduceSub,Nat.reduceAdd,reduceIte,Nat.reduceLeDiff,Nat.reduceLT,Int.reduceEq,Int.reduceNeg,Int.reduceLT,Int.reduceLE,Int.reduceSub,Int.reduceAdd,Int.reduceBEq,List.map_cons,List.map_nil,List.replicate_succ,List.replicate_zero,List.length_cons,List.length_nil,List.cons_append,List.nil_append,List.append_nil,forall_eq,forall_eq',implies_true,if_true,if_false,ite_true,ite_false,Option.some.injEq,exists_eq_left',exists_eq_left,ne_eq,beq_iff_eq,beq_self_eq_true,beq_eq_false_iff_ne,Option.isSome_some,$ls,*])
local macro_rules | `(tactic| simp_arith! only [$ls,*])=>`(tactic| try simp only [Z.zS,Z.zC,Z.wpE,Z.wpEs,Z.getS,Z.setS,Z.setAll,Z.tyD,Z.itemsD,Z.Ctr.wp,Z.startS,List.map,List.replicate,Nat.reduceSub,Nat.reduceAdd,reduceIte,Nat.reduceLeDiff,Nat.reduceLT,Int.reduceEq,Int.reduceNeg,Int.reduceLT,Int.reduceLE,Int.reduceSub,Int.reduceAdd,Int.reduceBEq,List.map_cons,List.map_nil,List.replicate_succ,List.replicate_zero,List.length_cons,List.length_nil,List.cons_append,List.nil_append,List.append_nil,forall_eq,forall_eq',implies_true,if_true,if_false,ite_true,ite_false,Option.some.injEq,exists_eq_left',exists_eq_left,ne_eq,beq_iff_eq,beq_self_eq_true,beq_eq_false_iff_ne,Option.isSome_some,$ls,*])
local macro_rules | `(tactic| simp_arith only [$ls,*])=>`(tactic| try simp only [Z.zC,Z.wpE,Z.wpEs,Z.getS,Z.setS,Z.setAll,Z.tyD,Z.itemsD,Z.Ctr.wp,Z.startS,List.map,List.replicate,Nat.reduceSub,Nat.reduceAdd,reduceIte,Nat.reduceLeDiff,Nat.reduceLT,Int.reduceEq,Int.reduceNeg,Int.reduceLT,Int.reduceLE,Int.reduceSub,Int.reduceAdd,Int.reduceBEq,List.map_cons,List.map_nil,List.replicate_succ,List.replicate_zero,List.length_cons,List.length_nil,List.cons_append,List.nil_append,List.append_nil,forall_eq,forall_eq',implies_true,if_true,if_false,ite_true,ite_false,Option.some.injEq,exists_eq_left',exists_eq_left,ne_eq,beq_iff_eq,beq_self_eq_true,beq_eq_false_iff_ne,Option.isSome_some,$ls,*])
local macro_rules | `(tactic| simp_all! only [$ls,*])=>`(tactic| try simp only [Z.zS,Z.zC,Z.wpE,Z.wpEs,Z.getS,Z.setS,Z.setAll,Z.tyD,Z.itemsD,Z.startS,List.map,List.replicate,Nat.reduceSub,Nat.reduceAdd,reduceIte,Nat.reduceLeDiff,Nat.reduceLT,Int.reduceEq,Int.reduceNeg,Int.reduceLT,Int.reduceLE,Int.reduceSub,Int.reduceAdd,Int.reduceBEq,List.map_cons,List.map_nil,List.replicate_succ,List.replicate_zero,List.length_cons,List.length_nil,List.cons_append,List.nil_append,List.append_nil,forall_eq,forall_eq',implies_true,if_true,if_false,ite_true,ite_false,Option.some.injEq,exists_eq_left',exists_eq_left,ne_eq,beq_iff_eq,beq_self_eq_true,beq_eq_false_iff_ne,Option.isSome_some,$ls,*])
local macro_rules | `(tactic| dsimp! only [$ls,*])=>`(tactic| try simp only [Z.zC,Z.wpE,Z.wpEs,Z.getS,Z.setS,Z.setAll,Z.tyD,Z.itemsD,Z.startS,List.map,List.replicate,Nat.reduceSub,Nat.reduceAdd,reduceIte,Nat.reduceLeDiff,Nat.reduceLT,Int.reduceEq,Int.reduceNeg,Int.reduceLT,Int.reduceLE,Int.reduceSub,Int.reduceAdd,Int.reduceBEq,List.map_cons,List.map_nil,List.replicate_succ,List.replicate_zero,List.length_cons,List.length_nil,List.cons_append,List.nil_append,List.append_nil,forall_eq,forall_eq',implies_true,if_true,if_false,ite_true,ite_false,Option.some.injEq,exists_eq_left',exists_eq_left,ne_eq,beq_iff_eq,beq_self_eq_true,beq_eq_false_iff_ne,Option.isSome_some,$ls,*])
namespace Z
open PySem
def b_law_cell:Sm :=
 (.seq (.ite (.cmp .eq (.var 0) (.lst [])) (.seq (.ret (.bin .mul (.var 1) (.cst (.int 7919))))
  .nop) .nop)
 (.seq (.ret (.bin .add (.ix (.var 0) (.bin .mod (.var 1) (.bi .len [(.var 0)]))) (.bin .mul (.bin .fdiv (.var 1) (.bi .len [(.var 0)])) (.cst (.int 104729)))))
 .nop))
def b_law_drawn:Sm :=
 (.seq (.set 2 (.bin .mod (.bin .add (.bin .mul (.var 0) (.cst (.int 6364136223846793005))) (.bin .mul (.bin .add (.var 1) (.cst (.int 1))) (.cst (.int 1442695040888963407)))) (.cst (.int 340282366920938463463374607431768211507))))
 (.seq (.ret (.bin .mod (.bin .mul (.var 2) (.var 2)) (.cst (.int 340282366920938463463374607431768211297))))
 .nop))
def b_law_bare:Sm :=
 (.seq (.ite (.cmp .eq (.var 0) (.cst (.int 0))) (.seq (.ret (.tup [(.cst (.int 0)),(.cst (.int 0))]))
  .nop) .nop)
 (.seq (.set 2 (.bin .band (.var 0) (.bin .sub (.cst (.int 0)) (.var 0))))
 (.seq (.ret (.tup [(.bin .fdiv (.var 0) (.var 2)),(.bin .sub (.bin .add (.var 1) (.meth .bitlen (.var 2))) (.cst (.int 1)))]))
 .nop)))
def b_law_number (i_law_drawn i_law_bare:Nat):Sm :=
 (.seq (.set 4 (.call i_law_drawn [(.var 0),(.var 1)]))
 (.seq (.set 5 (.bin .mod (.var 4) (.cst (.int 8))))
 (.seq (.set 6 (.bin .sub (.bin .mod (.bin .fdiv (.var 4) (.cst (.int 8))) (.bin .add (.bin .mul (.cst (.int 2)) (.var 3)) (.cst (.int 1)))) (.var 3)))
 (.seq (.set 7 (.bin .mod (.bin .fdiv (.var 4) (.bin .add (.bin .mul (.cst (.int 16)) (.var 3)) (.cst (.int 8)))) (.bin .shl (.cst (.int 1)) (.var 2))))
 (.seq (.ite (.cmp .eq (.var 5) (.cst (.int 0))) (.seq (.set 7 (.ix (.lst [(.cst (.int 0)),(.cst (.int 1)),(.cst (.int 3))]) (.bin .mod (.bin .fdiv (.var 4) (.cst (.int 64))) (.cst (.int 3)))))
  .nop) .nop)
 (.seq (.ite (.cmp .eq (.var 5) (.cst (.int 1))) (.seq (.set 7 (.bin .sub (.bin .shl (.cst (.int 1)) (.var 2)) (.cst (.int 1))))
  .nop) .nop)
 (.seq (.ite (.cmp .eq (.var 5) (.cst (.int 2))) (.seq (.set 7 (.bin .add (.bin .shl (.cst (.int 1)) (.bin .sub (.var 2) (.cst (.int 1)))) (.cst (.int 1))))
  .nop) .nop)
 (.seq (.ite (.cmp .eq (.var 5) (.cst (.int 3))) (.seq (.set 7 (.bin .mod (.var 0) (.bin .shl (.cst (.int 1)) (.var 2))))
  .nop) .nop)
 (.seq (.ite (.cmp .eq (.var 5) (.cst (.int 4))) (.seq (.set 7 (.bin .mod (.var 7) (.cst (.int 32))))
  .nop) .nop)
 (.seq (.ite (.cmp .eq (.bin .mod (.bin .fdiv (.var 4) (.cst (.int 16))) (.cst (.int 2))) (.cst (.int 1))) (.seq (.set 7 (.bin .sub (.cst (.int 0)) (.var 7)))
  .nop) .nop)
 (.seq (.ret (.call i_law_bare [(.var 7),(.var 6)]))
 .nop)))))))))))
def b_law_whole:Sm :=
 (.seq (.ret (.and (.isi (.var 0) .int) (.not (.isi (.var 0) .bool))))
 .nop)
def b_law_common:Sm :=
 (.seq (.set 0 (.bi .abs [(.var 0)]))
 (.seq (.set 1 (.bi .abs [(.var 1)]))
 (.seq (.whl (.cmp .ne (.var 1) (.cst (.int 0))) (.seq (.set 2 (.bin .sub (.var 0) (.bin .mul (.bin .fdiv (.var 0) (.var 1)) (.var 1))))
  (.seq (.set 0 (.var 1))
  (.seq (.set 1 (.var 2))
  .nop))))
 (.seq (.ret (.var 0))
 .nop))))
def b_law_is_ratio (i_law_whole i_law_common:Nat):Sm :=
 (.seq (.ite (.or (.not (.isi (.var 0) .tuple)) (.or (.cmp .ne (.bi .len [(.var 0)]) (.cst (.int 2))) (.or (.not (.call i_law_whole [(.ix (.var 0) (.cst (.int 0)))])) (.not (.call i_law_whole [(.ix (.var 0) (.cst (.int 1)))]))))) (.seq (.ret (.cst (.bl false)))
  .nop) .nop)
 (.seq (.ret (.and (.cmp .gt (.ix (.var 0) (.cst (.int 1))) (.cst (.int 0))) (.and (.cmp .eq (.bin .mul (.ix (.var 0) (.cst (.int 0))) (.var 2)) (.bin .mul (.var 1) (.ix (.var 0) (.cst (.int 1))))) (.cmp .eq (.call i_law_common [(.ix (.var 0) (.cst (.int 0))),(.ix (.var 0) (.cst (.int 1)))]) (.cst (.int 1))))))
 .nop))
def b_law_parts:Sm :=
 (.seq (.ret (.tup [(.bin .shl (.var 0) (.bi .max [(.cst (.int 0)),(.var 1)])),(.bin .shl (.cst (.int 1)) (.bi .max [(.cst (.int 0)),(.bin .sub (.cst (.int 0)) (.var 1))]))]))
 .nop)
def b_law_width (i_law_drawn i_law_cell:Nat):Sm :=
 (.seq (.ret (.ix (.lst [(.bin .add (.cst (.int 8)) (.bin .mod (.call i_law_drawn [(.call i_law_cell [(.var 0),(.var 1)]),(.var 1)]) (.cst (.int 57)))),(.cst (.int 8)),(.cst (.int 53)),(.cst (.int 64))]) (.bin .mod (.call i_law_drawn [(.call i_law_cell [(.var 0),(.var 1)]),(.bin .add (.var 1) (.cst (.int 1)))]) (.cst (.int 4)))))
 .nop)
theorem atD_some {xs:List D} {i:Int} (h0:0<=i) (h1:i < xs.length):∃ d,atD xs i=some d /\ d ∈ xs:=by
 have h:i.toNat < xs.length:=by lia
 refine ⟨xs[i.toNat],?_,List.getElem_mem h⟩
 unfold atD
 rw [if_pos h0,List.getElem?_eq_getElem h]
theorem script_at {ns:List Int} {i:Int} (h0:0<=i) (h1:i < ns.length):∃ n,atD (ns.map .int) i=some (.int n):=by
 obtain ⟨d,e,m⟩:=atD_some (xs:=ns.map .int) h0 (by simpa using h1)
 obtain ⟨n,_,rfl⟩:=List.mem_map.mp m
 exact ⟨n,e⟩
def c_cell:Ctr where
 pre ds:=∃ (ns:List Int) (k:Int),ds=[.lst (ns.map .int),.int k] /\ ns.length<=63 /\ 0<=k
 res ds d:=∃ i,d=.int i
theorem eqDs_nil (ns:List Int):eqDs (ns.map .int) []=decide (ns=[]):=by
 cases ns <;> simp [eqD,eqDs]
theorem k_cell {C:Cfg}:Keeps C 2 b_law_cell c_cell:=by
 rintro ds ⟨ns,k,rfl,hl,hk⟩
 simp_all_arith! only [b_law_cell,c_cell,List.length_map]
 refine ⟨by lia,?_⟩
 rw [eqDs_nil]
 simp only [decide_eq_true_eq]
 by_cases hn:ns=[]
 ·rw [if_pos hn]
  exact ⟨.inr (.inl (by decide)),_,rfl⟩
 ·rw [if_neg hn]
  have hp:0 < ns.length:=List.length_pos_iff.mpr hn
  have hb:bits (ns.length:Int)<=64:=bits_pow_lt (by lia) (by lia)
  rw [fmod_pos (by lia)]
  obtain ⟨n,e⟩:=script_at (ns:=ns) (i:=k % ns.length) (Int.emod_nonneg _ (by lia)) (Int.emod_lt_of_pos _ (by lia))
  refine ⟨by lia,_,e,⟨by lia,by lia⟩,.inr (.inl (by decide)),?_⟩
  simp_all_arith! only []
  exact ⟨_,rfl⟩
def c_drawn:Ctr where
 pre ds:=match ds with | [.int _,.int _]=>True | _=>False
 res ds d:=∃ i,d=.int i /\ 0<=i /\ i < 340282366920938463463374607431768211297
theorem k_drawn {C:Cfg}:Keeps C 3 b_law_drawn c_drawn:=by
 rintro ds h
 simp only [c_drawn] at h
 split at h
 case h_2=>exact h.elim
 next c k =>
 simp_all_arith! only [b_law_drawn,c_drawn]
 rw [fmod_pos (by decide),fmod_pos (by decide)]
 have b1:bits ((c * 6364136223846793005 + (k + 1) * 1442695040888963407) % 340282366920938463463374607431768211507)<=129:=bits_pow_lt (Int.emod_nonneg _ (by decide)) (Int.lt_trans (Int.emod_lt_of_pos _ (by decide)) (by decide))
 refine ⟨.inr (.inl (by decide)),.inr (.inl (by decide)),mulOk_bits (by lia),_,rfl,Int.emod_nonneg _ (by decide),Int.emod_lt_of_pos _ (by decide)⟩
theorem two_part:∀ n:Nat,0 < n->∃ v m,n=2 ^ v * m /\ m % 2=1:=by
 intro n
 induction n using Nat.strongRecOn with
 | ind n ih =>
   intro hn
   by_cases h:n % 2=1
   ·exact ⟨0,n,by simp,h⟩
   ·obtain ⟨v,m,e,hm⟩:=ih (n / 2) (by lia) (by lia)
    refine ⟨v + 1,m,?_,hm⟩
    rw [Nat.pow_succ,Nat.mul_right_comm,<- e];lia
theorem land_pred:∀ (v m:Nat),m % 2=1->(2 ^ v * m) &&& (2 ^ v * m - 1)=2 ^ v * (m - 1)
 | 0,m,h=>by
   simp only [Nat.pow_zero,Nat.one_mul]
   refine Nat.eq_of_testBit_eq fun i=>?_
   rw [Nat.testBit_and]
   cases i with
   | zero=>simp only [Nat.testBit_zero];have:(m - 1) % 2=0:=by lia
           simp [h,this]
   | succ i=>simp only [Nat.testBit_succ];have:(m - 1) / 2=m / 2:=by lia
             rw [this];simp
 | v + 1,m,h=>by
   have ih:=land_pred v m h
   have hp:0 < 2 ^ v * m:=Nat.mul_pos (Nat.two_pow_pos v) (by lia)
   have e1:2 ^ (v + 1) * m=2 * (2 ^ v * m):=by rw [Nat.pow_succ];grind
   have e2:2 ^ (v + 1) * (m - 1)=2 * (2 ^ v * (m - 1)):=by rw [Nat.pow_succ];grind
   rw [e1,e2]
   generalize hA:2 ^ v * m=A at *
   refine Nat.eq_of_testBit_eq fun i=>?_
   rw [Nat.testBit_and]
   cases i with
   | zero=>simp only [Nat.testBit_zero];simp
   | succ i =>
     simp only [Nat.testBit_succ]
     have a1:(2 * A) / 2=A:=by lia
     have a2:(2 * A - 1) / 2=A - 1:=by lia
     have a3:2 * (2 ^ v * (m - 1)) / 2=2 ^ v * (m - 1):=by lia
     rw [a1,a2,a3,<- ih,Nat.testBit_and]
theorem low_of {w:Int} (h:w ≠ 0):∃ (v:Nat) (m:Int),w=m * 2 ^ v /\ m % 2=1 /\ Builtin.bitAnd w (0 - w)=2 ^ v:=by
 obtain ⟨v,m,e,hm⟩:=two_part w.natAbs (by lia)
 have hl:=land_pred v m hm
 rw [<- e] at hl
 have hp:(2 ^ v * (m - 1):Nat)=w.natAbs - 2 ^ v:=by rw [Nat.mul_sub,<- e];simp
 have hle:2 ^ v<=w.natAbs:=by rw [e];exact Nat.le_mul_of_pos_right _ (by lia)
 have cast:((2 ^ v:Nat):Int)=2 ^ v:=by simp
 have ecast:(w.natAbs:Int)=2 ^ v * m:=by rw [e];simp
 by_cases hw:0<=w
 ·refine ⟨v,m,?_,by lia,?_⟩
  ·rw [Int.mul_comm,<- ecast];lia
  ·unfold Builtin.bitAnd
   have d1:decide (0<=w)=true:=by simpa using hw
   have d2:decide (0<=0 - w)=false:=by simp;lia
   rw [d1,d2]
   simp only [Builtin.bitNot]
   have e1:w.toNat=w.natAbs:=by lia
   have e2:(-(0 - w) - 1).toNat=w.natAbs - 1:=by lia
   rw [e1,e2,hl,hp];lia
 ·refine ⟨v,-m,?_,by lia,?_⟩
  ·rw [Int.neg_mul,Int.mul_comm,<- ecast];lia
  ·unfold Builtin.bitAnd
   have d1:decide (0<=w)=false:=by simpa using hw
   have d2:decide (0<=0 - w)=true:=by simp;lia
   rw [d1,d2]
   simp only [Builtin.bitNot]
   have e1:(0 - w).toNat=w.natAbs:=by lia
   have e2:(-w - 1).toNat=w.natAbs - 1:=by lia
   rw [e1,e2,hl,hp];lia
structure Num (n:Nat) (w p:Int):Prop where
 odd:w % 2=1 \/ (w=0 /\ p=0)
 sz:w.natAbs < 2 ^ n
structure Bare (w p w' p':Int):Prop where
 nought:w=0->w'=0 /\ p'=0
 same:w ≠ 0->∃ v:Nat,w=w' * 2 ^ v /\ p'=p + v /\ w' % 2=1
theorem Bare.num {w p w' p':Int} {n:Nat} (b:Bare w p w' p') (h:w.natAbs < 2 ^ n):Num n w' p':=by
 by_cases hw:w=0
 ·obtain ⟨rfl,rfl⟩:=b.nought hw
  exact ⟨.inr ⟨rfl,rfl⟩,Nat.two_pow_pos n⟩
 ·obtain ⟨v,e,_,ho⟩:=b.same hw
  refine ⟨.inl ho,?_⟩
  have:w.natAbs=w'.natAbs * 2 ^ v:=by rw [e,Int.natAbs_mul,Int.natAbs_pow];rfl
  have:w'.natAbs * 1<=w'.natAbs * 2 ^ v:=Nat.mul_le_mul_left _ (Nat.two_pow_pos v)
  lia
theorem Bare.pow {w p w' p':Int} {n:Nat} (b:Bare w p w' p') (h:w.natAbs < 2 ^ n):(w'=0 /\ p'=0) \/ (p<=p' /\ p' < p + n):=by
 by_cases hw:w=0
 ·exact .inl (b.nought hw)
 ·obtain ⟨v,e,ep,ho⟩:=b.same hw
  refine .inr ⟨by lia,?_⟩
  have:w.natAbs=w'.natAbs * 2 ^ v:=by rw [e,Int.natAbs_mul,Int.natAbs_pow];rfl
  have:1 * 2 ^ v<=w'.natAbs * 2 ^ v:=Nat.mul_le_mul_right _ (by lia)
  have:2 ^ v < 2 ^ n:=by lia
  have:=(Nat.pow_lt_pow_iff_right (a:=2) (by decide)).mp this
  lia
def c_bare:Ctr where
 pre ds:=match ds with | [.int w,.int _]=>bits w<=9000 | _=>False
 res ds d:=match ds with | [.int w,.int p]=>∃ w' p',d=.tup [.int w',.int p'] /\ Bare w p w' p' | _=>False
theorem k_bare {C:Cfg}:Keeps C 3 b_law_bare c_bare:=by
 rintro ds h
 simp only [c_bare] at h
 split at h
 case h_2=>exact h.elim
 next w p =>
 simp_all_arith! only [b_law_bare,c_bare]
 by_cases hw:w=0
 ·rw [if_pos hw]
  exact ⟨0,0,rfl,fun _=>⟨rfl,rfl⟩,fun z=>absurd hw z⟩
 ·rw [if_neg hw]
  obtain ⟨v,m,e,ho,el⟩:=low_of hw
  rw [el,bits_two_pow]
  have hv:v + 1<=bits w:=by
   have:v < bits w:=by
    rw [bits_ge_iff,e,Int.natAbs_mul,Int.natAbs_pow]
    exact Nat.le_mul_of_pos_left _ (by lia)
   lia
  have hp:=two_pow_pos v
  refine ⟨⟨by lia,by lia⟩,m,p + v,?_,fun z=>absurd z hw,fun _=>⟨v,e,rfl,ho⟩⟩
  have:w.fdiv (2 ^ v)=m:=by rw [fdiv_pos (by lia),e,Int.mul_ediv_cancel _ (by lia)]
  rw [this,show p + ((v + 1:Nat):Int) - 1=p + v by lia]
theorem shl_one {n:Nat}:(1:Int) * 2 ^ n=2 ^ n:=Int.one_mul _
theorem num_le {n:Nat} {x:Int} (h0:0<=x) (h:x < 2 ^ n):x.natAbs < 2 ^ n:=by
 have:(x.natAbs:Int) < 2 ^ n:=by lia
 exact_mod_cast this
def c_number:Ctr where
 pre ds:=match ds with | [.int _,.int _,.int w,.int far]=>(8<=w /\ w<=64) /\ 1<=far /\ far<=5000 | _=>False
 res ds d:=match ds with | [.int _,.int _,.int w,.int far]=>∃ x p,d=.tup [.int x,.int p] /\ Num w.toNat x p /\ -far<=p /\ p < far + 64 | _=>False
theorem k_number {C:Cfg} {i j:Nat} (h2:C.ct j=c_drawn) (h1:C.ct i=c_bare):Keeps C 8 (b_law_number j i) c_number:=by
 rintro ds h
 simp only [c_number] at h
 split at h
 case h_2=>exact h.elim
 next c k w far =>
 obtain ⟨⟨w1,w2⟩,f1,f2⟩:=h
 obtain ⟨n,rfl⟩:∃ m:Nat,w=m:=⟨w.toNat,by lia⟩
 have hn:n<=64:=by lia
 have hn8:8<=n:=by lia
 have two:(2:Int) ^ n<=2 ^ 64:=by exact_mod_cast Nat.pow_le_pow_right (by decide:0 < 2) hn
 have two8:(2:Int) ^ 8<=2 ^ n:=by exact_mod_cast Nat.pow_le_pow_right (by decide:0 < 2) hn8
 have sh:ShlOk 1 n:=⟨by lia,by have:bits 1=1:=by decide
                               lia⟩
 have sh':ShlOk 1 ((n:Int) - 1):=⟨by lia,by have:bits 1=1:=by decide
                                            lia⟩
 have pp:=two_pow_pos n
 simp_arith! only [b_law_number,c_number,h2,c_drawn]
 rintro d ⟨more,rfl,m0,m1⟩
 simp_arith! only [Int.toNat_natCast,shl_one]
 have b1:bits (2 * far + 1)<=9000:=Nat.le_trans (bits_pow_lt (n:=64) (by lia) (by lia)) (by decide)
 have b2:bits (16 * far + 8)<=9000:=Nat.le_trans (bits_pow_lt (n:=64) (by lia) (by lia)) (by decide)
 refine ⟨by decide,.inl (by decide),by lia,.inl (by decide),⟨by lia,b2⟩,sh,by lia,?_⟩
 rw [fmod_pos (by decide),fdiv_pos (by decide),fmod_pos (by lia),fdiv_pos (by lia),fmod_pos (by lia)]
 generalize hp:more / 8 % (2 * far + 1) - far=pw
 have hpw:-far<=pw /\ pw<=far:=by
  have:=Int.emod_nonneg (more / 8) (show 2 * far + 1 ≠ 0 by lia)
  have:=Int.emod_lt_of_pos (more / 8) (show 0 < 2 * far + 1 by lia)
  lia
 generalize hx:more / (16 * far + 8) % 2 ^ n=x
 have hx0:0<=x /\ x < 2 ^ n:=by
  rw [<- hx]
  exact ⟨Int.emod_nonneg _ (by lia),Int.emod_lt_of_pos _ pp⟩
 generalize more % 8=kind
 clear hp hx
 let P:Sto->Prop:=fun σ=>∃ x:Int,(0<=x /\ x < 2 ^ n) /\ σ=[some (.sh (.int c)),some (.sh (.int k)),some (.sh (.int n)),some (.sh (.int far)),some (.sh (.int more)),some (.sh (.int kind)),some (.sh (.int pw)),some (.sh (.int x))]
 have step:∀ {e:Ex} {q:Int} {K:DE} {σ:Sto},P σ->(∀ σ,P σ->wpE C e σ fun d=>∃ x:Int,d=.int x /\ 0<=x /\ x < 2 ^ n) ->
  wpS C (.ite (.cmp .eq (.var 5) (.cst (.int q))) (.seq (.set 7 e) .nop) .nop) { K with nx:=P } σ:=by
  rintro e q K σ hσ he
  have he':=he σ hσ
  obtain ⟨x,hx,rfl⟩:=hσ
  simp_all_arith! only []
  by_cases hq:kind=q
  ·rw [if_pos hq]
   refine wpE_mono e ?_ he'
   rintro d ⟨y,rfl,hy⟩
   exact ⟨y,hy,rfl⟩
  ·rw [if_neg hq]
   exact ⟨x,hx,rfl⟩
 refine seq_cut P (step ⟨x,hx0,rfl⟩ ?_) ?_
 ·rintro σ ⟨x,hx,rfl⟩
  simp_all_arith! only []
  rw [fdiv_pos (by decide),fmod_pos (by decide)]
  obtain ⟨d,e,hd⟩:=atD_some (xs:=[.int 0,.int 1,.int 3]) (i:=more / 64 % 3) (by lia) (by simp;lia)
  refine ⟨by decide,d,e,?_⟩
  simp only [List.mem_cons,List.not_mem_nil,or_false] at hd
  rcases hd with rfl | rfl | rfl <;> exact ⟨_,rfl,by lia,by lia⟩
 intro σ hσ
 refine seq_cut P (step hσ ?_) ?_
 ·rintro σ ⟨x,hx,rfl⟩
  simp_all_arith! only [Int.toNat_natCast,shl_one]
  exact ⟨sh,_,rfl,by lia,by lia⟩
 intro σ hσ
 refine seq_cut P (step hσ ?_) ?_
 ·rintro σ ⟨x,hx,rfl⟩
  simp_all_arith! only [shl_one]
  have e:((n:Int) - 1).toNat=n - 1:=by lia
  have e2:(2:Int) ^ n=2 * 2 ^ (n - 1):=by
   conv=>lhs;rw [show n=(n - 1) + 1 by lia,Int.pow_succ]
   lia
  have:=two_pow_pos (n - 1)
  rw [e]
  exact ⟨sh',_,rfl,by lia,by lia⟩
 intro σ hσ
 refine seq_cut P (step hσ ?_) ?_
 ·rintro σ ⟨x,hx,rfl⟩
  simp_all_arith! only [Int.toNat_natCast,shl_one]
  rw [fmod_pos (by lia)]
  exact ⟨sh,by lia,_,rfl,Int.emod_nonneg _ (by lia),Int.emod_lt_of_pos _ pp⟩
 intro σ hσ
 refine seq_cut P (step hσ ?_) ?_
 ·rintro σ ⟨x,hx,rfl⟩
  simp_all_arith! only []
  rw [fmod_pos (by lia)]
  exact ⟨_,rfl,by lia,by lia⟩
 rintro σ ⟨x,hx,rfl⟩
 simp_all_arith! only [h1,c_bare,Int.toNat_natCast]
 rw [fdiv_pos (by decide),fmod_pos (by decide)]
 have fin:∀ y:Int,y.natAbs < 2 ^ n->bits y<=9000 /\ ∀ d,(∃ w' p',d=D.tup [.int w',.int p'] /\ Bare y pw w' p')->∃ x p,d=.tup [.int x,.int p] /\ Num n x p /\ -far<=p /\ p < far + 64:=by
  intro y hy
  refine ⟨Nat.le_trans (bits_le_iff.mpr hy) (by lia),?_⟩
  rintro d ⟨w',p',rfl,hb⟩
  refine ⟨w',p',rfl,hb.num hy,?_⟩
  rcases hb.pow hy with ⟨_,rfl⟩ | ⟨_,_⟩ <;> lia
 refine ⟨by decide,?_⟩
 have hx2:=num_le hx.1 hx.2
 by_cases hs:more / 16 % 2=1
 ·rw [if_pos hs]
  exact fin (0 - x) (by lia)
 ·rw [if_neg hs]
  exact fin x hx2
noncomputable def isInt:D->Bool
 | .int _=>true
 | _=>false
def c_whole:Ctr where
 pre ds:=match ds with | [_]=>True | _=>False
 res ds d:=match ds with | [x]=>d=.bl (isInt x) | _=>False
theorem k_whole {C:Cfg}:Keeps C 1 b_law_whole c_whole:=by
 rintro ds h
 simp only [c_whole] at h
 split at h
 case h_2=>exact h.elim
 next x =>
 cases x <;> simp_all_arith! only [b_law_whole,c_whole,isInt]
def c_common:Ctr where
 pre ds:=match ds with | [.int a,.int b]=>bits a<=9000 /\ bits b<=9000 | _=>False
 res ds d:=match ds with | [.int a,.int b]=>d=.int (Int.gcd a b) | _=>False
theorem abs_eq (i:Int):(if i < 0 then -i else i)=i.natAbs:=by split <;> lia
theorem k_common {C:Cfg}:Keeps C 3 b_law_common c_common:=by
 rintro ds h
 simp only [c_common] at h
 split at h
 case h_2=>exact h.elim
 next a b =>
 simp_all_arith! only [b_law_common,c_common,abs_eq]
 refine whl_by (fun σ=>∃ (x y:Nat) (o:Option Sl),(Nat.gcd x y=Int.gcd a b /\ bits (x:Int)<=9000 /\ bits (y:Int)<=9000) /\ σ=[some (.sh (.int x)),some (.sh (.int y)),o]) (fun σ=>(sInt σ 1).toNat) ?_ ?_
 ·exact ⟨_,_,_,⟨rfl,by rw [bits_abs];exact h.1,by rw [bits_abs];exact h.2⟩,rfl⟩
 ·rintro σ ⟨x,y,o,⟨hg,hx,hy⟩,rfl⟩
  simp_all_arith! only [sInt]
  by_cases h0:y=0
  ·subst h0
   simp only [Nat.gcd_zero_right] at hg
   simp [hg]
  ·rw [if_pos (by lia)]
   rw [fdiv_pos (by lia)]
   have e:(x:Int) - x / y * y=((x % y:Nat):Int):=by
    have:=Int.emod_def (x:Int) y
    rw [Int.mul_comm] at this
    rw [<- this];simp
   have hb:bits ((x:Int) / y)<=9000:=Nat.le_trans (bits_ediv (by lia)) hx
   have hm:x % y < y:=Nat.mod_lt _ (by lia)
   refine ⟨⟨by lia,hy⟩,mulOk_bits (by lia),?_⟩
   rw [e]
   refine ⟨by lia,y,x % y,_,⟨?_,hy,?_⟩,rfl⟩
   ·rw [Nat.gcd_comm,<- Nat.gcd_rec,Nat.gcd_comm];exact hg
   ·refine Nat.le_trans (bits_mono ?_) hy
    lia
def c_is_ratio:Ctr where
 pre ds:=match ds with | [.tup [.int a,.int b],.int t,.int u]=>(bits a<=9000 /\ bits b<=9000) /\ bits t<=1000000 /\ bits u<=1000000 | _=>False
 res ds d:=match ds with | [.tup [.int a,.int b],.int t,.int u]=>d=.bl (decide (0 < b /\ a * u=t * b /\ Int.gcd a b=1)) | _=>False
theorem k_is_ratio {C:Cfg} {i j:Nat} (h1:C.ct i=c_whole) (h2:C.ct j=c_common):Keeps C 3 (b_law_is_ratio i j) c_is_ratio:=by
 rintro ds h
 simp only [c_is_ratio] at h
 split at h
 case h_2=>exact h.elim
 next a b t u =>
 obtain ⟨⟨ha,hb⟩,ht,hu⟩:=h
 simp_all_arith! only [b_law_is_ratio,c_is_ratio,h1,h2,c_whole,c_common,isInt,Int.reduceBNe,Int.reduceBEq]
 by_cases c1:0 < b
 ·rw [if_pos c1]
  refine ⟨mulOk_bits (by lia),mulOk_bits (by lia),?_⟩
  by_cases c2:a * u=t * b
  ·rw [if_pos c2]
   refine ⟨⟨ha,hb⟩,?_⟩
   simp [c1,c2]
   by_cases c3:Int.gcd a b=1 <;> simp [c3]
   lia
  ·rw [if_neg c2]
   simp [c2]
 ·rw [if_neg c1]
  simp [c1]
def c_parts:Ctr where
 pre ds:=match ds with | [.int w,.int p]=>bits w<=1000000 /\ -1000000<=p /\ p<=1000000 | _=>False
 res ds d:=match ds with | [.int w,.int p]=>d=.tup [.int (w * 2 ^ p.toNat),.int (2 ^ (-p).toNat)] | _=>False
theorem k_parts {C:Cfg}:Keeps C 2 b_law_parts c_parts:=by
 rintro ds h
 simp only [c_parts] at h
 split at h
 case h_2=>exact h.elim
 next w p =>
 obtain ⟨hw,p1,p2⟩:=h
 simp_all_arith! only [b_law_parts,c_parts,shl_one]
 have e1:(if p > 0 then p else 0).toNat=p.toNat:=by split <;> lia
 have e2:(if 0 - p > 0 then 0 - p else 0).toNat=(-p).toNat:=by split <;> lia
 have b1:bits 1=1:=by decide
 rw [e1,e2]
 refine ⟨⟨by split <;> lia,?_⟩,⟨by split <;> lia,?_⟩,rfl⟩
 ·split <;> lia
 ·split <;> lia
def c_width:Ctr where
 pre ds:=∃ (ns:List Int) (k:Int),ds=[.lst (ns.map .int),.int k] /\ ns.length<=63 /\ 0<=k
 res ds d:=∃ i,d=.int i /\ 8<=i /\ i<=64
theorem k_width {C:Cfg} {i j:Nat} (h1:C.ct i=c_drawn) (h2:C.ct j=c_cell):Keeps C 2 (b_law_width i j) c_width:=by
 rintro ds ⟨ns,k,rfl,hl,hk⟩
 simp_all_arith! only [b_law_width,c_width,h1,h2,c_cell,c_drawn]
 have pc:∃ (ns':List Int) (k':Int),[.lst (ns.map .int),.int k]=[D.lst (ns'.map .int),.int k'] /\ ns'.length<=63 /\ 0<=k':=⟨ns,k,rfl,hl,hk⟩
 refine ⟨pc,?_⟩
 rintro d ⟨c,rfl⟩
 simp_all_arith! only []
 rintro d ⟨m,rfl,m0,m1⟩
 simp_all_arith! only []
 refine ⟨pc,?_⟩
 rintro d ⟨c,rfl⟩
 simp_all_arith! only []
 rintro d ⟨m',rfl,m0',m1'⟩
 simp_all_arith! only []
 rw [fmod_pos (by decide),fmod_pos (by decide)]
 obtain ⟨d,e,hd⟩:=atD_some (xs:=[.int (8 + m % 57),.int 8,.int 53,.int 64]) (i:=m' % 4) (by lia) (by simp;lia)
 refine ⟨d,e,?_⟩
 simp only [List.mem_cons,List.not_mem_nil,or_false] at hd
 rcases hd with rfl | rfl | rfl | rfl <;> exact ⟨_,rfl,by lia,by lia⟩
def c_law:Ctr where
 pre ds:=∃ ns:List Int,ds=[.lst (ns.map .int)] /\ ns.length<=63
 res ds d:=d=.bl true
end Z
namespace Z
open PySem PySem.Spec PyProof.Rows L2
def dum (N:List Str):Str:=⟨Array.replicate N.length 32⟩
noncomputable def blockN (N:List Str) (x:Str):List Str:=N.map (fun y=>if y=x then dum N else y) ++ [x]
def cellsX (scope:Scope) (x:Str) (cl:List (Str × Addr)) (C:Addr):List (Str × Addr):=if scope.names.lookup x=some .cell then (x,C + 1) :: cl else cl
theorem cellsX_old {scope:Scope} {x y:Str} {cl:List (Str × Addr)} {C:Addr} (h:y ≠ x):(cellsX scope x cl C).lookup y=cl.lookup y:=by
 unfold cellsX
 split
 ·rw [List.lookup_cons,show (y == x)=false from beq_eq_false_iff_ne.mpr h]
 ·rfl
theorem cellsX_of {scope:Scope} {x y:Str} {cl:List (Str × Addr)} {C c:Addr} (h:(cellsX scope x cl C).lookup y=some c):(y=x /\ c=C + 1 /\ scope.names.lookup x=some .cell) \/ cl.lookup y=some c:=by
 unfold cellsX at h
 split at h
 ·next hc =>
  by_cases e:y=x
  ·subst e
   rw [List.lookup_cons,show (y == y)=true from beq_self_eq_true y] at h
   cases h
   exact .inl ⟨rfl,rfl,hc⟩
  ·rw [List.lookup_cons,show (y == x)=false from beq_eq_false_iff_ne.mpr e] at h
   exact .inr h
 ·exact .inr h
theorem cellsX_new {scope:Scope} {x:Str} {cl:List (Str × Addr)} {C:Addr} (h:scope.names.lookup x=some .cell):(cellsX scope x cl C).lookup x=some (C + 1):=by
 unfold cellsX
 rw [if_pos h,List.lookup_cons,show (x == x)=true from beq_self_eq_true x]
theorem cf_none:∀ {names:List (Str × NameKind)} {n:Nat} {acc:List (Str × Addr)} {h:Heap},(names.filter fun y=>y.2 == .cell)=[]->cellsFrom n names acc=acc /\ pushCells h names=h
 | [],n,acc,h,_=>⟨rfl,rfl⟩
 | (m,k) :: r,n,acc,h,e=>by
   cases hk:k == NameKind.cell with
   | true=>simp [List.filter_cons,hk] at e
   | false =>
     have e':(r.filter fun y=>y.2 == .cell)=[]:=by simpa [List.filter_cons,hk] using e
     unfold cellsFrom pushCells
     simp only [hk,Bool.false_eq_true,if_false]
     exact cf_none e'
theorem cf_one {x:Str}:∀ {names:List (Str × NameKind)} {n:Nat} {acc:List (Str × Addr)} {h:Heap},(names.filter fun y=>y.2 == .cell)=[(x,.cell)]->cellsFrom n names acc=(x,n) :: acc /\ pushCells h names=h.push { cls:=.type "cell",data:=.cell none }
 | [],n,acc,h,e=>by simp at e
 | (m,k) :: r,n,acc,h,e=>by
   cases hk:k == NameKind.cell with
   | true =>
     have e':m=x /\ (r.filter fun y=>y.2 == .cell)=[]:=by
      have:((m,k) :: (r.filter fun y=>y.2 == .cell))=[(x,.cell)]:=by rw [<- e];simp [List.filter_cons,hk]
      simp only [List.cons.injEq,Prod.mk.injEq] at this
      exact ⟨this.1.1,this.2⟩
     unfold cellsFrom pushCells
     simp only [hk,if_true]
     obtain ⟨z1,z2⟩:=cf_none (n:=n + 1) (acc:=(m,n) :: acc) (h:=h.push { cls:=.type "cell",data:=.cell none }) e'.2
     rw [z1,z2,e'.1]
     exact ⟨rfl,rfl⟩
   | false =>
     have e':(r.filter fun y=>y.2 == .cell)=[(x,.cell)]:=by simpa [List.filter_cons,hk] using e
     unfold cellsFrom pushCells
     simp only [hk,Bool.false_eq_true,if_false]
     exact cf_one e'
theorem lookup_relabel_cell {env:Env}:∀ {names:List (Str × NameKind)} {x:Str},names.lookup x=some .cell ->
 (names.map fun (n,k)=>if (k == NameKind.free && env.scope.kind == .function && env.kindOf n == some .cell) then (n,NameKind.cell) else (n,k)).lookup x=some .cell
 | [],_,h=>by simp at h
 | (n,k) :: r,x,h=>by
   have ih:=@lookup_relabel_cell env r x
   show List.lookup x ((if (k == NameKind.free && env.scope.kind == .function && env.kindOf n == some .cell)=true then (n,NameKind.cell) else (n,k)) :: _)=_
   cases hx:x == n with
   | true =>
     simp only [List.lookup_cons,hx] at h
     cases h
     simp [List.lookup_cons,hx]
   | false =>
     simp only [List.lookup_cons,hx] at h
     by_cases hc:(k == NameKind.free && env.scope.kind == .function && env.kindOf n == some .cell)=true
     ·rw [if_pos hc];simp only [List.lookup_cons,hx];exact ih h
     ·rw [if_neg hc];simp only [List.lookup_cons,hx];exact ih h
theorem newEnv_comp {M:Model} {A:Around} {E:Value->Shared->Prop} {s:Shared} {scope:Scope} {globals:Addr} {cl:List (Str × Addr)} {x qual:Str} {env:Env} {bi:Addr} {Q:Env->Shared->Prop}
 (hc:(scope.names.filter fun y=>y.2 == .cell)=if scope.names.lookup x=some .cell then [(x,.cell)] else [])
 (hQ:∀ h',h'.Ns s.heap.objs.size (fun _=>none)->(∀ b o,s.heap.get? b=some o->h'.get? b=some o)->(scope.names.lookup x=some .cell->h'.IsCell (s.heap.objs.size + 1) none) ->
  Q (newEnv scope s.heap.objs.size globals (cellsX scope x cl s.heap.objs.size) qual none .none (some env) bi) { s with heap:=h' }) :
 wpAny M A (newFunctionEnv scope globals cl [] qual none .none (some env) bi) Q E s:=by
 simp only [newFunctionEnv,Option.isSome_some,if_true]
 refine wpAny_bind (wpAny_alloc ?_)
 refine wpAny_bind (wpAny_layCells _ (fun name kind cells=>by cases hkc:kind == NameKind.cell <;> simp [hkc]) _ _ _ _ ?_)
 rw [show ({ s with heap:=s.heap.push { cls:=.type "dict",data:=.dict #[] } }:Shared).heap.objs.size=s.heap.objs.size + 1 from Heap.size_push ..]
 refine wpAny_bind ?_
 rw [List.forIn_nil]
 refine wpAny_pure (wpAny_pure ?_)
 have old:∀ b o,s.heap.get? b=some o->(s.heap.push { cls:=.type "dict",data:=.dict #[] }).get? b=some o:=fun b o e=>Heap.get?_push_of_some _ e
 by_cases h:scope.names.lookup x=some .cell
 ·rw [if_pos h] at hc
  obtain ⟨e1,e2⟩:=cf_one (n:=s.heap.objs.size + 1) (acc:=cl) (h:=s.heap.push { cls:=.type "dict",data:=.dict #[] }) hc
  rw [e1,e2]
  have q:=hQ ((s.heap.push { cls:=.type "dict",data:=.dict #[] }).push { cls:=.type "cell",data:=.cell none }) ((Heap.Ns.new s.heap (.type "dict")).keeps fun b o e=>Heap.get?_push_of_some _ e) (fun b o e=>Heap.get?_push_of_some _ (old b o e)) fun _=>by
   have:=Heap.get?_push_size (s.heap.push { cls:=.type "dict",data:=.dict #[] }) (o:={ cls:=.type "cell",data:=.cell none }) rfl
   rw [Heap.size_push] at this
   exact ⟨_,this,rfl⟩
  unfold cellsX at q
  rw [if_pos h] at q
  exact q
 ·rw [if_neg h] at hc
  obtain ⟨e1,e2⟩:=cf_none (n:=s.heap.objs.size + 1) (acc:=cl) (h:=s.heap.push { cls:=.type "dict",data:=.dict #[] }) hc
  rw [e1,e2]
  have q:=hQ (s.heap.push { cls:=.type "dict",data:=.dict #[] }) (Heap.Ns.new s.heap (.type "dict")) old fun z=>absurd z h
  unfold cellsX at q
  rw [if_neg h] at q
  exact q
noncomputable def cxComp (X:Cx) (s:Shared) (H:Hp) (fp:List Addr) (x:Str) (scope:Scope) (cl:List (Str × Addr)) (C:Addr):Cx :=
 { X with N:=blockN X.N x,s₀:=s,H₀:=H,env:=compEnvC scope (cellsX scope x cl C) C X.env,outer:=X.stack,stack:=X.stack,ex:=fp,fn:=fun y=>decide (scope.names.lookup x=some .cell) && decide (y=x),pn:=[],xe:=fun _ _=>False }
structure CompOk (X:Cx) (x:Str) (scope:Scope) (cl:List (Str × Addr)):Prop where
 clos:closureFor scope X.env=pure cl
 kind:scope.kind=.function
 cell:(scope.names.filter fun y=>y.2 == .cell)=if scope.names.lookup x=some .cell then [(x,.cell)] else []
 names:∀ y ∈ scope.names,y.2=.local->scope.names.lookup y.1=some .local
 loc:scope.names.lookup x=some .local \/ scope.names.lookup x=some .cell
 only:∀ y,(relabel scope X.env).names.lookup y=some .local->y=x \/ (y ∉ X.N /\ y ≠ (dum X.N))
 vis:∀ y,y ≠ x->((relabel scope X.env).names.lookup y=some .cell \/ (relabel scope X.env).names.lookup y=some .free)->Vis X.env.scope y /\ X.env.scope.names.lookup y ≠ some .local /\ ∃ c,cl.lookup y=some c
 sub:∀ y c,cl.lookup y=some c->X.env.cells.lookup y=some c
 ne:x ≠ (dum X.N)
 noE:X.env.scope.names.lookup (dum X.N)=none
section
variable {X:Cx} {x:Str} {scope:Scope} {cl:List (Str × Addr)}
theorem blockN_last:(blockN X.N x)[X.N.length]?=some x:=by
 unfold blockN
 rw [List.getElem?_append_right (by simp)]
 simp
theorem blockN_at {i:Nat} {y:Str} (h:(blockN X.N x)[i]?=some y) (hy:y ≠ x):i < X.N.length /\ (X.N[i]?=some y \/ y=(dum X.N)):=by
 unfold blockN at h
 by_cases hi:i < X.N.length
 ·refine ⟨hi,?_⟩
  rw [List.getElem?_append_left (by simpa using hi),List.getElem?_map,List.getElem?_eq_getElem hi] at h
  simp only [Option.map_some,Option.some.injEq] at h
  split at h
  ·exact .inr h.symm
  ·rw [List.getElem?_eq_getElem hi,h];exact .inl rfl
 ·exfalso
  rw [List.getElem?_append_right (by simpa using hi)] at h
  simp only [List.length_map] at h
  rcases Nat.eq_or_lt_of_le (Nat.not_lt.mp hi) with z | z
  ·rw [<- z] at h
   simp at h
   exact hy h.symm
  ·rw [List.getElem?_eq_none (by simp;lia)] at h
   cases h
theorem blockN_nd (nd:X.N.Nodup) (he:(dum X.N) ∉ X.N) (hx:x ≠ (dum X.N)):(blockN X.N x).Nodup:=by
 unfold blockN
 generalize dum X.N=dm at he hx ⊢
 rw [List.nodup_append]
 refine ⟨?_,by simp,?_⟩
 ·generalize X.N=N at nd he
  induction N with
  | nil=>simp
  | cons a r ih =>
    simp only [List.mem_cons,not_or] at he
    have nd':=List.nodup_cons.mp nd
    rw [List.map_cons,List.nodup_cons]
    refine ⟨?_,ih nd'.2 he.2⟩
    intro hm
    obtain ⟨b,hb,e⟩:=List.mem_map.mp hm
    by_cases h1:a=x
    ·rw [if_pos h1] at e
     by_cases h2:b=x
     ·exact nd'.1 (by rw [h1,<- h2];exact hb)
     ·rw [if_neg h2] at e
      exact he.2 (e ▸ hb)
    ·rw [if_neg h1] at e
     by_cases h2:b=x
     ·rw [if_pos h2] at e
      exact he.1 e
     ·rw [if_neg h2] at e
      exact nd'.1 (e ▸ hb)
 ·intro a ha b hb
  simp only [List.mem_cons,List.not_mem_nil,or_false] at hb
  subst hb
  obtain ⟨c,hc,e⟩:=List.mem_map.mp ha
  by_cases h:c=b
  ·rw [if_pos h] at e
   rw [<- e];exact Ne.symm hx
  ·rw [if_neg h] at e
   rw [<- e];exact h
end
section
variable {X:Cx} {x:Str} {scope:Scope} {cl:List (Str × Addr)} {pins:List (Addr × Obj)} {σ:L2.St} {H:Hp} {s:Shared} {fp:List Addr}
theorem comp_ok (I:Inv X pins σ H s) (co:CompOk X x scope cl) (hf:∀ b ∈ fp,FpOk X pins H b) {C:Addr} (hC:s.heap.objs.size<=C) (hfp:∀ b ∈ fp,b < s.heap.objs.size):(cxComp X s H fp x scope cl C).Ok where
 mod:=I.ok.mod
 kind:=co.kind
 glob:=I.ok.glob
 blt:=I.ok.blt
 above:=hC
 inj:=fun y z c h1 h2=>by
  have no:∀ w,cl.lookup w ≠ some (C + 1):=fun w e=>by
   obtain ⟨v,q⟩:=I.cell w _ (co.sub w _ e)
   have:=q.lt
   exact absurd (Nat.lt_of_lt_of_le this hC) (by lia)
  rcases cellsX_of h1 with ⟨rfl,rfl,_⟩ | k1
  ·rcases cellsX_of h2 with ⟨rfl,_,_⟩ | k2
   ·rfl
   ·exact absurd k2 (no z)
  ·rcases cellsX_of h2 with ⟨rfl,rfl,_⟩ | k2
   ·exact absurd k1 (no y)
   ·exact I.ok.inj y z c (co.sub y c k1) (co.sub z c k2)
 has:=fun y hy=>by
  by_cases e:y=x
  ·subst e
   rcases co.loc with z | z
   ·have q:(relabel scope X.env).names.lookup y=some .local:=lookup_relabel_local z
    have hy':(relabel scope X.env).names.lookup y=some .cell \/ (relabel scope X.env).names.lookup y=some .free:=hy
    rw [q] at hy'
    rcases hy' with r | r <;> cases r
   ·exact ⟨C + 1,cellsX_new z⟩
  ·obtain ⟨c,hc⟩:=(co.vis y e hy).2.2
   exact ⟨c,(cellsX_old e).trans hc⟩
 cab:=fun y c h e=>by
  have h:(decide (scope.names.lookup x=some .cell) && decide (y=x))=true:=h
  simp only [Bool.and_eq_true,decide_eq_true_eq] at h
  obtain ⟨h1,rfl⟩:=h
  have e:(cellsX scope y cl C).lookup y=some c:=e
  rw [cellsX_new h1] at e
  cases e
  show s.heap.objs.size<=C + 1
  lia
 hd:=I.ok.hd
 frames:=I.ok.frames
 stk:=.inl rfl
 exf:=fun b hb=>⟨fun e=>by have:=hfp b hb;rw [e] at this;exact absurd (Nat.lt_of_lt_of_le this hC) (Nat.lt_irrefl _),fun y c h=>by
  rcases cellsX_of h with ⟨_,rfl,_⟩ | h
  ·have:=hfp b hb
   intro z
   rw [<- z] at this
   exact absurd (Nat.lt_of_lt_of_le this hC) (by lia)
  ·exact (hf b hb).2.2.2.2.1 y c (co.sub y c h)⟩
 bs:=I.bs
 bsz:=Nat.le_trans I.ok.bsz I.sz
 noex:=fun b o e hb=>by
  rcases (hf b hb).2.2.2.1 with z | z
  ·exact I.ok.noex b o e z
  ·exact absurd (Nat.lt_of_lt_of_le (Heap.lt_size e) (Nat.le_trans I.ok.bsz z)) (Nat.lt_irrefl _)
 exfs:=fun b hb hb'=>by
  rcases List.mem_cons.mp (I.stkSub b hb') with z | z
  ·exact (hf b hb).2.1 z
  ·exact (hf b hb).2.2.1 z
 funs:=I.stack
 frf:=I.stkFree
theorem comp_inv (I:Inv X pins σ H s) (co:CompOk X x scope cl) (hf:∀ b ∈ fp,FpOk X pins H b) {C:Addr} {h':Heap} {tk:Nat} {m:Str->Option Value} (hC:s.heap.objs.size<=C) (hfp:∀ b ∈ fp,b < s.heap.objs.size)
 (hk:∀ b o,s.heap.get? b=some o->h'.get? b=some o) (hn:h'.Ns C m) (hce:scope.names.lookup x=some .cell->∃ v,h'.IsCell (C + 1) v):Inv (cxComp X s H fp x scope cl C) [] (σ ++ [none]) H { s with heap:=h',toks:=tk } where
 ok:=comp_ok I co hf hC hfp
 os:=rfl
 bare:=I.bare
 base:=Un.kept hk
 loc:=by
  refine ⟨m,hn,fun i y v h1 h2 h3=>?_⟩
  have hi:i < σ.length:=by
   rcases Nat.lt_or_ge i σ.length with z | z
   ·exact z
   ·rw [List.getElem?_append_right z] at h2
    rcases Nat.eq_or_lt_of_le z with y | y
    ·rw [<- y] at h2;simp at h2
    ·rw [List.getElem?_eq_none (by simp;lia)] at h2;cases h2
  rw [List.getElem?_append_left hi] at h2
  by_cases hyx:y=x
  ·exfalso
   subst hyx
   have h1':(blockN X.N y)[i]?=some y:=h1
   unfold blockN at h1'
   have hi':i < X.N.length:=by rw [<- I.len];exact hi
   rw [List.getElem?_append_left (by simpa using hi'),List.getElem?_map,List.getElem?_eq_getElem hi'] at h1'
   simp only [Option.map_some,Option.some.injEq] at h1'
   split at h1'
   ·exact co.ne h1'.symm
   ·next hne=>exact hne h1'
  ·have hvis:(relabel scope X.env).names.lookup y=some .cell \/ (relabel scope X.env).names.lookup y=some .free:=by
    rcases h3 with z | z | z
    ·rcases co.only y z with q | ⟨q1,q2⟩
     ·exact absurd q hyx
     ·exfalso
      rcases (blockN_at h1 hyx).2 with r | r
      ·exact q1 (List.mem_of_getElem? r)
      ·exact q2 r
    ·exact .inl z
    ·exact .inr z
   obtain ⟨v1,v2,c,hc⟩:=co.vis y hyx hvis
   obtain ⟨_,hN | hN⟩:=blockN_at h1 hyx
   ·obtain ⟨m0,hn0,hl⟩:=I.loc
    obtain ⟨u,r,l⟩:=hl i y v hN h2 v1
    refine ⟨u,r,.inr ⟨hvis,c,(cellsX_old hyx).trans hc,?_⟩⟩
    rcases l with ⟨k,_⟩ | ⟨_,c',hc',z⟩
    ·exact absurd k v2
    ·rw [co.sub y c hc] at hc'
     cases hc'
     obtain ⟨o,ho,hd⟩:=z
     exact ⟨o,hk c o ho,hd⟩
   ·exfalso
    subst hN
    rcases v1 with z | z | z <;> (rw [co.noE] at z;cases z)
 cell:=fun y c h=>by
  rcases cellsX_of h with ⟨_,rfl,z⟩ | h
  ·exact hce z
  ·obtain ⟨v,o,ho,hd⟩:=I.cell y c (co.sub y c h)
   exact ⟨v,o,hk c o ho,hd⟩
 free:=I.hok.fresh hC
 freeC:=fun y c h=>by
  rcases cellsX_of h with ⟨_,rfl,_⟩ | h
  ·exact I.hok.fresh (Nat.le_trans hC (Nat.le_succ _))
  ·exact I.freeC y c (co.sub y c h)
 pin:=fun p hp=>nomatch hp
 hok:=I.hok.kept hk
 len:=by
  show (σ ++ [none]).length=(blockN X.N x).length
  unfold blockN
  simp [I.len]
end
noncomputable def tests (ifs:List Expr) (env:Env):Sem Bool:=forIn ifs true fun c r=>if r=true then do let ok <- isTrue c env (eval c env);pure (ForInStep.yield ok) else pure (ForInStep.yield r)
def PTs (X:Cx) (ifs:List Expr) (t:TT):Prop:=∀ (pins:List (Addr × Obj)) (s:Shared) (σ:L2.St) (H:Hp) (Q:Bool->Hp->Prop),Inv X pins σ H s->t σ H Q->wpAny (model X.prog X.w) X.A (tests ifs X.env) (TP X pins σ Q) X.xe s
theorem pts_nil {X:Cx}:PTs X [] fun _ H Q=>Q true H:=fun _ _ _ H _ I h=>wpAny_pure ⟨H,I,h⟩
section
variable {prog:Program} {w:World} {A:Around} {R:Result->Shared->Prop} {s:Shared}
theorem comp_loop {elt target iter:Expr} {ifs:List Expr} {scope:Scope} {pos:Pos} {it acc:Value} {env:Env} (I:Nat->Shared->Prop)
 (turn:∀ n s,I n s->wpAny (model prog w) A (pyNext it) (fun r s₁=>match r with
  | none=>R (.ok .next) s₁
  | some v=>wpAny (model prog w) A (letOwnedTupleGo target it v) (fun _ s₁=>wpAny (model prog w) A (assign target env v) (fun _ s₂=>wpAny (model prog w) A (tests ifs env) (fun ok s₃ =>
   if ok=true then wpAny (model prog w) A (eval elt env) (fun x s₃ =>
    wpAny (model prog w) A (call (.builtin "list.append") [acc,x]) (fun _ s₄=>∃ m,m < n /\ I m s₄) (fun _ _=>False) s₃) (fun _ _=>False) s₃
   else ∃ m,m < n /\ I m s₃) (fun _ _=>False) s₂) (fun _ _=>False) s₁) (fun _ _=>False) s₁) (fun _ _=>False) s)
 (n:Nat) (h:I n s):codeAny (model prog w) A (.compLoop (.ListComp elt [⟨target,iter,ifs,0⟩] scope pos) 0 it acc env) R s:=by
 refine codeAny_loop rfl I (fun n s hI=>?_) n h
 show wpAny _ _ ((compTurn (.ListComp elt [⟨target,iter,ifs,0⟩] scope pos) 0 it acc env).onRaise (fun x=>do noteFrame x env;theTreesLotGoes x)) _ _ s
 refine wpAny_noted ?_
 rw [compTurn_list]
 refine wpAny_bind (wpAny_standAt (wpAny_bind (wpAny_mono (turn n s hI) (fun r s₁ h₁=>?_) fun _ _ z=>z.elim)))
 cases r with
 | none=>exact wpAny_pure h₁
 | some v =>
   refine wpAny_bind (wpAny_mono h₁ (fun _ s₂ h₂=>wpAny_bind (wpAny_mono h₂ (fun _ s₃ h₃=>wpAny_bind (wpAny_mono h₃ (fun ok s₄ h₄=>?_) fun _ _ z=>z.elim)) fun _ _ z=>z.elim)) fun _ _ z=>z.elim)
   cases ok with
   | false=>exact wpAny_pure ⟨rfl,h₄⟩
   | true=>exact wpAny_bind (wpAny_bind (wpAny_mono h₄ (fun x s₄ h₄=>wpAny_bind (wpAny_mono h₄ (fun _ s₅ h₅=>wpAny_pure (wpAny_pure ⟨rfl,h₅⟩)) fun _ _ z=>z.elim)) fun _ _ z=>z.elim))
end
def tCompF (wi:TI) (tt:TT) (te:TE):TE:=fun σ H Q=>wi σ H fun J H1=>∃ W:Nat->Nat->List V->Hp->Prop,(∃ m,W 0 m [] H1) /\ ∀ i m ys H,W i m ys H ->
 (J.stop i H /\ ys.length<=sizeLine /\ ∀ p,H p=none->Q (.ref p) (upd H p (.lst ys))) \/ (J.go i H /\ ys.length < sizeLine /\ ∀ x H',J.yld i H x H'->tt (σ ++ [some x]) H' fun b H1 =>
  if b=true then te (σ ++ [some x]) H1 fun y H2=>∃ m',m' < m /\ W (i + 1) m' (ys ++ [y]) H2 else ∃ m',m' < m /\ W (i + 1) m' ys H1)
def tYes:TT:=fun _ H Q=>Q true H
abbrev tComp (wi:TI) (te:TE):TE:=tCompF wi tYes te
section
variable {X:Cx} {x:Str} {scope:Scope} {cl:List (Str × Addr)}
theorem comp_core {px pos:Pos} {iter elt:Expr} {ifs:List Expr} {wi:TI} {tt:TT} {te:TE} {use:Option (Value->Sem Unit)} {Qf:VK} {Qv:Value->Shared->Prop} {pins:List (Addr × Obj)} {s:Shared} {σ:L2.St} {H:Hp} (hc:X.calm=true) (nd:X.N.Nodup) (hE:(dum X.N) ∉ X.N) (co:CompOk X x scope cl) (hi:PI X (.Name x px) iter wi)
 (ht:∀ s H fp C,PTs (cxComp X s H fp x scope cl C) ifs tt) (he:∀ s H fp C,PE (cxComp X s H fp x scope cl C) elt te) (hs:∀ v,foldedSetIterable iter X.env v=pure v) (I:Inv X pins σ H s) (h:tCompF wi tt te σ H Qf)
 (fin:∀ (D C:Addr) (H':Hp) (s4:Shared) (m:Str->Option Value),Inv X pins σ H' s4->s4.heap.Ns C m->FpOk X pins H' C->Qf (.ref D) H'->compPost (model X.prog X.w) X.A X.xe use Qv (.ref D) C (.ok .next) s4) :
 wpAny (model X.prog X.w) X.A (comprehension (.ListComp elt [⟨.Name x px,iter,ifs,0⟩] scope pos) scope X.env (firstIterPos [⟨.Name x px,iter,ifs,0⟩] pos) (newList []) (firstAsync [⟨.Name x px,iter,ifs,0⟩]) (firstIter [⟨.Name x px,iter,ifs,0⟩] X.env) use) Qv X.xe s:=by
 refine wpAny_comprehension_free (g:=⟨.Name x px,iter,ifs,0⟩) (gs:=[]) rfl hs co.clos co.kind co.names ?_
 refine thn (hi pins s σ H _ I h) fun v s1 h1=>thn h1 fun itv s2 h2=>?_
 obtain ⟨it,fp,tn,J,H2,e,I2,T,st2,f2,W,⟨m0,w0⟩,turn⟩:=h2
 subst e
 have hfp:∀ b ∈ fp,b < s2.heap.objs.size:=fun b hb=>by
  obtain ⟨o,e,_⟩:=T.obj _ _ st2 b hb
  exact Heap.lt_size e
 refine wpAny_newObj_type (newEnv_comp (x:=x) co.cell fun h₁ hns₁ hsb₁ hce₁=>?_)
 dsimp only at hns₁ hsb₁ hce₁ ⊢
 generalize hG:s2.heap.push { cls:=.type "list",dict:=none,data:=.seq ([]:List Value).toArray }=G at hns₁ hsb₁ hce₁ ⊢
 have hCs:G.objs.size=s2.heap.objs.size + 1:=by rw [<- hG,Heap.size_push]
 obtain ⟨D,hD⟩:∃ D:Addr,s2.heap.objs.size=D:=⟨_,rfl⟩
 obtain ⟨C,hC⟩:∃ C:Addr,G.objs.size=C:=⟨_,rfl⟩
 rw [hD] at hCs
 rw [hD]
 rw [hC] at hCs hns₁ hce₁ ⊢
 have hDC:D ≠ C:=by rw [hCs];exact Nat.ne_of_lt (Nat.lt_succ_self _)
 have old:∀ b o,s2.heap.get? b=some o->h₁.get? b=some o:=fun b o e=>hsb₁ b o (hG ▸ Heap.get?_push_of_some _ e)
 have hacc:h₁.PlainList D #[]:=⟨_,hsb₁ _ _ (hG ▸ (hD ▸ Heap.get?_push_size s2.heap rfl))⟩
 let X':=cxComp X s2 H2 fp x scope cl C
 have hCle:s2.heap.objs.size<=C:=by rw [hD,hCs];exact Nat.le_succ _
 have I3:Inv X' [] (σ ++ [none]) H2 { s2 with heap:=h₁ }:=comp_inv I2 co f2 hCle hfp old hns₁ fun z=>⟨_,hce₁ z⟩
 have ndX:X'.N.Nodup:=blockN_nd nd hE co.ne
 have hDL:D ≠ X.env.locals:=by rw [<- hD];exact Nat.ne_of_gt I2.lt
 have hDf:D ∉ frs X.stack:=fun hb=>by
  rcases List.mem_cons.mp (I2.stkSub D hb) with z | z
  ·exact hDL z
  ·exact I2.nofs (Nat.le_of_eq hD) z
 have hDfp:D ∉ fp:=fun hb=>by have:=hfp D hb;rw [hD] at this;exact absurd this (Nat.lt_irrefl _)
 have hDc:∀ y c,(cellsX scope x cl C).lookup y=some c->c ≠ D:=fun y c e z=>by
  rcases cellsX_of e with ⟨_,e,_⟩ | e
  ·rw [e,hCs] at z
   have z:(D + 1 + 1:Nat)=D:=z
   lia
  obtain ⟨v,q⟩:=I2.cell y c (co.sub y c e)
  have:=q.lt
  rw [z,<- hD] at this
  exact absurd this (Nat.lt_irrefl _)
 have stat:∀ {H':Hp} {ob:Obj},(∀ b ∈ fp,H' b=none)->∀ b ∈ fp,FpOk X' [(D,ob)] H' b:=fun {H' ob} hn b hb=>by
  obtain ⟨g0,g1,g2,g3,g4,g5⟩:=f2 b hb
  refine ⟨hn b hb,fun z=>?_,fun z=>?_,.inl hb,fun y c e=>?_,fun p hp z=>?_⟩
  rotate_left 2
  ·rcases cellsX_of e with ⟨_,rfl,_⟩ | e
   ·have:=hfp b hb
    intro z
    rw [<- z] at this
    exact absurd (Nat.lt_of_lt_of_le this hCle) (by lia)
   ·exact g4 y c (co.sub y c e)
  rotate_left
  ·have:=hfp b hb
   rw [show b=C from z] at this
   exact absurd (Nat.lt_of_lt_of_le this hCle) (Nat.lt_irrefl _)
  ·rcases List.mem_cons.mp (I2.stkSub b z) with y | y
   ·exact g1 y
   ·exact g2 y
  ·have hp':p=(D,ob):=by simpa [X',cxComp] using hp
   subst hp'
   have z':D=b:=z
   exact hDfp (z' ▸ hb)
 have pinD:∀ {τ:L2.St} {H':Hp} {s':Shared} {n:Nat} {us:List Value},Inv X' [] τ H' s'->s'.heap.get? D=some { cls:=.type "list",data:=.seq us.toArray n }->H' D=none->Inv X' [(D,{ cls:=.type "list",data:=.seq us.toArray n })] τ H' s':=fun {τ H' s' n us} J e hn =>
  J.pins_of fun p hp=>by
   have hp':p=(D,{ cls:=.type "list",data:=.seq us.toArray n }):=by simpa using hp
   subst hp'
   exact ⟨e,hn,hDC,hDf,fun v z=>by cases z⟩
 have loop:codeAny (model X.prog X.w) X.A (.compLoop (.ListComp elt [⟨.Name x px,iter,ifs,0⟩] scope pos) 0 (.ref it) (.ref D) (compEnvC scope (cellsX scope x cl C) C X.env))
  (compPost (model X.prog X.w) X.A X.xe use Qv (.ref D) C) { s2 with heap:=h₁ }:=by
  refine comp_loop (fun n s'=>∃ (i:Nat) (o:Option V) (ys:List V) (us:List Value) (H':Hp),Inv X' [] (σ ++ [o]) H' s' /\ tn i s'.heap /\ (∀ b ∈ fp,H' b=none) /\ s'.heap.PlainList D us.toArray /\ Vals ys us /\ H' D=none /\ W i n ys H') ?_ m0
   ⟨0,none,[],[],H2,I3,T.keep _ _ _ st2 fun b hb o e=>old b o e,fun b hb=>(f2 b hb).1,hacc,.nil,I2.hok.fresh (Nat.le_of_eq hD),w0⟩
  rintro n s3 ⟨i,o3,ys,us,H3,J3,st3,fr3,⟨n3,pl3⟩,vl3,hD3,w3⟩
  have J3':=pinD J3 pl3 hD3
  rcases turn i n ys H3 w3 with ⟨stop,hl,q⟩ | ⟨go,hl,step⟩
  ·refine wpAny_mono (T.done X' rfl rfl rfl hc i _ s3 _ H3 (fun _ _=>False) J3' (stat fr3) st3 stop) (fun r s4 ⟨hr,J4⟩=>?_) fun _ _ z=>z
   subst hr
   obtain ⟨m4,hn4,_⟩:=J4.loc
   have eD:s4.heap.get? D=some { cls:=.type "list",data:=.seq us.toArray n3 }:=(J4.pin _ (List.mem_append_right _ (List.mem_cons_self ..))).1
   have nC:∀ b o,s2.heap.get? b=some o->b ≠ C:=fun b o e z=>by
    have:=Heap.lt_size e
    rw [z] at this
    exact absurd (Nat.lt_of_lt_of_le this hCle) (Nat.lt_irrefl _)
   have nD:∀ b o,s2.heap.get? b=some o->b ≠ D:=fun b o e z=>by
    have:=Heap.lt_size e
    rw [z,hD] at this
    exact absurd this (Nat.lt_irrefl _)
   have tD:∀ b u,H3 b=some u->b ≠ D:=fun b u e=>ne_of_none e hD3
   have hCn:H3 C=none:=J4.free
   have U4:Un (frs X.stack) fp H2 H3 s2.heap s4.heap:=J4.base
   have U:Un (frs X.stack) fp H2 (upd H3 D (.lst ys)) s2.heap s4.heap:={
    keep:=fun b o e hn hb hx=>U4.keep b o e hn hb hx
    slot:=fun b o e hn hb hx=>by
     obtain ⟨sl,q⟩:=U4.slot b o e hn hb hx
     exact ⟨sl,q⟩
    free:=fun b o e hn hx=>by rw [upd_ne (nD b o e)];exact U4.free b o e hn hx
    there:=fun b o e hx=>by
     obtain ⟨o',q⟩:=U4.there b o e hx
     exact ⟨o',q⟩
    tups:=fun b xs e=>by have:=U4.tups b xs e;rw [upd_ne (tD b _ this)];exact this
    frzs:=fun b o u e=>by have:=U4.frzs b o u e;rw [upd_ne (tD b _ this)];exact this
    tbls:=fun b ps e=>by
     obtain ⟨more,this⟩:=U4.tbls b ps e
     exact ⟨more,by rw [upd_ne (tD b _ this)];exact this⟩ }
   have K:HOk X.prog X.w (upd H3 D (.lst ys)) s4.heap:=fun b u e=>by
    by_cases hb:b=D
    ·subst hb
     rw [upd_same] at e
     cases e
     exact ⟨hl,us,n3,vl3,eD⟩
    ·rw [upd_ne hb] at e
     exact (J4.hok b u e).stay (fun c v hc q=>q) (fun c z=>by rw [upd_ne (tD c _ z)];exact z) fun c xs z=>by rw [upd_ne (tD c _ z)];exact z
   have I4:Inv X pins σ (upd H3 D (.lst ys)) s4:=I2.call' J4.os U K J4.bare fun b hb=>by
    obtain ⟨g0,g1,g2,g3,g4,g5⟩:=f2 b hb
    exact ⟨g3,g1,g4,g5⟩
   exact fin D C _ s4 m4 I4 hn4 (I2.fpOk hCle (by rw [upd_ne (Ne.symm hDC)];exact hCn)) (q D hD3)
  ·refine wpAny_mono (T.item X' rfl rfl rfl hc i _ s3 _ H3 (fun _ _=>False) J3' (stat fr3) st3 go) (fun r s4 ⟨u,hr,h4⟩=>?_) fun _ _ z=>z
   subst hr
   refine wpAny_mono h4 (fun _ s5 ⟨xv,H5,J5,r5,y5,st5,fr5⟩=>?_) fun _ _ z=>z
   have J5':=J5.pinned (stat fr5) (T.obj _ _ st5)
   have hlen:σ.length=X.N.length:=I2.len
   refine wpAny_assign_Name (store_ok J5' ndX (i:=X.N.length) blockN_last (co.loc.elim (fun z=>.inl (lookup_relabel_local z)) fun z=>.inr (lookup_relabel_cell z)) r5 (fun s6 J6=>?_) (co.loc.elim (fun z=>.inr (lookup_relabel_local z)) fun z=>.inl (by show (decide (scope.names.lookup x=some .cell) && decide (x=x))=true;simp [z])))
   have eσ:(σ ++ [o3]).set X.N.length (some xv)=σ ++ [some xv]:=by rw [<- hlen];simp
   rw [eσ] at J6
   refine thn (ht s2 H2 fp C _ s6 _ H5 _ J6 (step xv H5 y5)) fun b s6 ⟨H6,J6,w6⟩=>?_
   cases b with
   | false =>
     obtain ⟨m',hm,w7⟩:=w6
     have pD:=J6.pin (D,_) (List.mem_append_right _ (List.mem_append_left _ (List.mem_cons_self ..)))
     refine ⟨m',hm,i + 1,some xv,ys,us,H6,J6.pins_of fun p hp=>(nomatch hp),T.keep _ _ _ st5 fun b hb o e=>(J6.pin (b,o) (List.mem_append_right _ (List.mem_append_right _ (mem_pinsAt hb e)))).1,fun b hb=>?_,⟨n3,pD.1⟩,vl3,pD.2.1,w7⟩
     obtain ⟨o,e,_⟩:=T.obj _ _ st5 b hb
     exact (J6.pin (b,o) (List.mem_append_right _ (List.mem_append_right _ (mem_pinsAt hb e)))).2.1
   | true =>
   refine thn (he s2 H2 fp C _ s6 _ H6 _ J6 w6) fun y s7 ⟨yv,H7,J7,r7,m',hm,w7⟩=>?_
   have pD:=J7.pin (D,_) (List.mem_append_right _ (List.mem_append_left _ (List.mem_cons_self ..)))
   have pl7:s7.heap.PlainList D us.toArray:=⟨n3,pD.1⟩
   have hsz:us.toArray.size<=sizeLine:=by have:=vl3.length;simp;lia
   refine wpAny_list_append_plain (hsz:=hsz) pl7 fun h₈ pl8 sb8=>?_
   refine ⟨m',hm,i + 1,some xv,ys ++ [yv],us ++ [y],H7,?_,?_,?_,?_,vl3.append (.cons r7 .nil),pD.2.1,w7⟩
   ·have J7':Inv X' [] (σ ++ [some xv]) H7 s7:=J7.pins_of fun p hp=>nomatch hp
    exact J7'.turned (t':=s7.toks) (it:=D) (fun b o hb e=>(sb8.2 b hb).trans e) pD.2.1 hDC (.inr (Nat.le_of_eq hD)) hDc fun p hp=>nomatch hp
   ·refine T.keep _ _ _ st5 fun b hb o e=>?_
    have:=(J7.pin (b,o) (List.mem_append_right _ (List.mem_append_right _ (mem_pinsAt hb e)))).1
    exact (sb8.2 b fun z=>hDfp (z ▸ hb)).trans this
   ·intro b hb
    obtain ⟨o,e,_⟩:=T.obj _ _ st5 b hb
    exact (J7.pin (b,o) (List.mem_append_right _ (List.mem_append_right _ (mem_pinsAt hb e)))).2.1
   ·have e:(us ++ [y]).toArray=us.toArray.push y:=by simp
    rw [e];exact pl8
 exact codeAny_compStart_list loop (T.self _ _ _ _ _ (T.keep _ _ _ st2 fun b hb o e=>old b o e) loop)
theorem pe_comp {px pos:Pos} {iter elt:Expr} {ifs:List Expr} {wi:TI} {tt:TT} {te:TE} (hc:X.calm=true) (nd:X.N.Nodup) (hE:(dum X.N) ∉ X.N) (co:CompOk X x scope cl) (hi:PI X (.Name x px) iter wi)
 (ht:∀ s H fp C,PTs (cxComp X s H fp x scope cl C) ifs tt) (he:∀ s H fp C,PE (cxComp X s H fp x scope cl C) elt te) (hs:∀ v,foldedSetIterable iter X.env v=pure v):PE X (.ListComp elt [⟨.Name x px,iter,ifs,0⟩] scope pos) (tCompF wi tt te):=by
 intro pins s σ H Q I h
 rw [eval_ListComp]
 refine comp_core hc nd hE co hi ht he hs I h fun D C H' s4 m I4 hn hC q=>?_
 obtain ⟨g0,g1,g2,g3,g4,g5⟩:=hC
 exact ⟨m,hn,fun h' sb=>⟨.ref D,H',I4.turned (t':=s4.toks) (fun b o hb e=>(sb.2 b hb).trans e) g0 g1 g3 g4 g5,rfl,q⟩⟩
theorem ps_comp {px py pos spos:Pos} {y:Str} {i:Nat} {iter elt:Expr} {ifs:List Expr} {wi:TI} {tt:TT} {te:TE} (hc:X.calm=true) (nd:X.N.Nodup) (hE:(dum X.N) ∉ X.N) (co:CompOk X x scope cl) (hi:PI X (.Name x px) iter wi)
 (ht:∀ s H fp C,PTs (cxComp X s H fp x scope cl C) ifs tt) (he:∀ s H fp C,PE (cxComp X s H fp x scope cl C) elt te) (hs:∀ v,foldedSetIterable iter X.env v=pure v)
 (hsw:swapsWith (.ListComp elt [⟨.Name x px,iter,ifs,0⟩] scope pos) (some (.Name y py)) spos.line X.env=pure true) (hy:X.N[i]?=some y) (hl:L2.Loc X.env.scope y) (hf:X.fn y=true \/ X.env.scope.names.lookup y=some .local) :
 PS X (.Assign [.Name y py] (.ListComp elt [⟨.Name x px,iter,ifs,0⟩] scope pos) spos) (fun D σ H=>tCompF wi tt te σ H fun v H'=>D.nx (σ.set i (some v)) H'):=by
 intro pins s σ H D I h
 rw [exec_Assign_Name_used _ _ _ _ hsw]
 refine wpAny_bind (wpAny_standAt (wpAny_bind ?_))
 show wpAny _ X.A (do let _ <- comprehension (.ListComp elt [⟨.Name x px,iter,ifs,0⟩] scope pos) scope X.env (firstIterPos [⟨.Name x px,iter,ifs,0⟩] pos) (newList []) (firstAsync [⟨.Name x px,iter,ifs,0⟩]) (firstIter [⟨.Name x px,iter,ifs,0⟩] X.env) (some (assign (.Name y py) X.env))) _ _ s
 refine wpAny_bind (wpAny_mono (comp_core (Qv:=fun _ s'=>SP X pins D .next s') hc nd hE co hi ht he hs I h fun Da C H' s4 m I4 hn hC q=>?_) (fun _ s' hq=>wpAny_pure (wpAny_pure hq)) fun _ _ z=>z)
 refine wpAny_assign_Name (store_ok2 I4 nd hy hl (v:=.ref Da) rfl (fun s5 I5 ⟨a,sb,ha⟩=>?_) hf)
 obtain ⟨g0,g1,g2,g3,g4,g5⟩:=hC
 have haC:a ≠ C:=by
  rcases ha with z | z
  ·rw [z];exact Ne.symm g1
  ·exact g4 y a z
 refine ⟨m,hn.sameBut sb (Ne.symm haC),fun h' sb'=>?_⟩
 exact ⟨_,H',I5.turned (t':=s5.toks) (fun b o hb e=>(sb'.2 b hb).trans e) g0 g1 g3 g4 g5,q⟩
end
end Z
namespace Z
open PySem PySem.Spec PyProof.Rows L2
def minus (H:Hp) (O:List Addr):Hp:=fun a=>if a ∈ O then none else H a
theorem minus_same (H:Hp) (O:List Addr):Same (minus H O) H:=fun b o h=>by
 unfold minus at h
 split at h
 ·cases h
 ·exact h
theorem minus_mono {H H':Hp} {O:List Addr} (e:Same H H'):Same (minus H O) (minus H' O):=fun b o h=>by
 unfold minus at *
 split at h
 ·cases h
 ·next hb=>rw [if_neg hb];exact e b o h
theorem minus_less {H:Hp} {O O':List Addr} (e:∀ a ∈ O',a ∈ O):Same (minus H O) (minus H O'):=fun b o h=>by
 unfold minus at *
 split at h
 ·cases h
 ·next hb=>rw [if_neg fun z=>hb (e b z)];exact h
theorem minus_at {H:Hp} {O:List Addr} {a:Addr} (h:a ∉ O):minus H O a=H a:=by unfold minus;rw [if_neg h]
theorem sqt_mono {K:PySem.W.Frag} {H H':Hp} {a:Addr} {xs:List V} (e:Same H H') (h:SqT K H a xs):SqT K H' a xs:=by
 rcases h with (h | ⟨o,h⟩) | h
 ·exact .inl (.inl (e _ _ h))
 ·exact .inl (.inr ⟨o,e _ _ h⟩)
 ·exact .inr h
mutual
def Is (K:PySem.W.Frag) (S:Hp):D->V->Prop
 | .non,v=>v=.non
 | .bl b,v=>v=.bl b
 | .int i,v=>v=.int i
 | .str x,v=>v=.str x /\ PyData.strOk x=true
 | .tup xs,v=>∃ a vs,v=.ref a /\ SqT K S a vs /\ Iss K S xs vs
 | .lst xs,v=>∃ a vs,v=.ref a /\ SqL K S a vs /\ Iss K S xs vs
def Iss (K:PySem.W.Frag) (S:Hp):List D->List V->Prop
 | [],vs=>vs=[]
 | d :: ds,vs=>∃ v r,vs=v :: r /\ Is K S d v /\ Iss K S ds r
end
section
variable {K:PySem.W.Frag} {S S':Hp}
mutual
theorem Is.mono (e:Same S S'):∀ (d:D) {v:V},Is K S d v->Is K S' d v
 | .non,v,h=>by unfold Is at *;exact h
 | .bl b,v,h=>by unfold Is at *;exact h
 | .int i,v,h=>by unfold Is at *;exact h
 | .str x,v,h=>by unfold Is at *;exact h
 | .tup xs,v,h=>by
   unfold Is at *
   obtain ⟨a,vs,h1,h2,h3⟩:=h
   exact ⟨a,vs,h1,sqt_mono e h2,Iss.mono e xs h3⟩
 | .lst xs,v,h=>by
   unfold Is at *
   obtain ⟨a,vs,h1,h2,h3⟩:=h
   exact ⟨a,vs,h1,e.seq h2,Iss.mono e xs h3⟩
theorem Iss.mono (e:Same S S'):∀ (ds:List D) {vs:List V},Iss K S ds vs->Iss K S' ds vs
 | [],vs,h=>by unfold Iss at *;exact h
 | d :: ds,vs,h=>by
   unfold Iss at *
   obtain ⟨v,r,h1,h2,h3⟩:=h
   exact ⟨v,r,h1,Is.mono e d h2,Iss.mono e ds h3⟩
end
theorem Iss.length:∀ {ds:List D} {vs:List V},Iss K S ds vs->vs.length=ds.length
 | [],vs,h=>by unfold Iss at h;subst h;rfl
 | d :: ds,vs,h=>by
   unfold Iss at h
   obtain ⟨v,r,rfl,_,h3⟩:=h
   simp [Iss.length h3]
theorem Iss.get:∀ {ds:List D} {vs:List V} {i:Nat} {d:D},Iss K S ds vs->ds[i]?=some d->∃ v,vs[i]?=some v /\ Is K S d v
 | [],vs,i,d,h,e=>by simp at e
 | x :: ds,vs,i,d,h,e=>by
   unfold Iss at h
   obtain ⟨v,r,rfl,h2,h3⟩:=h
   cases i with
   | zero=>simp at e;subst e;exact ⟨v,rfl,h2⟩
   | succ i =>
     obtain ⟨w,e1,e2⟩:=Iss.get (i:=i) (d:=d) h3 (by simpa using e)
     exact ⟨w,by simpa using e1,e2⟩
theorem Iss.append:∀ {ds es:List D} {vs ws:List V},Iss K S ds vs->Iss K S es ws->Iss K S (ds ++ es) (vs ++ ws)
 | [],es,vs,ws,h,g=>by unfold Iss at h;subst h;exact g
 | x :: ds,es,vs,ws,h,g=>by
   unfold Iss at h
   obtain ⟨v,r,rfl,h2,h3⟩:=h
   show Iss K S (x :: (ds ++ es)) (v :: (r ++ ws))
   unfold Iss
   exact ⟨v,_,rfl,h2,h3.append g⟩
theorem is_int {i:Int} {v:V} (h:Is K S (.int i) v):v=.int i:=by unfold Is at h;exact h
theorem is_bl {i:Bool} {v:V} (h:Is K S (.bl i) v):v=.bl i:=by unfold Is at h;exact h
theorem is_non {v:V} (h:Is K S .non v):v=.non:=by unfold Is at h;exact h
theorem is_str {x:Str} {v:V} (h:Is K S (.str x) v):v=.str x /\ PyData.strOk x=true:=by unfold Is at h;exact h
theorem is_tup {xs:List D} {v:V} (h:Is K S (.tup xs) v):∃ a vs,v=.ref a /\ SqT K S a vs /\ Iss K S xs vs:=by unfold Is at h;exact h
theorem is_lst {xs:List D} {v:V} (h:Is K S (.lst xs) v):∃ a vs,v=.ref a /\ SqL K S a vs /\ Iss K S xs vs:=by unfold Is at h;exact h
theorem int_is (i:Int):Is K S (.int i) (.int i):=by unfold Is;rfl
theorem bl_is (i:Bool):Is K S (.bl i) (.bl i):=by unfold Is;rfl
theorem non_is:Is K S .non .non:=by unfold Is;rfl
theorem str_is {x:Str} (h:PyData.strOk x=true):Is K S (.str x) (.str x):=by unfold Is;exact ⟨rfl,h⟩
theorem tup_is {xs:List D} {a:Addr} {vs:List V} (h:S a=some (.tup vs)) (g:Iss K S xs vs):Is K S (.tup xs) (.ref a):=by unfold Is;exact ⟨a,vs,rfl,SqT.of h,g⟩
theorem tup_isT {xs:List D} {a:Addr} {vs:List V} (h:SqT K S a vs) (g:Iss K S xs vs):Is K S (.tup xs) (.ref a):=by unfold Is;exact ⟨a,vs,rfl,h,g⟩
theorem lst_is {xs:List D} {a:Addr} {vs:List V} (h:SqL K S a vs) (g:Iss K S xs vs):Is K S (.lst xs) (.ref a):=by unfold Is;exact ⟨a,vs,rfl,h,g⟩
end
mutual
noncomputable def toPy:D->PyData
 | .non=>.none
 | .bl b=>.bool b
 | .int i=>.int i
 | .str x=>.str x
 | .tup xs=>.tuple (toPys xs)
 | .lst xs=>.list (toPys xs)
noncomputable def toPys:List D->List PyData
 | []=>[]
 | x :: xs=>toPy x :: toPys xs
end
mutual
theorem eqv_toPy:∀ a b:D,PyData.eqv (toPy a) (toPy b)=eqD a b
 | a,b=>by
   cases a <;> cases b <;> simp only [toPy,PyData.eqv,eqD]
   ·exact eqv_toPys _ _
   ·exact eqv_toPys _ _
theorem eqv_toPys:∀ a b:List D,PyData.eqvAll (toPys a) (toPys b)=eqDs a b
 | [],[]=>by simp only [toPys,PyData.eqvAll,eqDs]
 | [],_ :: _=>by simp only [toPys,PyData.eqvAll,eqDs]
 | _ :: _,[]=>by simp only [toPys,PyData.eqvAll,eqDs]
 | x :: xs,y :: ys=>by simp only [toPys,PyData.eqvAll,eqDs];rw [eqv_toPy x y,eqv_toPys xs ys]
end
mutual
theorem dep_toPy:∀ a:D,(toPy a).depth=depD a
 | .non=>rfl
 | .bl _=>rfl
 | .int _=>rfl
 | .str _=>rfl
 | .tup xs=>by simp only [toPy,PyData.depth,depD];rw [dep_toPys xs]
 | .lst xs=>by simp only [toPy,PyData.depth,depD];rw [dep_toPys xs]
theorem dep_toPys:∀ a:List D,PyData.depthAll (toPys a)=depDs a
 | []=>rfl
 | x :: xs=>by simp only [toPys,PyData.depthAll,depDs];rw [dep_toPy x,dep_toPys xs]
end
section
variable {X:Cx} {pins:List (Addr × Obj)} {σ:L2.St} {H:Hp} {s:Shared}
mutual
theorem Is.reads (I:Inv X pins σ H s):∀ (d:D) {v:V} {u:Value},Is X.K H d v->RelV v u->(∃ as,Reads s.heap u (toPy d) as) /\ (toPy d).canLay0=true
 | .non,v,u,h,r=>by cases is_non h;cases r;exact ⟨⟨_,.none⟩,rfl⟩
 | .bl b,v,u,h,r=>by cases is_bl h;cases r;exact ⟨⟨_,.bool b⟩,rfl⟩
 | .int i,v,u,h,r=>by cases is_int h;obtain ⟨t,rfl⟩:=r;exact ⟨⟨_,.int i t⟩,rfl⟩
 | .str x,v,u,h,r=>by obtain ⟨rfl,o⟩:=is_str h;obtain ⟨t,rfl⟩:=r;exact ⟨⟨_,.str x t⟩,o⟩
 | .tup xs,v,u,h,r=>by
   obtain ⟨a,vs,rfl,h1,h2⟩:=is_tup h
   cases r
   obtain ⟨its,rv,⟨o,e1,e2,n,e3⟩,_⟩:=I.tuple h1
   obtain ⟨⟨as,ra⟩,c⟩:=Iss.reads I xs h2 rv
   exact ⟨⟨as,.tuple e1 e2 e3 (by simpa using ra)⟩,c⟩
 | .lst xs,v,u,h,r=>by
   obtain ⟨a,vs,rfl,h1,h2⟩:=is_lst h
   cases r
   obtain ⟨its,rv,pl,_⟩:=I.list h1
   obtain ⟨o,e1,e2,n,e3⟩:=pl.isList
   obtain ⟨⟨as,ra⟩,c⟩:=Iss.reads I xs h2 rv
   exact ⟨⟨_,.list e1 e2 e3 (by simpa using ra)⟩,c⟩
theorem Iss.reads (I:Inv X pins σ H s):∀ (ds:List D) {vs:List V} {us:List Value},Iss X.K H ds vs->Vals vs us->(∃ as,ReadsAll s.heap us (toPys ds) as) /\ PyData.canLayAll0 (toPys ds)=true
 | [],vs,us,h,r=>by
   unfold Iss at h;subst h;cases r
   exact ⟨⟨_,.nil⟩,rfl⟩
 | d :: ds,vs,us,h,r=>by
   unfold Iss at h
   obtain ⟨v,q,rfl,h1,h2⟩:=h
   cases r with
   | cons r1 r2 =>
     obtain ⟨⟨as,ra⟩,c1⟩:=Is.reads I d h1 r1
     obtain ⟨⟨bs,rb⟩,c2⟩:=Iss.reads I ds h2 r2
     exact ⟨⟨_,.cons ra rb⟩,by simp only [toPys,PyData.canLayAll0];rw [c1,c2];rfl⟩
end
end
end Z
namespace Z
open PySem PySem.Spec PyProof.Rows L2
section
variable {prog:Program} {w:World} {A:Around} {E:Value->Shared->Prop}
theorem draw_go {l it:Addr} {vs:Array Value} (hd:l ≠ it):∀ (m i:Nat) {s:Shared} {Q:List Value->Shared->Prop},s.heap.IsListIter it l i->s.heap.IsList l vs->i + m=vs.size ->
 (∀ h₂,h₂.IsListIter it l (i + m)->h₂.IsList l vs->Heap.SameBut it s.heap h₂->Q (vs.toList.drop i) { s with heap:=h₂ })->wpAny (model prog w) A (draw (.ref it) m) Q E s
 | 0,i,s,Q,a1,a2,e,q=>by
   have z:=q s.heap a1 a2 (Heap.SameBut.refl ..)
   rw [List.drop_of_length_le (by simp;lia)] at z
   exact wpAny_pure z
 | m + 1,i,s,Q,a1,a2,e,q=>by
   have lt:i < vs.size:=by lia
   show wpAny _ _ (pyNext (.ref it) >>= _) _ _ _
   refine wpAny_bind (wpAny_pyNext_list_item (x:=vs[i]) a1 a2 (by simp [lt]) ?_)
   intro h₁ b1 b2
   have c2:h₁.IsList l vs:=a2.extBut b2.extBut hd
   refine wpAny_bind (wpAny_holding (draw_go hd m (i + 1) b1 c2 (by lia) ?_))
   intro h₂ d1 d2 d3
   have z:=q h₂ (by rw [Nat.add_comm m 1,<- Nat.add_assoc];exact d1) d2 (b2.trans d3)
   have cut:vs.toList.drop i=vs[i] :: vs.toList.drop (i + 1):=by rw [List.drop_eq_getElem_cons (by simpa using lt)];simp
   rw [cut] at z
   exact wpAny_pure z
theorem unpack_l {l:Addr} {vs:Array Value} {tg:List (Bool × (Value->Sem Unit))} {Q:Unit->Shared->Prop} {s:Shared} (hh:A.handled=none) (hl:s.heap.IsList l vs) (hn:tg.length=vs.size) (hz:tg.findIdx? (·.1)=none)
 (q:∀ h₂,(∀ b o,s.heap.get? b=some o->h₂.get? b=some o)->wpAny (model prog w) A (assignInOrder (tg.map (·.2)) vs.toList) Q E { s with heap:=h₂ }):wpAny (model prog w) A (unpack (.ref l) tg) Q E s:=by
 have new:∀ b o,s.heap.get? b=some o->b ≠ s.heap.objs.size:=fun b o e=>Nat.ne_of_lt (Heap.lt_size e)
 have hd:l ≠ s.heap.objs.size:=by obtain ⟨o,e,_⟩:=hl;exact new l o e
 unfold unpack
 rw [hn,hz]
 refine wpAny_bind (wpAny_holding ?_)
 unfold unpackItems notIterableAtAll
 refine wpAny_bind (wpAny_bind (wpAny_specialOf hl.typeIs slot_list_iter.lookup (wpAny_pure ?_)))
 simp only [Bool.false_eq_true,if_false]
 refine wpAny_bind (wpAny_holding (wpAny_pyIter_list hl ?_))
 refine wpAny_bind (wpAny_holding (draw_go hd vs.size 0 ⟨_,Heap.get?_push_size _ rfl,rfl,rfl⟩ (hl.push _) (by lia) ?_))
 intro h₁ a1 a2 a3
 simp only [List.drop_zero]
 rw [if_neg (by simp)]
 refine wpAny_bind (wpAny_holding (wpAny_pyNext_list_end hh a1 a2 (by simp) ?_))
 intro h₂ b1
 simp only [Option.isSome_none,Bool.false_eq_true,if_false]
 exact wpAny_pure (q h₂ fun b o e=>b1 b o (new b o e) (a3.extBut b o (new b o e) (Heap.get?_push_of_some _ e)))
end
def gLst (K:PySem.W.Frag) (n:Nat) (t:TGs):TG:=fun v σ H Q=>∃ a xs,v=.ref a /\ SqL K H a xs /\ xs.length=n /\ t xs σ H Q
def gSq (K:PySem.W.Frag) (n:Nat) (t:TGs):TG:=fun v σ H Q=>gTup K n t v σ H Q \/ gLst K n t v σ H Q
theorem pg_sq {X:Cx} {es:List Expr} {k:Nat} {pos:Pos} {t:TGs} {n:Nat} (hc:X.calm=true) (h:PGs X es t) (hn:(assignEach es X.env).length=n) (hst:(assignEach es X.env).findIdx? (·.1)=none):PG X (.Tuple es k pos) (gSq X.K n t):=by
 intro pins s σ H v u Q I r w
 rcases w with w | ⟨a,xs,rfl,hq,hl,w⟩
 ·exact pg_tup hc h hn hst pins s σ H v u Q I r w
 ·cases r
  obtain ⟨its,rv,p,hz⟩:=I.list hq
  rw [assign_Tuple]
  refine wpAny_bind (wpAny_standAt (unpack_l (I.ok.hd hc) p.isList (by simp [hn,<- hl,rv.length]) hst fun h₂ keep=>?_))
  exact h pins _ σ H xs _ Q (I.kept (t':=s.toks) keep) (by simpa using rv) w
section
variable {prog:Program} {w:World} {A:Around} {R:Result->Shared->Prop} {I S:Addr} {fp wr:List Addr} {G:Array GenState->Array GenState->Prop} {P:Nat->Value->Prop} {St:Nat->Shared->Prop} {ns:List Int}
theorem str_min:(toString "min" ++ toString ".loop":String)="min.loop":=by decide
theorem moved_upd {s s':Shared} (mv:Moved wr G s s') (f:Obj->Obj):Moved (S :: wr) G s { s' with heap:=s'.heap.update S f } :=
 ⟨fun b o hb eb=>(Heap.get?_update_other _ _ (fun x=>hb (by rw [x];exact List.mem_cons_self))).trans (mv.heap b o (fun x=>hb (List.mem_cons_of_mem _ x)) eb),mv.gens,mv.drawn,mv.os,mv.toks⟩
theorem drop_at {i:Nat} (h:i < ns.length):ns.drop i=ns.getD i 0 :: ns.drop (i + 1):=by rw [List.drop_eq_getElem_cons h];simp [h]
theorem min_go (W:WalksS prog w A.in1 I fp wr G ns.length P St) (hv:∀ i v,P i v->∃ t,v=.int (ns.getD i 0) t) (hS:S ∉ fp) (kw:List (Str × Value)):∀ (k i:Nat) (s:Shared) (m:Int) (t:Tok) (c:Nat),i + k=ns.length->St i s ->
 s.heap.get? S=some { cls:=.type "list",dict:=none,data:=.seq #[.int m t,.int m t] c,slots:=#[] }->(∀ s' t',Moved (S :: wr) G s s'->R (.ok (.ret (.int ((ns.drop i).foldl (pick false) m) t'))) s') ->
 codeAny (model prog w) A (.builtin "min.loop" ⟨[.ref I,.none,.ref S],kw⟩) R s
 | 0,i,s,m,t,c,e,a1,a2,q=>by
   have Sw:S ∉ wr:=fun z=>hS (W.sub _ z)
   refine codeAny_builtin F.entry_min_loop ?_
   rw [Around.under_plainId F.plain_min_loop _]
   refine wpAny_bind (m:=seqItems? (.ref S)) (wpAny_seqItems a2 rfl ?_)
   refine wpAny_bind (m:=tryCatch (pyNext (.ref I)) _) (wpAny_tryCatch (W.done s _ _ (by rw [<- e];exact a1) ?_))
   intro s' mv
   have b2:=mv.heap S _ Sw a2
   refine wpAny_bind (m:=updateSeq S (fun _=>#[])) (wpAny_updateSeq b2 rfl (wpAny_bind (wpAny_letGo (wpAny_pure ?_))))
   have z:=q _ t (moved_upd mv (Obj.mapSeq fun _=>#[]))
   rw [List.drop_of_length_le (by lia)] at z
   exact z
 | k + 1,i,s,m,t,c,e,a1,a2,q=>by
   have Sw:S ∉ wr:=fun z=>hS (W.sub _ z)
   have lt:i < ns.length:=by lia
   rw [drop_at lt,List.foldl_cons] at q
   refine codeAny_builtin F.entry_min_loop ?_
   rw [Around.under_plainId F.plain_min_loop _]
   refine wpAny_bind (m:=seqItems? (.ref S)) (wpAny_seqItems a2 rfl ?_)
   refine wpAny_bind (m:=tryCatch (pyNext (.ref I)) _) (wpAny_tryCatch (W.item i s _ _ lt a1 ?_))
   intro v s' pv b1 mv
   obtain ⟨t₁,rfl⟩:=hv i v pv
   have b2:=mv.heap S _ Sw a2
   generalize hn:ns.getD i 0=n at *
   have cmp:=CmpOf.ints_lt (prog:=prog) (w:=w) (A:=A.in1) (P:=fun j v=>∃ t,v=.int (if j=0 then n else m) t) (fun j=>if j=0 then n else m) (fun _ _ h=>h)
   refine wpAny_bind (m:=tryCatch (holding [.int n t₁,.int n t₁] (richCompare .Lt (.int n t₁) (.int m t) >>= _)) _) (wpAny_tryCatch (wpAny_holding (wpAny_bind (cmp 0 1 _ _ _ _ _ ⟨t₁,rfl⟩ ⟨t,rfl⟩ ?_))))
   simp only [if_true,Nat.one_ne_zero,if_false]
   refine wpAny_bind (wpAny_holding (wpAny_truthy_bool (wpAny_bind (wpAny_letGo (wpAny_pure ?_)))))
   have moved:Moved (S :: wr) G s s':=mv.mono fun b hb=>List.mem_cons_of_mem _ hb
   by_cases lo:n < m
   ·simp only [lo,decide_true,if_true]
    have pk:pick false m n=n:=by unfold pick;simp [lo]
    rw [pk] at q
    refine wpAny_bind (wpAny_updateSeq b2 rfl (wpAny_bind (wpAny_letGo ?_)))
    rw [str_min]
    refine wpAny_pure ⟨plainId_quiet F.plain_min_loop _,min_go W hv hS kw k (i + 1) _ n t₁ _ (by lia) (W.frame _ s' _ s'.toks b1 (Nat.le_refl _) ?_) (Heap.get?_update_self _ b2 rfl) ?_⟩
    ·intro b hb o eb
     exact (Heap.get?_update_other _ _ (fun x=>hS (by rw [x];exact hb))).trans eb
    ·intro s₂ t₂ m₂
     exact q s₂ t₂ (Moved.trans W.gtrans (moved_upd mv _) m₂)
   ·simp only [lo,decide_false,Bool.false_eq_true,if_false]
    have pk:pick false m n=m:=by unfold pick;simp [lo]
    rw [pk] at q
    refine wpAny_bind (wpAny_letGo ?_)
    rw [str_min]
    exact wpAny_pure ⟨plainId_quiet F.plain_min_loop _,min_go W hv hS kw k (i + 1) s' m t c (by lia) b1 b2 fun s₂ t₂ m₂=>q s₂ t₂ (Moved.trans W.gtrans moved m₂)⟩
end
section
variable {prog:Program} {w:World} {A:Around} {E:Value->Shared->Prop} {I:Addr} {fp wr:List Addr} {G:Array GenState->Array GenState->Prop} {P:Nat->Value->Prop} {St:Nat->Shared->Prop} {ns:List Int}
theorem fn_again {id:String} {b:Builtin} {args:List Value} {kw:List (Str × Value)} {Q:Value->Shared->Prop} {s:Shared} (hk:builtinKind id=none) (hp:plainId id=true) (hb:entryFor table id=some b) (ha:argsOk id ⟨args,kw⟩)
 (hc:wpAny (model prog w) A.in1 (b ⟨args,kw⟩) (fun fin s'=>∃ c',fin=.again c' /\ c'.quiet=true /\ codeAny (model prog w) A c' (fun r s'=>match r with | .ok (.ret v)=>Q v s' | .ok _=>False | .error e=>E e s') s') E s) :
 wpAny (model prog w) A (call (.builtin id) args kw) Q E s:=by
 refine wpAny_call (codeAny_call_builtin hp hb ?_)
 have fin:=wpAny_mono hc (Q':=fun fin s'=>match fin with
  | .done f=>(match (Except.ok f:Result) with | .ok (.ret v)=>Q v s' | .ok _=>False | .error e=>E e s')
  | .again c'=>c'.quiet=true /\ codeAny (model prog w) A c' (fun r s'=>match r with | .ok (.ret v)=>Q v s' | .ok _=>False | .error e=>E e s') s')
  (fun _ _ ⟨c',e,z⟩=>by subst e;exact z) fun _ _ z=>z
 simp only [checkBuiltinCall,hk]
 cases hs:Manifest.signature? id with
 | none=>exact wpAny_pure fin
 | some sig =>
   have e:Bind.checkArgs id sig ⟨args,kw⟩=pure ():=by simpa only [argsOk,hs] using ha
   simp only [e]
   exact wpAny_pure fin
end
theorem vals_int_at:∀ {ns:List Int} {us:List Value},Vals (ns.map V.int) us->∀ i v,us[i]?=some v->∃ t,v=Value.int (ns.getD i 0) t
 | [],us,r,i,v,h=>by cases r;simp at h
 | n :: ns,us,r,i,v,h=>by
   cases r with
   | cons r1 r2 =>
     cases i with
     | zero=>simp at h;subst h;obtain ⟨t,e⟩:=r1;exact ⟨t,by simpa using e⟩
     | succ i=>simpa using vals_int_at r2 i v (by simpa using h)
theorem Inv.moved' {X:Cx} {pins:List (Addr × Obj)} {τ:L2.St} {H:Hp} {s s':Shared} {o:Obj} {tk:Nat} (I:Inv X pins τ H s) (m:Moved [s.heap.objs.size] (fun a b=>b=a) { s with heap:=s.heap.push o,toks:=tk } s'):Inv X pins τ H s':=by
 have k:∀ b u,s.heap.get? b=some u->s'.heap.get? b=some u:=fun b u e=>m.heap b u (fun z=>by
  have:b=s.heap.objs.size:=by simpa using z
  exact absurd (Heap.lt_size e) (by rw [this];exact Nat.lt_irrefl _)) (Heap.get?_push_of_some _ e)
 exact I.call' (ch:=[]) m.os (Un.kept k) (I.hok.kept k) (by rw [m.gens];exact I.bare) fun _ z=>nomatch z
section
variable {prog:Program} {w:World} {A:Around} {E:Value->Shared->Prop} {I:Addr} {fp wr:List Addr} {G:Array GenState->Array GenState->Prop} {P:Nat->Value->Prop} {St:Nat->Shared->Prop}
theorem bind_min1:Builtin.Builtins.bindParams "min" ["key","default"] 0 ⟨[],[]⟩=pure [none,none]:=rfl
theorem args_min1 (a:Value):argsOk "min" ⟨[a],[]⟩:=by unfold argsOk;kernel_rfl
theorem min_list {x:Value} {n:Int} {ns:List Int} {Q:Value->Shared->Prop} {s:Shared}
 (h:wpAny (model prog w) A.in1 (pyIter x) (fun it s₂=>∃ I fp wr G P St,it=.ref I /\ WalksS prog w A.in1 I fp wr G (n :: ns).length P St /\ St 0 s₂ /\ (∀ b ∈ fp,b < s₂.heap.objs.size) /\ (∀ i v,P i v->∃ t,v=.int ((n :: ns).getD i 0) t) /\
  ∀ s' t,Moved wr G s₂ s'->Q (.int (mmF false 0 (n :: ns)) t) s') E s) :
 wpAny (model prog w) A (call (.builtin "min") [x] []) Q E s:=by
 refine fn_again F.kind_min F.plain_min F.entry_min (args_min1 _) ?_
 refine wpAny_bind (m:=Builtin.Builtins.bindParams "min" ["key","default"] 0 ⟨[],[]⟩) (wpAny_of_eq (bind_min1) ?_)
 refine wpAny_bind (wpAny_pure (wpAny_bind (wpAny_mono h ?_ fun _ _ e=>e)))
 rintro it s₂ ⟨I,fp,wr,G,P,St,rfl,W,st,hf,hv,q⟩
 refine wpAny_bind (wpAny_newObj_type ?_)
 have fresh:s₂.heap.objs.size ∉ fp:=fun z=>Nat.lt_irrefl _ (hf _ z)
 have st':St 0 { s₂ with heap:=s₂.heap.push { cls:=.type "list",dict:=none,data:=.seq #[] 0,slots:=#[] } }:=W.frame 0 s₂ _ s₂.toks st (Nat.le_refl _) fun b _ o e=>Heap.get?_push_of_some _ e
 have hS:=Heap.get?_push_size s₂.heap (show ({ cls:=.type "list",dict:=none,data:=.seq #[] 0,slots:=#[] }:Obj).isFreed=false from rfl)
 rw [str_min]
 refine wpAny_pure ⟨_,rfl,plainId_quiet F.plain_min_loop _,?_⟩
 refine codeAny_builtin F.entry_min_loop ?_
 rw [Around.under_plainId F.plain_min_loop _]
 refine wpAny_bind (m:=seqItems? (.ref s₂.heap.objs.size)) (wpAny_seqItems hS rfl ?_)
 refine wpAny_bind (m:=tryCatch (pyNext (.ref I)) _) (wpAny_tryCatch (W.item 0 _ _ _ (by simp) st' ?_))
 intro v s' pv b1 mv
 obtain ⟨t₁,rfl⟩:=hv 0 v pv
 have Sw:s₂.heap.objs.size ∉ wr:=fun z=>fresh (W.sub _ z)
 have b2:=mv.heap _ _ Sw hS
 refine wpAny_bind (m:=updateSeq s₂.heap.objs.size (fun _=>#[.int n t₁,.int n t₁])) (wpAny_updateSeq b2 rfl ?_)
 rw [str_min]
 refine wpAny_pure ⟨plainId_quiet F.plain_min_loop _,min_go W hv fresh _ ns.length 1 _ n t₁ _ (by simp;lia) (W.frame _ s' _ s'.toks b1 (Nat.le_refl _) ?_) (Heap.get?_update_self _ b2 rfl) ?_⟩
 ·intro b hb o eb
  exact (Heap.get?_update_other _ _ (fun x=>fresh (by rw [x];exact hb))).trans eb
 ·intro s₃ t₃ m₃
  exact q s₃ t₃ (Moved.drop_new (tk:=s₂.toks) (Moved.trans W.gtrans (moved_upd mv _) m₃) (Nat.le_refl _))
end
theorem call_min1 {X:Cx} (hc:X.calm=true) {pins:List (Addr × Obj)} {s:Shared} {τ:L2.St} {H:Hp} {a:Addr} {n:Int} {ns:List Int} {Q:VK} (I:Inv X pins τ H s) (hq:SqL X.K H a ((n :: ns).map V.int)) (q:Q (.int (mmF false 0 (n :: ns))) H) :
 wpAny (model X.prog X.w) X.A (call (.builtin "min") [.ref a] []) (EP X pins τ Q) X.xe s:=by
 obtain ⟨its,rv,p,hz⟩:=I.list hq
 have hl:=rv.length
 rw [List.length_map] at hl
 obtain ⟨o,n0,ho,_⟩:=id p
 have hne:a ≠ s.heap.objs.size:=Nat.ne_of_lt (Heap.lt_size ho)
 have W:=(Walks.list (prog:=X.prog) (w:=X.w) (A:=X.A.in1) (I.ok.hd hc) s.heap.objs.size a hne its.toArray).toS
 rw [show its.toArray.size=(n :: ns).length by simp [hl]] at W
 have fin:wpAny (model X.prog X.w) X.A.in1 (pyIter (.ref a)) (fun it s₂=>∃ I fp wr G P St,it=.ref I /\ WalksS X.prog X.w X.A.in1 I fp wr G (n :: ns).length P St /\ St 0 s₂ /\ (∀ b ∈ fp,b < s₂.heap.objs.size) /\ (∀ i v,P i v->∃ t,v=.int ((n :: ns).getD i 0) t) /\
  ∀ s' t,Moved wr G s₂ s'->EP X pins τ Q (.int (mmF false 0 (n :: ns)) t) s') X.xe s:=by
  refine wpAny_pyIter_list p.isList ⟨s.heap.objs.size,_,_,_,_,_,rfl,W,⟨⟨_,Heap.get?_push_size _ rfl,rfl,rfl⟩,p.isList.push _⟩,fun b hb=>?_,fun i v hv=>vals_int_at rv i v (by simpa using hv),fun s' t' m=>?_⟩
  ·rw [Heap.size_push]
   simp only [List.mem_cons,List.not_mem_nil,or_false] at hb
   rcases hb with z | z
   ·rw [z];exact Nat.lt_succ_self _
   ·rw [z];exact Nat.lt_succ_of_lt (Heap.lt_size ho)
  ·exact ⟨.int (mmF false 0 (n :: ns)),H,Inv.moved' (tk:=s.toks) I m,⟨t',rfl⟩,q⟩
 exact min_list fin
end Z
namespace Z
open PySem PySem.Spec PyProof.Rows L2
abbrev prob (a b:Value):Obj:={ cls:=.type "tuple",data:=.seq #[a,b] }
def ZF (f0:Value):Prop:=f0=.none \/ ∃ T:Nat,f0=rawInt T
section
variable {prog:Program} {w:World} {A:Around} {E:Value->Shared->Prop} {s:Shared} {z TI TO i1 i2 l1 l2:Addr}
theorem alive_look {a:Addr} {Q:Option Obj->Shared->Prop} (h:Q (s.heap.get? a) s):wpAny (model prog w) A (loadIfAlive a) Q E s:=fun Γ p _=>by
 unfold loadIfAlive
 rw [Sem.wp_loadIfAlive]
 exact h
end
theorem Inv.turnedL {X:Cx} {pins:List (Addr × Obj)} {σ:L2.St} {H:Hp} {s:Shared} {ch:List Addr} {h₂:Heap} {T:Addr} {xs:List V} {us:List Value} (I:Inv X pins σ H s) (hf:∀ b ∈ ch,FpOk X pins H b) (k:∀ b o,b ∉ ch->s.heap.get? b=some o->h₂.get? b=some o)
 (hT:s.heap.objs.size<=T) (ht:h₂.get? T=some { cls:=.type "tuple",data:=.seq us.toArray }) (r:Vals xs us) (hz:xs.length<=sizeLine):Inv X pins σ (upd H T (.tup xs)) { s with heap:=h₂ }:=by
 have fT:H T=none:=I.hok.fresh hT
 have ntr:∀ b u,H b=some u->b ∉ ch:=fun b u e z=>by rw [(hf b z).1] at e;cases e
 have nT:∀ b u,H b=some u->b ≠ T:=fun b u e z=>by rw [z,fT] at e;cases e
 refine I.call' (s':={ s with heap:=h₂ }) (ch:=ch) rfl ⟨fun b o e n _ hb=>k b o hb e,fun b o e n _ hb=>⟨o.slots,k b o hb e⟩,fun b o e n hb=>?_,fun b o e hb=>⟨o,k b o hb e⟩,fun b ys e=>?_,fun b o u e=>?_,fun b ps e=>⟨#[],?_⟩⟩ ?_ I.bare fun b hb=>?_
 ·rw [upd_ne fun q=>absurd (Heap.lt_size e) (by rw [q];exact Nat.not_lt.mpr hT)];exact n
 ·rw [upd_ne (nT b _ e)];exact e
 ·rw [upd_ne (nT b _ e)];exact e
 ·rw [upd_ne (nT b _ e),e];simp
 ·intro b u e
  by_cases hb:b=T
  ·subst hb
   rw [upd_same] at e
   cases e
   exact ⟨hz,us,r,⟨_,ht,rfl,_,rfl⟩⟩
  ·rw [upd_ne hb] at e
   refine (I.hok b u e).stay (fun c v hc q=>k c v ?_ q) (fun c q=>by rw [upd_ne (nT c _ q)];exact q) fun c ys q=>by rw [upd_ne (nT c _ q)];exact q
   rcases hc with z | z
   ·rw [z];exact ntr b u e
   ·exact ntr c _ z
 ·obtain ⟨_,f1,_,f3,f4,f5⟩:=hf b hb
  exact ⟨f3,f1,f4,f5⟩
theorem Inv.turnedN {X:Cx} {pins:List (Addr × Obj)} {σ:L2.St} {H:Hp} {s:Shared} {ch:List Addr} {h₂:Heap} (I:Inv X pins σ H s) (hf:∀ b ∈ ch,FpOk X pins H b) (k:∀ b o,b ∉ ch->s.heap.get? b=some o->h₂.get? b=some o):Inv X pins σ H { s with heap:=h₂ }:=by
 have ntr:∀ b u,H b=some u->b ∉ ch:=fun b u e z=>by rw [(hf b z).1] at e;cases e
 refine I.call' (s':={ s with heap:=h₂ }) (ch:=ch) rfl ⟨fun b o e n _ hb=>k b o hb e,fun b o e n _ hb=>⟨o.slots,k b o hb e⟩,fun b o e n hb=>n,fun b o e hb=>⟨o,k b o hb e⟩,fun b ys e=>e,fun b o u e=>e,fun b ps e=>⟨#[],by rw [e];simp⟩⟩ ?_ I.bare fun b hb=>?_
 ·intro b u e
  refine (I.hok b u e).stay (fun c v hc q=>k c v ?_ q) (fun c q=>q) fun c ys q=>q
  rcases hc with z | z
  ·rw [z];exact ntr b u e
  ·exact ntr c _ z
 ·obtain ⟨_,f1,_,f3,f4,f5⟩:=hf b hb
  exact ⟨f3,f1,f4,f5⟩
theorem go_name {M:Model} {A:Around} {E:Value->Shared->Prop} {s:Shared} {x:Str} {p:Pos} {it u:Value} {Q:Unit->Shared->Prop} (h:Q () s):wpAny M A (letOwnedTupleGo (.Name x p) it u) Q E s:=by
 unfold letOwnedTupleGo
 exact wpAny_pure h
end Z
namespace Z
open PySem PySem.Spec PyProof.Rows PySem.W L2
structure Cover (B:Heap) (outer:List Env) (H1:Hp) (h0 h:Heap):Prop where
 trk:∀ b u o,H1 b=some u->h.get? b=some o->B.get? b=some o
 old:∀ b o o',h0.get? b=some o->b ∉ frs outer->h.get? b=some o'->B.get? b=some o'
def Thrown (P:Program) (w:World) (cls:Addr) (outer:List Env) (H:Hp) (s:Shared) (e:Value) (s':Shared):Prop :=
 ∃ ea a0 B H1,e=.ref ea /\ s'.os=s.os /\ AllBare s'.gens /\ Un (frs outer) [] H H1 s.heap s'.heap /\ HOk P w H1 s'.heap /\ Same H H1 /\ Heap.FlyingW B outer ea (.ref cls) a0 s'.heap /\ H1 ea=none /\ Cover B outer H1 s.heap s'.heap
section
variable {P:Program} {w:World} {H H1:Hp} {h0 h h' B B':Heap} {outer l:List Env}
theorem obj_get {a:Addr} {o:HO} (x:ObjOk P w H h a o):∃ u,h.get? a=some u:=by
 cases o with
 | lst xs=>obtain ⟨_,_,_,_,e⟩:=x;exact ⟨_,e⟩
 | tup xs=>obtain ⟨_,_,_,o,e,_⟩:=x;exact ⟨o,e⟩
 | dK kvs=>obtain ⟨_,_,_,_,o,_,_,e,_⟩:=x;exact ⟨o,e⟩
 | dT kvs=>obtain ⟨_,_,_,_,o,_,_,e,_⟩:=x;exact ⟨o,e⟩
 | set S n=>obtain ⟨o,_,_,_,e,_⟩:=x;exact ⟨o,e⟩
 | ins C dx fs=>obtain ⟨_,_,_,e,_⟩:=x;exact ⟨_,e⟩
 | own y=>exact x
 | xd fs=>obtain ⟨_,⟨o,_,_,e,_⟩,_⟩:=x;exact ⟨o,e⟩
 | rng lo hi=>obtain ⟨_,_,_,e⟩:=x;exact ⟨_,e⟩
 | frz ob u=>obtain ⟨e,_⟩:=x;exact ⟨_,e⟩
 | tbl ps=>exact ⟨_,(show h.get? a=some _ from x)⟩
 | met f y=>exact ⟨_,(show h.get? a=some _ from x)⟩
 | ext φ=>obtain ⟨_,z,_⟩:=x;exact z
theorem fly_step (u:Un (frs outer) [] H H1 h0 h) (k:HOk P w H1 h) (c:Cover B outer H1 h0 h) (ff:h.FunFrames B' l) (sub:∀ b ∈ frs outer,b ∈ frs l) (st:B.StaysIn h') (sl:h.UpToSlots h') :
 Un (frs outer) [] H H1 h0 h' /\ HOk P w H1 h' /\ Cover B outer H1 h0 h':=by
 have up:∀ b o,b ∈ frs outer->h.get? b=some o->∃ s,h'.get? b=some { o with slots:=s }:=fun b o hb e=>by
  obtain ⟨_,o',e',nf⟩:=ff.mem (sub b hb)
  rw [e] at e'
  cases e'
  exact sl b o e nf
 refine ⟨⟨fun b o e n hb hx=>?_,fun b o e n hb hx=>?_,u.free,fun b o e hx=>?_,u.tups,u.frzs,u.tbls⟩,fun a o e=>?_,⟨fun b v o e q=>?_,fun b o o' e hb q=>?_⟩⟩
 ·exact st _ _ (c.old b o o e hb (u.keep b o e n hb hx))
 ·obtain ⟨s1,e1⟩:=u.slot b o e n hb hx
  obtain ⟨s2,e2⟩:=up b _ hb e1
  exact ⟨s2,e2⟩
 ·obtain ⟨o',e'⟩:=u.there b o e hx
  by_cases hb:b ∈ frs outer
  ·obtain ⟨s2,e2⟩:=up b _ hb e'
   exact ⟨_,e2⟩
  ·exact ⟨o',st _ _ (c.old b o o' e hb e')⟩
 ·refine (k a o e).stay (fun b v hb q=>?_) (fun _ z=>z) fun _ _ z=>z
  rcases hb with rfl | hb
  ·exact st _ _ (c.trk _ _ _ e q)
  ·exact st _ _ (c.trk _ _ _ hb q)
 ·obtain ⟨o',e'⟩:=obj_get (k b v e)
  have z:=c.trk b v o' e e'
  have:=st _ _ z
  rw [q] at this
  cases this
  exact z
 ·obtain ⟨o2,e2⟩:=u.there b o e (by simp)
  have z:=c.old b o o2 e hb e2
  have:=st _ _ z
  rw [q] at this
  cases this
  exact z
end
structure Own (X:Cx):Prop where
 stk:X.stack=X.env :: X.outer
 frm:X.env.frame=some X.env.locals
 ex:X.ex=[]
section
variable {X:Cx} {pins:List (Addr × Obj)} {σ:L2.St} {H:Hp} {s s':Shared} {M:Model} {E:Value->Shared->Prop} {Q:Unit->Shared->Prop} {C:Addr}
theorem frs_own (w:Own X):frs X.stack=X.env.locals :: frs X.outer:=by
 rw [w.stk]
 unfold frs
 rw [List.filterMap_cons,w.frm]
theorem old_own (I:Inv X pins σ H s) (w:Own X) {b:Addr} {o:Obj} (e:X.s₀.heap.get? b=some o) (hb:b ∉ frs X.outer):b ∉ frs X.stack:=by
 rw [frs_own w]
 intro z
 rcases List.mem_cons.mp z with rfl | z
 ·exact absurd (Heap.lt_size e) (Nat.not_lt.mpr I.ok.above)
 ·exact hb z
theorem sub_own (w:Own X):∀ b ∈ frs X.outer,b ∈ frs X.stack:=fun b hb=>by
 rw [frs_own w];exact List.mem_cons_of_mem _ hb
theorem thrown_made (I:Inv X pins σ H s) (w:Own X) (sm:Same X.H₀ H) {h1:Heap} {e:Addr} {args:List Value} (hx:Heap.MadeExcOf s.heap h1 e (.ref C) args)
 (hq:∀ s',Thrown X.prog X.w C X.outer X.H₀ X.s₀ (.ref e) s'->Q () s'):wpAny M X.A (leaving X.env (.ref e)) Q E { s with heap:=h1 }:=by
 have e0:=I.env0
 have hin:∀ env ∈ X.stack,∀ a,env.frame=some a->a ∈ frs X.stack:=fun env he a ha=>List.mem_filterMap.mpr ⟨env,he,ha⟩
 have ff:=funFrames_hide e0.funs hin
 have bs:(hideAll s.heap (frs X.stack)).StaysIn s.heap:=fun b o q=>of_hideAll _ q
 have hfr:X.A.frames=some (X.env :: X.outer):=by rw [<- w.stk];exact e0.frames
 have ff':s.heap.FunFrames (hideAll s.heap (frs X.stack)) (X.env :: X.outer):=by rw [<- w.stk];exact ff
 refine wpAny_leaves_madeW (s:={ s with heap:=h1 }) hfr w.frm bs ff' hx fun h' t fl tup _ us=>?_
 have cov:Cover (hideAll s.heap (frs X.stack)) X.outer H X.s₀.heap s.heap:=by
  refine ⟨fun b u o e q=>hideAll_get _ q fun z=>?_,fun b o o' e hb q=>hideAll_get _ q (old_own I w e hb)⟩
  have:=e0.frf b z
  rw [e] at this
  cases this
 have ub:Un (frs X.outer) [] X.H₀ H X.s₀.heap s.heap:=by have:=I.base;rw [w.ex] at this;exact this
 obtain ⟨u2,k2,c2⟩:=fly_step ub I.hok cov ff (sub_own w) fl.1 ((Heap.UpToSlots.of_keeps hx.keeps).trans us)
 refine hq _ ⟨e,_,_,H,rfl,I.os,I.bare,u2,k2,sm,fl,?_,c2⟩
 cases q:H e with
 | none=>rfl
 | some u =>
   obtain ⟨o,z⟩:=obj_get (I.hok e u q)
   rw [hx.new] at z;cases z
theorem thrown_on (I:Inv X pins σ H s) (w:Own X) (sm:Same X.H₀ H) {e:Value} (T:Thrown X.prog X.w C X.stack H s e s')
 (hq:∀ s',Thrown X.prog X.w C X.outer X.H₀ X.s₀ e s'->Q () s'):wpAny M X.A (leaving X.env e) Q E s':=by
 obtain ⟨ea,a0,B,H1,rfl,ho,hg,u,k,s1,fl,he,c⟩:=T
 have hfr:X.A.frames=some (X.env :: X.outer):=by rw [<- w.stk];exact I.env0.frames
 have fl':Heap.FlyingW B (X.env :: X.outer) ea (.ref C) a0 s'.heap:=by rw [<- w.stk];exact fl
 refine wpAny_leaves_onW hfr w.frm fl' fun h' f2 us=>?_
 have J:=I.call' ho u k hg (ch:=[]) (fun b z=>nomatch z)
 have ub:Un (frs X.outer) [] X.H₀ H1 X.s₀.heap s'.heap:=by have:=J.base;rw [w.ex] at this;exact this
 have cov:Cover B X.outer H1 X.s₀.heap s'.heap:=⟨c.trk,fun b o o' e hb q=>by
  obtain ⟨o2,e2⟩:=I.base.there b o e (by rw [w.ex];simp)
  exact c.old b o2 o' e2 (old_own I w e hb) q⟩
 obtain ⟨u2,k2,c2⟩:=fly_step ub k cov fl.2.2.1 (sub_own w) f2.1 us
 exact hq _ ⟨ea,a0,B,H1,rfl,J.os,hg,u2,k2,sm.trans s1,f2,he,c2⟩
end
end Z
namespace Z
open PySem PySem.Spec PySem.Calls PyProof.Rows PySem.W L2 PySem.Builtin.Getset_descriptor
section
variable {prog:Program} {w:World} {A:Around} {E:Value->Shared->Prop} {s:Shared} {K:Frag} {x D:Addr} {ox:Obj}
structure ExcIn (K:Frag) (D:Addr):Prop where
 ga:findIn K (.ref D) "__getattribute__"=some (some (.builtin "BaseException.__getattribute__"))
 gt:findIn K (.ref D) "__getattr__"=some none
 ca:findIn K (.ref D) "__class__"=some (some (.builtin "object.__class__"))
 cg:specialIn K (.builtin "object.__class__") "__get__"=some (some (.builtin "getset_descriptor.__get__"))
 ct:takesIn K (.builtin "object.__class__")=some true
 mo:mroIn K D (.type "object")=some true
 mb:mroIn K D (.type "BaseException")=some true
def ExAt (h:Heap) (x D:Addr):Prop:=∃ o,h.get? x=Option.some o /\ o.cls=.ref D
theorem ExAt.type {M:Model} {h:Heap} (I:ExAt h x D):Looks M h (typeOf (.ref x)) (.ref D):=by
 obtain ⟨o,e,c⟩:=I
 exact c ▸ (Looks.ld e).andThen .now
theorem ExcIn.looks {M:Model} {h:Heap} (X:K.In h) (e:ExcIn K D):Looks M h (Builtin.ObjectAttr.find (.ref x) (.ref D) "__class__") (.bind (.builtin "getset_descriptor.__get__") (.builtin "object.__class__")):=by
 have l1:=looks_findIn (M:=M) X e.ca
 have l2:=looks_specialIn (M:=M) X e.cg
 have l3:=looks_takesIn (M:=M) X e.ct
 unfold Builtin.ObjectAttr.find
 refine l1.andThen ?_
 refine Looks.andThen (show Looks M h (Builtin.ObjectAttr.getOf _) _ from l2) ?_
 refine Looks.andThen (show Looks M h (Builtin.ObjectAttr.dataDescriptor? (Option.some _) (Option.some _)) (Option.some (_,_)) from l3.andThen .now) ?_
 exact Looks.tag .now
theorem ExcIn.some (e:ExcIn K D):(clsIn K D).isSome=true:=by
 have:=e.mo
 unfold mroIn at this
 cases q:clsIn K D with
 | none=>rw [q] at this;cases this
 | some c=>rfl
theorem ex_class_get {R:Result->Shared->Prop} {hh:Heap} {g:Array GenState} {d:Drawn} {t:Nat} {os:OsState} {tp:Value} (L0:Looks (model prog w) hh (typeOf (.ref x)) (.ref D)) (L1:Looks (model prog w) hh (isSubtype (.ref D) (.type "object")) true)
 (h:R (.ok (.ret (.ref D))) ⟨hh,g,d,t,os⟩):codeAny (model prog w) A (.call (.builtin "getset_descriptor.__get__") ⟨[.builtin "object.__class__",.ref x,tp],[]⟩) R ⟨hh,g,d,t,os⟩:=by
 refine codeAny_call_builtin
  KF.slot_gs.plain KF.entry_gs
  (KF.slot_gs.check _ _ _ _ _ _ _ _
   KF.type_class (KF.args_gs _ _ _) ?_)
 unfold Builtin.«getset_descriptor.__get__» Builtin.Getset_descriptor.descrGet
 rw [dga_obj]
 refine (wpAny_bind (wpAny_pure ?_))
 unfold descrGetter descrCheckInstance
 unfold descrNameAndClass isInstance
 simp only [PySem.W.KF.owner_class]
 repeat lk
 refine ⟨(Code.quiet_builtin _ (by decide +kernel)),(codeAny_builtin KF.entry_class ?_)⟩
 unfold Builtin.«object.__class__»
 unfold shownTypeOf
 repeat lk
 exact h
theorem exc_class {Q:Option Value->Shared->Prop} (X:K.In s.heap) (I:ExAt s.heap x D) (e:ExcIn K D) (h:Q (some (.ref D)) { s with toks:=s.toks + 1 }):wpAny (model prog w) A (getAttr? (.ref x) "__class__") Q E s:=by
 obtain ⟨hh,g,d,t,os⟩:=s
 have L0:=I.type (M:=model prog w)
 have L1:=looks_findIn (M:=model prog w) X e.ga
 have L2:=looks_findIn (M:=model prog w) X e.gt
 have L3:=e.looks (x:=x) (M:=model prog w) X
 have L5:=looks_mroIn (M:=model prog w) X e.mo
 have L4:=looks_mroIn (M:=model prog w) X e.mb
 have f3:=PySem.F.attr_ValueError.ga.bind (.ref x)
 unfold getAttr? getAttrBy? getAttrBy
 refine wpAny_bind (wpAny_mkText (wpAny_bind (wpAny_attempt (wpAny_holding (wpAny_bind (L0.at (wpAny_bind (L1.at ?_))))))))
 show wpAny _ _ (getAttrByItsOwn _ _ _ _ _ _) _ _ _
 unfold getAttrByItsOwn hookBefore
 refine wpAny_bind (L2.at ?_)
 refine wpAny_bind (wpAny_attempt (wpAny_holding ?_))
 show wpAny _ _ (boundAndCalled _ _ _) _ _ _
 unfold boundAndCalled
 refine wpAny_bind (wpAny_of_eq f3 ?_)
 refine wpAny_call (codeAny_call_builtin PySem.F.attr_ValueError.ga.plain PySem.F.entry_bexc_ga ?_)
 have hk:builtinKind "BaseException.__getattribute__"=some .slot:=by decide +kernel
 have hsp:splitId "BaseException.__getattribute__"=some ("BaseException","__getattribute__"):=by decide +kernel
 have har:=PySem.F.args_bexc_ga (.ref x) (.str "__class__" t)
 simp only [checkBuiltinCall,hk,hsp]
 refine wpAny_bind ?_
 unfold isInstance
 refine wpAny_bind (L0.at ?_)
 refine L4.at ?_
 rw [if_neg (by decide)]
 refine wpAny_of_eq (show _=pure () from har) ?_
 unfold Builtin.«object.__getattribute__»
 refine wpAny_bind (wpAny_of_eq (show slotArgs "__getattribute__" 1 _=pure (Value.ref x,[Value.str "__class__" t]) from rfl) ?_)
 refine wpAny_bind (wpAny_of_eq (show Builtin.ObjectAttr.attrName (Value.str "__class__" t)=pure "__class__" from rfl) ?_)
 refine wpAny_bind (L0.at (wpAny_bind (L3.at ?_)))
 show wpAny _ _ (do let v <- holding [Value.builtin "object.__class__"] (call (.builtin "getset_descriptor.__get__") [.builtin "object.__class__",.ref x,.ref D]);ret v) _ _ _
 refine wpAny_bind (wpAny_holding (wpAny_call (ex_class_get (tp:=.ref D) L0 L5 ?_)))
 refine wpAny_pure ?_
 show wpAny _ _ (handedOut (.ref D)) _ _ _
 refine wpAny_of_eq (show handedOut (.ref D)=pure (.ref D) from rfl) ?_
 exact wpAny_pure h
theorem kitx_exc (e:ExcIn K D):KitX K (.ref x) (.ref D) (fun h=>ExAt h x D) where
 ty:=fun _ _ _ I=>I.type
 it:=fun _ _ X _=>by
  have hc:=e.some
  unfold clsIn at hc
  split at hc
  ·next ho =>
   intro A' Q' E' s' k q
   unfold isType loadHead
   exact wpAny_bind (wpAny_loadPart (k _ _ (X _ _ ho)) (wpAny_pure q))
  ·cases hc
 ne:=fun h tp dd its n sl X htp=>by
  have hc:=e.some
  refine Bool.eq_false_iff.mpr fun q=>?_
  have e':D=tp:=Value.ref.inj (beq_iff_eq.mp q)
  subst e'
  unfold clsIn at hc
  split at hc
  ·next ho =>
   have z:=(X _ _ ho).symm.trans htp
   cases z
  ·cases hc
 ca:=fun X I k=>exc_class X I e k
end
end Z
namespace Z
open PySem PySem.Spec PySem.Calls PyProof.Rows PySem.W L2
abbrev bmV:List Value:=[.type "ValueError",.type "Exception",.type "BaseException",.type "object"]
abbrev newV:String:="ValueError.__new__"
section
variable {X:Cx} {pins:List (Addr × Obj)} {σ:L2.St} {H:Hp} {s s':Shared} {C:Addr}
variable {M:Model} {E:Value->Shared->Prop} {Q:Flow->Shared->Prop} {x n:Str} {np pos:Pos} {b₀:Stmt} {suite:List Stmt} {rest:List ExceptHandler} {i:Nat}
end
def names12:List Str:=["NoRatio","NoNext","NoRoot","Unfit","Dependent","NoLine","BadText","TooGreat","BadRow","NoRow","NoColumn","TooMany"]
structure AloneF (K:Frag) (mg:Str->Option Value) (y:Str) (D:Addr):Prop where
 ex:ExcIn K D
 cls:∀ c ∈ names12,∃ Ca,mg c=some (.ref Ca) /\ kitOne K (.ref D) (.ref Ca)=some (decide (c=y))
 te:∃ Ca,mg "TrueError"=some (.ref Ca) /\ kitOne K (.ref D) (.ref Ca)=some true
 ve:kitOne K (.ref D) (.type "ValueError")=some true
 vn:mg "ValueError"=none
 isi:mg "isinstance"=none
 mem:y ∈ names12
def spA (K:Frag) (mg:Str->Option Value):Sp:=fun vs H Q _=>∃ y D ea oe u,AloneF K mg y D /\ vs=[.ref ea] /\ H ea=some (.frz oe u) /\ oe.cls=.ref D /\ ∀ H',Same H H'->Q (.bl true) H'
end Z
namespace Z
open PySem PySem.Spec PyProof.Rows L2
theorem slRange (a b:Nat):sliceRange (a:Int) (b:Int) 1=List.range' a (b - a):=by
 unfold sliceRange
 have e:(if (1:Int) > 0 then (if (a:Int) < b then ((b:Int) - a + 1 - 1) / 1 else 0) else (if (a:Int) > b then ((a:Int) - b - 1 - 1) / (-1) else 0)).toNat=b - a:=by
  rw [if_pos (by decide),Int.ediv_one]
  split <;> lia
 simp only [e]
 rw [List.range'_eq_map_range]
 refine List.map_congr_left fun k _=>?_
 lia
theorem slIdx (lo hi:Option Int) (n:Nat):Builtin.Str.strSliceIndices lo hi 1 n=List.range' (sIx n 0 lo) (sIx n n hi - sIx n 0 lo):=by
 rw [<- slRange]
 have cl:∀ (v:Option Int) (d:Nat),(match v with | none=>(d:Int) | some i=>max 0 (min (if i < 0 then i + (n:Int) else i) (n:Int)))=((sIx n d v:Nat):Int):=by
  intro v d
  cases v with
  | none=>rfl
  | some i =>
    show _=(((if i < 0 then (i + (n:Int)).toNat else min i.toNat n):Nat):Int)
    split <;> lia
 unfold Builtin.Str.strSliceIndices
 rw [<- cl lo 0,<- cl hi n]
 cases lo <;> cases hi <;> simp
theorem filt_range (l:List Nat):∀ (b a:Nat),a + b<=l.length->(List.range' a b).filterMap (l[·]?)=(l.drop a).take b
 | 0,a,_=>by simp
 | b + 1,a,h=>by
   rw [List.range'_succ,List.filterMap_cons,List.getElem?_eq_getElem (by lia)]
   simp only []
   rw [filt_range l b (a + 1) (by lia),List.drop_eq_getElem_cons (by lia:a < l.length),List.take_succ_cons]
theorem sIx_le (n d:Nat) (o:Option Int) (h:d<=n):sIx n d o<=n \/ ∃ i,o=some i /\ i < 0:=by
 cases o with
 | none=>exact .inl h
 | some i =>
   by_cases z:i < 0
   ·exact .inr ⟨i,rfl,z⟩
   ·left
    show (if i < 0 then (i + (n:Int)).toNat else min i.toNat n)<=n
    rw [if_neg z];lia
theorem sIx_le' (n d:Nat) (o:Option Int) (h:d<=n):sIx n d o<=n:=by
 rcases sIx_le n d o h with z | ⟨i,rfl,z⟩
 ·exact z
 ·show (if i < 0 then (i + (n:Int)).toNat else min i.toNat n)<=n
  rw [if_pos z];lia
theorem slice_cut (x:Str) (lo hi:Option Int):Txt.slice x lo hi=cutS x lo hi:=by
 have ha:=sIx_le' x.length 0 lo (Nat.zero_le _)
 have hb:=sIx_le' x.length x.length hi (Nat.le_refl _)
 have hl:x.cps.toList.length=x.length:=Array.length_toList
 unfold Txt.slice cutS
 rw [slIdx]
 split
 ·next h =>
  simp only [List.length_range',Bool.and_eq_true,beq_iff_eq] at h
  have e1:sIx x.length 0 lo=0:=by lia
  have e2:sIx x.length x.length hi=x.length:=by lia
  rw [e1,e2,List.drop_zero,Nat.sub_zero,<- hl,List.take_length]
 ·have e:=filt_range x.cps.toList (sIx x.length x.length hi - sIx x.length 0 lo) (sIx x.length 0 lo)
  rcases Nat.le_total (sIx x.length 0 lo) (sIx x.length x.length hi) with z | z
  ·rw [<- e (by lia)]
   congr 2
   have e:(fun i:Nat=>x.cps[i]?)=fun i=>x.cps.toList[i]?:=by funext i;simp
   rw [e]
  ·rw [show sIx x.length x.length hi - sIx x.length 0 lo=0 by lia]
   simp
variable {X:Cx}
def rSlS:V->Option Int->Option Int->Hp->VK->Prop:=fun x lo hi H Q=>∃ z,x=.str z /\ z.length<=sizeLine /\ Q (.str (cutS z lo hi)) H
theorem part_of {v:Value} {o:Option Int} (p:IsPart v o):∃ q:Option (Int × Tok),v=partValue q /\ q.map (·.1)=o:=by
 cases p with
 | none=>exact ⟨none,rfl,rfl⟩
 | int i t=>exact ⟨some (i,t),rfl,rfl⟩
theorem sl_strR:SlR X rSlS:=by
 intro pins s σ H x v vl vu lo hi sl Q I rx hs pl pu h
 obtain ⟨z,rfl,hz,q⟩:=h
 obtain ⟨t,rfl⟩:=rx
 obtain ⟨pl',rfl,e1⟩:=part_of pl
 obtain ⟨pu',rfl,e2⟩:=part_of pu
 refine ⟨"str",_,slot_str_getitem.lookup,typeIs_str s z t,?_⟩
 have hS:s.heap.IsSlice sl pl' pu' none:=hs
 have hc:=slice_cut z lo hi
 unfold Txt.slice at hc
 have q':∀ (u:Tok) (k:Nat),EP X pins σ Q (.str (cutS z lo hi) u) { s with toks:=k }:=fun u k=>⟨.str _,H,I.tok _,⟨_,rfl⟩,q⟩
 refine getItem_meets (typeIs_str s z t) (by decide) F.slot_str_getitem F.entry_str_getitem (F.args_str_getitem_2 _ _) (meets_str_getitem_slice z t sl pl' pu' none rfl) ⟨hS,?_⟩
 unfold sliceMade slicePicked
 rw [e1,e2]
 simp only [Option.map_none,Option.getD_none]
 have hcl:(cutS z lo hi).length<=sizeLine:=by
  have:(cutS z lo hi).length<=z.length:=by rw [<- slice_cut];exact Txt.slice_le z lo hi
  omega
 by_cases h:(((1:Int) == 1) && (Builtin.Str.strSliceIndices lo hi 1 z.length).length == z.length)=true
 ·rw [if_pos h] at hc ⊢
  have:=q' t s.toks
  rw [<- hc] at this
  exact this
 ·rw [if_neg h] at hc ⊢
  rw [hc]
  exact ⟨hcl,q' _ _⟩
end Z
namespace PySem.W
open PySem PySem.Calls PySem.NumText PyProof.Rows KIN
theorem maxDigits {M:Model} {A:Around} {E:Value->Shared->Prop} {s:Shared} {Q:Nat->Shared->Prop} (hn:s.heap.NoDigits) (h:Q 4300 s):wpAny M A Builtin.intMaxStrDigits Q E s:=by
 obtain ⟨mc,hns,hnone⟩:=hn
 unfold Builtin.intMaxStrDigits
 refine wpAny_bind (wpAny_nsGet hns ?_)
 rw [hnone]
 exact wpAny_pure h
theorem wp_textD {M:Model} {A:Around} {E:Value->Shared->Prop} {s:Shared} {Q:Value->Shared->Prop} {v:Value} {text:List Nat} {n:Int}
 (hn:s.heap.NoDigits) (hs:¬ (text.takeWhile (· != 0)).length<=640) (hr:(int_private% "readNumeral") 4300 10 (text.takeWhile (· != 0))=(int_private% "Numeral.value") n)
 (ha:((text.takeWhile (· != 0)).length == text.length)=true) (h:Q (.int n s.toks) { s with toks:=s.toks + 1 }) :
 wpAny M A ((int_private% "intFromText") v text 10) Q E s:=by
 obtain ⟨hp,g,d,tk,os⟩:=s
 repeat (any_goals (first
  | assumption
  | ((with_reducible show wpAny _ _ Builtin.intMaxStrDigits _ _ _);refine maxDigits hn ?_)
  | (with_reducible refine wpAny_ite_false (decide_eq_false hs) ?_)
  | (with_reducible refine wpAny_ite_true (decide_eq_true ha) ?_)
  | wp_step))
 all_goals (try rw [hr])
 all_goals (try dsimp only)
 repeat (any_goals (first
  | assumption
  | (with_reducible refine wpAny_ite_true (decide_eq_true ha) ?_)
  | wp_step))
set_option maxHeartbeats 4000000 in
theorem meets_textD {x:PySem.Str} {u:Tok} {n:Int} (hl:¬ (numSeenOf x).length<=640) (hx:x.length<=sizeLine) (hn:PySem.intText? x=some n):Meets (Builtin.«int.__new__» ⟨[.type "int",.str x u],[]⟩) (fun _ R s=>s.heap.NoDigits /\ R (.ok (.ret (.int n s.toks))) { s with toks:=s.toks + 1 }) :=
 .of_wp fun prog w A R s h=>by
  obtain ⟨hd,h⟩:=h
  obtain ⟨hp,g,d,tk,os⟩:=s
  have ty:=(rfl:typeOf (Value.str x u)=pure (Value.type "str"))
  have ⟨a1,a2,b1,b2,b3⟩:=(⟨F.conv_sub_int,F.madeHere_int,str_int,str_idx,str_trunc⟩:_ /\ _ /\ _ /\ _ /\ _)
  have hr:(int_private% "readNumeral") 4300 10 (numSeenOf x)=(int_private% "Numeral.value") n /\ ((numSeenOf x).length == (numTextOf x).length)=true:=by
   rcases read4300 x hx with ⟨m,e,al,va⟩ | ⟨e,_⟩ <;> rw [hn] at e
   ·cases e
    exact ⟨va,al⟩
   ·cases e
  have hk:=Hid.mk (And.intro hl hr)
  clear hr hl hn
  repeat (any_goals (first
   | assumption
   | ((with_reducible show wpAny _ _ ((int_private% "intFromText") _ _ _) _ _ _);refine wp_textD hd hk.out.1 hk.out.2.1 hk.out.2.2 ?_)
   | wp_step))
  all_goals first | exact ⟨_,rfl,h⟩ | skip
theorem call_textD {prog:Program} {w:World} {A:Around} {E:Value->Shared->Prop} {s:Shared} {Q:Value->Shared->Prop} {x:PySem.Str} {t:Tok} {n:Int} (hd:s.heap.NoDigits) (hl:x.length<=640 \/ (640 < (numSeenOf x).length /\ x.length<=sizeLine)) (hn:PySem.intText? x=some n) (h:Q (.int n s.toks) { s with toks:=s.toks + 1 }):wpAny (model prog w) A (call (.type "int") [.str x t]) Q E s:=by
 rcases hl with hl | ⟨hl,hx⟩
 ·exact call_text hn hl h
 ·exact call_int_1 (meets_textD (by omega) hx hn) ⟨hd,rfl,h⟩
end PySem.W
namespace Z
open PySem PySem.Spec PyProof.Rows L2
variable {X:Cx}
theorem call_intS:CallR X (.type "int") (fun xs H Q=>∃ z n,xs=[.str z] /\ (z.length<=640 \/ (640 < (PySem.numSeenOf z).length /\ z.length<=sizeLine)) /\ PySem.intText? z=some n /\ Q (.int n) H):=by
 intro pins s σ H xs us Q I r h
 obtain ⟨z,n,rfl,hl,hn,q⟩:=h
 obtain ⟨u,rfl,t,rfl⟩:=vals1 r
 exact PySem.W.call_textD (I.ok.mod.nolimit.2.keeps I.bk) hl hn ⟨.int n,H,I.tok _,⟨_,rfl⟩,q⟩
theorem rep_str (z:Str) (k:Int):Txt.mul z k=⟨(List.replicate k.toNat z.cps.toList).flatten.toArray⟩:=by
 unfold Txt.mul
 split
 ·next h=>rw [show k.toNat=0 by lia];rfl
 ·split
  ·next h h1 =>
   simp only [Bool.or_eq_true,beq_iff_eq] at h1
   rcases h1 with rfl | h1
   ·simp
   ·have:z.cps.toList=[]:=by
     have:z.cps.size=0:=h1
     simpa using this
    rw [this]
    have e:z=⟨#[]⟩:=by
     cases z
     simp_all
    rw [e]
    simp
  ·have key:∀ (n:Nat) (a:Array Nat),(List.replicate n z.cps).foldl (· ++ ·) a=a ++ (List.replicate n z.cps.toList).flatten.toArray:=by
    intro n
    induction n with
    | zero=>intro a;simp
    | succ n ih =>
      intro a
      rw [List.replicate_succ,List.foldl_cons,ih,List.replicate_succ,List.flatten_cons]
      apply Array.ext'
      simp
   rw [key]
   simp
theorem op_mulS:OpR X (binaryOp .Mult) (fun x y H Q=>∃ z k,x=.str z /\ y=.int k /\ RepOk z.length k /\ Q (.str ⟨(List.replicate k.toNat z.cps.toList).flatten.toArray⟩) H):=by
 intro pins s σ H x y v u Q I rx ry h
 obtain ⟨z,k,rfl,rfl,⟨hk,hl⟩,q⟩:=h
 obtain ⟨t,rfl⟩:=rx
 obtain ⟨t',rfl⟩:=ry
 have h24:lim=16777216:=rfl
 refine SB.mul ⟨?_,?_,?_⟩ fun t'' k'=>?_
 ·have e1:decide (k < -(2 ^ 63:Int))=false:=decide_eq_false (by omega)
  have e2:decide (k ≥ 2 ^ 63)=false:=decide_eq_false (by omega)
  rw [e1,e2];rfl
 ·intro h1 h2 h3
  have hp:((z.length * k.toNat:Nat):Int)=(z.length:Int) * k:=by
   rw [Int.natCast_mul,Int.toNat_of_nonneg (by omega)]
  have:(z.length:Int)<=(2 ^ 63 - 1) / k:=Int.le_ediv_of_mul_le (by omega) (by rw [<- hp];omega)
  omega
 ·intro h1 h2
  unfold Builtin.Str.tooLong
  rw [sizeLine_eq]
  exact decide_eq_false (by omega)
 ·rw [rep_str]
  exact ⟨.str _,H,I.tok _,⟨_,rfl⟩,q⟩
end Z
namespace Z
open PySem PySem.W PyProof.Rows
structure Ord (lt:Nat->Nat->Bool):Prop where
 asy:∀ a b,lt a b=true->lt b a=false
 tr:∀ a b c,lt b a=false->lt c b=false->lt c a=false
abbrev at' (p:Array Nat) (i:Nat):Nat:=p.getD i 0
def Pm (n:Nat) (p:Array Nat):Prop:=p.toList.Perm (List.range n)
def Up (lt:Nat->Nat->Bool) (p:Array Nat) (lo hi:Nat):Prop:=∀ i j,lo<=i->i<=j->j < hi->lt (at' p j) (at' p i)=false
def Dn (lt:Nat->Nat->Bool) (p:Array Nat) (lo hi:Nat):Prop:=∀ i j,lo<=i->i<=j->j < hi->lt (at' p i) (at' p j)=false
section
variable {lt:Nat->Nat->Bool} {n:Nat} {p:Array Nat}
theorem Ord.irr (o:Ord lt) (a:Nat):lt a a=false:=by
 cases h:lt a a
 ·rfl
 ·exact absurd (o.asy a a h) (by simp [h])
theorem Pm.size (h:Pm n p):p.size=n:=by have:=h.length_eq;simpa using this
theorem Up.more (o:Ord lt) {lo hi:Nat} (h:Up lt p lo hi) (hl:lo < hi) (h1:lt (at' p hi) (at' p (hi - 1))=false):Up lt p lo (hi + 1):=by
 intro i j a b c
 by_cases e:j < hi
 ·exact h i j a b e
 ·have e1:j=hi:=by omega
  subst e1
  by_cases e2:i=j
  ·rw [e2];exact o.irr _
  ·exact o.tr _ _ _ (h i (j - 1) a (by omega) (by omega)) h1
theorem Dn.more (o:Ord lt) {lo hi:Nat} (h:Dn lt p lo hi) (hl:lo < hi) (h1:lt (at' p (hi - 1)) (at' p hi)=false):Dn lt p lo (hi + 1):=by
 intro i j a b c
 by_cases e:j < hi
 ·exact h i j a b e
 ·have e1:j=hi:=by omega
  subst e1
  by_cases e2:i=j
  ·rw [e2];exact o.irr _
  ·exact o.tr _ _ _ h1 (h i (j - 1) a (by omega) (by omega))
end
section
variable {lt:Nat->Nat->Bool} {n:Nat}
end
end Z
namespace Z
open PySem PySem.W PySem.Calls PyProof.Rows
section
variable {prog:Program} {w:World} {A:Around} {E:Value->Shared->Prop} {s:Shared} {vs:List Value} {lt:Nat->Nat->Bool}
end
section
variable {prog:Program} {w:World} {A:Around} {E:Value->Shared->Prop} {s:Shared} {vs:List Value}
def PrsIn (h:Heap):List Value->List (Int × Int)->Prop
 | [],[]=>True
 | v :: vs,p :: ps=>(∃ a o c t u,v=.ref a /\ h.get? a=some o /\ o.cls=.type "tuple" /\ o.data=.seq #[.int p.1 t,.int p.2 u] c) /\ PrsIn h vs ps
 | _,_=>False
theorem PrsIn.at_ {h:Heap}:∀ {vs:List Value} {ps:List (Int × Int)},PrsIn h vs ps->∀ i,i < vs.length->∃ a o c t u,vs.getD i Value.none=.ref a /\ h.get? a=some o /\ o.cls=.type "tuple" /\ o.data=.seq #[.int (ps.getD i (0,0)).1 t,.int (ps.getD i (0,0)).2 u] c
 | [],[],_,i,hi=>by simp at hi
 | _ :: _,_ :: _,⟨x,r⟩,i,hi=>by
   cases i with
   | zero=>exact x
   | succ i=>simpa using PrsIn.at_ r i (by simpa using hi)
 | [],_ :: _,x,_,_=>x.elim
 | _ :: _,[],x,_,_=>x.elim
end
end Z
namespace Z
open PySem PySem.Spec PyProof.Rows L2
abbrev eob (it:Addr) (i:Int) (f0:Value) (f1:Bool) (old:Value):Obj:={ cls:=.type "enumerate",dict:=none,data:=.fields #[f0,.bool f1,.ref it,rawInt i,.none,old],slots:=#[] }
section
variable {prog:Program} {w:World} {A:Around} {E:Value->Shared->Prop} {s:Shared} {e it l:Addr}
theorem efree {i:Int} {f0 old:Value} {f1:Bool} {Q:Bool->Shared->Prop} (hz:s.heap.get? e=some (eob it i f0 f1 old)) (hf:ZF f0) (q:∀ b h₁ g1,h₁.get? e=some (eob it i f0 g1 old)->Heap.SameBut e s.heap h₁->Q b { s with heap:=h₁ }) :
 wpAny (model prog w) A (Builtin.SmallTypes.ownedTupleIsFree (.ref e)) Q E s:=by
 unfold Builtin.SmallTypes.ownedTupleIsFree
 rcases hf with rfl | ⟨T,rfl⟩
 ·exact wpAny_bind (wpAny_field hz rfl (x:=.none) rfl (wpAny_pure (q true s.heap f1 hz (Heap.SameBut.refl ..))))
 ·refine wpAny_bind (wpAny_field hz rfl (x:=rawInt T) rfl ?_)
  refine wpAny_bind (m:=loadIfAlive (T:Int).toNat) (alive_look ?_)
  cases hT:s.heap.get? (T:Int).toNat with
  | none=>exact wpAny_pure (q true s.heap f1 hz (Heap.SameBut.refl ..))
  | some o =>
    refine wpAny_bind (m:=field (.ref e) 1) (wpAny_field hz rfl (x:=.bool f1) rfl ?_)
    cases f1 with
    | true=>exact wpAny_pure (q false s.heap true hz (Heap.SameBut.refl ..))
    | false=>exact wpAny_bind (m:=setField (.ref e) 1 (.bool true)) (wpAny_setField_rec hz (by simp) fun h₁ k1 k2=>wpAny_pure (q false h₁ true k1 k2))
structure ESt (e it l:Addr) (k:Nat) (h:Heap):Prop where
 enm:∃ f0 f1 old,ZF f0 /\ h.get? e=some (eob it k f0 f1 old)
 one:h.IsListIter it l k
theorem enext {k:Nat} {xs:Array Value} {x:Value} {Q:Option Value->Shared->Prop} (hne:e ≠ it) (st:ESt e it l k s.heap) (hl:s.heap.IsList l xs) (hx:xs[k]?=some x)
 (q:∀ T h₂,ESt e it l (k + 1) h₂->s.heap.objs.size<=T->h₂.get? T=some (prob (.int k s.toks) x)->(∀ b o,b ∉ [e,it]->s.heap.get? b=some o->h₂.get? b=some o)->Q (some (.ref T)) { s with heap:=h₂,toks:=s.toks + 1 }) :
 wpAny (model prog w) A (pyNext (.ref e)) Q E s:=by
 obtain ⟨⟨f0,f1,old,hf,he⟩,hit⟩:=st
 have ty:s.TypeIs (.ref e) "enumerate":=⟨_,he,rfl⟩
 unfold pyNext
 refine wpAny_bind (wpAny_attempt (wpAny_callSpecial?_slot (name:=Str.ofString "__next__") ty F.slot_enumerate_next (wpAny_call_entry F.slot_enumerate_next ty F.entry_enumerate_next ?_ (F.args_enumerate_next_1 _))))
 obtain ⟨hp,g,d,tk,os⟩:=s
 show wpAny _ _ (field (.ref e) 2 >>= _) _ _ _
 refine wpAny_bind (wpAny_field he rfl (x:=.ref it) rfl ?_)
 refine wpAny_bind (wpAny_nextOf_list_item hit hl hx fun h₁ hit₁ hs₁=>?_)
 replace hs₁:Heap.SameBut it hp h₁:=hs₁
 have he₁:h₁.get? e=some (eob it k f0 f1 old):=(hs₁.2 e hne).trans he
 show wpAny _ _ (field (.ref e) 3 >>= _) _ _ ⟨h₁,g,d,tk,os⟩
 refine wpAny_bind (wpAny_field he₁ rfl (x:=rawInt k) rfl ?_)
 show wpAny _ _ (field (.ref e) 4 >>= _) _ _ ⟨h₁,g,d,tk,os⟩
 refine wpAny_bind (wpAny_field he₁ rfl (x:=.none) rfl ?_)
 show wpAny _ _ (mkInt k >>= _) _ _ ⟨h₁,g,d,tk,os⟩
 refine wpAny_bind (wpAny_mkInt ?_)
 show wpAny _ _ (setField (.ref e) 3 (rawInt ((k:Int) + 1)) >>= _) _ _ ⟨h₁,g,d,tk + 1,os⟩
 refine wpAny_bind (wpAny_setField_rec he₁ (by simp) fun h₂ he₂ hs₂=>?_)
 replace hs₂:Heap.SameBut e h₁ h₂:=hs₂
 replace he₂:h₂.get? e=some (eob it ((k:Int) + 1) f0 f1 old):=he₂
 show wpAny _ _ (setField (.ref e) 4 .none >>= _) _ _ ⟨h₂,g,d,tk + 1,os⟩
 refine wpAny_bind (wpAny_setField_rec he₂ (by simp) fun h₃ he₃ hs₃=>?_)
 replace hs₃:Heap.SameBut e h₂ h₃:=hs₃
 replace he₃:h₃.get? e=some (eob it ((k:Int) + 1) f0 f1 old):=he₃
 show wpAny _ _ (newTuple [.int k tk,x] >>= _) _ _ ⟨h₃,g,d,tk + 1,os⟩
 refine wpAny_bind (wpAny_newTuple ?_)
 have he₄:(h₃.push (prob (.int k tk) x)).get? e=some (eob it ((k:Int) + 1) f0 f1 old):=Heap.get?_push_of_some _ he₃
 generalize hh₄:h₃.push (prob (.int k tk) x)=h₄ at he₄
 have hsz:h₃.objs.size=hp.objs.size:=by rw [hs₃.1,hs₂.1,hs₁.1]
 have hel:e < hp.objs.size:=Heap.lt_size he
 have ht₄:h₄.get? hp.objs.size=some (prob (.int k tk) x):=by rw [<- hh₄,<- hsz];exact Heap.get?_push_size _ rfl
 have hk₄:∀ b o,b ∉ [e,it]->hp.get? b=some o->h₄.get? b=some o:=fun b o hb e=>by
  simp only [List.mem_cons,List.not_mem_nil,or_false,not_or] at hb
  rw [<- hh₄];exact Heap.get?_push_of_some _ (hs₃.extBut b o hb.1 (hs₂.extBut b o hb.1 (hs₁.extBut b o hb.2 e)))
 have hit₄:h₄.IsListIter it l (k + 1):=by
  rw [<- hh₄];obtain ⟨o,ho,r⟩:=(hit₁.extBut hs₂.extBut (Ne.symm hne)).extBut hs₃.extBut (Ne.symm hne);exact ⟨o,Heap.get?_push_of_some _ ho,r⟩
 have hc:((k + 1:Nat):Int)=(k:Int) + 1:=by simp
 show wpAny _ _ (Builtin.SmallTypes.ownedTupleIsFree (.ref e) >>= _) _ _ ⟨h₄,g,d,tk + 1,os⟩
 rw [hsz]
 refine wpAny_bind (efree he₄ hf fun fr h₅ g1 he₅ hs₅=>?_)
 replace hs₅:Heap.SameBut e h₄ h₅:=hs₅
 have ht₅:h₅.get? hp.objs.size=some (prob (.int k tk) x):=hs₅.extBut _ _ (Nat.ne_of_gt hel) ht₄
 have hk₅:∀ b o,b ∉ [e,it]->hp.get? b=some o->h₅.get? b=some o:=fun b o hb z=>by
  have hb':=hb
  simp only [List.mem_cons,List.not_mem_nil,or_false,not_or] at hb'
  exact hs₅.extBut b o hb'.1 (hk₄ b o hb z)
 have hit₅:=hit₄.extBut hs₅.extBut (Ne.symm hne)
 cases fr with
 | false =>
   simp only [Bool.false_eq_true,if_false]
   exact wpAny_pure ⟨_,rfl,wpAny_pure (q _ h₅ ⟨⟨f0,g1,old,hf,by rw [hc];exact he₅⟩,hit₅⟩ (Nat.le_refl _) ht₅ hk₅)⟩
 | true =>
   simp only [if_true]
   refine wpAny_bind (wpAny_rule ?_)
   refine wpAny_bind (m:=field (.ref e) 5) (wpAny_field he₅ rfl (x:=old) rfl ?_)
   refine wpAny_bind (m:=setField (.ref e) 5 x) (wpAny_setField_rec he₅ (by simp) fun h₆ he₆ hs₆=>?_)
   refine wpAny_bind (m:=Builtin.SmallTypes.ownedTupleHandOut (.ref e) (.ref hp.objs.size)) ?_
   unfold Builtin.SmallTypes.ownedTupleHandOut
   refine wpAny_bind (m:=setField (.ref e) 0 (rawInt hp.objs.size)) (wpAny_setField_rec he₆ (by simp) fun h₇ he₇ hs₇=>wpAny_setField_rec he₇ (by simp) fun h₈ he₈ hs₈=>?_)
   have up:∀ b o,b ≠ e->h₅.get? b=some o->h₈.get? b=some o:=fun b o hb z=>hs₈.extBut b o hb (hs₇.extBut b o hb (hs₆.extBut b o hb z))
   refine wpAny_bind (wpAny_letGo (wpAny_pure ⟨_,rfl,wpAny_pure (q hp.objs.size h₈ ⟨⟨rawInt hp.objs.size,false,x,.inr ⟨_,rfl⟩,by rw [hc];exact he₈⟩,hit₅.at fun o z=>up _ o (Ne.symm hne) z⟩ (Nat.le_refl _) (up _ _ (Nat.ne_of_gt hel) ht₅) fun b o hb z=>?_)⟩))
   have hb':=hb
   simp only [List.mem_cons,List.not_mem_nil,or_false,not_or] at hb'
   exact up b o hb'.1 (hk₅ b o hb z)
theorem eend {k:Nat} {xs:Array Value} {Q:Option Value->Shared->Prop} (hh:A.handled=none) (hne:e ≠ it) (st:ESt e it l k s.heap) (hl:s.heap.IsList l xs) (hx:xs[k]?=none)
 (q:∀ h₂,(∀ b o,b ∉ [e,it]->s.heap.get? b=some o->h₂.get? b=some o)->Q none { s with heap:=h₂ }):wpAny (model prog w) A (pyNext (.ref e)) Q E s:=by
 obtain ⟨⟨f0,f1,old,hf,he⟩,hit⟩:=st
 have ty:s.TypeIs (.ref e) "enumerate":=⟨_,he,rfl⟩
 unfold pyNext
 refine wpAny_bind (wpAny_attempt (wpAny_callSpecial?_slot (name:=Str.ofString "__next__") ty F.slot_enumerate_next (wpAny_call_entry F.slot_enumerate_next ty F.entry_enumerate_next ?_ (F.args_enumerate_next_1 _))))
 show wpAny _ _ (field (.ref e) 2 >>= _) _ _ _
 refine wpAny_bind (wpAny_field he rfl (x:=.ref it) rfl ?_)
 refine wpAny_bind (wpAny_nextOf_list_end hh hit hl hx fun h' x he' hx'=>?_)
 obtain ⟨o,ho,hc⟩:=hx'
 refine wpAny_bind (wpAny_isInstance (T:="StopIteration") (b:=true) ⟨o,ho,hc⟩ isSubtype_stop ?_)
 refine wpAny_pure (q _ fun b o hb z=>he' b o ?_ z)
 simp only [List.mem_cons,List.not_mem_nil,or_false,not_or] at hb
 exact hb.2
end
def Ite (K:PySem.W.Frag) (l:Addr):It:=⟨fun i H=>∃ xs x,SqL K H l xs /\ xs[i]?=some x,
 fun i H v H'=>∃ T x,v=.ref T /\ H T=none /\ (∀ xs,SqL K H l xs->xs[i]?=some x) /\ H'=upd H T (.tup [.int i,x]),fun i H=>∃ xs,SqL K H l xs /\ xs.length<=i⟩
theorem turn_enum {P:Program} {w:World} {K:PySem.W.Frag} {x:Str} {px:Pos} {e it l:Addr} (hne:e ≠ it):Turn P w K (.Name x px) (Ite K l) [e,it] e (fun i h=>ESt e it l i h) where
 mem:=by simp
 obj:=fun i h st b hb=>by
  obtain ⟨⟨f0,f1,old,hf,hz⟩,⟨o1,e1,_,d1⟩⟩:=st
  simp only [List.mem_cons,List.not_mem_nil,or_false] at hb
  rcases hb with rfl | rfl
  ·exact ⟨_,hz,fun v q=>by cases q⟩
  ·exact ⟨_,e1,fun v q=>by rw [d1] at q;cases q⟩
 keep:=fun i h h' st k=>by
  obtain ⟨⟨f0,f1,old,hf,hz⟩,o1⟩:=st
  exact ⟨⟨f0,f1,old,hf,k e (by simp) _ hz⟩,o1.at fun o z=>k it (by simp) o z⟩
 item:=by
  intro X hP hw hK hc i pins s σ H E I hf st hg
  subst hP hw hK
  obtain ⟨xs,xv,q1,e1⟩:=hg
  obtain ⟨its1,r1,p1,_⟩:=I.list q1
  obtain ⟨u1,hu1,ru1⟩:=r1.get e1
  refine enext hne st p1.isList (x:=u1) (by simpa using hu1) fun T h₂ st₂ hT ht k=>⟨.ref T,rfl,go_name ?_⟩
  have fT:H T=none:=I.hok.fresh hT
  have I2:Inv X pins σ (upd H T (.tup [.int i,xv])) { s with heap:=h₂ }:=Inv.turnedL (ch:=[e,it]) (us:=[.int i s.toks,u1]) I hf k hT ht (.cons ⟨_,rfl⟩ (.cons ru1 .nil)) (by show 2<=sizeLine;decide)
  refine ⟨.ref T,upd H T (.tup [.int i,xv]),I2.tok _,rfl,⟨T,xv,rfl,fT,fun zs hz=>by rw [I.list_inj hz q1];exact e1,rfl⟩,st₂,fun b hb=>?_⟩
  obtain ⟨o,eo,_⟩:∃ o,s.heap.get? b=some o /\ True:=by
   obtain ⟨⟨f0,f1,old,hf',hz⟩,⟨o1,w1,_,_⟩⟩:=st
   simp only [List.mem_cons,List.not_mem_nil,or_false] at hb
   rcases hb with rfl | rfl
   ·exact ⟨_,hz,trivial⟩
   ·exact ⟨_,w1,trivial⟩
  rw [upd_ne fun q=>absurd (Heap.lt_size eo) (by rw [q];exact Nat.not_lt.mpr hT)]
  exact (hf b hb).1
 done:=by
  intro X hP hw hK hc i pins s σ H E I hf st hg
  subst hP hw hK
  obtain ⟨xs,q1,hl⟩:=hg
  obtain ⟨its1,r1,p1,_⟩:=I.list q1
  have n1:=r1.length
  refine eend (I.ok.hd hc) hne st p1.isList (by simp;lia) fun h₂ k=>⟨rfl,?_⟩
  exact Inv.turnedN (ch:=[e,it]) I hf k
 self:=fun A i s Q E st h=>by
  obtain ⟨⟨f0,f1,old,hf,hz⟩,_⟩:=st
  have ty:s.TypeIs (.ref e) "enumerate":=⟨_,hz,rfl⟩
  refine wpAny_pyIter_slot ty F.slot_enumerate_iter (wpAny_call_entry F.slot_enumerate_iter ty F.entry_enumerate_iter ?_ (F.args_enumerate_iter_1 _))
  exact wpAny_pure (M:=model P w) ⟨_,rfl,"enumerate",_,ty,F.slot_enumerate_next.lookup,h⟩
def iEnm (K:PySem.W.Frag) (ta:TA):TI:=fun σ H R=>ta σ H fun vs H1=>∃ l,vs=[.ref l] /\ (∃ xs,SqL K H1 l xs) /\ R (Ite K l) H1
theorem pi_enum {X:Cx} {x:Str} {px p pos:Pos} {a:Expr} {as:List Expr} {ta:TA} (hg:Gl X "enumerate") (hm:X.mg "enumerate"=none) (ha:PA X (a :: as) ta) (hs:starEach (a :: as) X.env=(false,eval a X.env) :: starEach as X.env) (hpl:(backTo pos (starEach as X.env)).any (·.1)=false) :
 PI X (.Name x px) (.Call (.Name "enumerate" p) (a :: as) [] pos) (iEnm X.K ta):=by
 intro pins s σ H R I h
 refine Call_ (ld_blt I hg hm boot_enumerate (PyProof.Rows.callWith_type1 (thn (ha pos pins s σ H _ I h) fun us s1 ⟨vs,H1,I1,r1,q1⟩=>?_) hs hpl))
 obtain ⟨l,rfl,⟨xs,hx⟩,q⟩:=q1
 obtain ⟨u1,rfl,e1⟩:=vals1 r1
 cases e1
 obtain ⟨its1,r1,p1,_⟩:=I1.list hx
 refine call_enumerate_list p1.isList fun h₂ he hi _ hk=>?_
 refine wpAny_pyIter_enum (s:={ s1 with heap:=h₂ }) he ⟨_,_,_,_,H1,rfl,I1.kept (t':=s1.toks) hk,turn_enum (Nat.succ_ne_self _),⟨⟨.none,false,.none,.inl rfl,he⟩,hi⟩,fun b hb=>?_,q⟩
 have hb':s1.heap.objs.size<=b:=by
  simp only [List.mem_cons,List.not_mem_nil,or_false] at hb
  rcases hb with rfl | rfl <;> lia
 exact I1.fpOk hb' (I1.hok.fresh hb')
end Z
namespace Z
open PySem PySem.Spec PyProof.Rows L2
structure Ck where
 N:List Str
 names:List (Str × NameKind)
 fns:List (Str × Nat)
 cns:List Str
 cls:List Str:=[]
 rz:Bool:=false
 rs:Bool:=false
 al:Bool:=true
noncomputable def Ck.loc (k:Ck) (i:Nat) (x:Str):Bool :=
 decide (k.N[i]?=some x) && (decide (k.names.lookup x=some .local) || decide (k.names.lookup x=some .cell)) && !(x == ("__debug__":Str)) && !(x == ("__classdict__":Str))
noncomputable def Ck.gl (k:Ck) (x:Str):Bool:=decide (k.names.lookup x=some .globalImplicit) && !(x == ("__debug__":Str)) && decide (x ≠ ("__name__":Str))
noncomputable def opOk:BOp->Operator->Bool
 | .add,.Add=>true
 | .sub,.Sub=>true
 | .mul,.Mult=>true
 | .fdiv,.FloorDiv=>true
 | .mod,.Mod=>true
 | .shl,.LShift=>true
 | .shr,.RShift=>true
 | .band,.BitAnd=>true
 | .pow,.Pow=>true
 | _,_=>false
noncomputable def isNoneC:Expr->Bool
 | .Constant .none _ _=>true
 | _=>false
noncomputable def isTrueC:Expr->Bool
 | .Constant (.bool _) _ _=>true
 | _=>false
noncomputable def cOk:COp->CmpOp->Expr->Bool
 | .eq,.Eq,_=>true
 | .ne,.NotEq,_=>true
 | .lt,.Lt,_=>true
 | .le,.LtE,_=>true
 | .gt,.Gt,_=>true
 | .ge,.GtE,_=>true
 | .isN,.Is,e=>isNoneC e
 | .notN,.IsNot,e=>isNoneC e
 | .isT,.Is,e=>isTrueC e
 | .notT,.IsNot,e=>isTrueC e
 | _,_,_=>false
noncomputable def constOk:D->Const->Bool
 | .non,.none=>true
 | .bl b,.bool c=>b == c
 | .int i,.int j=>decide (i=j)
 | .str x,.str y=>decide (x=y) && PyData.strOk x
 | _,_=>false
noncomputable def Bi.nm:Bi->Str
 | .abs=>"abs"
 | .max=>"max"
 | .min=>"min"
 | .len=>"len"
 | .int=>"int"
 | .list=>"list"
 | .sum=>"sum"
 | .all=>"all"
 | .any=>"any"
 | .tuple=>"tuple"
 | .str=>"str"
noncomputable def Ty.nm:Ty->Str
 | .int=>"int"
 | .bool=>"bool"
 | .tuple=>"tuple"
 | .list=>"list"
 | .str=>"str"
noncomputable def Mt.nm:Mt->Str
 | .bitlen=>"bit_length"
noncomputable def plainO:Expr->Bool
 | .Call (.Name _ _) [] [] _=>false
 | _=>true
noncomputable def isSlice:Expr->Bool
 | .Slice ..=>true
 | _=>false
noncomputable def asName:Expr->Option Str
 | .Name x _=>some x
 | _=>none
noncomputable def asConst:Expr->Option Const
 | .Constant c _ _=>some c
 | _=>none
noncomputable def asBin:Expr->Option (Expr × Operator × Expr)
 | .BinOp l o r _=>some (l,o,r)
 | _=>none
noncomputable def asUn:Expr->Option (UnaryOp × Expr)
 | .UnaryOp o e _=>some (o,e)
 | _=>none
noncomputable def asCmp:Expr->Option (Expr × List CmpOp × List Expr)
 | .Compare l o r _=>some (l,o,r)
 | _=>none
noncomputable def asBool:Expr->Option (BoolOp × List Expr × Pos)
 | .BoolOp o vs p=>some (o,vs,p)
 | _=>none
noncomputable def asIf:Expr->Option (Expr × Expr × Expr)
 | .IfExp t x y _=>some (t,x,y)
 | _=>none
noncomputable def asTup:Expr->Option (List Expr)
 | .Tuple xs _ _=>some xs
 | _=>none
noncomputable def asLst:Expr->Option (List Expr)
 | .List xs _=>some xs
 | _=>none
noncomputable def asSub:Expr->Option (Expr × Expr)
 | .Subscript v i _=>some (v,i)
 | _=>none
noncomputable def asCall:Expr->Option (Expr × List Expr × List Keyword × Pos)
 | .Call f xs ks p=>some (f,xs,ks,p)
 | _=>none
noncomputable def asAttr:Expr->Option (Expr × Str × Pos)
 | .Attribute v x p=>some (v,x,p)
 | _=>none
theorem asName_ {e:Expr} {x:Str} (h:asName e=some x):∃ p,e=.Name x p:=by cases e <;> cases h;exact ⟨_,rfl⟩
theorem asConst_ {e:Expr} {x:Const} (h:asConst e=some x):∃ j p,e=.Constant x j p:=by cases e <;> cases h;exact ⟨_,_,rfl⟩
theorem asBin_ {e l r:Expr} {o:Operator} (h:asBin e=some (l,o,r)):∃ p,e=.BinOp l o r p:=by cases e <;> cases h;exact ⟨_,rfl⟩
theorem asUn_ {e l:Expr} {o:UnaryOp} (h:asUn e=some (o,l)):∃ p,e=.UnaryOp o l p:=by cases e <;> cases h;exact ⟨_,rfl⟩
theorem asCmp_ {e l:Expr} {o:List CmpOp} {r:List Expr} (h:asCmp e=some (l,o,r)):∃ p,e=.Compare l o r p:=by cases e <;> cases h;exact ⟨_,rfl⟩
theorem asBool_ {e:Expr} {o:BoolOp} {r:List Expr} {p:Pos} (h:asBool e=some (o,r,p)):e=.BoolOp o r p:=by cases e <;> cases h;rfl
theorem asIf_ {e t x y:Expr} (h:asIf e=some (t,x,y)):∃ p,e=.IfExp t x y p:=by cases e <;> cases h;exact ⟨_,rfl⟩
theorem asTup_ {e:Expr} {xs:List Expr} (h:asTup e=some xs):∃ j p,e=.Tuple xs j p:=by cases e <;> cases h;exact ⟨_,_,rfl⟩
theorem asLst_ {e:Expr} {xs:List Expr} (h:asLst e=some xs):∃ p,e=.List xs p:=by cases e <;> cases h;exact ⟨_,rfl⟩
theorem asSub_ {e v i:Expr} (h:asSub e=some (v,i)):∃ p,e=.Subscript v i p:=by cases e <;> cases h;exact ⟨_,rfl⟩
theorem asCall_ {e f:Expr} {xs:List Expr} {ks:List Keyword} {p:Pos} (h:asCall e=some (f,xs,ks,p)):e=.Call f xs ks p:=by cases e <;> cases h;rfl
theorem asAttr_ {e v:Expr} {x:Str} {p:Pos} (h:asAttr e=some (v,x,p)):e=.Attribute v x p:=by cases e <;> cases h;rfl
noncomputable def asCallN (e:Expr):Option (Str × List Expr × Pos):=(asCall e).bind fun c=>if c.2.2.1.isEmpty then (asName c.1).map fun x=>(x,c.2.1,c.2.2.2) else none
theorem asCallN_ {e:Expr} {x:Str} {xs:List Expr} {p:Pos} (h:asCallN e=some (x,xs,p)):∃ q,e=.Call (.Name x q) xs [] p:=by
 unfold asCallN at h
 cases c:asCall e with
 | none=>rw [c] at h;cases h
 | some c' =>
   obtain ⟨f,ys,ks,p'⟩:=c'
   rw [c] at h
   have e1:=asCall_ c
   cases ks with
   | nil =>
     cases n:asName f with
     | none=>simp [n] at h
     | some y =>
       simp [n] at h
       obtain ⟨q,e2⟩:=asName_ n
       obtain ⟨rfl,rfl,rfl⟩:=h
       exact ⟨q,by rw [e1,e2]⟩
   | cons _ _=>simp at h
noncomputable def isSet:Expr->Bool
 | .Set ..=>true
 | _=>false
noncomputable def asLC:Expr->Option (Expr × List Comprehension × Scope)
 | .ListComp a b c _=>some (a,b,c)
 | _=>none
theorem asLC_ {e a:Expr} {b:List Comprehension} {c:Scope} (h:asLC e=some (a,b,c)):∃ p,e=.ListComp a b c p:=by cases e <;> cases h;exact ⟨_,rfl⟩
noncomputable def asComp (e:Expr):Option (Expr × Str × Expr × Scope):=(asLC e).bind fun z=>match z.2.1 with
 | [g]=>if g.ifs.isEmpty && decide (g.is_async=0) then (asName g.target).map fun x=>(z.1,x,g.iter,z.2.2) else none
 | _=>none
theorem asComp_ {e a:Expr} {x:Str} {i:Expr} {c:Scope} (h:asComp e=some (a,x,i,c)):∃ px p,e=.ListComp a [⟨.Name x px,i,[],0⟩] c p:=by
 unfold asComp at h
 cases z:asLC e with
 | none=>rw [z] at h;cases h
 | some y =>
   obtain ⟨a',b,c'⟩:=y
   obtain ⟨p,rfl⟩:=asLC_ z
   rw [z] at h
   simp only [Option.bind_some] at h
   split at h
   ·next g =>
    obtain ⟨tg,it,ifs,asy⟩:=g
    simp only at h
    split at h
    ·next hc =>
     simp only [Bool.and_eq_true,List.isEmpty_iff,decide_eq_true_eq] at hc
     obtain ⟨rfl,rfl⟩:=hc
     cases n:asName tg with
     | none=>rw [n] at h;cases h
     | some y =>
       rw [n] at h
       obtain ⟨px,rfl⟩:=asName_ n
       cases h
       exact ⟨px,p,rfl⟩
    ·cases h
   ·cases h
noncomputable def relab (names out:List (Str × NameKind)):List (Str × NameKind):=names.map fun (n,k)=>if (k == .free && out.lookup n == some .cell) then (n,.cell) else (n,k)
noncomputable def Ck.block (k:Ck) (x:Str) (sc:Scope):Ck:={ k with N:=blockN k.N x,names:=relab sc.names k.names }
noncomputable def compCk (k:Ck) (x:Str) (sc:Scope):Bool :=
 (sc.kind == .function) && decide ((sc.names.filter fun y=>y.2 == .cell)=if sc.names.lookup x=some .cell then [(x,.cell)] else []) && (sc.names.all fun y=>!(y.2 == .local) || decide (sc.names.lookup y.1=some .local)) && (decide (sc.names.lookup x=some .local) || decide (sc.names.lookup x=some .cell)) &&
  (sc.names.all fun y=>!(y.2 == .local) || decide (y.1=x) || (!(k.N.contains y.1) && decide (y.1 ≠ (dum k.N)))) && (sc.names.all fun y=>!(y.2 == .free) || decide (k.names.lookup y.1=some .cell) || decide (k.names.lookup y.1=some .free)) &&
  decide (x ≠ (dum k.N)) && decide (k.names.lookup (dum k.N)=none) && !(k.N.contains (dum k.N))
noncomputable def plainE:Expr->Bool
 | .Starred .. | .Set .. | .SetComp .. | .DictComp .. | .Slice ..=>false
 | _=>true
noncomputable def asSlice:Expr->Option (Option Expr × Option Expr)
 | .Slice lo hi none _=>some (lo,hi)
 | _=>none
theorem asSlice_ {e:Expr} {lo hi:Option Expr} (h:asSlice e=some (lo,hi)):∃ p,e=.Slice lo hi none p:=by
 unfold asSlice at h
 split at h
 ·cases h;exact ⟨_,rfl⟩
 ·cases h
noncomputable def fmtV:Expr->Option Expr
 | .FormattedValue v (-1) none _=>some v
 | _=>none
theorem fmtV_ {e v:Expr} (h:fmtV e=some v):∃ p,e=.FormattedValue v (-1) none p:=by
 unfold fmtV at h
 split at h
 ·cases h;exact ⟨_,rfl⟩
 ·cases h
noncomputable def cstPart:Ex->Expr->Bool
 | .cst (.str z),.Constant (.str y) _ _=>decide (z=y)
 | _,_=>false
theorem cstPart_ {x:Ex} {e:Expr} (h:cstPart x e=true):∃ z j p,x=.cst (.str z) /\ e=.Constant (.str z) j p:=by
 unfold cstPart at h
 split at h
 ·cases of_decide_eq_true h;exact ⟨_,_,_,rfl,rfl⟩
 ·cases h
mutual
noncomputable def chkE:Ck->Ex->Expr->Bool
 | k,.var i,e=>(asName e).any fun x=>k.loc i x
 | k,.cst d,e=>(asConst e).any fun c=>constOk d c
 | k,.con i,e=>(asName e).any fun x=>decide (k.cns[i]?=some x) && k.gl x
 | k,.bin o a b,e=>(asBin e).any fun z=>opOk o z.2.1 && chkE k a z.1 && chkE k b z.2.2
 | k,.neg a,e=>(asUn e).any fun z=>decide (z.1=.USub) && chkE k a z.2
 | k,.not a,e=>(asUn e).any fun z=>decide (z.1=.Not) && chkE k a z.2
 | k,.cmp o a b,e=>(asCmp e).any fun z=>decide (z.2.1.length=1) && decide (z.2.2.length=1) && cOk o (z.2.1.getD 0 .Eq) (z.2.2.getD 0 e) && chkE k a z.1 && chkE k b (z.2.2.getD 0 e)
 | k,.chain o p a b c,e=>(asCmp e).any fun z=>decide (z.2.1.length=2) && decide (z.2.2.length=2) && cOk o (z.2.1.getD 0 .Eq) (z.2.2.getD 0 e) && cOk p (z.2.1.getD 1 .Eq) (z.2.2.getD 1 e) && chkE k a z.1 && chkE k b (z.2.2.getD 0 e) && chkE k c (z.2.2.getD 1 e)
 | k,.and a b,e=>(asBool e).any fun z=>decide (z.1=.And) && decide (2<=z.2.1.length) && chkE k a (z.2.1.getD 0 e) && (if z.2.1.length=2 then chkE k b (z.2.1.getD 1 e) else chkE k b (.BoolOp .And (z.2.1.drop 1) z.2.2))
 | k,.or a b,e=>(asBool e).any fun z=>decide (z.1=.Or) && decide (2<=z.2.1.length) && chkE k a (z.2.1.getD 0 e) && (if z.2.1.length=2 then chkE k b (z.2.1.getD 1 e) else chkE k b (.BoolOp .Or (z.2.1.drop 1) z.2.2))
 | k,.ife c a b,e=>(asIf e).any fun z=>chkE k c z.1 && chkE k a z.2.1 && chkE k b z.2.2
 | k,.tup es,e=>(asTup e).any fun xs=>decide (xs.length<=1000) && chkEs k es xs
 | k,.lst es,e=>(asLst e).any fun xs=>decide (xs.length<=1000) && chkEs k es xs
 | k,.ix a b,e=>(asSub e).any fun z=>!isSlice z.2 && chkE k a z.1 && chkE k b z.2
 | k,.call f es,e=>(asCallN e).any fun z=>decide (k.fns[f]?=some (z.1,z.2.1.length)) && k.gl z.1 && !z.2.1.isEmpty && chkEs k es z.2.1
 | k,.bi f es,e=>(asCallN e).any fun z=>decide (z.1=f.nm) && k.gl z.1 && !z.2.1.isEmpty && chkEs k es z.2.1
 | k,.meth m o,e=>(asCall e).any fun z=>z.2.1.isEmpty && z.2.2.1.isEmpty && (asAttr z.1).any fun y=>decide (y.2.1=m.nm) && plainO y.1 && (y.2.2.endLine == z.2.2.2.line) && chkE k o y.1
 | k,.isi a t,e=>(asCallN e).any fun z=>decide (z.1=("isinstance":Str)) && k.gl z.1 && decide (z.2.1.length=2) && decide (asName (z.2.1.getD 1 e)=some t.nm) && k.gl t.nm && chkE k a (z.2.1.getD 0 e)
 | k,.compR es b,e=>(asComp e).any fun z=>compCk k z.2.1 z.2.2.2 && ((asCallN z.2.2.1).any fun c=>decide (c.1=("range":Str)) && k.gl c.1 && !c.2.1.isEmpty && chkEs k es c.2.1) && chkE (k.block z.2.1 z.2.2.2) b z.1
 | k,.compE a b,e=>(asComp e).any fun z=>compCk k z.2.1 z.2.2.2 && !isSet z.2.2.1 && chkE k a z.2.2.1 && chkE (k.block z.2.1 z.2.2.2) b z.1
 | k,.slc a l h,e=>(asSub e).any fun z=>(asSlice z.2).any fun y=>chkE k a z.1 && (y.1.isNone == isNon l) && (y.2.isNone == isNon h) && (isNon l || chkE k l (y.1.getD e)) && (isNon h || chkE k h (y.2.getD e))
 | k,.oix i a,e=>(asSub e).any fun z=>!isSlice z.2 && ((asName z.1).any fun x=>k.loc i x) && chkE k a z.2
 | k,.obs _ a,e=>plainE e && !(asLC e).isSome && chkE k a e
 | k,.obsL _ a,e=>(asCallN e).any fun _=>chkE k a e
 | k,.obsT _ a,e=>plainE e && !(asLC e).isSome && chkE k a e
noncomputable def chkFs:Ck->List Ex->List Expr->Bool
 | _,[],es=>es.isEmpty
 | k,e :: es,xs=>(((fmtV (xs.getD 0 (.Name "" ⟨0,0,0,0⟩))).any fun y=>chkE k e y) || cstPart e (xs.getD 0 (.Name "" ⟨0,0,0,0⟩))) && chkFs k es (xs.drop 1)
noncomputable def chkEs:Ck->List Ex->List Expr->Bool
 | _,[],es=>es.isEmpty
 | k,e :: es,xs=>!xs.isEmpty && chkE k e (xs.getD 0 (.Name "" ⟨0,0,0,0⟩)) && chkEs k es (xs.drop 1)
end
theorem opt_any {α:Type} {o:Option α} {f:α->Bool} (h:o.any f=true):∃ a,o=some a /\ f a=true:=by
 cases o with
 | none=>cases h
 | some a=>exact ⟨a,rfl,h⟩
theorem chkEs_nil {k:Ck} {es:List Expr} (h:chkEs k [] es=true):es=[]:=by
 rw [chkEs] at h
 simpa using h
theorem chkEs_cons {k:Ck} {x:Ex} {xs:List Ex} {es:List Expr} (h:chkEs k (x :: xs) es=true):∃ y ys,es=y :: ys /\ chkE k x y=true /\ chkEs k xs ys=true:=by
 rw [chkEs] at h
 cases es with
 | nil=>simp at h
 | cons y ys =>
   simp only [Bool.and_eq_true,List.drop_succ_cons,List.drop_zero] at h
   exact ⟨y,ys,rfl,h.1.2,h.2⟩
theorem chk_plain {k:Ck} {x:Ex} {e:Expr} (h:chkE k x e=true):plainE e=true:=by
 cases x with
 | obs i a =>
   rw [chkE] at h
   simp only [Bool.and_eq_true] at h
   exact h.1.1
 | obsT i a =>
   rw [chkE] at h
   simp only [Bool.and_eq_true] at h
   exact h.1.1
 | _ =>
  rw [chkE] at h
  obtain ⟨z,hz,_⟩:=opt_any h
  first
   | (obtain ⟨_,rfl⟩:=asName_ hz;rfl)
   | (obtain ⟨_,_,rfl⟩:=asConst_ hz;rfl)
   | (obtain ⟨_,rfl⟩:=asBin_ hz;rfl)
   | (obtain ⟨_,rfl⟩:=asUn_ hz;rfl)
   | (obtain ⟨_,rfl⟩:=asCmp_ hz;rfl)
   | (have e:=asBool_ hz;subst e;rfl)
   | (obtain ⟨_,rfl⟩:=asIf_ hz;rfl)
   | (obtain ⟨_,_,rfl⟩:=asTup_ hz;rfl)
   | (obtain ⟨_,rfl⟩:=asLst_ hz;rfl)
   | (obtain ⟨_,rfl⟩:=asSub_ hz;rfl)
   | (obtain ⟨_,rfl⟩:=asCallN_ hz;rfl)
   | (have e:=asCall_ hz;subst e;rfl)
   | (obtain ⟨_,rfl⟩:=asJoin_ hz;rfl)
   | (obtain ⟨_,_,_,rfl⟩:=asComp_ hz;rfl)
   | (obtain ⟨_,_,rfl⟩:=asCompF_ hz;rfl)
   | (obtain ⟨_,_,rfl⟩:=asComp_ hz;rfl)
def Rws (K:PySem.W.Frag) (O:List Addr) (H:Hp):List (List D)->List Addr->Prop
 | [],as=>as=[]
 | r :: rs,as=>∃ b bs vs,as=b :: bs /\ H b=some (.lst vs) /\ Iss K (minus H O) r vs /\ Rws K O H rs bs
theorem Rws.imp {K:PySem.W.Frag} {O O':List Addr} {H H':Hp} (s:Same (minus H O) (minus H' O')):∀ {rows:List (List D)} {as:List Addr},(∀ b ∈ as,∀ vs,H b=some (.lst vs)->H' b=some (.lst vs))->Rws K O H rows as->Rws K O' H' rows as
 | [],as,_,h=>h
 | r :: rs,as,k,h=>by
   obtain ⟨b,bs,vs,rfl,h1,h2,h3⟩:=h
   exact ⟨b,bs,vs,rfl,k b (List.mem_cons_self ..) vs h1,Iss.mono s r h2,Rws.imp s (fun c hc=>k c (List.mem_cons_of_mem _ hc)) h3⟩
theorem Rws.len {K:PySem.W.Frag} {O:List Addr} {H:Hp}:∀ {rows:List (List D)} {as:List Addr},Rws K O H rows as->as.length=rows.length
 | [],as,h=>by cases h;rfl
 | r :: rs,as,h=>by
   obtain ⟨b,bs,vs,rfl,_,_,h3⟩:=h
   simp [Rws.len h3]
theorem Rws.isL {K:PySem.W.Frag} {O:List Addr} {H:Hp}:∀ {rows:List (List D)} {as:List Addr},Rws K O H rows as->∀ b ∈ as,∃ vs,H b=some (.lst vs)
 | [],as,h,b,hb=>by cases h;cases hb
 | r :: rs,as,h,b,hb=>by
   obtain ⟨c,bs,vs,rfl,h1,_,h3⟩:=h
   rcases List.mem_cons.mp hb with rfl | hb
   ·exact ⟨vs,h1⟩
   ·exact Rws.isL h3 b hb
structure OwT (K:PySem.W.Frag) (O:List Addr) (H:Hp) (rows:List (List D)) (a:Addr) (as:List Addr):Prop where
 top:H a=some (.lst (as.map .ref))
 nd:a ∉ as /\ as.Nodup
 inO:a ∈ O /\ ∀ b ∈ as,b ∈ O
 rw:Rws K O H rows as
theorem OwT.mono {K:PySem.W.Frag} {O:List Addr} {H H':Hp} {rows:List (List D)} {a:Addr} {as:List Addr} (e:Same H H') (t:OwT K O H rows a as):OwT K O H' rows a as :=
 ⟨e _ _ t.top,t.nd,t.inO,t.rw.imp (minus_mono e) fun b _ vs h=>e _ _ h⟩
def OT (K:PySem.W.Frag) (O:List Addr) (H:Hp) (σ:Sto) (τ:L2.St):Prop :=
 (∀ i rows,getS σ i=some (.ot rows)->∃ a as,τ[i]?=some (some (.ref a)) /\ OwT K O H rows a as /\ ∀ j ds b,getS σ j=some (.ow ds)->τ[j]?=some (some (.ref b))->b ≠ a /\ b ∉ as) /\ ∀ i j rs qs,getS σ i=some (.ot rs)->getS σ j=some (.ot qs)->i=j
theorem OT.step {K:PySem.W.Frag} {O O':List Addr} {H H':Hp} {σ σ':Sto} {τ τ':L2.St} (h:OT K O H σ τ) (hT:∀ i rows,getS σ' i=some (.ot rows)->getS σ i=some (.ot rows) /\ τ'[i]?=τ[i]?)
 (hO:∀ i rows a as,getS σ i=some (.ot rows)->τ[i]?=some (some (.ref a))->(∀ j ds b,getS σ j=some (.ow ds)->τ[j]?=some (some (.ref b))->b ≠ a /\ b ∉ as)->OwT K O H rows a as->OwT K O' H' rows a as)
 (hW:∀ i rows a as j ds b,getS σ i=some (.ot rows)->OwT K O H rows a as->getS σ' j=some (.ow ds)->τ'[j]?=some (some (.ref b))->(∃ ds',getS σ j=some (.ow ds') /\ τ[j]?=some (some (.ref b))) \/ (b ≠ a /\ b ∉ as)):OT K O' H' σ' τ':=by
 refine ⟨fun i rows g=>?_,fun i j rs qs g1 g2=>h.2 i j rs qs (hT i rs g1).1 (hT j qs g2).1⟩
 obtain ⟨g0,e0⟩:=hT i rows g
 obtain ⟨a,as,e1,t,d⟩:=h.1 i rows g0
 refine ⟨a,as,e0.trans e1,hO i rows a as g0 e1 d t,fun j ds b g1 e2=>?_⟩
 rcases hW i rows a as j ds b g0 t g1 e2 with ⟨ds',g2,e3⟩ | z
 ·exact d j ds' b g2 e3
 ·exact z
structure Reps (K:PySem.W.Frag) (O:List Addr) (H:Hp) (σ:Sto) (τ:L2.St):Prop where
 len:σ.length=τ.length
 own:∀ a ∈ O,H a ≠ none
 sh:∀ i d,getS σ i=some (.sh d)->∃ v,τ[i]?=some (some v) /\ Is K (minus H O) d v
 ow:∀ i ds,getS σ i=some (.ow ds)->∃ a vs,τ[i]?=some (some (.ref a)) /\ a ∈ O /\ H a=some (.lst vs) /\ Iss K (minus H O) ds vs
 dj:∀ i j ds es,i ≠ j->getS σ i=some (.ow ds)->getS σ j=some (.ow es)->τ[i]? ≠ τ[j]?
 tt:OT K O H σ τ
theorem Reps.mono {K:PySem.W.Frag} {O:List Addr} {H H':Hp} {σ:Sto} {τ:L2.St} (r:Reps K O H σ τ) (e:Same H H'):Reps K O H' σ τ where
 len:=r.len
 own:=fun a ha z=>by
  cases q:H a with
  | none=>exact r.own a ha q
  | some o=>rw [e a o q] at z;cases z
 sh:=fun i d h=>by
  obtain ⟨v,h1,h2⟩:=r.sh i d h
  exact ⟨v,h1,Is.mono (minus_mono e) d h2⟩
 ow:=fun i ds h=>by
  obtain ⟨a,vs,h1,h2,h3,h4⟩:=r.ow i ds h
  exact ⟨a,vs,h1,h2,e _ _ h3,Iss.mono (minus_mono e) ds h4⟩
 dj:=r.dj
 tt:=r.tt.step (fun _ _ g=>⟨g,rfl⟩) (fun _ _ _ _ _ _ _ t=>t.mono e) fun _ _ _ _ j ds b _ _ g q=>.inl ⟨ds,g,q⟩
theorem getS_set':∀ (σ:Sto) (i j:Nat) (v:Option Sl),getS (setS σ i v) j=if i=j /\ i < σ.length then v else getS σ j
 | [],i,j,v=>by simp [setS,getS]
 | x :: r,0,0,v=>by simp [setS,getS]
 | x :: r,0,j + 1,v=>by simp [setS,getS]
 | x :: r,i + 1,0,v=>by simp [setS,getS]
 | x :: r,i + 1,j + 1,v=>by
   simp only [setS,getS,List.length_cons]
   rw [getS_set' r i j v]
   by_cases h:i=j /\ i < r.length
   ·rw [if_pos h,if_pos (by lia)]
   ·rw [if_neg h,if_neg (by lia)]
theorem setS_len:∀ (σ:Sto) (i:Nat) (v:Option Sl),(setS σ i v).length=σ.length
 | [],i,v=>rfl
 | _ :: _,0,v=>rfl
 | _ :: r,i + 1,v=>by simp [setS,setS_len r i v]
noncomputable def less (O:List Addr) (a:Addr):List Addr:=O.filter fun b=>decide (b ≠ a)
theorem mem_less {O:List Addr} {a b:Addr}:b ∈ less O a ↔ b ∈ O /\ b ≠ a:=by simp [less]
theorem Reps.share {K:PySem.W.Frag} {O:List Addr} {H:Hp} {σ:Sto} {τ:L2.St} (r:Reps K O H σ τ) {i:Nat} {ds:List D} {a:Addr} {vs:List V} (g:getS σ i=some (.ow ds)) (e1:τ[i]?=some (some (.ref a))) (e3:H a=some (.lst vs)) (e4:Iss K (minus H O) ds vs) :
 Reps K (less O a) H (setS σ i (some (.sh (.lst ds)))) τ where
 len:=by rw [setS_len];exact r.len
 own:=fun b hb=>r.own b (mem_less.mp hb).1
 sh:=fun j d h=>by
  have lessS:Same (minus H O) (minus H (less O a)):=minus_less fun b hb=>(mem_less.mp hb).1
  rw [getS_set'] at h
  by_cases hj:i=j /\ i < σ.length
  ·rw [if_pos hj] at h
   obtain ⟨rfl,_⟩:=hj
   cases h
   refine ⟨.ref a,e1,lst_is (SqL.of ?_) (Iss.mono lessS ds e4)⟩
   rw [minus_at fun z=>(mem_less.mp z).2 rfl];exact e3
  ·rw [if_neg hj] at h
   obtain ⟨v,h1,h2⟩:=r.sh j d h
   exact ⟨v,h1,Is.mono lessS d h2⟩
 ow:=fun j es h=>by
  have lessS:Same (minus H O) (minus H (less O a)):=minus_less fun b hb=>(mem_less.mp hb).1
  rw [getS_set'] at h
  by_cases hj:i=j /\ i < σ.length
  ·rw [if_pos hj] at h;cases h
  ·rw [if_neg hj] at h
   obtain ⟨b,ws,h1,h2,h3,h4⟩:=r.ow j es h
   refine ⟨b,ws,h1,mem_less.mpr ⟨h2,fun z=>?_⟩,h3,Iss.mono lessS es h4⟩
   subst z
   have hij:i ≠ j:=fun z=>by
    subst z
    have:i < σ.length:=by
     rcases Nat.lt_or_ge i σ.length with q | q
     ·exact q
     ·rw [r.len] at q;rw [List.getElem?_eq_none q] at e1;cases e1
    exact hj ⟨rfl,this⟩
   exact r.dj i j ds es hij g h (e1.trans h1.symm)
 dj:=fun j l es fs hjl g1 g2=>by
  rw [getS_set'] at g1 g2
  by_cases hj:i=j /\ i < σ.length
  ·rw [if_pos hj] at g1;cases g1
  ·rw [if_neg hj] at g1
   by_cases hl:i=l /\ i < σ.length
   ·rw [if_pos hl] at g2;cases g2
   ·rw [if_neg hl] at g2
    exact r.dj j l es fs hjl g1 g2
 tt:=by
  have old:∀ j z,getS (setS σ i (some (.sh (.lst ds)))) j=some z->(∀ d,z ≠ .sh d)->getS σ j=some z:=fun j z h n=>by
   rw [getS_set'] at h
   by_cases hj:i=j /\ i < σ.length
   ·rw [if_pos hj] at h;cases h;exact absurd rfl (n _)
   ·rw [if_neg hj] at h;exact h
  refine r.tt.step (fun j rows h=>⟨old j _ h (fun _ z=>nomatch z),rfl⟩) (fun j rows b as h q d t=>?_) fun _ _ _ _ j es b _ _ h q=>.inl ⟨es,old j _ h (fun _ z=>nomatch z),q⟩
  obtain ⟨n1,n2⟩:=d i ds a g e1
  refine ⟨t.top,t.nd,⟨mem_less.mpr ⟨t.inO.1,Ne.symm n1⟩,fun c hc=>mem_less.mpr ⟨t.inO.2 c hc,fun z=>n2 (z ▸ hc)⟩⟩,t.rw.imp (minus_less fun b hb=>(mem_less.mp hb).1) fun _ _ _ z=>z⟩
theorem sqt_minus {K:PySem.W.Frag} {O O':List Addr} {H:Hp} {b:Addr} {us:List V} (k:∀ u,minus H O' b=some u->(∀ vs,u ≠ .lst vs)->minus H O b=some u) (h:SqT K (minus H O') b us):SqT K (minus H O) b us:=by
 rcases h with (h | ⟨o,h⟩) | h
 ·exact .inl (.inl (k _ h fun _ z=>nomatch z))
 ·exact .inl (.inr ⟨o,k _ h fun _ z=>nomatch z⟩)
 ·exact .inr h
mutual
theorem nol_is {K:PySem.W.Frag} {O:List Addr} {H:Hp} {a:Addr} {vs:List V} (h:H a=some (.lst vs)):∀ (d:D) {v:V},nol d=true->Is K (minus H (less O a)) d v->Is K (minus H O) d v
 | .non,v,_,i=>by cases is_non i;exact non_is
 | .bl b,v,_,i=>by cases is_bl i;exact bl_is _
 | .int n,v,_,i=>by cases is_int i;exact int_is _
 | .str x,v,_,i=>by obtain ⟨rfl,o⟩:=is_str i;exact str_is o
 | .lst xs,v,n,i=>by simp [nol] at n
 | .tup xs,v,n,i=>by
   obtain ⟨b,us,rfl,h1,h2⟩:=is_tup i
   refine tup_isT (sqt_minus (fun u hu nl=>?_) h1) (nols_is h xs (by simpa [nol] using n) h2)
   have hb:H b=some u:=minus_same _ _ _ _ hu
   rw [minus_at]
   ·exact hb
   ·intro z
    have hne:b ≠ a:=fun q=>by subst q;rw [h] at hb;cases hb;exact nl _ rfl
    have:minus H (less O a) b=none:=by unfold minus;rw [if_pos (mem_less.mpr ⟨z,hne⟩)]
    rw [this] at hu;cases hu
theorem nols_is {K:PySem.W.Frag} {O:List Addr} {H:Hp} {a:Addr} {vs:List V} (h:H a=some (.lst vs)):∀ (ds:List D) {us:List V},nols ds=true->Iss K (minus H (less O a)) ds us->Iss K (minus H O) ds us
 | [],us,_,i=>by unfold Iss at *;exact i
 | d :: ds,us,n,i=>by
   simp only [nols,Bool.and_eq_true] at n
   unfold Iss at *
   obtain ⟨v,r,e,i1,i2⟩:=i
   exact ⟨v,r,e,nol_is h d n.1 i1,nols_is h ds n.2 i2⟩
end
def flD (d:D):V->Prop
 | .non=>d=.non
 | .bl b=>d=.bl b
 | .int i=>d=.int i
 | .str x=>d=.str x
 | .ref _=>(∃ xs,d=.tup xs) \/ ∃ xs,d=.lst xs
 | _=>False
theorem Is.fl {K:PySem.W.Frag} {S:Hp} {d:D} {v:V} (g:Is K S d v):flD d v:=by
 cases d with
 | non=>cases is_non g;rfl
 | bl b=>cases is_bl g;rfl
 | int i=>cases is_int g;rfl
 | str x=>obtain ⟨rfl,_⟩:=is_str g;rfl
 | tup xs=>obtain ⟨a,vs,rfl,_⟩:=is_tup g;exact .inl ⟨xs,rfl⟩
 | lst xs=>obtain ⟨a,vs,rfl,_⟩:=is_lst g;exact .inr ⟨xs,rfl⟩
mutual
theorem Is.inj {pins:List (Addr × Obj)} {s:Shared} {τ:L2.St} {H:Hp} (I:Inv X pins τ H s):∀ (d:D) {e:D} {v:V},Is X.K H d v->Is X.K H e v->d=e
 | .non,e,v,h,g=>by cases is_non h;exact (show e=.non from g.fl).symm
 | .bl b,e,v,h,g=>by cases is_bl h;exact (show e=.bl b from g.fl).symm
 | .int b,e,v,h,g=>by cases is_int h;exact (show e=.int b from g.fl).symm
 | .str b,e,v,h,g=>by obtain ⟨rfl,_⟩:=is_str h;exact (show e=.str b from g.fl).symm
 | .tup xs,e,v,h,g=>by
   obtain ⟨a,vs,rfl,h1,h2⟩:=is_tup h
   cases e with
   | tup ys =>
     obtain ⟨b,us,eb,g1,g2⟩:=is_tup g
     cases eb
     cases I.tuple_inj h1 g1
     rw [Iss.inj I xs h2 g2]
   | lst ys =>
     obtain ⟨b,us,eb,g1,g2⟩:=is_lst g
     cases eb
     obtain ⟨_,_,⟨o,e1,e2,_⟩,_⟩:=I.tuple h1
     obtain ⟨_,_,p,_⟩:=I.list g1
     obtain ⟨o',f1,f2,_⟩:=p.isList
     rw [e1] at f1;cases f1
     rw [e2] at f2
     injection f2 with f2
     exact absurd f2 (by decide)
   | _=>rcases g.fl with ⟨_,z⟩ | ⟨_,z⟩ <;> cases z
 | .lst xs,e,v,h,g=>by
   obtain ⟨a,vs,rfl,h1,h2⟩:=is_lst h
   cases e with
   | lst ys =>
     obtain ⟨b,us,eb,g1,g2⟩:=is_lst g
     cases eb
     cases I.list_inj h1 g1
     rw [Iss.inj I xs h2 g2]
   | tup ys =>
     obtain ⟨b,us,eb,g1,g2⟩:=is_tup g
     cases eb
     obtain ⟨_,_,⟨o,e1,e2,_⟩,_⟩:=I.tuple g1
     obtain ⟨_,_,p,_⟩:=I.list h1
     obtain ⟨o',f1,f2,_⟩:=p.isList
     rw [e1] at f1;cases f1
     rw [e2] at f2
     injection f2 with f2
     exact absurd f2 (by decide)
   | _=>rcases g.fl with ⟨_,z⟩ | ⟨_,z⟩ <;> cases z
theorem Iss.inj {pins:List (Addr × Obj)} {s:Shared} {τ:L2.St} {H:Hp} (I:Inv X pins τ H s):∀ (ds:List D) {es:List D} {vs:List V},Iss X.K H ds vs->Iss X.K H es vs->ds=es
 | [],es,vs,h,g=>by
   unfold Iss at h;subst h
   cases es with
   | nil=>rfl
   | cons _ _=>unfold Iss at g;obtain ⟨_,_,g,_⟩:=g;cases g
 | d :: ds,es,vs,h,g=>by
   unfold Iss at h
   obtain ⟨v,r,rfl,h1,h2⟩:=h
   cases es with
   | nil=>unfold Iss at g;cases g
   | cons e es =>
     unfold Iss at g
     obtain ⟨v',r',eq,g1,g2⟩:=g
     cases eq
     rw [Is.inj I d h1 g1,Iss.inj I ds h2 g2]
end
mutual
theorem apt_is {pins:List (Addr × Obj)} {s:Shared} {τ:L2.St} {H:Hp} (I:Inv X pins τ H s) {O:List Addr} {a:Addr} {vs:List V} {ds:List D} (h:H a=some (.lst vs)) (hd:Iss X.K H ds vs):∀ (d:D) {v:V},apt ds d->Is X.K (minus H (less O a)) d v->Is X.K (minus H O) d v
 | .non,v,_,i=>by cases is_non i;exact non_is
 | .bl b,v,_,i=>by cases is_bl i;exact bl_is _
 | .int n,v,_,i=>by cases is_int i;exact int_is _
 | .str x,v,_,i=>by obtain ⟨rfl,o⟩:=is_str i;exact str_is o
 | .lst xs,v,n,i=>by
   obtain ⟨b,us,rfl,h1,h2⟩:=is_lst i
   unfold apt at n
   by_cases hb:b=a
   ·subst hb
    have l1:=(minus_same H (less O b)).seq h1
    cases I.list_inj l1 (SqL.of h)
    exact absurd (Iss.inj I xs (Iss.mono (minus_same H (less O b)) xs h2) hd) n.1
   ·refine lst_is ?_ (apts_is I h hd xs n.2 h2)
    have e:minus H (less O a) b=minus H O b:=by
     unfold minus
     by_cases z:b ∈ O
     ·rw [if_pos z,if_pos (mem_less.mpr ⟨z,hb⟩)]
     ·rw [if_neg z,if_neg fun q=>z (mem_less.mp q).1]
    rcases h1 with (h1 | ⟨o,h1⟩) | h1
    ·rw [e] at h1;exact .inl (.inl h1)
    ·rw [e] at h1;exact .inl (.inr ⟨o,h1⟩)
    ·exact .inr h1
 | .tup xs,v,n,i=>by
   obtain ⟨b,us,rfl,h1,h2⟩:=is_tup i
   unfold apt at n
   refine tup_isT (sqt_minus (fun u hu nl=>?_) h1) (apts_is I h hd xs n h2)
   have hb:H b=some u:=minus_same _ _ _ _ hu
   rw [minus_at]
   ·exact hb
   ·intro z
    have hne:b ≠ a:=fun q=>by subst q;rw [h] at hb;cases hb;exact nl _ rfl
    have:minus H (less O a) b=none:=by unfold minus;rw [if_pos (mem_less.mpr ⟨z,hne⟩)]
    rw [this] at hu;cases hu
theorem apts_is {pins:List (Addr × Obj)} {s:Shared} {τ:L2.St} {H:Hp} (I:Inv X pins τ H s) {O:List Addr} {a:Addr} {vs:List V} {es:List D} (h:H a=some (.lst vs)) (hd:Iss X.K H es vs):∀ (ds:List D) {us:List V},apts es ds->Iss X.K (minus H (less O a)) ds us->Iss X.K (minus H O) ds us
 | [],us,_,i=>by unfold Iss at i ⊢;exact i
 | d :: ds,us,n,i=>by
   unfold apts at n
   unfold Iss at i ⊢
   obtain ⟨v,r,e,i1,i2⟩:=i
   exact ⟨v,r,e,apt_is I h hd d n.1 i1,apts_is I h hd ds n.2 i2⟩
end
noncomputable def lessT (O as:List Addr):List Addr:=O.filter fun b=>decide (b ∉ as)
theorem mem_lessT {O as:List Addr} {b:Addr}:b ∈ lessT O as ↔ b ∈ O /\ b ∉ as:=by simp [lessT]
mutual
theorem nol_isG {K:PySem.W.Frag} {O O':List Addr} {H:Hp} (h:∀ b ∈ O,b ∉ O'->∃ vs,H b=some (.lst vs)):∀ (d:D) {v:V},nol d=true->Is K (minus H O') d v->Is K (minus H O) d v
 | .non,v,_,i=>by cases is_non i;exact non_is
 | .bl b,v,_,i=>by cases is_bl i;exact bl_is _
 | .int n,v,_,i=>by cases is_int i;exact int_is _
 | .str x,v,_,i=>by obtain ⟨rfl,o⟩:=is_str i;exact str_is o
 | .lst xs,v,n,i=>by simp [nol] at n
 | .tup xs,v,n,i=>by
   obtain ⟨b,us,rfl,h1,h2⟩:=is_tup i
   refine tup_isT (sqt_minus (fun u hu nl=>?_) h1) (nols_isG h xs (by simpa [nol] using n) h2)
   have hb:H b=some u:=minus_same _ _ _ _ hu
   rw [minus_at]
   ·exact hb
   ·intro z
    by_cases q:b ∈ O'
    ·have:minus H O' b=none:=by unfold minus;rw [if_pos q]
     rw [this] at hu;cases hu
    ·obtain ⟨vs,e⟩:=h b z q
     rw [e] at hb;cases hb;exact nl _ rfl
theorem nols_isG {K:PySem.W.Frag} {O O':List Addr} {H:Hp} (h:∀ b ∈ O,b ∉ O'->∃ vs,H b=some (.lst vs)):∀ (ds:List D) {us:List V},nols ds=true->Iss K (minus H O') ds us->Iss K (minus H O) ds us
 | [],us,_,i=>by unfold Iss at *;exact i
 | d :: ds,us,n,i=>by
   simp only [nols,Bool.and_eq_true] at n
   unfold Iss at *
   obtain ⟨v,r,e,i1,i2⟩:=i
   exact ⟨v,r,e,nol_isG h d n.1 i1,nols_isG h ds n.2 i2⟩
end
theorem Rws.iss {K:PySem.W.Frag} {O O':List Addr} {H:Hp} (s:Same (minus H O) (minus H O')):∀ {rows:List (List D)} {as:List Addr},(∀ b ∈ as,b ∉ O')->Rws K O H rows as->Iss K (minus H O') (rows.map .lst) (as.map .ref)
 | [],as,_,h=>by cases h;simp only [List.map_nil];unfold Iss;rfl
 | r :: rs,as,n,h=>by
   obtain ⟨b,bs,vs,rfl,h1,h2,h3⟩:=h
   simp only [List.map_cons]
   unfold Iss
   refine ⟨_,_,rfl,lst_is (SqL.of ?_) (Iss.mono s r h2),Rws.iss s (fun c hc=>n c (List.mem_cons_of_mem _ hc)) h3⟩
   rw [minus_at (n b (List.mem_cons_self ..))];exact h1
theorem OwT.is {K:PySem.W.Frag} {O:List Addr} {H:Hp} {rows:List (List D)} {a:Addr} {as:List Addr} (t:OwT K O H rows a as):Is K (minus H (lessT O (a :: as))) (rowsD rows) (.ref a):=by
 refine lst_is (SqL.of ?_) (t.rw.iss (minus_less fun b hb=>(mem_lessT.mp hb).1) fun b hb z=>(mem_lessT.mp z).2 (List.mem_cons_of_mem _ hb))
 rw [minus_at fun z=>(mem_lessT.mp z).2 (List.mem_cons_self ..)]
 exact t.top
theorem OwT.isL {K:PySem.W.Frag} {O:List Addr} {H:Hp} {rows:List (List D)} {a:Addr} {as:List Addr} (t:OwT K O H rows a as):∀ b ∈ O,b ∉ lessT O (a :: as)->∃ vs,H b=some (.lst vs):=fun b hb n=>by
 have:b ∈ a :: as:=by
  by_cases z:b ∈ a :: as
  ·exact z
  ·exact absurd (mem_lessT.mpr ⟨hb,z⟩) n
 rcases List.mem_cons.mp this with rfl | h
 ·exact ⟨_,t.top⟩
 ·exact t.rw.isL b h
theorem Reps.shareT {K:PySem.W.Frag} {O:List Addr} {H:Hp} {σ:Sto} {τ:L2.St} (r:Reps K O H σ τ) {i:Nat} {rows:List (List D)} {a:Addr} {as:List Addr} (g:getS σ i=some (.ot rows)) (e1:τ[i]?=some (some (.ref a))) (t:OwT K O H rows a as) (d:∀ j ds b,getS σ j=some (.ow ds)->τ[j]?=some (some (.ref b))->b ≠ a /\ b ∉ as) :
 Reps K (lessT O (a :: as)) H (setS σ i (some (.sh (rowsD rows)))) τ:=by
 have lessS:Same (minus H O) (minus H (lessT O (a :: as))):=minus_less fun b hb=>(mem_lessT.mp hb).1
 have old:∀ j z,getS (setS σ i (some (.sh (rowsD rows)))) j=some z->(∀ d,z ≠ .sh d)->getS σ j=some z:=fun j z h n=>by
  rw [getS_set'] at h
  by_cases hj:i=j /\ i < σ.length
  ·rw [if_pos hj] at h;cases h;exact absurd rfl (n _)
  ·rw [if_neg hj] at h;exact h
 refine ⟨by rw [setS_len];exact r.len,fun b hb=>r.own b (mem_lessT.mp hb).1,fun j e h=>?_,fun j es h=>?_,fun j l es fs hjl g1 g2=>r.dj j l es fs hjl (old j _ g1 fun _ z=>nomatch z) (old l _ g2 fun _ z=>nomatch z),?_⟩
 ·rw [getS_set'] at h
  by_cases hj:i=j /\ i < σ.length
  ·rw [if_pos hj] at h
   obtain ⟨rfl,_⟩:=hj
   cases h
   exact ⟨_,e1,t.is⟩
  ·rw [if_neg hj] at h
   obtain ⟨v,h1,h2⟩:=r.sh j e h
   exact ⟨v,h1,Is.mono lessS e h2⟩
 ·have h:=old j _ h fun _ z=>nomatch z
  obtain ⟨b,ws,h1,h2,h3,h4⟩:=r.ow j es h
  obtain ⟨n1,n2⟩:=d j es b h h1
  exact ⟨b,ws,h1,mem_lessT.mpr ⟨h2,by simp [n1,n2]⟩,h3,Iss.mono lessS es h4⟩
 ·refine ⟨fun j rs h=>?_,fun j l rs qs h1 h2=>r.tt.2 j l rs qs (old j _ h1 fun _ z=>nomatch z) (old l _ h2 fun _ z=>nomatch z)⟩
  have h':=old j _ h fun _ z=>nomatch z
  have hij:=r.tt.2 i j _ _ g h'
  subst hij
  exfalso
  have hl:i < σ.length:=by
   rw [r.len]
   rcases Nat.lt_or_ge i τ.length with q | q
   ·exact q
   ·rw [List.getElem?_eq_none q] at e1;cases e1
  rw [getS_set',if_pos ⟨rfl,hl⟩] at h
  cases h
def Wd (K:PySem.W.Frag) (O:List Addr) (H:Hp) (Q:VK) (d:D):Prop:=∀ v H',Same H H'->Is K (minus H' O) d v->Q v H'
def Wds (K:PySem.W.Frag) (O:List Addr) (H:Hp) (Q:List V->Hp->Prop) (ds:List D):Prop:=∀ vs H',Same H H'->Iss K (minus H' O) ds vs->Q vs H'
theorem Wd.mono {K:PySem.W.Frag} {O:List Addr} {H H':Hp} {Q:VK} {d:D} (e:Same H H') (w:Wd K O H Q d):Wd K O H' Q d:=fun v H'' e' i=>w v H'' (e.trans e') i
def tD (K:PySem.W.Frag) (C:Cfg) (x:Ex):TE:=fun τ H Q=>∃ σ O,Reps K O H σ τ /\ wpE C x σ (Wd K O H Q)
def tDs (K:PySem.W.Frag) (C:Cfg) (xs:List Ex):TA:=fun τ H Q=>∃ σ O,Reps K O H σ τ /\ wpEs C xs σ (Wds K O H Q)
def tDT (K:PySem.W.Frag) (C:Cfg) (x:Ex):TT:=fun τ H Q=>∃ σ O,Reps K O H σ τ /\ wpE C x σ (isB fun c=>∀ H',Same H H'->Q c H')
def WdF (K:PySem.W.Frag) (O:List Addr) (H:Hp) (Q:VK) (d:D):Prop:=∀ xs a H' vs,d=.lst xs->Same H H'->H a=none->H' a=some (.lst vs)->Iss K (minus H' (a :: O)) xs vs->Q (.ref a) H'
def WdG (K:PySem.W.Frag) (O:List Addr) (H:Hp) (Q:VK) (d:D):Prop:=∀ rows a as H',d=rowsD rows->Same H H'->(H a=none /\ ∀ b ∈ as,H b=none)->OwT K (a :: as ++ O) H' rows a as->Q (.ref a) H'
def Rw (K:PySem.W.Frag) (fr g:Bool) (O:List Addr) (H:Hp) (Q:VK) (d:D):Prop:=if fr=true then WdF K O H Q d else if g=true then (WdG K O H Q d /\ (nol d=true->Wd K O H Q d)) else Wd K O H Q d
theorem Wd.rw {K:PySem.W.Frag} {fr g:Bool} {O:List Addr} {H:Hp} {Q:VK} {d:D} (ho:∀ a ∈ O,H a ≠ none) (w:Wd K O H Q d):Rw K fr g O H Q d:=by
 unfold Rw
 split
 ·intro xs a H' vs e s h0 h1 i
  subst e
  have na:a ∉ O:=fun z=>ho a z h0
  refine w _ _ s (lst_is (SqL.of ?_) (Iss.mono (minus_less fun b hb=>List.mem_cons_of_mem _ hb) xs i))
  rw [minus_at na];exact h1
 split
 ·refine ⟨fun rows a as H' e s h0 t=>?_,fun _=>w⟩
  subst e
  refine w _ _ s (Is.mono (minus_less fun b hb=>mem_lessT.mpr ⟨List.mem_append_right _ hb,fun z=>?_⟩) _ t.is)
  rcases List.mem_cons.mp z with rfl | z
  ·exact ho _ hb h0.1
  ·exact ho _ hb (h0.2 _ z)
 ·exact w
def spD (K:PySem.W.Frag) (n:Nat) (fr g:Bool) (c:Ctr):Sp:=fun vs H Q E=>∃ O ds,ds.length=n /\ (∀ a ∈ O,H a ≠ none) /\ Iss K (minus H O) ds vs /\ c.wp ds (Rw K fr g O H Q) fun y=>E (.str y.t 0) none H
def CXz (P:Program) (w:World) (mg:Str->Option Value):CXT:=fun outer H s E e s'=>∃ x C,E (.str x 0) none H /\ mg x=some (.ref C) /\ Thrown P w C outer H s e s'
theorem passZ {X:Cx}:Passes (CXz X.prog X.w X.mg) X E0:=fun _ _ _ _ _ _ _ ⟨_,_,z,_⟩=>z.elim
theorem PE.imp {X:Cx} {e:Expr} {t t':TE} (h:∀ τ H Q,t' τ H Q->t τ H Q) (p:PE X e t):PE X e t':=fun pins s τ H Q I w=>p pins s τ H Q I (h τ H Q w)
theorem PA.imp {X:Cx} {e:List Expr} {t t':TA} (h:∀ τ H Q,t' τ H Q->t τ H Q) (p:PA X e t):PA X e t':=fun pos pins s τ H Q I w=>p pos pins s τ H Q I (h τ H Q w)
theorem PT.imp {X:Cx} {e:Expr} {t t':TT} (h:∀ τ H Q,t' τ H Q->t τ H Q) (p:PT X e t):PT X e t':=fun pins s τ H Q I w=>p pins s τ H Q I (h τ H Q w)
theorem PS.imp {X:Cx} {e:Stmt} {t t':TS} (h:∀ D τ H,t' D τ H->t D τ H) (p:PS X e t):PS X e t':=fun pins s τ H D I w=>p pins s τ H D I (h D τ H w)
theorem PSs.imp {X:Cx} {e:List Stmt} {t t':TS} (h:∀ D τ H,t' D τ H->t D τ H) (p:PSs X e t):PSs X e t':=fun pins s τ H D I w=>p pins s τ H D I (h D τ H w)
theorem new_not_own {H:Hp} {O:List Addr} {p:Addr} (h:∀ a ∈ O,H a ≠ none) (hp:H p=none):p ∉ O:=fun z=>h p z hp
theorem same_upd {H:Hp} {p:Addr} (h:H p=none) (o:HO):Same H (upd H p o):=fun b u q=>by rw [upd_ne (ne_of_none q h)];exact q
section
variable {X:Cx}
def rD (K:PySem.W.Frag) (f:D->D->(D->Prop)->Prop):R2:=fun xv yv H Q=>∃ O x y,(∀ a ∈ O,H a ≠ none) /\ Is K (minus H O) x xv /\ Is K (minus H O) y yv /\ f x y (Wd K O H Q)
theorem fin_ep {pins:List (Addr × Obj)} {τ:L2.St} {H:Hp} {s:Shared} {Q:VK} {O:List Addr} {d:D} {v:V} {u:Value} (I:Inv X pins τ H s) (w:Wd X.K O H Q d) (i:Is X.K (minus H O) d v) (r:RelV v u):EP X pins τ Q u s :=
 ⟨v,H,I,r,w v H (Same.refl H) i⟩
theorem mulOk {i j:Int} (h:MulOk i j):IntMulOk i j:=by
 rcases h with h | h | h
 ·exact .of_left h
 ·exact .of_right h
 ·unfold IntMulOk
  have e:Builtin.Int.intTooBig ((Builtin.Int.intBits i:Int) + (Builtin.Int.intBits j:Int))=false:=by
   unfold Builtin.Int.intTooBig
   rw [bitsLine_eq]
   have h':Builtin.Int.intBits i + Builtin.Int.intBits j<=134217728:=h
   exact decide_eq_false (by lia)
  intro z
  simp [e] at z
theorem divOk {i j:Int} (h:bits j<=9000):Builtin.divisionGoesByPylong i j=false:=by
 refine PyProof.noPylong_of_log2 ?_
 have h':Builtin.Int.intBits j<=9000:=h
 unfold Builtin.Int.intBits at h'
 by_cases e:j=0
 ·subst e;decide +kernel
 ·have e':(j == 0)=false:=by simpa using e
  rw [e'] at h'
  simp only [Bool.false_eq_true,if_false] at h'
  lia
theorem Iss.minus_upd {K:PySem.W.Frag} {H:Hp} {O:List Addr} {ds:List D} {vs:List V} {p:Addr} {o:HO} (hp:H p=none) (i:Iss K (minus H O) ds vs):Iss K (minus (upd H p o) O) ds vs:=Iss.mono (minus_mono (same_upd hp o)) ds i
theorem at_upd {H:Hp} {O:List Addr} {p:Addr} {o:HO} (ho:∀ a ∈ O,H a ≠ none) (hp:H p=none):minus (upd H p o) O p=some o:=by rw [minus_at (new_not_own ho hp),upd_same]
theorem same_fresh {H H':Hp} {O:List Addr} {a:Addr} (s:Same H H') (h:H a=none):Same (minus H O) (minus H' (a :: O)):=fun b o hb=>by
 have e:=minus_same _ _ _ _ hb
 have na:b ≠ a:=fun z=>by subst z;rw [h] at e;cases e
 have nb:b ∉ O:=fun z=>by unfold minus at hb;rw [if_pos z] at hb;cases hb
 rw [minus_at (by simp [na,nb])]
 exact s _ _ e
theorem Wd.wdF {K:PySem.W.Frag} {O:List Addr} {H:Hp} {Q:VK} {d:D} (ho:∀ a ∈ O,H a ≠ none) (w:Wd K O H Q d):WdF K O H Q d:=by
 have:=w.rw (fr:=true) (g:=false) ho
 unfold Rw at this
 rw [if_pos rfl] at this
 exact this
theorem WdF.mono {K:PySem.W.Frag} {O:List Addr} {H H':Hp} {Q:VK} {d:D} (e:Same H H') (w:WdF K O H Q d):WdF K O H' Q d:=fun xs a H'' vs q s h0 h1 i=>w xs a H'' vs q (e.trans s) (by
 cases z:H a with
 | none=>rfl
 | some o=>rw [e a o z] at h0;cases h0) h1 i
theorem cat_listsF {pins:List (Addr × Obj)} {s:Shared} {τ:L2.St} {H:Hp} {Q:VK} {O:List Addr} {a b:Addr} {vs ws:List V} {xs ys:List D} (I:Inv X pins τ H s) (ho:∀ a ∈ O,H a ≠ none) (w:xs.length + ys.length<=lim /\ WdF X.K O H Q (.lst (xs ++ ys)))
 (ha:SqL X.K H a vs) (hb:SqL X.K H b ws) (ia:Iss X.K (minus H O) xs vs) (ib:Iss X.K (minus H O) ys ws):wpAny (model X.prog X.w) X.A (binaryOp .Add (.ref a) (.ref b)) (EP X pins τ Q) X.xe s:=by
 obtain ⟨its,r1,p1,z1⟩:=I.list ha
 obtain ⟨its2,r2,p2,z2⟩:=I.list hb
 obtain ⟨⟨cls,dd,data,sl⟩,h1,hc,n,hd⟩:=p1.isList
 obtain ⟨⟨cls2,dd2,data2,sl2⟩,h2,hc2,n2,hd2⟩:=p2.isList
 simp only at hc hd hc2 hd2
 subst hc hd hc2 hd2
 have hl:vs.length + ws.length<=sizeLine:=by rw [ia.length,ib.length,sizeLine_eq];exact w.1
 have l1:=r1.length
 have l2:=r2.length
 refine concat_meets ⟨_,h1,rfl⟩ ⟨_,h2,rfl⟩ noFill_list_add seq_list_add PySem.F.slot_list_add PySem.F.entry_list_add (PySem.F.args_list_add_2 _ _) (list_addW a b its.toArray its2.toArray n n2 dd dd2 sl sl2 (by simp only [List.size_toArray];lia)) ⟨h1,h2,?_⟩
 have e:its.toArray ++ its2.toArray=(its ++ its2).toArray:=by simp
 rw [e]
 exact ⟨.ref _,_,I.lnew (t':=s.toks) (r1.append r2) (by rw [List.length_append];exact hl),rfl,w.2 _ _ _ _ rfl (same_upd I.fresh _) I.fresh (upd_same ..) (Iss.mono (same_fresh (same_upd I.fresh _) I.fresh) _ (ia.append ib))⟩
theorem cat_lists {pins:List (Addr × Obj)} {s:Shared} {τ:L2.St} {H:Hp} {Q:VK} {O:List Addr} {a b:Addr} {vs ws:List V} {xs ys:List D} (I:Inv X pins τ H s) (ho:∀ a ∈ O,H a ≠ none) (w:xs.length + ys.length<=lim /\ Wd X.K O H Q (.lst (xs ++ ys)))
 (ha:SqL X.K H a vs) (hb:SqL X.K H b ws) (ia:Iss X.K (minus H O) xs vs) (ib:Iss X.K (minus H O) ys ws):wpAny (model X.prog X.w) X.A (binaryOp .Add (.ref a) (.ref b)) (EP X pins τ Q) X.xe s:=cat_listsF I ho ⟨w.1,w.2.wdF ho⟩ ha hb ia ib
theorem Iss.rep {K:PySem.W.Frag} {S:Hp} {ds:List D} {vs:List V} (i:Iss K S ds vs):∀ k:Nat,Iss K S (List.replicate k ds).flatten (List.replicate k vs).flatten
 | 0=>by simp [Iss]
 | k + 1=>by
   rw [List.replicate_succ,List.replicate_succ,List.flatten_cons,List.flatten_cons]
   exact i.append (Iss.rep i k)
theorem rep_list {pins:List (Addr × Obj)} {s:Shared} {τ:L2.St} {H:Hp} {Q:VK} {O:List Addr} {a:Addr} {k:Int} {t:Tok} {vs:List V} {xs:List D} (I:Inv X pins τ H s) (ho:∀ a ∈ O,H a ≠ none) (w:RepOk xs.length k /\ Wd X.K O H Q (.lst (List.replicate k.toNat xs).flatten))
 (ha:SqL X.K H a vs) (ia:Iss X.K (minus H O) xs vs):wpAny (model X.prog X.w) X.A (binaryOp .Mult (.ref a) (.int k t)) (EP X pins τ Q) X.xe s:=by
 obtain ⟨its,r1,p1,z1⟩:=I.list ha
 obtain ⟨⟨cls,dd,data,sl⟩,h1,hc,n,hd⟩:=p1.isList
 simp only at hc hd
 subst hc hd
 have l1:=r1.length
 have l2:=ia.length
 obtain ⟨⟨⟨k1,k2⟩,hz⟩,w⟩:=w
 have hz':vs.length * k.toNat<=sizeLine:=by rw [l2,sizeLine_eq];exact hz
 have hlen:its.toArray.size * k.toNat<=sizeLine:=by rw [List.size_toArray,<- l1];exact hz'
 have hcap:¬ its.toArray.size * k.toNat > (2 ^ 63 - 1) / 8:=by
  have:(sizeLine:Nat)<=(2 ^ 63 - 1) / 8:=by decide
  lia
 have hfit:¬ (!Builtin.List.listFitsIndex k)=true:=by
  rw [fitsIndex_both (by lia) (by lia)]
  exact Bool.false_ne_true
 have hlong:¬ Builtin.List.listTooLong (its.toArray.size * k.toNat)=true:=by
  rw [L2.notLongL hlen]
  exact Bool.false_ne_true
 have hnew:List.foldl (fun x1 x2=>x1 ++ x2) #[] (List.replicate (if its.toArray.isEmpty=true then 0 else k.toNat) its.toArray)=(List.replicate k.toNat its).flatten.toArray:=by
  have f0:∀ m:Nat,List.foldl (fun x1 x2=>x1 ++ x2) #[] (List.replicate m its.toArray)=(List.replicate m its).flatten.toArray:=fun m=>by
   have:=L2.foldl_rep its m []
   rw [List.nil_append] at this
   exact this
  rw [f0]
  cases its with
  | nil=>simp
  | cons a r'=>rw [if_neg (by simp)]
 refine wpAny_binaryOp_repeat_ref (T:="list") (U:="int") (by decide) ⟨_,h1,rfl⟩ (fun s'=>typeIs_int s' k t) noFill_list_mul PySem.F.fills_int_mul PySem.F.slot_int_rmul repeat_list PySem.F.slot_int_index.lookup
  (call_meets PySem.F.slot_int_rmul (typeIs_int s k t) PySem.F.entry_int_rmul (PySem.F.args_int_rmul_2 _ _) (lm_int_rmul_list_any k t a its.toArray n dd sl)
   ⟨h1,rfl,⟨_,h1,rfl⟩,call_meets PySem.F.slot_list_mul ⟨_,h1,rfl⟩ PySem.F.entry_list_mul (PySem.F.args_list_mul_2 _ _) (lm_list_mul_any a its.toArray n dd sl k t hfit hcap hlong) ⟨h1,?_⟩⟩)
 rw [hnew]
 exact ⟨.ref _,_,I.lnew (t':=s.toks) (r1.rep k.toNat) (by rw [L2.len_rep,Nat.mul_comm];exact hz'),rfl,w _ _ (same_upd I.fresh _) (lst_is (SqL.of (at_upd ho I.fresh)) (Iss.minus_upd I.fresh (ia.rep k.toNat)))⟩
theorem intD_of {f:Int->Int->(D->Prop)->Prop} {x y:D} {Q:D->Prop} (w:intD f x y Q):∃ i j,x=.int i /\ y=.int j /\ f i j Q:=by
 cases x <;> first | exact w.elim | (cases y <;> first | exact w.elim | exact ⟨_,_,rfl,rfl,w⟩)
theorem strOk_mem {x:Str} (h:PyData.strOk x=true) {c:Nat} (hc:c ∈ x.cps.toList):c < 0x110000:=by
 unfold PyData.strOk at h
 rw [<- Array.all_toList,List.all_eq_true] at h
 simpa using h c hc
theorem strOk_of {l:List Nat} (h:∀ c ∈ l,c < 0x110000):PyData.strOk ⟨l.toArray⟩=true:=by
 unfold PyData.strOk
 rw [<- Array.all_toList,List.all_eq_true]
 intro c hc
 exact decide_eq_true (h c (by simpa using hc))
theorem ofString_ok (x:String):PyData.strOk (Str.ofString x)=true:=by
 rw [Str.ofString_eq_toList]
 refine strOk_of fun c hc=>?_
 obtain ⟨ch,_,rfl⟩:=List.mem_map.mp hc
 have:=ch.valid
 unfold Char.toNat
 rcases this with h | h <;> omega
theorem op_bin {o:BOp} {op:Operator} (h:opOk o op=true):OpR X (binaryOp op) (rD X.K (binD o)):=by
 intro pins s τ H xv yv v u Q I rx ry w
 obtain ⟨O,x,y,ho,ix,iy,w⟩:=w
 cases o with
 | add =>
   cases op <;> first | exact Bool.noConfusion h | skip
   cases x <;> first | exact w.elim | (cases y <;> first | exact w.elim | skip)
   ·cases is_int ix;cases is_int iy;obtain ⟨t,rfl⟩:=rx;obtain ⟨t',rfl⟩:=ry
    exact add_int (fin_ep (I.tok _) w (int_is _) ⟨_,rfl⟩)
   ·obtain ⟨rfl,o1⟩:=is_str ix;obtain ⟨rfl,o2⟩:=is_str iy
    refine op_add_str pins s τ H _ _ v u Q I rx ry ⟨_,_,rfl,rfl,w.1,w.2 _ _ (Same.refl H) (str_is ?_)⟩
    unfold PyData.strOk at *
    show (Array.all (_ ++ _) _)=true
    rw [Array.all_append,o1,o2];rfl
   ·obtain ⟨a,xs,rfl,hx,jx⟩:=is_lst ix;obtain ⟨b,ys,rfl,hy,jy⟩:=is_lst iy
    have hx':=(minus_same H O).seq hx
    have hy':=(minus_same H O).seq hy
    cases rx;cases ry
    exact cat_lists I ho w hx' hy' jx jy
 | mul =>
   cases op <;> first | exact Bool.noConfusion h | skip
   cases x <;> first | exact w.elim | (cases y <;> first | exact w.elim | skip)
   ·cases is_int ix;cases is_int iy;obtain ⟨t,rfl⟩:=rx;obtain ⟨t',rfl⟩:=ry
    exact mul_int (fin_ep (I.tok _) w.2 (int_is _) ⟨_,rfl⟩) (mulOk w.1)
   ·obtain ⟨rfl,o1⟩:=is_str ix;cases is_int iy
    refine op_mulS pins s τ H _ _ v u Q I rx ry ⟨_,_,rfl,rfl,w.1,w.2 _ _ (Same.refl H) (str_is ?_)⟩
    refine strOk_of fun c hc=>?_
    rw [List.mem_flatten] at hc
    obtain ⟨l,hl,hc⟩:=hc
    rw [(List.mem_replicate.mp hl).2] at hc
    exact strOk_mem o1 hc
   ·obtain ⟨a,xs,rfl,hx,jx⟩:=is_lst ix;cases is_int iy
    have hx':=(minus_same H O).seq hx
    cases rx;obtain ⟨t',rfl⟩:=ry
    exact rep_list I ho w hx' jx
 | sub =>
   cases op <;> first | exact Bool.noConfusion h | skip
   obtain ⟨i,j,rfl,rfl,w⟩:=intD_of w
   cases is_int ix;cases is_int iy;obtain ⟨t,rfl⟩:=rx;obtain ⟨t',rfl⟩:=ry
   exact sub_int (fin_ep (I.tok _) w (int_is _) ⟨_,rfl⟩)
 | fdiv =>
   cases op <;> first | exact Bool.noConfusion h | skip
   obtain ⟨i,j,rfl,rfl,w⟩:=intD_of w
   cases is_int ix;cases is_int iy;obtain ⟨t,rfl⟩:=rx;obtain ⟨t',rfl⟩:=ry
   exact floordiv_int w.1.1 (fin_ep (I.tok _) w.2 (int_is _) ⟨_,rfl⟩) (.inl (divOk w.1.2))
 | mod =>
   cases op <;> first | exact Bool.noConfusion h | skip
   obtain ⟨i,j,rfl,rfl,w⟩:=intD_of w
   cases is_int ix;cases is_int iy;obtain ⟨t,rfl⟩:=rx;obtain ⟨t',rfl⟩:=ry
   exact mod_int' w.1 (fin_ep (I.tok _) w.2 (int_is _) ⟨_,rfl⟩)
 | shl =>
   cases op <;> first | exact Bool.noConfusion h | skip
   obtain ⟨i,j,rfl,rfl,w⟩:=intD_of w
   cases is_int ix;cases is_int iy;obtain ⟨t,rfl⟩:=rx;obtain ⟨t',rfl⟩:=ry
   exact lshift_int w.1.1 (by have:=w.1.2;unfold bits at this;lia) (fin_ep (I.tok _) w.2 (int_is _) ⟨_,rfl⟩)
 | shr =>
   cases op <;> first | exact Bool.noConfusion h | skip
   obtain ⟨i,j,rfl,rfl,w⟩:=intD_of w
   cases is_int ix;cases is_int iy
   exact op_shr pins s τ H _ _ v u Q I rx ry ⟨_,_,rfl,rfl,w.1,w.2 _ _ (Same.refl H) (int_is _)⟩
 | band =>
   cases op <;> first | exact Bool.noConfusion h | skip
   obtain ⟨i,j,rfl,rfl,w⟩:=intD_of w
   cases is_int ix;cases is_int iy
   exact op_and pins s τ H _ _ v u Q I rx ry ⟨_,_,rfl,rfl,w _ _ (Same.refl H) (int_is _)⟩
 | pow =>
   cases op <;> first | exact Bool.noConfusion h | skip
   obtain ⟨i,j,rfl,rfl,w⟩:=intD_of w
   cases is_int ix;cases is_int iy;obtain ⟨t,rfl⟩:=rx;obtain ⟨t',rfl⟩:=ry
   exact PyProof.Rows.pow_int w.1.1 w.1.2 (fin_ep (I.tok _) w.2 (int_is _) ⟨_,rfl⟩)
theorem iss_ints {K:PySem.W.Frag} {S:Hp}:∀ {ns:List Int} {vs:List V},Iss K S (ns.map D.int) vs->vs=ns.map V.int
 | [],vs,h=>by simp only [List.map_nil] at h;unfold Iss at h;exact h
 | n :: ns,vs,h=>by
   simp only [List.map_cons] at h
   unfold Iss at h
   obtain ⟨v,r,rfl,i1,i2⟩:=h
   rw [is_int i1,iss_ints i2];rfl
theorem iss1 {K:PySem.W.Frag} {S:Hp} {d:D} {vs:List V} (h:Iss K S [d] vs):∃ v,vs=[v] /\ Is K S d v:=by
 unfold Iss at h
 obtain ⟨v,r,rfl,h1,h2⟩:=h
 unfold Iss at h2
 subst h2
 exact ⟨v,rfl,h1⟩
theorem iss2 {K:PySem.W.Frag} {S:Hp} {d e:D} {vs:List V} (h:Iss K S [d,e] vs):∃ v w,vs=[v,w] /\ Is K S d v /\ Is K S e w:=by
 unfold Iss at h
 obtain ⟨v,r,rfl,h1,h2⟩:=h
 obtain ⟨w,rfl,h3⟩:=iss1 h2
 exact ⟨v,w,rfl,h1,h3⟩
theorem op_cmp {o:COp} {op:CmpOp} {e:Expr} (h:cOk o op e=true) (hu:X.A.units + 100 < cLine):OpR X (compareOp op) (rD X.K (cmpD o)):=by
 intro pins s τ H xv yv v u Q I rx ry w
 obtain ⟨O,x,y,ho,ix,iy,w⟩:=w
 have hu1:X.A.in1.units + 2 < cLine:=by rw [Around.in1_units];lia
 have reads:∀ {k:Bool},min (depD x) (depD y)<=100->(∀ {as bs:List Addr},Reads s.heap v (toPy x) as->Reads s.heap u (toPy y) bs->(toPy x).canLay0=true->(toPy y).canLay0=true->X.A.units + min (toPy x).depth (toPy y).depth < cLine->wpAny (model X.prog X.w) X.A (compareOp op v u) (EP X pins τ Q) X.xe s)->wpAny (model X.prog X.w) X.A (compareOp op v u) (EP X pins τ Q) X.xe s:=by
  intro k hd f
  obtain ⟨⟨as,ra⟩,ca⟩:=Is.reads I x (Is.mono (minus_same H O) x ix) rx
  obtain ⟨⟨bs,rb⟩,cb⟩:=Is.reads I y (Is.mono (minus_same H O) y iy) ry
  exact f ra rb ca cb (by rw [dep_toPy,dep_toPy];lia)
 cases o with
 | eq =>
   cases op <;> first | exact Bool.noConfusion h | skip
   have w':min (depD x) (depD y)<=100 /\ Wd X.K O H Q (.bl (eqD x y)):=w
   refine reads (k:=true) w'.1 fun ra rb ca cb hd=>SeqAt.compareEq_reads ra rb ca cb hd ?_
   rw [eqv_toPy]
   exact fin_ep I w'.2 (bl_is _) rfl
 | ne =>
   cases op <;> first | exact Bool.noConfusion h | skip
   have w':min (depD x) (depD y)<=100 /\ Wd X.K O H Q (.bl (!eqD x y)):=w
   refine reads (k:=true) w'.1 fun ra rb ca cb hd=>SeqAt.compareNe_reads ra rb ca cb hd ?_
   rw [eqv_toPy]
   exact fin_ep I w'.2 (bl_is _) rfl
 | lt =>
   cases op <;> first | exact Bool.noConfusion h | skip
   obtain ⟨i,j,rfl,rfl,w⟩:=intD_of w
   cases is_int ix;cases is_int iy
   exact op_lt pins s τ H _ _ v u Q I rx ry ⟨_,_,rfl,rfl,w _ _ (Same.refl H) (bl_is _)⟩
 | le =>
   cases op <;> first | exact Bool.noConfusion h | skip
   obtain ⟨i,j,rfl,rfl,w⟩:=intD_of w
   cases is_int ix;cases is_int iy
   exact op_le pins s τ H _ _ v u Q I rx ry ⟨_,_,rfl,rfl,w _ _ (Same.refl H) (bl_is _)⟩
 | gt =>
   cases op <;> first | exact Bool.noConfusion h | skip
   obtain ⟨i,j,rfl,rfl,w⟩:=intD_of w
   cases is_int ix;cases is_int iy
   exact op_gt pins s τ H _ _ v u Q I rx ry ⟨_,_,rfl,rfl,w _ _ (Same.refl H) (bl_is _)⟩
 | ge =>
   cases op <;> first | exact Bool.noConfusion h | skip
   obtain ⟨i,j,rfl,rfl,w⟩:=intD_of w
   cases is_int ix;cases is_int iy
   exact op_ge pins s τ H _ _ v u Q I rx ry ⟨_,_,rfl,rfl,w _ _ (Same.refl H) (bl_is _)⟩
 | isN =>
   cases op <;> first | exact Bool.noConfusion h | skip
   cases y <;> first | exact w.elim | skip
   cases is_non iy
   refine op_isN pins s τ H _ _ v u Q I rx ry ⟨rfl,w _ _ (Same.refl H) ?_⟩
   cases x with
   | non=>cases is_non ix;exact bl_is _
   | bl b=>cases is_bl ix;exact bl_is _
   | int i=>cases is_int ix;exact bl_is _
   | str z=>obtain ⟨rfl,_⟩:=is_str ix;exact bl_is _
   | tup zs=>obtain ⟨_,_,rfl,_⟩:=is_tup ix;exact bl_is _
   | lst zs=>obtain ⟨_,_,rfl,_⟩:=is_lst ix;exact bl_is _
 | notN =>
   cases op <;> first | exact Bool.noConfusion h | skip
   cases y <;> first | exact w.elim | skip
   cases is_non iy
   refine op_notN pins s τ H _ _ v u Q I rx ry ⟨rfl,w _ _ (Same.refl H) ?_⟩
   cases x with
   | non=>cases is_non ix;exact bl_is _
   | bl b=>cases is_bl ix;exact bl_is _
   | int i=>cases is_int ix;exact bl_is _
   | str z=>obtain ⟨rfl,_⟩:=is_str ix;exact bl_is _
   | tup zs=>obtain ⟨_,_,rfl,_⟩:=is_tup ix;exact bl_is _
   | lst zs=>obtain ⟨_,_,rfl,_⟩:=is_lst ix;exact bl_is _
 | isT =>
   cases op <;> first | exact Bool.noConfusion h | skip
   cases x <;> cases y <;> first | exact w.elim | skip
   next b b' =>
   cases is_bl ix;cases is_bl iy;cases rx;cases ry
   refine wpAny_is_plain rfl ?_
   have e:(Value.bool b == Value.bool b')=(b == b'):=by cases b <;> cases b' <;> rfl
   rw [e]
   exact fin_ep I w (bl_is _) (by cases b <;> cases b' <;> rfl)
 | notT =>
   cases op <;> first | exact Bool.noConfusion h | skip
   cases x <;> cases y <;> first | exact w.elim | skip
   next b b' =>
   cases is_bl ix;cases is_bl iy;cases rx;cases ry
   refine wpAny_isNot_plain rfl ?_
   have e:(Value.bool b == Value.bool b')=(b == b'):=by cases b <;> cases b' <;> rfl
   rw [e]
   exact fin_ep I w (bl_is _) (by cases b <;> cases b' <;> rfl)
def cD (K:PySem.W.Frag) (f:List D->(D->Prop)->Prop):List V->Hp->VK->Prop:=fun vs H Q=>∃ O ds,(∀ a ∈ O,H a ≠ none) /\ Iss K (minus H O) ds vs /\ f ds (Wd K O H Q)
noncomputable def Bi.val:Bi->Value
 | .abs=>.builtin "abs"
 | .max=>.builtin "max"
 | .min=>.builtin "min"
 | .len=>.builtin "len"
 | .int=>.type "int"
 | .list=>.type "list"
 | .sum=>.builtin "sum"
 | .all=>.builtin "all"
 | .any=>.builtin "any"
 | .tuple=>.type "tuple"
 | .str=>.type "str"
theorem Inv.moved {pins:List (Addr × Obj)} {τ:L2.St} {H:Hp} {s s':Shared} {o:Obj} {tk:Nat} (I:Inv X pins τ H s) (m:Moved [s.heap.objs.size] (fun a b=>b=a) { s with heap:=s.heap.push o,toks:=tk } s'):Inv X pins τ H s':=by
 have k:∀ b u,s.heap.get? b=some u->s'.heap.get? b=some u:=fun b u e=>m.heap b u (fun z=>by
  have:b=s.heap.objs.size:=by simpa using z
  exact absurd (Heap.lt_size e) (by rw [this];exact Nat.lt_irrefl _)) (Heap.get?_push_of_some _ e)
 exact I.call' (ch:=[]) m.os (Un.kept k) (I.hok.kept k) (by rw [m.gens];exact I.bare) fun _ z=>nomatch z
theorem preSum_eq (ns:List Int) (f:Nat->Int) (h:∀ i,i < ns.length->ns[i]?=some (f i)):∀ k,k<=ns.length->preSum f k=(ns.take k).sum
 | 0,_=>by simp [preSum]
 | k + 1,hk=>by
   rw [preSum,preSum_eq ns f h k (by lia),List.take_add_one,h k (by lia)]
   simp
theorem vals_ints:∀ {ns:List Int} {us:List Value},Vals (ns.map V.int) us->∀ i v,us[i]?=some v->∃ t,v=Value.int (ns.getD i 0) t
 | [],us,r,i,v,h=>by cases r;simp at h
 | n :: ns,us,r,i,v,h=>by
   cases r with
   | cons r1 r2 =>
     cases i with
     | zero=>simp at h;subst h;obtain ⟨t,e⟩:=r1;exact ⟨t,by simpa using e⟩
     | succ i=>simpa using vals_ints r2 i v (by simpa using h)
theorem call_sumD (hc:X.calm=true):CallR X (.builtin "sum") (fun vs H Q=>∃ (a:Addr) (ns:List Int),vs=[.ref a] /\ SqL X.K H a (ns.map V.int) /\ Q (.int ns.sum) H):=by
 intro pins s τ H vs us Q I r h
 obtain ⟨a,ns,rfl,hq,q⟩:=h
 obtain ⟨u,rfl,e⟩:=vals1 r
 cases e
 obtain ⟨its,rv,p,hz⟩:=I.list hq
 have hl:=rv.length
 rw [List.length_map] at hl
 obtain ⟨o,n,ho,_⟩:=id p
 have hne:a ≠ s.heap.objs.size:=Nat.ne_of_lt (Heap.lt_size ho)
 have W:=(Walks.list (prog:=X.prog) (w:=X.w) (A:=X.A.in1) (I.ok.hd hc) s.heap.objs.size a hne its.toArray).toS
 refine call_sum_walkAnyS (wpAny_pyIter_list p.isList ⟨s.heap.objs.size,_,_,_,_,_,_,fun i=>ns.getD i 0,rfl,W,⟨⟨_,Heap.get?_push_size _ rfl,rfl,rfl⟩,?_⟩,fun b hb=>?_,fun i v hv=>vals_ints rv i v (by simpa using hv),fun s' t' m=>?_⟩)
 ·obtain ⟨o,n,ho,h1,h2,h3⟩:=p
  exact ⟨o,Heap.get?_push_of_some _ ho,h1,n,h3⟩
 ·rw [Heap.size_push]
  simp only [List.mem_cons,List.not_mem_nil,or_false] at hb
  rcases hb with z | z
  ·rw [z];exact Nat.lt_succ_self _
  ·rw [z];exact Nat.lt_succ_of_lt (Heap.lt_size ho)
 ·have e:preSum (fun i=>ns.getD i 0) its.toArray.size=ns.sum:=by
   rw [List.size_toArray,<- hl]
   rw [preSum_eq ns _ (fun i hi=>by simp [hi]) _ (Nat.le_refl _),List.take_length]
  exact ⟨.int ns.sum,H,Inv.moved (tk:=s.toks) I m,⟨t',by rw [e]⟩,q⟩
theorem iss_bls {K:PySem.W.Frag} {S:Hp}:∀ {ns:List Bool} {vs:List V},Iss K S (ns.map D.bl) vs->vs=ns.map V.bl
 | [],vs,h=>by simp only [List.map_nil] at h;unfold Iss at h;exact h
 | n :: ns,vs,h=>by
   simp only [List.map_cons] at h
   unfold Iss at h
   obtain ⟨v,r,rfl,i1,i2⟩:=h
   rw [is_bl i1,iss_bls i2];rfl
theorem vals_bls:∀ {ns:List Bool} {us:List Value},Vals (ns.map V.bl) us->∀ i v,us[i]?=some v->v=Value.bool (ns.getD i true)
 | [],us,r,i,v,h=>by cases r;simp at h
 | n :: ns,us,r,i,v,h=>by
   cases r with
   | cons r1 r2 =>
     cases i with
     | zero=>simp at h;subst h;cases r1;rfl
     | succ i=>exact vals_bls r2 i v (by simpa using h)
theorem all_range (bs:List Bool):(List.range bs.length).all (fun i=>bs.getD i true)=bs.all id:=by
 rw [Bool.eq_iff_iff,List.all_eq_true,List.all_eq_true]
 constructor
 ·intro h b hb
  obtain ⟨i,hi,rfl⟩:=List.mem_iff_getElem.mp hb
  have:=h i (by simpa using hi)
  simpa [hi] using this
 ·intro h i hi
  have hi':i < bs.length:=by simpa using hi
  have:=h bs[i] (List.getElem_mem hi')
  simpa [hi'] using this
theorem call_allD (hc:X.calm=true):CallR X (.builtin "all") (fun vs H Q=>∃ (a:Addr) (ns:List Bool),vs=[.ref a] /\ SqL X.K H a (ns.map V.bl) /\ Q (.bl (ns.all id)) H):=by
 intro pins s τ H vs us Q I r h
 obtain ⟨a,ns,rfl,hq,q⟩:=h
 obtain ⟨u,rfl,e⟩:=vals1 r
 cases e
 obtain ⟨its,rv,p,hz⟩:=I.list hq
 have hl:=rv.length
 rw [List.length_map] at hl
 obtain ⟨o,n,ho,_⟩:=id p
 have hne:a ≠ s.heap.objs.size:=Nat.ne_of_lt (Heap.lt_size ho)
 have W:=(Walks.list (prog:=X.prog) (w:=X.w) (A:=X.A.in1) (I.ok.hd hc) s.heap.objs.size a hne its.toArray).toS
 refine call_all_walkS (wpAny_pyIter_list p.isList ⟨s.heap.objs.size,_,_,_,_,_,_,fun i=>ns.getD i true,rfl,W,⟨⟨_,Heap.get?_push_size _ rfl,rfl,rfl⟩,?_⟩,fun i v s Q E hv hQ=>?_,fun s' m=>?_⟩)
 ·obtain ⟨o,n,ho,h1,h2,h3⟩:=p
  exact ⟨o,Heap.get?_push_of_some _ ho,h1,n,h3⟩
 ·rw [vals_bls rv i v (by simpa using hv)]
  exact wpAny_truthy_bool hQ
 ·have e:(List.range its.toArray.size).all (fun i=>ns.getD i true)=ns.all id:=by
   rw [List.size_toArray,<- hl]
   exact all_range ns
  exact ⟨.bl (ns.all id),H,Inv.moved (tk:=s.toks) I m,by rw [e];rfl,q⟩
theorem any_range (bs:List Bool):(List.range bs.length).any (fun i=>bs.getD i true)=bs.any id:=by
 rw [Bool.eq_iff_iff,List.any_eq_true,List.any_eq_true]
 constructor
 ·rintro ⟨i,hi,h⟩
  have hi':i < bs.length:=by simpa using hi
  exact ⟨bs[i],List.getElem_mem hi',by simpa [hi'] using h⟩
 ·rintro ⟨b,hb,h⟩
  obtain ⟨i,hi,rfl⟩:=List.mem_iff_getElem.mp hb
  exact ⟨i,by simpa using hi,by simpa [hi] using h⟩
theorem call_anyD (hc:X.calm=true):CallR X (.builtin "any") (fun vs H Q=>∃ (a:Addr) (ns:List Bool),vs=[.ref a] /\ SqL X.K H a (ns.map V.bl) /\ Q (.bl (ns.any id)) H):=by
 intro pins s τ H vs us Q I r h
 obtain ⟨a,ns,rfl,hq,q⟩:=h
 obtain ⟨u,rfl,e⟩:=vals1 r
 cases e
 obtain ⟨its,rv,p,hz⟩:=I.list hq
 have hl:=rv.length
 rw [List.length_map] at hl
 obtain ⟨o,n,ho,_⟩:=id p
 have hne:a ≠ s.heap.objs.size:=Nat.ne_of_lt (Heap.lt_size ho)
 have W:=(Walks.list (prog:=X.prog) (w:=X.w) (A:=X.A.in1) (I.ok.hd hc) s.heap.objs.size a hne its.toArray).toS
 refine call_any_walkS (wpAny_pyIter_list p.isList ⟨s.heap.objs.size,_,_,_,_,_,_,fun i=>ns.getD i true,rfl,W,⟨⟨_,Heap.get?_push_size _ rfl,rfl,rfl⟩,?_⟩,fun i v s Q E hv hQ=>?_,fun s' m=>?_⟩)
 ·obtain ⟨o,n,ho,h1,h2,h3⟩:=p
  exact ⟨o,Heap.get?_push_of_some _ ho,h1,n,h3⟩
 ·rw [vals_bls rv i v (by simpa using hv)]
  exact wpAny_truthy_bool hQ
 ·have e:(List.range its.toArray.size).any (fun i=>ns.getD i true)=ns.any id:=by
   rw [List.size_toArray,<- hl]
   exact any_range ns
  exact ⟨.bl (ns.any id),H,Inv.moved (tk:=s.toks) I m,by rw [e];rfl,q⟩
theorem one1_of {f:D->(D->Prop)->Prop} {xs:List D} {Q:D->Prop} (w:one1 f xs Q):∃ x,xs=[x] /\ f x Q:=by
 match xs,w with
 | [x],w=>exact ⟨x,rfl,w⟩
theorem two2_of {f:D->D->(D->Prop)->Prop} {xs:List D} {Q:D->Prop} (w:two2 f xs Q):∃ x y,xs=[x,y] /\ f x y Q:=by
 match xs,w with
 | [x,y],w=>exact ⟨x,y,rfl,w⟩
theorem listD_of {f:List D->(D->Prop)->Prop} {x:D} {Q:D->Prop} (w:listD f x Q):∃ xs,x=.lst xs /\ f xs Q:=by
 cases x <;> first | exact w.elim | exact ⟨_,rfl,w⟩
theorem minD_of {ds:List D} {Q:D->Prop} (w:minD ds Q):(∃ x,ds=[x] /\ listD (fun xs Q=>∃ ns:List Int,xs=ns.map .int /\ ns ≠ [] /\ Q (.int (mmF false 0 ns))) x Q) \/ ∃ x y,ds=[x,y] /\ intD (fun i j Q=>Q (.int (if j < i then j else i))) x y Q:=by
 cases ds with
 | nil=>exact w.elim
 | cons x r=>cases r with
   | nil=>exact .inl ⟨x,rfl,w⟩
   | cons y r=>cases r with
     | nil=>exact .inr ⟨x,y,rfl,w⟩
     | cons z r=>exact w.elim
section
variable {α β:Type}
end
theorem call_bi {f:Bi} (hc:X.calm=true):CallR X f.val (cD X.K (biD f)):=by
 intro pins s τ H vs us Q I r w
 obtain ⟨O,ds,ho,is,w⟩:=w
 cases f with
 | abs =>
   obtain ⟨x,rfl,w⟩:=one1_of w
   obtain ⟨v,rfl,i1⟩:=iss1 is
   cases x <;> first | exact w.elim | skip
   cases is_int i1
   exact call_abs pins s τ H _ us Q I r ⟨_,rfl,w _ _ (Same.refl H) (int_is _)⟩
 | max =>
   obtain ⟨x,y,rfl,w⟩:=two2_of w
   obtain ⟨i,j,rfl,rfl,w⟩:=intD_of w
   obtain ⟨v,v',rfl,i1,i2⟩:=iss2 is;cases is_int i1;cases is_int i2
   exact call_max2 hc pins s τ H _ us Q I r ⟨_,_,rfl,w _ _ (Same.refl H) (int_is _)⟩
 | min =>
   rcases minD_of w with ⟨x,rfl,w⟩ | ⟨x,y,rfl,w⟩
   ·obtain ⟨xs,rfl,ns,rfl,hn,w⟩:=listD_of w
    obtain ⟨v,rfl,i1⟩:=iss1 is
    obtain ⟨a,vs,rfl,h1,h2⟩:=is_lst i1
    cases ns with
    | nil=>exact absurd rfl hn
    | cons n ns =>
      obtain ⟨u,rfl,e1⟩:=vals1 r
      cases e1
      cases iss_ints h2
      exact call_min1 hc I ((minus_same H O).seq h1) (w _ _ (Same.refl H) (int_is _))
   ·obtain ⟨i,j,rfl,rfl,w⟩:=intD_of w
    obtain ⟨v,v',rfl,i1,i2⟩:=iss2 is;cases is_int i1;cases is_int i2
    exact call_min2 hc pins s τ H _ us Q I r ⟨_,_,rfl,w _ _ (Same.refl H) (int_is _)⟩
 | len =>
   obtain ⟨x,rfl,w⟩:=one1_of w
   obtain ⟨v,rfl,i1⟩:=iss1 is
   cases x <;> first | exact w.elim | skip
   ·obtain ⟨rfl,o1⟩:=is_str i1
    exact call_len_str pins s τ H _ us Q I r ⟨_,rfl,by rw [sizeLine_eq];exact w.1,w.2 _ _ (Same.refl H) (int_is _)⟩
   ·obtain ⟨a,vs,rfl,h1,h2⟩:=is_tup i1
    refine call_len_seq pins s τ H _ us Q I r ⟨a,vs,rfl,.inr ((sqt_mono (minus_same H O) h1)),?_⟩
    rw [h2.length]
    exact w _ _ (Same.refl H) (int_is _)
   ·obtain ⟨a,vs,rfl,h1,h2⟩:=is_lst i1
    refine call_len_seq pins s τ H _ us Q I r ⟨a,vs,rfl,.inl ((minus_same H O).seq h1),?_⟩
    rw [h2.length]
    exact w _ _ (Same.refl H) (int_is _)
 | int =>
   obtain ⟨x,rfl,w⟩:=one1_of w
   obtain ⟨v,rfl,i1⟩:=iss1 is
   cases x <;> first | exact w.elim | skip
   ·cases is_bl i1
    exact call_int1 pins s τ H _ us Q I r (.inr ⟨_,rfl,w _ _ (Same.refl H) (int_is _)⟩)
   ·cases is_int i1
    exact call_int1 pins s τ H _ us Q I r (.inl ⟨_,rfl,w _ _ (Same.refl H) (int_is _)⟩)
   ·obtain ⟨rfl,o1⟩:=is_str i1
    obtain ⟨n,⟨hl,hn⟩,w⟩:=w
    exact call_intS pins s τ H _ us Q I r ⟨_,n,rfl,by rw [sizeLine_eq];exact hl,hn,w _ _ (Same.refl H) (int_is _)⟩
 | str =>
   obtain ⟨x,rfl,w⟩:=one1_of w
   obtain ⟨v,rfl,i1⟩:=iss1 is
   cases x <;> first | exact w.elim | skip
   cases is_int i1
   exact call_str_int pins s τ H _ us Q I r ⟨_,rfl,w.1,w.2 _ _ (Same.refl H) (str_is (ofString_ok _))⟩
 | list =>
   obtain ⟨x,rfl,w⟩:=one1_of w
   obtain ⟨v,rfl,i1⟩:=iss1 is
   cases x <;> first | exact w.elim | skip
   ·obtain ⟨a,vs,rfl,h1,h2⟩:=is_tup i1
    exact call_list_of pins s τ H _ us Q I r ⟨a,vs,rfl,.inr ((sqt_mono (minus_same H O) h1)),fun l hl=>w _ _ (same_upd hl _) (lst_is (SqL.of (at_upd ho hl)) (Iss.minus_upd hl h2))⟩
   ·obtain ⟨a,vs,rfl,h1,h2⟩:=is_lst i1
    exact call_list_of pins s τ H _ us Q I r ⟨a,vs,rfl,.inl ((minus_same H O).seq h1),fun l hl=>w _ _ (same_upd hl _) (lst_is (SqL.of (at_upd ho hl)) (Iss.minus_upd hl h2))⟩
 | tuple =>
   obtain ⟨x,rfl,w⟩:=one1_of w
   obtain ⟨v,rfl,i1⟩:=iss1 is
   cases x <;> first | exact w.elim | skip
   ·obtain ⟨a,vs,rfl,h1,h2⟩:=is_tup i1
    exact call_tuple_of pins s τ H _ us Q I r ⟨a,vs,rfl,.inr ⟨(sqt_mono (minus_same H O) h1),w _ _ (Same.refl H) (tup_isT h1 h2)⟩⟩
   ·obtain ⟨a,vs,rfl,h1,h2⟩:=is_lst i1
    exact call_tuple_of pins s τ H _ us Q I r ⟨a,vs,rfl,.inl ⟨(minus_same H O).seq h1,fun l hl=>w _ _ (same_upd hl _) (tup_is (at_upd ho hl) (Iss.minus_upd hl h2))⟩⟩
 | sum =>
   obtain ⟨x,rfl,w⟩:=one1_of w
   obtain ⟨xs,rfl,w1⟩:=listD_of w
   obtain ⟨v,rfl,i1⟩:=iss1 is;obtain ⟨a,vs,rfl,h1,h2⟩:=is_lst i1
   obtain ⟨ns,rfl,w2⟩:=w1
   cases iss_ints h2
   exact call_sumD hc pins s τ H _ us Q I r ⟨a,ns,rfl,(minus_same H O).seq h1,w2 _ _ (Same.refl H) (int_is _)⟩
 | all =>
   obtain ⟨x,rfl,w⟩:=one1_of w
   obtain ⟨xs,rfl,w1⟩:=listD_of w
   obtain ⟨v,rfl,i1⟩:=iss1 is;obtain ⟨a,vs,rfl,h1,h2⟩:=is_lst i1
   obtain ⟨ns,rfl,w2⟩:=w1
   cases iss_bls h2
   exact call_allD hc pins s τ H _ us Q I r ⟨a,ns,rfl,(minus_same H O).seq h1,w2 _ _ (Same.refl H) (bl_is _)⟩
 | any =>
   obtain ⟨x,rfl,w⟩:=one1_of w
   obtain ⟨xs,rfl,w1⟩:=listD_of w
   obtain ⟨v,rfl,i1⟩:=iss1 is;obtain ⟨a,vs,rfl,h1,h2⟩:=is_lst i1
   obtain ⟨ns,rfl,w2⟩:=w1
   cases iss_bls h2
   exact call_anyD hc pins s τ H _ us Q I r ⟨a,ns,rfl,(minus_same H O).seq h1,w2 _ _ (Same.refl H) (bl_is _)⟩
theorem at_of {K:PySem.W.Frag} {S:Hp} {xs:List D} {vs:List V} {i:Int} {d:D} (is:Iss K S xs vs) (e:atD xs i=some d):∃ v,atI vs i=some v /\ Is K S d v:=by
 have hl:=is.length
 unfold atD at e
 unfold atI ixN
 by_cases h0:0<=i
 ·rw [if_pos h0] at e ⊢
  have hlt:i.toNat < xs.length:=by
   rcases Nat.lt_or_ge i.toNat xs.length with z | z
   ·exact z
   ·rw [List.getElem?_eq_none z] at e;cases e
  rw [if_pos (by lia)]
  exact is.get e
 ·rw [if_neg h0] at e ⊢
  by_cases h1:-(xs.length:Int)<=i
  ·rw [if_pos h1] at e
   rw [if_pos (by lia),hl]
   exact is.get e
  ·rw [if_neg h1] at e;cases e
theorem ix_D:IxR X (rD X.K ixD):=by
 intro value slice pins s τ H xv yv v u Q I rx ry w hs
 obtain ⟨O,x,y,ho,ix,iy,w⟩:=w
 unfold ixD at w
 split at w
 ·obtain ⟨a,vs,rfl,h1,h2⟩:=is_lst ix
  cases is_int iy
  obtain ⟨d,e,w⟩:=w
  obtain ⟨z,e1,e2⟩:=at_of h2 e
  exact L2.ix_list value slice pins s τ H _ _ v u Q I rx ry ⟨a,vs,_,z,rfl,rfl,(minus_same H O).seq h1,e1,w _ _ (Same.refl H) e2⟩ hs
 ·obtain ⟨a,vs,rfl,h1,h2⟩:=is_tup ix
  cases is_int iy
  obtain ⟨d,e,w⟩:=w
  obtain ⟨z,e1,e2⟩:=at_of h2 e
  exact L2.ix_tup value slice pins s τ H _ _ v u Q I rx ry ⟨a,vs,_,z,rfl,rfl,(sqt_mono (minus_same H O) h1),e1,w _ _ (Same.refl H) e2⟩ hs
 ·next z j =>
  obtain ⟨rfl,o1⟩:=is_str ix
  cases is_int iy
  obtain ⟨c,⟨hl,h0,hc⟩,w⟩:=w
  have hc':z.cps.toList[j.toNat]?=some c:=by simpa using hc
  refine L2.ix_str value slice pins s τ H _ _ v u Q I rx ry ⟨_,_,c,rfl,rfl,by rw [sizeLine_eq];exact hl,?_,w _ _ (Same.refl H) (str_is ?_)⟩ hs
  ·have hj:=(List.getElem?_eq_some_iff.mp hc').1
   unfold atI ixN
   rw [if_pos h0,if_pos (by omega)]
   exact hc'
  ·refine strOk_of (l:=[c]) fun d hd=>?_
   rw [List.mem_singleton.mp hd]
   exact strOk_mem o1 (List.mem_of_getElem? hc')
 ·exact w.elim
noncomputable def tyName:D->String
 | .non=>"NoneType"
 | .bl _=>"bool"
 | .int _=>"int"
 | .str _=>"str"
 | .tup _=>"tuple"
 | .lst _=>"list"
noncomputable def Ty.val:Ty->Value
 | .int=>.type "int"
 | .bool=>.type "bool"
 | .tuple=>.type "tuple"
 | .list=>.type "list"
 | .str=>.type "str"
theorem kit_ty (K:PySem.W.Frag) (d:D) (t:Ty):PySem.W.kitOne K (.type (tyName d)) t.val=some (tyD t d):=by
 cases d <;> cases t <;> with_unfolding_all rfl
theorem call_isi {t:Ty} {pins:List (Addr × Obj)} {s:Shared} {τ:L2.St} {H:Hp} {d:D} {v:V} {u:Value} {Q:Value->Shared->Prop} {E:Value->Shared->Prop} (I:Inv X pins τ H s) (i:Is X.K H d v) (r:RelV v u) (h:∀ tk,Q (.bool (tyD t d)) { s with toks:=tk }) :
 wpAny (model X.prog X.w) X.A (call (.builtin "isinstance") [u,t.val]) Q E s:=by
 have e:=kit_ty X.K d t
 cases d with
 | non=>cases is_non i;cases r;exact PySem.W.kia_one PySem.W.kitx_none I.kIn True.intro e (fun z=>nomatch z) h
 | bl b=>cases is_bl i;cases r;exact PySem.W.kia_one PySem.W.kitx_bool I.kIn True.intro e (fun z=>nomatch z) h
 | int n=>cases is_int i;obtain ⟨t,rfl⟩:=r;exact PySem.W.kia_one PySem.W.kitx_int I.kIn True.intro e (fun z=>nomatch z) h
 | str x=>obtain ⟨rfl,_⟩:=is_str i;obtain ⟨t,rfl⟩:=r;exact PySem.W.kia_one PySem.W.kitx_str I.kIn True.intro e (fun z=>nomatch z) h
 | tup xs =>
   obtain ⟨a,vs,rfl,h1,h2⟩:=is_tup i
   cases r
   obtain ⟨its,rv,⟨o,e1,e2,n,e3⟩,_⟩:=I.tuple h1
   exact PySem.W.kia_one PySem.W.kitx_tuple I.kIn ⟨o,e1,e2⟩ e (fun z=>nomatch z) h
 | lst xs =>
   obtain ⟨a,vs,rfl,h1,h2⟩:=is_lst i
   cases r
   obtain ⟨its,rv,pl,_⟩:=I.list h1
   obtain ⟨o,e1,e2,n,e3⟩:=pl.isList
   exact PySem.W.kia_one PySem.W.kitx_list I.kIn ⟨o,e1,e2⟩ e (fun z=>nomatch z) h
end
end Z
namespace Z
open PySem PySem.Spec PyProof.Rows L2
section
variable {X:Cx} {k:Ck} {C:Cfg}
theorem folded_of {e:Expr} (h:isSet e=false) (env:Env) (v:Value):foldedSetIterable e env v=pure v:=by
 cases e <;> first | rfl | exact Bool.noConfusion h
def Its (lo st:Int) (n:Nat):It:=⟨fun i _=>i < n,fun i H x H'=>H'=H /\ x=.int (lo + i * st),fun i _=>n<=i⟩
theorem turn_step {P:Program} {w:World} {K:PySem.W.Frag} {tg:Expr} (it:Addr) (lo st:Int) (n:Nat):Turn P w K tg (Its lo st n) [it] it (fun i h=>IsRangeIter h it (lo + (i:Nat) * st) ((n:Int) - (i:Nat)) st) where
 mem:=by simp
 obj:=fun i h s b hb=>by
  have e:b=it:=by simpa using hb
  subst e
  exact ⟨_,s,fun v z=>by
   have z':Data.fields _=Data.cell v:=z
   cases z'⟩
 keep:=fun i h h' s k=>k it (by simp) _ s
 item:=by
  intro X hP hw hK hc i pins s σ H E I hf s1 hg
  subst hP hw hK
  obtain ⟨f0,f1,f2,f3,f4,f5⟩:=hf it (by simp)
  have W:=Walks.range (prog:=X.prog) (w:=X.w) (I.ok.hd hc) it lo st n
  refine W.item i s _ _ hg s1 fun v h' tk hv s2 kk=>?_
  obtain ⟨t,rfl⟩:=hv
  have I1:Inv X pins σ H { s with heap:=h',toks:=tk }:=I.turned (fun b o hb e=>kk b o (by simpa using hb) e) f0 f1 f3 f4 f5
  exact ⟨_,rfl,go_of (s:={ s with heap:=h',toks:=tk }) (n:="range_iterator") s2 rfl rfl (by decide) ⟨.int (lo + i * st),H,I1,⟨t,rfl⟩,⟨rfl,rfl⟩,s2,fun b hb=>(hf b hb).1⟩⟩
 done:=by
  intro X hP hw hK hc i pins s σ H E I hf s1 hg
  subst hP hw hK
  obtain ⟨f0,f1,f2,f3,f4,f5⟩:=hf it (by simp)
  exact wpAny_pyNext_range_end (I.ok.hd hc) s1 (by have:n<=i:=hg;lia) fun h' eb=>⟨rfl,I.turned (t':=s.toks) (fun b o hb e=>eb b o hb e) f0 f1 f3 f4 f5⟩
 self:=fun _ _ _ _ _ s h=>wpAny_pyIter_rangeiter s h
theorem small_step {a b c:Int} (ha:RgOk a) (hb:RgOk b) (hc:0 < c) (hc2:c < 1000):Builtin.Range.small a b c=true:=by
 unfold Builtin.Range.small Builtin.Range.rangeSize
 unfold RgOk at ha hb
 have h1:(b - a - 1) / c * c<=b - a - 1:=Int.ediv_mul_le _ (by lia)
 have h2:a < b->0<=(b - a - 1) / c:=fun h=>Int.ediv_nonneg (by lia) (by lia)
 have h3:a < b->(b - a - 1) / c<=b - a - 1:=fun h=>Int.ediv_le_self _ (by lia)
 simp only [Builtin.Range.rangeFitsLong,Bool.and_eq_true,Bool.or_eq_true,decide_eq_true_eq,beq_iff_eq,show c > 0 from hc,if_true]
 by_cases h:a < b
 ·rw [if_pos h]
  generalize hq:(b - a - 1) / c=q at *
  have e:(q + 1) * c=q * c + c:=by rw [Int.add_mul,Int.one_mul]
  have h2':=h2 h
  have h3':=h3 h
  lia
 ·rw [if_neg h]
  lia
theorem step_it {tg:Expr} {pins:List (Addr × Obj)} {σ:L2.St} {H:Hp} {s:Shared} {R:It->Hp->Prop} {E:Value->Shared->Prop} {lo hi st:Int} {t u v:Tok} {tk:Nat} (I:Inv X pins σ H s) (h1:RgOk lo) (h2:RgOk hi) (h3:0 < st) (h4:st < 1000)
 (q:R (Its lo st (if lo < hi then (hi - lo - 1) / st + 1 else 0).toNat) H):wpAny (model X.prog X.w) X.A (pyIter (.ref s.heap.objs.size)) (PIE X pins σ tg R) E { s with heap:=s.heap.push { cls:=.type "range",data:=.fields #[.int lo t,.int hi u,.int st v] },toks:=tk }:=by
 refine wpAny_pyIter_range (IsRange.new ..) (small_step h1 h2 h3 h4) ?_
 have I1:Inv X pins σ H { s with heap:=s.heap.push { cls:=.type "range",data:=.fields #[.int lo t,.int hi u,.int st v] },toks:=tk }:=I.kept fun b o e=>Heap.get?_push_of_some _ e
 refine ⟨(s.heap.push { cls:=.type "range",data:=.fields #[.int lo t,.int hi u,.int st v] }).objs.size,[(s.heap.push { cls:=.type "range",data:=.fields #[.int lo t,.int hi u,.int st v] }).objs.size],_,_,H,rfl,
  I1.kept (t':=tk) fun b o e=>Heap.get?_push_of_some _ e,turn_step _ lo st (if lo < hi then (hi - lo - 1) / st + 1 else 0).toNat,?_,fun b hb=>?_,q⟩
 ·have e1:lo + ((0:Nat):Int) * st=lo:=by simp
  have e2:(((if lo < hi then (hi - lo - 1) / st + 1 else 0).toNat:Nat):Int) - ((0:Nat):Int)=Builtin.Range.rangeSize lo hi st:=by
   unfold Builtin.Range.rangeSize
   rw [if_pos h3]
   have:lo < hi->0<=(hi - lo - 1) / st:=fun h=>Int.ediv_nonneg (by lia) (by lia)
   split <;> lia
  show IsRangeIter _ _ (lo + ((0:Nat):Int) * st) ((((if lo < hi then (hi - lo - 1) / st + 1 else 0).toNat:Nat):Int) - ((0:Nat):Int)) st
  rw [e1,e2]
  exact Heap.get?_push_size _ rfl
 ·have e:b=(s.heap.push { cls:=.type "range",data:=.fields #[.int lo t,.int hi u,.int st v] }).objs.size:=by simpa using hb
  subst e
  exact I1.fpOk (Nat.le_refl _) (I1.hok.fresh (Nat.le_refl _))
def iRg (ta:TA):TI:=fun σ H R=>ta σ H fun vs H1=>∃ lo hi st:Int,(vs=[.int hi] /\ lo=0 /\ st=1 \/ vs=[.int lo,.int hi] /\ st=1 \/ vs=[.int lo,.int hi,.int st]) /\ (RgOk lo /\ RgOk hi /\ 0 < st /\ st < 1000) /\ R (Its lo st (if lo < hi then (hi - lo - 1) / st + 1 else 0).toNat) H1
theorem pi_rg {tg a:Expr} {as:List Expr} {ta:TA} {p pos:Pos} (hg:Gl X "range") (hm:X.mg "range"=none) (ha:PA X (a :: as) ta) (hs:starEach (a :: as) X.env=(false,eval a X.env) :: starEach as X.env) (hpl:(backTo pos (starEach as X.env)).any (·.1)=false):PI X tg (.Call (.Name "range" p) (a :: as) [] pos) (iRg ta):=by
 intro pins s σ H R I h
 refine Call_ (ld_blt I hg hm boot_range (PyProof.Rows.callWith_type1 (thn (ha pos pins s σ H _ I h) fun us s1 ⟨vs,H1,I1,r1,q1⟩=>?_) hs hpl))
 obtain ⟨lo,hi,st,e,⟨q1,q2,q3,q4⟩,q⟩:=q1
 rcases e with ⟨rfl,rfl,rfl⟩ | ⟨rfl,rfl⟩ | rfl
 ·cases r1 with
  | cons r rr =>
    cases rr
    obtain ⟨t,rfl⟩:=r
    exact call_range_1 (step_it I1 q1 q2 q3 q4 q)
 ·cases r1 with
  | cons r rr =>
    cases rr with
    | cons r' rr =>
      cases rr
      obtain ⟨t,rfl⟩:=r
      obtain ⟨t',rfl⟩:=r'
      exact call_range_2 (step_it I1 q1 q2 q3 q4 q)
 ·cases r1 with
  | cons r rr =>
    cases rr with
    | cons r' rr =>
      cases rr with
      | cons r'' rr =>
        cases rr
        obtain ⟨t,rfl⟩:=r
        obtain ⟨t',rfl⟩:=r'
        obtain ⟨t'',rfl⟩:=r''
        exact call_range_3 (by lia) (step_it I1 q1 q2 q3 q4 q) (.inl (PyProof.noPylong_small (by lia)))
theorem rangeD_get:∀ (n:Nat) (lo st:Int) (i:Nat),i < n->(rangeD lo st n)[i]?=some (.int (lo + i * st))
 | 0,lo,st,i,h=>by lia
 | n + 1,lo,st,0,h=>by simp [rangeD]
 | n + 1,lo,st,i + 1,h=>by
   simp only [rangeD,List.getElem?_cons_succ]
   rw [rangeD_get n (lo + st) st i (by lia)]
   congr 2
   have:((i + 1:Nat):Int) * st=i * st + st:=by rw [Int.natCast_add,Int.add_mul];simp
   lia
theorem rangeD_length:∀ (n:Nat) (lo st:Int),(rangeD lo st n).length=n
 | 0,lo,st=>rfl
 | n + 1,lo,st=>by simp [rangeD,rangeD_length n]
theorem rgD_of {K:PySem.W.Frag} {S:Hp} {ds:List D} {vs:List V} {P:List D->Prop} (i:Iss K S ds vs) (w:rgD ds P) :
 ∃ lo hi st:Int,(vs=[.int hi] /\ lo=0 /\ st=1 \/ vs=[.int lo,.int hi] /\ st=1 \/ vs=[.int lo,.int hi,.int st]) /\ (RgOk lo /\ RgOk hi /\ 0 < st /\ st < 1000) /\ P (rangeD lo st (if lo < hi then (hi - lo - 1) / st + 1 else 0).toNat):=by
 unfold rgD at w
 split at w
 ·next hi =>
  obtain ⟨v,rfl,i1⟩:=iss1 i
  cases is_int i1
  refine ⟨0,hi,1,.inl ⟨rfl,rfl,rfl⟩,⟨by unfold RgOk;lia,w.1,by decide,by decide⟩,?_⟩
  have e:(if (0:Int) < hi then (hi - 0 - 1) / 1 + 1 else 0).toNat=hi.toNat:=by
   rw [Int.ediv_one];split <;> lia
  rw [e];exact w.2
 ·next lo hi =>
  obtain ⟨v,v',rfl,i1,i2⟩:=iss2 i
  cases is_int i1;cases is_int i2
  refine ⟨lo,hi,1,.inr (.inl ⟨rfl,rfl⟩),⟨w.1.1,w.1.2,by decide,by decide⟩,?_⟩
  have e:(if lo < hi then (hi - lo - 1) / 1 + 1 else 0).toNat=(hi - lo).toNat:=by
   rw [Int.ediv_one];split <;> lia
  rw [e];exact w.2
 ·next lo hi st =>
  unfold Iss at i
  obtain ⟨v,r,rfl,i1,i⟩:=i
  obtain ⟨v',v'',rfl,i2,i3⟩:=iss2 i
  cases is_int i1;cases is_int i2;cases is_int i3
  exact ⟨lo,hi,st,.inr (.inr rfl),w.1,w.2⟩
 ·exact w.elim
def Itx (z:Str):It:=⟨fun i _=>i < z.cps.size,fun i H x H'=>H'=H /\ ∃ c,z.cps[i]?=some c /\ x=.str ⟨#[c]⟩,fun i _=>z.cps.size<=i⟩
theorem turn_text {P:Program} {w:World} {K:PySem.W.Frag} {tg:Expr} (it:Addr) (z:Str) (t:Tok) {n:String} (hn:n="str_ascii_iterator" \/ n="str_iterator"):Turn P w K tg (Itx z) [it] it (fun i h=>h.IsStrIter it n z t i) where
 mem:=by simp
 obj:=fun i h st b hb=>by
  have e:b=it:=by simpa using hb
  subst e
  obtain ⟨o,e,c,d⟩:=st
  exact ⟨o,e,fun v z=>by rw [d] at z;cases z⟩
 keep:=fun i h h' st k=>by
  obtain ⟨o,e,r⟩:=st
  exact ⟨o,k it (by simp) o e,r⟩
 item:=by
  intro X hP hw hK hc i pins s σ H E I hf st hg
  subst hP hw hK
  obtain ⟨f0,f1,f2,f3,f4,f5⟩:=hf it (by simp)
  have W:Walks X.prog X.w X.A it [it] [it] z.cps.size (SignAt z) (fun i h=>h.IsStrIter it n z t i):=by
   rcases hn with rfl | rfl
   ·exact Walks.strAscii (I.ok.hd hc) it z t
   ·exact Walks.strWide (I.ok.hd hc) it z t
  refine W.item i s _ _ hg st fun v h' tk hv st' kk=>?_
  obtain ⟨c,u,hc',rfl⟩:=hv
  have I1:Inv X pins σ H { s with heap:=h',toks:=tk }:=I.turned (fun b o hb e=>kk b o (by simpa using hb) e) f0 f1 f3 f4 f5
  obtain ⟨o,e,cl,d⟩:=id st'
  exact ⟨_,rfl,go_of (s:={ s with heap:=h',toks:=tk }) e cl d (by rcases hn with rfl | rfl <;> decide) ⟨.str ⟨#[c]⟩,H,I1,⟨_,rfl⟩,⟨rfl,c,hc',rfl⟩,st',fun b hb=>(hf b hb).1⟩⟩
 done:=by
  intro X hP hw hK hc i pins s σ H E I hf st hg
  subst hP hw hK
  obtain ⟨f0,f1,f2,f3,f4,f5⟩:=hf it (by simp)
  have hg':z.cps[i]?=none:=Array.getElem?_eq_none hg
  rcases hn with rfl | rfl
  ·exact wpAny_pyNext_ascii_end (I.ok.hd hc) st hg' fun h' eb=>⟨rfl,I.turned (t':=s.toks) (fun b o hb e=>eb b o hb e) f0 f1 f3 f4 f5⟩
  ·exact wpAny_pyNext_wide_end (I.ok.hd hc) st hg' fun h' eb=>⟨rfl,I.turned (t':=s.toks) (fun b o hb e=>eb b o hb e) f0 f1 f3 f4 f5⟩
 self:=fun _ _ _ _ _ st h=>by
  rcases hn with rfl | rfl
  ·exact wpAny_pyIter_striter_ascii st h
  ·exact wpAny_pyIter_striter_wide st h
def Wlk (K:PySem.W.Frag) (x:V) (H:Hp) (J:It):Prop:=(∃ a,x=.ref a /\ ((∃ xs,SqL K H a xs) /\ J=Itl K a \/ (∃ xs,SqT K H a xs) /\ J=Itt K a)) \/ ∃ z,x=.str z /\ J=Itx z
def iSeq (K:PySem.W.Frag) (tl:TE):TI:=fun σ H R=>tl σ H fun x H1=>∃ J,Wlk K x H1 J /\ R J H1
theorem pi_seq {tg l:Expr} {tl:TE} (hl:PE X l tl):PI X tg l (iSeq X.K tl):=by
 intro pins s σ H R I h
 refine thn (hl pins s σ H _ I h) fun v s1 ⟨x,H1,I1,r1,J,hw,q⟩=>?_
 have fp:∀ b ∈ [s1.heap.objs.size],FpOk X pins H1 b:=fun b hb=>by
  have e:b=s1.heap.objs.size:=by simpa using hb
  subst e
  exact I1.fpOk (Nat.le_refl _) (I1.hok.fresh (Nat.le_refl _))
 rcases hw with ⟨a,rfl,⟨⟨xs,hq⟩,rfl⟩ | ⟨⟨xs,hq⟩,rfl⟩⟩ | ⟨z,rfl,rfl⟩
 ·cases r1
  obtain ⟨its,rv,p,hz⟩:=I1.list hq
  exact wpAny_pyIter_list p.isList ⟨s1.heap.objs.size,[s1.heap.objs.size],_,_,H1,rfl,I1.kept (t':=s1.toks) fun b o e=>Heap.get?_push_of_some _ e,turn_list a _,⟨_,Heap.get?_push_size _ rfl,rfl,rfl⟩,fp,q⟩
 ·cases r1
  obtain ⟨its,rv,p,hz⟩:=I1.tuple hq
  exact wpAny_pyIter_tuple (show s1.heap.IsTuple a its.toArray from p) ⟨s1.heap.objs.size,[s1.heap.objs.size],_,_,H1,rfl,I1.kept (t':=s1.toks) fun b o e=>Heap.get?_push_of_some _ e,turn_tuple a _,⟨_,Heap.get?_push_size _ rfl,rfl,rfl⟩,fp,q⟩
 ·obtain ⟨t,rfl⟩:=r1
  cases ha:z.cps.all (· < 128)
  ·exact wpAny_pyIter_wide ha ⟨s1.heap.objs.size,[s1.heap.objs.size],_,_,H1,rfl,I1.kept (t':=s1.toks) fun b o e=>Heap.get?_push_of_some _ e,turn_text _ z t (.inr rfl),⟨_,Heap.get?_push_size _ rfl,rfl,rfl⟩,fp,q⟩
  ·exact wpAny_pyIter_ascii ha ⟨s1.heap.objs.size,[s1.heap.objs.size],_,_,H1,rfl,I1.kept (t':=s1.toks) fun b o e=>Heap.get?_push_of_some _ e,turn_text _ z t (.inl rfl),⟨_,Heap.get?_push_size _ rfl,rfl,rfl⟩,fp,q⟩
theorem walk_of {K:PySem.W.Frag} {d:D} {xs:List D} {v:V} {H1:Hp} {O:List Addr} (e:itemsD d=some xs) (i:Is K (minus H1 O) d v):∃ J,Wlk K v H1 J /\
 (∀ j H O',Same (minus H1 O) (minus H O')->j < xs.length->J.go j H) /\ (∀ j H O',Same (minus H1 O) (minus H O')->xs.length<=j->J.stop j H) /\
 (∀ j H O' v H' d,Same (minus H1 O) (minus H O')->J.yld j H v H'->xs[j]?=some d->H'=H /\ Is K (minus H O') d v):=by
 cases d with
 | lst ys =>
   cases e
   obtain ⟨a,vs,rfl,h5,h6⟩:=is_lst i
   have hl:=h6.length
   have sq:∀ {H:Hp} {O':List Addr},Same (minus H1 O) (minus H O')->SqL K H a vs:=fun sm=>(minus_same _ _).seq (sm.seq h5)
   refine ⟨_,.inl ⟨a,rfl,.inl ⟨⟨vs,(minus_same _ _).seq h5⟩,rfl⟩⟩,?_,?_,?_⟩
   ·intro j H O' sm hj
    exact ⟨vs,vs[j],sq sm,List.getElem?_eq_getElem (by omega)⟩
   ·intro j H O' sm hj
    exact ⟨vs,sq sm,by omega⟩
   ·intro j H O' v H' d sm y hd
    obtain ⟨e2,y⟩:=y
    obtain ⟨z,e3,e4⟩:=h6.get hd
    have:=y vs (sq sm)
    rw [e3] at this
    cases this
    exact ⟨e2,Is.mono sm d e4⟩
 | tup ys =>
   cases e
   obtain ⟨a,vs,rfl,h5,h6⟩:=is_tup i
   have hl:=h6.length
   have sq:∀ {H:Hp} {O':List Addr},Same (minus H1 O) (minus H O')->SqT K H a vs:=fun sm=>sqt_mono (minus_same _ _) (sqt_mono sm h5)
   refine ⟨_,.inl ⟨a,rfl,.inr ⟨⟨vs,(sqt_mono (minus_same _ _) h5)⟩,rfl⟩⟩,?_,?_,?_⟩
   ·intro j H O' sm hj
    exact ⟨vs,vs[j],sq sm,List.getElem?_eq_getElem (by omega)⟩
   ·intro j H O' sm hj
    exact ⟨vs,sq sm,by omega⟩
   ·intro j H O' v H' d sm y hd
    obtain ⟨e2,y⟩:=y
    obtain ⟨z,e3,e4⟩:=h6.get hd
    have:=y vs (sq sm)
    rw [e3] at this
    cases this
    exact ⟨e2,Is.mono sm d e4⟩
 | str x =>
   cases e
   obtain ⟨rfl,ok⟩:=is_str i
   refine ⟨_,.inr ⟨x,rfl,rfl⟩,?_,?_,?_⟩
   ·intro j H O' sm hj
    rw [List.length_map] at hj
    exact hj
   ·intro j H O' sm hj
    rw [List.length_map] at hj
    exact hj
   ·rintro j H O' v H' d sm ⟨e2,c,hc,rfl⟩ hd
    rw [List.getElem?_map,Array.getElem?_toList,hc] at hd
    cases hd
    exact ⟨e2,str_is (strOk_of (l:=[c]) fun c' h'=>by rw [List.mem_singleton.mp h'];exact strOk_mem ok (Array.mem_toList_iff.mpr (Array.mem_of_getElem? hc)))⟩
 | _=>cases e
theorem getS_append {σ:Sto} {z:Option Sl}:∀ (i:Nat),getS (σ ++ [z]) i=if i < σ.length then getS σ i else if i=σ.length then z else none:=by
 induction σ with
 | nil =>
   intro i
   cases i with
   | zero=>rfl
   | succ i=>simp [getS]
 | cons a r ih =>
   intro i
   cases i with
   | zero=>simp [getS]
   | succ i =>
     show getS (r ++ [z]) i=_
     rw [ih i]
     simp only [List.length_cons,Nat.add_lt_add_iff_right,Nat.add_right_cancel_iff]
     rfl
theorem Reps.snoc {K:PySem.W.Frag} {O:List Addr} {H:Hp} {σ:Sto} {τ:L2.St} {d:D} {v:V} (R:Reps K O H σ τ) (h:Is K (minus H O) d v):Reps K O H (σ ++ [some (.sh d)]) (τ ++ [some v]) where
 len:=by simp [R.len]
 own:=R.own
 sh:=fun i e g=>by
  rw [getS_append] at g
  split at g
  ·next hi =>
   obtain ⟨u,e1,e2⟩:=R.sh i e g
   exact ⟨u,by rw [List.getElem?_append_left (by rw [<- R.len];exact hi)];exact e1,e2⟩
  ·split at g
   ·next hi =>
    cases g
    subst hi
    exact ⟨v,by rw [List.getElem?_append_right (by rw [R.len];exact Nat.le_refl _),R.len];simp,h⟩
   ·cases g
 ow:=fun i ds g=>by
  rw [getS_append] at g
  split at g
  ·next hi =>
   obtain ⟨a,vs,e1,e2⟩:=R.ow i ds g
   exact ⟨a,vs,by rw [List.getElem?_append_left (by rw [<- R.len];exact hi)];exact e1,e2⟩
  ·split at g <;> cases g
 dj:=fun i j ds es hij g1 g2=>by
  rw [getS_append] at g1 g2
  split at g1
  ·next hi =>
   split at g2
   ·next hj =>
    rw [List.getElem?_append_left (by rw [<- R.len];exact hi),List.getElem?_append_left (by rw [<- R.len];exact hj)]
    exact R.dj i j ds es hij g1 g2
   ·split at g2 <;> cases g2
  ·split at g1 <;> cases g1
 tt:=by
  have old:∀ j z,getS (σ ++ [some (.sh d)]) j=some z->(∀ d,z ≠ .sh d)->getS σ j=some z /\ (τ ++ [some v])[j]?=τ[j]?:=fun j z g n=>by
   rw [getS_append] at g
   split at g
   ·next hj=>exact ⟨g,List.getElem?_append_left (by rw [<- R.len];exact hj)⟩
   ·split at g
    ·cases g;exact absurd rfl (n _)
    ·cases g
  exact R.tt.step (fun j rows g=>old j _ g fun _ z=>nomatch z) (fun _ _ _ _ _ _ _ t=>t) fun _ _ _ _ j ds b _ _ g q=>by
   obtain ⟨g1,e⟩:=old j _ g fun _ z=>nomatch z
   exact .inl ⟨ds,g1,by rw [<- e];exact q⟩
theorem Iss.snoc {K:PySem.W.Frag} {S:Hp} {ds:List D} {vs:List V} {d:D} {v:V} (h:Iss K S ds vs) (g:Is K S d v):Iss K S (ds ++ [d]) (vs ++ [v]) :=
 h.append (by unfold Iss;exact ⟨v,[],rfl,g,by unfold Iss;rfl⟩)
theorem comp_turnsGF {K:PySem.W.Frag} {J:It} {xs:List D} {e:Ex} {τ:L2.St} {H1:Hp} {σ:Sto} {O:List Addr} {Q:VK} (R1:Reps K O H1 σ τ) (hx:xs.length<=lim)
 (hgo:∀ j H,Same H1 H->j < xs.length->J.go j H) (hst:∀ j H,Same H1 H->xs.length<=j->J.stop j H)
 (hy:∀ j H v H' d,Same H1 H->J.yld j H v H'->xs[j]?=some d->Same H H' /\ Is K (minus H' O) d v)
 (w:compL (fun d Q=>wpE C e (σ ++ [some (.sh d)]) Q) xs fun ys=>WdF K O H1 Q (.lst ys)) :
 ∃ W:Nat->Nat->List V->Hp->Prop,(∃ m,W 0 m [] H1) /\ ∀ i m ys H,W i m ys H ->
   (J.stop i H /\ ys.length<=sizeLine /\ ∀ p,H p=none->Q (.ref p) (upd H p (.lst ys))) \/ (J.go i H /\ ys.length < sizeLine /\ ∀ x H',J.yld i H x H'->tD K C e (τ ++ [some x]) H' fun y H2=>∃ m',m' < m /\ W (i + 1) m' (ys ++ [y]) H2):=by
 refine ⟨fun j m ys H=>m=xs.length - j /\ j<=xs.length /\ Same H1 H /\ ∃ ds,ds.length=j /\ Iss K (minus H O) ds ys /\ compL (fun d Q=>wpE C e (σ ++ [some (.sh d)]) Q) (xs.drop j) fun rest=>WdF K O H1 Q (.lst (ds ++ rest)),
  ⟨_,rfl,Nat.zero_le _,Same.refl _,[],rfl,by unfold Iss;rfl,by simpa using w⟩,?_⟩
 rintro j m ys H ⟨rfl,hj,sm,ds,hd,is,w⟩
 have hl:ys.length=j:=by rw [is.length,hd]
 have R:=R1.mono sm
 have hlim:lim<=sizeLine:=by decide
 by_cases hlt:j < xs.length
 ·refine .inr ⟨hgo j H sm hlt,by lia,fun x H' y=>?_⟩
  obtain ⟨e1,ix⟩:=hy j H x H' xs[j] sm y (List.getElem?_eq_getElem hlt)
  rw [List.drop_eq_getElem_cons hlt] at w
  rw [compL] at w
  refine ⟨_,O,(R.mono e1).snoc ix,wpE_mono e (fun yd wy v H2 s2 i2=>?_) w⟩
  refine ⟨xs.length - (j + 1),by lia,rfl,hlt,(sm.trans e1).trans s2,ds ++ [yd],by simp [hd],(Iss.mono (minus_mono (e1.trans s2)) ds is).snoc i2,?_⟩
  simpa using wy
 ·have e1:j=xs.length:=by lia
  refine .inl ⟨hst _ H sm (by lia),by lia,fun p hp=>?_⟩
  rw [List.drop_eq_nil_of_le (by lia)] at w
  rw [compL] at w
  rw [List.append_nil] at w
  have h1:H1 p=none:=by
   cases q:H1 p with
   | none=>rfl
   | some o=>rw [sm p o q] at hp;cases hp
  exact w ds p _ ys rfl (sm.trans (same_upd hp _)) h1 (upd_same ..) (Iss.mono (same_fresh (same_upd hp _) hp) ds is)
theorem comp_turnsG {K:PySem.W.Frag} {J:It} {xs:List D} {e:Ex} {τ:L2.St} {H1:Hp} {σ:Sto} {O:List Addr} {Q:VK} (R1:Reps K O H1 σ τ) (hx:xs.length<=lim)
 (hgo:∀ j H,Same H1 H->j < xs.length->J.go j H) (hst:∀ j H,Same H1 H->xs.length<=j->J.stop j H)
 (hy:∀ j H v H' d,Same H1 H->J.yld j H v H'->xs[j]?=some d->Same H H' /\ Is K (minus H' O) d v)
 (w:compL (fun d Q=>wpE C e (σ ++ [some (.sh d)]) Q) xs fun ys=>Wd K O H1 Q (.lst ys)) :
 ∃ W:Nat->Nat->List V->Hp->Prop,(∃ m,W 0 m [] H1) /\ ∀ i m ys H,W i m ys H ->
   (J.stop i H /\ ys.length<=sizeLine /\ ∀ p,H p=none->Q (.ref p) (upd H p (.lst ys))) \/ (J.go i H /\ ys.length < sizeLine /\ ∀ x H',J.yld i H x H'->tD K C e (τ ++ [some x]) H' fun y H2=>∃ m',m' < m /\ W (i + 1) m' (ys ++ [y]) H2) :=
 comp_turnsGF R1 hx hgo hst hy (compL_mono (f:=fun d Q=>wpE C e (σ ++ [some (.sh d)]) Q) (fun d _ _ hq=>wpE_mono e hq) _ (fun ys wy=>wy.wdF R1.own) w)
theorem comp_turns {K:PySem.W.Frag} {J:It} {xs:List D} {e:Ex} {τ:L2.St} {H1:Hp} {σ:Sto} {O:List Addr} {Q:VK} (R1:Reps K O H1 σ τ) (hx:xs.length<=lim)
 (hgo:∀ j H,Same H1 H->j < xs.length->J.go j H) (hst:∀ j H,Same H1 H->xs.length<=j->J.stop j H)
 (hy:∀ j H v H' d,Same H1 H->J.yld j H v H'->xs[j]?=some d->H'=H /\ Is K (minus H O) d v)
 (w:compL (fun d Q=>wpE C e (σ ++ [some (.sh d)]) Q) xs fun ys=>Wd K O H1 Q (.lst ys)) :
 ∃ W:Nat->Nat->List V->Hp->Prop,(∃ m,W 0 m [] H1) /\ ∀ i m ys H,W i m ys H ->
   (J.stop i H /\ ys.length<=sizeLine /\ ∀ p,H p=none->Q (.ref p) (upd H p (.lst ys))) \/ (J.go i H /\ ys.length < sizeLine /\ ∀ x H',J.yld i H x H'->tD K C e (τ ++ [some x]) H' fun y H2=>∃ m',m' < m /\ W (i + 1) m' (ys ++ [y]) H2) :=
 comp_turnsG R1 hx hgo hst (fun j H v H' d s y e=>by obtain ⟨q,i⟩:=hy j H v H' d s y e;subst q;exact ⟨Same.refl _,i⟩) w
end
end Z
namespace Z
open PySem PySem.Spec PyProof.Rows L2
def blts:List Str:=["abs","max","min","len","int","list","isinstance","range","bool","tuple","str","sum","all","zip","any","divmod","reversed","sorted","enumerate"]
structure Ok (X:Cx) (k:Ck) (C:Cfg):Prop where
 N:X.N=k.N
 nd:X.N.Nodup
 names:X.env.scope.names=k.names
 kd:X.env.scope.kind=.function
 calm:X.calm=true
 xe:X.xe=fun _ _=>False
 units:X.A.units + 100 < cLine
 fns:∀ i x n,k.fns[i]?=some (x,n)->∃ f fd ps lv,FnOk X.prog X.w X.K X.mg X.base (CXz X.prog X.w X.mg) lv f fd ps (spD X.K n (C.fr i) (C.f2 i) (C.ct i)) /\ Room lv X.A /\ X.mg x=some (.ref f) /\ PySem.W.keepIn X.K (.ref f)=true /\ Binds X.K fd ps []
 cns:∀ i x,k.cns[i]?=some x->∃ u v,X.mg x=some u /\ RelV v u /\ ∀ S,Is X.K S (C.cn i) v
 blt:∀ x ∈ blts,X.mg x=none
 E:∀ x,¬ C.E x
def PJ (X:Cx) (C:Cfg) (xs:List Ex) (es:List Expr):Prop:=∀ (pins:List (Addr × Obj)) (s:Shared) (τ:L2.St) (H:Hp) (out:List Nat) (Q:VK),Inv X pins τ H s->out.length<=sizeLine ->
 (∃ σ O,Reps X.K O H σ τ /\ wpFs C xs out σ fun l=>∀ H',Same H H'->Q (.str ⟨l.toArray⟩) H')->wpAny (model X.prog X.w) X.A (joinParts ⟨out.toArray⟩ (evalEach es X.env)) (EP X pins τ Q) X.xe s
section
variable {X:Cx} {k:Ck} {C:Cfg}
theorem star_of {x:Ex} {e:Expr} (h:chkE k x e=true) (es:List Expr) (env:Env):starEach (e :: es) env=(false,eval e env) :: starEach es env:=by
 have p:=chk_plain h
 cases e <;> first | rfl | exact Bool.noConfusion p
theorem plain_of:∀ {xs:List Ex} {es:List Expr} (h:chkEs k xs es=true) (pos:Pos) (env:Env),(backTo pos (starEach es env)).any (·.1)=false
 | [],es,h,pos,env=>by rw [chkEs_nil h];rfl
 | x :: xs,es,h,pos,env=>by
   obtain ⟨y,ys,rfl,h1,h2⟩:=chkEs_cons h
   rw [star_of h1]
   have:=plain_of h2 pos env
   simpa [backTo] using this
theorem len_of:∀ {xs:List Ex} {es:List Expr} (h:chkEs k xs es=true),xs.length=es.length
 | [],es,h=>by rw [chkEs_nil h];rfl
 | x :: xs,es,h=>by
   obtain ⟨y,ys,rfl,h1,h2⟩:=chkEs_cons h
   simp [len_of h2]
theorem wpEs_len {C:Cfg}:∀ (es:List Ex) {σ:Sto} {Q:List D->Prop},wpEs C es σ Q->wpEs C es σ fun ds=>ds.length=es.length /\ Q ds
 | [],σ,Q,w=>by unfold wpEs at *;exact ⟨rfl,w⟩
 | e :: es,σ,Q,w=>by
   unfold wpEs at *
   exact wpE_mono e (fun d wd=>wpEs_mono es (fun ds ⟨h1,h2⟩=>⟨by simp [h1],h2⟩) (wpEs_len es wd)) w
theorem Ok.vis (ok:Ok X k C) {i:Nat} {x:Str} (h:k.loc i x=true):X.N[i]?=some x /\ L2.Loc X.env.scope x /\ (x == ("__debug__":Str))=false /\ (x == ("__classdict__":Str))=false:=by
 unfold Ck.loc at h
 simp only [Bool.and_eq_true,Bool.or_eq_true,decide_eq_true_eq,Bool.not_eq_true'] at h
 obtain ⟨⟨⟨h1,h2⟩,h3⟩,h4⟩:=h
 refine ⟨by rw [ok.N];exact h1,?_,h3,h4⟩
 unfold L2.Loc
 rw [ok.names]
 exact h2
theorem Ok.gl (ok:Ok X k C) {x:Str} (h:k.gl x=true):Gl X x /\ (x == ("__debug__":Str))=false /\ x ≠ ("__name__":Str):=by
 unfold Ck.gl at h
 simp only [Bool.and_eq_true,decide_eq_true_eq,Bool.not_eq_true'] at h
 exact ⟨by unfold Gl Env.kindOf;rw [ok.names];exact h.1.1,h.1.2,h.2⟩
theorem loc_vis {sc:Scope} {x:Str} (h:L2.Loc sc x):Vis sc x:=h.elim .inl fun z=>.inr (.inl z)
theorem tD_two {a b:Ex} {f:D->D->(D->Prop)->Prop} (hm:∀ {x y:D} {Q Q':D->Prop},(∀ d,Q d->Q' d)->f x y Q->f x y Q') {τ:L2.St} {H:Hp} {Q:VK} {σ:Sto} {O:List Addr} {K:PySem.W.Frag} (R:Reps K O H σ τ)
 (w:wpE C a σ fun x=>wpE C b σ fun y=>f x y (Wd K O H Q)):tOp (rD K f) (tD K C a) (tD K C b) τ H Q :=
 ⟨σ,O,R,wpE_mono a (fun x wx xv H1 s1 i1=>⟨σ,O,R.mono s1,wpE_mono b (fun y wy yv H2 s2 i2=>⟨O,x,y,(R.mono (s1.trans s2)).own,Is.mono (minus_mono s2) x i1,i2,hm (fun d=>Wd.mono (s1.trans s2)) wy⟩) wx⟩) w⟩
theorem tD_chain {a b c:Ex} {o p:COp} {τ:L2.St} {H:Hp} {Q:VK} {σ:Sto} {O:List Addr} {K:PySem.W.Frag} (R:Reps K O H σ τ) (w:wpE C (.chain o p a b c) σ (Wd K O H Q)) :
 tChain (rD K (cmpD o)) (rD K (cmpD p)) (tD K C a) (tD K C b) (tD K C c) τ H Q:=by
 unfold wpE at w
 refine ⟨σ,O,R,wpE_mono a (fun x wx xv H1 s1 i1=>⟨σ,O,R.mono s1,wpE_mono b (fun y wy yv H2 s2 i2=>⟨O,x,y,(R.mono (s1.trans s2)).own,Is.mono (minus_mono s2) x i1,i2,cmpD_mono (fun z wz zv H3 s3 i3=>?_) wy⟩) wx⟩) w⟩
 cases z with
 | bl k =>
   refine ⟨k,is_bl i3,?_⟩
   have s13:=s1.trans (s2.trans s3)
   cases k with
   | true=>exact ⟨σ,O,R.mono s13,wpE_mono c (fun u wu uv H4 s4 i4=>⟨O,y,u,(R.mono (s13.trans s4)).own,Is.mono (minus_mono (s3.trans s4)) y i2,i4,cmpD_mono (fun d=>Wd.mono (s13.trans s4)) wu⟩) wz⟩
   | false=>exact wz _ _ s13 (bl_is _)
 | _=>exact wz.elim
theorem tD_test {x:Ex} {τ:L2.St} {H:Hp} {Q:Bool->Hp->Prop} {K:PySem.W.Frag} (h:tDT K C x τ H Q):tB (tD K C x) τ H Q:=by
 obtain ⟨σ,O,R,w⟩:=h
 refine ⟨σ,O,R,wpE_mono x (fun d wd v H1 s1 i1=>?_) w⟩
 cases d with
 | bl c=>exact ⟨c,is_bl i1,wd H1 s1⟩
 | _=>exact wd.elim
def mtI (x:V) (xs:List V) (H:Hp) (Q:VK):Prop:=xs=[] /\ ∃ i,x=.int i /\ Q (.int (bits i)) H
theorem mt_bits':MtR X "int.bit_length" mtI:=by
 rintro pins s τ H x xs v us Q I rx rs ⟨rfl,i,rfl,q⟩
 cases rs
 obtain ⟨t,rfl⟩:=rx
 exact call_int_bit_length ⟨.int _,H,I.tok _,⟨_,rfl⟩,q⟩
def isiR (K:PySem.W.Frag) (t:Ty) (n:String) (vs:List V) (H:Hp) (Q:VK):Prop:=∃ O d v,vs=[v,.ty n] /\ Is K (minus H O) d v /\ Wd K O H Q (.bl (tyD t d))
noncomputable def Ty.s:Ty->String
 | .int=>"int"
 | .bool=>"bool"
 | .tuple=>"tuple"
 | .list=>"list"
 | .str=>"str"
theorem call_isiR {t:Ty}:CallR X (.builtin "isinstance") (isiR X.K t t.s):=by
 rintro pins s τ H vs us Q I r ⟨O,d,v,rfl,i,w⟩
 obtain ⟨u,w',rfl,r1,r2⟩:=vals2 r
 have e:w'=t.val:=by
  have r2':w'=Value.type t.s:=r2
  rw [r2'];cases t <;> rfl
 subst e
 exact call_isi I (Is.mono (minus_same H O) d i) r1 fun tk=>fin_ep (I.tok tk) w (bl_is _) rfl
theorem ty_boot (t:Ty):bootBuiltins t.nm=some (.type t.s):=by
 cases t
 ·exact PyProof.Rows.boot_int
 ·exact PyProof.Rows.boot_bool
 ·exact PyProof.Rows.boot_tuple
 ·exact PyProof.Rows.boot_list
 ·exact PyProof.Rows.boot_str
theorem ty_blt (t:Ty):t.nm ∈ blts:=by cases t <;> decide
theorem bi_blt (f:Bi):f.nm ∈ blts:=by cases f <;> decide
theorem noMark {op:CmpOp} {x:Ex} {e:Expr} (h:chkE k x e=true):behindInMarks op e=false:=by
 have p:=chk_plain h
 cases e <;> first | rfl | exact Bool.noConfusion p
theorem ixPlain {e:Expr} (h:isSlice e=false):PlainIx e:=by
 intro o i
 cases e <;> first | rfl | (exact Bool.noConfusion h)
theorem basePlain {o:Expr} {n:Str} {env:Env} (h:plainO o=true):attributeBase o n env (eval o env)=eval o env:=by
 unfold attributeBase
 split
 ·exact Bool.noConfusion h
 ·rfl
theorem pt_leaf {x:Ex} {e:Expr} (p:PE X e (tD X.K C x)) (he:∀ whole,isTrue e X.env whole=(do let v <- whole;standAt e.pos;holding [v] (truthy v))):PT X e (tDT X.K C x):=PT.imp (fun _ _ _=>tD_test) (pt_val p he)
theorem pw_of {op:BoolOp} {vs:List Expr} {pos:Pos} {t:TT} (h:PT X (.BoolOp op vs pos) t):PW X (.BoolOp op vs pos) t:=fun whole pins s τ H Q I w=>h pins s τ H Q I w
noncomputable def clOf (cells:List (Str × Addr)):List (Str × NameKind)->List (Str × Addr)->List (Str × Addr)
 | [],cs=>cs
 | (n,kd) :: r,cs=>clOf cells r (if kd == .free then (match cells.lookup n with | some c=>(n,c) :: cs | none=>cs) else cs)
theorem clOf_sub {cells:List (Str × Addr)}:∀ (l:List (Str × NameKind)) (cs:List (Str × Addr)),(∀ y c,(y,c) ∈ cs->cells.lookup y=some c)->∀ y c,(y,c) ∈ clOf cells l cs->cells.lookup y=some c
 | [],cs,h,y,c,m=>h y c m
 | (n,kd) :: r,cs,h,y,c,m=>by
   refine clOf_sub r _ (fun z d hz=>?_) y c m
   split at hz
   ·split at hz
    ·next q =>
     rcases List.mem_cons.mp hz with e | e
     ·cases e;exact q
     ·exact h z d e
    ·exact h z d hz
   ·exact h z d hz
theorem clOf_old {cells:List (Str × Addr)}:∀ (l:List (Str × NameKind)) (cs:List (Str × Addr)) (z:Str × Addr),z ∈ cs->z ∈ clOf cells l cs
 | [],cs,z,h=>h
 | (n,kd) :: r,cs,z,h=>by
   refine clOf_old r _ z ?_
   split
   ·split
    ·exact List.mem_cons_of_mem _ h
    ·exact h
   ·exact h
theorem clOf_has {cells:List (Str × Addr)}:∀ (l:List (Str × NameKind)) (cs:List (Str × Addr)) (y:Str) (c:Addr),(y,.free) ∈ l->cells.lookup y=some c->(y,c) ∈ clOf cells l cs
 | [],cs,y,c,h,e=>nomatch h
 | (n,kd) :: r,cs,y,c,h,e=>by
   rcases List.mem_cons.mp h with z | z
   ·cases z
    refine clOf_old r _ _ ?_
    simp only [beq_self_eq_true,if_true,e]
    exact List.mem_cons_self ..
   ·exact clOf_has r _ y c z e
theorem lookup_mem {α:Type} {l:List (Str × α)} {y:Str} {c:α} (h:l.lookup y=some c):(y,c) ∈ l:=PySem.mem_of_lookup h
theorem mem_lookup {α:Type} {l:List (Str × α)} {y:Str} {c:α} (h:(y,c) ∈ l):∃ d,l.lookup y=some d:=by
 induction l with
 | nil=>cases h
 | cons a r ih =>
   obtain ⟨n,b⟩:=a
   by_cases e:y=n
   ·subst e;exact ⟨b,by simp [List.lookup_cons]⟩
   ·rcases List.mem_cons.mp h with z | z
    ·cases z;exact absurd rfl e
    ·obtain ⟨d,q⟩:=ih z
     refine ⟨d,?_⟩
     have:(y == n)=false:=by simpa using e
     rw [List.lookup_cons,this];exact q
theorem clos_of {env:Env} {sc:Scope} (h:∀ y ∈ sc.names,y.2=.free->∃ c,env.cells.lookup y.1=some c):closureFor sc env=pure (clOf env.cells sc.names []):=by
 simp only [closureFor]
 generalize ([]:List (Str × Addr))=cs
 generalize sc.names=l at h
 induction l generalizing cs with
 | nil=>rfl
 | cons a r ih =>
   obtain ⟨n,kd⟩:=a
   have ih':=fun cs=>ih cs fun y hy=>h y (List.mem_cons_of_mem _ hy)
   rw [List.forIn_cons]
   by_cases e:kd=.free
   ·subst e
    obtain ⟨c,hc⟩:=h (n,.free) (List.mem_cons_self ..) rfl
    have e1:cellOf env n=pure c:=by unfold cellOf;rw [hc]
    simp only [beq_self_eq_true,if_true,e1,clOf]
    rw [hc]
    exact ih' _
   ·have e1:(kd == NameKind.free)=false:=by simpa using e
    simp only [e1,Bool.false_eq_true,if_false,clOf]
    exact ih' _
theorem Ok.rel (ok:Ok X k C) (sc:Scope):(relabel sc X.env).names=relab sc.names k.names:=by
 unfold relabel relab Env.kindOf
 rw [ok.names,ok.kd]
 simp
theorem Ok.comp_nE (ok:Ok X k C) {x:Str} {sc:Scope} (h:compCk k x sc=true):dum X.N ∉ X.N:=by
 unfold compCk at h
 simp only [Bool.and_eq_true,Bool.not_eq_true',List.contains_eq_mem,decide_eq_false_iff_not] at h
 rw [ok.N]
 exact h.2
theorem relab_of {names out:List (Str × NameKind)} {y:Str} {kd:NameKind} (h:(relab names out).lookup y=some kd):∃ kd',(y,kd') ∈ names /\ (kd=kd' \/ (kd'=.free /\ kd=.cell)):=by
 have m:=lookup_mem h
 unfold relab at m
 obtain ⟨⟨n,q⟩,hq,e⟩:=List.mem_map.mp m
 simp only at e
 split at e
 ·next hc =>
  simp only [Bool.and_eq_true,beq_iff_eq] at hc
  cases e
  exact ⟨q,hq,.inr ⟨hc.1,rfl⟩⟩
 ·cases e
  exact ⟨kd,hq,.inl rfl⟩
theorem Ok.comp (ok:Ok X k C) {x:Str} {sc:Scope} (h:compCk k x sc=true) (xo:X.Ok):∃ cl,CompOk X x sc cl:=by
 unfold compCk at h
 simp only [Bool.and_eq_true,Bool.not_eq_true',List.all_eq_true,decide_eq_true_eq,Bool.or_eq_true,beq_iff_eq,beq_eq_false_iff_ne,ne_eq] at h
 obtain ⟨⟨⟨⟨⟨⟨⟨⟨h1,h2⟩,h3⟩,h4⟩,h5⟩,h6⟩,h7⟩,h8⟩,h9⟩:=h
 have hc:∀ y ∈ sc.names,y.2=.free->∃ c,X.env.cells.lookup y.1=some c:=fun y hy e=>by
  refine xo.has y.1 ?_
  unfold Env.kindOf
  rw [ok.names]
  rcases h6 y hy with (z | z) | z
  ·exact absurd e z
  ·exact .inl z
  ·exact .inr z
 have sub:∀ y c,(clOf X.env.cells sc.names []).lookup y=some c->X.env.cells.lookup y=some c:=fun y c e=>clOf_sub _ _ (fun _ _ z=>absurd z (by simp)) y c (lookup_mem e)
 refine ⟨clOf X.env.cells sc.names [],clos_of hc,h1,h2,fun y hy e=>?_,h4,fun y e=>?_,fun y hyx e=>?_,sub,by rw [ok.N];exact h7,by rw [ok.names,ok.N];exact h8⟩
 ·rcases h3 y hy with z | z
  ·exact absurd e z
  ·exact z
 ·rw [ok.rel] at e
  obtain ⟨kd,m,z | ⟨_,z⟩⟩:=relab_of e
  ·rcases h5 _ m with (q | q) | q
   ·exact absurd z.symm q
   ·exact .inl q
   ·refine .inr ⟨?_,by rw [ok.N];exact q.2⟩
    rw [ok.N]
    simpa using q.1
  ·cases z
 ·rw [ok.rel] at e
  have m:(y,NameKind.free) ∈ sc.names:=by
   rcases e with e | e
   ·obtain ⟨kd,m,z | ⟨z,_⟩⟩:=relab_of e
    ·exfalso
     rw [<- z] at m
     have q:(y,NameKind.cell) ∈ sc.names.filter fun y=>y.2 == .cell:=List.mem_filter.mpr ⟨m,rfl⟩
     rw [h2] at q
     split at q
     ·simp only [List.mem_cons,Prod.mk.injEq,List.not_mem_nil,or_false] at q
      exact hyx q.1
     ·cases q
    ·rw [<- z];exact m
   ·obtain ⟨kd,m,z | ⟨_,z⟩⟩:=relab_of e
    ·rw [z];exact m
    ·cases z
  obtain ⟨c,hcc⟩:=hc _ m rfl
  have k6:=h6 _ m
  refine ⟨?_,?_,mem_lookup (clOf_has _ _ y c m hcc)⟩
  ·unfold Vis
   rw [ok.names]
   rcases k6 with (z | z) | z
   ·exact absurd rfl z
   ·exact .inr (.inl z)
   ·exact .inr (.inr z)
  ·rw [ok.names]
   rcases k6 with (z | z) | z
   ·exact absurd rfl z
   ·intro q;simp only at z;rw [z] at q;cases q
   ·intro q;simp only at z;rw [z] at q;cases q
theorem Ok.block (ok:Ok X k C) {x:Str} {sc:Scope} {cl:List (Str × Addr)} (h:compCk k x sc=true) (co:CompOk X x sc cl) (s:Shared) (H:Hp) (fp:List Addr) (Ca:Addr):Ok (cxComp X s H fp x sc cl Ca) (k.block x sc) C where
 N:=by show blockN X.N x=blockN k.N x;rw [ok.N]
 nd:=blockN_nd ok.nd (ok.comp_nE h) co.ne
 names:=ok.rel sc
 kd:=co.kind
 calm:=ok.calm
 xe:=rfl
 units:=ok.units
 fns:=ok.fns
 cns:=ok.cns
 blt:=ok.blt
 E:=ok.E
def tPt (K:PySem.W.Frag) (C:Cfg) (l:Ex):TO:=fun τ H R=>∃ σ O,Reps K O H σ τ /\ prt (isNon l) (fun Q=>wpE C l σ Q) fun o=>∀ H',Same H H'->R o H'
theorem po_D {l:Ex} {lo:Option Expr} (h:(lo.isNone == isNon l)=true) (p:∀ x,lo=some x->isNon l=false->PE X x (tD X.K C l)):PO X lo (tPt X.K C l):=by
 cases lo with
 | none =>
   have e:isNon l=true:=by simpa using h
   intro pins s τ H R I w
   obtain ⟨σ,O,r,w⟩:=w
   unfold prt at w
   rw [if_pos e] at w
   exact po_none pins s τ H R I (w _ (Same.refl H))
 | some x =>
   have e:isNon l=false:=by simpa using h
   intro pins s τ H R I w
   refine po_some (p x rfl e) pins s τ H R I ?_
   obtain ⟨σ,O,r,w⟩:=w
   unfold prt at w
   rw [if_neg (by rw [e];decide)] at w
   refine ⟨σ,O,r,wpE_mono l (fun d wd v H1 s1 i1=>?_) w⟩
   cases d <;> first | exact wd.elim | (cases is_int i1;exact ⟨_,rfl,wd _ s1⟩)
theorem Iss.drop {K:PySem.W.Frag} {S:Hp}:∀ {ds:List D} {vs:List V} (n:Nat),Iss K S ds vs->Iss K S (ds.drop n) (vs.drop n)
 | ds,vs,0,i=>i
 | [],vs,n + 1,i=>by
   have:vs=[]:=by have:=i.length;simpa using this
   subst this
   simpa using i
 | d :: ds,vs,n + 1,i=>by
   unfold Iss at i
   obtain ⟨v,ws,rfl,_,i2⟩:=i
   simpa using Iss.drop n i2
theorem Iss.take {K:PySem.W.Frag} {S:Hp}:∀ {ds:List D} {vs:List V} (n:Nat),Iss K S ds vs->Iss K S (ds.take n) (vs.take n)
 | ds,vs,0,i=>by simp only [List.take_zero];unfold Iss;rfl
 | [],vs,n + 1,i=>by
   have:vs=[]:=by have:=i.length;simpa using this
   subst this
   simpa using i
 | d :: ds,vs,n + 1,i=>by
   unfold Iss at i
   obtain ⟨v,ws,rfl,i1,i2⟩:=i
   simp only [List.take_succ_cons]
   unfold Iss
   exact ⟨v,_,rfl,i1,Iss.take n i2⟩
theorem sIx_eq (n d:Nat) (o:Option Int):sIx n d o=HT.sIx n d o:=by cases o <;> rfl
theorem Iss.cut {K:PySem.W.Frag} {S:Hp} {ds:List D} {vs:List V} (lo hi:Option Int) (i:Iss K S ds vs):Iss K S (cutD ds lo hi) (cutV vs lo hi):=by
 have l:=i.length
 unfold cutD cutV
 rw [sIx_eq,sIx_eq,<- l]
 exact (i.drop _).take _
theorem tab_of {f:List (List D)->Prop} {o:Option Sl} (w:otD f o):∃ rows,o=some (.ot rows) /\ f rows:=by
 match o,w with
 | some (.ot rows),w=>exact ⟨rows,rfl,w⟩
theorem obs_of {f:List (List D)->Prop} {p:Prop} {o:Option Sl} (w:obD f p o):(∃ rows,o=some (.ot rows) /\ f rows) \/ p:=by
 match o,w with
 | some (.ot rows),w=>exact .inl ⟨rows,rfl,w⟩
 | some (.sh _),w=>exact .inr w
mutual
theorem sB:∀ {X:Cx} {k:Ck} (ok:Ok X k C) (x:Ex) (e:Expr),chkE k x e=true->PE X e (tD X.K C x) /\ PT X e (tDT X.K C x)
 | X,k,ok,.var i,e,h=>by
   rw [chkE] at h
   replace h:=opt_any h
   obtain ⟨x,hx,h⟩:=h
   obtain ⟨pos,rfl⟩:=asName_ hx
   obtain ⟨h1,h2,h3,h4⟩:=ok.vis h
   have p:PE X (.Name x pos) (tD X.K C (.var i)):=by
    refine PE.imp (fun τ H Q w=>?_) (pe_var h1 (loc_vis h2) h3 h4)
    obtain ⟨σ,O,R,w⟩:=w
    unfold wpE at w
    cases g:getS σ i with
    | none=>rw [g] at w;exact w.elim
    | some z =>
      rw [g] at w
      cases z with
      | sh d =>
        obtain ⟨v,e1,e2⟩:=R.sh i d g
        exact ⟨v,e1,w v H (Same.refl H) e2⟩
      | ow ds=>exact w.elim
      | ot _=>exact w.elim
   exact ⟨p,pt_leaf p fun _=>rfl⟩
 | X,k,ok,.cst d,e,h=>by
   rw [chkE] at h
   replace h:=opt_any h
   obtain ⟨c,hx,h⟩:=h
   obtain ⟨j,pos,rfl⟩:=asConst_ hx
   have p:PE X (.Constant c j pos) (tD X.K C (.cst d)):=by
    cases d with
    | non =>
      cases c <;> first | exact Bool.noConfusion h | skip
      exact PE.imp (fun τ H Q ⟨σ,O,R,w⟩=>by unfold wpE at w;exact w _ _ (Same.refl H) non_is) pe_non
    | bl b =>
      cases c <;> first | exact Bool.noConfusion h | skip
      have e:_=_:=eq_of_beq h
      subst e
      exact PE.imp (fun τ H Q ⟨σ,O,R,w⟩=>by unfold wpE at w;exact w _ _ (Same.refl H) (bl_is _)) pe_bl
    | int i =>
      cases c <;> first | exact Bool.noConfusion h | skip
      have e:_=_:=of_decide_eq_true h
      subst e
      exact PE.imp (fun τ H Q ⟨σ,O,R,w⟩=>by unfold wpE at w;exact w _ _ (Same.refl H) (int_is _)) pe_int
    | str x =>
      cases c <;> first | exact Bool.noConfusion h | skip
      have h':=(Bool.and_eq_true _ _).mp h
      have e:_=_:=of_decide_eq_true h'.1
      subst e
      exact PE.imp (fun τ H Q ⟨σ,O,R,w⟩=>by unfold wpE at w;exact w _ _ (Same.refl H) (str_is h'.2)) pe_str
    | tup xs=>cases c <;> exact Bool.noConfusion h
    | lst xs=>cases c <;> exact Bool.noConfusion h
   exact ⟨p,pt_leaf p fun _=>rfl⟩
 | X,k,ok,.con i,e,h=>by
   rw [chkE] at h
   replace h:=opt_any h
   obtain ⟨x,hx,h⟩:=h
   obtain ⟨pos,rfl⟩:=asName_ hx
   rw [Bool.and_eq_true,decide_eq_true_eq] at h
   obtain ⟨u,v,h1,h2,h3⟩:=ok.cns i x h.1
   obtain ⟨g1,g2,g3⟩:=ok.gl h.2
   have p:PE X (.Name x pos) (tD X.K C (.con i)):=PE.imp (fun τ H Q ⟨σ,O,R,w⟩=>by unfold wpE at w;exact w _ _ (Same.refl H) (h3 _)) (pe_glob g1 h1 h2 g2)
   exact ⟨p,pt_leaf p fun _=>rfl⟩
 | X,k,ok,.bin o a b,e,h=>by
   rw [chkE] at h
   replace h:=opt_any h
   obtain ⟨⟨l,op,r⟩,hx,h⟩:=h
   obtain ⟨pos,rfl⟩:=asBin_ hx
   rw [Bool.and_eq_true,Bool.and_eq_true] at h
   have p:PE X (.BinOp l op r pos) (tD X.K C (.bin o a b)):=PE.imp (t':=tD X.K C (.bin o a b)) (fun τ H Q ⟨σ,O,R,w⟩=>by unfold wpE at w;exact tD_two (f:=binD o) binD_mono R w) (pe_op (op_bin h.1.1) (sB ok a _ h.1.2).1 (sB ok b _ h.2).1)
   exact ⟨p,pt_leaf p fun _=>rfl⟩
 | X,k,ok,.neg a,e,h=>by
   rw [chkE] at h
   replace h:=opt_any h
   obtain ⟨⟨op,x⟩,hx,h⟩:=h
   obtain ⟨pos,rfl⟩:=asUn_ hx
   rw [Bool.and_eq_true,decide_eq_true_eq] at h
   obtain ⟨ho,h⟩:=h
   simp only at ho h
   subst ho
   have p:PE X (.UnaryOp .USub x pos) (tD X.K C (.neg a)):=by
    refine PE.imp (fun τ H Q w=>?_) (pe_un un_neg (sB ok a _ h).1)
    obtain ⟨σ,O,R,w⟩:=w
    unfold wpE at w
    refine ⟨σ,O,R,wpE_mono a (fun d wd v H1 s1 i1=>?_) w⟩
    cases d with
    | int i=>exact ⟨i,is_int i1,wd _ _ s1 (int_is _)⟩
    | _=>exact wd.elim
   exact ⟨p,pt_leaf p fun _=>rfl⟩
 | X,k,ok,.not a,e,h=>by
   rw [chkE] at h
   replace h:=opt_any h
   obtain ⟨⟨op,x⟩,hx,h⟩:=h
   obtain ⟨pos,rfl⟩:=asUn_ hx
   rw [Bool.and_eq_true,decide_eq_true_eq] at h
   obtain ⟨ho,h⟩:=h
   simp only at ho h
   subst ho
   obtain ⟨pa,ta⟩:=sB ok a _ h
   refine ⟨PE.imp (fun τ H Q w=>?_) (pe_not pa),PT.imp (fun τ H Q w=>?_) (pt_not ta)⟩
   ·obtain ⟨σ,O,R,w⟩:=w
    unfold wpE at w
    refine ⟨σ,O,R,wpE_mono a (fun d wd v H1 s1 i1=>?_) w⟩
    cases d with
    | bl c=>exact ⟨c,is_bl i1,wd _ _ s1 (bl_is _)⟩
    | _=>exact wd.elim
   ·obtain ⟨σ,O,R,w⟩:=w
    unfold wpE at w
    refine ⟨σ,O,R,wpE_mono a (fun d wd=>?_) w⟩
    cases d with
    | bl c=>exact fun H' s'=>wd H' s'
    | _=>exact wd.elim
 | X,k,ok,.cmp o a b,e,h=>by
   rw [chkE] at h
   replace h:=opt_any h
   obtain ⟨⟨l,ops,cs⟩,hx,h⟩:=h
   obtain ⟨pos,rfl⟩:=asCmp_ hx
   simp only [Bool.and_eq_true,decide_eq_true_eq] at h
   obtain ⟨⟨⟨⟨n1,n2⟩,h1⟩,h2⟩,h3⟩:=h
   match ops,n1,cs,n2,h1,h3 with
   | [op],_,[r],_,h1,h3 =>
     have h:(cOk o op r=true /\ chkE k a l=true) /\ chkE k b r=true:=⟨⟨h1,h2⟩,h3⟩
     have pa:=(sB ok a _ h.1.2).1
     have pb:=(sB ok b _ h.2).1
     refine ⟨PE.imp (fun τ H Q w=>?_) (pe_cmpR (op_cmp h.1.1 ok.units) pa pb (noMark h.2)),PT.imp (fun τ H Q w=>?_) (pt_cmpR (op_cmp h.1.1 ok.units) pa pb (noMark h.2))⟩
     ·obtain ⟨σ,O,R,w⟩:=w
      unfold wpE at w
      exact tD_two (f:=cmpD o) cmpD_mono R w
     ·obtain ⟨σ,O,R,w⟩:=w
      unfold wpE at w
      refine tD_two (f:=cmpD o) cmpD_mono R (wpE_mono a (fun x wx=>wpE_mono b (fun y wy=>cmpD_mono (o:=o) (fun d wd v H1 s1 i1=>?_) wy) wx) w)
      cases d with
      | bl c=>exact ⟨c,is_bl i1,wd H1 s1⟩
      | _=>exact wd.elim
 | X,k,ok,.chain o p a b c,e,h=>by
   rw [chkE] at h
   replace h:=opt_any h
   obtain ⟨⟨l,ops,cs⟩,hx,h⟩:=h
   obtain ⟨pos,rfl⟩:=asCmp_ hx
   simp only [Bool.and_eq_true,decide_eq_true_eq] at h
   obtain ⟨⟨⟨⟨⟨⟨n1,n2⟩,h1⟩,h2⟩,h3⟩,h4⟩,h5⟩:=h
   match ops,n1,cs,n2,h1,h2,h4,h5 with
   | [op,op'],_,[r,r'],_,h1,h2,h4,h5 =>
     have h:(((cOk o op r=true /\ cOk p op' r'=true) /\ chkE k a l=true) /\ chkE k b r=true) /\ chkE k c r'=true:=⟨⟨⟨⟨h1,h2⟩,h3⟩,h4⟩,h5⟩
     have pa:=(sB ok a _ h.1.1.2).1
     have pb:=(sB ok b _ h.1.2).1
     have pc:=(sB ok c _ h.2).1
     have hm:lastMarks [op,op'] [r,r']=false:=by
      show behindInMarks op' r'=false
      exact noMark h.2
     refine ⟨PE.imp (fun τ H Q w=>?_) (pe_chain (op_cmp h.1.1.1.1 ok.units) (op_cmp h.1.1.1.2 ok.units) pa pb pc hm),PT.imp (fun τ H Q w=>?_) (pt_chain (op_cmp h.1.1.1.1 ok.units) (op_cmp h.1.1.1.2 ok.units) pa pb pc hm)⟩
     ·obtain ⟨σ,O,R,w⟩:=w
      exact tD_chain R w
     ·obtain ⟨σ,O,R,w⟩:=w
      refine tD_chain R (wpE_mono _ (fun d wd v H1 s1 i1=>?_) w)
      cases d with
      | bl c=>exact ⟨c,is_bl i1,wd H1 s1⟩
      | _=>exact wd.elim
 | X,k,ok,.and a b,e,h=>by
   rw [chkE] at h
   replace h:=opt_any h
   obtain ⟨⟨op,vs,pos⟩,hx,h⟩:=h
   have ee:=asBool_ hx
   subst ee
   simp only [Bool.and_eq_true,decide_eq_true_eq] at h
   obtain ⟨⟨⟨ho,n1⟩,h1⟩,h2⟩:=h
   subst ho
   match vs,n1,h1,h2 with
   | x :: y :: r,_,h1,h2 =>
     have h:chkE k a x=true /\ (if r.isEmpty then chkE k b y else chkE k b (.BoolOp .And (y :: r) pos))=true:=by
      refine ⟨h1,?_⟩
      cases r with
      | nil=>simpa using h2
      | cons z r=>simpa using h2
     obtain ⟨pa,ta⟩:=sB ok a _ h.1
     have hb:PE X (.BoolOp .And (y :: r) pos) (tD X.K C b) /\ PW X (.BoolOp .And (y :: r) pos) (tDT X.K C b):=by
      cases r with
      | nil =>
        have:=sB ok b y h.2
        exact ⟨pe_one this.1,pw_and1 this.2⟩
      | cons z r =>
        have:=sB ok b (.BoolOp .And (y :: z :: r) pos) h.2
        exact ⟨this.1,pw_of this.2⟩
     refine ⟨PE.imp (fun τ H Q w=>?_) (pe_and pa hb.1),PT.imp (fun τ H Q w=>?_) (pw_and ta hb.2).pt⟩
     ·obtain ⟨σ,O,R,w⟩:=w
      unfold wpE at w
      refine ⟨σ,O,R,wpE_mono a (fun d wd v H1 s1 i1=>?_) w⟩
      cases d with
      | bl c =>
        refine ⟨c,is_bl i1,?_⟩
        cases c with
        | true=>exact ⟨σ,O,R.mono s1,wpE_mono b (fun d=>Wd.mono s1) wd⟩
        | false=>exact wd _ _ s1 (bl_is _)
      | _=>exact wd.elim
     ·obtain ⟨σ,O,R,w⟩:=w
      unfold wpE at w
      refine ⟨σ,O,R,wpE_mono a (fun d wd=>?_) w⟩
      cases d with
      | bl c =>
        intro H1 s1
        cases c with
        | true=>exact ⟨σ,O,R.mono s1,wpE_mono b (fun d=>isB_mono fun c q H' s'=>q H' (s1.trans s')) wd⟩
        | false=>exact wd H1 s1
      | _=>exact wd.elim
 | X,k,ok,.or a b,e,h=>by
   rw [chkE] at h
   replace h:=opt_any h
   obtain ⟨⟨op,vs,pos⟩,hx,h⟩:=h
   have ee:=asBool_ hx
   subst ee
   simp only [Bool.and_eq_true,decide_eq_true_eq] at h
   obtain ⟨⟨⟨ho,n1⟩,h1⟩,h2⟩:=h
   subst ho
   match vs,n1,h1,h2 with
   | x :: y :: r,_,h1,h2 =>
     have h:chkE k a x=true /\ (if r.isEmpty then chkE k b y else chkE k b (.BoolOp .Or (y :: r) pos))=true:=by
      refine ⟨h1,?_⟩
      cases r with
      | nil=>simpa using h2
      | cons z r=>simpa using h2
     obtain ⟨pa,ta⟩:=sB ok a _ h.1
     have hb:PE X (.BoolOp .Or (y :: r) pos) (tD X.K C b) /\ PW X (.BoolOp .Or (y :: r) pos) (tDT X.K C b):=by
      cases r with
      | nil =>
        have:=sB ok b y h.2
        exact ⟨pe_one this.1,pw_or1 this.2⟩
      | cons z r =>
        have:=sB ok b (.BoolOp .Or (y :: z :: r) pos) h.2
        exact ⟨this.1,pw_of this.2⟩
     refine ⟨PE.imp (fun τ H Q w=>?_) (pe_or pa hb.1),PT.imp (fun τ H Q w=>?_) (pw_or ta hb.2).pt⟩
     ·obtain ⟨σ,O,R,w⟩:=w
      unfold wpE at w
      refine ⟨σ,O,R,wpE_mono a (fun d wd v H1 s1 i1=>?_) w⟩
      cases d with
      | bl c =>
        refine ⟨c,is_bl i1,?_⟩
        cases c with
        | false=>exact ⟨σ,O,R.mono s1,wpE_mono b (fun d=>Wd.mono s1) wd⟩
        | true=>exact wd _ _ s1 (bl_is _)
      | _=>exact wd.elim
     ·obtain ⟨σ,O,R,w⟩:=w
      unfold wpE at w
      refine ⟨σ,O,R,wpE_mono a (fun d wd=>?_) w⟩
      cases d with
      | bl c =>
        intro H1 s1
        cases c with
        | false=>exact ⟨σ,O,R.mono s1,wpE_mono b (fun d=>isB_mono fun c q H' s'=>q H' (s1.trans s')) wd⟩
        | true=>exact wd H1 s1
      | _=>exact wd.elim
 | X,k,ok,.ife c a b,e,h=>by
   rw [chkE] at h
   replace h:=opt_any h
   obtain ⟨⟨t,x,y⟩,hx,h⟩:=h
   obtain ⟨pos,rfl⟩:=asIf_ hx
   simp only [Bool.and_eq_true] at h
   obtain ⟨pc,tc⟩:=sB ok c _ h.1.1
   obtain ⟨pa,ta⟩:=sB ok a _ h.1.2
   obtain ⟨pb,tb⟩:=sB ok b _ h.2
   refine ⟨PE.imp (fun τ H Q w=>?_) (pe_ifExp tc pa pb),fun pins s τ H Q I w=>?_⟩
   ·obtain ⟨σ,O,R,w⟩:=w
    unfold wpE at w
    refine ⟨σ,O,R,wpE_mono c (fun d wd=>?_) w⟩
    cases d with
    | bl k =>
      intro H1 s1
      cases k with
      | true=>exact ⟨σ,O,R.mono s1,wpE_mono a (fun d=>Wd.mono s1) wd⟩
      | false=>exact ⟨σ,O,R.mono s1,wpE_mono b (fun d=>Wd.mono s1) wd⟩
    | _=>exact wd.elim
   ·obtain ⟨σ,O,R,w⟩:=w
    unfold wpE at w
    refine isTrue_IfExp (thn (tc pins s τ H (fun d H1=>if d=true then tDT X.K C a τ H1 Q else tDT X.K C b τ H1 Q) I ⟨σ,O,R,wpE_mono c (fun d wd=>?_) w⟩) fun d s1 ⟨H1,I1,q1⟩=>?_)
    ·cases d with
     | bl k =>
       intro H1 s1
       cases k with
       | true=>exact ⟨σ,O,R.mono s1,wpE_mono a (fun d=>isB_mono fun c q H' s'=>q H' (s1.trans s')) wd⟩
       | false=>exact ⟨σ,O,R.mono s1,wpE_mono b (fun d=>isB_mono fun c q H' s'=>q H' (s1.trans s')) wd⟩
     | _=>exact wd.elim
    ·cases d with
     | true=>exact ta pins s1 τ H1 Q I1 q1
     | false=>exact tb pins s1 τ H1 Q I1 q1
 | X,k,ok,.tup es,e,h=>by
   rw [chkE] at h
   replace h:=opt_any h
   obtain ⟨xs,hx,h⟩:=h
   obtain ⟨j,pos,rfl⟩:=asTup_ hx
   rw [Bool.and_eq_true,decide_eq_true_eq] at h
   have p:PE X (.Tuple xs j pos) (tD X.K C (.tup es)):=by
    refine PE.imp (fun τ H Q w=>?_) (pe_tup (sA ok es xs h.2))
    obtain ⟨σ,O,R,w⟩:=w
    unfold wpE at w
    refine ⟨σ,O,R,wpEs_mono es (fun ds ⟨hl,wd⟩ vs H1 s1 i1=>⟨?_,fun p hp=>?_⟩) (wpEs_len es w)⟩
    ·rw [i1.length,hl,len_of h.2,sizeLine_eq];lia
    ·exact wd _ _ (s1.trans (same_upd hp _)) (tup_is (at_upd (R.mono s1).own hp) (Iss.minus_upd hp i1))
   exact ⟨p,pt_leaf p fun _=>rfl⟩
 | X,k,ok,.lst es,e,h=>by
   rw [chkE] at h
   replace h:=opt_any h
   obtain ⟨xs,hx,h⟩:=h
   obtain ⟨pos,rfl⟩:=asLst_ hx
   rw [Bool.and_eq_true,decide_eq_true_eq] at h
   have p:PE X (.List xs pos) (tD X.K C (.lst es)):=by
    refine PE.imp (fun τ H Q w=>?_) (pe_lst (sA ok es xs h.2))
    obtain ⟨σ,O,R,w⟩:=w
    unfold wpE at w
    refine ⟨σ,O,R,wpEs_mono es (fun ds ⟨hl,wd⟩ vs H1 s1 i1=>⟨?_,fun p hp=>?_⟩) (wpEs_len es w)⟩
    ·rw [i1.length,hl,len_of h.2,sizeLine_eq];lia
    ·exact wd _ _ (s1.trans (same_upd hp _)) (lst_is (SqL.of (at_upd (R.mono s1).own hp)) (Iss.minus_upd hp i1))
   exact ⟨p,pt_leaf p fun _=>rfl⟩
 | X,k,ok,.slc a l u,e,h=>by
   rw [chkE] at h
   replace h:=opt_any h
   obtain ⟨⟨v,i⟩,hx,h⟩:=h
   obtain ⟨pos,rfl⟩:=asSub_ hx
   replace h:=opt_any h
   obtain ⟨⟨lo,hi⟩,hs,h⟩:=h
   obtain ⟨p2,e2⟩:=asSlice_ hs
   simp only at e2
   subst e2
   simp only [Bool.and_eq_true] at h
   obtain ⟨⟨⟨⟨ha,hl1⟩,hu1⟩,hl2⟩,hu2⟩:=h
   have pl:PO X lo (tPt X.K C l):=po_D hl1 fun x ex nl=>by
    subst ex
    rw [nl] at hl2
    exact (sB ok l x hl2).1
   have pu:PO X hi (tPt X.K C u):=po_D hu1 fun x ex nl=>by
    subst ex
    rw [nl] at hu2
    exact (sB ok u x hu2).1
   have p:PE X (.Subscript v (.Slice lo hi none p2) pos) (tD X.K C (.slc a l u)):=by
    refine PE.imp (fun τ H Q w=>?_) (pe_slice (sl_list.or sl_strR) (sB ok a v ha).1 pl pu)
    obtain ⟨σ,O,R,w⟩:=w
    unfold wpE at w
    refine ⟨σ,O,R,wpE_mono a (fun d wd x H1 s1 i1=>⟨σ,O,R.mono s1,prt_mono (fun hq=>wpE_mono l hq) (fun lo' wl H2 s2=>⟨σ,O,(R.mono s1).mono s2,prt_mono (fun hq=>wpE_mono u hq) (fun hi' wh H3 s3=>?_) wl⟩) wd⟩) w⟩
    have ss:=s2.trans s3
    cases d <;> first | exact wh.elim | skip
    ·obtain ⟨rfl,o1⟩:=is_str i1
     refine .inr ⟨_,rfl,by rw [sizeLine_eq];exact wh.1,wh.2 _ _ (s1.trans ss) (str_is (strOk_of fun c hc=>strOk_mem o1 (List.mem_of_mem_drop (List.mem_of_mem_take hc))))⟩
    next xs =>
    obtain ⟨b,vs,rfl,h1,h2⟩:=is_lst i1
    refine .inl ⟨b,vs,rfl,(minus_same _ _).seq ((minus_mono ss).seq h1),fun p hp=>wh _ _ ((s1.trans ss).trans (same_upd hp _)) (lst_is (SqL.of (at_upd (((R.mono s1).mono s2).mono s3).own hp)) (Iss.minus_upd hp (Iss.cut lo' hi' (Iss.mono (minus_mono ss) xs h2))))⟩
   exact ⟨p,pt_leaf p fun _=>rfl⟩
 | X,k,ok,.ix a b,e,h=>by
   rw [chkE] at h
   replace h:=opt_any h
   obtain ⟨⟨v,i⟩,hx,h⟩:=h
   obtain ⟨pos,rfl⟩:=asSub_ hx
   simp only [Bool.and_eq_true,Bool.not_eq_true'] at h
   have p:PE X (.Subscript v i pos) (tD X.K C (.ix a b)):=PE.imp (t':=tD X.K C (.ix a b)) (fun τ H Q ⟨σ,O,R,w⟩=>by unfold wpE at w;exact tD_two (f:=ixD) ixD_mono R w) (pe_ix ix_D (sB ok a _ h.1.2).1 (sB ok b _ h.2).1 (ixPlain h.1.1))
   exact ⟨p,pt_leaf p fun _=>rfl⟩
 | X,k,ok,.call f es,e,h=>by
   rw [chkE] at h
   replace h:=opt_any h
   obtain ⟨⟨x,xs,pos⟩,hx,h⟩:=h
   obtain ⟨q,rfl⟩:=asCallN_ hx
   simp only [Bool.and_eq_true,decide_eq_true_eq] at h
   obtain ⟨⟨⟨h1,h2⟩,hne⟩,h4⟩:=h
   match xs,hne,h1,h4 with
   | y :: ys,_,h1,h4 =>
     obtain ⟨g1,g2,g3⟩:=ok.gl h2
     obtain ⟨fa,fd,ps,lv,F,hr,hm,hk,hb⟩:=ok.fns f x _ h1
     have hs:starEach (y :: ys) X.env=(false,eval y X.env) :: starEach ys X.env /\ (backTo pos (starEach ys X.env)).any (·.1)=false:=by
      cases es with
      | nil=>have:=chkEs_nil h4;cases this
      | cons z zs =>
        obtain ⟨y',ys',e',h5,h6⟩:=chkEs_cons h4
        cases e'
        exact ⟨star_of h5 _ _,plain_of h6 _ _⟩
     have p:PE X (.Call (.Name x q) (y :: ys) [] pos) (tD X.K C (.call f es)):=by
      refine PE.imp (fun τ H Q w=>?_) (pe_call (CX:=CXz X.prog X.w X.mg) (E:=E0) (dvs:=[]) F hr g1 hm hk hb .nil passZ (sA ok es _ h4) g2 hs.1 hs.2)
      obtain ⟨σ,O,R,w⟩:=w
      unfold wpE at w
      refine ⟨σ,O,R,wpEs_mono es (fun ds ⟨hl,wd⟩ vs H1 s1 i1=>?_) (wpEs_len es w)⟩
      show spD X.K (y :: ys).length (C.fr f) (C.f2 f) (C.ct f) (vs ++ []) H1 Q E0
      rw [List.append_nil]
      exact ⟨O,ds,by rw [hl,len_of h4],(R.mono s1).own,i1,wd.1,fun d r=>((wd.2.1 d r).mono s1).rw (R.mono s1).own,fun x hx=>ok.E x (wd.2.2 x hx)⟩
     exact ⟨p,pt_leaf p fun _=>rfl⟩
 | X,k,ok,.bi f es,e,h=>by
   rw [chkE] at h
   replace h:=opt_any h
   obtain ⟨⟨x,xs,pos⟩,hx,h⟩:=h
   obtain ⟨q,rfl⟩:=asCallN_ hx
   simp only [Bool.and_eq_true,decide_eq_true_eq] at h
   obtain ⟨⟨⟨h1,h2⟩,hne⟩,h4⟩:=h
   match xs,hne,h1,h4 with
   | y :: ys,_,h1,h4 =>
     subst h1
     obtain ⟨g1,g2,g3⟩:=ok.gl h2
     have hm:=ok.blt _ (bi_blt f)
     have hs:starEach (y :: ys) X.env=(false,eval y X.env) :: starEach ys X.env /\ (backTo pos (starEach ys X.env)).any (·.1)=false:=by
      cases es with
      | nil=>have:=chkEs_nil h4;cases this
      | cons z zs =>
        obtain ⟨y',ys',e',h5,h6⟩:=chkEs_cons h4
        cases e'
        exact ⟨star_of h5 _ _,plain_of h6 _ _⟩
     have w':∀ τ H Q,tD X.K C (.bi f es) τ H Q->tCB (cD X.K (biD f)) (tDs X.K C es) τ H Q:=by
      rintro τ H Q ⟨σ,O,R,w⟩
      unfold wpE at w
      exact ⟨σ,O,R,wpEs_mono es (fun ds wd vs H1 s1 i1=>⟨O,ds,(R.mono s1).own,i1,biD_mono (fun d=>Wd.mono s1) wd⟩) w⟩
     have cb:CallR X f.val (cD X.K (biD f)):=call_bi ok.calm
     have p:PE X (.Call (.Name f.nm q) (y :: ys) [] pos) (tD X.K C (.bi f es)):=by
      cases f with
      | abs=>exact PE.imp w' (pe_callB (id:="abs") cb g1 hm PyProof.Rows.boot_abs (sA ok es _ h4) g3 g2 hs.1 hs.2)
      | max=>exact PE.imp w' (pe_callB (id:="max") cb g1 hm PyProof.Rows.boot_max (sA ok es _ h4) g3 g2 hs.1 hs.2)
      | min=>exact PE.imp w' (pe_callB (id:="min") cb g1 hm PyProof.Rows.boot_min (sA ok es _ h4) g3 g2 hs.1 hs.2)
      | len=>exact PE.imp w' (pe_callB (id:="len") cb g1 hm PySem.boot_len (sA ok es _ h4) g3 g2 hs.1 hs.2)
      | int=>exact PE.imp w' (pe_callTy (T:="int") cb g1 hm PyProof.Rows.boot_int (sA ok es _ h4) g3 g2 hs.1 hs.2)
      | list=>exact PE.imp w' (pe_callTy (T:="list") cb g1 hm PyProof.Rows.boot_list (sA ok es _ h4) g3 g2 hs.1 hs.2)
      | sum=>exact PE.imp w' (pe_callB (id:="sum") cb g1 hm PyProof.Rows.boot_sum (sA ok es _ h4) g3 g2 hs.1 hs.2)
      | all=>exact PE.imp w' (pe_callB (id:="all") cb g1 hm PyProof.Rows.boot_all (sA ok es _ h4) g3 g2 hs.1 hs.2)
      | str=>exact PE.imp w' (pe_callTy (T:="str") cb g1 hm PyProof.Rows.boot_str (sA ok es _ h4) g3 g2 hs.1 hs.2)
      | tuple=>exact PE.imp w' (pe_callTy (T:="tuple") cb g1 hm PyProof.Rows.boot_tuple (sA ok es _ h4) g3 g2 hs.1 hs.2)
      | any=>exact PE.imp w' (pe_callB (id:="any") cb g1 hm PyProof.Rows.boot_any (sA ok es _ h4) g3 g2 hs.1 hs.2)
     exact ⟨p,pt_leaf p fun _=>rfl⟩
 | X,k,ok,.meth m o,e,h=>by
   rw [chkE] at h
   replace h:=opt_any h
   obtain ⟨⟨fe,xs,ks,pos⟩,hx,h⟩:=h
   have ee:=asCall_ hx
   subst ee
   simp only [Bool.and_eq_true] at h
   obtain ⟨⟨n1,n2⟩,h⟩:=h
   replace h:=opt_any h
   obtain ⟨⟨v,x,ap⟩,hy,h⟩:=h
   have ee:=asAttr_ hy
   subst ee
   simp only [Bool.and_eq_true,decide_eq_true_eq] at h
   match xs,n1,ks,n2 with
   | [],_,[],_ =>
     obtain ⟨⟨⟨h1,h2⟩,h3⟩,h4⟩:=h
     subst h1
     have p:PE X (.Call (.Attribute v m.nm ap) [] [] pos) (tD X.K C (.meth m o)):=by
      cases m with
      | bitlen =>
        refine PE.imp (fun τ H Q w=>?_) (pe_bm0 (T:="int") PySem.F.plainAttrs_int PySem.F.slot_int_bit_length PySem.F.type_int_bit_length mt_bits' (sB ok o _ h4).1 (basePlain h2) h3)
        obtain ⟨σ,O,R,w⟩:=w
        unfold wpE at w
        refine ⟨σ,O,R,wpE_mono o (fun d wd v H1 s1 i1=>?_) w⟩
        cases d with
        | int i=>cases is_int i1;exact ⟨rfl,rfl,i,rfl,wd _ _ s1 (int_is _)⟩
        | _=>exact wd.elim
     exact ⟨p,pt_leaf p fun _=>rfl⟩
 | X,k,ok,.isi a t,e,h=>by
   rw [chkE] at h
   replace h:=opt_any h
   obtain ⟨⟨x,xs,pos⟩,hx,h⟩:=h
   obtain ⟨q,rfl⟩:=asCallN_ hx
   simp only [Bool.and_eq_true,decide_eq_true_eq] at h
   obtain ⟨⟨⟨⟨⟨h1,h2⟩,n1⟩,h3⟩,h4⟩,h5⟩:=h
   match xs,n1,h3,h5 with
   | [y,ny],_,h3,h5 =>
     obtain ⟨q',rfl⟩:=asName_ h3
     have h5:chkE k a y=true:=h5
     try simp only at h1 h2
     subst h1
     obtain ⟨g1,g2,g3⟩:=ok.gl h2
     obtain ⟨k1,k2,k3⟩:=ok.gl h4
     have pn:PE X (.Name t.nm q') (tC (.ty t.s)):=pe_bltn k1 (ok.blt _ (ty_blt t)) (ty_boot t) rfl k3 k2
     have p:PE X (.Call (.Name "isinstance" q) [y,.Name t.nm q'] [] pos) (tD X.K C (.isi a t)):=by
      refine PE.imp (fun τ H Q w=>?_) (pe_callB (call_isiR (t:=t)) g1 (ok.blt _ (by decide)) PyProof.Rows.boot_isinstance (pa_cons (sB ok a _ h5).1 (pa_cons pn pa_nil rfl) (star_of h5 _ _)) g3 g2 (star_of h5 _ _) rfl)
      obtain ⟨σ,O,R,w⟩:=w
      unfold wpE at w
      exact ⟨σ,O,R,wpE_mono a (fun d wd v H1 s1 i1=>⟨O,d,v,rfl,i1,wd.mono s1⟩) w⟩
     exact ⟨p,pt_leaf p fun _=>rfl⟩
 | X,k,ok,.compR es b,e,h=>by
   rw [chkE] at h
   replace h:=opt_any h
   obtain ⟨⟨elt,x,iter,sc⟩,hz,h⟩:=h
   obtain ⟨px,pos,rfl⟩:=asComp_ hz
   simp only [Bool.and_eq_true] at h
   obtain ⟨⟨h1,h2⟩,h3⟩:=h
   replace h2:=opt_any h2
   obtain ⟨⟨f,args,p2⟩,hcn,h2⟩:=h2
   obtain ⟨q,e2⟩:=asCallN_ hcn
   subst e2
   simp only [Bool.and_eq_true,decide_eq_true_eq,Bool.not_eq_true'] at h2
   obtain ⟨⟨⟨hf,hg⟩,hne⟩,ha⟩:=h2
   subst hf
   obtain ⟨g1,_,_⟩:=ok.gl hg
   have p:PE X (.ListComp elt [⟨.Name x px,.Call (.Name "range" q) args [] p2,[],0⟩] sc pos) (tD X.K C (.compR es b)):=by
    cases args with
    | nil=>simp at hne
    | cons y ys =>
      have hs:starEach (y :: ys) X.env=(false,eval y X.env) :: starEach ys X.env /\ (backTo p2 (starEach ys X.env)).any (·.1)=false:=by
       cases es with
       | nil=>have:=chkEs_nil ha;cases this
       | cons z zs =>
         obtain ⟨y',ys',e',h5,h6⟩:=chkEs_cons ha
         cases e'
         exact ⟨star_of h5 _ _,plain_of h6 _ _⟩
      intro pins s τ H Q I w
      obtain ⟨cl,co⟩:=ok.comp h1 I.ok
      refine pe_comp (te:=tD X.K C b) ok.calm ok.nd (ok.comp_nE h1) co (pi_rg g1 (ok.blt _ (by decide)) (sA ok es _ ha) hs.1 hs.2) (fun _ _ _ _=>pts_nil) (fun s H fp Ca=>(sB (ok.block h1 co s H fp Ca) b elt h3).1) (fun _=>rfl) pins s τ H Q I ?_
      obtain ⟨σ,O,R,w⟩:=w
      unfold wpE at w
      refine ⟨σ,O,R,wpEs_mono es (fun ds wd vs H1 s1 i1=>?_) w⟩
      obtain ⟨lo,hi,st,e,c,hx,wd⟩:=rgD_of i1 wd
      refine ⟨lo,hi,st,e,c,?_⟩
      refine comp_turns (R.mono s1) hx ?_ ?_ ?_ (compL_mono (f:=fun d Q=>wpE C b (σ ++ [some (.sh d)]) Q) (fun d _ _ hq=>wpE_mono b hq) _ (fun ys wy=>wy.mono s1) wd)
      ·intro j H _ hj
       rw [rangeD_length] at hj
       exact hj
      ·intro j H _ hj
       rw [rangeD_length] at hj
       exact hj
      ·intro j H v H' d _ y hd
       obtain ⟨e1,e2⟩:=y
       have hj:j < (if lo < hi then (hi - lo - 1) / st + 1 else 0).toNat:=by
        rcases Nat.lt_or_ge j (if lo < hi then (hi - lo - 1) / st + 1 else 0).toNat with z | z
        ·exact z
        ·rw [List.getElem?_eq_none (by rw [rangeD_length];exact z)] at hd;cases hd
       rw [rangeD_get _ _ _ _ hj] at hd
       cases hd
       exact ⟨e1,by rw [e2];exact int_is _⟩
   exact ⟨p,pt_leaf p fun _=>rfl⟩
 | X,k,ok,.compE a b,e,h=>by
   rw [chkE] at h
   replace h:=opt_any h
   obtain ⟨⟨elt,x,iter,sc⟩,hz,h⟩:=h
   obtain ⟨px,pos,rfl⟩:=asComp_ hz
   simp only [Bool.and_eq_true,Bool.not_eq_true'] at h
   obtain ⟨⟨⟨h1,hn⟩,ha⟩,h3⟩:=h
   have p:PE X (.ListComp elt [⟨.Name x px,iter,[],0⟩] sc pos) (tD X.K C (.compE a b)):=by
    intro pins s τ H Q I w
    obtain ⟨cl,co⟩:=ok.comp h1 I.ok
    refine pe_comp (te:=tD X.K C b) ok.calm ok.nd (ok.comp_nE h1) co (pi_seq (sB ok a iter ha).1) (fun _ _ _ _=>pts_nil) (fun s H fp Ca=>(sB (ok.block h1 co s H fp Ca) b elt h3).1) (folded_of hn _) pins s τ H Q I ?_
    obtain ⟨σ,O,R,w⟩:=w
    unfold wpE at w
    refine ⟨σ,O,R,wpE_mono a (fun d wd v H1 s1 i1=>?_) w⟩
    obtain ⟨xs,e1,hx,wd⟩:=wd
    have wd':=compL_mono (f:=fun d Q=>wpE C b (σ ++ [some (.sh d)]) Q) (fun d _ _ hq=>wpE_mono b hq) _ (fun ys (wy:Wd X.K O H Q (.lst ys))=>wy.mono s1) wd
    obtain ⟨J,hw,g1,g2,g3⟩:=walk_of e1 i1
    exact ⟨J,hw,comp_turns (R.mono s1) hx (fun j H2 s2=>g1 j H2 O (minus_mono s2)) (fun j H2 s2=>g2 j H2 O (minus_mono s2)) (fun j H2 v H' d s2=>g3 j H2 O v H' d (minus_mono s2)) wd'⟩
   exact ⟨p,pt_leaf p fun _=>rfl⟩
 | X,k,ok,.oix i a,e,h=>by
   rw [chkE] at h
   replace h:=opt_any h
   obtain ⟨⟨ob,ix⟩,hx,h⟩:=h
   obtain ⟨pos,rfl⟩:=asSub_ hx
   simp only [Bool.and_eq_true,Bool.not_eq_true'] at h
   obtain ⟨⟨h1,h2⟩,h3⟩:=h
   replace h2:=opt_any h2
   obtain ⟨x,hn,h2⟩:=h2
   obtain ⟨q,rfl⟩:=asName_ hn
   obtain ⟨k1,k2,k3,k4⟩:=ok.vis h2
   have p:PE X (.Subscript (.Name x q) ix pos) (tD X.K C (.oix i a)):=by
    refine PE.imp (fun τ H Q w=>?_) (pe_ix L2.ix_list (pe_var k1 (loc_vis k2) k3 k4) (sB ok a ix h3).1 (ixPlain h1))
    obtain ⟨σ,O,R,w⟩:=w
    unfold wpE at w
    cases g:getS σ i with
    | none=>rw [g] at w;exact w.elim
    | some z =>
      rw [g] at w
      cases z with
      | sh d=>exact w.elim
      | ot _=>exact w.elim
      | ow ds =>
        obtain ⟨ad,vs,e1,e2,e3,e4⟩:=R.ow i ds g
        refine ⟨.ref ad,e1,σ,O,R,wpE_mono a (fun y wy v H1 s1 i1=>?_) w⟩
        cases y with
        | int n =>
          obtain ⟨d,e5,wd⟩:=wy
          cases is_int i1
          obtain ⟨u,e6,i6⟩:=at_of e4 e5
          exact ⟨ad,vs,n,u,rfl,rfl,SqL.of (s1 _ _ e3),e6,wd u H1 s1 (Is.mono (minus_mono s1) d i6)⟩
        | _=>exact wy.elim
   exact ⟨p,pt_leaf p fun _=>rfl⟩
 | X,k,ok,.obs i a,e,h=>by
   rw [chkE] at h
   simp only [Bool.and_eq_true] at h
   have ih:=sB ok a e h.2
   refine ⟨PE.imp (fun τ H Q w=>?_) ih.1,PT.imp (fun τ H Q w=>?_) ih.2⟩
   ·obtain ⟨σ,O,R,w⟩:=w
    unfold wpE at w
    cases g:getS σ i with
    | none=>rw [g] at w;exact w.elim
    | some z =>
      rw [g] at w
      cases z with
      | sh d=>exact w.elim
      | ot _=>exact w.elim
      | ow ds =>
        obtain ⟨ad,vs,e1,e2,e3,e4⟩:=R.ow i ds g
        exact ⟨_,_,R.share g e1 e3 e4,wpE_mono a (fun d wd v H1 s1 i1=>wd.2 v H1 s1 (nol_is (s1 _ _ e3) d wd.1 i1)) w⟩
   ·obtain ⟨σ,O,R,w⟩:=w
    unfold wpE at w
    cases g:getS σ i with
    | none=>rw [g] at w;exact w.elim
    | some z =>
      rw [g] at w
      cases z with
      | sh d=>exact w.elim
      | ot _=>exact w.elim
      | ow ds =>
        obtain ⟨ad,vs,e1,e2,e3,e4⟩:=R.ow i ds g
        exact ⟨_,_,R.share g e1 e3 e4,wpE_mono a (fun d wd=>wd.2) w⟩
 | X,k,ok,.obsL i a,e,h=>by
   rw [chkE] at h
   replace h:=opt_any h
   obtain ⟨⟨fx,xs,cp⟩,hc,h⟩:=h
   obtain ⟨q0,rfl⟩:=asCallN_ hc
   have ih:=sB ok a _ h
   have p:PE X (.Call (.Name fx q0) xs [] cp) (tD X.K C (.obsL i a)):=by
    intro pins s τ H Q I w
    obtain ⟨σ,O,R,w⟩:=w
    unfold wpE at w
    cases g:getS σ i with
    | none=>rw [g] at w;exact w.elim
    | some z =>
      rw [g] at w
      cases z with
      | sh d=>exact w.elim
      | ot _=>exact w.elim
      | ow ds =>
        obtain ⟨ad,vs,e1,e2,e3,e4⟩:=R.ow i ds g
        refine thn (ih.1 pins s τ H (fun v H1=>∃ d,apt ds d /\ Same H H1 /\ Is X.K (minus H1 (less O ad)) d v /\ Wd X.K O H Q d) I ⟨_,_,R.share g e1 e3 e4,wpE_mono a (fun d wd v H1 s1 i1=>⟨d,wd.1,s1,i1,wd.2⟩) w⟩) fun u s1 ⟨v,H1,I1,r1,d,ap,sm,i1,q⟩=>?_
        exact ⟨v,H1,I1,r1,q v H1 sm (apt_is I1 (sm _ _ e3) (Iss.mono ((minus_same H O).trans sm) ds e4) d ap i1)⟩
   exact ⟨p,pt_leaf p fun _=>rfl⟩
 | X,k,ok,.obsT i a,e,h=>by
   rw [chkE] at h
   simp only [Bool.and_eq_true] at h
   have ih:=sB ok a e h.2
   refine ⟨PE.imp (fun τ H Q w=>?_) ih.1,PT.imp (fun τ H Q w=>?_) ih.2⟩
   ·obtain ⟨σ,O,R,w⟩:=w
    unfold wpE at w
    rcases obs_of w with ⟨rows,g,w⟩ | w
    ·obtain ⟨ad,as,e1,t,dj⟩:=R.tt.1 i rows g
     exact ⟨_,_,R.shareT g e1 t dj,wpE_mono a (fun d wd v H1 s1 i1=>wd.2 v H1 s1 (nol_isG (t.mono s1).isL d wd.1 i1)) w⟩
    ·exact ⟨σ,O,R,w⟩
   ·obtain ⟨σ,O,R,w⟩:=w
    unfold wpE at w
    rcases obs_of w with ⟨rows,g,w⟩ | w
    rotate_left
    ·exact ⟨σ,O,R,w⟩
    obtain ⟨ad,as,e1,t,dj⟩:=R.tt.1 i rows g
    exact ⟨_,_,R.shareT g e1 t dj,wpE_mono a (fun d wd=>wd.2) w⟩
theorem sJ:∀ {X:Cx} {k:Ck} (ok:Ok X k C) (xs:List Ex) (es:List Expr),chkFs k xs es=true->PJ X C xs es
 | X,k,ok,[],es,h=>by
   have e:es=[]:=by rw [chkFs] at h;simpa using h
   subst e
   intro pins s τ H out Q I hl w
   obtain ⟨σ,O,R,w⟩:=w
   unfold wpFs at w
   exact joinParts_nil ⟨.str _,H,I.tok _,⟨_,rfl⟩,w H (Same.refl H)⟩ (by show out.toArray.size<=_;rw [List.size_toArray];exact hl)
 | X,k,ok,x :: xs,es,h=>by
   rw [chkFs,Bool.and_eq_true,Bool.or_eq_true] at h
   obtain ⟨h1,h2⟩:=h
   cases es with
   | nil =>
     rcases h1 with h1 | h1
     ·cases h1
     ·obtain ⟨_,_,_,_,e⟩:=cstPart_ h1
      cases e
   | cons y ys =>
     have h1:((fmtV y).any fun y=>chkE k x y)=true \/ cstPart x y=true:=h1
     have h2:chkFs k xs ys=true:=h2
     intro pins s τ H out Q I hl w
     obtain ⟨σ,O,R,w⟩:=w
     unfold wpFs at w
     have h24:lim=sizeLine:=by rw [sizeLine_eq];rfl
     have ap:∀ z:Str,((⟨out.toArray⟩:Str) ++ z)=⟨(out ++ z.cps.toList).toArray⟩:=fun z=>by
      show (⟨out.toArray ++ z.cps⟩:Str)=_
      congr 1
      apply Array.ext'
      simp
     have go:∀ (z:Str) (u:Tok) (s1:Shared) (H1:Hp),Inv X pins τ H1 s1->Same H H1->out.length + z.length<=lim->wpFs C xs (out ++ z.cps.toList) σ (fun l=>∀ H',Same H H'->Q (.str ⟨l.toArray⟩) H') ->
      (((⟨out.toArray⟩:Str) ++ z).length<=sizeLine /\ wpAny (model X.prog X.w) X.A (joinParts ((⟨out.toArray⟩:Str) ++ z) (evalEach ys X.env)) (EP X pins τ Q) X.xe s1):=fun z u s1 H1 I1 sm hz wz=>by
      have hlen:(out ++ z.cps.toList).length<=sizeLine:=by
       have e:(out ++ z.cps.toList).length=out.length + z.length:=by simp [Str.length]
       omega
      rw [ap]
      refine ⟨by show (out ++ z.cps.toList).toArray.size<=_;rw [List.size_toArray];exact hlen,?_⟩
      exact sJ ok xs ys h2 pins s1 τ H1 _ Q I1 hlen ⟨σ,O,R.mono sm,wpFs_mono xs (fun l q H' s'=>q H' (sm.trans s')) wz⟩
     show wpAny _ _ (joinParts _ (eval y X.env :: evalEach ys X.env)) _ _ _
     refine joinParts_cons ?_
     rcases h1 with h1 | h1
     ·obtain ⟨v,hv,h3⟩:=opt_any h1
      obtain ⟨p,rfl⟩:=fmtV_ hv
      let Q1:VK:=fun vv H1=>Same H H1 /\ ((∃ z,vv=.str z /\ out.length + z.length<=lim /\ wpFs C xs (out ++ z.cps.toList) σ fun l=>∀ H',Same H H'->Q (.str ⟨l.toArray⟩) H') \/ ∃ i:Int,vv=.int i /\ i.natAbs.log2 < 1920 /\ out.length + (Str.ofString (toString i)).length<=lim /\ wpFs C xs (out ++ (Str.ofString (toString i)).cps.toList) σ fun l=>∀ H',Same H H'->Q (.str ⟨l.toArray⟩) H')
      have t1:tD X.K C x τ H Q1:=by
       refine ⟨σ,O,R,wpE_mono x (fun d wd vv H1 s1 i1=>⟨s1,?_⟩) w⟩
       obtain ⟨z,⟨e1,e2⟩,wd⟩:=wd
       unfold fmtS at e1
       split at e1
       ·cases e1
        exact .inl ⟨_,(is_str i1).1,e2,wd⟩
       ·split at e1
        ·next hb =>
         cases e1
         exact .inr ⟨_,is_int i1,hb,e2,wd⟩
        ·cases e1
       ·cases e1
      refine FormattedValue_plain (thn ((sB ok x v h3).1 pins s τ H Q1 I t1) fun u s1 q=>?_)
      obtain ⟨vv,H1,I1,r1,sm,q1⟩:=q
      rcases q1 with ⟨z,rfl,hz,wz⟩ | ⟨i,rfl,hb,hz,wz⟩
      ·obtain ⟨t,rfl⟩:=r1
       exact formatField_str (fun t' tk=>go z t' _ H1 (I1.tok _) sm hz wz) (by omega)
      ·obtain ⟨t,rfl⟩:=r1
       exact formatField_int_small hb (go _ 0 _ H1 (I1.tok _) sm hz wz)
     ·obtain ⟨z,j,p,rfl,rfl⟩:=cstPart_ h1
      unfold wpE at w
      obtain ⟨z',⟨e1,e2⟩,wz⟩:=w
      have e1:some z=some z':=e1
      cases e1
      exact Calls.Constant_str (go z 0 _ H (I.tok _) (Same.refl H) e2 wz)
theorem sA:∀ {X:Cx} {k:Ck} (ok:Ok X k C) (xs:List Ex) (es:List Expr),chkEs k xs es=true->PA X es (tDs X.K C xs)
 | X,k,ok,[],es,h=>by
   rw [chkEs_nil h]
   exact PA.imp (fun τ H Q ⟨σ,O,R,w⟩=>by unfold wpEs at w;exact w _ _ (Same.refl H) (by unfold Iss;rfl)) pa_nil
 | X,k,ok,x :: xs,es,h=>by
   obtain ⟨e,es,rfl,h1,h2⟩:=chkEs_cons h
   refine PA.imp (fun τ H Q w=>?_) (pa_cons (sB ok x e h1).1 (sA ok xs es h2) (star_of h1 _ _))
   obtain ⟨σ,O,R,w⟩:=w
   unfold wpEs at w
   exact ⟨σ,O,R,wpE_mono x (fun d wd v H1 s1 i1=>⟨σ,O,R.mono s1,wpEs_mono xs (fun ds wds vs H2 s2 i2=>wds _ _ (s1.trans s2) (by unfold Iss;exact ⟨v,vs,rfl,Is.mono (minus_mono s2) d i1,i2⟩)) wd⟩) w⟩
end
noncomputable def isComp (e:Expr):Bool:=(asLC e).isSome
theorem comp_parts (ok:Ok X k C) (z:Ex) (e:Expr) (h:chkE k z e=true) (hc:isComp e=true):∃ (x:Str) (px:Pos) (iter elt:Expr) (ifs:List Expr) (sc:Scope) (pos:Pos) (wi:TI) (tt:TT) (te:TE),e=.ListComp elt [⟨.Name x px,iter,ifs,0⟩] sc pos /\ compCk k x sc=true /\ PI X (.Name x px) iter wi /\ (∀ v,foldedSetIterable iter X.env v=pure v) /\
 (∀ cl,CompOk X x sc cl->(∀ s H fp Ca,PTs (cxComp X s H fp x sc cl Ca) ifs tt) /\ ∀ s H fp Ca,PE (cxComp X s H fp x sc cl Ca) elt te) /\ ∀ τ H Q,tD X.K C z τ H Q->tCompF wi tt te τ H Q:=by
 cases z with
 | compR es b =>
   rw [chkE] at h
   replace h:=opt_any h
   obtain ⟨⟨elt,x,iter,sc⟩,hz,h⟩:=h
   obtain ⟨px,pos,rfl⟩:=asComp_ hz
   simp only [Bool.and_eq_true] at h
   obtain ⟨⟨h1,h2⟩,h3⟩:=h
   replace h2:=opt_any h2
   obtain ⟨⟨f,args,p2⟩,hcn,h2⟩:=h2
   obtain ⟨q,e2⟩:=asCallN_ hcn
   subst e2
   simp only [Bool.and_eq_true,decide_eq_true_eq,Bool.not_eq_true'] at h2
   obtain ⟨⟨⟨hf,hg⟩,hne⟩,ha⟩:=h2
   subst hf
   obtain ⟨g1,_,_⟩:=ok.gl hg
   cases args with
   | nil=>simp at hne
   | cons y ys =>
     have hs:starEach (y :: ys) X.env=(false,eval y X.env) :: starEach ys X.env /\ (backTo p2 (starEach ys X.env)).any (·.1)=false:=by
      cases es with
      | nil=>have:=chkEs_nil ha;cases this
      | cons z zs =>
        obtain ⟨y',ys',e',h5,h6⟩:=chkEs_cons ha
        cases e'
        exact ⟨star_of h5 _ _,plain_of h6 _ _⟩
     refine ⟨x,px,_,elt,[],sc,pos,_,tYes,tD X.K C b,rfl,h1,pi_rg g1 (ok.blt _ (by decide)) (sA ok es _ ha) hs.1 hs.2,fun _=>rfl,fun cl co=>⟨fun _ _ _ _=>pts_nil,fun s H fp Ca=>(sB (ok.block h1 co s H fp Ca) b elt h3).1⟩,fun τ H Q w=>?_⟩
     obtain ⟨σ,O,R,w⟩:=w
     unfold wpE at w
     refine ⟨σ,O,R,wpEs_mono es (fun ds wd vs H1 s1 i1=>?_) w⟩
     obtain ⟨lo,hi,st,e,c,hx,wd⟩:=rgD_of i1 wd
     refine ⟨lo,hi,st,e,c,?_⟩
     refine comp_turns (R.mono s1) hx ?_ ?_ ?_ (compL_mono (f:=fun d Q=>wpE C b (σ ++ [some (.sh d)]) Q) (fun d _ _ hq=>wpE_mono b hq) _ (fun ys wy=>wy.mono s1) wd)
     ·intro j H _ hj
      rw [rangeD_length] at hj
      exact hj
     ·intro j H _ hj
      rw [rangeD_length] at hj
      exact hj
     ·intro j H v H' d _ y hd
      obtain ⟨e1,e2⟩:=y
      have hj:j < (if lo < hi then (hi - lo - 1) / st + 1 else 0).toNat:=by
       rcases Nat.lt_or_ge j (if lo < hi then (hi - lo - 1) / st + 1 else 0).toNat with z | z
       ·exact z
       ·rw [List.getElem?_eq_none (by rw [rangeD_length];exact z)] at hd;cases hd
      rw [rangeD_get _ _ _ _ hj] at hd
      cases hd
      exact ⟨e1,by rw [e2];exact int_is _⟩
 | compE a b =>
   rw [chkE] at h
   replace h:=opt_any h
   obtain ⟨⟨elt,x,iter,sc⟩,hz,h⟩:=h
   obtain ⟨px,pos,rfl⟩:=asComp_ hz
   simp only [Bool.and_eq_true,Bool.not_eq_true'] at h
   obtain ⟨⟨⟨h1,hn⟩,ha⟩,h3⟩:=h
   refine ⟨x,px,iter,elt,[],sc,pos,_,tYes,tD X.K C b,rfl,h1,pi_seq (sB ok a iter ha).1,folded_of hn _,fun cl co=>⟨fun _ _ _ _=>pts_nil,fun s H fp Ca=>(sB (ok.block h1 co s H fp Ca) b elt h3).1⟩,fun τ H Q w=>?_⟩
   obtain ⟨σ,O,R,w⟩:=w
   unfold wpE at w
   refine ⟨σ,O,R,wpE_mono a (fun d wd v H1 s1 i1=>?_) w⟩
   obtain ⟨xs,e1,hx,wd⟩:=wd
   have wd':=compL_mono (f:=fun d Q=>wpE C b (σ ++ [some (.sh d)]) Q) (fun d _ _ hq=>wpE_mono b hq) _ (fun ys (wy:Wd X.K O H Q (.lst ys))=>wy.mono s1) wd
   obtain ⟨J,hw,g1,g2,g3⟩:=walk_of e1 i1
   exact ⟨J,hw,comp_turns (R.mono s1) hx (fun j H2 s2=>g1 j H2 O (minus_mono s2)) (fun j H2 s2=>g2 j H2 O (minus_mono s2)) (fun j H2 v H' d s2=>g3 j H2 O v H' d (minus_mono s2)) wd'⟩
 | obs i a =>
   exfalso
   rw [chkE] at h
   simp only [Bool.and_eq_true,Bool.not_eq_true'] at h
   unfold isComp at hc
   rw [h.1.2] at hc
   cases hc
 | obsT i a =>
   exfalso
   rw [chkE] at h
   simp only [Bool.and_eq_true,Bool.not_eq_true'] at h
   unfold isComp at hc
   rw [h.1.2] at hc
   cases hc
 | _ =>
   exfalso
   obtain ⟨⟨a,b,c⟩,q⟩:=Option.isSome_iff_exists.mp hc
   obtain ⟨p,rfl⟩:=asLC_ q
   first | exact Bool.noConfusion (show false=true from h) | (rw [chkE] at h;obtain ⟨y,hy,_⟩:=opt_any h;first | cases hy | (simp [asCallN,asCall] at hy))
end
end Z
namespace Z
open PySem PySem.Spec PyProof.Rows L2
noncomputable def asAsg:Stmt->Option (List Expr × Expr)
 | .Assign ts v _=>some (ts,v)
 | _=>none
noncomputable def asRet:Stmt->Option (Option Expr)
 | .Return v _=>some v
 | _=>none
noncomputable def asIfS:Stmt->Option (Expr × List Stmt × List Stmt)
 | .If t x y _=>some (t,x,y)
 | _=>none
noncomputable def asWhl:Stmt->Option (Expr × List Stmt × List Stmt)
 | .While t x y _=>some (t,x,y)
 | _=>none
noncomputable def asFor:Stmt->Option (Expr × Expr × List Stmt × List Stmt)
 | .For t i x y _=>some (t,i,x,y)
 | _=>none
noncomputable def isBrk:Stmt->Bool
 | .Break _=>true
 | _=>false
noncomputable def isCnt:Stmt->Bool
 | .Continue _=>true
 | _=>false
noncomputable def asExp:Stmt->Option Expr
 | .Expr e _=>some e
 | _=>none
theorem asExp_ {s:Stmt} {e:Expr} (h:asExp s=some e):∃ p,s=.Expr e p:=by cases s <;> cases h;exact ⟨_,rfl⟩
noncomputable def isShr:Sm->Bool
 | .shr _=>true
 | .shrT _=>true
 | .hlfT _=>true
 | _=>false
theorem isShr_ {s:Sm} (h:isShr s=true):∃ i,s=.shr i \/ s=.shrT i \/ s=.hlfT i:=by cases s <;> first | exact ⟨_,.inl rfl⟩ | exact ⟨_,.inr (.inl rfl)⟩ | exact ⟨_,.inr (.inr rfl)⟩ | exact Bool.noConfusion h
theorem asAsg_ {s:Stmt} {ts:List Expr} {v:Expr} (h:asAsg s=some (ts,v)):∃ p,s=.Assign ts v p:=by cases s <;> cases h;exact ⟨_,rfl⟩
theorem asRet_ {s:Stmt} {v:Option Expr} (h:asRet s=some v):∃ p,s=.Return v p:=by cases s <;> cases h;exact ⟨_,rfl⟩
theorem asIfS_ {s:Stmt} {t:Expr} {x y:List Stmt} (h:asIfS s=some (t,x,y)):∃ p,s=.If t x y p:=by cases s <;> cases h;exact ⟨_,rfl⟩
theorem asWhl_ {s:Stmt} {t:Expr} {x y:List Stmt} (h:asWhl s=some (t,x,y)):∃ p,s=.While t x y p:=by cases s <;> cases h;exact ⟨_,rfl⟩
theorem asFor_ {s:Stmt} {t i:Expr} {x y:List Stmt} (h:asFor s=some (t,i,x,y)):∃ p,s=.For t i x y p:=by cases s <;> cases h;exact ⟨_,rfl⟩
theorem isBrk_ {s:Stmt} (h:isBrk s=true):∃ p,s=.Break p:=by cases s <;> first | exact Bool.noConfusion h | exact ⟨_,rfl⟩
theorem isCnt_ {s:Stmt} (h:isCnt s=true):∃ p,s=.Continue p:=by cases s <;> first | exact Bool.noConfusion h | exact ⟨_,rfl⟩
noncomputable def sole (ts:List Expr):Option Expr:=if ts.length=1 then ts[0]? else none
theorem sole_ {ts:List Expr} {t:Expr} (h:sole ts=some t):ts=[t]:=by
 unfold sole at h
 match ts with
 | []=>simp at h
 | [a]=>simp at h;rw [h]
 | _ :: _ :: _=>simp at h
noncomputable def sole1 (ts:List Stmt):Option Stmt:=if ts.length=1 then ts[0]? else none
theorem sole1_ {ts:List Stmt} {t:Stmt} (h:sole1 ts=some t):ts=[t]:=by
 unfold sole1 at h
 split at h
 ·next hl =>
  match ts,hl with
  | [x],_=>simp at h;rw [h]
 ·cases h
noncomputable def frE:Ex->Bool
 | .bin .add _ _=>true
 | .bi .list _=>true
 | _=>false
def frL:Ex->Bool
 | .compR _ _=>true
 | .compE _ _=>true
 | .slc _ _ _=>true
 | x=>frE x
def frI:Ex->Bool
 | .call _ _=>true
 | x=>frL x
def frG:Ex->Bool
 | .compR _ b=>frI b
 | .compE _ b=>frI b
 | _=>false
noncomputable def chkTs (k:Ck):List Nat->List Expr->Bool
 | [],es=>es.isEmpty
 | i :: is,es=>!es.isEmpty && ((asName (es.getD 0 (.Tuple [] 0 ⟨0,0,0,0⟩))).any fun x=>k.loc i x) && chkTs k is (es.drop 1)
theorem chkTs_cons {k:Ck} {i:Nat} {is:List Nat} {es:List Expr} (h:chkTs k (i :: is) es=true):∃ x p ys,es=.Name x p :: ys /\ k.loc i x=true /\ chkTs k is ys=true:=by
 rw [chkTs] at h
 cases es with
 | nil=>simp at h
 | cons y ys =>
   simp only [Bool.and_eq_true,List.drop_succ_cons,List.drop_zero] at h
   obtain ⟨x,hx,hl⟩:=opt_any h.1.2
   have hx':asName y=some x:=hx
   obtain ⟨p,rfl⟩:=asName_ hx'
   exact ⟨x,p,ys,rfl,hl,h.2⟩
noncomputable def chkR1 (k:Ck) (j:Nat):RSt->Stmt->Bool
 | .app v,s=>(asExp s).any fun z=>(asCall z).any fun c=>c.2.2.1.isEmpty && decide (c.2.1.length=1) && ((asAttr c.1).any fun y=>decide (y.2.1=("append":Str)) && ((asName y.1).any fun x=>k.loc j x) && (y.2.2.endLine == c.2.2.2.line)) && chkE k v (c.2.1.getD 0 z)
 | .sto none e v,s=>(asAsg s).any fun z=>(sole z.1).any fun t=>(asSub t).any fun u=>!isSlice u.2 && !isComp z.2 && ((asName u.1).any fun x=>k.loc j x) && chkE k e u.2 && chkE k v z.2
 | .sto (some c) e v,s=>(asIfS s).any fun y=>y.2.2.isEmpty && chkE k c y.1 && (sole1 y.2.1).any fun s=>(asAsg s).any fun z=>(sole z.1).any fun t=>(asSub t).any fun u=>!isSlice u.2 && !isComp z.2 && ((asName u.1).any fun x=>k.loc j x) && chkE k e u.2 && chkE k v z.2
noncomputable def chkR (k:Ck) (j:Nat):List RSt->List Stmt->Bool
 | [],ss=>ss.isEmpty
 | r :: rs,ss=>!ss.isEmpty && chkR1 k j r (ss.getD 0 (.Pass ⟨0,0,0,0⟩)) && chkR k j rs (ss.drop 1)
mutual
noncomputable def chkS (k:Ck):Sm->Stmt->Bool
 | .set i e,s=>(asAsg s).any fun z=>(sole z.1).any fun t=>(asName t).any fun x=>k.loc i x && chkE k e z.2
 | .unp is e,s=>(asAsg s).any fun z=>(sole z.1).any fun t=>(asTup t).any fun ts=>chkTs k is ts && (asTup z.2).isNone && chkE k e z.2
 | .ret e,s=>(asRet s).any fun v=>v.any fun v=>chkE k e v
 | .ite c a b,s=>(asIfS s).any fun z=>chkE k c z.1 && chkB k a z.2.1 && chkB k b z.2.2
 | .whl c b,s=>(asWhl s).any fun z=>z.2.2.isEmpty && chkE k c z.1 && chkB k b z.2.1
 | .forR i es b,s=>(asFor s).any fun z=>(asName z.1).any fun x=>(asCallN z.2.1).any fun c=>z.2.2.2.isEmpty && k.loc i x && decide (c.1=("range":Str)) && k.gl c.1 && !c.2.1.isEmpty && chkEs k es c.2.1 && chkB k b z.2.2.1
 | .forE i e b,s=>(asFor s).any fun z=>(asName z.1).any fun x=>z.2.2.2.isEmpty && k.loc i x && !isSet z.2.1 && chkE k e z.2.1 && chkB k b z.2.2.1
 | .brk,s=>isBrk s
 | .cnt,s=>isCnt s
 | .never,_=>true
 | .new i,s=>(asAsg s).any fun z=>(sole z.1).any fun t=>(asName t).any fun x=>k.loc i x && (asLst z.2).any (·.isEmpty)
 | .app i e,s=>(asExp s).any fun z=>(asCall z).any fun c=>c.2.2.1.isEmpty && decide (c.2.1.length=1) && ((asAttr c.1).any fun y=>decide (y.2.1=("append":Str)) && ((asName y.1).any fun x=>k.loc i x) && (y.2.2.endLine == c.2.2.2.line)) && chkE k e (c.2.1.getD 0 z)
 | .sto i e v,s=>(asAsg s).any fun z=>(sole z.1).any fun t=>(asSub t).any fun u=>!isSlice u.2 && ((asName u.1).any fun x=>k.loc i x) && chkE k e u.2 && chkE k v z.2
 | .setF i f es,s=>(asAsg s).any fun z=>(sole z.1).any fun t=>(asName t).any fun x=>k.loc i x && ((asCallN z.2).any fun c=>decide (k.fns[f]?=some (c.1,c.2.1.length)) && k.gl c.1 && !c.2.1.isEmpty && chkEs k es c.2.1)
 | .retO i,s=>(asRet s).any fun v=>v.any fun v=>(asName v).any fun x=>k.loc i x
 | .shr _,_=>false
 | .ext i e,s=>(asExp s).any fun z=>(asCall z).any fun c=>c.2.2.1.isEmpty && decide (c.2.1.length=1) && ((asAttr c.1).any fun y=>decide (y.2.1=("extend":Str)) && ((asName y.1).any fun x=>k.loc i x) && (y.2.2.endLine == c.2.2.2.line)) && chkE k e (c.2.1.getD 0 z)
 | .forN i e b,s=>(asFor s).any fun z=>(asName z.1).any fun x=>(asCallN z.2.1).any fun c=>z.2.2.2.isEmpty && k.loc i x && decide (c.1=("enumerate":Str)) && k.gl c.1 && decide (c.2.1.length=1) && chkE k e (c.2.1.getD 0 z.2.1) && chkB k b z.2.2.1
 | .st2 i a b v,s=>(asAsg s).any fun z=>(sole z.1).any fun t=>(asTup t).any fun ts=>decide (ts.length=2) && ((asSub (ts.getD 0 t)).any fun u=>!isSlice u.2 && ((asName u.1).any fun x=>k.loc i x) && chkE k a u.2) && ((asSub (ts.getD 1 t)).any fun u=>!isSlice u.2 && ((asName u.1).any fun x=>k.loc i x) && chkE k b u.2) && chkE k v z.2
 | .retF e,s=>(asRet s).any fun v=>v.any fun v=>frL e && chkE k e v
 | .retG e,s=>(asRet s).any fun v=>v.any fun v=>frG e && chkE k e v
 | .setG i f es,s=>(asAsg s).any fun z=>(sole z.1).any fun t=>(asName t).any fun x=>k.loc i x && ((asCallN z.2).any fun c=>decide (k.fns[f]?=some (c.1,c.2.1.length)) && k.gl c.1 && !c.2.1.isEmpty && chkEs k es c.2.1)
 | .ownG i e,s=>(asAsg s).any fun z=>(sole z.1).any fun t=>(asName t).any fun x=>k.loc i x && frG e && chkE k e z.2
 | .tabO _ i e,s=>(asAsg s).any fun z=>(sole z.1).any fun t=>(asName t).any fun x=>k.loc i x && frG e && chkE k e z.2
 | .app2 i e v,s=>(asExp s).any fun z=>(asCall z).any fun c=>c.2.2.1.isEmpty && decide (c.2.1.length=1) && ((asAttr c.1).any fun y=>decide (y.2.1=("append":Str)) && ((asSub y.1).any fun u=>!isSlice u.2 && ((asName u.1).any fun x=>k.loc i x) && chkE k e u.2) && (y.2.2.endLine == c.2.2.2.line)) && chkE k v (c.2.1.getD 0 z)
 | .appN i,s=>(asExp s).any fun z=>(asCall z).any fun c=>c.2.2.1.isEmpty && decide (c.2.1.length=1) && ((asAttr c.1).any fun y=>decide (y.2.1=("append":Str)) && ((asName y.1).any fun x=>k.loc i x) && (y.2.2.endLine == c.2.2.2.line)) && (asLst (c.2.1.getD 0 z)).any (·.isEmpty)
 | .forT j i ss,s=>(asFor s).any fun z=>(asName z.1).any fun x=>(asName z.2.1).any fun y=>z.2.2.2.isEmpty && k.loc j x && k.loc i y && decide (i ≠ j) && chkR k j ss z.2.2.1
 | .shrT _,_=>false
 | .hlfT _,_=>false
 | .nop,_=>false
 | .seq _ _,_=>false
noncomputable def chkB (k:Ck):Sm->List Stmt->Bool
 | .nop,ss=>ss.isEmpty
 | .seq a b,ss=>if isShr a then chkB k b ss else !ss.isEmpty && chkS k a (ss.getD 0 (.Pass ⟨0,0,0,0⟩)) && chkB k b (ss.drop 1)
 | _,_=>false
end
theorem chkB_shr {k:Ck} {a b:Sm} {ss:List Stmt} (hs:isShr a=true) (h:chkB k (.seq a b) ss=true):chkB k b ss=true:=by
 rw [chkB,if_pos hs] at h
 exact h
theorem chkB_cons {k:Ck} {a b:Sm} {ss:List Stmt} (hs:isShr a=false) (h:chkB k (.seq a b) ss=true):∃ s r,ss=s :: r /\ chkS k a s=true /\ chkB k b r=true:=by
 rw [chkB,if_neg (by rw [hs];decide)] at h
 cases ss with
 | nil=>simp at h
 | cons s r =>
   simp only [Bool.and_eq_true,List.drop_succ_cons,List.drop_zero] at h
   exact ⟨s,r,rfl,h.1.2,h.2⟩
structure Good (O₀:List Addr) (H₀:Hp) (O:List Addr) (H:Hp):Prop where
 same:Same H₀ H
 sub:∀ a ∈ O₀,a ∈ O
 new:∀ a ∈ O,a ∈ O₀ \/ H₀ a=none
theorem Good.mono {O₀ O:List Addr} {H₀ H H':Hp} (g:Good O₀ H₀ O H) (e:Same H H'):Good O₀ H₀ O H':=⟨g.same.trans e,g.sub,g.new⟩
def MT (O₀:List Addr) (H:Hp) (σ:Sto) (τ:L2.St):Prop:=∀ (i:Nat) (rows:List (List D)) (a:Addr) (as:List Addr),getS σ i=some (.ot rows)->τ[i]?=some (some (.ref a))->H a=some (.lst (as.map .ref))->a ∉ O₀ /\ ∀ b ∈ as,b ∉ O₀
theorem MT.step {O₀:List Addr} {H H':Hp} {σ σ':Sto} {τ τ':L2.St} (h:MT O₀ H σ τ) (hT:∀ i rows,getS σ' i=some (.ot rows)->getS σ i=some (.ot rows) /\ τ'[i]?=τ[i]?)
 (hH:∀ i rows a,getS σ i=some (.ot rows)->τ[i]?=some (some (.ref a))->H' a=H a):MT O₀ H' σ' τ':=fun i rows a as g e t=>by
 obtain ⟨g0,e0⟩:=hT i rows g
 rw [e0] at e
 rw [hH i rows a g0 e] at t
 exact h i rows a as g0 e t
theorem OT.same {K:PySem.W.Frag} {O:List Addr} {H H':Hp} {σ:Sto} {τ:L2.St} (h:OT K O H σ τ) (e:Same H H'):∀ i rows a,getS σ i=some (.ot rows)->τ[i]?=some (some (.ref a))->H' a=H a:=fun i rows a g q=>by
 obtain ⟨b,as,e1,t,_⟩:=h.1 i rows g
 rw [q] at e1
 cases e1
 rw [t.top]
 exact e _ _ t.top
structure RepS (O₀:List Addr) (K:PySem.W.Frag) (O:List Addr) (H:Hp) (σ:Sto) (τ:L2.St):Prop extends Reps K O H σ τ where
 mine:∀ i ds a,getS σ i=some (.ow ds)->τ[i]?=some (some (.ref a))->a ∉ O₀
 mineT:MT O₀ H σ τ
theorem RepS.mono {O₀ O:List Addr} {K:PySem.W.Frag} {H H':Hp} {σ:Sto} {τ:L2.St} (r:RepS O₀ K O H σ τ) (e:Same H H'):RepS O₀ K O H' σ τ:=⟨r.toReps.mono e,r.mine,r.mineT.step (fun _ _ g=>⟨g,rfl⟩) (r.tt.same e)⟩
def lift (K:PySem.W.Frag) (O₀:List Addr) (H₀:Hp) (ex:Str->Prop) (D:Ends) (O:List Addr) (H:Hp):DE where
 xn:=ex
 nx σ':=∀ τ' H' O',Good O₀ H₀ O' H'->Same (minus H O) (minus H' O')->RepS O₀ K O' H' σ' τ'->D.nx τ' H'
 rt d:=∀ v H',Same H₀ H'->Is K (minus H' O₀) d v->D.rt v H'
 bk σ':=∀ τ' H' O',Good O₀ H₀ O' H'->Same (minus H O) (minus H' O')->RepS O₀ K O' H' σ' τ'->D.bk τ' H'
 ct σ':=∀ τ' H' O',Good O₀ H₀ O' H'->Same (minus H O) (minus H' O')->RepS O₀ K O' H' σ' τ'->D.ct τ' H'
 rf ds:=∀ a H' vs,Same H₀ H'->H₀ a=none->H' a=some (.lst vs)->Iss K (minus H' (a :: O₀)) ds vs->D.rt (.ref a) H'
 rg rows:=∀ a as H',Same H₀ H'->(H₀ a=none /\ ∀ b ∈ as,H₀ b=none)->OwT K (a :: as ++ O₀) H' rows a as->D.rt (.ref a) H'
theorem lift_le {K:PySem.W.Frag} {O₀ O O':List Addr} {H₀ H H':Hp} {ex:Str->Prop} {D:Ends} (e:Same (minus H O) (minus H' O')):DE.le (lift K O₀ H₀ ex D O H) (lift K O₀ H₀ ex D O' H') where
 nx:=fun _ q τ' H'' O'' g s r=>q τ' H'' O'' g (e.trans s) r
 rt:=fun _ q=>q
 bk:=fun _ q τ' H'' O'' g s r=>q τ' H'' O'' g (e.trans s) r
 ct:=fun _ q τ' H'' O'' g s r=>q τ' H'' O'' g (e.trans s) r
 rf:=fun _ q=>q
def tS (K:PySem.W.Frag) (C:Cfg) (O₀:List Addr) (H₀:Hp) (ex:Str->Prop) (s:Sm):TS:=fun D τ H=>∃ σ O,Good O₀ H₀ O H /\ RepS O₀ K O H σ τ /\ wpS C s (lift K O₀ H₀ ex D O H) σ
theorem setS_length (σ:Sto) (i:Nat) (v:Option Sl):(setS σ i v).length=σ.length:=setS_len σ i v
theorem getS_lt {z:Sl}:∀ (σ:Sto) (i:Nat),getS σ i=some z->i < σ.length
 | [],i,h=>by simp [getS] at h
 | x :: r,0,_=>by simp
 | x :: r,i + 1,h=>by have:=getS_lt r i (by simpa [getS] using h);simp;omega
theorem setS_setS:∀ (σ:Sto) (i:Nat) (u v:Option Sl),setS (setS σ i u) i v=setS σ i v
 | [],i,u,v=>by simp [setS]
 | x :: r,0,u,v=>by simp [setS]
 | x :: r,i + 1,u,v=>by simp [setS,setS_setS r i u v]
theorem getS_set (σ:Sto) (i j:Nat) (v:Option Sl):getS (setS σ i v) j=if i=j /\ i < σ.length then v else getS σ j:=getS_set' σ i j v
section
variable {K:PySem.W.Frag} {O:List Addr} {H:Hp} {σ:Sto} {τ:L2.St}
theorem Reps.set (R:Reps K O H σ τ) {i:Nat} {d:D} {v:V} (h:Is K (minus H O) d v):Reps K O H (setS σ i (some (.sh d))) (τ.set i (some v)) where
 len:=by rw [setS_length,List.length_set];exact R.len
 own:=R.own
 sh:=fun j e g=>by
  rw [getS_set] at g
  by_cases hj:i=j /\ i < σ.length
  ·rw [if_pos hj] at g
   obtain ⟨rfl,hl⟩:=hj
   cases g
   exact ⟨v,by rw [List.getElem?_set_self (by rw [<- R.len];exact hl)],h⟩
  ·rw [if_neg hj] at g
   obtain ⟨w,e1,e2⟩:=R.sh j e g
   refine ⟨w,?_,e2⟩
   by_cases hij:i=j
   ·subst hij
    have:¬ i < τ.length:=by rw [<- R.len];lia
    rw [List.getElem?_eq_none (by lia)] at e1;cases e1
   ·rw [List.getElem?_set_ne hij];exact e1
 ow:=fun j ds g=>by
  rw [getS_set] at g
  by_cases hj:i=j /\ i < σ.length
  ·rw [if_pos hj] at g;cases g
  ·rw [if_neg hj] at g
   obtain ⟨a,vs,e1,e2⟩:=R.ow j ds g
   refine ⟨a,vs,?_,e2⟩
   by_cases hij:i=j
   ·subst hij
    have:¬ i < τ.length:=by rw [<- R.len];lia
    rw [List.getElem?_eq_none (by lia)] at e1;cases e1
   ·rw [List.getElem?_set_ne hij];exact e1
 dj:=fun j l ds es hjl g1 g2=>by
  rw [getS_set] at g1 g2
  by_cases hj:i=j /\ i < σ.length
  ·rw [if_pos hj] at g1;cases g1
  ·rw [if_neg hj] at g1
   by_cases hl:i=l /\ i < σ.length
   ·rw [if_pos hl] at g2;cases g2
   ·rw [if_neg hl] at g2
    have hd:=R.dj j l ds es hjl g1 g2
    obtain ⟨a,_,e1,_⟩:=R.ow j ds g1
    obtain ⟨b,_,e2,_⟩:=R.ow l es g2
    have nj:i ≠ j:=fun z=>by
     subst z
     have:¬ i < τ.length:=by rw [<- R.len];lia
     rw [List.getElem?_eq_none (by lia)] at e1;cases e1
    have nl:i ≠ l:=fun z=>by
     subst z
     have:¬ i < τ.length:=by rw [<- R.len];lia
     rw [List.getElem?_eq_none (by lia)] at e2;cases e2
    rw [List.getElem?_set_ne nj,List.getElem?_set_ne nl]
    exact hd
 tt:=by
  refine R.tt.step (fun j rows g=>?_) (fun _ _ _ _ _ _ _ t=>t) fun _ _ _ _ j ds b _ _ g q=>?_
  ·rw [getS_set] at g
   by_cases hj:i=j /\ i < σ.length
   ·rw [if_pos hj] at g;cases g
   ·rw [if_neg hj] at g
    obtain ⟨a,as,e1,_⟩:=R.tt.1 j rows g
    have hij:i ≠ j:=fun z=>by
     subst z
     have:¬ i < τ.length:=by rw [<- R.len];lia
     rw [List.getElem?_eq_none (by lia)] at e1;cases e1
    exact ⟨g,List.getElem?_set_ne hij⟩
  ·rw [getS_set] at g
   by_cases hj:i=j /\ i < σ.length
   ·rw [if_pos hj] at g;cases g
   ·rw [if_neg hj] at g
    obtain ⟨a,vs,e1,_⟩:=R.ow j ds g
    have hij:i ≠ j:=fun z=>by
     subst z
     have:¬ i < τ.length:=by rw [<- R.len];lia
     rw [List.getElem?_eq_none (by lia)] at e1;cases e1
    rw [List.getElem?_set_ne hij] at q
    exact .inl ⟨ds,g,q⟩
end
theorem set_at {τ:L2.St} {i j:Nat} {v w:Option V} (h:(τ.set i v)[j]?=some w):(i=j /\ w=v) \/ (i ≠ j /\ τ[j]?=some w):=by
 by_cases hij:i=j
 ·subst hij
  rcases Nat.lt_or_ge i τ.length with z | z
  ·rw [List.getElem?_set_self z] at h;cases h;exact .inl ⟨rfl,rfl⟩
  ·rw [List.getElem?_eq_none (by rw [List.length_set];exact z)] at h;cases h
 ·rw [List.getElem?_set_ne hij] at h;exact .inr ⟨hij,h⟩
section
variable {K:PySem.W.Frag} {O₀ O:List Addr} {H H':Hp} {σ:Sto} {τ:L2.St}
theorem RepS.set (R:RepS O₀ K O H σ τ) {i:Nat} {d:D} {v:V} (h:Is K (minus H O) d v):RepS O₀ K O H (setS σ i (some (.sh d))) (τ.set i (some v)):=by
 refine ⟨R.toReps.set h,fun j ds a g e=>?_,R.mineT.step (fun j rows g=>?_) fun _ _ _ _ _=>rfl⟩
 rotate_left
 ·rw [getS_set] at g
  by_cases hj:i=j /\ i < σ.length
  ·rw [if_pos hj] at g;cases g
  ·rw [if_neg hj] at g
   obtain ⟨a,as,e1,_⟩:=R.tt.1 j rows g
   have hij:i ≠ j:=fun z=>by
    subst z
    have:¬ i < τ.length:=by rw [<- R.len];lia
    rw [List.getElem?_eq_none (by lia)] at e1;cases e1
   exact ⟨g,List.getElem?_set_ne hij⟩
 rw [getS_set] at g
 by_cases hj:i=j /\ i < σ.length
 ·rw [if_pos hj] at g;cases g
 ·rw [if_neg hj] at g
  rcases set_at e with ⟨q,_⟩ | ⟨_,q⟩
  ·exfalso
   subst q
   obtain ⟨_,_,e1,_⟩:=R.ow i ds g
   have:i < τ.length:=by
    rcases Nat.lt_or_ge i τ.length with z | z
    ·exact z
    ·rw [List.getElem?_eq_none z] at e1;cases e1
   exact hj ⟨rfl,by rw [R.len];exact this⟩
  ·exact R.mine j ds a g q
theorem Good.fresh {H₀:Hp} {a:Addr} (g:Good O₀ H₀ O H) (s:Same H H') (h:H a=none):Good O₀ H₀ (a :: O) H':=by
 refine ⟨g.same.trans s,fun b hb=>List.mem_cons_of_mem _ (g.sub b hb),fun b hb=>?_⟩
 rcases List.mem_cons.mp hb with rfl | hb
 ·right
  cases q:H₀ b with
  | none=>rfl
  | some o=>rw [g.same b o q] at h;cases h
 ·exact g.new b hb
theorem fresh_T {a:Addr} {xs:List D} {i:Nat} (hi:i < τ.length) (R:RepS O₀ K O H σ τ):∀ j rows,getS (setS σ i (some (.ow xs))) j=some (.ot rows)->getS σ j=some (.ot rows) /\ (τ.set i (some (.ref a)))[j]?=τ[j]?:=fun j rows g=>by
 rw [getS_set] at g
 by_cases hj:i=j /\ i < σ.length
 ·rw [if_pos hj] at g;cases g
 ·rw [if_neg hj] at g
  have hij:i ≠ j:=fun z=>hj ⟨z,by rw [R.len];exact hi⟩
  exact ⟨g,List.getElem?_set_ne hij⟩
theorem RepS.fresh {a:Addr} {vs:List V} {xs:List D} {i:Nat} (R:RepS O₀ K O H σ τ) (sub:∀ b ∈ O₀,b ∈ O) (s:Same H H') (h:H a=none) (h1:H' a=some (.lst vs)) (is:Iss K (minus H' (a :: O)) xs vs) (hi:i < τ.length) :
 RepS O₀ K (a :: O) H' (setS σ i (some (.ow xs))) (τ.set i (some (.ref a))) where
 len:=by rw [setS_length,List.length_set];exact R.len
 own:=fun b hb=>by
  rcases List.mem_cons.mp hb with rfl | hb
  ·rw [h1];exact fun z=>nomatch z
  ·exact (R.toReps.mono s).own b hb
 sh:=fun j d g=>by
  rw [getS_set] at g
  by_cases hj:i=j /\ i < σ.length
  ·rw [if_pos hj] at g;cases g
  ·rw [if_neg hj] at g
   obtain ⟨v,e1,e2⟩:=R.sh j d g
   have hij:i ≠ j:=fun z=>hj ⟨z,by rw [R.len];exact hi⟩
   exact ⟨v,by rw [List.getElem?_set_ne hij];exact e1,Is.mono (same_fresh s h) d e2⟩
 ow:=fun j ds g=>by
  rw [getS_set] at g
  by_cases hj:i=j /\ i < σ.length
  ·rw [if_pos hj] at g
   obtain ⟨rfl,_⟩:=hj
   cases g
   exact ⟨a,vs,List.getElem?_set_self hi,List.mem_cons_self ..,h1,is⟩
  ·rw [if_neg hj] at g
   obtain ⟨b,ws,e1,e2,e3,e4⟩:=R.ow j ds g
   have hij:i ≠ j:=fun z=>hj ⟨z,by rw [R.len];exact hi⟩
   exact ⟨b,ws,by rw [List.getElem?_set_ne hij];exact e1,List.mem_cons_of_mem _ e2,s _ _ e3,Iss.mono (same_fresh s h) ds e4⟩
 dj:=fun j l ds es hjl g1 g2=>by
  have key:∀ j ds,i ≠ j->getS σ j=some (.ow ds)->τ[j]? ≠ some (some (.ref a)):=fun j ds _ g e=>by
   obtain ⟨b,_,e1,e2,e3,_⟩:=R.ow j ds g
   rw [e1] at e
   cases e
   rw [h] at e3;cases e3
  rw [getS_set] at g1 g2
  by_cases hj:i=j /\ i < σ.length
  ·obtain ⟨rfl,_⟩:=hj
   rw [if_neg fun z=>hjl z.1] at g2
   rw [List.getElem?_set_self hi,List.getElem?_set_ne hjl]
   exact fun z=>key l es hjl g2 z.symm
  ·rw [if_neg hj] at g1
   have hij:i ≠ j:=fun z=>hj ⟨z,by rw [R.len];exact hi⟩
   by_cases hl:i=l /\ i < σ.length
   ·obtain ⟨rfl,_⟩:=hl
    rw [List.getElem?_set_self hi,List.getElem?_set_ne hij]
    exact key j ds hij g1
   ·rw [if_neg hl] at g2
    have hil:i ≠ l:=fun z=>hl ⟨z,by rw [R.len];exact hi⟩
    rw [List.getElem?_set_ne hij,List.getElem?_set_ne hil]
    exact R.dj j l ds es hjl g1 g2
 mine:=fun j ds b g e=>by
  rw [getS_set] at g
  rcases set_at e with ⟨rfl,q⟩ | ⟨hij,q⟩
  ·cases q
   exact fun z=>R.own _ (sub _ z) h
  ·rw [if_neg fun z=>hij z.1] at g
   exact R.mine j ds b g q
 tt:=by
  refine R.tt.step (fresh_T hi R) (fun j rows b as g e d t=>⟨s _ _ t.top,t.nd,⟨List.mem_cons_of_mem _ t.inO.1,fun c hc=>List.mem_cons_of_mem _ (t.inO.2 c hc)⟩,t.rw.imp (same_fresh s h) fun c _ vs q=>s _ _ q⟩) fun _ _ b as j ds c _ t g q=>?_
  rw [getS_set] at g
  rcases set_at q with ⟨rfl,q'⟩ | ⟨hij,q⟩
  ·cases q'
   refine .inr ⟨fun z=>?_,fun z=>?_⟩
   ·subst z;rw [t.top] at h;cases h
   ·obtain ⟨_,e⟩:=t.rw.isL _ z
    rw [e] at h;cases h
  ·rw [if_neg fun z=>hij z.1] at g
   exact .inl ⟨ds,g,q⟩
 mineT:=R.mineT.step (fresh_T hi R) (R.tt.same s)
theorem minus_write {a:Addr} {o:HO} (h:a ∈ O):minus (upd H a o) O=minus H O:=by
 funext b
 unfold minus
 by_cases hb:b ∈ O
 ·rw [if_pos hb,if_pos hb]
 ·rw [if_neg hb,if_neg hb,upd_ne fun z=>hb (by rw [z];exact h)]
theorem Good.write {H₀:Hp} {a:Addr} {o:HO} (g:Good O₀ H₀ O H) (h:a ∈ O) (hn:a ∉ O₀):Good O₀ H₀ O (upd H a o):=by
 refine ⟨fun b u q=>?_,g.sub,g.new⟩
 have h0:H₀ a=none:=(g.new a h).resolve_left hn
 rw [upd_ne fun z=>by subst z;rw [h0] at q;cases q]
 exact g.same b u q
theorem write_T {i:Nat} (es:List D):∀ j rows,getS (setS σ i (some (.ow es))) j=some (.ot rows)->getS σ j=some (.ot rows) /\ τ[j]?=τ[j]?:=fun j rows g=>by
 rw [getS_set] at g
 by_cases hj:i=j /\ i < σ.length
 ·rw [if_pos hj] at g;cases g
 ·rw [if_neg hj] at g;exact ⟨g,rfl⟩
theorem RepS.write {a:Addr} {vs ws:List V} {ds es:List D} {i:Nat} (R:RepS O₀ K O H σ τ) (g:getS σ i=some (.ow ds)) (e1:τ[i]?=some (some (.ref a))) (e2:a ∈ O) (is:Iss K (minus H O) es ws) :
 RepS O₀ K O (upd H a (.lst ws)) (setS σ i (some (.ow es))) τ where
 len:=by rw [setS_length];exact R.len
 own:=fun b hb=>by
  by_cases z:b=a
  ·subst z;rw [upd_same];exact fun z=>nomatch z
  ·rw [upd_ne z];exact R.own b hb
 sh:=fun j d h=>by
  rw [getS_set] at h
  by_cases hj:i=j /\ i < σ.length
  ·rw [if_pos hj] at h;cases h
  ·rw [if_neg hj] at h
   rw [minus_write e2]
   exact R.sh j d h
 ow:=fun j fs h=>by
  rw [getS_set] at h
  rw [minus_write e2]
  by_cases hj:i=j /\ i < σ.length
  ·rw [if_pos hj] at h
   obtain ⟨rfl,_⟩:=hj
   cases h
   exact ⟨a,ws,e1,e2,upd_same ..,is⟩
  ·rw [if_neg hj] at h
   obtain ⟨b,us,h1,h2,h3,h4⟩:=R.ow j fs h
   have hij:i ≠ j:=fun z=>hj ⟨z,by
    rw [R.len]
    rcases Nat.lt_or_ge i τ.length with q | q
    ·exact q
    ·rw [List.getElem?_eq_none q] at e1;cases e1⟩
   have hb:b ≠ a:=fun z=>by subst z;exact R.dj i j ds fs hij g h (e1.trans h1.symm)
   exact ⟨b,us,h1,h2,by rw [upd_ne hb];exact h3,h4⟩
 dj:=fun j l fs gs hjl g1 g2=>by
  have old:∀ j fs,getS (setS σ i (some (.ow es))) j=some (.ow fs)->∃ fs',getS σ j=some (.ow fs'):=fun j fs h=>by
   rw [getS_set] at h
   by_cases hj:i=j /\ i < σ.length
   ·obtain ⟨rfl,_⟩:=hj;exact ⟨_,g⟩
   ·rw [if_neg hj] at h;exact ⟨_,h⟩
  obtain ⟨_,k1⟩:=old j fs g1
  obtain ⟨_,k2⟩:=old l gs g2
  exact R.dj j l _ _ hjl k1 k2
 mine:=fun j fs b h e=>by
  rw [getS_set] at h
  by_cases hj:i=j /\ i < σ.length
  ·obtain ⟨rfl,_⟩:=hj;exact R.mine i ds b g e
  ·rw [if_neg hj] at h;exact R.mine j fs b h e
 tt:=by
  refine R.tt.step (write_T es) (fun j rows b as q e d t=>?_) fun _ _ _ _ j fs c _ _ q e=>?_
  ·obtain ⟨n1,n2⟩:=d i ds a g e1
   exact ⟨by rw [upd_ne (Ne.symm n1)];exact t.top,t.nd,t.inO,t.rw.imp (by rw [minus_write e2];exact Same.refl _) fun c hc vs z=>by rw [upd_ne (show c ≠ a from fun y=>n2 (by rw [<- y];exact hc))];exact z⟩
  ·rw [getS_set] at q
   by_cases hj:i=j /\ i < σ.length
   ·obtain ⟨rfl,_⟩:=hj;exact .inl ⟨ds,g,e⟩
   ·rw [if_neg hj] at q;exact .inl ⟨fs,q,e⟩
 mineT:=R.mineT.step (write_T es) fun j rows b q e=>by
  obtain ⟨b',as,e3,t,d⟩:=R.tt.1 j rows q
  rw [e] at e3
  cases e3
  exact upd_ne (Ne.symm (d i ds a g e1).1)
theorem RepS.share (R:RepS O₀ K O H σ τ) {i:Nat} {ds:List D} {a:Addr} {vs:List V} (g:getS σ i=some (.ow ds)) (e1:τ[i]?=some (some (.ref a))) (e3:H a=some (.lst vs)) (e4:Iss K (minus H O) ds vs):RepS O₀ K (less O a) H (setS σ i (some (.sh (.lst ds)))) τ:=by
 refine ⟨R.toReps.share g e1 e3 e4,fun j fs b h e=>?_,R.mineT.step (fun j rows q=>?_) fun _ _ _ _ _=>rfl⟩
 rotate_left
 ·rw [getS_set] at q
  by_cases hj:i=j /\ i < σ.length
  ·rw [if_pos hj] at q;cases q
  ·rw [if_neg hj] at q;exact ⟨q,rfl⟩
 rw [getS_set] at h
 by_cases hj:i=j /\ i < σ.length
 ·rw [if_pos hj] at h;cases h
 ·rw [if_neg hj] at h;exact R.mine j fs b h e
theorem Good.share {H₀:Hp} {a:Addr} (g:Good O₀ H₀ O H) (hn:a ∉ O₀):Good O₀ H₀ (less O a) H :=
 ⟨g.same,fun b hb=>mem_less.mpr ⟨g.sub b hb,fun z=>hn (z ▸ hb)⟩,fun b hb=>g.new b (mem_less.mp hb).1⟩
end
section
variable {X:Cx} {k:Ck} {C:Cfg} {O₀:List Addr} {H₀:Hp}
theorem swaps_of {x:Ex} {e:Expr} (h:chkE k x e=true) (hc:isComp e=false) (t:Option Expr) (n:Nat) (env:Env):swapsWith e t n env=pure false:=by
 have p:=chk_plain h
 cases e <;> first | rfl | exact Bool.noConfusion p | exact Bool.noConfusion hc
theorem swaps_sub (e o i:Expr) {p:Pos} (n:Nat) (env:Env):swapsWith e (some (.Subscript o i p)) n env=pure false:=by
 cases e <;> rfl
theorem swaps_tup (e:Expr) {es:List Expr} {j:Nat} {p:Pos} (n:Nat) (env:Env):swapsWith e (some (.Tuple es j p)) n env=pure false:=by
 cases e <;> rfl
theorem swaps_comp {elt:Expr} {gs:List Comprehension} {sc:Scope} {pos py:Pos} {y:Str} (n:Nat) (env:Env):∃ b,swapsWith (.ListComp elt gs sc pos) (some (.Name y py)) n env=pure b:=⟨_,rfl⟩
structure OkS (X:Cx) (k:Ck) (C:Cfg):Prop extends Ok X k C where
 fn:∀ x,X.fn x=true
def gNames:List Nat->TGs
 | []=>gNil
 | i :: is=>gCons (gName i) (gNames is)
theorem pgs_names (ok:OkS X k C):∀ (is:List Nat) (ts:List Expr),chkTs k is ts=true->PGs X ts (gNames is) /\ (assignEach ts X.env).length=is.length /\ (assignEach ts X.env).findIdx? (·.1)=none
 | [],ts,h=>by
   have e:ts=[]:=by rw [chkTs] at h;simpa using h
   subst e
   exact ⟨pgs_nil,rfl,rfl⟩
 | i :: is,ts,h=>by
   obtain ⟨x,pos,ts,rfl,h1,h2⟩:=chkTs_cons h
   obtain ⟨h1,h3,h4,h5⟩:=ok.vis h1
   obtain ⟨p,l,f⟩:=pgs_names ok is ts h2
   refine ⟨pgs_cons (pg_name ok.nd h1 h3 (.inl (ok.fn _))) p,?_,?_⟩
   ·show (assignEach ts X.env).length + 1=is.length + 1
    rw [l]
   ·show List.findIdx? _ ((false,assign (.Name x pos) X.env) :: assignEach ts X.env)=none
    rw [List.findIdx?_cons,f];rfl
theorem gNames_of {K:PySem.W.Frag} {O₀ O:List Addr} {H:Hp} {Q:L2.St->Hp->Prop}:∀ (is:List Nat) {ds:List D} {vs:List V} {σ σ':Sto} {τ:L2.St},RepS O₀ K O H σ τ->Iss K (minus H O) ds vs->setAll is ds σ=some σ'->(∀ τ',RepS O₀ K O H σ' τ'->Q τ' H)->gNames is vs τ H Q
 | [],ds,vs,σ,σ',τ,R,i,e,q=>by
   cases ds with
   | nil =>
     unfold Iss at i
     simp only [setAll,Option.some.injEq] at e
     subst e
     exact ⟨i,q τ R⟩
   | cons d ds=>simp [setAll] at e
 | n :: is,ds,vs,σ,σ',τ,R,i,e,q=>by
   cases ds with
   | nil=>simp [setAll] at e
   | cons d ds =>
     unfold Iss at i
     obtain ⟨v,r,rfl,i1,i2⟩:=i
     simp only [setAll] at e
     exact ⟨v,r,rfl,gNames_of is (R.set i1) i2 e q⟩
theorem setAll_len:∀ (is:List Nat) {ds:List D} {σ σ':Sto},setAll is ds σ=some σ'->ds.length=is.length
 | [],ds,σ,σ',e=>by cases ds with | nil=>rfl | cons d ds=>simp [setAll] at e
 | n :: is,ds,σ,σ',e=>by
   cases ds with
   | nil=>simp [setAll] at e
   | cons d ds=>simp only [setAll] at e;simp [setAll_len is e]
end
end Z
namespace Z
open PySem PySem.Spec PyProof.Rows L2
def IsRv (h:Heap) (it l:Addr) (j:Int):Prop:=∃ o,h.get? it=some o /\ o.cls=.type "list_reverseiterator" /\ o.data=.fields #[.ref l,.int j 0]
theorem IsRv.ty {s:Shared} {it l:Addr} {j:Int} (x:IsRv s.heap it l j):s.TypeIs (.ref it) "list_reverseiterator":=let ⟨o,ho,hc,_⟩:=x;⟨o,ho,hc⟩
section
variable {prog:Program} {w:World} {A:Around} {E:Value->Shared->Prop} {s:Shared}
end
section
variable {prog:Program} {w:World} {A:Around} {E:Value->Shared->Prop} {s:Shared}
end
def tDL (K:PySem.W.Frag) (C:Cfg) (x:Ex):TE:=fun τ H Q=>∃ σ O,Reps K O H σ τ /\ wpE C x σ (isL fun xs=>WdF K O H Q (.lst xs))
def rCat (K:PySem.W.Frag):R2:=fun xv yv H Q=>∃ O xs ys,(∀ a ∈ O,H a ≠ none) /\ Is K (minus H O) (.lst xs) xv /\ Is K (minus H O) (.lst ys) yv /\ xs.length + ys.length<=lim /\ WdF K O H Q (.lst (xs ++ ys))
theorem op_catL {X:Cx}:OpR X (binaryOp .Add) (rCat X.K):=by
 intro pins s τ H x y v u Q I rx ry h
 obtain ⟨O,xs,ys,ho,ix,iy,w⟩:=h
 obtain ⟨a,vs,rfl,h1,h2⟩:=is_lst ix
 obtain ⟨b,ws,rfl,h3,h4⟩:=is_lst iy
 cases rx
 cases ry
 exact cat_listsF I ho w ((minus_same H O).seq h1) ((minus_same H O).seq h3) h2 h4
theorem addD_isL {x y:D} {f:List D->Prop} (w:addD x y (isL f)):∃ xs ys,x=.lst xs /\ y=.lst ys /\ xs.length + ys.length<=lim /\ f (xs ++ ys):=by
 cases x <;> cases y <;> first | exact w.elim | exact w.2.elim | exact ⟨_,_,rfl,rfl,w.1,w.2⟩
theorem new_mine {K:PySem.W.Frag} {O:List Addr} {H:Hp} {Q:VK} {xs:List D} {vs:List V} {l:Addr} (w:WdF K O H Q (.lst xs)) (hl:H l=none) (i:Iss K (minus H O) xs vs):Q (.ref l) (upd H l (.lst vs)) :=
 w xs l _ vs rfl (same_upd hl _) hl (upd_same ..) (Iss.mono (same_fresh (same_upd hl _) hl) xs i)
theorem sF {X:Cx} {k:Ck} {C:Cfg} (ok:Ok X k C) (x:Ex) (e:Expr) (hf:frE x=true) (h:chkE k x e=true):PE X e (tDL X.K C x):=by
 cases x with
 | bin o a b =>
   cases o <;> first | exact Bool.noConfusion hf | skip
   rw [chkE] at h
   replace h:=opt_any h
   obtain ⟨⟨l,op,r⟩,hx,h⟩:=h
   obtain ⟨pos,rfl⟩:=asBin_ hx
   rw [Bool.and_eq_true,Bool.and_eq_true] at h
   have hop:op=.Add:=by
    have:=h.1.1
    cases op <;> first | rfl | exact Bool.noConfusion this
   subst hop
   refine PE.imp (fun τ H Q w=>?_) (pe_op op_catL (sB ok a _ h.1.2).1 (sB ok b _ h.2).1)
   obtain ⟨σ,O,R,w⟩:=w
   unfold wpE at w
   refine ⟨σ,O,R,wpE_mono a (fun x wx xv H1 s1 i1=>⟨σ,O,R.mono s1,wpE_mono b (fun y wy yv H2 s2 i2=>?_) wx⟩) w⟩
   obtain ⟨xs,ys,rfl,rfl,hl,q⟩:=addD_isL wy
   exact ⟨O,xs,ys,(R.mono (s1.trans s2)).own,Is.mono (minus_mono s2) _ i1,i2,hl,q.mono (s1.trans s2)⟩
 | bi f es =>
   cases f <;> first | exact Bool.noConfusion hf | skip
   rw [chkE] at h
   replace h:=opt_any h
   obtain ⟨⟨x,xs,pos⟩,hx,h⟩:=h
   obtain ⟨q,rfl⟩:=asCallN_ hx
   simp only [Bool.and_eq_true,decide_eq_true_eq] at h
   obtain ⟨⟨⟨h1,h2⟩,hne⟩,h4⟩:=h
   match xs,hne,h1,h4 with
   | y :: ys,_,h1,h4 =>
     subst h1
     obtain ⟨g1,g2,g3⟩:=ok.gl h2
     have hs:starEach (y :: ys) X.env=(false,eval y X.env) :: starEach ys X.env /\ (backTo pos (starEach ys X.env)).any (·.1)=false:=by
      cases es with
      | nil=>have:=chkEs_nil h4;cases this
      | cons z zs =>
        obtain ⟨y',ys',e',h5,h6⟩:=chkEs_cons h4
        cases e'
        exact ⟨star_of h5 _ _,plain_of h6 _ _⟩
     refine PE.imp (fun τ H Q w=>?_) (pe_callTy (T:="list") call_list_of g1 (ok.blt _ (bi_blt .list)) PyProof.Rows.boot_list (sA ok es _ h4) g3 g2 hs.1 hs.2)
     obtain ⟨σ,O,R,w⟩:=w
     unfold wpE at w
     refine ⟨σ,O,R,wpEs_mono es (fun ds wd vs H1 s1 i1=>?_) w⟩
     obtain ⟨x,rfl,wd⟩:=one1_of wd
     obtain ⟨v,rfl,j1⟩:=iss1 i1
     clear i1
     cases x <;> first | exact wd.elim | skip
     ·obtain ⟨a,vs,rfl,h1,h2⟩:=is_tup j1
      exact ⟨a,vs,rfl,.inr ((sqt_mono (minus_same H1 O) h1)),fun l hl=>new_mine (WdF.mono s1 wd) hl h2⟩
     ·obtain ⟨a,vs,rfl,h1,h2⟩:=is_lst j1
      exact ⟨a,vs,rfl,.inl ((minus_same H1 O).seq h1),fun l hl=>new_mine (WdF.mono s1 wd) hl h2⟩
 | _=>exact Bool.noConfusion hf
end Z
namespace Z
open PySem PySem.Spec PyProof.Rows L2
section
variable {X:Cx} {k:Ck} {C:Cfg}
theorem sL (ok:Ok X k C) (x:Ex) (e:Expr) (hf:frL x=true) (h:chkE k x e=true):PE X e (tDL X.K C x):=by
 cases x with
 | compE a b =>
   rw [chkE] at h
   replace h:=opt_any h
   obtain ⟨⟨elt,x,iter,sc⟩,hz,h⟩:=h
   obtain ⟨px,pos,rfl⟩:=asComp_ hz
   simp only [Bool.and_eq_true,Bool.not_eq_true'] at h
   obtain ⟨⟨⟨h1,hn⟩,ha⟩,h3⟩:=h
   intro pins s τ H Q I w
   obtain ⟨cl,co⟩:=ok.comp h1 I.ok
   refine pe_comp (te:=tD X.K C b) ok.calm ok.nd (ok.comp_nE h1) co (pi_seq (sB ok a iter ha).1) (fun _ _ _ _=>pts_nil) (fun s H fp Ca=>(sB (ok.block h1 co s H fp Ca) b elt h3).1) (folded_of hn _) pins s τ H Q I ?_
   obtain ⟨σ,O,R,w⟩:=w
   unfold wpE at w
   refine ⟨σ,O,R,wpE_mono a (fun d wd v H1 s1 i1=>?_) w⟩
   obtain ⟨xs,e1,hx,wd⟩:=wd
   have wd':=compL_mono (f:=fun d Q=>wpE C b (σ ++ [some (.sh d)]) Q) (fun d _ _ hq=>wpE_mono b hq) _ (fun ys (wy:WdF X.K O H Q (.lst ys))=>WdF.mono s1 wy) wd
   obtain ⟨J,hw,g1,g2,g3⟩:=walk_of e1 i1
   exact ⟨J,hw,comp_turnsGF (R.mono s1) hx (fun j H2 s2=>g1 j H2 O (minus_mono s2)) (fun j H2 s2=>g2 j H2 O (minus_mono s2)) (fun j H2 v H' d s2 y e=>by obtain ⟨q,i⟩:=g3 j H2 O v H' d (minus_mono s2) y e;subst q;exact ⟨Same.refl _,i⟩) wd'⟩
 | compR es b =>
   rw [chkE] at h
   replace h:=opt_any h
   obtain ⟨⟨elt,x,iter,sc⟩,hz,h⟩:=h
   obtain ⟨px,pos,rfl⟩:=asComp_ hz
   simp only [Bool.and_eq_true] at h
   obtain ⟨⟨h1,h2⟩,h3⟩:=h
   replace h2:=opt_any h2
   obtain ⟨⟨f,args,p2⟩,hcn,h2⟩:=h2
   obtain ⟨q,e2⟩:=asCallN_ hcn
   subst e2
   simp only [Bool.and_eq_true,decide_eq_true_eq,Bool.not_eq_true'] at h2
   obtain ⟨⟨⟨hf,hg⟩,hne⟩,ha⟩:=h2
   subst hf
   obtain ⟨g1,_,_⟩:=ok.gl hg
   cases args with
   | nil=>simp at hne
   | cons y ys =>
     have hs:starEach (y :: ys) X.env=(false,eval y X.env) :: starEach ys X.env /\ (backTo p2 (starEach ys X.env)).any (·.1)=false:=by
      cases es with
      | nil=>have:=chkEs_nil ha;cases this
      | cons z zs =>
        obtain ⟨y',ys',e',h5,h6⟩:=chkEs_cons ha
        cases e'
        exact ⟨star_of h5 _ _,plain_of h6 _ _⟩
     intro pins s τ H Q I w
     obtain ⟨cl,co⟩:=ok.comp h1 I.ok
     refine pe_comp (te:=tD X.K C b) ok.calm ok.nd (ok.comp_nE h1) co (pi_rg g1 (ok.blt _ (by decide)) (sA ok es _ ha) hs.1 hs.2) (fun _ _ _ _=>pts_nil) (fun s H fp Ca=>(sB (ok.block h1 co s H fp Ca) b elt h3).1) (fun _=>rfl) pins s τ H Q I ?_
     obtain ⟨σ,O,R,w⟩:=w
     unfold wpE at w
     refine ⟨σ,O,R,wpEs_mono es (fun ds wd vs H1 s1 i1=>?_) w⟩
     obtain ⟨lo,hi,st,e,c,hx,wd⟩:=rgD_of i1 wd
     refine ⟨lo,hi,st,e,c,?_⟩
     refine comp_turnsGF (R.mono s1) hx ?_ ?_ ?_ (compL_mono (f:=fun d Q=>wpE C b (σ ++ [some (.sh d)]) Q) (fun d _ _ hq=>wpE_mono b hq) _ (fun ys (wy:WdF X.K O H Q (.lst ys))=>WdF.mono s1 wy) wd)
     ·intro j H _ hj
      rw [rangeD_length] at hj
      exact hj
     ·intro j H _ hj
      rw [rangeD_length] at hj
      exact hj
     ·intro j H v H' d _ y hd
      obtain ⟨e1,e2⟩:=y
      have hj:j < (if lo < hi then (hi - lo - 1) / st + 1 else 0).toNat:=by
       rcases Nat.lt_or_ge j (if lo < hi then (hi - lo - 1) / st + 1 else 0).toNat with z | z
       ·exact z
       ·rw [List.getElem?_eq_none (by rw [rangeD_length];exact z)] at hd;cases hd
      rw [rangeD_get _ _ _ _ hj] at hd
      cases hd
      subst e1
      exact ⟨Same.refl _,by rw [e2];exact int_is _⟩
 | slc a l u =>
   rw [chkE] at h
   replace h:=opt_any h
   obtain ⟨⟨v,i⟩,hx,h⟩:=h
   obtain ⟨pos,rfl⟩:=asSub_ hx
   replace h:=opt_any h
   obtain ⟨⟨lo,hi⟩,hs,h⟩:=h
   obtain ⟨p2,e2⟩:=asSlice_ hs
   simp only at e2
   subst e2
   simp only [Bool.and_eq_true] at h
   obtain ⟨⟨⟨⟨ha,hl1⟩,hu1⟩,hl2⟩,hu2⟩:=h
   have pl:PO X lo (tPt X.K C l):=po_D hl1 fun x ex nl=>by
    subst ex
    rw [nl] at hl2
    exact (sB ok l x hl2).1
   have pu:PO X hi (tPt X.K C u):=po_D hu1 fun x ex nl=>by
    subst ex
    rw [nl] at hu2
    exact (sB ok u x hu2).1
   refine PE.imp (fun τ H Q w=>?_) (pe_slice sl_list (sB ok a v ha).1 pl pu)
   obtain ⟨σ,O,R,w⟩:=w
   unfold wpE at w
   refine ⟨σ,O,R,wpE_mono a (fun d wd x H1 s1 i1=>⟨σ,O,R.mono s1,prt_mono (fun hq=>wpE_mono l hq) (fun lo' wl H2 s2=>⟨σ,O,(R.mono s1).mono s2,prt_mono (fun hq=>wpE_mono u hq) (fun hi' wh H3 s3=>?_) wl⟩) wd⟩) w⟩
   have ss:=s2.trans s3
   cases d <;> first | exact wh.elim | exact wh.2.elim | skip
   next xs =>
   obtain ⟨b,vs,rfl,h1,h2⟩:=is_lst i1
   have wh:WdF X.K O H Q (.lst (cutD xs lo' hi')):=wh
   exact ⟨b,vs,rfl,(minus_same _ _).seq ((minus_mono ss).seq h1),fun p hp=>new_mine (WdF.mono (s1.trans ss) wh) hp (Iss.cut lo' hi' (Iss.mono (minus_mono ss) xs h2))⟩
 | bin o a b=>exact sF ok _ e hf h
 | bi f es=>exact sF ok _ e hf h
 | _=>exact Bool.noConfusion hf
def tIt (K:PySem.W.Frag) (C:Cfg) (b:Ex):TE:=fun τ H Q=>frIt C b=true /\ tDL K C b τ H Q
theorem sI (ok:Ok X k C) (x:Ex) (e:Expr) (hf:frI x=true) (h:chkE k x e=true):PE X e (tIt X.K C x):=by
 cases x with
 | call f es =>
   rw [chkE] at h
   replace h:=opt_any h
   obtain ⟨⟨x,xs,pos⟩,hx,h⟩:=h
   obtain ⟨q,rfl⟩:=asCallN_ hx
   simp only [Bool.and_eq_true,decide_eq_true_eq] at h
   obtain ⟨⟨⟨k1,k2⟩,hne⟩,k4⟩:=h
   match xs,hne,k1,k4 with
   | y :: ys,_,k1,k4 =>
     obtain ⟨g1,g2,g3⟩:=ok.gl k2
     obtain ⟨fa,fd,ps,lv,F,hr,hm,hk,hb⟩:=ok.fns f x _ k1
     have hs:starEach (y :: ys) X.env=(false,eval y X.env) :: starEach ys X.env /\ (backTo pos (starEach ys X.env)).any (·.1)=false:=by
      cases es with
      | nil=>have:=chkEs_nil k4;cases this
      | cons z zs =>
        obtain ⟨y',ys',e',h5,h6⟩:=chkEs_cons k4
        cases e'
        exact ⟨star_of h5 _ _,plain_of h6 _ _⟩
     refine PE.imp (fun τ H Q w=>?_) (pe_call (CX:=CXz X.prog X.w X.mg) (E:=E0) (dvs:=[]) F hr g1 hm hk hb .nil passZ (sA ok es _ k4) g2 hs.1 hs.2)
     obtain ⟨hfr,σ,O,R,w⟩:=w
     have hfr:C.fr f=true:=hfr
     unfold wpE at w
     refine ⟨σ,O,R,wpEs_mono es (fun ds ⟨hl,wd⟩ vs H1 s1 i1=>?_) (wpEs_len es w)⟩
     show spD X.K (y :: ys).length (C.fr f) (C.f2 f) (C.ct f) (vs ++ []) H1 _ E0
     rw [List.append_nil]
     refine ⟨O,ds,by rw [hl,len_of k4],(R.mono s1).own,i1,wd.1,fun d r=>?_,fun x hx=>ok.E x (wd.2.2 x hx)⟩
     unfold Rw
     rw [if_pos hfr]
     obtain ⟨xs,rfl,q⟩:∃ xs,d=.lst xs /\ WdF X.K O H Q (.lst xs):=by
      have:=wd.2.1 d r
      cases d <;> first | exact this.elim | exact ⟨_,rfl,this⟩
     exact q.mono s1
 | _=>exact PE.imp (fun τ H Q w=>w.2) (sL ok _ e hf h)
theorem same_freshes {H H':Hp} {O as:List Addr} (s:Same H H') (h:∀ b ∈ as,H b=none):Same (minus H O) (minus H' (as ++ O)):=fun b o hb=>by
 have e:=minus_same _ _ _ _ hb
 have na:b ∉ as:=fun z=>by rw [h b z] at e;cases e
 have nb:b ∉ O:=fun z=>by unfold minus at hb;rw [if_pos z] at hb;cases hb
 rw [minus_at (by simp [na,nb])]
 exact s _ _ e
theorem Reps.grow {K:PySem.W.Frag} {O as:List Addr} {H H':Hp} {σ:Sto} {τ:L2.St} (R:Reps K O H σ τ) (s:Same H H') (hn:∀ b ∈ as,H b=none) (hs:∀ b ∈ as,H' b ≠ none):Reps K (as ++ O) H' σ τ where
 len:=R.len
 own:=fun b hb=>by
  rcases List.mem_append.mp hb with z | z
  ·exact hs b z
  ·exact (R.mono s).own b z
 sh:=fun i d g=>by
  obtain ⟨v,e1,e2⟩:=R.sh i d g
  exact ⟨v,e1,Is.mono (same_freshes s hn) d e2⟩
 ow:=fun i ds g=>by
  obtain ⟨a,vs,e1,e2,e3,e4⟩:=R.ow i ds g
  exact ⟨a,vs,e1,List.mem_append_right _ e2,s _ _ e3,Iss.mono (same_freshes s hn) ds e4⟩
 dj:=R.dj
 tt:=R.tt.step (fun _ _ g=>⟨g,rfl⟩) (fun _ _ _ _ _ _ _ t=>⟨s _ _ t.top,t.nd,⟨List.mem_append_right _ t.inO.1,fun b hb=>List.mem_append_right _ (t.inO.2 b hb)⟩,t.rw.imp (same_freshes s hn) fun b _ vs h=>s _ _ h⟩) fun _ _ _ _ j ds b _ _ g q=>.inl ⟨ds,g,q⟩
theorem minus_eq {H:Hp} {O O':List Addr} (h:∀ b,b ∈ O ↔ b ∈ O'):minus H O=minus H O':=by
 funext b
 unfold minus
 by_cases z:b ∈ O
 ·rw [if_pos z,if_pos ((h b).mp z)]
 ·rw [if_neg z,if_neg fun y=>z ((h b).mpr y)]
theorem Rws.snoc {K:PySem.W.Frag} {O:List Addr} {H:Hp} {r:List D} {b:Addr} {vs:List V} (h1:H b=some (.lst vs)) (h2:Iss K (minus H O) r vs):∀ {rows:List (List D)} {as:List Addr},Rws K O H rows as->Rws K O H (rows ++ [r]) (as ++ [b])
 | [],as,h=>by cases h;exact ⟨b,[],vs,rfl,h1,h2,rfl⟩
 | q :: rows,as,h=>by
   obtain ⟨c,bs,us,rfl,e1,e2,e3⟩:=h
   exact ⟨c,bs ++ [b],us,rfl,e1,e2,Rws.snoc h1 h2 e3⟩
theorem Rws.own {K:PySem.W.Frag} {O O':List Addr} {H:Hp} {rows:List (List D)} {as:List Addr} (h:∀ b,b ∈ O ↔ b ∈ O') (r:Rws K O H rows as):Rws K O' H rows as:=r.imp (by rw [minus_eq h];exact Same.refl _) fun _ _ _ z=>z
theorem comp_turnsT {K:PySem.W.Frag} {J:It} {xs:List D} {e:Ex} {τ:L2.St} {H1:Hp} {σ:Sto} {O:List Addr} {Q:VK} (R1:Reps K O H1 σ τ) (hx:xs.length<=lim) (hb:frIt C e=true)
 (hgo:∀ j H O',Same (minus H1 O) (minus H O')->j < xs.length->J.go j H) (hst:∀ j H O',Same (minus H1 O) (minus H O')->xs.length<=j->J.stop j H)
 (hy:∀ j H O' v H' d,Same (minus H1 O) (minus H O')->J.yld j H v H'->xs[j]?=some d->H'=H /\ Is K (minus H O') d v)
 (w:compLL (fun d Q=>wpE C e (σ ++ [some (.sh d)]) (isL Q)) xs fun rows=>WdG K O H1 Q (rowsD rows)) :
 ∃ W:Nat->Nat->List V->Hp->Prop,(∃ m,W 0 m [] H1) /\ ∀ i m ys H,W i m ys H ->
   (J.stop i H /\ ys.length<=sizeLine /\ ∀ p,H p=none->Q (.ref p) (upd H p (.lst ys))) \/ (J.go i H /\ ys.length < sizeLine /\ ∀ x H',J.yld i H x H'->tIt K C e (τ ++ [some x]) H' fun y H2=>∃ m',m' < m /\ W (i + 1) m' (ys ++ [y]) H2):=by
 refine ⟨fun j m ys H=>m=xs.length - j /\ j<=xs.length /\ Same H1 H /\ ∃ rows as,as.length=j /\ ys=as.map V.ref /\ (∀ b ∈ as,H1 b=none) /\ as.Nodup /\ Rws K (as ++ O) H rows as /\ compLL (fun d Q=>wpE C e (σ ++ [some (.sh d)]) (isL Q)) (xs.drop j) fun rest=>WdG K O H1 Q (rowsD (rows ++ rest)),
  ⟨_,rfl,Nat.zero_le _,Same.refl _,[],[],rfl,rfl,(fun _ z=>nomatch z),List.nodup_nil,rfl,by simpa using w⟩,?_⟩
 rintro j m ys H ⟨rfl,hj,sm,rows,as,hd,rfl,fr,nd,rw',w⟩
 have hl:(as.map V.ref).length=j:=by rw [List.length_map,hd]
 have hs:∀ b ∈ as,H b ≠ none:=fun b hb=>by obtain ⟨vs,q⟩:=rw'.isL b hb;rw [q];exact fun z=>nomatch z
 have R:=R1.grow sm fr hs
 have sO:=same_freshes (O:=O) sm fr
 have hlim:lim<=sizeLine:=by decide
 by_cases hlt:j < xs.length
 ·refine .inr ⟨hgo j H _ sO hlt,by lia,fun x H' y=>?_⟩
  obtain ⟨e1,ix⟩:=hy j H _ x H' xs[j] sO y (List.getElem?_eq_getElem hlt)
  subst e1
  rw [List.drop_eq_getElem_cons hlt] at w
  rw [compLL] at w
  refine ⟨hb,_,as ++ O,R.snoc ix,wpE_mono e (fun yd=>isL_mono fun r wr r' a H2 vs q s2 h0 h1 is=>?_) w⟩
  cases q
  have na:a ∉ as:=fun z=>hs a z h0
  have h01:H1 a=none:=by
   cases q:H1 a with
   | none=>rfl
   | some o=>rw [sm a o q] at h0;cases h0
  have mem:∀ b,b ∈ a :: (as ++ O) ↔ b ∈ (as ++ [a]) ++ O:=fun b=>by
   simp only [List.mem_cons,List.mem_append,List.not_mem_nil,or_false]
   constructor
   ·rintro (z | z | z)
    ·exact .inl (.inr z)
    ·exact .inl (.inl z)
    ·exact .inr z
   ·rintro ((z | z) | z)
    ·exact .inr (.inl z)
    ·exact .inl z
    ·exact .inr (.inr z)
  refine ⟨xs.length - (j + 1),by lia,rfl,hlt,sm.trans s2,rows ++ [r],as ++ [a],by simp [hd],by simp,fun b hb=>?_,?_,?_,?_⟩
  ·rcases List.mem_append.mp hb with z | z
   ·exact fr b z
   ·rw [List.mem_singleton.mp z];exact h01
  ·rw [List.nodup_append]
   exact ⟨nd,by simp,fun b hb c hc z=>by rw [List.mem_singleton.mp hc] at z;exact na (z ▸ hb)⟩
  ·refine Rws.own mem (Rws.snoc h1 is (rw'.imp (fun b o hb=>?_) fun b hb vs q=>s2 _ _ q))
   have q:=minus_same _ _ _ _ hb
   have nb:b ∉ as ++ O:=fun z=>by unfold minus at hb;rw [if_pos z] at hb;cases hb
   rw [minus_at (fun z=>(List.mem_cons.mp z).elim (fun y=>by rw [y,h0] at q;cases q) nb)]
   exact s2 _ _ q
  ·simpa using wr
 ·have e1:j=xs.length:=by lia
  refine .inl ⟨hst _ H _ sO (by lia),by lia,fun p hp=>?_⟩
  rw [List.drop_eq_nil_of_le (by lia)] at w
  rw [compLL,List.append_nil] at w
  have np:p ∉ as:=fun z=>hs p z hp
  have s2:=same_upd hp (.lst (as.map V.ref))
  have h01:H1 p=none:=by
   cases q:H1 p with
   | none=>rfl
   | some o=>rw [sm p o q] at hp;cases hp
  refine w rows p as _ rfl (sm.trans s2) ⟨h01,fr⟩ ⟨upd_same ..,⟨np,nd⟩,⟨List.mem_cons_self ..,fun b hb=>List.mem_cons_of_mem _ (List.mem_append_left _ hb)⟩,?_⟩
  exact rw'.imp (same_fresh s2 hp) fun b hb vs q=>s2 _ _ q
def tDG (K:PySem.W.Frag) (C:Cfg) (x:Ex):TE:=fun τ H Q=>∃ σ O,Reps K O H σ τ /\ wpG C x σ fun rows=>WdG K O H Q (rowsD rows)
theorem WdG.mono {K:PySem.W.Frag} {O:List Addr} {H H':Hp} {Q:VK} {d:D} (e:Same H H') (w:WdG K O H Q d):WdG K O H' Q d:=fun rows a as H'' q s h0 t=>by
 have old:∀ b,H' b=none->H b=none:=fun b h=>by
  cases z:H b with
  | none=>rfl
  | some o=>rw [e b o z] at h;cases h
 exact w rows a as H'' q (e.trans s) ⟨old _ h0.1,fun b hb=>old _ (h0.2 b hb)⟩ t
theorem gcomp (ok:Ok X k C) (z:Ex) (e:Expr) (hf:frG z=true) (h:chkE k z e=true):∃ (x:Str) (px:Pos) (iter elt:Expr) (sc:Scope) (pos:Pos) (wi:TI) (b:Ex),e=.ListComp elt [⟨.Name x px,iter,[],0⟩] sc pos /\ compCk k x sc=true /\ PI X (.Name x px) iter wi /\ (∀ v,foldedSetIterable iter X.env v=pure v) /\
 (∀ cl,CompOk X x sc cl->∀ s H fp Ca,PE (cxComp X s H fp x sc cl Ca) elt (tIt X.K C b)) /\ ∀ τ H Q,tDG X.K C z τ H Q->tComp wi (tIt X.K C b) τ H Q:=by
 cases z with
 | compE a b =>
   rw [chkE] at h
   replace h:=opt_any h
   obtain ⟨⟨elt,x,iter,sc⟩,hz,h⟩:=h
   obtain ⟨px,pos,rfl⟩:=asComp_ hz
   simp only [Bool.and_eq_true,Bool.not_eq_true'] at h
   obtain ⟨⟨⟨h1,hn⟩,ha⟩,h3⟩:=h
   refine ⟨x,px,iter,elt,sc,pos,_,b,rfl,h1,pi_seq (sB ok a iter ha).1,folded_of hn _,fun cl co s H fp Ca=>sI (ok.block h1 co s H fp Ca) b elt hf h3,fun τ H Q w=>?_⟩
   obtain ⟨σ,O,R,hb,w⟩:=w
   refine ⟨σ,O,R,wpE_mono a (fun d wd v H1 s1 i1=>?_) w⟩
   obtain ⟨xs,e1,hx,wd⟩:=wd
   have wd':=compLL_mono (f:=fun d Q=>wpE C b (σ ++ [some (.sh d)]) (isL Q)) (fun d _ _ hq=>wpE_mono b fun _=>isL_mono hq) _ (fun ys (wy:WdG X.K O H Q (rowsD ys))=>WdG.mono s1 wy) wd
   obtain ⟨J,hw,g1,g2,g3⟩:=walk_of e1 i1
   exact ⟨J,hw,comp_turnsT (R.mono s1) hx hb g1 g2 g3 wd'⟩
 | compR es b =>
   rw [chkE] at h
   replace h:=opt_any h
   obtain ⟨⟨elt,x,iter,sc⟩,hz,h⟩:=h
   obtain ⟨px,pos,rfl⟩:=asComp_ hz
   simp only [Bool.and_eq_true] at h
   obtain ⟨⟨h1,h2⟩,h3⟩:=h
   replace h2:=opt_any h2
   obtain ⟨⟨f,args,p2⟩,hcn,h2⟩:=h2
   obtain ⟨q,e2⟩:=asCallN_ hcn
   subst e2
   simp only [Bool.and_eq_true,decide_eq_true_eq,Bool.not_eq_true'] at h2
   obtain ⟨⟨⟨hfn,hg⟩,hne⟩,ha⟩:=h2
   subst hfn
   obtain ⟨g1,_,_⟩:=ok.gl hg
   cases args with
   | nil=>simp at hne
   | cons y ys =>
     have hs:starEach (y :: ys) X.env=(false,eval y X.env) :: starEach ys X.env /\ (backTo p2 (starEach ys X.env)).any (·.1)=false:=by
      cases es with
      | nil=>have:=chkEs_nil ha;cases this
      | cons z zs =>
        obtain ⟨y',ys',e',h5,h6⟩:=chkEs_cons ha
        cases e'
        exact ⟨star_of h5 _ _,plain_of h6 _ _⟩
     refine ⟨x,px,_,elt,sc,pos,_,b,rfl,h1,pi_rg g1 (ok.blt _ (by decide)) (sA ok es _ ha) hs.1 hs.2,fun _=>rfl,fun cl co s H fp Ca=>sI (ok.block h1 co s H fp Ca) b elt hf h3,fun τ H Q w=>?_⟩
     obtain ⟨σ,O,R,hb,w⟩:=w
     refine ⟨σ,O,R,wpEs_mono es (fun ds wd vs H1 s1 i1=>?_) w⟩
     obtain ⟨lo,hi,st,e,c,hx,wd⟩:=rgD_of i1 wd
     refine ⟨lo,hi,st,e,c,?_⟩
     refine comp_turnsT (R.mono s1) hx hb ?_ ?_ ?_ (compLL_mono (f:=fun d Q=>wpE C b (σ ++ [some (.sh d)]) (isL Q)) (fun d _ _ hq=>wpE_mono b fun _=>isL_mono hq) _ (fun ys (wy:WdG X.K O H Q (rowsD ys))=>WdG.mono s1 wy) wd)
     ·intro j H _ _ hj
      rw [rangeD_length] at hj
      exact hj
     ·intro j H _ _ hj
      rw [rangeD_length] at hj
      exact hj
     ·intro j H O' v H' d _ y hd
      obtain ⟨e1,e2⟩:=y
      have hj:j < (if lo < hi then (hi - lo - 1) / st + 1 else 0).toNat:=by
       rcases Nat.lt_or_ge j (if lo < hi then (hi - lo - 1) / st + 1 else 0).toNat with z | z
       ·exact z
       ·rw [List.getElem?_eq_none (by rw [rangeD_length];exact z)] at hd;cases hd
      rw [rangeD_get _ _ _ _ hj] at hd
      cases hd
      exact ⟨e1,by rw [e2];exact int_is _⟩
 | _=>exact Bool.noConfusion hf
theorem sG (ok:Ok X k C) (z:Ex) (e:Expr) (hf:frG z=true) (h:chkE k z e=true):PE X e (tDG X.K C z):=by
 obtain ⟨x,px,iter,elt,sc,pos,wi,b,rfl,hck,hpi,hfo,hel,hco⟩:=gcomp ok z e hf h
 intro pins s τ H Q I w
 obtain ⟨cl,co⟩:=ok.comp hck I.ok
 exact pe_comp ok.calm ok.nd (ok.comp_nE hck) co hpi (fun _ _ _ _=>pts_nil) (hel cl co) hfo pins s τ H Q I (hco τ H Q w)
variable {K:PySem.W.Frag} {O₀ O O':List Addr} {H H' H₀:Hp} {σ:Sto} {τ:L2.St}
theorem all_notT:∀ {σ:Sto} {j:Nat} {rows:List (List D)},σ.all notT=true->getS σ j ≠ some (.ot rows)
 | [],j,rows,_=>fun z=>nomatch z
 | x :: r,0,rows,h=>fun z=>by
   have z:x=some (.ot rows):=z
   subst z
   simp [notT] at h
 | x :: r,j + 1,rows,h=>by
   simp only [List.all_cons,Bool.and_eq_true] at h
   exact all_notT (σ:=r) h.2
theorem noT_spec:∀ {σ:Sto} {i j:Nat} {rows:List (List D)},noT σ i=true->j ≠ i->getS σ j ≠ some (.ot rows)
 | [],i,j,rows,_,_=>fun z=>nomatch z
 | x :: r,0,0,rows,_,n=>absurd rfl n
 | x :: r,0,j + 1,rows,h,n=>all_notT (σ:=r) h
 | x :: r,i + 1,0,rows,h,n=>fun z=>by
   have z:x=some (.ot rows):=z
   subst z
   simp [noT,notT] at h
 | x :: r,i + 1,j + 1,rows,h,n=>by
   simp only [noT,Bool.and_eq_true] at h
   exact noT_spec (σ:=r) h.2 (by lia)
theorem ref_inj {as bs:List Addr} (h:(HO.lst (as.map V.ref))=HO.lst (bs.map V.ref)):as=bs:=by
 injection h with h
 induction as generalizing bs with
 | nil=>cases bs <;> simp at h;rfl
 | cons a as ih =>
   cases bs with
   | nil=>simp at h
   | cons b bs =>
     simp only [List.map_cons,List.cons.injEq] at h
     injection h.1 with e
     rw [e,ih h.2]
theorem Good.freshT {a:Addr} {as:List Addr} (g:Good O₀ H₀ O H) (s:Same H H') (h:H a=none /\ ∀ b ∈ as,H b=none):Good O₀ H₀ (a :: as ++ O) H':=by
 have old:∀ b,H b=none->H₀ b=none:=fun b h=>by
  cases q:H₀ b with
  | none=>rfl
  | some o=>rw [g.same b o q] at h;cases h
 refine ⟨g.same.trans s,fun b hb=>List.mem_append_right _ (g.sub b hb),fun b hb=>?_⟩
 rcases List.mem_append.mp hb with hb | hb
 ·rcases List.mem_cons.mp hb with rfl | hb
  ·exact .inr (old _ h.1)
  ·exact .inr (old _ (h.2 b hb))
 ·exact g.new b hb
theorem RepS.freshT {a:Addr} {as:List Addr} {rows:List (List D)} {i:Nat} (R:RepS O₀ K O H σ τ) (sub:∀ b ∈ O₀,b ∈ O) (s:Same H H') (h:H a=none /\ ∀ b ∈ as,H b=none) (t:OwT K (a :: as ++ O) H' rows a as) (nt:noT σ i=true) (hi:i < τ.length) :
 RepS O₀ K (a :: as ++ O) H' (setS σ i (some (.ot rows))) (τ.set i (some (.ref a))):=by
 have hn:∀ b ∈ a :: as,H b=none:=fun b hb=>(List.mem_cons.mp hb).elim (fun z=>by rw [z];exact h.1) (h.2 b)
 have G:Reps K (a :: as ++ O) H' σ τ:=R.toReps.grow s hn fun b hb=>by
  rcases List.mem_cons.mp hb with rfl | hb
  ·rw [t.top];exact fun z=>nomatch z
  ·obtain ⟨vs,q⟩:=t.rw.isL b hb;rw [q];exact fun z=>nomatch z
 have at_:∀ j z,getS (setS σ i (some (.ot rows))) j=some z->(j=i /\ z=.ot rows) \/ (i ≠ j /\ getS σ j=some z /\ (τ.set i (some (.ref a)))[j]?=τ[j]?):=fun j z g=>by
  rw [getS_set] at g
  by_cases hj:i=j /\ i < σ.length
  ·rw [if_pos hj] at g
   cases g
   exact .inl ⟨hj.1.symm,rfl⟩
  ·rw [if_neg hj] at g
   have hij:i ≠ j:=fun z=>hj ⟨z,by rw [R.len];exact hi⟩
   exact .inr ⟨hij,g,List.getElem?_set_ne hij⟩
 have own_ne:∀ j ds b,getS σ j=some (.ow ds)->τ[j]?=some (some (.ref b))->b ≠ a /\ b ∉ as:=fun j ds b g e=>by
  obtain ⟨b',vs,e1,_,e3,_⟩:=R.ow j ds g
  rw [e] at e1
  cases e1
  exact ⟨fun z=>(by rw [z,h.1] at e3;cases e3),fun z=>(by rw [h.2 b z] at e3;cases e3)⟩
 refine ⟨⟨by rw [setS_length,List.length_set];exact R.len,G.own,fun j d g=>?_,fun j ds g=>?_,fun j l ds es hjl g1 g2=>?_,⟨fun j rs g=>?_,fun j l rs qs g1 g2=>?_⟩⟩,fun j ds b g e=>?_,fun j rs b bs g e q=>?_⟩
 ·rcases at_ j _ g with ⟨_,z⟩ | ⟨_,g,e⟩
  ·cases z
  ·obtain ⟨v,e1,e2⟩:=G.sh j d g
   exact ⟨v,e.trans e1,e2⟩
 ·rcases at_ j _ g with ⟨_,z⟩ | ⟨_,g,e⟩
  ·cases z
  ·obtain ⟨b,vs,e1,e2⟩:=G.ow j ds g
   exact ⟨b,vs,e.trans e1,e2⟩
 ·rcases at_ j _ g1 with ⟨_,z⟩ | ⟨_,g1,e1⟩
  ·cases z
  rcases at_ l _ g2 with ⟨_,z⟩ | ⟨_,g2,e2⟩
  ·cases z
  rw [e1,e2]
  exact G.dj j l ds es hjl g1 g2
 ·rcases at_ j _ g with ⟨rfl,z⟩ | ⟨hij,g,e⟩
  ·cases z
   refine ⟨a,as,List.getElem?_set_self hi,t,fun l ds b g2 e2=>?_⟩
   rcases at_ l _ g2 with ⟨_,z⟩ | ⟨_,g2,e⟩
   ·cases z
   ·rw [e] at e2
    exact own_ne l ds b g2 e2
  ·exact absurd g (noT_spec nt (Ne.symm hij))
 ·rcases at_ j _ g1 with ⟨rfl,z⟩ | ⟨hij,g1,e⟩
  ·rcases at_ l _ g2 with ⟨rfl,z⟩ | ⟨hij,g2,e⟩
   ·rfl
   ·exact absurd g2 (noT_spec nt (Ne.symm hij))
  ·exact absurd g1 (noT_spec nt (Ne.symm hij))
 ·rcases at_ j _ g with ⟨_,z⟩ | ⟨_,g,e'⟩
  ·cases z
  ·rw [e'] at e
   exact R.mine j ds b g e
 ·rcases at_ j _ g with ⟨rfl,z⟩ | ⟨hij,g,e'⟩
  ·rw [List.getElem?_set_self hi] at e
   cases e
   rw [t.top] at q
   have:=ref_inj (Option.some.inj q)
   subst this
   exact ⟨fun z=>R.own _ (sub _ z) h.1,fun b hb z=>R.own _ (sub _ z) (h.2 b hb)⟩
  ·exact absurd g (noT_spec nt (Ne.symm hij))
theorem put_newT {ex:Str->Prop} {Dd:Ends} {i:Nat} {a:Addr} {as:List Addr} {rows:List (List D)} (g:Good O₀ H₀ O H) (R:RepS O₀ K O H σ τ) (s:Same H H') (h:H a=none /\ ∀ b ∈ as,H b=none) (t:OwT K (a :: as ++ O) H' rows a as) (nt:noT σ i=true)
 (nx:(lift K O₀ H₀ ex Dd O H).nx (setS σ i (some (.ot rows)))):Dd.nx (τ.set i (some (.ref a))) H':=by
 have hn:∀ b ∈ a :: as,H b=none:=fun b hb=>(List.mem_cons.mp hb).elim (fun z=>by rw [z];exact h.1) (h.2 b)
 rcases Nat.lt_or_ge i τ.length with hi | hi
 ·exact nx _ _ (a :: as ++ O) (g.freshT s h) (same_freshes s hn) (R.freshT g.sub s h t nt hi)
 ·have e1:setS σ i (some (.ot rows))=σ:=by
   have out:∀ {σ:Sto} {i:Nat} (v:Option Sl),σ.length<=i->setS σ i v=σ:=by
    intro σ
    induction σ with
    | nil=>intro i v _;rfl
    | cons x r ih =>
      intro i v hl
      cases i with
      | zero=>simp at hl
      | succ i=>simp only [setS];rw [ih v (by simpa using hl)]
   exact out _ (by rw [R.len];exact hi)
  have e2:τ.set i (some (.ref a))=τ:=List.set_eq_of_length_le hi
  rw [e1] at nx
  rw [e2]
  exact nx _ _ O (g.mono s) (minus_mono s) (R.mono s)
theorem RepS.reT {a:Addr} {as as':List Addr} {rows rows':List (List D)} {i:Nat} (R:RepS O₀ K O H σ τ) (g:getS σ i=some (.ot rows)) (e1:τ[i]?=some (some (.ref a))) (t:OwT K O H rows a as) (hS:Same (minus H O) (minus H' O')) (hK:∀ b ∈ O,b ∉ a :: as->H' b=H b /\ b ∈ O') (hO:∀ b ∈ O',H' b ≠ none)
 (t':OwT K O' H' rows' a as') (hn:∀ b ∈ as',b ∈ as \/ H b=none) (hm:∀ b ∈ as',b ∉ O₀):RepS O₀ K O' H' (setS σ i (some (.ot rows'))) τ:=by
 have hi:i < σ.length:=by
  rw [R.len]
  rcases Nat.lt_or_ge i τ.length with q | q
  ·exact q
  ·rw [List.getElem?_eq_none q] at e1;cases e1
 obtain ⟨a',as0,e1',t0,d⟩:=R.tt.1 i rows g
 rw [e1] at e1'
 cases e1'
 have eas:as0=as:=by
  have:=t0.top
  rw [t.top] at this
  exact (ref_inj (Option.some.inj this)).symm
 subst eas
 have at_:∀ j z,getS (setS σ i (some (.ot rows'))) j=some z->(j=i /\ z=.ot rows') \/ (i ≠ j /\ getS σ j=some z):=fun j z g=>by
  rw [getS_set] at g
  by_cases hj:i=j /\ i < σ.length
  ·rw [if_pos hj] at g
   cases g
   exact .inl ⟨hj.1.symm,rfl⟩
  ·rw [if_neg hj] at g
   exact .inr ⟨fun z=>hj ⟨z,hi⟩,g⟩
 refine ⟨⟨by rw [setS_length];exact R.len,hO,fun j e gg=>?_,fun j ds gg=>?_,fun j l ds es hjl g1 g2=>?_,⟨fun j rs gg=>?_,fun j l rs qs g1 g2=>?_⟩⟩,fun j ds b gg e=>?_,fun j rs b bs gg e q=>?_⟩
 ·rcases at_ j _ gg with ⟨_,z⟩ | ⟨_,gg⟩
  ·cases z
  ·obtain ⟨v,e2,e3⟩:=R.sh j e gg
   exact ⟨v,e2,Is.mono hS e e3⟩
 ·rcases at_ j _ gg with ⟨_,z⟩ | ⟨_,gg⟩
  ·cases z
  ·obtain ⟨b,vs,e2,e3,e4,e5⟩:=R.ow j ds gg
   obtain ⟨n1,n2⟩:=d j ds b gg e2
   obtain ⟨k1,k2⟩:=hK b e3 (by simp [n1,n2])
   exact ⟨b,vs,e2,k2,by rw [k1];exact e4,Iss.mono hS ds e5⟩
 ·rcases at_ j _ g1 with ⟨_,z⟩ | ⟨_,g1⟩
  ·cases z
  rcases at_ l _ g2 with ⟨_,z⟩ | ⟨_,g2⟩
  ·cases z
  exact R.dj j l ds es hjl g1 g2
 ·rcases at_ j _ gg with ⟨rfl,z⟩ | ⟨hij,g'⟩
  ·cases z
   refine ⟨a,as',e1,t',fun l ds b g2 e2=>?_⟩
   rcases at_ l _ g2 with ⟨_,z⟩ | ⟨_,g2⟩
   ·cases z
   ·obtain ⟨n1,n2⟩:=d l ds b g2 e2
    refine ⟨n1,fun z=>?_⟩
    rcases hn b z with y | y
    ·exact n2 y
    ·obtain ⟨b',vs,e3,_,e4,_⟩:=R.ow l ds g2
     rw [e2] at e3
     cases e3
     rw [y] at e4;cases e4
  ·exact absurd (R.tt.2 i j _ _ g g') hij
 ·rcases at_ j _ g1 with ⟨rfl,_⟩ | ⟨hij,g'⟩
  ·rcases at_ l _ g2 with ⟨rfl,_⟩ | ⟨hij,g'⟩
   ·rfl
   ·exact absurd (R.tt.2 j l _ _ g g') hij
  ·exact absurd (R.tt.2 i j _ _ g g') hij
 ·rcases at_ j _ gg with ⟨_,z⟩ | ⟨_,gg⟩
  ·cases z
  ·exact R.mine j ds b gg e
 ·rcases at_ j _ gg with ⟨rfl,_⟩ | ⟨hij,g'⟩
  ·rw [e1] at e
   cases e
   rw [t'.top] at q
   have:=ref_inj (Option.some.inj q)
   subst this
   exact ⟨(R.mineT _ rows a as0 g e1 t.top).1,hm⟩
  ·exact absurd (R.tt.2 i j _ _ g g') hij
theorem Iss.setAt {S:Hp}:∀ {ds:List D} {vs:List V} {i:Nat} {d:D} {v:V},Iss K S ds vs->Is K S d v->Iss K S (ds.set i d) (vs.set i v)
 | [],vs,i,d,v,h,g=>by unfold Iss at h;subst h;simp;unfold Iss;rfl
 | x :: ds,vs,i,d,v,h,g=>by
   unfold Iss at h
   obtain ⟨u,r,rfl,h1,h2⟩:=h
   cases i with
   | zero=>simp only [List.set_cons_zero];unfold Iss;exact ⟨v,r,rfl,g,h2⟩
   | succ i=>simp only [List.set_cons_succ];unfold Iss;exact ⟨u,_,rfl,h1,h2.setAt g⟩
theorem Rws.get {H:Hp}:∀ {rows:List (List D)} {as:List Addr} {n:Nat} {r:List D},Rws K O H rows as->rows[n]?=some r->∃ b vs,as[n]?=some b /\ H b=some (.lst vs) /\ Iss K (minus H O) r vs
 | [],as,n,r,_,e=>by simp at e
 | q :: rows,as,n,r,h,e=>by
   obtain ⟨b,bs,vs,rfl,h1,h2,h3⟩:=h
   cases n with
   | zero=>simp at e;subst e;exact ⟨b,vs,rfl,h1,h2⟩
   | succ n=>exact Rws.get (n:=n) h3 (by simpa using e)
theorem Rws.write {H:Hp} {b:Addr} {r:List D} {ws:List V} (hb:b ∈ O) (is:Iss K (minus H O) r ws):∀ {rows:List (List D)} {as:List Addr} {n:Nat},Rws K O H rows as->as.Nodup->as[n]?=some b->Rws K O (upd H b (.lst ws)) (rows.set n r) as
 | [],as,n,h,_,e=>by cases h;simp at e
 | q :: rows,as,n,h,nd,e=>by
   obtain ⟨c,bs,vs,rfl,h1,h2,h3⟩:=h
   have nd':=List.nodup_cons.mp nd
   cases n with
   | zero =>
     simp at e
     subst e
     refine ⟨c,bs,ws,rfl,upd_same ..,by rw [minus_write hb];exact is,h3.imp (by rw [minus_write hb];exact Same.refl _) fun x hx us z=>?_⟩
     rw [upd_ne fun y=>nd'.1 (by rw [<- y];exact hx)];exact z
   | succ n =>
     have e':bs[n]?=some b:=by simpa using e
     have ne:c ≠ b:=fun y=>nd'.1 (by rw [y];exact List.mem_of_getElem? e')
     exact ⟨c,bs,vs,rfl,by rw [upd_ne ne];exact h1,by rw [minus_write hb];exact h2,Rws.write hb is h3 nd'.2 e'⟩
theorem RepS.rowT {a b:Addr} {as:List Addr} {rows:List (List D)} {r:List D} {ws:List V} {i n:Nat} (R:RepS O₀ K O H σ τ) (g:getS σ i=some (.ot rows)) (e1:τ[i]?=some (some (.ref a))) (t:OwT K O H rows a as) (hb:as[n]?=some b) (is:Iss K (minus H O) r ws) :
 RepS O₀ K O (upd H b (.lst ws)) (setS σ i (some (.ot (rows.set n r)))) τ:=by
 have hm:=List.mem_of_getElem? hb
 have hbO:=t.inO.2 b hm
 refine R.reT g e1 t (by rw [minus_write hbO];exact Same.refl _) (fun c hc n=>⟨upd_ne fun z=>n (by rw [z];exact List.mem_cons_of_mem _ hm),hc⟩) (fun c hc=>?_) ⟨?_,t.nd,t.inO,t.rw.write hbO is t.nd.2 hb⟩ (fun c hc=>.inl hc) fun c hc=>(R.mineT i rows a as g e1 t.top).2 c hc
 ·by_cases z:c=b
  ·subst z;rw [upd_same];exact fun z=>nomatch z
  ·rw [upd_ne z];exact R.own c hc
 ·rw [upd_ne fun z=>t.nd.1 (by rw [z];exact hm)];exact t.top
theorem RepS.growT {a l:Addr} {as:List Addr} {rows:List (List D)} {i:Nat} (R:RepS O₀ K O H σ τ) (sub:∀ b ∈ O₀,b ∈ O) (g:getS σ i=some (.ot rows)) (e1:τ[i]?=some (some (.ref a))) (t:OwT K O H rows a as) (hl:H l=none) :
 RepS O₀ K (l :: O) (upd (upd H l (.lst [])) a (.lst ((as ++ [l]).map V.ref))) (setS σ i (some (.ot (rows ++ [[]])))) τ /\ Same (minus H O) (minus (upd (upd H l (.lst [])) a (.lst ((as ++ [l]).map V.ref))) (l :: O)):=by
 have s1:=same_upd hl (.lst [])
 have nla:l ≠ a:=fun z=>by rw [z,t.top] at hl;cases hl
 have nl:l ∉ as:=fun z=>by obtain ⟨vs,q⟩:=t.rw.isL l z;rw [q] at hl;cases hl
 have hS:Same (minus H O) (minus (upd (upd H l (.lst [])) a (.lst ((as ++ [l]).map V.ref))) (l :: O)):=by
  rw [minus_write (O:=l :: O) (List.mem_cons_of_mem _ t.inO.1)]
  exact same_fresh s1 hl
 refine ⟨R.reT g e1 t hS (fun c hc n=>?_) (fun c hc=>?_) ⟨upd_same ..,⟨?_,?_⟩,⟨List.mem_cons_of_mem _ t.inO.1,fun c hc=>?_⟩,?_⟩ (fun c hc=>?_) (fun c hc=>?_),hS⟩
 ·have n1:c ≠ a:=fun z=>n (by rw [z];exact List.mem_cons_self ..)
  have n2:c ≠ l:=fun z=>R.own c hc (by rw [z];exact hl)
  exact ⟨by rw [upd_ne n1,upd_ne n2],List.mem_cons_of_mem _ hc⟩
 ·by_cases z:c=a
  ·subst z;rw [upd_same];exact fun z=>nomatch z
  ·rw [upd_ne z]
   by_cases y:c=l
   ·subst y;rw [upd_same];exact fun z=>nomatch z
   ·rw [upd_ne y]
    exact R.own c ((List.mem_cons.mp hc).resolve_left y)
 ·intro z
  rcases List.mem_append.mp z with z | z
  ·exact t.nd.1 z
  ·exact nla (List.mem_singleton.mp z).symm
 ·rw [List.nodup_append]
  exact ⟨t.nd.2,by simp,fun b hb c hc z=>by rw [List.mem_singleton.mp hc] at z;exact nl (z ▸ hb)⟩
 ·rcases List.mem_append.mp hc with z | z
  ·exact List.mem_cons_of_mem _ (t.inO.2 c z)
  ·rw [List.mem_singleton.mp z];exact List.mem_cons_self ..
 ·refine Rws.snoc (vs:=[]) (by rw [upd_ne nla,upd_same]) (by unfold Iss;rfl) (t.rw.imp hS fun c hc vs q=>?_)
  rw [upd_ne fun z=>t.nd.1 (by rw [<- z];exact hc),upd_ne fun z=>nl (by rw [<- z];exact hc)]
  exact q
 ·rcases List.mem_append.mp hc with z | z
  ·exact .inl z
  ·rw [List.mem_singleton.mp z];exact .inr hl
 ·rcases List.mem_append.mp hc with z | z
  ·exact (R.mineT i rows a as g e1 t.top).2 c z
  ·rw [List.mem_singleton.mp z];exact fun y=>R.own l (sub l y) hl
theorem RepS.shareT {a:Addr} {as:List Addr} {rows:List (List D)} {i:Nat} (R:RepS O₀ K O H σ τ) (g:getS σ i=some (.ot rows)) (e1:τ[i]?=some (some (.ref a))) (t:OwT K O H rows a as) (d:∀ j ds b,getS σ j=some (.ow ds)->τ[j]?=some (some (.ref b))->b ≠ a /\ b ∉ as) :
 RepS O₀ K (lessT O (a :: as)) H (setS σ i (some (.sh (rowsD rows)))) τ:=by
 have old:∀ j z,getS (setS σ i (some (.sh (rowsD rows)))) j=some z->(∀ d,z ≠ .sh d)->getS σ j=some z:=fun j z h n=>by
  rw [getS_set] at h
  by_cases hj:i=j /\ i < σ.length
  ·rw [if_pos hj] at h;cases h;exact absurd rfl (n _)
  ·rw [if_neg hj] at h;exact h
 exact ⟨R.toReps.shareT g e1 t d,fun j ds b h e=>R.mine j ds b (old j _ h (fun _ z=>nomatch z)) e,R.mineT.step (fun j rs h=>⟨old j _ h (fun _ z=>nomatch z),rfl⟩) fun _ _ _ _ _=>rfl⟩
theorem Good.shareT {as:List Addr} (g:Good O₀ H₀ O H) (hn:∀ b ∈ as,b ∉ O₀):Good O₀ H₀ (lessT O as) H :=
 ⟨g.same,fun b hb=>mem_lessT.mpr ⟨g.sub b hb,fun z=>hn b z hb⟩,fun b hb=>g.new b (mem_lessT.mp hb).1⟩
theorem RepS.halfT {a:Addr} {as:List Addr} {rows:List (List D)} {i:Nat} (R:RepS O₀ K O H σ τ) (g:getS σ i=some (.ot rows)) (e1:τ[i]?=some (some (.ref a))) (t:OwT K O H rows a as) (d:∀ j ds b,getS σ j=some (.ow ds)->τ[j]?=some (some (.ref b))->b ≠ a /\ b ∉ as) :
 RepS O₀ K (lessT O as) H (setS σ i (some (.ow (rows.map .lst)))) τ:=by
 have lessS:Same (minus H O) (minus H (lessT O as)):=minus_less fun b hb=>(mem_lessT.mp hb).1
 have hi:i < σ.length:=by
  rw [R.len]
  rcases Nat.lt_or_ge i τ.length with q | q
  ·exact q
  ·rw [List.getElem?_eq_none q] at e1;cases e1
 have at_:∀ j z,getS (setS σ i (some (.ow (rows.map .lst)))) j=some z->(j=i /\ z=.ow (rows.map .lst)) \/ (i ≠ j /\ getS σ j=some z):=fun j z g=>by
  rw [getS_set] at g
  by_cases hj:i=j /\ i < σ.length
  ·rw [if_pos hj] at g
   cases g
   exact .inl ⟨hj.1.symm,rfl⟩
  ·rw [if_neg hj] at g
   exact .inr ⟨fun z=>hj ⟨z,hi⟩,g⟩
 have aO:a ∈ lessT O as:=mem_lessT.mpr ⟨t.inO.1,t.nd.1⟩
 refine ⟨⟨by rw [setS_length];exact R.len,fun b hb=>R.own b (mem_lessT.mp hb).1,fun j e h=>?_,fun j es h=>?_,fun j l es fs hjl g1 g2=>?_,⟨fun j rs h=>?_,fun j l rs qs g1 g2=>?_⟩⟩,fun j ds b h e=>?_,fun j rs b bs h e q=>?_⟩
 ·rcases at_ j _ h with ⟨_,z⟩ | ⟨_,h⟩
  ·cases z
  ·obtain ⟨v,h1,h2⟩:=R.sh j e h
   exact ⟨v,h1,Is.mono lessS e h2⟩
 ·rcases at_ j _ h with ⟨rfl,z⟩ | ⟨_,h⟩
  ·cases z
   exact ⟨a,_,e1,aO,t.top,t.rw.iss lessS fun b hb z=>(mem_lessT.mp z).2 hb⟩
  ·obtain ⟨b,ws,h1,h2,h3,h4⟩:=R.ow j es h
   exact ⟨b,ws,h1,mem_lessT.mpr ⟨h2,(d j es b h h1).2⟩,h3,Iss.mono lessS es h4⟩
 ·rcases at_ j _ g1 with ⟨rfl,z⟩ | ⟨_,g1'⟩
  ·rcases at_ l _ g2 with ⟨rfl,z⟩ | ⟨_,g2⟩
   ·exact absurd rfl hjl
   ·intro q
    rw [e1] at q
    exact (d l fs a g2 q.symm).1 rfl
  ·rcases at_ l _ g2 with ⟨rfl,z⟩ | ⟨_,g2⟩
   ·intro q
    rw [e1] at q
    exact (d j es a g1' q).1 rfl
   ·exact R.dj j l es fs hjl g1' g2
 ·rcases at_ j _ h with ⟨_,z⟩ | ⟨hij,h⟩
  ·cases z
  ·exact absurd (R.tt.2 i j _ _ g h) hij
 ·rcases at_ j _ g1 with ⟨_,z⟩ | ⟨hij,h⟩
  ·cases z
  ·exact absurd (R.tt.2 i j _ _ g h) hij
 ·rcases at_ j _ h with ⟨rfl,z⟩ | ⟨_,h⟩
  ·rw [e1] at e
   cases e
   exact (R.mineT _ rows a as g e1 t.top).1
  ·exact R.mine j ds b h e
 ·rcases at_ j _ h with ⟨_,z⟩ | ⟨hij,h⟩
  ·cases z
  ·exact absurd (R.tt.2 i j _ _ g h) hij
theorem Reps.ofGet {σ':Sto} (R:Reps K O H σ τ) (hl:σ'.length=σ.length) (h:∀ j z,getS σ' j=some z->getS σ j=some z):Reps K O H σ' τ where
 len:=by rw [hl];exact R.len
 own:=R.own
 sh:=fun j d g=>R.sh j d (h j _ g)
 ow:=fun j ds g=>R.ow j ds (h j _ g)
 dj:=fun j l ds es n g1 g2=>R.dj j l ds es n (h j _ g1) (h l _ g2)
 tt:=R.tt.step (fun j rows g=>⟨h j _ g,rfl⟩) (fun _ _ _ _ _ _ _ t=>t) fun _ _ _ _ j ds b _ _ g q=>.inl ⟨ds,h j _ g,q⟩
theorem RepS.ofGet {σ':Sto} (R:RepS O₀ K O H σ τ) (hl:σ'.length=σ.length) (h:∀ j z,getS σ' j=some z->getS σ j=some z):RepS O₀ K O H σ' τ :=
 ⟨R.toReps.ofGet hl h,fun j ds a g e=>R.mine j ds a (h j _ g) e,R.mineT.step (fun j rows g=>⟨h j _ g,rfl⟩) fun _ _ _ _ _=>rfl⟩
theorem RepS.lose (R:RepS O₀ K O H σ τ) (j:Nat) (v:Option V):RepS O₀ K O H (setS σ j none) (τ.set j v):=by
 have at_:∀ i z,getS (setS σ j none) i=some z->getS σ i=some z /\ ∀ w,τ[i]?=some w->(τ.set j v)[i]?=τ[i]?:=fun i z g=>by
  rw [getS_set] at g
  by_cases hj:j=i /\ j < σ.length
  ·rw [if_pos hj] at g;cases g
  ·rw [if_neg hj] at g
   refine ⟨g,fun w e=>?_⟩
   by_cases hij:j=i
   ·subst hij
    have hl:j < τ.length:=by
     rcases Nat.lt_or_ge j τ.length with q | q
     ·exact q
     ·rw [List.getElem?_eq_none q] at e;cases e
    exact absurd ⟨rfl,by rw [R.len];exact hl⟩ hj
   ·exact List.getElem?_set_ne hij
 have back:∀ i z w,getS (setS σ j none) i=some z->(τ.set j v)[i]?=some w->τ[i]?=some w:=fun i z w g e=>by
  rcases Nat.lt_or_ge i τ.length with q | q
  ·obtain ⟨_,k⟩:=at_ i z g
   have:=k _ (List.getElem?_eq_getElem q)
   rw [this] at e;exact e
  ·rw [List.getElem?_eq_none (by rw [List.length_set];exact q)] at e;cases e
 refine ⟨⟨by rw [setS_length,List.length_set];exact R.len,R.own,fun i d g=>?_,fun i ds g=>?_,fun i l ds es n g1 g2=>?_,⟨fun i rows g=>?_,fun i l rs qs g1 g2=>R.tt.2 i l rs qs (at_ i _ g1).1 (at_ l _ g2).1⟩⟩,fun i ds a g e=>R.mine i ds a (at_ i _ g).1 (back i _ _ g e),fun i rows a as g e t=>R.mineT i rows a as (at_ i _ g).1 (back i _ _ g e) t⟩
 ·obtain ⟨u,e1,e2⟩:=R.sh i d (at_ i _ g).1
  exact ⟨u,((at_ i _ g).2 _ e1).trans e1,e2⟩
 ·obtain ⟨a,vs,e1,e2⟩:=R.ow i ds (at_ i _ g).1
  exact ⟨a,vs,((at_ i _ g).2 _ e1).trans e1,e2⟩
 ·obtain ⟨a,vs,e1,_⟩:=R.ow i ds (at_ i _ g1).1
  obtain ⟨b,ws,e2,_⟩:=R.ow l es (at_ l _ g2).1
  rw [(at_ i _ g1).2 _ e1,(at_ l _ g2).2 _ e2]
  exact R.dj i l ds es n (at_ i _ g1).1 (at_ l _ g2).1
 ·obtain ⟨a,as,e1,t,d⟩:=R.tt.1 i rows (at_ i _ g).1
  exact ⟨a,as,((at_ i _ g).2 _ e1).trans e1,t,fun l ds b g2 e2=>d l ds b (at_ l _ g2).1 (back l _ _ g2 e2)⟩
def tabS (σ:Sto) (i j:Nat) (rows:List (List D)):Sto:=setS (setS σ i (some (.ot rows))) j none
structure RowAt (K:PySem.W.Frag) (O₀:List Addr) (H₀:Hp) (σ:Sto) (i j l:Nat) (a:Addr) (as:List Addr) (rows:List (List D)) (O:List Addr) (H:Hp) (τ:L2.St):Prop where
 g:Good O₀ H₀ O H
 R:RepS O₀ K O H (tabS σ i j rows) τ
 ia:τ[i]?=some (some (.ref a))
 top:H a=some (.lst (as.map V.ref))
 row:∃ b,as[l]?=some b /\ τ[j]?=some (some (.ref b))
theorem tabS_at {i j:Nat} {rows:List (List D)} (hij:i ≠ j) (hi:i < σ.length):getS (tabS σ i j rows) i=some (.ot rows):=by
 unfold tabS
 rw [getS_set,if_neg fun z=>hij z.1.symm,getS_set,if_pos ⟨rfl,hi⟩]
theorem RowAt.get {i j l:Nat} {a:Addr} {as:List Addr} {rows:List (List D)} {row:List D} (A:RowAt K O₀ H₀ σ i j l a as rows O H τ) (hij:i ≠ j) (hi:i < σ.length) (hr:rows[l]?=some row) :
 ∃ b vs,OwT K O H rows a as /\ as[l]?=some b /\ τ[j]?=some (some (.ref b)) /\ H b=some (.lst vs) /\ Iss K (minus H O) row vs /\ b ∈ O:=by
 obtain ⟨a',as',e1,t,d⟩:=A.R.tt.1 i rows (tabS_at hij hi)
 rw [A.ia] at e1
 cases e1
 have eas:as'=as:=by
  have:=t.top
  rw [A.top] at this
  exact (ref_inj (Option.some.inj this)).symm
 subst eas
 obtain ⟨b,hb,ej⟩:=A.row
 obtain ⟨b',vs,hb',e3,e4⟩:=t.rw.get hr
 rw [hb] at hb'
 cases hb'
 exact ⟨b,vs,t,hb,ej,e3,e4,t.inO.2 b (List.mem_of_getElem? hb)⟩
theorem RowAt.mono {i j l:Nat} {a:Addr} {as:List Addr} {rows:List (List D)} (A:RowAt K O₀ H₀ σ i j l a as rows O H τ) (s:Same H H'):RowAt K O₀ H₀ σ i j l a as rows O H' τ:=⟨A.g.mono s,A.R.mono s,A.ia,s _ _ A.top,A.row⟩
theorem RowAt.rest {i j l:Nat} {a:Addr} {as:List Addr} {rows:List (List D)} (A:RowAt K O₀ H₀ σ i j l a as rows O H τ) (hij:i ≠ j):Reps K O H (setS (setS σ i none) j none) τ:=by
 refine A.R.toReps.ofGet (by unfold tabS;simp only [setS_length]) fun m z g=>?_
 unfold tabS
 rw [getS_set] at g ⊢
 simp only [setS_length] at g ⊢
 split at g
 ·cases g
 ·next h1 =>
  rw [if_neg h1]
  rw [getS_set] at g ⊢
  split at g
  ·cases g
  ·next h2=>rw [if_neg h2];exact g
theorem RowAt.seen {i j l:Nat} {rows:List (List D)} {row:List D} {vs:List V} {a b:Addr} {as:List Addr} (A:RowAt K O₀ H₀ σ i j l a as rows O H τ) (hij:i ≠ j) (hi:i < σ.length) (t:OwT K O H rows a as) (hb:as[l]?=some b) (ej:τ[j]?=some (some (.ref b))) (e3:H b=some (.lst vs)) (e4:Iss K (minus H O) row vs) :
 Reps K (less O b) H (setS (setS σ i none) j (some (.sh (.lst row)))) τ:=by
 have lessS:Same (minus H O) (minus H (less O b)):=minus_less fun c hc=>(mem_less.mp hc).1
 have at_:∀ m z,getS (setS (setS σ i none) j (some (.sh (.lst row)))) m=some z->(m=j /\ z=.sh (.lst row)) \/ (m ≠ i /\ getS (tabS σ i j rows) m=some z):=fun m z g=>by
  rw [getS_set] at g
  simp only [setS_length] at g
  split at g
  ·next h=>cases g;exact .inl ⟨h.1.symm,rfl⟩
  ·next h1 =>
   rw [getS_set] at g
   split at g
   ·cases g
   ·next h2 =>
    have hm:m ≠ i:=fun z=>h2 ⟨z.symm,by rw [<- z] at hi;rw [z] at hi;exact hi⟩
    refine .inr ⟨hm,?_⟩
    unfold tabS
    rw [getS_set]
    simp only [setS_length]
    rw [if_neg h1,getS_set,if_neg fun z=>hm z.1.symm]
    exact g
 obtain ⟨a',as',e1',t',d⟩:=A.R.tt.1 i rows (tabS_at hij hi)
 rw [A.ia] at e1'
 cases e1'
 have eas:as'=as:=by
  have:=t'.top
  rw [t.top] at this
  exact (ref_inj (Option.some.inj this)).symm
 subst eas
 refine ⟨by simp only [setS_length];have:=A.R.len;unfold tabS at this;simp only [setS_length] at this;exact this,fun c hc=>A.R.own c (mem_less.mp hc).1,fun m d' g=>?_,fun m ds g=>?_,fun m n ds es hmn g1 g2=>?_,⟨fun m rs g=>?_,fun m n rs qs g1 g2=>?_⟩⟩
 ·rcases at_ m _ g with ⟨rfl,z⟩ | ⟨_,g⟩
  ·cases z
   refine ⟨.ref b,ej,lst_is (SqL.of ?_) (Iss.mono lessS row e4)⟩
   rw [minus_at fun z=>(mem_less.mp z).2 rfl];exact e3
  ·obtain ⟨v,q1,q2⟩:=A.R.sh m d' g
   exact ⟨v,q1,Is.mono lessS d' q2⟩
 ·rcases at_ m _ g with ⟨_,z⟩ | ⟨_,g⟩
  ·cases z
  ·obtain ⟨c,ws,q1,q2,q3,q4⟩:=A.R.ow m ds g
   refine ⟨c,ws,q1,mem_less.mpr ⟨q2,fun z=>(d m ds c g q1).2 ?_⟩,q3,Iss.mono lessS ds q4⟩
   rw [z];exact List.mem_of_getElem? hb
 ·rcases at_ m _ g1 with ⟨_,z⟩ | ⟨_,g1⟩
  ·cases z
  rcases at_ n _ g2 with ⟨_,z⟩ | ⟨_,g2⟩
  ·cases z
  exact A.R.dj m n ds es hmn g1 g2
 ·rcases at_ m _ g with ⟨_,z⟩ | ⟨hm,g⟩
  ·cases z
  ·exact absurd (A.R.tt.2 m i _ _ g (tabS_at hij hi)) hm
 ·rcases at_ m _ g1 with ⟨_,z⟩ | ⟨hm,g⟩
  ·cases z
  ·exact absurd (A.R.tt.2 m i _ _ g (tabS_at hij hi)) hm
theorem RowAt.write {i j l:Nat} {rows:List (List D)} {r:List D} {ws:List V} {a b:Addr} {as:List Addr} (A:RowAt K O₀ H₀ σ i j l a as rows O H τ) (hij:i ≠ j) (hi:i < σ.length) (t:OwT K O H rows a as) (hb:as[l]?=some b) (ej:τ[j]?=some (some (.ref b))) (is:Iss K (minus H O) r ws) :
 RowAt K O₀ H₀ σ i j l a as (rows.set l r) O (upd H b (.lst ws)) τ:=by
 have hm:=List.mem_of_getElem? hb
 have gi:=tabS_at (rows:=rows) hij hi
 have e1:=A.ia
 have hn:=(A.R.mineT i rows a as gi e1 t.top).2 b hm
 refine ⟨A.g.write (t.inO.2 b hm) hn,(A.R.rowT gi e1 t hb is).ofGet (by unfold tabS;simp only [setS_length]) fun m z g=>?_,A.ia,?_,b,hb,ej⟩
 ·unfold tabS at *
  rw [getS_set] at g
  rw [getS_set]
  simp only [setS_length] at g ⊢
  by_cases him:i=m /\ i < σ.length
  ·rw [if_pos him]
   rw [if_neg fun z=>hij (him.1.trans z.1.symm),getS_set,if_pos him] at g
   exact g
  ·rw [if_neg him,getS_set]
   simp only [setS_length]
   split at g
   ·cases g
   ·next h1 =>
    rw [if_neg h1]
    rw [getS_set,if_neg him] at g
    rw [getS_set,if_neg him]
    exact g
 ·rw [upd_ne fun z=>t.nd.1 (by rw [z];exact hm)];exact t.top
def tR1 (K:PySem.W.Frag) (C:Cfg) (O₀:List Addr) (H₀:Hp) (i j:Nat) (r:RSt):TS:=fun D τ H=>∃ σ l a as rows row O,(i ≠ j /\ i < σ.length) /\ RowAt K O₀ H₀ σ i j l a as rows O H τ /\ rows[l]?=some row /\
 wpR1 C j (setS σ i none) r row fun row'=>∀ H',Same (minus H O) (minus H' O)->RowAt K O₀ H₀ σ i j l a as (rows.set l row') O H' τ->D.nx τ H'
def tR (K:PySem.W.Frag) (C:Cfg) (O₀:List Addr) (H₀:Hp) (i j:Nat) (rs:List RSt):TS:=fun D τ H=>∃ σ l a as rows row O,(i ≠ j /\ i < σ.length) /\ RowAt K O₀ H₀ σ i j l a as rows O H τ /\ rows[l]?=some row /\
 wpR C j (setS σ i none) rs row fun row'=>∀ H',Same (minus H O) (minus H' O)->RowAt K O₀ H₀ σ i j l a as (rows.set l row') O H' τ->D.nx τ H'
theorem sR_app (ok:OkS X k C) {i j:Nat} {v:Ex} {st:Stmt} (h:chkR1 k j (.app v) st=true):PS X st (tR1 X.K C O₀ H₀ i j (.app v)):=by
 unfold chkR1 at h
 replace h:=opt_any h
 obtain ⟨z,hz,h⟩:=h
 obtain ⟨pos,rfl⟩:=asExp_ hz
 replace h:=opt_any h
 obtain ⟨⟨fe,xs,ks,cp⟩,hc,h⟩:=h
 have ee:=asCall_ hc
 subst ee
 simp only [Bool.and_eq_true,decide_eq_true_eq,List.isEmpty_iff] at h
 obtain ⟨⟨⟨hk,hl1⟩,hat⟩,he⟩:=h
 replace hat:=opt_any hat
 obtain ⟨⟨ob,at',ap⟩,hy,hat⟩:=hat
 have ee:=asAttr_ hy
 subst ee
 simp only [Bool.and_eq_true,decide_eq_true_eq] at hat
 obtain ⟨⟨ha1,ha2⟩,ha3⟩:=hat
 subst ha1 hk
 replace ha2:=opt_any ha2
 obtain ⟨x,hx,hloc⟩:=ha2
 obtain ⟨q,rfl⟩:=asName_ hx
 match xs,hl1,he with
 | [y],_,he =>
   have he:chkE k v y=true:=he
   obtain ⟨h1,h2,h3,h4⟩:=ok.vis hloc
   refine PS.imp (fun D τ H w=>?_) (ps_expr (pe_bm PySem.F.plainAttrs_list PySem.F.slot_list_append PySem.F.type_list_append mt_append (pe_var h1 (loc_vis h2) h3 h4) (pa_cons (sB ok.toOk v y he).1 pa_nil (star_of he _ _)) rfl (by rw [star_of he];rfl) ha3 (star_of he _ _) rfl))
   obtain ⟨σ,l,a,as,rows,row,O,⟨hij,hi⟩,A,hr,hlim,w⟩:=w
   obtain ⟨b,vs,t,hb,ej,e3,e4,hbO⟩:=A.get hij hi hr
   refine ⟨.ref b,ej,.inl ⟨rfl,vs,SqL.of e3⟩,_,O,A.rest hij,wpE_mono v (fun d wd u H1 s1 i1=>?_) w⟩
   have hl:=e4.length
   refine ⟨b,vs,u,rfl,rfl,s1 _ _ e3,by rw [sizeLine_eq];unfold lim at hlim;omega,?_⟩
   refine wd _ ?_ ((A.mono s1).write hij hi (t.mono s1) hb ej ((Iss.mono (minus_mono s1) row e4).append (by unfold Iss;exact ⟨u,[],rfl,i1,by unfold Iss;rfl⟩)))
   rw [minus_write hbO]
   exact minus_mono s1
theorem sR_sto (ok:OkS X k C) {i j:Nat} {e v:Ex} {st:Stmt} (h:chkR1 k j (.sto none e v) st=true):PS X st (tR1 X.K C O₀ H₀ i j (.sto none e v)):=by
 unfold chkR1 at h
 replace h:=opt_any h
 obtain ⟨⟨ts,vE⟩,ha,h⟩:=h
 obtain ⟨pos,rfl⟩:=asAsg_ ha
 replace h:=opt_any h
 obtain ⟨t,ht,h⟩:=h
 have et:=sole_ ht
 simp only at et
 subst et
 replace h:=opt_any h
 obtain ⟨⟨ob,ix⟩,hx,h⟩:=h
 obtain ⟨p,rfl⟩:=asSub_ hx
 simp only [Bool.and_eq_true,Bool.not_eq_true'] at h
 obtain ⟨⟨⟨⟨hsl,hcm⟩,hloc⟩,he⟩,hv⟩:=h
 replace hloc:=opt_any hloc
 obtain ⟨x,hn,hloc⟩:=hloc
 obtain ⟨q,rfl⟩:=asName_ hn
 obtain ⟨h1,h2,h3,h4⟩:=ok.vis hloc
 have hasg:∀ u,assign (.Subscript (.Name x q) ix p) X.env u=(do
  let ov <- holding [u] (eval (.Name x q) X.env)
  let iv <- holding [u,ov] (eval ix X.env)
  standAt p
  holding [u,ov,iv] (setItem ov iv u)
  release [u,ov,iv] []):=by
  intro u
  cases ix <;> first | rfl | exact Bool.noConfusion hsl
 refine PS.imp (fun D τ H w=>?_) (ps_asg (sB ok.toOk v vE hv).1 (pg_sub (pe_var h1 (loc_vis h2) h3 h4) (sB ok.toOk e ix he).1 set_list hasg) (by unfold swapsWithSole;exact swaps_of hv hcm _ _ _) (by cases vE <;> rfl) rfl)
 obtain ⟨σ,l,a,as,rows,row,O,⟨hij,hi⟩,A,hr,w⟩:=w
 obtain ⟨b,vs,t,hb,ej,e3,e4,hbO⟩:=A.get hij hi hr
 refine ⟨_,_,A.seen hij hi t hb ej e3 e4,wpE_mono v (fun d wd u H1 s1 i1=>?_) w⟩
 have i1:=nol_is (s1 _ _ e3) d wd.1 i1
 refine ⟨.ref b,ej,_,O,(A.mono s1).rest hij,wpE_mono e (fun y wy yv H2 s2 i2=>?_) wd.2⟩
 cases y with
 | int n =>
   cases is_int i2
   obtain ⟨⟨n0,n1⟩,q⟩:=wy
   have s12:=s1.trans s2
   have hl:=e4.length
   refine ⟨b,vs,n,n.toNat,rfl,rfl,s12 _ _ e3,by unfold ixN;rw [if_pos n0,if_pos (by omega)],?_⟩
   have i3:Iss X.K (minus H2 O) (row.set n.toNat d) (vs.set n.toNat u):=(Iss.mono (minus_mono s12) row e4).setAt (Is.mono (minus_mono s2) d i1)
   refine q _ ?_ ((A.mono s12).write hij hi (t.mono s12) hb ej i3)
   rw [minus_write hbO]
   exact minus_mono s12
 | _=>exact wy.elim
theorem sR1 (ok:OkS X k C) {i j:Nat} (r:RSt) (st:Stmt) (h:chkR1 k j r st=true):PS X st (tR1 X.K C O₀ H₀ i j r):=by
 cases r with
 | app v=>exact sR_app ok h
 | sto c e v =>
   cases c with
   | none=>exact sR_sto ok h
   | some c =>
     unfold chkR1 at h
     replace h:=opt_any h
     obtain ⟨⟨t,xs,ys⟩,hz,h⟩:=h
     obtain ⟨pos,rfl⟩:=asIfS_ hz
     simp only [Bool.and_eq_true,List.isEmpty_iff] at h
     obtain ⟨⟨h0,hc⟩,h⟩:=h
     subst h0
     replace h:=opt_any h
     obtain ⟨s,hs,h⟩:=h
     have es:=sole1_ hs
     subst es
     refine PS.imp (fun D τ H w=>?_) (ps_if (sB ok.toOk c t hc).2 (pss_one (sR_sto (O₀:=O₀) (H₀:=H₀) (i:=i) ok (e:=e) (v:=v) (show chkR1 k j (.sto none e v) s=true from h))) pss_nil)
     obtain ⟨σ,l,a,as,rows,row,O,⟨hij,hi⟩,A,hr,w⟩:=w
     refine ⟨_,O,A.rest hij,wpE_mono c (fun d=>isB_mono fun b wb H1 s1=>?_) w⟩
     cases b with
     | true=>exact ⟨σ,l,a,as,rows,row,O,⟨hij,hi⟩,A.mono s1,hr,wpR1_mono (s:=.sto none e v) (fun row' q H' s' A'=>q H' ((minus_mono s1).trans s') A') wb⟩
     | false =>
       have hset:rows.set l row=rows:=by
        apply List.ext_getElem?
        intro m
        rw [List.getElem?_set]
        split
        ·next e=>subst e;split
                 ·exact hr.symm
                 ·next hh=>rw [List.getElem?_eq_none (by omega)]
        ·rfl
       exact wb H1 (minus_mono s1) (by rw [hset];exact A.mono s1)
theorem sRs (ok:OkS X k C) {i j:Nat}:∀ (rs:List RSt) (ss:List Stmt),chkR k j rs ss=true->PSs X ss (tR X.K C O₀ H₀ i j rs)
 | [],ss,h=>by
   have e:ss=[]:=by rw [chkR] at h;simpa using h
   subst e
   refine PSs.imp (fun D τ H w=>?_) pss_nil
   obtain ⟨σ,l,a,as,rows,row,O,hh,A,hr,w⟩:=w
   have hset:rows.set l row=rows:=by
    apply List.ext_getElem?
    intro m
    rw [List.getElem?_set]
    split
    ·next e=>subst e;split
             ·exact hr.symm
             ·next hh=>rw [List.getElem?_eq_none (by omega)]
    ·rfl
   exact w H (Same.refl _) (by rw [hset];exact A)
 | r :: rs,ss,h=>by
   rw [chkR] at h
   cases ss with
   | nil=>simp at h
   | cons s ss =>
     simp only [Bool.and_eq_true,List.drop_succ_cons,List.drop_zero] at h
     refine PSs.imp (fun D τ H w=>?_) (pss_cons (sR1 (i:=i) (O₀:=O₀) (H₀:=H₀) ok r s h.1.2) (sRs (i:=i) ok rs ss h.2))
     obtain ⟨σ,l,a,as,rows,row,O,hh,A,hr,w⟩:=w
     refine ⟨σ,l,a,as,rows,row,O,hh,A,hr,wpR1_mono (fun row' q H' s' A'=>?_) w⟩
     have hl:l < rows.length:=(List.getElem?_eq_some_iff.mp hr).1
     refine ⟨σ,l,a,as,rows.set l row',row',O,hh,A',by rw [List.getElem?_set_self hl],wpR_mono rs (fun row2 q2 H2 s2 A2=>q2 H2 (s'.trans s2) ?_) q⟩
     rw [List.set_set] at A2
     exact A2
theorem forT_turns {ex:Str->Prop} {i j:Nat} {ss:List RSt} {a:Addr} {as:List Addr} {rows:List (List D)} {Dd:Ends} (hij:i ≠ j) (hjl:j < σ.length) (g:Good O₀ H₀ O H) (R:RepS O₀ K O H σ τ) (gs:getS σ i=some (.ot rows)) (ea:τ[i]?=some (some (.ref a))) (t:OwT K O H rows a as)
 (w:rowsW (wpR C j (setS σ i none) ss) rows fun rows'=>(lift K O₀ H₀ ex Dd O H).nx (setS (setS σ i (some (.ot rows'))) j none)) :
 ∃ W:Nat->Nat->L2.St->Hp->Prop,(∃ m,W 0 m τ H) /\ ∀ l m τ H,W l m τ H->((Itl K a).stop l H /\ Dd.nx τ H) \/ ((Itl K a).go l H /\ ∃ N:L2.St->Hp->Prop,(∀ τ' H',N τ' H'->∃ m',m' < m /\ W (l + 1) m' τ' H') /\
   ∀ x H',(Itl K a).yld l H x H'->gName j x τ H' fun τ2 H2=>tR K C O₀ H₀ i j ss { Dd with nx:=N,ct:=N,bk:=Dd.nx } τ2 H2):=by
 have hi:i < σ.length:=by
  rw [R.len]
  rcases Nat.lt_or_ge i τ.length with q | q
  ·exact q
  ·rw [List.getElem?_eq_none q] at ea;cases ea
 have hlen:=t.rw.len
 have R0:RepS O₀ K O H (tabS σ i j rows) τ:=by
  refine R.ofGet (by unfold tabS;simp only [setS_length]) fun m z q=>?_
  unfold tabS at q
  rw [getS_set] at q
  split at q
  ·cases q
  ·rw [getS_set] at q
   split at q
   ·next h=>rw [<- h.1,gs];exact q
   ·exact q
 let P:Nat->L2.St->Hp->Prop:=fun l τ' H'=>∃ dn rest,dn.length=l /\ dn.length + rest.length=as.length /\ Good O₀ H₀ O H' /\ Same (minus H O) (minus H' O) /\ RepS O₀ K O H' (tabS σ i j (dn ++ rest)) τ' /\ τ'[i]?=some (some (.ref a)) /\ H' a=some (.lst (as.map V.ref)) /\
  rowsW (wpR C j (setS σ i none) ss) rest fun rest'=>(lift K O₀ H₀ ex Dd O H).nx (setS (setS σ i (some (.ot (dn ++ rest')))) j none)
 refine ⟨fun l m τ' H'=>m=as.length - l /\ l<=as.length /\ P l τ' H',⟨_,rfl,Nat.zero_le _,[],rows,rfl,by simp [hlen],g,Same.refl _,R0,ea,t.top,w⟩,?_⟩
 rintro l m τ1 H1 ⟨rfl,hl,dn,rest,hd,hsum,g1,s1,R1,ea1,top1,w1⟩
 cases rest with
 | nil =>
   refine .inl ⟨⟨as.map V.ref,SqL.of top1,by rw [List.length_map];simp at hsum;omega⟩,?_⟩
   rw [List.append_nil] at R1
   have w1:(lift K O₀ H₀ ex Dd O H).nx (setS (setS σ i (some (.ot (dn ++ [])))) j none):=w1
   rw [List.append_nil] at w1
   exact w1 τ1 H1 O g1 s1 R1
 | cons row rest =>
   have hlt:l < as.length:=by simp only [List.length_cons] at hsum;omega
   refine .inr ⟨⟨as.map V.ref,.ref as[l],SqL.of top1,by rw [List.getElem?_map,List.getElem?_eq_getElem hlt];rfl⟩,fun τ' H'=>l + 1<=as.length /\ P (l + 1) τ' H',fun τ' H' q=>⟨as.length - (l + 1),by omega,rfl,q.1,q.2⟩,fun x H2 y=>?_⟩
   obtain ⟨e2,y⟩:=y
   subst e2
   have hx:=y _ (SqL.of top1)
   rw [List.getElem?_map,List.getElem?_eq_getElem hlt] at hx
   cases hx
   have hrow:(dn ++ row :: rest)[l]?=some row:=by rw [List.getElem?_append_right (by omega),hd,Nat.sub_self];rfl
   have R2:=R1.lose j (some (.ref as[l]))
   have R3:RepS O₀ K O H2 (tabS σ i j (dn ++ row :: rest)) (τ1.set j (some (.ref as[l]))):=by
    refine R2.ofGet (by unfold tabS;simp only [setS_length]) fun m z q=>?_
    rw [getS_set]
    split
    ·next h =>
     unfold tabS at q
     rw [getS_set] at q
     unfold tabS at h
     simp only [setS_length] at h q
     rw [if_pos h] at q;exact q
    ·exact q
   have ei:(τ1.set j (some (.ref as[l])))[i]?=some (some (.ref a)):=by rw [List.getElem?_set_ne (Ne.symm hij)];exact ea1
   have hj:j < τ1.length:=by
    have:=R1.len
    unfold tabS at this
    simp only [setS_length] at this
    omega
   refine ⟨σ,l,a,as,_,row,O,⟨hij,hi⟩,⟨g1,R3,ei,top1,as[l],List.getElem?_eq_getElem hlt,List.getElem?_set_self hj⟩,hrow,wpR_mono ss (fun row' q H' s' A'=>⟨hlt,dn ++ [row'],rest,by simp [hd],by simp only [List.length_append,List.length_cons,List.length_nil] at hsum ⊢;omega,A'.g,s1.trans s',?_,ei,A'.top,by simpa using q⟩) w1⟩
   have e:(dn ++ row :: rest).set l row'=dn ++ [row'] ++ rest:=by rw [List.set_append_right _ _ (by omega),hd,Nat.sub_self];simp
   have:=A'.R
   rw [e] at this
   exact this
end
end Z
namespace Z
open PySem PySem.Spec PySem.Calls PyProof.Rows PySem.W L2
def exAt (D:Addr) (σ:L2.St) (H:Hp):Prop:=∃ ea oe u,σ[0]?=some (some (.ref ea)) /\ H ea=some (.frz oe u) /\ oe.cls=.ref D
def tIx (D:Addr) (b:Bool):TE:=fun σ H Q=>exAt D σ H /\ Q (.bl b) H
def isiOk (e:Expr) (c:Str):Bool:=(asCallN e).any fun z=>decide (z.1=("isinstance":Str)) && decide (z.2.1.length=2) && decide (asName (z.2.1.getD 0 e)=some ("_law_e":Str)) && decide (asName (z.2.1.getD 1 e)=some c)
theorem isiOk_ {e:Expr} {c:Str} (h:isiOk e c=true):∃ q qe qc p,e=.Call (.Name "isinstance" q) [.Name "_law_e" qe,.Name c qc] [] p:=by
 unfold isiOk at h
 obtain ⟨⟨x,xs,pos⟩,hx,h⟩:=opt_any h
 obtain ⟨q,rfl⟩:=asCallN_ hx
 simp only [Bool.and_eq_true,decide_eq_true_eq] at h
 obtain ⟨⟨⟨h1,h2⟩,h3⟩,h4⟩:=h
 subst h1
 match xs,h2,h3,h4 with
 | [a,b],_,h3,h4 =>
   obtain ⟨qe,rfl⟩:=asName_ (show asName a=_ from h3)
   obtain ⟨qc,rfl⟩:=asName_ (show asName b=_ from h4)
   exact ⟨q,qe,qc,pos,rfl⟩
def isisOk:List Str->List Expr->Bool
 | [],es=>es.isEmpty
 | c :: cs,es=>!es.isEmpty && isiOk (es.getD 0 (.Name "" ⟨0,0,0,0⟩)) c && isisOk cs (es.drop 1)
def flagsOk (cs:List Str) (e:Expr):Bool:=(asLst e).any fun es=>isisOk cs es
def setOk (s:Stmt) (p:Expr->Bool):Bool:=(asAsg s).any fun z=>(sole z.1).any fun t=>decide (asName t=some ("_law_flags":Str)) && p z.2
def moreOk (cs:List Str) (e:Expr):Bool:=(asBin e).any fun z=>decide (z.2.1=.Add) && decide (asName z.1=some ("_law_flags":Str)) && flagsOk cs z.2.2
theorem setOk_ {s:Stmt} {p:Expr->Bool} (h:setOk s p=true):∃ q v pos,s=.Assign [.Name "_law_flags" q] v pos /\ p v=true:=by
 unfold setOk at h
 replace h:=opt_any h
 obtain ⟨⟨ts,v⟩,ha,h⟩:=h
 obtain ⟨pos,rfl⟩:=asAsg_ ha
 replace h:=opt_any h
 obtain ⟨t,ht,h⟩:=h
 have et:=sole_ ht
 simp only at et
 subst et
 simp only [Bool.and_eq_true,decide_eq_true_eq] at h
 obtain ⟨q,rfl⟩:=asName_ h.1
 exact ⟨q,v,pos,rfl,h.2⟩
structure AX (X:Cx):Prop where
 n0:X.N[0]?=some ("_law_e":Str)
 n1:X.N[1]?=some ("_law_flags":Str)
 nd:X.N.Nodup
 l0:X.env.scope.names.lookup ("_law_e":Str)=some .local
 l1:X.env.scope.names.lookup ("_law_flags":Str)=some .local
 gl:∀ c ∈ ("isinstance":Str) :: ("TrueError":Str) :: ("ValueError":Str) :: names12,Gl X c
 fn:∀ x,X.fn x=true
section
variable {X:Cx} {D:Addr} {y:Str}
theorem call_isx (e:ExcIn X.K D):CallR X (.builtin "isinstance") (fun vs H Q=>∃ ea oe u cv cu b,vs=[.ref ea,cv] /\ H ea=some (.frz oe u) /\ oe.cls=.ref D /\ (∀ u',RelV cv u'->u'=cu) /\ kitOne X.K (.ref D) cu=some b /\ Q (.bl b) H):=by
 rintro pins s τ H vs us Q I r ⟨ea,oe,u,cv,cu,b,rfl,he,hc,hr,hk,q⟩
 obtain ⟨u1,u2,rfl,r1,r2⟩:=vals2 r
 cases hr u2 r2
 cases (show u1=Value.ref ea from r1)
 have ob:=I.hok ea _ he
 exact PySem.W.kia_one (kitx_exc e) I.kIn ⟨oe,ob.1,hc⟩ hk (fun z=>nomatch z) fun tk=>⟨.bl b,H,I.tok tk,rfl,q⟩
theorem pe_isx (a:AX X) (F:AloneF X.K X.mg y D) {c:Str} (hc:c ∈ names12) {q qe qc p:Pos}:PE X (.Call (.Name "isinstance" q) [.Name "_law_e" qe,.Name c qc] [] p) (tIx D (decide (c=y))):=by
 obtain ⟨Ca,hm,hk⟩:=F.cls c hc
 have g:=a.gl c (by simp [hc])
 have hdb:(c == ("__debug__":Str))=false:=by
  have:∀ c ∈ names12,(c == ("__debug__":Str))=false:=by decide +kernel
  exact this c hc
 have pn:PE X (.Name c qc) (tC (.ref Ca)):=pe_glob g hm rfl hdb
 refine PE.imp (fun τ H Q w=>?_) (pe_callB (call_isx F.ex) (a.gl _ (by simp)) F.isi PyProof.Rows.boot_isinstance (pa_cons (pe_var a.n0 (.inl a.l0)) (pa_cons pn pa_nil)))
 obtain ⟨⟨ea,oe,u,h1,h2,h3⟩,w⟩:=w
 exact ⟨_,h1,ea,oe,u,_,_,_,rfl,h2,h3,fun u' r=>r,hk,w⟩
theorem pe_isT (a:AX X) (F:AloneF X.K X.mg y D) {q qe qc p:Pos}:PE X (.Call (.Name "isinstance" q) [.Name "_law_e" qe,.Name "TrueError" qc] [] p) (tIx D true):=by
 obtain ⟨Ca,hm,hk⟩:=F.te
 have pn:PE X (.Name "TrueError" qc) (tC (.ref Ca)):=pe_glob (a.gl _ (by simp)) hm rfl
 refine PE.imp (fun τ H Q w=>?_) (pe_callB (call_isx F.ex) (a.gl _ (by simp)) F.isi PyProof.Rows.boot_isinstance (pa_cons (pe_var a.n0 (.inl a.l0)) (pa_cons pn pa_nil)))
 obtain ⟨⟨ea,oe,u,h1,h2,h3⟩,w⟩:=w
 exact ⟨_,h1,ea,oe,u,_,_,_,rfl,h2,h3,fun u' r=>r,hk,w⟩
theorem pe_isV (a:AX X) (F:AloneF X.K X.mg y D) {q qe qc p:Pos}:PE X (.Call (.Name "isinstance" q) [.Name "_law_e" qe,.Name "ValueError" qc] [] p) (tIx D true):=by
 have pn:PE X (.Name "ValueError" qc) (tC (.ty "ValueError")):=pe_bltn (a.gl _ (by simp)) F.vn PyProof.Rows.Boot.«ValueError» rfl
 refine PE.imp (fun τ H Q w=>?_) (pe_callB (call_isx F.ex) (a.gl _ (by simp)) F.isi PyProof.Rows.boot_isinstance (pa_cons (pe_var a.n0 (.inl a.l0)) (pa_cons pn pa_nil)))
 obtain ⟨⟨ea,oe,u,h1,h2,h3⟩,w⟩:=w
 exact ⟨_,h1,ea,oe,u,_,_,_,rfl,h2,h3,fun u' r=>r,F.ve,w⟩
def fl (y:Str) (cs:List Str):List Bool:=cs.map fun c=>decide (c=y)
theorem pa_isis (a:AX X) (F:AloneF X.K X.mg y D):∀ (cs:List Str) (es:List Expr),isisOk cs es=true->(∀ c ∈ cs,c ∈ names12)->PA X es (fun σ H Q=>exAt D σ H /\ Q ((fl y cs).map .bl) H)
 | [],es,h,_=>by
   have e:es=[]:=by rw [isisOk] at h;simpa using h
   subst e
   exact PA.imp (fun τ H Q w=>w.2) pa_nil
 | c :: cs,es,h,hc=>by
   rw [isisOk] at h
   cases es with
   | nil=>simp at h
   | cons e r =>
     simp only [Bool.and_eq_true,List.drop_succ_cons,List.drop_zero] at h
     obtain ⟨q,qe,qc,p,rfl⟩:=isiOk_ (show isiOk e c=true from h.1.2)
     refine PA.imp (fun τ H Q w=>?_) (pa_cons (pe_isx a F (hc c (List.mem_cons_self ..))) (pa_isis a F cs r h.2 fun z hz=>hc z (List.mem_cons_of_mem _ hz)))
     exact ⟨w.1,w.1,w.2⟩
theorem pe_flags (a:AX X) (F:AloneF X.K X.mg y D) {cs:List Str} {es:List Expr} {p:Pos} (h:isisOk cs es=true) (hc:∀ c ∈ cs,c ∈ names12) (hl:cs.length<=100) :
 PE X (.List es p) (fun σ H Q=>exAt D σ H /\ ∀ p H',Same H H'->SqL X.K H' p ((fl y cs).map .bl)->Q (.ref p) H'):=by
 refine PE.imp (fun τ H Q w=>?_) (pe_lst (pa_isis a F cs es h hc))
 refine ⟨w.1,?_,fun p hp=>w.2 p _ (same_upd hp _) (SqL.of (upd_same ..))⟩
 have:100<=sizeLine:=by decide
 simp [fl]
 exact Nat.le_trans hl this
theorem iss_bl {K:Frag} {S:Hp}:∀ bs:List Bool,Iss K S (bs.map Z.D.bl) (bs.map V.bl)
 | []=>by unfold Iss;rfl
 | b :: bs=>by
   simp only [List.map_cons]
   unfold Iss
   exact ⟨_,_,rfl,bl_is b,iss_bl bs⟩
theorem iss_bl_ {K:Frag} {S:Hp}:∀ {bs:List Bool} {vs:List V},Iss K S (bs.map Z.D.bl) vs->vs=bs.map V.bl
 | [],vs,h=>by unfold Iss at h;exact h
 | b :: bs,vs,h=>by
   simp only [List.map_cons] at h
   unfold Iss at h
   obtain ⟨v,r,rfl,h1,h2⟩:=h
   rw [is_bl h1,iss_bl_ h2];rfl
theorem op_cat:OpR X (binaryOp .Add) (fun x z H Q=>∃ (p1 p2:Addr) (bs cs:List Bool),x=.ref p1 /\ z=.ref p2 /\ SqL X.K H p1 (bs.map .bl) /\ SqL X.K H p2 (cs.map .bl) /\ bs.length + cs.length<=lim /\ ∀ p H',Same H H'->SqL X.K H' p ((bs ++ cs).map .bl)->Q (.ref p) H'):=by
 rintro pins s τ H x z v u Q I rx ry ⟨p1,p2,bs,cs,rfl,rfl,h1,h2,hl,q⟩
 cases (show v=Value.ref p1 from rx)
 cases (show u=Value.ref p2 from ry)
 refine cat_lists (O:=[]) (xs:=bs.map Z.D.bl) (ys:=cs.map Z.D.bl) I (fun _ z=>nomatch z) ⟨by simpa using hl,fun v H' sm i=>?_⟩ h1 h2 (iss_bl bs) (iss_bl cs)
 rw [<- List.map_append] at i
 obtain ⟨p,vs,rfl,sq,is⟩:=is_lst i
 rw [iss_bl_ is] at sq
 exact q p H' sm ((minus_same _ _).seq sq)
theorem pe_more (a:AX X) (F:AloneF X.K X.mg y D) {cs:List Str} {es:List Expr} {p q pos:Pos} (h:isisOk cs es=true) (hc:∀ c ∈ cs,c ∈ names12) (hl:cs.length<=100) :
 PE X (.BinOp (.Name "_law_flags" q) .Add (.List es p) pos) (fun σ H Q=>exAt D σ H /\ ∃ (p1:Addr) (bs:List Bool),σ[1]?=some (some (.ref p1)) /\ SqL X.K H p1 (bs.map .bl) /\ bs.length<=1000 /\ ∀ p H',Same H H'->SqL X.K H' p ((bs ++ fl y cs).map .bl)->Q (.ref p) H'):=by
 refine PE.imp (fun τ H Q w=>?_) (pe_op op_cat (pe_var a.n1 (.inl a.l1)) (pe_flags a F h hc hl))
 obtain ⟨hx,p1,bs,e1,sq,hb,w⟩:=w
 refine ⟨.ref p1,e1,hx,fun p2 H' sm sq2=>⟨p1,p2,bs,fl y cs,rfl,rfl,sm.seq sq,sq2,?_,fun p H2 s2 sq3=>w p H2 (sm.trans s2) sq3⟩⟩
 simp [fl]
 unfold lim
 lia
theorem reads_bl {h:Heap}:∀ {bs:List Bool} {its:List Value},Vals (bs.map V.bl) its->∃ as,ReadsAll h its (bs.map PyData.bool) as
 | [],its,r=>by cases r;exact ⟨_,.nil⟩
 | b :: bs,its,r=>by
   cases r with
   | cons r1 r2 =>
     cases r1
     obtain ⟨as,ra⟩:=reads_bl r2
     exact ⟨_,.cons (.bool b) ra⟩
theorem count_bl (bs:List Bool):Spec.countIn (.bool true) (bs.map PyData.bool)=(bs.countP id:Nat):=by
 induction bs with
 | nil=>rfl
 | cons b bs ih =>
   rw [List.map_cons,Spec.countIn,ih]
   cases b
   ·rw [show (if Spec.same (PyData.bool false) (PyData.bool true)=true then (1:Int) else 0)=0 from rfl]
    simp
   ·rw [show (if Spec.same (PyData.bool true) (PyData.bool true)=true then (1:Int) else 0)=1 from rfl]
    simp
    lia
theorem mt_count:MtR X "list.count" (fun x xs H Q=>∃ (p:Addr) (bs:List Bool),x=.ref p /\ xs=[.bl true] /\ SqL X.K H p (bs.map .bl) /\ Q (.int (bs.countP id:Nat)) H):=by
 rintro pins s τ H x xs v us Q I rx rs ⟨p,bs,rfl,rfl,sq,q⟩
 cases (show v=Value.ref p from rx)
 obtain ⟨u,rfl,ru⟩:=rs.one
 cases (show u=Value.bool true from ru)
 obtain ⟨its,r,pl,_⟩:=I.list sq
 obtain ⟨as,ra⟩:=reads_bl (h:=s.heap) r
 refine count_list_bools pl.isList ra (by simp [Shape.has]) ?_
 rw [count_bl]
 exact ⟨.int _,H,I.tok _,⟨_,rfl⟩,q⟩
def endOk (s:Stmt):Bool:=(asRet s).any fun v=>v.any fun v=>(asBool v).any fun z=>decide (z.1=.And) && decide (z.2.1.length=3) && isiOk (z.2.1.getD 1 v) "TrueError" && isiOk (z.2.1.getD 2 v) "ValueError" &&
 (asCmp (z.2.1.getD 0 v)).any fun c=>decide (c.2.1=[.Eq]) && decide (c.2.2.length=1) && decide (asConst (c.2.2.getD 0 v)=some (.int 1)) &&
  (asCall c.1).any fun f=>f.2.2.1.isEmpty && decide (f.2.1.length=1) && decide (asConst (f.2.1.getD 0 v)=some (.bool true)) && (asAttr f.1).any fun o=>decide (o.2.1=("count":Str)) && decide (asName o.1=some ("_law_flags":Str)) && (o.2.2.endLine == f.2.2.2.line)
theorem endOk_ {s:Stmt} (h:endOk s=true):∃ e1 e2 q ap cp j p j2 p2 p3 p4 p5,s=.Return (some (.BoolOp .And [.Compare (.Call (.Attribute (.Name "_law_flags" q) "count" ap) [.Constant (.bool true) j p] [] cp) [.Eq] [.Constant (.int 1) j2 p2] p3,e1,e2] p4)) p5 /\
 isiOk e1 "TrueError"=true /\ isiOk e2 "ValueError"=true /\ (ap.endLine == cp.line)=true:=by
 unfold endOk at h
 replace h:=opt_any h
 obtain ⟨ov,h1,h⟩:=h
 obtain ⟨p5,rfl⟩:=asRet_ h1
 replace h:=opt_any h
 obtain ⟨v,rfl,h⟩:=h
 replace h:=opt_any h
 obtain ⟨⟨op,vs,p4⟩,h2,h⟩:=h
 have e2:=asBool_ h2
 subst e2
 simp only [Bool.and_eq_true,decide_eq_true_eq] at h
 obtain ⟨⟨⟨⟨h3,h4⟩,h5⟩,h6⟩,h⟩:=h
 subst h3
 match vs,h4,h5,h6,h with
 | [c,e1,e2],_,h5,h6,h =>
   replace h:=opt_any h
   obtain ⟨⟨l,ops,rs⟩,h7,h⟩:=h
   obtain ⟨p3,e7⟩:=asCmp_ (show asCmp c=_ from h7)
   subst e7
   simp only [Bool.and_eq_true,decide_eq_true_eq] at h
   obtain ⟨⟨⟨h8,h9⟩,h10⟩,h⟩:=h
   subst h8
   match rs,h9,h10 with
   | [r],_,h10 =>
     obtain ⟨j2,p2,rfl⟩:=asConst_ (show asConst r=_ from h10)
     replace h:=opt_any h
     obtain ⟨⟨f,xs,ks,cp⟩,h11,h⟩:=h
     have e11:=asCall_ h11
     subst e11
     simp only [Bool.and_eq_true,decide_eq_true_eq,List.isEmpty_iff] at h
     obtain ⟨⟨⟨h12,h13⟩,h14⟩,h⟩:=h
     subst h12
     match xs,h13,h14 with
     | [x],_,h14 =>
       obtain ⟨j,p,rfl⟩:=asConst_ (show asConst x=_ from h14)
       replace h:=opt_any h
       obtain ⟨⟨o,nm,ap⟩,h15,h⟩:=h
       have e15:=asAttr_ h15
       subst e15
       simp only [Bool.and_eq_true,decide_eq_true_eq] at h
       obtain ⟨⟨h16,h17⟩,h18⟩:=h
       subst h16
       obtain ⟨q,rfl⟩:=asName_ h17
       exact ⟨e1,e2,q,ap,cp,j,p,j2,p2,p3,p4,p5,rfl,h5,h6,h18⟩
def aloneOk:List Stmt->Bool
 | [s1,s2,s3,s4]=>setOk s1 (flagsOk (names12.take 4)) && setOk s2 (moreOk ((names12.drop 4).take 4)) && setOk s3 (moreOk (names12.drop 8)) && endOk s4
 | _=>false
theorem sum1 {y:Str} (h:y ∈ names12):(((fl y (names12.take 4) ++ fl y ((names12.drop 4).take 4)) ++ fl y (names12.drop 8)).countP id)=1:=by
 have:∀ y ∈ names12,(((fl y (names12.take 4) ++ fl y ((names12.drop 4).take 4)) ++ fl y (names12.drop 8)).countP id)=1:=by decide +kernel
 exact this y h
theorem exAt_set {σ:L2.St} {H H':Hp} {v:V} {D:Addr} (h:exAt D σ H) (sm:Same H H'):exAt D (σ.set 1 (some v)) H':=by
 obtain ⟨ea,oe,u,h1,h2,h3⟩:=h
 exact ⟨ea,oe,u,by rw [List.getElem?_set_ne (by decide)];exact h1,sm _ _ h2,h3⟩
theorem pss_alone (a:AX X) (F:AloneF X.K X.mg y D) (hN:1 < X.N.length) {body:List Stmt} (h:aloneOk body=true):PSs X body (fun E σ H=>exAt D σ H /\ σ.length=X.N.length /\ ∀ H',Same H H'->E.rt (.bl true) H'):=by
 unfold aloneOk at h
 split at h
 ·next s1 s2 s3 s4 =>
  simp only [Bool.and_eq_true] at h
  obtain ⟨⟨⟨h1,h2⟩,h3⟩,h4⟩:=h
  obtain ⟨q1,v1,p1,rfl,g1⟩:=setOk_ h1
  obtain ⟨q2,v2,p2,rfl,g2⟩:=setOk_ h2
  obtain ⟨q3,v3,p3,rfl,g3⟩:=setOk_ h3
  obtain ⟨e1,e2,q,ap,cp,j,p,j2,p2',p3',p4,p5,rfl,i1,i2,hl⟩:=endOk_ h4
  obtain ⟨es1,f1,g1⟩:=opt_any g1
  obtain ⟨lp1,rfl⟩:=asLst_ f1
  replace g2:=opt_any g2
  obtain ⟨⟨l2,o2,r2⟩,b2,g2⟩:=g2
  obtain ⟨bp2,rfl⟩:=asBin_ b2
  simp only [Bool.and_eq_true,decide_eq_true_eq] at g2
  obtain ⟨⟨z2,y2⟩,g2⟩:=g2
  subst z2
  obtain ⟨nq2,rfl⟩:=asName_ y2
  replace g2:=opt_any g2
  obtain ⟨es2,f2,g2⟩:=g2
  obtain ⟨lp2,rfl⟩:=asLst_ f2
  replace g3:=opt_any g3
  obtain ⟨⟨l3,o3,r3⟩,b3,g3⟩:=g3
  obtain ⟨bp3,rfl⟩:=asBin_ b3
  simp only [Bool.and_eq_true,decide_eq_true_eq] at g3
  obtain ⟨⟨z3,y3⟩,g3⟩:=g3
  subst z3
  obtain ⟨nq3,rfl⟩:=asName_ y3
  replace g3:=opt_any g3
  obtain ⟨es3,f3,g3⟩:=g3
  obtain ⟨lp3,rfl⟩:=asLst_ f3
  obtain ⟨a1,a2,a3,a4,rfl⟩:=isiOk_ i1
  obtain ⟨b1',b2',b3',b4',rfl⟩:=isiOk_ i2
  have m1:∀ c ∈ names12.take 4,c ∈ names12:=fun c hc=>List.mem_of_mem_take hc
  have m2:∀ c ∈ (names12.drop 4).take 4,c ∈ names12:=fun c hc=>List.mem_of_mem_drop (List.mem_of_mem_take hc)
  have m3:∀ c ∈ names12.drop 8,c ∈ names12:=fun c hc=>List.mem_of_mem_drop hc
  refine PSs.imp (fun E σ H w=>?_) (pss_cons (ps_set a.nd a.n1 (.inl a.l1) (pe_flags a F g1 m1 (by decide)) rfl (.inl (a.fn _))) (pss_cons (ps_set a.nd a.n1 (.inl a.l1) (pe_more a F g2 m2 (by decide)) rfl (.inl (a.fn _))) (pss_cons (ps_set a.nd a.n1 (.inl a.l1) (pe_more a F g3 m3 (by decide)) rfl (.inl (a.fn _))) (pss_cons
   (ps_ret (pe_and (pe_cmpR op_eq (pe_bm PySem.F.plainAttrs_list PySem.F.slot_list_count PySem.F.type_list_count mt_count (pe_var a.n1 (.inl a.l1)) (pa_cons pe_bl pa_nil) rfl rfl hl) pe_int (nomark _)) (pe_and (pe_isT a F) (pe_one (pe_isV a F))))) pss_nil))))
  obtain ⟨hx,hln,w⟩:=w
  have h1l:1 < σ.length:=by rw [hln];exact hN
  refine ⟨hx,fun p1 H1 s1 sq1=>?_⟩
  refine ⟨exAt_set hx s1,p1,_,List.getElem?_set_self h1l,sq1,by simp [fl,names12],fun p2 H2 s2 sq2=>?_⟩
  refine ⟨exAt_set (exAt_set hx s1) s2,p2,_,List.getElem?_set_self (by rw [List.length_set];exact h1l),sq2,by simp [fl,names12],fun p3 H3 s3 sq3=>?_⟩
  have hx3:=exAt_set (v:=.ref p3) (exAt_set (v:=.ref p2) (exAt_set (v:=.ref p1) hx s1) s2) s3
  refine ⟨.ref p3,List.getElem?_set_self (by rw [List.length_set,List.length_set];exact h1l),.inl ⟨rfl,_,sq3⟩,p3,_,rfl,rfl,sq3,?_⟩
  rw [sum1 F.mem]
  refine ⟨rfl,true,rfl,?_⟩
  rw [if_pos rfl]
  refine ⟨hx3,true,rfl,?_⟩
  rw [if_pos rfl]
  exact ⟨hx3,w H3 ((s1.trans s2).trans s3)⟩
 ·cases h
end
end Z
namespace Z
open PySem PySem.Spec PyProof.Rows L2
section
variable {X:Cx} {k:Ck} {C:Cfg} {O₀:List Addr} {H₀:Hp} {ex:Str->Prop}
theorem setS_out:∀ {σ:Sto} {i:Nat} (v:Option Sl),σ.length<=i->setS σ i v=σ
 | [],i,v,_=>rfl
 | x :: r,0,v,h=>by simp at h
 | x :: r,i + 1,v,h=>by simp only [setS];rw [setS_out v (by simpa using h)]
theorem Iss.set {K:PySem.W.Frag} {S:Hp}:∀ {ds:List D} {vs:List V} {i:Nat} {d:D} {v:V},Iss K S ds vs->Is K S d v->Iss K S (ds.set i d) (vs.set i v)
 | [],vs,i,d,v,h,g=>by unfold Iss at h;subst h;simp;unfold Iss;rfl
 | x :: ds,vs,i,d,v,h,g=>by
   unfold Iss at h
   obtain ⟨u,r,rfl,h1,h2⟩:=h
   cases i with
   | zero=>simp only [List.set_cons_zero];unfold Iss;exact ⟨v,r,rfl,g,h2⟩
   | succ i=>simp only [List.set_cons_succ];unfold Iss;exact ⟨u,_,rfl,h1,h2.set g⟩
theorem for_turnsG {J:It} {xs:List D} {S:Hp} {i:Nat} {body:Sm} {D:Ends} {τ:L2.St} {H1:Hp} {σ:Sto} {O1:List Addr} (g1:Good O₀ H₀ O1 H1) (R1:RepS O₀ X.K O1 H1 σ τ)
 (hgo:∀ j H O,Same (minus H1 O1) (minus H O)->j < xs.length->J.go j H) (hst:∀ j H O,Same (minus H1 O1) (minus H O)->xs.length<=j->J.stop j H)
 (hy:∀ j H O v H' d,(∀ a ∈ O,H a ≠ none)->Same (minus H1 O1) (minus H O)->J.yld j H v H'->xs[j]?=some d->Same H H' /\ Is X.K (minus H' O) d v)
 (w:forL (fun K σ=>wpS C body K σ) i (lift X.K O₀ H₀ ex D O1 H1) xs σ) :
 ∃ W:Nat->Nat->L2.St->Hp->Prop,(∃ m,W 0 m τ H1) /\ ∀ j m τ H,W j m τ H->(J.stop j H /\ D.nx τ H) \/ (J.go j H /\ ∃ N:L2.St->Hp->Prop,(∀ τ' H',N τ' H'->∃ m',m' < m /\ W (j + 1) m' τ' H') /\
   ∀ x H',J.yld j H x H'->gName i x τ H' fun τ2 H2=>tS X.K C O₀ H₀ ex body { D with nx:=N,ct:=N,bk:=D.nx } τ2 H2):=by
 refine ⟨fun j m τ H=>m=xs.length - j /\ j<=xs.length /\ ∃ σ O,Good O₀ H₀ O H /\ Same (minus H1 O1) (minus H O) /\ RepS O₀ X.K O H σ τ /\ forL (fun K σ=>wpS C body K σ) i (lift X.K O₀ H₀ ex D O1 H1) (xs.drop j) σ,
  ⟨_,rfl,Nat.zero_le _,σ,O1,g1,Same.refl _,R1,by simpa using w⟩,?_⟩
 rintro j m τ H ⟨rfl,hj,σ,O,g,sm,R,w⟩
 by_cases hlt:j < xs.length
 ·refine .inr ⟨hgo j H O sm hlt,fun τ' H'=>j + 1<=xs.length /\ ∃ σ O,Good O₀ H₀ O H' /\ Same (minus H1 O1) (minus H' O) /\ RepS O₀ X.K O H' σ τ' /\ forL (fun K σ=>wpS C body K σ) i (lift X.K O₀ H₀ ex D O1 H1) (xs.drop (j + 1)) σ,
   fun τ' H' ⟨h1,h2⟩=>⟨xs.length - (j + 1),by omega,rfl,h1,h2⟩,fun x H' y=>?_⟩
  obtain ⟨e,is⟩:=hy j H O x H' xs[j] R.own sm y (List.getElem?_eq_getElem hlt)
  rw [List.drop_eq_getElem_cons hlt] at w
  rw [forL] at w
  refine ⟨_,O,g.mono e,(R.mono e).set is,wpS_mono body ?_ w⟩
  exact ⟨fun σ' q τ' H' O' g' s' r'=>⟨hlt,σ',O',g',(sm.trans (minus_mono e)).trans s',r',q⟩,fun _ q=>q,fun σ' q τ' H' O' g' s' r'=>q τ' H' O' g' ((sm.trans (minus_mono e)).trans s') r',fun σ' q τ' H' O' g' s' r'=>⟨hlt,σ',O',g',(sm.trans (minus_mono e)).trans s',r',q⟩,fun _ q=>q,fun _ q=>q,fun _ q=>q⟩
 ·have e:j=xs.length:=by omega
  subst e
  refine .inl ⟨hst _ H O sm (Nat.le_refl _),?_⟩
  rw [List.drop_length] at w
  exact w τ H O g sm R
theorem for_turns {J:It} {xs:List D} {S:Hp} {i:Nat} {body:Sm} {D:Ends} {τ:L2.St} {H1:Hp} {σ:Sto} {O1:List Addr} (g1:Good O₀ H₀ O1 H1) (R1:RepS O₀ X.K O1 H1 σ τ)
 (hgo:∀ j H O,Same (minus H1 O1) (minus H O)->j < xs.length->J.go j H) (hst:∀ j H O,Same (minus H1 O1) (minus H O)->xs.length<=j->J.stop j H)
 (hy:∀ j H O v H' d,Same (minus H1 O1) (minus H O)->J.yld j H v H'->xs[j]?=some d->H'=H /\ Is X.K (minus H O) d v)
 (w:forL (fun K σ=>wpS C body K σ) i (lift X.K O₀ H₀ ex D O1 H1) xs σ) :
 ∃ W:Nat->Nat->L2.St->Hp->Prop,(∃ m,W 0 m τ H1) /\ ∀ j m τ H,W j m τ H->(J.stop j H /\ D.nx τ H) \/ (J.go j H /\ ∃ N:L2.St->Hp->Prop,(∀ τ' H',N τ' H'->∃ m',m' < m /\ W (j + 1) m' τ' H') /\
   ∀ x H',J.yld j H x H'->gName i x τ H' fun τ2 H2=>tS X.K C O₀ H₀ ex body { D with nx:=N,ct:=N,bk:=D.nx } τ2 H2) :=
 for_turnsG (S:=S) g1 R1 hgo hst (fun j H O v H' d _ s y e=>by obtain ⟨q,i⟩:=hy j H O v H' d s y e;subst q;exact ⟨Same.refl _,i⟩) w
theorem ext_meets (l:Addr) (items:Array Value) (n:Nat) (b:Addr) (items2:Array Value) (n2:Nat) (sl:Array (Option Value)) (hc0:¬(!items.isEmpty && Builtin.List.listTooLong (items.size + items2.size))=true) (hc1:items.size<=sizeLine) (hs2:items.size + items2.size<=sizeLine + 1) :
 Meets (Builtin.«list.extend» ⟨[.ref l,.ref b],[]⟩) (fun _ R s=>s.heap.get? l=some { cls:=.type "list",dict:=none,data:=.seq items n,slots:=#[] } /\ s.heap.get? b=some { cls:=.type "list",dict:=none,data:=.seq items2 n2,slots:=sl } /\ R (.ok (.ret Value.none)) { s with heap:=s.heap.update l (Obj.mapSeq fun x=>x ++ items2),toks:=s.toks }) :=
 .of_wp fun prog w A R s h=>by
  obtain ⟨hp,g,d,tk,os⟩:=s;obtain ⟨hl,hb,h⟩:=h;have f1:=AutoSeq1.idx_int;have f2:=AutoSeq1.sub_tuple_tuple;have f3:=AutoSeq1.sub_list_list;have f4:=AutoSeq1.sub_tuple_list;have f5:=AutoSeq1.sub_list_tuple
  have hz':(items ++ items2).size<=sizeLine + 1:=by rw [Array.size_append];exact hs2
  wp_walk using (wpAny_updateSeq hl rfl (hz:=hc1) (_hz':=hz')),AutoSeq1.wpAny_loadPart' hl,AutoSeq1.wpAny_loadPart' hb;exact ⟨_,rfl,h⟩
def rExtS (K:PySem.W.Frag):V->List V->Hp->VK->Prop:=fun x vs H Q=>∃ l b xs zs,x=.ref l /\ vs=[.ref b] /\ H l=some (.lst xs) /\ SqL K H b zs /\ xs.length + zs.length<=sizeLine /\ Q .non (upd H l (.lst (xs ++ zs)))
theorem mt_extS {X:Cx}:MtM X "list.extend" (rExtS X.K):=by
 intro pins s σ H x vs v us Q I rx rv h
 obtain ⟨l,b,xs,zs,rfl,rfl,hH,hB,hz,q⟩:=h
 cases rx
 obtain ⟨u,rfl,ru⟩:=rv.one
 cases ru
 obtain ⟨z,its,n,r,hl,e⟩:=I.lstM hH
 obtain ⟨its2,r2,⟨⟨cl,dd,dt,sl⟩,n2,e2,hc,hd,hs⟩,z2⟩:=I.list hB
 simp only at hc hd hs
 subst hc hd hs
 have hl2:=r2.length
 have hsz:its.toArray.size + its2.toArray.size<=sizeLine:=by rw [List.size_toArray,List.size_toArray];omega
 have hlong:¬ (!its.toArray.isEmpty && Builtin.List.listTooLong (its.toArray.size + its2.toArray.size))=true:=by
  rw [notLongL hsz,Bool.and_false]
  exact Bool.false_ne_true
 refine call_meets PySem.F.slot_list_extend ⟨_,e,rfl⟩ PySem.F.entry_list_extend (PySem.F.args_list_extend_2 _ _)
  (ext_meets l its.toArray n b its2.toArray n2 sl hlong (by rw [List.size_toArray];omega) (by omega)) ⟨e,e2,?_⟩
 refine ⟨.non,_,I.lset (its':=its ++ its2) hH e (by simp) (r.append r2) ?_,rfl,q⟩
 rw [List.length_append]
 omega
theorem oc_of {f:List D->Prop} {g:List (List D)->Prop} {o:Option Sl} (w:ocD f g o):(∃ ds,o=some (.ow ds) /\ f ds) \/ ∃ rows,o=some (.ot rows) /\ g rows:=by
 match o,w with
 | some (.ow ds),w=>exact .inl ⟨ds,rfl,w⟩
 | some (.ot rows),w=>exact .inr ⟨rows,rfl,w⟩
theorem own_of {f:List D->Prop} {o:Option Sl} (w:ownD f o):∃ ds,o=some (.ow ds) /\ f ds:=by
 match o,w with
 | some (.ow ds),w=>exact ⟨ds,rfl,w⟩
theorem isL_of {f:List D->Prop} {d:D} (w:isL f d):∃ xs,d=.lst xs /\ f xs:=by
 cases d <;> first | exact w.elim | exact ⟨_,rfl,w⟩
theorem Rws.nol {K:PySem.W.Frag} {O O':List Addr} {H:Hp} (h:∀ b ∈ O',b ∉ O->∃ vs,H b=some (.lst vs)):∀ {rows:List (List D)} {as:List Addr},Rws K O H rows as->rows.all nols=true->Rws K O' H rows as
 | [],as,r,_=>r
 | q :: rows,as,r,n=>by
   obtain ⟨b,bs,vs,rfl,h1,h2,h3⟩:=r
   simp only [List.all_cons,Bool.and_eq_true] at n
   exact ⟨b,bs,vs,rfl,h1,nols_isG h q n.1 h2,Rws.nol h h3 n.2⟩
theorem rowsD_inj {r s:List (List D)} (h:rowsD r=rowsD s):r=s:=by
 unfold rowsD at h
 injection h with h
 induction r generalizing s with
 | nil=>cases s <;> simp at h;rfl
 | cons a r ih =>
   cases s with
   | nil=>simp at h
   | cons b s =>
     simp only [List.map_cons,List.cons.injEq] at h
     injection h.1 with e
     rw [e,ih h.2]
mutual
theorem sS (ok:OkS X k C):∀ (s:Sm) (st:Stmt),chkS k s st=true->PS X st (tS X.K C O₀ H₀ ex s)
 | .nop,st,h=>by rw [chkS] at h;cases h
 | .seq a b,st,h=>by rw [chkS] at h;cases h
 | .set i e,st,h=>by
   rw [chkS] at h
   replace h:=opt_any h
   obtain ⟨⟨ts,v⟩,ha,h⟩:=h
   obtain ⟨pos,rfl⟩:=asAsg_ ha
   replace h:=opt_any h
   obtain ⟨t,ht,h⟩:=h
   have et:=sole_ ht
   simp only at et
   subst et
   replace h:=opt_any h
   obtain ⟨x,hx,h⟩:=h
   obtain ⟨p,rfl⟩:=asName_ hx
   ·rw [Bool.and_eq_true] at h
    obtain ⟨h1,h2,h3,h4⟩:=ok.vis h.1
    have plain:swapsWith v (some (.Name x p)) pos.line X.env=pure false->PS X (.Assign [.Name x p] v pos) (tS X.K C O₀ H₀ ex (.set i e)):=fun hsw=>by
     refine PS.imp (fun D τ H w=>?_) (ps_set ok.nd h1 h2 (sB ok.toOk e v h.2).1 hsw (.inl (ok.fn _)))
     obtain ⟨σ,O,g,R,w⟩:=w
     unfold wpS at w
     exact ⟨σ,O,R.toReps,wpE_mono e (fun d wd v H1 s1 i1=>wd _ H1 O (g.mono s1) (minus_mono s1) ((R.mono s1).set i1)) w⟩
    cases hq:isComp v with
    | false=>exact plain (swaps_of h.2 hq _ _ _)
    | true =>
      obtain ⟨y,py,iter,elt,ifs,sc,ps,wi,tt,te,rfl,hck,hpi,hfo,hel,hco⟩:=comp_parts ok.toOk e v h.2 hq
      obtain ⟨b,hb⟩:=swaps_comp (elt:=elt) (gs:=[⟨.Name y py,iter,ifs,0⟩]) (sc:=sc) (pos:=ps) (py:=p) (y:=x) pos.line X.env
      cases b with
      | false=>exact plain hb
      | true =>
        intro pins s τ H D I w
        obtain ⟨cl,co⟩:=ok.toOk.comp hck I.ok
        refine ps_comp ok.calm ok.nd (ok.toOk.comp_nE hck) co hpi (hel cl co).1 (hel cl co).2 hfo hb h1 h2 (.inl (ok.fn _)) pins s τ H D I (hco τ H _ ?_)
        obtain ⟨σ,O,g,R,w⟩:=w
        unfold wpS at w
        exact ⟨σ,O,R.toReps,wpE_mono e (fun d wd v H1 s1 i1=>wd _ H1 O (g.mono s1) (minus_mono s1) ((R.mono s1).set i1)) w⟩
 | .unp is e,st,h=>by
   rw [chkS] at h
   replace h:=opt_any h
   obtain ⟨⟨ts,v⟩,ha,h⟩:=h
   obtain ⟨pos,rfl⟩:=asAsg_ ha
   replace h:=opt_any h
   obtain ⟨t,ht,h⟩:=h
   have et:=sole_ ht
   simp only at et
   subst et
   replace h:=opt_any h
   obtain ⟨es,hx,h⟩:=h
   obtain ⟨j,p,rfl⟩:=asTup_ hx
   ·simp only [Bool.and_eq_true] at h
    obtain ⟨⟨h1,h2⟩,h3⟩:=h
    obtain ⟨pg,hl,hf⟩:=pgs_names ok is es h1
    have hsw:swappedStores [.Tuple es j p] v X.env=pure none:=by
     cases v <;> first | rfl | exact Bool.noConfusion h2
    refine PS.imp (fun D τ H w=>?_) (ps_asg (sB ok.toOk e v h3).1 (pg_sq ok.calm pg hl hf) (by unfold swapsWithSole;exact swaps_tup _ _ _) hsw rfl)
    obtain ⟨σ,O,g,R,w⟩:=w
    unfold wpS at w
    refine ⟨σ,O,R.toReps,wpE_mono e (fun d wd v H1 s1 i1=>?_) w⟩
    cases d with
    | tup ds =>
      obtain ⟨σ',e1,q⟩:=wd
      obtain ⟨a,vs,rfl,h4,h5⟩:=is_tup i1
      exact .inl ⟨a,vs,rfl,(sqt_mono (minus_same _ _) h4),by rw [h5.length,setAll_len is e1],gNames_of is (R.mono s1) h5 e1 fun τ' R'=>q τ' H1 O (g.mono s1) (minus_mono s1) R'⟩
    | lst ds =>
      obtain ⟨σ',e1,q⟩:=wd
      obtain ⟨a,vs,rfl,h4,h5⟩:=is_lst i1
      exact .inr ⟨a,vs,rfl,(minus_same _ _).seq h4,by rw [h5.length,setAll_len is e1],gNames_of is (R.mono s1) h5 e1 fun τ' R'=>q τ' H1 O (g.mono s1) (minus_mono s1) R'⟩
    | _=>exact wd.elim
 | .ret e,st,h=>by
   rw [chkS] at h
   replace h:=opt_any h
   obtain ⟨ov,ho,h⟩:=h
   replace h:=opt_any h
   obtain ⟨v,hv,h⟩:=h
   subst hv
   obtain ⟨pos,rfl⟩:=asRet_ ho
   ·refine PS.imp (fun D τ H w=>?_) (ps_ret (sB ok.toOk e v h).1)
    obtain ⟨σ,O,g,R,w⟩:=w
    unfold wpS at w
    exact ⟨σ,O,R.toReps,wpE_mono e (fun d wd v H1 s1 i1=>wd v H1 (g.same.trans s1) (Is.mono (minus_less g.sub) d i1)) w⟩
 | .ite c a b,st,h=>by
   rw [chkS] at h
   replace h:=opt_any h
   obtain ⟨⟨t,x,y⟩,hz,h⟩:=h
   obtain ⟨pos,rfl⟩:=asIfS_ hz
   simp only [Bool.and_eq_true] at h
   refine PS.imp (fun D τ H w=>?_) (ps_if (sB ok.toOk c t h.1.1).2 (sK ok a x h.1.2) (sK ok b y h.2))
   obtain ⟨σ,O,g,R,w⟩:=w
   unfold wpS at w
   refine ⟨σ,O,R.toReps,wpE_mono c (fun d=>isB_mono fun t wt H1 s1=>?_) w⟩
   cases t with
   | true=>exact ⟨σ,O,g.mono s1,R.mono s1,wpS_mono a (lift_le (minus_mono s1)) wt⟩
   | false=>exact ⟨σ,O,g.mono s1,R.mono s1,wpS_mono b (lift_le (minus_mono s1)) wt⟩
 | .whl c b,st,h=>by
   rw [chkS] at h
   replace h:=opt_any h
   obtain ⟨⟨t,x,oe⟩,hz,h⟩:=h
   obtain ⟨pos,rfl⟩:=asWhl_ hz
   simp only [Bool.and_eq_true,List.isEmpty_iff] at h
   obtain ⟨⟨he,h1⟩,h2⟩:=h
   subst he
   ·have h:chkE k c t=true /\ chkB k b x=true:=⟨h1,h2⟩
    refine PS.imp (fun D τ H w=>?_) (ps_while (by rw [ok.xe];exact PassesOwn.never) (sB ok.toOk c t h.1).2 (sK ok b x h.2))
    obtain ⟨σ,O,g,R,w⟩:=w
    unfold wpS at w
    obtain ⟨W,⟨m,w0⟩,turn⟩:=w
    refine ⟨fun m τ' H'=>∃ σ' O',Good O₀ H₀ O' H' /\ Same (minus H O) (minus H' O') /\ RepS O₀ X.K O' H' σ' τ' /\ W m σ',⟨m,σ,O,g,Same.refl _,R,w0⟩,?_⟩
    rintro m τ1 H1 ⟨σ1,O1,g1,s1,R1,w1⟩
    refine ⟨σ1,O1,R1.toReps,wpE_mono c (fun d=>isB_mono fun t wt H2 s2=>?_) (turn m σ1 w1)⟩
    have s12:Same (minus H O) (minus H2 O1):=s1.trans (minus_mono s2)
    cases t with
    | true =>
      refine ⟨fun τ' H'=>∃ m',m' < m /\ ∃ σ' O',Good O₀ H₀ O' H' /\ Same (minus H O) (minus H' O') /\ RepS O₀ X.K O' H' σ' τ' /\ W m' σ',fun τ' H' q=>q,σ1,O1,g1.mono s2,R1.mono s2,wpS_mono b ?_ wt⟩
      exact ⟨fun σ' ⟨m',l,q⟩ τ' H' O' g' s' r'=>⟨m',l,σ',O',g',s12.trans s',r',q⟩,fun _ q=>q,fun σ' q τ' H' O' g' s' r'=>q τ' H' O' g' (s12.trans s') r',fun σ' ⟨m',l,q⟩ τ' H' O' g' s' r'=>⟨m',l,σ',O',g',s12.trans s',r',q⟩,fun _ q=>q,fun _ q=>q,fun _ q=>q⟩
    | false=>exact wt τ1 H2 O1 (g1.mono s2) s12 (R1.mono s2)
 | .forR i es b,st,h=>by
   rw [chkS] at h
   replace h:=opt_any h
   obtain ⟨⟨tg,it,body,oe⟩,hz,h⟩:=h
   obtain ⟨pos,rfl⟩:=asFor_ hz
   replace h:=opt_any h
   obtain ⟨x,hxn,h⟩:=h
   obtain ⟨p,e1⟩:=asName_ hxn
   clear hxn
   simp only at e1
   subst e1
   replace h:=opt_any h
   obtain ⟨⟨f,args,p2⟩,hc,h⟩:=h
   obtain ⟨q,e2⟩:=asCallN_ hc
   simp only at e2
   subst e2
   simp only [Bool.and_eq_true,decide_eq_true_eq,List.isEmpty_iff] at h
   obtain ⟨⟨⟨⟨⟨⟨he,hx⟩,hf⟩,hg⟩,hne⟩,ha⟩,hb⟩:=h
   subst he hf
   ·skip
    obtain ⟨h1,h2,h3,h4⟩:=ok.vis hx
    obtain ⟨g1,_,_⟩:=ok.gl hg
    cases args with
    | nil=>simp at hne
    | cons y ys =>
      have hs:starEach (y :: ys) X.env=(false,eval y X.env) :: starEach ys X.env /\ (backTo p2 (starEach ys X.env)).any (·.1)=false:=by
       cases es with
       | nil=>have:=chkEs_nil ha;cases this
       | cons z zs =>
         obtain ⟨y',ys',e',h5,h6⟩:=chkEs_cons ha
         cases e'
         exact ⟨star_of h5 _ _,plain_of h6 _ _⟩
      refine PS.imp (fun D τ H w=>?_) (ps_for (by rw [ok.xe];exact PassesOwn.never) ok.calm (pi_rg g1 (ok.blt _ (by decide)) (sA ok.toOk es _ ha) hs.1 hs.2) (pg_name ok.nd h1 h2 (.inl (ok.fn _))) (sK ok b body hb) (fun _=>rfl))
      obtain ⟨σ,O,g,R,w⟩:=w
      unfold wpS at w
      refine ⟨σ,O,R.toReps,wpEs_mono es (fun ds wd vs H1 s1 i1=>?_) w⟩
      obtain ⟨lo,hi,st,e,c,wd⟩:=rgD_of i1 wd
      refine ⟨lo,hi,st,e,c,?_⟩
      refine for_turns (S:=H1) (g.mono s1) (R.mono s1) (xs:=rangeD lo st (if lo < hi then (hi - lo - 1) / st + 1 else 0).toNat) ?_ ?_ ?_ (forL_mono (body:=fun K σ=>wpS C b K σ) (fun K K' σ h w=>wpS_mono b h w) (lift_le (minus_mono s1)) _ wd)
      ·intro j H O _ hj
       rw [rangeD_length] at hj
       exact hj
      ·intro j H O _ hj
       rw [rangeD_length] at hj
       exact hj
      ·intro j H O v H' d _ y hd
       obtain ⟨e1,e2⟩:=y
       have hj:j < (if lo < hi then (hi - lo - 1) / st + 1 else 0).toNat:=by
        rcases Nat.lt_or_ge j (if lo < hi then (hi - lo - 1) / st + 1 else 0).toNat with z | z
        ·exact z
        ·rw [List.getElem?_eq_none (by rw [rangeD_length];exact z)] at hd;cases hd
       rw [rangeD_get _ _ _ _ hj] at hd
       cases hd
       exact ⟨e1,by rw [e2];exact int_is _⟩
 | .forE i e b,st,h=>by
   rw [chkS] at h
   replace h:=opt_any h
   obtain ⟨⟨tg,it,body,oe⟩,hz,h⟩:=h
   obtain ⟨pos,rfl⟩:=asFor_ hz
   replace h:=opt_any h
   obtain ⟨x,hxn,h⟩:=h
   obtain ⟨p,e1⟩:=asName_ hxn
   clear hxn
   simp only at e1
   subst e1
   simp only [Bool.and_eq_true,Bool.not_eq_true',List.isEmpty_iff] at h
   obtain ⟨⟨⟨⟨he0,hx⟩,hn⟩,he⟩,hb⟩:=h
   subst he0
   ·skip
    obtain ⟨h1,h2,h3,h4⟩:=ok.vis hx
    have pe:=(sB ok.toOk e it he).1
    refine PS.imp (fun D τ H w=>?_) (ps_for (by rw [ok.xe];exact PassesOwn.never) ok.calm (pi_seq pe) (pg_name ok.nd h1 h2 (.inl (ok.fn _))) (sK ok b body hb) (folded_of hn _))
    obtain ⟨σ,O,g,R,w⟩:=w
    unfold wpS at w
    refine ⟨σ,O,R.toReps,wpE_mono e (fun d wd v H1 s1 i1=>?_) w⟩
    obtain ⟨xs,e1,wd⟩:=wd
    have wd':=forL_mono (body:=fun K σ=>wpS C b K σ) (fun K K' σ h w=>wpS_mono b h w) (lift_le (K:=X.K) (O₀:=O₀) (H₀:=H₀) (ex:=ex) (D:=D) (minus_mono (O:=O) s1)) _ wd
    obtain ⟨J,hw,g1,g2,g3⟩:=walk_of e1 i1
    exact ⟨J,hw,for_turns (S:=H1) (g.mono s1) (R.mono s1) g1 g2 g3 wd'⟩
 | .brk,st,h=>by
   rw [chkS] at h
   obtain ⟨pos,rfl⟩:=isBrk_ h
   refine PS.imp (fun D τ H w=>?_) ps_break
   obtain ⟨σ,O,g,R,w⟩:=w
   unfold wpS at w
   exact w τ H O g (Same.refl _) R
 | .cnt,st,h=>by
   rw [chkS] at h
   obtain ⟨pos,rfl⟩:=isCnt_ h
   refine PS.imp (fun D τ H w=>?_) ps_continue
   obtain ⟨σ,O,g,R,w⟩:=w
   unfold wpS at w
   exact w τ H O g (Same.refl _) R
 | .never,st,h=>by
   refine PS.imp (fun D τ H w=>?_) ps_never
   obtain ⟨σ,O,g,R,w⟩:=w
   unfold wpS at w
   exact w
 | .new i,st,h=>by
   rw [chkS] at h
   replace h:=opt_any h
   obtain ⟨⟨ts,v⟩,ha,h⟩:=h
   obtain ⟨pos,rfl⟩:=asAsg_ ha
   replace h:=opt_any h
   obtain ⟨t,ht,h⟩:=h
   have et:=sole_ ht
   simp only at et
   subst et
   replace h:=opt_any h
   obtain ⟨x,hx,h⟩:=h
   obtain ⟨p,rfl⟩:=asName_ hx
   rw [Bool.and_eq_true] at h
   obtain ⟨h1,h2,h3,h4⟩:=ok.vis h.1
   obtain ⟨es,he,h5⟩:=opt_any h.2
   have hes:es=[]:=by simpa using h5
   subst hes
   obtain ⟨lp,e2⟩:=asLst_ he
   simp only at e2
   subst e2
   refine PS.imp (fun D τ H w=>?_) (ps_set ok.nd h1 h2 (pe_lst pa_nil) rfl (.inl (ok.fn _)))
   obtain ⟨σ,O,g,R,w⟩:=w
   unfold wpS at w
   refine ⟨by decide,fun l hl=>?_⟩
   have hi:i < τ.length \/ τ.length<=i:=Nat.lt_or_ge ..
   have s1:Same H (upd H l (.lst [])):=same_upd hl _
   rcases hi with hi | hi
   ·exact w _ _ (l :: O) (g.fresh s1 hl) (same_fresh s1 hl) (R.fresh g.sub s1 hl (upd_same ..) (by unfold Iss;rfl) hi)
   ·have e1:setS σ i (some (.ow []))=σ:=setS_out _ (by rw [R.len];exact hi)
    have e2:τ.set i (some (.ref l))=τ:=List.set_eq_of_length_le hi
    rw [e1] at w
    show D.nx (τ.set i (some (.ref l))) _
    rw [e2]
    exact w _ _ O (g.mono s1) (minus_mono s1) (R.mono s1)
 | .app i e,st,h=>by
   rw [chkS] at h
   replace h:=opt_any h
   obtain ⟨z,hz,h⟩:=h
   obtain ⟨pos,rfl⟩:=asExp_ hz
   replace h:=opt_any h
   obtain ⟨⟨fe,xs,ks,cp⟩,hc,h⟩:=h
   have ee:=asCall_ hc
   subst ee
   simp only [Bool.and_eq_true,decide_eq_true_eq,List.isEmpty_iff] at h
   obtain ⟨⟨⟨hk,hl1⟩,hat⟩,he⟩:=h
   replace hat:=opt_any hat
   obtain ⟨⟨ob,at',ap⟩,hy,hat⟩:=hat
   have ee:=asAttr_ hy
   subst ee
   simp only [Bool.and_eq_true,decide_eq_true_eq] at hat
   obtain ⟨⟨ha1,ha2⟩,ha3⟩:=hat
   subst ha1 hk
   replace ha2:=opt_any ha2
   obtain ⟨x,hx,hloc⟩:=ha2
   obtain ⟨q,rfl⟩:=asName_ hx
   match xs,hl1,he with
   | [y],_,he =>
     have he:chkE k e y=true:=he
     obtain ⟨h1,h2,h3,h4⟩:=ok.vis hloc
     refine PS.imp (fun D τ H w=>?_) (ps_expr (pe_bm PySem.F.plainAttrs_list PySem.F.slot_list_append PySem.F.type_list_append mt_append (pe_var h1 (loc_vis h2) h3 h4) (pa_cons (sB ok.toOk e y he).1 pa_nil (star_of he _ _)) rfl (by rw [star_of he];rfl) ha3 (star_of he _ _) rfl))
     obtain ⟨σ,O,g,R,w⟩:=w
     unfold wpS at w
     cases gs:getS σ i with
     | none=>rw [gs] at w;exact w.elim
     | some u =>
       rw [gs] at w
       cases u with
       | sh d=>exact w.elim
       | ot _=>exact w.elim
       | ow ds =>
         obtain ⟨a,vs,e1,e2,e3,e4⟩:=R.ow i ds gs
         refine ⟨.ref a,e1,.inl ⟨rfl,vs,SqL.of e3⟩,σ,O,R.toReps,wpE_mono e (fun d wd v H1 s1 i1=>?_) w.2⟩
         have hl:=e4.length
         have hlim:=w.1
         refine ⟨a,vs,v,rfl,rfl,s1 _ _ e3,by rw [sizeLine_eq];unfold lim at hlim;omega,?_⟩
         have i2:Iss X.K (minus H1 O) (ds ++ [d]) (vs ++ [v]):=(Iss.mono (minus_mono s1) ds e4).append (by unfold Iss;exact ⟨v,[],rfl,i1,by unfold Iss;rfl⟩)
         refine wd τ _ O ((g.mono s1).write e2 (R.mine i ds a gs e1)) ?_ ((R.mono s1).write (vs:=vs) gs e1 e2 i2)
         rw [minus_write e2]
         exact minus_mono s1
 | .sto i e v,st,h=>by
   rw [chkS] at h
   replace h:=opt_any h
   obtain ⟨⟨ts,vE⟩,ha,h⟩:=h
   obtain ⟨pos,rfl⟩:=asAsg_ ha
   replace h:=opt_any h
   obtain ⟨t,ht,h⟩:=h
   have et:=sole_ ht
   simp only at et
   subst et
   replace h:=opt_any h
   obtain ⟨⟨ob,ix⟩,hx,h⟩:=h
   obtain ⟨p,rfl⟩:=asSub_ hx
   simp only [Bool.and_eq_true,Bool.not_eq_true'] at h
   obtain ⟨⟨⟨hsl,hloc⟩,he⟩,hv⟩:=h
   replace hloc:=opt_any hloc
   obtain ⟨x,hn,hloc⟩:=hloc
   obtain ⟨q,rfl⟩:=asName_ hn
   obtain ⟨h1,h2,h3,h4⟩:=ok.vis hloc
   have hasg:∀ u,assign (.Subscript (.Name x q) ix p) X.env u=(do
    let ov <- holding [u] (eval (.Name x q) X.env)
    let iv <- holding [u,ov] (eval ix X.env)
    standAt p
    holding [u,ov,iv] (setItem ov iv u)
    release [u,ov,iv] []):=by
    intro u
    cases ix <;> first | rfl | exact Bool.noConfusion hsl
   refine PS.imp (fun D τ H w=>?_) (ps_asg (sB ok.toOk v vE hv).1 (pg_sub (pe_var h1 (loc_vis h2) h3 h4) (sB ok.toOk e ix he).1 set_list hasg) (by unfold swapsWithSole;exact swaps_sub _ _ _ _ _) (by cases vE <;> rfl) rfl)
   obtain ⟨σ,O,g,R,w⟩:=w
   unfold wpS at w
   cases gs:getS σ i with
   | none=>rw [gs] at w;exact w.elim
   | some u =>
     rw [gs] at w
     cases u with
     | sh d=>exact w.elim
     | ot _=>exact w.elim
     | ow ds =>
       obtain ⟨a,vs,e1,e2,e3,e4⟩:=R.ow i ds gs
       refine ⟨σ,O,R.toReps,wpE_mono v (fun d wd vv H1 s1 i1=>⟨.ref a,e1,σ,O,(R.mono s1).toReps,wpE_mono e (fun y wy yv H2 s2 i2=>?_) wd⟩) w⟩
       cases y with
       | int n =>
         cases is_int i2
         obtain ⟨⟨n0,n1⟩,q⟩:=wy
         have s12:=s1.trans s2
         have hl:=e4.length
         refine ⟨a,vs,n,n.toNat,rfl,rfl,s12 _ _ e3,by unfold ixN;rw [if_pos n0,if_pos (by omega)],?_⟩
         have i3:Iss X.K (minus H2 O) (ds.set n.toNat d) (vs.set n.toNat vv):=(Iss.mono (minus_mono s12) ds e4).set (Is.mono (minus_mono s2) d i1)
         refine q τ _ O ((g.mono s12).write e2 (R.mine i ds a gs e1)) ?_ ((R.mono s12).write (vs:=vs) gs e1 e2 i3)
         rw [minus_write e2]
         exact minus_mono s12
       | _=>exact wy.elim
 | .setF i f es,st,h=>by
   rw [chkS] at h
   replace h:=opt_any h
   obtain ⟨⟨ts,v⟩,ha,h⟩:=h
   obtain ⟨pos,rfl⟩:=asAsg_ ha
   replace h:=opt_any h
   obtain ⟨t,ht,h⟩:=h
   have et:=sole_ ht
   simp only at et
   subst et
   replace h:=opt_any h
   obtain ⟨x,hx,h⟩:=h
   obtain ⟨p,rfl⟩:=asName_ hx
   rw [Bool.and_eq_true] at h
   obtain ⟨h1,h2,h3,h4⟩:=ok.vis h.1
   replace h:=opt_any h.2
   obtain ⟨⟨fx,xs,cp⟩,hc,h⟩:=h
   obtain ⟨q,rfl⟩:=asCallN_ hc
   simp only [Bool.and_eq_true,decide_eq_true_eq] at h
   obtain ⟨⟨⟨k1,k2⟩,hne⟩,k4⟩:=h
   match xs,hne,k1,k4 with
   | y :: ys,_,k1,k4 =>
     obtain ⟨g1,g2,g3⟩:=ok.gl k2
     obtain ⟨fa,fd,ps,lv,F,hr,hm,hk,hb⟩:=ok.fns f fx _ k1
     have hs:starEach (y :: ys) X.env=(false,eval y X.env) :: starEach ys X.env /\ (backTo cp (starEach ys X.env)).any (·.1)=false:=by
      cases es with
      | nil=>have:=chkEs_nil k4;cases this
      | cons z zs =>
        obtain ⟨y',ys',e',h5,h6⟩:=chkEs_cons k4
        cases e'
        exact ⟨star_of h5 _ _,plain_of h6 _ _⟩
     refine PS.imp (fun D τ H w=>?_) (ps_set ok.nd h1 h2 (pe_call (CX:=CXz X.prog X.w X.mg) (E:=E0) (dvs:=[]) F hr g1 hm hk hb .nil passZ (sA ok.toOk es _ k4) g2 hs.1 hs.2) rfl (.inl (ok.fn _)))
     obtain ⟨σ,O,g,R,w⟩:=w
     unfold wpS at w
     refine ⟨σ,O,R.toReps,wpEs_mono es (fun ds ⟨hl,wd⟩ vs H1 s1 i1=>?_) (wpEs_len es w)⟩
     show spD X.K (y :: ys).length (C.fr f) (C.f2 f) (C.ct f) (vs ++ []) H1 _ E0
     rw [List.append_nil]
     refine ⟨O,ds,by rw [hl,len_of k4],(R.mono s1).own,i1,wd.2.1,fun d r=>?_,fun x hx=>ok.E x (wd.2.2.2 x hx)⟩
     unfold Rw
     rw [if_pos wd.1]
     intro xs a H' us e s2 h0 hl' is
     subst e
     obtain ⟨xs',e',nx⟩:=wd.2.2.1 _ r
     cases e'
     have s12:=s1.trans s2
     have h0':H a=none:=by
      cases q:H a with
      | none=>rfl
      | some o=>rw [s1 a o q] at h0;cases h0
     rcases Nat.lt_or_ge i τ.length with hi | hi
     ·exact nx _ _ (a :: O) (g.fresh s12 h0') (same_fresh s12 h0') (R.fresh g.sub s12 h0' hl' is hi)
     ·have e1:setS σ i (some (.ow xs))=σ:=setS_out _ (by rw [R.len];exact hi)
      have e2:τ.set i (some (.ref a))=τ:=List.set_eq_of_length_le hi
      rw [e1] at nx
      show D.nx (τ.set i (some (.ref a))) _
      rw [e2]
      exact nx _ _ O (g.mono s12) (minus_mono s12) (R.mono s12)
 | .retO i,st,h=>by
   rw [chkS] at h
   replace h:=opt_any h
   obtain ⟨ov,ho,h⟩:=h
   replace h:=opt_any h
   obtain ⟨v,hv,h⟩:=h
   subst hv
   obtain ⟨pos,rfl⟩:=asRet_ ho
   replace h:=opt_any h
   obtain ⟨x,hx,h⟩:=h
   obtain ⟨q,rfl⟩:=asName_ hx
   obtain ⟨h1,h2,h3,h4⟩:=ok.vis h
   refine PS.imp (fun D τ H w=>?_) (ps_ret (pe_var h1 (loc_vis h2) h3 h4))
   obtain ⟨σ,O,g,R,w⟩:=w
   unfold wpS at w
   cases gs:getS σ i with
   | none=>rw [gs] at w;exact w.elim
   | some u =>
     rw [gs] at w
     cases u with
     | sh d=>exact w.elim
     | ot _=>exact w.elim
     | ow ds =>
       obtain ⟨a,vs,e1,e2,e3,e4⟩:=R.ow i ds gs
       have hn:=R.mine i ds a gs e1
       refine ⟨.ref a,e1,w a H vs g.same ((g.new a e2).resolve_left hn) e3 (Iss.mono (minus_less fun b hb=>?_) ds e4)⟩
       rcases List.mem_cons.mp hb with rfl | hb
       ·exact e2
       ·exact g.sub b hb
 | .shr _,_,h=>by rw [chkS] at h;cases h
 | .ext i e,st,h=>by
   rw [chkS] at h
   replace h:=opt_any h
   obtain ⟨z,hz,h⟩:=h
   obtain ⟨pos,rfl⟩:=asExp_ hz
   replace h:=opt_any h
   obtain ⟨⟨fe,xs,ks,cp⟩,hc,h⟩:=h
   have ee:=asCall_ hc
   subst ee
   simp only [Bool.and_eq_true,decide_eq_true_eq,List.isEmpty_iff] at h
   obtain ⟨⟨⟨hk,hl1⟩,hat⟩,he⟩:=h
   replace hat:=opt_any hat
   obtain ⟨⟨ob,at',ap⟩,hy,hat⟩:=hat
   have ee:=asAttr_ hy
   subst ee
   simp only [Bool.and_eq_true,decide_eq_true_eq] at hat
   obtain ⟨⟨ha1,ha2⟩,ha3⟩:=hat
   subst ha1 hk
   replace ha2:=opt_any ha2
   obtain ⟨x,hx,hloc⟩:=ha2
   obtain ⟨q,rfl⟩:=asName_ hx
   match xs,hl1,he with
   | [y],_,he =>
     have he:chkE k e y=true:=he
     obtain ⟨h1,h2,h3,h4⟩:=ok.vis hloc
     refine PS.imp (fun D τ H w=>?_) (ps_expr (pe_bm PySem.F.plainAttrs_list PySem.F.slot_list_extend PySem.F.type_list_extend mt_extS (pe_var h1 (loc_vis h2) h3 h4) (pa_cons (sB ok.toOk e y he).1 pa_nil (star_of he _ _)) rfl (by rw [star_of he];rfl) ha3 (star_of he _ _) rfl))
     obtain ⟨σ,O,g,R,w⟩:=w
     unfold wpS at w
     cases gs:getS σ i with
     | none=>rw [gs] at w;exact w.elim
     | some u =>
       rw [gs] at w
       cases u with
       | sh d=>exact w.elim
       | ot _=>exact w.elim
       | ow ds =>
         obtain ⟨a,vs,e1,e2,e3,e4⟩:=R.ow i ds gs
         refine ⟨.ref a,e1,.inl ⟨rfl,vs,SqL.of e3⟩,σ,O,R.toReps,wpE_mono e (fun d wd v H1 s1 i1=>?_) w⟩
         cases d with
         | lst zs =>
           obtain ⟨hlim,wd⟩:=wd
           obtain ⟨b,ws,rfl,h5,h6⟩:=is_lst i1
           have hl:=e4.length
           have hl2:=h6.length
           refine ⟨a,b,vs,ws,rfl,rfl,s1 _ _ e3,(minus_same _ _).seq h5,by rw [sizeLine_eq];unfold lim at hlim;omega,?_⟩
           have i2:Iss X.K (minus H1 O) (ds ++ zs) (vs ++ ws):=(Iss.mono (minus_mono s1) ds e4).append h6
           refine wd τ _ O ((g.mono s1).write e2 (R.mine i ds a gs e1)) ?_ ((R.mono s1).write (vs:=vs) gs e1 e2 i2)
           rw [minus_write e2]
           exact minus_mono s1
         | _=>exact wd.elim
 | .forN i e b,st,h=>by
   rw [chkS] at h
   replace h:=opt_any h
   obtain ⟨⟨tg,it,body,oe⟩,hz,h⟩:=h
   obtain ⟨pos,rfl⟩:=asFor_ hz
   replace h:=opt_any h
   obtain ⟨x,hxn,h⟩:=h
   obtain ⟨p,e1⟩:=asName_ hxn
   clear hxn
   simp only at e1
   subst e1
   replace h:=opt_any h
   obtain ⟨⟨f,args,p2⟩,hc,h⟩:=h
   obtain ⟨q,e2⟩:=asCallN_ hc
   simp only at e2
   subst e2
   simp only [Bool.and_eq_true,decide_eq_true_eq,List.isEmpty_iff] at h
   obtain ⟨⟨⟨⟨⟨⟨he,hx⟩,hf⟩,hg⟩,hne⟩,ha⟩,hb⟩:=h
   subst he hf
   match args,hne,ha with
   | [y],_,ha =>
     have ha:chkE k e y=true:=ha
     obtain ⟨h1,h2,h3,h4⟩:=ok.vis hx
     obtain ⟨g1,_,_⟩:=ok.gl hg
     refine PS.imp (fun D τ H w=>?_) (ps_for (by rw [ok.xe];exact PassesOwn.never) ok.calm (pi_enum g1 (ok.blt _ (by decide)) (sA ok.toOk [e] [y] (by simp [chkEs,ha])) (star_of ha _ _) rfl) (pg_name ok.nd h1 h2 (.inl (ok.fn _))) (sK ok b body hb) (fun _=>rfl))
     obtain ⟨σ,O,g,R,w⟩:=w
     unfold wpS at w
     refine ⟨σ,O,R.toReps,?_⟩
     simp only [wpEs]
     refine wpE_mono e (fun d wd us H1 s1 i1=>?_) w
     obtain ⟨ys,rfl,wd⟩:=isL_of wd
     obtain ⟨v,rfl,j1⟩:=iss1 i1
     have wd':=forL_mono (body:=fun K σ=>wpS C b K σ) (fun K K' σ h w=>wpS_mono b h w) (lift_le (K:=X.K) (O₀:=O₀) (H₀:=H₀) (ex:=ex) (D:=D) (minus_mono (O:=O) s1)) _ wd
     obtain ⟨a,vs,rfl,h5,h6⟩:=is_lst j1
     have hl:=h6.length
     have ln:(enmD ys).length=ys.length:=by unfold enmD;simp
     have sq:∀ {H:Hp} {O':List Addr},Same (minus H1 O) (minus H O')->SqL X.K H a vs:=fun sm=>(minus_same _ _).seq (sm.seq h5)
     refine ⟨a,rfl,⟨vs,(minus_same _ _).seq h5⟩,for_turnsG (S:=H1) (g.mono s1) (R.mono s1) ?_ ?_ ?_ wd'⟩
     ·intro j H O' sm hj
      rw [ln] at hj
      exact ⟨vs,vs[j]'(by omega),sq sm,List.getElem?_eq_getElem _⟩
     ·intro j H O' sm hj
      rw [ln] at hj
      exact ⟨vs,sq sm,by omega⟩
     ·intro j H O' v H' d ho sm y hd
      obtain ⟨T,x,rfl,hT,hx',rfl⟩:=y
      have hz:(enmD ys)[j]?=some d:=hd
      unfold enmD at hz
      rw [List.getElem?_map,List.getElem?_zipIdx] at hz
      cases hzz:ys[j]? with
      | none=>rw [hzz] at hz;cases hz
      | some a1 =>
        rw [hzz] at hz
        simp only [Option.map_some,Option.some.injEq,Nat.zero_add] at hz
        subst hz
        obtain ⟨u1,g2,k1⟩:=h6.get hzz
        rw [hx' vs (sq sm)] at g2
        cases g2
        have s':=same_upd hT (.tup [.int j,x])
        refine ⟨s',tup_is (at_upd ho hT) ?_⟩
        ·have sm2:=sm.trans (minus_mono (O:=O') s')
         unfold Iss
         refine ⟨.int j,[x],rfl,int_is _,?_⟩
         unfold Iss
         exact ⟨x,[],rfl,Is.mono sm2 a1 k1,by unfold Iss;rfl⟩
 | .st2 i ea eb ev,st,h=>by
   rw [chkS] at h
   replace h:=opt_any h
   obtain ⟨⟨ts,vE⟩,ha,h⟩:=h
   obtain ⟨pos,rfl⟩:=asAsg_ ha
   replace h:=opt_any h
   obtain ⟨t,ht,h⟩:=h
   have et:=sole_ ht
   simp only at et
   subst et
   replace h:=opt_any h
   obtain ⟨es,hx,h⟩:=h
   obtain ⟨j,p,rfl⟩:=asTup_ hx
   simp only [Bool.and_eq_true,decide_eq_true_eq] at h
   obtain ⟨⟨⟨hlen,ka⟩,kb⟩,hv⟩:=h
   match es,hlen,ka,kb with
   | [t1,t2],_,ka,kb =>
     replace ka:=opt_any ka
     replace kb:=opt_any kb
     obtain ⟨⟨o1,ix1⟩,x1,ka⟩:=ka
     obtain ⟨⟨o2,ix2⟩,x2,kb⟩:=kb
     obtain ⟨p1,e1⟩:=asSub_ x1
     obtain ⟨p2,e2⟩:=asSub_ x2
     simp only [List.getD_cons_zero,List.getD_cons_succ] at e1 e2
     subst e1 e2
     simp only [Bool.and_eq_true,Bool.not_eq_true'] at ka kb
     obtain ⟨⟨sl1,l1⟩,c1⟩:=ka
     obtain ⟨⟨sl2,l2⟩,c2⟩:=kb
     replace l1:=opt_any l1
     replace l2:=opt_any l2
     obtain ⟨y1,n1,l1⟩:=l1
     obtain ⟨y2,n2,l2⟩:=l2
     obtain ⟨q1,rfl⟩:=asName_ n1
     obtain ⟨q2,rfl⟩:=asName_ n2
     obtain ⟨a1,a2,a3,a4⟩:=ok.vis l1
     obtain ⟨b1,b2,b3,b4⟩:=ok.vis l2
     have asg:∀ (x:Str) (q:Pos) (ix:Expr) (p:Pos),isSlice ix=false->∀ u,assign (.Subscript (.Name x q) ix p) X.env u=(do
      let ov <- holding [u] (eval (.Name x q) X.env)
      let iv <- holding [u,ov] (eval ix X.env)
      standAt p
      holding [u,ov,iv] (setItem ov iv u)
      release [u,ov,iv] []):=by
      intro x q ix p hsl u
      cases ix <;> first | rfl | exact Bool.noConfusion hsl
     have hsw:swappedStores [.Tuple [.Subscript (.Name y1 q1) ix1 p1,.Subscript (.Name y2 q2) ix2 p2] j p] vE X.env=pure none:=by
      unfold swappedStores
      cases vE <;> first | rfl | skip
      next vs _ _ =>
      simp only [List.length_cons,List.length_nil]
      split
      ·rfl
      ·split
       ·rfl
       ·rfl
     refine PS.imp (fun D τ H w=>?_) (ps_asg (sB ok.toOk ev vE hv).1 (pg_sq ok.calm (pgs_cons (pg_sub (pe_var a1 (loc_vis a2) a3 a4) (sB ok.toOk ea ix1 c1).1 set_list (asg _ _ _ _ sl1)) (pgs_cons (pg_sub (pe_var b1 (loc_vis b2) b3 b4) (sB ok.toOk eb ix2 c2).1 set_list (asg _ _ _ _ sl2)) pgs_nil)) rfl rfl) (by unfold swapsWithSole;exact swaps_tup _ _ _) hsw rfl)
     obtain ⟨σ,O,g,R,w⟩:=w
     unfold wpS at w
     obtain ⟨ds,gs,w⟩:=own_of w
     obtain ⟨a,vs,f1,f2,f3,f4⟩:=R.ow i ds gs
     refine ⟨σ,O,R.toReps,wpE_mono ev (fun d wd vv H1 s1 i1=>?_) w⟩
     match d,wd with
     | .tup [x,y],wd =>
       obtain ⟨pa,us,rfl,t1,t2⟩:=is_tup i1
       obtain ⟨v1,v2,rfl,j1,j2⟩:=iss2 t2
       refine .inl ⟨pa,[v1,v2],rfl,sqt_mono (minus_same _ _) t1,rfl,v1,[v2],rfl,.ref a,f1,σ,O,(R.mono s1).toReps,wpE_mono ea (fun m wm mv H2 s2 i2=>?_) wd⟩
       cases m with
       | int m =>
         cases is_int i2
         obtain ⟨⟨m0,m1⟩,wm⟩:=wm
         have s12:=s1.trans s2
         have hl:=f4.length
         have i3:Iss X.K (minus H2 O) (ds.set m.toNat x) (vs.set m.toNat v1):=(Iss.mono (minus_mono s12) ds f4).set (Is.mono (minus_mono s2) x j1)
         refine ⟨a,vs,m,m.toNat,rfl,rfl,s12 _ _ f3,by unfold ixN;rw [if_pos m0,if_pos (by omega)],?_⟩
         have g2:=(g.mono s12).write (o:=.lst (vs.set m.toNat v1)) f2 (R.mine i ds a gs f1)
         have R2:=(R.mono s12).write (vs:=vs) gs f1 f2 i3
         have gs2:getS (setS σ i (some (.ow (ds.set m.toNat x)))) i=some (.ow (ds.set m.toNat x)):=by rw [getS_set,if_pos ⟨rfl,getS_lt σ i gs⟩]
         refine ⟨v2,[],rfl,.ref a,f1,_,O,R2.toReps,wpE_mono eb (fun n wn nv H3 s3 i4=>?_) wm⟩
         cases n with
         | int n =>
           cases is_int i4
           obtain ⟨⟨n0,n1⟩,q⟩:=wn
           obtain ⟨a',vs',k1,k2,k3,k4⟩:=R2.ow i _ gs2
           rw [f1] at k1
           cases k1
           have e5:vs'=vs.set m.toNat v1:=by rw [upd_same] at k3;cases k3;rfl
           subst e5
           refine ⟨a,_,n,n.toNat,rfl,rfl,s3 _ _ k3,by unfold ixN;rw [if_pos n0,if_pos (by rw [List.length_set];omega)],?_⟩
           have j3:Is X.K (minus (upd H2 a (.lst (vs.set m.toNat v1))) O) y v2:=by
            rw [minus_write f2];exact Is.mono (minus_mono s2) y j2
           have i5:Iss X.K (minus H3 O) ((ds.set m.toNat x).set n.toNat y) ((vs.set m.toNat v1).set n.toNat v2):=(Iss.mono (minus_mono s3) _ k4).set (Is.mono (minus_mono s3) y j3)
           refine ⟨rfl,?_⟩
           have R3:=(R2.mono s3).write (vs:=vs.set m.toNat v1) gs2 f1 f2 i5
           rw [setS_setS] at R3
           refine q τ _ O ((g2.mono s3).write f2 (R.mine i ds a gs f1)) ?_ R3
           rw [minus_write f2]
           have:=minus_mono (O:=O) s3
           rw [minus_write f2] at this
           exact (minus_mono s12).trans this
         | _=>exact wn.elim
       | _=>exact wm.elim
 | .retF e,st,h=>by
   rw [chkS] at h
   replace h:=opt_any h
   obtain ⟨ov,ho,h⟩:=h
   replace h:=opt_any h
   obtain ⟨v,hv,h⟩:=h
   subst hv
   obtain ⟨pos,rfl⟩:=asRet_ ho
   rw [Bool.and_eq_true] at h
   refine PS.imp (fun D τ H w=>?_) (ps_ret (sL ok.toOk e v h.1 h.2))
   obtain ⟨σ,O,g,R,w⟩:=w
   unfold wpS at w
   refine ⟨σ,O,R.toReps,wpE_mono e (fun d=>isL_mono fun xs nx ys a H1 us e' s1 h0 hl is=>?_) w⟩
   cases e'
   have h0':H₀ a=none:=by
    cases q:H₀ a with
    | none=>rfl
    | some o=>rw [g.same a o q] at h0;cases h0
   exact nx a H1 us (g.same.trans s1) h0' hl (Iss.mono (minus_less fun b hb=>by
    rcases List.mem_cons.mp hb with rfl | hb
    ·exact List.mem_cons_self ..
    ·exact List.mem_cons_of_mem _ (g.sub b hb)) xs is)
 | .retG e,st,h=>by
   rw [chkS] at h
   replace h:=opt_any h
   obtain ⟨ov,ho,h⟩:=h
   replace h:=opt_any h
   obtain ⟨v,hv,h⟩:=h
   subst hv
   obtain ⟨pos,rfl⟩:=asRet_ ho
   rw [Bool.and_eq_true] at h
   refine PS.imp (fun D τ H w=>?_) (ps_ret (sG ok.toOk e v h.1 h.2))
   obtain ⟨σ,O,g,R,w⟩:=w
   unfold wpS at w
   refine ⟨σ,O,R.toReps,wpG_mono (fun rows nx rows' a as H1 e' s1 h0 t=>?_) w⟩
   have e':=rowsD_inj e'
   subst e'
   have old:∀ b,H b=none->H₀ b=none:=fun b h=>by
    cases q:H₀ b with
    | none=>rfl
    | some o=>rw [g.same b o q] at h;cases h
   exact nx a as H1 (g.same.trans s1) ⟨old _ h0.1,fun b hb=>old _ (h0.2 b hb)⟩ ⟨t.top,t.nd,⟨List.mem_cons_self ..,fun b hb=>List.mem_cons_of_mem _ (List.mem_append_left _ hb)⟩,t.rw.imp (minus_less fun b hb=>by
    rcases List.mem_append.mp hb with hb | hb
    ·exact List.mem_append_left _ hb
    ·exact List.mem_append_right _ (g.sub b hb)) fun _ _ _ z=>z⟩
 | .setG i f es,st,h=>by
   rw [chkS] at h
   replace h:=opt_any h
   obtain ⟨⟨ts,v⟩,ha,h⟩:=h
   obtain ⟨pos,rfl⟩:=asAsg_ ha
   replace h:=opt_any h
   obtain ⟨t,ht,h⟩:=h
   have et:=sole_ ht
   simp only at et
   subst et
   replace h:=opt_any h
   obtain ⟨x,hx,h⟩:=h
   obtain ⟨p,rfl⟩:=asName_ hx
   rw [Bool.and_eq_true] at h
   obtain ⟨h1,h2,h3,h4⟩:=ok.vis h.1
   replace h:=opt_any h.2
   obtain ⟨⟨fx,xs,cp⟩,hc,h⟩:=h
   obtain ⟨q,rfl⟩:=asCallN_ hc
   simp only [Bool.and_eq_true,decide_eq_true_eq] at h
   obtain ⟨⟨⟨k1,k2⟩,hne⟩,k4⟩:=h
   match xs,hne,k1,k4 with
   | y :: ys,_,k1,k4 =>
     obtain ⟨g1,g2,g3⟩:=ok.gl k2
     obtain ⟨fa,fd,ps,lv,F,hr,hm,hk,hb⟩:=ok.fns f fx _ k1
     have hs:starEach (y :: ys) X.env=(false,eval y X.env) :: starEach ys X.env /\ (backTo cp (starEach ys X.env)).any (·.1)=false:=by
      cases es with
      | nil=>have:=chkEs_nil k4;cases this
      | cons z zs =>
        obtain ⟨y',ys',e',h5,h6⟩:=chkEs_cons k4
        cases e'
        exact ⟨star_of h5 _ _,plain_of h6 _ _⟩
     refine PS.imp (fun D τ H w=>?_) (ps_set ok.nd h1 h2 (pe_call (CX:=CXz X.prog X.w X.mg) (E:=E0) (dvs:=[]) F hr g1 hm hk hb .nil passZ (sA ok.toOk es _ k4) g2 hs.1 hs.2) rfl (.inl (ok.fn _)))
     obtain ⟨σ,O,g,R,w⟩:=w
     unfold wpS at w
     refine ⟨σ,O,R.toReps,wpEs_mono es (fun ds ⟨hl,wd⟩ vs H1 s1 i1=>?_) (wpEs_len es w)⟩
     show spD X.K (y :: ys).length (C.fr f) (C.f2 f) (C.ct f) (vs ++ []) H1 _ E0
     rw [List.append_nil]
     refine ⟨O,ds,by rw [hl,len_of k4],(R.mono s1).own,i1,wd.2.1,fun d r=>?_,fun x hx=>ok.E x (wd.2.2.2 x hx)⟩
     unfold Rw
     rw [if_neg (by rw [wd.1.1.1];decide),if_pos wd.1.1.2]
     refine ⟨fun rows a as H' e s2 h0 t=>?_,fun hn=>?_⟩
     rotate_left
     ·obtain ⟨rows',e',_⟩:=wd.2.2.1 _ r
      rw [e'] at hn
      exact Bool.noConfusion hn
     obtain ⟨rows',e',nx⟩:=wd.2.2.1 _ r
     rw [e] at e'
     have e':=rowsD_inj e'
     subst e'
     have old:∀ b,H1 b=none->H b=none:=fun b h=>by
      cases q:H b with
      | none=>rfl
      | some o=>rw [s1 b o q] at h;cases h
     exact put_newT g R (s1.trans s2) ⟨old _ h0.1,fun b hb=>old _ (h0.2 b hb)⟩ t wd.1.2 nx
 | .ownG i e,st,h=>by
   rw [chkS] at h
   replace h:=opt_any h
   obtain ⟨⟨ts,v⟩,ha,h⟩:=h
   obtain ⟨pos,rfl⟩:=asAsg_ ha
   replace h:=opt_any h
   obtain ⟨t,ht,h⟩:=h
   have et:=sole_ ht
   simp only at et
   subst et
   replace h:=opt_any h
   obtain ⟨x,hx,h⟩:=h
   obtain ⟨p,rfl⟩:=asName_ hx
   simp only [Bool.and_eq_true] at h
   obtain ⟨⟨h0,hfr⟩,he⟩:=h
   obtain ⟨h1,h2,h3,h4⟩:=ok.vis h0
   have key:∀ (D:Ends) (τ:L2.St) (H:Hp),tS X.K C O₀ H₀ ex (.ownG i e) D τ H->tDG X.K C e τ H fun u H'=>D.nx (τ.set i (some u)) H':=fun D τ H w=>by
    obtain ⟨σ,O,g,R,w⟩:=w
    unfold wpS at w
    refine ⟨σ,O,R.toReps,wpG_mono (fun rows nx rows' a as H1 e' s1 h0 t=>?_) w.2⟩
    have e':=rowsD_inj e'
    subst e'
    exact put_newT g R s1 h0 t w.1 nx
   obtain ⟨y,py,iter,elt,sc,ps,wi,b',rfl,hck,hpi,hfo,hel,hco⟩:=gcomp ok.toOk e v hfr he
   obtain ⟨b,hb⟩:=swaps_comp (elt:=elt) (gs:=[⟨.Name y py,iter,[],0⟩]) (sc:=sc) (pos:=ps) (py:=p) (y:=x) pos.line X.env
   cases b with
   | false=>exact PS.imp key (ps_set ok.nd h1 h2 (sG ok.toOk e _ hfr he) hb (.inl (ok.fn _)))
   | true =>
     intro pins s τ H D I w
     obtain ⟨cl,co⟩:=ok.toOk.comp hck I.ok
     exact ps_comp ok.calm ok.nd (ok.toOk.comp_nE hck) co hpi (fun _ _ _ _=>pts_nil) (hel cl co) hfo hb h1 h2 (.inl (ok.fn _)) pins s τ H D I (hco τ H _ (key D τ H w))
 | .tabO j i e,st,h=>by
   rw [chkS] at h
   replace h:=opt_any h
   obtain ⟨⟨ts,v⟩,ha,h⟩:=h
   obtain ⟨pos,rfl⟩:=asAsg_ ha
   replace h:=opt_any h
   obtain ⟨t,ht,h⟩:=h
   have et:=sole_ ht
   simp only at et
   subst et
   replace h:=opt_any h
   obtain ⟨x,hx,h⟩:=h
   obtain ⟨p,rfl⟩:=asName_ hx
   simp only [Bool.and_eq_true] at h
   obtain ⟨⟨h0,hfr⟩,he⟩:=h
   obtain ⟨h1,h2,h3,h4⟩:=ok.vis h0
   have key:∀ (D:Ends) (τ:L2.St) (H:Hp),tS X.K C O₀ H₀ ex (.tabO j i e) D τ H->tDG X.K C e τ H fun u H'=>D.nx (τ.set i (some u)) H':=fun D τ H w=>by
    obtain ⟨σ,O,g,R,w⟩:=w
    unfold wpS at w
    rcases oc_of w with ⟨ds,gs,w⟩ | ⟨rs,gs,w⟩
    rotate_left
    ·obtain ⟨ad,as,e1,tt,dj⟩:=R.tt.1 j rs gs
     refine ⟨_,_,R.toReps.shareT gs e1 tt dj,wpG_mono (fun rows nx rows' b bs H1 e' s1 h0 t=>?_) w⟩
     have e':=rowsD_inj e'
     subst e'
     have nb:∀ c ∈ b :: bs,c ∉ O:=fun c hc z=>by
      rcases List.mem_cons.mp hc with rfl | hc
      ·exact R.own _ z h0.1
      ·exact R.own _ z (h0.2 c hc)
     have is:Is X.K (minus H1 O) (rowsD rows) (.ref b):=by
      have rw2:Rws X.K O H1 rows bs:=by
       refine Rws.nol (O:=b :: bs ++ lessT O (ad :: as)) (fun c hc nc=>(tt.mono s1).isL c hc fun z=>nc (List.mem_append_right _ z)) t.rw nx.1
      refine lst_is (SqL.of ?_) (rw2.iss (Same.refl _) fun c hc=>nb c (List.mem_cons_of_mem _ hc))
      rw [minus_at (nb b (List.mem_cons_self ..))];exact t.top
     exact nx.2 _ H1 O (g.mono s1) (minus_mono s1) ((R.mono s1).set is)
    obtain ⟨a,vs,e1,e2,e3,e4⟩:=R.ow j ds gs
    refine ⟨_,_,R.toReps.share gs e1 e3 e4,wpG_mono (fun rows nx rows' b bs H1 e' s1 h0 t=>?_) w⟩
    have e':=rowsD_inj e'
    subst e'
    have nb:∀ c ∈ b :: bs,c ∉ O:=fun c hc z=>by
     rcases List.mem_cons.mp hc with rfl | hc
     ·exact R.own _ z h0.1
     ·exact R.own _ z (h0.2 c hc)
    have ha1:=s1 _ _ e3
    have is:Is X.K (minus H1 O) (rowsD rows) (.ref b):=by
     have rw2:Rws X.K O H1 rows bs:=by
      refine Rws.nol (O:=b :: bs ++ less O a) (fun c hc nc=>?_) t.rw nx.1
      have:c=a:=Classical.byContradiction fun z=>nc (List.mem_append_right _ (mem_less.mpr ⟨hc,z⟩))
      rw [this];exact ⟨vs,ha1⟩
     refine lst_is (SqL.of ?_) (rw2.iss (Same.refl _) fun c hc=>nb c (List.mem_cons_of_mem _ hc))
     rw [minus_at (nb b (List.mem_cons_self ..))];exact t.top
    exact nx.2 _ H1 O (g.mono s1) (minus_mono s1) ((R.mono s1).set is)
   obtain ⟨y,py,iter,elt,sc,ps,wi,b',rfl,hck,hpi,hfo,hel,hco⟩:=gcomp ok.toOk e v hfr he
   obtain ⟨b,hb⟩:=swaps_comp (elt:=elt) (gs:=[⟨.Name y py,iter,[],0⟩]) (sc:=sc) (pos:=ps) (py:=p) (y:=x) pos.line X.env
   cases b with
   | false=>exact PS.imp key (ps_set ok.nd h1 h2 (sG ok.toOk e _ hfr he) hb (.inl (ok.fn _)))
   | true =>
     intro pins s τ H D I w
     obtain ⟨cl,co⟩:=ok.toOk.comp hck I.ok
     exact ps_comp ok.calm ok.nd (ok.toOk.comp_nE hck) co hpi (fun _ _ _ _=>pts_nil) (hel cl co) hfo hb h1 h2 (.inl (ok.fn _)) pins s τ H D I (hco τ H _ (key D τ H w))
 | .app2 i e v,st,h=>by
   rw [chkS] at h
   replace h:=opt_any h
   obtain ⟨z,hz,h⟩:=h
   obtain ⟨pos,rfl⟩:=asExp_ hz
   replace h:=opt_any h
   obtain ⟨⟨fe,xs,ks,cp⟩,hc,h⟩:=h
   have ee:=asCall_ hc
   subst ee
   simp only [Bool.and_eq_true,decide_eq_true_eq,List.isEmpty_iff] at h
   obtain ⟨⟨⟨hk,hl1⟩,hat⟩,hv⟩:=h
   replace hat:=opt_any hat
   obtain ⟨⟨ob,at',ap⟩,hy,hat⟩:=hat
   have ee:=asAttr_ hy
   subst ee
   simp only [Bool.and_eq_true,decide_eq_true_eq] at hat
   obtain ⟨⟨ha1,ha2⟩,ha3⟩:=hat
   subst ha1 hk
   replace ha2:=opt_any ha2
   obtain ⟨⟨ob2,ix⟩,hx,ha2⟩:=ha2
   obtain ⟨p2,rfl⟩:=asSub_ hx
   simp only [Bool.and_eq_true,Bool.not_eq_true'] at ha2
   obtain ⟨⟨hsl,hloc⟩,he⟩:=ha2
   replace hloc:=opt_any hloc
   obtain ⟨x,hn,hloc⟩:=hloc
   obtain ⟨q,rfl⟩:=asName_ hn
   match xs,hl1,hv with
   | [y],_,hv =>
     have hv:chkE k v y=true:=hv
     obtain ⟨h1,h2,h3,h4⟩:=ok.vis hloc
     refine PS.imp (fun D τ H w=>?_) (ps_expr (pe_bm PySem.F.plainAttrs_list PySem.F.slot_list_append PySem.F.type_list_append mt_append (pe_ix ix_list (pe_var h1 (loc_vis h2) h3 h4) (sB ok.toOk e ix he).1 (ixPlain hsl)) (pa_cons (sB ok.toOk v y hv).1 pa_nil (star_of hv _ _)) rfl (by rw [star_of hv];rfl) ha3 (star_of hv _ _) rfl))
     obtain ⟨σ,O,g,R,w⟩:=w
     unfold wpS at w
     obtain ⟨rows,gs,w⟩:=tab_of w
     obtain ⟨a,as,e1,t,_⟩:=R.tt.1 i rows gs
     refine ⟨.ref a,e1,σ,O,R.toReps,wpE_mono e (fun kd wk kv H1 s1 i1=>?_) w⟩
     cases kd <;> first | exact wk.elim | skip
     next n =>
     cases is_int i1
     obtain ⟨row,⟨n0,hr,hl⟩,wv⟩:=wk
     obtain ⟨b,us,hb,e3,e4⟩:=t.rw.get hr
     have hbl:n.toNat < as.length:=by
      rcases Nat.lt_or_ge n.toNat as.length with z | z
      ·exact z
      ·rw [List.getElem?_eq_none z] at hb;cases hb
     refine ⟨a,as.map V.ref,n,.ref b,rfl,rfl,SqL.of (s1 _ _ t.top),?_,.inl ⟨rfl,us,SqL.of (s1 _ _ e3)⟩,σ,O,(R.mono s1).toReps,wpE_mono v (fun d wd u H2 s2 i2=>?_) wv⟩
     ·unfold atI ixN
      rw [if_pos n0,if_pos (by rw [List.length_map];omega)]
      show (as.map V.ref)[n.toNat]?=_
      rw [List.getElem?_map,hb];rfl
     have s12:=s1.trans s2
     have hl2:=e4.length
     refine ⟨b,us,u,rfl,rfl,s12 _ _ e3,by rw [sizeLine_eq];unfold lim at hl;omega,?_⟩
     have t2:=t.mono s12
     have hbO:=t.inO.2 b (List.mem_of_getElem? hb)
     have i3:Iss X.K (minus H2 O) (row ++ [d]) (us ++ [u]):=(Iss.mono (minus_mono s12) row e4).append (by unfold Iss;exact ⟨u,[],rfl,i2,by unfold Iss;rfl⟩)
     refine wd τ _ O ((g.mono s12).write hbO ((R.mineT i rows a as gs e1 t.top).2 b (List.mem_of_getElem? hb))) ?_ ((R.mono s12).rowT gs e1 t2 hb i3)
     rw [minus_write hbO]
     exact minus_mono s12
 | .appN i,st,h=>by
   rw [chkS] at h
   replace h:=opt_any h
   obtain ⟨z,hz,h⟩:=h
   obtain ⟨pos,rfl⟩:=asExp_ hz
   replace h:=opt_any h
   obtain ⟨⟨fe,xs,ks,cp⟩,hc,h⟩:=h
   have ee:=asCall_ hc
   subst ee
   simp only [Bool.and_eq_true,decide_eq_true_eq,List.isEmpty_iff] at h
   obtain ⟨⟨⟨hk,hl1⟩,hat⟩,hv⟩:=h
   replace hat:=opt_any hat
   obtain ⟨⟨ob,at',ap⟩,hy,hat⟩:=hat
   have ee:=asAttr_ hy
   subst ee
   simp only [Bool.and_eq_true,decide_eq_true_eq] at hat
   obtain ⟨⟨ha1,ha2⟩,ha3⟩:=hat
   subst ha1 hk
   replace ha2:=opt_any ha2
   obtain ⟨x,hx,hloc⟩:=ha2
   obtain ⟨q,rfl⟩:=asName_ hx
   match xs,hl1,hv with
   | [y],_,hv =>
     obtain ⟨es,hes,hv⟩:=opt_any hv
     have ee:es=[]:=by simpa using hv
     subst ee
     have hes':asLst y=some []:=hes
     obtain ⟨lp,e2⟩:=asLst_ hes'
     subst e2
     obtain ⟨h1,h2,h3,h4⟩:=ok.vis hloc
     refine PS.imp (fun D τ H w=>?_) (ps_expr (pe_bm PySem.F.plainAttrs_list PySem.F.slot_list_append PySem.F.type_list_append mt_append (pe_var h1 (loc_vis h2) h3 h4) (pa_cons (pe_lst pa_nil) pa_nil rfl) rfl rfl ha3 rfl rfl))
     obtain ⟨σ,O,g,R,w⟩:=w
     unfold wpS at w
     obtain ⟨rows,gs,hl,w⟩:=tab_of w
     obtain ⟨a,as,e1,t,_⟩:=R.tt.1 i rows gs
     refine ⟨.ref a,e1,.inl ⟨rfl,_,SqL.of t.top⟩,by decide,fun l hl0=>?_⟩
     have s1:Same H (upd H l (.lst [])):=same_upd hl0 _
     have len:=t.rw.len
     refine ⟨a,as.map V.ref,.ref l,rfl,rfl,s1 _ _ t.top,by rw [sizeLine_eq,List.length_map];unfold lim at hl;omega,?_⟩
     obtain ⟨R2,s2⟩:=R.growT g.sub gs e1 t hl0
     have e:(as ++ [l]).map V.ref=as.map V.ref ++ [.ref l]:=by simp
     rw [e] at R2 s2
     exact w τ _ (l :: O) ((g.fresh s1 hl0).write (List.mem_cons_of_mem _ t.inO.1) (R.mineT i rows a as gs e1 t.top).1) s2 R2
 | .forT j i ss,st,h=>by
   rw [chkS] at h
   replace h:=opt_any h
   obtain ⟨⟨tg,it,body,oe⟩,hz,h⟩:=h
   obtain ⟨pos,rfl⟩:=asFor_ hz
   replace h:=opt_any h
   obtain ⟨x,hxn,h⟩:=h
   obtain ⟨p,e1⟩:=asName_ hxn
   clear hxn
   simp only at e1
   subst e1
   replace h:=opt_any h
   obtain ⟨y,hyn,h⟩:=h
   obtain ⟨q,e1⟩:=asName_ hyn
   clear hyn
   simp only at e1
   subst e1
   simp only [Bool.and_eq_true,decide_eq_true_eq,List.isEmpty_iff] at h
   obtain ⟨⟨⟨⟨he,hx⟩,hy⟩,hij⟩,hb⟩:=h
   subst he
   obtain ⟨h1,h2,h3,h4⟩:=ok.vis hx
   obtain ⟨h5,h6,h7,h8⟩:=ok.vis hy
   intro pins s τ H D I w
   refine ps_for (by rw [ok.xe];exact PassesOwn.never) ok.calm (pi_seq (pe_var h5 (loc_vis h6) h7 h8)) (pg_name ok.nd h1 h2 (.inl (ok.fn _))) (sRs (O₀:=O₀) (H₀:=H₀) (i:=i) (j:=j) ok ss body hb) (fun _=>rfl) pins s τ H D I ?_
   obtain ⟨σ,O,g,R,w⟩:=w
   unfold wpS at w
   obtain ⟨rows,gs,w⟩:=tab_of w
   obtain ⟨a,as,e1,t,_⟩:=R.tt.1 i rows gs
   have hjl:j < σ.length:=by
    rw [R.len,I.len]
    exact (List.getElem?_eq_some_iff.mp h1).1
   exact ⟨.ref a,e1,_,.inl ⟨a,rfl,.inl ⟨⟨_,SqL.of t.top⟩,rfl⟩⟩,forT_turns hij hjl g R gs e1 t w⟩
 | .shrT _,_,h=>by rw [chkS] at h;cases h
 | .hlfT _,_,h=>by rw [chkS] at h;cases h
theorem sK (ok:OkS X k C):∀ (s:Sm) (st:List Stmt),chkB k s st=true->PSs X st (tS X.K C O₀ H₀ ex s)
 | .nop,st,h=>by
   have e:st=[]:=by rw [chkB] at h;simpa using h
   subst e
   refine PSs.imp (fun D τ H w=>?_) pss_nil
   obtain ⟨σ,O,g,R,w⟩:=w
   unfold wpS at w
   exact w τ H O g (Same.refl _) R
 | .seq a b,st,h=>by
  by_cases hs:isShr a=true
  ·refine PSs.imp (fun D τ H w=>?_) (sK ok b st (chkB_shr hs h))
   obtain ⟨i,e⟩:=isShr_ hs
   obtain ⟨σ,O,g,R,w⟩:=w
   unfold wpS at w
   rcases e with rfl | rfl | rfl
   rotate_left
   ·unfold wpS at w
    obtain ⟨rows,gs,w⟩:=tab_of w
    obtain ⟨a,as,e1,t,dj⟩:=R.tt.1 i rows gs
    have m:=R.mineT i rows a as gs e1 t.top
    exact ⟨_,_,g.shareT (fun b hb=>(List.mem_cons.mp hb).elim (fun z=>by rw [z];exact m.1) (m.2 b)),R.shareT gs e1 t dj,wpS_mono b (lift_le (minus_less fun x hx=>(mem_lessT.mp hx).1)) w⟩
   ·unfold wpS at w
    rcases oc_of w with ⟨ds,_,w⟩ | ⟨rows,gs,w⟩
    ·exact ⟨_,_,g,R,w⟩
    obtain ⟨a,as,e1,t,dj⟩:=R.tt.1 i rows gs
    have m:=R.mineT i rows a as gs e1 t.top
    exact ⟨_,_,g.shareT m.2,R.halfT gs e1 t dj,wpS_mono b (lift_le (minus_less fun x hx=>(mem_lessT.mp hx).1)) w⟩
   unfold wpS at w
   cases gs:getS σ i with
   | none=>rw [gs] at w;exact w.elim
   | some u =>
     rw [gs] at w
     cases u with
     | sh d=>exact w.elim
     | ot _=>exact w.elim
     | ow ds =>
       obtain ⟨a,vs,e1,e2,e3,e4⟩:=R.ow i ds gs
       exact ⟨_,_,g.share (R.mine i ds a gs e1),R.share gs e1 e3 e4,wpS_mono b (lift_le (minus_less fun x hx=>(mem_less.mp hx).1)) w⟩
  ·have hs:isShr a=false:=by simpa using hs
   obtain ⟨s,r,rfl,h1,h2⟩:=chkB_cons hs h
   refine PSs.imp (fun D τ H w=>?_) (pss_cons (sS ok a s h1) (sK ok b r h2))
   obtain ⟨σ,O,g,R,w⟩:=w
   unfold wpS at w
   refine ⟨σ,O,g,R,wpS_mono a ?_ w⟩
   exact ⟨fun σ' q τ' H' O' g' s' r'=>⟨σ',O',g',r',wpS_mono b (lift_le s') q⟩,fun _ q=>q,fun _ q=>q,fun _ q=>q,fun _ q=>q,fun _ q=>q,fun _ q=>q⟩
 | .set _ _,_,h=>by simp [chkB] at h
 | .unp _ _,_,h=>by simp [chkB] at h
 | .ret _,_,h=>by simp [chkB] at h
 | .ite _ _ _,_,h=>by simp [chkB] at h
 | .whl _ _,_,h=>by simp [chkB] at h
 | .forR _ _ _,_,h=>by simp [chkB] at h
 | .forE _ _ _,_,h=>by simp [chkB] at h
 | .brk,_,h=>by simp [chkB] at h
 | .cnt,_,h=>by simp [chkB] at h
 | .never,_,h=>by simp [chkB] at h
 | .new _,_,h=>by simp [chkB] at h
 | .app _ _,_,h=>by simp [chkB] at h
 | .sto _ _ _,_,h=>by simp [chkB] at h
 | .shr _,_,h=>by simp [chkB] at h
 | .setF _ _ _,_,h=>by simp [chkB] at h
 | .retO _,_,h=>by simp [chkB] at h
 | .retG _,_,h=>by simp [chkB] at h
 | .setG _ _ _,_,h=>by simp [chkB] at h
 | .ownG _ _,_,h=>by simp [chkB] at h
 | .app2 _ _ _,_,h=>by simp [chkB] at h
 | .tabO _ _ _,_,h=>by simp [chkB] at h
 | .appN _,_,h=>by simp [chkB] at h
 | .forT _ _ _,_,h=>by simp [chkB] at h
 | .shrT _,_,h=>by simp [chkB] at h
 | .hlfT _,_,h=>by simp [chkB] at h
 | .ext _ _,_,h=>by simp [chkB] at h
 | .forN _ _ _,_,h=>by simp [chkB] at h
 | .st2 _ _ _ _,_,h=>by simp [chkB] at h
 | .retF _,_,h=>by simp [chkB] at h
end
end
end Z
namespace Z
open PySem PySem.Spec PySem.Calls PyProof.Rows PySem.W L2
theorem alone_ok {P:Program} {w:World} {K:Frag} {mg:Str->Option Value} {base:Heap} {CX:CXT} {x:Str} {st:Stmt} {f:Addr} {fd:FuncData} (F:Fun K x x st f fd) (S:FnScope ["_law_e","_law_flags"] ["_law_e"] (defScope st))
 (l0:(defScope st).names.lookup ("_law_e":Str)=some .local) (l1:(defScope st).names.lookup ("_law_flags":Str)=some .local)
 (gl:∀ c ∈ ("isinstance":Str) :: ("TrueError":Str) :: ("ValueError":Str) :: names12,(defScope st).names.lookup c=some .globalImplicit) (hb:aloneOk (defBody st)=true):FnOk P w K mg base CX 1 f fd ["_law_e"] (spA K mg):=by
 obtain ⟨oc,od,kV,doc,pm,an,cdv,ct,osl,rfl,lk,hcd⟩:=F.ex
 refine fn_of (k:=0) lk hcd S (fun vs H Q E h=>by obtain ⟨y,D,ea,oe,u,_,rfl,_⟩:=h;rfl) fun A outer s H vs Q E hr h=>?_
 obtain ⟨y,D,ea,oe,u,af,rfl,he,hc,q⟩:=h
 have ax:AX (cxOf CX P w K mg base ["_law_e","_law_flags"] x (defScope st) f cdv A outer s H E):=⟨rfl,rfl,S.nd,l0,l1,fun c hc=>gl c hc,fun _=>rfl⟩
 exact ⟨_,pss_alone (D:=D) (y:=y) ax af (show 1 < 2 by decide) hb,⟨ea,oe,u,rfl,he,hc⟩,rfl,q⟩
structure Alone (X:Cx):Prop where
 fn:∃ f fd,FnOk X.prog X.w X.K X.mg X.base (CXz X.prog X.w X.mg) 1 f fd ["_law_e"] (spA X.K X.mg) /\ X.mg "_law_alone"=some (.ref f) /\ PySem.W.keepIn X.K (.ref f)=true /\ Binds X.K fd ["_law_e"] []
 rm:X.A.depth + 3 * 1 + 5 < recursionLimit /\ X.A.units + 16 * 1 + 200 < cLine
 int:X.mg "int"=none
section
variable {X:Cx} {D:Addr} {y:Str} {i:Nat}
end
end Z
namespace Z
open PySem PySem.Spec PySem.Calls PyProof.Rows PySem.W L2
section
variable {X:Cx} {pins:List (Addr × Obj)} {σ:L2.St} {H:Hp} {s:Shared}
theorem ps_nox {st:Stmt} {t:TS} (h:PS X.nox st t):PS X st t:=fun pins s σ H D I hw =>
 wpAny_mono (h pins s σ H D (I.wish _) hw) (fun f s' z=>z.unwish) fun _ _ z=>z.elim
end
mutual
noncomputable def chkX (k:Ck):Sm->Stmt->Bool
 | .ite c a b,s=>(asIfS s).any fun z=>chkE k c z.1 && chkXB k a z.2.1 && chkXB k b z.2.2
 | .nop,_=>false
 | .seq _ _,_=>false
 | .shr _,_=>false
 | .set i e,s=>chkS k (.set i e) s
 | .unp i e,s=>chkS k (.unp i e) s
 | .ret e,s=>chkS k (.ret e) s
 | .whl c b,s=>chkS k (.whl c b) s
 | .forR i e b,s=>chkS k (.forR i e b) s
 | .forE i e b,s=>chkS k (.forE i e b) s
 | .brk,s=>chkS k .brk s
 | .cnt,s=>chkS k .cnt s
 | .never,s=>chkS k .never s
 | .new i,s=>chkS k (.new i) s
 | .app i e,s=>chkS k (.app i e) s
 | .ext i e,s=>chkS k (.ext i e) s
 | .sto i e v,s=>chkS k (.sto i e v) s
 | .setF i f e,s=>chkS k (.setF i f e) s
 | .retO i,s=>chkS k (.retO i) s
 | .forN i e b,s=>chkS k (.forN i e b) s
 | .st2 i a b v,s=>chkS k (.st2 i a b v) s
 | .retF e,s=>chkS k (.retF e) s
 | .retG e,s=>chkS k (.retG e) s
 | .setG i f e,s=>chkS k (.setG i f e) s
 | .ownG i e,s=>chkS k (.ownG i e) s
 | .app2 i e v,s=>chkS k (.app2 i e v) s
 | .tabO j i e,s=>chkS k (.tabO j i e) s
 | .appN i,s=>chkS k (.appN i) s
 | .forT j i e,s=>chkS k (.forT j i e) s
 | .shrT _,_=>false
 | .hlfT _,_=>false
noncomputable def chkXB (k:Ck):Sm->List Stmt->Bool
 | .nop,ss=>ss.isEmpty
 | .seq a b,ss=>!ss.isEmpty && chkX k a (ss.getD 0 (.Pass ⟨0,0,0,0⟩)) && chkXB k b (ss.drop 1)
 | _,_=>false
end
structure OkX (X:Cx) (k:Ck) (C:Cfg) (H₀:Hp) (ex:Str->Prop):Prop where
 ok:OkS X.nox k C
 own:Own X
 thr:∀ x Ca,ex x->X.mg x=some (.ref Ca)->∀ pins σ H s e s',Inv X pins σ H s->Same H₀ H->Thrown X.prog X.w Ca X.stack H s e s'->X.xe e s'
 raz:k.rs=true->∀ x Ca,ex x->X.mg x=some (.ref Ca)->∀ pins σ H s h1 e args,Inv X pins σ H s->Same H₀ H->Heap.MadeExcOf s.heap h1 e (.ref Ca) args->X.xe (.ref e) { s with heap:=h1 }
 exc:∀ x ∈ k.cls,∃ Ca,X.mg x=some (.ref Ca) /\ excIn X.K Ca bmV newV=true /\ (k.al=true->AloneF X.K X.mg x Ca)
 al:k.al=true->Alone X
section
variable {k:Ck} {C:Cfg} {O₀:List Addr} {H₀:Hp}
mutual
theorem sX:∀ {X:Cx} {k:Ck} {ex:Str->Prop} (ok:OkX X k C H₀ ex) (s:Sm) (st:Stmt),chkX k s st=true->PS X st (tS X.K C O₀ H₀ ex s)
 | X,k,ex,ok,.ite c a b,st,h=>by
   rw [chkX] at h
   replace h:=opt_any h
   obtain ⟨⟨t,x,y⟩,hz,h⟩:=h
   obtain ⟨pos,rfl⟩:=asIfS_ hz
   simp only [Bool.and_eq_true] at h
   refine PS.imp (fun D τ H w=>?_) (ps_if (sB ok.ok.toOk c t h.1.1).2.nox (sXB ok a x h.1.2) (sXB ok b y h.2))
   obtain ⟨σ,O,g,R,w⟩:=w
   unfold wpS at w
   refine ⟨σ,O,R.toReps,wpE_mono c (fun d=>isB_mono fun t wt H1 s1=>?_) w⟩
   cases t with
   | true=>exact ⟨σ,O,g.mono s1,R.mono s1,wpS_mono a (lift_le (minus_mono s1)) wt⟩
   | false=>exact ⟨σ,O,g.mono s1,R.mono s1,wpS_mono b (lift_le (minus_mono s1)) wt⟩
 | X,k,ex,ok,.nop,st,h=>by rw [chkX] at h;cases h
 | X,k,ex,ok,.seq a b,st,h=>by rw [chkX] at h;cases h
 | X,k,ex,ok,.shr i,st,h=>by rw [chkX] at h;cases h
 | X,k,ex,ok,.set i e,st,h=>by rw [chkX] at h;exact ps_nox (sS ok.ok _ st h)
 | X,k,ex,ok,.unp i e,st,h=>by rw [chkX] at h;exact ps_nox (sS ok.ok _ st h)
 | X,k,ex,ok,.ret e,st,h=>by rw [chkX] at h;exact ps_nox (sS ok.ok _ st h)
 | X,k,ex,ok,.whl c b,st,h=>by rw [chkX] at h;exact ps_nox (sS ok.ok _ st h)
 | X,k,ex,ok,.forR i e b,st,h=>by rw [chkX] at h;exact ps_nox (sS ok.ok _ st h)
 | X,k,ex,ok,.forE i e b,st,h=>by rw [chkX] at h;exact ps_nox (sS ok.ok _ st h)
 | X,k,ex,ok,.brk,st,h=>by rw [chkX] at h;exact ps_nox (sS ok.ok _ st h)
 | X,k,ex,ok,.cnt,st,h=>by rw [chkX] at h;exact ps_nox (sS ok.ok _ st h)
 | X,k,ex,ok,.never,st,h=>by rw [chkX] at h;exact ps_nox (sS ok.ok _ st h)
 | X,k,ex,ok,.new i,st,h=>by rw [chkX] at h;exact ps_nox (sS ok.ok _ st h)
 | X,k,ex,ok,.app i e,st,h=>by rw [chkX] at h;exact ps_nox (sS ok.ok _ st h)
 | X,k,ex,ok,.ext i e,st,h=>by rw [chkX] at h;exact ps_nox (sS ok.ok _ st h)
 | X,k,ex,ok,.sto i e v,st,h=>by rw [chkX] at h;exact ps_nox (sS ok.ok _ st h)
 | X,k,ex,ok,.setF i f e,st,h=>by rw [chkX] at h;exact ps_nox (sS ok.ok _ st h)
 | X,k,ex,ok,.retO i,st,h=>by rw [chkX] at h;exact ps_nox (sS ok.ok _ st h)
 | X,k,ex,ok,.forN i e b,st,h=>by rw [chkX] at h;exact ps_nox (sS ok.ok _ st h)
 | X,k,ex,ok,.st2 i a b v,st,h=>by rw [chkX] at h;exact ps_nox (sS ok.ok _ st h)
 | X,k,ex,ok,.retF e,st,h=>by rw [chkX] at h;exact ps_nox (sS ok.ok _ st h)
 | X,k,ex,ok,.retG e,st,h=>by rw [chkX] at h;exact ps_nox (sS ok.ok _ st h)
 | X,k,ex,ok,.setG i f e,st,h=>by rw [chkX] at h;exact ps_nox (sS ok.ok _ st h)
 | X,k,ex,ok,.ownG i e,st,h=>by rw [chkX] at h;exact ps_nox (sS ok.ok _ st h)
 | X,k,ex,ok,.app2 i e v,st,h=>by rw [chkX] at h;exact ps_nox (sS ok.ok _ st h)
 | X,k,ex,ok,.tabO j i e,st,h=>by rw [chkX] at h;exact ps_nox (sS ok.ok _ st h)
 | X,k,ex,ok,.appN i,st,h=>by rw [chkX] at h;exact ps_nox (sS ok.ok _ st h)
 | X,k,ex,ok,.forT j i e,st,h=>by rw [chkX] at h;exact ps_nox (sS ok.ok _ st h)
 | X,k,ex,ok,.shrT i,st,h=>by rw [chkX] at h;cases h
 | X,k,ex,ok,.hlfT i,st,h=>by rw [chkX] at h;cases h
theorem sXB:∀ {X:Cx} {k:Ck} {ex:Str->Prop} (ok:OkX X k C H₀ ex) (s:Sm) (st:List Stmt),chkXB k s st=true->PSs X st (tS X.K C O₀ H₀ ex s)
 | X,k,ex,ok,.nop,st,h=>by
   have e:st=[]:=by rw [chkXB] at h;simpa using h
   subst e
   refine PSs.imp (fun D τ H w=>?_) pss_nil
   obtain ⟨σ,O,g,R,w⟩:=w
   unfold wpS at w
   exact w τ H O g (Same.refl _) R
 | X,k,ex,ok,.seq a b,st,h=>by
   rw [chkXB] at h
   cases st with
   | nil=>simp at h
   | cons s r =>
     simp only [Bool.and_eq_true,List.drop_succ_cons,List.drop_zero] at h
     refine PSs.imp (fun D τ H w=>?_) (pss_cons (sX ok a s h.1.2) (sXB ok b r h.2))
     obtain ⟨σ,O,g,R,w⟩:=w
     unfold wpS at w
     refine ⟨σ,O,g,R,wpS_mono a ?_ w⟩
     exact ⟨fun σ' q τ' H' O' g' s' r'=>⟨σ',O',g',r',wpS_mono b (lift_le s') q⟩,fun _ q=>q,fun _ q=>q,fun _ q=>q,fun _ q=>q,fun _ q=>q,fun _ q=>q⟩
 | X,k,ex,ok,.set _ _,_,h=>by simp [chkXB] at h
 | X,k,ex,ok,.unp _ _,_,h=>by simp [chkXB] at h
 | X,k,ex,ok,.ret _,_,h=>by simp [chkXB] at h
 | X,k,ex,ok,.ite _ _ _,_,h=>by simp [chkXB] at h
 | X,k,ex,ok,.whl _ _,_,h=>by simp [chkXB] at h
 | X,k,ex,ok,.forR _ _ _,_,h=>by simp [chkXB] at h
 | X,k,ex,ok,.forE _ _ _,_,h=>by simp [chkXB] at h
 | X,k,ex,ok,.brk,_,h=>by simp [chkXB] at h
 | X,k,ex,ok,.cnt,_,h=>by simp [chkXB] at h
 | X,k,ex,ok,.never,_,h=>by simp [chkXB] at h
 | X,k,ex,ok,.new _,_,h=>by simp [chkXB] at h
 | X,k,ex,ok,.app _ _,_,h=>by simp [chkXB] at h
 | X,k,ex,ok,.ext _ _,_,h=>by simp [chkXB] at h
 | X,k,ex,ok,.sto _ _ _,_,h=>by simp [chkXB] at h
 | X,k,ex,ok,.shr _,_,h=>by simp [chkXB] at h
 | X,k,ex,ok,.setF _ _ _,_,h=>by simp [chkXB] at h
 | X,k,ex,ok,.retO _,_,h=>by simp [chkXB] at h
 | X,k,ex,ok,.forN _ _ _,_,h=>by simp [chkXB] at h
 | X,k,ex,ok,.st2 _ _ _ _,_,h=>by simp [chkXB] at h
 | X,k,ex,ok,.retF _,_,h=>by simp [chkXB] at h
 | X,k,ex,ok,.retG _,_,h=>by simp [chkXB] at h
 | X,k,ex,ok,.setG _ _ _,_,h=>by simp [chkXB] at h
 | X,k,ex,ok,.ownG _ _,_,h=>by simp [chkXB] at h
 | X,k,ex,ok,.app2 _ _ _,_,h=>by simp [chkXB] at h
 | X,k,ex,ok,.tabO _ _ _,_,h=>by simp [chkXB] at h
 | X,k,ex,ok,.appN _,_,h=>by simp [chkXB] at h
 | X,k,ex,ok,.forT _ _ _,_,h=>by simp [chkXB] at h
 | X,k,ex,ok,.shrT _,_,h=>by simp [chkXB] at h
 | X,k,ex,ok,.hlfT _,_,h=>by simp [chkXB] at h
end
end
end Z
namespace Z
open PySem PySem.Spec PyProof.Rows L2
structure FnI where
 x:Str
 st:Stmt
 N:List Str
 ps:List Str
 b:Sm
 c:Ctr
 fr:Bool:=false
 rz:Bool:=false
 cls:List Str:=[]
 al:Bool:=true
 g:Bool:=false
def FnI.Keep (i:FnI) (C:Cfg):Prop:=if i.rz=true then i.fr=false /\ (if i.g=true then KeepsQ C i.N.length i.b i.c else KeepsX C i.N.length i.b i.c) else if i.fr=true then KeepsF C i.N.length i.b i.c else if i.g=true then KeepsG C i.N.length i.b i.c else Keeps C i.N.length i.b i.c
def FnI.ck (i:FnI) (L:List FnI) (cns:List Str):Ck:={ N:=i.N,names:=(defScope i.st).names,fns:=L.map fun j=>(j.x,j.ps.length),cns:=cns,cls:=i.cls,rz:=i.rz,rs:=i.rz,al:=i.al }
def scopeOk (i:FnI):Bool :=
 decide ((defScope i.st).kind=.function) && !(defScope i.st).isCoroutine && !(defScope i.st).isGenerator && decide i.N.Nodup && decide (i.N.take i.ps.length=i.ps) &&
  i.ps.all (fun x=>decide ((defScope i.st).names.lookup x=some .local) || decide ((defScope i.st).names.lookup x=some .cell)) && (defScope i.st).names.all fun y=>decide (y.2 ≠ .free)
theorem scope_of {i:FnI} (h:scopeOk i=true):FnScope i.N i.ps (defScope i.st):=by
 unfold scopeOk at h
 simp only [Bool.and_eq_true,decide_eq_true_eq,Bool.not_eq_true',List.all_eq_true,Bool.or_eq_true] at h
 obtain ⟨⟨⟨⟨⟨⟨h1,h2⟩,h3⟩,h4⟩,h5⟩,h6⟩,h7⟩:=h
 exact ⟨h1,h2,h3,h4,h5,h6,h7⟩
noncomputable def chkFn (i:FnI) (L:List FnI) (cns:List Str):Bool:=scopeOk i && if i.rz=true then chkXB (i.ck L cns) i.b (defBody i.st) else chkB (i.ck L cns) i.b (defBody i.st)
noncomputable def chkAll (L:List FnI) (cns:List Str):Bool:=(List.range L.length).all fun n=>match L[n]? with
 | some i=>chkFn i (L.take n) cns
 | none=>true
theorem chk_at {L:List FnI} {cns:List Str} (h:chkAll L cns=true) {n:Nat} {i:FnI} (e:L[n]?=some i):chkFn i (L.take n) cns=true:=by
 unfold chkAll at h
 rw [List.all_eq_true] at h
 have hn:n < L.length:=by
  rcases Nat.lt_or_ge n L.length with z | z
  ·exact z
  ·rw [List.getElem?_eq_none z] at e;cases e
 have:=h n (List.mem_range.mpr hn)
 rw [e] at this
 exact this
structure FnAt (K:PySem.W.Frag) (mg:Str->Option Value) (i:FnI) (f:Addr) (fd:FuncData):Prop where
 fn:Fun K i.x i.x i.st f fd
 mg:mg i.x=some (.ref f)
 bd:∀ us:List Value,us.length=i.ps.length->bindArgs fd ⟨us,[]⟩=pure (i.ps.zip us)
def FnFact (K:PySem.W.Frag) (mg:Str->Option Value) (i:FnI):Prop:=∃ f fd,FnAt K mg i f fd
section
variable {α:Type} {P:List α->Prop}
theorem len0 (k:P []):∀ us,us.length=0->P us
 | [],_=>k
theorem len1 (k:∀ a,P [a]):∀ us,us.length=1->P us
 | [a],_=>k a
theorem len2 (k:∀ a b,P [a,b]):∀ us,us.length=2->P us
 | [a,b],_=>k a b
theorem len3 (k:∀ a b c,P [a,b,c]):∀ us,us.length=3->P us
 | [a,b,c],_=>k a b c
theorem len4 (k:∀ a b c d,P [a,b,c,d]):∀ us,us.length=4->P us
 | [a,b,c,d],_=>k a b c d
end
theorem fact_mk {K:PySem.W.Frag} {h:Heap} {mg:Str->Option Value} {i:FnI} {f:Addr} {od an:Option Addr} {sl:Array (Option Value)} {oc kV dc pm cd ct:Value} (X:K.In h) (G:h.Ns mainGlobals mg)
 (b:∀ (kV doc pm:Value) (an:Option Addr) (cdv ct:Value) (us:List Value),us.length=i.ps.length->bindArgs (PySem.W.fnOf i.x i.x (defArgs i.st) (defBody i.st) (defScope i.st) .none kV doc pm an cdv ct) ⟨us,[]⟩=pure (i.ps.zip us))
 (a:PySem.W.nsIn K mainGlobals i.x=some (some (.ref f))) (l:K.lookup f=some ⟨oc,od,.func (PySem.W.fnOf i.x i.x (defArgs i.st) (defBody i.st) (defScope i.st) .none kV dc pm an cd ct),sl⟩) (c:PySem.W.codeIn K cd i.x=true) (k:PySem.W.keepIn K (.ref f)=true):FnFact K mg i :=
 ⟨f,_,fun_mk l c k,PySem.W.mg_of X G a,fun us h=>b kV dc pm an cd ct us h⟩
section
variable {P:Program} {w:World} {K:PySem.W.Frag} {mg:Str->Option Value} {base:Heap} {C:Cfg} {cns:List Str}
theorem start_noT:∀ (ds:List D) (j m:Nat) (rs:List (List D)),getS (startS m ds) j ≠ some (.ot rs):=by
 intro ds j m rs
 unfold startS
 generalize m - ds.length=r
 induction ds generalizing j with
 | nil =>
   have:∀ (m j:Nat),getS (List.replicate m none) j=none:=by
    intro m
    induction m with
    | zero=>intro j;rfl
    | succ m ih=>intro j;cases j with | zero=>rfl | succ j=>exact ih j
   simp only [List.map_nil,List.nil_append]
   rw [this];exact fun z=>nomatch z
 | cons e es ih =>
   cases j with
   | zero=>simp only [List.map_cons,List.cons_append,getS];exact fun z=>nomatch z
   | succ j=>simp only [List.map_cons,List.cons_append,getS];exact ih j
theorem start_reps {H:Hp} {O:List Addr} {n:Nat} {ds:List D} {vs:List V} {N:List Str} (hn:N.length=n) (ho:∀ a ∈ O,H a ≠ none) (i:Iss K (minus H O) ds vs):Reps K O H (startS n ds) (L2.start N vs) where
 len:=by
  unfold startS L2.start
  rw [List.length_append,List.length_append,List.length_map,List.length_map,List.length_replicate,List.length_replicate,i.length,hn]
 own:=ho
 sh:=fun j d g=>by
  have aux:∀ (ds:List D) (vs:List V) (j:Nat) (d:D) (m m':Nat),Iss K (minus H O) ds vs->getS (ds.map (fun d=>some (Sl.sh d)) ++ List.replicate m none) j=some (.sh d)->∃ v,(vs.map some ++ List.replicate m' none)[j]?=some (some v) /\ Is K (minus H O) d v:=by
   intro ds
   induction ds with
   | nil =>
     intro vs j d m m' i g
     have:∀ (m j:Nat),getS (List.replicate m none) j=none:=by
      intro m
      induction m with
      | zero=>intro j;rfl
      | succ m ih=>intro j;cases j with | zero=>rfl | succ j=>exact ih j
     simp only [List.map_nil,List.nil_append] at g
     rw [this] at g;cases g
   | cons e es ih =>
     intro vs j d m m' i g
     unfold Iss at i
     obtain ⟨v,r,rfl,i1,i2⟩:=i
     cases j with
     | zero =>
       simp only [List.map_cons,List.cons_append,getS] at g
       cases g
       exact ⟨v,rfl,i1⟩
     | succ j =>
       simp only [List.map_cons,List.cons_append,getS] at g
       obtain ⟨u,e1,e2⟩:=ih r j d m m' i2 g
       exact ⟨u,by simpa using e1,e2⟩
  exact aux ds vs j d _ _ i g
 ow:=fun j es g=>by
  exfalso
  have aux:∀ (ds:List D) (j:Nat) (m:Nat),getS (ds.map (fun d=>some (Sl.sh d)) ++ List.replicate m none) j ≠ some (.ow es):=by
   intro ds
   induction ds with
   | nil =>
     intro j m
     have:∀ (m j:Nat),getS (List.replicate m none) j=none:=by
      intro m
      induction m with
      | zero=>intro j;rfl
      | succ m ih=>intro j;cases j with | zero=>rfl | succ j=>exact ih j
     simp only [List.map_nil,List.nil_append]
     rw [this];exact fun z=>nomatch z
   | cons e es ih =>
     intro j m
     cases j with
     | zero=>simp only [List.map_cons,List.cons_append,getS];exact fun z=>nomatch z
     | succ j=>simp only [List.map_cons,List.cons_append,getS];exact ih j m
  exact aux ds j _ g
 dj:=fun j l es fs hjl g1 g2=>by
  exfalso
  have aux:∀ (ds:List D) (j:Nat) (m:Nat),getS (ds.map (fun d=>some (Sl.sh d)) ++ List.replicate m none) j ≠ some (.ow es):=by
   intro ds
   induction ds with
   | nil =>
     intro j m
     have:∀ (m j:Nat),getS (List.replicate m none) j=none:=by
      intro m
      induction m with
      | zero=>intro j;rfl
      | succ m ih=>intro j;cases j with | zero=>rfl | succ j=>exact ih j
     simp only [List.map_nil,List.nil_append]
     rw [this];exact fun z=>nomatch z
   | cons e es ih =>
     intro j m
     cases j with
     | zero=>simp only [List.map_cons,List.cons_append,getS];exact fun z=>nomatch z
     | succ j=>simp only [List.map_cons,List.cons_append,getS];exact ih j m
  exact aux ds j _ g1
 tt:=⟨fun j rows g=>absurd g (start_noT ds j _ rows),fun j l rs qs g1 _=>absurd g1 (start_noT ds j _ rs)⟩
theorem start_no:∀ (ds:List D) (j m:Nat) (es:List D),getS (startS m ds) j ≠ some (.ow es):=by
 intro ds j m es
 unfold startS
 generalize m - ds.length=r
 induction ds generalizing j with
 | nil =>
   have:∀ (m j:Nat),getS (List.replicate m none) j=none:=by
    intro m
    induction m with
    | zero=>intro j;rfl
    | succ m ih=>intro j;cases j with | zero=>rfl | succ j=>exact ih j
   simp only [List.map_nil,List.nil_append]
   rw [this];exact fun z=>nomatch z
 | cons e es ih =>
   cases j with
   | zero=>simp only [List.map_cons,List.cons_append,getS];exact fun z=>nomatch z
   | succ j=>simp only [List.map_cons,List.cons_append,getS];exact ih j
theorem fun_okz {CX:CXT} {x qual:Str} {st:Stmt} {f:Addr} {fd:FuncData} {N ps:List Str} {k:Nat} {sp:Sp} (F:Fun K x qual st f fd) (S:FnScope N ps (defScope st)) (len:∀ vs H Q E,sp vs H Q E->vs.length=ps.length)
 (hb:∀ (cdv:Value) (A:Around) (outer:List Env) (s:Shared) (H:Hp) (vs:List V) (Q:VK) (E:XK),Room k (A.deeper (envOfC qual (defScope st) s.heap.objs.size f cdv))->sp vs H Q E ->
  ∃ t,PSs (cxOf CX P w K mg base N qual (defScope st) f cdv A outer s H E) (defBody st) t /\ t { nx:=fun _ H'=>Q .non H',rt:=Q } (L2.start N vs) H):FnOk P w K mg base CX (k + 1) f fd ps sp:=by
 obtain ⟨oc,od,kV,doc,pm,an,cdv,ct,osl,rfl,lk,hcd⟩:=F.ex
 exact fn_of lk hcd S len fun A outer s H vs Q E hr hsp=>hb cdv A outer s H vs Q E hr hsp
def aloneSt (i:FnI):Bool:=scopeOk i && decide (i.x=("_law_alone":Str)) && decide (i.ps=[("_law_e":Str)]) && decide (i.N=[("_law_e":Str),("_law_flags":Str)]) && decide ((defScope i.st).names.lookup ("_law_e":Str)=some .local) && decide ((defScope i.st).names.lookup ("_law_flags":Str)=some .local) &&
 ((("isinstance":Str) :: ("TrueError":Str) :: ("ValueError":Str) :: names12).all fun c=>decide ((defScope i.st).names.lookup c=some .globalImplicit)) && aloneOk (defBody i.st)
structure ExcOk (K:PySem.W.Frag) (mg:Str->Option Value) (cls:List Str) (b:Bool):Prop where
 al:b=true->∃ i,FnFact K mg i /\ aloneSt i=true
 exc:∀ x ∈ cls,∃ Ca,mg x=some (.ref Ca) /\ PySem.W.excIn K Ca bmV newV=true /\ (b=true->AloneF K mg x Ca)
theorem ExcOk.fn {cls:List Str} {b:Bool} (e:ExcOk K mg cls b) (hb:b=true):∃ f fd,FnOk P w K mg base (CXz P w mg) 1 f fd ["_law_e"] (spA K mg) /\ mg "_law_alone"=some (.ref f) /\ PySem.W.keepIn K (.ref f)=true /\ Binds K fd ["_law_e"] []:=by
 obtain ⟨i,⟨f,fd,A⟩,h⟩:=e.al hb
 unfold aloneSt at h
 simp only [Bool.and_eq_true,decide_eq_true_eq,List.all_eq_true] at h
 obtain ⟨⟨⟨⟨⟨⟨⟨h1,h2⟩,h3⟩,h4⟩,h5⟩,h6⟩,h7⟩,h8⟩:=h
 have S:=scope_of h1
 have b:=A.bd
 have m:=A.mg
 rw [h3] at b
 rw [h2] at m
 rw [h3,h4] at S
 exact ⟨f,fd,alone_ok A.fn S h5 h6 h7 h8,m,A.fn.kp,.all b⟩
theorem fn_sound {i:FnI} {L:List FnI} {lv:Nat} {f:Addr} {fd:FuncData} (h2:2<=lv) (F:FnAt K mg i f fd) (hc:chkFn i L cns=true) (hk:i.Keep C)
 (fns:∀ n j,L[n]?=some j->∃ f fd,FnOk P w K mg base (CXz P w mg) lv f fd j.ps (spD K j.ps.length (C.fr n) (C.f2 n) (C.ct n)) /\ FnAt K mg j f fd)
 (hcn:∀ n x,cns[n]?=some x->∃ u v,mg x=some u /\ RelV v u /\ ∀ S,Is K S (C.cn n) v) (hb:∀ x ∈ blts,mg x=none) (hE:∀ x,¬ C.E x) (hz:i.rz=true->ExcOk K mg i.cls i.al) :
 FnOk P w K mg base (CXz P w mg) (lv + 1) f fd i.ps (spD K i.ps.length i.fr i.g i.c):=by
 unfold chkFn at hc
 rw [Bool.and_eq_true] at hc
 have S:=scope_of hc.1
 refine fun_okz F.fn S (fun vs H Q E h=>?_) (fun cdv A outer s H vs Q E hr h=>?_)
 ·obtain ⟨O,ds,hl,_,is,_⟩:=h
  rw [is.length,hl]
 obtain ⟨O,ds,hl,ho,is,hp,hq,hx⟩:=h
 have hun:(A.deeper (envOfC i.x (defScope i.st) s.heap.objs.size f cdv)).units + 100 < cLine:=by have:=hr.un;lia
 have hdp:=hr.dp
 have hcalm:A.handled.isNone=true:=by
  have e:A.handled=none:=hr.hd h2
  rw [e];rfl
 have ok:OkS (cxOf (CXz P w mg) P w K mg base i.N i.x (defScope i.st) f cdv A outer s H E).nox (i.ck L cns) C:=by
  refine ⟨⟨rfl,S.nd,rfl,S.kind,hcalm,rfl,hun,?_,hcn,hb,hE⟩,fun _=>rfl⟩
  intro n x m e
  have e':(L.map fun j=>(j.x,j.ps.length))[n]?=some (x,m):=e
  rw [List.getElem?_map] at e'
  cases q:L[n]? with
  | none=>rw [q] at e';cases e'
  | some j =>
    rw [q] at e'
    cases e'
    obtain ⟨f',fd',F',A'⟩:=fns n j q
    exact ⟨f',fd',j.ps,lv,F',hr,A'.mg,A'.fn.kp,.all A'.bd⟩
 have st:=start_reps (K:=K) (N:=i.N) rfl ho is
 have mine:∀ j es a,getS (startS i.N.length ds) j=some (.ow es)->(L2.start i.N vs)[j]?=some (some (.ref a))->a ∉ O:=fun j es a g=>(start_no ds j _ es g).elim
 have mineT:MT O H (startS i.N.length ds) (L2.start i.N vs):=fun j rs a as g=>(start_noT ds j _ rs g).elim
 unfold FnI.Keep at hk
 by_cases hrz:i.rz=true
 ·rw [if_pos hrz] at hk
  rw [if_pos hrz] at hc
  obtain ⟨hf,hk⟩:=hk
  have eo:=hz hrz
  unfold Rw at hq
  simp only [hf,Bool.false_eq_true,if_false] at hq
  have own:Own (cxOf (CXz P w mg) P w K mg base i.N i.x (defScope i.st) f cdv A outer s H E):=⟨rfl,rfl,rfl⟩
  have okx:OkX (cxOf (CXz P w mg) P w K mg base i.N i.x (defScope i.st) f cdv A outer s H E) (i.ck L cns) C H (fun x=>i.c.exn ds ⟨0,x,[]⟩):=by
   refine ⟨ok,own,?_,?_,eo.exc,fun q=>⟨eo.fn q,⟨?_,?_⟩,hb _ (by decide)⟩⟩
   ·intro x Ca hex hm pins σ H' s' e s2 I sm T
    exact thrown_on I own sm T fun s3 T3=>⟨x,Ca,hx ⟨0,x,[]⟩ hex,hm,T3⟩
   ·intro _ x Ca hex hm pins σ H' s' h1 e args I sm M
    exact thrown_made I own sm M fun s3 T3=>⟨x,Ca,hx ⟨0,x,[]⟩ hex,hm,T3⟩
   ·show (A.deeper (envOfC i.x (defScope i.st) s.heap.objs.size f cdv)).depth + 3 * 1 + 5 < recursionLimit
    lia
   ·have:=hr.un
    show (A.deeper (envOfC i.x (defScope i.st) s.heap.objs.size f cdv)).units + 16 * 1 + 200 < cLine
    lia
  by_cases hg:i.g=true
  ·rw [if_pos hg] at hk
   simp only [hg,if_true] at hq
   refine ⟨_,sXB (O₀:=O) okx i.b _ hc.2,startS i.N.length ds,O,⟨Same.refl _,fun _ z=>z,fun _ z=>.inl z⟩,⟨st,mine,mineT⟩,wpS_mono i.b ?_ (hk ds hp)⟩
   exact ⟨fun _ z=>z.elim,fun d q v H' s' i'=>(hq d q.2).2 q.1 v H' s' i',fun _ z=>z.elim,fun _ z=>z.elim,fun _ z=>z.elim,fun _ z=>z,fun rows q a as H' s' h0 t=>(hq _ q).1 rows a as H' rfl s' h0 t⟩
  rw [if_neg hg] at hk
  simp only [hg,Bool.false_eq_true,if_false] at hq
  refine ⟨_,sXB (O₀:=O) okx i.b _ hc.2,startS i.N.length ds,O,⟨Same.refl _,fun _ z=>z,fun _ z=>.inl z⟩,⟨st,mine,mineT⟩,wpS_mono i.b ?_ (hk ds hp)⟩
  exact ⟨fun σ' q τ' H' O' g' s' r'=>hq _ q _ _ g'.same non_is,fun d q v H' s' i'=>hq d q v H' s' i',fun _ z=>z.elim,fun _ z=>z.elim,fun _ z=>z.elim,fun _ z=>z,fun _ z=>z.elim⟩
 rw [if_neg hrz] at hk
 rw [if_neg hrz] at hc
 refine ⟨tS K C O H (fun _=>False) i.b,PSs.nox (sK ok i.b _ hc.2),?_⟩
 unfold Rw at hq
 by_cases hf:i.fr=true
 ·rw [if_pos hf] at hk
  simp only [hf,if_true] at hq
  refine ⟨startS i.N.length ds,O,⟨Same.refl _,fun _ z=>z,fun _ z=>.inl z⟩,⟨st,mine,mineT⟩,wpS_mono i.b ?_ (hk ds hp)⟩
  exact ⟨fun _ z=>z.elim,fun _ z=>z.elim,fun _ z=>z.elim,fun _ z=>z.elim,fun xs q a H' us s' h0 hl' is'=>hq _ q xs a H' us rfl s' h0 hl' is',fun _ z=>z,fun _ z=>z.elim⟩
 rw [if_neg hf] at hk
 by_cases hg:i.g=true
 ·rw [if_pos hg] at hk
  simp only [hf,hg,Bool.false_eq_true,if_false,if_true] at hq
  refine ⟨startS i.N.length ds,O,⟨Same.refl _,fun _ z=>z,fun _ z=>.inl z⟩,⟨st,mine,mineT⟩,wpS_mono i.b ?_ (hk ds hp)⟩
  exact ⟨fun _ z=>z.elim,fun _ z=>z.elim,fun _ z=>z.elim,fun _ z=>z.elim,fun _ z=>z.elim,fun _ z=>z,fun rows q a as H' s' h0 t=>(hq _ q).1 rows a as H' rfl s' h0 t⟩
 ·rw [if_neg hg] at hk
  simp only [hf,hg,Bool.false_eq_true,if_false] at hq
  refine ⟨startS i.N.length ds,O,⟨Same.refl _,fun _ z=>z,fun _ z=>.inl z⟩,⟨st,mine,mineT⟩,wpS_mono i.b ?_ (hk ds hp)⟩
  exact ⟨fun σ' q τ' H' O' g' s' r'=>hq _ q _ _ g'.same non_is,fun d q v H' s' i'=>hq d q v H' s' i',fun _ z=>z.elim,fun _ z=>z.elim,fun _ z=>z.elim,fun _ z=>z,fun _ z=>z.elim⟩
theorem all_sound {L:List FnI} (F:∀ i ∈ L,FnFact K mg i) (hc:chkAll L cns=true) (hk:∀ i ∈ L,i.Keep C) (ct:∀ n i,L[n]?=some i->C.ct n=i.c /\ C.fr n=i.fr /\ C.f2 n=i.g)
 (hcn:∀ n x,cns[n]?=some x->∃ u v,mg x=some u /\ RelV v u /\ ∀ S,Is K S (C.cn n) v) (hb:∀ x ∈ blts,mg x=none) (hE:∀ x,¬ C.E x) (hz:∀ i ∈ L,i.rz=true->ExcOk K mg i.cls i.al) :
 ∀ (n:Nat) (i:FnI) (f:Addr) (fd:FuncData),L[n]?=some i->FnAt K mg i f fd->FnOk P w K mg base (CXz P w mg) (n + 3) f fd i.ps (spD K i.ps.length i.fr i.g i.c):=by
 intro n
 induction n using Nat.strongRecOn with
 | ind n ih =>
   intro i f fd e A
   refine fn_sound (L:=L.take n) (lv:=n + 2) (by lia) A (chk_at hc e) (hk i (List.mem_of_getElem? e)) (fun m j q=>?_) hcn hb hE (hz i (List.mem_of_getElem? e))
   have hm:m < n:=by
    rcases Nat.lt_or_ge m n with z | z
    ·exact z
    ·rw [List.getElem?_eq_none (by rw [List.length_take];lia)] at q;cases q
   rw [List.getElem?_take_of_lt hm] at q
   obtain ⟨f',fd',A'⟩:=F j (List.mem_of_getElem? q)
   rw [(ct m j q).1,(ct m j q).2.1,(ct m j q).2.2]
   exact ⟨f',fd',(ih m hm j f' fd' q A').mono (by lia),A'⟩
end
section
variable {K:PySem.W.Frag} {h:Heap} {mg:Str->Option Value}
end
theorem law_sp {K:PySem.W.Frag} {H:Hp} {a:Addr} {ns:List Int} (hl:ns.length<=63) (h:SqL K H a (ns.map V.int)):spD K 1 false false c_law [.ref a] H (fun v _=>v=.bl true) fun _ _ _=>False:=by
 have is:∀ ns:List Int,Iss K (minus H []) (ns.map D.int) (ns.map V.int):=by
  intro ns
  induction ns with
  | nil=>unfold Iss;rfl
  | cons n r ih =>
    simp only [List.map_cons]
    unfold Iss
    exact ⟨_,_,rfl,int_is n,ih⟩
 refine ⟨[],[.lst (ns.map .int)],rfl,(fun _ z=>nomatch z),?_,⟨ns,rfl,hl⟩,fun d e v H' s i=>?_,fun _ z=>z.elim⟩
 ·unfold Iss
  refine ⟨_,_,rfl,lst_is ?_ (is ns),?_⟩
  ·have e:minus H []=H:=by
    funext b
    exact minus_at (by simp)
   rw [e];exact h
  ·unfold Iss;rfl
 ·have e':d=.bl true:=e
  subst e'
  exact is_bl i
theorem law_walkX {l:PySem.W.OpenLaw} {q:Program} {loose:List Str} {XP:(Str->Option Value)->Heap->Prop} {YP:World->Heap->Prop} {d:DefRec} {K:Params->PySem.W.Frag} (L:List FnI) (cns:List Str) (C:Cfg) (n:Nat) (i:FnI) {x:Str}
 (hn:l.most=some 63) (hdf:d.params.defaults=[]) (hY:∀ (w:World) (h:Heap),YP w h->(K w.params).In h) (hr:Room (n + 3) callerA)
 (hi:L[n]?=some i) (hx:i.ps=[x]) (hic:i.c=c_law) (hif:i.fr=false /\ i.g=false) (hdn:d.name=i.x) (hc:chkAll L cns=true) (hk:∀ i ∈ L,i.Keep C) (ct:∀ n i,L[n]?=some i->C.ct n=i.c /\ C.fr n=i.fr /\ C.f2 n=i.g) (hE:∀ x,¬ C.E x)
 (F:∀ (w:World) (mg:Str->Option Value) (h:Heap),(K w.params).In h->h.Ns mainGlobals mg ->
  (∀ i ∈ L,FnFact (K w.params) mg i) /\ (∀ n x,cns[n]?=some x->∃ u v,mg x=some u /\ RelV v u /\ ∀ S,Is (K w.params) S (C.cn n) v) /\ (∀ x ∈ blts,mg x=none) /\ ∀ i ∈ L,i.rz=true->ExcOk (K w.params) mg i.cls i.al) :
 PySem.W.WalkO q loose XP YP l.row.toRowW d [] (fun f vs=>PySem.call f vs):=by
 have key:∀ (w:World) (mg:Str->Option Value) (h:Heap),(K w.params).In h->h.Ns mainGlobals mg->∃ f fd,FnAt (K w.params) mg i f fd /\ ∀ base:Heap,FnOk l.prog w (K w.params) mg base (CXz l.prog w mg) (n + 3) f fd [x] (spD (K w.params) 1 false false c_law):=fun w mg h KX G=>by
  obtain ⟨F1,F2,F3,F4⟩:=F w mg h KX G
  obtain ⟨f,fd,A⟩:=F1 i (List.mem_of_getElem? hi)
  refine ⟨f,fd,A,fun base=>?_⟩
  have:=all_sound (P:=l.prog) (w:=w) (base:=base) F1 hc hk ct F2 F3 hE F4 n i f fd hi A
  rw [hx,hic,hif.1,hif.2] at this
  exact this
 refine L2.walk_of (n:=63) (k:=n + 3) (x:=x) (CX:=fun _=>fun _ _ _ E _ _=>∃ v H,E v none H) (sp:=fun w=>spD (K w.params) 1 false false c_law) hn (by decide) hdf hr hY ?_ (fun w H a ns hl _ hS=>law_sp hl hS) fun _ _ _ _ _ ⟨_,_,z⟩=>z
 intro w mg fa h KX G hmg
 obtain ⟨f,fd,A,ok⟩:=key w mg h KX G
 have e:fa=f:=by
  have:=A.mg
  rw [<- hdn,hmg] at this
  cases this
  rfl
 subst e
 refine ⟨fd,fun s u=>.of_eq ?_,fun base _ _=>?_⟩
 ·have:=A.bd [u] (by rw [hx];rfl)
  rw [hx] at this
  exact this
 ·exact ⟨(ok base).len,fun A outer s H args us vs Q E r e0 b rv hsp=>codeAny_mono ((ok base).run A outer s H args us vs Q E r e0 b rv hsp) fun r s' z=>by
   cases r with
   | ok fl=>cases fl <;> exact z
   | error e=>obtain ⟨x,C,z,_⟩:=z;exact ⟨_,_,z⟩⟩
theorem law_walk {l:PySem.W.OpenLaw} {q:Program} {loose:List Str} {XP:(Str->Option Value)->Heap->Prop} {YP:World->Heap->Prop} {d:DefRec} {K:Params->PySem.W.Frag} (L:List FnI) (cns:List Str) (C:Cfg) (n:Nat) (i:FnI) {x:Str}
 (hn:l.most=some 63) (hdf:d.params.defaults=[]) (hY:∀ (w:World) (h:Heap),YP w h->(K w.params).In h) (hr:Room (n + 3) callerA)
 (hi:L[n]?=some i) (hx:i.ps=[x]) (hic:i.c=c_law) (hif:i.fr=false /\ i.g=false) (hdn:d.name=i.x) (hc:chkAll L cns=true) (hk:∀ i ∈ L,i.Keep C) (ct:∀ n i,L[n]?=some i->C.ct n=i.c /\ C.fr n=i.fr /\ C.f2 n=i.g) (hE:∀ x,¬ C.E x)
 (F:∀ (w:World) (mg:Str->Option Value) (h:Heap),(K w.params).In h->h.Ns mainGlobals mg ->
  (∀ i ∈ L,FnFact (K w.params) mg i) /\ (∀ n x,cns[n]?=some x->∃ u v,mg x=some u /\ RelV v u /\ ∀ S,Is (K w.params) S (C.cn n) v) /\ ∀ x ∈ blts,mg x=none) (hz:(L.all fun i=>!i.rz)=true:=by rfl) :
 PySem.W.WalkO q loose XP YP l.row.toRowW d [] (fun f vs=>PySem.call f vs) :=
 law_walkX L cns C n i hn hdf hY hr hi hx hic hif hdn hc hk ct hE fun w mg h KX G=>by
  obtain ⟨F1,F2,F3⟩:=F w mg h KX G
  refine ⟨F1,F2,F3,fun i hi r=>?_⟩
  have:=List.all_eq_true.mp hz i hi
  rw [r] at this
  cases this
end Z
namespace Z
open PySem
def rq (r:Rat):D:=.tup [.int r.num,.int r.den]
def szr (n:Nat) (r:Rat):Prop:=bits r.num<=n /\ bits (r.den:Int)<=n
theorem divInt_sz (t:Int) {u:Int} (h:u ≠ 0):bits (Rat.divInt t u).num<=bits t /\ bits ((Rat.divInt t u).den:Int)<=bits u:=by
 rw [Rat.num_divInt,Rat.den_divInt,if_neg h]
 have hg:0 < u.gcd t:=Int.gcd_pos_of_ne_zero_left _ h
 constructor
 ·refine Nat.le_trans (bits_ediv (by lia)) (bits_mono ?_)
  rw [Int.natAbs_mul]
  rw [Int.natAbs_sign_of_ne_zero h,Nat.one_mul]
  exact Nat.le_refl _
 ·refine bits_mono ?_
  rw [Int.natAbs_natCast]
  exact Nat.div_le_self u.natAbs (u.gcd t)
theorem rat_eq (r:Rat):r=Rat.divInt r.num r.den:=(Rat.num_divInt_den r).symm
section
variable {C:Cfg} {i:Nat} (h1:C.ct i=c_ratio)
include h1
end
end Z
namespace Z
open PySem
def v2 (n:Nat):Nat:=if h:n=0 then 0 else if n % 2=1 then 0 else v2 (n / 2) + 1
 termination_by n
 decreasing_by lia
theorem v2_odd {n:Nat} (h:n % 2=1):v2 n=0:=by
 unfold v2
 have:n ≠ 0:=by lia
 simp [this,h]
theorem v2_even {n:Nat} (h0:n ≠ 0) (h:n % 2=0):v2 n=v2 (n / 2) + 1:=by
 rw [v2]
 have:¬ n % 2=1:=by lia
 simp [h0,this]
theorem v2_mul {m:Nat} (h:m % 2=1):∀ v:Nat,v2 (2 ^ v * m)=v
 | 0=>by simpa using v2_odd h
 | v + 1=>by
   have e:2 ^ (v + 1) * m=2 * (2 ^ v * m):=by rw [Nat.pow_succ];grind
   have hp:0 < 2 ^ v * m:=Nat.mul_pos (Nat.two_pow_pos v) (by lia)
   rw [e,v2_even (by lia) (by lia)]
   have:2 * (2 ^ v * m) / 2=2 ^ v * m:=by lia
   rw [this,v2_mul h v]
def bareF (w p:Int):Int × Int:=if w=0 then (0,0) else (w / 2 ^ v2 w.natAbs,p + v2 w.natAbs)
theorem bareF_zero (p:Int):bareF 0 p=(0,0):=by simp [bareF]
theorem bareF_mul {m:Int} (h:m % 2=1) (v:Nat) (p:Int):bareF (m * 2 ^ v) p=(m,p + v):=by
 have hm:m ≠ 0:=by lia
 have hp:=two_pow_pos v
 have h0:m * 2 ^ v ≠ 0:=Int.mul_ne_zero hm (by lia)
 have e:(m * 2 ^ v).natAbs=2 ^ v * m.natAbs:=by rw [Int.natAbs_mul,Int.natAbs_pow,Nat.mul_comm];rfl
 unfold bareF
 rw [if_neg h0,e,v2_mul (by lia),Int.mul_ediv_cancel _ (by lia)]
theorem odd_parts {w:Int} (h:w ≠ 0):∃ (m:Int) (v:Nat),w=m * 2 ^ v /\ m % 2=1:=by
 obtain ⟨v,m,e,ho,_⟩:=low_of h
 exact ⟨m,v,e,ho⟩
theorem Bare.eq {w p w' p':Int} (b:Bare w p w' p'):(w',p')=bareF w p:=by
 by_cases h:w=0
 ·obtain ⟨rfl,rfl⟩:=b.nought h
  subst h
  exact (bareF_zero p).symm
 ·obtain ⟨v,e,ep,ho⟩:=b.same h
  rw [e,bareF_mul ho,ep]
theorem bareF_bare (w p:Int):Bare w p (bareF w p).1 (bareF w p).2:=by
 by_cases h:w=0
 ·subst h;exact ⟨fun _=>by simp [bareF],fun z=>absurd rfl z⟩
 ·obtain ⟨m,v,rfl,ho⟩:=odd_parts h
  rw [bareF_mul ho]
  exact ⟨fun z=>absurd z h,fun _=>⟨v,rfl,rfl,ho⟩⟩
theorem bareF_two (w p:Int):bareF (w * 2) p=bareF w (p + 1):=by
 by_cases h:w=0
 ·subst h;simp [bareF]
 ·obtain ⟨m,v,rfl,ho⟩:=odd_parts h
  have e:m * 2 ^ v * 2=m * 2 ^ (v + 1):=by rw [Int.pow_succ,Int.mul_assoc]
  rw [e,bareF_mul ho,bareF_mul ho]
  congr 1
  lia
theorem bareF_neg (w p:Int):bareF (-w) p=(-(bareF w p).1,(bareF w p).2):=by
 by_cases h:w=0
 ·subst h;simp [bareF]
 ·obtain ⟨m,v,rfl,ho⟩:=odd_parts h
  have e:-(m * 2 ^ v)=-m * 2 ^ v:=by rw [Int.neg_mul]
  rw [e,bareF_mul ho,bareF_mul (by lia)]
def nq (x:Int × Int):D:=.tup [.int x.1,.int x.2]
def Sc (t p:Int):Int:=t * 2 ^ (-p).toNat
def Vc (u p:Int):Int:=u * 2 ^ p.toNat
theorem Vc_pos {u p:Int} (h:0 < u):0 < Vc u p:=Int.mul_pos h (two_pow_pos _)
theorem sc_step (t u p:Int):(Sc t (p + 1)=Sc t p /\ Vc u (p + 1)=2 * Vc u p) \/ (Sc t p=2 * Sc t (p + 1) /\ Vc u (p + 1)=Vc u p):=by
 unfold Sc Vc
 by_cases h:0<=p
 ·left
  have e1:(-(p + 1)).toNat=(-p).toNat:=by lia
  have e2:(p + 1).toNat=p.toNat + 1:=by lia
  rw [e1,e2,Int.pow_succ]
  exact ⟨rfl,by grind⟩
 ·right
  have e1:(-p).toNat=(-(p + 1)).toNat + 1:=by lia
  have e2:(p + 1).toNat=p.toNat:=by lia
  rw [e1,e2,Int.pow_succ]
  exact ⟨by grind,rfl⟩
structure Cut (n:Nat) (t u w p:Int):Prop where
 lo:2 ^ (n - 1)<=w
 hi:w < 2 ^ n
 le:w * Vc u p<=Sc t p
 lt:Sc t p < (w + 1) * Vc u p
def cutPow (n:Nat) (t u:Int):Int:=let p:=(bits t:Int) - bits u - n;if 2 ^ n<=Sc t p / Vc u p then p + 1 else p
def cutW (n:Nat) (t u:Int):Int:=Sc t (cutPow n t u) / Vc u (cutPow n t u)
theorem nat_abs_pos {t:Int} (h:0 < t):(2:Int) ^ (bits t - 1)<=t /\ t < 2 ^ bits t:=by
 have h1:=lt_bits t
 have h2:=bits_pos_le (show t ≠ 0 by lia)
 have c1:((2 ^ bits t:Nat):Int)=2 ^ bits t:=by simp
 have c2:((2 ^ (bits t - 1):Nat):Int)=2 ^ (bits t - 1):=by simp
 lia
theorem guess {n:Nat} {t u:Int} (hn:1<=n) (ht:0 < t) (hu:0 < u) (p:Int) (hp:p=(bits t:Int) - bits u - n):2 ^ (n - 1) * Vc u p<=Sc t p /\ Sc t p < 2 ^ (n + 1) * Vc u p:=by
 obtain ⟨t1,t2⟩:=nat_abs_pos ht
 obtain ⟨u1,u2⟩:=nat_abs_pos hu
 have bt:=bits_pos (show t ≠ 0 by lia)
 have bu:=bits_pos (show u ≠ 0 by lia)
 generalize ha:bits t=a at *
 generalize hb:bits u=b at *
 unfold Sc Vc
 have k1:(0:Int)<=2 ^ (-p).toNat:=Int.le_of_lt (two_pow_pos _)
 have k2:(0:Int)<=2 ^ p.toNat:=Int.le_of_lt (two_pow_pos _)
 have kn:(0:Int)<=2 ^ (n - 1):=Int.le_of_lt (two_pow_pos _)
 have kn1:(0:Int)<=2 ^ (n + 1):=Int.le_of_lt (two_pow_pos _)
 constructor
 ·have s1:2 ^ (n - 1) * (u * 2 ^ p.toNat)<=2 ^ (n - 1) * (2 ^ b * 2 ^ p.toNat):=Int.mul_le_mul_of_nonneg_left (Int.mul_le_mul_of_nonneg_right (by lia) k2) kn
  have s2:(2:Int) ^ (a - 1) * 2 ^ (-p).toNat<=t * 2 ^ (-p).toNat:=Int.mul_le_mul_of_nonneg_right t1 k1
  have s3:(2:Int) ^ (n - 1) * (2 ^ b * 2 ^ p.toNat)=2 ^ (a - 1) * 2 ^ (-p).toNat:=by
   rw [<- Int.pow_add,<- Int.pow_add,<- Int.pow_add]
   congr 1
   lia
  lia
 ·have s1:2 ^ (n + 1) * (2 ^ (b - 1) * 2 ^ p.toNat)<=2 ^ (n + 1) * (u * 2 ^ p.toNat):=Int.mul_le_mul_of_nonneg_left (Int.mul_le_mul_of_nonneg_right (by lia) k2) kn1
  have s2:t * 2 ^ (-p).toNat < 2 ^ a * 2 ^ (-p).toNat:=Int.mul_lt_mul_of_pos_right t2 (two_pow_pos _)
  have s3:(2:Int) ^ (n + 1) * (2 ^ (b - 1) * 2 ^ p.toNat)=2 ^ a * 2 ^ (-p).toNat:=by
   rw [<- Int.pow_add,<- Int.pow_add,<- Int.pow_add]
   congr 1
   lia
  lia
theorem floor_spec (s:Int) {v:Int} (hv:0 < v):s / v * v<=s /\ s < (s / v + 1) * v:=⟨Int.ediv_mul_le s (by lia),Int.lt_ediv_add_one_mul_self s hv⟩
theorem cut_spec {n:Nat} {t u:Int} (hn:1<=n) (ht:0 < t) (hu:0 < u):Cut n t u (cutW n t u) (cutPow n t u):=by
 have g:=guess hn ht hu _ rfl
 have e2:(2:Int) ^ n=2 * 2 ^ (n - 1):=by
  conv=>lhs;rw [show n=(n - 1) + 1 by lia,Int.pow_succ]
  lia
 have e3:(2:Int) ^ (n + 1)=2 * 2 ^ n:=by rw [Int.pow_succ];lia
 have kn:=two_pow_pos n
 unfold cutW cutPow
 simp only []
 generalize hp:(bits t:Int) - bits u - n=p at *
 have hv:=Vc_pos (p:=p) hu
 by_cases c:2 ^ n<=Sc t p / Vc u p
 ·rw [if_pos c]
  have hv1:=Vc_pos (p:=p + 1) hu
  have f:=floor_spec (Sc t (p + 1)) hv1
  have c':=Int.mul_le_of_le_ediv hv c
  rcases sc_step t u p with ⟨s1,s2⟩ | ⟨s1,s2⟩
  ·refine ⟨?_,?_,f.1,f.2⟩
   ·refine Int.le_ediv_of_mul_le hv1 ?_
    rw [s1,s2]
    have:(2:Int) ^ (n - 1) * (2 * Vc u p)=2 ^ n * Vc u p:=by rw [e2];grind
    lia
   ·refine Int.ediv_lt_of_lt_mul hv1 ?_
    rw [s1,s2]
    have:(2:Int) ^ n * (2 * Vc u p)=2 ^ (n + 1) * Vc u p:=by rw [e3];grind
    lia
  ·refine ⟨?_,?_,f.1,f.2⟩
   ·refine Int.le_ediv_of_mul_le hv1 ?_
    rw [s2]
    have:(2:Int) ^ n * Vc u p=2 * (2 ^ (n - 1) * Vc u p):=by rw [e2];grind
    lia
   ·refine Int.ediv_lt_of_lt_mul hv1 ?_
    rw [s2]
    have:(2:Int) ^ (n + 1) * Vc u p=2 * (2 ^ n * Vc u p):=by rw [e3];grind
    lia
 ·rw [if_neg c]
  have f:=floor_spec (Sc t p) hv
  exact ⟨Int.le_ediv_of_mul_le hv g.1,by lia,f.1,f.2⟩
end Z
namespace Z
open PySem
def b_odd_form:Sm :=
 (.seq (.whl (.cmp .eq (.bin .mod (.var 0) (.cst (.int 2))) (.cst (.int 0))) (.seq (.set 0 (.bin .fdiv (.var 0) (.cst (.int 2))))
  (.seq (.set 1 (.bin .add (.var 1) (.cst (.int 1))))
  .nop)))
 (.seq (.ret (.tup [(.var 0),(.var 1)]))
 .nop))
def c_odd_form:Ctr where
 pre ds:=match ds with | [.int w,.int _]=>w ≠ 0 | _=>False
 res ds d:=match ds with | [.int w,.int p]=>d=nq (bareF w p) | _=>False
theorem k_odd_form {C:Cfg}:Keeps C 2 b_odd_form c_odd_form:=by
 rintro ds h
 simp only [c_odd_form] at h
 split at h
 case h_2=>exact h.elim
 next w p =>
 simp_arith! only [b_odd_form,c_odd_form]
 refine seq_cut (fun σ=>σ=[some (.sh (.int (bareF w p).1)),some (.sh (.int (bareF w p).2))]) ?_ ?_
 ·refine whl_by (fun σ=>∃ w' p':Int,w' ≠ 0 /\ bareF w' p'=bareF w p /\ σ=[some (.sh (.int w')),some (.sh (.int p'))]) (fun σ=>(sInt σ 0).natAbs) ⟨w,p,h,rfl,rfl⟩ ?_
  rintro σ ⟨w',p',h0,e,rfl⟩
  simp_all_arith! only [sInt]
  rw [fmod_pos (by decide),fdiv_pos (by decide)]
  by_cases c:w' % 2=0
  ·rw [if_pos c]
   refine ⟨by decide,by lia,w' / 2,p' + 1,by lia,?_,rfl⟩
   rw [<- e,<- bareF_two]
   congr 1
   lia
  ·rw [if_neg c]
   have:bareF w' p'=(w',p'):=by simpa using bareF_mul (m:=w') (by lia) 0 p'
   rw [<- e,this]
 ·rintro σ rfl
  simp_all_arith! only []
  rfl
def cls (r v:Int):Int:=if r=0 then 0 else if 2 * r=v then 2 else if 2 * r < v then 1 else 3
def cutR (n:Nat) (t u:Int):Int:=Sc t (cutPow n t u) - cutW n t u * Vc u (cutPow n t u)
def nearW (n:Nat) (t u:Int):Int:=if 2 * cutR n t u > Vc u (cutPow n t u) \/ (2 * cutR n t u=Vc u (cutPow n t u) /\ cutW n t u % 2=1) then cutW n t u + 1 else cutW n t u
def nearF (n:Nat) (t u:Int):Int × Int:=if t=0 then (0,0) else if t < 0 then bareF (-nearW n (-t) u) (cutPow n (-t) u) else bareF (nearW n t u) (cutPow n t u)
def negF (x:Int × Int):Int × Int:=(-x.1,x.2)
end Z
namespace Z
open PySem
abbrev tw (p:Int):Rat:=(2:Rat) ^ p
theorem two_ne:(2:Rat) ≠ 0:=by decide
theorem tw_succ (p:Int):tw (p + 1)=2 * tw p:=by rw [tw,Rat.zpow_add_one two_ne,Rat.mul_comm]
theorem tw_zero:tw 0=1:=by decide
theorem tw_nat (n:Nat):tw n=((2 ^ n:Int):Rat):=by
 induction n with
 | zero=>decide
 | succ n ih=>rw [show ((n + 1:Nat):Int)=(n:Int) + 1 by lia,tw_succ,ih,Int.pow_succ];grind
theorem tw_add_nat (p:Int) (k:Nat):tw (p + k)=tw p * ((2 ^ k:Int):Rat):=by
 induction k with
 | zero=>simp
 | succ k ih=>rw [show p + ((k + 1:Nat):Int)=p + k + 1 by lia,tw_succ,ih,Int.pow_succ];grind
theorem rlt_or (a b:Rat):a < b \/ b<=a:=by grind
theorem tw_pos (p:Int):0 < tw p:=by
 have pos:∀ n:Nat,0 < tw n:=fun n=>by rw [tw_nat];have:=two_pow_pos n;exact_mod_cast this
 rcases Int.le_total 0 p with h | h
 ·obtain ⟨n,rfl⟩:∃ n:Nat,p=n:=⟨p.toNat,by lia⟩
  exact pos n
 ·obtain ⟨n,rfl⟩:∃ n:Nat,p=-(n:Int):=⟨(-p).toNat,by lia⟩
  have e:=tw_add_nat (-(n:Int)) n
  rw [show -(n:Int) + n=0 by lia,tw_zero] at e
  have h2:(0:Rat) < ((2 ^ n:Int):Rat):=by have:=two_pow_pos n;exact_mod_cast this
  generalize ha:tw (-(n:Int))=a at *
  generalize hb:((2 ^ n:Int):Rat)=b at *
  rcases rlt_or 0 a with z | z
  ·exact z
  ·have:=Rat.mul_nonneg (a:=-a) (b:=b) (by grind) (by grind)
   grind
theorem mul_le {a b c:Rat} (h:a<=b) (hc:0 < c):a * c<=b * c:=by
 have:=Rat.mul_nonneg (a:=b - a) (b:=c) (by grind) (by grind)
 grind
theorem mul_lt {a b c:Rat} (h:a < b) (hc:0 < c):a * c < b * c:=by
 have:=Rat.mul_pos (a:=b - a) (b:=c) (by grind) (by grind)
 grind
theorem le_mul {a b c:Rat} (hc:0 < c):a * c<=b * c ↔ a<=b :=
 ⟨fun h=>by
  rcases rlt_or b a with y | y
  ·have:=mul_lt y hc;grind
  ·exact y,fun h=>mul_le h hc⟩
theorem lt_mul {a b c:Rat} (hc:0 < c):a * c < b * c ↔ a < b :=
 ⟨fun h=>by
  rcases rlt_or a b with z | z
  ·exact z
  ·have:=mul_le z hc;grind,fun h=>mul_lt h hc⟩
theorem eq_mul {a b c:Rat} (hc:0 < c):a * c=b * c ↔ a=b :=
 ⟨fun h=>by
  have h1:=(le_mul (a:=a) (b:=b) hc).mp (by grind)
  have h2:=(le_mul (a:=b) (b:=a) hc).mp (by grind)
  grind,fun h=>by rw [h]⟩
def vr (x:Int × Int):Rat:=(x.1:Rat) * tw x.2
theorem vr_mul (m:Int) (v:Nat) (p:Int):vr (m * 2 ^ v,p)=vr (m,p + v):=by
 unfold vr
 simp only []
 rw [tw_add_nat,Rat.intCast_mul];grind
theorem vr_bareF (w p:Int):vr (bareF w p)=w * tw p:=by
 by_cases h:w=0
 ·subst h;simp [bareF,vr]
 ·obtain ⟨m,v,rfl,ho⟩:=odd_parts h
  rw [bareF_mul ho,<- vr_mul];rfl
theorem vr_neg (x:Int × Int):vr (negF x)=-vr x:=by
 unfold vr negF
 simp only [Rat.intCast_neg];grind
structure CutR (n:Nat) (r:Rat) (w p:Int):Prop where
 lo:2 ^ (n - 1)<=w
 hi:w < 2 ^ n
 le:w * tw p<=r
 lt:r < (w + 1) * tw p
theorem tw_toNat (p:Int):((2 ^ (-p).toNat:Int):Rat) * tw p=((2 ^ p.toNat:Int):Rat):=by
 rcases Int.le_total 0 p with h | h
 ·obtain ⟨n,rfl⟩:∃ n:Nat,p=n:=⟨p.toNat,by lia⟩
  rw [tw_nat,show (-(n:Int)).toNat=0 by lia,Int.toNat_natCast];simp
 ·obtain ⟨n,rfl⟩:∃ n:Nat,p=-(n:Int):=⟨(-p).toNat,by lia⟩
  have e:=tw_add_nat (-(n:Int)) n
  rw [show -(n:Int) + n=0 by lia,tw_zero] at e
  rw [show (- -(n:Int)).toNat=n by lia,show (-(n:Int)).toNat=0 by lia,Rat.mul_comm,<- e];simp
theorem div_mul {t u:Int} (hu:0 < u):Rat.divInt t u * u=t:=by
 have hu':(u:Rat) ≠ 0:=by
  intro z
  have:u=0:=by exact_mod_cast z
  lia
 rw [Rat.divInt_eq_div,Rat.div_mul_cancel hu']
theorem sc_rat {t u:Int} (hu:0 < u) (p:Int):(Sc t p:Rat) * tw p=Rat.divInt t u * (Vc u p:Int):=by
 have e:=div_mul (t:=t) hu
 unfold Sc Vc
 rw [Rat.intCast_mul,Rat.intCast_mul,Rat.mul_assoc,tw_toNat,<- Rat.mul_assoc,e]
theorem cut_rat {n:Nat} {t u w p:Int} (hu:0 < u):Cut n t u w p ↔ CutR n (Rat.divInt t u) w p:=by
 have hV:(0:Rat) < (Vc u p:Int):=by have:=Vc_pos (p:=p) hu;exact_mod_cast this
 have ht:=tw_pos p
 have e:=sc_rat (t:=t) hu p
 have a1:w * Vc u p<=Sc t p ↔ w * tw p<=Rat.divInt t u:=by
  rw [<- le_mul hV,<- e,<- Rat.intCast_le_intCast,<- le_mul ht,Rat.intCast_mul]
  grind
 have a2:Sc t p < (w + 1) * Vc u p ↔ Rat.divInt t u < (w + 1) * tw p:=by
  rw [<- lt_mul hV,<- e,<- Rat.intCast_lt_intCast,<- lt_mul ht,Rat.intCast_mul,Rat.intCast_add]
  grind
 exact ⟨fun c=>⟨c.lo,c.hi,a1.mp c.le,a2.mp c.lt⟩,fun c=>⟨c.lo,c.hi,a1.mpr c.le,a2.mpr c.lt⟩⟩
theorem tw_le {p q:Int} (h:p<=q):tw p<=tw q:=by
 obtain ⟨k,rfl⟩:∃ k:Nat,q=p + k:=⟨(q - p).toNat,by lia⟩
 have hp:=tw_pos p
 have h1:(1:Rat)<=((2 ^ k:Int):Rat):=by have:=two_pow_pos k;exact_mod_cast (show (1:Int)<=2 ^ k by lia)
 have:=mul_le h1 hp
 rw [tw_add_nat];grind
theorem icast_le {a b:Int} (h:a<=b):(a:Rat)<=b:=by exact_mod_cast h
theorem pow_n {n:Nat} (hn:1<=n):(2:Int) ^ n=2 * 2 ^ (n - 1):=by
 conv=>lhs;rw [show n=(n - 1) + 1 by lia,Int.pow_succ]
 lia
theorem CutR.mono {n:Nat} {r s:Rat} {w p w' p':Int} (hn:1<=n) (c:CutR n r w p) (c':CutR n s w' p') (h:r<=s):p < p' \/ (p=p' /\ w<=w'):=by
 rcases Int.lt_trichotomy p p' with z | z | z
 ·exact .inl z
 ·subst z
  refine .inr ⟨rfl,?_⟩
  have hp:=tw_pos p
  have h1:=c.le
  have h2:=c'.lt
  have:(w:Rat) * tw p < (w' + 1) * tw p:=by grind
  rw [lt_mul hp] at this
  have:w < w' + 1:=by exact_mod_cast this
  lia
 ·exfalso
  have h1:=c.le
  have h2:=c'.lt
  have hp:=tw_pos p
  have hp':=tw_pos p'
  have l1:=mul_le (icast_le c.lo) hp
  have l2:=mul_le (icast_le (show w' + 1<=2 ^ n by have:=c'.hi;lia)) hp'
  have l3:tw (p' + 1)<=tw p:=tw_le (by lia)
  rw [tw_succ] at l3
  have e:((2 ^ n:Int):Rat)=2 * ((2 ^ (n - 1):Int):Rat):=by rw [pow_n hn];grind
  have hq:(0:Rat) < ((2 ^ (n - 1):Int):Rat):=by have:=two_pow_pos (n - 1);exact_mod_cast this
  have l4:=mul_le l3 hq
  have l5:((w' + 1:Int):Rat)=(w':Rat) + 1:=by grind
  rw [e,l5] at l2
  generalize ((2 ^ (n - 1):Int):Rat)=m at *
  generalize tw p=a at *
  generalize tw p'=b at *
  grind
theorem CutR.unique {n:Nat} {r:Rat} {w p w' p':Int} (hn:1<=n) (c:CutR n r w p) (c':CutR n r w' p'):w=w' /\ p=p':=by
 have h1:=c.mono hn c' Rat.le_refl
 have h2:=c'.mono hn c Rat.le_refl
 lia
structure NearR (n:Nat) (r:Rat) (W p:Int):Prop where
 ex:∃ w,CutR n r w p /\ ((W=w /\ (2 * (r - w * tw p) < tw p \/ (2 * (r - w * tw p)=tw p /\ w % 2=0))) \/ (W=w + 1 /\ (tw p < 2 * (r - w * tw p) \/ (2 * (r - w * tw p)=tw p /\ w % 2=1))))
theorem NearR.unique {n:Nat} {r:Rat} {w p w' p':Int} (hn:1<=n) (c:NearR n r w p) (c':NearR n r w' p'):w=w' /\ p=p':=by
 obtain ⟨v,c,h⟩:=c.ex
 obtain ⟨v',c',h'⟩:=c'.ex
 obtain ⟨rfl,rfl⟩:=c.unique hn c'
 refine ⟨?_,rfl⟩
 rcases h with ⟨e,h⟩ | ⟨e,h⟩ <;> rcases h' with ⟨e',h'⟩ | ⟨e',h'⟩ <;> grind
theorem NearR.bound {n:Nat} {r:Rat} {W p:Int} (c:NearR n r W p):2 ^ (n - 1)<=W /\ W<=2 ^ n:=by
 obtain ⟨v,c,h⟩:=c.ex
 have:=c.lo
 have:=c.hi
 rcases h with ⟨e,h⟩ | ⟨e,h⟩ <;> lia
theorem NearR.mono {n:Nat} {r s:Rat} {W p W' p':Int} (hn:1<=n) (c:NearR n r W p) (c':NearR n s W' p') (h:r<=s):W * tw p<=W' * tw p':=by
 have b:=c.bound
 have b':=c'.bound
 obtain ⟨v,c,k⟩:=c.ex
 obtain ⟨v',c',k'⟩:=c'.ex
 have hp:=tw_pos p
 have hp':=tw_pos p'
 rcases c.mono hn c' h with z | ⟨rfl,z⟩
 ·have l1:=mul_le (icast_le b.2) hp
  have l2:=mul_le (icast_le b'.1) hp'
  have l3:tw (p + 1)<=tw p':=tw_le (by lia)
  rw [tw_succ] at l3
  have e:((2 ^ n:Int):Rat)=2 * ((2 ^ (n - 1):Int):Rat):=by rw [pow_n hn];grind
  have hq:(0:Rat) < ((2 ^ (n - 1):Int):Rat):=by have:=two_pow_pos (n - 1);exact_mod_cast this
  have l4:=mul_le l3 hq
  rw [e] at l1
  generalize ((2 ^ (n - 1):Int):Rat)=m at *
  generalize tw p=a at *
  generalize tw p'=b at *
  grind
 ·refine mul_le (icast_le ?_) hp
  rcases Int.lt_or_eq_of_le z with z | z
  ·rcases k with ⟨e,k⟩ | ⟨e,k⟩ <;> rcases k' with ⟨e',k'⟩ | ⟨e',k'⟩ <;> lia
  ·subst z
   rcases k with ⟨e,k⟩ | ⟨e,k⟩ <;> rcases k' with ⟨e',k'⟩ | ⟨e',k'⟩
   ·lia
   ·lia
   ·exfalso;grind
   ·lia
theorem near_rat {n:Nat} {t u:Int} (hn:1<=n) (ht:0 < t) (hu:0 < u):NearR n (Rat.divInt t u) (nearW n t u) (cutPow n t u):=by
 have c:=cut_spec hn ht hu
 refine ⟨cutW n t u,(cut_rat hu).mp c,?_⟩
 have e:=sc_rat (t:=t) hu (cutPow n t u)
 have hV:(0:Rat) < (Vc u (cutPow n t u):Int):=by have:=Vc_pos (p:=cutPow n t u) hu;exact_mod_cast this
 have hp:=tw_pos (cutPow n t u)
 unfold nearW
 generalize hw:cutW n t u=w at *
 generalize hq:cutPow n t u=p at *
 have er:cutR n t u=Sc t p - w * Vc u p:=by unfold cutR;rw [hw,hq]
 rw [er]
 have k:(((2 * (Sc t p - w * Vc u p):Int):Rat)) * tw p=2 * (Rat.divInt t u - w * tw p) * (Vc u p:Int):=by
  have:((2 * (Sc t p - w * Vc u p):Int):Rat)=2 * ((Sc t p:Rat) - w * (Vc u p:Int)):=by grind
  rw [this];grind
 have a1:2 * (Sc t p - w * Vc u p) > Vc u p ↔ tw p < 2 * (Rat.divInt t u - w * tw p):=by
  rw [<- lt_mul hV,<- k,gt_iff_lt,<- Rat.intCast_lt_intCast,<- lt_mul hp,Rat.mul_comm (tw p)]
 have a2:2 * (Sc t p - w * Vc u p)=Vc u p ↔ 2 * (Rat.divInt t u - w * tw p)=tw p:=by
  rw [<- eq_mul hV,<- k,<- Rat.intCast_inj,<- eq_mul hp,Rat.mul_comm (tw p)]
 have a3:2 * (Sc t p - w * Vc u p) < Vc u p ↔ 2 * (Rat.divInt t u - w * tw p) < tw p:=by
  rw [<- lt_mul hV,<- k,<- Rat.intCast_lt_intCast,<- lt_mul hp,Rat.mul_comm (tw p)]
 rw [<- a1,<- a2,<- a3]
 split <;> lia
def nearQ (n:Nat) (r:Rat):Int × Int:=nearF n r.num r.den
theorem den_pos (r:Rat):(0:Int) < r.den:=by have:=r.den_nz;lia
theorem num_pos {r:Rat}:0 < r.num ↔ 0 < r:=by rw [Rat.lt_iff];simp
theorem bareF_negF (w p:Int):bareF (-w) p=negF (bareF w p):=by rw [bareF_neg];rfl
theorem negF_negF (x:Int × Int):negF (negF x)=x:=by unfold negF;simp
theorem nearF_neg (n:Nat) (t u:Int):nearF n (-t) u=negF (nearF n t u):=by
 unfold nearF
 rcases Int.lt_trichotomy t 0 with h | h | h
 ·rw [if_neg (by lia),if_neg (by lia),if_neg (by lia),if_pos h,bareF_negF,negF_negF]
 ·subst h;simp [negF]
 ·rw [if_neg (by lia),if_pos (by lia),if_neg (by lia),if_neg (by lia),Int.neg_neg,bareF_negF]
theorem nearQ_neg (n:Nat) (r:Rat):nearQ n (-r)=negF (nearQ n r):=by
 unfold nearQ
 rw [Rat.neg_num,Rat.neg_den,nearF_neg]
theorem nearQ_zero (n:Nat):nearQ n 0=(0,0):=by unfold nearQ nearF;simp
theorem nearQ_pos {n:Nat} {r:Rat} (hn:1<=n) (h:0 < r):∃ W p,NearR n r W p /\ nearQ n r=bareF W p:=by
 have h1:0 < r.num:=num_pos.mpr h
 refine ⟨nearW n r.num r.den,cutPow n r.num r.den,?_,?_⟩
 ·have:=near_rat hn h1 (den_pos r)
  rw [<- rat_eq] at this
  exact this
 ·unfold nearQ nearF
  rw [if_neg (by lia),if_neg (by lia)]
theorem nearQ_is {n:Nat} {r:Rat} {W p:Int} (hn:1<=n) (h:0 < r) (k:NearR n r W p):nearQ n r=bareF W p:=by
 obtain ⟨W',p',k',e⟩:=nearQ_pos hn h
 obtain ⟨rfl,rfl⟩:=k.unique hn k'
 exact e
theorem nearQ_mono_pos {n:Nat} {r s:Rat} (hn:1<=n) (h0:0 < r) (h:r<=s):vr (nearQ n r)<=vr (nearQ n s):=by
 obtain ⟨W,p,k,e⟩:=nearQ_pos hn h0
 obtain ⟨W',p',k',e'⟩:=nearQ_pos (r:=s) hn (by grind)
 rw [e,e',vr_bareF,vr_bareF]
 exact k.mono hn k' h
theorem vr_near_pos {n:Nat} {r:Rat} (hn:1<=n) (h:0 < r):0 < vr (nearQ n r):=by
 obtain ⟨W,p,k,e⟩:=nearQ_pos hn h
 have b:=k.bound
 have:=two_pow_pos (n - 1)
 rw [e,vr_bareF]
 exact Rat.mul_pos (by exact_mod_cast (show 0 < W by lia)) (tw_pos p)
theorem nearQ_mono {n:Nat} {r s:Rat} (hn:1<=n) (h:r<=s):vr (nearQ n r)<=vr (nearQ n s):=by
 rcases rlt_or 0 r with z | z
 ·exact nearQ_mono_pos hn z h
 ·rcases rlt_or s 0 with y | y
  ·have:=nearQ_mono_pos (n:=n) (r:=-s) (s:=-r) hn (by grind) (by grind)
   rw [nearQ_neg,nearQ_neg,vr_neg,vr_neg] at this
   grind
  ·have h1:vr (nearQ n r)<=0:=by
    by_cases e:r=0
    ·subst e;rw [nearQ_zero];simp [vr]
    ·have:=vr_near_pos (n:=n) (r:=-r) hn (by grind)
     rw [nearQ_neg,vr_neg] at this
     grind
   have h2:0<=vr (nearQ n s):=by
    by_cases e:s=0
    ·subst e;rw [nearQ_zero];simp [vr]
    ·have:=vr_near_pos (n:=n) (r:=s) hn (by grind)
     grind
   grind
theorem nearQ_fix {n:Nat} {x:Int × Int} (hn:1<=n) (h:Num n x.1 x.2):nearQ n (vr x)=x:=by
 have pos:∀ m p:Int,0 < m->m % 2=1->m.natAbs < 2 ^ n->nearQ n (vr (m,p))=(m,p):=by
  intro m p hm ho hs
  obtain ⟨m1,m2⟩:=nat_abs_pos hm
  have bm:=bits_pos (show m ≠ 0 by lia)
  have bn:bits m<=n:=bits_le_iff.mpr hs
  obtain ⟨k,hk⟩:∃ k:Nat,bits m + k=n:=⟨n - bits m,by lia⟩
  have hkp:=two_pow_pos k
  have e:vr (m,p)=((m * 2 ^ k:Int):Rat) * tw (p - k):=by
   have h1:=tw_add_nat (p - k) k
   rw [show p - (k:Int) + k=p by lia] at h1
   unfold vr
   simp only []
   rw [h1,Rat.intCast_mul];grind
  have tp:=tw_pos (p - k)
  have c:NearR n (vr (m,p)) (m * 2 ^ k) (p - k):=by
   refine ⟨m * 2 ^ k,⟨?_,?_,?_,?_⟩,.inl ⟨rfl,.inl ?_⟩⟩
   ·rw [show n - 1=(bits m - 1) + k by lia,Int.pow_add]
    exact Int.mul_le_mul_of_nonneg_right m1 (by lia)
   ·rw [<- hk,Int.pow_add]
    exact Int.mul_lt_mul_of_pos_right m2 hkp
   ·rw [e];exact Rat.le_refl
   ·rw [e];grind
   ·rw [e];grind
  have hv:0 < vr (m,p):=Rat.mul_pos (by exact_mod_cast hm) (tw_pos p)
  rw [nearQ_is hn hv c,bareF_mul ho]
  simp only [Prod.mk.injEq,true_and]
  lia
 obtain ⟨m,p⟩:=x
 obtain ⟨ho,hs⟩:=h
 simp only [] at ho hs
 rcases ho with ho | ⟨rfl,rfl⟩
 ·rcases Int.lt_trichotomy m 0 with z | z | z
  ·have:=pos (-m) p (by lia) (by lia) (by lia)
   have e:vr (-m,p)=-vr (m,p):=vr_neg (m,p)
   rw [e,nearQ_neg] at this
   rw [<- negF_negF (nearQ n (vr (m,p))),this]
   simp [negF]
  ·lia
  ·exact pos m p z ho hs
 ·have:vr (0,0)=0:=by simp [vr]
  rw [this,nearQ_zero]
theorem bareF_num {n:Nat} {W p:Int} (h1:0<=W) (h2:W<=2 ^ n) (hn:1<=n):Num n (bareF W p).1 (bareF W p).2:=by
 by_cases h0:W=0
 ·subst h0;rw [bareF_zero];exact ⟨.inr ⟨rfl,rfl⟩,Nat.two_pow_pos n⟩
 ·rcases Int.lt_or_eq_of_le h2 with z | z
  ·have hw:W.natAbs < 2 ^ n:=by
    have:((2 ^ n:Nat):Int)=2 ^ n:=by simp
    lia
   exact (bareF_bare W p).num hw
  ·have e:W=1 * 2 ^ n:=by lia
   rw [e,bareF_mul (by decide)]
   exact ⟨.inl (by show (1:Int) % 2=1;decide),by have:=Nat.pow_lt_pow_right (a:=2) (by decide) (show 0 < n by lia);simpa using this⟩
structure OkN (n:Nat) (M:Int) (x:Int × Int):Prop where
 num:Num n x.1 x.2
 lo:-M<=x.2
 hi:x.2<=M
theorem OkN.neg {n:Nat} {M:Int} {x:Int × Int} (h:OkN n M x):OkN n M (negF x):=by
 obtain ⟨⟨ho,hs⟩,h1,h2⟩:=h
 exact ⟨⟨by unfold negF;simp only [];lia,by unfold negF;simp only [];lia⟩,h1,h2⟩
theorem gcd_odd {w:Int} {n:Nat} (h:w % 2=1):Int.gcd w (2 ^ n)=1:=by
 have:Nat.Coprime w.natAbs (2 ^ n):=Nat.Coprime.pow_right n (by
  have:w.natAbs % 2=1:=by lia
  unfold Nat.Coprime
  rw [Nat.gcd_comm,Nat.gcd_rec,this];rfl)
 show Nat.gcd w.natAbs (2 ^ n:Int).natAbs=1
 rw [Int.natAbs_pow]
 exact this
theorem rq_of {a b:Int} (hb:0 < b) (hg:Int.gcd a b=1):.tup [.int a,.int b]=rq (Rat.divInt a b):=by
 unfold rq
 rw [Rat.num_divInt,Rat.den_divInt,if_neg (by lia),Int.sign_eq_one_of_pos hb,Int.one_mul,Int.gcd_comm,hg]
 simp
 lia
theorem value_rq {n:Nat} {x:Int × Int} (h:Num n x.1 x.2):.tup [.int (if x.2 < 0 then x.1 else x.1 * 2 ^ x.2.toNat),.int (if x.2 < 0 then 2 ^ (-x.2).toNat else 1)]=rq (vr x):=by
 obtain ⟨w,p⟩:=x
 simp only [] at h ⊢
 by_cases hp:p < 0
 ·simp only [hp,if_true]
  have ho:w % 2=1:=by rcases h.odd with z | z <;> lia
  rw [rq_of (two_pow_pos _) (gcd_odd ho)]
  congr 1
  have hq:=two_pow_pos (-p).toNat
  have hQ:(0:Rat) < ((2 ^ (-p).toNat:Int):Rat):=by exact_mod_cast hq
  refine (eq_mul hQ).mp ?_
  rw [div_mul hq]
  have e:=tw_toNat p
  rw [show p.toNat=0 by lia] at e
  unfold vr
  simp only []
  rw [Rat.mul_assoc,Rat.mul_comm (tw p),e]
  simp
 ·simp only [hp,if_false]
  rw [rq_of (by decide) (by simp)]
  congr 1
  obtain ⟨k,rfl⟩:∃ k:Nat,p=k:=⟨p.toNat,by lia⟩
  unfold vr
  simp only []
  rw [tw_nat,Int.toNat_natCast,<- Rat.intCast_mul]
  have h:=div_mul (t:=w * 2 ^ k) (u:=1) (by decide)
  rw [<- h]
  have e1:((1:Int):Rat)=1:=rfl
  rw [e1,Rat.mul_one]
theorem dep_nq (x:Int × Int):depD (nq x)=1:=by simp [nq,dep_tup,deps_c,deps_n,dep_int]
end Z
namespace Z
open PySem
theorem tw_add (p q:Int):tw (p + q)=tw p * tw q:=by unfold tw;exact Rat.zpow_add two_ne ..
theorem tw_neg_mul (p:Int):tw (-p) * tw p=1:=by rw [<- tw_add,show -p + p=0 by lia,tw_zero]
def OddP (x:Int × Int):Prop:=x.1 % 2=1 \/ (x.1=0 /\ x.2=0)
theorem OddP.num {x:Int × Int} (h:OddP x):∃ n,1<=n /\ ∀ m,n<=m->Num m x.1 x.2:=by
 refine ⟨bits x.1 + 1,by lia,fun m hm=>⟨h,?_⟩⟩
 exact bits_le_iff.mp (by lia)
theorem odd_unique {x y:Int × Int} (hx:OddP x) (hy:OddP y) (e:vr x=vr y):x=y:=by
 obtain ⟨n,n1,h1⟩:=hx.num
 obtain ⟨m,m1,h2⟩:=hy.num
 have f1:=nearQ_fix (n:=n + m) (by lia) (h1 _ (by lia))
 have f2:=nearQ_fix (n:=n + m) (by lia) (h2 _ (by lia))
 rw [<- f1,<- f2,e]
theorem bareF_odd (w p:Int):OddP (bareF w p):=by
 have b:=bareF_bare w p
 by_cases h:w=0
 ·exact .inr (b.nought h)
 ·obtain ⟨v,_,_,ho⟩:=b.same h
  exact .inl ho
def dq (v:Rat):Int × Int:=bareF v.num (-(v2 v.den:Int))
theorem dq_of {x:Int × Int} (h:OddP x):dq (vr x)=x:=by
 obtain ⟨n,_,hn⟩:=h.num
 have e:=value_rq (hn n (Nat.le_refl _))
 unfold rq at e
 simp only [D.tup.injEq,List.cons.injEq,D.int.injEq,and_true] at e
 obtain ⟨e1,e2⟩:=e
 obtain ⟨w,p⟩:=x
 simp only [] at e1 e2
 unfold dq
 rw [<- e1]
 by_cases hp:p < 0
 ·rw [if_pos hp] at e2 ⊢
  have ho:w % 2=1:=by
   rcases h with h | h
   ·exact h
   ·simp only [] at h;lia
  have e3:(vr (w,p)).den=2 ^ (-p).toNat * 1:=by
   have:(((vr (w,p)).den:Nat):Int)=((2 ^ (-p).toNat:Nat):Int):=by rw [<- e2];simp
   lia
  rw [e3,v2_mul (by decide)]
  have:=bareF_mul ho 0 (-(((-p).toNat:Nat):Int))
  rw [Int.pow_zero,Int.mul_one] at this
  rw [this]
  simp only [Prod.mk.injEq,true_and]
  lia
 ·rw [if_neg hp] at e2 ⊢
  have e3:(vr (w,p)).den=1:=by lia
  rw [e3,v2_odd (by decide)]
  rcases h with h | h
  ·simp only [] at h
   rw [bareF_mul h]
   simp only [Prod.mk.injEq,true_and]
   lia
  ·simp only [] at h
   rw [h.1,h.2];simp [bareF]
theorem bare_dq (w p:Int):bareF w p=dq (w * tw p):=by
 rw [<- vr_bareF,dq_of (bareF_odd w p)]
theorem near_num {n:Nat} {r:Rat} (hn:1<=n):Num n (nearQ n r).1 (nearQ n r).2:=by
 have pos:∀ r:Rat,0 < r->Num n (nearQ n r).1 (nearQ n r).2:=fun r h=>by
  obtain ⟨W,p,k,e⟩:=nearQ_pos hn h
  rw [e]
  have:=two_pow_pos (n - 1)
  exact bareF_num (by have:=k.bound;lia) k.bound.2 hn
 rcases rlt_or 0 r with y | y
 ·exact pos r y
 ·by_cases h0:r=0
  ·subst h0;rw [nearQ_zero];exact ⟨.inr ⟨rfl,rfl⟩,Nat.two_pow_pos n⟩
  ·have:=pos (-r) (by grind)
   rw [nearQ_neg] at this
   obtain ⟨ho,hs⟩:=this
   unfold negF at ho hs
   simp only [] at ho hs
   exact ⟨by lia,by lia⟩
theorem rabs_le {a b:Rat} (h1:-b<=a) (h2:a<=b):a.abs<=b:=by
 unfold Rat.abs;split <;> grind
theorem rabs_neg (a:Rat):(-a).abs=a.abs:=by unfold Rat.abs;split <;> split <;> grind
theorem rabs_pos {a:Rat} (h:0<=a):a.abs=a:=by unfold Rat.abs;rw [if_pos h]
theorem NearR.half {n:Nat} {r:Rat} {W p:Int} (c:NearR n r W p):2 * (r - W * tw p).abs<=tw p:=by
 obtain ⟨w,c,h⟩:=c.ex
 have h1:=c.le
 have h2:=c.lt
 have tp:=tw_pos p
 rcases h with ⟨e,h⟩ | ⟨e,h⟩
 ·subst e
  rw [rabs_pos (by grind)]
  grind
 ·subst e
  have e1:((w + 1:Int):Rat)=w + 1:=by grind
  rw [<- rabs_neg,rabs_pos (by rw [e1];grind),e1]
  grind
theorem icast_mul_tw {k:Int} {m:Int} {d:Nat}:((k * 2 ^ d:Int):Rat) * tw m=k * tw (m + d):=by
 rw [tw_add_nat,Rat.intCast_mul];grind
theorem tw_cmp {a b:Int} {m:Int}:(a:Rat) * tw m < b * tw m ↔ a < b:=by rw [lt_mul (tw_pos m)];exact Rat.intCast_lt_intCast
theorem tw_cmp_le {a b:Int} {m:Int}:(a:Rat) * tw m<=b * tw m ↔ a<=b:=by rw [le_mul (tw_pos m)];exact Rat.intCast_le_intCast
theorem iabs_mul_tw (j m:Int):((j:Rat) * tw m).abs=((j.natAbs:Int):Rat) * tw m:=by
 have tp:=tw_pos m
 rcases Int.le_total 0 j with h | h
 ·have e:(j.natAbs:Int)=j:=by lia
  have:(0:Rat)<=j:=by exact_mod_cast h
  rw [rabs_pos,e]
  have:=mul_le this tp
  grind
 ·have e:(j.natAbs:Int)=-j:=by lia
  have:(j:Rat)<=0:=by exact_mod_cast h
  have:=mul_le this tp
  rw [<- rabs_neg,rabs_pos (by grind),e,Rat.intCast_neg];grind
theorem rest_of {n N:Nat} {k m:Int} (hn:1<=n) (hk:k.natAbs < 2 ^ N):∃ j:Int,(k:Rat) * tw m - vr (nearQ n (k * tw m))=j * tw m /\ 2 * j.natAbs * 2 ^ n<=2 ^ N:=by
 have pos:∀ k:Int,0 < k->k.natAbs < 2 ^ N->∃ j:Int,(k:Rat) * tw m - vr (nearQ n (k * tw m))=j * tw m /\ 2 * j.natAbs * 2 ^ n<=2 ^ N:=by
  intro k h0 hk
  have tm:=tw_pos m
  have hv:(0:Rat) < k * tw m:=Rat.mul_pos (by exact_mod_cast h0) tm
  obtain ⟨W,p,kk,e⟩:=nearQ_pos hn hv
  have hh:=kk.half
  have bd:=kk.bound
  obtain ⟨w,c,alt⟩:=kk.ex
  have c1:=c.le
  have c2:=c.lt
  rw [e,vr_bareF]
  rcases Int.le_total p m with hp | hp
  ·obtain ⟨d,rfl⟩:∃ d:Nat,m=p + d:=⟨(m - p).toNat,by lia⟩
   rw [<- icast_mul_tw] at *
   have l1:=tw_cmp_le.mp c1
   have e3:((w:Rat) + 1)=((w + 1:Int):Rat):=by grind
   rw [e3] at c2
   have l2:=tw_cmp.mp c2
   have ew:k * 2 ^ d=w:=by lia
   rw [ew] at alt ⊢
   have tp:=tw_pos p
   refine ⟨0,?_,by simp⟩
   rcases alt with ⟨rfl,alt⟩ | ⟨rfl,alt⟩
   ·have:((0:Int):Rat)=0:=rfl
    rw [this];grind
   ·exfalso
    rcases alt with z | ⟨z,_⟩ <;> grind
  ·obtain ⟨d,rfl⟩:∃ d:Nat,p=m + d:=⟨(p - m).toNat,by lia⟩
   have e1:(W:Rat) * tw (m + d)=((W * 2 ^ d:Int):Rat) * tw m:=icast_mul_tw.symm
   have e2:(k:Rat) * tw m - W * tw (m + d)=((k - W * 2 ^ d:Int):Rat) * tw m:=by rw [e1,Rat.intCast_sub];grind
   refine ⟨k - W * 2 ^ d,e2,?_⟩
   rw [e2,iabs_mul_tw] at hh
   have e4:tw (m + d)=((2 ^ d:Int):Rat) * tw m:=by rw [tw_add_nat];grind
   rw [e4] at hh
   have e5:2 * ((((k - W * 2 ^ d).natAbs:Int):Rat) * tw m)=((2 * ((k - W * 2 ^ d).natAbs:Int):Int):Rat) * tw m:=by rw [Rat.intCast_mul];grind
   rw [e5] at hh
   have l1:=tw_cmp_le.mp hh
   have e6:(w:Rat) * tw (m + d)=((w * 2 ^ d:Int):Rat) * tw m:=icast_mul_tw.symm
   rw [e6] at c1
   have l2:=tw_cmp_le.mp c1
   have l3:=c.lo
   have k1:(2:Int) ^ (n - 1) * 2 ^ d<=w * 2 ^ d:=Int.mul_le_mul_of_nonneg_right l3 (Int.le_of_lt (two_pow_pos d))
   have k2:(2:Int) ^ (n - 1 + d) < 2 ^ N:=by
    rw [Int.pow_add]
    have:((k.natAbs:Nat):Int) < ((2 ^ N:Nat):Int):=by exact_mod_cast hk
    have e7:((2 ^ N:Nat):Int)=2 ^ N:=by simp
    lia
   have k3:n - 1 + d < N:=by
    have:(2:Nat) ^ (n - 1 + d) < 2 ^ N:=by exact_mod_cast k2
    exact (Nat.pow_lt_pow_iff_right (by decide)).mp this
   have k4:2 * (k - W * 2 ^ d).natAbs<=2 ^ d:=by
    have e7:((2 ^ d:Nat):Int)=2 ^ d:=by simp
    lia
   calc 2 * (k - W * 2 ^ d).natAbs * 2 ^ n<=2 ^ d * 2 ^ n:=Nat.mul_le_mul_right _ k4
    _=2 ^ (d + n):=(Nat.pow_add ..).symm
    _<=2 ^ N:=Nat.pow_le_pow_right (by decide) (by lia)
 rcases Int.lt_trichotomy k 0 with h | h | h
 ·obtain ⟨j,e,hj⟩:=pos (-k) (by lia) (by lia)
  refine ⟨-j,?_,by rw [Int.natAbs_neg];exact hj⟩
  have e1:((-k:Int):Rat) * tw m=-(k * tw m):=by rw [Rat.intCast_neg];grind
  rw [e1,nearQ_neg,vr_neg] at e
  rw [Rat.intCast_neg];grind
 ·subst h
  refine ⟨0,?_,by simp⟩
  have e0:((0:Int):Rat) * tw m=0:=by grind
  rw [e0,nearQ_zero]
  have:vr (0,0)=0:=by simp [vr]
  rw [this];grind
 ·exact pos k h hk
end Z
namespace Z
open PySem
end Z
set_option exponentiation.threshold 3000
namespace Z
open PySem
def b_one_form (i_odd_form:Nat):Sm :=
 (.seq (.ite (.cmp .eq (.ix (.var 0) (.cst (.int 0))) (.cst (.int 0))) (.seq (.ret (.tup [(.cst (.int 0)),(.cst (.int 0))]))
  .nop) .nop)
 (.seq (.ret (.call i_odd_form [(.ix (.var 0) (.cst (.int 0))),(.ix (.var 0) (.cst (.int 1)))]))
 .nop))
theorem nq_inj {x y:Int × Int} (h:nq x=nq y):x=y:=by
 obtain ⟨a,b⟩:=x
 obtain ⟨c,d⟩:=y
 simp only [nq,D.tup.injEq,List.cons.injEq,D.int.injEq,and_true] at h
 rw [h.1,h.2]
theorem ix_nq0 (x:Int × Int) {Q:D->Prop}:ixD (nq x) (.int 0) Q=Q (.int x.1):=by
 unfold nq;rw [ix_tup];simp [atD_0]
theorem ix_nq1 (x:Int × Int) {Q:D->Prop}:ixD (nq x) (.int 1) Q=Q (.int x.2):=by
 unfold nq;rw [ix_tup];simp [atD_1]
theorem mk_nq (a b:Int):D.tup [.int a,.int b]=nq (a,b):=rfl
def cP0 (ok:Int × Int->Prop) (f:Int × Int->D):Ctr where
 pre ds:=∃ x,ds=[nq x] /\ ok x
 res ds d:=∀ x,ds=[nq x]->d=f x
section
variable {x y:Int × Int} {n:Int} {d:D} {Q:D->Prop} {E:XD->Prop}
theorem res_P0 {ok f}:(cP0 ok f).res [nq x] d ↔ d=f x:=by
 refine ⟨fun h=>h x rfl,fun h x' e=>?_⟩
 simp only [List.cons.injEq,and_true] at e
 cases nq_inj e;exact h
theorem wp_P0 {ok f}:(cP0 ok f).wp [nq x] Q E ↔ ok x /\ Q (f x):=by
 unfold Ctr.wp
 simp only [res_P0,forall_eq]
 refine ⟨fun ⟨⟨x',e,h⟩,q,_⟩=>⟨?_,q⟩,fun ⟨h,q⟩=>⟨⟨x,rfl,h⟩,q,fun _ z=>z.elim⟩⟩
 simp only [List.cons.injEq,and_true] at e
 cases nq_inj e;exact h
end
def wOk (n:Int):Prop:=8<=n /\ n<=64
def farOk (x:Int × Int):Prop:=(-100000<=x.2 /\ x.2<=100000) /\ bits x.1<=100000
def c_one_form:Ctr:=cP0 (fun _=>True) fun x=>nq (dq (vr x))
theorem k_one_form {C:Cfg} {i:Nat} (h1:C.ct i=c_odd_form):Keeps C 1 (b_one_form i) c_one_form:=by
 rintro ds ⟨x,rfl,_⟩
 simp_all_arith! only [b_one_form,ix_nq0,ix_nq1,h1,c_odd_form,c_one_form,res_P0]
 have e:dq (vr x)=bareF x.1 x.2:=(bare_dq x.1 x.2).symm
 rw [e]
 by_cases h:x.1=0
 ·rw [if_pos h,h,bareF_zero];rfl
 ·rw [if_neg h]
  exact ⟨h,rfl⟩
def mulOkP (x y:Int × Int) (n:Int):Prop:=wOk n /\ ((-20000<=x.2 /\ x.2<=20000) /\ (-20000<=y.2 /\ y.2<=20000)) /\ bits x.1<=2200 /\ bits y.1<=2200
theorem mulOkP.bits {x y:Int × Int} {n:Int} (h:mulOkP x y n):bits (x.1 * y.1)<=4400:=by
 have:=bits_mul x.1 y.1
 have:=h.2.2
 lia
end Z
set_option exponentiation.threshold 3000
namespace Z
open PySem
theorem compL_map {α:Type} {f:D->(D->Prop)->Prop} {g h:α->D}:∀ {l:List α} {Q:List D->Prop},(∀ a ∈ l,∀ Q,f (g a) Q ↔ Q (h a))->(compL f (l.map g) Q ↔ Q (l.map h))
 | [],Q,_=>by simp [compL]
 | a :: l,Q,k=>by
   rw [List.map_cons,compL,k a (List.mem_cons_self ..),compL_map fun b hb=>k b (List.mem_cons_of_mem _ hb)]
   rfl
theorem pick_le (a b:Int):pick false a b<=a /\ pick false a b<=b /\ (pick false a b=a \/ pick false a b=b):=by
 unfold pick;simp only [Bool.false_eq_true,if_false];split <;> lia
theorem fold_le:∀ (ns:List Int) (m:Int),ns.foldl (pick false) m<=m /\ (∀ x ∈ ns,ns.foldl (pick false) m<=x) /\ (ns.foldl (pick false) m=m \/ ns.foldl (pick false) m ∈ ns)
 | [],m=>by simp
 | n :: ns,m=>by
   have p:=pick_le m n
   obtain ⟨h1,h2,h3⟩:=fold_le ns (pick false m n)
   rw [List.foldl_cons]
   refine ⟨by lia,fun x hx=>?_,?_⟩
   ·rcases List.mem_cons.mp hx with rfl | hx
    ·lia
    ·exact h2 x hx
   ·rcases h3 with z | z
    ·rcases p.2.2 with q | q
     ·left;lia
     ·right;rw [z,q];exact List.mem_cons_self ..
    ·right;exact List.mem_cons_of_mem _ z
theorem mmF_le {d:Int} {ns:List Int}:(∀ x ∈ ns,mmF false d ns<=x) /\ (mmF false d ns ∈ ns \/ (ns=[] /\ mmF false d ns=d)):=by
 cases ns with
 | nil=>exact ⟨fun x hx=>absurd hx (by simp),Or.inr ⟨rfl,rfl⟩⟩
 | cons n ns =>
   obtain ⟨h1,h2,h3⟩:=fold_le ns n
   refine ⟨fun x hx=>?_,Or.inl ?_⟩
   ·rcases List.mem_cons.mp hx with rfl | hx
    ·exact h1
    ·exact h2 x hx
   ·rcases h3 with z | z
    ·show ns.foldl (pick false) n ∈ _
     rw [z];exact List.mem_cons_self ..
    ·exact List.mem_cons_of_mem _ z
theorem map_nq_inj {xs ys:List (Int × Int)} (h:[D.lst (xs.map nq)]=[D.lst (ys.map nq)]):xs=ys:=by
 simp only [List.cons.injEq,D.lst.injEq,and_true] at h
 exact map_inj (fun a b h=>nq_inj h) h
end Z
set_option exponentiation.threshold 3000
namespace Z
open PySem
theorem guard {C:Cfg} {c:Ex} {a b:Sm} {K:DE} {σ:Sto} (hc:wpE C c σ fun d=>d=.bl false) (h:wpS C b K σ):wpS C (.seq (.ite c a .nop) b) K σ:=by
 rw [ws_seq,ws_ite]
 refine wpE_mono c (fun d e=>?_) hc
 subst e
 rw [isB_bl,if_neg (by decide),ws_nop]
 exact h
section
variable {Q:D->Prop} {E:XD->Prop}
theorem wp_bare {w p:Int} (h:bits w<=9000):c_bare.wp [.int w,.int p] Q E ↔ Q (nq (dq (w * tw p))):=by
 unfold Ctr.wp c_bare
 simp only []
 constructor
 ·intro ⟨_,q,_⟩
  rw [<- bare_dq]
  exact q _ ⟨_,_,rfl,bareF_bare w p⟩
 ·intro q
  refine ⟨h,?_,fun _ z=>z.elim⟩
  rintro d ⟨w',p',rfl,hb⟩
  rw [mk_nq,hb.eq,bare_dq]
  exact q
theorem wp_parts {w p:Int} (h:bits w<=1000000 /\ -1000000<=p /\ p<=1000000):c_parts.wp [.int w,.int p] Q E ↔ Q (.tup [.int (w * 2 ^ p.toNat),.int (2 ^ (-p).toNat)]):=by
 unfold Ctr.wp c_parts
 simp only []
 exact ⟨fun w=>w.2.1 _ rfl,fun q=>⟨h,fun d e=>by rw [e];exact q,fun _ z=>z.elim⟩⟩
end
theorem bits_shl {w:Int} {k:Nat}:bits (w * 2 ^ k)<=bits w + k:=by
 by_cases h:w=0
 ·subst h
  have:bits 0=0:=by decide
  rw [Int.zero_mul];lia
 ·rw [bits_le_iff,Int.natAbs_mul,Int.natAbs_pow,Nat.pow_add]
  exact Nat.mul_lt_mul_of_pos_right (bits_le_iff.mp (Nat.le_refl _)) (Nat.two_pow_pos k)
theorem OkN.bits {n:Nat} {M:Int} {x:Int × Int} (h:OkN n M x):bits x.1<=n:=bits_le_iff.mpr h.num.sz
theorem eqD_refl:∀ d:D,eqD d d=true:=by
 intro d
 refine D.rec (motive_1:=fun d=>eqD d d=true) (motive_2:=fun ds=>eqDs ds ds=true) ?_ ?_ ?_ ?_ ?_ ?_ ?_ ?_ d
 ·simp [eqD]
 ·intro b;simp [eqD]
 ·intro i;simp [eqD]
 ·intro x;simp [eqD]
 ·intro xs h;simpa [eqD] using h
 ·intro xs h;simpa [eqD] using h
 ·simp [eqDs]
 ·intro h t a b;simp [eqDs,a,b]
theorem OkN.far {n:Nat} {M:Int} {x:Int × Int} (h:OkN n M x) (hn:n<=64) (hM:M<=100000):farOk x:=by
 have:=h.bits
 have:=h.lo
 have:=h.hi
 exact ⟨⟨by lia,by lia⟩,by lia⟩
theorem rest_pow {z:Int × Int} {j m:Int} (hz:OddP z) (e:vr z=j * tw m):m<=z.2 \/ z=(0,0):=by
 have h:z=bareF j m:=odd_unique hz (bareF_odd _ _) (by rw [vr_bareF,e])
 rw [h]
 have b:=bareF_bare j m
 by_cases h0:j=0
 ·right;subst h0;exact bareF_zero m
 ·obtain ⟨v,_,ep,_⟩:=b.same h0
  left;lia
section
variable {Q:D->Prop} {E:XD->Prop}
theorem wp_width {ns:List Int} {k:Int} (hl:ns.length<=63) (hk:0<=k):c_width.wp [.lst (ns.map .int),.int k] Q E ↔ ∀ n:Nat,8<=n->n<=64->Q (.int n):=by
 unfold Ctr.wp c_width
 constructor
 ·intro w n h1 h2
  exact w.2.1 _ ⟨n,rfl,by lia,by lia⟩
 ·intro q
  refine ⟨⟨ns,k,rfl,hl,hk⟩,?_,fun _ z=>z.elim⟩
  rintro d ⟨i,rfl,h1,h2⟩
  obtain ⟨n,rfl⟩:∃ m:Nat,i=m:=⟨i.toNat,by lia⟩
  exact q n (by lia) (by lia)
theorem wp_cell {ns:List Int} {k:Int} (hl:ns.length<=63) (hk:0<=k):c_cell.wp [.lst (ns.map .int),.int k] Q E ↔ ∀ c:Int,Q (.int c):=by
 unfold Ctr.wp c_cell
 constructor
 ·intro w c
  exact w.2.1 _ ⟨c,rfl⟩
 ·intro q
  refine ⟨⟨ns,k,rfl,hl,hk⟩,?_,fun _ z=>z.elim⟩
  rintro d ⟨c,rfl⟩
  exact q c
theorem wp_drawn {c k:Int}:c_drawn.wp [.int c,.int k] Q E ↔ ∀ m:Int,0<=m->m < 340282366920938463463374607431768211297->Q (.int m):=by
 unfold Ctr.wp c_drawn
 simp only []
 constructor
 ·intro w m h1 h2
  exact w.2.1 _ ⟨m,rfl,h1,h2⟩
 ·intro q
  refine ⟨trivial,?_,fun _ z=>z.elim⟩
  rintro d ⟨m,rfl,h1,h2⟩
  exact q m h1 h2
theorem wp_number {c k far:Int} {n:Nat} (h1:8<=n) (h2:n<=64) (f1:1<=far) (f2:far<=5000):c_number.wp [.int c,.int k,.int n,.int far] Q E ↔ ∀ x:Int × Int,OkN n (far + 63) x->-far<=x.2->Q (nq x):=by
 unfold Ctr.wp c_number
 simp only [Int.toNat_natCast]
 constructor
 ·intro w x hx hf
  exact w.2.1 _ ⟨x.1,x.2,rfl,hx.num,hf,by have:=hx.hi;lia⟩
 ·intro q
  refine ⟨⟨by lia,f1,f2⟩,?_,fun _ z=>z.elim⟩
  rintro d ⟨x,p,rfl,hx,p1,p2⟩
  exact q (x,p) ⟨hx,by simp only [];lia,by simp only [];lia⟩ p1
end
end Z
set_option exponentiation.threshold 3000
namespace Z
open PySem
def Rep (n:Nat) (v:Rat):Prop:=∃ z:Int × Int,Num n z.1 z.2 /\ vr z=v
def rn (n:Nat) (v:Rat):Rat:=vr (nearQ n v)
section
variable {n:Nat} {u v x y:Rat}
theorem Rep.neg (h:Rep n v):Rep n (-v):=by
 obtain ⟨z,⟨ho,hs⟩,e⟩:=h
 exact ⟨negF z,⟨by unfold negF;simp only [];lia,by unfold negF;simp only [];lia⟩,by rw [vr_neg,e]⟩
theorem rn_fix (hn:1<=n) (h:Rep n v):rn n v=v:=by
 obtain ⟨z,hz,e⟩:=h
 unfold rn
 rw [<- e,nearQ_fix hn hz]
theorem rn_mono (hn:1<=n) (h:u<=v):rn n u<=rn n v:=nearQ_mono hn h
theorem rn_le (hn:1<=n) (h:u<=v) (r:Rep n v):rn n u<=v:=by have:=rn_mono hn h;rwa [rn_fix hn r] at this
theorem le_rn (hn:1<=n) (h:u<=v) (r:Rep n u):u<=rn n v:=by have:=rn_mono hn h;rwa [rn_fix hn r] at this
end
theorem tw_lt {p q:Int} (h:tw p<=tw q):p<=q:=by
 rcases Int.lt_or_le q p with z | z
 ·have:=tw_le (show q + 1<=p by lia)
  rw [tw_succ] at this
  have:=tw_pos q
  exfalso;grind
 ·exact z
theorem rep_tw {n:Nat} (hn:1<=n) (p:Int):Rep n (tw p):=⟨(1,p),⟨.inl (show (1:Int) % 2=1 by decide),by
 have:2 ^ 1<=2 ^ n:=Nat.pow_le_pow_right (by decide) hn
 simp only [];lia⟩,by unfold vr;simp⟩
structure Box (n:Nat) (M H:Int) (x:Int × Int):Prop where
 ok:OkN n M x
 lo:-tw H<=vr x
 hi:vr x<=tw H
theorem Box.neg {n:Nat} {M H:Int} {x:Int × Int} (h:Box n M H x):Box n M H (negF x):=⟨h.ok.neg,by rw [vr_neg];have:=h.hi;grind,by rw [vr_neg];have:=h.lo;grind⟩
theorem okn_box {n:Nat} {M H:Int} {x:Int × Int} (h:OkN n M x) (hH:M + n<=H):Box n M H x:=by
 have hs:=h.num.sz
 have hp:=h.hi
 have tp:=tw_pos x.2
 have e:tw (x.2 + n)=((2 ^ n:Int):Rat) * tw x.2:=by rw [tw_add_nat];grind
 have l1:=tw_le (show x.2 + n<=H by lia)
 have pn:((2 ^ n:Nat):Int)=2 ^ n:=by simp
 have l2:(x.1:Rat) * tw x.2<=((2 ^ n:Int):Rat) * tw x.2:=tw_cmp_le.mpr (by lia)
 have l3:((-2 ^ n:Int):Rat) * tw x.2<=(x.1:Rat) * tw x.2:=tw_cmp_le.mpr (by lia)
 have e2:((-2 ^ n:Int):Rat) * tw x.2=-(((2 ^ n:Int):Rat) * tw x.2):=by rw [Rat.intCast_neg];grind
 exact ⟨h,by unfold vr;grind,by unfold vr;grind⟩
end Z
set_option exponentiation.threshold 3000
namespace Z
open PySem
def b_law_measure (i_law_number i_law_drawn i_law_bare:Nat):Sm :=
 (.seq (.set 3 (.ix (.call i_law_number [(.var 0),(.var 1),(.var 2),(.cst (.int 9))]) (.cst (.int 0))))
 (.seq (.set 4 (.bin .sub (.bin .mod (.call i_law_drawn [(.var 0),(.bin .add (.var 1) (.cst (.int 977)))]) (.cst (.int 120))) (.cst (.int 60))))
 (.seq (.ite (.cmp .eq (.var 3) (.cst (.int 0))) (.seq (.ret (.tup [(.cst (.int 0)),(.cst (.int 0))]))
  .nop) .nop)
 (.seq (.ite (.and (.cmp .eq (.var 4) (.cst (.int 59))) (.cmp .eq (.bi .abs [(.var 3)]) (.cst (.int 1)))) (.seq (.ret (.tup [(.var 3),(.cst (.int 60))]))
  .nop) .nop)
 (.seq (.ret (.call i_law_bare [(.var 3),(.bin .add (.bin .sub (.var 4) (.meth .bitlen (.var 3))) (.cst (.int 1)))]))
 .nop)))))
def b_law_row (i_law_cell i_law_drawn i_law_measure i_law_bare:Nat):Sm :=
 (.seq (.new 4)
 (.seq (.forR 5 [(.var 2)] (.seq (.set 6 (.call i_law_cell [(.var 0),(.bin .add (.var 1) (.var 5))]))
  (.seq (.set 7 (.call i_law_drawn [(.var 6),(.bin .add (.bin .add (.var 1) (.var 5)) (.cst (.int 5000)))]))
  (.seq (.set 8 (.call i_law_measure [(.var 6),(.bin .add (.var 1) (.var 5)),(.var 3)]))
  (.seq (.ite (.and (.cmp .gt (.var 5) (.cst (.int 0))) (.cmp .lt (.bin .mod (.var 7) (.cst (.int 5))) (.cst (.int 2)))) (.seq (.set 9 (.oix 4 (.bin .mod (.bin .fdiv (.var 7) (.cst (.int 5))) (.var 5))))
   (.seq (.ite (.cmp .eq (.bin .mod (.var 7) (.cst (.int 5))) (.cst (.int 0))) (.seq (.set 8 (.ix (.lst [(.tup [(.bin .sub (.cst (.int 0)) (.ix (.var 9) (.cst (.int 0)))),(.ix (.var 9) (.cst (.int 1)))]),(.var 9)]) (.bin .mod (.bin .fdiv (.var 7) (.cst (.int 400))) (.cst (.int 2)))))
    .nop) (.seq (.ite (.and (.cmp .ne (.ix (.var 9) (.cst (.int 0))) (.cst (.int 0))) (.cmp .ne (.ix (.var 8) (.cst (.int 0))) (.cst (.int 0)))) (.seq (.set 10 (.bi .max [(.neg (.cst (.int 60))),(.bi .min [(.cst (.int 59)),(.bin .sub (.bin .add (.meth .bitlen (.ix (.var 9) (.cst (.int 0)))) (.ix (.var 9) (.cst (.int 1)))) (.cst (.int 1)))])]))
     (.seq (.set 8 (.call i_law_bare [(.ix (.var 8) (.cst (.int 0))),(.bin .add (.bin .sub (.var 10) (.meth .bitlen (.ix (.var 8) (.cst (.int 0))))) (.cst (.int 1)))]))
     .nop)) .nop)
    .nop))
   .nop)) .nop)
  (.seq (.app 4 (.var 8))
  .nop))))))
 (.seq (.shr 4)
 (.seq (.ret (.var 4))
 .nop))))
structure Meas (n:Nat) (x:Int × Int):Prop where
 num:Num n x.1 x.2
 at_:(x.1=0 /\ x.2=0) \/ (-60<=x.2 + bits x.1 - 1 /\ x.2 + bits x.1<=61)
theorem Meas.ok {n:Nat} {x:Int × Int} (h:Meas n x) (hn:n<=64):OkN n 130 x:=by
 have:=bits_le_iff.mpr h.num.sz
 exact ⟨h.num,by rcases h.at_ with z | z <;> lia,by rcases h.at_ with z | z <;> lia⟩
theorem Meas.neg {n:Nat} {x:Int × Int} (h:Meas n x):Meas n (negF x):=by
 obtain ⟨⟨ho,hs⟩,ha⟩:=h
 refine ⟨⟨by unfold negF;simp only [];lia,by unfold negF;simp only [];lia⟩,?_⟩
 unfold negF
 simp only [bits_neg]
 lia
theorem meas_at {n:Nat} {w q:Int} (ho:w % 2=1) (hs:w.natAbs < 2 ^ n) (q1:-60<=q) (q2:q<=59):Meas n (dq (w * tw (q - bits w + 1))):=by
 have e:dq (w * tw (q - bits w + 1))=(w,q - bits w + 1):=by
  have:=dq_of (x:=(w,q - bits w + 1)) (.inl ho)
  exact this
 rw [e]
 exact ⟨⟨.inl ho,hs⟩,.inr ⟨by simp only [];lia,by simp only [];lia⟩⟩
def c_measure:Ctr where
 pre ds:=∃ c k n:Int,ds=[.int c,.int k,.int n] /\ wOk n
 res ds d:=∀ c k n:Int,ds=[.int c,.int k,.int n]->∃ x,d=nq x /\ Meas n.toNat x
theorem wp_measure {c k:Int} {n:Nat} {Q:D->Prop} {E:XD->Prop} (h1:8<=n) (h2:n<=64):c_measure.wp [.int c,.int k,.int n] Q E ↔ ∀ x,Meas n x->Q (nq x):=by
 unfold Ctr.wp c_measure
 constructor
 ·intro w x hx
  refine w.2.1 _ fun c' k' n' e=>?_
  simp only [List.cons.injEq,D.int.injEq,and_true] at e
  obtain ⟨_,_,rfl⟩:=e
  exact ⟨x,rfl,hx⟩
 ·intro q
  refine ⟨⟨c,k,n,rfl,by lia,by lia⟩,fun d hd=>?_,fun _ z=>z.elim⟩
  obtain ⟨x,rfl,hx⟩:=hd c k n rfl
  exact q x hx
theorem fin_measure {c k:Int} {n:Nat} {x:Int × Int} (h:Meas n x):c_measure.res [.int c,.int k,.int n] (nq x):=by
 intro c' k' n' e
 simp only [List.cons.injEq,D.int.injEq,and_true] at e
 obtain ⟨_,_,rfl⟩:=e
 exact ⟨x,rfl,h⟩
theorem meas0 (n:Nat):Meas n (0,0):=⟨⟨.inr ⟨rfl,rfl⟩,Nat.two_pow_pos n⟩,.inl ⟨rfl,rfl⟩⟩
theorem k_measure {C:Cfg} {i1 i2 i3:Nat} (h1:C.ct i1=c_number) (h2:C.ct i2=c_drawn) (h3:C.ct i3=c_bare):Keeps C 5 (b_law_measure i1 i2 i3) c_measure:=by
 rintro ds ⟨c,k,n,rfl,w1,w2⟩
 obtain ⟨n,rfl⟩:∃ m:Nat,n=m:=⟨n.toNat,by lia⟩
 have n1:8<=n:=by lia
 have n2:n<=64:=by lia
 have q1:(1:Int)<=9:=by decide
 have q2:(9:Int)<=5000:=by decide
 rw [b_law_measure]
 simp_all! only [h1,wp_number n1 n2 q1 q2,ix_nq0,h2,wp_drawn]
 intro x hx _ m m0 m1
 rw [fmod_pos (by decide)]
 obtain ⟨q,hq,p1,p2⟩:∃ q:Int,m % 120 - 60=q /\ -60<=q /\ q<=59:=⟨_,rfl,by lia,by lia⟩
 rw [hq]
 have bx:=hx.bits
 refine seq_cut (fun σ=>x.1 ≠ 0 /\ σ=[some (.sh (.int c)),some (.sh (.int k)),some (.sh (.int n)),some (.sh (.int x.1)),some (.sh (.int q))]) ?_ ?_
 ·simp_all_arith! only []
  by_cases h0:x.1=0
  ·rw [if_pos h0]
   exact fin_measure (meas0 n)
  ·rw [if_neg h0]
   first | exact ⟨h0,rfl⟩ | exact h0
 rintro σ ⟨h0,rfl⟩
 have ho:x.1 % 2=1:=by have:=hx.num.odd;lia
 refine seq_cut (fun σ=>σ=[some (.sh (.int c)),some (.sh (.int k)),some (.sh (.int n)),some (.sh (.int x.1)),some (.sh (.int q))]) ?_ ?_
 ·simp_all_arith! only [abs_eq]
  by_cases h1:q=59
  ·rw [if_pos h1]
   by_cases h2:(x.1.natAbs:Int)=1
   ·rw [if_pos h2]
    refine fin_measure (x:=(x.1,60)) ⟨⟨.inl ho,hx.num.sz⟩,.inr ?_⟩
    have b1:bits x.1=1:=by
     have:x.1=1 \/ x.1=-1:=by lia
     rcases this with e | e <;> rw [e] <;> decide
    exact ⟨by simp only [];lia,by simp only [];lia⟩
   ·rw [if_neg h2];trivial
  ·rw [if_neg h1];trivial
 rintro σ rfl
 have b9:bits x.1<=9000:=by lia
 simp_all! only [h3,wp_bare b9]
 exact fin_measure (meas_at ho hx.num.sz p1 p2)
def c_row:Ctr where
 pre ds:=∃ (ns:List Int) (s m n:Int),ds=[.lst (ns.map .int),.int s,.int m,.int n] /\ ns.length<=63 /\ 0<=s /\ (m<=1000) /\ (-1000<=m) /\ wOk n
 res ds d:=∀ (ns:List Int) (s m n:Int),ds=[.lst (ns.map .int),.int s,.int m,.int n]->∃ xs:List (Int × Int),d=.lst (xs.map nq) /\ xs.length=m.toNat /\ ∀ x ∈ xs,Meas n.toNat x
theorem wp_row {ns:List Int} {s m:Int} {n:Nat} {Q:D->Prop} {E:XD->Prop} (hl:ns.length<=63) (hs:0<=s) (m1:m<=1000) (m2:-1000<=m) (h1:8<=n) (h2:n<=64) :
 c_row.wp [.lst (ns.map .int),.int s,.int m,.int n] Q E ↔ ∀ xs:List (Int × Int),xs.length=m.toNat->(∀ x ∈ xs,Meas n x)->Q (.lst (xs.map nq)):=by
 unfold Ctr.wp c_row
 constructor
 ·intro w xs l hx
  refine w.2.1 _ fun ns' s' m' n' e=>?_
  simp only [List.cons.injEq,D.int.injEq,and_true] at e
  obtain ⟨_,_,rfl,rfl⟩:=e
  exact ⟨xs,rfl,l,hx⟩
 ·intro q
  refine ⟨⟨ns,s,m,n,rfl,hl,hs,m1,m2,by lia,by lia⟩,fun d hd=>?_,fun _ z=>z.elim⟩
  obtain ⟨xs,rfl,l,hx⟩:=hd ns s m n rfl
  exact q xs l hx
theorem nq_get {xs:List (Int × Int)} {i:Int} (h0:0<=i) (h:i < xs.length):∃ x ∈ xs,atD (xs.map nq) i=some (nq x):=by
 have hl:i.toNat < xs.length:=by lia
 refine ⟨xs[i.toNat],List.getElem_mem hl,?_⟩
 unfold atD
 rw [if_pos h0,List.getElem?_map,List.getElem?_eq_getElem hl]
 rfl
theorem k_row {C:Cfg} {i1 i2 i3 i4:Nat} (h1:C.ct i1=c_cell) (h2:C.ct i2=c_drawn) (h3:C.ct i3=c_measure) (h4:C.ct i4=c_bare):Keeps C 11 (b_law_row i1 i2 i3 i4) c_row:=by
 rintro ds ⟨ns,s,m,n,rfl,hl,hs,m1,m2,w1,w2⟩
 obtain ⟨n,rfl⟩:∃ m:Nat,n=m:=⟨n.toNat,by lia⟩
 have n1:8<=n:=by lia
 have n2:n<=64:=by lia
 rw [b_law_row]
 simp_all! only []
 let P:List D->Sto->Prop:=fun ds σ=>∃ (xs:List (Int × Int)) (a b c d e f:Option Sl),(xs.length<=m.toNat /\ ds=rangeD xs.length 1 (m.toNat - xs.length) /\ ∀ x ∈ xs,Meas n x) /\
  σ=[some (.sh (.lst (ns.map .int))),some (.sh (.int s)),some (.sh (.int m)),some (.sh (.int n)),some (.ow (xs.map nq)),a,b,c,d,e,f]
 refine seq_cut (P []) ?_ ?_
 ·rw [ws_forR]
  simp_arith only []
  refine ⟨by unfold RgOk;lia,forS_by P ⟨[],_,_,_,_,_,_,⟨by simp,by simp,by simp⟩,rfl⟩ ?_ fun σ h=>h⟩
  rintro d ds σ ⟨xs,a,b,c,dd,e,f,⟨hx,hd,hm⟩,rfl⟩
  have hlt:xs.length < m.toNat:=by
   rcases Nat.lt_or_ge xs.length m.toNat with z | z
   ·exact z
   ·rw [show m.toNat - xs.length=0 by lia] at hd;cases hd
  rw [show m.toNat - xs.length=(m.toNat - (xs.length + 1)) + 1 by lia,rangeD] at hd
  simp only [List.cons.injEq] at hd
  obtain ⟨rfl,rfl⟩:=hd
  have hk:(0:Int)<=s + xs.length:=by lia
  simp_all! only [h1,wp_cell hl hk,h2,wp_drawn,h3,wp_measure n1 n2]
  intro cc r r0 _ x hx'
  refine seq_cut (fun σ=>∃ (y:Int × Int) (a b:Option Sl),Meas n y /\ σ=[some (.sh (.lst (ns.map .int))),some (.sh (.int s)),some (.sh (.int m)),some (.sh (.int n)),some (.ow (xs.map nq)),some (.sh (.int xs.length)),some (.sh (.int cc)),some (.sh (.int r)),some (.sh (nq y)),a,b]) ?_ ?_
  ·rw [ws_ite]
   dsimp! only []
   have f5:r.fmod 5=r % 5:=fmod_pos (by decide)
   rw [f5]
   by_cases c1:0 < (xs.length:Int)
   ·rw [if_pos c1]
    by_cases c2:r % 5 < 2
    ·rw [if_pos (by simpa using c2)]
     have e1:r.fdiv 5=r / 5:=fdiv_pos (by decide)
     have e2:(r / 5).fmod xs.length=(r / 5) % xs.length:=fmod_pos (by lia)
     have e3:r.fdiv 400=r / 400:=fdiv_pos (by decide)
     have e4:(r / 400).fmod 2=r / 400 % 2:=fmod_pos (by decide)
     have b5:bits 5<=9000:=by decide
     have b4:bits 400<=9000:=by decide
     have u0:=Int.emod_nonneg (r / 5) (show (xs.length:Int) ≠ 0 by lia)
     have u1:=Int.emod_lt_of_pos (r / 5) c1
     obtain ⟨y,hy,ey⟩:=nq_get u0 u1
     have hy':=hm y hy
     simp_all! only [e1,e2,b5,ey]
     refine ⟨by lia,?_⟩
     rw [ws_seq,ws_ite]
     dsimp! only [f5]
     by_cases c3:r % 5=0
     ·rw [if_pos c3]
      simp_all! only [e3,e4,b4,ix_nq0,ix_nq1,mk_nq]
      obtain ⟨d,e,hd⟩:=atD_some (xs:=[nq (0 - y.1,y.2),nq y]) (i:=r / 400 % 2) (by lia) (by simp;lia)
      refine ⟨d,e,?_⟩
      simp only [List.mem_cons,List.not_mem_nil,or_false] at hd
      rcases hd with rfl | rfl
      ·have ng:(0 - y.1,y.2)=negF y:=by unfold negF;rw [Int.zero_sub]
       rw [ng]
       exact ⟨negF y,_,_,hy'.neg,rfl⟩
      ·exact ⟨y,_,_,hy',rfl⟩
     ·rw [if_neg c3]
      rw [ws_seq,ws_ite]
      dsimp! only [ix_nq0,ix_nq1]
      by_cases c4:y.1=0
      ·rw [if_neg (by simpa using c4)]
       simp only [Bool.false_eq_true,if_false,ws_nop]
       exact ⟨x,_,_,hx',rfl⟩
      ·rw [if_pos (by simpa using c4)]
       by_cases c5:x.1=0
       ·rw [if_neg (by simpa using c5)]
        simp only [ws_nop]
        exact ⟨x,_,_,hx',rfl⟩
       ·rw [if_pos (by simpa using c5)]
        have bx:=(hx'.ok n2).bits
        have b9:bits x.1<=9000:=by lia
        have ho:x.1 % 2=1:=by have:=hx'.num.odd;lia
        simp_all! only [ix_nq0,ix_nq1,h4,wp_bare b9]
        refine ⟨_,_,_,meas_at ho hx'.num.sz ?_ ?_,rfl⟩
        ·split <;> split <;> lia
        ·split <;> split <;> lia
    ·rw [if_neg (by simpa using c2),ws_nop]
     exact ⟨x,_,_,hx',rfl⟩
   ·rw [if_neg c1]
    first | (rw [ws_nop];exact ⟨x,_,_,hx',rfl⟩) | (simp only [Bool.false_eq_true,if_false,ws_nop];exact ⟨x,_,_,hx',rfl⟩)
  rintro σ ⟨y,a,b,hy,rfl⟩
  simp_all! only [List.length_map]
  refine ⟨by unfold lim;lia,xs ++ [y],_,_,_,_,_,_,⟨by simp;lia,?_,?_⟩,by rw [List.map_append];rfl⟩
  ·simp
  ·intro z hz
   rcases List.mem_append.mp hz with q | q
   ·exact hm z q
   ·simp only [List.mem_cons,List.not_mem_nil,or_false] at q
    subst q
    exact hy
 rintro σ ⟨xs,a,b,c,dd,e,f,⟨hx,hd,hm⟩,rfl⟩
 have hlen:xs.length=m.toNat:=by
  rcases Nat.lt_or_ge xs.length m.toNat with z | z
  ·rw [show m.toNat - xs.length=(m.toNat - (xs.length + 1)) + 1 by lia,rangeD] at hd;cases hd
  ·lia
 simp_all! only []
 intro ns' s' m' n' e'
 simp only [List.cons.injEq,D.int.injEq,and_true] at e'
 obtain ⟨_,_,rfl,rfl⟩:=e'
 exact ⟨xs,rfl,hlen,hm⟩
end Z
set_option exponentiation.threshold 3000
namespace Z
open PySem
theorem depDs_rows (xs:List (Int × Int)):depDs (xs.map nq)<=1:=by
 induction xs with
 | nil=>simp [deps_n]
 | cons x xs ih=>rw [List.map_cons,deps_c,dep_nq];lia
theorem rows_inj {xs ys:List (Int × Int)} (h:D.lst (xs.map nq)=D.lst (ys.map nq)):xs=ys:=by
 injection h with h
 exact map_inj (fun a b h=>nq_inj h) h
end Z
set_option exponentiation.threshold 3000
namespace Z
open PySem
def absF (x:Int × Int):Int × Int:=((x.1.natAbs:Int),x.2)
theorem vr_absF (x:Int × Int):vr (absF x)=(vr x).abs:=by
 unfold vr absF
 rw [iabs_mul_tw]
theorem Box.abs {n:Nat} {M H:Int} {x:Int × Int} (h:Box n M H x):Box n M H (absF x):=by
 have e:=vr_absF x
 refine ⟨⟨⟨?_,?_⟩,h.ok.lo,h.ok.hi⟩,?_,?_⟩
 ·have:=h.ok.num.odd
  unfold absF;simp only [];lia
 ·have:=h.ok.num.sz
  unfold absF;simp only [];lia
 ·rw [e]
  have:=h.lo
  have:=h.hi
  unfold Rat.abs;split <;> grind
 ·rw [e]
  exact rabs_le h.lo h.hi
structure RowOk (n:Nat) (xs:List (Int × Int)):Prop where
 n1:8<=n
 n2:n<=64
 len:xs.length<=200
 row:∀ x ∈ xs,Box n 1000 300 x
theorem RowOk.abs {n:Nat} {xs:List (Int × Int)} (h:RowOk n xs):RowOk n (xs.map absF):=by
 refine ⟨h.n1,h.n2,by rw [List.length_map];exact h.len,fun x hx=>?_⟩
 obtain ⟨y,hy,rfl⟩:=List.mem_map.mp hx
 exact (h.row y hy).abs
end Z
set_option exponentiation.threshold 3000
namespace Z
open PySem
theorem near_box_k {n:Nat} {M H k m:Int} (hn:1<=n) (hm:-M<=m) (lo:-tw H<=(k:Rat) * tw m) (hi:(k:Rat) * tw m<=tw H) (hM:H<=M) (h0:0<=M):Box n M H (nearQ n (k * tw m)):=by
 have num:=near_num (n:=n) (r:=(k:Rat) * tw m) hn
 have r2:=rep_tw hn H
 have hi:vr (nearQ n (k * tw m))<=tw H:=rn_le hn hi r2
 have lo:-tw H<=vr (nearQ n (k * tw m)):=le_rn hn lo r2.neg
 refine ⟨⟨num,?_,?_⟩,lo,hi⟩
 ·obtain ⟨j,ej,_⟩:=rest_of (n:=n) (N:=bits k) (k:=k) (m:=m) hn (bits_le_iff.mp (Nat.le_refl _))
  have e3:vr (nearQ n (k * tw m))=((k - j:Int):Rat) * tw m:=by
   rw [Rat.intCast_sub];grind
  rcases rest_pow num.odd e3 with z | z
  ·lia
  ·rw [z];simp only [];lia
 ·generalize hz:nearQ n (k * tw m)=z at *
  rcases num.odd with ho | ho
  ·have tp:=tw_pos z.2
   have:tw z.2<=tw H:=by
    rcases Int.lt_or_le 0 z.1 with q | q
    ·have l1:((1:Int):Rat) * tw z.2<=(z.1:Rat) * tw z.2:=tw_cmp_le.mpr (by lia)
     have:((1:Int):Rat)=1:=rfl
     unfold vr at hi
     grind
    ·have l1:(z.1:Rat) * tw z.2<=((-1:Int):Rat) * tw z.2:=tw_cmp_le.mpr (by lia)
     have:((-1:Int):Rat)=-1:=rfl
     unfold vr at lo
     grind
   have:=tw_lt this
   lia
  ·lia
theorem abs_bits (w p:Int):-tw (p + bits w)<=(w:Rat) * tw p /\ (w:Rat) * tw p<=tw (p + bits w):=by
 have hs:=bits_le_iff.mp (Nat.le_refl (bits w))
 have e:tw (p + bits w)=((2 ^ bits w:Int):Rat) * tw p:=by rw [tw_add_nat];grind
 have pn:((2 ^ bits w:Nat):Int)=2 ^ bits w:=by simp
 have l2:(w:Rat) * tw p<=((2 ^ bits w:Int):Rat) * tw p:=tw_cmp_le.mpr (by lia)
 have l3:((-2 ^ bits w:Int):Rat) * tw p<=(w:Rat) * tw p:=tw_cmp_le.mpr (by lia)
 have e2:((-2 ^ bits w:Int):Rat) * tw p=-(((2 ^ bits w:Int):Rat) * tw p):=by rw [Rat.intCast_neg];grind
 constructor <;> grind
theorem near_box_b {n:Nat} {M H k m:Int} (hn:1<=n) (hm:-M<=m) (hk:m + bits k<=H) (hM:H<=M) (h0:0<=M):Box n M H (nearQ n (k * tw m)):=by
 have a:=abs_bits k m
 have:=tw_le hk
 exact near_box_k hn hm (by grind) (by grind) hM h0
theorem Meas.row {n:Nat} {x:Int × Int} (h:Meas n x) (hn:n<=64):Box n 1000 300 x:=by
 have o:=h.ok hn
 have b:=okn_box o (H:=300) (by lia)
 exact ⟨⟨o.num,by have:=o.lo;lia,by have:=o.hi;lia⟩,b.lo,b.hi⟩
def prodF (n:Nat) (xs ys:List (Int × Int)):List (Int × Int):=(xs.zip ys).map fun p=>nearQ n (vr p.1 * vr p.2)
theorem Meas.top {n:Nat} {x:Int × Int} (h:Meas n x):x.2 + bits x.1<=61:=by
 rcases h.at_ with ⟨z,e⟩ | z
 ·rw [z,e];decide
 ·exact z.2
theorem vr_prod (x y:Int × Int):vr x * vr y=((x.1 * y.1:Int):Rat) * tw (x.2 + y.2):=by
 unfold vr;rw [Rat.intCast_mul,tw_add];grind
theorem Meas.prod {n:Nat} {x y:Int × Int} (hx:Meas n x) (hy:Meas n y) (n1:8<=n) (n2:n<=64):Box n 1000 300 (nearQ n (vr x * vr y)):=by
 rw [vr_prod]
 have a:=(hx.ok n2).lo
 have b:=(hy.ok n2).lo
 have c:=hx.top
 have d:=hy.top
 have e:=bits_mul x.1 y.1
 exact near_box_b (by lia) (by lia) (by lia) (by lia) (by lia)
structure DotOk (n:Nat) (xs ys:List (Int × Int)):Prop where
 n1:8<=n
 n2:n<=64
 len:xs.length<=200
 same:ys.length=xs.length
 x:∀ x ∈ xs,Meas n x
 y:∀ y ∈ ys,Meas n y
theorem prod_len {n:Nat} {xs ys:List (Int × Int)} (h:ys.length=xs.length):(prodF n xs ys).length=xs.length:=by
 unfold prodF;rw [List.length_map,List.length_zip,h,Nat.min_self]
theorem DotOk.rows {n:Nat} {xs ys:List (Int × Int)} (h:DotOk n xs ys):RowOk n (prodF n xs ys):=by
 refine ⟨h.n1,h.n2,by rw [prod_len h.same];exact h.len,fun p hp=>?_⟩
 obtain ⟨⟨a,b⟩,hq,rfl⟩:=List.mem_map.mp hp
 have:=List.of_mem_zip hq
 exact (h.x a this.1).prod (h.y b this.2) h.n1 h.n2
theorem rangeD_map:∀ (m:Nat) (lo:Int),rangeD lo 1 m=(List.range m).map fun (i:Nat)=>D.int (lo + i)
 | 0,lo=>rfl
 | m + 1,lo=>by
   rw [rangeD,rangeD_map m (lo + 1),List.range_succ_eq_map,List.map_cons,List.map_map]
   congr 1
   ·simp
   ·refine List.map_congr_left fun i _=>?_
    simp only [Function.comp,D.int.injEq,Nat.succ_eq_add_one]
    lia
theorem compL_range {f:D->(D->Prop)->Prop} {h:Nat->D} {m:Nat} {Q:List D->Prop} (k:∀ i,i < m->∀ Q,f (.int i) Q ↔ Q (h i)):compL f (rangeD 0 1 m) Q ↔ Q ((List.range m).map h):=by
 rw [rangeD_map]
 refine compL_map fun i hi Q=>?_
 have:=k i (List.mem_range.mp hi) Q
 rwa [Int.zero_add]
end Z
set_option exponentiation.threshold 3000
namespace Z
open PySem
def c1 (ok:List (Int × Int)->Prop) (f:List (Int × Int)->D):Ctr where
 pre ds:=∃ xs,ds=[.lst (xs.map nq)] /\ ok xs
 res ds d:=∀ xs,ds=[.lst (xs.map nq)]->d=f xs
theorem res_1 {ok f} {xs:List (Int × Int)} {d:D}:(c1 ok f).res [.lst (xs.map nq)] d ↔ d=f xs:=by
 refine ⟨fun h=>h xs rfl,fun h xs' e=>?_⟩
 cases map_nq_inj e;exact h
theorem wp_1 {ok f} {xs:List (Int × Int)} {Q:D->Prop} {E:XD->Prop}:(c1 ok f).wp [.lst (xs.map nq)] Q E ↔ ok xs /\ Q (f xs):=by
 unfold Ctr.wp
 simp only [res_1,forall_eq]
 refine ⟨fun ⟨⟨xs',e,h⟩,w,_⟩=>⟨?_,w⟩,fun ⟨h,w⟩=>⟨⟨xs,rfl,h⟩,w,fun _ z=>z.elim⟩⟩
 cases map_nq_inj e;exact h
theorem wp_value2 {x:Int × Int} {Q:D->Prop} {E:XD->Prop} (h:OddP x) (hb:bits x.1<=1000000) (h1:-1000000<=x.2) (h2:x.2<=1000000):c_value.wp [nq x] Q E ↔ Q (rq (vr x)):=by
 obtain ⟨n,_,hn⟩:=h.num
 have e:=value_rq (hn n (Nat.le_refl _))
 unfold Ctr.wp c_value nq
 simp only []
 rw [e]
 exact ⟨fun w=>w.2.1 _ rfl,fun q=>⟨⟨⟨by lia,by lia⟩,by lia⟩,fun d e=>by rw [e];exact q,fun x z=>z.elim⟩⟩
structure SmallP (x:Int × Int):Prop where
 b:bits x.1<=64
 lo:-130<=x.2
 hi:x.2<=130
structure Smalls (xs:List (Int × Int)):Prop where
 len:xs.length<=200
 all:∀ x ∈ xs,SmallP x
theorem Meas.small {n:Nat} {x:Int × Int} (h:Meas n x) (hn:n<=64):SmallP x:=⟨by have:=(h.ok hn).bits;lia,(h.ok hn).lo,(h.ok hn).hi⟩
theorem wp_isratio {r:Rat} {t u:Int} {Q:D->Prop} {E:XD->Prop} (h:szr 9000 r) (hu:0 < u) (bt:bits t<=1000000) (bu:bits u<=1000000) (e:r * (u:Rat)=t):c_is_ratio.wp [rq r,.int t,.int u] Q E ↔ Q (.bl true):=by
 have e1:r.num * u=t * r.den:=by
  have a:(r.num:Rat)=r * ((r.den:Int):Rat):=by
   have d:=den_pos r
   have e:=div_mul (t:=r.num) (u:=(r.den:Int)) d
   rw [Rat.divInt_ofNat,Rat.mkRat_self] at e
   exact e.symm
  have:((r.num * u:Int):Rat)=((t * r.den:Int):Rat):=by
   rw [Rat.intCast_mul,Rat.intCast_mul,a,<- e];grind
  exact Rat.intCast_inj.mp this
 have e2:Int.gcd r.num r.den=1:=by
  have:=r.reduced
  unfold Nat.Coprime at this
  unfold Int.gcd
  simpa using this
 unfold Ctr.wp c_is_ratio rq
 simp only [e1,e2,den_pos r,and_self,decide_true]
 exact ⟨fun w=>w.2.1 _ rfl,fun q=>⟨⟨⟨h.1,h.2⟩,bt,bu⟩,fun d e=>by rw [e];exact q,fun x z=>z.elim⟩⟩
theorem bits_sum {B:Nat}:∀ {l:List Int},(∀ x ∈ l,bits x<=B)->bits l.sum<=B + l.length
 | [],_=>by
   have:bits 0=0:=by decide
   simp only [List.sum_nil,List.length_nil];lia
 | x :: l,h=>by
   have ih:=bits_sum (l:=l) fun y hy=>h y (List.mem_cons_of_mem _ hy)
   have h1:=h x (List.mem_cons_self ..)
   have:=bits_add x l.sum
   simp only [List.sum_cons,List.length_cons]
   omega
end Z
set_option exponentiation.threshold 3000
namespace Z.K42
open PySem Z
def b_one_by_one:Sm :=
 (.seq (.new 1)
 (.seq (.forE 2 (.var 0) (.seq (.ext 1 (.var 2))
  .nop))
 (.seq (.shr 1)
 (.seq (.ret (.var 1))
 .nop))))
def b_least_power:Sm :=
 (.seq (.ret (.bi .min [(.compE (.var 0) (.ix (.var 1) (.cst (.int 1))))]))
 .nop)
def b_in_steps (i_two_to:Nat):Sm :=
 (.seq (.ret (.compE (.var 0) (.bin .mul (.ix (.var 2) (.cst (.int 0))) (.call i_two_to [(.bin .sub (.ix (.var 2) (.cst (.int 1))) (.var 1))]))))
 .nop)
def b_law (i_law_width i_law_shape i_law_table i_least_place i_law_whole i_law_less:Nat):Sm :=
 (.seq (.set 1 (.call i_law_width [(.var 0),(.cst (.int 0))]))
 (.seq (.unp [2,3] (.call i_law_shape [(.var 0),(.cst (.int 60))]))
 (.seq (.set 4 (.call i_law_table [(.var 0),(.cst (.int 1)),(.var 2),(.var 3),(.var 1)]))
 (.seq (.set 5 (.compE (.var 4) (.bi .list [(.var 10)])))
 (.seq (.set 6 (.call i_least_place [(.var 4)]))
 (.seq (.ite (.or (.not (.isi (.var 6) .tuple)) (.or (.cmp .ne (.bi .len [(.var 6)]) (.cst (.int 2))) (.or (.not (.call i_law_whole [(.ix (.var 6) (.cst (.int 0)))])) (.not (.call i_law_whole [(.ix (.var 6) (.cst (.int 1)))]))))) (.seq (.ret (.cst (.bl false)))
  .nop) .nop)
 (.seq (.ite (.or (.not (.chain .le .lt (.cst (.int 0)) (.ix (.var 6) (.cst (.int 0))) (.var 2))) (.or (.not (.chain .le .lt (.cst (.int 0)) (.ix (.var 6) (.cst (.int 1))) (.var 3))) (.cmp .ne (.var 4) (.var 5)))) (.seq (.ret (.cst (.bl false)))
  .nop) .nop)
 (.seq (.set 7 (.ix (.ix (.var 4) (.ix (.var 6) (.cst (.int 0)))) (.ix (.var 6) (.cst (.int 1)))))
 (.seq (.forR 8 [(.var 2)] (.seq (.forR 9 [(.var 3)] (.seq (.ite (.call i_law_less [(.ix (.ix (.var 4) (.var 8)) (.var 9)),(.var 7)]) (.seq (.ret (.cst (.bl false)))
       .nop) .nop)
  (.seq (.ite (.and (.cmp .lt (.bin .add (.bin .mul (.var 8) (.var 3)) (.var 9)) (.bin .add (.bin .mul (.ix (.var 6) (.cst (.int 0))) (.var 3)) (.ix (.var 6) (.cst (.int 1))))) (.cmp .eq (.ix (.ix (.var 4) (.var 8)) (.var 9)) (.var 7))) (.seq (.ret (.cst (.bl false)))
   .nop) .nop)
  .nop)))
  .nop))
 (.seq (.ret (.cst (.bl true)))
 .nop))))))))))
def tabD (rows:List (List (Int × Int))):D:=.lst (rows.map fun r=>.lst (r.map nq))
theorem sIx_nat (n d k:Nat):sIx n d (some (k:Int))=min k n:=by
 show (if (k:Int) < 0 then ((k:Int) + (n:Int)).toNat else min (k:Int).toNat n)=min k n
 rw [if_neg (by lia),Int.toNat_natCast]
theorem cut_row {xs:List (Int × Int)} {i A N:Nat} (h:xs.length=N * A) (hi:i < N):cutD (xs.map nq) (some ((i:Int) * A)) (some (((i:Int) + 1) * A))=((xs.drop (i * A)).take A).map nq:=by
 have e1:(i:Int) * A=((i * A:Nat):Int):=by push_cast;rfl
 have e2:((i:Int) + 1) * A=(((i + 1) * A:Nat):Int):=by push_cast;rfl
 have le:(i + 1) * A<=N * A:=Nat.mul_le_mul_right A hi
 have ex:(i + 1) * A=i * A + A:=Nat.succ_mul i A
 unfold cutD
 rw [e1,e2,List.length_map,h,sIx_nat,sIx_nat,Nat.min_eq_left (by lia),Nat.min_eq_left (by lia),List.map_take,List.map_drop]
 congr 1
 lia
def c_one_by_one:Ctr where
 pre ds:=∃ rows,ds=[tabD rows] /\ rows.flatten.length<=200
 res ds d:=∀ rows,ds=[tabD rows]->d=.lst (rows.flatten.map nq)
theorem tab_inj {r r':List (List (Int × Int))} (h:[tabD r]=[tabD r']):r=r':=by
 unfold tabD at h
 simp only [List.cons.injEq,D.lst.injEq,and_true] at h
 exact map_inj (fun a b e=>rows_inj e) h
theorem k_one_by_one {C:Cfg}:Keeps C 3 b_one_by_one c_one_by_one:=by
 rintro ds ⟨rows,rfl,hl⟩
 rw [b_one_by_one,tabD]
 simp_all! only []
 let P:List D->Sto->Prop:=fun ds σ=>∃ (pre post:List (List (Int × Int))) (a:Option Sl),(pre ++ post=rows /\ ds=post.map fun r=>.lst (r.map nq)) /\ σ=[some (.sh (.lst (rows.map fun r=>.lst (r.map nq)))),some (.ow (pre.flatten.map nq)),a]
 refine seq_cut (P []) ?_ ?_
 ·rw [ws_forE]
  simp_arith only []
  refine forS_by P ⟨[],rows,none,⟨rfl,rfl⟩,rfl⟩ ?_ fun σ h=>h
  rintro d ds σ ⟨pre,post,a,⟨hp,hd⟩,rfl⟩
  cases post with
  | nil=>cases hd
  | cons r post =>
    simp only [List.map_cons,List.cons.injEq] at hd
    obtain ⟨rfl,rfl⟩:=hd
    have e:(pre ++ [r]).flatten=pre.flatten ++ r:=by simp
    have ll:pre.flatten.length + r.length<=200:=by
     rw [<- hp] at hl
     simp only [List.flatten_append,List.flatten_cons,List.length_append] at hl
     lia
    simp_all! only [extD,List.length_map]
    have es:pre.flatten.map nq ++ r.map nq=(pre ++ [r]).flatten.map nq:=by rw [e,List.map_append]
    refine ⟨by rw [List.length_map,List.length_map];unfold lim;lia,?_⟩
    rw [es]
    exact ⟨pre ++ [r],post,_,⟨by rw [<- hp];simp,rfl⟩,rfl⟩
 rintro σ ⟨pre,post,a,⟨hp,hd⟩,rfl⟩
 have:post=[]:=by simpa using hd.symm
 subst this
 rw [List.append_nil] at hp
 subst hp
 simp_all! only []
 intro rows' e
 rw [tab_inj e]
theorem wp_obo {rows:List (List (Int × Int))} {Q:D->Prop} {E:XD->Prop} (h:rows.flatten.length<=200):c_one_by_one.wp [tabD rows] Q E ↔ Q (.lst (rows.flatten.map nq)) :=
 ⟨fun w=>w.2.1 _ fun r e=>by rw [tab_inj e],fun q=>⟨⟨rows,rfl,h⟩,fun d hd=>by rw [hd rows rfl];exact q,fun _ z=>z.elim⟩⟩
def c_least_power:Ctr:=c1 (fun xs=>xs ≠ [] /\ xs.length<=200) fun xs=>.int (mmF false 0 (xs.map (·.2)))
theorem k_least_power {C:Cfg}:Keeps C 1 b_least_power c_least_power:=by
 rintro ds ⟨xs,rfl,h0,hl⟩
 rw [b_least_power]
 simp_all! only [List.length_map]
 refine ⟨by unfold lim;lia,?_⟩
 rw [compL_map (g:=nq) (h:=fun x:Int × Int=>D.int x.2) (fun x _ Q=>by rw [ix_nq1]),show (xs.map fun x=>D.int x.2)=(xs.map (·.2)).map .int by rw [List.map_map];rfl,bi_min1]
 refine ⟨by simpa using h0,?_⟩
 rw [c_least_power,res_1]
def atW (low:Int) (x:Int × Int):Int:=x.1 * 2 ^ (x.2 - low).toNat
def c_in_steps:Ctr where
 pre ds:=∃ (xs:List (Int × Int)) (p:Int),ds=[.lst (xs.map nq),.int p] /\ Smalls xs /\ -200<=p /\ ∀ x ∈ xs,p<=x.2
 res ds d:=∀ (xs:List (Int × Int)) (p:Int),ds=[.lst (xs.map nq),.int p]->d=.lst (xs.map fun x=>.int (atW p x))
theorem injp {xs xs':List (Int × Int)} {p p':Int} (e:[D.lst (xs.map nq),.int p]=[D.lst (xs'.map nq),.int p']):xs=xs' /\ p=p':=by
 simp only [List.cons.injEq,D.int.injEq,and_true] at e
 exact ⟨rows_inj e.1,e.2⟩
theorem wp_two_to {k:Int} {Q:D->Prop} {E:XD->Prop} (h:0<=k /\ k<=1000000):c_two_to.wp [.int k] Q E ↔ Q (.int (2 ^ k.toNat)) :=
 ⟨fun q=>q.2.1 _ rfl,fun q=>⟨h,fun d e=>by rw [e];exact q,fun _ z=>z.elim⟩⟩
theorem k_in_steps {C:Cfg} {i:Nat} (h1:C.ct i=c_two_to):Keeps C 2 (b_in_steps i) c_in_steps:=by
 rintro ds ⟨xs,p,rfl,g,hp,hx⟩
 have hl:=g.len
 rw [b_in_steps]
 simp_all! only [List.length_map]
 refine ⟨by unfold lim;lia,?_⟩
 rw [compL_map (g:=nq) (h:=fun x:Int × Int=>D.int (atW p x)) (fun x hx' Q=>by
  have h2:=hx x hx'
  have h3:=(g.all x hx').hi
  have h4:=(g.all x hx').b
  have w:=fun Q E=>wp_two_to (k:=x.2 - p) (Q:=Q) (E:=E) ⟨by lia,by lia⟩
  have b:bits ((2:Int) ^ (x.2 - p).toNat)<=400:=by rw [bits_two_pow];lia
  have mo:MulOk x.1 (2 ^ (x.2 - p).toNat):=mulOk_bits (by lia)
  dsimp! only [ix_nq0,ix_nq1,h1,w,mo]
  rfl)]
 intro xs' p' e
 obtain ⟨rfl,rfl⟩:=injp e
 rfl
theorem wp_in_steps {xs:List (Int × Int)} {p:Int} {Q:D->Prop} {E:XD->Prop} (g:Smalls xs) (hp:-200<=p) (hx:∀ x ∈ xs,p<=x.2):c_in_steps.wp [.lst (xs.map nq),.int p] Q E ↔ Q (.lst (xs.map fun x=>.int (atW p x))):=by
 constructor
 ·intro w
  refine w.2.1 _ fun xs' p' e=>?_
  obtain ⟨rfl,rfl⟩:=injp e
  rfl
 ·intro q
  exact ⟨⟨xs,p,rfl,g,hp,hx⟩,fun d h=>by rw [h xs p rfl];exact q,fun _ z=>z.elim⟩
end Z.K42
set_option exponentiation.threshold 3000
namespace Z.K40
open PySem Z Z.K42
def b_column:Sm :=
 (.seq (.retF (.compE (.var 0) (.ix (.var 2) (.var 1))))
 .nop)
def b_turned (i_column:Nat):Sm :=
 (.seq (.retG (.compR [(.bi .len [(.ix (.var 0) (.cst (.int 0)))])] (.call i_column [(.var 0),(.var 1)])))
 .nop)
def b_law (i_law_width i_law_shape i_law_table i_turned i_column:Nat):Sm :=
 (.seq (.set 1 (.call i_law_width [(.var 0),(.cst (.int 0))]))
 (.seq (.unp [2,3] (.call i_law_shape [(.var 0),(.cst (.int 60))]))
 (.seq (.set 4 (.call i_law_table [(.var 0),(.cst (.int 1)),(.var 2),(.var 3),(.var 1)]))
 (.seq (.set 5 (.compE (.var 4) (.bi .list [(.var 10)])))
 (.seq (.set 6 (.compR [(.var 3)] (.compR [(.var 2)] (.ix (.ix (.var 5) (.var 11)) (.var 10)))))
 (.seq (.setG 7 i_turned [(.var 4)])
 (.seq (.ite (.obsT 7 (.or (.not (.isi (.var 7) .list)) (.or (.cmp .ne (.var 7) (.var 6)) (.not (.bi .all [(.compE (.var 7) (.isi (.var 10) .list))]))))) (.seq (.ret (.cst (.bl false)))
  .nop) .nop)
 (.seq (.forR 8 [(.var 3)] (.seq (.setF 9 i_column [(.var 4),(.var 8)])
  (.seq (.ite (.obs 9 (.or (.not (.isi (.var 9) .list)) (.cmp .ne (.var 9) (.ix (.var 6) (.var 8))))) (.seq (.ret (.cst (.bl false)))
   .nop) .nop)
  (.seq (.app 9 (.tup [(.cst (.int 1)),(.cst (.int 0))]))
  (.seq (.app2 7 (.var 8) (.tup [(.cst (.int 1)),(.cst (.int 0))]))
  .nop)))))
 (.seq (.appN 7)
 (.seq (.ret (.and (.cmp .eq (.var 4) (.var 5)) (.and (.cmp .eq (.call i_turned [(.var 4)]) (.var 6)) (.cmp .eq (.call i_column [(.var 4),(.bin .sub (.var 3) (.cst (.int 1)))]) (.ix (.var 6) (.bin .sub (.var 3) (.cst (.int 1))))))))
 .nop))))))))))
def colF (p:Nat) (rows:List (List (Int × Int))):List (Int × Int):=rows.map fun r=>r.getD p (0,0)
theorem getD_at {α:Type} {r:List α} {p:Nat} {z:α} (h:p < r.length):r.getD p z=r[p]:=by simp [List.getD,List.getElem?_eq_getElem h]
theorem at_nq {r:List (Int × Int)} {p:Nat} (h:p < r.length):atD (r.map nq) (p:Int)=some (nq (r.getD p (0,0))):=by
 unfold atD
 rw [if_pos (by lia),Int.toNat_natCast,List.getElem?_map,List.getElem?_eq_getElem h,getD_at h]
 rfl
theorem at_row {rows:List (List (Int × Int))} {i:Nat} (h:i < rows.length):atD (rows.map fun r=>D.lst (r.map nq)) (i:Int)=some (.lst ((rows.getD i []).map nq)):=by
 unfold atD
 rw [if_pos (by lia),Int.toNat_natCast,List.getElem?_map,List.getElem?_eq_getElem h,getD_at h]
 rfl
theorem compLL_map {α:Type} {f:D->(List D->Prop)->Prop} {g:α->D} {h:α->List D}:∀ {l:List α} {Q:List (List D)->Prop},(∀ a ∈ l,∀ Q,f (g a) Q ↔ Q (h a))->(compLL f (l.map g) Q ↔ Q (l.map h))
 | [],Q,_=>Iff.rfl
 | a :: l,Q,k=>by
   rw [List.map_cons,List.map_cons,compLL,k a (List.mem_cons_self ..),compLL_map fun b hb=>k b (List.mem_cons_of_mem _ hb)]
theorem compLL_range {f:D->(List D->Prop)->Prop} {h:Nat->List D} {m:Nat} {Q:List (List D)->Prop} (k:∀ i,i < m->∀ Q,f (.int i) Q ↔ Q (h i)):compLL f (rangeD 0 1 m) Q ↔ Q ((List.range m).map h):=by
 rw [rangeD_map,compLL_map (h:=h) (fun i hi Q=>by rw [Int.zero_add];exact k i (List.mem_range.mp hi) Q)]
theorem tab_rows (T:List (List (Int × Int))):K42.tabD T=rowsD (T.map fun r=>r.map nq):=by
 unfold K42.tabD rowsD
 rw [List.map_map]
 rfl
def c_column:Ctr where
 pre ds:=∃ (rows:List (List (Int × Int))) (p:Nat),ds=[K42.tabD rows,.int p] /\ rows.length<=200 /\ ∀ r ∈ rows,p < r.length
 res ds d:=∀ (rows:List (List (Int × Int))) (p:Nat),ds=[K42.tabD rows,.int p]->d=.lst ((colF p rows).map nq)
theorem col_inj {r r':List (List (Int × Int))} {p p':Nat} (h:[K42.tabD r,D.int p]=[K42.tabD r',D.int p']):r=r' /\ p=p':=by
 simp only [List.cons.injEq,D.int.injEq,and_true] at h
 exact ⟨tab_inj (by rw [h.1]),by lia⟩
theorem wp_column {rows:List (List (Int × Int))} {p:Nat} {Q:D->Prop} {E:XD->Prop} (hl:rows.length<=200) (hp:∀ r ∈ rows,p < r.length):c_column.wp [K42.tabD rows,.int p] Q E ↔ Q (.lst ((colF p rows).map nq)):=by
 constructor
 ·intro w
  refine w.2.1 _ fun rows' p' e=>?_
  obtain ⟨rfl,rfl⟩:=col_inj e
  rfl
 ·intro q
  exact ⟨⟨rows,p,rfl,hl,hp⟩,fun d h=>by rw [h rows p rfl];exact q,fun _ z=>z.elim⟩
def turnF (A:Nat) (rows:List (List (Int × Int))):List (List (Int × Int)):=(List.range A).map fun p=>colF p rows
def c_turned:Ctr where
 pre ds:=∃ (A:Nat) (rows:List (List (Int × Int))),ds=[K42.tabD rows] /\ (rows ≠ [] /\ rows.length<=200 /\ A<=200) /\ ∀ r ∈ rows,r.length=A
 res ds d:=∀ (A:Nat) (rows:List (List (Int × Int))),ds=[K42.tabD rows]->rows ≠ []->(∀ r ∈ rows,r.length=A)->d=K42.tabD (turnF A rows)
theorem turn_same {A A':Nat} {rows:List (List (Int × Int))} (h0:rows ≠ []) (h:∀ r ∈ rows,r.length=A) (h':∀ r ∈ rows,r.length=A'):A=A':=by
 obtain ⟨r,rs,rfl⟩:=List.exists_cons_of_ne_nil h0
 rw [<- h r (List.mem_cons_self ..),<- h' r (List.mem_cons_self ..)]
theorem wp_turned {A:Nat} {rows:List (List (Int × Int))} {Q:D->Prop} {E:XD->Prop} (h0:rows ≠ []) (hl:rows.length<=200) (hA:A<=200) (hr:∀ r ∈ rows,r.length=A):c_turned.wp [K42.tabD rows] Q E ↔ Q (K42.tabD (turnF A rows)):=by
 constructor
 ·intro w
  refine w.2.1 _ fun A' rows' e h0' hr'=>?_
  have e:=tab_inj e
  subst e
  rw [turn_same h0 hr hr']
 ·intro q
  exact ⟨⟨A,rows,rfl,⟨h0,hl,hA⟩,hr⟩,fun d h=>by rw [h A rows rfl h0 hr];exact q,fun _ z=>z.elim⟩
theorem dep_tab (T:List (List (Int × Int))):depD (K42.tabD T)<=3:=by
 unfold K42.tabD
 rw [dep_lst]
 have:depDs (T.map fun r=>D.lst (r.map nq))<=2:=by
  induction T with
  | nil=>simp [deps_n]
  | cons r rs ih=>rw [List.map_cons,deps_c,dep_lst];have:=depDs_rows r;lia
 lia
end Z.K40
set_option exponentiation.threshold 3000
namespace Z.J51
open PySem Z Z.K42 Z.K40
def b_rows_in_steps (i_in_steps:Nat):Sm :=
 (.seq (.ret (.compE (.var 0) (.call i_in_steps [(.var 2),(.var 1)])))
 .nop)
def wD (M:List (List Int)):D:=.lst (M.map fun r=>.lst (r.map .int))
def c_rows_in_steps:Ctr where
 pre ds:=∃ (rows:List (List (Int × Int))) (p:Int),ds=[tabD rows,.int p] /\ rows.length<=200 /\ (∀ r ∈ rows,Smalls r) /\ -200<=p /\ ∀ r ∈ rows,∀ x ∈ r,p<=x.2
 res ds d:=∀ (rows:List (List (Int × Int))) (p:Int),ds=[tabD rows,.int p]->d=wD (rows.map fun r=>r.map (atW p))
theorem injs {r r':List (List (Int × Int))} {p p':Int} (h:[tabD r,D.int p]=[tabD r',D.int p']):r=r' /\ p=p':=by
 simp only [List.cons.injEq,D.int.injEq,and_true] at h
 exact ⟨tab_inj (by rw [h.1]),h.2⟩
theorem k_rows_in_steps {C:Cfg} {i:Nat} (h1:C.ct i=c_in_steps):Keeps C 2 (b_rows_in_steps i) c_rows_in_steps:=by
 rintro ds ⟨rows,p,rfl,hl,g,hp,hx⟩
 rw [b_rows_in_steps,tabD]
 simp_all! only [List.length_map]
 refine ⟨by unfold lim;lia,?_⟩
 rw [compL_map (g:=fun r:List (Int × Int)=>D.lst (r.map nq)) (h:=fun r=>D.lst ((r.map (atW p)).map .int)) (fun r hr Q=>by
  have w:=fun Q E=>wp_in_steps (Q:=Q) (E:=E) (g r hr) hp (hx r hr)
  dsimp! only [h1,w,List.map_map]
  rfl)]
 intro rows' p' e
 obtain ⟨rfl,rfl⟩:=injs (r:=rows) e
 unfold wD
 rw [List.map_map]
 rfl
theorem wp_ris {rows:List (List (Int × Int))} {p:Int} {Q:D->Prop} {E:XD->Prop} (hl:rows.length<=200) (g:∀ r ∈ rows,Smalls r) (hp:-200<=p) (hx:∀ r ∈ rows,∀ x ∈ r,p<=x.2):c_rows_in_steps.wp [tabD rows,.int p] Q E ↔ Q (wD (rows.map fun r=>r.map (atW p))) :=
 ⟨fun w=>w.2.1 _ fun r p' e=>by obtain ⟨rfl,rfl⟩:=injs e;rfl,fun q=>⟨⟨rows,p,rfl,hl,g,hp,hx⟩,fun d h=>by rw [h rows p rfl];exact q,fun _ z=>z.elim⟩⟩
def fitR (ps:List Nat) (t:Nat) (r:List (Int × Int)):List (Int × Int):=((1,0) :: ps.map fun p=>r.getD p (0,0)) ++ [r.getD t (0,0)]
structure FitOk (T:List (List (Int × Int))) (ps:List Nat) (t:Nat):Prop where
 n0:T ≠ []
 few:T.length<=20
 pl:ps.length<=4
 row:∀ r ∈ T,Smalls r /\ t < r.length /\ ∀ p ∈ ps,p < r.length
theorem small_at {r:List (Int × Int)} {p:Nat} (g:Smalls r) (h:p < r.length):SmallP (r.getD p (0,0)):=by
 rw [K40.getD_at h];exact g.all _ (List.getElem_mem h)
theorem small_one:SmallP ((1,0):Int × Int):=⟨by decide,by decide,by decide⟩
theorem FitOk.sm {T:List (List (Int × Int))} {ps:List Nat} {t:Nat} (g:FitOk T ps t):∀ r ∈ T,Smalls (fitR ps t r):=by
 intro r hr
 obtain ⟨s,ht,hp⟩:=g.row r hr
 refine ⟨by have:=g.pl;unfold fitR;simp;lia,fun x hx=>?_⟩
 unfold fitR at hx
 rcases List.mem_append.mp hx with z | z
 ·rcases List.mem_cons.mp z with rfl | z
  ·exact small_one
  ·obtain ⟨p,hp',rfl⟩:=List.mem_map.mp z
   exact small_at s (hp p hp')
 ·simp only [List.mem_cons,List.not_mem_nil,or_false] at z
  subst z
  exact small_at s ht
theorem ints_inj {as bs:List Int} (h:D.lst (as.map .int)=D.lst (bs.map .int)):as=bs:=by
 injection h with h
 exact map_inj (fun a b e=>by injection e) h
theorem w_inj {M N:List (List Int)} (h:wD M=wD N):M=N:=by
 unfold wD at h
 injection h with h
 exact map_inj (fun a b e=>ints_inj e) h
theorem bits_atW {low:Int} {x:Int × Int} (h:SmallP x) (l:-130<=low):bits (atW low x)<=330:=by
 have:=bits_shl (w:=x.1) (k:=(x.2 - low).toNat)
 have:=h.b
 have:=h.hi
 unfold atW
 omega
end Z.J51
set_option exponentiation.threshold 3000
namespace Z.J45
open PySem Z Z.K42 Z.K40 Z.J51
def b_without:Sm :=
 (.seq (.ret (.compE (.var 0) (.bin .add (.slc (.var 2) (.cst .non) (.var 1)) (.slc (.var 2) (.bin .add (.var 1) (.cst (.int 1))) (.cst .non)))))
 .nop)
def b_whole_determinant1:Sm :=
 (.seq (.ite (.cmp .eq (.bi .len [(.var 0)]) (.cst (.int 1))) (.seq (.ret (.ix (.ix (.var 0) (.cst (.int 0))) (.cst (.int 0))))
  .nop) .nop)
 (.seq (.set 1 (.cst (.int 0)))
 (.seq (.set 2 (.cst (.int 1)))
 (.seq .never
 (.seq (.ret (.var 1))
 .nop)))))
def b_whole_determinant2 (i_whole_determinant1 i_without:Nat):Sm :=
 (.seq (.ite (.cmp .eq (.bi .len [(.var 0)]) (.cst (.int 1))) (.seq (.ret (.ix (.ix (.var 0) (.cst (.int 0))) (.cst (.int 0))))
  .nop) .nop)
 (.seq (.set 1 (.cst (.int 0)))
 (.seq (.set 2 (.cst (.int 1)))
 (.seq (.forN 3 (.ix (.var 0) (.cst (.int 0))) (.seq (.set 1 (.bin .add (.var 1) (.bin .mul (.bin .mul (.var 2) (.ix (.var 3) (.cst (.int 1)))) (.call i_whole_determinant1 [(.call i_without [(.slc (.var 0) (.cst (.int 1)) (.cst .non)),(.ix (.var 3) (.cst (.int 0)))])]))))
  (.seq (.set 2 (.neg (.var 2)))
  .nop)))
 (.seq (.ret (.var 1))
 .nop)))))
def b_whole_determinant3 (i_whole_determinant2 i_without:Nat):Sm :=
 (.seq (.ite (.cmp .eq (.bi .len [(.var 0)]) (.cst (.int 1))) (.seq (.ret (.ix (.ix (.var 0) (.cst (.int 0))) (.cst (.int 0))))
  .nop) .nop)
 (.seq (.set 1 (.cst (.int 0)))
 (.seq (.set 2 (.cst (.int 1)))
 (.seq (.forN 3 (.ix (.var 0) (.cst (.int 0))) (.seq (.set 1 (.bin .add (.var 1) (.bin .mul (.bin .mul (.var 2) (.ix (.var 3) (.cst (.int 1)))) (.call i_whole_determinant2 [(.call i_without [(.slc (.var 0) (.cst (.int 1)) (.cst .non)),(.ix (.var 3) (.cst (.int 0)))])]))))
  (.seq (.set 2 (.neg (.var 2)))
  .nop)))
 (.seq (.ret (.var 1))
 .nop)))))
def b_whole_determinant4 (i_whole_determinant3 i_without:Nat):Sm :=
 (.seq (.ite (.cmp .eq (.bi .len [(.var 0)]) (.cst (.int 1))) (.seq (.ret (.ix (.ix (.var 0) (.cst (.int 0))) (.cst (.int 0))))
  .nop) .nop)
 (.seq (.set 1 (.cst (.int 0)))
 (.seq (.set 2 (.cst (.int 1)))
 (.seq (.forN 3 (.ix (.var 0) (.cst (.int 0))) (.seq (.set 1 (.bin .add (.var 1) (.bin .mul (.bin .mul (.var 2) (.ix (.var 3) (.cst (.int 1)))) (.call i_whole_determinant3 [(.call i_without [(.slc (.var 0) (.cst (.int 1)) (.cst .non)),(.ix (.var 3) (.cst (.int 0)))])]))))
  (.seq (.set 2 (.neg (.var 2)))
  .nop)))
 (.seq (.ret (.var 1))
 .nop)))))
def b_determinant (i_least_power i_one_by_one i_whole_determinant4 i_rows_in_steps i_value i_one_form:Nat):Sm :=
 (.seq (.set 1 (.call i_least_power [(.call i_one_by_one [(.var 0)])]))
 (.seq (.set 2 (.call i_whole_determinant4 [(.call i_rows_in_steps [(.var 0),(.var 1)])]))
 (.seq (.ret (.call i_value [(.call i_one_form [(.tup [(.var 2),(.bin .mul (.bi .len [(.var 0)]) (.var 1))])])]))
 .nop)))
def b_law_det1:Sm :=
 (.seq (.ite (.cmp .eq (.bi .len [(.var 0)]) (.cst (.int 1))) (.seq (.ret (.ix (.ix (.var 0) (.cst (.int 0))) (.cst (.int 0))))
  .nop) .nop)
 (.seq (.set 1 (.cst (.int 0)))
 (.seq .never
 (.seq (.ret (.var 1))
 .nop))))
def b_law_det2 (i_law_det1:Nat):Sm :=
 (.seq (.ite (.cmp .eq (.bi .len [(.var 0)]) (.cst (.int 1))) (.seq (.ret (.ix (.ix (.var 0) (.cst (.int 0))) (.cst (.int 0))))
  .nop) .nop)
 (.seq (.set 1 (.cst (.int 0)))
 (.seq (.forR 2 [(.bi .len [(.var 0)])] (.seq (.set 3 (.compE (.slc (.var 0) (.cst (.int 1)) (.cst .non)) (.bin .add (.slc (.var 4) (.cst .non) (.var 2)) (.slc (.var 4) (.bin .add (.var 2) (.cst (.int 1))) (.cst .non)))))
  (.seq (.set 1 (.bin .add (.var 1) (.bin .mul (.bin .mul (.ix (.ix (.var 0) (.cst (.int 0))) (.var 2)) (.call i_law_det1 [(.var 3)])) (.bin .sub (.cst (.int 1)) (.bin .mul (.cst (.int 2)) (.bin .mod (.var 2) (.cst (.int 2))))))))
  .nop)))
 (.seq (.ret (.var 1))
 .nop))))
def b_law_det3 (i_law_det2:Nat):Sm :=
 (.seq (.ite (.cmp .eq (.bi .len [(.var 0)]) (.cst (.int 1))) (.seq (.ret (.ix (.ix (.var 0) (.cst (.int 0))) (.cst (.int 0))))
  .nop) .nop)
 (.seq (.set 1 (.cst (.int 0)))
 (.seq (.forR 2 [(.bi .len [(.var 0)])] (.seq (.set 3 (.compE (.slc (.var 0) (.cst (.int 1)) (.cst .non)) (.bin .add (.slc (.var 4) (.cst .non) (.var 2)) (.slc (.var 4) (.bin .add (.var 2) (.cst (.int 1))) (.cst .non)))))
  (.seq (.set 1 (.bin .add (.var 1) (.bin .mul (.bin .mul (.ix (.ix (.var 0) (.cst (.int 0))) (.var 2)) (.call i_law_det2 [(.var 3)])) (.bin .sub (.cst (.int 1)) (.bin .mul (.cst (.int 2)) (.bin .mod (.var 2) (.cst (.int 2))))))))
  .nop)))
 (.seq (.ret (.var 1))
 .nop))))
def b_law_det4 (i_law_det3:Nat):Sm :=
 (.seq (.ite (.cmp .eq (.bi .len [(.var 0)]) (.cst (.int 1))) (.seq (.ret (.ix (.ix (.var 0) (.cst (.int 0))) (.cst (.int 0))))
  .nop) .nop)
 (.seq (.set 1 (.cst (.int 0)))
 (.seq (.forR 2 [(.bi .len [(.var 0)])] (.seq (.set 3 (.compE (.slc (.var 0) (.cst (.int 1)) (.cst .non)) (.bin .add (.slc (.var 4) (.cst .non) (.var 2)) (.slc (.var 4) (.bin .add (.var 2) (.cst (.int 1))) (.cst .non)))))
  (.seq (.set 1 (.bin .add (.var 1) (.bin .mul (.bin .mul (.ix (.ix (.var 0) (.cst (.int 0))) (.var 2)) (.call i_law_det3 [(.var 3)])) (.bin .sub (.cst (.int 1)) (.bin .mul (.cst (.int 2)) (.bin .mod (.var 2) (.cst (.int 2))))))))
  .nop)))
 (.seq (.ret (.var 1))
 .nop))))
def wo (M:List (List Int)) (j:Nat):List (List Int):=M.map fun r=>r.take j ++ r.drop (j + 1)
def sgn (j:Nat):Int:=1 - 2 * ((j % 2:Nat):Int)
theorem sgn_succ (j:Nat):sgn (j + 1)=-sgn j:=by unfold sgn;omega
theorem sgn_bits (j:Nat):bits (sgn j)<=1:=by
 have:sgn j=1 \/ sgn j=-1:=by unfold sgn;omega
 rcases this with e | e <;> rw [e] <;> decide
def detF:Nat->List (List Int)->Int
 | 0,M=>(M.getD 0 []).getD 0 0
 | n + 1,M=>((List.range (n + 2)).map fun j=>sgn j * (M.getD 0 []).getD j 0 * detF n (wo (M.drop 1) j)).sum
structure Rect (m n B:Nat) (M:List (List Int)):Prop where
 len:M.length=m
 row:∀ r ∈ M,r.length=n
 b:∀ r ∈ M,∀ x ∈ r,bits x<=B
theorem Rect.wo {m n B:Nat} {M:List (List Int)} (h:Rect m (n + 1) B M) {j:Nat} (hj:j < n + 1):Rect m n B (wo M j):=by
 refine ⟨by unfold J45.wo;rw [List.length_map];exact h.len,fun r hr=>?_,fun r hr x hx=>?_⟩
 ·obtain ⟨q,hq,rfl⟩:=List.mem_map.mp hr
  have:=h.row q hq
  rw [List.length_append,List.length_take,List.length_drop]
  lia
 ·obtain ⟨q,hq,rfl⟩:=List.mem_map.mp hr
  rcases List.mem_append.mp hx with z | z
  ·exact h.b q hq x (List.mem_of_mem_take z)
  ·exact h.b q hq x (List.mem_of_mem_drop z)
theorem Rect.tail {m n B:Nat} {M:List (List Int)} (h:Rect (m + 1) n B M):Rect m n B (M.drop 1) :=
 ⟨by rw [List.length_drop,h.len];lia,fun r hr=>h.row r (List.mem_of_mem_drop hr),fun r hr=>h.b r (List.mem_of_mem_drop hr)⟩
theorem head_mem {α:Type} {M:List α} {d:α} (h:0 < M.length):M.getD 0 d ∈ M:=by rw [K40.getD_at h];exact List.getElem_mem h
theorem item_b {B:Nat} {r:List Int} (h:∀ x ∈ r,bits x<=B) (j:Nat):bits (r.getD j 0)<=B:=by
 rcases Nat.lt_or_ge j r.length with z | z
 ·rw [K40.getD_at z];exact h _ (List.getElem_mem z)
 ·rw [List.getD,List.getElem?_eq_none z];exact Nat.zero_le _
def dB (B:Nat):Nat->Nat
 | 0=>B
 | n + 1=>B + dB B n + 1 + (n + 2)
theorem det_bits {B:Nat}:∀ (n:Nat) {M:List (List Int)},Rect (n + 1) (n + 1) B M->bits (detF n M)<=dB B n
 | 0,M,h=>by
   have h0:0 < M.length:=by rw [h.len];decide
   exact item_b (h.b _ (head_mem h0)) 0
 | n + 1,M,h=>by
   have h0:0 < M.length:=by rw [h.len];lia
   unfold detF
   have:=bits_sum (B:=B + dB B n + 1) (l:=(List.range (n + 2)).map fun j=>sgn j * (M.getD 0 []).getD j 0 * detF n (wo (M.drop 1) j)) fun x hx=>by
    obtain ⟨j,hj,rfl⟩:=List.mem_map.mp hx
    have hj:=List.mem_range.mp hj
    have a:=det_bits n (h.tail.wo hj)
    have b:=item_b (h.b _ (head_mem (d:=[]) h0)) j
    have c:=sgn_bits j
    have d:=bits_mul (sgn j) ((M.getD 0 []).getD j 0)
    have e:=bits_mul (sgn j * (M.getD 0 []).getD j 0) (detF n (wo (M.drop 1) j))
    lia
   rw [List.length_map,List.length_range] at this
   unfold dB
   lia
def c_det (k:Nat):Ctr where
 pre ds:=∃ n M,ds=[wD M] /\ Rect (n + 1) (n + 1) 400 M /\ n + 1<=k /\ k<=4
 res ds d:=∀ n M,ds=[wD M]->M.length=n + 1->d=.int (detF n M)
theorem w1 {M N:List (List Int)} (h:[wD M]=[wD N]):M=N:=w_inj (List.cons.inj h).1
theorem wp_det {k n:Nat} {M:List (List Int)} {Q:D->Prop} {E:XD->Prop} (h:Rect (n + 1) (n + 1) 400 M) (hk:n + 1<=k) (k4:k<=4):(c_det k).wp [wD M] Q E ↔ Q (.int (detF n M)) :=
 ⟨fun w=>w.2.1 _ fun n' M' e l=>by
  have e:=w1 e
  subst e
  have:n=n':=by have:=h.len;lia
  subst this
  rfl,fun q=>⟨⟨n,M,rfl,h,hk,k4⟩,fun d hd=>by rw [hd n M rfl h.len];exact q,fun _ z=>z.elim⟩⟩
theorem at_w {M:List (List Int)} {i:Nat} (h:i < M.length):atD (M.map fun r=>D.lst (r.map .int)) (i:Int)=some (.lst ((M.getD i []).map .int)):=by
 unfold atD
 rw [if_pos (by lia),Int.toNat_natCast,List.getElem?_map,List.getElem?_eq_getElem h,K40.getD_at h]
 rfl
theorem at_i {r:List Int} {i:Nat} (h:i < r.length):atD (r.map .int) (i:Int)=some (.int (r.getD i 0)):=by
 unfold atD
 rw [if_pos (by lia),Int.toNat_natCast,List.getElem?_map,List.getElem?_eq_getElem h,K40.getD_at h]
 rfl
theorem cut_to {α:Type} {f:α->D} {r:List α} {j:Nat} (h:j<=r.length):cutD (r.map f) none (some (j:Int))=(r.take j).map f:=by
 unfold cutD
 have e1:sIx (r.map f).length 0 none=0:=rfl
 rw [e1,List.length_map,sIx_nat,Nat.min_eq_left h,List.drop_zero,Nat.sub_zero,List.map_take]
theorem cut_from {α:Type} {f:α->D} {r:List α} {j:Nat} (h:j<=r.length):cutD (r.map f) (some (j:Int)) none=(r.drop j).map f:=by
 unfold cutD
 have e1:sIx (r.map f).length (r.map f).length none=(r.map f).length:=rfl
 rw [e1,List.length_map,sIx_nat,Nat.min_eq_left h,List.take_of_length_le (by rw [List.length_drop,List.length_map];exact Nat.le_refl _),List.map_drop]
def c_without:Ctr where
 pre ds:=∃ (M:List (List Int)) (j:Nat),ds=[wD M,.int j] /\ M.length<=200 /\ ∀ r ∈ M,j < r.length /\ r.length<=200
 res ds d:=∀ (M:List (List Int)) (j:Nat),ds=[wD M,.int j]->d=wD (wo M j)
theorem wo_row {r:List Int} {j:Nat} {Q:D->Prop} (hj:j < r.length) (hl:r.length<=200):binD .add (.lst (cutD (r.map .int) none (some (j:Int)))) (.lst (cutD (r.map .int) (some ((j:Int) + 1)) none)) Q ↔ Q (.lst ((r.take j ++ r.drop (j + 1)).map .int)):=by
 rw [cut_to (by lia),show ((j:Int) + 1)=((j + 1:Nat):Int) by push_cast;rfl,cut_from (by lia),bin_addl,List.map_append]
 refine and_iff_right ?_
 rw [List.length_map,List.length_map,List.length_take,List.length_drop]
 unfold lim;lia
theorem k_without {C:Cfg}:Keeps C 2 b_without c_without:=by
 rintro ds ⟨M,j,rfl,hl,g⟩
 rw [b_without,wD]
 simp_all! only [List.length_map]
 refine ⟨by unfold lim;lia,?_⟩
 rw [compL_map (g:=fun r:List Int=>D.lst (r.map .int)) (h:=fun r=>D.lst ((r.take j ++ r.drop (j + 1)).map .int)) (fun r hr Q=>by
  obtain ⟨a,b⟩:=g r hr
  have w:=fun Q=>wo_row (Q:=Q) a b
  simp only [wpE,getS,prt,isNon,intO,slD,bin_add,Option.bind]
  dsimp! only [prt,isNon,intO,slD,listD,w])]
 intro M' j' e
 simp only [List.cons.injEq,D.int.injEq,and_true] at e
 have e1:=w_inj e.1
 have e2:j=j':=by lia
 subst e1 e2
 unfold wD wo
 rw [List.map_map]
 rfl
theorem wp_without {M:List (List Int)} {j:Nat} {Q:D->Prop} {E:XD->Prop} (hl:M.length<=200) (g:∀ r ∈ M,j < r.length /\ r.length<=200):c_without.wp [wD M,.int j] Q E ↔ Q (wD (wo M j)) :=
 ⟨fun w=>w.2.1 _ fun M' j' e=>by
  simp only [List.cons.injEq,D.int.injEq,and_true] at e
  have e1:=w_inj e.1
  have e2:j=j':=by lia
  subst e1 e2
  rfl,fun q=>⟨⟨M,j,rfl,hl,g⟩,fun d h=>by rw [h M j rfl];exact q,fun _ z=>z.elim⟩⟩
def trm (n:Nat) (M:List (List Int)) (j:Nat):Int:=sgn j * (M.getD 0 []).getD j 0 * detF n (wo (M.drop 1) j)
theorem sum_succ (f:Nat->Int) (j:Nat):((List.range (j + 1)).map f).sum=((List.range j).map f).sum + f j:=by
 rw [List.range_succ,List.map_append,List.sum_append];simp
theorem enm_ints (l:List Int):enmD (l.map .int)=(List.range' 0 l.length).map fun j=>.tup [.int (j:Nat),.int (l.getD j 0)]:=by
 unfold enmD
 refine List.ext_getElem (by simp) fun i h1 h2=>?_
 simp only [List.length_map,List.length_zipIdx] at h1
 rw [List.getElem_map,List.getElem_map,List.getElem_zipIdx,List.getElem_range',List.getElem_map,K40.getD_at (by lia)]
 simp
structure Step (k n:Nat) (M:List (List Int)):Prop where
 r:Rect (n + 2) (n + 2) 400 M
 k1:n + 1<=k
 k4:k<=3
theorem Step.h0 {k n:Nat} {M:List (List Int)} (g:Step k n M):0 < M.length:=by rw [g.r.len];lia
theorem dB_le {n:Nat} (h:n<=3):dB 400 n<=1700:=by
 have:n=0 \/ n=1 \/ n=2 \/ n=3:=by omega
 rcases this with rfl | rfl | rfl | rfl <;> decide
theorem Step.bx {k n:Nat} {M:List (List Int)} (g:Step k n M) (j:Nat):bits ((M.getD 0 []).getD j 0)<=400:=item_b (g.r.b _ (head_mem (d:=[]) g.h0)) j
theorem Step.bd {k n:Nat} {M:List (List Int)} (g:Step k n M) {j:Nat} (hj:j < n + 2):bits (detF n (wo (M.drop 1) j))<=1700:=by
 have:=det_bits n (g.r.tail.wo hj)
 have:=dB_le (n:=n) (by have:=g.k1;have:=g.k4;lia)
 lia
theorem Step.len0 {k n:Nat} {M:List (List Int)} (g:Step k n M):(M.getD 0 []).length=n + 2:=g.r.row _ (head_mem (d:=[]) g.h0)
theorem Step.at0 {k n:Nat} {M:List (List Int)} (g:Step k n M):atD (M.map fun r=>D.lst (r.map .int)) 0=some (.lst ((M.getD 0 []).map .int)):=at_w (i:=0) g.h0
theorem Step.cut {k n:Nat} {M:List (List Int)} (g:Step k n M):D.lst (cutD (M.map fun r=>D.lst (r.map .int)) (some 1) none)=wD (M.drop 1):=by
 have:=cut_from (f:=fun r:List Int=>D.lst (r.map .int)) (r:=M) (j:=1) (by have:=g.h0;lia)
 rw [show (some (1:Int))=some ((1:Nat):Int) from rfl,this]
 rfl
theorem Step.wo {k n:Nat} {M:List (List Int)} (g:Step k n M) {j:Nat} (hj:j < n + 2):(M.drop 1).length<=200 /\ ∀ r ∈ M.drop 1,j < r.length /\ r.length<=200:=by
 have:=g.k1;have:=g.k4
 refine ⟨by rw [g.r.tail.len];lia,fun r hr=>?_⟩
 rw [g.r.tail.row r hr]
 lia
theorem det_one {C:Cfg} {M:List (List Int)} {b:Sm} {K:DE} {l:Sto} (h:Rect 1 1 400 M) (q:K.rt (.int (detF 0 M))) :
 wpS C (.seq (.ite (.cmp .eq (.bi .len [(.var 0)]) (.cst (.int 1))) (.seq (.ret (.ix (.ix (.var 0) (.cst (.int 0))) (.cst (.int 0)))) .nop) .nop) b) K (some (.sh (wD M)) :: l):=by
 have h0:0 < M.length:=by rw [h.len];decide
 have a0:atD (M.map fun r=>D.lst (r.map .int)) 0=some (.lst ((M.getD 0 []).map .int)):=at_w (i:=0) h0
 have a1:atD ((M.getD 0 []).map .int) 0=some (.int ((M.getD 0 []).getD 0 0)):=at_i (i:=0) (by rw [h.row _ (head_mem (d:=[]) h0)];decide)
 have l1:=h.len
 rw [ws_seq,ws_ite,wD]
 dsimp! only [List.length_map,l1]
 simp_all! only [a0,a1]
 exact q
theorem det_more {C:Cfg} {n:Nat} {M:List (List Int)} {b:Sm} {K:DE} {l:Sto} (h:Rect (n + 2) (n + 2) 400 M) (q:wpS C b K (some (.sh (wD M)) :: l)) :
 wpS C (.seq (.ite (.cmp .eq (.bi .len [(.var 0)]) (.cst (.int 1))) (.seq (.ret (.ix (.ix (.var 0) (.cst (.int 0))) (.cst (.int 0)))) .nop) .nop) b) K (some (.sh (wD M)) :: l):=by
 refine guard ?_ q
 have l1:=h.len
 have l2:¬ ((n + 2:Nat):Int)=1:=by lia
 rw [wD]
 dsimp! only [List.length_map,l1,l2]
 simp
 lia
theorem k_det1 {C:Cfg}:Keeps C 4 b_whole_determinant1 (c_det 1):=by
 rintro ds ⟨n,M,rfl,h,k1,_⟩
 have:n=0:=by lia
 subst this
 rw [b_whole_determinant1]
 refine det_one h fun n' M' e l=>?_
 have e:=w1 e
 subst e
 have:n'=0:=by have:=h.len;lia
 subst this
 rfl
theorem k_det {C:Cfg} {i1 i2 k:Nat} (h1:C.ct i1=c_det k) (h2:C.ct i2=c_without) (k3:k<=3):Keeps C 4 (b_whole_determinant2 i1 i2) (c_det (k + 1)):=by
 rintro ds ⟨n,M,rfl,h,k1,_⟩
 have fin:∀ d,d=.int (detF n M)->(c_det (k + 1)).res [wD M] d:=fun d hd n' M' e l=>by
  have e:=w1 e
  subst e
  have:n'=n:=by have:=h.len;lia
  subst this
  exact hd
 rw [b_whole_determinant2]
 cases n with
 | zero=>exact det_one h (fin _ rfl)
 | succ n =>
   have g:Step k n M:=⟨h,by lia,k3⟩
   refine det_more h ?_
   simp_all! only []
   let S (j:Nat) (a:Option Sl):Sto:=[some (.sh (wD M)),some (.sh (.int ((List.range j).map (trm n M)).sum)),some (.sh (.int (sgn j))),a]
   refine seq_cut (fun σ=>∃ a,σ=S (n + 2) a) ?_ ?_
   ·rw [ws_forN]
    have a0:=g.at0
    dsimp! only [wD,a0]
    rw [enm_ints,g.len0]
    refine forS_by (fun ds σ=>∃ (j:Nat) (a:Option Sl),(j<=n + 2 /\ ds=(List.range' j (n + 2 - j)).map fun j=>.tup [.int (j:Nat),.int ((M.getD 0 []).getD j 0)]) /\ σ=S j a) ⟨0,none,⟨by lia,rfl⟩,rfl⟩ ?_ ?_
    ·rintro d ds σ ⟨j,a,⟨hj,hd⟩,rfl⟩
     have hlt:j < n + 2:=by
      rcases Nat.lt_or_ge j (n + 2) with z | z
      ·exact z
      ·rw [show n + 2 - j=0 by lia] at hd;cases hd
     rw [show n + 2 - j=(n + 2 - (j + 1)) + 1 by lia,List.range'_succ,List.map_cons,List.cons.injEq] at hd
     obtain ⟨rfl,rfl⟩:=hd
     have bx:=g.bx j
     have bd:=g.bd hlt
     have bs:=sgn_bits j
     have bm:=bits_mul (sgn j) ((M.getD 0 []).getD j 0)
     have m1:MulOk (sgn j) ((M.getD 0 []).getD j 0):=mulOk_bits (by lia)
     have m2:MulOk (sgn j * (M.getD 0 []).getD j 0) (detF n (wo (M.drop 1) j)):=mulOk_bits (by lia)
     have w1:=fun Q E=>wp_without (M:=M.drop 1) (j:=j) (Q:=Q) (E:=E) (g.wo hlt).1 (g.wo hlt).2
     have w2:=fun Q E=>wp_det (k:=k) (n:=n) (M:=wo (M.drop 1) j) (Q:=Q) (E:=E) (g.r.tail.wo hlt) g.k1 (by lia)
     have cu:=g.cut
     simp only [S,wD]
     simp_all! only [prt,isNon,intO,slD,cu,h2,w1,h1,w2,m1,m2]
     rw [show ((List.range j).map (trm n M)).sum + sgn j * (M.getD 0 []).getD j 0 * detF n (wo (M.drop 1) j)=((List.range (j + 1)).map (trm n M)).sum from (sum_succ (trm n M) j).symm,<- sgn_succ]
     exact ⟨j + 1,_,⟨by lia,rfl⟩,rfl⟩
    ·rintro σ ⟨j,a,⟨hj,hd⟩,rfl⟩
     have:j=n + 2:=by
      rcases Nat.lt_or_ge j (n + 2) with z | z
      ·rw [show n + 2 - j=(n + 2 - (j + 1)) + 1 by lia,List.range'_succ] at hd;cases hd
      ·lia
     subst this
     exact ⟨a,rfl⟩
   rintro σ ⟨a,rfl⟩
   simp only [S]
   simp_all! only []
   exact fin _ rfl
theorem k_det2 {C:Cfg} {i1 i2:Nat} (h1:C.ct i1=c_det 1) (h2:C.ct i2=c_without):Keeps C 4 (b_whole_determinant2 i1 i2) (c_det 2):=k_det h1 h2 (by decide)
theorem k_det3 {C:Cfg} {i1 i2:Nat} (h1:C.ct i1=c_det 2) (h2:C.ct i2=c_without):Keeps C 4 (b_whole_determinant3 i1 i2) (c_det 3):=k_det h1 h2 (by decide)
theorem k_det4 {C:Cfg} {i1 i2:Nat} (h1:C.ct i1=c_det 3) (h2:C.ct i2=c_without):Keeps C 4 (b_whole_determinant4 i1 i2) (c_det 4):=k_det h1 h2 (by decide)
theorem k_ldet1 {C:Cfg}:Keeps C 4 b_law_det1 (c_det 1):=by
 rintro ds ⟨n,M,rfl,h,k1,_⟩
 have:n=0:=by lia
 subst this
 rw [b_law_det1]
 refine det_one h fun n' M' e l=>?_
 have e:=w1 e
 subst e
 have:n'=0:=by have:=h.len;lia
 subst this
 rfl
theorem k_ldet {C:Cfg} {i1 k:Nat} (h1:C.ct i1=c_det k) (k3:k<=3):Keeps C 4 (b_law_det2 i1) (c_det (k + 1)):=by
 rintro ds ⟨n,M,rfl,h,k1,_⟩
 have fin:∀ d,d=.int (detF n M)->(c_det (k + 1)).res [wD M] d:=fun d hd n' M' e l=>by
  have e:=w1 e
  subst e
  have:n'=n:=by have:=h.len;lia
  subst this
  exact hd
 rw [b_law_det2]
 cases n with
 | zero=>exact det_one h (fin _ rfl)
 | succ n =>
   have g:Step k n M:=⟨h,by lia,k3⟩
   have n3:n<=3:=by have:=g.k1;lia
   refine det_more h ?_
   simp_all! only []
   let S (j:Nat) (a b:Option Sl):Sto:=[some (.sh (wD M)),some (.sh (.int ((List.range j).map (trm n M)).sum)),a,b]
   refine seq_cut (fun σ=>∃ a b,σ=S (n + 2) a b) ?_ ?_
   ·rw [ws_forR]
    have l1:=h.len
    dsimp! only [wD,List.length_map,l1]
    refine ⟨by unfold RgOk;lia,?_⟩
    rw [Int.toNat_natCast]
    refine forS_by (fun ds σ=>∃ (j:Nat) (a b:Option Sl),(j<=n + 2 /\ ds=rangeD j 1 (n + 2 - j)) /\ σ=S j a b) ⟨0,none,none,⟨by lia,rfl⟩,rfl⟩ ?_ ?_
    ·rintro d ds σ ⟨j,a,b,⟨hj,hd⟩,rfl⟩
     have hlt:j < n + 2:=by
      rcases Nat.lt_or_ge j (n + 2) with z | z
      ·exact z
      ·rw [show n + 2 - j=0 by lia] at hd;cases hd
     rw [show n + 2 - j=(n + 2 - (j + 1)) + 1 by lia,rangeD,List.cons.injEq] at hd
     obtain ⟨rfl,rfl⟩:=hd
     have bx:=g.bx j
     have bd:=g.bd hlt
     have bs:=sgn_bits j
     have bm:=bits_mul ((M.getD 0 []).getD j 0) (detF n (wo (M.drop 1) j))
     have m1:MulOk ((M.getD 0 []).getD j 0) (detF n (wo (M.drop 1) j)):=mulOk_bits (by lia)
     have m2:MulOk ((M.getD 0 []).getD j 0 * detF n (wo (M.drop 1) j)) (sgn j):=mulOk_bits (by lia)
     have w2:=fun Q E=>wp_det (k:=k) (n:=n) (M:=wo (M.drop 1) j) (Q:=Q) (E:=E) (g.r.tail.wo hlt) g.k1 (by lia)
     have cu:=g.cut
     have a0:=g.at0
     have a1:atD ((M.getD 0 []).map .int) (j:Int)=some (.int ((M.getD 0 []).getD j 0)):=at_i (by rw [g.len0];exact hlt)
     have f2:(j:Int).fmod 2=((j % 2:Nat):Int):=by rw [fmod_pos (by decide)];lia
     have mm:MulOk 2 ((j % 2:Nat):Int):=.inl (by decide)
     have es:(1:Int) - 2 * ((j % 2:Nat):Int)=sgn j:=rfl
     have ll:((M.drop 1).map fun r=>D.lst (r.map .int)).length<=lim:=by rw [List.length_map];have:=(g.wo hlt).1;unfold lim;lia
     have wc:∀ Q:List D->Prop,compL (fun d Q=>slD d none (some (j:Int)) fun x=>slD d (some ((j:Int) + 1)) none fun y=>binD .add x y Q) ((M.drop 1).map fun r=>D.lst (r.map .int)) Q ↔ Q ((wo (M.drop 1) j).map fun r=>D.lst (r.map .int)):=fun Q=>by
      unfold wo
      rw [compL_map (g:=fun r:List Int=>D.lst (r.map .int)) (h:=fun r=>D.lst ((r.take j ++ r.drop (j + 1)).map .int)) (fun r hr Q=>by
       obtain ⟨x,y⟩:=(g.wo hlt).2 r hr
       exact wo_row x y),List.map_map]
      rfl
     simp only [S,wD] at cu w2 ⊢
     simp_all! only [prt,isNon,intO,slD,cu,ll,h1,w2,a0,a1,f2,mm,es,m1,m2]
     injection cu with cu
     rw [cu]
     refine ⟨ll,(wc _).mpr ?_⟩
     rw [w2]
     dsimp! only [m1,m2]
     have et:((List.range j).map (trm n M)).sum + (M.getD 0 []).getD j 0 * detF n (wo (M.drop 1) j) * sgn j=((List.range (j + 1)).map (trm n M)).sum:=by
      rw [sum_succ]
      unfold trm
      grind
     rw [et]
     exact ⟨j + 1,_,_,⟨by lia,by push_cast;rfl⟩,rfl⟩
    ·rintro σ ⟨j,a,b,⟨hj,hd⟩,rfl⟩
     have:j=n + 2:=by
      rcases Nat.lt_or_ge j (n + 2) with z | z
      ·rw [show n + 2 - j=(n + 2 - (j + 1)) + 1 by lia,rangeD] at hd;cases hd
      ·lia
     subst this
     exact ⟨a,b,rfl⟩
   rintro σ ⟨a,b,rfl⟩
   simp only [S]
   simp_all! only []
   exact fin _ rfl
theorem k_ldet2 {C:Cfg} {i1:Nat} (h1:C.ct i1=c_det 1):Keeps C 4 (b_law_det2 i1) (c_det 2):=k_ldet h1 (by decide)
theorem k_ldet3 {C:Cfg} {i1:Nat} (h1:C.ct i1=c_det 2):Keeps C 4 (b_law_det3 i1) (c_det 3):=k_ldet h1 (by decide)
theorem k_ldet4 {C:Cfg} {i1:Nat} (h1:C.ct i1=c_det 3):Keeps C 4 (b_law_det4 i1) (c_det 4):=k_ldet h1 (by decide)
structure SqT (n:Nat) (T:List (List (Int × Int))):Prop where
 n1:1<=n
 n4:n<=4
 len:T.length=n
 row:∀ r ∈ T,r.length=n
 sm:∀ r ∈ T,∀ x ∈ r,SmallP x
structure IsMin (T:List (List (Int × Int))) (low:Int):Prop where
 le:∀ r ∈ T,∀ x ∈ r,low<=x.2
 at_:∃ r ∈ T,∃ x ∈ r,x.2=low
theorem IsMin.uni {T:List (List (Int × Int))} {a b:Int} (h:IsMin T a) (g:IsMin T b):a=b:=by
 obtain ⟨r,hr,x,hx,e⟩:=h.at_
 obtain ⟨q,hq,y,hy,f⟩:=g.at_
 have:=h.le q hq y hy
 have:=g.le r hr x hx
 lia
def wh (low:Int) (T:List (List (Int × Int))):List (List Int):=T.map fun r=>r.map (atW low)
def detQ (n:Nat) (low:Int) (T:List (List (Int × Int))):Rat:=vr (detF (n - 1) (wh low T),n * low)
theorem SqT.ne {n:Nat} {T:List (List (Int × Int))} (g:SqT n T):T ≠ []:=by intro z;have:=g.len;rw [z] at this;have:=g.n1;simp at *;lia
theorem SqT.small {n:Nat} {T:List (List (Int × Int))} (g:SqT n T):∀ r ∈ T,Smalls r:=fun r hr=>⟨by rw [g.row r hr];have:=g.n4;lia,g.sm r hr⟩
theorem SqT.rect {n:Nat} {T:List (List (Int × Int))} {low:Int} (g:SqT n T) (l:-130<=low):Rect n n 400 (wh low T):=by
 refine ⟨by unfold wh;rw [List.length_map];exact g.len,fun r hr=>?_,fun r hr x hx=>?_⟩
 ·obtain ⟨q,hq,rfl⟩:=List.mem_map.mp hr
  rw [List.length_map];exact g.row q hq
 ·obtain ⟨q,hq,rfl⟩:=List.mem_map.mp hr
  obtain ⟨y,hy,rfl⟩:=List.mem_map.mp hx
  have:=bits_atW (low:=low) (g.sm q hq y hy) l
  lia
theorem IsMin.b {n:Nat} {T:List (List (Int × Int))} {low:Int} (h:IsMin T low) (g:SqT n T):-130<=low /\ low<=130:=by
 obtain ⟨r,hr,x,hx,e⟩:=h.at_
 have s:=g.sm r hr x hx
 have:=s.lo
 have:=s.hi
 lia
theorem flat_sq:∀ (T:List (List (Int × Int))) {n:Nat},(∀ r ∈ T,r.length=n)->T.flatten.length=T.length * n
 | [],n,_=>by simp
 | r :: T,n,h=>by rw [List.flatten_cons,List.length_append,flat_sq T fun x hx=>h x (List.mem_cons_of_mem _ hx),h r (List.mem_cons_self ..),List.length_cons,Nat.succ_mul];lia
def c_determinant:Ctr where
 pre ds:=∃ n T,ds=[tabD T] /\ SqT n T
 res ds d:=∀ n T,ds=[tabD T]->SqT n T->∃ low,IsMin T low /\ d=rq (detQ n low T)
theorem wp_determinant {n:Nat} {T:List (List (Int × Int))} {low:Int} {Q:D->Prop} {E:XD->Prop} (g:SqT n T) (m:IsMin T low):c_determinant.wp [tabD T] Q E ↔ Q (rq (detQ n low T)):=by
 constructor
 ·intro w
  refine w.2.1 _ fun n' T' e g'=>?_
  have e:=tab_inj e
  subst e
  have:n'=n:=by have:=g.len;have:=g'.len;lia
  subst this
  exact ⟨low,m,rfl⟩
 ·intro q
  refine ⟨⟨n,T,rfl,g⟩,fun d h=>?_,fun _ z=>z.elim⟩
  obtain ⟨low',m',rfl⟩:=h n T rfl g
  rw [m'.uni m]
  exact q
theorem k_determinant {C:Cfg} {i1 i2 i3 i4 i5 i6:Nat} (h1:C.ct i1=c_least_power) (h2:C.ct i2=c_one_by_one) (h3:C.ct i3=c_det 4) (h4:C.ct i4=c_rows_in_steps) (h5:C.ct i5=c_value) (h6:C.ct i6=c_one_form):Keeps C 3 (b_determinant i1 i2 i3 i4 i5 i6) c_determinant:=by
 rintro ds ⟨n,T,rfl,g⟩
 have n1:=g.n1
 have n4:=g.n4
 have fl:=flat_sq T g.row
 rw [g.len] at fl
 have f16:n * n<=4 * 4:=Nat.mul_le_mul n4 n4
 have f1:1 * 1<=n * n:=Nat.mul_le_mul n1 n1
 have wo:=fun Q E=>wp_obo (rows:=T) (Q:=Q) (E:=E) (by lia)
 have ne:T.flatten ≠ []:=by intro z;rw [z] at fl;simp at fl;lia
 have few2:T.flatten.length<=200:=by lia
 rw [b_determinant]
 simp_all! only [h2,wo,h1,c_least_power,wp_1,ne,few2]
 obtain ⟨p1,p2⟩:=mmF_le (d:=0) (ns:=T.flatten.map (·.2))
 generalize mmF false 0 (T.flatten.map (·.2))=low at *
 have m:IsMin T low:=by
  refine ⟨fun r hr x hx=>p1 _ (List.mem_map.mpr ⟨x,List.mem_flatten.mpr ⟨r,hr,hx⟩,rfl⟩),?_⟩
  rcases p2 with z | z
  ·obtain ⟨x,hx,e⟩:=List.mem_map.mp z
   obtain ⟨r,hr,hx⟩:=List.mem_flatten.mp hx
   exact ⟨r,hr,x,hx,e⟩
  ·exact absurd (List.map_eq_nil_iff.mp z.1) ne
 obtain ⟨l1,l2⟩:=m.b g
 have wr:=fun Q E=>wp_ris (rows:=T) (p:=low) (Q:=Q) (E:=E) (by rw [g.len];lia) g.small (by lia) m.le
 have rect:=g.rect l1
 have en:n - 1 + 1=n:=by lia
 have wd:=fun Q E=>wp_det (k:=4) (n:=n - 1) (M:=wh low T) (Q:=Q) (E:=E) (by rw [en];exact rect) (by lia) (by decide)
 have bd:=det_bits (n - 1) (M:=wh low T) (by rw [en];exact rect)
 have bd2:=dB_le (n:=n - 1) (by lia)
 simp_all! only [h4,wr,h3]
 rw [show (T.map fun r=>r.map (atW low))=wh low T from rfl,wd]
 have mo:MulOk (n:Int) low:=.inl (by have:=bits_le_iff (i:=(n:Int)) (n:=10);have:=this.mpr (by omega);lia)
 have lenT:biD .len [tabD T]=fun Q=>Q (.int (n:Int)):=by
  funext Q
  show Q (.int ((T.map fun r=>D.lst (r.map nq)).length:Int))=_
  rw [List.length_map,g.len]
 simp_all! only [lenT,mo,mk_nq]
 let t:Int × Int:=(detF (n - 1) (wh low T),(n:Int) * low)
 have bt:bits t.1<=1700:=by show bits (detF (n - 1) (wh low T))<=1700;lia
 have tp:-520<=t.2 /\ t.2<=520:=by
  show -520<=(n:Int) * low /\ (n:Int) * low<=520
  have:n=1 \/ n=2 \/ n=3 \/ n=4:=by omega
  rcases this with rfl | rfl | rfl | rfl <;> omega
 have ed:dq (vr t)=bareF t.1 t.2:=by rw [bare_dq];rfl
 have bb:=bareF_bare t.1 t.2
 have hn:=bb.num (bits_le_iff.mp bt)
 have hp:=bb.pow (bits_le_iff.mp bt)
 have v2:=fun Q E=>wp_value2 (Q:=Q) (E:=E) (x:=dq (vr t)) (by rw [ed];exact bareF_odd _ _) (by rw [ed];have:=bits_le_iff.mpr hn.sz;lia) (by rw [ed];lia) (by rw [ed];lia)
 have ev:vr (dq (vr t))=vr t:=by rw [ed,vr_bareF];rfl
 rw [show ((detF (n - 1) (wh low T),(n:Int) * low):Int × Int)=t from rfl]
 simp_all! only [h5,h6,c_one_form,wp_P0,v2,ev]
 intro n' T' e g'
 have e:=tab_inj (r:=T) e
 subst e
 have:n'=n:=by have:=g.len;have:=g'.len;lia
 subst this
 exact ⟨low,m,rfl⟩
def c_det1:Ctr:=c_det 1
def c_det2:Ctr:=c_det 2
def c_det3:Ctr:=c_det 3
def c_det4:Ctr:=c_det 4
end Z.J45
set_option exponentiation.threshold 3000
namespace Z.L45
open PySem Z Z.K42 Z.K40 Z.J51 Z.J45
theorem l1 {α:Type} {l:List α} (h:l.length=1):∃ a,l=[a]:=by
 match l,h with
 | [a],_=>exact ⟨a,rfl⟩
theorem l2 {α:Type} {l:List α} (h:l.length=2):∃ a b,l=[a,b]:=by
 match l,h with
 | [a,b],_=>exact ⟨a,b,rfl⟩
theorem l3 {α:Type} {l:List α} (h:l.length=3):∃ a b c,l=[a,b,c]:=by
 match l,h with
 | [a,b,c],_=>exact ⟨a,b,c,rfl⟩
theorem l4 {α:Type} {l:List α} (h:l.length=4):∃ a b c d,l=[a,b,c,d]:=by
 match l,h with
 | [a,b,c,d],_=>exact ⟨a,b,c,d,rfl⟩
theorem sg0:sgn 0=1:=by decide
theorem sg1:sgn 1=-1:=by decide
theorem sg2:sgn 2=1:=by decide
theorem sg3:sgn 3=-1:=by decide
theorem rg2:List.range 2=[0,1]:=rfl
theorem rg3:List.range 3=[0,1,2]:=rfl
theorem rg4:List.range 4=[0,1,2,3]:=rfl
theorem d1 (a:Int):detF 0 [[a]]=a:=rfl
theorem d2 (a b c d:Int):detF 1 [[a,b],[c,d]]=a * d - b * c:=by
 show ((List.range 2).map _).sum=_
 rw [rg2]
 simp only [List.map_cons,List.map_nil,List.sum_cons,List.sum_nil,sg0,sg1,wo,List.drop_succ_cons,List.drop_zero,List.take_succ_cons,List.take_zero,List.nil_append,List.cons_append,List.drop_nil,d1,List.getD_cons_zero,List.getD_cons_succ]
 grind
theorem d3 (a b c d e f g h i:Int):detF 2 [[a,b,c],[d,e,f],[g,h,i]]=a * (e * i - f * h) - b * (d * i - f * g) + c * (d * h - e * g):=by
 show ((List.range 3).map _).sum=_
 rw [rg3]
 simp only [List.map_cons,List.map_nil,List.sum_cons,List.sum_nil,sg0,sg1,sg2,wo,List.drop_succ_cons,List.drop_zero,List.take_succ_cons,List.take_zero,List.nil_append,List.cons_append,List.drop_nil,d2,List.getD_cons_zero,List.getD_cons_succ]
 grind
def D3 (a b c d e f g h i:Int):Int:=a * (e * i - f * h) - b * (d * i - f * g) + c * (d * h - e * g)
theorem d4 (a b c d e f g h i j k l m n o p:Int):detF 3 [[a,b,c,d],[e,f,g,h],[i,j,k,l],[m,n,o,p]]=a * D3 f g h j k l n o p - b * D3 e g h i k l m o p + c * D3 e f h i j l m n p - d * D3 e f g i j k m n o:=by
 show ((List.range 4).map _).sum=_
 rw [rg4]
 simp only [List.map_cons,List.map_nil,List.sum_cons,List.sum_nil,sg0,sg1,sg2,sg3,wo,List.drop_succ_cons,List.drop_zero,List.take_succ_cons,List.take_zero,List.nil_append,List.cons_append,List.drop_nil,d3,List.getD_cons_zero,List.getD_cons_succ]
 unfold D3
 grind
theorem det_turn {n:Nat} {T:List (List (Int × Int))} (g:SqT n T) (low:Int):detF (n - 1) (wh low (turnF n T))=detF (n - 1) (wh low T):=by
 have n1:=g.n1
 have n4:=g.n4
 have:n=1 \/ n=2 \/ n=3 \/ n=4:=by omega
 rcases this with rfl | rfl | rfl | rfl
 ·obtain ⟨r,rfl⟩:=l1 g.len
  obtain ⟨a,rfl⟩:=l1 (g.row r (by simp))
  rfl
 ·obtain ⟨r,s,rfl⟩:=l2 g.len
  obtain ⟨a,b,rfl⟩:=l2 (g.row r (by simp))
  obtain ⟨c,d,rfl⟩:=l2 (g.row s (by simp))
  show detF 1 [[atW low a,atW low c],[atW low b,atW low d]]=detF 1 [[atW low a,atW low b],[atW low c,atW low d]]
  rw [d2,d2]
  grind
 ·obtain ⟨r,s,t,rfl⟩:=l3 g.len
  obtain ⟨a,b,c,rfl⟩:=l3 (g.row r (by simp))
  obtain ⟨d,e,f,rfl⟩:=l3 (g.row s (by simp))
  obtain ⟨k,h,i,rfl⟩:=l3 (g.row t (by simp))
  show detF 2 [[atW low a,atW low d,atW low k],[atW low b,atW low e,atW low h],[atW low c,atW low f,atW low i]]=detF 2 [[atW low a,atW low b,atW low c],[atW low d,atW low e,atW low f],[atW low k,atW low h,atW low i]]
  rw [d3,d3]
  grind
 ·obtain ⟨r,s,t,u,rfl⟩:=l4 g.len
  obtain ⟨a1,a2,a3,a4,rfl⟩:=l4 (g.row r (by simp))
  obtain ⟨b1,b2,b3,b4,rfl⟩:=l4 (g.row s (by simp))
  obtain ⟨c1,c2,c3,c4,rfl⟩:=l4 (g.row t (by simp))
  obtain ⟨e1,e2,e3,e4,rfl⟩:=l4 (g.row u (by simp))
  show detF 3 [[atW low a1,atW low b1,atW low c1,atW low e1],[atW low a2,atW low b2,atW low c2,atW low e2],[atW low a3,atW low b3,atW low c3,atW low e3],[atW low a4,atW low b4,atW low c4,atW low e4]]=detF 3 [[atW low a1,atW low a2,atW low a3,atW low a4],[atW low b1,atW low b2,atW low b3,atW low b4],[atW low c1,atW low c2,atW low c3,atW low c4],[atW low e1,atW low e2,atW low e3,atW low e4]]
  rw [d4,d4]
  unfold D3
  grind
def swF (i j:Nat) (T:List (List (Int × Int))):List (List (Int × Int)):=(T.set i (T.getD j [])).set j (T.getD i [])
theorem det_swap {n i:Nat} {T:List (List (Int × Int))} (g:SqT n T) (h2:2<=n) (hi:i < n) (low:Int):detF (n - 1) (wh low (swF i ((i + 1) % n) T))=-detF (n - 1) (wh low T):=by
 have n4:=g.n4
 have:n=2 \/ n=3 \/ n=4:=by omega
 rcases this with rfl | rfl | rfl
 ·obtain ⟨r,s,rfl⟩:=l2 g.len
  obtain ⟨a,b,rfl⟩:=l2 (g.row r (by simp))
  obtain ⟨c,d,rfl⟩:=l2 (g.row s (by simp))
  have:i=0 \/ i=1:=by omega
  rcases this with rfl | rfl <;>
  ·simp only [swF,wh,Nat.reduceAdd,Nat.reduceMod,Nat.reduceSub,List.set_cons_zero,List.set_cons_succ,List.getD_cons_zero,List.getD_cons_succ,List.map_cons,List.map_nil,d2]
   grind
 ·obtain ⟨r,s,t,rfl⟩:=l3 g.len
  obtain ⟨a,b,c,rfl⟩:=l3 (g.row r (by simp))
  obtain ⟨d,e,f,rfl⟩:=l3 (g.row s (by simp))
  obtain ⟨k,h,l,rfl⟩:=l3 (g.row t (by simp))
  have:i=0 \/ i=1 \/ i=2:=by omega
  rcases this with rfl | rfl | rfl <;>
  ·simp only [swF,wh,Nat.reduceAdd,Nat.reduceMod,Nat.reduceSub,List.set_cons_zero,List.set_cons_succ,List.getD_cons_zero,List.getD_cons_succ,List.map_cons,List.map_nil,d3]
   grind
 ·obtain ⟨r,s,t,u,rfl⟩:=l4 g.len
  obtain ⟨a1,a2,a3,a4,rfl⟩:=l4 (g.row r (by simp))
  obtain ⟨b1,b2,b3,b4,rfl⟩:=l4 (g.row s (by simp))
  obtain ⟨c1,c2,c3,c4,rfl⟩:=l4 (g.row t (by simp))
  obtain ⟨e1,e2,e3,e4,rfl⟩:=l4 (g.row u (by simp))
  have:i=0 \/ i=1 \/ i=2 \/ i=3:=by omega
  rcases this with rfl | rfl | rfl | rfl <;>
  ·simp only [swF,wh,Nat.reduceAdd,Nat.reduceMod,Nat.reduceSub,List.set_cons_zero,List.set_cons_succ,List.getD_cons_zero,List.getD_cons_succ,List.map_cons,List.map_nil,d4,D3]
   grind
theorem turn_sq {n:Nat} {T:List (List (Int × Int))} (g:SqT n T):SqT n (turnF n T):=by
 refine ⟨g.n1,g.n4,by unfold turnF;simp,fun r hr=>?_,fun r hr x hx=>?_⟩
 ·obtain ⟨p,_,rfl⟩:=List.mem_map.mp hr
  unfold colF
  rw [List.length_map];exact g.len
 ·obtain ⟨p,hp,rfl⟩:=List.mem_map.mp hr
  obtain ⟨q,hq,rfl⟩:=List.mem_map.mp hx
  have:=g.row q hq
  have hp:=List.mem_range.mp hp
  rw [K40.getD_at (by lia)]
  exact g.sm q hq _ (List.getElem_mem _)
theorem turn_min {n:Nat} {T:List (List (Int × Int))} {low:Int} (g:SqT n T) (m:IsMin T low):IsMin (turnF n T) low:=by
 refine ⟨fun r hr x hx=>?_,?_⟩
 ·obtain ⟨p,hp,rfl⟩:=List.mem_map.mp hr
  obtain ⟨q,hq,rfl⟩:=List.mem_map.mp hx
  have:=g.row q hq
  have hp:=List.mem_range.mp hp
  rw [K40.getD_at (by lia)]
  exact m.le q hq _ (List.getElem_mem _)
 ·obtain ⟨r,hr,x,hx,e⟩:=m.at_
  obtain ⟨k,hk,rfl⟩:=List.getElem_of_mem hx
  have:=g.row r hr
  refine ⟨colF k T,List.mem_map.mpr ⟨k,List.mem_range.mpr (by lia),rfl⟩,r[k],?_,e⟩
  exact List.mem_map.mpr ⟨r,hr,K40.getD_at hk⟩
theorem sw_mem {i j:Nat} {T:List (List (Int × Int))} (hi:i < T.length) (hj:j < T.length) (r:List (Int × Int)):r ∈ swF i j T ↔ r ∈ T:=by
 unfold swF
 rw [K40.getD_at hi,K40.getD_at hj]
 have p:((T.set i T[j]).set j T[i]).Perm T:=by
  have:=List.set_set_perm (as:=T) hi hj
  exact this
 exact p.mem_iff
theorem sw_sq {n i j:Nat} {T:List (List (Int × Int))} (g:SqT n T) (hi:i < n) (hj:j < n):SqT n (swF i j T):=by
 have l:=g.len
 refine ⟨g.n1,g.n4,by unfold swF;rw [List.length_set,List.length_set];exact l,fun r hr=>g.row r ((sw_mem (by lia) (by lia) r).mp hr),fun r hr=>g.sm r ((sw_mem (by lia) (by lia) r).mp hr)⟩
theorem sw_min {n i j:Nat} {T:List (List (Int × Int))} {low:Int} (g:SqT n T) (hi:i < n) (hj:j < n) (m:IsMin T low):IsMin (swF i j T) low:=by
 have l:=g.len
 refine ⟨fun r hr=>m.le r ((sw_mem (by lia) (by lia) r).mp hr),?_⟩
 obtain ⟨r,hr,x,hx,e⟩:=m.at_
 exact ⟨r,(sw_mem (by lia) (by lia) r).mpr hr,x,hx,e⟩
end Z.L45
set_option exponentiation.threshold 3000
namespace Z.K45
open PySem Z Z.K42 Z.K40 Z.J51 Z.J45 Z.L45
def b_column:Sm :=
 (.seq (.ret (.compE (.var 0) (.ix (.var 2) (.var 1))))
 .nop)
def b_turned (i_column:Nat):Sm :=
 (.seq (.ret (.compR [(.bi .len [(.ix (.var 0) (.cst (.int 0)))])] (.call i_column [(.var 0),(.var 1)])))
 .nop)
def b_law_square (i_law_row i_law_drawn i_law_cell i_law_bare:Nat):Sm :=
 (.seq (.set 4 (.call i_law_row [(.var 0),(.var 1),(.bin .mul (.var 2) (.var 2)),(.var 3)]))
 (.seq (.ownG 5 (.compR [(.var 2)] (.slc (.var 4) (.bin .mul (.var 10) (.var 2)) (.bin .mul (.bin .add (.var 10) (.cst (.int 1))) (.var 2)))))
 (.seq (.set 6 (.call i_law_drawn [(.call i_law_cell [(.var 0),(.var 1)]),(.cst (.int 104))]))
 (.seq (.ite (.cmp .eq (.bin .mod (.var 6) (.cst (.int 3))) (.cst (.int 0))) (.seq (.ownG 5 (.compR [(.var 2)] (.compR [(.var 2)] (.call i_law_bare [(.bin .sub (.bin .mod (.bin .fdiv (.bin .fdiv (.var 6) (.cst (.int 8))) (.bin .add (.bin .add (.bin .mul (.var 10) (.var 2)) (.var 11)) (.cst (.int 1)))) (.cst (.int 7))) (.cst (.int 3))),(.cst (.int 0))]))))
  .nop) .nop)
 (.seq (.ite (.and (.cmp .eq (.bin .mod (.var 6) (.cst (.int 4))) (.cst (.int 1))) (.cmp .gt (.var 2) (.cst (.int 1)))) (.seq (.set 7 (.bin .mod (.bin .fdiv (.var 6) (.cst (.int 16))) (.var 2)))
  (.seq (.hlfT 5)
  (.seq (.set 8 (.oix 5 (.bin .mod (.bin .add (.bin .add (.var 7) (.cst (.int 1))) (.bin .mod (.bin .fdiv (.var 6) (.cst (.int 64))) (.bin .sub (.var 2) (.cst (.int 1))))) (.var 2))))
  (.seq (.sto 5 (.var 7) (.compE (.var 8) (.tup [(.bin .mul (.ix (.var 10) (.cst (.int 0))) (.bin .sub (.cst (.int 1)) (.bin .mul (.cst (.int 2)) (.bin .mod (.bin .fdiv (.var 6) (.cst (.int 256))) (.cst (.int 2)))))),(.ix (.var 10) (.cst (.int 1)))])))
  .nop)))) .nop)
 (.seq (.ite (.and (.cmp .eq (.bin .mod (.var 6) (.cst (.int 4))) (.cst (.int 2))) (.cmp .gt (.var 2) (.cst (.int 1)))) (.seq (.set 9 (.bin .mod (.bin .fdiv (.var 6) (.cst (.int 16))) (.var 2)))
  (.seq (.forT 4 5 [(.sto none (.var 9) (.tup [(.cst (.int 0)),(.cst (.int 0))]))])
  .nop)) .nop)
 (.seq (.hlfT 5)
 (.seq (.retO 5)
 .nop))))))))
def b_law_wholes:Sm :=
 (.seq (.set 1 (.bi .min [(.compE (.var 0) (.bi .min [(.compE (.var 2) (.ix (.var 3) (.cst (.int 1))))]))]))
 (.seq (.ret (.tup [(.compE (.var 0) (.compE (.var 2) (.bin .shl (.ix (.var 3) (.cst (.int 0))) (.bin .sub (.ix (.var 3) (.cst (.int 1))) (.var 1))))),(.var 1)]))
 .nop))
def b_law (i_law_width i_law_drawn i_law_cell i_law_square i_law_wholes i_law_parts i_law_det4 i_law_is_ratio i_determinant i_turned:Nat):Sm :=
 (.seq (.set 1 (.call i_law_width [(.var 0),(.cst (.int 0))]))
 (.seq (.set 2 (.bin .add (.cst (.int 1)) (.bin .mod (.call i_law_drawn [(.call i_law_cell [(.var 0),(.cst (.int 0))]),(.cst (.int 105))]) (.cst (.int 4)))))
 (.seq (.setF 3 i_law_square [(.var 0),(.cst (.int 1)),(.var 2),(.var 1)])
 (.seq (.tabO 3 4 (.compE (.var 3) (.bi .list [(.var 11)])))
 (.seq (.unp [5,6] (.obsL 3 (.call i_law_wholes [(.var 3)])))
 (.seq (.unp [7,8] (.call i_law_parts [(.call i_law_det4 [(.var 5)]),(.bin .mul (.var 2) (.var 6))]))
 (.seq (.ite (.obs 3 (.or (.not (.call i_law_is_ratio [(.call i_determinant [(.var 3)]),(.var 7),(.var 8)])) (.cmp .ne (.var 3) (.var 4)))) (.seq (.ret (.cst (.bl false)))
  .nop) .nop)
 (.seq (.ite (.obs 3 (.not (.call i_law_is_ratio [(.call i_determinant [(.call i_turned [(.var 3)])]),(.var 7),(.var 8)]))) (.seq (.ret (.cst (.bl false)))
  .nop) .nop)
 (.seq (.ite (.cmp .eq (.var 2) (.cst (.int 1))) (.seq (.ret (.cst (.bl true)))
  .nop) .nop)
 (.seq (.set 9 (.bin .mod (.call i_law_drawn [(.call i_law_cell [(.var 0),(.cst (.int 0))]),(.cst (.int 106))]) (.var 2)))
 (.seq (.set 10 (.bin .mod (.bin .add (.var 9) (.cst (.int 1))) (.var 2)))
 (.seq (.st2 3 (.var 9) (.var 10) (.tup [(.oix 3 (.var 10)),(.oix 3 (.var 9))]))
 (.seq (.shr 3)
 (.seq (.ret (.call i_law_is_ratio [(.call i_determinant [(.var 3)]),(.bin .sub (.cst (.int 0)) (.var 7)),(.var 8)]))
 .nop))))))))))))))
theorem k_column {C:Cfg}:Keeps C 2 b_column K40.c_column:=by
 rintro ds ⟨rows,p,rfl,hl,hp⟩
 rw [b_column,tabD]
 simp_all! only [List.length_map]
 refine ⟨by unfold lim;lia,?_⟩
 rw [compL_map (g:=fun r:List (Int × Int)=>D.lst (r.map nq)) (h:=fun r=>nq (r.getD p (0,0))) (fun r hr Q=>by
  have a:=at_nq (hp r hr)
  dsimp! only [a])]
 intro rows' p' e
 obtain ⟨rfl,rfl⟩:=col_inj (r:=rows) e
 unfold colF
 rw [List.map_map]
 rfl
theorem k_turned {C:Cfg} {i:Nat} (h1:C.ct i=K40.c_column):Keeps C 1 (b_turned i) K40.c_turned:=by
 rintro ds ⟨A,rows,rfl,⟨h0,hl,hA⟩,hr⟩
 have at0:=K40.at_row (rows:=rows) (i:=0) (by cases rows with | nil=>exact absurd rfl h0 | cons=>simp)
 have e0:(rows.getD 0 []).length=A:=by
  cases rows with
  | nil=>exact absurd rfl h0
  | cons r rs=>exact hr r (List.mem_cons_self ..)
 rw [b_turned]
 have at0':atD (rows.map fun r=>D.lst (r.map nq)) 0=some (.lst ((rows.getD 0 []).map nq)):=at0
 simp_all! only [tabD,at0',List.length_map,e0]
 refine ⟨by unfold RgOk;lia,by rw [rangeD_map];simp;unfold lim;lia,?_⟩
 rw [Int.toNat_natCast,compL_range (h:=fun p=>D.lst ((colF p rows).map nq)) (fun p hp Q=>by
  have w:=fun Q E=>wp_column (rows:=rows) (p:=p) (Q:=Q) (E:=E) hl (fun r h=>by rw [hr r h];exact hp)
  simp only [tabD] at w
  dsimp! only [h1,w])]
 intro A' rows' e h0' hr'
 have e:=tab_inj (r:=rows) e
 subst e
 have:=turn_same h0 hr hr'
 subst this
 unfold turnF tabD
 rw [List.map_map]
 rfl
def c_wholes:Ctr where
 pre ds:=∃ n M,ds=[tabD M] /\ SqT n M
 res ds d:=∀ n M,ds=[tabD M]->SqT n M->∃ low,IsMin M low /\ d=.tup [wD (wh low M),.int low]
theorem k_wholes {C:Cfg}:Keeps C 2 b_law_wholes c_wholes:=by
 rintro ds ⟨n,M,rfl,g⟩
 have few:=g.n4
 have n1:=g.n1
 have lm:=g.len
 have l1:M.length<=lim:=by unfold lim;lia
 have r0:∀ r ∈ M,r ≠ []:=fun r hr z=>by have:=g.row r hr;rw [z] at this;simp at this;lia
 have rl:∀ r ∈ M,r.length<=lim:=fun r hr=>by rw [g.row r hr];unfold lim;lia
 rw [b_law_wholes,tabD]
 simp_all! only [List.length_map]
 refine ⟨l1,?_⟩
 rw [compL_map (g:=fun r:List (Int × Int)=>D.lst (r.map nq)) (h:=fun r=>D.int (mmF false 0 (r.map (·.2)))) (fun r hr Q=>by
  have l2:=rl r hr
  dsimp! only [List.length_map,l2]
  rw [compL_map (g:=nq) (h:=fun x:Int × Int=>D.int x.2) (fun x _ Q=>by rw [ix_nq1]),show (r.map fun x=>D.int x.2)=(r.map (·.2)).map .int by rw [List.map_map];rfl,bi_min1]
  exact and_iff_right (by simpa using r0 r hr))]
 rw [show (M.map fun r=>D.int (mmF false 0 (r.map (·.2))))=(M.map fun r=>mmF false 0 (r.map (·.2))).map .int by rw [List.map_map];rfl,bi_min1]
 refine ⟨by simpa using g.ne,?_⟩
 obtain ⟨p1,p2⟩:=mmF_le (d:=0) (ns:=M.map fun r=>mmF false 0 (r.map (·.2)))
 generalize mmF false 0 (M.map fun r=>mmF false 0 (r.map (·.2)))=low at *
 have m:IsMin M low:=by
  refine ⟨fun r hr x hx=>Int.le_trans (p1 _ (List.mem_map.mpr ⟨r,hr,rfl⟩)) ((mmF_le (d:=0) (ns:=r.map (·.2))).1 _ (List.mem_map.mpr ⟨x,hx,rfl⟩)),?_⟩
  rcases p2 with z | z
  ·obtain ⟨r,hr,e⟩:=List.mem_map.mp z
   rcases (mmF_le (d:=0) (ns:=r.map (·.2))).2 with y | y
   ·obtain ⟨x,hx,e2⟩:=List.mem_map.mp y
    exact ⟨r,hr,x,hx,by lia⟩
   ·exact absurd (List.map_eq_nil_iff.mp y.1) (r0 r hr)
  ·exact absurd (List.map_eq_nil_iff.mp z.1) g.ne
 have lb:=m.b g
 simp_all! only [List.length_map]
 refine ⟨l1,?_⟩
 rw [compL_map (g:=fun r:List (Int × Int)=>D.lst (r.map nq)) (h:=fun r=>D.lst ((r.map (atW low)).map .int)) (fun r hr Q=>by
  have l2:=rl r hr
  dsimp! only [List.length_map,l2]
  rw [compL_map (g:=nq) (h:=fun x:Int × Int=>D.int (atW low x)) (fun x hx Q=>by
   have h1:=m.le r hr x hx
   have h2:=(g.sm r hr x hx).b
   have h3:=(g.sm r hr x hx).hi
   have so:ShlOk x.1 (x.2 - low):=⟨by lia,by lia⟩
   rw [ix_nq0,ix_nq1,bin_sub,bin_shl]
   exact and_iff_right so),List.map_map]
  rfl)]
 intro n' M' e g'
 rw [<- tab_inj (r:=M) e]
 exact ⟨low,m,by unfold wD wh;rw [List.map_map];rfl⟩
theorem wp_wholes {n:Nat} {M:List (List (Int × Int))} {Q:D->Prop} {E:XD->Prop} (g:SqT n M):c_wholes.wp [tabD M] Q E ↔ ∀ low,IsMin M low->Q (.tup [wD (wh low M),.int low]):=by
 constructor
 ·intro w low h
  refine w.2.1 _ fun n' M' e g'=>?_
  rw [<- tab_inj e]
  exact ⟨low,h,rfl⟩
 ·intro q
  refine ⟨⟨n,M,rfl,g⟩,fun d h=>?_,fun _ z=>z.elim⟩
  obtain ⟨low,hw,rfl⟩:=h n M rfl g
  exact q low hw
theorem apts_ints (x:List D):∀ l:List Int,apts x (l.map .int)
 | []=>trivial
 | _ :: l=>⟨trivial,apts_ints x l⟩
theorem apts_all {x:List D}:∀ {l:List D},(∀ d ∈ l,apt x d)->apts x l
 | [],_=>trivial
 | d :: l,h=>⟨h d (List.mem_cons_self ..),apts_all fun y hy=>h y (List.mem_cons_of_mem _ hy)⟩
theorem apt_wholes {n:Nat} {M:List (List (Int × Int))} {low:Int} (g:SqT n M):apt (M.map fun r=>D.lst (r.map nq)) (.tup [wD (wh low M),.int low]):=by
 obtain ⟨r,M',rfl⟩:=List.exists_cons_of_ne_nil g.ne
 have rl:=g.row r (List.mem_cons_self ..)
 have n1:=g.n1
 obtain ⟨x,r',rfl⟩:∃ x r',r=x :: r':=by
  cases r with
  | nil=>simp at rl;lia
  | cons x r'=>exact ⟨x,r',rfl⟩
 unfold apt apts wD wh
 refine ⟨?_,trivial,trivial⟩
 unfold apt
 refine ⟨?_,apts_all fun d hd=>?_⟩
 ·simp only [List.map_cons,ne_eq,List.cons.injEq,D.lst.injEq,not_and]
  intro z
  simp [nq] at z
 ·obtain ⟨l,_,rfl⟩:=List.mem_map.mp hd
  unfold apt
  refine ⟨?_,apts_ints _ l⟩
  cases l with
  | nil=>simp
  | cons y l=>simp
def c_square:Ctr where
 pre ds:=∃ (ns:List Int) (s:Int) (n w:Nat),ds=[.lst (ns.map .int),.int s,.int n,.int w] /\ (ns.length<=63 /\ 0<=s) /\ (1<=n /\ n<=4) /\ 8<=w /\ w<=64
 res ds d:=∀ (ns:List Int) (s:Int) (n w:Nat),ds=[.lst (ns.map .int),.int s,.int n,.int w]->∃ T,SqT n T /\ d=tabD T
theorem wp_square {ns:List Int} {s:Int} {n w:Nat} {Q:D->Prop} {E:XD->Prop} (hl:ns.length<=63) (hs:0<=s) (h:1<=n /\ n<=4) (w1:8<=w) (w2:w<=64):c_square.wp [.lst (ns.map .int),.int s,.int n,.int w] Q E ↔ ∀ T,SqT n T->Q (tabD T):=by
 constructor
 ·intro wp T g
  refine wp.2.1 _ fun ns' s' n' w' e=>?_
  simp only [List.cons.injEq,D.int.injEq,and_true] at e
  obtain ⟨_,_,e1,_⟩:=e
  have e1:n=n':=by lia
  subst e1
  exact ⟨T,g,rfl⟩
 ·intro q
  refine ⟨⟨ns,s,n,w,rfl,⟨hl,hs⟩,h,w1,w2⟩,fun d hd=>?_,fun _ z=>z.elim⟩
  obtain ⟨T,g,rfl⟩:=hd ns s n w rfl
  exact q T g
theorem set_sq {n i:Nat} {T:List (List (Int × Int))} {r:List (Int × Int)} (g:SqT n T) (h:r.length=n) (hx:∀ x ∈ r,SmallP x):SqT n (T.set i r):=by
 refine ⟨g.n1,g.n4,by rw [List.length_set];exact g.len,fun q hq=>?_,fun q hq=>?_⟩
 ·rcases List.mem_or_eq_of_mem_set hq with z | z
  ·exact g.row q z
  ·rw [z];exact h
 ·rcases List.mem_or_eq_of_mem_set hq with z | z
  ·exact g.sm q z
  ·rw [z];exact hx
theorem rowsW_map {f:List D->(List D->Prop)->Prop} {F:List (Int × Int)->List (Int × Int)}:∀ {T:List (List (Int × Int))} {Q:List (List D)->Prop},(∀ r ∈ T,∀ Q,f (r.map nq) Q ↔ Q ((F r).map nq))->(rowsW f (T.map fun r=>r.map nq) Q ↔ Q ((T.map F).map fun r=>r.map nq))
 | [],Q,_=>Iff.rfl
 | r :: T,Q,h=>by
   rw [List.map_cons,rowsW,h r (List.mem_cons_self ..),rowsW_map fun x hx=>h x (List.mem_cons_of_mem _ hx)]
   rfl
theorem k_square {C:Cfg} {i1 i2 i3 i4:Nat} (h1:C.ct i1=c_row) (h2:C.ct i2=c_drawn) (h3:C.ct i3=c_cell) (h4:C.ct i4=c_bare):KeepsF C 10 (b_law_square i1 i2 i3 i4) c_square:=by
 rintro ds ⟨ns,s,n,w,rfl,⟨hl,hs⟩,⟨n1,n4⟩,w1,w2⟩
 have eNA:(n:Int) * n=((n * n:Nat):Int):=by push_cast;rfl
 have n16:n * n<=4 * 4:=Nat.mul_le_mul n4 n4
 have bn:bits (n:Int)<=10:=bits_le_iff.mpr (by omega)
 have mo:∀ z:Int,bits z<=20->MulOk z n:=fun z hz=>mulOk_bits (by lia)
 have moN:=mo n (by lia)
 have k3:(n:Int) * n<=1000:=by rw [eNA];lia
 have k4:-1000<=(n:Int) * n:=by rw [eNA];lia
 rw [b_law_square]
 simp_all! only [moN,h1,wp_row hl hs k3 k4 w1 w2]
 intro xs lx hx
 have lx:xs.length=n * n:=by rw [lx,eNA,Int.toNat_natCast]
 simp_all! only [wpG]
 refine ⟨rfl,rfl,by unfold RgOk;lia,by rw [rangeD_map];simp;unfold lim;lia,?_⟩
 rw [Int.toNat_natCast,compLL_range (h:=fun i=>((xs.drop (i * n)).take n).map nq) (fun i hi Q=>by
  have m1:=mo i (bits_le_iff.mpr (by omega))
  have m2:=mo ((i:Int) + 1) (bits_le_iff.mpr (by omega))
  have c:=cut_row lx hi
  dsimp! only [m1,m2,prt,isNon,intO,slD,listD,c])]
 rw [h2,h3,wp_cell hl hs]
 intro c
 rw [wp_drawn]
 intro m m0 m1
 let S (z4:Option Sl) (z5:Sl) (x7 x8 x9:Option Sl):Sto:=[some (.sh (.lst (ns.map .int))),some (.sh (.int s)),some (.sh (.int n)),some (.sh (.int w)),z4,some z5,some (.sh (.int m)),x7,x8,x9]
 let OT (T:List (List (Int × Int))):Sl:=.ot (T.map fun r=>r.map nq)
 let OW (T:List (List (Int × Int))):Sl:=.ow (T.map fun r=>D.lst (r.map nq))
 have rl:∀ (f:Nat->List (Int × Int)),(∀ i,i < n->(f i).length=n)->(∀ i,i < n->∀ x ∈ f i,SmallP x)->SqT n ((List.range n).map f):=fun f h g=>by
  refine ⟨n1,n4,by simp,fun r hr=>?_,fun r hr x hx=>?_⟩
  ·obtain ⟨i,hi,rfl⟩:=List.mem_map.mp hr
   exact h i (List.mem_range.mp hi)
  ·obtain ⟨i,hi,rfl⟩:=List.mem_map.mp hr
   exact g i (List.mem_range.mp hi) x hx
 have g0:SqT n ((List.range n).map fun i=>(xs.drop (i * n)).take n):=rl _ (fun i hi=>by
  have h1:(i + 1) * n<=n * n:=Nat.mul_le_mul_right n hi
  have ex:(i + 1) * n=i * n + n:=Nat.succ_mul i n
  rw [List.length_take,List.length_drop]
  lia) fun i hi x hx'=>(hx x (List.mem_of_mem_drop (List.mem_of_mem_take hx'))).small w2
 have rg:RgOk (n:Int):=by unfold RgOk;lia
 have rgl:(rangeD 0 1 n).length<=lim:=by rw [rangeD_map];simp;unfold lim;lia
 refine seq_cut (fun σ=>∃ T,SqT n T /\ σ=S (some (.sh (.lst (xs.map nq)))) (OT T) none none none) ?_ ?_
 ·rw [ws_ite]
  dsimp! only []
  by_cases c1:m.fmod 3=0
  ·rw [if_pos c1]
   simp_all! only [wpG,Int.toNat_natCast,rg,rgl]
   refine ⟨rfl,rfl,?_⟩
   let lf (i p:Nat):Int × Int:=dq ((((m / 8).fdiv ((i:Int) * n + p + 1)) % 7 - 3:Int) * tw 0)
   rw [compLL_range (h:=fun i=>((List.range n).map (lf i)).map nq) (fun i hi Q=>by
    dsimp! only [Int.toNat_natCast,rg,rgl]
    rw [compL_range (h:=fun p=>nq (lf i p)) (fun p hp Q=>by
     have m1:=mo i (bits_le_iff.mpr (by omega))
     have in1:(i:Int) * n=((i * n:Nat):Int):=by push_cast;rfl
     have in2:i * n<=4 * 4:=Nat.mul_le_mul (by lia) n4
     have f1:¬ (i:Int) * n + p + 1=0:=by rw [in1];lia
     have f2:bits ((i:Int) * n + p + 1)<=9000:=Nat.le_trans (bits_le_iff (n:=10).mpr (by rw [in1];omega)) (by decide)
     have f8:bits (8:Int)<=9000:=by decide
     have e8:m.fdiv 8=m / 8:=fdiv_pos (by decide)
     have e7:∀ z:Int,z.fmod 7=z % 7:=fun z=>fmod_pos (by decide)
     have wb:=fun Q E=>wp_bare (w:=((m / 8).fdiv ((i:Int) * n + p + 1)) % 7 - 3) (p:=0) (Q:=Q) (E:=E) (Nat.le_trans (bits_le_iff (n:=4).mpr (by generalize (m / 8).fdiv ((i:Int) * n + p + 1)=z;omega)) (by decide))
     dsimp! only [m1,f1,f2,f8,e8,e7,h4,wb]
     rfl),List.map_map]
    rfl)]
   rw [show ((List.range n).map fun i=>((List.range n).map (lf i)).map nq)=((List.range n).map fun i=>(List.range n).map (lf i)).map fun r=>r.map nq by rw [List.map_map];rfl]
   refine ⟨(List.range n).map fun i=>(List.range n).map (lf i),rl _ (fun i hi=>by simp) (fun i hi x hx=>?_),rfl⟩
   obtain ⟨p,_,rfl⟩:=List.mem_map.mp hx
   show SmallP (dq _)
   rw [<- bare_dq]
   generalize (m / 8).fdiv ((i:Int) * n + p + 1)=z
   have hz:(z % 7 - 3).natAbs < 2 ^ 12:=by omega
   have b:=bareF_bare (z % 7 - 3) 0
   have s:=(b.num hz).sz
   have q:=b.pow hz
   refine ⟨bits_le_iff.mpr (by omega),?_,?_⟩ <;> omega
  ·rw [if_neg c1,ws_nop]
   refine ⟨_,g0,?_⟩
   simp only [S,OT,List.map_map]
   rfl
 rintro σ ⟨T,g,rfl⟩
 refine seq_cut (fun σ=>∃ T z5 x7 x8,SqT n T /\ (z5=OT T \/ (m % 4=1 /\ z5=OW T)) /\ σ=S (some (.sh (.lst (xs.map nq)))) z5 x7 x8 none) ?_ ?_
 ·rw [ws_ite]
  have e4:m.fmod 4=m % 4:=fmod_pos (by decide)
  simp only [S,OT]
  dsimp! only [e4]
  by_cases c1:m % 4=1
  ·rw [if_pos c1]
   by_cases c2:(1:Int) < n
   ·simp_all! only [c2]
    obtain ⟨a,ea,ha⟩:∃ a:Nat,(m.fdiv 16).fmod n=(a:Int) /\ a < n:=by
     rw [fmod_pos (by lia)]
     generalize m.fdiv 16=z
     have:=Int.emod_nonneg z (b:=n) (by lia)
     have:=Int.emod_lt_of_pos z (b:=n) (by lia)
     exact ⟨(z % (n:Int)).toNat,by lia,by lia⟩
    obtain ⟨o,eo,ho⟩:∃ o:Nat,((m.fdiv 16).fmod n + 1 + (m.fdiv 64).fmod (n - 1)).fmod n=(o:Int) /\ o < n:=by
     rw [fmod_pos (b:=(n:Int)) (by lia)]
     generalize (m.fdiv 16).fmod n + 1 + (m.fdiv 64).fmod (n - 1)=z
     have:=Int.emod_nonneg z (b:=n) (by lia)
     have:=Int.emod_lt_of_pos z (b:=n) (by lia)
     exact ⟨(z % (n:Int)).toNat,by lia,by lia⟩
    obtain ⟨sg,es,hs2⟩:∃ sg:Int,1 - 2 * (m.fdiv 256).fmod 2=sg /\ (sg=1 \/ sg=-1):=by
     rw [fmod_pos (by decide)]
     generalize m.fdiv 256=z
     exact ⟨_,rfl,by omega⟩
    have lT:=g.len
    have ao:=K40.at_row (rows:=T) (i:=o) (by lia)
    have go:=T.getD o []
    have om:T.getD o [] ∈ T:=by rw [K40.getD_at (by lia)];exact List.getElem_mem _
    rw [ea] at eo
    rw [ea,eo,es,show (T.map fun r=>r.map nq).map D.lst=T.map fun r=>D.lst (r.map nq) by rw [List.map_map];rfl]
    have bsg:bits sg<=1:=by rcases hs2 with rfl | rfl <;> decide
    refine ⟨by decide,by lia,by decide,by lia,by lia,_,ao,_,rfl,by rw [List.length_map,g.row _ om];unfold lim;lia,?_⟩
    have m2:MulOk 2 ((m.fdiv 256).fmod 2):=.inl (by decide)
    rw [compL_map (g:=nq) (h:=fun x:Int × Int=>nq (x.1 * sg,x.2)) (fun x hx' Q=>by
     have mx:MulOk x.1 sg:=mulOk_bits (by have:=(g.sm _ om x hx').b;lia)
     have b256:bits (256:Int)<=9000:=by decide
     dsimp! only [ix_nq0,ix_nq1,b256,m2,mx]
     rfl)]
    rw [show (T.map fun r=>D.lst (r.map nq)).set (a:Int).toNat (D.lst ((T.getD o []).map fun x=>nq (x.1 * sg,x.2)))=(T.set a ((T.getD o []).map fun x=>(x.1 * sg,x.2))).map fun r=>D.lst (r.map nq) by rw [Int.toNat_natCast,List.map_set,List.map_map];rfl]
    refine ⟨⟨by lia,by rw [List.length_map];lia⟩,T.set a ((T.getD o []).map fun x=>(x.1 * sg,x.2)),_,_,_,set_sq g (by rw [List.length_map];exact g.row _ om) (fun x hx'=>?_),.inr ⟨c1,rfl⟩,rfl⟩
    ·obtain ⟨y,hy,rfl⟩:=List.mem_map.mp hx'
     have sy:=g.sm _ om y hy
     refine ⟨?_,sy.lo,sy.hi⟩
     rcases hs2 with rfl | rfl
     ·simp only [Int.mul_one];exact sy.b
     ·simp only [Int.mul_neg,Int.mul_one,bits_neg];exact sy.b
   ·simp only [c2,decide_false,Bool.false_eq_true,if_false]
    rw [ws_nop]
    exact ⟨T,_,_,_,g,.inl rfl,rfl⟩
  ·rw [if_neg c1]
   try simp only [Bool.false_eq_true,if_false]
   rw [ws_nop]
   exact ⟨T,_,_,_,g,.inl rfl,rfl⟩
 rintro σ ⟨T,z5,x7,x8,g,hz,rfl⟩
 refine seq_cut (fun σ=>∃ T z4 z5 x7 x8 x9,SqT n T /\ (z5=OT T \/ z5=OW T) /\ σ=S z4 z5 x7 x8 x9) ?_ ?_
 ·rw [ws_ite]
  have e4:m.fmod 4=m % 4:=fmod_pos (by decide)
  simp only [S]
  dsimp! only [e4]
  have idle:∀ K:DE,K.nx (S (some (.sh (.lst (xs.map nq)))) z5 x7 x8 none)->wpS C .nop K (S (some (.sh (.lst (xs.map nq)))) z5 x7 x8 none):=fun K q=>by rw [ws_nop];exact q
  by_cases c1:m % 4=2
  ·rw [if_pos c1]
   by_cases c2:(1:Int) < n
   ·rcases hz with rfl | ⟨z,_⟩
    ·simp only [OT]
     simp_all! only [c2]
     obtain ⟨a,ea,ha⟩:∃ a:Nat,(m.fdiv 16).fmod n=(a:Int) /\ a < n:=by
      rw [fmod_pos (by lia)]
      generalize m.fdiv 16=z
      have:=Int.emod_nonneg z (b:=n) (by lia)
      have:=Int.emod_lt_of_pos z (b:=n) (by lia)
      exact ⟨(z % (n:Int)).toNat,by lia,by lia⟩
     rw [ea]
     refine ⟨by decide,by lia,?_⟩
     rw [ws_seq,ws_forT]
     simp_all! only []
     rw [rowsW_map (F:=fun r=>r.set a (0,0)) (fun r hr Q=>by
      have rn:=g.row r hr
      simp only [wpR,wpR1]
      dsimp! only [stoR]
      rw [show D.tup [.int 0,.int 0]=nq (0,0) from rfl,Int.toNat_natCast,List.length_map,<- List.map_set]
      have:(0<=(a:Int) /\ (a:Int) < r.length):=⟨by lia,by lia⟩
      simp only [this,true_and,and_true]
      exact ⟨fun q=>q.2,fun q=>⟨rfl,q⟩⟩)]
     refine ⟨T.map fun r=>r.set a (0,0),_,_,_,_,_,⟨n1,n4,by rw [List.length_map];exact g.len,fun r hr=>?_,fun r hr x hx'=>?_⟩,.inl rfl,rfl⟩
     ·obtain ⟨q,hq,rfl⟩:=List.mem_map.mp hr
      rw [List.length_set];exact g.row q hq
     ·obtain ⟨q,hq,rfl⟩:=List.mem_map.mp hr
      rcases List.mem_or_eq_of_mem_set hx' with z | z
      ·exact g.sm q hq x z
      ·subst z;exact ⟨by decide,by decide,by decide⟩
    ·lia
   ·simp only [c2,decide_false,Bool.false_eq_true,if_false]
    exact idle _ ⟨T,_,_,_,_,_,g,hz.imp id fun z=>z.2,rfl⟩
  ·rw [if_neg c1]
   try simp only [Bool.false_eq_true,if_false]
   exact idle _ ⟨T,_,_,_,_,_,g,hz.imp id fun z=>z.2,rfl⟩
 rintro σ ⟨T,z4,z5,x7,x8,x9,g,hz,rfl⟩
 have fin:c_square.res [D.lst (ns.map .int),.int s,.int n,.int w] (.lst (T.map fun r=>D.lst (r.map nq))):=by
  intro ns' s' n' w' e
  simp only [List.cons.injEq,D.int.injEq,and_true] at e
  obtain ⟨_,_,e1,_⟩:=e
  have e1:n=n':=by lia
  subst e1
  exact ⟨T,g,rfl⟩
 rcases hz with rfl | rfl
 ·simp only [S,OT]
  simp_all! only []
  rw [show (T.map fun r=>r.map nq).map D.lst=T.map fun r=>D.lst (r.map nq) by rw [List.map_map];rfl]
  exact fin
 ·simp only [S,OW]
  simp_all! only []
  exact fin
theorem parts_rat (w p:Int):vr (w,p) * ((2 ^ (-p).toNat:Int):Rat)=((w * 2 ^ p.toNat:Int):Rat):=by
 have pw:∀ k:Nat,((2 ^ k:Int):Rat)=tw k:=fun k=>by
  have:=tw_add_nat 0 k
  rw [Int.zero_add,tw_zero] at this
  rw [this]
  grind
 unfold vr
 rw [Rat.intCast_mul,pw,pw]
 simp only []
 have:=tw_neg_mul p
 rcases Int.lt_or_le p 0 with z | z
 ·rw [show (((-p).toNat:Nat):Int)=-p by lia,show ((p.toNat:Nat):Int)=0 by lia,tw_zero]
  grind
 ·rw [show (((-p).toNat:Nat):Int)=0 by lia,show ((p.toNat:Nat):Int)=p by lia,tw_zero]
  grind
theorem szr_vr {w p:Int} (hb:bits w<=1700) (h1:-520<=p) (h2:p<=520):szr 9000 (vr (w,p)):=by
 have e:=parts_rat w p
 have u0:=two_pow_pos (-p).toNat
 have e2:vr (w,p)=Rat.divInt (w * 2 ^ p.toNat) (2 ^ (-p).toNat):=by
  rw [Rat.divInt_eq_div,<- e,Rat.div_def,Rat.mul_assoc,Rat.mul_inv_cancel _ (by intro z;have z:((2 ^ (-p).toNat:Int):Rat)=((0:Int):Rat):=z;have:=Rat.intCast_inj.mp z;lia),Rat.mul_one]
 rw [e2]
 have:=divInt_sz (w * 2 ^ p.toNat) (u:=2 ^ (-p).toNat) (by lia)
 have:=bits_shl (w:=w) (k:=p.toNat)
 have:=bits_two_pow (-p).toNat
 exact ⟨by omega,by omega⟩
theorem vr_opp (w p:Int):vr (-w,p)=-vr (w,p):=by unfold vr;rw [Rat.intCast_neg];grind
theorem nols_row:∀ q:List (Int × Int),nols (q.map nq)=true
 | []=>rfl
 | x :: q=>nols_row q
theorem k_law {C:Cfg} {i1 i2 i3 i4 i5 i6 i7 i8 i9 i10:Nat} (h1:C.ct i1=c_width) (h2:C.ct i2=c_drawn) (h3:C.ct i3=c_cell) (h4:C.ct i4=c_square) (h5:C.ct i5=c_wholes) (h6:C.ct i6=c_parts) (h7:C.ct i7=c_det 4) (h8:C.ct i8=c_is_ratio) (h9:C.ct i9=c_determinant) (h10:C.ct i10=K40.c_turned) (f4:C.fr i4=true):Keeps C 11 (b_law i1 i2 i3 i4 i5 i6 i7 i8 i9 i10) c_law:=by
 rintro ds ⟨ns,rfl,hl⟩
 have z0:(0:Int)<=0:=by decide
 have z1:(0:Int)<=1:=by decide
 rw [b_law]
 simp_all! only [h1,wp_width hl z0]
 intro w w1 w2
 simp_all! only [h2,h3,wp_cell hl z0,wp_drawn]
 intro _ m m0 m1
 obtain ⟨n,en,n1,n4⟩:∃ n:Nat,1 + m.fmod 4=(n:Int) /\ 1<=n /\ n<=4:=by
  rw [fmod_pos (by decide)]
  refine ⟨(1 + m % 4).toNat,?_,?_,?_⟩ <;> omega
 rw [en]
 refine ⟨f4,?_⟩
 rw [h4,wp_square hl z1 ⟨n1,n4⟩ w1 w2]
 intro T g
 refine ⟨_,rfl,?_⟩
 have lT:=g.len
 have tl:T.length<=lim:=by unfold lim;lia
 simp_all! only [wpG,List.length_map,tl]
 rw [compLL_map (g:=fun r:List (Int × Int)=>D.lst (r.map nq)) (h:=fun r=>r.map nq) (fun r _ Q=>Iff.rfl)]
 refine ⟨rfl,?_,?_⟩
 ·rw [List.all_eq_true]
  intro r hr
  obtain ⟨q,_,rfl⟩:=List.mem_map.mp hr
  exact nols_row q
 have wW:∀ (Q:D->Prop) (E:XD->Prop),c_wholes.wp [.lst (T.map fun r=>.lst (r.map nq))] Q E ↔ ∀ low,IsMin T low->Q (.tup [wD (wh low T),.int low]):=fun Q E=>wp_wholes g
 simp_all! only [h5,wW]
 intro low mn
 refine ⟨apt_wholes g,?_⟩
 obtain ⟨lo,hi⟩:=mn.b g
 have en1:n - 1 + 1=n:=by lia
 have rect:=g.rect lo
 have bd:=det_bits (n - 1) (M:=wh low T) (by rw [en1];exact rect)
 have bd2:=dB_le (n:=n - 1) (by lia)
 have wd:=fun Q E=>wp_det (k:=4) (n:=n - 1) (M:=wh low T) (Q:=Q) (E:=E) (by rw [en1];exact rect) (by lia) (by decide)
 have bn:bits (n:Int)<=10:=bits_le_iff.mpr (by omega)
 have mo:MulOk (n:Int) low:=.inl (by lia)
 have tp:-520<=(n:Int) * low /\ (n:Int) * low<=520:=by
  have:n=1 \/ n=2 \/ n=3 \/ n=4:=by omega
  rcases this with rfl | rfl | rfl | rfl <;> omega
 rw [h7,wd]
 refine ⟨mo,?_⟩
 rw [h6,wp_parts ⟨by lia,by lia,by lia⟩]
 have pr:=parts_rat (detF (n - 1) (wh low T)) ((n:Int) * low)
 have sz:=szr_vr (w:=detF (n - 1) (wh low T)) (p:=(n:Int) * low) (by lia) tp.1 tp.2
 have bt:bits (detF (n - 1) (wh low T) * 2 ^ ((n:Int) * low).toNat)<=3000:=by
  have:=bits_shl (w:=detF (n - 1) (wh low T)) (k:=((n:Int) * low).toNat);omega
 have bu:bits (2 ^ (-((n:Int) * low)).toNat:Int)<=3000:=by rw [bits_two_pow];omega
 have u0:=two_pow_pos (-((n:Int) * low)).toNat
 have dq1:detQ n low T=vr (detF (n - 1) (wh low T),(n:Int) * low):=rfl
 have dq2:detQ n low (turnF n T)=vr (detF (n - 1) (wh low T),(n:Int) * low):=by unfold detQ;rw [det_turn g]
 generalize detF (n - 1) (wh low T) * 2 ^ ((n:Int) * low).toNat=top at *
 generalize (2 ^ (-((n:Int) * low)).toNat:Int)=und at *
 have wI:=fun Q E=>wp_isratio (r:=vr (detF (n - 1) (wh low T),(n:Int) * low)) (t:=top) (u:=und) (Q:=Q) (E:=E) sz u0 (by lia) (by lia) pr
 have wD:∀ (Q:D->Prop) (E:XD->Prop),c_determinant.wp [.lst (T.map fun r=>.lst (r.map nq))] Q E ↔ Q (rq (vr (detF (n - 1) (wh low T),(n:Int) * low))):=fun Q E=>wp_determinant g mn
 have T0:=g.ne
 have wT:∀ (Q:D->Prop) (E:XD->Prop),K40.c_turned.wp [.lst (T.map fun r=>.lst (r.map nq))] Q E ↔ Q (tabD (turnF n T)):=fun Q E=>wp_turned T0 (by lia) (by lia) g.row
 have wD2:∀ (Q:D->Prop) (E:XD->Prop),c_determinant.wp [tabD (turnF n T)] Q E ↔ Q (rq (vr (detF (n - 1) (wh low T),(n:Int) * low))):=fun Q E=>by rw [<- dq2];exact wp_determinant (turn_sq g) (turn_min g mn)
 have er:rowsD (T.map fun r=>r.map nq)=tabD T:=(tab_rows T).symm
 have dt:=K40.dep_tab T
 simp_all! only [er]
 have ee:eqD (D.lst (T.map fun r=>D.lst (r.map nq))) (tabD T)=true:=eqD_refl (tabD T)
 have dp:min (depD (D.lst (T.map fun r=>D.lst (r.map nq)))) (depD (tabD T))<=100:=by lia
 refine guard ?_ (guard ?_ ?_)
 ·rw [we_obs]
  simp only [getS,ownD_ow,setS]
  dsimp! only [h9,wD,h8,wI]
  refine ⟨by lia,?_⟩
  rw [ee]
  exact ⟨rfl,rfl⟩
 ·rw [we_obs]
  simp only [getS,ownD_ow,setS]
  dsimp! only [h10,wT,h9,wD2,h8,wI]
  rfl
 rcases Nat.lt_or_ge 1 n with h2n | h2n
 ·refine guard (by dsimp! only [];simp;lia) ?_
  have nz:¬ (n:Int)=0:=by lia
  simp_all! only [h2,h3,wp_cell hl z0,wp_drawn,nz]
  intro _ m' m0' m1'
  obtain ⟨a,ea,ha⟩:∃ a:Nat,m'.fmod n=(a:Int) /\ a < n:=by
   rw [fmod_pos (by lia)]
   have:=Int.emod_nonneg m' (b:=n) (by lia)
   have:=Int.emod_lt_of_pos m' (b:=n) (by lia)
   exact ⟨(m' % (n:Int)).toNat,by lia,by lia⟩
  have eo:((a:Int) + 1).fmod n=(((a + 1) % n:Nat):Int):=by rw [fmod_pos (by lia)];push_cast;rfl
  have ho:(a + 1) % n < n:=Nat.mod_lt _ (by lia)
  rw [ea,eo]
  have sq:=det_swap g h2n ha low
  have ss:=sw_sq g ha ho
  have sm:=sw_min g ha ho mn
  generalize (a + 1) % n=o at *
  have aa:=K40.at_row (rows:=T) (i:=a) (by lia)
  have ao:=K40.at_row (rows:=T) (i:=o) (by lia)
  rw [ws_seq,ws_st2]
  simp only [getS,ownD_ow]
  dsimp! only [aa,ao,is2,isI,List.length_map,lT,List.length_set]
  have c1:(0:Int)<=(a:Int) /\ (a:Int) < n:=⟨by lia,by lia⟩
  have c2:(0:Int)<=(o:Int) /\ (o:Int) < n:=⟨by lia,by lia⟩
  refine ⟨c1,c2,?_⟩
  rw [show ((T.map fun r=>D.lst (r.map nq)).set (a:Int).toNat (.lst ((T.getD o []).map nq))).set (o:Int).toNat (.lst ((T.getD a []).map nq))=(swF a o T).map fun r=>D.lst (r.map nq) by unfold swF;rw [List.map_set,List.map_set,Int.toNat_natCast,Int.toNat_natCast]]
  have dq3:detQ n low (swF a o T)=-vr (detF (n - 1) (wh low T),(n:Int) * low):=by unfold detQ;rw [sq,vr_opp]
  have wD3:∀ (Q:D->Prop) (E:XD->Prop),c_determinant.wp [.lst ((swF a o T).map fun r=>.lst (r.map nq))] Q E ↔ Q (rq (-vr (detF (n - 1) (wh low T),(n:Int) * low))):=fun Q E=>by rw [<- dq3];exact wp_determinant ss sm
  have sz3:szr 9000 (-vr (detF (n - 1) (wh low T),(n:Int) * low)):=⟨by rw [Rat.neg_num,bits_neg];exact sz.1,by rw [Rat.neg_den];exact sz.2⟩
  have wI3:=fun Q E=>wp_isratio (r:=-vr (detF (n - 1) (wh low T),(n:Int) * low)) (t:=0 - top) (u:=und) (Q:=Q) (E:=E) sz3 u0 (by have:=bits_neg top;rw [Int.zero_sub];lia) (by lia) (by rw [Rat.intCast_sub,<- pr];simp only [Rat.intCast_zero];grind)
  simp_all! only [h9,wD3,h8,wI3]
  rfl
 ·have n1':n=1:=by lia
  rw [ws_seq,ws_ite]
  subst n1'
  dsimp! only []
  simp_all! only []
  rfl
end Z.K45
namespace Z.K45
open PySem PySem.Spec PyProof.Rows L2 Z
def top (i:Nat):Stmt:=PySem.Challenge.pw_trueline_k45_determinants.main.body.getD i (.Pass ⟨0,0,0,0⟩)
def fi_law_drawn:FnI:=⟨"_law_drawn",top 19,["_law_cell_here","_law_k","_law_more"],["_law_cell_here","_law_k"],b_law_drawn,c_drawn,false,false,[],false,false⟩
def fi_law_cell:FnI:=⟨"_law_cell",top 18,["_law_script","_law_k"],["_law_script","_law_k"],b_law_cell,c_cell,false,false,[],false,false⟩
def fi_law_width:FnI:=⟨"_law_width",top 27,["_law_script","_law_k"],["_law_script","_law_k"],b_law_width 0 1,c_width,false,false,[],false,false⟩
def fi_law_bare:FnI:=⟨"_law_bare",top 20,["_law_whole_here","_law_power","_law_low"],["_law_whole_here","_law_power"],b_law_bare,c_bare,false,false,[],false,false⟩
def fi_law_number:FnI:=⟨"_law_number",top 21,["_law_cell_here","_law_k","_law_width_here","_law_far","_law_more","_law_kind","_law_power","_law_whole_here"],["_law_cell_here","_law_k","_law_width_here","_law_far"],b_law_number 0 3,c_number,false,false,[],false,false⟩
def fi_law_measure:FnI:=⟨"_law_measure",top 22,["_law_cell_here","_law_k","_law_width_here","_law_whole_here","_law_place"],["_law_cell_here","_law_k","_law_width_here"],b_law_measure 4 0 3,c_measure,false,false,[],false,false⟩
def fi_law_row:FnI:=⟨"_law_row",top 23,["_law_script","_law_start","_law_many","_law_width_here","_law_row_here","_law_k","_law_cell_here","_law_more","_law_number_here","_law_old","_law_place"],["_law_script","_law_start","_law_many","_law_width_here"],b_law_row 1 0 5 3,c_row,false,false,[],false,false⟩
def fi_law_square:FnI:=⟨"_law_square",top 29,["_law_script","_law_start","_law_many","_law_width_here","_law_row_here","_law_rows","_law_more","_law_at","_law_other","_law_place"],["_law_script","_law_start","_law_many","_law_width_here"],b_law_square 6 0 1 3,c_square,true,false,[],false,false⟩
def fi_law_wholes:FnI:=⟨"_law_wholes",top 30,["_law_rows","_law_low"],["_law_rows"],b_law_wholes,c_wholes,false,false,[],false,false⟩
def fi_law_parts:FnI:=⟨"_law_parts",top 28,["_law_whole_here","_law_power"],["_law_whole_here","_law_power"],b_law_parts,c_parts,false,false,[],false,false⟩
def fi_law_det1:FnI:=⟨"_law_det",top 31,["_law_rows","_law_found","_law_place","_law_rest"],["_law_rows"],J45.b_law_det1,J45.c_det1,false,false,[],false,false⟩
def fi_law_det2:FnI:=⟨"_law_det",top 31,["_law_rows","_law_found","_law_place","_law_rest"],["_law_rows"],J45.b_law_det2 10,J45.c_det2,false,false,[],false,false⟩
def fi_law_det3:FnI:=⟨"_law_det",top 31,["_law_rows","_law_found","_law_place","_law_rest"],["_law_rows"],J45.b_law_det3 11,J45.c_det3,false,false,[],false,false⟩
def fi_law_det4:FnI:=⟨"_law_det",top 31,["_law_rows","_law_found","_law_place","_law_rest"],["_law_rows"],J45.b_law_det4 12,J45.c_det4,false,false,[],false,false⟩
def fi_law_whole:FnI:=⟨"_law_whole",top 24,["_law_thing"],["_law_thing"],b_law_whole,c_whole,false,false,[],false,false⟩
def fi_law_common:FnI:=⟨"_law_common",top 25,["_law_one","_law_other","_law_left"],["_law_one","_law_other"],b_law_common,c_common,false,false,[],false,false⟩
def fi_law_is_ratio:FnI:=⟨"_law_is_ratio",top 26,["_law_thing","_law_top","_law_under"],["_law_thing","_law_top","_law_under"],b_law_is_ratio 14 15,c_is_ratio,false,false,[],false,false⟩
def fi_least_power:FnI:=⟨"least_power",top 10,["numbers"],["numbers"],K42.b_least_power,K42.c_least_power,false,false,[],false,false⟩
def fi_one_by_one:FnI:=⟨"one_by_one",top 9,["rows","told","row"],["rows"],K42.b_one_by_one,K42.c_one_by_one,false,false,[],false,false⟩
def fi_whole_determinant1:FnI:=⟨"whole_determinant",top 15,["rows","total","sign","pair"],["rows"],J45.b_whole_determinant1,J45.c_det1,false,false,[],false,false⟩
def fi_without:FnI:=⟨"without",top 14,["rows","place"],["rows","place"],J45.b_without,J45.c_without,false,false,[],false,false⟩
def fi_whole_determinant2:FnI:=⟨"whole_determinant",top 15,["rows","total","sign","pair"],["rows"],J45.b_whole_determinant2 19 20,J45.c_det2,false,false,[],false,false⟩
def fi_whole_determinant3:FnI:=⟨"whole_determinant",top 15,["rows","total","sign","pair"],["rows"],J45.b_whole_determinant3 21 20,J45.c_det3,false,false,[],false,false⟩
def fi_whole_determinant4:FnI:=⟨"whole_determinant",top 15,["rows","total","sign","pair"],["rows"],J45.b_whole_determinant4 22 20,J45.c_det4,false,false,[],false,false⟩
def fi_two_to:FnI:=⟨"two_to",top 1,["count","told","factor","left"],["count"],b_two_to,c_two_to,false,false,[],false,false⟩
def fi_in_steps:FnI:=⟨"in_steps",top 11,["numbers","power"],["numbers","power"],K42.b_in_steps 24,K42.c_in_steps,false,false,[],false,false⟩
def fi_rows_in_steps:FnI:=⟨"rows_in_steps",top 12,["rows","power"],["rows","power"],J51.b_rows_in_steps 25,J51.c_rows_in_steps,false,false,[],false,false⟩
def fi_value:FnI:=⟨"value",top 2,["number"],["number"],b_value 24,c_value,false,false,[],false,false⟩
def fi_odd_form:FnI:=⟨"odd_form",top 3,["whole","power"],["whole","power"],b_odd_form,c_odd_form,false,false,[],false,false⟩
def fi_one_form:FnI:=⟨"one_form",top 5,["pair"],["pair"],b_one_form 28,c_one_form,false,false,[],false,false⟩
def fi_determinant:FnI:=⟨"determinant",top 16,["rows","power","whole"],["rows"],J45.b_determinant 17 18 23 26 27 29,J45.c_determinant,false,false,[],false,false⟩
def fi_column:FnI:=⟨"column",top 7,["table","place"],["table","place"],b_column,K40.c_column,false,false,[],false,false⟩
def fi_turned:FnI:=⟨"turned",top 8,["table"],["table"],b_turned 31,K40.c_turned,false,false,[],false,false⟩
def fi_law:FnI:=⟨"law",top 32,["_law_script","_law_width_here","_law_many","_law_rows","_law_kept","_law_wholes_here","_law_low","_law_top","_law_under","_law_at","_law_other"],["_law_script"],b_law 2 0 1 7 8 9 13 16 30 32,c_law,false,false,[],false,false⟩
def fns:List FnI:=[fi_law_drawn,fi_law_cell,fi_law_width,fi_law_bare,fi_law_number,fi_law_measure,fi_law_row,fi_law_square,fi_law_wholes,fi_law_parts,fi_law_det1,fi_law_det2,fi_law_det3,fi_law_det4,fi_law_whole,fi_law_common,fi_law_is_ratio,fi_least_power,fi_one_by_one,fi_whole_determinant1,fi_without,fi_whole_determinant2,fi_whole_determinant3,fi_whole_determinant4,fi_two_to,fi_in_steps,fi_rows_in_steps,fi_value,fi_odd_form,fi_one_form,fi_determinant,fi_column,fi_turned,fi_law]
def C:Cfg where
 ct n:=((fns.map (·.c))[n]?).getD ⟨fun _=>False,fun _ _=>False,fun _ _=>False⟩
 cn n:=match n with  | _=>.non
 fr n:=((fns.map (·.fr))[n]?).getD false
 f2 n:=((fns.map (·.g))[n]?).getD false
theorem chk:chkAll fns []=true:=by decide +kernel
theorem ct:∀ n i,fns[n]?=some i->C.ct n=i.c /\ C.fr n=i.fr /\ C.f2 n=i.g:=by
 intro n i e
 refine ⟨?_,?_,?_⟩
 ·show ((fns.map (·.c))[n]?).getD _=i.c
  rw [List.getElem?_map,e];rfl
 ·show ((fns.map (·.fr))[n]?).getD _=i.fr
  rw [List.getElem?_map,e];rfl
 ·show ((fns.map (·.g))[n]?).getD _=i.g
  rw [List.getElem?_map,e];rfl
theorem keeps:∀ i ∈ fns,i.Keep C:=by
 intro i hi
 simp only [fns,List.mem_cons,List.not_mem_nil,or_false] at hi
 rcases hi with rfl | rfl | rfl | rfl | rfl | rfl | rfl | rfl | rfl | rfl | rfl | rfl | rfl | rfl | rfl | rfl | rfl | rfl | rfl | rfl | rfl | rfl | rfl | rfl | rfl | rfl | rfl | rfl | rfl | rfl | rfl | rfl | rfl | rfl
 ·exact k_drawn
 ·exact k_cell
 ·exact k_width rfl rfl
 ·exact k_bare
 ·exact k_number rfl rfl
 ·exact k_measure rfl rfl rfl
 ·exact k_row rfl rfl rfl rfl
 ·exact k_square rfl rfl rfl rfl
 ·exact k_wholes
 ·exact k_parts
 ·exact J45.k_ldet1
 ·exact J45.k_ldet2 rfl
 ·exact J45.k_ldet3 rfl
 ·exact J45.k_ldet4 rfl
 ·exact k_whole
 ·exact k_common
 ·exact k_is_ratio rfl rfl
 ·exact K42.k_least_power
 ·exact K42.k_one_by_one
 ·exact J45.k_det1
 ·exact J45.k_without
 ·exact J45.k_det2 rfl rfl
 ·exact J45.k_det3 rfl rfl
 ·exact J45.k_det4 rfl rfl
 ·exact k_two_to
 ·exact K42.k_in_steps rfl
 ·exact J51.k_rows_in_steps rfl
 ·exact k_value rfl
 ·exact k_odd_form
 ·exact k_one_form rfl
 ·exact J45.k_determinant rfl rfl rfl rfl rfl rfl
 ·exact k_column
 ·exact k_turned rfl
 ·exact k_law rfl rfl rfl rfl rfl rfl rfl rfl rfl rfl rfl
end Z.K45
def PySem.W.Fast.tw17765365854765172040:Unit:=()
def PySem.W.Fast.tw14674323350980156719:Unit:=()
def PySem.W.Fast.tw15637508761842142730:Unit:=()
def PySem.W.Fast.tw406926443567143042:Unit:=()
def PySem.W.Fast.tw4621837529260814092:Unit:=()
def PySem.W.Fast.tw2741996214943052781:Unit:=()
def PySem.W.Fast.tw16562764903020676222:Unit:=()
def PySem.W.Fast.tw13823879357664332249:Unit:=()
def PySem.W.Fast.tw7358965558278393068:Unit:=()
def PySem.W.Fast.tw15751954189690927249:Unit:=()
def PySem.W.Fast.tw803974677920123370:Unit:=()
def PySem.W.Fast.tw17783061554433348801:Unit:=()
def PySem.W.Fast.tw4889424014399649753:Unit:=()
def PySem.W.Fast.tw16481437693944121924:Unit:=()
def PySem.W.Fast.tw6524050869351606282:Unit:=()
def PySem.W.Fast.tw18396438258397810285:Unit:=()
def PySem.W.Fast.tw9739476919046383064:Unit:=()
def PySem.W.Fast.tw13806630422706356439:Unit:=()
def PySem.W.Fast.tw12866951296676713922:Unit:=()
def PySem.W.Fast.tw11584557410756356302:Unit:=()
def PySem.W.Fast.tw10620135030382774669:Unit:=()
def PySem.W.Fast.tw8055408067728617570:Unit:=()
def PySem.W.Fast.tw4475628201241795704:Unit:=()
def PySem.W.Fast.tw2731546108472112905:Unit:=()
def PySem.W.Fast.tw7156703082554034388:Unit:=()
def PySem.W.Fast.tw17765248881502264121:Unit:=()
def PySem.W.Fast.tw11496127538179115828:Unit:=()
def PySem.W.Fast.tw12429253526731301938:Unit:=()
def PySem.W.Fast.tw1960725085160748597:Unit:=()
def PySem.W.Fast.tw4369272696606891028:Unit:=()
def PySem.W.Fast.tw10573166948791349843:Unit:=()
def PySem.W.Fast.tw8757736002852753745:Unit:=()
def PySem.W.Fast.tw3119719813387050352:Unit:=()
def PySem.W.Fast.tw5171318992367975173:Unit:=()
def PySem.W.Fast.tw13482820529628171259:Unit:=()
def PySem.W.Fast.tw6828686926002031953:Unit:=()
def PySem.W.Fast.tw16845449948369902094:Unit:=()
def PySem.W.Fast.tw11326484452345652268:Unit:=()
def PySem.W.Fast.tw14724951553087302087:Unit:=()
def PySem.W.Fast.tw9927369372369669051:Unit:=()
def PySem.W.Fast.tw14945889932333492617:Unit:=()
def PySem.W.Fast.tw9636870515198822916:Unit:=()
def PySem.W.Fast.tw17216109411530335587:Unit:=()
def PySem.W.Fast.tw8965982401146041461:Unit:=()
def PySem.W.Fast.tw13792929543554840047:Unit:=()
def PySem.W.Fast.tw783196210318128045:Unit:=()
def PySem.W.Fast.tw10652653507520510877:Unit:=()
def PySem.W.Fast.tw8801216410380075604:Unit:=()
def PySem.W.Fast.tw3272023981759146926:Unit:=()
def PySem.W.Fast.tw7298586449317257788:Unit:=()
def PySem.W.Fast.tw2270191995022598968:Unit:=()
def PySem.W.Fast.tw8241570765361342621:Unit:=()
def PySem.W.Fast.tw11625671401221100094:Unit:=()
def PySem.W.Fast.tw7367436535514969036:Unit:=()
def PySem.W.Fast.tw12247361120346435762:Unit:=()
def PySem.W.Fast.tw4073850442814347270:Unit:=()
def PySem.W.Fast.tw11230571275154276641:Unit:=()
def PySem.W.Fast.tw887856935840429306:Unit:=()
def PySem.W.Fast.tw12131552874286003298:Unit:=()
def PySem.W.Fast.tw1948193368726357508:Unit:=()
def PySem.W.Fast.tw10509152583461517398:Unit:=()
def PySem.W.Fast.tw1658963714340863640:Unit:=()
def PySem.W.Fast.tw7014109985033869647:Unit:=()
def PySem.W.Fast.tw10722612981830936126:Unit:=()
def PySem.W.Fast.tw4778414935801558683:Unit:=()
def PySem.W.Fast.tw2534392472076386726:Unit:=()
def PySem.W.Fast.tw14489926190824555636:Unit:=()
def PySem.W.Fast.tw11655552697611968454:Unit:=()
def PySem.W.Fast.tw2804359461277227870:Unit:=()
def PySem.W.Fast.tw6565408759334267122:Unit:=()
def PySem.W.Fast.tw10819405881973449997:Unit:=()
def PySem.W.Fast.tw670572185229981131:Unit:=()
def PySem.W.Fast.tw5457743016716995213:Unit:=()
def PySem.W.Fast.tw13319924834688097310:Unit:=()
def PySem.W.Fast.tw7312040543940082219:Unit:=()
def PySem.W.Fast.tw13874869440845143239:Unit:=()
def PySem.W.Fast.tw11974581842469138592:Unit:=()
def PySem.W.Fast.tw6452205243734443240:Unit:=()
def PySem.W.Fast.tw11065867931882742931:Unit:=()
def PySem.W.Fast.tw141794938851981031:Unit:=()
def PySem.W.Fast.tw7835909401808223195:Unit:=()
def PySem.W.Fast.tw12660820368213915880:Unit:=()
def PySem.W.Fast.tw15769189456226279020:Unit:=()
def PySem.W.Fast.tw10289572280229533052:Unit:=()
def PySem.W.Fast.tw6364478998171842121:Unit:=()
def PySem.W.Fast.tw16192685431901684311:Unit:=()
def PySem.W.Fast.tw2716143633087243895:Unit:=()
def PySem.W.Fast.tw3600523648768195294:Unit:=()
def PySem.W.Fast.tw3677108501883691506:Unit:=()
def PySem.W.Fast.tw540237442050983484:Unit:=()
def PySem.W.Fast.tw11629623947504883249:Unit:=()
def PySem.W.Fast.tw7963943413430009480:Unit:=()
def PySem.W.Fast.tw7307059770820656432:Unit:=()
def PySem.W.Fast.tw7023690025955568248:Unit:=()
def PySem.W.Fast.tw9880887887665350868:Unit:=()
def PySem.W.Fast.tw4761452934768181836:Unit:=()
def PySem.W.Fast.tw4391579859132931597:Unit:=()
def PySem.W.Fast.tw9239777608427861253:Unit:=()
def PySem.W.Fast.tw7449916988989347979:Unit:=()
def PySem.W.Fast.tw11370610024855376171:Unit:=()
def PySem.W.Fast.tw2458632125217270814:Unit:=()
def PySem.W.Fast.tw1235983382739516225:Unit:=()
def PySem.W.Fast.tw11044843581716423042:Unit:=()
def PySem.W.Fast.tw4956512011963744245:Unit:=()
def PySem.W.Fast.tw9145294158907556177:Unit:=()
def PySem.W.Fast.tw3977938517750016883:Unit:=()
def PySem.W.Fast.tw15268817317500301348:Unit:=()
def PySem.W.Fast.tw12232163384218891969:Unit:=()
def PySem.W.Fast.tw13095465544631172634:Unit:=()
def PySem.W.Fast.tw8297372731573217749:Unit:=()
def PySem.W.Fast.tw14689527005091077983:Unit:=()
def PySem.W.Fast.tw12185198411179064140:Unit:=()
def PySem.W.Fast.tw6979736455518775507:Unit:=()
def PySem.W.Fast.tw1306860266989689634:Unit:=()
def PySem.W.Fast.tw8493991874574649378:Unit:=()
def PySem.W.Fast.tw2217597678534734103:Unit:=()
def PySem.W.Fast.tw10589550392287659148:Unit:=()
def PySem.W.Fast.tw344934795955984087:Unit:=()
def PySem.W.Fast.tw12274409184656839293:Unit:=()
def PySem.W.Fast.tw14911027974868663932:Unit:=()
def PySem.W.Fast.tw10551722291745989095:Unit:=()
open PySem PySem.W PyProof.Rows
set_option maxRecDepth 100000 in
set_option maxHeartbeats 0 in
theorem PySem.Challenge.cw_trueline_k45_determinants_holds : PySem.Challenge.rw_trueline_k45_determinants.Holds := by
 w_on;o_law;k_head;(case hw=>w_witness2)
 k_fill
 refine Z.law_walk (l:=PySem.Challenge.rw_trueline_k45_determinants) Z.K45.fns [] Z.K45.C 33 Z.K45.fi_law rfl rfl (fun w h Y=>PySem.W.kIn_of Y) ⟨fun _=>rfl,by decide,by decide⟩ rfl rfl rfl ⟨rfl,rfl⟩ rfl Z.K45.chk Z.K45.keeps Z.K45.ct (fun _ z=>z) ?F
 case F =>
  intro w mg h KX G
  refine ⟨?fns,?cns,?blt⟩
  case fns =>
   intro i hi
   simp only [Z.K45.fns,List.mem_cons,List.not_mem_nil,or_false] at hi
   rcases hi with rfl | rfl | rfl | rfl | rfl | rfl | rfl | rfl | rfl | rfl | rfl | rfl | rfl | rfl | rfl | rfl | rfl | rfl | rfl | rfl | rfl | rfl | rfl | rfl | rfl | rfl | rfl | rfl | rfl | rfl | rfl | rfl | rfl | rfl
   ·refine' Z.fact_mk (i:=Z.K45.fi_law_drawn) KX G (fun _ _ _ _ _ _=>Z.len2 fun _ _=>rfl) ?a ?l ?c ?k;(case a=>k_is);(case l=>k_is);(case c=>k_is);(case k=>k_is)
   ·refine' Z.fact_mk (i:=Z.K45.fi_law_cell) KX G (fun _ _ _ _ _ _=>Z.len2 fun _ _=>rfl) ?a ?l ?c ?k;(case a=>k_is);(case l=>k_is);(case c=>k_is);(case k=>k_is)
   ·refine' Z.fact_mk (i:=Z.K45.fi_law_width) KX G (fun _ _ _ _ _ _=>Z.len2 fun _ _=>rfl) ?a ?l ?c ?k;(case a=>k_is);(case l=>k_is);(case c=>k_is);(case k=>k_is)
   ·refine' Z.fact_mk (i:=Z.K45.fi_law_bare) KX G (fun _ _ _ _ _ _=>Z.len2 fun _ _=>rfl) ?a ?l ?c ?k;(case a=>k_is);(case l=>k_is);(case c=>k_is);(case k=>k_is)
   ·refine' Z.fact_mk (i:=Z.K45.fi_law_number) KX G (fun _ _ _ _ _ _=>Z.len4 fun _ _ _ _=>rfl) ?a ?l ?c ?k;(case a=>k_is);(case l=>k_is);(case c=>k_is);(case k=>k_is)
   ·refine' Z.fact_mk (i:=Z.K45.fi_law_measure) KX G (fun _ _ _ _ _ _=>Z.len3 fun _ _ _=>rfl) ?a ?l ?c ?k;(case a=>k_is);(case l=>k_is);(case c=>k_is);(case k=>k_is)
   ·refine' Z.fact_mk (i:=Z.K45.fi_law_row) KX G (fun _ _ _ _ _ _=>Z.len4 fun _ _ _ _=>rfl) ?a ?l ?c ?k;(case a=>k_is);(case l=>k_is);(case c=>k_is);(case k=>k_is)
   ·refine' Z.fact_mk (i:=Z.K45.fi_law_square) KX G (fun _ _ _ _ _ _=>Z.len4 fun _ _ _ _=>rfl) ?a ?l ?c ?k;(case a=>k_is);(case l=>k_is);(case c=>k_is);(case k=>k_is)
   ·refine' Z.fact_mk (i:=Z.K45.fi_law_wholes) KX G (fun _ _ _ _ _ _=>Z.len1 fun _=>rfl) ?a ?l ?c ?k;(case a=>k_is);(case l=>k_is);(case c=>k_is);(case k=>k_is)
   ·refine' Z.fact_mk (i:=Z.K45.fi_law_parts) KX G (fun _ _ _ _ _ _=>Z.len2 fun _ _=>rfl) ?a ?l ?c ?k;(case a=>k_is);(case l=>k_is);(case c=>k_is);(case k=>k_is)
   ·refine' Z.fact_mk (i:=Z.K45.fi_law_det1) KX G (fun _ _ _ _ _ _=>Z.len1 fun _=>rfl) ?a ?l ?c ?k;(case a=>k_is);(case l=>k_is);(case c=>k_is);(case k=>k_is)
   ·refine' Z.fact_mk (i:=Z.K45.fi_law_det2) KX G (fun _ _ _ _ _ _=>Z.len1 fun _=>rfl) ?a ?l ?c ?k;(case a=>k_is);(case l=>k_is);(case c=>k_is);(case k=>k_is)
   ·refine' Z.fact_mk (i:=Z.K45.fi_law_det3) KX G (fun _ _ _ _ _ _=>Z.len1 fun _=>rfl) ?a ?l ?c ?k;(case a=>k_is);(case l=>k_is);(case c=>k_is);(case k=>k_is)
   ·refine' Z.fact_mk (i:=Z.K45.fi_law_det4) KX G (fun _ _ _ _ _ _=>Z.len1 fun _=>rfl) ?a ?l ?c ?k;(case a=>k_is);(case l=>k_is);(case c=>k_is);(case k=>k_is)
   ·refine' Z.fact_mk (i:=Z.K45.fi_law_whole) KX G (fun _ _ _ _ _ _=>Z.len1 fun _=>rfl) ?a ?l ?c ?k;(case a=>k_is);(case l=>k_is);(case c=>k_is);(case k=>k_is)
   ·refine' Z.fact_mk (i:=Z.K45.fi_law_common) KX G (fun _ _ _ _ _ _=>Z.len2 fun _ _=>rfl) ?a ?l ?c ?k;(case a=>k_is);(case l=>k_is);(case c=>k_is);(case k=>k_is)
   ·refine' Z.fact_mk (i:=Z.K45.fi_law_is_ratio) KX G (fun _ _ _ _ _ _=>Z.len3 fun _ _ _=>rfl) ?a ?l ?c ?k;(case a=>k_is);(case l=>k_is);(case c=>k_is);(case k=>k_is)
   ·refine' Z.fact_mk (i:=Z.K45.fi_least_power) KX G (fun _ _ _ _ _ _=>Z.len1 fun _=>rfl) ?a ?l ?c ?k;(case a=>k_is);(case l=>k_is);(case c=>k_is);(case k=>k_is)
   ·refine' Z.fact_mk (i:=Z.K45.fi_one_by_one) KX G (fun _ _ _ _ _ _=>Z.len1 fun _=>rfl) ?a ?l ?c ?k;(case a=>k_is);(case l=>k_is);(case c=>k_is);(case k=>k_is)
   ·refine' Z.fact_mk (i:=Z.K45.fi_whole_determinant1) KX G (fun _ _ _ _ _ _=>Z.len1 fun _=>rfl) ?a ?l ?c ?k;(case a=>k_is);(case l=>k_is);(case c=>k_is);(case k=>k_is)
   ·refine' Z.fact_mk (i:=Z.K45.fi_without) KX G (fun _ _ _ _ _ _=>Z.len2 fun _ _=>rfl) ?a ?l ?c ?k;(case a=>k_is);(case l=>k_is);(case c=>k_is);(case k=>k_is)
   ·refine' Z.fact_mk (i:=Z.K45.fi_whole_determinant2) KX G (fun _ _ _ _ _ _=>Z.len1 fun _=>rfl) ?a ?l ?c ?k;(case a=>k_is);(case l=>k_is);(case c=>k_is);(case k=>k_is)
   ·refine' Z.fact_mk (i:=Z.K45.fi_whole_determinant3) KX G (fun _ _ _ _ _ _=>Z.len1 fun _=>rfl) ?a ?l ?c ?k;(case a=>k_is);(case l=>k_is);(case c=>k_is);(case k=>k_is)
   ·refine' Z.fact_mk (i:=Z.K45.fi_whole_determinant4) KX G (fun _ _ _ _ _ _=>Z.len1 fun _=>rfl) ?a ?l ?c ?k;(case a=>k_is);(case l=>k_is);(case c=>k_is);(case k=>k_is)
   ·refine' Z.fact_mk (i:=Z.K45.fi_two_to) KX G (fun _ _ _ _ _ _=>Z.len1 fun _=>rfl) ?a ?l ?c ?k;(case a=>k_is);(case l=>k_is);(case c=>k_is);(case k=>k_is)
   ·refine' Z.fact_mk (i:=Z.K45.fi_in_steps) KX G (fun _ _ _ _ _ _=>Z.len2 fun _ _=>rfl) ?a ?l ?c ?k;(case a=>k_is);(case l=>k_is);(case c=>k_is);(case k=>k_is)
   ·refine' Z.fact_mk (i:=Z.K45.fi_rows_in_steps) KX G (fun _ _ _ _ _ _=>Z.len2 fun _ _=>rfl) ?a ?l ?c ?k;(case a=>k_is);(case l=>k_is);(case c=>k_is);(case k=>k_is)
   ·refine' Z.fact_mk (i:=Z.K45.fi_value) KX G (fun _ _ _ _ _ _=>Z.len1 fun _=>rfl) ?a ?l ?c ?k;(case a=>k_is);(case l=>k_is);(case c=>k_is);(case k=>k_is)
   ·refine' Z.fact_mk (i:=Z.K45.fi_odd_form) KX G (fun _ _ _ _ _ _=>Z.len2 fun _ _=>rfl) ?a ?l ?c ?k;(case a=>k_is);(case l=>k_is);(case c=>k_is);(case k=>k_is)
   ·refine' Z.fact_mk (i:=Z.K45.fi_one_form) KX G (fun _ _ _ _ _ _=>Z.len1 fun _=>rfl) ?a ?l ?c ?k;(case a=>k_is);(case l=>k_is);(case c=>k_is);(case k=>k_is)
   ·refine' Z.fact_mk (i:=Z.K45.fi_determinant) KX G (fun _ _ _ _ _ _=>Z.len1 fun _=>rfl) ?a ?l ?c ?k;(case a=>k_is);(case l=>k_is);(case c=>k_is);(case k=>k_is)
   ·refine' Z.fact_mk (i:=Z.K45.fi_column) KX G (fun _ _ _ _ _ _=>Z.len2 fun _ _=>rfl) ?a ?l ?c ?k;(case a=>k_is);(case l=>k_is);(case c=>k_is);(case k=>k_is)
   ·refine' Z.fact_mk (i:=Z.K45.fi_turned) KX G (fun _ _ _ _ _ _=>Z.len1 fun _=>rfl) ?a ?l ?c ?k;(case a=>k_is);(case l=>k_is);(case c=>k_is);(case k=>k_is)
   ·refine' Z.fact_mk (i:=Z.K45.fi_law) KX G (fun _ _ _ _ _ _=>Z.len1 fun _=>rfl) ?a ?l ?c ?k;(case a=>k_is);(case l=>k_is);(case c=>k_is);(case k=>k_is)
  case cns =>
   intro n x e
   simp at e
  case blt =>
   intro x hx
   simp only [Z.blts,List.mem_cons,List.not_mem_nil,or_false] at hx
   rcases hx with rfl | rfl | rfl | rfl | rfl | rfl | rfl | rfl | rfl | rfl | rfl | rfl | rfl | rfl | rfl | rfl | rfl | rfl | rfl <;> (refine' PySem.W.mg_none_of KX G ?z;(case z=>k_is))
