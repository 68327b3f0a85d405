import PyProof.Rows.All
import Wide.All
import OpenK.AllK
import Wide.FinOn
import PyProof.EqAt
import PyProof.EqKinds
import PyProof.TupleCall
import KE.BitLaws
import Open.SpecLaws
import KE.OsHead
import KE.OsGo
import PySem.Challenge.RW_rilltexts_s07_part
set_option Elab.async false
set_option linter.all false
set_option maxRecDepth 100000
namespace L2
open PySem PySem.Spec PyProof.Rows
noncomputable abbrev Key:=Sum Int Str
noncomputable def AJ7:Key->Value->Bool
 |.inl k,v=>Value.isInt k v
 |.inr x,v=>Value.isStrOf x v
noncomputable def Bf0 (w:World):Key->Int
 |.inl k=>hashInt k
 |.inr x=>hashStr w x
theorem F2:∀{k:Key} {v:Value},AJ7 k v=true->(∃i t,k=Sum.inl i/\v=Value.int i t)∨(∃x t,k=Sum.inr x/\v=Value.str x t)
 |.inl i,v,h=>by
  obtain⟨t,e⟩:=Value.isInt_shape (k:=i) (v:=v) h
  exact .inl ⟨i,t,rfl,e⟩
 |.inr x,v,h=>by
  obtain⟨t,e⟩:=Value.isStrOf_shape (x:=x) (v:=v) h
  exact .inr ⟨x,t,rfl,e⟩
theorem Af2 (i:Int)(t:Tok):AJ7 (.inl i) (.int i t)=true:=by simp[AJ7,Value.isInt]
theorem Ad0 (x:Str)(t:Tok):AJ7 (.inr x) (.str x t)=true:=by simp[AJ7,Value.isStrOf]
theorem BI3 (a b:Int):decide ((Sum.inl a:Key)=Sum.inl b)=(a==b):=by
 by_cases e:a=b
 ·subst e;simp
 ·have h:¬(Sum.inl a:Key)=Sum.inl b:=fun q=>e (Sum.inl.inj q)
  rw[decide_eq_false h]
  exact(beq_eq_false_iff_ne.mpr e).symm
theorem BI5 (a b:Str):decide ((Sum.inr a:Key)=Sum.inr b)=decide (a=b):=by
 by_cases e:a=b
 ·subst e;simp
 ·have h:¬(Sum.inr a:Key)=Sum.inr b:=fun q=>e (Sum.inr.inj q)
  rw[decide_eq_false h,decide_eq_false e]
theorem BS2 (a:Int)(b:Str):decide ((Sum.inl a:Key)=Sum.inr b)=false:=decide_eq_false (fun q=>nomatch q)
theorem BN9 (a:Str)(b:Int):decide ((Sum.inr a:Key)=Sum.inl b)=false:=decide_eq_false (fun q=>nomatch q)
noncomputable def C5 (prog:Program)(w:World):PySem.KeyKind prog w Key where
 is:=AJ7
 hash:=Bf0 w
 inj:=fun v a b ha hb=>by
  rcases F2 ha with ⟨i,t,rfl,rfl⟩ |⟨x,t,rfl,rfl⟩
  ·rcases F2 hb with ⟨j,u,rfl,e⟩ |⟨y,u,rfl,e⟩
   ·injection e with e1 _;rw[e1]
   ·exact nomatch e
  ·rcases F2 hb with ⟨j,u,rfl,e⟩ |⟨y,u,rfl,e⟩
   ·exact nomatch e
   ·injection e with e1 _;rw[e1]
 byValue:=fun k v h=>by
  rcases F2 h with ⟨i,t,rfl,rfl⟩ |⟨x,t,rfl,rfl⟩<;>rfl
 pyHash:=fun hv h=>by
  rcases F2 hv with ⟨i,t,rfl,rfl⟩ |⟨x,t,rfl,rfl⟩
  ·exact wpAny_pyHash_int h
  ·exact wpAny_pyHash_str h
 eqBool:=fun hu hv h=>by
  rcases F2 hu with ⟨i,t,rfl,rfl⟩ |⟨x,t,rfl,rfl⟩
  ·rcases F2 hv with ⟨j,u,rfl,rfl⟩ |⟨y,u,rfl,rfl⟩
   ·rw[BI3]at h;exact wpAny_eqBool_int h
   ·rw[BS2]at h;exact SeqAt.EqAt.int_str i t y u _ _ _ _ h
  ·rcases F2 hv with ⟨j,u,rfl,rfl⟩ |⟨y,u,rfl,rfl⟩
   ·rw[BN9]at h;exact SeqAt.EqAt.str_int x t j u _ _ _ _ h
   ·rw[BI5]at h;exact wpAny_eqBool_str h
 «strs»:=fun k x t v h=>by
  rcases F2 h with ⟨i,u,rfl,e⟩ |⟨y,u,rfl,e⟩
  ·exact nomatch e
  ·injection e with e1 _
   subst e1
   cases v<;>rfl
theorem W6 (prog:Program)(w:World)(i:Int)(t:Tok):(C5 prog w).is (.inl i) (.int i t)=true:=Af2 i t
theorem V2 (prog:Program)(w:World)(x:Str)(t:Tok):(C5 prog w).is (.inr x) (.str x t)=true:=Ad0 x t
end L2
namespace L2
open PySem PySem.Spec PyProof.Rows
inductive V where
 |non |bl (b:Bool) |int (i:Int) |str (x:Str) |byt (b:Array UInt8) |flt (b:UInt64) |ref (a:Addr) |ty (n:String)
 deriving DecidableEq
noncomputable def RelV:V->Value->Prop
 |.non,u=>u=Value.none
 |.bl b,u=>u=Value.bool b
 |.int i,u=>∃t,u=Value.int i t
 |.str x,u=>∃t,u=Value.str x t
 |.byt b,u=>∃t,u=Value.bytes b t
 |.flt b,u=>∃t,u=Value.float b t
 |.ref a,u=>u=Value.ref a
 |.ty n,u=>u=Value.type n
noncomputable abbrev Vals:List V->List Value->Prop:=Paired RelV
theorem Vals.length {xs:List V}{us:List Value}(r:Vals xs us):xs.length=us.length:=Paired.length r
theorem Vals.get:∀{xs:List V} {us:List Value} {i:Nat} {x:V},Vals xs us->xs[i]?=some x->∃u,us[i]?=some u/\RelV x u
 |_,_,_,_,.nil,e=>by simp at e
 |_,_,0,_,.cons r _,e=>by simp at e;subst e;exact⟨_,rfl,r⟩
 |_,_,i+1,x,.cons _ t,e=>by
  obtain⟨u,h1,h2⟩:=Vals.get (i:=i) (x:=x) t (by simpa using e)
  exact⟨u,by simpa using h1,h2⟩
theorem Vals.append:∀{xs ys:List V} {us ws:List Value},Vals xs us->Vals ys ws->Vals (xs++ys) (us++ws)
 |_,_,_,_,.nil,s=>s
 |_,_,_,_,.cons r t,s=>.cons r (Vals.append t s)
theorem Vals.take:∀{xs:List V} {us:List Value} (n:Nat),Vals xs us->Vals (xs.take n) (us.take n)
 |_,_,0,_=>.nil
 |_,_,_+1,.nil=>.nil
 |_,_,n+1,.cons r t=>.cons r (Vals.take n t)
theorem Vals.drop:∀{xs:List V} {us:List Value} (n:Nat),Vals xs us->Vals (xs.drop n) (us.drop n)
 |_,_,0,r=>r
 |_,_,_+1,.nil=>.nil
 |_,_,n+1,.cons _ t=>Vals.drop n t
noncomputable def RelO:Option V->Option Value->Prop
 |some v,some u=>RelV v u
 |none,none=>True
 |_,_=>False
noncomputable def KV {κ:Type}:List (κ×V)->List (κ×Value)->Prop:=Paired fun(p:κ×V) (q:κ×Value)=>p.1=q.1/\RelV p.2 q.2
noncomputable def kV:Key->V
 |.inl i=>.int i
 |.inr x=>.str x
inductive HO where
 |lst (xs:List V)
 |tup (xs:List V)
 |dK (kvs:List (Key×V)) |dT (kvs:List (List Key×V))
 |set (S:Int->Bool) (n:Nat)
 |ins (C dx:Addr) (fs:List (Str×V))
 |own (x:Addr)
 |xd (fs:List (Str×V))
 |met (f x:Addr)
 |rng (lo hi:Int)
 |frz (o:Obj) (u:HO)
 |tbl (ps:Array Value)
 |ext (φ:Heap->Prop)
noncomputable abbrev Hp:=Addr->Option HO
noncomputable def upd (H:Hp)(a:Addr)(o:HO):Hp:=fun b=>if b=a then some o else H b
theorem A1 {H:Hp}{a:Addr}{o:HO}:upd H a o a=some o:=by unfold upd;rw[if_pos rfl]
theorem A5 {H:Hp}{a b:Addr}{o:HO}(h:b≠a):upd H a o b=H b:=by unfold upd;rw[if_neg h]
theorem K0 {H:Hp}{a:Addr}{o u:HO}:upd (upd H a o) a u=upd H a u:=by
 funext b;unfold upd;split<;>rfl
theorem D8 {H:Hp}{a b:Addr}{o u:HO}(h:H a=some o)(h':H b=some u)(d:o≠u):a≠b:=by
 intro e;subst e;rw[h]at h';exact d (Option.some.inj h')
theorem B0 {H:Hp}{a b:Addr}{o:HO}(h:H a=some o)(h':H b=none):a≠b:=by
 intro e;subst e;rw[h]at h';cases h'
section
variable (P:Program) (w:World)
noncomputable def ObjOk (H:Hp)(h:Heap)(a:Addr):HO->Prop
 |.lst xs=>xs.length<=sizeLine/\∃(its:List Value) (n:Nat),Vals xs its/\h.get? a=some {cls:=.type "list",data:=.seq its.toArray n}
 |.tup xs=>xs.length<=sizeLine/\∃its:List Value,Vals xs its/\IsTup h a its.toArray
 |.dK kvs=>kvs.length<=sizeLine/\(a==sysModules)=false/\∃vs,KV kvs vs/\h.DictOf (C5 P w) a vs
 |.dT kvs=>kvs.length<=sizeLine/\(a==sysModules)=false/\∃xs:List (List Key×Addr×Value),
   Paired (fun(p:List Key×V) (q:List Key×Addr×Value)=>p.1=q.1/\H q.2.1=some (.tup (p.1.map kV))/\RelV p.2 q.2.2) kvs xs/\
   ∃o es ep,h.get? a=some o/\o.ExactDict/\o.data=.dict es ep/\es.toList=xs.map (entryOfKey (tupleKind (C5 P w)))/\(xs.map (·.1)).Nodup
 |.set S n=>h.SetOf (intKind P w) a S n
 |.ins C dx fs=>H dx=some (.own a)/\fs.length<=1000/\dx≠a/\h.get? a=some (PySem.W.instObj C dx)/\
   ∃mA,h.Ns1 dx mA/\(∀f,RelO (fs.lookup f) (mA f))/\PySem.Within mA (fs.map (·.1))
 |.own _=>∃o,h.get? a=some o
 |.xd fs=>∃mA,h.Ns1 a mA/\∀f,RelO (fs.lookup f) (mA f)
 |.rng lo hi=>∃t u v,h.get? a=some {cls:=.type "range",data:=.fields #[.int lo t,.int hi u,.int 1 v]}
 |.frz o u=>h.get? a=some o/\ObjOk H h a u
 |.tbl ps=>h.get? a=some {cls:=.none,data:=.fields ps}
 |.met f x=>h.get? a=some (PySem.W.methodObj (.ref f) (.ref x))
 |.ext φ=>φ h/\(∃o,h.get? a=some o)/\∀h1 h2:Heap,φ h1->(∀o,h1.get? a=some o->h2.get? a=some o)->φ h2
noncomputable def HOk (H:Hp)(h:Heap):Prop:=∀a o,H a=some o->ObjOk P w H h a o
end
section
variable {P:Program} {w:World} {H H':Hp} {h h':Heap} {a:Addr} {o:HO}
theorem ObjOk.lt (x:ObjOk P w H h a o):a<h.objs.size:=by
 cases o with
 |lst xs=>obtain⟨_,_,_,_,e⟩:=x;exact Heap.lt_size e
 |tup xs=>obtain⟨_,_,_,p⟩:=x;exact p.lt
 |dK kvs=>obtain⟨_,_,_,_,o,_,_,e,_⟩:=x;exact Heap.lt_size e
 |dT kvs=>obtain⟨_,_,_,_,o,_,_,e,_⟩:=x;exact Heap.lt_size e
 |set S n=>obtain⟨o,_,_,_,e,_⟩:=x;exact Heap.lt_size e
 |ins C dx fs=>obtain⟨_,_,_,e,_⟩:=x;exact Heap.lt_size e
 |own y=>obtain⟨_,e⟩:=x;exact Heap.lt_size e
 |xd fs=>obtain⟨_,⟨_,_,_,e,_⟩,_⟩:=x;exact Heap.lt_size e
 |rng lo hi=>obtain⟨_,_,_,e⟩:=x;exact Heap.lt_size e
 |frz ob u=>obtain⟨e,_⟩:=x;exact Heap.lt_size e
 |tbl ps=>exact Heap.lt_size (show h.get? a=some _ from x)
 |met f y=>exact Heap.lt_size (show h.get? a=some _ from x)
 |ext φ=>obtain⟨_,⟨_,e⟩,_⟩:=x;exact Heap.lt_size e
theorem Paired.mapP {α β:Type}{F G:α->β->Prop}:∀{l₁:List α} {l₂:List β},Paired F l₁ l₂->(∀a b,F a b->G a b)->Paired G l₁ l₂
 |_,_,.nil,_=>.nil
 |_,_,.cons r t,f=>.cons (f _ _ r) (Paired.mapP t f)
theorem ObjOk.stay (x:ObjOk P w H h a o)(k:∀b u,(b=a∨H b=some (.own a))->h.get? b=some u->h'.get? b=some u)
  (ho:∀b,H b=some (.own a)->H' b=some (.own a)) (ht:∀b xs,H b=some (.tup xs)->H' b=some (.tup xs)):ObjOk P w H' h' a o:=by
 induction o with
 |lst xs=>obtain⟨z,its,n,r,e⟩:=x;exact⟨z,its,n,r,k _ _ (.inl rfl) e⟩
 |tup xs=>obtain⟨z,its,r,ob,e,c⟩:=x;exact⟨z,its,r,ob,k _ _ (.inl rfl) e,c⟩
 |dK kvs=>obtain⟨z,y,vs,r,ob,es,ep,e,c⟩:=x;exact⟨z,y,vs,r,ob,es,ep,k _ _ (.inl rfl) e,c⟩
 |dT kvs=>
  obtain⟨z,y,xs,r,ob,es,ep,e,c⟩:=x
  exact⟨z,y,xs,Paired.mapP r fun p q z=>⟨z.1,ht _ _ z.2.1,z.2.2⟩,ob,es,ep,k _ _ (.inl rfl) e,c⟩
 |set S n=>obtain⟨ob,es,ep,t,e,c⟩:=x;exact⟨ob,es,ep,t,k _ _ (.inl rfl) e,c⟩
 |ins C dx fs=>
  obtain⟨d,z,ne,e,mA,⟨od,es,ep,e2,c⟩,r⟩:=x
  exact⟨ho _ d,z,ne,k _ _ (.inl rfl) e,mA,⟨od,es,ep,k _ _ (.inr d) e2,c⟩,r⟩
 |own y=>obtain⟨ob,e⟩:=x;exact⟨ob,k _ _ (.inl rfl) e⟩
 |xd fs=>obtain⟨mA,⟨od,es,ep,e,c⟩,r⟩:=x;exact⟨mA,⟨od,es,ep,k _ _ (.inl rfl) e,c⟩,r⟩
 |rng lo hi=>obtain⟨t,u,v,e⟩:=x;exact⟨t,u,v,k _ _ (.inl rfl) e⟩
 |frz ob u ih=>obtain⟨e,q⟩:=x;exact⟨k _ _ (.inl rfl) e,ih q⟩
 |tbl ps=>
  have e:h.get? a=some {cls:=.none,data:=.fields ps}:=x
  show h'.get? a=some {cls:=.none,data:=.fields ps}
  exact k a _ (.inl rfl) e
 |met f y=>
  have e:h.get? a=some (PySem.W.methodObj (.ref f) (.ref y)):=x
  show h'.get? a=some (PySem.W.methodObj (.ref f) (.ref y))
  exact k a _ (.inl rfl) e
 |ext φ=>obtain⟨p,⟨o,e⟩,st⟩:=x;exact⟨st _ _ p fun o q=>k _ _ (.inl rfl) q,⟨o,k _ _ (.inl rfl) e⟩,st⟩
theorem HOk.lt (x:HOk P w H h)(e:H a=some o):a<h.objs.size:=(x a o e).lt
theorem HOk.fresh (x:HOk P w H h)(e:h.objs.size<=a):H a=none:=by
 cases q:H a with
 |none=>rfl
 |some u=>exact absurd (Nat.lt_of_lt_of_le (x.lt q) e) (Nat.lt_irrefl _)
theorem HOk.kept (x:HOk P w H h)(k:∀b u,h.get? b=some u->h'.get? b=some u):HOk P w H h':=fun a o e=>
 (x a o e).stay (fun b u _ q=>k b u q) (fun _ q=>q) fun _ _ q=>q
theorem HOk.laid (x:HOk P w H h)(k:∀b u,h.get? b=some u->h'.get? b=some u)(hp:h.objs.size<=a)(new:ObjOk P w (upd H a o) h' a o):HOk P w (upd H a o) h':=fun b u e=>by
 have hn:=x.fresh hp
 by_cases hb:b=a
 ·subst hb;rw[A1]at e;cases e;exact new
 ·rw[A5 hb]at e
  exact(x b u e).stay (fun c v _ q=>k c v q) (fun c q=>by rw[A5 (B0 q hn)];exact q) fun c xs q=>by rw[A5 (B0 q hn)];exact q
end
noncomputable def Rd (H:Hp)(a:Addr)(u:HO):Prop:=H a=some u∨∃o,H a=some (.frz o u)
theorem Rd.ok {P:Program}{w:World}{H:Hp}{h:Heap}{a:Addr}{u:HO}(r:Rd H a u)(x:HOk P w H h):ObjOk P w H h a u:=by
 rcases r with r |⟨o,r⟩
 ·exact x a u r
 ·obtain⟨_,q⟩:=x a _ r
  exact q
noncomputable def Mut:Option HO->Prop
 |some (.lst _)=>True
 |some (.dK _)=>True
 |some (.dT _)=>True
 |some (.set _ _)=>True
 |some (.ins _ _ _)=>True
 |some (.ext _)=>True
 |_=>False
section
variable {P:Program} {w:World} {H:Hp} {h h':Heap} {x e:Addr} {o':HO}
theorem HOk.write (ok:HOk P w H h)(mu:Mut (H x))(he:e=x∨H e=some (.own x))(k:∀b u,b≠e->h.get? b=some u->h'.get? b=some u)(heo:∃u,h'.get? e=some u)
  (new:ObjOk P w (upd H x o') h' x o'):HOk P w (upd H x o') h':=fun b u q=>by
 have nown:∀c y,H c=some (.own y)->c≠x:=fun c y r z=>by subst z;rw[r]at mu;exact mu
 have ntup:∀c xs,H c=some (.tup xs)->c≠x:=fun c xs r z=>by subst z;rw[r]at mu;exact mu
 by_cases hb:b=x
 ·subst hb;rw[A1]at q;cases q;exact new
 ·rw[A5 hb]at q
  by_cases hbe:b=e
  ·have q':H b=some (.own x):=by
    rcases he with z |z
    ·exact absurd (hbe.trans z) hb
    ·rw[hbe];exact z
   rw[q]at q';cases q'
   obtain⟨v,hv⟩:=heo
   exact⟨v,by rw[hbe];exact hv⟩
  ·refine(ok b u q).stay (fun c v hc r=>k c v ?_ r) (fun c r=>by rw[A5 (nown c b r)];exact r) fun c xs r=>by rw[A5 (ntup c xs r)];exact r
   rcases hc with rfl |hc
   ·exact hbe
   ·rintro rfl
    rcases he with z |z
    ·exact nown c b hc z
    ·rw[hc]at z;cases z;exact hb rfl
end
structure Un (fs ex:List Addr)(H H':Hp)(h h':Heap):Prop where
 keep:∀b o,h.get? b=some o->H b=none->b∉fs->b∉ex->h'.get? b=some o
 slot:∀b o,h.get? b=some o->H b=none->b∈fs->b∉ex->∃sl,h'.get? b=some {o with slots:=sl}
 free:∀b o,h.get? b=some o->H b=none->b∉ex->H' b=none
 there:∀b o,h.get? b=some o->b∉ex->∃o',h'.get? b=some o'
 tups:∀b xs,H b=some (.tup xs)->H' b=some (.tup xs)
 frzs:∀b o u,H b=some (.frz o u)->H' b=some (.frz o u)
 tbls:∀b ps,H b=some (.tbl ps)->∃more,H' b=some (.tbl (ps++more))
section
variable {fs fs' ex ex':List Addr} {H H1 H2:Hp} {h h1 h2 h':Heap} {a x e:Addr} {o:HO}
theorem Un.any (u:Un fs ex H H1 h h1){b:Addr}{ob:Obj}(q:h.get? b=some ob)(n:H b=none)(hx:b∉ex):∃sl,h1.get? b=some {ob with slots:=sl}:=by
 by_cases hb:b∈fs
 ·exact u.slot b ob q n hb hx
 ·exact⟨ob.slots,u.keep b ob q n hb hx⟩
theorem Un.kept (k:∀b u,h.get? b=some u->h'.get? b=some u):Un fs ex H H h h':=
 ⟨fun b ob q _ _ _=>k b ob q,fun b ob q _ _ _=>⟨ob.slots,k b ob q⟩,fun _ _ _ n _=>n,fun b ob q _=>⟨ob,k b ob q⟩,fun _ _ q=>q,fun _ _ _ q=>q,fun _ ps q=>⟨#[],by rw[q];simp⟩⟩
theorem Un.refl:Un fs ex H H h h:=Un.kept fun _ _ q=>q
theorem Un.laid (k:∀b u,h.get? b=some u->h'.get? b=some u)(hp:h.objs.size<=a)(hn:H a=none):Un fs ex H (upd H a o) h h' where
 keep:=fun b u q _ _ _=>k b u q
 slot:=fun b u q _ _ _=>⟨u.slots,k b u q⟩
 free:=fun b u q n _=>by rw[A5 (Nat.ne_of_lt (Nat.lt_of_lt_of_le (Heap.lt_size q) hp))];exact n
 there:=fun b u q _=>⟨u,k b u q⟩
 tups:=fun b xs q=>by rw[A5 (B0 q hn)];exact q
 frzs:=fun b u xs q=>by rw[A5 (B0 q hn)];exact q
 tbls:=fun b ps q=>⟨#[],by rw[A5 (B0 q hn),q];simp⟩
theorem Un.write (mu:Mut (H x))(he:e=x∨H e=some (.own x))(k:∀b u,b≠e->h.get? b=some u->h'.get? b=some u)(heo:∃u,h'.get? e=some u):Un fs ex H (upd H x o) h h':=by
 have hx:∀b,H b=none->b≠x:=fun b n z=>by subst z;rw[n]at mu;exact mu
 have hb:∀b,H b=none->b≠e:=fun b n z=>by
  subst z
  rcases he with r |r
  ·exact hx b n r
  ·rw[n]at r;cases r
 have hm:∀b u,H b=some u->¬Mut (some u)->b≠x:=fun b u q nm z=>by subst z;rw[q]at mu;exact nm mu
 refine⟨fun b u q n _ _=>k b u (hb b n) q,fun b u q n _ _=>⟨u.slots,k b u (hb b n) q⟩,fun b u q n _=>by rw[A5 (hx b n)];exact n,fun b u q _=>?_,
  fun b xs q=>by rw[A5 (hm b _ q fun z=>z)];exact q,fun b u xs q=>by rw[A5 (hm b _ q fun z=>z)];exact q,fun b ps q=>⟨#[],by rw[A5 (hm b _ q fun z=>z),q];simp⟩⟩
 by_cases hbe:b=e
 ·subst hbe;exact heo
 ·exact⟨u,k b u hbe q⟩
end
noncomputable def trk (h:Heap)(H:Hp):List Addr:=(List.range h.objs.size).filter fun a=>(H a).isSome
noncomputable def Ar8 (h:Heap)(H:Hp):Heap:=PySem.W.hideAll h (trk h H)
theorem Ag9 (h:Heap)(H:Hp):(Ar8 h H).objs.size=h.objs.size:=PySem.W.hideAll_size _ _
theorem Ay4 {h:Heap}{H:Hp}{b:Addr}{o:Obj}(e:h.get? b=some o)(n:H b=none):(Ar8 h H).get? b=some o:=
 PySem.W.hideAll_get _ e fun hm=>by
  have q:(H b).isSome=true:=(List.mem_filter.mp hm).2
  rw[n]at q;simp at q
theorem A92 {h:Heap}{H:Hp}{b:Addr}{o:Obj}(e:(Ar8 h H).get? b=some o):h.get? b=some o/\H b=none:=by
 have e':h.get? b=some o:=PySem.W.of_hideAll (trk h H) e
 refine⟨e',?_⟩
 cases q:H b with
 |none=>rfl
 |some x=>
  have hm:b∈trk h H:=List.mem_filter.mpr ⟨List.mem_range.mpr (Heap.lt_size e'),by simp[q]⟩
  have z:(Ar8 h H).get? b=none:=PySem.W.hideAll_none (trk h H) hm
  rw[z]at e;cases e
end L2
namespace L2
open PySem PySem.Spec PyProof.Rows
structure Mod (K:PySem.W.Frag)(mg:Str->Option Value)(base:Heap):Prop where
 kin:K.In base
 glob:base.Ns mainGlobals mg
 blt:∃mb,base.Ns builtinsNs mb/\∀x:Str,x≠"__name__"->mb x=bootBuiltins x
 nolimit:base.NoLimit
/-- the context:a def's body (or a comprehension's block) running. base:fixed through the whole law;s₀,H₀:the entry;outer:the frames whose slots others may change (a def's callers);stack:all frames that run;
  ex:iterators that were made ahead of the entry and are walked here (a comprehension's);fn:the names whose cells were made at the entry (a def:all;a comprehension's block:its own);calm:not within an except suite;pn:pins that every state bears;xe:what is wanted of an exception that leaves the code -/
structure Cx where
 prog:Program
 w:World
 K:PySem.W.Frag
 mg:Str->Option Value
 base:Heap
 A:Around
 N:List Str
 s_0:Shared
 H_0:Hp
 env:Env
 outer:List Env
 stack:List Env
 ex:List Addr
 fn:Str->Bool
 calm:Bool
 pn:List (Addr×Obj)
 xe:Value->Shared->Prop
noncomputable def frs (l:List Env):List Addr:=l.filterMap (·.frame)
noncomputable abbrev Cx.fs (X:Cx):List Addr:=frs X.outer
noncomputable def Vis (sc:Scope)(x:Str):Prop:=sc.names.lookup x=some .local∨sc.names.lookup x=some .cell∨sc.names.lookup x=some .free
noncomputable def Loc (sc:Scope)(x:Str):Prop:=sc.names.lookup x=some .local∨sc.names.lookup x=some .cell
noncomputable def Bc8 (env:Env)(h:Heap)(m:Str->Option Value)(x:Str)(u:Value):Prop:=
 (env.kindOf x=some .local/\m x=some u)∨((env.kindOf x=some .cell∨env.kindOf x=some .free)/\∃c,env.cells.lookup x=some c/\h.IsCell c (some u))
structure Cx.Ok (X:Cx):Prop where
 mod:Mod X.K X.mg X.base
 kind:X.env.scope.kind=.function
 glob:X.env.globals=mainGlobals
 blt:X.env.builtins=builtinsNs
 above:X.s_0.heap.objs.size<=X.env.locals
 inj:∀x y c,X.env.cells.lookup x=some c->X.env.cells.lookup y=some c->x=y
 has:∀x,(X.env.kindOf x=some .cell∨X.env.kindOf x=some .free)->∃c,X.env.cells.lookup x=some c
 cab:∀x c,X.fn x=true->X.env.cells.lookup x=some c->X.s_0.heap.objs.size<=c
 hd:X.calm=true->X.A.handled=none
 frames:X.A.frames=some X.stack
 stk:X.stack=X.outer∨(X.stack=X.env::X.outer/\X.env.frame=some X.env.locals)
 exf:∀b∈X.ex,b≠X.env.locals/\∀x c,X.env.cells.lookup x=some c->c≠b
 bs:∀b o,X.base.get? b=some o->X.s_0.heap.get? b=some o/\X.H_0 b=none
 bsz:X.base.objs.size<=X.s_0.heap.objs.size
 noex:∀b o,X.base.get? b=some o->b∉X.ex
 exfs:∀b∈X.ex,b∉X.fs
 funs:X.s_0.heap.FunFrames X.base X.outer
 frf:∀b∈X.fs,X.H_0 b=none
structure Inv (X:Cx)(pins:List (Addr×Obj))(σ:List (Option V))(H:Hp)(s:Shared):Prop where
 ok:X.Ok
 os:s.os=X.s_0.os
 bare:AllBare s.gens
 base:Un X.fs X.ex X.H_0 H X.s_0.heap s.heap
 loc:∃m,s.heap.Ns X.env.locals m/\∀(i:Nat) (x:Str) (v:V),X.N[i]?=some x->σ[i]?=some (some v)->Vis X.env.scope x->∃u,RelV v u/\Bc8 X.env s.heap m x u
 cell:∀x c,X.env.cells.lookup x=some c->∃v,s.heap.IsCell c v
 free:H X.env.locals=none
 freeC:∀x c,X.env.cells.lookup x=some c->H c=none
 pin:∀p∈X.pn++pins,s.heap.get? p.1=some p.2/\H p.1=none/\p.1≠X.env.locals/\p.1∉X.fs/\∀v,p.2.data≠.cell v
 hok:HOk X.prog X.w H s.heap
 len:σ.length=X.N.length
section
variable {X:Cx} {pins:List (Addr×Obj)} {σ:List (Option V)} {H H':Hp} {s:Shared} {h':Heap}
theorem Cx.Ok.nofr (ok:X.Ok){b:Addr}{o:Obj}(e:X.base.get? b=some o):b∉X.fs:=fun hb=>by
 have:=(ok.funs.mem hb).1
 rw[e]at this;cases this
theorem Inv.bs (I:Inv X pins σ H s):∀b o,X.base.get? b=some o->s.heap.get? b=some o/\H b=none:=fun b o e=>
 ⟨I.base.keep b o (I.ok.bs b o e).1 (I.ok.bs b o e).2 (I.ok.nofr e) (I.ok.noex b o e),I.base.free b o (I.ok.bs b o e).1 (I.ok.bs b o e).2 (I.ok.noex b o e)⟩
theorem Inv.bk (I:Inv X pins σ H s):∀b o,X.base.get? b=some o->s.heap.get? b=some o:=fun b o e=>(I.bs b o e).1
theorem Inv.mod (I:Inv X pins σ H s):Mod X.K X.mg X.base:=I.ok.mod
theorem Inv.kIn (I:Inv X pins σ H s):X.K.In s.heap:=I.ok.mod.kin.keeps I.bk
theorem Inv.lt (I:Inv X pins σ H s):X.env.locals<s.heap.objs.size:=let ⟨_,hn,_⟩:=I.loc;hn.lt
theorem Inv.sz (I:Inv X pins σ H s):X.s_0.heap.objs.size<=s.heap.objs.size:=Nat.le_trans I.ok.above (Nat.le_of_lt I.lt)
theorem Inv.nofs (I:Inv X pins σ H s){a:Addr}(h:s.heap.objs.size<=a):a∉X.fs:=fun hb=>by
 obtain⟨_,o,ho,_⟩:=I.ok.funs.mem hb
 exact absurd (Nat.lt_of_lt_of_le (Heap.lt_size ho) (Nat.le_trans I.sz h)) (Nat.lt_irrefl _)
theorem Inv.cne (I:Inv X pins σ H s):∀x c,X.env.cells.lookup x=some c->c≠X.env.locals:=fun x c e z=>by
 obtain⟨v,o,ho,hd⟩:=I.cell x c e
 obtain⟨m,⟨o',es,ep,ho',hd',_⟩,_⟩:=I.loc
 rw[z,ho']at ho;cases ho;rw[hd']at hd;cases hd
theorem Inv.funs (I:Inv X pins σ H s):s.heap.FunFrames X.base X.outer:=by
 have all:∀(l:List Env),(∀b∈frs l,b∈X.fs)->X.s_0.heap.FunFrames X.base l->s.heap.FunFrames X.base l:=by
  intro l
  induction l with
  |nil=>intro _ _;trivial
  |cons env r ih=>
   intro hs hl
   obtain⟨hk,⟨L,o,hf,hn,ho,hd⟩,hr⟩:=hl
   have hL:L∈X.fs:=hs L (by unfold frs;rw[List.filterMap_cons,hf];exact List.mem_cons_self)
   obtain⟨sl,e⟩:=I.base.slot L o ho (I.ok.frf L hL) hL fun z=>I.ok.exfs L z hL
   exact⟨hk,⟨L,_,hf,hn,e,hd⟩,ih (fun b hb=>hs b (by unfold frs;rw[List.filterMap_cons,hf];exact List.mem_cons_of_mem _ hb)) hr⟩
 exact all X.outer (fun _ hb=>hb) I.ok.funs
theorem Inv.stack (I:Inv X pins σ H s):s.heap.FunFrames X.base X.stack:=by
 rcases I.ok.stk with e |⟨e,hf⟩
 ·rw[e];exact I.funs
 ·rw[e]
  obtain⟨m,hn,_⟩:=I.loc
  refine .cons (by rw[I.ok.kind];decide) hf hn ?_ I.funs
  exact Heap.get?_none_of_le (Nat.le_trans I.ok.bsz I.ok.above)
theorem Inv.stkSub (I:Inv X pins σ H s):∀b∈frs X.stack,b∈X.env.locals::X.fs:=fun b hb=>by
 rcases I.ok.stk with e |⟨e,hf⟩
 ·rw[e]at hb;exact List.mem_cons_of_mem _ hb
 ·rw[e]at hb
  unfold frs at hb
  rw[List.filterMap_cons,hf]at hb
  exact hb
theorem Inv.stkFree (I:Inv X pins σ H s):∀b∈frs X.stack,H b=none:=fun b hb=>by
 rcases List.mem_cons.mp (I.stkSub b hb)with e |hb
 ·rw[e];exact I.free
 ·obtain⟨_,o,ho,_⟩:=I.ok.funs.mem hb
  exact I.base.free b o ho (I.ok.frf b hb) fun z=>I.ok.exfs b z hb
theorem Inv.step {g':Array GenState}{t':Nat}{d':Drawn}{ch:List Addr}(I:Inv X pins σ H s)
  (hch:∀b∈ch,(b∈X.ex∨X.s_0.heap.objs.size<=b)/\b≠X.env.locals/\(∀x c,X.env.cells.lookup x=some c->c≠b)/\∀p∈X.pn++pins,p.1≠b)
  (keep:∀b o,b≠X.env.locals->b∉X.fs->b∉ch->s.heap.get? b=some o->H b=none->h'.get? b=some o)
  (slot:∀b o,b≠X.env.locals->b∈X.fs->b∉ch->s.heap.get? b=some o->H b=none->∃sl,h'.get? b=some {o with slots:=sl}) (free:∀b o,b∉ch->s.heap.get? b=some o->H b=none->H' b=none)
  (there:∀b o,b∉ch->s.heap.get? b=some o->∃o',h'.get? b=some o')
  (tups:∀b xs,H b=some (.tup xs)->H' b=some (.tup xs)) (frzs:∀b o u,H b=some (.frz o u)->H' b=some (.frz o u)) (tbls:∀b ps,H b=some (.tbl ps)->∃more,H' b=some (.tbl (ps++more)))
  (ns:∀m,s.heap.Ns X.env.locals m->h'.Ns X.env.locals m) (hok:HOk X.prog X.w H' h') (hg:AllBare g'):
  Inv X pins σ H' {s with heap:=h',gens:=g',drawn:=d',toks:=t'}:=by
 have neL:∀b o,X.s_0.heap.get? b=some o->b≠X.env.locals:=fun b o e=>Nat.ne_of_lt (Nat.lt_of_lt_of_le (Heap.lt_size e) I.ok.above)
 have neC:∀b o,X.s_0.heap.get? b=some o->b∉X.ex->b∉ch:=fun b o e hx hb=>by
  rcases(hch b hb).1 with z |z
  ·exact hx z
  ·exact absurd (Nat.lt_of_lt_of_le (Heap.lt_size e) z) (Nat.lt_irrefl _)
 have cellK:∀x c,X.env.cells.lookup x=some c->∀v,s.heap.IsCell c v->h'.IsCell c v:=fun x c e v ⟨o,ho,hd⟩=>by
  have nch:c∉ch:=fun z=>(hch c z).2.2.1 x c e rfl
  by_cases hc:c∈X.fs
  ·obtain⟨sl,q⟩:=slot c o (I.cne x c e) hc nch ho (I.freeC x c e)
   exact⟨_,q,hd⟩
  ·exact⟨o,keep c o (I.cne x c e) hc nch ho (I.freeC x c e),hd⟩
 refine⟨I.ok,I.os,hg,⟨fun b o e n hb hx=>?_,fun b o e n hb hx=>?_,fun b o e n hx=>?_,fun b o e hx=>?_,fun b xs e=>tups b xs (I.base.tups b xs e),fun b o xs e=>frzs b o xs (I.base.frzs b o xs e),fun b ps e=>?_⟩,?_,fun x c e=>?_,?_,fun x c e=>?_,fun p hp=>?_,hok,I.len⟩
 ·exact keep b o (neL b o e) hb (neC b o e hx) (I.base.keep b o e n hb hx) (I.base.free b o e n hx)
 ·obtain⟨sl,e1⟩:=I.base.slot b o e n hb hx
  obtain⟨sl',e2⟩:=slot b _ (neL b o e) hb (neC b o e hx) e1 (I.base.free b o e n hx)
  exact⟨sl',e2⟩
 ·obtain⟨o',e1⟩:=I.base.there b o e hx
  exact free b o' (neC b o e hx) e1 (I.base.free b o e n hx)
 ·obtain⟨o',e1⟩:=I.base.there b o e hx
  exact there b o' (neC b o e hx) e1
 ·obtain⟨m1,e1⟩:=I.base.tbls b ps e
  obtain⟨m2,e2⟩:=tbls b _ e1
  exact⟨m1++m2,by rw[e2,Array.append_assoc]⟩
 ·obtain⟨m,hn,hl⟩:=I.loc
  refine⟨m,ns m hn,fun i x v e1 e2 e3=>?_⟩
  obtain⟨u,r,l⟩:=hl i x v e1 e2 e3
  refine⟨u,r,?_⟩
  rcases l with l |⟨k,c,e,z⟩
  ·exact .inl l
  ·exact .inr ⟨k,c,e,cellK x c e _ z⟩
 ·obtain⟨v,z⟩:=I.cell x c e
  exact⟨v,cellK x c e v z⟩
 ·obtain⟨m,⟨o,_,_,ho,_⟩,_⟩:=I.loc
  exact free _ o (fun z=>(hch _ z).2.1 rfl) ho I.free
 ·obtain⟨v,o,ho,hd⟩:=I.cell x c e
  exact free c o (fun z=>(hch c z).2.2.1 x c e rfl) ho (I.freeC x c e)
 ·obtain⟨e,n,ne,nf,d⟩:=I.pin p hp
  have nch:p.1∉ch:=fun z=>(hch p.1 z).2.2.2 p hp rfl
  exact⟨keep p.1 p.2 ne nf nch e n,free p.1 p.2 nch e n,ne,nf,d⟩
theorem Inv.un {t':Nat}(I:Inv X pins σ H s)(u:Un X.fs [] H H' s.heap h')(hok:HOk X.prog X.w H' h'):Inv X pins σ H' {s with heap:=h',toks:=t'}:=by
 obtain⟨m,⟨o,es,ep,ho,r⟩,_⟩:=id I.loc
 obtain⟨sl,hL⟩:=u.any ho I.free (by simp)
 exact I.step (g':=s.gens) (d':=s.drawn) (ch:=[]) (fun _ z=>nomatch z) (fun b o _ hb _ e n=>u.keep b o e n hb (by simp)) (fun b o _ hb _ e n=>u.slot b o e n hb (by simp)) (fun b o _ e n=>u.free b o e n (by simp)) (fun b o _ e=>u.there b o e (by simp)) u.tups u.frzs u.tbls (fun m' hm=>by
  obtain⟨o',es',ep',ho',r'⟩:=hm
  rw[ho]at ho';cases ho'
  exact⟨_,es',ep',hL,r'⟩) hok I.bare
theorem Inv.call {g':Array GenState}{t':Nat}{d':Drawn}{ch:List Addr}(I:Inv X pins σ H s)(u:Un (frs X.stack) ch H H' s.heap h')(hok:HOk X.prog X.w H' h')(hg:AllBare g')
  (hch:∀b∈ch,(b∈X.ex∨X.s_0.heap.objs.size<=b)/\b≠X.env.locals/\(∀x c,X.env.cells.lookup x=some c->c≠b)/\∀p∈X.pn++pins,p.1≠b):
  Inv X pins σ H' {s with heap:=h',gens:=g',drawn:=d',toks:=t'}:=by
 obtain⟨m,⟨o,es,ep,ho,r⟩,_⟩:=id I.loc
 obtain⟨sl,hL⟩:=u.any ho I.free fun z=>(hch _ z).2.1 rfl
 exact I.step (ch:=ch) hch (fun b o hL hb hc e n=>u.keep b o e n (fun z=>(List.mem_cons.mp (I.stkSub b z)).elim hL hb) hc) (fun b o _ _ hc e n=>u.any e n hc) (fun b o hc e n=>u.free b o e n hc) (fun b o hc e=>u.there b o e hc) u.tups u.frzs u.tbls (fun m' hm=>by
  obtain⟨o',es',ep',ho',r'⟩:=hm
  rw[ho]at ho';cases ho'
  exact⟨_,es',ep',hL,r'⟩) hok hg
theorem Inv.turned {t':Nat}{it:Addr}(I:Inv X pins σ H s)(k:∀b o,b≠it->s.heap.get? b=some o->h'.get? b=some o)(hn:H it=none)(hL:it≠X.env.locals)
  (h1:it∈X.ex∨X.s_0.heap.objs.size<=it) (h2:∀x c,X.env.cells.lookup x=some c->c≠it) (h3:∀p∈X.pn++pins,p.1≠it):Inv X pins σ H {s with heap:=h',toks:=t'}:=by
 have nit:∀b u,H b=some u->b≠it:=fun b u e z=>by rw[z,hn]at e;cases e
 refine I.step (g':=s.gens) (d':=s.drawn) (ch:=[it]) (fun b hb=>?_) (fun b o _ _ hc e _=>k b o (fun z=>hc (by simp[z])) e) (fun b o _ _ hc e _=>⟨o.slots,k b o (fun z=>hc (by simp[z])) e⟩) (fun _ _ _ _ n=>n)
  (fun b o hc e=>⟨o,k b o (fun z=>hc (by simp[z])) e⟩) (fun _ _ e=>e) (fun _ _ _ e=>e) (fun b ps e=>⟨#[],by rw[e];simp⟩) (fun m hm=>?_) (fun b u e=>?_) I.bare
 ·have e:b=it:=by simpa using hb
  subst e
  exact⟨h1,hL,h2,h3⟩
 ·obtain⟨o,es,ep,ho,r⟩:=hm
  exact⟨o,es,ep,k _ o (Ne.symm hL) ho,r⟩
 ·refine(I.hok b u e).stay (fun c v hc q=>k c v ?_ q) (fun _ q=>q) fun _ _ q=>q
  rcases hc with z |z
  ·rw[z];exact nit b u e
  ·exact nit c _ z
theorem Inv.tok (I:Inv X pins σ H s)(t:Nat):Inv X pins σ H {s with toks:=t}:=I.un (h':=s.heap) (t':=t) Un.refl I.hok
theorem Inv.kept {t':Nat}(I:Inv X pins σ H s)(k:∀b u,s.heap.get? b=some u->h'.get? b=some u):Inv X pins σ H {s with heap:=h',toks:=t'}:=I.un (Un.kept k) (I.hok.kept k)
theorem Inv.laid {a:Addr}{o:HO}{t':Nat}(I:Inv X pins σ H s)(k:∀b u,s.heap.get? b=some u->h'.get? b=some u)(hp:s.heap.objs.size<=a)(new:ObjOk X.prog X.w (upd H a o) h' a o):
  Inv X pins σ (upd H a o) {s with heap:=h',toks:=t'}:=I.un (Un.laid k hp (I.hok.fresh hp)) (I.hok.laid k hp new)
theorem Inv.write {x e:Addr}{o:HO}{t':Nat}(I:Inv X pins σ H s)(mu:Mut (H x))(he:e=x∨H e=some (.own x))(k:∀b u,b≠e->s.heap.get? b=some u->h'.get? b=some u)(heo:∃u,h'.get? e=some u)
  (new:ObjOk X.prog X.w (upd H x o) h' x o):Inv X pins σ (upd H x o) {s with heap:=h',toks:=t'}:=I.un (Un.write mu he k heo) (I.hok.write mu he k heo new)
theorem Inv.weak {σ':List (Option V)}(I:Inv X pins σ H s)(hl:σ'.length=σ.length)(w:∀(i:Nat) v,σ'[i]?=some (some v)->σ[i]?=some (some v)):Inv X pins σ' H s:=
 ⟨I.ok,I.os,I.bare,I.base,let ⟨m,hn,hl'⟩:=I.loc;⟨m,hn,fun i x v e1 e2 e3=>hl' i x v e1 (w i v e2) e3⟩,I.cell,I.free,I.freeC,I.pin,I.hok,hl.trans I.len⟩
theorem Inv.pins_of {pins':List (Addr×Obj)}(I:Inv X pins σ H s)(h:∀p∈pins',s.heap.get? p.1=some p.2/\H p.1=none/\p.1≠X.env.locals/\p.1∉X.fs/\∀v,p.2.data≠.cell v):Inv X pins' σ H s:=
 ⟨I.ok,I.os,I.bare,I.base,I.loc,I.cell,I.free,I.freeC,fun p hp=>(List.mem_append.mp hp).elim (fun z=>I.pin p (List.mem_append_left _ z)) (h p),I.hok,I.len⟩
theorem AD4 {N:List Str}(hN:N.Nodup){i j:Nat}{x:Str}(a:N[i]?=some x)(b:N[j]?=some x):i=j:=by
 obtain⟨h1,e1⟩:=List.getElem?_eq_some_iff.mp a
 obtain⟨h2,e2⟩:=List.getElem?_eq_some_iff.mp b
 exact(List.getElem_inj hN).mp (e1.trans e2.symm)
theorem Ae5 {M:Model}{A:Around}{E:Value->Shared->Prop}{i:Nat}{x:Str}{v:V}{u:Value}{Q:Unit->Shared->Prop}(I:Inv X pins σ H s)(hN:X.N.Nodup)(hi:X.N[i]?=some x)(hx:Loc X.env.scope x)(r:RelV v u)
  (h:∀s',Inv X pins (σ.set i (some v)) H s'->(∃a,Heap.SameBut a s.heap s'.heap/\(a=X.env.locals∨X.env.cells.lookup x=some a))->Q () s') (hf:X.fn x=true∨X.env.scope.names.lookup x=some .local:=by first |exact .inl rfl |exact .inr rfl |assumption):wpAny M A (storeName X.env x u) Q E s:=by
 obtain⟨m,hn,hl⟩:=id I.loc
 have hcls:(X.env.scope.kind==.class||(X.env.scope.kind==.module&&X.env.locals != X.env.globals))=false:=by rw[I.ok.kind];rfl
 have hiσ:i<σ.length:=by rw[I.len];exact(List.getElem?_eq_some_iff.mp hi).1
 have cne:=I.cne
 have tracked:∀{a:Addr} {h':Heap},(∃o,s.heap.get? a=some o/\H a=none)->Heap.SameBut a s.heap h'->HOk X.prog X.w H h':=fun {a h'} ha hs b ob e=>by
  obtain⟨_,_,hfree⟩:=ha
  refine(I.hok b ob e).stay (fun c w' hc q=>(hs.2 c ?_).trans q) (fun _ q=>q) fun _ _ q=>q
  rintro rfl
  rcases hc with rfl |hc
  ·rw[hfree]at e;cases e
  ·rw[hfree]at hc;cases hc
 rcases hx with hk |hk
 ·refine wpAny_storeName_local hk hn (fun h' hn' hs=>?_) hcls
  obtain⟨oL,_,_,hoL,_⟩:=id hn
  refine h _ ⟨I.ok,I.os,I.bare,⟨fun b o e n hb hx=>?_,fun b o e n hb hx=>?_,I.base.free,fun b o e hx=>?_,I.base.tups,I.base.frzs,I.base.tbls⟩,⟨_,hn',fun j y v' e1 e2 e3=>?_⟩,fun y c e=>?_,I.free,I.freeC,fun p hp=>?_,tracked ⟨oL,hoL,I.free⟩ hs,by simpa using I.len⟩ ⟨_,hs,.inl rfl⟩
  ·exact(hs.2 b (Nat.ne_of_lt (Nat.lt_of_lt_of_le (Heap.lt_size e) I.ok.above))).trans (I.base.keep b o e n hb hx)
  ·obtain⟨sl,e1⟩:=I.base.slot b o e n hb hx
   exact⟨sl,(hs.2 b (Nat.ne_of_lt (Nat.lt_of_lt_of_le (Heap.lt_size e) I.ok.above))).trans e1⟩
  ·obtain⟨o',e1⟩:=I.base.there b o e hx
   exact⟨o',(hs.2 b (Nat.ne_of_lt (Nat.lt_of_lt_of_le (Heap.lt_size e) I.ok.above))).trans e1⟩
  ·by_cases hj:j=i
   ·subst hj
    rw[hi]at e1;cases e1
    rw[List.getElem?_set_self hiσ]at e2
    cases e2
    exact⟨u,r,.inl ⟨hk,by simp⟩⟩
   ·rw[List.getElem?_set_ne (Ne.symm hj)]at e2
    obtain⟨u',r',q⟩:=hl j y v' e1 e2 e3
    refine⟨u',r',?_⟩
    rcases q with ⟨k,e⟩ |⟨k,c,e,z⟩
    ·refine .inl ⟨k,?_⟩
     have:y≠x:=fun e=>hj (AD4 hN e1 (e▸hi))
     simp[this,e]
    ·exact .inr ⟨k,c,e,z.sameBut hs (cne y c e)⟩
  ·obtain⟨w',z⟩:=I.cell y c e
   exact⟨w',z.sameBut hs (cne y c e)⟩
  ·obtain⟨e,n,ne,nf,d⟩:=I.pin p hp
   exact⟨(hs.2 p.1 ne).trans e,n,ne,nf,d⟩
 ·have hfn:X.fn x=true:=by
   rcases hf with z |z
   ·exact z
   ·rw[z]at hk;cases hk
  obtain⟨c,hc⟩:=I.ok.has x (.inl hk)
  obtain⟨w',z⟩:=I.cell x c hc
  refine wpAny_storeName_cell I.ok.kind hk hc z (fun h' hc' hs=>?_)
  obtain⟨oc,hoc,hocd⟩:=id z
  refine h {s with heap:=h'} ⟨I.ok,I.os,I.bare,⟨fun b o e n hb hx=>?_,fun b o e n hb hx=>?_,I.base.free,fun b o e hx=>?_,I.base.tups,I.base.frzs,I.base.tbls⟩,⟨m,hn.sameBut hs (Ne.symm (cne x c hc)),fun j y v' e1 e2 e3=>?_⟩,fun y c' e=>?_,I.free,I.freeC,fun p hp=>?_,tracked ⟨oc,hoc,I.freeC x c hc⟩ hs,by simpa using I.len⟩ ⟨c,hs,.inr hc⟩
  ·exact(hs.2 b (Nat.ne_of_lt (Nat.lt_of_lt_of_le (Heap.lt_size e) (I.ok.cab x c hfn hc)))).trans (I.base.keep b o e n hb hx)
  ·obtain⟨sl,e1⟩:=I.base.slot b o e n hb hx
   exact⟨sl,(hs.2 b (Nat.ne_of_lt (Nat.lt_of_lt_of_le (Heap.lt_size e) (I.ok.cab x c hfn hc)))).trans e1⟩
  ·obtain⟨o',e1⟩:=I.base.there b o e hx
   exact⟨o',(hs.2 b (Nat.ne_of_lt (Nat.lt_of_lt_of_le (Heap.lt_size e) (I.ok.cab x c hfn hc)))).trans e1⟩
  ·by_cases hj:j=i
   ·subst hj
    rw[hi]at e1;cases e1
    rw[List.getElem?_set_self hiσ]at e2
    cases e2
    exact⟨u,r,.inr ⟨.inl hk,c,hc,hc'⟩⟩
   ·rw[List.getElem?_set_ne (Ne.symm hj)]at e2
    obtain⟨u',r',q⟩:=hl j y v' e1 e2 e3
    refine⟨u',r',?_⟩
    rcases q with q |⟨k,c',e,z'⟩
    ·exact .inl q
    ·refine .inr ⟨k,c',e,z'.sameBut hs ?_⟩
     rintro rfl
     exact hj (AD4 hN e1 (I.ok.inj _ _ _ e hc▸hi))
  ·by_cases hcc:c'=c
   ·subst hcc;exact⟨_,hc'⟩
   ·obtain⟨w2,z2⟩:=I.cell y c' e
    exact⟨w2,z2.sameBut hs hcc⟩
  ·obtain⟨e,n,ne,nf,d⟩:=I.pin p hp
   refine⟨(hs.2 p.1 ?_).trans e,n,ne,nf,d⟩
   intro q
   rw[q,hoc]at e
   have q':oc=p.2:=Option.some.inj e
   exact d w' (by rw[←q'];exact hocd)
theorem AG5 {M:Model}{A:Around}{E:Value->Shared->Prop}{i:Nat}{x:Str}{v:V}{u:Value}{Q:Unit->Shared->Prop}(I:Inv X pins σ H s)(hN:X.N.Nodup)(hi:X.N[i]?=some x)(hx:Loc X.env.scope x)(r:RelV v u)
  (h:∀s',Inv X pins (σ.set i (some v)) H s'->Q () s') (hf:X.fn x=true∨X.env.scope.names.lookup x=some .local:=by first |exact .inl rfl |exact .inr rfl |assumption):wpAny M A (storeName X.env x u) Q E s:=
 Ae5 I hN hi hx r (fun s' I' _=>h s' I') hf
theorem Inv.call' {s':Shared}{ch:List Addr}(I:Inv X pins σ H s)(ho:s'.os=s.os)(u:Un (frs X.stack) ch H H' s.heap s'.heap)(hok:HOk X.prog X.w H' s'.heap)(hg:AllBare s'.gens)
  (hch:∀b∈ch,(b∈X.ex∨X.s_0.heap.objs.size<=b)/\b≠X.env.locals/\(∀x c,X.env.cells.lookup x=some c->c≠b)/\∀p∈X.pn++pins,p.1≠b):Inv X pins σ H' s':=by
 obtain⟨h',g',d',t',o'⟩:=s'
 have e:o'=s.os:=ho
 subst e
 exact I.call (g':=g') (t':=t') (d':=d') u hok hg hch
end
noncomputable abbrev XK:=Value->Option Addr->Hp->Prop
noncomputable abbrev St:=List (Option V)
noncomputable abbrev VK:=V->Hp->Prop
noncomputable abbrev TE:=St->Hp->VK->Prop
noncomputable abbrev TT:=St->Hp->(Bool->Hp->Prop)->Prop
noncomputable abbrev TA:=St->Hp->(List V->Hp->Prop)->Prop
structure Ends where
 nx:St->Hp->Prop
 rt:VK
 bk:St->Hp->Prop:=fun _ _=>False
 ct:St->Hp->Prop:=fun _ _=>False
noncomputable abbrev TS:=Ends->St->Hp->Prop
noncomputable def EP (X:Cx)(pins:List (Addr×Obj))(σ:St)(Q:VK)(u:Value)(s':Shared):Prop:=∃v H',Inv X pins σ H' s'/\RelV v u/\Q v H'
noncomputable def TP (X:Cx)(pins:List (Addr×Obj))(σ:St)(Q:Bool->Hp->Prop)(b:Bool)(s':Shared):Prop:=∃H',Inv X pins σ H' s'/\Q b H'
noncomputable def AP (X:Cx)(pins:List (Addr×Obj))(σ:St)(Q:List V->Hp->Prop)(us:List Value)(s':Shared):Prop:=∃vs H',Inv X pins σ H' s'/\Vals vs us/\Q vs H'
noncomputable def SP (X:Cx)(pins:List (Addr×Obj))(D:Ends)(f:Flow)(s':Shared):Prop:=
 match f with
 |.next=>∃σ' H',Inv X pins σ' H' s'/\D.nx σ' H'
 |.brk=>∃σ' H',Inv X pins σ' H' s'/\D.bk σ' H'
 |.cont=>∃σ' H',Inv X pins σ' H' s'/\D.ct σ' H'
 |.ret u=>∃v σ' H',Inv X pins σ' H' s'/\RelV v u/\D.rt v H'
noncomputable def PE (X:Cx)(e:Expr)(t:TE):Prop:=
 ∀(pins:List (Addr×Obj)) (s:Shared) (σ:St) (H:Hp) (Q:VK),Inv X pins σ H s->t σ H Q->wpAny (model X.prog X.w) X.A (eval e X.env) (EP X pins σ Q) X.xe s
noncomputable def PT (X:Cx)(e:Expr)(t:TT):Prop:=
 ∀(pins:List (Addr×Obj)) (s:Shared) (σ:St) (H:Hp) (Q:Bool->Hp->Prop),Inv X pins σ H s->t σ H Q->wpAny (model X.prog X.w) X.A (isTrue e X.env (eval e X.env)) (TP X pins σ Q) X.xe s
noncomputable def PW (X:Cx)(e:Expr)(t:TT):Prop:=
 ∀(whole:Sem Value) (pins:List (Addr×Obj)) (s:Shared) (σ:St) (H:Hp) (Q:Bool->Hp->Prop),Inv X pins σ H s->t σ H Q->wpAny (model X.prog X.w) X.A (isTrue e X.env whole) (TP X pins σ Q) X.xe s
theorem PW.pt {X:Cx}{e:Expr}{t:TT}(h:PW X e t):PT X e t:=h _
noncomputable def PA (X:Cx)(es:List Expr)(t:TA):Prop:=
 ∀(pos:Pos) (pins:List (Addr×Obj)) (s:Shared) (σ:St) (H:Hp) (Q:List V->Hp->Prop),Inv X pins σ H s->t σ H Q->wpAny (model X.prog X.w) X.A (spliced (backTo pos (starEach es X.env))) (AP X pins σ Q) X.xe s
noncomputable def PS (X:Cx)(st:Stmt)(t:TS):Prop:=
 ∀(pins:List (Addr×Obj)) (s:Shared) (σ:St) (H:Hp) (D:Ends),Inv X pins σ H s->t D σ H->wpAny (model X.prog X.w) X.A (exec st X.env) (SP X pins D) X.xe s
noncomputable def PSs (X:Cx)(st:List Stmt)(t:TS):Prop:=
 ∀(pins:List (Addr×Obj)) (s:Shared) (σ:St) (H:Hp) (D:Ends),Inv X pins σ H s->t D σ H->wpAny (model X.prog X.w) X.A (execs st X.env) (SP X pins D) X.xe s
theorem thn {α:Type}{t:Sem α}{Q Q':α->Shared->Prop}{M:Model}{A:Around}{E:Value->Shared->Prop}{s:Shared}(h:wpAny M A t Q E s)(hQ:∀a s,Q a s->Q' a s):wpAny M A t Q' E s:=wpAny_mono h hQ fun _ _ x=>x
end L2
namespace L2
open PySem PySem.Spec PyProof.Rows
section
variable {X:Cx}
noncomputable def O4 (i:Nat):TE:=fun σ H Q=>∃v,σ[i]?=some (some v)/\Q v H
noncomputable def tC (v:V):TE:=fun _ H Q=>Q v H
theorem BP9 {i:Nat}{x:Str}{pos:Pos}(hN:X.N[i]?=some x)(hv:Vis X.env.scope x)(hd:(x==("__debug__":Str))=false:=by decide)(hcd:(x==("__classdict__":Str))=false:=by decide):PE X (.Name x pos) (O4 i):=by
 intro pins s σ H Q I h
 obtain⟨v,e,h⟩:=h
 obtain⟨m,hn,hl⟩:=I.loc
 obtain⟨u,r,l⟩:=hl i x v hN e hv
 have fin:EP X pins σ Q u s:=⟨v,H,I,r,h⟩
 rcases l with ⟨hk,hm⟩ |⟨hk,c,hc,hcell⟩
 ·exact wpAny_Name (wpAny_loadName_local I.ok.kind hk hn hm fin) hd
 ·rcases hk with hk |hk
  ·exact wpAny_Name (wpAny_loadName_cell I.ok.kind hk hc hcell fin) hd
  ·exact wpAny_Name (wpAny_loadName_free I.ok.kind hk hc hcell fin hcd) hd
theorem A9 {i j pos}:PE X (.Constant (.int i) j pos) (tC (.int i)):=fun _ _ _ H _ I h=>wpAny_Constant_int ⟨.int i,H,I.tok _,⟨_,rfl⟩,h⟩
theorem Ad5 {b j pos}:PE X (.Constant (.bool b) j pos) (tC (.bl b)):=fun _ _ _ H _ I h=>Constant_bool ⟨.bl b,H,I,rfl,h⟩
theorem AJ2 {j pos}:PE X (.Constant .none j pos) (tC .non):=fun _ _ _ H _ I h=>Constant_none ⟨.non,H,I,rfl,h⟩
theorem D9 {x j pos}:PE X (.Constant (.str x) j pos) (tC (.str x)):=fun _ _ _ H _ I h=>Calls.Constant_str ⟨.str x,H,I.tok _,⟨_,rfl⟩,h⟩
noncomputable def Gl (X:Cx)(x:Str):Prop:=X.env.kindOf x=some .globalImplicit
theorem AC2 {E:Value->Shared->Prop}{pins:List (Addr×Obj)}{s:Shared}{σ:St}{H:Hp}{x:Str}{u:Value}{pos:Pos}{Q:Value->Shared->Prop}(I:Inv X pins σ H s)(hg:Gl X x)(hm:X.mg x=some u)(h:Q u s)
  (hd:(x==("__debug__":Str))=false:=by decide):wpAny (model X.prog X.w) X.A (eval (.Name x pos) X.env) Q E s:=
 Calls.Name_function_global I.ok.kind hg (Calls.loadGlobal_global (by rw[I.ok.glob];exact I.mod.glob.keeps I.bk) hm h) hd
theorem AM1 {E:Value->Shared->Prop}{pins:List (Addr×Obj)}{s:Shared}{σ:St}{H:Hp}{x:Str}{u:Value}{pos:Pos}{Q:Value->Shared->Prop}(I:Inv X pins σ H s)(hg:Gl X x)(hm:X.mg x=none)(hv:bootBuiltins x=some u)(h:Q u s)
  (hn:x≠"__name__":=by decide) (hd:(x==("__debug__":Str))=false:=by decide):wpAny (model X.prog X.w) X.A (eval (.Name x pos) X.env) Q E s:=by
 obtain⟨mb,h1,h2⟩:=I.mod.blt
 exact Calls.Name_function_global I.ok.kind hg (Calls.loadGlobal_builtin (by rw[I.ok.glob];exact I.mod.glob.keeps I.bk) hm (by rw[I.ok.blt];exact h1.keeps I.bk) ((h2 x hn).trans hv) h) hd
theorem AP9 {x:Str}{v:V}{u:Value}{pos:Pos}(hg:Gl X x)(hm:X.mg x=some u)(r:RelV v u)(hd:(x==("__debug__":Str))=false:=by decide):PE X (.Name x pos) (tC v):=
 fun _ _ _ H _ I h=>AC2 I hg hm ⟨v,H,I,r,h⟩ hd
variable {a b:Expr} {ta tb:TE} {pos:Pos}
noncomputable def PC (X:Cx)(op:CmpOp)(a b:Expr)(t:TE):Prop:=
 ∀(pins:List (Addr×Obj)) (s:Shared) (σ:St) (H:Hp) (Q:VK),Inv X pins σ H s->t σ H Q->
  wpAny (model X.prog X.w) X.A (eval a X.env) (fun v s₁=>wpAny (model X.prog X.w) X.A (eval b X.env) (fun u s₂=>wpAny (model X.prog X.w) X.A (compareOp op v u) (EP X pins σ Q) X.xe s₂) X.xe s₁) X.xe s
noncomputable def tB (t:TE):TT:=fun σ H Q=>t σ H fun x H1=>∃c,x=.bl c/\Q c H1
theorem BR6 {op:CmpOp}{t:TE}(h:PC X op a b t)(h1:behindInMarks op b=false:=by first |exact nobehind _ (by decide) (by decide) |rfl):PE X (.Compare a [op] [b] pos) t:=fun pins s σ H Q I hw=>wpAny_Compare1 (h pins s σ H Q I hw) h1
theorem Af1 {op:CmpOp}{t:TE}(h:PC X op a b t)(h1:behindInMarks op b=false:=by first |exact nobehind _ (by decide) (by decide) |rfl):PT X (.Compare a [op] [b] pos) (tB t):=by
 intro pins s σ H Q I hw
 refine wpAny_isTrue_Compare1 (thn (h pins s σ H _ I hw) fun v s1 h1=>thn h1 fun u s2 h2=>thn h2 fun c s3 ⟨x,H1,I1,r1,q1⟩=>?_) h1
 obtain⟨d,rfl,q⟩:=q1
 cases r1
 exact wpAny_truthy_bool ⟨H1,I1,q⟩
theorem S9 {e:Expr}{t:TE}(h:PE X e t)(he:∀whole,isTrue e X.env whole=(do let v ←whole;standAt e.pos;holding [v] (truthy v)):=by intro _;rfl):PT X e (tB t):=by
 intro pins s σ H Q I hw
 refine isTrue_plain (thn (h pins s σ H _ I hw) fun v s1 ⟨x,H1,I1,r1,q1⟩=>?_) (he _)
 obtain⟨d,rfl,q⟩:=q1
 cases r1
 exact wpAny_truthy_bool ⟨H1,I1,q⟩
variable {tA tB':TT} {rest:List Expr}
noncomputable def BZ6 (t u:TT):TT:=fun σ H Q=>t σ H fun c H1=>if c=true then u σ H1 Q else Q false H1
noncomputable def tOr (t u:TT):TT:=fun σ H Q=>t σ H fun c H1=>if c=true then Q true H1 else u σ H1 Q
noncomputable def Bb9 (t:TT):TT:=fun σ H Q=>t σ H fun c H1=>Q (!c) H1
theorem T7 (ha:PT X a tA):PW X (.BoolOp .And [a] pos) tA:=by
 intro wh pins s σ H Q I h
 refine isTrue_and (thn (ha pins s σ H Q I h) fun c s1 e=>?_)
 cases c with
 |true=>exact isTrue_and_nil e
 |false=>exact e
theorem A30 (ha:PT X a tA):PW X (.BoolOp .Or [a] pos) tA:=by
 intro wh pins s σ H Q I h
 refine isTrue_or (thn (ha pins s σ H Q I h) fun c s1 e=>?_)
 cases c with
 |false=>exact isTrue_or_nil e
 |true=>exact e
theorem e8 (ha:PT X a tA)(hb:PW X (.BoolOp .And (b::rest) pos) tB'):PW X (.BoolOp .And (a::b::rest) pos) (BZ6 tA tB'):=by
 intro wh pins s σ H Q I h
 refine isTrue_and (thn (ha pins s σ H _ I h) fun c s1 ⟨H1,I1,q1⟩=>?_)
 cases c with
 |true=>exact hb wh pins s1 σ H1 Q I1 q1
 |false=>exact⟨H1,I1,q1⟩
theorem BK4 (ha:PT X a tA)(hb:PW X (.BoolOp .Or (b::rest) pos) tB'):PW X (.BoolOp .Or (a::b::rest) pos) (tOr tA tB'):=by
 intro wh pins s σ H Q I h
 refine isTrue_or (thn (ha pins s σ H _ I h) fun c s1 ⟨H1,I1,q1⟩=>?_)
 cases c with
 |true=>exact⟨H1,I1,q1⟩
 |false=>exact hb wh pins s1 σ H1 Q I1 q1
theorem BL3 (ha:PT X a tA):PT X (.UnaryOp .Not a pos) (Bb9 tA):=by
 intro pins s σ H Q I h
 exact isTrue_not (ha pins s σ H (fun c H1=>Q (!c) H1) I h)
noncomputable def BN2 (ta tb:TE):TE:=fun σ H Q=>ta σ H fun x H1=>∃c,x=.bl c/\if c=true then tb σ H1 Q else Q (.bl false) H1
noncomputable def Bc0 (ta tb:TE):TE:=fun σ H Q=>ta σ H fun x H1=>∃c,x=.bl c/\if c=true then Q (.bl true) H1 else tb σ H1 Q
theorem AA1 {op}{t:TE}(h:PE X a t):PE X (.BoolOp op [a] pos) t:=fun pins s σ H Q I hw=>BoolOp_one (h pins s σ H Q I hw)
theorem AU5 (ha:PE X a ta)(hb:PE X (.BoolOp .And (b::rest) pos) tb):PE X (.BoolOp .And (a::b::rest) pos) (BN2 ta tb):=by
 intro pins s σ H Q I h
 refine BoolOp_and (thn (ha pins s σ H _ I h) fun v s1 ⟨x,H1,I1,r1,q1⟩=>?_)
 obtain⟨c,rfl,q1⟩:=q1
 cases r1
 refine wpAny_truthy_bool ?_
 cases c with
 |true=>exact hb pins s1 σ H1 Q I1 q1
 |false=>exact⟨.bl false,H1,I1,rfl,q1⟩
theorem Al0 (ha:PE X a ta)(hb:PE X (.BoolOp .Or (b::rest) pos) tb):PE X (.BoolOp .Or (a::b::rest) pos) (Bc0 ta tb):=by
 intro pins s σ H Q I h
 refine BoolOp_or (thn (ha pins s σ H _ I h) fun v s1 ⟨x,H1,I1,r1,q1⟩=>?_)
 obtain⟨c,rfl,q1⟩:=q1
 cases r1
 refine wpAny_truthy_bool ?_
 cases c with
 |false=>exact hb pins s1 σ H1 Q I1 q1
 |true=>exact⟨.bl true,H1,I1,rfl,q1⟩
noncomputable def tIf (t:TT)(ta tb:TE):TE:=fun σ H Q=>t σ H fun c H1=>if c=true then ta σ H1 Q else tb σ H1 Q
theorem Y2 {c:Expr}(hc:PT X c tA)(ha:PE X a ta)(hb:PE X b tb):PE X (.IfExp c a b pos) (tIf tA ta tb):=by
 intro pins s σ H Q I h
 refine wpAny_IfExp (thn (hc pins s σ H _ I h) fun d s1 ⟨H1,I1,q1⟩=>?_)
 cases d with
 |true=>exact ha pins s1 σ H1 Q I1 q1
 |false=>exact hb pins s1 σ H1 Q I1 q1
end
end L2
namespace L2
open PySem PySem.Spec PyProof.Rows
noncomputable def SqL (K:PySem.W.Frag)(H:Hp)(a:Addr)(xs:List V):Prop:=
 Rd H a (.lst xs)∨
  ∃(o:Obj) (its:Array Value) (n:Nat),K.lookup a=some o/\o.cls=.type "list"/\o.dict=none/\o.data=.seq its n/\its.size<=sizeLine/\Vals xs its.toList
noncomputable def SqT (K:PySem.W.Frag)(H:Hp)(a:Addr)(xs:List V):Prop:=
 Rd H a (.tup xs)∨
  ∃(o:Obj) (its:Array Value) (n:Nat),K.lookup a=some o/\o.cls=.type "tuple"/\o.data=.seq its n/\its.size<=sizeLine/\Vals xs its.toList
noncomputable def A35:Value->Option V
 |.none=>some .non
 |.bool b=>some (.bl b)
 |.int i _=>some (.int i)
 |.str x _=>some (.str x)
 |.bytes b _=>some (.byt b)
 |.float b _=>some (.flt b)
 |.ref a=>some (.ref a)
 |.type n=>some (.ty n)
 |_=>none
theorem RelV.abs {x:V}{u:Value}(r:RelV x u):A35 u=some x:=by
 cases x with
 |non=>cases r;rfl
 |bl _=>cases r;rfl
 |int _=>obtain⟨t,rfl⟩:=r;rfl
 |str _=>obtain⟨t,rfl⟩:=r;rfl
 |byt _=>obtain⟨t,rfl⟩:=r;rfl
 |flt _=>obtain⟨t,rfl⟩:=r;rfl
 |ref _=>cases r;rfl
 |ty _=>cases r;rfl
theorem RelV.inj {x y:V}{u:Value}(r:RelV x u)(q:RelV y u):x=y:=Option.some.inj (r.abs.symm.trans q.abs)
theorem Vals.inj:∀{xs ys:List V} {us:List Value},Vals xs us->Vals ys us->xs=ys
 |_,_,_,.nil,.nil=>rfl
 |_,_,_,.cons r t,.cons r' t'=>by rw[r.inj r',Vals.inj t t']
section
variable {X:Cx} {pins:List (Addr×Obj)} {σ:St} {H:Hp} {s:Shared} {a:Addr} {xs ys:List V}
theorem SqL.of {K:PySem.W.Frag}(h:H a=some (.lst xs)):SqL K H a xs:=.inl (.inl h)
theorem SqT.of {K:PySem.W.Frag}(h:H a=some (.tup xs)):SqT K H a xs:=.inl (.inl h)
theorem Inv.list (I:Inv X pins σ H s)(h:SqL X.K H a xs):∃its:List Value,Vals xs its/\PlainL s.heap a its.toArray/\xs.length<=sizeLine:=by
 rcases h with h |⟨o,its,n,hk,hc,hd,hs,hz,r⟩
 ·obtain⟨z,its,n,r,e⟩:=h.ok I.hok
  exact⟨its,r,⟨_,n,e,rfl,rfl,rfl⟩,z⟩
 ·refine⟨its.toList,r,⟨o,n,I.kIn a o hk,hc,hd,by simpa using hs⟩,?_⟩
  have e:=r.length
  simp only[Array.length_toList]at e
  omega
theorem Inv.tuple (I:Inv X pins σ H s)(h:SqT X.K H a xs):∃its:List Value,Vals xs its/\IsTup s.heap a its.toArray/\xs.length<=sizeLine:=by
 rcases h with h |⟨o,its,n,hk,hc,hs,hz,r⟩
 ·obtain⟨z,its,r,p⟩:=h.ok I.hok
  exact⟨its,r,p,z⟩
 ·refine⟨its.toList,r,⟨o,I.kIn a o hk,hc,n,by simpa using hs⟩,?_⟩
  have e:=r.length
  simp only[Array.length_toList]at e
  omega
theorem Inv.list_inj (I:Inv X pins σ H s)(h:SqL X.K H a xs)(h':SqL X.K H a ys):xs=ys:=by
 obtain⟨its,r,⟨o,n,e,_,_,d⟩,_⟩:=I.list h
 obtain⟨its',r',⟨o',n',e',_,_,d'⟩,_⟩:=I.list h'
 rw[e]at e';cases e'
 rw[d]at d'
 injection d' with d1 _
 have:its=its':=by simpa using congrArg Array.toList d1
 subst this
 exact r.inj r'
theorem Inv.tuple_inj (I:Inv X pins σ H s)(h:SqT X.K H a xs)(h':SqT X.K H a ys):xs=ys:=by
 obtain⟨its,r,⟨o,e,_,n,d⟩,_⟩:=I.tuple h
 obtain⟨its',r',⟨o',e',_,n',d'⟩,_⟩:=I.tuple h'
 rw[e]at e';cases e'
 rw[d]at d'
 injection d' with d1 _
 have:its=its':=by simpa using congrArg Array.toList d1
 subst this
 exact r.inj r'
end
noncomputable abbrev Cx.wish (X:Cx)(E:Value->Shared->Prop):Cx:={X with xe:=E}
noncomputable abbrev Cx.nox (X:Cx):Cx:=X.wish fun _ _=>False
theorem Cx.Ok.wish {X:Cx}(ok:X.Ok)(E:Value->Shared->Prop):(X.wish E).Ok:=
 ⟨ok.mod,ok.kind,ok.glob,ok.blt,ok.above,ok.inj,ok.has,ok.cab,ok.hd,ok.frames,ok.stk,ok.exf,ok.bs,ok.bsz,ok.noex,ok.exfs,ok.funs,ok.frf⟩
theorem Cx.Ok.unwish {X:Cx}{E:Value->Shared->Prop}(ok:(X.wish E).Ok):X.Ok:=
 ⟨ok.mod,ok.kind,ok.glob,ok.blt,ok.above,ok.inj,ok.has,ok.cab,ok.hd,ok.frames,ok.stk,ok.exf,ok.bs,ok.bsz,ok.noex,ok.exfs,ok.funs,ok.frf⟩
section
variable {X:Cx} {pins:List (Addr×Obj)} {σ:St} {H:Hp} {s:Shared} {E:Value->Shared->Prop}
theorem Inv.wish (I:Inv X pins σ H s)(E:Value->Shared->Prop):Inv (X.wish E) pins σ H s:=⟨I.ok.wish E,I.os,I.bare,I.base,I.loc,I.cell,I.free,I.freeC,I.pin,I.hok,I.len⟩
theorem Inv.unwish (I:Inv (X.wish E) pins σ H s):Inv X pins σ H s:=⟨I.ok.unwish,I.os,I.bare,I.base,I.loc,I.cell,I.free,I.freeC,I.pin,I.hok,I.len⟩
theorem SP.unwish {D:Ends}{f:Flow}{s':Shared}(h:SP (X.wish E) pins D f s'):SP X pins D f s':=by
 cases f with
 |next=>obtain⟨σ',H',I,q⟩:=h;exact⟨σ',H',I.unwish,q⟩
 |brk=>obtain⟨σ',H',I,q⟩:=h;exact⟨σ',H',I.unwish,q⟩
 |cont=>obtain⟨σ',H',I,q⟩:=h;exact⟨σ',H',I.unwish,q⟩
 |ret u=>obtain⟨v,σ',H',I,r,q⟩:=h;exact⟨v,σ',H',I.unwish,r,q⟩
theorem PSs.nox {st:List Stmt}{t:TS}(h:PSs X.nox st t):PSs X st t:=fun pins s σ H D I hw=>
 wpAny_mono (h pins s σ H D (I.wish _) hw) (fun _ _ q=>q.unwish) fun _ _ z=>False.elim z
end
section
variable {X:Cx} {st:Stmt} {rest:List Stmt} {t u:TS} {e:Expr} {te:TE} {pos:Pos}
noncomputable def Aq4:TS:=fun D σ H=>D.nx σ H
noncomputable def Ab2 (t u:TS):TS:=fun D σ H=>t {D with nx:=u D} σ H
theorem C4:PSs X [] Aq4:=fun _ _ σ H _ I h=>wpAny_execs_nil ⟨σ,H,I,h⟩
theorem A2 (h1:PS X st t)(h2:PSs X rest u):PSs X (st::rest) (Ab2 t u):=by
 intro pins s σ H D I h
 refine wpAny_execs_cons (thn (h1 pins s σ H {D with nx:=u D} I h) fun f s1 q=>?_)
 cases f with
 |next=>
  obtain⟨σ',H',I',q⟩:=q
  exact h2 pins s1 σ' H' D I' q
 |ret v=>exact q
 |brk=>exact q
 |cont=>exact q
theorem A4 (h1:PS X st t):PSs X [st] t:=by
 intro pins s σ H D I h
 refine wpAny_execs_cons (thn (h1 pins s σ H D I h) fun f s1 q=>?_)
 cases f with
 |next=>exact wpAny_execs_nil q
 |ret v=>exact q
 |brk=>exact q
 |cont=>exact q
theorem Inv.quiet {pins:List (Addr×Obj)}{σ:St}{H:Hp}{s:Shared}(I:Inv X pins σ H s):interactive X.env=false:=by simp[interactive,I.ok.kind]
noncomputable def As0 (te:TE):TS:=fun D σ H=>te σ H fun _ H1=>D.nx σ H1
theorem E8 (he:PE X e te)(hs:swapsWith e none pos.line X.env=pure false:=by rfl):PS X (.Expr e pos) (As0 te):=by
 intro pins s σ H D I h
 exact wpAny_Expr_any (thn (he pins s σ H _ I h) fun v s1 ⟨x,H1,I1,r1,q1⟩=>⟨σ,H1,I1,q1⟩) I.quiet hs
noncomputable def BF4 (te:TE):TS:=fun D σ H=>te σ H D.rt
theorem B7 (he:PE X e te):PS X (.Return (some e) pos) (BF4 te):=by
 intro pins s σ H D I h
 exact wpAny_Return_some (thn (he pins s σ H _ I h) fun v s1 ⟨x,H1,I1,r1,q1⟩=>⟨x,σ,H1,I1,r1,q1⟩)
noncomputable def BY3:TS:=fun D _ H=>D.rt .non H
theorem BE9:PS X (.Return none pos) BY3:=fun _ _ σ H _ I h=>wpAny_Return_none ⟨.non,σ,H,I,rfl,h⟩
noncomputable def BR1 (c:TT)(t u:TS):TS:=fun D σ H=>c σ H fun b H1=>if b=true then t D σ H1 else u D σ H1
theorem E2 {c:Expr}{a b:List Stmt}{tc:TT}(hc:PT X c tc)(ha:PSs X a t)(hb:PSs X b u):PS X (.If c a b pos) (BR1 tc t u):=by
 intro pins s σ H D I h
 refine wpAny_If (thn (hc pins s σ H _ I h) fun d s1 ⟨H1,I1,q1⟩=>?_)
 cases d with
 |true=>exact ha pins s1 σ H1 D I1 q1
 |false=>exact hb pins s1 σ H1 D I1 q1
end
noncomputable abbrev TG:=V->St->Hp->(St->Hp->Prop)->Prop
noncomputable def PG (X:Cx)(target:Expr)(t:TG):Prop:=
 ∀(pins:List (Addr×Obj)) (s:Shared) (σ:St) (H:Hp) (v:V) (u:Value) (Q:St->Hp->Prop),Inv X pins σ H s->RelV v u->t v σ H Q->
  wpAny (model X.prog X.w) X.A (assign target X.env u) (fun _ s'=>∃σ' H',Inv X pins σ' H' s'/\Q σ' H') X.xe s
noncomputable abbrev TIp:=V->V->Hp->VK->Prop
noncomputable def PIp (X:Cx)(op:Operator)(t:TIp):Prop:=
 ∀(pins:List (Addr×Obj)) (s:Shared) (σ:St) (H:Hp) (x y:V) (v u:Value) (Q:VK),Inv X pins σ H s->RelV x v->RelV y u->t x y H Q->
  wpAny (model X.prog X.w) X.A (inplaceOp op v u) (EP X pins σ Q) X.xe s
section
variable {X:Cx} {pos:Pos}
noncomputable def AO1 (i:Nat):TG:=fun v σ H Q=>Q (σ.set i (some v)) H
theorem K9 {i:Nat}{x:Str}(hN:X.N.Nodup)(hi:X.N[i]?=some x)(hx:Loc X.env.scope x)(hf:X.fn x=true∨X.env.scope.names.lookup x=some .local:=by first |exact .inl rfl |exact .inr rfl |assumption):PG X (.Name x pos) (AO1 i):=by
 intro pins s σ H v u Q I r h
 exact wpAny_assign_Name (AG5 I hN hi hx r (fun s' I'=>⟨_,H,I',h⟩) hf)
noncomputable def BT2 (te:TE)(g:TG):TS:=fun D σ H=>te σ H fun x H1=>g x σ H1 D.nx
theorem C8 {i:Nat}{x:Str}{e:Expr}{te:TE}{pos':Pos}(hN:X.N.Nodup)(hi:X.N[i]?=some x)(hx:Loc X.env.scope x)(he:PE X e te)(hs:swapsWith e (some (.Name x pos')) pos.line X.env=pure false:=by rfl)(hf:X.fn x=true∨X.env.scope.names.lookup x=some .local:=by first |exact .inl rfl |exact .inr rfl |assumption):
  PS X (.Assign [.Name x pos'] e pos) (BT2 te (AO1 i)):=by
 intro pins s σ H D I h
 refine wpAny_Assign_Name (thn (he pins s σ H _ I h) fun v s1 ⟨y,H1,I1,r1,q1⟩=>?_) hs
 exact AG5 I1 hN hi hx r1 (fun s2 I2=>⟨_,H1,I2,q1⟩) hf
noncomputable def Bb4 (i:Nat)(te:TE)(ti:TIp):TS:=fun D σ H=>∃x,σ[i]?=some (some x)/\te σ H fun y H1=>ti x y H1 fun z H2=>D.nx (σ.set i (some z)) H2
theorem AK4 {i:Nat}{x:Str}{e:Expr}{te:TE}{op:Operator}{ti:TIp}{pos':Pos}(hN:X.N.Nodup)(hi:X.N[i]?=some x)(hx:Loc X.env.scope x)(he:PE X e te)(ho:PIp X op ti)(hf:X.fn x=true∨X.env.scope.names.lookup x=some .local:=by first |exact .inl rfl |exact .inr rfl |assumption):
  PS X (.AugAssign (.Name x pos') op e pos) (Bb4 i te ti):=by
 intro pins s σ H D I h
 obtain⟨v,e1,h⟩:=h
 obtain⟨m,hn,hl⟩:=I.loc
 have vis:Vis X.env.scope x:=by rcases hx with k |k;exact .inl k;exact .inr (.inl k)
 obtain⟨u,r,l⟩:=hl i x v hi e1 vis
 refine wpAny_AugAssign_Name ?_
 have go:wpAny (model X.prog X.w) X.A (eval e X.env) (fun w s₂=>wpAny (model X.prog X.w) X.A (inplaceOp op u w) (fun r s₃=>wpAny (model X.prog X.w) X.A (storeName X.env x r) (fun _=>SP X pins D .next) X.xe s₃) X.xe s₂) X.xe s:=by
  refine thn (he pins s σ H _ I h) fun w s1 ⟨y,H1,I1,r1,q1⟩=>?_
  refine thn (ho pins s1 σ H1 v y u w _ I1 r r1 q1) fun z s2 ⟨zv,H2,I2,r2,q2⟩=>?_
  exact AG5 I2 hN hi hx r2 (fun s3 I3=>⟨_,H2,I3,q2⟩) hf
 rcases l with ⟨hk,hm⟩ |⟨hk,c,hc,hcell⟩
 ·exact wpAny_loadName_local I.ok.kind hk hn hm go
 ·rcases hk with hk |hk
  ·exact wpAny_loadName_cell I.ok.kind hk hc hcell go
  ·rcases hx with k |k
   ·have:X.env.scope.names.lookup x=some .free:=hk
    rw[k]at this;cases this
   ·have:X.env.scope.names.lookup x=some .free:=hk
    rw[k]at this;cases this
noncomputable def ipI (f:Int->Int->Int):TIp:=fun x y H Q=>∃i j,x=.int i/\y=.int j/\Q (.int (f i j)) H
theorem r9:PIp X .Add (ipI fun i j=>i+j):=by
 intro pins s σ H x y v u Q I r1 r2 h
 obtain⟨i,j,e1,e2,q⟩:=h
 subst e1;subst e2
 obtain⟨t,rfl⟩:=r1
 obtain⟨t',rfl⟩:=r2
 exact iadd_int ⟨.int _,H,I.tok _,⟨_,rfl⟩,q⟩
end
section
variable {X:Cx} {pos:Pos}
noncomputable def BL0 (c:TT)(tb:TS):TS:=fun D σ H=>∃W:Nat->St->Hp->Prop,(∃m,W m σ H)/\∀m σ H,W m σ H->
 c σ H fun b H1=>if b=true then ∃N:St->Hp->Prop,(∀σ' H',N σ' H'->∃m',m'<m/\W m' σ' H')/\tb {D with nx:=N,ct:=N,bk:=D.nx} σ H1 else D.nx σ H1
theorem M9 {c:Expr}{body:List Stmt}{tc:TT}{tb:TS}(hp:PassesOwn (model X.prog X.w) X.A X.env X.xe)(hc:PT X c tc)(hb:PSs X body tb):PS X (.While c body [] pos) (BL0 tc tb):=by
 intro pins s σ H D I h
 obtain⟨W,⟨m0,w0⟩,turn⟩:=h
 refine wpAny_While (codeAny_whileLoop (fun n s'=>∃σ' H',Inv X pins σ' H' s'/\W n σ' H') ?_ m0 ⟨σ,H,I,w0⟩)
 rintro n s1 ⟨σ1,H1,I1,w1⟩
 refine wpAny_passesOwn hp (thn (hc pins s1 σ1 H1 _ I1 (turn n σ1 H1 w1)) fun b s2 ⟨H2,I2,q2⟩=>?_)
 cases b with
 |true=>
  obtain⟨N,hN,q2⟩:=q2
  rw[if_pos rfl]
  refine wpAny_passesOwn hp (thn (hb pins s2 σ1 H2 _ I2 q2) fun f s3 q3=>?_)
  cases f with
  |next=>
   obtain⟨σ3,H3,I3,n3⟩:=q3
   obtain⟨m',hm,w3⟩:=hN σ3 H3 n3
   exact⟨m',hm,σ3,H3,I3,w3⟩
  |cont=>
   obtain⟨σ3,H3,I3,n3⟩:=q3
   obtain⟨m',hm,w3⟩:=hN σ3 H3 n3
   exact⟨m',hm,σ3,H3,I3,w3⟩
  |brk=>exact q3
  |ret v=>exact q3
 |false=>
  rw[if_neg Bool.false_ne_true]
  exact wpAny_execs_nil ⟨σ1,H2,I2,q2⟩
end
structure It where
 go:Nat->Hp->Prop
 yld:Nat->Hp->V->Hp->Prop
 stop:Nat->Hp->Prop
noncomputable def FpOk (X:Cx)(pins:List (Addr×Obj))(H:Hp)(b:Addr):Prop:=
 H b=none/\b≠X.env.locals/\b∉X.fs/\(b∈X.ex∨X.s_0.heap.objs.size<=b)/\(∀x c,X.env.cells.lookup x=some c->c≠b)/\∀p∈X.pn++pins,p.1≠b
theorem Inv.fpOk {X:Cx}{pins:List (Addr×Obj)}{σ:St}{H H':Hp}{s:Shared}{b:Addr}(I:Inv X pins σ H s)(hb:s.heap.objs.size<=b)(hn:H' b=none):FpOk X pins H' b:=by
 refine⟨hn,Nat.ne_of_gt (Nat.lt_of_lt_of_le I.lt hb),I.nofs hb,.inr (Nat.le_trans I.sz hb),fun x c e z=>?_,fun p hp z=>?_⟩
 ·obtain⟨v,q⟩:=I.cell x c e
  exact absurd (Nat.lt_of_lt_of_le q.lt (by rw[z];exact hb)) (Nat.lt_irrefl _)
 ·exact absurd (Nat.lt_of_lt_of_le (Heap.lt_size (I.pin p hp).1) (by rw[z];exact hb)) (Nat.lt_irrefl _)
structure BG9 (P:Program)(w:World)(K:PySem.W.Frag)(tg:Expr)(J:It)(fp:List Addr)(it:Addr)(tn:Nat->Heap->Prop):Prop where
 mem:it∈fp
 obj:∀i h,tn i h->∀b∈fp,∃o,h.get? b=some o/\∀v,o.data≠.cell v
 keep:∀i h h',tn i h->(∀b∈fp,∀o,h.get? b=some o->h'.get? b=some o)->tn i h'
 item:∀(X:Cx),X.prog=P->X.w=w->X.K=K->X.calm=true->∀(i:Nat) (pins:List (Addr×Obj)) (s:Shared) (σ:St) (H:Hp) (E:Value->Shared->Prop),Inv X pins σ H s->(∀b∈fp,FpOk X pins H b)->tn i s.heap->J.go i H->
  wpAny (model P w) X.A (pyNext (.ref it)) (fun r s1=>∃u,r=some u/\
   wpAny (model P w) X.A (letOwnedTupleGo tg (.ref it) u) (fun _ s2=>∃x H',Inv X pins σ H' s2/\RelV x u/\J.yld i H x H'/\tn (i+1) s2.heap/\∀b∈fp,H' b=none) E s1) E s
 done:∀(X:Cx),X.prog=P->X.w=w->X.K=K->X.calm=true->∀(i:Nat) (pins:List (Addr×Obj)) (s:Shared) (σ:St) (H:Hp) (E:Value->Shared->Prop),Inv X pins σ H s->(∀b∈fp,FpOk X pins H b)->tn i s.heap->J.stop i H->
  wpAny (model P w) X.A (pyNext (.ref it)) (fun r s1=>r=none/\Inv X pins σ H s1) E s
 self:∀(A:Around) (i:Nat) (s:Shared) (Q:Value->Shared->Prop) (E:Value->Shared->Prop),tn i s.heap->Q (.ref it) s->wpAny (model P w) A (pyIter (.ref it)) Q E s
noncomputable abbrev TI:=St->Hp->(It->Hp->Prop)->Prop
noncomputable def PIE (X:Cx)(pins:List (Addr×Obj))(σ:St)(tg:Expr)(R:It->Hp->Prop)(itv:Value)(s2:Shared):Prop:=
 ∃(it:Addr) (fp:List Addr) (tn:Nat->Heap->Prop) (J:It) (H':Hp),itv=.ref it/\Inv X pins σ H' s2/\BG9 X.prog X.w X.K tg J fp it tn/\tn 0 s2.heap/\(∀b∈fp,FpOk X pins H' b)/\R J H'
noncomputable def PI (X:Cx)(tg iter:Expr)(wi:TI):Prop:=
 ∀(pins:List (Addr×Obj)) (s:Shared) (σ:St) (H:Hp) (R:It->Hp->Prop),Inv X pins σ H s->wi σ H R->
  wpAny (model X.prog X.w) X.A (eval iter X.env) (fun v s1=>wpAny (model X.prog X.w) X.A (pyIter v) (PIE X pins σ tg R) X.xe s1) X.xe s
theorem Ax6 {M:Model}{A:Around}{E:Value->Shared->Prop}{s:Shared}{tg:Expr}{it:Addr}{u:Value}{o:Obj}{n:String}{vs:Array Value}{Q:Unit->Shared->Prop}(ho:s.heap.get? it=some o)(hc:o.cls=.type n)(hd:o.data=.fields vs)
  (hn:["enumerate","zip","dict_itemiterator","dict_reverseitemiterator","odict_iterator","itertools.zip_longest","itertools.pairwise"].contains n=false) (hQ:Q () s):wpAny M A (letOwnedTupleGo tg (.ref it) u) Q E s:=by
 unfold letOwnedTupleGo
 cases tg<;>first
  |exact wpAny_pure hQ
  |(cases u<;>first
    |exact wpAny_pure hQ
    |(refine wpAny_bind (wpAny_load ho ?_)
      rw[hc,hd]
      show wpAny M A (if(["enumerate","zip","dict_itemiterator","dict_reverseitemiterator","odict_iterator","itertools.zip_longest","itertools.pairwise"].contains n&&vs[0]?==some (rawInt _))=true then _ else _) Q E s
      rw[if_neg (by intro h;rw[hn,Bool.false_and]at h;cases h)]
      exact wpAny_pure hQ))
noncomputable def Itl (K:PySem.W.Frag)(a:Addr):It:=
 ⟨fun i H=>∃xs x,SqL K H a xs/\xs[i]?=some x,fun i H x H'=>H'=H/\∀xs,SqL K H a xs->xs[i]?=some x,fun i H=>∃xs,SqL K H a xs/\xs.length<=i⟩
noncomputable def Itt (K:PySem.W.Frag)(a:Addr):It:=
 ⟨fun i H=>∃xs x,SqT K H a xs/\xs[i]?=some x,fun i H x H'=>H'=H/\∀xs,SqT K H a xs->xs[i]?=some x,fun i H=>∃xs,SqT K H a xs/\xs.length<=i⟩
theorem Ao5 {P:Program}{w:World}{K:PySem.W.Frag}{tg:Expr}(a it:Addr):BG9 P w K tg (Itl K a) [it] it (fun i h=>h.IsListIter it a i) where
 mem:=by simp
 obj:=fun i h st b hb=>by
  have e:b=it:=by simpa using hb
  subst e
  obtain⟨o,e,c,d⟩:=st
  exact⟨o,e,fun v z=>by rw[d]at z;cases z⟩
 keep:=fun i h h' st k=>st.at fun o e=>k it (by simp) o e
 item:=by
  intro X hP hw hK hc i pins s σ H E I hf st hg
  subst hP hw hK
  obtain⟨xs,x,hq,hx⟩:=hg
  obtain⟨its,rv,p,hz⟩:=I.list hq
  obtain⟨u,hu,ru⟩:=rv.get hx
  obtain⟨f0,f1,f2,f3,f4,f5⟩:=hf it (by simp)
  refine wpAny_pyNext_list_item st p.isList (x:=u) (by simpa using hu) fun h' st' sb=>?_
  have I1:Inv X pins σ H {s with heap:=h'}:=I.turned (t':=s.toks) (fun b o hb e=>(sb.2 b hb).trans e) f0 f1 f3 f4 f5
  obtain⟨o,e,c,d⟩:=id st'
  exact⟨u,rfl,Ax6 (s:={s with heap:=h'}) e c d (by decide) ⟨x,H,I1,ru,⟨rfl,fun ys hy=>by rw[I.list_inj hy hq];exact hx⟩,st',fun b hb=>(hf b hb).1⟩⟩
 done:=by
  intro X hP hw hK hc i pins s σ H E I hf st hg
  subst hP hw hK
  obtain⟨xs,hq,hx⟩:=hg
  obtain⟨its,rv,p,hz⟩:=I.list hq
  obtain⟨f0,f1,f2,f3,f4,f5⟩:=hf it (by simp)
  have hl:=rv.length
  exact wpAny_pyNext_list_end (I.ok.hd hc) st p.isList (by simp;omega) fun h' eb=>⟨rfl,I.turned (t':=s.toks) (fun b o hb e=>eb b o hb e) f0 f1 f3 f4 f5⟩
 self:=fun _ _ _ _ _ st h=>wpAny_pyIter_listiter st h
theorem AX3 {P:Program}{w:World}{K:PySem.W.Frag}{tg:Expr}(a it:Addr):BG9 P w K tg (Itt K a) [it] it (fun i h=>h.IsTupleIter it a i) where
 mem:=by simp
 obj:=fun i h st b hb=>by
  have e:b=it:=by simpa using hb
  subst e
  obtain⟨o,e,c,d⟩:=st
  exact⟨o,e,fun v z=>by rw[d]at z;cases z⟩
 keep:=fun i h h' st k=>st.at fun o e=>k it (by simp) o e
 item:=by
  intro X hP hw hK hc i pins s σ H E I hf st hg
  subst hP hw hK
  obtain⟨xs,x,hq,hx⟩:=hg
  obtain⟨its,rv,p,hz⟩:=I.tuple hq
  obtain⟨u,hu,ru⟩:=rv.get hx
  obtain⟨f0,f1,f2,f3,f4,f5⟩:=hf it (by simp)
  refine wpAny_pyNext_tuple_item st (show s.heap.IsTuple a its.toArray from p) (x:=u) (by simpa using hu) fun h' st' sb=>?_
  have I1:Inv X pins σ H {s with heap:=h'}:=I.turned (t':=s.toks) (fun b o hb e=>(sb.2 b hb).trans e) f0 f1 f3 f4 f5
  obtain⟨o,e,c,d⟩:=id st'
  exact⟨u,rfl,Ax6 (s:={s with heap:=h'}) e c d (by decide) ⟨x,H,I1,ru,⟨rfl,fun ys hy=>by rw[I.tuple_inj hy hq];exact hx⟩,st',fun b hb=>(hf b hb).1⟩⟩
 done:=by
  intro X hP hw hK hc i pins s σ H E I hf st hg
  subst hP hw hK
  obtain⟨xs,hq,hx⟩:=hg
  obtain⟨its,rv,p,hz⟩:=I.tuple hq
  obtain⟨f0,f1,f2,f3,f4,f5⟩:=hf it (by simp)
  have hl:=rv.length
  exact wpAny_pyNext_tuple_end (I.ok.hd hc) st (show s.heap.IsTuple a its.toArray from p) (by simp;omega) fun h' eb=>⟨rfl,I.turned (t':=s.toks) (fun b o hb e=>eb b o hb e) f0 f1 f3 f4 f5⟩
 self:=fun _ _ _ _ _ st h=>wpAny_pyIter_tupleiter st h
end L2
namespace L2
open PySem PySem.Spec PyProof.Rows
section
variable {X:Cx} {tg:Expr}
noncomputable def BO5 (K:PySem.W.Frag)(tl:TE):TI:=fun σ H R=>tl σ H fun x H1=>∃a,x=.ref a/\(∃xs,SqL K H1 a xs)/\R (Itl K a) H1
noncomputable def Be3 (K:PySem.W.Frag)(tl:TE):TI:=fun σ H R=>tl σ H fun x H1=>∃a,x=.ref a/\(∃xs,SqT K H1 a xs)/\R (Itt K a) H1
theorem T3 {l:Expr}{tl:TE}(hl:PE X l tl):PI X tg l (BO5 X.K tl):=by
 intro pins s σ H R I h
 refine thn (hl pins s σ H _ I h) fun v s1 ⟨x,H1,I1,r1,q1⟩=>?_
 obtain⟨a,e,⟨xs,hq⟩,q⟩:=q1
 subst e
 cases r1
 obtain⟨its,rv,p,hz⟩:=I1.list hq
 refine wpAny_pyIter_list p.isList ?_
 refine⟨s1.heap.objs.size,[s1.heap.objs.size],_,_,H1,rfl,I1.kept (t':=s1.toks) fun b o e=>Heap.get?_push_of_some _ e,Ao5 a _,⟨_,Heap.get?_push_size _ rfl,rfl,rfl⟩,fun b hb=>?_,q⟩
 have e:b=s1.heap.objs.size:=by simpa using hb
 subst e
 exact I1.fpOk (Nat.le_refl _) (I1.hok.fresh (Nat.le_refl _))
theorem Ai0 {l:Expr}{tl:TE}(hl:PE X l tl):PI X tg l (Be3 X.K tl):=by
 intro pins s σ H R I h
 refine thn (hl pins s σ H _ I h) fun v s1 ⟨x,H1,I1,r1,q1⟩=>?_
 obtain⟨a,e,⟨xs,hq⟩,q⟩:=q1
 subst e
 cases r1
 obtain⟨its,rv,p,hz⟩:=I1.tuple hq
 refine wpAny_pyIter_tuple (show s1.heap.IsTuple a its.toArray from p) ?_
 refine⟨s1.heap.objs.size,[s1.heap.objs.size],_,_,H1,rfl,I1.kept (t':=s1.toks) fun b o e=>Heap.get?_push_of_some _ e,AX3 a _,⟨_,Heap.get?_push_size _ rfl,rfl,rfl⟩,fun b hb=>?_,q⟩
 have e:b=s1.heap.objs.size:=by simpa using hb
 subst e
 exact I1.fpOk (Nat.le_refl _) (I1.hok.fresh (Nat.le_refl _))
noncomputable def BS3 (wi:TI)(g:TG)(tb:TS):TS:=fun D σ H=>wi σ H fun J H1=>∃W:Nat->Nat->St->Hp->Prop,(∃m,W 0 m σ H1)/\∀i m σ H,W i m σ H->
 (J.stop i H/\D.nx σ H)∨(J.go i H/\∃N:St->Hp->Prop,(∀σ' H',N σ' H'->∃m',m'<m/\W (i+1) m' σ' H')/\∀x H',J.yld i H x H'->g x σ H' fun σ2 H2=>tb {D with nx:=N,ct:=N,bk:=D.nx} σ2 H2)
noncomputable def AK8 (fp:List Addr)(h:Heap):List (Addr×Obj):=fp.filterMap fun b=>(h.get? b).map fun o=>(b,o)
theorem Z7 {fp:List Addr}{h:Heap}{b:Addr}{o:Obj}(hb:b∈fp)(e:h.get? b=some o):(b,o)∈AK8 fp h:=List.mem_filterMap.mpr ⟨b,hb,by rw[e];rfl⟩
theorem An4 {fp:List Addr}{h:Heap}{p:Addr×Obj}(hp:p∈AK8 fp h):p.1∈fp/\h.get? p.1=some p.2:=by
 obtain⟨b,hb,e⟩:=List.mem_filterMap.mp hp
 cases q:h.get? b with
 |none=>rw[q]at e;cases e
 |some o=>
  rw[q]at e
  have e':(b,o)=p:=Option.some.inj e
  subst e'
  exact⟨hb,q⟩
theorem Inv.pinned {pins:List (Addr×Obj)}{σ:St}{H:Hp}{s:Shared}{fp:List Addr}(I:Inv X pins σ H s)(hf:∀b∈fp,FpOk X pins H b)(ho:∀b∈fp,∃o,s.heap.get? b=some o/\∀v,o.data≠.cell v):Inv X (pins++AK8 fp s.heap) σ H s:=
 I.pins_of fun p hp=>(List.mem_append.mp hp).elim (fun z=>I.pin p (List.mem_append_right _ z)) fun z=>by
  obtain⟨hb,e⟩:=An4 z
  obtain⟨f0,f1,f2,_⟩:=hf p.1 hb
  obtain⟨o,e',d⟩:=ho p.1 hb
  rw[e]at e';cases e'
  exact⟨e,f0,f1,f2,d⟩
theorem Inv.unpinned {pins pl:List (Addr×Obj)}{σ:St}{H:Hp}{s:Shared}(I:Inv X (pins++pl) σ H s):Inv X pins σ H s:=I.pins_of fun p hp=>I.pin p (List.mem_append_right _ (List.mem_append_left _ hp))
theorem Y0 {iter:Expr}{body:List Stmt}{wi:TI}{g:TG}{tb:TS}{pos:Pos}(hp:PassesOwn (model X.prog X.w) X.A X.env X.xe)(hc:X.calm=true)(hi:PI X tg iter wi)(hg:PG X tg g)(hb:PSs X body tb)
  (hs:∀x,foldedSetIterable iter X.env x=pure x:=by intro _;rfl):PS X (.For tg iter body [] pos) (BS3 wi g tb):=by
 intro pins s σ H D I h
 refine wpAny_For (thn (hi pins s σ H _ I h) fun v s1 h1=>thn h1 fun itv s2 h2=>?_) hs
 obtain⟨it,fp,tn,J,H2,e,I2,T,st2,f2,W,⟨m0,w0⟩,turn⟩:=h2
 subst e
 -- what stays true of the iterator's objects through the loop
 have stat:∀{H':Hp},(∀b∈fp,H' b=none)->∀b∈fp,FpOk X pins H' b:=fun hn b hb=>⟨hn b hb,(f2 b hb).2⟩
 refine codeAny_forLoop_any (fun n s'=>∃i σ' H',Inv X pins σ' H' s'/\tn i s'.heap/\(∀b∈fp,H' b=none)/\W i n σ' H') ?_ m0 ⟨0,σ,H2,I2,st2,fun b hb=>(f2 b hb).1,w0⟩
 rintro n s3 ⟨i,σ3,H3,I3,st3,fr3,w3⟩
 rcases turn i n σ3 H3 w3 with ⟨stop,qn⟩ |⟨go,N,hN,step⟩
 ·refine wpAny_passesOwn hp (thn (T.done X rfl rfl rfl hc i pins s3 σ3 H3 X.xe I3 (stat fr3) st3 stop) fun r s4 ⟨hr,I4⟩=>?_)
  subst hr
  exact wpAny_execs_nil ⟨σ3,H3,I4,qn⟩
 ·refine wpAny_passesOwn hp (thn (T.item X rfl rfl rfl hc i pins s3 σ3 H3 X.xe I3 (stat fr3) st3 go) fun r s4 ⟨u,hr,h4⟩=>?_)
  subst hr
  refine wpAny_passesOwn hp (thn h4 fun _ s5 ⟨x,H5,I5,r5,y5,st5,fr5⟩=>?_)
  have I5':=I5.pinned (stat fr5) (T.obj _ _ st5)
  refine wpAny_passesOwn hp (thn (hg _ s5 σ3 H5 x u _ I5' r5 (step x H5 y5)) fun _ s6 ⟨σ6,H6,I6,q6⟩=>?_)
  refine wpAny_passesOwn hp (thn (hb _ s6 σ6 H6 _ I6 q6) fun f s7 q7=>?_)
  have again:∀{σ7:St} {H7:Hp},Inv X (pins++AK8 fp s5.heap) σ7 H7 s7->N σ7 H7->∃m,m<n/\∃i σ' H',Inv X pins σ' H' s7/\tn i s7.heap/\(∀b∈fp,H' b=none)/\W i m σ' H':=fun {σ7 H7} I7 n7=>by
   obtain⟨m',hm,w7⟩:=hN σ7 H7 n7
   refine⟨m',hm,i+1,σ7,H7,I7.unpinned,T.keep _ _ _ st5 fun b hb o e=>(I7.pin (b,o) (List.mem_append_right _ (List.mem_append_right _ (Z7 hb e)))).1,fun b hb=>?_,w7⟩
   obtain⟨o,e,d⟩:=T.obj _ _ st5 b hb
   exact(I7.pin (b,o) (List.mem_append_right _ (List.mem_append_right _ (Z7 hb e)))).2.1
  cases f with
  |next=>obtain⟨σ7,H7,I7,n7⟩:=q7;exact again I7 n7
  |cont=>obtain⟨σ7,H7,I7,n7⟩:=q7;exact again I7 n7
  |brk=>obtain⟨σ7,H7,I7,q7⟩:=q7;exact⟨σ7,H7,I7.unpinned,q7⟩
  |ret v=>obtain⟨x7,σ7,H7,I7,r7,q7⟩:=q7;exact⟨x7,σ7,H7,I7.unpinned,r7,q7⟩
end
theorem U2 {K:PySem.W.Frag}{a:Addr}{xs:List V}{g:TG}{tb:TS}{D:Ends}{σ:St}{H:Hp}(Pv:Nat->St->Hp->Prop)(h0:Pv 0 σ H)(hl:∀i σ H,i<=xs.length->Pv i σ H->SqL K H a xs)
  (hs:∀i x σ H,xs[i]?=some x->Pv i σ H->g x σ H fun σ2 H2=>tb {D with nx:=Pv (i+1),ct:=Pv (i+1),bk:=D.nx} σ2 H2) (hd:∀σ H,Pv xs.length σ H->D.nx σ H):
  ∃W:Nat->Nat->St->Hp->Prop,(∃m,W 0 m σ H)/\∀i m σ H,W i m σ H->
   ((Itl K a).stop i H/\D.nx σ H)∨((Itl K a).go i H/\∃N:St->Hp->Prop,(∀σ' H',N σ' H'->∃m',m'<m/\W (i+1) m' σ' H')/\∀x H',(Itl K a).yld i H x H'->g x σ H' fun σ2 H2=>tb {D with nx:=N,ct:=N,bk:=D.nx} σ2 H2):=by
 refine⟨fun i m σ H=>m=xs.length-i/\i<=xs.length/\Pv i σ H,⟨xs.length,by simp,Nat.zero_le _,h0⟩,?_⟩
 rintro i m σ H ⟨rfl,hi,p⟩
 have q:=hl i σ H hi p
 by_cases hlt:i<xs.length
 ·refine .inr ⟨⟨xs,xs[i],q,by simp[hlt]⟩,Pv (i+1),fun σ' H' p'=>⟨xs.length-(i+1),by omega,rfl,hlt,p'⟩,fun x H' y=>?_⟩
  obtain⟨e,y⟩:=y
  subst e
  exact hs i x σ _ (y xs q) p
 ·have e:i=xs.length:=by omega
  subst e
  exact .inl ⟨⟨xs,q,Nat.le_refl _⟩,hd σ H p⟩
theorem BF8 {K:PySem.W.Frag}{a:Addr}{xs:List V}{g:TG}{tb:TS}{D:Ends}{σ:St}{H:Hp}(Pv:Nat->St->Hp->Prop)(h0:Pv 0 σ H)(hl:∀i σ H,i<=xs.length->Pv i σ H->SqT K H a xs)
  (hs:∀i x σ H,xs[i]?=some x->Pv i σ H->g x σ H fun σ2 H2=>tb {D with nx:=Pv (i+1),ct:=Pv (i+1),bk:=D.nx} σ2 H2) (hd:∀σ H,Pv xs.length σ H->D.nx σ H):
  ∃W:Nat->Nat->St->Hp->Prop,(∃m,W 0 m σ H)/\∀i m σ H,W i m σ H->
   ((Itt K a).stop i H/\D.nx σ H)∨((Itt K a).go i H/\∃N:St->Hp->Prop,(∀σ' H',N σ' H'->∃m',m'<m/\W (i+1) m' σ' H')/\∀x H',(Itt K a).yld i H x H'->g x σ H' fun σ2 H2=>tb {D with nx:=N,ct:=N,bk:=D.nx} σ2 H2):=by
 refine⟨fun i m σ H=>m=xs.length-i/\i<=xs.length/\Pv i σ H,⟨xs.length,by simp,Nat.zero_le _,h0⟩,?_⟩
 rintro i m σ H ⟨rfl,hi,p⟩
 have q:=hl i σ H hi p
 by_cases hlt:i<xs.length
 ·refine .inr ⟨⟨xs,xs[i],q,by simp[hlt]⟩,Pv (i+1),fun σ' H' p'=>⟨xs.length-(i+1),by omega,rfl,hlt,p'⟩,fun x H' y=>?_⟩
  obtain⟨e,y⟩:=y
  subst e
  exact hs i x σ _ (y xs q) p
 ·have e:i=xs.length:=by omega
  subst e
  exact .inl ⟨⟨xs,q,Nat.le_refl _⟩,hd σ H p⟩
end L2
namespace L2
open PySem PySem.Spec PyProof.Rows
noncomputable abbrev R2:=V->V->Hp->VK->Prop
noncomputable def OpR (X:Cx)(f:Value->Value->Sem Value)(r:R2):Prop:=
 ∀(pins:List (Addr×Obj)) (s:Shared) (σ:St) (H:Hp) (x y:V) (v u:Value) (Q:VK),Inv X pins σ H s->RelV x v->RelV y u->r x y H Q->
  wpAny (model X.prog X.w) X.A (f v u) (EP X pins σ Q) X.xe s
noncomputable def UnR (X:Cx)(f:Value->Sem Value)(r:V->Hp->VK->Prop):Prop:=
 ∀(pins:List (Addr×Obj)) (s:Shared) (σ:St) (H:Hp) (x:V) (v:Value) (Q:VK),Inv X pins σ H s->RelV x v->r x H Q->
  wpAny (model X.prog X.w) X.A (f v) (EP X pins σ Q) X.xe s
noncomputable def Av8 (X:Cx)(f:Value)(r:List V->Hp->VK->Prop):Prop:=
 ∀(pins:List (Addr×Obj)) (s:Shared) (σ:St) (H:Hp) (xs:List V) (us:List Value) (Q:VK),Inv X pins σ H s->Vals xs us->r xs H Q->
  wpAny (model X.prog X.w) X.A (call f us) (EP X pins σ Q) X.xe s
noncomputable def Bd3 (X:Cx)(r:V->Hp->(Bool->Hp->Prop)->Prop):Prop:=
 ∀(pins:List (Addr×Obj)) (s:Shared) (σ:St) (H:Hp) (x:V) (v:Value) (Q:Bool->Hp->Prop),Inv X pins σ H s->RelV x v->r x H Q->
  wpAny (model X.prog X.w) X.A (truthy v) (TP X pins σ Q) X.xe s
noncomputable def tOp (r:R2)(ta tb:TE):TE:=fun σ H Q=>ta σ H fun x H1=>tb σ H1 fun y H2=>r x y H2 Q
noncomputable def tUn (r:V->Hp->VK->Prop)(ta:TE):TE:=fun σ H Q=>ta σ H fun x H1=>r x H1 Q
noncomputable def rI (C:Int->Int->Prop)(g:Int->Int->V):R2:=fun x y H Q=>∃i j,x=.int i/\y=.int j/\C i j/\Q (g i j) H
noncomputable def rI0 (g:Int->Int->V):R2:=fun x y H Q=>∃i j,x=.int i/\y=.int j/\Q (g i j) H
noncomputable def rU (g:Int->V):V->Hp->VK->Prop:=fun x H Q=>∃i,x=.int i/\Q (g i) H
section
variable {X:Cx} {a b c:Expr} {ta tb tc:TE} {pos:Pos}
theorem BW0 (ha:PE X a ta)(hb:PE X b tb){pins:List (Addr×Obj)}{s:Shared}{σ:St}{H:Hp}{R:V->V->Hp->Prop}(I:Inv X pins σ H s)
  (h:ta σ H fun x H1=>tb σ H1 fun y H2=>R x y H2) {Q:Value->Shared->Prop} {f:Value->Value->Sem Value}
  (hf:∀v u s2 x y H2,Inv X pins σ H2 s2->RelV x v->RelV y u->R x y H2->wpAny (model X.prog X.w) X.A (f v u) Q X.xe s2):
  wpAny (model X.prog X.w) X.A (eval a X.env) (fun v s₁=>wpAny (model X.prog X.w) X.A (eval b X.env) (fun u s₂=>wpAny (model X.prog X.w) X.A (f v u) Q X.xe s₂) X.xe s₁) X.xe s:=by
 refine thn (ha pins s σ H _ I h) fun v s1 ⟨x,H1,I1,r1,q1⟩=>?_
 refine thn (hb pins s1 σ H1 _ I1 q1) fun u s2 ⟨y,H2,I2,r2,q2⟩=>?_
 exact hf v u s2 x y H2 I2 r1 r2 q2
theorem M5 {op:Operator}{r:R2}(ho:OpR X (binaryOp op) r)(ha:PE X a ta)(hb:PE X b tb):PE X (.BinOp a op b pos) (tOp r ta tb):=by
 intro pins s σ H Q I h
 exact wpAny_BinOp (BW0 ha hb I h fun v u s2 x y H2 I2 rx ry q=>ho pins s2 σ H2 x y v u Q I2 rx ry q)
theorem Am3 {op:UnaryOp}{r:V->Hp->VK->Prop}(ho:UnR X (unaryOp op) r)(ha:PE X a ta):PE X (.UnaryOp op a pos) (tUn r ta):=by
 intro pins s σ H Q I h
 exact UnaryOp_ (thn (ha pins s σ H _ I h) fun v s1 ⟨x,H1,I1,r1,q1⟩=>ho pins s1 σ H1 x v Q I1 r1 q1)
theorem opI {f:Value->Value->Sem Value}{C:Int->Int->Prop}{g:Int->Int->Int}
  (rule:∀(i j:Int) (t u:Tok) (s:Shared) (Q:Value->Shared->Prop) (E:Value->Shared->Prop),C i j->Q (.int (g i j) s.toks) {s with toks:=s.toks+1}->wpAny (model X.prog X.w) X.A (f (.int i t) (.int j u)) Q E s):
  OpR X f (rI C fun i j=>.int (g i j)):=by
 intro pins s σ H x y v u Q I rx ry h
 obtain⟨i,j,rfl,rfl,hc,q⟩:=h
 obtain⟨t,rfl⟩:=rx
 obtain⟨t',rfl⟩:=ry
 exact rule i j t t' s _ _ hc ⟨.int (g i j),H,I.tok _,⟨_,rfl⟩,q⟩
theorem BZ7 {f:Value->Value->Sem Value}{g:Int->Int->Int}
  (rule:∀(i j:Int) (t u:Tok) (s:Shared) (Q:Value->Shared->Prop) (E:Value->Shared->Prop),Q (.int (g i j) s.toks) {s with toks:=s.toks+1}->wpAny (model X.prog X.w) X.A (f (.int i t) (.int j u)) Q E s):
  OpR X f (rI0 fun i j=>.int (g i j)):=by
 intro pins s σ H x y v u Q I rx ry h
 obtain⟨i,j,rfl,rfl,q⟩:=h
 obtain⟨t,rfl⟩:=rx
 obtain⟨t',rfl⟩:=ry
 exact rule i j t t' s _ _ ⟨.int (g i j),H,I.tok _,⟨_,rfl⟩,q⟩
theorem BT5 {f:Value->Value->Sem Value}{g:Int->Int->Bool}
  (rule:∀(i j:Int) (t u:Tok) (s:Shared) (Q:Value->Shared->Prop) (E:Value->Shared->Prop),Q (.bool (g i j)) s->wpAny (model X.prog X.w) X.A (f (.int i t) (.int j u)) Q E s):
  OpR X f (rI0 fun i j=>.bl (g i j)):=by
 intro pins s σ H x y v u Q I rx ry h
 obtain⟨i,j,rfl,rfl,q⟩:=h
 obtain⟨t,rfl⟩:=rx
 obtain⟨t',rfl⟩:=ry
 exact rule i j t t' s _ _ ⟨.bl (g i j),H,I,rfl,q⟩
noncomputable def CMul (i j:Int):Prop:=(-(2 ^ 64)<i/\i<2 ^ 64)∨(-(2 ^ 64)<j/\j<2 ^ 64)
theorem CMul.ok {i j:Int}(h:CMul i j):IntMulOk i j:=by
 rcases h with ⟨h1,h2⟩ |⟨h1,h2⟩
 ·exact .of_left (intBits_le_64 h1 h2)
 ·exact .of_right (intBits_le_64 h1 h2)
theorem T5:OpR X (binaryOp .Add) (rI0 fun i j=>.int (i+j)):=BZ7 fun _ _ _ _ _ _ _ q=>add_int q
theorem W9:OpR X (binaryOp .Sub) (rI0 fun i j=>.int (i-j)):=BZ7 fun _ _ _ _ _ _ _ q=>sub_int q
theorem BN3:OpR X (binaryOp .Mult) (rI CMul fun i j=>.int (i*j)):=opI fun _ _ _ _ _ _ _ hc q=>mul_int q hc.ok
theorem unI {f:Value->Sem Value}{g:Int->Int}
  (rule:∀(i:Int) (t:Tok) (s:Shared) (Q:Value->Shared->Prop) (E:Value->Shared->Prop),Q (.int (g i) s.toks) {s with toks:=s.toks+1}->wpAny (model X.prog X.w) X.A (f (.int i t)) Q E s):
  UnR X f (rU fun i=>.int (g i)):=by
 intro pins s σ H x v Q I rx h
 obtain⟨i,rfl,q⟩:=h
 obtain⟨t,rfl⟩:=rx
 exact rule i t s _ _ ⟨.int (g i),H,I.tok _,⟨_,rfl⟩,q⟩
theorem AN7:UnR X (unaryOp .USub) (rU fun i=>.int (-i)):=unI fun _ _ _ _ _ q=>neg_int q
end
noncomputable def BZ5:V->V->Bool
 |.non,.non=>true |.non,.int _=>true |.int _,.non=>true |.non,.bl _=>true |.bl _,.non=>true |.non,.str _=>true |.str _,.non=>true
 |.int _,.int _=>true |.bl _,.bl _=>true |.str _,.str _=>true |.byt _,.byt _=>true
 |.int _,.str _=>true |.str _,.int _=>true |.bl _,.str _=>true |.str _,.bl _=>true
 |_,_=>false
noncomputable def rEq:R2:=fun x y H Q=>BZ5 x y=true/\Q (.bl (decide (x=y))) H
noncomputable def rNe:R2:=fun x y H Q=>BZ5 x y=true/\Q (.bl (!decide (x=y))) H
theorem Ag5 {i j:Int}:decide (V.int i=V.int j)=(i==j):=by
 rw[Bool.eq_iff_iff]
 simp
theorem A15 {i j:Bool}:decide (V.bl i=V.bl j)=(i==j):=by
 rw[Bool.eq_iff_iff]
 simp
theorem Ag4 {i j:Str}:decide (V.str i=V.str j)=(i==j):=by
 rw[Bool.eq_iff_iff]
 simp
theorem An9 {i j:Array UInt8}:decide (V.byt i=V.byt j)=(i.toList==j.toList):=by
 rw[Bool.eq_iff_iff]
 cases i
 cases j
 simp
section
variable {X:Cx} {a b c:Expr} {ta tb tc:TE} {pos:Pos}
theorem E1 {pins:List (Addr×Obj)}{σ:St}{H:Hp}{s:Shared}{Q:VK}{k k':Bool}(I:Inv X pins σ H s)(q:Q (.bl k) H)(e:k=k'):EP X pins σ Q (.bool k') s:=by
 subst e
 exact⟨.bl k,H,I,rfl,q⟩
theorem J3:OpR X (compareOp .Eq) rEq:=by
 intro pins s σ H x y v u Q I rx ry h
 obtain⟨hs,q⟩:=h
 cases x with
 |non=>
  cases rx
  cases y with
  |non=>cases ry;exact PySem.EqNone.eq_none_none (E1 I q (by simp))
  |bl j=>cases ry;exact PySem.EqNone.eq_none_bool (E1 I q (by simp))
  |int j=>obtain⟨t',rfl⟩:=ry;exact PySem.EqNone.eq_none_int (E1 I q (by simp))
  |str j=>obtain⟨t',rfl⟩:=ry;exact PySem.EqNone.eq_none_str (E1 I q (by simp))
  |_=>exact absurd (show false=true from hs) Bool.false_ne_true
 |bl i=>
  cases rx
  cases y with
  |non=>cases ry;exact PySem.EqNone.eq_bool_none (E1 I q (by simp))
  |bl j=>cases ry;exact eq_bool (E1 I q A15)
  |str j=>obtain⟨t',rfl⟩:=ry;exact PySem.EqMixed.eq_bool_str (E1 I q (by simp))
  |_=>exact absurd (show false=true from hs) Bool.false_ne_true
 |int i=>
  obtain⟨t,rfl⟩:=rx
  cases y with
  |non=>cases ry;exact PySem.EqNone.eq_int_none (E1 I q (by simp))
  |int j=>obtain⟨t',rfl⟩:=ry;exact eq_int (E1 I q Ag5)
  |str j=>obtain⟨t',rfl⟩:=ry;exact PySem.EqMixed.eq_int_str (E1 I q (by simp))
  |_=>exact absurd (show false=true from hs) Bool.false_ne_true
 |str i=>
  obtain⟨t,rfl⟩:=rx
  cases y with
  |non=>cases ry;exact PySem.EqNone.eq_str_none (E1 I q (by simp))
  |bl j=>cases ry;exact PySem.EqMixed.eq_str_bool (E1 I q (by simp))
  |int j=>obtain⟨t',rfl⟩:=ry;exact PySem.EqMixed.eq_str_int (E1 I q (by simp))
  |str j=>obtain⟨t',rfl⟩:=ry;exact eq_str (E1 I q Ag4)
  |_=>exact absurd (show false=true from hs) Bool.false_ne_true
 |byt i=>
  obtain⟨t,rfl⟩:=rx
  cases y with
  |byt j=>obtain⟨t',rfl⟩:=ry;exact PySem.W.eq_bytes (E1 I q An9)
  |_=>exact absurd (show false=true from hs) Bool.false_ne_true
 |_=>cases y<;>exact absurd (show false=true from hs) Bool.false_ne_true
theorem BW2:OpR X (compareOp .NotEq) rNe:=by
 intro pins s σ H x y v u Q I rx ry h
 obtain⟨hs,q⟩:=h
 cases x with
 |non=>
  cases rx
  cases y with
  |non=>cases ry;exact PySem.EqNone.ne_none_none (E1 I q (by simp))
  |bl j=>cases ry;exact PySem.EqNone.ne_none_bool (E1 I q (by simp))
  |int j=>obtain⟨t',rfl⟩:=ry;exact PySem.EqNone.ne_none_int (E1 I q (by simp))
  |str j=>obtain⟨t',rfl⟩:=ry;exact PySem.EqNone.ne_none_str (E1 I q (by simp))
  |_=>exact absurd (show false=true from hs) Bool.false_ne_true
 |bl i=>
  cases rx
  cases y with
  |non=>cases ry;exact PySem.EqNone.ne_bool_none (E1 I q (by simp))
  |bl j=>cases ry;exact ne_bool (E1 I q (congrArg not A15))
  |str j=>obtain⟨t',rfl⟩:=ry;exact PySem.EqMixed.ne_bool_str (E1 I q (by simp))
  |_=>exact absurd (show false=true from hs) Bool.false_ne_true
 |int i=>
  obtain⟨t,rfl⟩:=rx
  cases y with
  |non=>cases ry;exact PySem.EqNone.ne_int_none (E1 I q (by simp))
  |int j=>obtain⟨t',rfl⟩:=ry;exact ne_int (E1 I q (congrArg not Ag5))
  |str j=>obtain⟨t',rfl⟩:=ry;exact PySem.EqMixed.ne_int_str (E1 I q (by simp))
  |_=>exact absurd (show false=true from hs) Bool.false_ne_true
 |str i=>
  obtain⟨t,rfl⟩:=rx
  cases y with
  |non=>cases ry;exact PySem.EqNone.ne_str_none (E1 I q (by simp))
  |bl j=>cases ry;exact PySem.EqMixed.ne_str_bool (E1 I q (by simp))
  |int j=>obtain⟨t',rfl⟩:=ry;exact PySem.EqMixed.ne_str_int (E1 I q (by simp))
  |str j=>obtain⟨t',rfl⟩:=ry;exact ne_str (E1 I q (congrArg not Ag4))
  |_=>exact absurd (show false=true from hs) Bool.false_ne_true
 |byt i=>
  obtain⟨t,rfl⟩:=rx
  cases y with
  |byt j=>obtain⟨t',rfl⟩:=ry;exact PySem.W.ne_bytes (E1 I q (congrArg not An9))
  |_=>exact absurd (show false=true from hs) Bool.false_ne_true
 |_=>cases y<;>exact absurd (show false=true from hs) Bool.false_ne_true
theorem AJ5:OpR X (compareOp .Lt) (rI0 fun i j=>.bl (decide (i<j))):=BT5 fun _ _ _ _ _ _ _ q=>lt_int q
theorem y4:OpR X (compareOp .LtE) (rI0 fun i j=>.bl (decide (i<=j))):=BT5 fun _ _ _ _ _ _ _ q=>le_int q
theorem AG6:OpR X (compareOp .Gt) (rI0 fun i j=>.bl (decide (j<i))):=BT5 fun _ _ _ _ _ _ _ q=>gt_int q
theorem BM3:OpR X (compareOp .GtE) (rI0 fun i j=>.bl (decide (j<=i))):=BT5 fun _ _ _ _ _ _ _ q=>ge_int q
theorem BK3:OpR X (compareOp .Is) (fun x y H Q=>y=.non/\Q (.bl (decide (x=.non))) H):=by
 intro pins s σ H x y v u Q I rx ry h
 obtain⟨rfl,q⟩:=h
 cases ry
 refine is_none_gen (E1 I q ?_)
 cases x<;>first
  |(cases rx;rfl)
  |(obtain⟨t,rfl⟩:=rx;rfl)
theorem Aj6:OpR X (compareOp .IsNot) (fun x y H Q=>y=.non/\Q (.bl (!decide (x=.non))) H):=by
 intro pins s σ H x y v u Q I rx ry h
 obtain⟨rfl,q⟩:=h
 cases ry
 refine isnot_none_gen (E1 I q ?_)
 cases x<;>first
  |(cases rx;rfl)
  |(obtain⟨t,rfl⟩:=rx;rfl)
theorem C2 (b:Expr){op:CmpOp}(h:op≠.In:=by decide)(h2:op≠.NotIn:=by decide):behindInMarks op b=false:=by
 have e1:(op==CmpOp.In)=false:=by cases op<;>first |rfl |exact absurd rfl h
 have e2:(op==CmpOp.NotIn)=false:=by cases op<;>first |rfl |exact absurd rfl h2
 cases b<;>simp[behindInMarks,e1,e2]
theorem P0 {op:CmpOp}{r:R2}(ho:OpR X (compareOp op) r)(ha:PE X a ta)(hb:PE X b tb)(hm:behindInMarks op b=false):PE X (.Compare a [op] [b] pos) (tOp r ta tb):=by
 intro pins s σ H Q I h
 exact wpAny_Compare1 (BW0 ha hb I h fun v u s2 x y H2 I2 rx ry q=>ho pins s2 σ H2 x y v u Q I2 rx ry q) hm
noncomputable def AZ5 (t:TE):TT:=fun σ H Q=>t σ H fun x H'=>∃k,x=.bl k/\Q k H'
theorem B5 {op:CmpOp}{r:R2}(ho:OpR X (compareOp op) r)(ha:PE X a ta)(hb:PE X b tb)(hm:behindInMarks op b=false):PT X (.Compare a [op] [b] pos) (AZ5 (tOp r ta tb)):=by
 intro pins s σ H Q I h
 refine wpAny_isTrue_Compare1 (thn (ha pins s σ H _ I h) fun v s1 ⟨x,H1,I1,r1,q1⟩=>thn (hb pins s1 σ H1 _ I1 q1) fun u s2 ⟨y,H2,I2,r2,q2⟩=>
  thn (ho pins s2 σ H2 x y v u _ I2 r1 r2 q2) fun c s3 ⟨z,H3,I3,r3,k,e,q3⟩=>?_) hm
 subst e
 cases r3
 exact wpAny_truthy_bool ⟨H3,I3,q3⟩
noncomputable def Ai9 (r r':R2)(ta tb tc:TE):TE:=fun σ H Q=>ta σ H fun x H1=>tb σ H1 fun y H2=>r x y H2 fun z H3=>∃k,z=.bl k/\
 (if k=true then tc σ H3 fun w' H4=>r' y w' H4 Q else Q (.bl false) H3)
theorem AD8 {op op':CmpOp}{r r':R2}(ho:OpR X (compareOp op) r)(ho':OpR X (compareOp op') r')(ha:PE X a ta)(hb:PE X b tb)(hc:PE X c tc)
  (hm:lastMarks [op,op'] [b,c]=false:=by with_unfolding_all rfl):PE X (.Compare a [op,op'] [b,c] pos) (Ai9 r r' ta tb tc):=by
 intro pins s σ H Q I h
 refine Compare_chain (thn (ha pins s σ H _ I h) fun v s1 ⟨x,H1,I1,r1,q1⟩=>chain_link (thn (hb pins s1 σ H1 _ I1 q1) fun u s2 ⟨y,H2,I2,r2,q2⟩=>
  thn (ho pins s2 σ H2 x y v u _ I2 r1 r2 q2) fun d s3 ⟨z,H3,I3,r3,k,e,q3⟩=>?_)) hm
 subst e
 cases r3
 refine wpAny_truthy_bool ?_
 cases k with
 |false=>exact ite_ff ⟨.bl false,H3,I3,rfl,q3⟩
 |true=>exact ite_tt (chain_last (thn (hc pins s3 σ H3 _ I3 q3) fun w' s4 ⟨z',H4,I4,r4,q4⟩=>ho' pins s4 σ H4 y z' u w' Q I4 r2 r4 q4))
theorem AV3 {op op':CmpOp}{r r':R2}(ho:OpR X (compareOp op) r)(ho':OpR X (compareOp op') r')(ha:PE X a ta)(hb:PE X b tb)(hc:PE X c tc)
  (hm:lastMarks [op,op'] [b,c]=false:=by with_unfolding_all rfl):PT X (.Compare a [op,op'] [b,c] pos) (AZ5 (Ai9 r r' ta tb tc)):=by
 intro pins s σ H Q I h
 refine isTrue_chain (thn (ha pins s σ H _ I h) fun v s1 ⟨x,H1,I1,r1,q1⟩=>test_link (thn (hb pins s1 σ H1 _ I1 q1) fun u s2 ⟨y,H2,I2,r2,q2⟩=>
  thn (ho pins s2 σ H2 x y v u _ I2 r1 r2 q2) fun d s3 ⟨z,H3,I3,r3,k,e,q3⟩=>?_)) hm
 subst e
 cases r3
 refine wpAny_truthy_bool ?_
 cases k with
 |false=>
  obtain⟨k',e',q'⟩:=q3
  cases e'
  exact ite_ff ⟨H3,I3,q'⟩
 |true=>
  refine ite_tt (test_last (thn (hc pins s3 σ H3 _ I3 q3) fun w' s4 ⟨z',H4,I4,r4,q4⟩=>thn (ho' pins s4 σ H4 y z' u w' _ I4 r2 r4 q4) fun d' s5 ⟨z2,H5,I5,r5,k2,e2,q5⟩=>?_))
  subst e2
  cases r5
  exact wpAny_truthy_bool ⟨H5,I5,q5⟩
noncomputable def BZ9 (K:PySem.W.Frag)(x:V)(H:Hp)(k:Bool):Prop:=
 match x with
 |.non=>k=false
 |.bl b=>k=b
 |.int i=>k=(i != 0)
 |.str y=>y.length<=sizeLine/\k=((y.length:Int) != 0)
 |.byt y=>y.size<=sizeLine/\k=((y.size:Int) != 0)
 |.ref p=>(∃xs,SqL K H p xs/\k= !xs.isEmpty)∨(∃xs,SqT K H p xs/\k= !xs.isEmpty)∨∃kvs,H p=some (.dK kvs)/\k= !kvs.isEmpty
 |_=>False
theorem AX2 {κ:Type}{kvs:List (κ×V)}{vs:List (κ×Value)}(r:KV kvs vs):(!vs.isEmpty)= !kvs.isEmpty:=by
 cases r<;>rfl
theorem AA7 {xs:List V}{its:List Value}(r:Vals xs its):(!its.toArray.isEmpty)= !xs.isEmpty:=by
 cases r<;>simp
theorem AI1:(sizeLine:Nat)<2 ^ 63:=by rw[sizeLine_eq];decide
theorem BQ1:Bd3 X (fun x H Q=>∃k,BZ9 X.K x H k/\Q k H):=by
 intro pins s σ H x v Q I rx h
 obtain⟨k,e,q⟩:=h
 have hl:=AI1
 have hs:sizeLine=16777216:=sizeLine_eq
 cases x with
 |non=>
  cases rx
  have e':k=false:=e
  subst e'
  exact truthy_none ⟨H,I,q⟩
 |bl b=>
  cases rx
  have e':k=b:=e
  subst e'
  exact wpAny_truthy_bool ⟨H,I,q⟩
 |int i=>
  obtain⟨t,rfl⟩:=rx
  have e':k=(i != 0):=e
  subst e'
  exact PySem.P.truthy_int ⟨H,I,q⟩
 |str y=>
  obtain⟨t,rfl⟩:=rx
  obtain⟨hy,e'⟩:y.length<=sizeLine/\k=((y.length:Int) != 0):=e
  subst e'
  exact PySem.P.truthy_str (by omega) ⟨H,I.tok _,q⟩
 |byt y=>
  obtain⟨t,rfl⟩:=rx
  obtain⟨hy,e'⟩:y.size<=sizeLine/\k=((y.size:Int) != 0):=e
  subst e'
  exact PySem.W.truthy_bytes (by omega) ⟨H,I.tok _,q⟩
 |ref p=>
  cases rx
  have e':(∃xs,SqL X.K H p xs/\k= !xs.isEmpty)∨(∃xs,SqT X.K H p xs/\k= !xs.isEmpty)∨∃kvs,H p=some (.dK kvs)/\k= !kvs.isEmpty:=e
  rcases e' with ⟨xs,hx,e'⟩ |⟨xs,hx,e'⟩ |⟨kvs,hx,e'⟩
  ·subst e'
   obtain⟨its,r,pl,hz⟩:=I.list hx
   have hlen:=r.length
   exact wpAny_truthy_list pl.isList (by simp only[List.size_toArray];omega) ⟨H,I.tok _,by rw[AA7 r];exact q⟩
  ·subst e'
   obtain⟨its,r,pl,hz⟩:=I.tuple hx
   have hlen:=r.length
   exact truthy_tuple pl (by simp only[List.size_toArray];omega) ⟨H,I.tok _,by rw[AA7 r];exact q⟩
  ·subst e'
   obtain⟨hz,hS,vs,r,m⟩:kvs.length<=sizeLine/\(p==sysModules)=false/\∃vs,KV kvs vs/\s.heap.DictOf (C5 X.prog X.w) p vs:=I.hok p _ hx
   have hlen:kvs.length=vs.length:=Paired.length r
   exact wpAny_truthy_dict hS m (by omega) ⟨H,I.tok _,by rw[AX2 r];exact q⟩
 |_=>exact(show False from e).elim
theorem k8 (ha:PE X a ta)(he:∀whole,isTrue a X.env whole=(do let v ←whole;standAt a.pos;holding [v] (truthy v))):
  PT X a (fun σ H Q=>ta σ H fun x H'=>∃k,BZ9 X.K x H' k/\Q k H'):=by
 intro pins s σ H Q I h
 exact isTrue_plain (thn (ha pins s σ H _ I h) fun v s1 ⟨x,H1,I1,r1,q1⟩=>BQ1 pins s1 σ H1 x v Q I1 r1 q1) (he _)
theorem BM7 {x:V}{us:List Value}(r:Vals [x] us):∃u,us=[u]/\RelV x u:=by
 cases r with
 |cons r1 r2=>cases r2;exact⟨_,rfl,r1⟩
end
end L2
namespace L2
open PySem PySem.Spec PyProof.Rows
structure ObjM (h:Heap)(x dx C:Addr)(mA:Str->Option Value):Prop where
 obj:h.get? x=some (PySem.W.instObj C dx)
 ns:h.Ns1 dx mA
 ne:dx≠x
theorem Ap8 {h:Heap}{dx:Addr}{mA:Str->Option Value}(n:h.Ns1 dx mA):∃od,h.get? dx=some od/\∀name,PySem.W.lookIn name od=some (mA name):=by
 obtain⟨o,es,ep,ho,hd,hk,_,hm⟩:=n
 refine⟨o,ho,fun name=>?_⟩
 have e:=hm name
 unfold nsFind findBy at e
 rw[←Array.find?_toList]at e
 unfold PySem.W.lookIn
 rw[hd]
 dsimp only
 split
 ·rename_i y q
  rw[q]at e
  exact congrArg some e
 ·rename_i q
  rw[q]at e
  have a:es.toList.any (·.refKey)=false:=by
   rw[List.any_eq_false]
   intro y hy
   obtain⟨z,t,hkey⟩:=hk y (Array.mem_toList_iff.mp hy)
   simp[DictEntry.refKey,hkey]
  have a':¬es.toList.any (·.refKey)=true:=by rw[a];exact Bool.false_ne_true
  rw[if_neg a']
  exact congrArg some e
theorem ObjM.look {h:Heap}{x dx C:Addr}{mA:Str->Option Value}(I:ObjM h x dx C mA):∃od,PySem.W.InstAt h x (PySem.W.instObj C dx) C (some od)/\∀name,PySem.W.lookIn name od=some (mA name):=
 let ⟨od,ho,hl⟩:=Ap8 I.ns
 ⟨od,⟨I.obj,rfl,rfl,ho⟩,hl⟩
section
variable {prog:Program} {w:World} {A:Around} {E:Value->Shared->Prop} {s:Shared} {K:PySem.W.Frag} {x dx C f:Addr} {mA:Str->Option Value} {name:Str} {v:Value}
theorem BF2 {expr:Bool}{Q:Value->Shared->Prop}(X:K.In s.heap)(I:ObjM s.heap x dx C mA)(hg:PySem.W.plainGet K C name=true)(hh:PySem.W.hasDictIn K C=true)
  (ha:PySem.W.findIn K (.ref C) name=some none) (hv:mA name=some v) (hv':PySem.W.handedIn v=true) (h:Q v {s with toks:=s.toks+1}):
  wpAny (model prog w) A (getAttr (.ref x) name expr) Q E s:=by
 obtain⟨od,J,hl⟩:=I.look
 exact PySem.W.get_value X J (PySem.W.plainGet_of hg).1 (PySem.W.findObj_own hh ha rfl (by rw[hl,hv])) hv' h
theorem BA6 {ns:List Str}{Q:Unit->Shared->Prop}(X:K.In s.heap)(I:ObjM s.heap x dx C mA)
  (hs:PySem.W.findIn K (.ref C) "__setattr__"=some (some (.builtin "object.__setattr__"))) (hp:PySem.W.plainOver K C=true) (ht:PySem.W.takerIn K C name=some none) (hh:PySem.W.hasDictIn K C=true)
  (hw:PySem.Within mA ns) (hsz:ns.length<=sizeLine)
  (h:∀h',ObjM h' x dx C (fun y=>if y=name then some v else mA y)->Heap.SameBut dx s.heap h'->Q () {s with heap:=h',toks:=s.toks+2}):
  wpAny (model prog w) A (setAttr (.ref x) name v) Q E s:=by
 obtain⟨od,J,hl⟩:=I.look
 refine PySem.W.set_plain X J hs (PySem.W.osa_open (s:={s with toks:=s.toks+1}) (r:=none) X J hp ht fun b=>?_)
 obtain⟨cd,hc,hd'⟩:=PySem.W.any_some hh
 have hx:s.heap.get? x=some ⟨.ref C,some dx,.plain,#[]⟩:=I.obj
 refine wpAny_bind (wpAny_pure (wpAny_bind (wpAny_bind (wpAny_loadPart hx (wpAny_bind (PySem.W.Looks.here (s:={s with toks:=s.toks+1}) (PySem.W.looks_clsIn X hc) ?_))))))
 rw[hd']
 refine wpAny_pure (a:=some dx) (wpAny_bind (wpAny_pure (wpAny_bind ?_)))
 refine wpAny_nsSet1 (s:={s with toks:=s.toks+1}) I.ns fun h' hn2 hs2=>?_
 obtain⟨oD,esD,epD,hoD,hdD,hcD⟩:=hn2.count (PySem.Within.cons name v hw)
 refine wpAny_bind (wpAny_lookBehind hoD (by rw[hdD];exact pastItsLine_dict (Nat.le_trans hcD (by rw[List.length_cons];omega))) ?_)
 exact wpAny_pure (h _ ⟨(hs2.2 _ (Ne.symm I.ne)).trans I.obj,hn2,I.ne⟩ hs2)
theorem Aw1 {R:Result->Shared->Prop}{vs:List Value}{kw:List (Str×Value)}(X:K.In s.heap)(hm:PySem.W.makesIn K C=true)
  (hi:PySem.W.findIn K (.ref C) "__init__"=some (some (.ref f))) (hf:PySem.W.typeIn K (.ref f)=some (.type "function"))
  (h:codeAny (model prog w) (A.under (.builtin "type.__call__" ⟨.ref C::vs,kw⟩)) (.call (.ref f) ⟨.ref (s.heap.objs.size+1)::vs,kw⟩) (PySem.W.InitBack (s.heap.objs.size+1) R)
   {s with heap:=(s.heap.push PySem.W.emptyDict).push (PySem.W.instObj C s.heap.objs.size)}):
  codeAny (model prog w) A (.call (.ref C) ⟨vs,kw⟩) R s:=by
 obtain⟨hh,g,d,t,os⟩:=s
 exact PySem.W.make_core (PySem.W.makes_of X hm) (PySem.W.looks_findIn X hi) (fun self=>PySem.W.bind_fn X self hf) (.inl rfl) h
end
noncomputable def C1 (f:Str)(v:V):List (Str×V)->List (Str×V)
 |[]=>[(f,v)]
 |(g,x)::r=>if g=f then(g,v)::r else(g,x)::C1 f v r
theorem C9 (f g:Str)(v:V):∀fs:List (Str×V),(C1 f v fs).lookup g=if g=f then some v else fs.lookup g
 |[]=>by
  show List.lookup g [(f,v)]=_
  by_cases h:g=f
  ·have hb:(g==f)=true:=beq_iff_eq.mpr h
   simp only[List.lookup,hb,if_pos h]
  ·have hb:(g==f)=false:=beq_eq_false_iff_ne.mpr h
   simp only[List.lookup,hb,if_neg h]
 |(k,x)::r=>by
  have ih:=C9 f g v r
  rw[show C1 f v ((k,x)::r)=(if k=f then(k,v)::r else(k,x)::C1 f v r)from rfl]
  by_cases hk:k=f
  ·rw[if_pos hk]
   by_cases h:g=k
   ·have hb:(g==k)=true:=beq_iff_eq.mpr h
    simp only[List.lookup,hb,if_pos (h.trans hk)]
   ·have hb:(g==k)=false:=beq_eq_false_iff_ne.mpr h
    simp only[List.lookup,hb,if_neg (fun e:g=f=>h (e.trans hk.symm))]
  ·rw[if_neg hk]
   by_cases h:g=k
   ·have hb:(g==k)=true:=beq_iff_eq.mpr h
    simp only[List.lookup,hb,if_neg (fun e:g=f=>hk (h.symm.trans e))]
   ·have hb:(g==k)=false:=beq_eq_false_iff_ne.mpr h
    simp only[List.lookup,hb]
    exact ih
theorem m9 (f:Str)(v:V):∀fs:List (Str×V),f∈(C1 f v fs).map (·.1)/\∀g,g∈fs.map (·.1)->g∈(C1 f v fs).map (·.1)
 |[]=>⟨by simp[C1],fun g h=>by simp at h⟩
 |(k,x)::r=>by
  obtain⟨i1,i2⟩:=m9 f v r
  rw[show C1 f v ((k,x)::r)=(if k=f then(k,v)::r else(k,x)::C1 f v r)from rfl]
  by_cases hk:k=f
  ·rw[if_pos hk]
   subst hk
   exact⟨by simp,fun g h=>by simpa using h⟩
  ·rw[if_neg hk]
   refine⟨?_,fun g h=>?_⟩
   ·rw[List.map_cons]
    exact List.mem_cons_of_mem _ i1
   ·rw[List.map_cons]at h ⊢
    rcases List.mem_cons.mp h with e |e
    ·exact List.mem_cons.mpr (.inl e)
    ·exact List.mem_cons_of_mem _ (i2 g e)
theorem u0 (f:Str)(v:V):∀fs:List (Str×V),(C1 f v fs).length<=fs.length+1
 |[]=>by simp[C1]
 |(k,x)::r=>by
  have ih:=u0 f v r
  rw[show C1 f v ((k,x)::r)=(if k=f then(k,v)::r else(k,x)::C1 f v r)from rfl]
  by_cases hk:k=f
  ·rw[if_pos hk,List.length_cons,List.length_cons];omega
  ·rw[if_neg hk,List.length_cons,List.length_cons];omega
theorem RelO.some_of {v:V}{o:Option Value}(r:RelO (some v) o):∃u,o=some u/\RelV v u:=by
 cases o with
 |none=>exact(show False from r).elim
 |some u=>exact⟨u,rfl,r⟩
theorem An5 {v:V}{u:Value}(r:RelV v u):PySem.W.handedIn u=true:=by
 cases v with
 |non=>cases(show u=Value.none from r);rfl
 |bl b=>cases(show u=Value.bool b from r);rfl
 |int i=>obtain⟨t,e⟩:=(show ∃t,u=Value.int i t from r);cases e;rfl
 |str x=>obtain⟨t,e⟩:=(show ∃t,u=Value.str x t from r);cases e;rfl
 |byt b=>obtain⟨t,e⟩:=(show ∃t,u=Value.bytes b t from r);cases e;rfl
 |flt b=>obtain⟨t,e⟩:=(show ∃t,u=Value.float b t from r);cases e;rfl
 |ref a=>cases(show u=Value.ref a from r);rfl
 |ty n=>cases(show u=Value.type n from r);rfl
section
variable {P:Program} {w:World} {H H':Hp} {h h':Heap} {a C dx:Addr} {fs fs':List (Str×V)}
theorem AQ5 (hok:HOk P w H h)(e:H a=some (.ins C dx fs)):∃mA,ObjM h a dx C mA/\(∀f,RelO (fs.lookup f) (mA f))/\PySem.Within mA (fs.map (·.1))/\fs.length<=1000/\H dx=some (.own a):=by
 obtain⟨d,z,ne,ob,mA,n,r,q⟩:=(show ObjOk P w H h a (.ins C dx fs)from hok a _ e)
 exact⟨mA,⟨ob,n,ne⟩,r,q,z,d⟩
end
structure Cls (K:PySem.W.Frag)(C:Addr):Prop where
 pg:PySem.W.plainGet K C Str.empty=true
 hd:PySem.W.hasDictIn K C=true
 po:PySem.W.plainOver K C=true
 sa:PySem.W.findIn K (.ref C) "__setattr__"=some (some (.builtin "object.__setattr__"))
theorem Cls.get {K:PySem.W.Frag}{C:Addr}(c:Cls K C)(f:Str):PySem.W.plainGet K C f=true:=c.pg
noncomputable def NoAttr (K:PySem.W.Frag)(C:Addr)(f:Str):Prop:=PySem.W.findIn K (.ref C) f=some none
theorem NoAttr.taker {K:PySem.W.Frag}{C:Addr}{f:Str}(n:NoAttr K C f):PySem.W.takerIn K C f=some none:=by
 unfold PySem.W.takerIn
 rw[show PySem.W.findIn K (.ref C) f=some none from n]
 rfl
section
variable {X:Cx} {pins:List (Addr×Obj)} {σ:St} {H:Hp} {s:Shared} {a C dx:Addr} {fs:List (Str×V)} {f:Str} {v:V} {A:Around} {E:Value->Shared->Prop}
theorem AB1 {b:Bool}{Q:Value->Shared->Prop}(I:Inv X pins σ H s)(e:H a=some (.ins C dx fs))(c:Cls X.K C)(n:NoAttr X.K C f)(l:fs.lookup f=some v)
  (h:∀u s',Inv X pins σ H s'->RelV v u->Q u s'):wpAny (model X.prog X.w) A (getAttr (.ref a) f b) Q E s:=by
 obtain⟨mA,O,r,_,_,_⟩:=AQ5 I.hok e
 obtain⟨u,hu,ru⟩:=RelO.some_of (v:=v) (o:=mA f) (by rw[←l];exact r f)
 exact BF2 I.kIn O (c.get f) c.hd n hu (An5 ru) (h u _ (I.tok _) ru)
theorem AA2 {y:V}{u:Value}{Q:Unit->Shared->Prop}(I:Inv X pins σ H s)(e:H a=some (.ins C dx fs))(c:Cls X.K C)(n:NoAttr X.K C f)(hl:fs.length<1000)(ry:RelV y u)
  (h:∀s',Inv X pins σ (upd H a (.ins C dx (C1 f y fs))) s'->Q () s'):wpAny (model X.prog X.w) A (setAttr (.ref a) f u) Q E s:=by
 obtain⟨mA,O,r,wi,_,ho⟩:=AQ5 I.hok e
 have hz:(fs.map (·.1)).length<=sizeLine:=by rw[List.length_map,sizeLine_eq];omega
 refine BA6 I.kIn O c.sa c.po n.taker c.hd wi hz fun h' O' sb=>h _ ?_
 have hd:∃o,h'.get? dx=some o:=let ⟨o,_,_,e',_⟩:=O'.ns;⟨o,e'⟩
 refine I.write (x:=a) (e:=dx) (by rw[e];exact True.intro) (.inr ho) (fun b q hb z=>(sb.2 b hb).trans z) hd ?_
 refine⟨by rw[A5 O.ne];exact ho,?_,O.ne,O'.obj,_,O'.ns,fun g=>?_,fun g hg=>?_⟩
 ·have:=u0 f y fs;omega
 ·show RelO ((C1 f y fs).lookup g) (if g=f then some u else mA g)
  rw[C9]
  by_cases q:g=f
  ·rw[if_pos q,if_pos q];exact ry
  ·rw[if_neg q,if_neg q];exact r g
 ·by_cases q:g=f
  ·rw[q];exact(m9 f y fs).1
  ·refine(m9 f y fs).2 g (wi g fun z=>hg ?_)
   show(if g=f then some u else mA g)=none
   rw[if_neg q];exact z
theorem Inv.made (I:Inv X pins σ H s):Inv X pins σ (upd (upd H s.heap.objs.size (.own (s.heap.objs.size+1))) (s.heap.objs.size+1) (.ins C s.heap.objs.size []))
  {s with heap:=(s.heap.push PySem.W.emptyDict).push (PySem.W.instObj C s.heap.objs.size)}:=by
 have e1:(s.heap.push PySem.W.emptyDict).get? s.heap.objs.size=some PySem.W.emptyDict:=Heap.get?_push_size s.heap rfl
 have e2:((s.heap.push PySem.W.emptyDict).push (PySem.W.instObj C s.heap.objs.size)).get? (s.heap.objs.size+1)=some (PySem.W.instObj C s.heap.objs.size):=by
  have:=Heap.get?_push_size (s.heap.push PySem.W.emptyDict) (o:=PySem.W.instObj C s.heap.objs.size) rfl
  rwa [Heap.size_push]at this
 have e3:(s.heap.push PySem.W.emptyDict).Ns s.heap.objs.size (fun _=>none):=⟨PySem.W.emptyDict,#[],_,e1,rfl,(fun e he=>absurd he (by simp)),fun _=>rfl⟩
 have I1:=I.laid (a:=s.heap.objs.size) (o:=.own (s.heap.objs.size+1)) (h':=s.heap.push PySem.W.emptyDict) (t':=s.toks) (fun b u q=>Heap.get?_push_of_some _ q) (Nat.le_refl _) ⟨_,e1⟩
 refine I1.laid (a:=s.heap.objs.size+1) (o:=.ins C s.heap.objs.size []) (t':=s.toks) (fun b u q=>Heap.get?_push_of_some _ q) (Nat.le_of_eq (Heap.size_push _ _)) ?_
 have ne:s.heap.objs.size≠s.heap.objs.size+1:=Nat.ne_of_lt (Nat.lt_succ_self _)
 refine⟨by rw[A5 ne,A1],Nat.zero_le _,ne,e2,fun _=>none,(Heap.Ns1.of_empty e3).at fun o q=>Heap.get?_push_of_some _ q,fun _=>True.intro,fun y hy=>absurd rfl hy⟩
theorem BB0 {prog:Program}{w:World}{env:Env}{e:Expr}{f:Str}{pos:Pos}{s:Shared}{Q:Value->Shared->Prop}(hb:attributeBase e f env (eval e env)=eval e env)
  (h:wpAny (model prog w) A (eval e env) (fun o s₁=>wpAny (model prog w) A (getAttr o f true) Q E s₁) E s):wpAny (model prog w) A (eval (.Attribute e f pos) env) Q E s:=
 Attribute_any_ h (by rw[arm_eval_Attribute,hb])
end
noncomputable def AZ7 (K:PySem.W.Frag)(ta:TE)(f:Str):TE:=fun σ H Q=>ta σ H fun x H1=>∃a C dx fs v,x=.ref a/\H1 a=some (.ins C dx fs)/\Cls K C/\NoAttr K C f/\fs.lookup f=some v/\Q v H1
noncomputable def BH1 (K:PySem.W.Frag)(ta tv:TE)(f:Str):TS:=fun D σ H=>tv σ H fun y H1=>ta σ H1 fun x H2=>∃a C dx fs,x=.ref a/\H2 a=some (.ins C dx fs)/\Cls K C/\NoAttr K C f/\fs.length<1000/\
 D.nx σ (upd H2 a (.ins C dx (C1 f y fs)))
noncomputable def Bb8 (X:Cx)(op:Operator)(rd:V->V->Hp->VK->Prop):Prop:=
 ∀(pins:List (Addr×Obj)) (s:Shared) (σ:St) (H:Hp) (x y:V) (u v:Value) (Q:VK),Inv X pins σ H s->RelV x u->RelV y v->rd x y H Q->wpAny (model X.prog X.w) X.A (inplaceOp op u v) (EP X pins σ Q) X.xe s
noncomputable def BD4 (K:PySem.W.Frag)(ta tv:TE)(rd:V->V->Hp->VK->Prop)(f:Str):TS:=fun D σ H=>ta σ H fun x H1=>∃a C dx fs v,x=.ref a/\H1 a=some (.ins C dx fs)/\Cls K C/\NoAttr K C f/\fs.lookup f=some v/\
 tv σ H1 fun y H2=>rd v y H2 fun z H3=>∃dx' fs',H3 a=some (.ins C dx' fs')/\fs'.length<1000/\D.nx σ (upd H3 a (.ins C dx' (C1 f z fs')))
section
variable {X:Cx} {o e value:Expr} {f:Str} {pos pos' tpos:Pos} {ta tv:TE}
theorem A8 (he:PE X e ta)(hb:attributeBase e f X.env (eval e X.env)=eval e X.env):PE X (.Attribute e f pos) (AZ7 X.K ta f):=by
 intro pins s σ H Q I h
 refine BB0 hb (thn (he pins s σ H _ I h) fun u s1 ⟨x,H1,I1,rx,a,C,dx,fs,v,ex,ea,c,n,l,q⟩=>?_)
 subst ex
 obtain rfl:u=Value.ref a:=rx
 exact AB1 I1 ea c n l fun u' s2 I2 ru=>⟨v,H1,I2,ru,q⟩
theorem C7 (ha:PE X o ta)(hv:PE X value tv)(hs:swapsWith value (some (.Attribute o f pos')) pos.line X.env=pure false):PS X (.Assign [.Attribute o f pos'] value pos) (BH1 X.K ta tv f):=by
 intro pins s σ H D I h
 refine plainObj_wpAny_Assign_Attribute (thn (hv pins s σ H _ I h) fun u s1 ⟨y,H1,I1,ry,q⟩=>thn (ha pins s1 σ H1 _ I1 q) fun ov s2 ⟨x,H2,I2,rx,a,C,dx,fs,ex,ea,c,n,l,q2⟩=>?_) hs
 subst ex
 obtain rfl:ov=Value.ref a:=rx
 exact AA2 I2 ea c n l ry fun s3 I3=>⟨σ,_,I3,q2⟩
theorem AM9 {op:Operator}{rd:V->V->Hp->VK->Prop}(ha:PE X o ta)(hv:PE X value tv)(hop:Bb8 X op rd):PS X (.AugAssign (.Attribute o f tpos) op value pos) (BD4 X.K ta tv rd f):=by
 intro pins s σ H D I h
 refine wpAny_AugAssign_AttributeAny (thn (ha pins s σ H _ I h) fun ov s1 ⟨x,H1,I1,rx,a,C,dx,fs,v,ex,ea,c,n,l,q⟩=>?_)
 subst ex
 obtain rfl:ov=Value.ref a:=rx
 refine AB1 I1 ea c n l fun u s2 I2 ru=>thn (hv pins s2 σ H1 _ I2 q) fun w3 s3 ⟨y,H2,I3,ry,q3⟩=>thn (hop pins s3 σ H2 v y u w3 _ I3 ru ry q3) fun w4 s4 ⟨z,H3,I4,rz,dx',fs',ea',l',q4⟩=>?_
 exact AA2 I4 ea' c n l' rz fun s5 I5=>⟨σ,_,I5,q4⟩
end
section
variable {X:Cx} {pins:List (Addr×Obj)} {σ:St} {H:Hp} {s:Shared} {A:Around} {E:Value->Shared->Prop} {Q:Value->Shared->Prop} {c:Value} {b:Bool}
inductive Ab0 (K:PySem.W.Frag) (H:Hp):V->Value->Prop where
 |non:Ab0 K H .non (.type "NoneType")
 |bl (x:Bool):Ab0 K H (.bl x) (.type "bool")
 |int (i:Int):Ab0 K H (.int i) (.type "int")
 |str (x:Str):Ab0 K H (.str x) (.type "str")
 |flt (x:UInt64):Ab0 K H (.flt x) (.type "float")
 |lst {a:Addr} {xs:List V} (e:H a=some (.lst xs)):Ab0 K H (.ref a) (.type "list")
 |frz {a:Addr} {o:Obj} {xs:List V} (e:H a=some (.frz o (.lst xs))):Ab0 K H (.ref a) (.type "list")
 |tup {a:Addr} {xs:List V} (e:H a=some (.tup xs)):Ab0 K H (.ref a) (.type "tuple")
 |dK {a:Addr} {kvs:List (Key×V)} (e:H a=some (.dK kvs)):Ab0 K H (.ref a) (.type "dict")
 |dT {a:Addr} {kvs:List (List Key×V)} (e:H a=some (.dT kvs)):Ab0 K H (.ref a) (.type "dict")
 |ins {a C dx:Addr} {fs:List (Str×V)} (e:H a=some (.ins C dx fs)) (cl:Cls K C) (ha:PySem.W.findIn K (.ref C) "__class__"=some (some (.builtin "object.__class__")))
   (hn:PySem.W.specialIn K (.builtin "object.__class__") "__get__"=some (some (.builtin "getset_descriptor.__get__"))) (htk:PySem.W.takesIn K (.builtin "object.__class__")=some true)
   (hm:PySem.W.mroIn K C (.type "object")=some true):Ab0 K H (.ref a) (.ref C)
theorem Aj5 {x:V}{u t:Value}(I:Inv X pins σ H s)(rx:RelV x u)(ty:Ab0 X.K H x t)(e:PySem.W.kitOne X.K t c=some b)(h:∀tk,Q (.bool b) {s with toks:=tk}):
  wpAny (model X.prog X.w) A (call (.builtin "isinstance") [u,c]) Q E s:=by
 cases ty with
 |non=>cases(show u=Value.none from rx);exact PySem.W.kia_one PySem.W.kitx_none I.kIn True.intro e (fun z=>nomatch z) h
 |bl y=>cases(show u=Value.bool y from rx);exact PySem.W.kia_one PySem.W.kitx_bool I.kIn True.intro e (fun z=>nomatch z) h
 |int i=>obtain⟨t,q⟩:=(show ∃t,u=Value.int i t from rx);cases q;exact PySem.W.kia_one PySem.W.kitx_int I.kIn True.intro e (fun z=>nomatch z) h
 |str y=>obtain⟨t,q⟩:=(show ∃t,u=Value.str y t from rx);cases q;exact PySem.W.kia_one PySem.W.kitx_str I.kIn True.intro e (fun z=>nomatch z) h
 |flt y=>obtain⟨t,q⟩:=(show ∃t,u=Value.float y t from rx);cases q;exact PySem.W.kia_one PySem.W.kitx_float I.kIn True.intro e (fun z=>nomatch z) h
 | @lst a xs ea=>
  cases(show u=Value.ref a from rx)
  obtain⟨_,_,n,_,h1⟩:=(show ObjOk X.prog X.w H s.heap a (.lst xs)from I.hok a _ ea)
  exact PySem.W.kia_one PySem.W.kitx_list I.kIn ⟨_,h1,rfl⟩ e (fun z=>nomatch z) h
 | @frz a ob xs ea=>
  cases(show u=Value.ref a from rx)
  obtain⟨_,_,_,n,_,h1⟩:=(show ObjOk X.prog X.w H s.heap a (.frz ob (.lst xs))from I.hok a _ ea)
  exact PySem.W.kia_one PySem.W.kitx_list I.kIn ⟨_,h1,rfl⟩ e (fun z=>nomatch z) h
 | @tup a xs ea=>
  cases(show u=Value.ref a from rx)
  obtain⟨_,_,_,p⟩:=(show ObjOk X.prog X.w H s.heap a (.tup xs)from I.hok a _ ea)
  obtain⟨o,h1,h2,_⟩:=p
  exact PySem.W.kia_one PySem.W.kitx_tuple I.kIn ⟨o,h1,h2⟩ e (fun z=>nomatch z) h
 | @dK a kvs ea=>
  cases(show u=Value.ref a from rx)
  obtain⟨_,_,vs,_,p⟩:=(show ObjOk X.prog X.w H s.heap a (.dK kvs)from I.hok a _ ea)
  obtain⟨o,es,ep,h1,h2,_⟩:=p
  exact PySem.W.kia_one PySem.W.kitx_dict I.kIn ⟨o,h1,h2.1⟩ e (fun z=>nomatch z) h
 | @dT a kvs ea=>
  cases(show u=Value.ref a from rx)
  obtain⟨_,_,xs,_,o,es,ep,h1,h2,_⟩:=(show ObjOk X.prog X.w H s.heap a (.dT kvs)from I.hok a _ ea)
  exact PySem.W.kia_one PySem.W.kitx_dict I.kIn ⟨o,h1,h2.1⟩ e (fun z=>nomatch z) h
 | @ins a C dx fs ea cl ha hn htk hm=>
  cases(show u=Value.ref a from rx)
  obtain⟨mA,O,_⟩:=AQ5 I.hok ea
  obtain⟨od,J,_⟩:=O.look
  exact PySem.W.kia_one (PySem.W.kitx_own (cl.get _) cl.hd ha hn htk hm) I.kIn J e (fun z=>nomatch z) h
end
end L2
namespace L2
open PySem PySem.Spec PyProof.Rows
structure Room (k:Nat)(A:Around):Prop where
 hd:A.handled=none
 dp:A.depth+3*k+5<recursionLimit
 un:A.units+16*k+200<cLine
theorem Room.mono {j k:Nat}{A:Around}(r:Room k A)(h:j<=k):Room j A:=⟨r.hd,by have:=r.dp;omega,by have:=r.un;omega⟩
theorem Room.deeper {k:Nat}{A:Around}(r:Room (k+1) A)(env:Env):Room k (A.deeper env):=
 ⟨r.hd,by have:=r.dp;show A.depth+1+3*k+5<_;omega,by have:=r.un;show A.units+3+16*k+200<_;omega⟩
theorem AZ4 {A:Around}{C:Addr}{us:List Value}{kw:List (Str×Value)}:(A.under (.builtin "type.__call__" ⟨.ref C::us,kw⟩)).depth=A.depth+1:=by
 first |rfl |simp[Around.under,Code.weight,Code.isCreation,Code.isGuard,Code.isCaller,Code.frames,Code.isFrame,guardIds]
theorem AY1 {A:Around}{C:Addr}{us:List Value}{kw:List (Str×Value)}:(A.under (.builtin "type.__call__" ⟨.ref C::us,kw⟩)).units=A.units+1:=by
 first |rfl |simp[Around.under,Code.cUnits,Code.frames,Code.isFrame]
theorem Room.make {k:Nat}{A:Around}(r:Room (k+1) A)(C:Addr)(us:List Value)(kw:List (Str×Value)):Room k (A.under (.builtin "type.__call__" ⟨.ref C::us,kw⟩)):=
 ⟨r.hd,by have:=r.dp;rw[AZ4];omega,by have:=r.un;rw[AY1];omega⟩
theorem Room.depth {k:Nat}{A:Around}(r:Room k A):A.depth<recursionLimit:=by have:=r.dp;omega
theorem Room.units {k:Nat}{A:Around}(r:Room k A):A.units+64<cLine:=by have:=r.un;omega
noncomputable def AO5:TA:=fun _ H Q=>Q [] H
noncomputable def K6 (ta:TE)(tr:TA):TA:=fun σ H Q=>ta σ H fun x H1=>tr σ H1 fun xs H2=>Q (x::xs) H2
section
variable {X:Cx} {e:Expr} {es:List Expr} {te:TE} {t:TA} {pos:Pos}
theorem A6:PA X [] AO5:=fun _ _ _ _ H Q I h=>Calls.spliced_nil ⟨[],H,I,.nil,h⟩
theorem A0 (ha:PE X e te)(hr:PA X es t)(hs:starEach (e::es) X.env=(false,eval e X.env)::starEach es X.env:=by rfl):PA X (e::es) (K6 te t):=by
 intro pos pins s σ H Q I h
 rw[hs]
 show wpAny _ _ (spliced ((false,eval e X.env)::backTo pos (starEach es X.env))) _ _ s
 refine Calls.spliced_cons (thn (ha pins s σ H _ I h) fun u s1 ⟨x,H1,I1,r1,q1⟩=>?_)
 exact thn (hr pos pins s1 σ H1 _ I1 q1) fun us s2 ⟨xs,H2,I2,r2,q2⟩=>⟨x::xs,H2,I2,.cons r1 r2,q2⟩
noncomputable def BU5 (t:TA):TE:=fun σ H Q=>t σ H fun xs H1=>xs.length<=sizeLine/\∀p,H1 p=none->Q (.ref p) (upd H1 p (.tup xs))
noncomputable def Bb0 (t:TA):TE:=fun σ H Q=>t σ H fun xs H1=>xs.length<=sizeLine/\∀p,H1 p=none->Q (.ref p) (upd H1 p (.lst xs))
theorem AA5 {x1}(h:PA X es t):PE X (.Tuple es x1 pos) (BU5 t):=by
 intro pins s σ H Q I hq
 refine wpAny_Tuple_spliced (thn (h pos pins s σ H _ I hq) fun us s1 ⟨xs,H1,I1,r,z,q⟩=>⟨by rw[←r.length];exact z,?_⟩)
 have hf:H1 s1.heap.objs.size=none:=I1.hok.fresh (Nat.le_refl _)
 refine⟨.ref s1.heap.objs.size,upd H1 s1.heap.objs.size (.tup xs),I1.laid (t':=s1.toks) (fun b u e=>Heap.get?_push_of_some _ e) (Nat.le_refl _) ?_,rfl,q _ hf⟩
 exact⟨z,us,r,⟨_,Heap.get?_push_size _ rfl,rfl,_,rfl⟩⟩
theorem K8 (h:PA X es t):PE X (.List es pos) (Bb0 t):=by
 intro pins s σ H Q I hq
 refine wpAny_List_spliced (thn (h pos pins s σ H _ I hq) fun us s1 ⟨xs,H1,I1,r,z,q⟩=>⟨by rw[←r.length];exact z,?_⟩)
 have hf:H1 s1.heap.objs.size=none:=I1.hok.fresh (Nat.le_refl _)
 refine⟨.ref s1.heap.objs.size,upd H1 s1.heap.objs.size (.lst xs),I1.laid (t':=s1.toks) (fun b u e=>Heap.get?_push_of_some _ e) (Nat.le_refl _) ?_,rfl,q _ hf⟩
 exact⟨z,us,0,r,Heap.get?_push_size _ rfl⟩
end
noncomputable abbrev Sp:=List V->Hp->VK->XK->Prop
noncomputable abbrev CXT:=List Env->Hp->Shared->XK->Value->Shared->Prop
structure Env0 (P:Program)(w:World)(K:PySem.W.Frag)(mg:Str->Option Value)(base:Heap)(A:Around)(outer:List Env)(s:Shared)(H:Hp):Prop where
 frames:A.frames=some outer
 mod:Mod K mg base
 bs:∀b o,base.get? b=some o->s.heap.get? b=some o/\H b=none
 bsz:base.objs.size<=s.heap.objs.size
 funs:s.heap.FunFrames base outer
 frf:∀b∈frs outer,H b=none
 hok:HOk P w H s.heap
 bare:AllBare s.gens
noncomputable def CE (outer:List Env)(P:Program)(w:World)(H:Hp)(s:Shared)(Q:VK)(u:Value)(s':Shared):Prop:=
 ∃v H',s'.os=s.os/\AllBare s'.gens/\Un (frs outer) [] H H' s.heap s'.heap/\HOk P w H' s'.heap/\RelV v u/\Q v H'
noncomputable def CR (CX:CXT)(outer:List Env)(P:Program)(w:World)(H:Hp)(s:Shared)(Q:VK)(E:XK)(r:Result)(s':Shared):Prop:=
 match r with
 |.ok (.ret u)=>CE outer P w H s Q u s'
 |.ok _=>False
 |.error e=>CX outer H s E e s'
structure D3 (P:Program)(w:World)(K:PySem.W.Frag)(mg:Str->Option Value)(base:Heap)(CX:CXT)(k:Nat)(f:Addr)(fd:FuncData)(ps:List Str)(sp:Sp):Prop where
 len:∀vs H Q E,sp vs H Q E->vs.length=ps.length
 run:∀(A:Around) (outer:List Env) (s:Shared) (H:Hp) (args:Args) (us:List Value) (vs:List V) (Q:VK) (E:XK),Room k A->Env0 P w K mg base A outer s H->BindsTo s fd args (ps.zip us)->Vals vs us->sp vs H Q E->
  codeAny (model P w) A (.call (.ref f) args) (CR CX outer P w H s Q E) s
theorem Env0.make {P:Program}{w:World}{K:PySem.W.Frag}{mg:Str->Option Value}{base:Heap}{A:Around}{outer:List Env}{s:Shared}{H:Hp}(e:Env0 P w K mg base A outer s H)(C:Addr)(us:List Value)(kw:List (Str×Value)):
  Env0 P w K mg base (A.under (.builtin "type.__call__" ⟨.ref C::us,kw⟩)) outer s H:=⟨by first |exact e.frames |(simpa [Around.under,Code.envs,Code.isFrame,pushEnvs]using e.frames),e.mod,e.bs,e.bsz,e.funs,e.frf,e.hok,e.bare⟩
section
variable {X:Cx} {pins:List (Addr×Obj)} {σ:St} {H:Hp} {s s':Shared}
theorem Inv.env0 (I:Inv X pins σ H s):Env0 X.prog X.w X.K X.mg X.base X.A X.stack s H:=
 ⟨I.ok.frames,I.ok.mod,I.bs,Nat.le_trans I.ok.bsz I.sz,I.stack,I.stkFree,I.hok,I.bare⟩
theorem Inv.after {Q:VK}{u:Value}(I:Inv X pins σ H s)(h:CE X.stack X.prog X.w H s Q u s'):EP X pins σ Q u s':=by
 obtain⟨v,H',os,bare,un,hok,r,q⟩:=h
 obtain⟨hh,g,d,t,os'⟩:=s'
 obtain rfl:os'=s.os:=os
 exact⟨v,H',I.call (h':=hh) (g':=g) (d':=d) (t':=t) (ch:=[]) un hok bare (fun b z=>absurd z (by simp)),r,q⟩
end
noncomputable def Aa2 (sp:Sp)(dvs:List V)(E:XK)(t:TA):TE:=fun σ H Q=>t σ H fun vs H1=>sp (vs++dvs) H1 Q E
noncomputable def AZ9 (C:Addr)(sp:Sp)(dvs:List V)(E:XK)(t:TA):TE:=fun σ H Q=>t σ H fun vs H1=>∀x dx,H1 x=none->H1 dx=none->dx≠x->
 sp (.ref x::(vs++dvs)) (upd (upd H1 dx (.own x)) x (.ins C dx [])) (fun v H2=>v=.non/\Q (.ref x) H2) E
noncomputable def Binds (K:PySem.W.Frag)(fd:FuncData)(ps:List Str)(ds:List Value):Prop:=
 ∀(s:Shared) (us:List Value),K.In s.heap->(us++ds).length=ps.length->BindsTo s fd ⟨us,[]⟩ (ps.zip (us++ds))
theorem Binds.all {K:PySem.W.Frag}{fd:FuncData}{ps:List Str}(h:∀us:List Value,us.length=ps.length->bindArgs fd ⟨us,[]⟩=pure (ps.zip us)):Binds K fd ps []:=fun s us _ hl=>by
 rw[List.append_nil]at hl ⊢
 exact .of_eq (h us hl)
noncomputable def AA9 (CX:CXT)(X:Cx)(E:XK):Prop:=∀(pins:List (Addr×Obj)) (σ:St) (H:Hp) (s:Shared) (e:Value) (s':Shared),Inv X pins σ H s->CX X.stack H s E e s'->X.xe e s'
section
variable {X:Cx} {CX:CXT} {k:Nat} {f C:Addr} {fd:FuncData} {ps:List Str} {sp:Sp} {dvs:List V} {ds:List Value} {E:XK} {x m:Str} {p pos apos:Pos} {e o:Expr} {es:List Expr} {ta:TE} {t:TA}
theorem A05 {pins:List (Addr×Obj)}{σ:St}{H:Hp}{s:Shared}{Q:VK}{us:List Value}{vs:List V}(F:D3 X.prog X.w X.K X.mg X.base CX k f fd ps sp)(hr:Room k X.A)(hb:Binds X.K fd ps ds)(hd:Vals dvs ds)(hx:AA9 CX X E)
  (I:Inv X pins σ H s) (r:Vals vs us) (h:sp (vs++dvs) H Q E):wpAny (model X.prog X.w) X.A (call (.ref f) us) (EP X pins σ Q) X.xe s:=by
 have r2:Vals (vs++dvs) (us++ds):=r.append hd
 have hl:(us++ds).length=ps.length:=by rw[←r2.length];exact F.len _ _ _ _ h
 refine wpAny_call (codeAny_mono (F.run X.A X.stack s H ⟨us,[]⟩ (us++ds) (vs++dvs) Q E hr I.env0 (hb s us I.kIn hl) r2 h) fun r s' hq=>?_)
 cases r with
 |error e=>exact hx pins σ H s e s' I hq
 |ok fl=>
  cases fl with
  |ret u=>exact I.after hq
  |next=>exact False.elim hq
  |brk=>exact False.elim hq
  |cont=>exact False.elim hq
theorem BF3 (F:D3 X.prog X.w X.K X.mg X.base CX k f fd ps sp)(hr:Room k X.A)(hg:Gl X x)(hm:X.mg x=some (.ref f))(hk:PySem.W.keepIn X.K (.ref f)=true)(hb:Binds X.K fd ps ds)(hd:Vals dvs ds)(hx:AA9 CX X E)
  (ha:PA X (e::es) t) (hdb:(x==("__debug__":Str))=false:=by decide) (he:starEach (e::es) X.env=(false,eval e X.env)::starEach es X.env:=by rfl) (hpl:(backTo pos (starEach es X.env)).any (·.1)=false:=by rfl):
  PE X (.Call (.Name x p) (e::es) [] pos) (Aa2 sp dvs E t):=by
 intro pins s σ H Q I h
 refine wpAny_Call_Name_kw (AC2 I hg hm ?_ hdb)
 refine PySem.W.callWith_K (h₀:=X.base) I.ok.mod.kin hk (thn (ha pos pins s σ H _ I h) fun us s1 ⟨vs,H1,I1,r,q⟩=>⟨I1.kIn,?_⟩) he hpl
 exact A05 F hr hb hd hx I1 r q
theorem Ax8 (F:D3 X.prog X.w X.K X.mg X.base CX k f fd ps sp)(hr:Room k X.A)(hg:Gl X x)(hm:X.mg x=some (.ref f))(hk:PySem.W.keepIn X.K (.ref f)=true)(hb:Binds X.K fd ps ds)(hd:Vals dvs ds)(hx:AA9 CX X E)
  (hdb:(x==("__debug__":Str))=false:=by decide):PE X (.Call (.Name x p) [] [] pos) (Aa2 sp dvs E AO5):=by
 intro pins s σ H Q I h
 refine wpAny_Call_Name_kw (AC2 I hg hm ?_ hdb)
 exact PySem.W.callWith_K0 I.kIn hk (A05 (us:=[]) F hr hb hd hx I .nil h)
structure Mk (K:PySem.W.Frag)(C f:Addr):Prop where
 makes:PySem.W.makesIn K C=true
 init:PySem.W.findIn K (.ref C) "__init__"=some (some (.ref f))
 fn:PySem.W.isFn K (.ref f)=true
 kp:PySem.W.keepIn K (.ref C)=true
theorem At0 {pins:List (Addr×Obj)}{σ:St}{H:Hp}{s:Shared}{Q:VK}{us:List Value}{vs:List V}(M:Mk X.K C f)(F:D3 X.prog X.w X.K X.mg X.base CX k f fd ps sp)(hr:Room (k+1) X.A)(hb:Binds X.K fd ps ds)(hd:Vals dvs ds)
  (hx:AA9 CX X E) (I:Inv X pins σ H s) (r:Vals vs us)
  (h:∀x dx,H x=none->H dx=none->dx≠x->sp (.ref x::(vs++dvs)) (upd (upd H dx (.own x)) x (.ins C dx [])) (fun v H2=>v=.non/\Q (.ref x) H2) E):
  wpAny (model X.prog X.w) X.A (call (.ref C) us) (EP X pins σ Q) X.xe s:=by
 have hq:=h (s.heap.objs.size+1) s.heap.objs.size (I.hok.fresh (Nat.le_succ _)) (I.hok.fresh (Nat.le_refl _)) (Nat.ne_of_lt (Nat.lt_succ_self _))
 have I2:=Inv.made (C:=C) I
 have r2:Vals (V.ref (s.heap.objs.size+1)::(vs++dvs)) (Value.ref (s.heap.objs.size+1)::(us++ds)):=.cons rfl (r.append hd)
 have hl:(Value.ref (s.heap.objs.size+1)::us++ds).length=ps.length:=by
  have e:=r2.length
  rw[F.len _ _ _ _ hq]at e
  exact e.symm
 refine wpAny_call (Aw1 (f:=f) I.kIn M.makes M.init (beq_iff_eq.mp M.fn) (codeAny_mono (F.run _ X.stack _ _ ⟨Value.ref (s.heap.objs.size+1)::us,[]⟩ (Value.ref (s.heap.objs.size+1)::(us++ds)) _ _ E (hr.make C us [])
  (I2.env0.make C us []) (hb _ (Value.ref (s.heap.objs.size+1)::us) I2.kIn hl) r2 hq) fun r s' hq'=>?_))
 cases r with
 |error e=>exact hx pins σ _ _ e s' I2 hq'
 |ok fl=>
  cases fl with
  |ret u=>
   obtain⟨v,H',I3,rv,ev,q3⟩:=I2.after hq'
   subst ev
   exact⟨rv,⟨V.ref (s.heap.objs.size+1),H',I3,rfl,q3⟩⟩
  |next=>exact False.elim hq'
  |brk=>exact False.elim hq'
  |cont=>exact False.elim hq'
theorem AD0 (M:Mk X.K C f)(F:D3 X.prog X.w X.K X.mg X.base CX k f fd ps sp)(hr:Room (k+1) X.A)(hg:Gl X x)(hm:X.mg x=some (.ref C))(hb:Binds X.K fd ps ds)(hd:Vals dvs ds)(hx:AA9 CX X E)
  (ha:PA X (e::es) t) (hdb:(x==("__debug__":Str))=false:=by decide) (he:starEach (e::es) X.env=(false,eval e X.env)::starEach es X.env:=by rfl) (hpl:(backTo pos (starEach es X.env)).any (·.1)=false:=by rfl):
  PE X (.Call (.Name x p) (e::es) [] pos) (AZ9 C sp dvs E t):=by
 intro pins s σ H Q I h
 refine wpAny_Call_Name_kw (AC2 I hg hm ?_ hdb)
 refine PySem.W.callWith_K (h₀:=X.base) I.ok.mod.kin M.kp (thn (ha pos pins s σ H _ I h) fun us s1 ⟨vs,H1,I1,r,q⟩=>⟨I1.kIn,?_⟩) he hpl
 exact At0 M F hr hb hd hx I1 r q
end
section
variable {X:Cx} {CX:CXT} {k:Nat} {f C:Addr} {fd:FuncData} {ps ks:List Str} {sp:Sp} {E:XK} {x m:Str} {p pos apos kpos:Pos} {e o:Expr} {es:List Expr} {kws:List Keyword} {te ta:TE} {t tk:TA} {nm:Option Str}
variable {g:List Value->List Value->List Value} {gV:List V->List V->List V}
end
structure B8 (N P:List Str)(sc:Scope):Prop where
 kind:sc.kind=.function
 co:sc.isCoroutine=false
 gen:sc.isGenerator=false
 nd:N.Nodup
 pre:N.take P.length=P
 par:∀x∈P,sc.names.lookup x=some .local∨sc.names.lookup x=some .cell
 nofree:∀y∈sc.names,y.2≠.free
theorem AJ0 {kindOf:Str->Option NameKind}{x:Str}:∀{binds:List (Str×Value)} {m:Str->Option Value},(∀v,(x,v)∉binds)->bindL kindOf binds m x=m x
 |[],_,_=>rfl
 |(n,v)::r,m,h=>by
  unfold bindL
  rw[AJ0 fun w hw=>h w (List.mem_cons_of_mem _ hw)]
  split
  ·have:x≠n:=by rintro rfl;exact h v List.mem_cons_self
   simp[this]
  ·rfl
theorem AM0 {kindOf:Str->Option NameKind}{x:Str}:∀{binds:List (Str×Value)} {m:Str->Option Value},(∀v,(x,v)∉binds)->bindC kindOf binds m x=m x
 |[],_,_=>rfl
 |(n,v)::r,m,h=>by
  unfold bindC
  rw[AM0 fun w hw=>h w (List.mem_cons_of_mem _ hw)]
  split
  ·rfl
  ·have:x≠n:=by rintro rfl;exact h v List.mem_cons_self
   simp[this]
theorem AK2 {kindOf:Str->Option NameKind}{x:Str}{v:Value}:∀{P:List Str} {vs:List Value} {i:Nat} {m:Str->Option Value},P.Nodup->P[i]?=some x->vs[i]?=some v->kindOf x=some .local->
  bindL kindOf (P.zip vs) m x=some v
 |[],_,_,_,_,h,_,_=>by simp at h
 |_::_,[],_,_,_,_,h,_=>by simp at h
 |p::P,w::vs,0,m,nd,h1,h2,hk=>by
  simp at h1 h2;subst h1;subst h2
  show bindL kindOf ((p,w)::P.zip vs) m p=_
  unfold bindL
  rw[AJ0 fun v hv=>(List.nodup_cons.mp nd).1 (List.of_mem_zip hv).1,if_pos hk]
  simp
 |p::P,w::vs,i+1,m,nd,h1,h2,hk=>by
  show bindL kindOf ((p,w)::P.zip vs) m x=_
  unfold bindL
  exact AK2 (i:=i) (List.nodup_cons.mp nd).2 (by simpa using h1) (by simpa using h2) hk
theorem AI3 {kindOf:Str->Option NameKind}{x:Str}{v:Value}:∀{P:List Str} {vs:List Value} {i:Nat} {m:Str->Option Value},P.Nodup->P[i]?=some x->vs[i]?=some v->kindOf x≠some .local->
  bindC kindOf (P.zip vs) m x=some v
 |[],_,_,_,_,h,_,_=>by simp at h
 |_::_,[],_,_,_,_,h,_=>by simp at h
 |p::P,w::vs,0,m,nd,h1,h2,hk=>by
  simp at h1 h2;subst h1;subst h2
  show bindC kindOf ((p,w)::P.zip vs) m p=_
  unfold bindC
  rw[AM0 fun v hv=>(List.nodup_cons.mp nd).1 (List.of_mem_zip hv).1,if_neg hk]
  simp
 |p::P,w::vs,i+1,m,nd,h1,h2,hk=>by
  show bindC kindOf ((p,w)::P.zip vs) m x=_
  unfold bindC
  exact AI3 (i:=i) (List.nodup_cons.mp nd).2 (by simpa using h1) (by simpa using h2) hk
noncomputable def start (N:List Str)(vs:List V):St:=vs.map some++List.replicate (N.length-vs.length) none
noncomputable def BH2 (CX:CXT)(P:Program)(w:World)(K:PySem.W.Frag)(mg:Str->Option Value)(base:Heap)(N:List Str)(qual:Str)(scope:Scope)(f:Addr)(cd:Value)(A:Around)(outer:List Env)(s:Shared)(H:Hp)(E:XK):Cx where
 prog:=P
 w:=w
 K:=K
 mg:=mg
 base:=base
 A:=A.deeper (envOfC qual scope s.heap.objs.size f cd)
 N:=N
 s_0:=s
 H_0:=H
 env:=envOfC qual scope s.heap.objs.size f cd
 outer:=outer
 stack:=envOfC qual scope s.heap.objs.size f cd::outer
 ex:=[]
 calm:=true
 fn:=fun _=>true
 pn:=[]
 xe:=fun e s'=>wpAny (model P w) (A.deeper (envOfC qual scope s.heap.objs.size f cd)) (leaving (envOfC qual scope s.heap.objs.size f cd) e) (fun _ s''=>CX outer H s E e s'') (fun e' s''=>CX outer H s E e' s'') s'
theorem AT3 {sc:Scope}{n:Nat}{x:Str}(h:sc.names.lookup x=some .cell):∃c,(cellsFrom n sc.names []).lookup x=some c:=by
 have q:=PySem.W.cellsFrom_some sc.names n [] (.inl h)
 exact Option.isSome_iff_exists.mp q
theorem Al5 {CX:CXT}{P:Program}{w:World}{K:PySem.W.Frag}{mg:Str->Option Value}{base:Heap}{N ps:List Str}{qual:Str}{scope:Scope}{f:Addr}{cd:Value}{A:Around}{outer:List Env}{s s1:Shared}{H:Hp}{E:XK}{us:List Value}{vs:List V}
  (S:B8 N ps scope) (hd:A.handled=none) (e0:Env0 P w K mg base A outer s H) (hl:vs.length=ps.length) (r:Vals vs us)
  (x:InCallC s s.heap.objs.size (bindL (envOfC qual scope s.heap.objs.size f cd).kindOf (ps.zip us) fun _=>none) (cellsFrom (s.heap.objs.size+1) scope.names []) (bindC (envOfC qual scope s.heap.objs.size f cd).kindOf (ps.zip us) fun _=>none) s1):
  Inv (BH2 CX P w K mg base N qual scope f cd A outer s H E) [] (start N vs) H s1:=by
 have hpl:ps.length<=N.length:=by have:=congrArg List.length S.pre;rw[List.length_take]at this;omega
 obtain⟨h1,tk,rfl,hk⟩:=x.done
 have noA:∀b:Addr,b∉(BH2 CX P w K mg base N qual scope f cd A outer s H E).ex:=fun b z=>absurd (show b∈([]:List Addr)from z) (by simp)
 refine⟨⟨e0.mod,S.kind,rfl,rfl,Nat.le_refl _,fun y z c h1 h2=>?_,fun y hy=>?_,fun y c _ h=>?_,fun _=>hd,Around.frames_deeper e0.frames,.inr ⟨rfl,rfl⟩,fun b z=>absurd z (noA b),e0.bs,e0.bsz,fun b _ _=>noA b,fun b z=>absurd z (noA b),e0.funs,e0.frf⟩,
  rfl,e0.bare,Un.kept hk,⟨_,x.toInCall.ns,fun i y v h1 h2 h3=>?_⟩,fun y c h=>⟨_,x.cell y c h⟩,e0.hok.fresh (Nat.le_refl _),fun y c h=>?_,fun p hp=>absurd (show p∈([]:List (Addr×Obj))from hp) (by simp),e0.hok.kept hk,?_⟩
 ·exact name_of_addr x.apart (PySem.mem_of_lookup h1) (PySem.mem_of_lookup h2)
 ·have hy:scope.names.lookup y=some .cell∨scope.names.lookup y=some .free:=hy
  rcases hy with hy |hy
  ·exact AT3 hy
  ·exact absurd rfl (S.nofree _ (PySem.mem_of_lookup hy))
 ·exact Nat.le_of_lt (x.above y c (PySem.mem_of_lookup h))
 ·have hi:i<vs.length:=by
   unfold start at h2
   by_cases hi:i<vs.length
   ·exact hi
   ·rw[List.getElem?_append_right (by simpa using hi)]at h2
    rw[List.getElem?_replicate]at h2
    split at h2<;>cases h2
  have ha:vs[i]?=some v:=by
   unfold start at h2
   rw[List.getElem?_append_left (by simpa using hi),List.getElem?_map]at h2
   cases e:vs[i]? with
   |none=>rw[e]at h2;cases h2
   |some a=>rw[e]at h2;cases h2;rfl
  obtain⟨u,hu,rv⟩:=r.get ha
  have hp:ps[i]?=some y:=by
   rw[←S.pre,List.getElem?_take_of_lt (by omega)];exact h1
  have ndP:ps.Nodup:=by rw[←S.pre];exact S.nd.sublist (List.take_sublist _ _)
  refine⟨u,rv,?_⟩
  rcases S.par y (List.mem_of_getElem? hp)with k |k
  ·exact .inl ⟨k,AK2 ndP hp hu k⟩
  ·obtain⟨c,e⟩:=AT3 (n:=s.heap.objs.size+1) k
   refine .inr ⟨.inl k,c,e,?_⟩
   have q:=x.cell y c e
   rw[AI3 ndP hp hu (by show scope.names.lookup y≠_;rw[k];decide)]at q
   exact q
 ·exact e0.hok.fresh (Nat.le_of_lt (x.above y c (PySem.mem_of_lookup h)))
 ·unfold start
  show _=N.length
  rw[List.length_append,List.length_map,List.length_replicate]
  omega
theorem BU4 {CX:CXT}{P:Program}{w:World}{K:PySem.W.Frag}{mg:Str->Option Value}{base:Heap}{k:Nat}{f:Addr}{name qual:Str}{params:Arguments}{body:List Stmt}{scope:Scope}{dV kV doc pm cdv ct oc:Value}{an od:Option Addr}
  {osl:Array (Option Value)} {N ps:List Str} {sp:Sp} (lk:K.lookup f=some ⟨oc,od,.func (PySem.W.fnOf name qual params body scope dV kV doc pm an cdv ct),osl⟩) (hcd:PySem.W.codeIn K cdv qual=true) (S:B8 N ps scope)
  (len:∀vs H Q E,sp vs H Q E->vs.length=ps.length)
  (hbody:∀(A:Around) (outer:List Env) (s:Shared) (H:Hp) (vs:List V) (Q:VK) (E:XK),Room k (A.deeper (envOfC qual scope s.heap.objs.size f cdv))->sp vs H Q E->
   ∃t,PSs (BH2 CX P w K mg base N qual scope f cdv A outer s H E) body t/\t {nx:=fun _ H'=>Q .non H',rt:=Q} (start N vs) H):
  D3 P w K mg base CX (k+1) f (PySem.W.fnOf name qual params body scope dV kV doc pm an cdv ct) ps sp:=by
 refine⟨len,fun A outer s H args us vs Q E hr e0 hb r hsp=>?_⟩
 have hl:=len _ _ _ _ hsp
 have KX:K.In s.heap:=e0.mod.kin.keeps fun b o e=>(e0.bs b o e).1
 have lim:s.heap.NoLimit:=e0.mod.nolimit.keeps fun b o e=>(e0.bs b o e).1
 have hkind:∀y∈ps.zip us,scope.names.lookup y.1=some .local∨(scope.names.lookup y.1=some .cell/\((cellsFrom (s.heap.objs.size+1) scope.names []).lookup y.1).isSome=true):=fun⟨n,v⟩ hy=>by
  rcases S.par n (List.of_mem_zip hy).1 with q |q
  ·exact .inl q
  ·exact .inr ⟨q,PySem.W.cellsFrom_some _ _ _ (.inl q)⟩
 refine codeAny_call_function hr.depth (KX _ _ lk) rfl S.co S.gen rfl (PySem.W.codeRec_of KX hcd) (hb _ _ _ _ ?_)
 refine wpAny_newFunctionEnv_cells S.kind hkind fun env he s1 x=>?_
 subst he
 refine⟨lim.keeps x.toInCall.keep,codeAny_func ?_⟩
 obtain⟨t,ht,hq⟩:=hbody A outer s H vs Q E (hr.deeper _) hsp
 have I:Inv (BH2 CX P w K mg base N qual scope f cdv A outer s H E) [] (start N vs) H s1:=Al5 S hr.hd e0 hl r x
 refine wpAny_mono (ht [] s1 (start N vs) H _ I hq) (fun fl s' hs=>?_) fun e s' hs=>hs
 have fin:∀{σ':St} {H':Hp} {v:V} {u:Value},Inv (BH2 CX P w K mg base N qual scope f cdv A outer s H E) [] σ' H' s'->RelV v u->Q v H'->CE outer P w H s Q u s':=
  fun {σ' H' v u} J rv q=>⟨v,H',J.os,J.bare,J.base,J.hok,rv,q⟩
 cases fl with
 |ret u=>
  obtain⟨v,σ',H',J,rv,q⟩:=hs
  exact fin J rv q
 |next=>
  obtain⟨σ',H',J,q⟩:=hs
  exact fin (v:=V.non) (u:=Value.none) J rfl q
 |brk=>
  obtain⟨_,_,_,q⟩:=hs
  exact False.elim q
 |cont=>
  obtain⟨_,_,_,q⟩:=hs
  exact False.elim q
end L2
namespace L2
open PySem PySem.Spec PyProof.Rows
section
variable {X:Cx} {x:Str} {p pos:Pos} {e:Expr} {es:List Expr} {t:TA} {id T:String} {r:List V->Hp->VK->Prop}
noncomputable def tCB (r:List V->Hp->VK->Prop)(t:TA):TE:=fun σ H Q=>t σ H fun vs H1=>r vs H1 Q
theorem F0 (hc:Av8 X (.builtin id) r)(hg:Gl X x)(hm:X.mg x=none)(hv:bootBuiltins x=some (.builtin id))(ha:PA X (e::es) t)(hn:x≠"__name__":=by decide)(hdb:(x==("__debug__":Str))=false:=by decide)
  (he:starEach (e::es) X.env=(false,eval e X.env)::starEach es X.env:=by rfl) (hpl:(backTo pos (starEach es X.env)).any (·.1)=false:=by rfl):PE X (.Call (.Name x p) (e::es) [] pos) (tCB r t):=by
 intro pins s σ H Q I h
 refine wpAny_Call_Name_kw (AM1 I hg hm hv ?_ hn hdb)
 exact PyProof.Rows.callWith_builtin1 (thn (ha pos pins s σ H _ I h) fun us s1 ⟨vs,H1,I1,r1,q1⟩=>hc pins s1 σ H1 vs us Q I1 r1 q1) he hpl
theorem Ae0 (hc:Av8 X (.type T) r)(hg:Gl X x)(hm:X.mg x=none)(hv:bootBuiltins x=some (.type T))(ha:PA X (e::es) t)(hn:x≠"__name__":=by decide)(hdb:(x==("__debug__":Str))=false:=by decide)
  (he:starEach (e::es) X.env=(false,eval e X.env)::starEach es X.env:=by rfl) (hpl:(backTo pos (starEach es X.env)).any (·.1)=false:=by rfl):PE X (.Call (.Name x p) (e::es) [] pos) (tCB r t):=by
 intro pins s σ H Q I h
 refine wpAny_Call_Name_kw (AM1 I hg hm hv ?_ hn hdb)
 exact PyProof.Rows.callWith_type1 (thn (ha pos pins s σ H _ I h) fun us s1 ⟨vs,H1,I1,r1,q1⟩=>hc pins s1 σ H1 vs us Q I1 r1 q1) he hpl
end
end L2
namespace HT
open PySem PyProof.Rows
section
open PySem.SeqAt
open PySem.AutoSeq1 (wpAny_loadPart')
open PySem.MeetsSeq PySem.MeetsSeq2 PySem.MeetsSeq3
end
section
variable {prog:Program} {w:World} {A:Around} {E:Value->Shared->Prop} {s:Shared}
noncomputable def sIx (n d:Nat):Option Int->Nat
 |none=>d
 |some v=>if v<0 then(v+(n:Int)).toNat else min v.toNat n
theorem sIx_none (n d:Nat):sIx n d none=d:=rfl
theorem sIx_nat (n d k:Nat):sIx n d (some (k:Int))=min k n:=by
 show(if(k:Int)<0 then((k:Int)+(n:Int)).toNat else min (k:Int).toNat n)=min k n
 rw[if_neg (by omega),Int.toNat_natCast]
end
end HT
namespace L2
open PySem PySem.Spec PyProof.Rows
noncomputable abbrev TO:=St->Hp->(Option Int->Hp->Prop)->Prop
noncomputable def PO (X:Cx)(e:Option Expr)(t:TO):Prop:=
 ∀(pins:List (Addr×Obj)) (s:Shared) (σ:St) (H:Hp) (Q:Option Int->Hp->Prop),Inv X pins σ H s->t σ H Q->
  wpAny (model X.prog X.w) X.A (evalPart e X.env) (fun u s'=>∃o H',Inv X pins σ H' s'/\IsPart u o/\Q o H') X.xe s
noncomputable def A65:TO:=fun _ H Q=>Q none H
noncomputable def BY0 (t:TE):TO:=fun σ H Q=>t σ H fun x H1=>∃i,x=.int i/\Q (some i) H1
section
variable {X:Cx} {e:Expr} {te:TE} {lo hi:Option Expr} {tl th:TO} {pos p2:Pos}
theorem AP0:PO X none A65:=by
 intro pins s σ H Q I h
 rw[evalPart_none]
 exact wpAny_pure ⟨none,H,I,.none,h⟩
theorem t6 (h:PE X e te):PO X (some e) (BY0 te):=by
 intro pins s σ H Q I hw
 rw[evalPart_some]
 refine thn (h pins s σ H _ I hw) fun u s1 ⟨x,H1,I1,r1,q1⟩=>?_
 obtain⟨i,rfl,q⟩:=q1
 obtain⟨t,rfl⟩:=r1
 exact⟨some i,H1,I1,.int i t,q⟩
noncomputable def SlR (X:Cx)(r:V->Option Int->Option Int->Hp->VK->Prop):Prop:=
 ∀(pins:List (Addr×Obj)) (s:Shared) (σ:St) (H:Hp) (x:V) (v vl vu:Value) (lo hi:Option Int) (sl:Addr) (Q:VK),Inv X pins σ H s->RelV x v->s.heap.IsSliceOf sl vl vu .none->IsPart vl lo->IsPart vu hi->r x lo hi H Q->
  ∃T id,typeLookup (.type T) "__getitem__"=pure (some (.builtin id))/\s.TypeIs v T/\wpAny (model X.prog X.w) X.A (getItem v (.ref sl)) (EP X pins σ Q) X.xe s
noncomputable def tSl (r:V->Option Int->Option Int->Hp->VK->Prop)(te:TE)(tl th:TO):TE:=fun σ H Q=>te σ H fun x H1=>tl σ H1 fun l H2=>th σ H2 fun u H3=>r x l u H3 Q
theorem m5 {r:V->Option Int->Option Int->Hp->VK->Prop}(hr:SlR X r)(he:PE X e te)(hl:PO X lo tl)(hu:PO X hi th):PE X (.Subscript e (.Slice lo hi none p2) pos) (tSl r te tl th):=by
 intro pins s σ H Q I h
 refine Subscript_ (thn (he pins s σ H _ I h) fun v s1 ⟨x,H1,I1,r1,q1⟩=>?_)
 refine wpAny_Slice (thn (hl pins s1 σ H1 _ I1 q1) fun vl s2 ⟨l,H2,I2,pl,q2⟩=>thn (hu pins s2 σ H2 _ I2 q2) fun vu s3 ⟨u,H3,I3,pu,q3⟩=>?_)
 rw[evalPart_none]
 refine wpAny_pure ?_
 have I4:Inv X pins σ H3 {s3 with heap:=s3.heap.push {cls:=.type "slice",data:=.fields #[vl,vu,.none]}}:=I3.kept (t':=s3.toks) fun b ob q=>Heap.get?_push_of_some _ q
 obtain⟨T,id,hT,ht,hg⟩:=hr pins {s3 with heap:=s3.heap.push {cls:=.type "slice",data:=.fields #[vl,vu,.none]}} σ H3 x v vl vu l u s3.heap.objs.size Q I4 r1 (Heap.IsSliceOf.new ..) pl pu q3
 show wpAny (model X.prog X.w) X.A (subscriptTail e (.Slice lo hi none p2) v (.ref s3.heap.objs.size)) (EP X pins σ Q) X.xe {s3 with heap:=s3.heap.push {cls:=.type "slice",data:=.fields #[vl,vu,.none]}}
 exact tail_any (ops:=[.ref s3.heap.objs.size,v]) ht hT hg (by with_unfolding_all rfl)
noncomputable def AW6 (xs:List V)(lo hi:Option Int):List V:=(xs.drop (HT.sIx xs.length 0 lo)).take (HT.sIx xs.length xs.length hi-HT.sIx xs.length 0 lo)
theorem AP4 (xs:List V)(lo hi:Option Int):(AW6 xs lo hi).length<=xs.length:=by
 unfold AW6
 rw[List.length_take,List.length_drop]
 omega
end
end L2
namespace L2
open PySem PySem.Spec PyProof.Rows
noncomputable def ixN (n:Nat)(i:Int):Option Nat:=if 0<=i then(if i<n then some i.toNat else none)else if -(n:Int)<=i then some (i+n).toNat else none
noncomputable def atI {α:Type}(xs:List α)(i:Int):Option α:=(ixN xs.length i).bind fun j=>xs[j]?
theorem BA5 {n:Nat}{i:Int}{j:Nat}(h:ixN n i=some j):seqIndex? i n=some j/\j<n/\-(n:Int)<=i/\i<n:=by
 unfold ixN at h
 by_cases h0:0<=i
 ·rw[if_pos h0]at h
  by_cases h1:i<n
  ·rw[if_pos h1]at h
   have e:i.toNat=j:=Option.some.inj h
   exact⟨by rw[seqIndex_of h0 h1,e],by omega,by omega,h1⟩
  ·rw[if_neg h1]at h;cases h
 ·rw[if_neg h0]at h
  by_cases h1: -(n:Int)<=i
  ·rw[if_pos h1]at h
   have e:(i+n).toNat=j:=Option.some.inj h
   exact⟨by rw[seqIndex_neg (by omega) h1,e],by omega,h1,by omega⟩
  ·rw[if_neg h1]at h;cases h
theorem AP6 {α:Type}{xs:List α}{i:Int}{v:α}(h:atI xs i=some v):∃j,seqIndex? i xs.length=some j/\xs[j]?=some v/\j<xs.length/\-(xs.length:Int)<=i/\i<xs.length:=by
 unfold atI at h
 cases e:ixN xs.length i with
 |none=>rw[e]at h;cases h
 |some j=>
  rw[e]at h
  obtain⟨h1,h2,h3,h4⟩:=BA5 e
  exact⟨j,h1,h,h2,h3,h4⟩
theorem D6 {α:Type}{xs:List α}{j:Nat}{v:α}(h:xs[j]?=some v):atI xs (j:Int)=some v:=by
 have hj:j<xs.length:=(List.getElem?_eq_some_iff.mp h).1
 have e:ixN xs.length (j:Int)=some j:=by
  unfold ixN
  rw[if_pos (by omega),if_pos (by omega)];simp
 unfold atI;rw[e];exact h
theorem AW9 {α:Type}(xs:List α)(v:α):atI (xs++[v]) (-1)=some v:=by
 have hl:(xs++[v]).length=xs.length+1:=by simp
 have e:ixN (xs++[v]).length (-1)=some xs.length:=by
  unfold ixN
  rw[hl,if_neg (by decide),if_pos (by omega)]
  congr 1
  omega
 unfold atI
 rw[e]
 show(xs++[v])[xs.length]?=some v
 simp
noncomputable def A94 (b:Expr):Prop:=∀o i,subscripted b false o i=operate [o,i] (getItem o i)
noncomputable def IxR (X:Cx)(r:R2):Prop:=
 ∀(value slice:Expr) (pins:List (Addr×Obj)) (s:Shared) (σ:St) (H:Hp) (x y:V) (v u:Value) (Q:VK),Inv X pins σ H s->RelV x v->RelV y u->r x y H Q->
  subscripted slice false v u=operate [v,u] (getItem v u)->wpAny (model X.prog X.w) X.A (subscriptTail value slice v u) (EP X pins σ Q) X.xe s
noncomputable def MtR (X:Cx)(id:String)(r:V->List V->Hp->VK->Prop):Prop:=
 ∀(pins:List (Addr×Obj)) (s:Shared) (σ:St) (H:Hp) (x:V) (xs:List V) (v:Value) (us:List Value) (Q:VK),Inv X pins σ H s->RelV x v->Vals xs us->r x xs H Q->
  wpAny (model X.prog X.w) X.A (call (.builtin id) (v::us)) (EP X pins σ Q) X.xe s
section
variable {X:Cx} {a b:Expr} {ta tb:TE} {pos:Pos}
theorem F5 {r:R2}(hr:IxR X r)(ha:PE X a ta)(hb:PE X b tb)(hs:A94 b):PE X (.Subscript a b pos) (tOp r ta tb):=by
 intro pins s σ H Q I h
 exact Subscript_ (BW0 ha hb I h fun v u s2 x y H2 I2 rx ry q=>hr a b pins s2 σ H2 x y v u Q I2 rx ry q (hs _ _))
noncomputable def BI4 (K:PySem.W.Frag):R2:=fun x y H Q=>∃p xs i v,x=.ref p/\y=.int i/\SqL K H p xs/\atI xs i=some v/\Q v H
noncomputable def A03 (K:PySem.W.Frag):R2:=fun x y H Q=>∃p xs i v,x=.ref p/\y=.int i/\SqT K H p xs/\atI xs i=some v/\Q v H
noncomputable def Bc6:R2:=fun x y H Q=>∃z i c,x=.str z/\y=.int i/\z.length<=sizeLine/\atI z.cps.toList i=some c/\Q (.str ⟨#[c]⟩) H
theorem C6:IxR X (BI4 X.K):=by
 intro value slice pins s σ H x y v u Q I rx ry h hs
 obtain⟨p,xs,i,z,rfl,rfl,hq,he,q⟩:=h
 cases rx
 obtain⟨t,rfl⟩:=ry
 obtain⟨its,r,pl,hz⟩:=I.list hq
 obtain⟨j,h1,h2,h3,h4,h5⟩:=AP6 he
 obtain⟨w,ew,rw'⟩:=r.get h2
 have hl:=r.length
 have hn:=AI1
 have fin:EP X pins σ Q w s:=⟨z,H,I,rw',q⟩
 by_cases h0:0<=i
 ·have hj:i.toNat=j:=by
   rw[seqIndex_of h0 h5]at h1
   exact Option.some.inj h1
  exact item_listR pl.isList h0 (by omega) (by rw[hj];simpa using ew) fin hs
 ·have hj:(i+(its.toArray.size:Int)).toNat=j:=by
   rw[seqIndex_neg (by omega) h4]at h1
   rw[List.size_toArray,←hl]
   exact Option.some.inj h1
  exact subscriptTail_builtinR (x:=w) pl.isList.typeIs slot_list_getitem.lookup
   (wpAny_getItem_list_neg (Q:=fun r s'=>r=w/\EP X pins σ Q r s') pl.isList (by omega) (by rw[List.size_toArray]<;>omega) (by omega) (by rw[hj];simpa using ew) ⟨rfl,fin⟩) hs
theorem t8:IxR X (A03 X.K):=by
 intro value slice pins s σ H x y v u Q I rx ry h hs
 obtain⟨p,xs,i,z,rfl,rfl,hq,he,q⟩:=h
 cases rx
 obtain⟨t,rfl⟩:=ry
 obtain⟨its,r,pl,hz⟩:=I.tuple hq
 obtain⟨j,h1,h2,h3,h4,h5⟩:=AP6 he
 obtain⟨w,ew,rw'⟩:=r.get h2
 have hl:=r.length
 have hn:=AI1
 have fin:EP X pins σ Q w s:=⟨z,H,I,rw',q⟩
 exact subscriptTail_builtinR (x:=w) pl.typeIs slot_tuple_getitem.lookup
  (getItem_tuple (j:=j) (Q:=fun r s'=>r=w/\EP X pins σ Q r s') pl (by omega) (by omega) (by rw[List.size_toArray,←hl];exact h1) (by simpa using ew) ⟨rfl,fin⟩) hs
theorem BR0:IxR X Bc6:=by
 intro value slice pins s σ H x y v u Q I rx ry h hs
 obtain⟨z,i,c,rfl,rfl,hz,he,q⟩:=h
 obtain⟨t,rfl⟩:=rx
 obtain⟨t',rfl⟩:=ry
 obtain⟨j,h1,h2,h3,h4,h5⟩:=AP6 he
 have hl:z.cps.toList.length=z.length:=by simp[Str.length]
 rw[hl]at h1 h4 h5
 have hn:=AI1
 exact tail_any (typeIs_str s z t) slot_str_getitem.lookup (getItem_str (c:=c) (by
  have e1:decide (i < -(2 ^ 63:Int))=false:=decide_eq_false (by omega)
  have e2:decide (i≥2 ^ 63)=false:=decide_eq_false (by omega)
  rw[e1,e2,Bool.or_false]) (by rw[h1];simpa using h2) ⟨.str ⟨#[c]⟩,H,I.tok _,⟨_,rfl⟩,q⟩) hs
theorem AJ4 (lo hi:Option Int)(n:Nat):(sliceBounds lo hi none n).1=((HT.sIx n 0 lo:Nat):Int)/\(sliceBounds lo hi none n).2.1=((HT.sIx n n hi:Nat):Int)/\(sliceBounds lo hi none n).2.2=1:=by
 refine⟨?_,?_,rfl⟩
 ·cases lo with
  |none=>simp[sliceBounds,HT.sIx]
  |some i=>
   simp only[sliceBounds,HT.sIx,Option.getD_none,show(1:Int)>0 by decide,if_true]
   by_cases h:i<0
   ·simp only[h,if_true]<;>omega
   ·simp only[h,if_false]<;>omega
 ·cases hi with
  |none=>simp[sliceBounds,HT.sIx]
  |some i=>
   simp only[sliceBounds,HT.sIx,Option.getD_none,show(1:Int)>0 by decide,if_true]
   by_cases h:i<0
   ·simp only[h,if_true]<;>omega
   ·simp only[h,if_false]<;>omega
theorem AG0 (its:List Value)(lo hi:Option Int):slicePick its.toArray lo hi none=((its.drop (HT.sIx its.length 0 lo)).take (HT.sIx its.length its.length hi-HT.sIx its.length 0 lo)).toArray:=by
 obtain⟨h1,h2,h3⟩:=AJ4 lo hi its.toArray.size
 unfold slicePick
 rw[h1,h2,h3]
 simp only[sliceRange_one,pick_run,List.size_toArray]<;>rfl
noncomputable def Be5 (K:PySem.W.Frag):V->Option Int->Option Int->Hp->VK->Prop:=fun x lo hi H Q=>∃a xs,x=.ref a/\SqL K H a xs/\∀p,H p=none->Q (.ref p) (upd H p (.lst (AW6 xs lo hi)))
theorem AE8:SlR X (Be5 X.K):=by
 intro pins s σ H x v vl vu lo hi sl Q I rx hs pl pu h
 obtain⟨a,xs,rfl,hx,q⟩:=h
 cases rx
 obtain⟨its,r,ht,hz⟩:=I.list hx
 have hlen:=r.length
 refine⟨"list",_,slot_list_getitem.lookup,ht.isList.typeIs,?_⟩
 refine wpAny_getItem_list_slice ht.isList hs pl pu .none (by simp) ?_ (by rw[List.size_toArray]<;>omega)
 rw[AG0,←hlen]
 refine⟨.ref s.heap.objs.size,_,I.laid (t':=s.toks) (o:=.lst (AW6 xs lo hi)) (fun b ob q=>Heap.get?_push_of_some _ q) (Nat.le_refl _) ?_,rfl,q _ (I.hok.fresh (Nat.le_refl _))⟩
 exact⟨Nat.le_trans (AP4 xs lo hi) hz,_,0,(r.drop (HT.sIx xs.length 0 lo)).take (HT.sIx xs.length xs.length hi-HT.sIx xs.length 0 lo),Heap.get?_push_size _ rfl⟩
noncomputable def T0:V->Bool
 |.non=>true
 |.bl _=>true
 |.int _=>true
 |.str _=>true
 |_=>false
noncomputable def eqV:V->V->Bool
 |.non,.non=>true
 |.bl a,.bl b=>a==b
 |.bl a,.int b=>(if a then 1 else 0)==b
 |.int a,.bl b=>a==(if b then 1 else 0)
 |.int a,.int b=>a==b
 |.str a,.str b=>a==b
 |_,_=>false
theorem BL4 {A:Around}{s:Shared}{y x:V}{u v:Value}(ry:RelV y u)(rx:RelV x v)(fy:T0 y=true)(fx:T0 x=true):SeqAt.EqAt A s u v (eqV y x):=by
 cases y with
 |non=>
  cases ry
  cases x with
  |non=>cases rx;exact SeqAt.EqAt.same _
  |bl b=>cases rx;exact SeqAt.EqAt.none_bool b
  |int b=>obtain⟨t,rfl⟩:=rx;exact SeqAt.EqAt.none_int b t
  |str b=>obtain⟨t,rfl⟩:=rx;exact SeqAt.EqAt.none_str b t
  |_=>exact absurd (show false=true from fx) Bool.false_ne_true
 |bl a=>
  cases ry
  cases x with
  |non=>cases rx;exact SeqAt.EqAt.bool_none a
  |bl b=>cases rx;exact SeqAt.EqAt.bool_bool a b
  |int b=>obtain⟨t,rfl⟩:=rx;exact SeqAt.EqAt.bool_int a b t
  |str b=>obtain⟨t,rfl⟩:=rx;exact SeqAt.EqAt.bool_str a b t
  |_=>exact absurd (show false=true from fx) Bool.false_ne_true
 |int a=>
  obtain⟨t',rfl⟩:=ry
  cases x with
  |non=>cases rx;exact SeqAt.EqAt.int_none a t'
  |bl b=>cases rx;exact SeqAt.EqAt.int_bool a t' b
  |int b=>obtain⟨t,rfl⟩:=rx;exact SeqAt.EqAt.int_int a t' b t
  |str b=>obtain⟨t,rfl⟩:=rx;exact SeqAt.EqAt.int_str a t' b t
  |_=>exact absurd (show false=true from fx) Bool.false_ne_true
 |str a=>
  obtain⟨t',rfl⟩:=ry
  cases x with
  |non=>cases rx;exact SeqAt.EqAt.str_none a t'
  |bl b=>cases rx;exact SeqAt.EqAt.str_bool a t' b
  |int b=>obtain⟨t,rfl⟩:=rx;exact SeqAt.EqAt.str_int a t' b t
  |str b=>obtain⟨t,rfl⟩:=rx;exact SeqAt.EqAt.str_str a t' b t
  |_=>exact absurd (show false=true from fx) Bool.false_ne_true
 |_=>exact absurd (show false=true from fy) Bool.false_ne_true
noncomputable def eqU (x:V)(u:Value):Bool:=match u with
 |.none=>eqV .non x
 |.bool b=>eqV (.bl b) x
 |.int i _=>eqV (.int i) x
 |.str z _=>eqV (.str z) x
 |_=>false
theorem AU8 {x y:V}{u:Value}(r:RelV y u)(f:T0 y=true):eqU x u=eqV y x:=by
 cases y with
 |non=>cases r;rfl
 |bl b=>cases r;rfl
 |int i=>obtain⟨t,rfl⟩:=r;rfl
 |str z=>obtain⟨t,rfl⟩:=r;rfl
 |_=>exact absurd (show false=true from f) Bool.false_ne_true
theorem u6 {x:V}:∀{xs:List V} {us:List Value},Vals xs us->xs.all T0=true->us.any (eqU x)=xs.any fun y=>eqV y x
 |_,_,.nil,_=>rfl
 |y::xs,u::us,.cons r t,f=>by
  rw[List.all_cons,Bool.and_eq_true]at f
  rw[List.any_cons,List.any_cons,AU8 r f.1,u6 t f.2]
theorem U6 {A:Around}{s:Shared}{x:V}{v:Value}(rx:RelV x v)(fx:T0 x=true):∀{xs:List V} {us:List Value},Vals xs us->xs.all T0=true->∀u∈us,SeqAt.EqAt A s u v (eqU x u)
 |_,_,.nil,_=>fun u hu=>by cases hu
 |y::xs,u::us,.cons r t,f=>fun u' hu=>by
  rw[List.all_cons,Bool.and_eq_true]at f
  rcases List.mem_cons.mp hu with rfl |hu
  ·rw[AU8 r f.1];exact BL4 r rx f.1 fx
  ·exact U6 rx fx t f.2 u' hu
noncomputable def inV (x:V)(xs:List V):Bool:=xs.any fun y=>eqV y x
noncomputable def rIn (K:PySem.W.Frag)(neg:Bool):R2:=fun x y H Q=>∃p xs,y=.ref p/\(SqL K H p xs∨SqT K H p xs)/\T0 x=true/\xs.all T0=true/\Q (.bl (if neg then !inV x xs else inV x xs)) H
theorem S4:OpR X (compareOp .In) (rIn X.K false):=by
 intro pins s σ H x y v u Q I rx ry h
 obtain⟨p,xs,rfl,hq,fx,fs,q⟩:=h
 cases ry
 rcases hq with hq |hq
 ·obtain⟨its,r,pl,hz⟩:=I.list hq
  refine SeqAt.in_listAt (eqU x) pl.isList (fun w hw=>U6 rx fx r fs w (by simpa using hw)) ⟨.bl _,H,I,rfl,?_⟩
  rw[show its.toArray.any (eqU x)=its.any (eqU x) by simp,u6 r fs]
  exact q
 ·obtain⟨its,r,pl,hz⟩:=I.tuple hq
  refine SeqAt.in_tupleAt (eqU x) pl (fun w hw=>U6 rx fx r fs w (by simpa using hw)) ⟨.bl _,H,I,rfl,?_⟩
  rw[show its.toArray.any (eqU x)=its.any (eqU x) by simp,u6 r fs]
  exact q
theorem AL3:OpR X (compareOp .NotIn) (rIn X.K true):=by
 intro pins s σ H x y v u Q I rx ry h
 obtain⟨p,xs,rfl,hq,fx,fs,q⟩:=h
 cases ry
 rcases hq with hq |hq
 ·obtain⟨its,r,pl,hz⟩:=I.list hq
  refine SeqAt.notIn_listAt (eqU x) pl.isList (fun w hw=>U6 rx fx r fs w (by simpa using hw)) ⟨.bl _,H,I,rfl,?_⟩
  rw[show its.toArray.any (eqU x)=its.any (eqU x) by simp,u6 r fs]
  exact q
 ·obtain⟨its,r,pl,hz⟩:=I.tuple hq
  refine SeqAt.notIn_tupleAt (eqU x) pl (fun w hw=>U6 rx fx r fs w (by simpa using hw)) ⟨.bl _,H,I,rfl,?_⟩
  rw[show its.toArray.any (eqU x)=its.any (eqU x) by simp,u6 r fs]
  exact q
theorem C3:Av8 X (.builtin "len") (fun xs H Q=>∃p ys,xs=[.ref p]/\(SqL X.K H p ys∨SqT X.K H p ys)/\Q (.int ys.length) H):=by
 intro pins s σ H xs us Q I r h
 obtain⟨p,ys,rfl,hq,q⟩:=h
 obtain⟨u,rfl,rx⟩:=BM7 r
 cases rx
 have hn:=AI1
 rcases hq with hq |hq
 ·obtain⟨its,r',pl,hz⟩:=I.list hq
  have hlen:=r'.length
  exact Calls.call_len_list pl.isList (by simp only[List.size_toArray]<;>omega) ⟨.int ys.length,H,I.tok _,⟨s.toks+1,by rw[List.size_toArray,hlen]⟩,q⟩
 ·obtain⟨its,r',pl,hz⟩:=I.tuple hq
  have hlen:=r'.length
  exact len_tuple pl (by simp only[List.size_toArray]<;>omega) ⟨.int ys.length,H,I.tok _,⟨s.toks+1,by rw[List.size_toArray,hlen]⟩,q⟩
theorem AC9:Av8 X (.type "tuple") (fun xs H Q=>∃p ys,xs=[.ref p]/\((SqL X.K H p ys/\∀l,H l=none->Q (.ref l) (upd H l (.tup ys)))∨(SqT X.K H p ys/\Q (.ref p) H))):=by
 intro pins s σ H xs us Q I r h
 obtain⟨p,ys,rfl,h⟩:=h
 obtain⟨u,rfl,rx⟩:=BM7 r
 cases rx
 rcases h with ⟨hq,q⟩ |⟨hq,q⟩
 ·obtain⟨its,r',pl,hz⟩:=I.list hq
  have hlen:=r'.length
  refine call_tuple_list pl.isList (fun h' kp=>?_) (by simp only[List.size_toArray]<;>omega)
  have I1:Inv X pins σ H {s with heap:=h'}:=I.kept (t':=s.toks) kp
  have I2:Inv X pins σ (upd H h'.objs.size (.tup ys)) {s with heap:=h'.push {cls:=.type "tuple",data:=.seq its.toArray}}:=
   I1.laid (t':=s.toks) (fun b o e=>Heap.get?_push_of_some _ e) (Nat.le_refl _) (show ObjOk X.prog X.w _ _ _ (.tup ys)from⟨hz,its,r',IsTup.new _ _⟩)
  exact⟨.ref h'.objs.size,_,I2,rfl,q _ (I1.hok.fresh (Nat.le_refl _))⟩
 ·obtain⟨its,r',pl,hz⟩:=I.tuple hq
  exact call_tuple_same pl ⟨.ref p,H,I,rfl,q⟩
noncomputable def tyV (K:PySem.W.Frag)(T:String)(x:V)(H:Hp):Prop:=match x with
 |.str _=>T="str"
 |.int _=>T="int"
 |.ref p=>(T="list"/\∃xs,SqL K H p xs)∨(T="tuple"/\∃o,K.lookup p=some o/\o.cls=.type "tuple"/\o.dict=none)∨
   (T="dict"/\((∃kvs,H p=some (.dK kvs))∨∃kvs,H p=some (.dT kvs)))∨(T="set"/\∃S n,H p=some (.set S n))
 |_=>False
theorem A16 {pins:List (Addr×Obj)}{σ:St}{H:Hp}{s:Shared}{T:String}{x:V}{v:Value}(I:Inv X pins σ H s)(r:RelV x v)(ty:tyV X.K T x H):
  s.TypeIs v T/\∀a,v=.ref a->∃ob,s.heap.get? a=some ob/\ob.dict=none:=by
 cases x with
 |str z=>
  obtain⟨t,rfl⟩:=r
  cases(show T="str" from ty)
  exact⟨typeIs_str s z t,fun _ e=>nomatch e⟩
 |int i=>
  obtain⟨t,rfl⟩:=r
  cases(show T="int" from ty)
  exact⟨typeIs_int s i t,fun _ e=>nomatch e⟩
 |ref p=>
  cases r
  rcases ty with ⟨rfl,xs,hq⟩ |⟨rfl,o,hk,hc,hd⟩ |⟨rfl,hk⟩ |⟨rfl,S,n,hk⟩
  ·obtain⟨its,_,pl,_⟩:=I.list hq
   refine⟨pl.isList.typeIs,fun a e=>?_⟩
   cases e
   obtain⟨o,n,e,c,hd,_⟩:=pl
   exact⟨o,e,hd⟩
  ·refine⟨⟨o,I.kIn p o hk,hc⟩,fun a e=>?_⟩
   cases e
   exact⟨o,I.kIn _ o hk,hd⟩
  ·have z:∃o,s.heap.get? p=some o/\o.ExactDict:=by
    rcases hk with ⟨kvs,hk⟩ |⟨kvs,hk⟩
    ·obtain⟨_,_,_,_,o,_,_,e,ex,_⟩:=I.hok p _ hk
     exact⟨o,e,ex⟩
    ·obtain⟨_,_,_,_,o,_,_,e,ex,_⟩:=I.hok p _ hk
     exact⟨o,e,ex⟩
   obtain⟨o,e,ex⟩:=z
   refine⟨⟨o,e,ex.1⟩,fun a e2=>?_⟩
   cases e2
   exact⟨o,e,ex.2.1⟩
  ·obtain⟨o,_,_,_,e,ex,_⟩:=I.hok p _ hk
   refine⟨⟨o,e,ex.1⟩,fun a e2=>?_⟩
   cases e2
   exact⟨o,e,ex.2.1⟩
 |_=>exact False.elim ty
noncomputable def Bb7 (K:PySem.W.Frag)(T:String)(r:V->List V->Hp->VK->Prop)(to:TE):TE:=fun σ H Q=>to σ H fun x H1=>tyV K T x H1/\r x [] H1 Q
noncomputable def tBM (K:PySem.W.Frag)(T:String)(r:V->List V->Hp->VK->Prop)(to:TE)(t:TA):TE:=fun σ H Q=>to σ H fun x H1=>tyV K T x H1/\t σ H1 fun xs H2=>r x xs H2 Q
variable {o e:Expr} {es:List Expr} {to:TE} {t:TA} {name:Str} {apos cpos:Pos} {T id:String} {r:V->List V->Hp->VK->Prop}
theorem z9 (pa:PlainAttrs T)(slot:Slot T name id)(hty:typeOf (.builtin id)=pure (.type "method_descriptor"))(hm:MtR X id r)(ho:PE X o to)
  (hbase:attributeBase o name X.env (eval o X.env)=eval o X.env:=by rfl) (hline:(apos.endLine==cpos.line)=true:=by rfl):PE X (.Call (.Attribute o name apos) [] [] cpos) (Bb7 X.K T r to):=by
 intro pins s σ H Q I h
 refine wpAny_Call_method0_late hbase hline (thn (ho pins s σ H _ I h) fun v s1 ⟨x,H1,I1,r1,ty,q1⟩=>?_)
 obtain⟨h1,h2⟩:=A16 I1 r1 ty
 exact⟨T,id,pa,slot,hty,h1,h2,Calls.callWith_builtin rfl (PySem.evalArgs_none (hm pins s1 σ H1 x [] v [] Q I1 r1 .nil q1))⟩
theorem X8 (pa:PlainAttrs T)(slot:Slot T name id)(hty:typeOf (.builtin id)=pure (.type "method_descriptor"))(hm:MtR X id r)(ho:PE X o to)(ha:PA X (e::es) t)
  (hbase:attributeBase o name X.env (eval o X.env)=eval o X.env:=by rfl)
  (hfew:((backTo cpos (starEach (e::es) X.env)).all (fun x=>!x.1)&&(backToKw cpos (keywordEach [] X.env)).all (fun x=>x.1.isSome)
   &&decide ((e::es).length+([]:List Keyword).length+(if([]:List Keyword).isEmpty then 0 else 1)<30))=true:=by rfl)
  (hline:(apos.endLine==cpos.line)=true:=by rfl) (hs:starEach (e::es) X.env=(false,eval e X.env)::starEach es X.env:=by rfl) (hplain:(backTo cpos (starEach es X.env)).any (·.1)=false:=by rfl):
  PE X (.Call (.Attribute o name apos) (e::es) [] cpos) (tBM X.K T r to t):=by
 intro pins s σ H Q I h
 refine wpAny_Call_method_late hbase hfew hline rfl (thn (ho pins s σ H _ I h) fun v s1 ⟨x,H1,I1,r1,ty,q1⟩=>?_)
 obtain⟨h1,h2⟩:=A16 I1 r1 ty
 refine⟨T,id,pa,slot,hty,h1,h2,?_⟩
 have hA:=ha cpos pins s1 σ H1 _ I1 q1
 rw[hs]at hA ⊢
 refine Calls.callWith_builtin (by show(false||(backTo cpos (starEach es X.env)).any (·.1))=false;rw[hplain]<;>rfl) (Calls.evalArgs_plain ?_)
 exact thn hA fun us s2 ⟨vs,H2,I2,r2,q2⟩=>hm pins s2 σ H2 x vs v us Q I2 r1 r2 q2
end
end L2
namespace L2
open PySem PySem.Spec PyProof.Rows
noncomputable def MtM (X:Cx)(id:String)(r:V->List V->Hp->VK->Prop):Prop:=
 ∀(pins:List (Addr×Obj)) (s:Shared) (σ:St) (H:Hp) (x:V) (xs:List V) (v:Value) (us:List Value) (Q:VK),Inv X pins σ H s->RelV x v->Vals xs us->r x xs H Q->
  wpAny (model X.prog X.w) X.A (call (.builtin id) (v::us)) (EP X pins σ Q) X.xe s
theorem Vals.one:∀{x:V} {us:List Value},Vals [x] us->∃u,us=[u]/\RelV x u
 |_,_,.cons r .nil=>⟨_,rfl,r⟩
theorem Vals.zero:∀{us:List Value},Vals [] us->us=[]
 |_,.nil=>rfl
theorem Vals.dropLast {xs:List V}{us:List Value}(h:Vals xs us):Vals xs.dropLast us.dropLast:=by
 induction h with
 |nil=>exact .nil
 |cons r t ih=>
  cases t with
  |nil=>exact .nil
  |cons q t'=>exact .cons r ih
theorem Aa3 {α:Type}(l:List α):l.eraseIdx (l.length-1)=l.dropLast:=by
 induction l with
 |nil=>rfl
 |cons a r ih=>
  cases r with
  |nil=>rfl
  |cons b r=>
   have e:(a::b::r).length-1=((b::r).length-1)+1:=by
    have h1:(a::b::r).length=r.length+2:=rfl
    have h2:(b::r).length=r.length+1:=rfl
    omega
   rw[e,List.eraseIdx_cons_succ,ih]
   all_goals rfl
section
variable {X:Cx} {pins:List (Addr×Obj)} {σ:St} {H:Hp} {s:Shared} {l b:Addr} {xs ys zs:List V}
theorem Inv.lset {its its':List Value}{n:Nat}{f:Array Value->Array Value}{t':Nat}(I:Inv X pins σ H s)(hH:H l=some (.lst xs))
  (e:s.heap.get? l=some {cls:=.type "list",data:=.seq its.toArray n}) (hf:f its.toArray=its'.toArray) (hv:Vals ys its') (hz:ys.length<=sizeLine):
  Inv X pins σ (upd H l (.lst ys)) {s with heap:=s.heap.update l (Obj.mapSeq f),toks:=t'}:=by
 have q:=PySem.IsL.update e f
 rw[hf]at q
 refine I.write (x:=l) (e:=l) (by rw[hH];exact trivial) (.inl rfl) (fun b' u hb hu=>(Heap.get?_update_other s.heap (Obj.mapSeq f) (Ne.symm hb)).trans hu) ⟨_,q⟩ ?_
 exact⟨hz,its',_,hv,q⟩
theorem Inv.lnew {its:List Value}{t':Nat}(I:Inv X pins σ H s)(hv:Vals ys its)(hz:ys.length<=sizeLine):
  Inv X pins σ (upd H s.heap.objs.size (.lst ys)) {s with heap:=s.heap.push {cls:=.type "list",data:=.seq its.toArray},toks:=t'}:=
 I.laid (fun _ _ q=>Heap.get?_push_of_some _ q) (Nat.le_refl _) ⟨hz,its,0,hv,Heap.get?_push_size _ rfl⟩
theorem Inv.fresh (I:Inv X pins σ H s):H s.heap.objs.size=none:=I.hok.fresh (Nat.le_refl _)
theorem Inv.lstM (I:Inv X pins σ H s)(hH:H l=some (.lst xs)):xs.length<=sizeLine/\∃(its:List Value) (n:Nat),Vals xs its/\xs.length=its.length/\s.heap.get? l=some {cls:=.type "list",data:=.seq its.toArray n}:=by
 obtain⟨z,its,n,r,e⟩:=I.hok l _ hH
 exact⟨z,its,n,r,r.length,e⟩
theorem At8 {n:Nat}(h:n<=sizeLine):Builtin.List.listTooLong n=false:=by
 unfold Builtin.List.listTooLong
 exact decide_eq_false (by omega)
end
section
variable {X:Cx}
noncomputable def AH3:V->List V->Hp->VK->Prop:=fun x vs H Q=>∃l xs y,x=.ref l/\vs=[y]/\H l=some (.lst xs)/\xs.length<sizeLine/\Q .non (upd H l (.lst (xs++[y])))
theorem F8:MtM X "list.append" AH3:=by
 intro pins s σ H x vs v us Q I rx rv h
 obtain⟨l,xs,y,rfl,rfl,hH,hz,q⟩:=h
 cases rx
 obtain⟨u,rfl,ru⟩:=rv.one
 obtain⟨z,its,n,r,hl,e⟩:=I.lstM hH
 refine call_meets F.slot_list_append ⟨_,e,rfl⟩ F.entry_list_append (F.args_list_append_2 _ _) (PySem.list_append l its.toArray n u (by rw[List.size_toArray];omega)) ⟨e,?_⟩
 refine⟨.non,_,I.lset (its':=its++[u]) hH e (by simp) (r.append (.cons ru .nil)) ?_,rfl,q⟩
 rw[List.length_append,List.length_singleton]
 omega
noncomputable def BG6:V->List V->Hp->VK->Prop:=fun x vs H Q=>∃l b xs zs,x=.ref l/\vs=[.ref b]/\H l=some (.lst xs)/\H b=some (.lst zs)/\xs.length+zs.length<=sizeLine/\Q .non (upd H l (.lst (xs++zs)))
theorem Am4:MtM X "list.extend" BG6:=by
 intro pins s σ H x vs v us Q I rx rv h
 obtain⟨l,b,xs,zs,rfl,rfl,hH,hB,hz,q⟩:=h
 cases rx
 obtain⟨u,rfl,ru⟩:=rv.one
 cases ru
 obtain⟨z,its,n,r,hl,e⟩:=I.lstM hH
 obtain⟨z2,its2,n2,r2,hl2,e2⟩:=I.lstM hB
 have hsz:its.toArray.size+its2.toArray.size<=sizeLine:=by rw[List.size_toArray,List.size_toArray];omega
 have hlong:¬(!its.toArray.isEmpty&&Builtin.List.listTooLong (its.toArray.size+its2.toArray.size))=true:=by
  rw[At8 hsz,Bool.and_false]
  exact Bool.false_ne_true
 refine call_meets F.slot_list_extend ⟨_,e,rfl⟩ F.entry_list_extend (F.args_list_extend_2 _ _)
  (AutoSeq1.list_extend_list_list_0 l its.toArray n b its2.toArray n2 hlong (by rw[List.size_toArray];omega) (by omega)) ⟨e,e2,?_⟩
 refine⟨.non,_,I.lset (its':=its++its2) hH e (by simp) (r.append r2) ?_,rfl,q⟩
 rw[List.length_append]
 omega
noncomputable def Bc4:V->List V->Hp->VK->Prop:=fun x vs H Q=>∃l xs y,x=.ref l/\vs=[]/\H l=some (.lst xs)/\xs[xs.length-1]?=some y/\Q y (upd H l (.lst xs.dropLast))
theorem AB8:MtM X "list.pop" Bc4:=by
 intro pins s σ H x vs v us Q I rx rv h
 obtain⟨l,xs,y,rfl,rfl,hH,hy,q⟩:=h
 cases rx
 have hus:=rv.zero
 subst hus
 obtain⟨z,its,n,r,hl,e⟩:=I.lstM hH
 obtain⟨u,hu,ru⟩:=r.get hy
 have hy':its.toArray[its.toArray.size-1]?=some u:=by
  show its.toArray[its.length-1]?=some u
  rw[←Array.getElem?_toList,←hl]
  exact hu
 refine call_meets F.slot_list_pop ⟨_,e,rfl⟩ F.entry_list_pop (F.args_list_pop_1 _) (MeetsSeq.list_pop_last l its.toArray n u hy' (by rw[List.size_toArray];omega)) ⟨e,?_⟩
 refine⟨y,_,I.lset (its':=its.dropLast) hH e ?_ r.dropLast ?_,ru,q⟩
 ·show its.toArray.eraseIdxIfInBounds (its.toArray.size-1)=its.dropLast.toArray
  rw[List.size_toArray,List.eraseIdxIfInBounds_toArray,Aa3]
 ·rw[List.length_dropLast]
  omega
noncomputable def Be6:R2:=fun x y H Q=>∃l b xs zs,x=.ref l/\y=.ref b/\H l=some (.lst xs)/\H b=some (.lst zs)/\xs.length+zs.length<=sizeLine/\∀p,H p=none->Q (.ref p) (upd H p (.lst (xs++zs)))
theorem AL8:OpR X (binaryOp .Add) Be6:=by
 intro pins s σ H x y v u Q I rx ry h
 obtain⟨l,b,xs,zs,rfl,rfl,hH,hB,hz,q⟩:=h
 cases rx
 cases ry
 obtain⟨z,its,n,r,hl,e⟩:=I.lstM hH
 obtain⟨z2,its2,n2,r2,hl2,e2⟩:=I.lstM hB
 refine PySem.P.add_list e e2 ?_ (by rw[List.size_toArray,List.size_toArray];omega)
 have ea:its.toArray++its2.toArray=(its++its2).toArray:=by simp
 rw[ea]
 exact⟨.ref _,_,I.lnew (t':=s.toks) (r.append r2) (by rw[List.length_append];omega),rfl,q _ I.fresh⟩
end
section
variable {prog:Program} {w:World} {A:Around} {E:Value->Shared->Prop} {s:Shared}
set_option maxRecDepth 100000 in
end
section
variable {X:Cx}
end
end L2
namespace L2
open PySem PySem.Spec PyProof.Rows
section
variable {prog:Program} {w:World} {A:Around} {E:Value->Shared->Prop} {s:Shared} {l:Addr} {its:List Value} {ns:List Int} {Q:Value->Shared->Prop}
end
section
variable {X:Cx}
end
section
variable {X:Cx}
theorem Af5 {ys:List V}(f:ys.all T0=true){j:Nat}{z:V}(h:ys[j]?=some z):T0 z=true:=List.all_eq_true.mp f z (List.mem_of_getElem? h)
end
section
variable {X:Cx}
end
section
variable {X:Cx}
end
section
variable {X:Cx} {pins:List (Addr×Obj)} {σ:St} {H:Hp} {s:Shared}
end
section
variable {X:Cx}
end
end L2
namespace L2
open PySem PySem.Spec PyProof.Rows
noncomputable abbrev A31 (h:Heap)(c:Addr)(v:Option Value):Prop:=h.IsCell c v
noncomputable def Be2 (scope sc:Scope):Scope:=
 {scope with names:=scope.names.map fun(n,k)=>if(k==.free&&sc.kind==.function&&sc.names.lookup n==some .cell)then(n,.cell)else(n,k)}
noncomputable def F3 (cells:List (Str×Addr)):List (Str×NameKind)->List (Str×Addr)->List (Str×Addr)
 |[],acc=>acc
 |(n,k)::r,acc=>if k==.free then F3 cells r ((n,(cells.lookup n).getD 0)::acc)else F3 cells r acc
theorem c7 (env:Env)(f:Str×NameKind->List (Str×Addr)->Sem (ForInStep (List (Str×Addr))))
  (hf:∀n k c,f (n,k) c=if k==.free then(do let a ←cellOf env n;pure (.yield ((n,a)::c)))else pure (.yield c)):
  ∀(names:List (Str×NameKind)) (acc:List (Str×Addr)),(∀y∈names,y.2=.free->∃c,env.cells.lookup y.1=some c)->forIn names acc f=pure (F3 env.cells names acc)
 |[],acc,_=>by rw[List.forIn_nil];rfl
 |(n,k)::r,acc,h=>by
  rw[List.forIn_cons,hf]
  have ih:=fun acc=>c7 env f hf r acc fun y hy=>h y (List.mem_cons_of_mem _ hy)
  unfold F3
  by_cases hk:(k==NameKind.free)=true
  ·rw[if_pos hk,if_pos hk]
   obtain⟨c,hc⟩:=h (n,k) List.mem_cons_self (by simpa using hk)
   have e:cellOf env n=pure c:=by unfold cellOf;rw[hc]
   rw[e]
   have e2:(env.cells.lookup n).getD 0=c:=by rw[hc];rfl
   rw[e2]
   exact ih _
  ·rw[if_neg hk,if_neg hk]
   exact ih _
theorem AY9 {scope:Scope}{env:Env}(h:∀y∈scope.names,y.2=.free->∃c,env.cells.lookup y.1=some c):closureFor scope env=pure (F3 env.cells scope.names []):=by
 simp only[closureFor]
 rw[c7 env _ (fun n k c=>rfl) scope.names [] h]
 rfl
theorem b5 {α:Type}:∀{l:List (Str×α)} {n:Str} {c:α},(n,c)∈l->∃c',l.lookup n=some c'
 |(k,v)::r,n,c,h=>by
  rw[List.lookup_cons]
  cases hb:n==k with
  |true=>exact⟨_,rfl⟩
  |false=>
   rcases List.mem_cons.mp h with e |h
   ·cases e;simp at hb
   ·exact b5 h
theorem Q3 {cells:List (Str×Addr)}:∀{names:List (Str×NameKind)} {acc:List (Str×Addr)} {n:Str} {c:Addr},(n,c)∈F3 cells names acc->(n,c)∈acc∨((n,.free)∈names/\c=(cells.lookup n).getD 0)
 |[],_,_,_,h=>.inl h
 |(m,k)::r,acc,n,c,h=>by
  unfold F3 at h
  split at h
  ·rename_i hk
   have hk:k=.free:=by simpa using hk
   rcases Q3 h with h |⟨h1,h2⟩
   ·rcases List.mem_cons.mp h with e |h
    ·cases e;exact .inr ⟨hk▸List.mem_cons_self,rfl⟩
    ·exact .inl h
   ·exact .inr ⟨List.mem_cons_of_mem _ h1,h2⟩
  ·rcases Q3 h with h |⟨h1,h2⟩
   ·exact .inl h
   ·exact .inr ⟨List.mem_cons_of_mem _ h1,h2⟩
theorem W3 {cells:List (Str×Addr)}:∀{names:List (Str×NameKind)} {acc:List (Str×Addr)} {p:Str×Addr},p∈acc->p∈F3 cells names acc
 |[],_,_,h=>h
 |(m,k)::r,acc,p,h=>by
  unfold F3
  split
  ·exact W3 (List.mem_cons_of_mem _ h)
  ·exact W3 h
theorem W4 {cells:List (Str×Addr)}:∀{names:List (Str×NameKind)} {acc:List (Str×Addr)} {n:Str},(n,.free)∈names->(n,(cells.lookup n).getD 0)∈F3 cells names acc
 |(m,k)::r,acc,n,h=>by
  unfold F3
  rcases List.mem_cons.mp h with e |h
  ·cases e
   exact W3 List.mem_cons_self
  ·split
   ·exact W4 h
   ·exact W4 h
theorem T4:∀{names:List (Str×NameKind)} {h:Heap} {acc:List (Str×Addr)} {x:Str} {c:Addr},(x,c)∈cellsFrom h.objs.size names acc->
  (x,c)∈acc∨((x,.cell)∈names/\h.objs.size<=c/\A31 (pushCells h names) c none)
 |[],_,_,_,_,h=>.inl h
 |(n,k)::r,h,acc,x,c,hm=>by
  unfold cellsFrom at hm
  unfold pushCells
  split at hm
  ·rename_i hk
   rw[if_pos hk]
   have hk:k=.cell:=by simpa using hk
   rw[←Heap.size_push h {cls:=.type "cell",data:=.cell none}]at hm
   rcases T4 hm with hm |⟨h1,h2,h3⟩
   ·rcases List.mem_cons.mp hm with e |hm
    ·cases e
     exact .inr ⟨hk▸List.mem_cons_self,Nat.le_refl _,_,pushCells_keeps r _ _ _ (Heap.get?_push_size _ rfl),rfl⟩
    ·exact .inl hm
   ·rw[Heap.size_push]at h2
    exact .inr ⟨List.mem_cons_of_mem _ h1,Nat.le_of_succ_le h2,h3⟩
  ·rename_i hk
   rw[if_neg hk]
   rcases T4 hm with hm |⟨h1,h2,h3⟩
   ·exact .inl hm
   ·exact .inr ⟨List.mem_cons_of_mem _ h1,h2,h3⟩
theorem X5:∀{names:List (Str×NameKind)} {n:Nat} {acc:List (Str×Addr)} {p:Str×Addr},p∈acc->p∈cellsFrom n names acc
 |[],_,_,_,h=>h
 |(m,k)::r,n,acc,p,h=>by
  unfold cellsFrom
  split
  ·exact X5 (List.mem_cons_of_mem _ h)
  ·exact X5 h
theorem n6:∀{names:List (Str×NameKind)} {n:Nat} {acc:List (Str×Addr)} {x:Str},(x,.cell)∈names->∃c,(x,c)∈cellsFrom n names acc
 |(m,k)::r,n,acc,x,h=>by
  unfold cellsFrom
  rcases List.mem_cons.mp h with e |h
  ·cases e
   exact⟨n,X5 List.mem_cons_self⟩
  ·split
   ·exact n6 h
   ·exact n6 h
theorem v7:∀{names:List (Str×NameKind)} {h:Heap} {acc:List (Str×Addr)} {x y:Str} {c:Addr},(∀p∈acc,p.2<h.objs.size)->(∀x y c,(x,c)∈acc->(y,c)∈acc->x=y)->
  (x,c)∈cellsFrom h.objs.size names acc->(y,c)∈cellsFrom h.objs.size names acc->x=y
 |[],_,_,_,_,_,_,hi,h1,h2=>hi _ _ _ h1 h2
 |(n,k)::r,h,acc,x,y,c,hl,hi,h1,h2=>by
  unfold cellsFrom at h1 h2
  split at h1
  ·rename_i hk
   rw[if_pos hk]at h2
   rw[←Heap.size_push h {cls:=.type "cell",data:=.cell none}]at h1 h2
   refine v7 (h:=h.push _) (fun p hp=>?_) (fun x y c a b=>?_) h1 h2
   ·rw[Heap.size_push]
    rcases List.mem_cons.mp hp with rfl |hp
    ·exact Nat.lt_succ_self _
    ·exact Nat.lt_succ_of_lt (hl p hp)
   ·rcases List.mem_cons.mp a with e |a<;>rcases List.mem_cons.mp b with e' |b
    ·cases e;cases e';rfl
    ·cases e;exact absurd (hl _ b) (Nat.lt_irrefl _)
    ·cases e';exact absurd (hl _ a) (Nat.lt_irrefl _)
    ·exact hi _ _ _ a b
  ·rename_i hk
   rw[if_neg hk]at h2
   exact v7 hl hi h1 h2
theorem AP2 {M:Model}{A:Around}{E:Value->Shared->Prop}{s:Shared}{scope:Scope}{globals:Addr}{closure:List (Str×Addr)}{qual:Str}{func:Option Addr}{code:Value}{around:Env}{builtins:Addr}{Q:Env->Shared->Prop}
  (h:Q (newEnv scope s.heap.objs.size globals (cellsFrom (s.heap.objs.size+1) scope.names closure) qual func code (some around) builtins)
   {s with heap:=pushCells (s.heap.push {cls:=.type "dict",data:=.dict #[]}) scope.names}):
  wpAny M A (newFunctionEnv scope globals closure [] qual func code (some around) builtins) Q E s:=by
 simp only[newFunctionEnv,Option.isSome_some,if_true]
 refine wpAny_bind (wpAny_alloc ?_)
 refine wpAny_bind (wpAny_layCells _ (fun n k c=>rfl) scope.names closure _ _ ?_)
 rw[show({s with heap:=s.heap.push {cls:=.type "dict",data:=.dict #[]}}:Shared).heap.objs.size=s.heap.objs.size+1 from Heap.size_push ..]
 rw[List.forIn_nil]
 exact wpAny_bind (wpAny_pure (wpAny_pure h))
theorem V1 {sc:Scope}:∀{names:List (Str×NameKind)} {x:Str} {k:NameKind},
  (names.map fun(n,k)=>if(k==NameKind.free&&sc.kind==.function&&sc.names.lookup n==some .cell)then(n,NameKind.cell)else(n,k)).lookup x=some k->
  ∃k',names.lookup x=some k'/\(k=k'∨(k'=.free/\k=.cell))
 |[],_,_,h=>by simp at h
 |(n,k₀)::r,x,k,h=>by
  have ih:=@V1 sc r x k
  have h':List.lookup x ((if(k₀==NameKind.free&&sc.kind==.function&&sc.names.lookup n==some .cell)=true then(n,NameKind.cell)else(n,k₀))::(r.map _))=some k:=h
  cases hx:x==n with
  |true=>
   simp only[List.lookup_cons,hx]
   by_cases hc:(k₀==NameKind.free&&sc.kind==.function&&sc.names.lookup n==some .cell)=true
   ·rw[if_pos hc]at h'
    simp only[List.lookup_cons,hx]at h'
    cases h'
    simp only[Bool.and_eq_true,beq_iff_eq]at hc
    exact⟨k₀,rfl,.inr ⟨hc.1.1,rfl⟩⟩
   ·rw[if_neg hc]at h'
    simp only[List.lookup_cons,hx]at h'
    cases h'
    exact⟨_,rfl,.inl rfl⟩
  |false=>
   simp only[List.lookup_cons,hx]
   by_cases hc:(k₀==NameKind.free&&sc.kind==.function&&sc.names.lookup n==some .cell)=true
   ·rw[if_pos hc]at h'
    simp only[List.lookup_cons,hx]at h'
    exact ih h'
   ·rw[if_neg hc]at h'
    simp only[List.lookup_cons,hx]at h'
    exact ih h'
structure At5 (N:List Str)(sc scope:Scope)(own:List (Str×Nat)):Prop where
 kind:scope.kind=.function
 uniq:∀y∈scope.names,scope.names.lookup y.1=some y.2
 ix:∀p∈own,N[p.2]?=some p.1
 free:∀y∈scope.names,y.2=.free->sc.names.lookup y.1=some .cell∨sc.names.lookup y.1=some .free
 own:∀y∈scope.names,y.2=.local∨y.2=.cell->y.1∈own.map (·.1)∨y.1∉N
noncomputable def i6 (σ:St):List Nat->St
 |[]=>σ
 |v::vs=>(i6 σ vs).set v none
theorem V3 (σ:St):∀vs:List Nat,(i6 σ vs).length=σ.length
 |[]=>rfl
 |v::vs=>by unfold i6;rw[List.length_set,V3 σ vs]
theorem u7 {σ:St}{i:Nat}{x:V}:∀{vs:List Nat},(i6 σ vs)[i]?=some (some x)->σ[i]?=some (some x)/\i∉vs
 |[],h=>⟨h,by simp⟩
 |v::vs,h=>by
  unfold i6 at h
  by_cases hi:v=i
  ·subst hi
   by_cases hv:v<(i6 σ vs).length
   ·rw[List.getElem?_set_self hv]at h;cases h
   ·rw[List.getElem?_eq_none (by simpa using hv)]at h;cases h
  ·rw[List.getElem?_set_ne hi]at h
   obtain⟨h1,h2⟩:=u7 h
   exact⟨h1,by simp only[List.mem_cons,not_or];exact⟨fun e=>hi e.symm,h2⟩⟩
noncomputable abbrev Cx.blk (X:Cx)(s:Shared)(H:Hp)(scope:Scope)(cenv:Env)(fp:List Addr):Cx:={X with s_0:=s,H_0:=H,env:=cenv,outer:=X.stack,ex:=fp,fn:=fun x=>scope.names.lookup x==some .cell,pn:=[],xe:=fun _ _=>False}
section
variable {X:Cx} {pins:List (Addr×Obj)} {σ:St} {H:Hp} {s:Shared}
theorem AR2 {scope:Scope}{own:List (Str×Nat)}{fp:List Addr}(I:Inv X pins σ H s)(ok:At5 X.N X.env.scope scope own)(hN:X.N.Nodup)(hfp:∀b∈fp,FpOk X pins H b/\b<s.heap.objs.size):
  Inv (X.blk s H scope (compEnvC scope (cellsFrom (s.heap.objs.size+1) scope.names (F3 X.env.cells scope.names [])) s.heap.objs.size X.env) fp) [] (i6 σ (own.map (·.2))) H {s with heap:=pushCells (s.heap.push {cls:=.type "dict",data:=.dict #[]}) scope.names}:=by
 have hfree:∀y∈scope.names,y.2=.free->∃c,X.env.cells.lookup y.1=some c:=fun y hy e=>by
  rcases ok.free y hy e with k |k
  ·exact I.ok.has _ (.inl k)
  ·exact I.ok.has _ (.inr k)
 generalize hcenv:compEnvC scope (cellsFrom (s.heap.objs.size+1) scope.names (F3 X.env.cells scope.names [])) s.heap.objs.size X.env=cenv
 have kp:∀b o,s.heap.get? b=some o->(pushCells (s.heap.push {cls:=.type "dict",data:=.dict #[]}) scope.names).get? b=some o:=fun b o e=>pushCells_keeps _ _ _ _ (Heap.get?_push_of_some _ e)
 have hL:cenv.locals=s.heap.objs.size:=by rw[←hcenv];rfl
 have hcl:cenv.cells=cellsFrom (s.heap.objs.size+1) scope.names (F3 X.env.cells scope.names []):=by rw[←hcenv];rfl
 have hsc:cenv.scope=Be2 scope X.env.scope:=by rw[←hcenv];rfl
 rw[←Heap.size_push s.heap {cls:=.type "dict",data:=.dict #[]}]at hcl
 have cm:∀{y c},(y,c)∈F3 X.env.cells scope.names []->X.env.cells.lookup y=some c/\c<s.heap.objs.size:=fun {y c} hm=>by
  rcases Q3 hm with hm |⟨h1,rfl⟩
  ·cases hm
  ·obtain⟨c,hc⟩:=hfree _ h1 rfl
   rw[hc]
   obtain⟨w,z⟩:=I.cell _ _ hc
   exact⟨rfl,z.lt⟩
 have mem:∀{y c},cenv.cells.lookup y=some c->(X.env.cells.lookup y=some c/\c<s.heap.objs.size)∨(s.heap.objs.size+1<=c/\A31 (pushCells (s.heap.push {cls:=.type "dict",data:=.dict #[]}) scope.names) c none):=fun {y c} e=>by
  rw[hcl]at e
  rcases T4 (PySem.mem_of_lookup e)with hm |⟨_,h2,h3⟩
  ·exact .inl (cm hm)
  ·rw[Heap.size_push]at h2;exact .inr ⟨h2,h3⟩
 have look:∀{y},scope.names.lookup y=some .free->∃c,cenv.cells.lookup y=some c/\X.env.cells.lookup y=some c:=fun {y} hl=>by
  have hy:(y,NameKind.free)∈scope.names:=PySem.mem_of_lookup hl
  obtain⟨c',e'⟩:=b5 (X5 (names:=scope.names) (n:=(s.heap.push {cls:=.type "dict",data:=.dict #[]}).objs.size) (W4 (cells:=X.env.cells) (acc:=[]) hy))
  rw[←hcl]at e'
  refine⟨c',e',?_⟩
  rw[hcl]at e'
  rcases T4 (PySem.mem_of_lookup e')with hm |⟨h1,_,_⟩
  ·exact(cm hm).1
  ·have:=ok.uniq _ h1
   rw[hl]at this;cases this
 have okB:(X.blk s H scope cenv fp).Ok:=by
  refine⟨I.ok.mod,by show cenv.scope.kind=_;rw[hsc];exact ok.kind,by show cenv.globals=_;rw[←hcenv];exact I.ok.glob,by show cenv.builtins=_;rw[←hcenv];exact I.ok.blt,by show s.heap.objs.size<=cenv.locals;rw[hL];exact Nat.le_refl _,
   fun y z c e1 e2=>?_,fun y hy=>?_,fun y c z e=>?_,I.ok.hd,I.ok.frames,.inl rfl,fun b hb=>⟨?_,fun y c e z=>?_⟩,I.bs,Nat.le_trans I.ok.bsz I.sz,fun b o e hb=>?_,fun b hb z=>?_,I.stack,I.stkFree⟩
  ·have e1:cenv.cells.lookup y=some c:=e1
   have e2:cenv.cells.lookup z=some c:=e2
   rw[hcl]at e1 e2
   refine v7 (fun p hp=>?_) (fun y z c a b=>I.ok.inj y z c (cm a).1 (cm b).1) (PySem.mem_of_lookup e1) (PySem.mem_of_lookup e2)
   rw[Heap.size_push]
   exact Nat.lt_succ_of_lt (cm (y:=p.1) (c:=p.2) hp).2
  ·show ∃c,cenv.cells.lookup y=some c
   have key:∀k,cenv.kindOf y=some k->(k=.cell∨k=.free)->∃c,cenv.cells.lookup y=some c:=fun k hk hk'=>by
    unfold Env.kindOf at hk
    rw[hsc]at hk
    obtain⟨k',e,r⟩:=V1 hk
    have:k'=.cell∨k'=.free:=by
     rcases r with rfl |⟨rfl,_⟩
     ·exact hk'
     ·exact .inr rfl
    rcases this with rfl |rfl
    ·obtain⟨c,hm⟩:=n6 (n:=(s.heap.push {cls:=.type "dict",data:=.dict #[]}).objs.size) (acc:=F3 X.env.cells scope.names []) (PySem.mem_of_lookup e)
     obtain⟨c',e'⟩:=b5 hm
     exact⟨c',by rw[hcl];exact e'⟩
    ·obtain⟨c,h1,_⟩:=look e
     exact⟨c,h1⟩
   rcases hy with hy |hy
   ·exact key _ hy (.inl rfl)
   ·exact key _ hy (.inr rfl)
  ·have z:(scope.names.lookup y==some NameKind.cell)=true:=z
   have z:scope.names.lookup y=some .cell:=by simpa using z
   have e:cenv.cells.lookup y=some c:=e
   rw[hcl]at e
   rcases T4 (PySem.mem_of_lookup e)with hm |⟨_,h2,_⟩
   ·rcases Q3 hm with hm |⟨h1,_⟩
    ·cases hm
    ·have q:=ok.uniq _ h1
     rw[z]at q;cases q
   ·rw[Heap.size_push]at h2
    exact Nat.le_of_succ_le h2
  ·show b≠cenv.locals
   rw[hL];exact Nat.ne_of_lt (hfp b hb).2
  ·have e:cenv.cells.lookup y=some c:=e
   rcases mem e with ⟨h1,_⟩ |⟨h1,_⟩
   ·exact(hfp b hb).1.2.2.2.2.1 y c h1 z
   ·have h2:s.heap.objs.size+1<=b:=by rw[←z];exact h1
    exact absurd (Nat.lt_of_lt_of_le (hfp b hb).2 (Nat.le_of_succ_le h2)) (Nat.lt_irrefl _)
  ·rcases(hfp b hb).1.2.2.2.1 with z |z
   ·exact I.ok.noex b o e z
   ·exact absurd (Nat.lt_of_lt_of_le (Heap.lt_size e) (Nat.le_trans I.ok.bsz z)) (Nat.lt_irrefl _)
  ·rcases List.mem_cons.mp (I.stkSub b z)with z |z
   ·exact(hfp b hb).1.2.1 z
   ·exact(hfp b hb).1.2.2.1 z
 refine⟨okB,rfl,I.bare,Un.kept kp,⟨fun _=>none,?_,fun i y av e1 e2 e3=>?_⟩,fun y c e=>?_,?_,fun y c e=>?_,fun p hp=>?_,I.hok.kept kp,by rw[V3];exact I.len⟩
 ·show Heap.Ns _ cenv.locals _
  rw[hL]
  exact Heap.Ns.keeps (Heap.Ns.new ..) fun b o e=>pushCells_keeps _ _ _ _ e
 ·obtain⟨e2,hne⟩:=u7 e2
  have hfr:scope.names.lookup y=some .free/\(cenv.kindOf y=some .cell∨cenv.kindOf y=some .free):=by
   have key:∀k,cenv.scope.names.lookup y=some k->k=.local∨k=.cell∨k=.free->scope.names.lookup y=some .free/\(cenv.kindOf y=some .cell∨cenv.kindOf y=some .free):=fun k hk hk'=>by
    have hk0:=hk
    rw[hsc]at hk
    obtain⟨k',e,r⟩:=V1 hk
    have no:¬(k'=.local∨k'=.cell):=fun hh=>by
     rcases ok.own _ (PySem.mem_of_lookup e) hh with e' |e'
     ·obtain⟨p,hp,hpy⟩:=List.mem_map.mp e'
      have e3:=ok.ix p hp
      have:p.1=y:=hpy
      rw[this]at e3
      exact hne (List.mem_map.mpr ⟨p,hp,AD4 hN e3 e1⟩)
     ·exact e' (List.mem_of_getElem? e1)
    rcases r with rfl |⟨rfl,rfl⟩
    ·rcases hk' with rfl |rfl |rfl
     ·exact absurd (.inl rfl) no
     ·exact absurd (.inr rfl) no
     ·exact⟨e,.inr hk0⟩
    ·exact⟨e,.inl hk0⟩
   have e3:Vis cenv.scope y:=e3
   rcases e3 with e3 |e3 |e3
   ·exact key _ e3 (.inl rfl)
   ·exact key _ e3 (.inr (.inl rfl))
   ·exact key _ e3 (.inr (.inr rfl))
  obtain⟨m,hn,hl⟩:=I.loc
  have hvis:Vis X.env.scope y:=(ok.free _ (PySem.mem_of_lookup hfr.1) rfl).elim (fun k=>.inr (.inl k)) (fun k=>.inr (.inr k))
  obtain⟨w,r,q⟩:=hl i y av e1 e2 hvis
  refine⟨w,r,.inr ⟨hfr.2,?_⟩⟩
  obtain⟨c,h1,h2⟩:=look hfr.1
  rcases q with ⟨k,_⟩ |⟨_,c',e',z⟩
  ·have k:X.env.scope.names.lookup y=some .local:=k
   rcases ok.free _ (PySem.mem_of_lookup hfr.1) rfl with k' |k'<;>rw[show X.env.scope.names.lookup y=_ from k']at k<;>cases k
  ·rw[h2]at e';cases e'
   exact⟨c,h1,z.keeps kp⟩
 ·have e:cenv.cells.lookup y=some c:=e
  rcases mem e with ⟨h1,_⟩ |⟨_,z⟩
  ·obtain⟨w,z⟩:=I.cell y c h1
   exact⟨w,z.keeps kp⟩
  ·exact⟨_,z⟩
 ·show H cenv.locals=none
  rw[hL];exact I.hok.fresh (Nat.le_refl _)
 ·have e:cenv.cells.lookup y=some c:=e
  rcases mem e with ⟨h1,_⟩ |⟨h1,_⟩
  ·exact I.freeC y c h1
  ·exact I.hok.fresh (Nat.le_of_succ_le h1)
 ·exact absurd (show p∈([]:List (Addr×Obj))++[]from hp) (by simp)
theorem BN5 {E:Value->Shared->Prop}{D:Addr}{xs:List V}{y:V}{v:Value}{Q:Value->Shared->Prop}(I:Inv X pins σ H s)(hD:H D=some (.lst xs))(hz:xs.length<sizeLine)(r:RelV y v)
  (h:∀s',Inv X pins σ (upd H D (.lst (xs++[y]))) s'->Q .none s'):wpAny (model X.prog X.w) X.A (call (.builtin "list.append") [.ref D,v]) Q E s:=by
 obtain⟨hz',its,n,ri,e⟩:=I.hok D _ hD
 have hl:=ri.length
 refine append_at (hsz:=by rw[List.size_toArray];omega) e fun h' sb ho'=>?_
 refine h {s with heap:=h'} (I.write (t':=s.toks) (by rw[hD];trivial) (.inl rfl) (fun b u hb q=>(sb.2 b hb).trans q) ⟨_,ho'⟩ ⟨by rw[List.length_append];exact hz,its++[v],n+1,ri.append (.cons r .nil),?_⟩)
 rw[ho']
 simp
noncomputable def PTs (X:Cx)(ifs:List Expr)(t:TT):Prop:=
 ∀(pins:List (Addr×Obj)) (s:Shared) (σ:St) (H:Hp) (Q:Bool->Hp->Prop),Inv X pins σ H s->t σ H Q->
  wpAny (model X.prog X.w) X.A (forIn ifs true fun c r=>if r=true then do let ok ←isTrue c X.env (eval c X.env);pure (ForInStep.yield ok)else pure (ForInStep.yield r)) (TP X pins σ Q) X.xe s
noncomputable def Be0:TT:=fun _ H Q=>Q true H
theorem D7:PTs X [] Be0:=fun _ _ _ H _ I h=>wpAny_tests_nil ⟨H,I,h⟩
end
theorem BH6 {α:Type}{t:Sem α}{Q Q':α->Shared->Prop}{M:Model}{A:Around}{E:Value->Shared->Prop}{s:Shared}(h:wpAny M A t Q (fun _ _=>False) s)(hQ:∀a s,Q a s->Q' a s):wpAny M A t Q' E s:=wpAny_mono h hQ fun _ _ z=>False.elim z
theorem AK3 {prog:Program}{w:World}{A:Around}{R:Result->Shared->Prop}{s:Shared}{elt target iter:Expr}{ifs:List Expr}{scope:Scope}{pos:Pos}{it acc:Value}{env:Env}(I:Nat->Shared->Prop)
  (turn:∀n s,I n s->wpAny (model prog w) A (pyNext it) (fun r s₁=>match r with
   |none=>R (.ok .next) s₁
   |some v=>wpAny (model prog w) A (letOwnedTupleGo target it v) (fun _ s₁'=>wpAny (model prog w) A (assign target env v) (fun _ s₂=>
     wpAny (model prog w) A (forIn ifs true fun c r=>if r=true then do let ok ←isTrue c env (eval c env);pure (ForInStep.yield ok)else pure (ForInStep.yield r)) (fun ok s₃=>
      if ok=true then wpAny (model prog w) A (eval elt env) (fun x s₄=>
       wpAny (model prog w) A (call (.builtin "list.append") [acc,x]) (fun _ s₅=>∃m,m<n/\I m s₅) (notedBy (model prog w) A env fun e s'=>R (.error e) s') s₄) (notedBy (model prog w) A env fun e s'=>R (.error e) s') s₃
      else ∃m,m<n/\I m s₃) (notedBy (model prog w) A env fun e s'=>R (.error e) s') s₂) (notedBy (model prog w) A env fun e s'=>R (.error e) s') s₁') (notedBy (model prog w) A env fun e s'=>R (.error e) s') s₁) (notedBy (model prog w) A env fun e s'=>R (.error e) s') s)
  (n:Nat) (h:I n s):
  codeAny (model prog w) A (.compLoop (.ListComp elt [⟨target,iter,ifs,0⟩] scope pos) 0 it acc env) R s:=by
 refine codeAny_loop rfl I (fun n s hI=>?_) n h
 show wpAny _ A ((compTurn (.ListComp elt [⟨target,iter,ifs,0⟩] scope pos) 0 it acc env).onRaise (fun x=>do noteFrame x env;theTreesLotGoes x)) _ _ s
 refine wpAny_noted ?_
 rw[compTurn_list]
 refine wpAny_bind (wpAny_standAt (wpAny_bind (wpAny_mono (turn n s hI) (fun r s₁ h₁=>?_) fun _ _ h'=>h')))
 cases r with
 |none=>exact wpAny_pure h₁
 |some v=>
  refine wpAny_bind (wpAny_mono h₁ (fun _ s₁' h₁'=>?_) fun _ _ h'=>h')
  refine wpAny_bind (wpAny_mono h₁' (fun _ s₂ h₂=>wpAny_bind (wpAny_mono h₂ (fun ok s₃ h₃=>?_) fun _ _ h'=>h')) fun _ _ h'=>h')
  cases ok with
  |false=>exact wpAny_pure ⟨rfl,h₃⟩
  |true=>
   exact wpAny_bind (wpAny_bind (wpAny_mono h₃ (fun x s₄ h₄=>wpAny_bind (wpAny_mono h₄ (fun _ s₅ h₅=>wpAny_pure (wpAny_pure ⟨rfl,h₅⟩)) fun _ _ h'=>h')) fun _ _ h'=>h'))
section
variable {X:Cx}
noncomputable def tLc (wi:TI)(g:TG)(tt:TT)(te:TE)(vs:List Nat):TE:=fun σ H Q=>wi σ H fun J H1=>∀D,H1 D=none->∃W:Nat->Nat->Hp->Prop,(∃m,W 0 m (upd H1 D (.lst [])))/\∀i m H,W i m H->
 (J.stop i H/\Q (.ref D) H)∨(J.go i H/\∃Nx:Hp->Prop,(∀H',Nx H'->∃m',m'<m/\W (i+1) m' H')/\∀x H',J.yld i H x H'->g x (i6 σ vs) H' fun σ2 H2=>i6 σ2 vs=i6 σ vs/\tt σ2 H2 fun b H3=>
  if b=true then te σ2 H3 fun y H4=>∃acc,H4 D=some (.lst acc)/\acc.length<sizeLine/\Nx (upd H4 D (.lst (acc++[y])))else Nx H3)
theorem BF9 {pins:List (Addr×Obj)}{s:Shared}{σ:St}{H:Hp}{Q:VK}{elt tg iter:Expr}{ifs:List Expr}{scope:Scope}{own:List (Str×Nat)}{pos pos':Pos}{wi:TI}{g:TG}{tt:TT}{te:TE}{use:Option (Value->Sem Unit)}{Qf:Value->Shared->Prop}
  (hc:X.calm=true) (hN:X.N.Nodup) (I:Inv X pins σ H s) (hi:PI X tg iter wi) (ok:At5 X.N X.env.scope scope own)
  (hg:∀(s:Shared) (H:Hp) (C:Addr) (cl:List (Str×Addr)) (fp:List Addr),PG (X.blk s H scope (compEnvC scope cl C X.env) fp) tg g) (ht:∀(s:Shared) (H:Hp) (C:Addr) (cl:List (Str×Addr)) (fp:List Addr),PTs (X.blk s H scope (compEnvC scope cl C X.env) fp) ifs tt)
  (he:∀(s:Shared) (H:Hp) (C:Addr) (cl:List (Str×Addr)) (fp:List Addr),PE (X.blk s H scope (compEnvC scope cl C X.env) fp) elt te) (hs:∀x,foldedSetIterable iter X.env x=pure x)
  (h:tLc wi g tt te (own.map (·.2)) σ H Q)
  (hRR:∀D C s' m H',Inv X pins σ H' s'->Q (.ref D) H'->s'.heap.Ns C m->FpOk X pins H' C->compPost (model X.prog X.w) X.A X.xe use Qf (.ref D) C (.ok .next) s'):
  wpAny (model X.prog X.w) X.A (comprehension (.ListComp elt [⟨tg,iter,ifs,0⟩] scope pos) scope X.env pos' (newList []) false (eval iter X.env) use) Qf X.xe s:=by
 have hfree:∀y∈scope.names,y.2=.free->∃c,X.env.cells.lookup y.1=some c:=fun y hy e=>by
  rcases ok.free y hy e with k |k
  ·exact I.ok.has _ (.inl k)
  ·exact I.ok.has _ (.inr k)
 refine wpAny_comprehension_free (use:=use) rfl hs (AY9 hfree) ok.kind (fun y hy e=>by rw[ok.uniq y hy,e])
  (thn (hi pins s σ H _ I h) fun xv s1 hx=>thn hx fun itv s2 h2=>?_)
 obtain⟨it,fp,tn,J,H2,e,I2,T,st2,f2,q⟩:=h2
 subst e
 refine wpAny_newObj_type (AP2 ?_) (by show 0<=sizeLine;decide)
 generalize hD:s2.heap.objs.size=D
 have hDn:H2 D=none:=I2.hok.fresh (Nat.le_of_eq hD)
 obtain⟨W,⟨m0,w0⟩,turn⟩:=q D hDn
 -- the new list
 generalize hs3:({s2 with heap:=s2.heap.push {cls:=.type "list",data:=.seq ([]:List Value).toArray}}:Shared)=s3
 have I3:Inv X pins σ (upd H2 D (.lst [])) s3:=by
  rw[←hs3]
  refine I2.laid (t':=s2.toks) (fun b o e=>Heap.get?_push_of_some _ e) (Nat.le_of_eq hD) ⟨Nat.zero_le _,[],0,.nil,?_⟩
  rw[←hD]
  exact Heap.get?_push_size _ rfl
 have h3:s3.heap=s2.heap.push {cls:=.type "list",data:=.seq ([]:List Value).toArray}:=by rw[←hs3]
 have sz:∀b∈fp,b<s2.heap.objs.size:=fun b hb=>by
  obtain⟨o,e,_⟩:=T.obj _ _ st2 b hb
  exact Heap.lt_size e
 have f3:∀b∈fp,FpOk X pins (upd H2 D (.lst [])) b/\b<s3.heap.objs.size:=fun b hb=>by
  have hlt:=sz b hb
  refine⟨⟨?_,(f2 b hb).2⟩,by rw[h3,Heap.size_push];exact Nat.lt_succ_of_lt hlt⟩
  rw[A5 (by rw[←hD];exact Nat.ne_of_lt hlt)]
  exact(f2 b hb).1
 have st3:tn 0 s3.heap:=T.keep _ _ _ st2 fun b _ o e=>by rw[h3];exact Heap.get?_push_of_some _ e
 have I4:=AR2 I3 ok hN f3
 have pg:=hg s3 (upd H2 D (.lst [])) s3.heap.objs.size (cellsFrom (s3.heap.objs.size+1) scope.names (F3 X.env.cells scope.names [])) fp
 have pt:=ht s3 (upd H2 D (.lst [])) s3.heap.objs.size (cellsFrom (s3.heap.objs.size+1) scope.names (F3 X.env.cells scope.names [])) fp
 have pe:=he s3 (upd H2 D (.lst [])) s3.heap.objs.size (cellsFrom (s3.heap.objs.size+1) scope.names (F3 X.env.cells scope.names [])) fp
 show codeAny _ _ (.compStart (.ListComp elt [⟨tg,iter,ifs,0⟩] scope pos) 0 (.ref it) (.ref D) (compEnvC scope (cellsFrom (s3.heap.objs.size+1) scope.names (F3 X.env.cells scope.names [])) s3.heap.objs.size X.env)) (compPost (model X.prog X.w) X.A X.xe use Qf (.ref D) s3.heap.objs.size) {s3 with heap:=pushCells (s3.heap.push {cls:=.type "dict",data:=.dict #[]}) scope.names}
 have nfp:∀b∈fp,(upd H2 D (.lst [])) b=none:=fun b hb=>(f3 b hb).1.1
 generalize hce:compEnvC scope (cellsFrom (s3.heap.objs.size+1) scope.names (F3 X.env.cells scope.names [])) s3.heap.objs.size X.env=ce at I4 pg pt pe ⊢
 have cL:ce.locals=s3.heap.objs.size:=by subst hce;rfl
 generalize hH3:upd H2 D (.lst [])=H3 at I3 I4 pg pt pe w0 nfp f3
 generalize hs4:({s3 with heap:=pushCells (s3.heap.push {cls:=.type "dict",data:=.dict #[]}) scope.names}:Shared)=s4 at I4 ⊢
 have st4:tn 0 s4.heap:=T.keep _ _ _ st3 fun b _ o e=>by rw[←hs4];exact pushCells_keeps _ _ _ _ (Heap.get?_push_of_some _ e)
 have stat:∀{σ':St} {H':Hp} {s':Shared},Inv (X.blk s3 H3 scope ce fp) [] σ' H' s'->(∀b∈fp,H' b=none)->∀b∈fp,FpOk (X.blk s3 H3 scope ce fp) [] H' b:=fun {σ' H' s'} I' hn b hb=>
  ⟨hn b hb,(I'.ok.exf b hb).1,I'.ok.exfs b hb,.inl hb,fun x c e=>(I'.ok.exf b hb).2 x c e,fun p hp=>absurd (show p∈([]:List (Addr×Obj))++[]from hp) (by simp)⟩
 have loop:codeAny (model X.prog X.w) X.A (.compLoop (.ListComp elt [⟨tg,iter,ifs,0⟩] scope pos) 0 (.ref it) (.ref D) ce) (compPost (model X.prog X.w) X.A X.xe use Qf (.ref D) s3.heap.objs.size) s4:=by
  refine AK3 (fun n s'=>∃i H',Inv (X.blk s3 H3 scope ce fp) [] (i6 σ (own.map (·.2))) H' s'/\tn i s'.heap/\(∀b∈fp,H' b=none)/\W i n H') ?_ m0 ⟨0,H3,I4,st4,nfp,w0⟩
  rintro n s5 ⟨i,H5,I5,st5,n5,w5⟩
  rcases turn i n H5 w5 with ⟨stop,qq⟩ |⟨go,Nx,hNx,step⟩
  ·have td:=T.done (X.blk s3 H3 scope ce fp) rfl rfl rfl hc i [] s5 _ H5 (fun _ _=>False) I5 (stat I5 n5) st5 stop
   refine BH6 td fun r s6 ⟨hr,I6⟩=>?_
   subst hr
   -- back in the def's context
   have I7:Inv X pins σ H5 s6:=I3.call' (ch:=fp) I6.os I6.base I6.hok I6.bare fun b hb=>⟨(f3 b hb).1.2.2.2.1,(f3 b hb).1.2.1,(f3 b hb).1.2.2.2.2.1,(f3 b hb).1.2.2.2.2.2⟩
   have nC:H5 s3.heap.objs.size=none:=by
    have z:H5 ce.locals=none:=I6.free
    rw[cL]at z
    exact z
   obtain⟨m,hn,_⟩:=I6.loc
   have hn:s6.heap.Ns ce.locals m:=hn
   rw[cL]at hn
   exact hRR D s3.heap.objs.size s6 m H5 I7 qq hn (I3.fpOk (Nat.le_refl _) nC)
  ·have ti:=T.item (X.blk s3 H3 scope ce fp) rfl rfl rfl hc i [] s5 _ H5 (fun _ _=>False) I5 (stat I5 n5) st5 go
   refine BH6 ti fun r s6 ⟨u,hr,h6⟩=>?_
   subst hr
   refine BH6 h6 fun _ s7 ⟨x,H7,I7,r7,y7,st7,n7⟩=>?_
   have I7':=I7.pinned (stat I7 n7) (T.obj _ _ st7)
   refine BH6 (pg _ s7 _ H7 x u _ I7' r7 (step x H7 y7)) fun _ s8 ⟨σ8,H8,I8,hw8,q8⟩=>?_
   refine BH6 (pt _ s8 σ8 H8 _ I8 q8) fun b s9 ⟨H9,I9,q9⟩=>?_
   -- the turn's end
   have fin:∀{s':Shared} {H':Hp},Inv (X.blk s3 H3 scope ce fp) ([]++AK8 fp s7.heap) σ8 H' s'->Nx H'->∃m,m<n/\∃i H',Inv (X.blk s3 H3 scope ce fp) [] (i6 σ (own.map (·.2))) H' s'/\tn i s'.heap/\(∀b∈fp,H' b=none)/\W i m H':=fun {s' H'} I' nx=>by
    obtain⟨m',hm,w'⟩:=hNx H' nx
    have pin':∀b∈fp,∀o,s7.heap.get? b=some o->s'.heap.get? b=some o/\H' b=none:=fun b hb o e=>
     let z:=I'.pin (b,o) (List.mem_append_right _ (List.mem_append_right _ (Z7 hb e)))
     ⟨z.1,z.2.1⟩
    have hl:(i6 σ (own.map (·.2))).length=σ8.length:=by rw[←hw8,V3]
    refine⟨m',hm,i+1,H',(I'.unpinned (pins:=[])).weak hl (fun j v e=>?_),T.keep _ _ _ st7 fun b hb o e=>(pin' b hb o e).1,fun b hb=>?_,w'⟩
    ·rw[←hw8]at e
     exact(u7 e).1
    ·obtain⟨o,e,_⟩:=T.obj _ _ st7 b hb
     exact(pin' b hb o e).2
   cases b with
   |false=>
    simp only[Bool.false_eq_true,if_false]at q9 ⊢
    exact fin I9 q9
   |true=>
    simp only[if_true]at q9 ⊢
    refine BH6 (pe _ s9 σ8 H9 _ I9 q9) fun z s10 ⟨yv,H10,I10,r10,acc,hD10,hz10,nx⟩=>?_
    exact BN5 (X:=X.blk s3 H3 scope ce fp) I10 hD10 hz10 r10 fun s11 I11=>fin I11 nx
 exact codeAny_compStart_list loop (T.self X.A 0 _ _ _ st4 loop)
theorem Ax0 {elt tg iter:Expr}{ifs:List Expr}{scope:Scope}{own:List (Str×Nat)}{pos:Pos}{wi:TI}{g:TG}{tt:TT}{te:TE}(hc:X.calm=true)(hN:X.N.Nodup)(hi:PI X tg iter wi)(ok:At5 X.N X.env.scope scope own)
  (hg:∀(s:Shared) (H:Hp) (C:Addr) (cl:List (Str×Addr)) (fp:List Addr),PG (X.blk s H scope (compEnvC scope cl C X.env) fp) tg g) (ht:∀(s:Shared) (H:Hp) (C:Addr) (cl:List (Str×Addr)) (fp:List Addr),PTs (X.blk s H scope (compEnvC scope cl C X.env) fp) ifs tt)
  (he:∀(s:Shared) (H:Hp) (C:Addr) (cl:List (Str×Addr)) (fp:List Addr),PE (X.blk s H scope (compEnvC scope cl C X.env) fp) elt te) (hs:∀x,foldedSetIterable iter X.env x=pure x:=by intro _;rfl):
  PE X (.ListComp elt [⟨tg,iter,ifs,0⟩] scope pos) (tLc wi g tt te (own.map (·.2))):=by
 intro pins s σ H Q I h
 rw[eval_ListComp]
 refine BF9 hc hN I hi ok hg ht he hs h fun D C s' m H' I' q hn f=>⟨m,hn,fun h'' sb=>?_⟩
 obtain⟨f0,f1,f2,f3,f4,f5⟩:=f
 exact⟨.ref D,H',I'.turned (t':=s'.toks) (fun b o hb e=>(sb.2 b hb).trans e) f0 f1 f3 f4 f5,rfl,q⟩
end
theorem Ak9 {K:PySem.W.Frag}{a:Addr}{xs:List V}{g:TG}{tt:TT}{te:TE}{vs:List Nat}{σ:St}{H1:Hp}{D:Addr}{Qd:Hp->Prop}(Pv:Nat->Hp->Prop)(h0:Pv 0 (upd H1 D (.lst [])))(hl:∀i H,i<=xs.length->Pv i H->SqL K H a xs)
  (hs:∀i x H,xs[i]?=some x->Pv i H->g x (i6 σ vs) H fun σ2 H2=>i6 σ2 vs=i6 σ vs/\tt σ2 H2 fun b H3=>
   if b=true then te σ2 H3 fun y H4=>∃acc,H4 D=some (.lst acc)/\acc.length<sizeLine/\Pv (i+1) (upd H4 D (.lst (acc++[y])))else Pv (i+1) H3) (hd:∀H,Pv xs.length H->Qd H):
  ∃W:Nat->Nat->Hp->Prop,(∃m,W 0 m (upd H1 D (.lst [])))/\∀i m H,W i m H->
   ((Itl K a).stop i H/\Qd H)∨((Itl K a).go i H/\∃Nx:Hp->Prop,(∀H',Nx H'->∃m',m'<m/\W (i+1) m' H')/\∀x H',(Itl K a).yld i H x H'->g x (i6 σ vs) H' fun σ2 H2=>i6 σ2 vs=i6 σ vs/\tt σ2 H2 fun b H3=>
    if b=true then te σ2 H3 fun y H4=>∃acc,H4 D=some (.lst acc)/\acc.length<sizeLine/\Nx (upd H4 D (.lst (acc++[y])))else Nx H3):=by
 refine⟨fun i m H=>m=xs.length-i/\i<=xs.length/\Pv i H,⟨xs.length,by simp,Nat.zero_le _,h0⟩,?_⟩
 rintro i m H ⟨rfl,hi,p⟩
 have q:=hl i H hi p
 by_cases hlt:i<xs.length
 ·refine .inr ⟨⟨xs,xs[i],q,by simp[hlt]⟩,Pv (i+1),fun H' p'=>⟨xs.length-(i+1),by omega,rfl,hlt,p'⟩,fun x H' y=>?_⟩
  obtain⟨e,y⟩:=y
  subst e
  exact hs i x _ (y xs q) p
 ·have e:i=xs.length:=by omega
  subst e
  exact .inl ⟨⟨xs,q,Nat.le_refl _⟩,hd H p⟩
theorem A42 {K:PySem.W.Frag}{a:Addr}{xs:List V}{g:TG}{tt:TT}{te:TE}{vs:List Nat}{σ:St}{H1:Hp}{D:Addr}{Qd:Hp->Prop}(Pv:Nat->Hp->Prop)(h0:Pv 0 (upd H1 D (.lst [])))(hl:∀i H,i<=xs.length->Pv i H->SqT K H a xs)
  (hs:∀i x H,xs[i]?=some x->Pv i H->g x (i6 σ vs) H fun σ2 H2=>i6 σ2 vs=i6 σ vs/\tt σ2 H2 fun b H3=>
   if b=true then te σ2 H3 fun y H4=>∃acc,H4 D=some (.lst acc)/\acc.length<sizeLine/\Pv (i+1) (upd H4 D (.lst (acc++[y])))else Pv (i+1) H3) (hd:∀H,Pv xs.length H->Qd H):
  ∃W:Nat->Nat->Hp->Prop,(∃m,W 0 m (upd H1 D (.lst [])))/\∀i m H,W i m H->
   ((Itt K a).stop i H/\Qd H)∨((Itt K a).go i H/\∃Nx:Hp->Prop,(∀H',Nx H'->∃m',m'<m/\W (i+1) m' H')/\∀x H',(Itt K a).yld i H x H'->g x (i6 σ vs) H' fun σ2 H2=>i6 σ2 vs=i6 σ vs/\tt σ2 H2 fun b H3=>
    if b=true then te σ2 H3 fun y H4=>∃acc,H4 D=some (.lst acc)/\acc.length<sizeLine/\Nx (upd H4 D (.lst (acc++[y])))else Nx H3):=by
 refine⟨fun i m H=>m=xs.length-i/\i<=xs.length/\Pv i H,⟨xs.length,by simp,Nat.zero_le _,h0⟩,?_⟩
 rintro i m H ⟨rfl,hi,p⟩
 have q:=hl i H hi p
 by_cases hlt:i<xs.length
 ·refine .inr ⟨⟨xs,xs[i],q,by simp[hlt]⟩,Pv (i+1),fun H' p'=>⟨xs.length-(i+1),by omega,rfl,hlt,p'⟩,fun x H' y=>?_⟩
  obtain⟨e,y⟩:=y
  subst e
  exact hs i x _ (y xs q) p
 ·have e:i=xs.length:=by omega
  subst e
  exact .inl ⟨⟨xs,q,Nat.le_refl _⟩,hd H p⟩
noncomputable def Ba8 (N:List Str)(sc scope:Scope)(own:List (Str×Nat)):Bool:=
 (match scope.kind with |.function=>true |_=>false)&&(scope.names.all fun y=>decide (scope.names.lookup y.1=some y.2))&&(own.all fun p=>decide (N[p.2]?=some p.1))&&
  (scope.names.all fun y=>match y.2 with
   |.free=>(match sc.names.lookup y.1 with |some .cell=>true |some .free=>true |_=>false)
   |.local=>decide (y.1∈own.map (·.1))||decide (y.1∉N)
   |.cell=>decide (y.1∈own.map (·.1))||decide (y.1∉N)
   |_=>true)
theorem m4 {N:List Str}{sc scope:Scope}{own:List (Str×Nat)}(h:Ba8 N sc scope own=true):At5 N sc scope own:=by
 unfold Ba8 at h
 simp only[Bool.and_eq_true,List.all_eq_true,decide_eq_true_eq]at h
 obtain⟨⟨⟨h1,h2⟩,h3⟩,h4⟩:=h
 refine⟨?_,h2,h3,fun y hy e=>?_,fun y hy e=>?_⟩
 ·split at h1
  ·assumption
  ·cases h1
 ·have q:=h4 y hy
  simp only[e]at q
  split at q<;>first |exact .inl (by assumption) |exact .inr (by assumption) |cases q
 ·have q:=h4 y hy
  rcases e with e |e<;>(simp only[e,Bool.or_eq_true,decide_eq_true_eq]at q;exact q)
end L2
namespace L2
open PySem PySem.Spec PyProof.Rows
section
variable {prog:Program} {w:World} {A:Around} {R:Result->Shared->Prop} {s:Shared} {elt t0 i0 t1 i1:Expr} {ifs0 ifs1:List Expr} {scope:Scope} {pos:Pos} {it acc:Value} {env:Env}
end
section
variable {X:Cx}
end
end L2
namespace L2
open PySem PySem.Spec PyProof.Rows
section
variable {κ:Type} [DecidableEq κ]
noncomputable def O9 (kvs:List (κ×V))(k:κ):Option V:=(kvs.find? fun kv=>decide (kv.1=k)).map (·.2)
noncomputable def AO3 (kvs:List (κ×V))(k:κ)(v:V):List (κ×V):=
 if(kvs.any fun kv=>decide (kv.1=k))=true then kvs.map (fun kv=>if kv.1=k then(kv.1,v)else kv)else kvs++[(k,v)]
theorem G5 {p:κ×V}{r:List (κ×V)}{k:κ}(e:p.1=k):O9 (p::r) k=some p.2:=by simp[O9,List.find?_cons,e]
theorem J2 {p:κ×V}{r:List (κ×V)}{k:κ}(e:¬p.1=k):O9 (p::r) k=O9 r k:=by simp[O9,List.find?_cons,e]
theorem l6 (k:κ):∀kvs:List (κ×V),(kvs.any fun kv=>decide (kv.1=k))=(O9 kvs k).isSome
 |[]=>rfl
 |p::r=>by
  rw[List.any_cons]
  by_cases e:p.1=k
  ·simp only[G5 e,decide_eq_true e,Bool.true_or,Option.isSome_some]
  ·rw[J2 e,decide_eq_false e,Bool.false_or];exact l6 k r
theorem AW7 (k j:κ)(y:V):∀kvs:List (κ×V),O9 (kvs.map fun kv=>if kv.1=k then(kv.1,y)else kv) j=(O9 kvs j).map fun x=>if j=k then y else x
 |[]=>rfl
 |p::r=>by
  have ih:=AW7 k j y r
  rw[List.map_cons]
  by_cases h:p.1=k
  ·rw[if_pos h]
   by_cases e:p.1=j
   ·rw[G5 (p:=(p.1,y)) e,G5 e,Option.map_some,if_pos (e.symm.trans h)]
   ·rw[J2 (p:=(p.1,y)) e,J2 e,ih]
  ·rw[if_neg h]
   by_cases e:p.1=j
   ·rw[G5 (p:=p) e,G5 e,Option.map_some,if_neg (fun z=>h (e.trans z))]
   ·rw[J2 (p:=p) e,J2 e,ih]
theorem AJ9 (k j:κ)(y:V):∀kvs:List (κ×V),O9 kvs k=none->O9 (kvs++[(k,y)]) j=if j=k then some y else O9 kvs j
 |[],_=>by
  by_cases e:k=j
  ·rw[if_pos e.symm];exact G5 (p:=(k,y)) e
  ·rw[if_neg (fun z=>e z.symm)];exact J2 (p:=(k,y)) e
 |p::r,hn=>by
  rw[List.cons_append]
  have hk:¬p.1=k:=fun z=>by rw[G5 z]at hn;cases hn
  rw[J2 hk]at hn
  have ih:=AJ9 k j y r hn
  by_cases e:p.1=j
  ·rw[G5 e,G5 e,if_neg (fun z=>hk (e.trans z))]
  ·rw[J2 e,J2 e,ih]
theorem Aq6 (kvs:List (κ×V))(k j:κ)(y:V):O9 (AO3 kvs k y) j=if j=k then some y else O9 kvs j:=by
 unfold AO3
 by_cases a:(kvs.any fun kv=>decide (kv.1=k))=true
 ·rw[if_pos a,AW7]
  rw[l6]at a
  by_cases e:j=k
  ·obtain⟨x,hx⟩:=Option.isSome_iff_exists.mp a
   rw[if_pos e,e,hx,Option.map_some,if_pos rfl]
  ·rw[if_neg e]
   cases O9 kvs j with
   |none=>rfl
   |some x=>rw[Option.map_some,if_neg e]
 ·rw[if_neg a]
  refine AJ9 k j y kvs ?_
  rw[l6]at a
  cases q:O9 kvs k with
  |none=>rfl
  |some x=>rw[q]at a;exact(a rfl).elim
theorem u5 (kvs:List (κ×V))(k:κ)(v:V):(AO3 kvs k v).length<=kvs.length+1:=by
 unfold AO3
 split
 ·rw[List.length_map];omega
 ·rw[List.length_append,List.length_cons,List.length_nil];omega
theorem RelO.isSome_eq {o:Option V}{u:Option Value}(r:RelO o u):o.isSome=u.isSome:=by
 cases o with
 |none=>cases u with
  |none=>rfl
  |some _=>exact(show False from r).elim
 |some _=>cases u with
  |none=>exact(show False from r).elim
  |some _=>rfl
theorem RelO.getD {o:Option V}{u:Option Value}{d:V}{d':Value}(r:RelO o u)(rd:RelV d d'):RelV (o.getD d) (u.getD d'):=by
 cases o with
 |none=>cases u with
  |none=>exact rd
  |some _=>exact(show False from r).elim
 |some _=>cases u with
  |none=>exact(show False from r).elim
  |some _=>exact r
theorem KV.val {kvs:List (κ×V)}{vs:List (κ×Value)}(r:KV kvs vs)(k:κ):RelO (O9 kvs k) (valueAt vs k):=by
 unfold KV at r
 induction r with
 |nil=>exact True.intro
 | @cons p q ps qs h t ih=>
  obtain⟨h1,h2⟩:=h
  by_cases e:p.1=k
  ·have e':q.1=k:=h1.symm.trans e
   have b:valueAt (q::qs) k=some q.2:=by simp[valueAt,List.find?_cons,e']
   rw[G5 e,b];exact h2
  ·have e':¬q.1=k:=fun z=>e (h1.trans z)
   have b:valueAt (q::qs) k=valueAt qs k:=by simp[valueAt,List.find?_cons,e']
   rw[J2 e,b];exact ih
theorem KV.any {kvs:List (κ×V)}{vs:List (κ×Value)}(r:KV kvs vs)(k:κ):(kvs.any fun kv=>decide (kv.1=k))=vs.any fun kv=>decide (kv.1=k):=by
 unfold KV at r
 induction r with
 |nil=>rfl
 |cons h t ih=>rw[List.any_cons,List.any_cons,ih,h.1]
theorem KV.repl {kvs:List (κ×V)}{vs:List (κ×Value)}(r:KV kvs vs)(k:κ){y:V}{u:Value}(ry:RelV y u):
  KV (kvs.map fun kv=>if kv.1=k then(kv.1,y)else kv) (vs.map fun kv=>if kv.1=k then(kv.1,u)else kv):=by
 unfold KV at r ⊢
 induction r with
 |nil=>exact .nil
 | @cons p q ps qs h t ih=>
  rw[List.map_cons,List.map_cons]
  refine .cons ?_ ih
  obtain⟨h1,h2⟩:=h
  by_cases e:p.1=k
  ·rw[if_pos e,if_pos (h1.symm.trans e)];exact⟨h1,ry⟩
  ·rw[if_neg e,if_neg (fun z=>e (h1.trans z))];exact⟨h1,h2⟩
theorem KV.put {kvs:List (κ×V)}{vs:List (κ×Value)}(r:KV kvs vs)(k:κ){y:V}{u:Value}(ry:RelV y u):KV (AO3 kvs k y) (stored vs k u):=by
 unfold AO3 stored
 rw[r.any k]
 by_cases e:(vs.any fun kv=>decide (kv.1=k))=true
 ·rw[if_pos e,if_pos e];exact r.repl k ry
 ·rw[if_neg e,if_neg e];exact Paired.snoc r ⟨rfl,ry⟩
theorem KV.keys {kvs:List (κ×V)}{vs:List (κ×Value)}(r:KV kvs vs):kvs.map (·.1)=vs.map (·.1):=by
 unfold KV at r
 induction r with
 |nil=>rfl
 |cons h t ih=>rw[List.map_cons,List.map_cons,ih,h.1]
theorem KV.length {kvs:List (κ×V)}{vs:List (κ×Value)}(r:KV kvs vs):kvs.length=vs.length:=Paired.length r
end
theorem AR0 {P:Program}{w:World}{k:Key}{u:Value}(r:RelV (kV k) u):(C5 P w).is k u=true:=by
 cases k with
 |inl i=>obtain⟨t,e⟩:=(show ∃t,u=Value.int i t from r);subst e;exact W6 P w i t
 |inr x=>obtain⟨t,e⟩:=(show ∃t,u=Value.str x t from r);subst e;exact V2 P w x t
theorem AK6 {P:Program}{w:World}:∀{ks:List Key} {us:List Value},Vals (ks.map kV) us->ItemsAre (C5 P w) ks us
 |[],_,r=>by rw[List.map_nil]at r;cases r;exact .nil
 |k::ks,_,r=>by
  rw[List.map_cons]at r
  cases r with
  |cons h t=>exact .cons (AR0 h) (AK6 t)
noncomputable abbrev KT (H:Hp):List (List Key×V)->List (List Key×Addr×Value)->Prop:=Paired fun p q=>p.1=q.1/\H q.2.1=some (.tup (p.1.map kV))/\RelV p.2 q.2.2
theorem KT.val {H:Hp}{kvs:List (List Key×V)}{xs:List (List Key×Addr×Value)}(r:KT H kvs xs)(k:List Key):RelO (O9 kvs k) ((atKey xs k).map (·.2)):=by
 induction r with
 |nil=>exact True.intro
 | @cons p q ps qs h t ih=>
  obtain⟨h1,_,h2⟩:=h
  by_cases e:p.1=k
  ·have e':q.1=k:=h1.symm.trans e
   have b:atKey (q::qs) k=some q.2:=by simp[atKey,List.find?_cons,e']
   rw[G5 e,b];exact h2
  ·have e':¬q.1=k:=fun z=>e (h1.trans z)
   have b:atKey (q::qs) k=atKey qs k:=by simp[atKey,List.find?_cons,e']
   rw[J2 e,b];exact ih
theorem KT.repl {H:Hp}{kvs:List (List Key×V)}{xs:List (List Key×Addr×Value)}(r:KT H kvs xs)(k:List Key){y:V}{u:Value}(ry:RelV y u):
  KT H (kvs.map fun kv=>if kv.1=k then(kv.1,y)else kv) (xs.map (putAt k u)):=by
 induction r with
 |nil=>exact .nil
 | @cons p q ps qs h t ih=>
  rw[List.map_cons,List.map_cons]
  refine .cons ?_ ih
  obtain⟨h1,h2,h3⟩:=h
  unfold putAt
  by_cases e:p.1=k
  ·rw[if_pos e,if_pos (h1.symm.trans e)];exact⟨h1,h2,ry⟩
  ·rw[if_neg e,if_neg (fun z=>e (h1.trans z))];exact⟨h1,h2,h3⟩
theorem KT.put {H:Hp}{kvs:List (List Key×V)}{xs:List (List Key×Addr×Value)}(r:KT H kvs xs)(k:List Key){b:Addr}{y:V}{u:Value}(hb:H b=some (.tup (k.map kV)))(ry:RelV y u):
  KT H (AO3 kvs k y) (storedH xs k b u):=by
 have e:(kvs.any fun kv=>decide (kv.1=k))=(atKey xs k).isSome:=by
  rw[l6,(r.val k).isSome_eq,Option.isSome_map]
 unfold AO3 storedH
 rw[e]
 by_cases q:(atKey xs k).isSome=true
 ·rw[if_pos q,if_pos q];exact r.repl k ry
 ·rw[if_neg q,if_neg q];exact Paired.snoc r ⟨rfl,hb,ry⟩
theorem KT.keeps {H H':Hp}{kvs:List (List Key×V)}{xs:List (List Key×Addr×Value)}(r:KT H kvs xs)(ht:∀b ys,H b=some (.tup ys)->H' b=some (.tup ys)):KT H' kvs xs:=
 Paired.mapP r fun _ _ z=>⟨z.1,ht _ _ z.2.1,z.2.2⟩
section
variable {P:Program} {w:World} {H:Hp} {h:Heap} {a:Addr}
theorem BI8 {u:HO}(ok:HOk P w H h)(e:Rd H a u):ObjOk P w H h a u:=e.ok ok
theorem As7 {kvs:List (Key×V)}(ok:HOk P w H h)(e:Rd H a (.dK kvs)):kvs.length<=sizeLine/\(a==sysModules)=false/\∃vs,KV kvs vs/\h.DictOf (C5 P w) a vs:=
 show ObjOk P w H h a (.dK kvs)from BI8 ok e
theorem BT8 {kvs:List (Key×V)}(ok:HOk P w H h)(e:H a=some (.dK kvs)):kvs.length<=sizeLine/\(a==sysModules)=false/\∃vs,KV kvs vs/\h.DictOf (C5 P w) a vs:=As7 ok (.inl e)
theorem z8 {ks:List Key}(ok:HOk P w H h)(e:H a=some (.tup (ks.map kV))):(tupleKind (C5 P w)).is h ks a:=by
 obtain⟨_,its,r,o,h1,h2,n,h3⟩:=(show ObjOk P w H h a (.tup (ks.map kV))from ok a _ e)
 exact⟨o,its.toArray,n,h1,h2,h3,by simpa using AK6 r⟩
theorem Av1 {kvs:List (List Key×V)}(ok:HOk P w H h)(e:Rd H a (.dT kvs)):kvs.length<=sizeLine/\(a==sysModules)=false/\
  ∃xs,KT H kvs xs/\h.DictOfH (tupleKind (C5 P w)) a xs:=by
 obtain⟨z,y,xs,r,o,es,ep,h1,h2,h3,h4,h5⟩:=(show ObjOk P w H h a (.dT kvs)from BI8 ok e)
 refine⟨z,y,xs,r,o,es,ep,h1,h2,h3,h4,fun x hx=>?_,h5⟩
 have all:∀{l:List (List Key×V)} {m:List (List Key×Addr×Value)},KT H l m->∀x∈m,(tupleKind (C5 P w)).is h x.1 x.2.1:=by
  intro l m q
  induction q with
  |nil=>intro x hx;exact nomatch hx
  | @cons p q ps qs hq t ih=>
   intro x hx
   rcases List.mem_cons.mp hx with e |hx
   ·subst e
    exact z8 ok (by rw[←hq.1];exact hq.2.1)
   ·exact ih x hx
 exact all r x hx
theorem BW1 {kvs:List (List Key×V)}(ok:HOk P w H h)(e:H a=some (.dT kvs)):kvs.length<=sizeLine/\(a==sysModules)=false/\
  ∃xs,KT H kvs xs/\h.DictOfH (tupleKind (C5 P w)) a xs:=Av1 ok (.inl e)
end
noncomputable def DGet (H:Hp)(a:Addr)(y:V)(r:Option V):Prop:=
 (∃kvs k,Rd H a (.dK kvs)/\y=kV k/\r=O9 kvs k)∨∃kvs k b,Rd H a (.dT kvs)/\y=.ref b/\H b=some (.tup (k.map kV))/\r=O9 kvs k
noncomputable def DPut (H:Hp)(a:Addr)(y v:V)(H':Hp):Prop:=
 (∃kvs k,H a=some (.dK kvs)/\y=kV k/\kvs.length<sizeLine/\H'=upd H a (.dK (AO3 kvs k v)))∨
 ∃kvs k b,H a=some (.dT kvs)/\y=.ref b/\H b=some (.tup (k.map kV))/\kvs.length<sizeLine/\H'=upd H a (.dT (AO3 kvs k v))
theorem DGet.t {H:Hp}{a b:Addr}{kvs:List (List Key×V)}{k:List Key}(e:H a=some (.dT kvs))(eb:H b=some (.tup (k.map kV))):DGet H a (.ref b) (O9 kvs k):=.inr ⟨kvs,k,b,.inl e,rfl,eb,rfl⟩
theorem DPut.t {H:Hp}{a b:Addr}{kvs:List (List Key×V)}{k:List Key}{v:V}(e:H a=some (.dT kvs))(eb:H b=some (.tup (k.map kV)))(hl:kvs.length<sizeLine):
  DPut H a (.ref b) v (upd H a (.dT (AO3 kvs k v))):=.inr ⟨kvs,k,b,e,rfl,eb,hl,rfl⟩
section
variable {X:Cx} {pins:List (Addr×Obj)} {σ:St} {H:Hp} {s:Shared} {a:Addr} {y v:V} {u r:Value} {o:Option V} {A:Around} {E:Value->Shared->Prop}
theorem Inv.big (I:Inv X pins σ H s):sysModules<s.heap.objs.size:=by
 have h:mainGlobals<s.heap.objs.size:=(I.mod.glob.keeps I.bk).lt
 exact Nat.lt_trans (by decide) h
theorem Ag8 {Q:Value->Shared->Prop}(hu:A.units+1<cLine)(I:Inv X pins σ H s)(g:DGet H a y (some v))(ry:RelV y u)(h:∀w' s',Inv X pins σ H s'->RelV v w'->Q w' s'):
  wpAny (model X.prog X.w) A (getItem (.ref a) u) Q E s:=by
 rcases g with ⟨kvs,k,e,ey,l⟩ |⟨kvs,k,b,e,ey,eb,l⟩
 ·subst ey
  obtain⟨z,hd,vs,rel,dd⟩:=As7 I.hok e
  obtain⟨w',hw,rw'⟩:=RelO.some_of (v:=v) (o:=valueAt vs k) (by rw[l];exact rel.val k)
  exact wpAny_getItem_of (AR0 ry) dd.mapOf hw (h w' _ (I.tok _) rw')
 ·subst ey
  cases(show u=Value.ref b from ry)
  obtain⟨z,hd,xs,rel,dd⟩:=Av1 I.hok e
  obtain⟨w',hw,rw'⟩:=RelO.some_of (v:=v) (o:=(atKey xs k).map (·.2)) (by rw[l];exact rel.val k)
  obtain⟨p,hp,hp2⟩:=Option.map_eq_some_iff.mp hw
  refine wpAny_getItem_heap (tupleKind_room_in1 hu) (z8 I.hok eb) dd hp ?_
  rw[hp2]
  exact h w' _ (I.tok _) rw'
theorem Bd2 {Q:Value->Shared->Prop}(hu:A.units+1<cLine)(I:Inv X pins σ H s)(g:DGet H a y o)(ry:RelV y u)(h:∀s',Inv X pins σ H s'->Q (.bool o.isSome) s'):
  wpAny (model X.prog X.w) A (compareOp .In u (.ref a)) Q E s:=by
 rcases g with ⟨kvs,k,e,ey,l⟩ |⟨kvs,k,b,e,ey,eb,l⟩
 ·subst ey
  obtain⟨z,hd,vs,rel,dd⟩:=As7 I.hok e
  refine wpAny_in_of (AR0 ry) hd dd.mapOf ?_
  rw[←(rel.val k).isSome_eq,←l]
  exact h _ (I.tok _)
 ·subst ey
  cases(show u=Value.ref b from ry)
  obtain⟨z,hd,xs,rel,dd⟩:=Av1 I.hok e
  refine wpAny_in_heap (tupleKind_room_in1 hu) (z8 I.hok eb) hd dd ?_
  have q:=(rel.val k).isSome_eq
  rw[Option.isSome_map]at q
  rw[←q,←l]
  exact h _ (I.tok _)
theorem Ap2 {h':Heap}{t':Nat}{ob:HO}(I:Inv X pins σ H s)(mu:Mut (H a))(hs:Heap.SameBut a s.heap h')(he:∃q,h'.get? a=some q)(new:ObjOk X.prog X.w (upd H a ob) h' a ob):
  Inv X pins σ (upd H a ob) {s with heap:=h',toks:=t'}:=
 I.write (x:=a) (e:=a) mu (.inl rfl) (fun b q hb z=>(hs.2 b hb).trans z) he new
theorem BR9 {P:Program}{w:World}{H':Hp}{h':Heap}{kvs:List (Key×V)}{vs:List (Key×Value)}(z:kvs.length<=sizeLine)(hd:(a==sysModules)=false)(rel:KV kvs vs)(dd:h'.DictOf (C5 P w) a vs):
  ObjOk P w H' h' a (.dK kvs):=⟨z,hd,vs,rel,dd⟩
theorem Aj0 {H':Hp}{Q:Unit->Shared->Prop}(hu:A.units+1<cLine)(I:Inv X pins σ H s)(g:DPut H a y v H')(ry:RelV y u)(rv:RelV v r)(h:∀s',Inv X pins σ H' s'->Q () s'):
  wpAny (model X.prog X.w) A (setItem (.ref a) u r) Q E s:=by
 rcases g with ⟨kvs,k,e,ey,l,eH⟩ |⟨kvs,k,b,e,ey,eb,l,eH⟩
 ·subst ey eH
  obtain⟨z,hd,vs,rel,dd⟩:=BT8 I.hok e
  have hz:vs.length<=sizeLine:=by rw[←rel.length];exact z
  have hl:(AO3 kvs k v).length<=sizeLine:=by have:=u5 kvs k v;omega
  refine wpAny_setItem_pairs (hsz:=hz) (AR0 ry) dd fun h' dd' hs=>h _ ?_
  have he:∃q,h'.get? a=some q:=let ⟨q,_,_,hq,_⟩:=dd';⟨q,hq⟩
  exact Ap2 I (by rw[e];exact True.intro) hs he (BR9 hl hd (rel.put k rv) dd')
 ·subst ey eH
  cases(show u=Value.ref b from ry)
  obtain⟨z,hd,xs,rel,dd⟩:=BW1 I.hok e
  have hz:xs.length<=sizeLine:=by rw[←Paired.length rel];exact z
  have hl:(AO3 kvs k v).length<=sizeLine:=by have:=u5 kvs k v;omega
  refine wpAny_setItem_heap (hsz:=hz) (tupleKind_room_in1 hu) (z8 I.hok eb) dd fun h' dd' hs=>h _ ?_
  obtain⟨q,es,ep,hq,h2,h3,h4,_,h5⟩:=dd'
  refine Ap2 I (by rw[e];exact True.intro) hs ⟨q,hq⟩ ⟨hl,hd,_,(rel.put k eb rv).keeps fun c ys ec=>?_,q,es,ep,hq,h2,h3,h4,h5⟩
  rw[A5 (D8 ec e (fun z=>nomatch z))]
  exact ec
end
section
variable {X:Cx} {pins:List (Addr×Obj)} {σ:St} {H:Hp} {s:Shared} {a:Addr} {kvs:List (Key×V)} {k:Key} {u:Value} {A:Around} {E:Value->Shared->Prop}
end
noncomputable def BV5 (i:Expr):Prop:=∀ov iv,subscripted i false ov iv=operate [ov,iv] (getItem ov iv)
theorem An2 {prog:Program}{w:World}{A:Around}{E:Value->Shared->Prop}{s:Shared}{env:Env}{value slice:Expr}{pos:Pos}{T id:String}{Q:Value->Shared->Prop}
  (hl:typeLookup (.type T) "__getitem__"=pure (some (.builtin id))) (hs:BV5 slice)
  (h:wpAny (model prog w) A (eval value env) (fun o s₁=>wpAny (model prog w) A (eval slice env) (fun i s₂=>s₂.TypeIs o T/\wpAny (model prog w) A (getItem o i) Q E s₂) E s₁) E s):
  wpAny (model prog w) A (eval (.Subscript value slice pos) env) Q E s:=by
 refine Subscript_ (wpAny_mono h (fun o s₁ h₁=>wpAny_mono h₁ (fun i s₂ h₂=>?_) fun _ _ x=>x) fun _ _ x=>x)
 obtain⟨hT,h₂⟩:=h₂
 unfold subscriptTail
 refine wpAny_bind ?_
 rw[getitemInPython_of_ne hT.not_modules]
 refine wpAny_bind (wpAny_specialOf hT hl ?_)
 have fin:wpAny (model prog w) A (subscripted slice false o i) (fun r s₃=>wpAny (model prog w) A (letTemporaryGo value o r>>=fun _=>pure r) Q E s₃) E s₂:=by
  rw[hs o i]
  exact wpAny_operating (wpAny_mono h₂ (fun r s₃ h₃=>wpAny_bind (wpAny_letTemporaryGo (wpAny_pure h₃))) fun _ _ x=>x)
 first
  |exact wpAny_pure (wpAny_bind fin)
  |exact wpAny_bind (wpAny_pure (wpAny_bind fin))
  |exact wpAny_bind fin
theorem AQ6 {X:Cx}{pins:List (Addr×Obj)}{σ:St}{H:Hp}{s:Shared}{a:Addr}{y:V}{o:Option V}(I:Inv X pins σ H s)(g:DGet H a y o):s.TypeIs (.ref a) "dict":=by
 rcases g with ⟨kvs,k,e,_,_⟩ |⟨kvs,k,b,e,_,_,_⟩
 ·obtain⟨_,_,vs,_,dd⟩:=As7 I.hok e
  exact dd.typeIs
 ·obtain⟨_,_,xs,_,dd⟩:=Av1 I.hok e
  exact dd.typeIs
noncomputable def BA2 (td ty:TE):TE:=fun σ H Q=>td σ H fun x H1=>ty σ H1 fun y H2=>∃a v,x=.ref a/\DGet H2 a y (some v)/\Q v H2
noncomputable def Bc5 (ty td:TE):TE:=fun σ H Q=>ty σ H fun y H1=>td σ H1 fun x H2=>∃a o,x=.ref a/\DGet H2 a y o/\Q (.bl o.isSome) H2
noncomputable def BY4 (td ty tv:TE):TS:=fun D σ H=>tv σ H fun v H1=>td σ H1 fun x H2=>ty σ H2 fun y H3=>∃a H4,x=.ref a/\DPut H3 a y v H4/\D.nx σ H4
section
variable {X:Cx} {o i e value:Expr} {pos pos' tpos:Pos} {td ty tv:TE}
theorem BF6 (hu:X.A.units+1<cLine)(ho:PE X o td)(hi:PE X i ty)(hs:BV5 i):PE X (.Subscript o i pos) (BA2 td ty):=by
 intro pins s σ H Q I h
 refine An2 PySem.F.slot_dict_getitem.lookup hs (thn (ho pins s σ H _ I h) fun u s1 ⟨x,H1,I1,rx,q1⟩=>thn (hi pins s1 σ H1 _ I1 q1) fun iv s2 ⟨y,H2,I2,ry,a,v,ex,g,q2⟩=>?_)
 subst ex
 obtain rfl:u=Value.ref a:=rx
 exact⟨AQ6 I2 g,Ag8 hu I2 g ry fun w' s3 I3 rw'=>⟨v,H2,I3,rw',q2⟩⟩
theorem BR8 (hu:X.A.units+1<cLine)(hi:PE X i ty)(ho:PE X o td):PC X .In i o (Bc5 ty td):=by
 intro pins s σ H Q I h
 refine thn (hi pins s σ H _ I h) fun iv s1 ⟨y,H1,I1,ry,q1⟩=>thn (ho pins s1 σ H1 _ I1 q1) fun u s2 ⟨x,H2,I2,rx,a,ov,ex,g,q2⟩=>?_
 subst ex
 obtain rfl:u=Value.ref a:=rx
 exact Bd2 hu I2 g ry fun s3 I3=>⟨.bl ov.isSome,H2,I3,rfl,q2⟩
theorem BE6 (hu:X.A.units+1<cLine)(ho:PE X o td)(hi:PE X i ty)(hv:PE X value tv)(hs:swapsWith value (some (.Subscript o i pos')) pos.line X.env=pure false):
  PS X (.Assign [.Subscript o i pos'] value pos) (BY4 td ty tv):=by
 intro pins s σ H D I h
 refine wpAny_Assign_Subscript (thn (hv pins s σ H _ I h) fun r s1 ⟨v,H1,I1,rv,q1⟩=>thn (ho pins s1 σ H1 _ I1 q1) fun u s2 ⟨x,H2,I2,rx,q2⟩=>thn (hi pins s2 σ H2 _ I2 q2) fun iv s3 ⟨y,H3,I3,ry,a,H4,ex,g,q3⟩=>?_) hs
 subst ex
 obtain rfl:u=Value.ref a:=rx
 exact Aj0 hu I3 g ry rv fun s4 I4=>⟨σ,H4,I4,q3⟩
end
theorem Aw2 {P:Program}{w:World}{H:Hp}(h:Heap)(hb:sysModules<h.objs.size):ObjOk P w H (h.push {cls:=.type "dict",data:=.dict #[]}) h.objs.size (.dT []):=
 ⟨Nat.zero_le _,beq_eq_false_iff_ne.mpr (Ne.symm (Nat.ne_of_lt hb)),[],.nil,_,#[],0,Heap.get?_push_size _ rfl,⟨rfl,rfl,rfl⟩,rfl,rfl,List.nodup_nil⟩
noncomputable def BM9:TE:=fun _ H Q=>∀p,H p=none->Q (.ref p) (upd H p (.dT []))
section
variable {X:Cx} {pos:Pos}
theorem Ax7:PE X (.Dict [] [] pos) BM9:=fun pins s σ H Q I h=>
 wpAny_Dict_empty ⟨.ref s.heap.objs.size,_,I.laid (a:=s.heap.objs.size) (o:=.dT []) (t':=s.toks) (fun _ _ q=>Heap.get?_push_of_some _ q) (Nat.le_refl _) (Aw2 s.heap I.big),rfl,h _ (I.hok.fresh (Nat.le_refl _))⟩
end
structure M1 (X:Cx)(o:Expr)(m:Str)(apos:Pos)(e:Expr)(cpos:Pos):Prop where
 base:attributeBase o m X.env (eval o X.env)=eval o X.env
 few:((backTo cpos (starEach [e] X.env)).all (fun x=>!x.1)&&(backToKw cpos (keywordEach [] X.env)).all (fun x=>x.1.isSome)
  &&decide (([e]:List Expr).length+([]:List Keyword).length+(if([]:List Keyword).isEmpty then 0 else 1)<30))=true
 line:(apos.endLine==cpos.line)=true
 trees:backTo cpos (starEach [e] X.env)=[(false,eval e X.env)]
section
variable {X:Cx} {pins:List (Addr×Obj)} {σ:St} {H:Hp} {s:Shared} {a:Addr} {y d:V} {u r:Value} {o:Option V} {A:Around} {E:Value->Shared->Prop}
end
section
variable {X:Cx} {o e f:Expr} {apos cpos:Pos} {td ty tx:TE}
end
section
variable {X:Cx} {pins:List (Addr×Obj)} {σ:St} {H:Hp} {s:Shared} {a:Addr} {kvs:List (Key×V)} {A:Around} {E:Value->Shared->Prop}
end
section
variable {X:Cx} {pins:List (Addr×Obj)} {σ:St} {H:Hp} {s:Shared} {a:Addr} {y:V} {u:Value} {A:Around} {E:Value->Shared->Prop}
end
end L2
namespace L2
open PySem PySem.Spec PyProof.Rows
section
variable {prog:Program} {w:World} {A:Around} {E:Value->Shared->Prop}
end
section
variable {X:Cx}
end
end L2
namespace L2
open PySem PySem.Spec PyProof.Rows
theorem y0:bootBuiltins "reversed"=some (.type "reversed"):=by decide+kernel
section
variable {X:Cx} {pins:List (Addr×Obj)} {σ:St} {H:Hp} {s:Shared} {h':Heap}
end
section
variable {X:Cx}
theorem A17 {tg:Expr}{pins:List (Addr×Obj)}{σ:St}{H:Hp}{s:Shared}{R:It->Hp->Prop}{J:It}{tn:Nat->Heap->Prop}{tk:Nat}(I:Inv X pins σ H s)(o:Obj)
  (T:BG9 X.prog X.w X.K tg J [s.heap.objs.size] s.heap.objs.size tn) (st:tn 0 (s.heap.push o)) (q:R J H):PIE X pins σ tg R (.ref s.heap.objs.size) {s with heap:=s.heap.push o,toks:=tk}:=by
 refine⟨s.heap.objs.size,[s.heap.objs.size],tn,J,H,rfl,I.kept fun b ob e=>Heap.get?_push_of_some _ e,T,st,fun b hb=>?_,q⟩
 have e:b=s.heap.objs.size:=by simpa using hb
 subst e
 exact I.fpOk (Nat.le_refl _) (I.hok.fresh (Nat.le_refl _))
end
section
variable {X:Cx} {tg:Expr}
end
section
variable {X:Cx} {tg:Expr}
end
section
variable {prog:Program} {w:World} {A:Around} {E:Value->Shared->Prop} {s:Shared}
theorem Ap3 {d:Addr}{o:Obj}{es:Array DictEntry}{ep:Nat}{Q:Value->Shared->Prop}(hd:(d==sysModules)=false)(ho:s.heap.get? d=some o)(hc:o.ExactDict)(hdat:o.data=.dict es ep)
  (hQ:Q (.ref s.heap.objs.size) {s with heap:=s.heap.push {cls:=.type "dict_keyiterator",data:=.fields #[.ref d,.int 0 0,.int es.size 0,.int ep 0]}}):
  wpAny (model prog w) A (pyIter (.ref d)) Q E s:=by
 have hT:s.TypeIs (.ref d) "dict":=⟨o,ho,hc.1⟩
 refine wpAny_pyIter_slot hT F.slot_dict_iter (wpAny_call_entry F.slot_dict_iter hT F.entry_dict_iter ?_ (F.args_dict_iter_1 _))
 unfold Builtin.«dict.__iter__»
 refine wpAny_bind ?_
 unfold Builtin.Dict.dictSlotNone
 refine wpAny_bind (wpAny_notOrdered_dict hT ?_)
 show wpAny _ _ (pure (Value.ref d)) _ _ s
 refine wpAny_pure ?_
 show wpAny _ _ (Builtin.Dict.showsAll d>>=_) _ _ s
 unfold Builtin.Dict.showsAll
 rw[if_neg (by rw[hd];exact Bool.false_ne_true)]
 refine wpAny_bind (wpAny_pure ?_)
 refine wpAny_bind (wpAny_dictEntries ho hdat ?_)
 refine wpAny_bind (wpAny_dictEpoch ho hdat ?_)
 refine wpAny_bind (wpAny_newObj_type (wpAny_pure ⟨_,rfl,"dict_keyiterator",_,⟨_,Heap.get?_push_size _ rfl,rfl⟩,F.slot_dict_keyiterator_next.lookup,?_⟩))
 simpa [rawInt]using hQ
theorem AK7 {it d:Addr}{i n ep:Nat}{od:Obj}{es:Array DictEntry}{Q:Option Value->Shared->Prop}(hh:A.handled=none)(hit:s.heap.IsKeyIter it d i n ep)(hod:s.heap.get? d=some od)(hdd:od.data=.dict es ep)
  (hsz:es.size=n) (hge:n<=i) (hQ:∀h',Heap.ExtBut it s.heap h'->Q none {s with heap:=h'}):wpAny (model prog w) A (pyNext (.ref it)) Q E s:=by
 obtain⟨o,ho,hc,hd⟩:=id hit
 unfold pyNext
 refine wpAny_bind (wpAny_attempt (wpAny_callSpecial?_slot (name:=Str.ofString "__next__") hit.typeIs F.slot_dict_keyiterator_next
  (wpAny_call_entry F.slot_dict_keyiterator_next hit.typeIs F.entry_dict_keyiterator_next ?_ (F.args_dict_keyiterator_next_1 _))))
 refine wpAny_bind (wpAny_pure ?_)
 refine wpAny_bind ?_
 refine wpAny_bind ?_
 first |refine wpAny_bind (wpAny_typeNameOfWhole_keyiter hit.typeIs (wpAny_pure ?_)) |refine wpAny_bind (wpAny_typeNameOf_keyiter hit.typeIs (wpAny_pure ?_))
 refine wpAny_bind (wpAny_fieldsOf ho hd ?_)
 have hown:Builtin.Dict_items.ownsTuple "dict_keyiterator"=false:=by decide
 simp only[hown,Bool.false_eq_true,if_false]
 show wpAny _ _ (if(Value.ref d==Value.none)=true then _ else _) _ _ s
 rw[if_neg (show ¬((Value.ref d==Value.none)=true)from Bool.false_ne_true)]
 refine wpAny_bind (wpAny_pure ?_)
 refine wpAny_bind (wpAny_dictEntries hod hdd ?_)
 rw[if_neg (by rw[hsz];simp)]
 refine wpAny_bind (wpAny_pure ?_)
 refine wpAny_bind (wpAny_dictEpoch hod hdd ?_)
 rw[if_neg (by simp)]
 refine wpAny_pure ?_
 have hge':es.size<=i:=by rw[hsz];exact hge
 simp only[show ¬((i:Int)<0)from by omega,if_false,Int.toNat_natCast,Array.getElem?_eq_none hge']
 refine wpAny_bind ?_
 first |refine wpAny_bind (wpAny_typeNameOfWhole_keyiter hit.typeIs (wpAny_pure ?_)) |refine wpAny_bind (wpAny_typeNameOf_keyiter hit.typeIs (wpAny_pure ?_))
 show wpAny _ _ (setField (.ref it) 0 .none>>=_) _ _ s
 refine wpAny_bind (wpAny_setField ho hd (by simp) ?_)
 show wpAny _ _ (newExc (.type "StopIteration") []>>=_) _ _ _
 refine wpAny_bind ?_
 simp only[newExc,newTuple]
 refine wpAny_bind (wpAny_newObj_type ?_ (by size_fits))
 refine wpAny_bind (m:=firstArgMember _ _) (wpAny_of_eq (a:=Value.none) (by first |rfl |(simp only[firstArgMember];rfl)) ?_)
 refine wpAny_newObj_type ?_ (by size_fits)
 simp only[raiseNew]
 refine wpAny_bind (wpAny_handled ?_)
 rw[show A.in1.handled=none from hh]
 refine wpAny_bind (wpAny_pure (wpAny_throw ?_))
 refine wpAny_bind (wpAny_isInstance (T:="StopIteration") (b:=true) ⟨_,Heap.get?_push_size _ rfl,rfl⟩ isSubtype_stop ?_)
 exact wpAny_pure (hQ _ (((Heap.SameBut.update ..).extBut.push _).push _))
end
theorem BK9 {κ:Type}{kvs:List (κ×V)}{vs:List (κ×Value)}(h:KV kvs vs):∀{i:Nat} {k:κ} {v:V},kvs[i]?=some (k,v)->∃u,vs[i]?=some (k,u)/\RelV v u:=by
 unfold KV at h
 induction h with
 |nil=>intro i k v e;simp at e
 | @cons a b l₁ l₂ r t ih=>
  intro i k v e
  cases i with
  |zero=>
   simp only[List.getElem?_cons_zero,Option.some.injEq]at e
   subst e
   refine⟨b.2,?_,r.2⟩
   simp only[List.getElem?_cons_zero]
   exact congrArg some (Prod.ext r.1.symm rfl)
  |succ j=>
   simp only[List.getElem?_cons_succ]at e ⊢
   exact ih e
theorem Aw8 {k:Key}{u:Value}(h:AJ7 k u=true):RelV (kV k) u:=by
 rcases F2 h with ⟨i,t,rfl,rfl⟩ |⟨x,t,rfl,rfl⟩
 ·exact⟨t,rfl⟩
 ·exact⟨t,rfl⟩
section
variable {X:Cx} {pins:List (Addr×Obj)} {σ:St} {H:Hp} {s:Shared} {d:Addr} {o:Obj}
end
section
variable {P:Program} {w:World} {K:PySem.W.Frag} {tg:Expr} {d:Addr} {o:Obj} {es:Array DictEntry} {ep:Nat}
end
section
variable {X:Cx} {tg e:Expr} {td:TE} {apos cpos:Pos}
end
end L2
section
namespace Bits
open PySem PyProof.Rows
end Bits
end
section
namespace TL
open PySem PySem.Builtin PySem.Builtin.Str PySem.StrLaws
noncomputable abbrev tl (x:Str):List Nat:=x.cps.toList
theorem ext_tl {x y:Str}(h:tl x=tl y):x=y:=Str.ext' (Array.toList_inj.mp h)
theorem AI5 (x y:Str):tl (x++y)=tl x++tl y:=by
 show(x++y).cps.toList=_
 rw[Str.cps_append,Array.toList_append]
noncomputable def joinL (S:List Nat):List (List Nat)->List Nat
 |[]=>[]
 |[p]=>p
 |p::q::r=>p++(S++joinL S (q::r))
theorem tl_join (y:Str):∀parts:List Str,tl (Str.join y parts)=joinL (tl y) (parts.map tl)
 |[]=>rfl
 |[_]=>rfl
 |x::z::r=>by
  show tl (x++y++Str.join y (z::r))=tl x++(tl y++joinL (tl y) ((z::r).map tl))
  rw[AI5,AI5,tl_join y (z::r),List.append_assoc]
theorem join_eq (y:Str)(parts:List Str):Txt.join y parts=Str.join y parts:=glued_eq_join y parts
end TL
end
namespace L2
open PySem PySem.Spec PyProof.Rows
theorem R8:∀{ys:List Str} {us:List Value},Vals (ys.map V.str) us->StrsAre us ys
 |[],_,.nil=>.nil
 |y::ys,_,.cons r t=>by
  obtain⟨k,rfl⟩:=r
  exact .cons y k (R8 t)
section
variable {X:Cx} {pins:List (Addr×Obj)} {σ:St} {H:Hp} {s:Shared} {Q:VK}
end
section
variable {X:Cx}
theorem BD1:MtR X "str.join" (fun x xs H Q=>∃a p,∃ys:List Str,x=.str a/\xs=[.ref p]/\(SqL X.K H p (ys.map V.str)∨SqT X.K H p (ys.map V.str))/\
  (ys.map (·.length)).sum+ys.length*a.length<=16777216/\Q (.str (Txt.join a ys)) H):=by
 intro pins s σ H x xs v us Q I rx rs h
 obtain⟨a,p,ys,rfl,rfl,hp,hz,h⟩:=h
 obtain⟨t,rfl⟩:=rx
 cases rs with
 |cons r1 rs=>
  cases rs
  cases r1
  rcases hp with hp |hp
  ·obtain⟨its,r,⟨o,n,ho,hc,_,hd⟩,_⟩:=I.list hp
   exact PyProof.Rows.join_list (items:=its.toArray) ⟨o,ho,hc,n,hd⟩ (by rw[List.toList_toArray];exact R8 r) hz fun t' k=>⟨.str _,H,I.tok k,⟨t',rfl⟩,h⟩
  ·obtain⟨its,r,ht,_⟩:=I.tuple hp
   exact PyProof.Rows.join_tuple (items:=its.toArray) ht (by rw[List.toList_toArray];exact R8 r) hz fun t' k=>⟨.str _,H,I.tok k,⟨t',rfl⟩,h⟩
end
section
variable {X:Cx} {o e:Expr} {to te:TE}
noncomputable def tM1 (r:V->List V->Hp->VK->Prop)(to te:TE):TE:=fun σ H Q=>to σ H fun x H1=>(∃a,x=.str a)/\te σ H1 fun y H2=>r x [y] H2 Q
theorem BV7 {id:String}{name:Str}{apos pos:Pos}{r:V->List V->Hp->VK->Prop}(slot:Slot "str" name id)(ty:typeOf (.builtin id)=pure (.type "method_descriptor"))(rule:MtR X id r)(ho:PE X o to)(he:PE X e te)
  (hs:starEach [e] X.env=[(false,eval e X.env)]:=by rfl) (hbase:attributeBase o name X.env (eval o X.env)=eval o X.env:=by rfl) (hline:(apos.endLine==pos.line)=true:=by rfl):
  PE X (.Call (.Attribute o name apos) [e] [] pos) (tM1 r to te):=by
 intro pins s σ H Q I h
 refine PySem.Call_method1 hbase hs hline (thn (ho pins s σ H _ I h) fun v s1 ⟨x,H1,I1,r1,q1⟩=>?_)
 obtain⟨⟨a,rfl⟩,q1⟩:=q1
 obtain⟨t,rfl⟩:=_root_.id r1
 refine⟨"str",_,F.plainAttrs_str,slot,ty,typeIs_str _ _ _,(fun _ e=>nomatch e),Calls.callWith_builtin rfl (Calls.evalArgs_plain (Calls.spliced_cons ?_))⟩
 exact thn (he pins s1 σ H1 _ I1 q1) fun u s2 ⟨y,H2,I2,r2,q2⟩=>Calls.spliced_nil (rule pins s2 σ H2 _ [y] _ [u] Q I2 r1 (.cons r2 .nil) q2)
theorem A66 {apos pos:Pos}(ho:PE X o to)(he:PE X e te)(hs:starEach [e] X.env=[(false,eval e X.env)]:=by rfl)(hbase:attributeBase o "join" X.env (eval o X.env)=eval o X.env:=by rfl)(hline:(apos.endLine==pos.line)=true:=by rfl):
  PE X (.Call (.Attribute o "join" apos) [e] [] pos) (tM1 (fun x xs H Q=>∃a p,∃ys:List Str,x=.str a/\xs=[.ref p]/\(SqL X.K H p (ys.map V.str)∨SqT X.K H p (ys.map V.str))/\
   (ys.map (·.length)).sum+ys.length*a.length<=16777216/\Q (.str (Txt.join a ys)) H) to te):=
 BV7 F.slot_str_join F.type_str_join BD1 ho he hs hbase hline
end
end L2
namespace L2
open PySem PySem.Spec PyProof.Rows
section
variable {X:Cx}
end
end L2
namespace Att
open PySem PySem.W PySem.Calls PyProof.Rows
section
variable {prog:Program} {w:World} {A:Around} {E:Value->Shared->Prop} {s:Shared} {K:Frag}
end
end Att
namespace L2
open PySem PySem.Spec PyProof.Rows
end L2
namespace L2
open PySem PySem.Spec PyProof.Rows
end L2
section
set_option maxRecDepth 100000
set_option maxHeartbeats 2000000
namespace L2
open PySem PySem.Spec PyProof.Rows
open PySem.W (WData Codec OpenSpec Well WellAll ReadsW ReadsAllW)
mutual
inductive Dw (K:PySem.W.Frag) (H:Hp):V->WData->Prop
 |non:Dw K H .non .none
 |bl (b:Bool):Dw K H (.bl b) (.bool b)
 |int (i:Int):Dw K H (.int i) (.int i)
 |str (x:Str):Dw K H (.str x) (.str x)
 |byt (b:Array UInt8):Dw K H (.byt b) (.bytes b.toList)
 |lst {a:Addr} {xs:List V} {ds:List WData}:SqL K H a xs->i4 K H xs ds->Dw K H (.ref a) (.list ds)
 |tup {a:Addr} {xs:List V} {ds:List WData}:SqT K H a xs->i4 K H xs ds->Dw K H (.ref a) (.tuple ds)
inductive i4 (K:PySem.W.Frag) (H:Hp):List V->List WData->Prop
 |nil:i4 K H [] []
 |cons {v:V} {vs:List V} {d:WData} {ds:List WData}:Dw K H v d->i4 K H vs ds->i4 K H (v::vs) (d::ds)
end
theorem dw_ints {K:PySem.W.Frag}{H:Hp}:∀ns:List Int,i4 K H (ns.map V.int) (ns.map WData.int)
 |[]=>.nil
 |n::r=>.cons (.int n) (dw_ints r)
theorem ints_dw {K:PySem.W.Frag}{H:Hp}:∀(ns:List Int) (xs:List V),i4 K H xs (ns.map WData.int)->xs=ns.map V.int
 |[],xs,h=>by
  cases h
  rfl
 |n::r,xs,h=>by
  cases h with
  |cons h1 h2=>
   cases h1
   rw[ints_dw r _ h2]<;>rfl
section
variable {P:Program} {w:World} {K:PySem.W.Frag} {H:Hp} {h:Heap} {R:PySem.W.WRecords} {cl:Str->Option Addr}
theorem BP3 {a:Addr}{xs:List V}(hok:HOk P w H h)(KX:K.In h)(q:SqL K H a xs):∃(its:List Value) (o:Obj) (n:Nat),Vals xs its/\h.get? a=some o/\o.cls=.type "list"/\o.data=.seq its.toArray n:=by
 rcases q with q |⟨o,its,n,e,hc,_,hd,_,hv⟩
 ·obtain⟨_,its,n,hv,e⟩:=(show ObjOk P w H h a (.lst xs)from q.ok hok)
  exact⟨its,_,n,hv,e,rfl,rfl⟩
 ·exact⟨its.toList,o,n,hv,KX _ _ e,hc,by simp[hd]⟩
theorem BO0 {a:Addr}{xs:List V}(hok:HOk P w H h)(KX:K.In h)(q:SqT K H a xs):∃(its:List Value) (o:Obj) (n:Nat),Vals xs its/\h.get? a=some o/\o.cls=.type "tuple"/\o.data=.seq its.toArray n:=by
 rcases q with q |⟨o,its,n,e,hc,hd,_,hv⟩
 ·obtain⟨_,its,hv,o,e,hc,n,hd⟩:=(show ObjOk P w H h a (.tup xs)from q.ok hok)
  exact⟨its,o,n,hv,e,hc,hd⟩
 ·exact⟨its.toList,o,n,hv,KX _ _ e,hc,by simp[hd]⟩
mutual
theorem Dw.reads (hok:HOk P w H h)(KX:K.In h):∀(d:WData) (v:V) (u:Value),Dw K H v d->RelV v u->∃as,ReadsW R cl h u d as
 |.none,_,_,x,r=>by
  cases x
  cases r
  exact⟨_,ReadsW.none⟩
 |.bool b,_,_,x,r=>by
  cases x
  cases r
  exact⟨_,ReadsW.bool b⟩
 |.int i,_,_,x,r=>by
  cases x
  obtain⟨t,rfl⟩:=r
  exact⟨_,ReadsW.int i t⟩
 |.str s,_,_,x,r=>by
  cases x
  obtain⟨t,rfl⟩:=r
  exact⟨_,ReadsW.str s t⟩
 |.bytes b,_,_,x,r=>by
  cases x
  obtain⟨t,rfl⟩:=r
  exact⟨_,ReadsW.bytes _ t⟩
 |.list ds,_,_,x,r=>by
  cases x with
  |lst hs ha=>
   cases r
   obtain⟨its,o,n,rv,ho,hc,hd⟩:=BP3 hok KX hs
   obtain⟨as,hr⟩:=Dw.readsAll hok KX ds _ its ha rv
   exact⟨_,ReadsW.list ho hc hd hr⟩
 |.tuple ds,_,_,x,r=>by
  cases x with
  |tup hs ha=>
   cases r
   obtain⟨its,o,n,rv,ho,hc,hd⟩:=BO0 hok KX hs
   obtain⟨as,hr⟩:=Dw.readsAll hok KX ds _ its ha rv
   exact⟨_,ReadsW.tuple ho hc hd hr⟩
 |.float _,_,_,x,_=>by cases x
 |.dict _,_,_,x,_=>by cases x
 |.bytearray _,_,_,x,_=>by cases x
 |.set _,_,_,x,_=>by cases x
 |.frozenset _,_,_,x,_=>by cases x
 |.obj _ _,_,_,x,_=>by cases x
theorem Dw.readsAll (hok:HOk P w H h)(KX:K.In h):∀(ds:List WData) (vs:List V) (us:List Value),i4 K H vs ds->Vals vs us->∃as,ReadsAllW R cl h us ds as
 |[],_,_,x,r=>by
  cases x
  cases r
  exact⟨_,ReadsAllW.nil⟩
 |d::ds,_,_,x,r=>by
  cases x with
  |cons h1 h2=>
   cases r with
   |cons r1 r2=>
    obtain⟨as,q1⟩:=Dw.reads hok KX d _ _ h1 r1
    obtain⟨bs,q2⟩:=Dw.readsAll hok KX ds _ _ h2 r2
    exact⟨_,ReadsAllW.cons q1 q2⟩
end
end
mutual
noncomputable def plW:WData->Bool
 |.none=>true
 |.bool _=>true
 |.int _=>true
 |.str _=>true
 |.bytes _=>true
 |.list xs=>Ab1 xs
 |.tuple xs=>Ab1 xs
 |_=>false
noncomputable def Ab1:List WData->Bool
 |[]=>true
 |x::r=>plW x&&Ab1 r
end
theorem AW3 {α:Type}{f:α->WData}(h:∀a,plW (f a)=true):∀l:List α,Ab1 (l.map f)=true
 |[]=>rfl
 |x::r=>by
  show(plW (f x)&&Ab1 (r.map f))=true
  rw[h x,AW3 h r]<;>rfl
theorem b7:∀(c:Codec) (a:c.denote),plW (c.enc a)=true
 |.unit,_=>rfl
 |.bool,_=>rfl
 |.int _ _,_=>rfl
 |.nat _ _,_=>rfl
 |.u8,_=>rfl
 |.bytes _ _,_=>rfl
 |.text _ _ _ _,_=>rfl
 |.list _ _ c,a=>AW3 (fun x=>b7 c x) a
 |.pair c d,a=>by
  show(plW (c.enc a.1)&&(plW (d.enc a.2)&&true))=true
  rw[b7 c a.1,b7 d a.2]<;>rfl
 |.triple c d e,a=>by
  show(plW (c.enc a.1)&&(plW (d.enc a.2.1)&&(plW (e.enc a.2.2)&&true)))=true
  rw[b7 c a.1,b7 d a.2.1,b7 e a.2.2]<;>rfl
 |.option c,none=>rfl
 |.option c,some x=>b7 c x
theorem AM2:∀(cs:List Codec) (a:Codec.denoteAll cs),Ab1 (Codec.encAll cs a)=true
 |[],_=>rfl
 |c::cs,a=>by
  show(plW (c.enc a.1)&&Ab1 (Codec.encAll cs a.2))=true
  rw[b7 c a.1,AM2 cs a.2]<;>rfl
theorem b0:∀{xs:List WData} {d:WData},d∈xs->d.weight<=WData.weightAll xs
 |[],d,h=>absurd h (by simp)
 |x::r,d,h=>by
  show d.weight<=x.weight+1+WData.weightAll r
  rcases List.mem_cons.mp h with e |m
  ·rw[e]
   omega
  ·have z:=b0 m
   omega
noncomputable def toV:Value->V
 |.none=>.non
 |.bool b=>.bl b
 |.int i _=>.int i
 |.str x _=>.str x
 |.bytes b _=>.byt b
 |.ref a=>.ref a
 |_=>.non
noncomputable def OkU (A:List Addr):Value->Prop
 |.none=>True
 |.bool _=>True
 |.int _ _=>True
 |.str _ _=>True
 |.bytes _ _=>True
 |.ref a=>a∈A
 |_=>False
theorem OkU.mono {A B:List Addr}(h:∀a∈A,a∈B):∀{u:Value},OkU A u->OkU B u:=fun {u} x=>by
 cases u with
 |ref a=>exact h a x
 |none=>trivial
 |bool b=>trivial
 |int i t=>trivial
 |str s t=>trivial
 |bytes b t=>trivial
 |_=>exact False.elim x
theorem Az0 {A:List Addr}{u:Value}(x:OkU A u):RelV (toV u) u:=by
 cases u with
 |ref a=>rfl
 |none=>rfl
 |bool b=>rfl
 |int i t=>exact⟨t,rfl⟩
 |str s t=>exact⟨t,rfl⟩
 |bytes b t=>exact⟨t,rfl⟩
 |_=>exact False.elim x
theorem U5 {A:List Addr}:∀{vs:List Value},(∀u∈vs,OkU A u)->Vals (vs.map toV) vs
 |[],_=>.nil
 |u::r,h=>.cons (Az0 (h u (List.mem_cons_self ..))) (U5 fun x hx=>h x (List.mem_cons_of_mem _ hx))
noncomputable def ArgOb (h:Heap)(A:List Addr)(a:Addr):Prop:=∃vs:List Value,vs.length<=sizeLine/\(∀u∈vs,OkU A u)/\
 (h.get? a=some {cls:=.type "list",data:=.seq vs.toArray}∨h.get? a=some {cls:=.type "tuple",data:=.seq vs.toArray})
theorem ArgOb.mono {h:Heap}{A B:List Addr}{a:Addr}(k:∀a∈A,a∈B)(x:ArgOb h A a):ArgOb h B a:=by
 obtain⟨vs,h1,h2,h3⟩:=x
 exact⟨vs,h1,fun u hu=>(h2 u hu).mono k,h3⟩
theorem Q9 {P:Params}{h:Heap}:∀{vs:List Value} {ds:List WData},WellAll P h vs ds->vs.length=ds.length
 |_,_,.nil=>rfl
 |_,_,.cons _ b=>by
  show _+1=_+1
  rw[Q9 b]
theorem AM4 {P:Params}{h:Heap}{v:Value}{ds:List WData}(x:Well P h v (.list ds)):∃(a:Addr) (vs:List Value),v=.ref a/\h.get? a=some {cls:=.type "list",data:=.seq vs.toArray}/\WellAll P h vs ds:=by
 cases x with
 |list ho hall=>exact⟨_,_,rfl,ho,hall⟩
theorem AA6 {P:Params}{h:Heap}{v:Value}{ds:List WData}(x:Well P h v (.tuple ds)):∃(a:Addr) (vs:List Value),v=.ref a/\h.get? a=some {cls:=.type "tuple",data:=.seq vs.toArray}/\WellAll P h vs ds:=by
 cases x with
 |tuple ho hall=>exact⟨_,_,rfl,ho,hall⟩
theorem AI0 {P:Params}{h:Heap}{us:List Value}{d:WData}{ds:List WData}(x:WellAll P h us (d::ds)):∃(v:Value) (vs:List Value),us=v::vs/\Well P h v d/\WellAll P h vs ds:=by
 cases x with
 |cons a b=>exact⟨_,_,rfl,a,b⟩
theorem Al4 {n:Nat}(h:n<=1048576):n<=sizeLine:=Nat.le_trans h (by decide)
section
variable {P:Params} {h:Heap}
mutual
theorem Az1:∀(d:WData) (v:Value),Well P h v d->plW d=true->d.weight<=1048576->∃A:List Addr,OkU A v/\∀a∈A,ArgOb h A a
 |.none,_,x,_,_=>by
  cases x
  exact⟨[],trivial,fun a m=>absurd m (by simp)⟩
 |.bool b,_,x,_,_=>by
  cases x
  exact⟨[],trivial,fun a m=>absurd m (by simp)⟩
 |.int i,_,x,_,_=>by
  cases x
  exact⟨[],trivial,fun a m=>absurd m (by simp)⟩
 |.str s,_,x,_,_=>by
  cases x
  exact⟨[],trivial,fun a m=>absurd m (by simp)⟩
 |.bytes b,_,x,_,_=>by
  cases x
  exact⟨[],trivial,fun a m=>absurd m (by simp)⟩
 |.list ds,_,x,p,z=>by
  obtain⟨a,vs,rfl,ho,hall⟩:=AM4 x
  have z2:WData.weightAll ds<=1048576:=z
  obtain⟨A,h1,h2⟩:=k9 ds _ hall p fun d hd=>Nat.le_trans (b0 hd) z2
  have k:∀b∈A,b∈a::A:=fun b hb=>List.mem_cons_of_mem _ hb
  refine⟨a::A,List.mem_cons_self ..,fun b hb=>?_⟩
  rcases List.mem_cons.mp hb with e |m
  ·rw[e]
   exact⟨vs,Al4 (by rw[Q9 hall];exact Nat.le_trans (PySem.W.length_le_weightAllW ds) z2),fun u hu=>(h1 u hu).mono k,.inl ho⟩
  ·exact(h2 b m).mono k
 |.tuple ds,_,x,p,z=>by
  obtain⟨a,vs,rfl,ho,hall⟩:=AA6 x
  have z2:WData.weightAll ds<=1048576:=z
  obtain⟨A,h1,h2⟩:=k9 ds _ hall p fun d hd=>Nat.le_trans (b0 hd) z2
  have k:∀b∈A,b∈a::A:=fun b hb=>List.mem_cons_of_mem _ hb
  refine⟨a::A,List.mem_cons_self ..,fun b hb=>?_⟩
  rcases List.mem_cons.mp hb with e |m
  ·rw[e]
   exact⟨vs,Al4 (by rw[Q9 hall];exact Nat.le_trans (PySem.W.length_le_weightAllW ds) z2),fun u hu=>(h1 u hu).mono k,.inr ho⟩
  ·exact(h2 b m).mono k
 |.float _,_,_,p,_=>Bool.noConfusion (show false=true from p)
 |.dict _,_,_,p,_=>Bool.noConfusion (show false=true from p)
 |.bytearray _,_,_,p,_=>Bool.noConfusion (show false=true from p)
 |.set _,_,_,p,_=>Bool.noConfusion (show false=true from p)
 |.frozenset _,_,_,p,_=>Bool.noConfusion (show false=true from p)
 |.obj _ _,_,_,p,_=>Bool.noConfusion (show false=true from p)
theorem k9:∀(ds:List WData) (vs:List Value),WellAll P h vs ds->Ab1 ds=true->(∀d∈ds,d.weight<=1048576)->∃A:List Addr,(∀u∈vs,OkU A u)/\∀a∈A,ArgOb h A a
 |[],_,x,_,_=>by
  cases x
  exact⟨[],fun u m=>absurd m (by simp),fun a m=>absurd m (by simp)⟩
 |d::ds,_,x,p,z=>by
  obtain⟨v,vs,rfl,x1,x2⟩:=AI0 x
  have q:plW d=true/\Ab1 ds=true:=Bool.and_eq_true_iff.mp p
  obtain⟨A,a1,a2⟩:=Az1 d v x1 q.1 (z d (List.mem_cons_self ..))
  obtain⟨B,b1,b2⟩:=k9 ds vs x2 q.2 fun e he=>z e (List.mem_cons_of_mem _ he)
  have kA:∀b∈A,b∈A++B:=fun b hb=>List.mem_append.mpr (.inl hb)
  have kB:∀b∈B,b∈A++B:=fun b hb=>List.mem_append.mpr (.inr hb)
  refine⟨A++B,fun u hu=>?_,fun b hb=>?_⟩
  ·rcases List.mem_cons.mp hu with e |m
   ·rw[e]
    exact a1.mono kA
   ·exact(b1 u m).mono kB
  ·rcases List.mem_append.mp hb with m |m
   ·exact(a2 b m).mono kA
   ·exact(b2 b m).mono kB
end
end
noncomputable def BS4 (o:Obj):Option HO:=match o.data with
 |.seq vs _=>if(o.cls==Value.type "list")=true then some (.frz o (.lst (vs.toList.map toV)))else some (.frz o (.tup (vs.toList.map toV)))
 |_=>none
noncomputable def AC5 (K:PySem.W.Frag)(h:Heap)(A:List Addr):Hp:=fun b=>if b∈A then(if(K.lookup b).isNone=true then(h.get? b).bind BS4 else none)else none
noncomputable def Ae1 (H:Hp):Prop:=∀b,H b=none∨∃o u,H b=some (.frz o u)
theorem AR7 (vs:List Value):BS4 {cls:=.type "list",data:=.seq vs.toArray}=some (.frz {cls:=.type "list",data:=.seq vs.toArray} (.lst (vs.map toV))):=by
 show(if(Value.type "list"==Value.type "list")=true then some (HO.frz {cls:=.type "list",data:=.seq vs.toArray} (.lst (vs.toArray.toList.map toV)))else some (HO.frz {cls:=.type "list",data:=.seq vs.toArray} (.tup (vs.toArray.toList.map toV))))=_
 rw[if_pos (beq_self_eq_true _)]
theorem AW8 (vs:List Value):BS4 {cls:=.type "tuple",data:=.seq vs.toArray}=some (.frz {cls:=.type "tuple",data:=.seq vs.toArray} (.tup (vs.map toV))):=by
 show(if(Value.type "tuple"==Value.type "list")=true then some (HO.frz {cls:=.type "tuple",data:=.seq vs.toArray} (.lst (vs.toArray.toList.map toV)))else some (HO.frz {cls:=.type "tuple",data:=.seq vs.toArray} (.tup (vs.toArray.toList.map toV))))=_
 rw[if_neg (by decide)]
section
variable {P:Program} {w:World} {K:PySem.W.Frag} {h:Heap} {A:List Addr}
theorem AF2 {b:Addr}{o:Obj}(hb:b∈A)(hk:K.lookup b=none)(e:h.get? b=some o):AC5 K h A b=BS4 o:=by
 unfold AC5
 rw[if_pos hb,hk,if_pos (show(none:Option Obj).isNone=true from rfl),e]<;>rfl
theorem BE7 {b:Addr}{u:HO}(q:AC5 K h A b=some u):b∈A/\K.lookup b=none:=by
 unfold AC5 at q
 by_cases hb:b∈A
 ·rw[if_pos hb]at q
  cases hk:K.lookup b with
  |none=>exact⟨hb,rfl⟩
  |some o=>
   rw[hk,if_neg (by simp)]at q
   cases q
 ·rw[if_neg hb]at q
  cases q
theorem AD5 (ar:∀a∈A,ArgOb h A a){b:Addr}{u:HO}(q:AC5 K h A b=some u):K.lookup b=none/\∃vs:List Value,vs.length<=sizeLine/\(∀u∈vs,OkU A u)/\
  ((h.get? b=some {cls:=.type "list",data:=.seq vs.toArray}/\u=.frz {cls:=.type "list",data:=.seq vs.toArray} (.lst (vs.map toV)))∨
   (h.get? b=some {cls:=.type "tuple",data:=.seq vs.toArray}/\u=.frz {cls:=.type "tuple",data:=.seq vs.toArray} (.tup (vs.map toV)))):=by
 obtain⟨hb,hk⟩:=BE7 q
 obtain⟨vs,h1,h2,h3⟩:=ar b hb
 refine⟨hk,vs,h1,h2,?_⟩
 rcases h3 with e |e
 ·rw[AF2 hb hk e,AR7]at q
  exact .inl ⟨e,(Option.some.inj q).symm⟩
 ·rw[AF2 hb hk e,AW8]at q
  exact .inr ⟨e,(Option.some.inj q).symm⟩
theorem Am6 (ar:∀a∈A,ArgOb h A a):Ae1 (AC5 K h A):=fun b=>by
 cases q:AC5 K h A b with
 |none=>exact .inl rfl
 |some u=>
  obtain⟨_,vs,_,_,⟨_,e⟩ |⟨_,e⟩⟩:=AD5 ar q
  ·exact .inr ⟨_,_,by rw[e]⟩
  ·exact .inr ⟨_,_,by rw[e]⟩
theorem A78 (ar:∀a∈A,ArgOb h A a):HOk P w (AC5 K h A) h:=fun b u q=>by
 obtain⟨_,vs,h1,h2,⟨e,rfl⟩ |⟨e,rfl⟩⟩:=AD5 ar q
 ·exact⟨e,by rw[List.length_map];exact h1,vs,_,U5 h2,e⟩
 ·exact⟨e,by rw[List.length_map];exact h1,vs,U5 h2,_,e,rfl,_,rfl⟩
theorem AH2 {c c':Value}{vs us:List Value}(e:(some {cls:=c,data:=.seq vs.toArray}:Option Obj)=some {cls:=c',data:=.seq us.toArray}):c=c'/\vs=us:=by
 have e1:=Option.some.inj e
 have e2:c=c':=congrArg Obj.cls e1
 have e3:Data.seq vs.toArray=Data.seq us.toArray:=congrArg Obj.data e1
 injection e3 with e4
 refine⟨e2,?_⟩
 have e5:=congrArg Array.toList e4
 simpa using e5
theorem Bd9 (KX:K.In h)(ar:∀a∈A,ArgOb h A a){a:Addr}{vs:List Value}(ha:a∈A)(e:h.get? a=some {cls:=.type "list",data:=.seq vs.toArray}):(∀u∈vs,OkU A u)/\SqL K (AC5 K h A) a (vs.map toV):=by
 obtain⟨us,h1,h2,h3⟩:=ar a ha
 have hu:us=vs:=by
  rcases h3 with q |q
  ·rw[e]at q
   exact(AH2 q).2.symm
  ·rw[e]at q
   exact absurd (Value.type.inj (AH2 q).1) (by decide)
 subst hu
 refine⟨h2,?_⟩
 cases hk:K.lookup a with
 |none=>exact .inl (.inr ⟨_,by rw[AF2 ha hk e,AR7]⟩)
 |some o=>
  have e2:=KX a o hk
  rw[e]at e2
  obtain rfl:=Option.some.inj e2
  exact .inr ⟨_,us.toArray,_,hk,rfl,rfl,rfl,by rw[List.size_toArray];exact h1,by simpa using U5 h2⟩
theorem Be8 (KX:K.In h)(ar:∀a∈A,ArgOb h A a){a:Addr}{vs:List Value}(ha:a∈A)(e:h.get? a=some {cls:=.type "tuple",data:=.seq vs.toArray}):(∀u∈vs,OkU A u)/\SqT K (AC5 K h A) a (vs.map toV):=by
 obtain⟨us,h1,h2,h3⟩:=ar a ha
 have hu:us=vs:=by
  rcases h3 with q |q
  ·rw[e]at q
   exact absurd (Value.type.inj (AH2 q).1) (by decide)
  ·rw[e]at q
   exact(AH2 q).2.symm
 subst hu
 refine⟨h2,?_⟩
 cases hk:K.lookup a with
 |none=>exact .inl (.inr ⟨_,by rw[AF2 ha hk e,AW8]⟩)
 |some o=>
  have e2:=KX a o hk
  rw[e]at e2
  obtain rfl:=Option.some.inj e2
  exact .inr ⟨_,us.toArray,_,hk,rfl,rfl,by rw[List.size_toArray];exact h1,by simpa using U5 h2⟩
mutual
theorem BN1 {Pm:Params}(KX:K.In h)(ar:∀a∈A,ArgOb h A a):∀(d:WData) (v:Value),Well Pm h v d->plW d=true->OkU A v->Dw K (AC5 K h A) (toV v) d
 |.none,_,x,_,_=>by
  cases x
  exact .non
 |.bool b,_,x,_,_=>by
  cases x
  exact .bl b
 |.int i,_,x,_,_=>by
  cases x
  exact .int i
 |.str s,_,x,_,_=>by
  cases x
  exact .str s
 |.bytes b,_,x,_,_=>by
  cases x
  have z:=Dw.byt (K:=K) (H:=AC5 K h A) b.toArray
  exact z
 |.list ds,_,x,p,hu=>by
  obtain⟨a,vs,rfl,ho,hall⟩:=AM4 x
  obtain⟨h2,hs⟩:=Bd9 KX ar hu ho
  exact .lst hs (AT9 KX ar ds _ hall p h2)
 |.tuple ds,_,x,p,hu=>by
  obtain⟨a,vs,rfl,ho,hall⟩:=AA6 x
  obtain⟨h2,hs⟩:=Be8 KX ar hu ho
  exact .tup hs (AT9 KX ar ds _ hall p h2)
 |.float _,_,_,p,_=>Bool.noConfusion (show false=true from p)
 |.dict _,_,_,p,_=>Bool.noConfusion (show false=true from p)
 |.bytearray _,_,_,p,_=>Bool.noConfusion (show false=true from p)
 |.set _,_,_,p,_=>Bool.noConfusion (show false=true from p)
 |.frozenset _,_,_,p,_=>Bool.noConfusion (show false=true from p)
 |.obj _ _,_,_,p,_=>Bool.noConfusion (show false=true from p)
theorem AT9 {Pm:Params}(KX:K.In h)(ar:∀a∈A,ArgOb h A a):∀(ds:List WData) (vs:List Value),WellAll Pm h vs ds->Ab1 ds=true->(∀u∈vs,OkU A u)->i4 K (AC5 K h A) (vs.map toV) ds
 |[],_,x,_,_=>by
  cases x
  exact .nil
 |d::ds,_,x,p,hu=>by
  obtain⟨v,vs,rfl,x1,x2⟩:=AI0 x
  have q:plW d=true/\Ab1 ds=true:=Bool.and_eq_true_iff.mp p
  exact .cons (BN1 KX ar d v x1 q.1 (hu _ (List.mem_cons_self ..))) (AT9 KX ar ds vs x2 q.2 fun u m=>hu u (List.mem_cons_of_mem _ m))
end
end
theorem Ah5 {P:Program}{w:World}{K:PySem.W.Frag}{mg mb:Str->Option Value}{CX:CXT}{k:Nat}{fa:Addr}{fd:FuncData}{ps:List Str}{sp:Sp}{s₁:Shared}{vals:List Value}{ds:List WData}{R:PySem.W.WRecords}{cl:Str->Option Addr}{d0:WData}
  (KX:K.In s₁.heap) (hns:s₁.heap.Ns mainGlobals mg) (hb:s₁.heap.Ns builtinsNs mb) (hbb:∀x:Str,x≠"__name__"->mb x=bootBuiltins x) (hlim:s₁.heap.NoLimit) (hg:s₁.gens= #[])
  (hwl:WellAll w.params s₁.heap vals ds) (hpl:Ab1 ds=true) (hwt:∀d∈ds,d.weight<=1048576) (hr:Room k callerA)
  (F:∀base:Heap,K.In base->base.Ns mainGlobals mg->D3 P w K mg base CX k fa fd ps sp) (hbind:∀(s:Shared) (us:List Value),us.length=ps.length->BindsTo s fd ⟨us,[]⟩ (ps.zip us)) (hlen:ds.length=ps.length)
  (hsp:∀(H:Hp) (xs:List V),Ae1 H->i4 K H xs ds->sp xs H (fun v H'=>Dw K H' v d0) fun _ _ _=>False)
  (hCX:∀H e s',CX [] H s₁ (fun _ _ _=>False) e s'->False):
  codeAny (model P w) callerA (.call (.ref fa) ⟨vals,[]⟩) (fun r s'=>∃u as,r=.ok (.ret u)/\ReadsW R cl s'.heap u d0 as/\OldK s₁.heap s'.heap/\s'.os=s₁.os/\AllBare s'.gens) s₁:=by
 obtain⟨A,ho,ar⟩:=k9 ds vals hwl hpl hwt
 have hO:Ae1 (AC5 K s₁.heap A):=Am6 ar
 have hok:HOk P w (AC5 K s₁.heap A) s₁.heap:=A78 ar
 have hS:=AT9 KX ar ds vals hwl hpl ho
 have hV:=U5 ho
 have hK:∀b u,AC5 K s₁.heap A b=some u->K.lookup b=none:=fun b u q=>(AD5 ar q).1
 have noA:∀{b:Addr} {o:Obj} {es:Array DictEntry} {ep:Nat},s₁.heap.get? b=some o->o.data=.dict es ep->AC5 K s₁.heap A b=none:=fun {b o es ep} e d=>by
  cases q:AC5 K s₁.heap A b with
  |none=>rfl
  |some u=>
   obtain⟨_,vs,_,_,⟨e2,_⟩ |⟨e2,_⟩⟩:=AD5 ar q
   ·rw[e2]at e
    cases e
    have d':Data.seq vs.toArray _=Data.dict es ep:=d
    cases d'
   ·rw[e2]at e
    cases e
    have d':Data.seq vs.toArray _=Data.dict es ep:=d
    cases d'
 generalize AC5 K s₁.heap A=H at hO hok hS hK noA
 have base_of:∀{b:Addr} {o:Obj},s₁.heap.get? b=some o->H b=none->(Ar8 s₁.heap H).get? b=some o:=fun e n=>Ay4 e n
 have nsK:∀{b:Addr} {m:Str->Option Value},s₁.heap.Ns b m->(Ar8 s₁.heap H).Ns b m:=fun {b m} ⟨o,es,ep,e,d,r⟩=>⟨o,es,ep,base_of e (noA e d),d,r⟩
 have nK:∀b o,K.lookup b=some o->H b=none:=fun b o e=>by
  cases q:H b with
  |none=>rfl
  |some u=>
   rw[hK b u q]at e
   cases e
 have hKb:K.In (Ar8 s₁.heap H):=fun b o e=>base_of (KX b o e) (nK b o e)
 have hM:Mod K mg (Ar8 s₁.heap H):=⟨hKb,nsK hns,⟨mb,nsK hb,hbb⟩,let ⟨mc,h1,h2⟩:=hlim;⟨mc,nsK h1,h2⟩⟩
 have e0:Env0 P w K mg (Ar8 s₁.heap H) callerA [] s₁ H:=⟨rfl,hM,fun b o e=>A92 e,Nat.le_of_eq (Ag9 _ _),trivial,fun b hb=>absurd (show b∈([]:List Addr)from hb) (by simp),hok,.of_eq hg⟩
 have hl:vals.length=ps.length:=by rw[Q9 hwl];exact hlen
 refine codeAny_mono ((F _ hKb (nsK hns)).run callerA [] s₁ H ⟨vals,[]⟩ vals (vals.map toV) _ _ hr e0 (hbind s₁ vals hl) hV (hsp H _ hO hS)) fun r s' x=>?_
 cases r with
 |error e=>exact(hCX H e s' x).elim
 |ok fl=>
  cases fl with
  |next=>exact False.elim x
  |brk=>exact False.elim x
  |cont=>exact False.elim x
  |ret u=>
   obtain⟨v,H',os,bare,un,hok',r',q⟩:=x
   have kept:∀b o,s₁.heap.get? b=some o->s'.heap.get? b=some o:=fun b o e=>by
    cases q2:H b with
    |none=>exact un.keep b o e q2 (by intro z;exact absurd (show b∈([]:List Addr)from z) (by simp)) (by simp)
    |some u2=>
     rcases hO b with z |⟨ob,u3,z⟩
     ·rw[q2]at z
      cases z
     ·have z2:=un.frzs b ob _ z
      obtain⟨e1,_⟩:=hok b _ z
      obtain⟨e2,_⟩:=hok' b _ z2
      rw[e]at e1
      cases e1
      exact e2
   have KX':K.In s'.heap:=fun b o e=>kept b o (KX b o e)
   obtain⟨as,hrd⟩:=Dw.reads (R:=R) (cl:=cl) hok' KX' d0 v u q r'
   exact⟨u,as,rfl,hrd,OldK.of_keep kept,os,bare⟩
theorem x5 {ds:List WData}(h:WData.layableAll ds=true):∀d∈ds,d.weight<=1048576:=fun d hd=>
 (PySem.W.layableW_iff.mp (List.all_eq_true.mp h d hd)).2.2
theorem AA8:∀(cs:List Codec) (a:Codec.denoteAll cs),(Codec.encAll cs a).length=cs.length
 |[],_=>rfl
 |c::cs,a=>by
  show(Codec.encAll cs a.2).length+1=cs.length+1
  rw[AA8 cs a.2]
theorem Af7 {r:OpenSpec}{k:Nat}{q:Program}{loose:List Str}{XP:(Str->Option Value)->Heap->Prop}{YP:World->Heap->Prop}{d:DefRec}{K:Params->PySem.W.Frag}{CX:World->CXT}{ps:List Str}{sp:World->Sp}
  (hwell:r.wellSaid=true) (hdf:d.params.defaults=[]) (hlen:r.args.length=ps.length) (hr:Room k callerA)
  (hY:∀(w:World) (h:Heap),YP w h->(K w.params).In h)
  (F:∀(w:World) (mg:Str->Option Value) (fa:Addr) (h:Heap),YP w h->(K w.params).In h->h.Ns mainGlobals mg->mg d.name=some (.ref fa)->
   ∃fd:FuncData,(∀(s:Shared) (us:List Value),us.length=ps.length->BindsTo s fd ⟨us,[]⟩ (ps.zip us))/\
    ∀base:Heap,(K w.params).In base->base.Ns mainGlobals mg->D3 r.prog w (K w.params) mg base (CX w) k fa fd ps (sp w))
  (hsp:∀(w:World) (H:Hp) (xs:List V) (a:Codec.denoteAll r.args),Ae1 H->Codec.withinAll r.args a=true->Codec.app r.args r.asked a=true->i4 (K w.params) H xs (Codec.encAll r.args a)->
   sp w xs H (fun v H'=>Dw (K w.params) H' v (r.ret.enc (Codec.app r.args r.f a))) fun _ _ _=>False)
  (hCX:∀(w:World) (H:Hp) (s:Shared) (e:Value) (s':Shared),CX w [] H s (fun _ _ _=>False) e s'->False):
  PySem.W.WalkOS q loose XP YP r d [] (fun f vs=>PySem.call f vs):=by
 intro w s_0 s₁ mg mb G Y fa o pm cd doc dV kV ho hd hcd hD hmg hg args vals as hpre hlay hrd hwl hlo
 obtain⟨a,e1,e2⟩:=PySem.W.os_pre_some hpre
 obtain⟨e3,hwi⟩:=Codec.encAll_of_decAll r.args args a e1
 subst e3
 have KX:=hY w _ Y
 obtain⟨fd,hb,hF⟩:=F w mg fa _ Y KX G.T.g hmg
 refine PySem.W.enter_call (codeAny_mono (Ah5 (R:=[]) (cl:=classAt s_0.heap) (d0:=r.ret.enc (Codec.app r.args r.f a)) KX G.T.g G.T.b G.T.builtins G.T.nolimit hg hwl (AM2 _ _) (x5 hlay) hr hF hb (by rw[AA8];exact hlen)
  (fun H xs hO hS=>hsp w H xs a hO hwi e2 hS) fun H e s'=>hCX w H s₁ e s') fun r' s' hq=>?_)
 obtain⟨u,as',rfl,h1,h2,h3,h4⟩:=hq
 exact⟨.inl ⟨u,_,as',rfl,fun _=>rfl,h1,(OpenSpec.post_iff hwell hwi _ _).mpr rfl,fun z=>Bool.noConfusion (show false=true from z)⟩,h2,h3,h4⟩
theorem walk_specK {r:OpenSpec}{k:Nat}{q:Program}{loose:List Str}{XP:(Str->Option Value)->Heap->Prop}{YP:World->Heap->Prop}{d:DefRec}{K:Params->PySem.W.Frag}{CX:CXT}{ps:List Str}{sp:PySem.W.Frag->Sp}
  (hwell:r.wellSaid=true) (hdf:d.params.defaults=[]) (hlen:r.args.length=ps.length) (hr:Room k callerA)
  (hY:∀(w:World) (h:Heap),YP w h->(K w.params).In h)
  (F:∀(w:World) (mg:Str->Option Value) (fa:Addr) (h:Heap),YP w h->(K w.params).In h->h.Ns mainGlobals mg->mg d.name=some (.ref fa)->
   ∃fd:FuncData,(∀(s:Shared) (us:List Value),us.length=ps.length->BindsTo s fd ⟨us,[]⟩ (ps.zip us))/\
    ∀base:Heap,(K w.params).In base->base.Ns mainGlobals mg->D3 r.prog w (K w.params) mg base CX k fa fd ps (sp (K w.params)))
  (hsp:∀(K:PySem.W.Frag) (H:Hp) (xs:List V) (a:Codec.denoteAll r.args),Ae1 H->Codec.withinAll r.args a=true->Codec.app r.args r.asked a=true->i4 K H xs (Codec.encAll r.args a)->
   sp K xs H (fun v H'=>Dw K H' v (r.ret.enc (Codec.app r.args r.f a))) fun _ _ _=>False)
  (hCX:∀(H:Hp) (s:Shared) (e:Value) (s':Shared),CX [] H s (fun _ _ _=>False) e s'->False):
  PySem.W.WalkOS q loose XP YP r d [] (fun f vs=>PySem.call f vs):=
 Af7 (K:=K) (CX:=fun _=>CX) (sp:=fun w=>sp (K w.params)) hwell hdf hlen hr hY F (fun w H xs a h1 h2 h3 h4=>hsp (K w.params) H xs a h1 h2 h3 h4) fun _ H s e s'=>hCX H s e s'
end L2
-- rests on (row put in by the clerk,for the bench that shows a file only what it spells):KE.SpHead KE.OsShapes
end
namespace L2
open PySem PySem.Spec PyProof.Rows
noncomputable def AD3 (s:Stmt)(j:Nat):Stmt:=match s with
 |.ClassDef _ _ _ body _ _ _ _ _ _ _=>body.getD j (.Pass ⟨0,0,0,0⟩)
 |_=>.Pass ⟨0,0,0,0⟩
noncomputable def M7 (s:Stmt):Arguments:=match s with
 |.FunctionDef _ a _ _ _ _ _ _ _ _=>a
 |_=>{posonlyargs:=[],args:=[],vararg:=none,kwonlyargs:=[],kw_defaults:=[],kwarg:=none,defaults:=[]}
noncomputable def L0 (s:Stmt):List Stmt:=match s with
 |.FunctionDef _ _ b _ _ _ _ _ _ _=>b
 |_=>[]
noncomputable def A7 (s:Stmt):Scope:=match s with
 |.FunctionDef _ _ _ _ _ _ sc _ _ _=>sc
 |_=>{kind:=.function,names:=[],isGenerator:=false,isCoroutine:=false}
noncomputable abbrev CX0:CXT:=fun _ _ _ _ _ _=>False
noncomputable abbrev E0:XK:=fun _ _ _=>False
theorem AY7 {X:Cx}:AA9 CX0 X E0:=fun _ _ _ _ _ _ _ h=>h.elim
structure Fun (K:PySem.W.Frag)(x qual:Str)(st:Stmt)(f:Addr)(fd:FuncData):Prop where
 ex:∃(oc:Value) (od:Option Addr) (kV doc pm:Value) (an:Option Addr) (cdv ct:Value) (osl:Array (Option Value)),
  fd=PySem.W.fnOf x qual (M7 st) (L0 st) (A7 st) .none kV doc pm an cdv ct/\K.lookup f=some ⟨oc,od,.func fd,osl⟩/\PySem.W.codeIn K cdv qual=true
 kp:PySem.W.keepIn K (.ref f)=true
section
variable {P:Program} {w:World} {K:PySem.W.Frag} {mg:Str->Option Value} {base:Heap}
theorem Fun.ok {x qual:Str}{st:Stmt}{f:Addr}{fd:FuncData}{N ps:List Str}{k:Nat}{sp:Sp}(F:Fun K x qual st f fd)(S:B8 N ps (A7 st))(len:∀vs H Q E,sp vs H Q E->vs.length=ps.length)
  (hbody:∀(cdv:Value) (A:Around) (outer:List Env) (s:Shared) (H:Hp) (vs:List V) (Q:VK) (E:XK),Room k (A.deeper (envOfC qual (A7 st) s.heap.objs.size f cdv))->sp vs H Q E->
   ∃t,PSs (BH2 CX0 P w K mg base N qual (A7 st) f cdv A outer s H E).nox (L0 st) t/\t {nx:=fun _ H'=>Q .non H',rt:=Q} (start N vs) H):D3 P w K mg base CX0 (k+1) f fd ps sp:=by
 obtain⟨oc,od,kV,doc,pm,an,cdv,ct,osl,rfl,lk,hcd⟩:=F.ex
 refine BU4 lk hcd S len fun A outer s H vs Q E hr hsp=>?_
 obtain⟨t,h,q⟩:=hbody cdv A outer s H vs Q E hr hsp
 exact⟨t,h.nox,q⟩
theorem Fun.binds {x qual:Str}{st:Stmt}{f:Addr}{fd:FuncData}{ps:List Str}(F:Fun K x qual st f fd)
  (h:∀(kV doc pm:Value) (an:Option Addr) (cdv ct:Value) (us:List Value),us.length=ps.length->bindArgs (PySem.W.fnOf x qual (M7 st) (L0 st) (A7 st) .none kV doc pm an cdv ct) ⟨us,[]⟩=pure (ps.zip us)):Binds K fd ps []:=by
 obtain⟨oc,od,kV,doc,pm,an,cdv,ct,osl,rfl,lk,hcd⟩:=F.ex
 exact .all (h kV doc pm an cdv ct)
theorem AT8 {x qual:Str}{st:Stmt}{f:Addr}{oc:Value}{od an:Option Addr}{osl:Array (Option Value)}{kV doc pm cdv ct:Value}(l:K.lookup f=some ⟨oc,od,.func (PySem.W.fnOf x qual (M7 st) (L0 st) (A7 st) .none kV doc pm an cdv ct),osl⟩)
  (c:PySem.W.codeIn K cdv qual=true) (k:PySem.W.keepIn K (.ref f)=true):Fun K x qual st f (PySem.W.fnOf x qual (M7 st) (L0 st) (A7 st) .none kV doc pm an cdv ct):=⟨⟨oc,od,kV,doc,pm,an,cdv,ct,osl,rfl,l,c⟩,k⟩
end
theorem AX1 {A:Around}{k:Nat}(hr:Room k A):A.units+1<cLine:=Nat.lt_of_le_of_lt (Nat.add_le_add_left (by decide:1<=64) _) hr.units
section
variable {X:Cx}
theorem pv (i:Nat){x:Str}{pos:Pos}(hN:X.N[i]?=some x:=by rfl)(hv:Vis X.env.scope x:=by first |exact Or.inl rfl |exact Or.inr (Or.inl rfl) |exact Or.inr (Or.inr rfl))(hd:(x==("__debug__":Str))=false:=by decide)
  (hcd:(x==("__classdict__":Str))=false:=by decide):PE X (.Name x pos) (O4 i):=BP9 hN hv hd hcd
end
theorem AQ3 {A B:Prop}(h:B):if false=true then A else B:=by
 rw[if_neg Bool.false_ne_true]
 exact h
theorem AX4 {A B:Prop}(h:A):if true=true then A else B:=by
 rw[if_pos rfl]
 exact h
theorem G7 {c A B:Prop}[Decidable c](h1:c->A)(h2:¬c->B):if c then A else B:=by
 by_cases h:c
 ·rw[if_pos h]
  exact h1 h
 ·rw[if_neg h]
  exact h2 h
noncomputable def Same (H H':Hp):Prop:=∀b o,H b=some o->H' b=some o
theorem Same.refl (H:Hp):Same H H:=fun _ _ h=>h
theorem Same.trans {H H1 H2:Hp}(a:Same H H1)(b:Same H1 H2):Same H H2:=fun c o h=>b c o (a c o h)
theorem Same.free {H H':Hp}(e:Same H H'){l:Addr}(h:H' l=Option.none):H l=Option.none:=by
 cases q:H l with
 |none=>rfl
 |some o=>
  rw[e l o q]at h
  cases h
theorem Same.seq {K:PySem.W.Frag}{H H':Hp}{a:Addr}{xs:List V}(e:Same H H')(h:SqL K H a xs):SqL K H' a xs:=by
 rcases h with (h |⟨o,h⟩) |h
 ·exact .inl (.inl (e _ _ h))
 ·exact .inl (.inr ⟨o,e _ _ h⟩)
 ·exact .inr h
section
variable {κ:Type} [DecidableEq κ]
end
theorem Same.made {H H1:Hp}{x dx C:Addr}(nx:H x=Option.none)(nd:H dx=Option.none)(k:∀b o,(upd (upd H dx (.own x)) x (.ins C dx [])) b=some o->b≠x->H1 b=some o):Same H H1:=fun b o e=>
 k b o (by rw[A5 (B0 e nx),A5 (B0 e nd)];exact e) (B0 e nx)
end L2
set_option maxRecDepth 100000
set_option maxHeartbeats 2000000
namespace L2
open PySem PySem.Spec PyProof.Rows
theorem AR3 {u:Value}{v:V}(h:A35 u=some v):RelV v u:=by
 cases u<;>first
  |(cases h;rfl)
  |(cases h;exact⟨_,rfl⟩)
  |(cases h)
noncomputable def Y8 (o:Obj):Option (List DictEntry):=match o with
 |⟨.type n,none,.dict es _,sl⟩=>if n="dict"/\sl.size=0 then some es.toList else none
 |_=>none
theorem AB7 {o:Obj}{l:List DictEntry}(h:Y8 o=some l):o.ExactDict/\∃es ep,o.data=.dict es ep/\es.toList=l:=by
 unfold Y8 at h
 split at h
 ·rename_i n es ep sl
  split at h
  ·rename_i c
   obtain⟨rfl,c2⟩:=c
   cases h
   exact⟨⟨rfl,rfl,Array.eq_empty_of_size_eq_zero c2⟩,es,ep,rfl,rfl⟩
  ·cases h
 ·cases h
noncomputable def BY7 (e:DictEntry):Option (Int×V):=match e with
 |⟨hs,.int k _,val⟩=>if hs=hashInt k then(A35 val).map fun v=>(k,v)else none
 |_=>none
noncomputable def Ag7:List DictEntry->Option (List (Int×V))
 |[]=>some []
 |e::r=>match BY7 e,Ag7 r with
  |some x,some l=>some (x::l)
  |_,_=>none
noncomputable def A80 (K:PySem.W.Frag)(a:Addr):Option (List (Int×V)):=match K.lookup a with
 |some o=>(Y8 o).bind Ag7
 |none=>none
noncomputable def AD1 (P:Program)(w:World)(K:PySem.W.Frag)(a:Addr)(kvs:List (Key×V)):Prop:=(a==sysModules)=false/\∀h:Heap,K.In h->∃vs,KV kvs vs/\h.DictOf (C5 P w) a vs
theorem BD0 {P:Program}{w:World}{e:DictEntry}{x:Int×V}(h:BY7 e=some x):(C5 P w).is (Sum.inl x.1) e.key=true/\e.hash=(C5 P w).hash (Sum.inl x.1)/\RelV x.2 e.val:=by
 obtain⟨hs,key,val⟩:=e
 unfold BY7 at h
 split at h
 ·rename_i hs' k t val' q
  cases q
  split at h
  ·rename_i c
   cases ea:A35 val with
   |none=>rw[ea]at h;cases h
   |some v=>
    rw[ea]at h
    cases h
    exact⟨W6 P w k t,c,AR3 ea⟩
  ·cases h
 ·cases h
theorem AU6 {P:Program}{w:World}:∀{es:List DictEntry} {l:List (Int×V)},Ag7 es=some l->
  (∀e∈es,∃k,(C5 P w).is k e.key=true/\e.hash=(C5 P w).hash k)/\∃vs:List (Key×Value),KV (l.map fun p=>(Sum.inl p.1,p.2)) vs/\Pairs (C5 P w) es vs
 |[],l,h=>by
  cases h
  exact⟨(fun _ q=>nomatch q),[],.nil,.nil⟩
 |e::r,l,h=>by
  unfold Ag7 at h
  split at h
  ·rename_i x l' h1 h2
   cases h
   obtain⟨a1,a2,a3⟩:=BD0 (P:=P) (w:=w) h1
   obtain⟨b1,vs,b2,b3⟩:=AU6 (P:=P) (w:=w) h2
   refine⟨fun e' he=>?_,(Sum.inl x.1,e.val)::vs,.cons ⟨rfl,a3⟩ b2,.cons a1 rfl b3⟩
   rcases List.mem_cons.mp he with rfl |he
   ·exact⟨_,a1,a2⟩
   ·exact b1 e' he
  ·cases h
theorem A62 {P:Program}{w:World}{K:PySem.W.Frag}{a:Addr}{l:List (Int×V)}(h:A80 K a=some l)(nd:((l.map fun p=>((Sum.inl p.1,p.2):Key×V)).map (·.1)).Nodup)(ha:(a==sysModules)=false):AD1 P w K a (l.map fun p=>(Sum.inl p.1,p.2)):=by
 refine⟨ha,fun hp KX=>?_⟩
 unfold A80 at h
 split at h
 ·rename_i o ho
  cases ed:Y8 o with
  |none=>rw[ed]at h;cases h
  |some es=>
   rw[ed]at h
   obtain⟨x1,ar,ep,x2,x3⟩:=AB7 ed
   obtain⟨y1,vs,y2,y3⟩:=AU6 (P:=P) (w:=w) (show Ag7 es=some l from h)
   refine⟨vs,y2,o,ar,ep,KX a o ho,x1,x2,fun e he=>y1 e (by rw[←x3];simpa using he),by rw[x3];exact y3,?_⟩
   rw[←y2.keys]
   exact nd
 ·cases h
noncomputable def BU1 (K:PySem.W.Frag)(b:Addr):Option (List Int):=match K.lookup b with
 |some ⟨.type n,_,.seq its _,_⟩=>if n="tuple" then its.toList.mapM fun u=>(match u with |.int k _=>some k |_=>none)else none
 |_=>none
theorem AJ6 {P:Program}{w:World}:∀{us:List Value} {ks:List Int},(us.mapM fun u=>(match u with |.int k _=>some k |_=>none:Option Int))=some ks->ItemsAre (C5 P w) (ks.map Sum.inl) us
 |[],ks,h=>by
  cases h
  exact .nil
 |u::r,ks,h=>by
  rw[List.mapM_cons]at h
  cases u with
  |int k t=>
   cases e:(r.mapM fun u=>(match u with |.int k _=>some k |_=>none:Option Int))with
   |none=>rw[e]at h;cases h
   |some l=>
    rw[e]at h
    cases h
    exact .cons (W6 P w k t) (AJ6 e)
  |_=>cases h
theorem A60 {P:Program}{w:World}{K:PySem.W.Frag}{h:Heap}{b:Addr}{ks:List Int}(KX:K.In h)(e:BU1 K b=some ks):(tupleKind (C5 P w)).is h (ks.map Sum.inl) b:=by
 unfold BU1 at e
 split at e
 ·rename_i n dd its m sl ho
  split at e
  ·rename_i c
   subst c
   exact⟨_,its,m,KX b _ ho,rfl,rfl,AJ6 e⟩
  ·cases e
 ·cases e
noncomputable def BZ8 (P:Program)(w:World)(K:PySem.W.Frag)(e:DictEntry):Option (List Int×Addr×Value×V):=match e with
 |⟨hs,.ref b,val⟩=>match BU1 K b,A35 val with
  |some ks,some v=>if hs=tupleKeyHash (C5 P w) (ks.map Sum.inl)then some (ks,b,val,v)else none
  |_,_=>none
 |_=>none
noncomputable def AH5 (P:Program)(w:World)(K:PySem.W.Frag):List DictEntry->Option (List (List Int×Addr×Value×V))
 |[]=>some []
 |e::r=>match BZ8 P w K e,AH5 P w K r with
  |some x,some l=>some (x::l)
  |_,_=>none
noncomputable def A75 (P:Program)(w:World)(K:PySem.W.Frag)(a:Addr):Option (List (List Int×V)):=match K.lookup a with
 |some o=>((Y8 o).bind (AH5 P w K)).map fun l=>l.map fun x=>(x.1,x.2.2.2)
 |none=>none
noncomputable def Ah2 (P:Program)(w:World)(K:PySem.W.Frag)(a:Addr)(kvs:List (List Key×V)):Prop:=(a==sysModules)=false/\∀h:Heap,K.In h->∃xs:List (List Key×Addr×Value),
 Paired (fun(p:List Key×V) (q:List Key×Addr×Value)=>p.1=q.1/\RelV p.2 q.2.2) kvs xs/\h.DictOfH (tupleKind (C5 P w)) a xs
theorem AS2 {P:Program}{w:World}{K:PySem.W.Frag}{h:Heap}(KX:K.In h):∀{es:List DictEntry} {l:List (List Int×Addr×Value×V)},AH5 P w K es=some l->
  es=(l.map fun x=>((x.1.map Sum.inl,x.2.1,x.2.2.1):List Key×Addr×Value)).map (entryOfKey (tupleKind (C5 P w)))/\∀x∈l,(tupleKind (C5 P w)).is h (x.1.map Sum.inl) x.2.1/\RelV x.2.2.2 x.2.2.1
 |[],l,e=>by
  cases e
  exact⟨rfl,(fun _ q=>nomatch q)⟩
 |en::r,l,e=>by
  unfold AH5 at e
  split at e
  ·rename_i x l' h1 h2
   cases e
   obtain⟨b1,b2⟩:=AS2 KX h2
   obtain⟨hs,key,val⟩:=en
   unfold BZ8 at h1
   split at h1
   ·rename_i hs' b val' q
    cases q
    split at h1
    ·rename_i ks v k1 k2
     split at h1
     ·rename_i c
      cases h1
      refine⟨?_,fun x hx=>?_⟩
      ·rw[List.map_cons,List.map_cons,←b1]
       show _=DictEntry.mk _ _ _::r
       rw[c]
       rfl
      ·rcases List.mem_cons.mp hx with rfl |hx
       ·exact⟨A60 KX k1,AR3 k2⟩
       ·exact b2 x hx
     ·cases h1
    ·cases h1
   ·cases h1
  ·cases e
theorem O6 {α β γ:Type}{F:β->γ->Prop}{f:α->β}{g:α->γ}:∀{l:List α},(∀x∈l,F (f x) (g x))->Paired F (l.map f) (l.map g)
 |[],_=>.nil
 |x::r,h=>.cons (h x List.mem_cons_self) (O6 fun y hy=>h y (List.mem_cons_of_mem _ hy))
theorem A55 {P:Program}{w:World}{K:PySem.W.Frag}{a:Addr}{l:List (List Int×V)}(h:A75 P w K a=some l)(nd:(l.map fun p=>(p.1.map Sum.inl:List Key)).Nodup)(ha:(a==sysModules)=false):Ah2 P w K a (l.map fun p=>(p.1.map Sum.inl,p.2)):=by
 refine⟨ha,fun hp KX=>?_⟩
 unfold A75 at h
 split at h
 ·rename_i o ho
  cases ed:Y8 o with
  |none=>rw[ed]at h;cases h
  |some es=>
   rw[ed]at h
   cases et:AH5 P w K es with
   |none=>
    rw[show(some es).bind (AH5 P w K)=AH5 P w K es from rfl,et]at h
    cases h
   |some m=>
    rw[show(some es).bind (AH5 P w K)=AH5 P w K es from rfl,et]at h
    have e:m.map (fun x=>(x.1,x.2.2.2))=l:=Option.some.inj h
    subst e
    obtain⟨x1,ar,ep,x2,x3⟩:=AB7 ed
    obtain⟨y1,y2⟩:=AS2 (P:=P) (w:=w) KX et
    refine⟨m.map fun x=>(x.1.map Sum.inl,x.2.1,x.2.2.1),?_,o,ar,ep,KX a o ho,x1,x2,by rw[x3];exact y1,fun x hx=>?_,?_⟩
    ·rw[List.map_map]
     exact O6 fun x hx=>⟨rfl,(y2 x hx).2⟩
    ·obtain⟨z,hz,rfl⟩:=List.mem_map.mp hx
     exact(y2 z hz).1
    ·rw[List.map_map]at nd ⊢
     exact nd
 ·cases h
noncomputable def BP6 (X:Cx)(H:Hp)(a:Addr)(y:V)(r:Option V):Prop:=
 (∃kvs k,AD1 X.prog X.w X.K a kvs/\y=kV k/\r=O9 kvs k)∨∃kvs k b,Ah2 X.prog X.w X.K a kvs/\y=.ref b/\H b=some (.tup (k.map kV))/\r=O9 kvs k
theorem r6 {kvs:List (List Key×V)}{xs:List (List Key×Addr×Value)}(r:Paired (fun(p:List Key×V) (q:List Key×Addr×Value)=>p.1=q.1/\RelV p.2 q.2.2) kvs xs)(k:List Key):RelO (O9 kvs k) ((atKey xs k).map (·.2)):=by
 induction r with
 |nil=>exact True.intro
 | @cons p q ps qs hq t ih=>
  obtain⟨e,hr⟩:=hq
  unfold O9 atKey at ih ⊢
  simp only[List.find?_cons]
  by_cases c:p.1=k
  ·have c':q.1=k:=e▸c
   simp only[decide_eq_true c,decide_eq_true c']
   exact hr
  ·have c':¬q.1=k:=fun z=>c (e▸z)
   simp only[decide_eq_false c,decide_eq_false c']
   exact ih
section
variable {X:Cx} {pins:List (Addr×Obj)} {σ:St} {H:Hp} {s:Shared} {a:Addr} {y v:V} {u r:Value} {o:Option V} {A:Around} {E:Value->Shared->Prop}
theorem An8 {Q:Value->Shared->Prop}(hu:A.units+1<cLine)(I:Inv X pins σ H s)(g:BP6 X H a y (some v))(ry:RelV y u)(h:∀w' s',Inv X pins σ H s'->RelV v w'->Q w' s'):
  wpAny (model X.prog X.w) A (getItem (.ref a) u) Q E s:=by
 rcases g with ⟨kvs,k,e,ey,l⟩ |⟨kvs,k,b,e,ey,eb,l⟩
 ·subst ey
  obtain⟨vs,rel,dd⟩:=e.2 _ fun b o hb=>I.kIn b o hb
  obtain⟨w',hw,rw'⟩:=RelO.some_of (v:=v) (o:=valueAt vs k) (by rw[l];exact rel.val k)
  exact wpAny_getItem_of (AR0 ry) dd.mapOf hw (h w' _ (I.tok _) rw')
 ·subst ey
  cases(show u=Value.ref b from ry)
  obtain⟨xs,rel,dd⟩:=e.2 _ fun b o hb=>I.kIn b o hb
  obtain⟨w',hw,rw'⟩:=RelO.some_of (v:=v) (o:=(atKey xs k).map (·.2)) (by rw[l];exact r6 rel k)
  obtain⟨p,hp,hp2⟩:=Option.map_eq_some_iff.mp hw
  refine wpAny_getItem_heap (tupleKind_room_in1 hu) (z8 I.hok eb) dd hp ?_
  rw[hp2]
  exact h w' _ (I.tok _) rw'
theorem Bc1 {Q:Value->Shared->Prop}(hu:A.units+1<cLine)(I:Inv X pins σ H s)(g:BP6 X H a y o)(ry:RelV y u)(h:∀s',Inv X pins σ H s'->Q (.bool o.isSome) s'):
  wpAny (model X.prog X.w) A (compareOp .In u (.ref a)) Q E s:=by
 rcases g with ⟨kvs,k,e,ey,l⟩ |⟨kvs,k,b,e,ey,eb,l⟩
 ·subst ey
  obtain⟨vs,rel,dd⟩:=e.2 _ fun b o hb=>I.kIn b o hb
  refine wpAny_in_of (AR0 ry) e.1 dd.mapOf ?_
  rw[←(rel.val k).isSome_eq,←l]
  exact h _ (I.tok _)
 ·subst ey
  cases(show u=Value.ref b from ry)
  obtain⟨xs,rel,dd⟩:=e.2 _ fun b o hb=>I.kIn b o hb
  refine wpAny_in_heap (tupleKind_room_in1 hu) (z8 I.hok eb) e.1 dd ?_
  have q:=(r6 rel k).isSome_eq
  rw[Option.isSome_map]at q
  rw[←q,←l]
  exact h _ (I.tok _)
theorem AP3 (I:Inv X pins σ H s)(g:BP6 X H a y o):s.TypeIs (.ref a) "dict":=by
 rcases g with ⟨kvs,k,e,_,_⟩ |⟨kvs,k,b,e,_,_,_⟩
 ·obtain⟨vs,_,dd⟩:=e.2 _ fun b o hb=>I.kIn b o hb
  exact dd.typeIs
 ·obtain⟨xs,_,dd⟩:=e.2 _ fun b o hb=>I.kIn b o hb
  exact dd.typeIs
end
noncomputable def BU9 (X:Cx)(td ty:TE):TE:=fun σ H Q=>td σ H fun x H1=>ty σ H1 fun y H2=>∃a v,x=.ref a/\BP6 X H2 a y (some v)/\Q v H2
noncomputable def Bd4 (X:Cx)(ty td:TE):TE:=fun σ H Q=>ty σ H fun y H1=>td σ H1 fun x H2=>∃a o,x=.ref a/\BP6 X H2 a y o/\Q (.bl o.isSome) H2
section
variable {X:Cx} {o i:Expr} {pos:Pos} {td ty:TE}
theorem p7 (hu:X.A.units+1<cLine)(ho:PE X o td)(hi:PE X i ty)(hs:BV5 i):PE X (.Subscript o i pos) (BU9 X td ty):=by
 intro pins s σ H Q I h
 refine An2 PySem.F.slot_dict_getitem.lookup hs (thn (ho pins s σ H _ I h) fun u s1 ⟨x,H1,I1,rx,q1⟩=>thn (hi pins s1 σ H1 _ I1 q1) fun iv s2 ⟨y,H2,I2,ry,a,v,ex,g,q2⟩=>?_)
 subst ex
 obtain rfl:u=Value.ref a:=rx
 exact⟨AP3 I2 g,An8 hu I2 g ry fun w' s3 I3 rw'=>⟨v,H2,I3,rw',q2⟩⟩
theorem Ad4 (hu:X.A.units+1<cLine)(hi:PE X i ty)(ho:PE X o td):PC X .In i o (Bd4 X ty td):=by
 intro pins s σ H Q I h
 refine thn (hi pins s σ H _ I h) fun iv s1 ⟨y,H1,I1,ry,q1⟩=>thn (ho pins s1 σ H1 _ I1 q1) fun u s2 ⟨x,H2,I2,rx,a,ov,ex,g,q2⟩=>?_
 subst ex
 obtain rfl:u=Value.ref a:=rx
 exact Bc1 hu I2 g ry fun s3 I3=>⟨.bl ov.isSome,H2,I3,rfl,q2⟩
end
theorem p9 {M:Model}{A:Around}{E:Value->Shared->Prop}{s:Shared}{β:Type}(f:Nat->β->Sem (ForInStep β))(I:List Nat->β->Shared->Prop)(Q:β->Shared->Prop)
  (turn:∀x rest b s,I (x::rest) b s->wpAny M A (f x b) (fun r s'=>match r with |.yield b'=>I rest b' s' |.done b'=>Q b' s') E s)
  (fin:∀b s,I [] b s->Q b s) (r:Std.Legacy.Range) (b:β) (h:I (List.range' r.start r.size r.step) b s):wpAny M A (forIn r b f) Q E s:=by
 rw[Std.Legacy.Range.forIn_eq_forIn_range']
 exact wpAny_forIn_list f I Q turn fin _ b h
theorem AE4 (l:Addr)(items:Array Value)(n:Nat)(dd:Option Addr)(sl:Array (Option Value))(x:Value)(e:Value->Bool)(j:Nat)(hj:j<items.size)
  (hej:e items[j]=true) (hno:∀(m:Nat) (hm:m<items.size),m<j->e items[m]=false):
  Meets (Builtin.«tuple.index» ⟨[.ref l,x],[]⟩)
   (fun A R s=>s.heap.get? l=some {cls:=.type "tuple",dict:=dd,data:=.seq items n,slots:=sl}/\(∀y,y∈items->SeqAt.EqAt A.in1 s y x (e y))/\R (.ok (.ret (.int (j:Nat) s.toks))) {s with toks:=s.toks+1}):=
 .of_wp fun prog w A R s h=>by
  obtain⟨hp,g,d,tk,os⟩:=s;obtain⟨hl,he,h⟩:=h
  wp_walk using wpAny_loadPart' hl,p9 _ (fun rest b s'=>b.1=none/\s'=⟨hp,g,d,tk,os⟩/\∃i,i<=j/\rest=List.range' i (items.size-i) 1) _
  case turn=>
   rintro m rest b s' ⟨hb,rfl,i,hij,hr⟩
   have e0:items.size-i=(items.size-(i+1))+1:=by omega
   rw[e0,List.range'_succ]at hr
   obtain⟨rfl,rfl⟩:=List.cons.inj hr
   have hm:m<items.size:=by omega
   have hget:items[m]?=some items[m]:=Array.getElem?_eq_getElem hm
   simp only[hget]
   refine wpAny_bind (he items[m] (Array.getElem_mem hm) prog w _ _ ?_)
   by_cases c:m=j
   ·subst c
    rw[hej]
    wp_walk
    exact⟨_,rfl,h⟩
   ·have hlt:m<j:=by omega
    rw[hno m hm hlt]
    wp_walk
    exact⟨rfl,rfl,m+1,by omega,rfl⟩
  case fin=>
   rintro ⟨b1,b2⟩ s' ⟨hb,rfl,i,hij,hr⟩
   have e0:items.size-i=(items.size-(i+1))+1:=by omega
   rw[e0,List.range'_succ]at hr
   cases hr
  case h=>
   refine⟨rfl,rfl,0,Nat.zero_le _,?_⟩
   simp[Std.Legacy.Range.size]
noncomputable def A73 (K:PySem.W.Frag):V->List V->Hp->VK->Prop:=fun x xs H Q=>∃(a:Addr) (ys:List V) (y:V) (j:Nat) (z:V),x=V.ref a/\xs=[y]/\SqT K H a ys/\T0 y=true/\ys.all T0=true/\ys[j]?=some z/\eqV z y=true/\
 (∀(m:Nat) (z':V),m<j->ys[m]?=some z'->eqV z' y=false)/\Q (.int (j:Nat)) H
theorem Ah3 {X:Cx}:MtR X "tuple.index" (A73 X.K):=by
 intro pins s σ H x xs v us Q I rx rxs h
 obtain⟨a,ys,y,j,z,rfl,rfl,hs,fy,fys,hz,hzj,hno,q⟩:=h
 cases rx
 cases rxs with
 |cons ry rt=>
  rename_i uy ut
  cases rt
  obtain⟨its,rv,⟨⟨cls,dd,data,sl⟩,ho,hc,n,hd⟩,hlen⟩:=I.tuple hs
  simp only at hc hd
  subst hc hd
  obtain⟨u,hu,ru⟩:=rv.get hz
  obtain⟨hjl,hje⟩:=List.getElem?_eq_some_iff.mp hu
  have hvl:=rv.length
  have hj:j<its.toArray.size:=by simpa using hjl
  refine call_meets PySem.F.slot_tuple_index ⟨_,ho,rfl⟩ PySem.F.entry_tuple_index (PySem.F.args_tuple_index_2 _ _)
   (AE4 a its.toArray n dd sl uy (eqU y) j hj ?_ ?_) ⟨ho,fun u' hu'=>U6 ry fy rv fys u' (by simpa using hu'),?_⟩
  ·have e1:its.toArray[j]=u:=by simpa using hje
   rw[e1,AU8 ru (Af5 fys hz)]
   exact hzj
  ·intro m hm hmj
   have hml:m<its.length:=by simpa using hm
   have hmy:m<ys.length:=by omega
   have hy':ys[m]?=some ys[m]:=List.getElem?_eq_getElem hmy
   obtain⟨u2,hu2,ru2⟩:=rv.get hy'
   obtain⟨_,hme⟩:=List.getElem?_eq_some_iff.mp hu2
   have e1:its.toArray[m]=u2:=by simpa using hme
   rw[e1,AU8 ru2 (Af5 fys hy')]
   exact hno m _ hmj hy'
  ·exact⟨.int (j:Nat),H,I.tok _,⟨_,rfl⟩,q⟩
end L2
namespace L2
open PySem PySem.Spec PyProof.Rows
noncomputable def BX7 (e:DictEntry):Option (Str×V):=match e with
 |⟨_,.str x _,val⟩=>(A35 val).map fun v=>(x,v)
 |_=>none
noncomputable def AF8:List DictEntry->Option (List (Str×V))
 |[]=>some []
 |e::r=>match BX7 e,AF8 r with
  |some x,some l=>some (x::l)
  |_,_=>none
theorem AD2 {P:Program}{w:World}:∀{es:List DictEntry} {l:List (Str×V)},PySem.W.KeysLit w.params es->AF8 es=some l->
  (∀e∈es,∃k,(C5 P w).is k e.key=true/\e.hash=(C5 P w).hash k)/\∃vs:List (Key×Value),KV (l.map fun p=>(Sum.inr p.1,p.2)) vs/\Pairs (C5 P w) es vs
 |[],l,_,h=>by
  cases h
  exact⟨(fun _ q=>nomatch q),[],.nil,.nil⟩
 |e::r,l,hk,h=>by
  obtain⟨⟨x,t,k1,k2⟩,hk'⟩:=hk
  unfold AF8 at h
  split at h
  ·rename_i y l' h1 h2
   cases h
   obtain⟨b1,vs,b2,b3⟩:=AD2 (P:=P) (w:=w) hk' h2
   obtain⟨hs,key,val⟩:=e
   simp only at k1 k2
   subst k1
   have h1:(A35 val).map (fun v=>(x,v))=some y:=h1
   cases ea:A35 val with
   |none=>rw[ea]at h1;cases h1
   |some v=>
    rw[ea]at h1
    cases h1
    refine⟨fun e' he=>?_,(Sum.inr x,val)::vs,.cons ⟨rfl,AR3 ea⟩ b2,.cons (V2 P w x t) rfl b3⟩
    rcases List.mem_cons.mp he with rfl |he
    ·exact⟨Sum.inr x,V2 P w x t,k2⟩
    ·exact b1 e' he
  ·cases h
theorem Ao0 {P:Program}{w:World}{K:PySem.W.Frag}{a:Addr}{es:Array DictEntry}{n:Nat}{l:List (Str×V)}(hl:K.lookup a=some ⟨.type "dict",none,.dict es n,#[]⟩)(hk:PySem.W.KeysLit w.params es.toList)(h:AF8 es.toList=some l)
  (nd:((l.map fun p=>((Sum.inr p.1,p.2):Key×V)).map (·.1)).Nodup) (ha:(a==sysModules)=false):AD1 P w K a (l.map fun p=>(Sum.inr p.1,p.2)):=by
 refine⟨ha,fun hp KX=>?_⟩
 obtain⟨y1,vs,y2,y3⟩:=AD2 (P:=P) (w:=w) hk h
 refine⟨vs,y2,_,es,n,KX a _ hl,⟨rfl,rfl,rfl⟩,rfl,fun e he=>y1 e (by simpa using he),y3,?_⟩
 rw[←y2.keys]
 exact nd
end L2
namespace L2
open PySem PySem.Spec PyProof.Rows
structure MDk (P:Program)(w:World)(K:PySem.W.Frag)(d:Addr)(kvs:List (Key×V)):Prop where
 sys:(d==sysModules)=false
 ex:∃(o:Obj) (es:Array DictEntry) (ep:Nat) (vs:List (Key×Value)),K.lookup d=some o/\o.ExactDict/\o.data=.dict es ep/\KV kvs vs/\KeysOf (C5 P w) es/\Pairs (C5 P w) es.toList vs/\(vs.map (·.1)).Nodup
theorem BY1 {P:Program}{w:World}{K:PySem.W.Frag}{a:Addr}{es:Array DictEntry}{n:Nat}{l:List (Str×V)}(hl:K.lookup a=some ⟨.type "dict",none,.dict es n,#[]⟩)(hk:PySem.W.KeysLit w.params es.toList)(h:AF8 es.toList=some l)
  (nd:((l.map fun p=>((Sum.inr p.1,p.2):Key×V)).map (·.1)).Nodup) (ha:(a==sysModules)=false):MDk P w K a (l.map fun p=>(Sum.inr p.1,p.2)):=by
 obtain⟨y1,vs,y2,y3⟩:=AD2 (P:=P) (w:=w) hk h
 refine⟨ha,_,es,n,vs,hl,⟨rfl,rfl,rfl⟩,rfl,y2,fun e he=>y1 e (by simpa using he),y3,?_⟩
 rw[←y2.keys]
 exact nd
theorem MDk.mdict {P:Program}{w:World}{K:PySem.W.Frag}{d:Addr}{kvs:List (Key×V)}(m:MDk P w K d kvs):AD1 P w K d kvs:=by
 obtain⟨o,es,ep,vs,h1,h2,h3,h4,h5,h6,h7⟩:=m.ex
 exact⟨m.sys,fun h KX=>⟨vs,h4,o,es,ep,KX d o h1,h2,h3,h5,h6,h7⟩⟩
noncomputable def BQ6 (kvs:List (Key×V)):It:=⟨fun i _=>i<kvs.length,fun i H x H'=>H'=H/\∃k v,kvs[i]?=some (k,v)/\x=kV k,fun i _=>kvs.length<=i⟩
section
variable {P:Program} {w:World} {K:PySem.W.Frag} {tg:Expr} {d:Addr} {o:Obj} {es:Array DictEntry} {ep:Nat}
theorem AY0 {kvs:List (Key×V)}{vs:List (Key×Value)}(it:Addr)(hl:K.lookup d=some o)(hx:o.ExactDict)(hod:o.data=.dict es ep)(kv:KV kvs vs)(hko:KeysOf (C5 P w) es)(hp:Pairs (C5 P w) es.toList vs)(hnd:(vs.map (·.1)).Nodup):
  BG9 P w K tg (BQ6 kvs) [it] it (fun i h=>h.IsKeyIter it d i kvs.length ep) where
 mem:=by simp
 obj:=fun i h st b hb=>by
  have e:b=it:=by simpa using hb
  subst e
  obtain⟨oi,e,c,dd⟩:=st
  exact⟨oi,e,fun v z=>by rw[dd]at z;cases z⟩
 keep:=fun i h h' st k=>st.at fun oi e=>k it (by simp) oi e
 item:=by
  intro X hP hw hK hc i pins s σ H E I hf st hi
  subst hP hw hK
  obtain⟨f0,f1,f2,f3,f4,f5⟩:=hf it (by simp)
  have hi:i<kvs.length:=hi
  have hm:s.heap.DictAt (C5 X.prog X.w) d vs ep:=⟨o,es,I.kIn d o hl,hx,hod,hko,hp,hnd⟩
  obtain⟨⟨k,v⟩,hkv⟩:∃p,kvs[i]?=some p:=⟨kvs[i],List.getElem?_eq_getElem hi⟩
  obtain⟨u,hu,ru⟩:=BK9 kv hkv
  have hlen:kvs.length=vs.length:=Paired.length kv
  rw[hlen]at st
  refine wpAny_pyNext_dict_item st hm hu fun key h' hkey st' sb=>?_
  have I1:Inv X pins σ H {s with heap:=h'}:=I.turned (t':=s.toks) (fun b ob hb e=>(sb.2 b hb).trans e) f0 f1 f3 f4 f5
  obtain⟨oi,e,c,dd⟩:=id st'
  refine⟨key,rfl,Ax6 (s:={s with heap:=h'}) e c dd (by decide) ⟨kV k,H,I1,Aw8 (show AJ7 k key=true from hkey),⟨rfl,k,v,hkv,rfl⟩,?_,fun b hb=>(hf b hb).1⟩⟩
  show h'.IsKeyIter it d (i+1) kvs.length _
  rw[hlen]
  exact st'
 done:=by
  intro X hP hw hK hc i pins s σ H E I hf st hi
  subst hP hw hK
  have hi:kvs.length<=i:=hi
  obtain⟨f0,f1,f2,f3,f4,f5⟩:=hf it (by simp)
  have hsz:es.size=kvs.length:=by
   have l1:=hp.length
   have l2:kvs.length=vs.length:=Paired.length kv
   rw[Array.length_toList]at l1
   omega
  exact AK7 (I.ok.hd hc) st (I.kIn d o hl) hod hsz hi fun h' eb=>⟨rfl,I.turned (t':=s.toks) (fun b ob hb e=>eb b ob hb e) f0 f1 f3 f4 f5⟩
 self:=fun A i s Q E st h=>wpAny_pyIter_keyiter st h
end
noncomputable def Au7 (X:Cx)(td:TE):TI:=fun σ H R=>td σ H fun x H1=>∃d kvs,x=.ref d/\MDk X.prog X.w X.K d kvs/\R (BQ6 kvs) H1
theorem AY8 {X:Cx}{tg e:Expr}{td:TE}(he:PE X e td):PI X tg e (Au7 X td):=by
 intro pins s σ H R I h
 refine thn (he pins s σ H _ I h) fun u s1 ⟨x,H1,I1,rx,d,kvs,ex,m,q⟩=>?_
 subst ex
 obtain rfl:u=Value.ref d:=rx
 obtain⟨o,es,ep,vs,hl,hx,hod,kv,hko,hp,hnd⟩:=m.ex
 have hsz:es.size=kvs.length:=by
  have l1:=hp.length
  have l2:kvs.length=vs.length:=Paired.length kv
  rw[Array.length_toList]at l1
  omega
 refine Ap3 m.sys (I1.kIn d o hl) hx hod (A17 (tk:=s1.toks) I1 _ (AY0 _ hl hx hod kv hko hp hnd) ⟨_,Heap.get?_push_size _ rfl,rfl,?_⟩ q)
 rw[hsz]<;>rfl
theorem Al1 {kvs:List (Key×V)}{g:TG}{tb:TS}{D:Ends}{σ:L2.St}{H:Hp}(Pv:Nat->L2.St->Hp->Prop)(h0:Pv 0 σ H)
  (hs:∀i k v σ H,kvs[i]?=some (k,v)->Pv i σ H->g (kV k) σ H fun σ2 H2=>tb {D with nx:=Pv (i+1),ct:=Pv (i+1),bk:=D.nx} σ2 H2) (hd:∀σ H,Pv kvs.length σ H->D.nx σ H):
  ∃W:Nat->Nat->L2.St->Hp->Prop,(∃m,W 0 m σ H)/\∀i m σ H,W i m σ H->
   ((BQ6 kvs).stop i H/\D.nx σ H)∨((BQ6 kvs).go i H/\∃N:L2.St->Hp->Prop,(∀σ' H',N σ' H'->∃m',m'<m/\W (i+1) m' σ' H')/\∀x H',(BQ6 kvs).yld i H x H'->g x σ H' fun σ2 H2=>tb {D with nx:=N,ct:=N,bk:=D.nx} σ2 H2):=by
 refine⟨fun i m σ H=>m=kvs.length-i/\i<=kvs.length/\Pv i σ H,⟨kvs.length,by simp,Nat.zero_le _,h0⟩,?_⟩
 rintro i m σ H ⟨rfl,hi,p⟩
 by_cases hlt:i<kvs.length
 ·refine .inr ⟨hlt,Pv (i+1),fun σ' H' p'=>⟨kvs.length-(i+1),by omega,rfl,hlt,p'⟩,fun x H' y=>?_⟩
  obtain⟨e,k,v,hk,rfl⟩:=y
  subst e
  exact hs i k v σ _ hk p
 ·have e:i=kvs.length:=by omega
  subst e
  exact .inl ⟨Nat.le_refl _,hd σ H p⟩
end L2
namespace L2
open PySem PySem.Spec PyProof.Rows
theorem AV7:Manifest.owners.lookup (String.ofList ['d','e','s','r','e','v','e','r'].reverse)=some Manifest.sig_reversed:=by kernel_rfl
theorem L9:Slot "reversed" "__next__" "reversed.__next__":=
 .of (owner:="reversed") (n:="__next__") (by rw[typeLookup_type,builtinLookup_eq_fast];kernel_rfl) (by decide+kernel) (by decide+kernel) (by decide+kernel)
  (by first |exact .inl (by decide+kernel) |exact .inr (by decide+kernel)) (by rw[isSubtype_type];kernel_rfl)
theorem Y4:entryFor table "reversed.__next__"=some Builtin.«reversed.__next__»:=entryFor_of_tree (by kernel_rfl)
theorem b6 (a:Value):argsOk "reversed.__next__" ⟨[a],[]⟩:=by
 unfold argsOk;rw[signature?_of (id:="reversed.__next__") (n:=['_','_','t','x','e','n','_','_']) (o:=['d','e','s','r','e','v','e','r']) (by kernel_rfl) AV7];kernel_rfl
theorem b8:Slot "reversed" "__iter__" "reversed.__iter__":=
 .of (owner:="reversed") (n:="__iter__") (by rw[typeLookup_type,builtinLookup_eq_fast];kernel_rfl) (by decide+kernel) (by decide+kernel) (by decide+kernel)
  (by first |exact .inl (by decide+kernel) |exact .inr (by decide+kernel)) (by rw[isSubtype_type];kernel_rfl)
theorem AN3 (a:Value):argsOk "reversed.__iter__" ⟨[a],[]⟩:=by
 unfold argsOk;rw[signature?_of (id:="reversed.__iter__") (n:=['_','_','r','e','t','i','_','_']) (o:=['d','e','s','r','e','v','e','r']) (by kernel_rfl) AV7];kernel_rfl
theorem AD6:entryFor table "reversed.__iter__"=some Builtin.«dict_keyiterator.__iter__»:=
 entryFor_alias (id':="dict_keyiterator.__iter__") (by kernel_rfl) (by first |rfl |decide+kernel |(unfold String.splitOn;simp+decide [String.splitOnAux])) (by decide+kernel) (by kernel_rfl)
theorem AI2:Slot "reversed" "__init__" "object.__init__":=
 .of (owner:="object") (n:="__init__") (by rw[typeLookup_type,builtinLookup_eq_fast];kernel_rfl) (by decide+kernel) (by decide+kernel) (by decide+kernel)
  (by first |exact .inl (by decide+kernel) |exact .inr (by decide+kernel)) (by rw[isSubtype_type];kernel_rfl)
theorem Ao2:TypeCalled "reversed" "reversed.__new__" "object.__init__":=
 ⟨by decide+kernel,by decide+kernel,⟨_,_,F.mro_reversed⟩,madeBy_type F.mro_reversed F.lookup_reversed_new (by decide+kernel),by decide+kernel,by rw[isSubtype_type];kernel_rfl,AI2⟩
theorem BB5:typeLookup (.type "tuple") "__reversed__"=pure none:=by rw[typeLookup_type,builtinLookup_eq_fast];kernel_rfl
theorem AX7:isSubtype (.type "tuple") (.type "dict")=pure false:=by rw[isSubtype_type];kernel_rfl
noncomputable def A02 (t:Addr)(i:Int):Obj:={cls:=.type "reversed",data:=.fields #[.ref t,rawInt i]}
noncomputable def IsRevT (h:Heap)(a t:Addr)(i:Int):Prop:=∃o,h.get? a=some o/\o.cls=.type "reversed"/\o.data=.fields #[.ref t,rawInt i]
theorem IsRevT.at {h h':Heap}{a t:Addr}{i:Int}(x:IsRevT h a t i)(e:∀o,h.get? a=some o->h'.get? a=some o):IsRevT h' a t i:=let ⟨o,ho,r⟩:=x;⟨o,e _ ho,r⟩
theorem BN8 (t:Addr):Meets (Builtin.«reversed.__new__» ⟨[.type "reversed",.ref t],[]⟩) (fun _ R s=>∃items:Array Value,IsTup s.heap t items/\(items.size:Int)<2 ^ 63/\
   ∀tk,R (.ok (.ret (.ref s.heap.objs.size))) {s with heap:=s.heap.push (A02 t ((items.size:Int)-1)),toks:=tk}):=
 .of_wp fun prog w A R s h=>by
  obtain⟨items,ht,hfit,h⟩:=h
  unfold Builtin.«reversed.__new__»
  refine wpAny_bind (wpAny_of_eq (newClass_reversed _) ?_)
  try dsimp only
  refine wpAny_bind (wpAny_of_eq (a:=()) (by first |rfl |kernel_rfl) ?_)
  refine wpAny_bind (wpAny_of_eq (a:=()) (by first |rfl |kernel_rfl) ?_)
  try dsimp only
  refine wpAny_bind (wpAny_specialOf ht.typeIs BB5 ?_)
  try dsimp only
  refine wpAny_bind ?_
  refine(show wpAny (model prog w) A.in1 (isInstance (Value.ref t) (.type "dict")>>=fun b=>_) _ _ s from ?_)
  refine wpAny_bind (wpAny_isInstance ht.typeIs AX7 ?_)
  rw[if_neg (by decide)]
  refine wpAny_bind (wpAny_specialOf ht.typeIs slot_tuple_getitem.lookup ?_)
  show wpAny (model prog w) A.in1 (if(_:List String).contains "tuple.__getitem__"=true then pure true else _) _ _ s
  rw[if_pos (by decide+kernel)]
  refine wpAny_pure ?_
  rw[if_neg (by decide)]
  refine wpAny_bind (len_tuple ht hfit ?_)
  refine wpAny_bind (wpAny_of_eq (a:=some (items.size:Int)) (by first |rfl |kernel_rfl) ?_)
  dsimp only
  refine wpAny_bind (m:=newObj (.type "reversed") (.fields #[.ref t,rawInt ((items.size:Int)-1)])) (wpAny_newObj_type ?_ (by size_fits))
  exact wpAny_pure ⟨_,rfl,h _⟩
section
variable {prog:Program} {w:World} {A:Around} {E:Value->Shared->Prop} {s:Shared}
theorem Z1 {t:Addr}{items:Array Value}{Q:Value->Shared->Prop}(ht:IsTup s.heap t items)(hfit:(items.size:Int)<2 ^ 63)
  (h:∀tk,Q (.ref s.heap.objs.size) {s with heap:=s.heap.push (A02 t ((items.size:Int)-1)),toks:=tk}):wpAny (model prog w) A (call (.type "reversed") [.ref t]) Q E s:=
 callType_new Ao2 (by decide) (F.typeCall_reversed_1 _) (F.newCall_reversed_1 _) (fun obj=>F.args_object_init_2 obj _) F.entry_reversed_new (BN8 t) ⟨items,ht,hfit,fun tk=>⟨⟨_,Heap.get?_push_size _ rfl,rfl⟩,h tk⟩⟩
theorem IsRevT.typeIs {a t:Addr}{i:Int}(x:IsRevT s.heap a t i):s.TypeIs (.ref a) "reversed":=let ⟨o,ho,hc,_⟩:=x;⟨o,ho,hc⟩
theorem AU4 {it t:Addr}{i:Int}{Q:Value->Shared->Prop}(hit:IsRevT s.heap it t i)(h:Q (.ref it) s):wpAny (model prog w) A (pyIter (.ref it)) Q E s:=by
 refine wpAny_pyIter_slot hit.typeIs b8 (wpAny_call_entry b8 hit.typeIs AD6 ?_ (AN3 _))
 show wpAny _ _ (ret (.ref it)) _ _ s
 exact wpAny_pure ⟨_,rfl,"reversed",_,hit.typeIs,L9.lookup,h⟩
theorem As2 {it t:Addr}{i:Nat}{items:Array Value}{x:Value}{Q:Option Value->Shared->Prop}(hit:IsRevT s.heap it t (i:Int))(ht:IsTup s.heap t items)(hfit:(items.size:Int)<2 ^ 63)(hx:items[i]?=some x)
  (hQ:∀h' tk,IsRevT h' it t ((i:Int)-1)->Heap.SameBut it s.heap h'->Q (some x) {s with heap:=h',toks:=tk}):wpAny (model prog w) A (pyNext (.ref it)) Q E s:=by
 obtain⟨o,ho,hc,hd⟩:=id hit
 have hi:i<items.size:=(Array.getElem?_eq_some_iff.mp hx).1
 unfold pyNext
 refine wpAny_bind (wpAny_attempt (wpAny_callSpecial?_slot (name:=Str.ofString "__next__") hit.typeIs L9
  (wpAny_call_entry L9 hit.typeIs Y4 ?_ (b6 _))))
 unfold Builtin.«reversed.__next__»
 refine wpAny_bind (wpAny_of_eq (a:=(Value.ref it,[])) rfl ?_)
 try dsimp only
 refine wpAny_bind (wpAny_field ho hd (x:=.ref t) rfl ?_)
 refine wpAny_bind (wpAny_field ho hd (x:=rawInt (i:Int)) rfl ?_)
 show wpAny _ _ (if(i:Int)<0 then _ else _) _ _ s
 rw[if_neg (by omega)]
 refine wpAny_bind (wpAny_specialOf ht.typeIs slot_tuple_getitem.lookup ?_)
 rw[if_neg (show ¬(some (Value.builtin "tuple.__getitem__")).isNone=true by decide)]
 refine wpAny_bind (wpAny_mkInt ?_)
 refine wpAny_bind (wpAny_attempt (getItem_tuple (j:=i) (x:=x) ht (by omega) (by omega) (by rw[seqIndex_of (by omega) (by omega)];rfl) hx ?_))
 try dsimp only
 refine wpAny_bind (wpAny_field ho hd (x:=rawInt (i:Int)) rfl ?_)
 show wpAny _ _ (setField (.ref it) 1 (rawInt ((i:Int)-1))>>=_) _ _ _
 refine wpAny_bind (wpAny_setField ho hd (by simp) ?_)
 refine wpAny_pure ⟨x,rfl,wpAny_pure (hQ _ _ ?_ (Heap.SameBut.update ..))⟩
 exact⟨_,Heap.get?_update_self _ ho (Obj.isFreed_of_fields (Obj.data_mapFields hd _)),(Obj.cls_mapFields ..).trans hc,by
  rw[Obj.data_mapFields hd];simp⟩
theorem A99 {it t:Addr}{Q:Option Value->Shared->Prop}(hh:A.handled=none)(hit:IsRevT s.heap it t (-1))
  (hQ:∀h',Heap.ExtBut it s.heap h'->Q none {s with heap:=h'}):wpAny (model prog w) A (pyNext (.ref it)) Q E s:=by
 obtain⟨o,ho,hc,hd⟩:=id hit
 unfold pyNext
 refine wpAny_bind (wpAny_attempt (wpAny_callSpecial?_slot (name:=Str.ofString "__next__") hit.typeIs L9
  (wpAny_call_entry L9 hit.typeIs Y4 ?_ (b6 _))))
 unfold Builtin.«reversed.__next__»
 refine wpAny_bind (wpAny_of_eq (a:=(Value.ref it,[])) rfl ?_)
 try dsimp only
 refine wpAny_bind (wpAny_field ho hd (x:=.ref t) rfl ?_)
 refine wpAny_bind (wpAny_field ho hd (x:=rawInt (-1)) rfl ?_)
 show wpAny _ _ (if(-1:Int)<0 then _ else _) _ _ s
 rw[if_pos (by decide)]
 refine wpAny_bind (wpAny_rule ?_)
 refine wpAny_bind (show wpAny _ _ (setField (.ref it) 1 (rawInt (-1))>>=fun _=>setField (.ref it) 0 .none) _ _ s from ?_)
 refine wpAny_bind (wpAny_setField ho hd (by simp) ?_)
 refine wpAny_setField (Heap.get?_update_self _ ho (Obj.isFreed_of_fields (Obj.data_mapFields hd _))) (Obj.data_mapFields hd _) (by simp) ?_
 unfold Builtin.SmallTypes.stopIteration
 refine wpAny_bind ?_
 first
 |show wpAny _ _ (newExc (.type "StopIteration") []>>=_) _ _ _
 |(refine wpAny_bind ?_;show wpAny _ _ (newExc (.type "StopIteration") []>>=_) _ _ _)
 refine wpAny_bind ?_
 simp only[newExc,newTuple]
 refine wpAny_bind (wpAny_newObj_type ?_ (by size_fits))
 refine wpAny_bind (m:=firstArgMember _ _) (wpAny_of_eq (a:=Value.none) (by first |rfl |(simp only[firstArgMember];rfl)) ?_)
 refine wpAny_newObj_type ?_ (by size_fits)
 simp only[raiseNew]
 refine wpAny_bind (wpAny_handled ?_)
 first |rw[show A.in1.handled=none from hh] |rw[hh]
 refine wpAny_bind (wpAny_pure (wpAny_throw ?_))
 refine wpAny_bind (wpAny_isInstance (T:="StopIteration") (b:=true) ⟨_,Heap.get?_push_size _ rfl,rfl⟩ isSubtype_stop ?_)
 refine wpAny_pure (hQ _ fun b ob hb e=>?_)
 refine Heap.get?_push_of_some _ (Heap.get?_push_of_some _ ?_)
 exact((Heap.SameBut.update ..).2 b hb).trans (((Heap.SameBut.update ..).2 b hb).trans e)
end
noncomputable def BP7 (K:PySem.W.Frag)(a:Addr)(n:Nat):It:=
 ⟨fun i H=>i<n/\∃(xs:List V) (x:V),SqT K H a xs/\xs[n-1-i]?=some x,fun i H x H'=>H'=H/\∀xs,SqT K H a xs->xs[n-1-i]?=some x,fun i _=>n<=i⟩
theorem Ah6 {P:Program}{w:World}{K:PySem.W.Frag}{tg:Expr}(a it:Addr)(n:Nat):BG9 P w K tg (BP7 K a n) [it] it (fun i h=>i<=n/\IsRevT h it a ((n:Int)-1-(i:Nat))) where
 mem:=by simp
 obj:=fun i h st b hb=>by
  have e:b=it:=by simpa using hb
  subst e
  obtain⟨_,o,e,c,d⟩:=st
  exact⟨o,e,fun v z=>by rw[d]at z;cases z⟩
 keep:=fun i h h' st k=>⟨st.1,st.2.at fun o e=>k it (by simp) o e⟩
 item:=by
  intro X hP hw hK hc i pins s σ H E I hf st hg
  subst hP hw hK
  obtain⟨hin,xs,x,hq,hx⟩:=hg
  obtain⟨its,rv,p,hz⟩:=I.tuple hq
  obtain⟨u,hu,ru⟩:=rv.get hx
  obtain⟨f0,f1,f2,f3,f4,f5⟩:=hf it (by simp)
  obtain⟨_,hit⟩:=st
  have hl:=rv.length
  have sz:=sizeLine_eq
  have e1:(n:Int)-1-((i:Nat):Int)=((n-1-i:Nat):Int):=by omega
  rw[e1]at hit
  refine As2 hit p (by rw[List.size_toArray];omega) (x:=u) (by simpa using hu) fun h' tk st' sb=>?_
  have e2:((n-1-i:Nat):Int)-1=(n:Int)-1-((i+1:Nat):Int):=by omega
  rw[e2]at st'
  have I1:Inv X pins σ H {s with heap:=h',toks:=tk}:=I.turned (t':=tk) (fun b o hb e=>(sb.2 b hb).trans e) f0 f1 f3 f4 f5
  obtain⟨o,e,c,d⟩:=id st'
  exact⟨u,rfl,Ax6 (s:={s with heap:=h',toks:=tk}) e c d (by decide) ⟨x,H,I1,ru,⟨rfl,fun ys hy=>by rw[I.tuple_inj hy hq];exact hx⟩,⟨hin,st'⟩,fun b hb=>(hf b hb).1⟩⟩
 done:=by
  intro X hP hw hK hc i pins s σ H E I hf st hg
  subst hP hw hK
  obtain⟨f0,f1,f2,f3,f4,f5⟩:=hf it (by simp)
  obtain⟨hin,hit⟩:=st
  have hge:n<=i:=hg
  have e1:(n:Int)-1-((i:Nat):Int)= -1:=by omega
  rw[e1]at hit
  exact A99 (I.ok.hd hc) hit fun h' eb=>⟨rfl,I.turned (t':=s.toks) (fun b o hb e=>eb b o hb e) f0 f1 f3 f4 f5⟩
 self:=fun A i s Q E st h=>AU4 st.2 h
noncomputable def A86 (K:PySem.W.Frag)(ta:TA):TI:=fun σ H R=>ta σ H fun vs H1=>∃(a:Addr) (xs:List V),vs=[.ref a]/\SqT K H1 a xs/\R (BP7 K a xs.length) H1
section
variable {X:Cx} {tg:Expr}
theorem AO0 {e:Expr}{ta:TA}{p pos:Pos}(hg:Gl X "reversed")(hm:X.mg "reversed"=none)(ha:PA X [e] ta)(hs:starEach [e] X.env=[(false,eval e X.env)]:=by rfl):PI X tg (.Call (.Name "reversed" p) [e] [] pos) (A86 X.K ta):=by
 intro pins s σ H R I h
 refine Call_ (AM1 I hg hm y0 (PyProof.Rows.callWith_type1 (thn (ha pos pins s σ H _ I h) fun us s1 ⟨vs,H1,I1,r1,q1⟩=>?_) hs rfl))
 obtain⟨a,xs,e,hq,q⟩:=q1
 subst e
 cases r1 with
 |cons r rr=>
  cases rr
  cases r
  obtain⟨its,rv,p',hz⟩:=I1.tuple hq
  have hl:=rv.length
  have sz:=sizeLine_eq
  have e1:((its.toArray.size:Nat):Int)-1=(xs.length:Int)-1-((0:Nat):Int):=by simp only[List.size_toArray];omega
  refine Z1 p' (by rw[List.size_toArray];omega) fun tk=>AU4 (t:=a) (i:=((its.toArray.size:Nat):Int)-1) ⟨_,Heap.get?_push_size _ rfl,rfl,rfl⟩ ?_
  refine A17 (tk:=tk) I1 _ (Ah6 a _ xs.length) ⟨Nat.zero_le _,?_⟩ q
  rw[←e1]
  exact⟨_,Heap.get?_push_size _ rfl,rfl,rfl⟩
end
theorem Ay6 {K:PySem.W.Frag}{a:Addr}{xs:List V}{g:TG}{tb:TS}{D:Ends}{σ:L2.St}{H:Hp}(Pv:Nat->L2.St->Hp->Prop)(h0:Pv 0 σ H)(hl:∀i σ H,i<=xs.length->Pv i σ H->SqT K H a xs)
  (hs:∀i x σ H,i<xs.length->xs[xs.length-1-i]?=some x->Pv i σ H->g x σ H fun σ2 H2=>tb {D with nx:=Pv (i+1),ct:=Pv (i+1),bk:=D.nx} σ2 H2) (hd:∀σ H,Pv xs.length σ H->D.nx σ H):
  ∃W:Nat->Nat->L2.St->Hp->Prop,(∃m,W 0 m σ H)/\∀i m σ H,W i m σ H->
   ((BP7 K a xs.length).stop i H/\D.nx σ H)∨((BP7 K a xs.length).go i H/\∃N:L2.St->Hp->Prop,(∀σ' H',N σ' H'->∃m',m'<m/\W (i+1) m' σ' H')/\∀x H',(BP7 K a xs.length).yld i H x H'->g x σ H' fun σ2 H2=>tb {D with nx:=N,ct:=N,bk:=D.nx} σ2 H2):=by
 refine⟨fun i m σ H=>m=xs.length-i/\i<=xs.length/\Pv i σ H,⟨xs.length,by simp,Nat.zero_le _,h0⟩,?_⟩
 rintro i m σ H ⟨rfl,hi,p⟩
 by_cases hlt:i<xs.length
 ·have hx:xs[xs.length-1-i]?=some xs[xs.length-1-i]:=List.getElem?_eq_getElem (by omega)
  refine .inr ⟨⟨hlt,xs,_,hl i σ H hi p,hx⟩,Pv (i+1),fun σ' H' p'=>⟨xs.length-(i+1),by omega,rfl,hlt,p'⟩,fun x H' y=>?_⟩
  obtain⟨e,y⟩:=y
  subst e
  exact hs i x σ _ hlt (y xs (hl i σ _ hi p)) p
 ·have e:i=xs.length:=by omega
  subst e
  exact .inl ⟨Nat.le_refl _,hd σ H p⟩
end L2
namespace L2
open PySem PySem.Spec PyProof.Rows
theorem f8:bootBuiltins "isinstance"=some (.builtin "isinstance"):=by decide+kernel
theorem Ap6:bootBuiltins "str"=some (.type "str"):=by decide+kernel
noncomputable def BQ2 (K:PySem.W.Frag)(te:TE):TE:=fun σ H Q=>te σ H fun x H1=>(∃y,x=.str y/\Q (.bl true) H1)∨∃a xs,x=.ref a/\SqT K H1 a xs/\Q (.bl false) H1
section
variable {X:Cx}
theorem Ax1 {e:Expr}{te:TE}{p q pos:Pos}(he:PE X e te)(hg:Gl X "isinstance")(hm:X.mg "isinstance"=none)(hg2:Gl X "str")(hm2:X.mg "str"=none)(k:PySem.W.kitOne X.K (.type "tuple") (.type "str")=some false)
  (hs:starEach [e,.Name "str" q] X.env=[(false,eval e X.env),(false,eval (.Name "str" q) X.env)]:=by rfl):PE X (.Call (.Name "isinstance" p) [e,.Name "str" q] [] pos) (BQ2 X.K te):=by
 intro pins s σ H Q I h
 refine wpAny_Call_Name_kw (AM1 I hg hm f8 ?_)
 refine PyProof.Rows.callWith_builtin1 ?_ (by rw[hs];rfl) (by rfl)
 rw[hs]
 show wpAny _ _ (spliced ((false,eval e X.env)::backTo pos [(false,eval (.Name "str" q) X.env)])) _ _ s
 refine Calls.spliced_cons (thn (he pins s σ H _ I h) fun u s1 ⟨x,H1,I1,r1,q1⟩=>?_)
 show wpAny _ _ (spliced ((false,eval (.Name "str" q) X.env)::backTo pos [])) _ _ s1
 refine Calls.spliced_cons (AM1 I1 hg2 hm2 Ap6 ?_)
 refine Calls.spliced_nil ?_
 rcases q1 with ⟨y,rfl,q1⟩ |⟨a,xs,rfl,hq,q1⟩
 ·exact Aj5 I1 r1 (.str y) (by unfold PySem.W.kitOne;rw[if_pos (by decide+kernel)]) fun tk=>⟨.bl true,H1,I1.tok tk,rfl,q1⟩
 ·cases r1
  obtain⟨its,rv,pl,hz⟩:=I1.tuple hq
  obtain⟨o,h1,h2,_⟩:=pl
  exact PySem.W.kia_one PySem.W.kitx_tuple I1.kIn ⟨o,h1,h2⟩ k (fun z=>nomatch z) fun tk=>⟨.bl false,H1,I1.tok tk,rfl,q1⟩
end
end L2
namespace My
open Sw
theorem noteLen_pos (r:Bytes):1<=noteLen (47::r):=by
 unfold noteLen
 rw[List.takeWhile_cons,if_pos (by decide)]
 simp
theorem word_pos {c:UInt8}(r:Bytes)(h:isWordByte c=true):1<=((c::r).takeWhile isWordByte).length:=by
 rw[List.takeWhile_cons,if_pos h]
 simp
theorem Ak1:∀k,k<signs.length->1<=(signs.getD k []).length:=by decide
theorem signAt_pos {b:Bytes}{k n:Nat}(h:signAt b=some (k,n)):1<=n/\k<signs.length/\n=(signs.getD k []).length:=by
 unfold signAt at h
 split at h
 ·rename_i j hj
  injection h with h
  injection h with h1 h2
  subst h1
  have:j<signs.length:=by
   rw[List.findIdx?_eq_some_iff_getElem]at hj
   exact hj.1
  rw[←h2]
  exact⟨Ak1 j this,this,rfl⟩
 ·cases h
theorem Bc2:∀(n:Nat) (l:Bytes) (p f:Nat),l.length<=n->l.length+1<=f->tokensFrom f p l=tokensFrom (l.length+1) p l:=by
 intro n
 induction n with
 |zero=>
  intro l p f h1 h2
  have:l=[]:=List.length_eq_zero_iff.mp (by omega)
  subst this
  cases f with
  |zero=>omega
  |succ f=>rfl
 |succ n ih=>
  intro l p f h1 h2
  cases f with
  |zero=>omega
  |succ f=>
  cases l with
  |nil=>rfl
  |cons c r=>
   simp only[List.length_cons]at h1 h2
   have key:∀(q:Nat) (m:Bytes),m.length<=r.length->tokensFrom f q m=tokensFrom (r.length+1) q m:=by
    intro q m hm
    rw[ih m q f (by omega) (by omega),ih m q (r.length+1) (by omega) (by omega)]
   have e:(c::r).length+1=(r.length+1)+1:=by simp
   rw[e]
   unfold tokensFrom
   split
   ·exact key _ _ (Nat.le_refl _)
   ·split
    ·rename_i hb hn
     obtain⟨rfl,_⟩:=hn
     have:=noteLen_pos r
     refine key _ _ ?_
     rw[List.length_drop];simp only[List.length_cons];omega
    ·split
     ·rename_i hw
      have:=word_pos r hw
      have k2:=key (p+((c::r).takeWhile isWordByte).length) ((c::r).drop ((c::r).takeWhile isWordByte).length) (by rw[List.length_drop];simp only[List.length_cons];omega)
      simp only[k2]
     ·split
      ·rename_i k m hs
       have:=(signAt_pos hs).1
       have k2:=key (p+m) ((c::r).drop m) (by rw[List.length_drop];simp only[List.length_cons];omega)
       simp only[k2]
      ·rfl
noncomputable def tk (p:Nat)(l:Bytes):List Token×Option Nat:=tokensFrom (l.length+1) p l
theorem Aq5 (p:Nat)(c:UInt8)(r:Bytes):tk p (c::r)=
  if isBlank c=true then tk (p+1) r
  else if c=47/\r.head?=some 47 then tk (p+noteLen (c::r)) ((c::r).drop (noteLen (c::r)))
  else if isWordByte c=true then
   match wordTok ((c::r).takeWhile isWordByte)with
   |some t=>let x:=tk (p+((c::r).takeWhile isWordByte).length) ((c::r).drop ((c::r).takeWhile isWordByte).length)
    (⟨p,((c::r).takeWhile isWordByte).length,t⟩::x.1,x.2)
   |none=>([],some p)
  else match signAt (c::r)with
   |some (k,n)=>let x:=tk (p+n) ((c::r).drop n)
    (⟨p,n,.sign k⟩::x.1,x.2)
   |none=>([],some p):=by
 have key:∀(q:Nat) (m:Bytes),m.length<=r.length->tokensFrom (r.length+1) q m=tk q m:=by
  intro q m hm
  exact Bc2 m.length m q _ (Nat.le_refl _) (by omega)
 have e:tk p (c::r)=tokensFrom ((r.length+1)+1) p (c::r):=by unfold tk;simp
 rw[e]
 unfold tokensFrom
 split
 ·exact key _ _ (Nat.le_refl _)
 ·split
  ·rename_i hb hn
   obtain⟨rfl,_⟩:=hn
   have:=noteLen_pos r
   refine key _ _ ?_
   rw[List.length_drop];simp only[List.length_cons];omega
  ·split
   ·rename_i hw
    have:=word_pos r hw
    have k2:=key (p+((c::r).takeWhile isWordByte).length) ((c::r).drop ((c::r).takeWhile isWordByte).length) (by rw[List.length_drop];simp only[List.length_cons];omega)
    simp only[k2]
    split<;>rename_i hh<;>simp only[hh]
   ·split
    ·rename_i k m hs
     have:=(signAt_pos hs).1
     have k2:=key (p+m) ((c::r).drop m) (by rw[List.length_drop];simp only[List.length_cons];omega)
     simp only[k2,hs]
    ·rename_i hs
     simp only[hs]
end My
namespace My
open Sw
noncomputable def u (z:Int):UInt8:=UInt8.ofNat z.toNat
noncomputable def toB (ns:List Int):Bytes:=ns.map u
noncomputable def Byt (ns:List Int):Prop:=∀z∈ns,0<=z/\z<=255
theorem AO2 {z:Int}(h0:0<=z)(h1:z<=255):(u z).toNat=z.toNat:=by
 unfold u
 rw[UInt8.toNat_ofNat']
 omega
theorem A88 {y z:Int}(h0:0<=z)(h1:z<=255)(k0:0<=y)(k1:y<=255):u y=u z↔y=z:=by
 constructor
 ·intro e
  have:=congrArg UInt8.toNat e
  rw[AO2 h0 h1,AO2 k0 k1]at this
  omega
 ·intro e;rw[e]
theorem BG7 {z:Int}(n:Nat)(hn:n<=255)(h0:0<=z)(h1:z<=255):u z=UInt8.ofNat n↔z=n:=by
 have:UInt8.ofNat n=u (n:Int):=by unfold u;simp
 rw[this,A88 (by omega) (by omega) h0 h1]
noncomputable def U9 (z:Int):Bool:=decide (48<=z)&&decide (z<=57)
noncomputable def AZ1 (z:Int):Bool:=decide (97<=z)&&decide (z<=122)
noncomputable def AX6 (z:Int):Bool:=decide (65<=z)&&decide (z<=90)
noncomputable def wordB (z:Int):Bool:=AZ1 z||(AX6 z||(U9 z||decide (z=95)))
noncomputable def Aa9 (z:Int):Bool:=AZ1 z||(AX6 z||decide (z=95))
noncomputable def L6 (z:Int):Bool:=decide (z=32)||decide (z=10)
theorem BY2 {z:Int}(n:Nat)(hn:n<=255)(h0:0<=z)(h1:z<=255):decide (UInt8.ofNat n<=u z)=decide ((n:Int)<=z):=by
 have e:(UInt8.ofNat n<=u z)↔((n:Int)<=z):=by
  rw[UInt8.le_iff_toNat_le,AO2 h0 h1,UInt8.toNat_ofNat']
  omega
 exact decide_eq_decide.mpr e
theorem BX2 {z:Int}(n:Nat)(hn:n<=255)(h0:0<=z)(h1:z<=255):decide (u z<=UInt8.ofNat n)=decide (z<=(n:Int)):=by
 have e:(u z<=UInt8.ofNat n)↔(z<=(n:Int)):=by
  rw[UInt8.le_iff_toNat_le,AO2 h0 h1,UInt8.toNat_ofNat']
  omega
 exact decide_eq_decide.mpr e
theorem Az7 {z:Int}(n:Nat)(hn:n<=255)(h0:0<=z)(h1:z<=255):(u z==UInt8.ofNat n)=decide (z=(n:Int)):=by
 by_cases h:z=(n:Int)
 ·rw[decide_eq_true h,(BG7 n hn h0 h1).mpr h];simp
 ·rw[decide_eq_false h]
  exact beq_eq_false_iff_ne.mpr fun e=>h ((BG7 n hn h0 h1).mp e)
theorem Q1 {z:Int}(h0:0<=z)(h1:z<=255):isDigit (u z)=U9 z:=by
 unfold isDigit U9
 rw[show(48:UInt8)=UInt8.ofNat 48 from rfl,show(57:UInt8)=UInt8.ofNat 57 from rfl,BY2 48 (by decide) h0 h1,BX2 57 (by decide) h0 h1]
 rfl
theorem T2 {z:Int}(h0:0<=z)(h1:z<=255):isWordByte (u z)=wordB z:=by
 unfold isWordByte
 rw[Q1 h0 h1]
 unfold isLetter wordB AZ1 AX6
 rw[show(65:UInt8)=UInt8.ofNat 65 from rfl,show(90:UInt8)=UInt8.ofNat 90 from rfl,show(97:UInt8)=UInt8.ofNat 97 from rfl,show(122:UInt8)=UInt8.ofNat 122 from rfl,show(95:UInt8)=UInt8.ofNat 95 from rfl,
  BY2 65 (by decide) h0 h1,BX2 90 (by decide) h0 h1,BY2 97 (by decide) h0 h1,BX2 122 (by decide) h0 h1,Az7 95 (by decide) h0 h1]
 generalize decide (((65:Nat):Int)<=z)=a1
 generalize decide (z<=((90:Nat):Int))=a2
 generalize decide (((97:Nat):Int)<=z)=a3
 generalize decide (z<=((122:Nat):Int))=a4
 generalize U9 z=a5
 show(a1&&a2||(a3&&a4||decide (z=95))||a5)=(a3&&a4||(a1&&a2||(a5||decide (z=95))))
 generalize decide (z=95)=a6
 revert a1 a2 a3 a4 a5 a6
 decide
theorem t9 {z:Int}(h0:0<=z)(h1:z<=255):isBlank (u z)=L6 z:=by
 unfold isBlank L6 BLANK LF
 rw[show(32:UInt8)=UInt8.ofNat 32 from rfl,show(10:UInt8)=UInt8.ofNat 10 from rfl,Az7 32 (by decide) h0 h1,Az7 10 (by decide) h0 h1]
 rfl
theorem toB_length (ns:List Int):(toB ns).length=ns.length:=by unfold toB;simp
theorem AF9 (ns:List Int)(p:Nat):(toB ns).drop p=toB (ns.drop p):=by unfold toB;rw[List.map_drop]
theorem Byt.drop {ns:List Int}(h:Byt ns)(p:Nat):Byt (ns.drop p):=fun z hz=>h z (List.mem_of_mem_drop hz)
theorem Byt.at {ns:List Int}(h:Byt ns){p:Nat}{z:Int}(e:ns[p]?=some z):0<=z/\z<=255:=h z (List.mem_of_getElem? e)
theorem L1 {ns:List Int}{p:Nat}{z:Int}(e:ns[p]?=some z):ns.drop p=z::ns.drop (p+1):=by
 obtain⟨h,e⟩:=List.getElem?_eq_some_iff.mp e
 rw[List.drop_eq_getElem_cons h,e]
noncomputable def T (ns:List Int)(p:Nat):List Token×Option Nat:=tk p (toB (ns.drop p))
theorem T_zero (ns:List Int):T ns 0=Sw.tokens (toB ns):=rfl
theorem T_end {ns:List Int}{p:Nat}(h:ns.length<=p):T ns p=([],none):=by
 unfold T
 rw[List.drop_eq_nil_of_le h]
 rfl
theorem T_blank {ns:List Int}(hB:Byt ns){p:Nat}{z:Int}(e:ns[p]?=some z)(hz:L6 z=true):T ns p=T ns (p+1):=by
 unfold T
 obtain⟨h0,h1⟩:=hB.at e
 rw[L1 e]
 show tk p (u z::toB (ns.drop (p+1)))=_
 rw[Aq5,if_pos (by rw[t9 h0 h1];exact hz)]
noncomputable def endOf (P:Int->Bool)(ns:List Int)(p:Nat):Nat:=p+((ns.drop p).takeWhile P).length
theorem endOf_step {P:Int->Bool}{ns:List Int}{p:Nat}{z:Int}(e:ns[p]?=some z)(hz:P z=true):endOf P ns p=endOf P ns (p+1):=by
 unfold endOf
 rw[L1 e,List.takeWhile_cons,if_pos hz,List.length_cons]
 omega
theorem endOf_stop {P:Int->Bool}{ns:List Int}{p:Nat}{z:Int}(e:ns[p]?=some z)(hz:P z=false):endOf P ns p=p:=by
 unfold endOf
 rw[L1 e,List.takeWhile_cons,if_neg (by rw[hz];decide)]
 rfl
theorem endOf_end {P:Int->Bool}{ns:List Int}{p:Nat}(h:ns.length<=p):endOf P ns p=p:=by
 unfold endOf
 rw[List.drop_eq_nil_of_le h]
 rfl
theorem endOf_le {P:Int->Bool}{ns:List Int}{p:Nat}(h:p<=ns.length):endOf P ns p<=ns.length:=by
 unfold endOf
 have:=(List.takeWhile_sublist P (l:=ns.drop p)).length_le
 rw[List.length_drop]at this
 omega
theorem endOf_ge {P:Int->Bool}{ns:List Int}{p:Nat}:p<=endOf P ns p:=Nat.le_add_right _ _
noncomputable def notLF (z:Int):Bool:=!decide (z=10)
theorem V4 {P:Int->Bool}{R:UInt8->Bool}:∀{ns:List Int},Byt ns->(∀z,0<=z->z<=255->R (u z)=P z)->(toB ns).takeWhile R=toB (ns.takeWhile P)
 |[],_,_=>rfl
 |z::r,hB,h=>by
  show(u z::toB r).takeWhile R=_
  have hz:=hB z (List.mem_cons_self)
  rw[List.takeWhile_cons,List.takeWhile_cons,h z hz.1 hz.2,V4 (ns:=r) (fun y hy=>hB y (List.mem_cons_of_mem _ hy)) h]
  split<;>rfl
theorem A74 {z:Int}(h0:0<=z)(h1:z<=255):(u z != LF)=notLF z:=by
 unfold bne LF notLF
 rw[show(10:UInt8)=UInt8.ofNat 10 from rfl,Az7 10 (by decide) h0 h1]
 rfl
theorem Ak7 {ns:List Int}(hB:Byt ns):noteLen (toB ns)=(ns.takeWhile notLF).length:=by
 unfold noteLen
 rw[V4 (P:=notLF) hB fun z h0 h1=>A74 h0 h1,toB_length]
noncomputable def y6 (ns:List Int)(p:Nat):Prop:=ns[p]?=some 47/\ns[p+1]?=some 47
theorem T_note {ns:List Int}(hB:Byt ns){p:Nat}(hn:y6 ns p):T ns p=T ns (endOf notLF ns p):=by
 obtain⟨e1,e2⟩:=hn
 unfold T
 have hd:toB (ns.drop p)=u 47::u 47::toB (ns.drop (p+1+1)):=by
  rw[L1 e1,L1 e2];rfl
 rw[hd,Aq5,if_neg (by decide),if_pos (by constructor<;>rfl),←hd,Ak7 (hB.drop p),AF9,List.drop_drop]
 rfl
noncomputable def Z4 (ns:List Int)(p:Nat):Prop:=∀z,ns[p]?=some z->L6 z=false/\¬y6 ns p
theorem z6 {ns:List Int}(hB:Byt ns){p:Nat}{z:Int}(e:ns[p]?=some z)(h:¬y6 ns p):¬(u z=47/\(toB (ns.drop (p+1))).head?=some 47):=by
 rintro ⟨h1,h2⟩
 have hz:=hB.at e
 have ez:z=47:=(BG7 47 (by decide) hz.1 hz.2).mp h1
 subst ez
 apply h
 refine⟨e,?_⟩
 cases e2:ns[p+1]? with
 |none=>
  have:ns.drop (p+1)=[]:=List.drop_eq_nil_of_le (List.getElem?_eq_none_iff.mp e2)
  rw[this]at h2;cases h2
 |some y=>
  rw[L1 e2]at h2
  have h3:u y=47:=Option.some.inj h2
  have hy:=hB.at e2
  rw[(BG7 47 (by decide) hy.1 hy.2).mp h3]
  rfl
noncomputable def G0 (ns:List Int)(p:Nat):List Int:=(ns.drop p).takeWhile wordB
theorem T_word {ns:List Int}(hB:Byt ns){p:Nat}{z:Int}(e:ns[p]?=some z)(hs:Z4 ns p)(hw:wordB z=true):
  T ns p=match wordTok (toB (G0 ns p))with
   |some t=>(⟨p,(G0 ns p).length,t⟩::(T ns (p+(G0 ns p).length)).1,(T ns (p+(G0 ns p).length)).2)
   |none=>([],some p):=by
 obtain⟨h0,h1⟩:=hB.at e
 obtain⟨b1,b2⟩:=hs z e
 have er:(u z::toB (ns.drop (p+1))).takeWhile isWordByte=toB (G0 ns p):=by
  have:=V4 (P:=wordB) (R:=isWordByte) (hB.drop p) fun z h0 h1=>T2 h0 h1
  rw[L1 e]at this
  unfold G0
  rw[L1 e]
  exact this
 unfold T
 have ed:toB (ns.drop p)=u z::toB (ns.drop (p+1)):=by rw[L1 e];rfl
 rw[ed,Aq5,if_neg (by rw[t9 h0 h1,b1];decide),if_neg (z6 hB e b2),if_pos (by rw[T2 h0 h1];exact hw),er,←ed,toB_length,AF9,List.drop_drop]
 all_goals rfl
theorem T_sign {ns:List Int}(hB:Byt ns){p:Nat}{z:Int}(e:ns[p]?=some z)(hs:Z4 ns p)(hw:wordB z=false):
  T ns p=match signAt (toB (ns.drop p))with
   |some (k,n)=>(⟨p,n,.sign k⟩::(T ns (p+n)).1,(T ns (p+n)).2)
   |none=>([],some p):=by
 obtain⟨h0,h1⟩:=hB.at e
 obtain⟨b1,b2⟩:=hs z e
 unfold T
 have ed:toB (ns.drop p)=u z::toB (ns.drop (p+1)):=by rw[L1 e];rfl
 rw[ed,Aq5,if_neg (by rw[t9 h0 h1,b1];decide),if_neg (z6 hB e b2),if_neg (by rw[T2 h0 h1,hw];decide),←ed]
 cases signAt (toB (ns.drop p))with
 |none=>rfl
 |some x=>
  obtain⟨k,n⟩:=x
  show(_,_)=(_,_)
  rw[AF9,List.drop_drop]
end My
namespace My
open Sw
noncomputable def P6 (z:Int):Int:=if U9 z=true then z-48 else if 65<=z/\z<=70 then z-55 else 16
noncomputable def R9:Int:=9223372036854775807
noncomputable def c5 (base:Int)(ds:List Int)(a:Int):Int:=ds.foldl (fun a z=>a*base+P6 z) a
noncomputable def AJ3 (ds:List Int)(base:Int)(most:Nat):Bool:=
 if ds.length=0∨most<ds.length then false
 else if ds.head?=some 48/\1<ds.length then false
 else ds.all (fun z=>decide (P6 z<base))&&decide (c5 base ds 0<=R9)
noncomputable def i5 (w:List Int):Bool:=if 1<w.length/\w[0]?=some 48/\w[1]?=some 120 then AJ3 (w.drop 2) 16 16 else AJ3 w 10 19
theorem Ah0 {z:Int}(_:0<=z):0<=P6 z:=by
 unfold P6
 split
 ·rename_i h
  unfold U9 at h
  simp at h
  omega
 ·split<;>omega
theorem AN9 {z:Int}:P6 z<10↔U9 z=true:=by
 unfold P6 U9
 by_cases h1:48<=z<;>by_cases h2:z<=57
 ·simp[h1,h2];omega
 ·simp[h1,h2];split<;>omega
 ·simp[h1,h2];split<;>omega
 ·simp[h1,h2];split<;>omega
theorem A63 {z:Int}(h0:0<=z)(h1:z<=255):hexOf (u z)=if P6 z<16 then some (P6 z).toNat else none:=by
 unfold hexOf
 rw[Q1 h0 h1,AO2 h0 h1]
 unfold P6
 by_cases hd:U9 z=true
 ·rw[if_pos hd,if_pos hd]
  unfold U9 at hd
  simp at hd
  rw[if_pos (by omega)]
  congr 1
  omega
 ·rw[if_neg hd,if_neg hd]
  have e1:(65<=u z)↔(65<=z):=by
   rw[UInt8.le_iff_toNat_le,AO2 h0 h1]
   show 65<=z.toNat↔_
   omega
  have e2:(u z<=70)↔(z<=70):=by
   rw[UInt8.le_iff_toNat_le,AO2 h0 h1]
   show z.toNat<=70↔_
   omega
  simp only[e1,e2]
  by_cases h:65<=z/\z<=70
  ·rw[if_pos h,if_pos h,if_pos (by omega)]
   congr 1
   omega
  ·rw[if_neg h,if_neg h,if_neg (by omega)]
theorem AV1:∀{ds:List Int},Byt ds->(toB ds).mapM hexOf=if ds.all (fun z=>decide (P6 z<16))=true then some (ds.map fun z=>(P6 z).toNat)else none
 |[],_=>rfl
 |z::r,hB=>by
  have hz:=hB z List.mem_cons_self
  have ih:=AV1 (ds:=r) fun y hy=>hB y (List.mem_cons_of_mem _ hy)
  show(u z::toB r).mapM hexOf=_
  rw[List.mapM_cons,A63 hz.1 hz.2,ih]
  by_cases h1:P6 z<16
  ·rw[if_pos h1]
   by_cases h2:(r.all fun z=>decide (P6 z<16))=true
   ·rw[if_pos h2,if_pos (by rw[List.all_cons,h2,decide_eq_true h1];rfl)]
    rfl
   ·rw[if_neg h2,if_neg (by rw[List.all_cons,decide_eq_true h1];simpa using h2)]
    rfl
  ·rw[if_neg h1]
   show none=_
   rw[if_neg (by rw[List.all_cons,decide_eq_false h1];simp)]
theorem Aj4:∀{ds:List Int},Byt ds->∀a:Nat,(((ds.map fun z=>(P6 z).toNat).foldl (fun(a b:Nat)=>16*a+b) a:Nat):Int)=c5 16 ds a
 |[],_,a=>rfl
 |z::r,hB,a=>by
  have hz:=hB z List.mem_cons_self
  have hn:=Ah0 hz.1
  rw[List.map_cons,List.foldl_cons,Aj4 (ds:=r) (fun y hy=>hB y (List.mem_cons_of_mem _ hy))]
  unfold c5
  rw[List.foldl_cons]
  congr 1
  omega
theorem Al2:∀{ds:List Int},Byt ds->ds.all U9=true->∀a:Nat,(((toB ds).foldl (fun(a:Nat) (c:UInt8)=>10*a+(c.toNat-48)) a:Nat):Int)=c5 10 ds a
 |[],_,_,a=>rfl
 |z::r,hB,hd,a=>by
  have hz:=hB z List.mem_cons_self
  rw[List.all_cons,Bool.and_eq_true]at hd
  show(((u z::toB r).foldl _ _:Nat):Int)=_
  rw[List.foldl_cons,Al2 (ds:=r) (fun y hy=>hB y (List.mem_cons_of_mem _ hy)) hd.2]
  unfold c5
  rw[List.foldl_cons,AO2 hz.1 hz.2]
  have:P6 z=z-48:=by unfold P6;rw[if_pos hd.1]
  rw[this]
  have h48:48<=z:=by have:=hd.1;unfold U9 at this;simp at this;exact this.1
  congr 1
  omega
theorem A20:∀{ds:List Int},Byt ds->∀a:Int,0<=a->a*10 ^ ds.length<=c5 10 ds a
 |[],_,a,_=>by unfold c5;simp
 |z::r,hB,a,ha=>by
  have hz:=hB z List.mem_cons_self
  have hn:=Ah0 hz.1
  have ih:=A20 (ds:=r) (fun y hy=>hB y (List.mem_cons_of_mem _ hy)) (a*10+P6 z) (by omega)
  unfold c5 at ih ⊢
  rw[List.foldl_cons]
  refine Int.le_trans ?_ ih
  rw[List.length_cons,Int.pow_succ,←Int.mul_assoc,Int.mul_comm _ 10,←Int.mul_assoc,Int.mul_comm 10 a]
  refine Int.mul_le_mul_of_nonneg_right (by omega) ?_
  exact Int.le_of_lt (Int.pow_pos (by decide))
theorem Aq0 {ds:List Int}:(ds.all fun z=>decide (P6 z<10))=ds.all U9:=by
 congr 1
 funext z
 by_cases h:U9 z=true
 ·rw[h];exact decide_eq_true (AN9.mpr h)
 ·rw[Bool.eq_false_iff.mpr h];exact decide_eq_false fun q=>h (AN9.mp q)
theorem u4:∀{ds:List Int},Byt ds->(toB ds).all isDigit=ds.all U9
 |[],_=>rfl
 |z::r,hB=>by
  have hz:=hB z List.mem_cons_self
  show(u z::toB r).all isDigit=_
  rw[List.all_cons,List.all_cons,Q1 hz.1 hz.2,u4 (ds:=r) fun y hy=>hB y (List.mem_cons_of_mem _ hy)]
theorem AW0 {ds:List Int}(hB:Byt ds):(toB ds).head?=some 48↔ds.head?=some 48:=by
 cases ds with
 |nil=>simp[toB]
 |cons z r=>
  have hz:=hB z List.mem_cons_self
  show some (u z)=some 48↔some z=some 48
  constructor
  ·intro h;rw[(BG7 48 (by decide) hz.1 hz.2).mp (Option.some.inj h)];rfl
  ·intro h;rw[Option.some.inj h];rfl
theorem Az6 {ds:List Int}(hB:Byt ds)(h:ds.head?=some 48):toB ds=[48]↔¬1<ds.length:=by
 cases ds with
 |nil=>cases h
 |cons z r=>
  have e:z=48:=Option.some.inj h
  subst e
  cases r with
  |nil=>constructor<;>intro _<;>first |rfl |(simp)
  |cons y s=>
   constructor
   ·intro q;injection q with _ q;cases q
   ·intro q;simp at q
theorem AI6 {x:Nat}:((if x<=MOST then some x else none:Option Nat)).isSome=decide ((x:Int)<=R9):=by
 have hM:(MOST:Int)=R9:=rfl
 split
 ·rename_i h
  rw[decide_eq_true (by rw[←hM];exact_mod_cast h)];rfl
 ·rename_i h
  rw[decide_eq_false (by rw[←hM];intro q;exact h (by exact_mod_cast q))];rfl
theorem big {w:List Int}(hB:Byt w)(hd:w.all U9=true)(h48:w.head?≠some 48)(h19:19<w.length):R9<c5 10 w 0:=by
 cases w with
 |nil=>simp at h19
 |cons z r=>
  have hz:=hB z List.mem_cons_self
  rw[List.all_cons,Bool.and_eq_true]at hd
  have h48z:z≠48:=fun q=>h48 (by rw[q];rfl)
  have hz1:1<=P6 z:=by
   have:=hd.1
   unfold P6
   rw[if_pos this]
   unfold U9 at this
   simp at this
   omega
  have hg:=A20 (ds:=r) (fun y hy=>hB y (List.mem_cons_of_mem _ hy)) (0*10+P6 z) (by omega)
  have e:c5 10 (z::r) 0=c5 10 r (0*10+P6 z):=rfl
  rw[←e]at hg
  simp only[List.length_cons]at h19
  have hp:(10:Int) ^ 19<=10 ^ r.length:=by
   have:(10:Nat) ^ 19<=10 ^ r.length:=Nat.pow_le_pow_right (by decide) (by omega)
   exact_mod_cast this
  have hpp:(10:Int) ^ 19=10000000000000000000:=by decide
  have hmul:1*(10:Int) ^ r.length<=(0*10+P6 z)*10 ^ r.length:=Int.mul_le_mul_of_nonneg_right (by omega) (Int.le_of_lt (Int.pow_pos (by decide)))
  unfold R9
  omega
noncomputable def BW7 (w:Bytes):Option Nat:=if w.all isDigit=true/\(w.head?≠some 48∨w=[48])then some (w.foldl (fun(a:Nat) (c:UInt8)=>10*a+(c.toNat-48)) 0)else none
noncomputable def BV0 (d:Bytes):Option Nat:=if d.isEmpty=true∨16<d.length∨(d.head?=some 48/\d≠[48])then none else(d.mapM hexOf).map fun(l:List Nat)=>l.foldl (fun(a b:Nat)=>16*a+b) 0
theorem areD_false {ds:List Int}{base:Int}{most:Nat}(h:(ds.length=0∨most<ds.length)∨(ds.head?=some 48/\1<ds.length)∨(ds.all fun z=>decide (P6 z<base))=false∨R9<c5 base ds 0):AJ3 ds base most=false:=by
 unfold AJ3
 split
 ·rfl
 ·rename_i h1
  split
  ·rfl
  ·rename_i h2
   rcases h with h |h |h |h
   ·exact(h1 h).elim
   ·exact(h2 h).elim
   ·rw[h];rfl
   ·rw[decide_eq_false (show ¬c5 base ds 0<=R9 by omega),Bool.and_false]
theorem areD_val {ds:List Int}{base:Int}{most:Nat}(h1:¬(ds.length=0∨most<ds.length))(h2:¬(ds.head?=some 48/\1<ds.length))(h3:(ds.all fun z=>decide (P6 z<base))=true):AJ3 ds base most=decide (c5 base ds 0<=R9):=by
 unfold AJ3
 rw[if_neg h1,if_neg h2,h3,Bool.true_and]
theorem BN0 {w:List Int}(hB:Byt w)(hw:w≠[]):AJ3 w 10 19=((BW7 (toB w)).bind fun(x:Nat)=>if x<=MOST then some x else none).isSome:=by
 have hl:0<w.length:=List.length_pos_iff.mpr hw
 unfold BW7
 by_cases hdn:w.all U9=false
 ·have hc:¬((toB w).all isDigit=true/\((toB w).head?≠some 48∨toB w=[48])):=by
   intro h;rw[u4 hB,hdn]at h;exact absurd h.1 (by decide)
  rw[if_neg hc,areD_false (.inr (.inr (.inl (by rw[Aq0];exact hdn))))]
  rfl
 have hd:w.all U9=true:=by simpa using hdn
 have hv:=Al2 hB hd 0
 have e0:c5 10 w ((0:Nat):Int)=c5 10 w 0:=rfl
 rw[e0]at hv
 by_cases h48:w.head?=some 48/\1<w.length
 ·have hc:¬((toB w).all isDigit=true/\((toB w).head?≠some 48∨toB w=[48])):=by
   intro h
   rcases h.2 with q |q
   ·exact q ((AW0 hB).mpr h48.1)
   ·exact((Az6 hB h48.1).mp q) h48.2
  rw[if_neg hc,areD_false (.inr (.inl h48))]
  rfl
 ·have hc:((toB w).all isDigit=true/\((toB w).head?≠some 48∨toB w=[48])):=by
   refine⟨by rw[u4 hB];exact hd,?_⟩
   by_cases q:w.head?=some 48
   ·exact .inr ((Az6 hB q).mpr fun r=>h48 ⟨q,r⟩)
   ·exact .inl fun r=>q ((AW0 hB).mp r)
  rw[if_pos hc]
  show _=(if _ then _ else _:Option Nat).isSome
  rw[AI6,hv]
  by_cases h19:19<w.length
  ·have hb:=big hB hd (fun q=>h48 ⟨q,by omega⟩) h19
   rw[areD_false (.inl (.inr h19)),decide_eq_false (by omega)]
  ·exact areD_val (by omega) h48 (by rw[Aq0];exact hd)
theorem BP0 {d:List Int}(hB:Byt d):AJ3 d 16 16=((BV0 (toB d)).bind fun(x:Nat)=>if x<=MOST then some x else none).isSome:=by
 unfold BV0
 by_cases hc:(toB d).isEmpty=true∨16<(toB d).length∨((toB d).head?=some 48/\toB d≠[48])
 ·rw[if_pos hc]
  show _=false
  rw[toB_length]at hc
  refine areD_false ?_
  rcases hc with h |h |h
  ·left;left
   have:toB d=[]:=List.isEmpty_iff.mp h
   have:=congrArg List.length this
   rw[toB_length]at this
   exact this
  ·exact .inl (.inr h)
  ·have h48:=(AW0 hB).mp h.1
   refine .inr (.inl ⟨h48,?_⟩)
   by_cases q:1<d.length
   ·exact q
   ·exact(h.2 ((Az6 hB h48).mpr q)).elim
 ·rw[if_neg hc,AV1 hB]
  rw[toB_length]at hc
  have h1:¬(d.length=0∨16<d.length):=by
   rintro (h |h)
   ·exact hc (.inl (by rw[List.length_eq_zero_iff.mp h];rfl))
   ·exact hc (.inr (.inl h))
  have h2:¬(d.head?=some 48/\1<d.length):=by
   rintro ⟨h,k⟩
   exact hc (.inr (.inr ⟨(AW0 hB).mpr h,fun q=>(Az6 hB h).mp q k⟩))
  by_cases h3:(d.all fun z=>decide (P6 z<16))=true
  ·rw[if_pos h3,areD_val h1 h2 h3]
   show _=(if _ then _ else _:Option Nat).isSome
   rw[AI6,Aj4 hB]
   rfl
  ·rw[if_neg h3,areD_false (.inr (.inr (.inl (Bool.eq_false_iff.mpr h3))))]
   rfl
theorem AM3 (d:Bytes):numberOf (48::120::d)=(BV0 d).bind fun(x:Nat)=>if x<=MOST then some x else none:=rfl
theorem AI7 {w:Bytes}(h:¬∃d,w=48::120::d):numberOf w=(BW7 w).bind fun(x:Nat)=>if x<=MOST then some x else none:=by
 unfold numberOf
 split
 ·rename_i d
  exact(h ⟨d,rfl⟩).elim
 ·rfl
theorem Az5 {w:List Int}(hB:Byt w)(hw:w≠[]):i5 w=(numberOf (toB w)).isSome:=by
 unfold i5
 split
 ·rename_i h
  obtain⟨_,h0,h1⟩:=h
  match w,h0,h1 with
  |a::b::d,h0,h1=>
   have ea:a=48:=Option.some.inj h0
   have eb:b=120:=Option.some.inj h1
   subst ea eb
   have hB':Byt d:=fun z hz=>hB z (List.mem_cons_of_mem _ (List.mem_cons_of_mem _ hz))
   show AJ3 d 16 16=(numberOf (48::120::toB d)).isSome
   rw[AM3,BP0 hB']
 ·rename_i h
  rw[AI7,BN0 hB hw]
  rintro ⟨d,e⟩
  match w,e with
  |[a],e=>injection e with _ e2;cases e2
  |a::b::r,e=>
   have ha:=hB a List.mem_cons_self
   have hb:=hB b (List.mem_cons_of_mem _ List.mem_cons_self)
   injection e with e1 e2
   injection e2 with e2 _
   apply h
   refine⟨by simp,?_,?_⟩
   ·rw[(BG7 48 (by decide) ha.1 ha.2).mp e1];rfl
   ·rw[(BG7 120 (by decide) hb.1 hb.2).mp e2];rfl
end My
namespace My
open Sw
noncomputable def two:List (Int×Int):=[(45,62),(60,60),(62,62),(60,61),(62,61),(61,61),(33,61),(38,38),(124,124)]
noncomputable def one:List Int:=[43,45,42,47,37,38,124,94,126,33,60,62,61,63,58,59,44,64,40,41,91,93,123,125]
noncomputable def pyTwo (c d:Int):Option Nat:=two.findIdx? fun q=>decide (q.1=c/\q.2=d)
noncomputable def pyOne (c:Int):Option Nat:=one.findIdx? fun q=>decide (q=c)
theorem i8:signs=two.map (fun q=>[u q.1,u q.2])++one.map (fun q=>[u q]):=by decide
theorem A68:∀q∈two,(0<=q.1/\q.1<=255)/\(0<=q.2/\q.2<=255):=by decide
theorem BB6:∀q∈one,0<=q/\q<=255:=by decide
theorem findIdx_congr {α:Type}{P R:α->Bool}:∀{l:List α},(∀x∈l,P x=R x)->l.findIdx? P=l.findIdx? R
 |[],_=>rfl
 |x::r,h=>by
  rw[List.findIdx?_cons,List.findIdx?_cons,h x List.mem_cons_self,findIdx_congr (l:=r) fun y hy=>h y (List.mem_cons_of_mem _ hy)]
theorem b9 {α:Type}{P:α->Bool}:∀{l:List α},(∀x∈l,P x=false)->l.findIdx? P=none
 |[],_=>rfl
 |x::r,h=>by
  rw[List.findIdx?_cons,h x List.mem_cons_self,b9 (l:=r) fun y hy=>h y (List.mem_cons_of_mem _ hy)]
  rfl
theorem Bd5 (c:UInt8)(r:Bytes)(x:UInt8):([x]:Bytes).isPrefixOf (c::r)=(x==c):=by simp[List.isPrefixOf]
theorem Bd8 (c d:UInt8)(r:Bytes)(x y:UInt8):([x,y]:Bytes).isPrefixOf (c::d::r)=(x==c&&y==d):=by simp[List.isPrefixOf]
theorem pre2' (c:UInt8)(x y:UInt8):([x,y]:Bytes).isPrefixOf [c]=false:=by simp[List.isPrefixOf]
theorem An3 {y z:Int}(h0:0<=z)(h1:z<=255)(k0:0<=y)(k1:y<=255):(u y==u z)=decide (y=z):=by
 by_cases h:y=z
 ·rw[decide_eq_true h,h];simp
 ·rw[decide_eq_false h]
  exact beq_eq_false_iff_ne.mpr fun e=>h ((A88 h0 h1 k0 k1).mp e)
theorem AL6 {c:Int}(hc:0<=c/\c<=255)(r:Bytes):(one.map fun q=>[u q]).findIdx? (fun s=>s.isPrefixOf (u c::r))=pyOne c:=by
 rw[List.findIdx?_map]
 refine findIdx_congr fun q hq=>?_
 have:=BB6 q hq
 show([u q]:Bytes).isPrefixOf (u c::r)=_
 rw[Bd5,An3 hc.1 hc.2 this.1 this.2]
theorem Au5 {c d:Int}(hc:0<=c/\c<=255)(hd:0<=d/\d<=255)(r:Bytes):(two.map fun q=>[u q.1,u q.2]).findIdx? (fun s=>s.isPrefixOf (u c::u d::r))=pyTwo c d:=by
 rw[List.findIdx?_map]
 refine findIdx_congr fun q hq=>?_
 have:=A68 q hq
 show([u q.1,u q.2]:Bytes).isPrefixOf (u c::u d::r)=_
 rw[Bd8,An3 hc.1 hc.2 this.1.1 this.1.2,An3 hd.1 hd.2 this.2.1 this.2.2]
 by_cases h1:q.1=c<;>by_cases h2:q.2=d<;>simp[h1,h2]
theorem two_find' (c:UInt8):(two.map fun q=>[u q.1,u q.2]).findIdx? (fun s=>s.isPrefixOf [c])=none:=by
 rw[List.findIdx?_map]
 refine b9 fun q _=>?_
 show([u q.1,u q.2]:Bytes).isPrefixOf [c]=_
 rw[pre2']
theorem A47:∀k,k<9->(signs.getD k []).length=2:=by decide
theorem Ac2:∀k,k<24->(signs.getD (k+9) []).length=1:=by decide
theorem As9 {c d:Int}{k:Nat}(h:pyTwo c d=some k):k<9:=by
 unfold pyTwo at h
 rw[List.findIdx?_eq_some_iff_getElem]at h
 exact h.1
theorem AT0 {c:Int}{k:Nat}(h:pyOne c=some k):k<24:=by
 unfold pyOne at h
 rw[List.findIdx?_eq_some_iff_getElem]at h
 exact h.1
noncomputable def signB (c:Int)(d:Option Int):Option (Nat×Nat):=match d.bind (pyTwo c)with
 |some k=>some (k,2)
 |none=>match pyOne c with
  |some k=>some (k+9,1)
  |none=>none
theorem signAt_ok {ns:List Int}(hB:Byt ns){p:Nat}{z:Int}(e:ns[p]?=some z):signAt (toB (ns.drop p))=signB z ns[p+1]?:=by
 have hz:=hB.at e
 unfold signAt signB
 rw[L1 e]
 cases e2:ns[p+1]? with
 |none=>
  have hn:ns.drop (p+1)=[]:=List.drop_eq_nil_of_le (List.getElem?_eq_none_iff.mp e2)
  rw[hn]
  show(match signs.findIdx? fun s=>s.isPrefixOf [u z]with |some k=>some (k,(signs.getD k []).length) |none=>none)=_
  rw[i8,List.findIdx?_append,two_find',AL6 hz]
  rw[←i8]
  cases h:pyOne z with
  |none=>rfl
  |some k=>
   have:=AT0 h
   show some (k+9,(signs.getD (k+9) []).length)=some (k+9,1)
   rw[Ac2 k this]
 |some y=>
  have hy:=hB.at e2
  rw[L1 e2]
  show(match signs.findIdx? fun s=>s.isPrefixOf (u z::u y::toB (ns.drop (p+1+1)))with |some k=>some (k,(signs.getD k []).length) |none=>none)=(match pyTwo z y with |some k=>_ |none=>_)
  rw[i8,List.findIdx?_append,Au5 hz hy,AL6 hz]
  rw[←i8]
  cases h2:pyTwo z y with
  |some k=>
   have:=As9 h2
   show some (k,(signs.getD k []).length)=some (k,2)
   rw[A47 k this]
  |none=>
  cases h:pyOne z with
  |none=>rfl
  |some k=>
   have:=AT0 h
   show some (k+9,(signs.getD (k+9) []).length)=some (k+9,1)
   rw[Ac2 k this]
noncomputable def W0:List (List Int):=["abs","at","const","delay","fn","graph","held","let","max","min","node","round","row","sheet","state","sum","table","wrapped","u8","s8","u16","s16","u32","s32","u64","s64"].map fun s=>s.toList.map fun c=>(c.toNat:Int)
theorem BB7:kept=W0.map toB:=by decide
theorem keptZ_byt:∀w∈W0,∀z∈w,0<=z/\z<=255:=by decide
theorem Ah1:∀{v w:List Int},Byt v->Byt w->(toB v=toB w↔v=w)
 |[],[],_,_=>by simp
 |[],_::_,_,_=>by simp[toB]
 |_::_,[],_,_=>by simp[toB]
 |a::v,b::w,h1,h2=>by
  have ha:=h1 a List.mem_cons_self
  have hb:=h2 b List.mem_cons_self
  have ih:=Ah1 (v:=v) (w:=w) (fun z hz=>h1 z (List.mem_cons_of_mem _ hz)) fun z hz=>h2 z (List.mem_cons_of_mem _ hz)
  show u a::toB v=u b::toB w↔_
  rw[List.cons.injEq,List.cons.injEq,ih,A88 hb.1 hb.2 ha.1 ha.2]
theorem Ab4 {w:List Int}(hB:Byt w):(kept.findIdx? fun k=>k==toB w)=W0.findIdx? fun k=>decide (k=w):=by
 rw[BB7,List.findIdx?_map]
 refine findIdx_congr fun k hk=>?_
 have:=keptZ_byt k hk
 show(toB k==toB w)=_
 by_cases h:k=w
 ·rw[decide_eq_true h,h];simp
 ·rw[decide_eq_false h]
  exact beq_eq_false_iff_ne.mpr fun e=>h ((Ah1 (fun z hz=>this z hz) hB).mp e)
noncomputable def qOf:Option Tok->Nat×Nat
 |none=>(4,0)
 |some (.name _)=>(0,0)
 |some (.num _)=>(1,0)
 |some (.kept k)=>(2,k)
 |some (.sign k)=>(3,k)
theorem wordTok_dig {w:List Int}(hB:Byt w){z:Int}(e:w.head?=some z)(hd:U9 z=true):qOf (wordTok (toB w))=(if i5 w=true then 1 else 4,0):=by
 cases w with
 |nil=>cases e
 |cons a r=>
  have e:a=z:=Option.some.inj e
  subst e
  have ha:=hB a List.mem_cons_self
  have hn:=Az5 hB (by simp)
  show qOf (if isDigit (u a)=true then(numberOf (toB (a::r))).map .num else _)=_
  rw[if_pos (by rw[Q1 ha.1 ha.2];exact hd),hn]
  cases numberOf (toB (a::r))<;>rfl
theorem wordTok_long {w:List Int}(hB:Byt w){z:Int}(e:w.head?=some z)(hd:U9 z=false)(hl:32<w.length):qOf (wordTok (toB w))=(4,0):=by
 cases w with
 |nil=>cases e
 |cons a r=>
  have e:a=z:=Option.some.inj e
  subst e
  have ha:=hB a List.mem_cons_self
  show qOf (if isDigit (u a)=true then _ else if WORD<(toB (a::r)).length then none else _)=_
  rw[if_neg (by rw[Q1 ha.1 ha.2,hd];decide),if_pos (by rw[toB_length];exact hl)]
  rfl
theorem wordTok_word {w:List Int}(hB:Byt w){z:Int}(e:w.head?=some z)(hd:U9 z=false)(hl:¬32<w.length):
  qOf (wordTok (toB w))=match W0.findIdx? fun k=>decide (k=w)with |some k=>(2,k) |none=>(0,0):=by
 cases w with
 |nil=>cases e
 |cons a r=>
  have e:a=z:=Option.some.inj e
  subst e
  have ha:=hB a List.mem_cons_self
  show qOf (if isDigit (u a)=true then _ else if WORD<(toB (a::r)).length then none else match kept.findIdx? fun(k:Bytes)=>k==toB (a::r)with |some k=>some (.kept k) |none=>some (.name (toB (a::r))))=_
  rw[if_neg (by rw[Q1 ha.1 ha.2,hd];decide),if_neg (by rw[toB_length];exact hl),Ab4 hB]
  cases W0.findIdx? fun k=>decide (k=a::r)<;>rfl
theorem runAt_head {ns:List Int}{p:Nat}{z:Int}(e:ns[p]?=some z)(hw:wordB z=true):(G0 ns p).head?=some z:=by
 unfold G0
 rw[L1 e,List.takeWhile_cons,if_pos hw]
 rfl
theorem runAt_byt {ns:List Int}(hB:Byt ns)(p:Nat):Byt (G0 ns p):=fun z hz=>hB z (List.mem_of_mem_drop ((List.takeWhile_sublist _).subset hz))
theorem runAt_word {ns:List Int}{p:Nat}:∀z∈G0 ns p,wordB z=true:=fun z hz=>by
 unfold G0 at hz
 have:=List.all_takeWhile (l:=ns.drop p) (p:=wordB)
 rw[List.all_eq_true]at this
 exact this z hz
theorem runAt_cut (ns:List Int)(p:Nat):G0 ns p=(ns.drop p).take (endOf wordB ns p-p):=by
 unfold G0 endOf
 rw[Nat.add_sub_cancel_left]
 exact List.prefix_iff_eq_take.mp (List.takeWhile_prefix wordB)
end My
namespace My
open Sw
theorem BE5 {ns:List Int}(hB:Byt ns):SwRows.text? ns=some (toB ns):=by
 unfold SwRows.text?
 rw[if_pos]
 ·rfl
 ·unfold NeutralIO.bytes
  rw[List.all_eq_true]
  intro z hz
  obtain⟨h0,h1⟩:=hB z hz
  rw[decide_eq_true h0,decide_eq_true h1]
  rfl
theorem AV0 {ns:List Int}(hl:ns.length<=100000):¬SwE.large (toB ns)=true:=by
 unfold SwE.large SwE.TEXT
 rw[toB_length]
 intro h
 have:=of_decide_eq_true h
 omega
end My
namespace Rd
open Sw
inductive Sy where
 |name |number |kept (k:Nat) |sign (k:Nat) |nothing |finish
 deriving DecidableEq
inductive Nt where
 |DECL |CODE |KIND |PORT |END |DIVISOR |STATE |DO |WIRE |WIRE_NAMED |WIRE_SOURCE |WIRE_TAKEN |WIRE_INPUTS |SIZE |E |CHOICE |OR |JOINED |COMPARISON |COMPARED |FORMULA |OPERATED |ONE |BEHIND |INDEX |INDEXES |SECOND |ATOM |CALLED
 deriving DecidableEq
inductive Sb where
 |t (y:Sy) |n (x:Nt)
 deriving DecidableEq
inductive Fm where
 |once |maybe |many |more |fin
 deriving DecidableEq
structure Pt where
 fm:Fm
 sb:Sb
 room:Nat
 deriving DecidableEq
noncomputable def k1 (k:Nat):Pt:=⟨.once,.t (.kept k),1⟩
noncomputable def s1 (k:Nat):Pt:=⟨.once,.t (.sign k),1⟩
noncomputable def nm:Pt:=⟨.once,.t .name,1⟩
noncomputable def nb:Pt:=⟨.once,.t .number,1⟩
noncomputable def o1 (x:Nt):Pt:=⟨.once,.n x,1⟩
noncomputable def mb (x:Nt):Pt:=⟨.maybe,.n x,1⟩
noncomputable def mn (x:Nt)(r:Nat):Pt:=⟨.many,.n x,r⟩
noncomputable def mr (x:Nt)(r:Nat):Pt:=⟨.more,.n x,r⟩
noncomputable def mrn (r:Nat):Pt:=⟨.more,.t .name,r⟩
noncomputable def x8:Nat:=1048576
noncomputable def fA:List Sy:=[.number,.name,.sign 27,.kept 6,.kept 17,.kept 11,.kept 0,.kept 9,.kept 8]
noncomputable def fO:List Sy:=[.sign 10,.sign 17,.sign 18,.number,.name,.sign 27,.kept 6,.kept 17,.kept 11,.kept 0,.kept 9,.kept 8]
noncomputable def fC:List Nat:=[18,19,20,21,22,23,24,25]
noncomputable def BI2 (l:List Sy)(p:List Pt):List (Sy×List Pt):=l.map fun y=>(y,p)
noncomputable def row:Nt->List (Sy×List Pt)
 |.DECL=>[(.kept 2,[k1 2,nm,s1 21,o1 .E,s1 24]),
  (.kept 16,[k1 16,nm,s1 23,o1 .CODE,s1 21,s1 29,o1 .E,mr .E 65535,s1 30,s1 24]),
  (.kept 4,[k1 4,nm,s1 27,nm,mrn 255,s1 28,s1 21,o1 .E,s1 24]),
  (.kept 10,[k1 10,nm,s1 27,o1 .PORT,mr .PORT 255,s1 28,s1 0,s1 27,o1 .PORT,mr .PORT 255,s1 28,s1 31,mn .STATE 256,mn .DO 256,s1 32]),
  (.kept 5,[k1 5,nm,s1 27,o1 .END,mr .END 255,s1 28,s1 0,s1 27,o1 .END,mr .END 255,s1 28,s1 31,mn .WIRE 256,s1 32])]
 |.CODE=>fC.map fun k=>(.kept k,[k1 k])
 |.KIND=>fC.map fun k=>(.kept k,[o1 .CODE,mb .INDEXES])
 |.PORT=>[(.name,[nm,s1 23,o1 .KIND,mb .DIVISOR])]
 |.END=>[(.name,[nm,s1 23,o1 .KIND,k1 1,o1 .SIZE,mb .DIVISOR])]
 |.DIVISOR=>[(.sign 12,[s1 12,o1 .SIZE])]
 |.STATE=>[(.kept 14,[k1 14,nm,s1 23,o1 .KIND,s1 21,o1 .E,s1 24])]
 |.DO=>[(.kept 7,[k1 7,nm,s1 21,o1 .E,s1 24]),(.name,[nm,mb .INDEX,s1 21,o1 .E,s1 24])]
 |.WIRE=>[(.name,[nm,o1 .WIRE_NAMED])]
 |.WIRE_NAMED=>[(.sign 25,[s1 25,nm,mrn 254,s1 21,nm,o1 .WIRE_INPUTS]),(.sign 21,[s1 21,o1 .WIRE_SOURCE])]
 |.WIRE_SOURCE=>[(.kept 3,[k1 3,o1 .SIZE,s1 27,o1 .E,s1 28,s1 27,nm,s1 28,s1 24]),(.name,[nm,o1 .WIRE_TAKEN])]
 |.WIRE_TAKEN=>[(.sign 27,[o1 .WIRE_INPUTS]),(.sign 24,[s1 24])]
 |.WIRE_INPUTS=>[(.sign 27,[s1 27,nm,mrn 255,s1 28,s1 24])]
 |.SIZE=>[(.number,[nb]),(.name,[nm]),(.sign 27,[s1 27,o1 .E,s1 28])]
 |.E=>[(.kept 15,[k1 15,nm,s1 19,o1 .SIZE,s1 23,o1 .E]),(.kept 12,[k1 12,nm,s1 19,o1 .SIZE,s1 23,o1 .E]),
  (.kept 13,[k1 13,nm,s1 25,nm,s1 19,o1 .SIZE,s1 25,o1 .SIZE,s1 23,o1 .E])]++BI2 fO [o1 .OR,mb .CHOICE]
 |.CHOICE=>[(.sign 22,[s1 22,o1 .E,s1 23,o1 .E])]
 |.OR=>BI2 fO [o1 .COMPARISON,mn .JOINED x8]
 |.JOINED=>[(.sign 8,[s1 8,o1 .COMPARISON]),(.sign 7,[s1 7,o1 .COMPARISON])]
 |.COMPARISON=>BI2 fO [o1 .FORMULA,mb .COMPARED]
 |.COMPARED=>[19,3,5,6,20,4].map fun k=>(.sign k,[s1 k,o1 .FORMULA])
 |.FORMULA=>BI2 fO [o1 .ONE,mn .OPERATED x8]
 |.OPERATED=>[15,16,14,1,2,9,10,11,12,13].map fun k=>(.sign k,[s1 k,o1 .ONE])
 |.ONE=>[(.sign 10,[s1 10,o1 .ONE]),(.sign 17,[s1 17,o1 .ONE]),(.sign 18,[s1 18,o1 .ONE])]++BI2 fA [o1 .ATOM,mn .BEHIND x8]
 |.BEHIND=>[(.sign 29,[o1 .INDEXES]),(.sign 26,[s1 26,o1 .SIZE])]
 |.INDEX=>[(.sign 29,[s1 29,o1 .E,s1 30])]
 |.INDEXES=>[(.sign 29,[s1 29,o1 .E,mb .SECOND,s1 30])]
 |.SECOND=>[(.sign 25,[s1 25,o1 .E])]
 |.ATOM=>[(.number,[nb]),(.name,[nm,mb .CALLED]),(.sign 27,[s1 27,o1 .E,s1 28]),(.kept 6,[k1 6,o1 .CODE,s1 27,o1 .E,s1 28]),
  (.kept 17,[k1 17,o1 .CODE,s1 27,o1 .E,s1 28]),(.kept 11,[k1 11,s1 27,o1 .E,s1 25,o1 .E,s1 28]),(.kept 0,[k1 0,s1 27,o1 .E,s1 28]),
  (.kept 9,[k1 9,s1 27,o1 .E,s1 25,o1 .E,s1 28]),(.kept 8,[k1 8,s1 27,o1 .E,s1 25,o1 .E,s1 28])]
 |.CALLED=>[(.sign 27,[s1 27,o1 .E,mr .E 255,s1 28])]
noncomputable def lk:List (Sy×List Pt)->Sy->Option (List Pt)
 |[],_=>none
 |(k,p)::r,y=>if k=y then some p else lk r y
noncomputable def L7 (x:Nt)(y:Sy):Option (List Pt):=lk (row x) y
noncomputable def keys (x:Nt):List Sy:=(row x).map (·.1)
noncomputable def B2 (b:Sb)(y:Sy):Bool:=match b with
 |.t z=>decide (z=y)
 |.n x=>(L7 x y).isSome
noncomputable def BT9:List Nt:=[.E,.ONE,.ATOM,.SIZE]
noncomputable def BU6:List Nt:=[.DECL,.PORT,.END,.STATE,.DO,.WIRE,.SIZE,.E,.OR,.ONE,.ATOM,.BEHIND]
noncomputable def W7 (b:Sb):Bool:=match b with
 |.t _=>false
 |.n x=>BT9.contains x
noncomputable def R5 (x:Nt):Bool:=BU6.contains x
structure Fr where
 fm:Fm
 sb:Sb
 room:Nat
 dp:Nat
 deriving DecidableEq
inductive Kd where
 |PROGRAM |n (x:Nt) |OPERATOR |POST |SUM |CHOICE |SIGNED
 deriving DecidableEq
inductive Nd where
 |mk (k:Kd) (i j:Nat) (pr:Bool) (st le:Nat) (c:List Nd)
namespace Nd
noncomputable def k:Nd->Kd |mk k _ _ _ _ _ _=>k
noncomputable def i:Nd->Nat |mk _ i _ _ _ _ _=>i
noncomputable def j:Nd->Nat |mk _ _ j _ _ _ _=>j
noncomputable def pr:Nd->Bool |mk _ _ _ p _ _ _=>p
noncomputable def st:Nd->Nat |mk _ _ _ _ s _ _=>s
noncomputable def le:Nd->Nat |mk _ _ _ _ _ l _=>l
noncomputable def c:Nd->List Nd |mk _ _ _ _ _ _ c=>c
noncomputable def setLe:Nd->Nat->Nd |mk k i j p s _ c,l=>mk k i j p s l c
end Nd
structure Op where
 k:Kd
 i:Nat
 c:List Nd
noncomputable def mkOp (s:Nat)(l r:Nd):Nd:=.mk .OPERATOR l.i r.j false s 0 [l.setLe (if s=4 then 5 else s),r.setLe (s+1)]
noncomputable def red (t:Nat):List Nd->List Nat->List Nd×List Nat
 |r::l::O,s::S=>if t<=s then red t (mkOp s l r::O) S else(r::l::O,s::S)
 |O,S=>(O,S)
termination_by structural _ S=>S
noncomputable def stL:List Nat:=[0,8,8,4,4,4,4,3,2,9,9,10,10,10,7,5,6,0,0,4,4]
noncomputable def stOf:Sy->Nat
 |.sign k=>stL.getD k 0
 |_=>0
noncomputable def F9 (p q:Nd):Nd:=.mk .POST p.i q.j false 12 0 (p.setLe 12::q.c)
section
variable (cy:Nat->Sy) (N:Nat)
noncomputable def AG2 (x:List Nd×List Nat)(n:Nd):List Nd×List Nat:=let y:=red (stOf (cy (n.i-1))) x.1 x.2
 (n::y.1,stOf (cy (n.i-1))::y.2)
noncomputable def A44 (n:Nd):Bool:=decide (1<=n.i/\n.i<=N/\2<=stOf (cy (n.i-1)))
noncomputable def Aw0:List Nd->Option Nd
 |[]=>none
 |n::r=>if r.all (A44 cy N)=true then(let x:=r.foldl (AG2 cy) ([n],[]);(red 0 x.1 x.2).1.head?)else none
noncomputable def BS7 (o:Op)(j:Nat):Option Nd:=if cy o.i=.kept 15∨cy o.i=.kept 12∨cy o.i=.kept 13 then some (.mk .SUM o.i j false 0 0 o.c)else match o.c with
  |[]=>none
  |n::r=>if r.isEmpty=true then some n else some (.mk .CHOICE o.i j false 1 0 (n.setLe 2::r))
noncomputable def AS7 (o:Op)(j:Nat):Option Nd:=match o.c with
  |[]=>none
  |n::r=>if cy o.i=.sign 10∨cy o.i=.sign 17∨cy o.i=.sign 18 then some (.mk .SIGNED o.i j false 11 0 (n.setLe 11::r))else if r.all (fun q=>decide (q.c.length<=2))=true then some (r.foldl F9 n)else none
noncomputable def AE3 (o:Op)(j:Nat)(l:Nat):Option Nd:=if cy o.i=.sign 27 then(match o.c with |[]=>none |n::r=>some (.mk o.k o.i j true n.st l (n::r)))else some (.mk o.k o.i j false (if 1<j-o.i then 12 else 13) 0 o.c)
noncomputable def fin (o:Op)(j:Nat):Option Nd:=if o.k=.n .E then BS7 cy o j else if o.k=.n .OR then Aw0 cy N o.c else if o.k=.n .ONE then AS7 cy o j else if o.k=.n .ATOM then AE3 cy o j 0 else if o.k=.n .SIZE then AE3 cy o j 13 else some (.mk o.k o.i j false 13 0 o.c)
structure Cf where
 frs:List Fr
 pos:Nat
 opn:List Op
inductive Res where
 |go (c:Cf)
 |bad (k:Nat)
 |stuck
inductive Fin where
 |fault (k i:Nat)
 |done (o:List Op)
noncomputable def faultOf (f:Fr)(y:Sy):Nat:=
 if B2 f.sb y=false then 2 else if W7 f.sb=true/\128<f.dp then 3 else if f.room<1 then 4 else 0
noncomputable def fr (d:Nat)(p:Pt):Fr:=⟨p.fm,p.sb,p.room,d⟩
noncomputable def R7 (x:Nt):List Fr:=if R5 x=true then [⟨.fin,.n x,1,0⟩]else []
noncomputable def V8 (x:Nt)(i:Nat):List Op:=if R5 x=true then [⟨.n x,i,[]⟩]else []
noncomputable def w8 (fs:List Fr)(i:Nat):List Op->Res
 |o::p::r=>match fin cy N o i with
  |some n=>if p.c.length<=N then .go ⟨fs,i,⟨p.k,p.i,p.c++[n]⟩::r⟩else .stuck
  |none=>.stuck
 |_=>.stuck
noncomputable def dps (x:Nt)(d:Nat):Nat:=if W7 (.n x)=true then d+1 else d
noncomputable def step (f:Fr)(fs:List Fr)(i:Nat)(opn:List Op):Res:=
 if N<i then .stuck
 else if f.fm=.fin then w8 cy N fs i opn
 else if cy i=.nothing then .bad 1
 else match f.fm with
  |.once=>if faultOf f (cy i)≠0 then .bad (faultOf f (cy i))else match f.sb with
   |.t _=>.go ⟨fs,i+1,opn⟩
   |.n x=>.go ⟨((L7 x (cy i)).getD []).map (fr (dps x f.dp))++(R7 x++fs),i,V8 x i++opn⟩
  |.more=>if cy i=.sign 25 then .go ⟨⟨.once,f.sb,f.room,f.dp⟩::⟨.more,f.sb,f.room-1,f.dp⟩::fs,i+1,opn⟩else .go ⟨fs,i,opn⟩
  |.many=>if B2 f.sb (cy i)=true then .go ⟨⟨.once,f.sb,f.room,f.dp⟩::⟨.many,f.sb,f.room-1,f.dp⟩::fs,i,opn⟩else .go ⟨fs,i,opn⟩
  |_=>if B2 f.sb (cy i)=true then .go ⟨⟨.once,f.sb,f.room,f.dp⟩::fs,i,opn⟩else .go ⟨fs,i,opn⟩
inductive Ends:List Fr->Nat->List Op->Fin->Prop where
 |done {i:Nat} {o:List Op}:Ends [] i o (.done o)
 |bad {f:Fr} {fs:List Fr} {i k:Nat} {o:List Op}:step cy N f fs i o=.bad k->Ends (f::fs) i o (.fault k i)
 |go {f:Fr} {fs:List Fr} {i:Nat} {o:List Op} {c:Cf} {R:Fin}:step cy N f fs i o=.go c->Ends c.frs c.pos c.opn R->Ends (f::fs) i o R
end
end Rd
namespace Rd
open Sw
noncomputable def F1:Tok->Sy
 |.name _=>.name
 |.num _=>.number
 |.kept k=>.kept k
 |.sign k=>.sign k
structure Tx where
 A:List Token
 nn:Option Nat
 hl:Nat
noncomputable def Tx.cy (X:Tx)(i:Nat):Sy:=match X.A[i]? with
 |some t=>F1 t.tok
 |none=>if X.nn.isSome=true then .nothing else .finish
noncomputable def Tx.plc (X:Tx)(i:Nat):Nat:=match X.A[i]? with
 |some t=>t.at_
 |none=>X.nn.getD X.hl
noncomputable def Tx.tk (X:Tx)(i:Nat):Option Tok:=(X.A[i]?).map (·.tok)
noncomputable abbrev Tx.N (X:Tx):Nat:=X.A.length
noncomputable def Tx.bg (X:Tx)(i:Nat):Nat:=((X.A[i]?).map (·.at_)).getD X.hl
noncomputable def Tx.en (X:Tx):Nat->Nat
 |0=>0
 |i+1=>((X.A[i]?).map fun t=>t.at_+t.len).getD 0
structure At (X:Tx)(s:PS)(i:Nat):Prop where
 le:i<=X.N
 t:s.toks=X.A.drop i
 n:s.none_=X.nn
 h:s.halt_=X.hl
 l:s.last=X.en i
noncomputable def adv (s:PS):PS:=match s.toks with
 |t::r=>{s with toks:=r,last:=t.at_+t.len}
 |[]=>s
theorem M6 (s:PS):next s=.ok ((),adv s):=rfl
theorem A81 (s:PS):peek s=.ok (s.toks.head?,s):=rfl
theorem A91 (s:PS):here s=.ok (((s.toks.head?).map fun(t:Token)=>t.at_).getD s.halt_,s):=rfl
theorem A3 {α β:Type}{a:P α}{b:α->P β}{s s1:PS}{x:α}(h:a s=.ok (x,s1)):(a>>=b) s=b x s1:=by
 show Except.bind (a s) _=_
 rw[h]
 rfl
theorem L4 {α β:Type}{a:P α}{b:α->P β}{s:PS}{e:Fault}(h:a s=.error e):(a>>=b) s=.error e:=by
 show Except.bind (a s) _=_
 rw[h]
 rfl
noncomputable def As5 (y:Sy):Prop:=y≠.nothing/\y≠.finish
section
variable {X:Tx} {s:PS} {i:Nat}
theorem E9 {t:Token}(e:X.A[i]?=some t):X.cy i=F1 t.tok/\X.plc i=t.at_/\X.tk i=some t.tok/\X.bg i=t.at_:=by
 unfold Tx.cy Tx.plc Tx.tk Tx.bg
 rw[e]
 exact⟨rfl,rfl,rfl,rfl⟩
theorem R4 (h:As5 (X.cy i)):∃t,X.A[i]?=some t:=by
 cases e:X.A[i]? with
 |some t=>exact⟨t,rfl⟩
 |none=>
  unfold Tx.cy at h
  rw[e]at h
  cases q:X.nn with
  |none=>rw[q]at h;exact(h.2 rfl).elim
  |some p=>rw[q]at h;exact(h.1 rfl).elim
theorem K1 {t:Token}(e:X.A[i]?=some t):i<X.N:=(List.getElem?_eq_some_iff.mp e).1
theorem At.head (h:At X s i):s.toks.head?=X.A[i]?:=by rw[h.t,List.head?_drop]
theorem At.cons (h:At X s i){t:Token}(e:X.A[i]?=some t):s.toks=t::X.A.drop (i+1):=by
 rw[h.t]
 exact List.drop_eq_getElem?_toList_append.trans (by rw[e];rfl)
theorem At.adv (h:At X s i){t:Token}(e:X.A[i]?=some t):At X (adv s) (i+1)/\(adv s).parts=s.parts:=by
 unfold Rd.adv
 rw[h.cons e]
 refine⟨⟨K1 e,rfl,h.n,h.h,?_⟩,rfl⟩
 show _=Option.getD _ _
 rw[e]
 rfl
theorem At.here (h:At X s i):Sw.here s=.ok (X.bg i,s):=by
 rw[A91,h.head,h.h]
 rfl
theorem At.stray (h:At X s i){α:Type}:(Sw.stray:P α) s=.error ⟨if X.cy i=.nothing then 1 else 2,X.plc i⟩:=by
 show(match s.toks,s.none_ with |t::_,_=>bad 2 t.at_ |[],some p=>bad 1 p |[],none=>bad 2 s.halt_:P α) s=_
 cases e:X.A[i]? with
 |some t=>
  rw[h.cons e,(E9 e).1,(E9 e).2.1]
  have:F1 t.tok≠.nothing:=by cases t.tok<;>simp[F1]
  rw[if_neg this]
  rfl
 |none=>
  have e0:s.toks=[]:=by
   rw[h.t]
   exact List.drop_eq_nil_of_le (List.getElem?_eq_none_iff.mp e)
  unfold Tx.cy Tx.plc
  rw[e0,h.n,h.h,e]
  cases X.nn<;>rfl
theorem At.peek (h:At X s i):Sw.peek s=.ok (X.A[i]?,s):=by rw[A81,h.head]
theorem Q8 (h:At X s i)(t:Tok):takesTok t s=if X.tk i=some t then .ok (true,Rd.adv s)else .ok (false,s):=by
 unfold takesTok
 rw[A3 h.peek]
 cases e:X.A[i]? with
 |none=>rw[if_neg (by unfold Tx.tk;rw[e];simp)];rfl
 |some x=>
  show(if x.tok=t then _ else _:P Bool) s=_
  rw[(E9 e).2.2.1]
  by_cases q:x.tok=t
  ·rw[if_pos q,if_pos (by rw[q])]
   rw[A3 (M6 s)]
   rfl
  ·rw[if_neg q,if_neg (fun z=>q (Option.some.inj z))]
   rfl
theorem Ab5 {k:Nat}:X.tk i=some (.sign k)↔X.cy i=.sign k:=by
 cases e:X.A[i]? with
 |none=>unfold Tx.tk Tx.cy;rw[e];cases X.nn<;>simp
 |some t=>
  rw[(E9 e).1,(E9 e).2.2.1]
  cases t.tok<;>simp[F1]
theorem AG3 {k:Nat}:X.tk i=some (.kept k)↔X.cy i=.kept k:=by
 cases e:X.A[i]? with
 |none=>unfold Tx.tk Tx.cy;rw[e];cases X.nn<;>simp
 |some t=>
  rw[(E9 e).1,(E9 e).2.2.1]
  cases t.tok<;>simp[F1]
theorem BF7 (h:X.cy i=.name):∃b,X.tk i=some (.name b):=by
 obtain⟨t,e⟩:=R4 (X:=X) (i:=i) (by rw[h];exact⟨by simp,by simp⟩)
 rw[(E9 e).1]at h
 rw[(E9 e).2.2.1]
 cases q:t.tok with
 |name b=>exact⟨b,rfl⟩
 |num _=>rw[q]at h;cases h
 |kept _=>rw[q]at h;cases h
 |sign _=>rw[q]at h;cases h
theorem Av2 {t:Tok}(h:X.tk i=some t):X.cy i=F1 t/\∃u,X.A[i]?=some u/\u.tok=t:=by
 unfold Tx.tk at h
 obtain⟨u,e,q⟩:=Option.map_eq_some_iff.mp h
 exact⟨by rw[(E9 e).1,q],u,e,q⟩
theorem G8 (h:At X s i){x:String}(e:X.cy i=.sign (signNo x)):takes x s=.ok (true,Rd.adv s):=by
 unfold takes;rw[Q8 h,if_pos (Ab5.mpr e)]
theorem F7 (h:At X s i){x:String}(e:X.cy i≠.sign (signNo x)):takes x s=.ok (false,s):=by
 unfold takes;rw[Q8 h,if_neg (fun q=>e (Ab5.mp q))]
theorem Q6 (h:At X s i){x:String}(e:X.cy i=.kept (keptNo x)):takesWord x s=.ok (true,Rd.adv s):=by
 unfold takesWord;rw[Q8 h,if_pos (AG3.mpr e)]
theorem P2 (h:At X s i){x:String}(e:X.cy i≠.kept (keptNo x)):takesWord x s=.ok (false,s):=by
 unfold takesWord;rw[Q8 h,if_neg (fun q=>e (AG3.mp q))]
theorem T6 (h:At X s i){x:String}(e:X.cy i=.sign (signNo x)):wants x s=.ok ((),Rd.adv s):=by
 unfold wants;rw[A3 (G8 h e)];rfl
theorem U1 (h:At X s i){x:String}(e:X.cy i≠.sign (signNo x)):wants x s=stray s:=by
 unfold wants;rw[A3 (F7 h e)];rfl
theorem A00 (h:At X s i){b:Bytes}(e:X.tk i=some (.name b)):wantsName s=.ok (b,Rd.adv s):=by
 obtain⟨_,u,eu,q⟩:=Av2 e
 unfold wantsName
 rw[A3 h.peek,eu]
 obtain⟨p,l,k⟩:=u
 cases q
 show(next>>=fun _=>pure b:P Bytes) s=_
 rw[A3 (M6 s)];rfl
theorem a7 (h:At X s i)(e:X.cy i≠.name):wantsName s=stray s:=by
 unfold wantsName
 rw[A3 h.peek]
 cases q:X.A[i]? with
 |none=>rfl
 |some u=>
  rw[(E9 q).1]at e
  obtain⟨p,l,k⟩:=u
  cases k with
  |name b=>exact(e rfl).elim
  |_=>rfl
theorem AO4 (k:Nat):codeOf k=if 18<=k/\k<26 then some (k-18)else none:=by
 have e1:keptNo "u8"=18:=by decide
 have e2:kept.length=26:=by decide
 unfold codeOf
 rw[e1,e2]
theorem Au4 (h:At X s i){k:Nat}(hk:18<=k/\k<26)(e:X.cy i=.kept k):wantsCode s=.ok (k-18,Rd.adv s):=by
 obtain⟨_,u,eu,q⟩:=Av2 (AG3.mpr e)
 unfold wantsCode
 rw[A3 h.peek,eu]
 obtain⟨p,l,k'⟩:=u
 cases q
 show(match codeOf k with |some c=>_ |none=>_:P Code) s=_
 rw[AO4,if_pos hk]
 show(next>>=fun _=>pure (k-18):P Code) s=_
 rw[A3 (M6 s)];rfl
theorem Ak3 (h:At X s i)(e:∀k,X.cy i=.kept k->¬(18<=k/\k<26)):wantsCode s=stray s:=by
 unfold wantsCode
 rw[A3 h.peek]
 cases q:X.A[i]? with
 |none=>rfl
 |some u=>
  rw[(E9 q).1]at e
  obtain⟨p,l,k⟩:=u
  cases k with
  |kept k=>
   show(match codeOf k with |some c=>_ |none=>_:P Code) s=_
   rw[AO4,if_neg (e k rfl)]
  |_=>rfl
theorem C0 {α β:Type}{a:P α}{b:α->P β}(h:At X s i)(e:a s=stray s):(a>>=b) s=stray s:=by
 rw[h.stray]at e ⊢
 exact L4 e
end
end Rd
namespace Rd
open Sw
noncomputable abbrev En (X:Tx)(fs:List Fr)(i:Nat)(o:List Op)(R:Fin):Prop:=Ends X.cy X.N fs i o R
noncomputable def push (ns:List Nd):List Op->List Op
 |[]=>[]
 |o::r=>⟨o.k,o.i,o.c++ns⟩::r
theorem AX0 (st:List Op):push [] st=st:=by
 cases st with
 |nil=>rfl
 |cons o r=>show(⟨o.k,o.i,o.c++[]⟩:Op)::r=_;rw[List.append_nil]
theorem AJ8 (ns ms:List Nd)(st:List Op):push ms (push ns st)=push (ns++ms) st:=by
 cases st with
 |nil=>rfl
 |cons o r=>show(⟨o.k,o.i,o.c++ns++ms⟩:Op)::r=⟨o.k,o.i,o.c++(ns++ms)⟩::r;rw[List.append_assoc]
noncomputable def Okst (st:List Op)(i:Nat):Prop:=∃o r,st=o::r/\o.c.length<=i
theorem Okst.push {st:List Op}{i j:Nat}{ns:List Nd}(h:Okst st i)(hl:i+ns.length<=j):Okst (push ns st) j:=by
 obtain⟨o,r,rfl,h⟩:=h
 exact⟨_,_,rfl,by show(o.c++ns).length<=j;rw[List.length_append];omega⟩
noncomputable def Real (fs:List Fr):Prop:=∃f∈fs,f.fm≠.fin
theorem Real.app {fs gs:List Fr}(h:Real gs):Real (fs++gs):=let ⟨f,hf,q⟩:=h;⟨f,List.mem_append_right _ hf,q⟩
theorem Real.cons {f:Fr}{gs:List Fr}(h:Real gs):Real (f::gs):=Real.app (fs:=[f]) h
section
variable {X:Tx} {i:Nat} {fs:List Fr} {st:List Op} {R:Fin} {f:Fr}
theorem S5 (hi:i<=X.N)(hf:f.fm≠.fin)(hn:X.cy i=.nothing):En X (f::fs) i st (.fault 1 i):=by
 refine .bad ?_
 unfold step
 rw[if_neg (Nat.not_lt.mpr hi),if_neg hf,if_pos hn]
theorem Af3 (hi:i<=X.N)(hf:f.fm=.once)(hn:X.cy i≠.nothing)(hb:faultOf f (X.cy i)≠0):En X (f::fs) i st (.fault (faultOf f (X.cy i)) i):=by
 refine .bad ?_
 unfold step
 rw[if_neg (Nat.not_lt.mpr hi),if_neg (by rw[hf];decide),if_neg hn,hf]
 exact if_pos hb
theorem Am0 (hi:i<=X.N)(hf:f.fm=.once)(hc:B2 f.sb (X.cy i)=false):En X (f::fs) i st (.fault (if X.cy i=.nothing then 1 else 2) i):=by
 by_cases h:X.cy i=.nothing
 ·rw[if_pos h];exact S5 hi (by rw[hf];decide) h
 ·rw[if_neg h]
  have e:faultOf f (X.cy i)=2:=by unfold faultOf;rw[if_pos hc]
  have:=Af3 (fs:=fs) (st:=st) hi hf h (by rw[e];decide)
  rw[e]at this
  exact this
theorem A10 {y:Sy}(hc:B2 f.sb y=true)(hd:¬(W7 f.sb=true/\128<f.dp))(hr:1<=f.room):faultOf f y=0:=by
 unfold faultOf
 rw[if_neg (by rw[hc];decide),if_neg hd,if_neg (by omega)]
theorem Au8 {y:Sy}{r d:Nat}(hi:i<=X.N)(hc:X.cy i=y)(hn:y≠.nothing)(hr:1<=r)(h:En X fs (i+1) st R):En X (⟨.once,.t y,r,d⟩::fs) i st R:=by
 refine .go (c:=⟨fs,i+1,st⟩) ?_ h
 unfold step
 rw[if_neg (Nat.not_lt.mpr hi),if_neg (fun q=>nomatch q),hc,if_neg hn]
 have e:faultOf ⟨.once,.t y,r,d⟩ y=0:=A10 (by show decide (y=y)=true;exact decide_eq_true rfl) (fun q=>by cases q.1) hr
 show(if faultOf _ _≠0 then _ else _)=_
 rw[e]
 rfl
theorem BA0 {x:Nt}{r d:Nat}{ps:List Pt}(hi:i<=X.N)(hw:L7 x (X.cy i)=some ps)(hn:X.cy i≠.nothing)(hd:¬(W7 (.n x)=true/\128<d))(hr:1<=r)(h:En X (ps.map (fr (dps x d))++(R7 x++fs)) i (V8 x i++st) R):En X (⟨.once,.n x,r,d⟩::fs) i st R:=by
 refine .go (c:=⟨_,i,_⟩) ?_ h
 unfold step
 rw[if_neg (Nat.not_lt.mpr hi),if_neg (fun q=>nomatch q),if_neg hn]
 have e:faultOf ⟨.once,.n x,r,d⟩ (X.cy i)=0:=A10 (by show(L7 x (X.cy i)).isSome=true;rw[hw];rfl) hd hr
 show(if faultOf _ _≠0 then _ else Res.go _)=_
 rw[e,hw]
 rfl
theorem Ao4 {b:Sb}{r d:Nat}(hi:i<=X.N)(hc:X.cy i=.sign 25)(h:En X (⟨.once,b,r,d⟩::⟨.more,b,r-1,d⟩::fs) (i+1) st R):En X (⟨.more,b,r,d⟩::fs) i st R:=by
 refine .go (c:=⟨_,_,_⟩) ?_ h
 unfold step
 rw[if_neg (Nat.not_lt.mpr hi),if_neg (fun q=>nomatch q),hc,if_neg (by decide)]
 exact if_pos rfl
theorem A95 {b:Sb}{r d:Nat}(hi:i<=X.N)(hn:X.cy i≠.nothing)(hc:X.cy i≠.sign 25)(h:En X fs i st R):En X (⟨.more,b,r,d⟩::fs) i st R:=by
 refine .go (c:=⟨_,_,_⟩) ?_ h
 unfold step
 rw[if_neg (Nat.not_lt.mpr hi),if_neg (fun q=>nomatch q),if_neg hn]
 exact if_neg hc
theorem S6 {b:Sb}{r d:Nat}(hi:i<=X.N)(hn:X.cy i≠.nothing)(hc:B2 b (X.cy i)=true)(h:En X (⟨.once,b,r,d⟩::⟨.many,b,r-1,d⟩::fs) i st R):En X (⟨.many,b,r,d⟩::fs) i st R:=by
 refine .go (c:=⟨_,_,_⟩) ?_ h
 unfold step
 rw[if_neg (Nat.not_lt.mpr hi),if_neg (fun q=>nomatch q),if_neg hn]
 exact if_pos hc
theorem AQ2 {b:Sb}{r d:Nat}(hi:i<=X.N)(hn:X.cy i≠.nothing)(hc:B2 b (X.cy i)=false)(h:En X fs i st R):En X (⟨.many,b,r,d⟩::fs) i st R:=by
 refine .go (c:=⟨_,_,_⟩) ?_ h
 unfold step
 rw[if_neg (Nat.not_lt.mpr hi),if_neg (fun q=>nomatch q),if_neg hn]
 exact if_neg (by rw[hc];decide)
theorem AU9 {b:Sb}{r d:Nat}(hi:i<=X.N)(hn:X.cy i≠.nothing)(hc:B2 b (X.cy i)=true)(h:En X (⟨.once,b,r,d⟩::fs) i st R):En X (⟨.maybe,b,r,d⟩::fs) i st R:=by
 refine .go (c:=⟨_,_,_⟩) ?_ h
 unfold step
 rw[if_neg (Nat.not_lt.mpr hi),if_neg (fun q=>nomatch q),if_neg hn]
 exact if_pos hc
theorem As1 {b:Sb}{r d:Nat}(hi:i<=X.N)(hn:X.cy i≠.nothing)(hc:B2 b (X.cy i)=false)(h:En X fs i st R):En X (⟨.maybe,b,r,d⟩::fs) i st R:=by
 refine .go (c:=⟨_,_,_⟩) ?_ h
 unfold step
 rw[if_neg (Nat.not_lt.mpr hi),if_neg (fun q=>nomatch q),if_neg hn]
 exact if_neg (by rw[hc];decide)
theorem BU2 {x:Nt}{o p:Op}{n:Nd}(hi:i<=X.N)(he:fin X.cy X.N o i=some n)(hp:p.c.length<=X.N)(h:En X fs i (⟨p.k,p.i,p.c++[n]⟩::st) R):En X (⟨.fin,.n x,1,0⟩::fs) i (o::p::st) R:=by
 refine .go (c:=⟨_,_,_⟩) ?_ h
 unfold step
 rw[if_neg (Nat.not_lt.mpr hi),if_pos rfl]
 show(match fin X.cy X.N o i with |some n=>_ |none=>_)=_
 rw[he]
 exact if_pos hp
theorem V6 (hn:X.cy i=.nothing):∀{fs:List Fr} {st:List Op},Real fs->En X fs i st R->R=.fault 1 i:=by
 intro fs
 induction fs with
 |nil=>rintro st ⟨f,hf,_⟩ _;cases hf
 |cons f fs ih=>
  intro st hr h
  by_cases hf:f.fm=.fin
  ·have hr':Real fs:=by
    obtain⟨g,hg,q⟩:=hr
    rcases List.mem_cons.mp hg with rfl |hg
    ·exact(q hf).elim
    ·exact⟨g,hg,q⟩
   have key:step X.cy X.N f fs i st=.stuck∨∃o,step X.cy X.N f fs i st=.go ⟨fs,i,o⟩:=by
    unfold step
    by_cases hN:X.N<i
    ·exact .inl (if_pos hN)
    ·rw[if_neg hN,if_pos hf]
     unfold w8
     split
     ·split
      ·split
       ·exact .inr ⟨_,rfl⟩
       ·exact .inl rfl
      ·exact .inl rfl
     ·exact .inl rfl
   cases h with
   |bad e=>rcases key with q |⟨o,q⟩<;>(rw[q]at e;cases e)
   |go e h2=>
    rcases key with q |⟨o,q⟩
    ·rw[q]at e;cases e
    ·rw[q]at e;cases e;exact ih hr' h2
  ·have key:step X.cy X.N f fs i st=.stuck∨step X.cy X.N f fs i st=.bad 1:=by
    unfold step
    by_cases hN:X.N<i
    ·exact .inl (if_pos hN)
    ·rw[if_neg hN,if_neg hf,if_pos hn];exact .inr rfl
   cases h with
   |bad e=>rcases key with q |q<;>(rw[q]at e;cases e);rfl
   |go e h2=>rcases key with q |q<;>(rw[q]at e;cases e)
theorem AN2 {b:Sb}{r d:Nat}(hi:i<=X.N)(hr:Real fs)(hc:B2 b (X.cy i)=false)(h:En X fs i st R):En X (⟨.many,b,r,d⟩::fs) i st R:=by
 by_cases hn:X.cy i=.nothing
 ·rw[V6 hn hr h];exact S5 hi (fun q=>nomatch q) hn
 ·exact AQ2 hi hn hc h
theorem Aj1 {b:Sb}{r d:Nat}(hi:i<=X.N)(hr:Real fs)(hc:B2 b (X.cy i)=false)(h:En X fs i st R):En X (⟨.maybe,b,r,d⟩::fs) i st R:=by
 by_cases hn:X.cy i=.nothing
 ·rw[V6 hn hr h];exact S5 hi (fun q=>nomatch q) hn
 ·exact As1 hi hn hc h
theorem BH8 {b:Sb}{r d:Nat}(hi:i<=X.N)(hr:Real fs)(hc:X.cy i≠.sign 25)(h:En X fs i st R):En X (⟨.more,b,r,d⟩::fs) i st R:=by
 by_cases hn:X.cy i=.nothing
 ·rw[V6 hn hr h];exact S5 hi (fun q=>nomatch q) hn
 ·exact A95 hi hn hc h
end
noncomputable def Bd6 (X:Tx)(fs:List Fr)(i j:Nat)(ns:List Nd):Prop:=∀rest st R,Real rest->Okst st i->En X rest j (push ns st) R->En X (fs++rest) i st R
noncomputable def Bad (X:Tx)(fs:List Fr)(i:Nat)(e:Fault):Prop:=∃p,e.at_=X.plc p/\∀rest st,Real rest->Okst st i->En X (fs++rest) i st (.fault e.kind p)
noncomputable def Sim {α:Type}(X:Tx)(fs:List Fr)(a:P α)(i k:Nat)(Q:α->Nat->List Nd->List Part->Prop):Prop:=∀s,At X s i->match a s with
 |.ok (x,s')=>∃j ns ps,At X s' j/\i+k<=j/\i+ns.length<=j/\s'.parts=s.parts++ps/\Q x j ns ps/\Bd6 X fs i j ns
 |.error e=>Bad X fs i e
section
variable {α β:Type} {X:Tx} {fs gs:List Fr} {a a':P α} {b:α->P β} {i k k1:Nat} {Q Q':α->Nat->List Nd->List Part->Prop} {Qb:β->Nat->List Nd->List Part->Prop}
theorem Sim.ok {x:α}(h:∀s,At X s i->a s=.ok (x,s))(q:Q x i [] [])(hc:∀rest st R,i<=X.N->Real rest->Okst st i->En X rest i st R->En X (fs++rest) i st R):Sim X fs a i 0 Q:=by
 intro s hs
 rw[h s hs]
 refine⟨i,[],[],hs,Nat.le_refl _,Nat.le_refl _,(List.append_nil _).symm,q,fun rest st R hr ho hE=>hc rest st R hs.le hr ho ?_⟩
 rw[AX0]at hE
 exact hE
theorem Sim.ret {x:α}(q:Q x i [] []):Sim X [] (pure x) i 0 Q:=Sim.ok (fun _ _=>rfl) q fun _ _ _ _ _ _ h=>h
theorem Sim.congr (h:∀s,At X s i->a s=a' s)(hs:Sim X fs a' i k Q):Sim X fs a i k Q:=by
 intro s hA
 rw[h s hA]
 exact hs s hA
theorem Sim.conv (hs:Sim X gs a i k Q)(hc:∀rest st R,i<=X.N->Real rest->Okst st i->En X (gs++rest) i st R->En X (fs++rest) i st R):Sim X fs a i k Q:=by
 intro s hA
 have h:=hs s hA
 cases e:a s with
 |ok x=>
  rw[e]at h
  obtain⟨j,ns,ps,h1,h2,h3,h4,h5,h6⟩:=h
  exact⟨j,ns,ps,h1,h2,h3,h4,h5,fun rest st R hr ho hE=>hc rest st R hA.le hr ho (h6 rest st R hr ho hE)⟩
 |error e'=>
  rw[e]at h
  obtain⟨p,h1,h2⟩:=h
  exact⟨p,h1,fun rest st hr ho=>hc rest st _ hA.le hr ho (h2 rest st hr ho)⟩
theorem Sim.mono (hs:Sim X fs a i k Q)(hk:k1<=k)(hq:∀x j ns ps,Q x j ns ps->Q' x j ns ps):Sim X fs a i k1 Q':=by
 intro s hA
 have h:=hs s hA
 cases e:a s with
 |ok x=>
  rw[e]at h
  obtain⟨j,ns,ps,h1,h2,h3,h4,h5,h6⟩:=h
  exact⟨j,ns,ps,h1,by omega,h3,h4,hq _ _ _ _ h5,h6⟩
 |error e'=>rw[e]at h;exact h
theorem Sim.bind (h1:Sim X fs a i k1 Q)(h2:∀x j ns ps,Q x j ns ps->i+k1<=j->j<=X.N->Sim X gs (b x) j (k-k1) fun y j' ns' ps'=>Qb y j' (ns++ns') (ps++ps')):Sim X (fs++gs) (a>>=b) i k Qb:=by
 intro s hA
 have h1:=h1 s hA
 cases e:a s with
 |error e'=>
  rw[e]at h1
  rw[L4 e]
  obtain⟨p,g1,g2⟩:=h1
  exact⟨p,g1,fun rest st hr ho=>by rw[List.append_assoc];exact g2 _ _ hr.app ho⟩
 |ok x=>
  obtain⟨x,s1⟩:=x
  rw[e]at h1
  obtain⟨j,ns,ps,g1,g2,g3,g4,g5,g6⟩:=h1
  have h2:=h2 x j ns ps g5 g2 g1.le s1 g1
  rw[A3 e]
  cases e2:b x s1 with
  |error e'=>
   rw[e2]at h2
   obtain⟨p,q1,q2⟩:=h2
   exact⟨p,q1,fun rest st hr ho=>by rw[List.append_assoc];exact g6 _ _ _ hr.app ho (q2 _ _ hr (ho.push g3))⟩
  |ok y=>
   obtain⟨y,s2⟩:=y
   rw[e2]at h2
   obtain⟨j',ns',ps',q1,q2,q3,q4,q5,q6⟩:=h2
   refine⟨j',ns++ns',ps++ps',q1,by omega,by rw[List.length_append];omega,by rw[q4,g4,List.append_assoc],q5,fun rest st R hr ho hE=>?_⟩
   rw[List.append_assoc]
   refine g6 _ _ _ hr.app ho (q6 _ _ _ hr (ho.push g3) ?_)
   rw[AJ8]
   exact hE
theorem Sim.part {w p:Nat}{c:Unit->P β}(h:Sim X fs (c ()) i k fun y j ns ps=>Qb y j ns (⟨w,p,X.en i-p⟩::ps)):Sim X fs (Sw.part w p>>=c) i k Qb:=by
 intro s hA
 have e:Sw.part w p s=.ok ((),{s with parts:=s.parts++[⟨w,p,X.en i-p⟩]}):=by rw[←hA.l];rfl
 have h:=h {s with parts:=s.parts++[⟨w,p,X.en i-p⟩]} ⟨hA.le,hA.t,hA.n,hA.h,hA.l⟩
 rw[A3 e]
 cases e2:c () {s with parts:=s.parts++[⟨w,p,X.en i-p⟩]}with
 |ok x=>
  rw[e2]at h
  obtain⟨j,ns,ps,h1,h2,h3,h4,h5,h6⟩:=h
  exact⟨j,ns,_,h1,h2,h3,by rw[h4];show _++[_]++_=_;rw[List.append_assoc];rfl,h5,h6⟩
 |error e'=>rw[e2]at h;exact h
theorem Sim.here {c:Nat->P β}(h:Sim X fs (c (X.bg i)) i k Qb):Sim X fs (Sw.here>>=c) i k Qb:=Sim.congr (fun s hA=>A3 hA.here) h
theorem Sim.peek {c:Option Token->P β}(h:Sim X fs (c X.A[i]?) i k Qb):Sim X fs (Sw.peek>>=c) i k Qb:=Sim.congr (fun s hA=>A3 hA.peek) h
theorem Sim.adv {y:Sy}{r d:Nat}(hc:X.cy i=y)(hy:As5 y)(hr:1<=r)(h:∀s,At X s i->a s=a' (adv s))(hs:Sim X fs a' (i+1) (k-1) Q):Sim X (⟨.once,.t y,r,d⟩::fs) a i k Q:=by
 intro s hA
 obtain⟨t,et⟩:=R4 (X:=X) (i:=i) (by rw[hc];exact hy)
 have hv:=hA.adv et
 have hs:=hs _ hv.1
 rw[h s hA]
 cases e:a' (Rd.adv s)with
 |ok x=>
  rw[e]at hs
  obtain⟨j,ns,ps,h1,h2,h3,h4,h5,h6⟩:=hs
  exact⟨j,ns,ps,h1,by omega,by omega,by rw[h4,hv.2],h5,fun rest st R hr' ho hE=>Au8 hA.le hc hy.1 hr (h6 rest st R hr' (let ⟨o,r,e1,e2⟩:=ho;⟨o,r,e1,by omega⟩) hE)⟩
 |error e'=>
  rw[e]at hs
  obtain⟨p,h1,h2⟩:=hs
  exact⟨p,h1,fun rest st hr' ho=>Au8 hA.le hc hy.1 hr (h2 rest st hr' (let ⟨o,r,e1,e2⟩:=ho;⟨o,r,e1,by omega⟩))⟩
theorem Sim.stray {f:Fr}(hf:f.fm=.once)(hc:B2 f.sb (X.cy i)=false)(h:∀s,At X s i->a s=Sw.stray s):Sim X (f::fs) a i k Q:=by
 intro s hA
 rw[h s hA,hA.stray]
 exact⟨i,rfl,fun rest st _ _=>Am0 hA.le hf hc⟩
theorem Sim.err {e:Fault}(h:∀s,At X s i->a s=.error e)(hb:i<=X.N->Bad X fs i e):Sim X fs a i k Q:=by
 intro s hA
 rw[h s hA]
 exact hb hA.le
theorem p5 {x:Nt}{y:Sy}{ps:List Pt}(h:L7 x y=some ps):As5 y:=by
 refine⟨fun q=>?_,fun q=>?_⟩
 ·have:L7 x y=none:=by rw[q];cases x<;>rfl
  rw[this]at h
  cases h
 ·have:L7 x y=none:=by rw[q];cases x<;>rfl
  rw[this]at h
  cases h
theorem Sim.exp {x:Nt}{r d:Nat}{ps:List Pt}(hw:L7 x (X.cy i)=some ps)(ht:R5 x=false)(hd:W7 (.n x)=false)(hr:1<=r)(hs:Sim X (ps.map (fr d)++gs) a i k Q):Sim X (⟨.once,.n x,r,d⟩::gs) a i k Q:=by
 refine hs.conv fun rest st R hi hr' ho hE=>BA0 hi hw (p5 hw).1 (by rw[hd];simp) hr ?_
 unfold R7 V8 dps
 rw[ht,hd]
 rw[List.append_assoc]at hE
 exact hE
theorem Sim.node {x:Nt}{r d:Nat}{ps:List Pt}(hw:L7 x (X.cy i)=some ps)(ht:R5 x=true)(hd:¬(W7 (.n x)=true/\128<d))(hr:1<=r)(hk:1<=k)(hs:Sim X (ps.map (fr (dps x d))) a i k Q')
  (hq:∀y j ns qs,Q' y j ns qs->i<j->∃n,fin X.cy X.N ⟨.n x,i,ns⟩ j=some n/\Q y j [n] qs):Sim X [⟨.once,.n x,r,d⟩] a i k Q:=by
 have opn:∀rest st R,i<=X.N->En X (ps.map (fr (dps x d))++(⟨.fin,.n x,1,0⟩::rest)) i (⟨.n x,i,[]⟩::st) R->En X (⟨.once,.n x,r,d⟩::rest) i st R:=by
  intro rest st R hi hE
  refine BA0 hi hw (p5 hw).1 hd hr ?_
  unfold R7 V8
  rw[ht]
  exact hE
 intro s hA
 have h:=hs s hA
 cases e:a s with
 |ok y=>
  rw[e]at h
  obtain⟨j,ns,qs,h1,h2,h3,h4,h5,h6⟩:=h
  obtain⟨n,hn,hQ⟩:=hq _ j ns qs h5 (by omega)
  refine⟨j,[n],qs,h1,h2,by show i+1<=j;omega,h4,hQ,fun rest st R hr' ho hE=>opn rest st R hA.le ?_⟩
  obtain⟨o,r,rfl,hoc⟩:=ho
  refine h6 _ _ _ hr'.cons ⟨_,_,rfl,Nat.zero_le _⟩ ?_
  exact BU2 h1.le hn (by have:=h1.le;omega) hE
 |error e'=>
  rw[e]at h
  obtain⟨p,h1,h2⟩:=h
  refine⟨p,h1,fun rest st hr' ho=>opn rest st _ hA.le ?_⟩
  exact h2 _ _ hr'.cons ⟨_,_,rfl,Nat.zero_le _⟩
end
noncomputable abbrev O (x:Nt)(r d:Nat):Fr:=⟨.once,.n x,r,d⟩
noncomputable abbrev Tm (y:Sy)(d:Nat):Fr:=⟨.once,.t y,1,d⟩
noncomputable abbrev Mb (x:Nt)(d:Nat):Fr:=⟨.maybe,.n x,1,d⟩
section
variable {α β:Type} {X:Tx} {fs gs:List Fr} {i k d r:Nat} {Q:β->Nat->List Nd->List Part->Prop}
theorem Ac5 {y:Sy}{z:Sy}(h:z≠y):B2 (.t y) z=false:=decide_eq_false fun q=>h q.symm
theorem Sim.want {x:String}{m:Nat}{c:Unit->P β}(hx:signNo x=m)(h:X.cy i=.sign m->Sim X fs (c ()) (i+1) (k-1) Q):Sim X (Tm (.sign m) d::fs) (wants x>>=c) i k Q:=by
 subst hx
 by_cases e:X.cy i=.sign (signNo x)
 ·exact Sim.adv e ⟨by simp,by simp⟩ (Nat.le_refl _) (fun s hA=>A3 (T6 hA e)) (h e)
 ·exact Sim.stray rfl (Ac5 e) fun s hA=>C0 hA (U1 hA e)
theorem Sim.name {c:Bytes->P β}(hr:1<=r)(h:∀b,X.tk i=some (.name b)->Sim X fs (c b) (i+1) (k-1) Q):Sim X (⟨.once,.t .name,r,d⟩::fs) (wantsName>>=c) i k Q:=by
 by_cases e:X.cy i=.name
 ·obtain⟨b,hb⟩:=BF7 e
  exact Sim.adv e ⟨by simp,by simp⟩ hr (fun s hA=>A3 (A00 hA hb)) (h b hb)
 ·exact Sim.stray rfl (Ac5 e) fun s hA=>C0 hA (a7 hA e)
theorem A09 {k:Nat}(h:18<=k/\k<26):L7 .CODE (.kept k)=some [k1 k]/\L7 .KIND (.kept k)=some [o1 .CODE,mb .INDEXES]:=by
 have all:∀k,k<26->18<=k->L7 .CODE (.kept k)=some [k1 k]/\L7 .KIND (.kept k)=some [o1 .CODE,mb .INDEXES]:=by decide
 exact all k h.2 h.1
theorem BG3 {l:List (Sy×List Pt)}{y:Sy}(h:y∉l.map (·.1)):lk l y=none:=by
 induction l with
 |nil=>rfl
 |cons p r ih=>
  rw[List.map_cons,List.mem_cons,not_or]at h
  show(if p.1=y then _ else _)=_
  rw[if_neg (fun q=>h.1 q.symm)]
  exact ih h.2
theorem BD2 {l:List (Sy×List Pt)}{y:Sy}(h:y∈l.map (·.1)):(lk l y).isSome=true:=by
 induction l with
 |nil=>cases h
 |cons p r ih=>
  show(if p.1=y then some p.2 else lk r y).isSome=true
  by_cases q:p.1=y
  ·rw[if_pos q];rfl
  ·rw[if_neg q]
   rw[List.map_cons,List.mem_cons]at h
   exact ih (h.resolve_left fun z=>q z.symm)
theorem G4 {x:Nt}{y:Sy}(h:y∉keys x):B2 (.n x) y=false:=by
 show(lk (row x) y).isSome=false
 rw[BG3 h];rfl
theorem L5 {x:Nt}{y:Sy}(h:y∈keys x):B2 (.n x) y=true:=BD2 h
theorem T9 {x:Nt}{y:Sy}:B2 (.n x) y=decide (y∈keys x):=by
 by_cases h:y∈keys x
 ·rw[L5 h,decide_eq_true h]
 ·rw[G4 h,decide_eq_false h]
theorem AK1 {x:Nt}(hx:x=.CODE∨x=.KIND){y:Sy}(h:∀k,y=.kept k->¬(18<=k/\k<26)):y∉keys x:=by
 intro q
 have:∃k∈fC,y=.kept k:=by
  rcases hx with rfl |rfl
  ·have q:y∈(fC.map fun k=>(Sy.kept k,[k1 k])).map (·.1):=q
   rw[List.map_map]at q
   obtain⟨k,hk,rfl⟩:=List.mem_map.mp q
   exact⟨k,hk,rfl⟩
  ·have q:y∈(fC.map fun k=>(Sy.kept k,[o1 .CODE,mb .INDEXES])).map (·.1):=q
   rw[List.map_map]at q
   obtain⟨k,hk,rfl⟩:=List.mem_map.mp q
   exact⟨k,hk,rfl⟩
 obtain⟨k,hk,rfl⟩:=this
 have all:∀k∈fC,18<=k/\k<26:=by decide
 exact h k rfl (all k hk)
theorem AA4 (X:Tx)(i:Nat):(∃k,X.cy i=.kept k/\(18<=k/\k<26))∨∀k,X.cy i=.kept k->¬(18<=k/\k<26):=by
 cases X.cy i with
 |kept k=>
  by_cases h:18<=k/\k<26
  ·exact .inl ⟨k,rfl,h⟩
  ·exact .inr fun k' e=>by cases e;exact h
 |_=>exact .inr fun k' e=>by cases e
theorem Sim.code {c:Code->P β}(h:∀m,X.cy i=.kept (18+m)->m<8->Sim X fs (c m) (i+1) (k-1) Q):Sim X (O .CODE 1 d::fs) (wantsCode>>=c) i k Q:=by
 rcases AA4 X i with ⟨m,e,hm⟩ |e
 ·have hm':18+(m-18)=m:=by omega
  refine Sim.exp (ps:=[k1 m]) (by rw[e];exact(A09 hm).1) rfl rfl (Nat.le_refl _) ?_
  exact Sim.adv e ⟨by simp,by simp⟩ (Nat.le_refl _) (fun s hA=>A3 (Au4 hA hm e)) (h (m-18) (by rw[hm'];exact e) (by omega))
 ·exact Sim.stray rfl (G4 (AK1 (.inl rfl) e)) fun s hA=>C0 hA (Ak3 hA e)
theorem Sim.opt {Y:Nt}{x:String}{m:Nat}{ps:List Pt}{a b:P β}(hx:signNo x=m)(hw:row Y=[(.sign m,s1 m::ps)])(ht:R5 Y=false)(hd:W7 (.n Y)=false)
  (hA:X.cy i=.sign m->Sim X (ps.map (fr d)++gs) a (i+1) (k-1) Q) (hB:X.cy i≠.sign m->Sim X gs b i k Q):Sim X (Mb Y d::gs) (takes x>>=fun c=>if c=true then a else b) i k Q:=by
 subst hx
 have hk:keys Y=[.sign (signNo x)]:=by unfold keys;rw[hw];rfl
 by_cases e:X.cy i=.sign (signNo x)
 ·have h1:Sim X (O Y 1 d::gs) (takes x>>=fun c=>if c=true then a else b) i k Q:=by
   refine Sim.exp (ps:=s1 (signNo x)::ps) ?_ ht hd (Nat.le_refl _) ?_
   ·unfold L7;rw[hw,e];exact if_pos rfl
   ·exact Sim.adv e ⟨by simp,by simp⟩ (Nat.le_refl _) (fun s hA=>A3 (G8 hA e)) (hA e)
  exact h1.conv fun rest st R hi hr ho hE=>AU9 hi (by rw[e];simp) (L5 (by rw[hk,e];exact List.mem_singleton.mpr rfl)) hE
 ·refine Sim.conv (gs:=gs) (Sim.congr (fun s hA=>A3 (F7 hA e)) (hB e)) fun rest st R hi hr ho hE=>Aj1 hi hr.app (G4 ?_) hE
  rw[hk]
  exact fun q=>e (List.mem_singleton.mp q)
end
end Rd
namespace Rd
open Sw
noncomputable def pNo (k:Kd)(w:Nat):Option Nat:=
 if k=.n .ATOM then(if w=1 then some 8 else some 7)
 else if k=.n .DECL then some 0 else if k=.n .PORT∨k=.n .END then some 1 else if k=.n .STATE then some 2 else if k=.n .DO then some 3 else if k=.n .WIRE then some 4
 else if k=.OPERATOR∨k=.CHOICE∨k=.SUM then some 5 else if k=.SIGNED then some 6 else if k=.POST then some 7 else none
noncomputable def own (X:Tx)(k:Kd)(i j:Nat):List Part:=match pNo k (j-i)with
 |some w=>[⟨w,X.bg i,X.en j-X.bg i⟩]
 |none=>[]
mutual
noncomputable def pt (X:Tx):Nd->List Part
 |.mk k i j _ _ _ c=>pts X c++own X k i j
noncomputable def pts (X:Tx):List Nd->List Part
 |[]=>[]
 |n::r=>pt X n++pts X r
end
theorem E5 (X:Tx)(n:Nd)(r:List Nd):pts X (n::r)=pt X n++pts X r:=by conv=>lhs;unfold pts
theorem D7 (X:Tx):pts X []=[]:=by unfold pts;rfl
theorem R6 (X:Tx)(k:Kd)(i j:Nat)(p:Bool)(s l:Nat)(c:List Nd):pt X (.mk k i j p s l c)=pts X c++own X k i j:=by conv=>lhs;unfold pt
theorem D4 (X:Tx)(n:Nd):pts X [n]=pt X n:=by rw[E5,D7,List.append_nil]
theorem K5 (X:Tx):∀(a b:List Nd),pts X (a++b)=pts X a++pts X b
 |[],b=>by rw[D7];rfl
 |n::r,b=>by
  show pts X (n::(r++b))=_
  rw[E5,E5,K5 X r b,List.append_assoc]
theorem Ae8 (X:Tx)(n:Nd)(v:Nat):pt X (n.setLe v)=pt X n:=by
 obtain⟨k,i,j,p,s,l,c⟩:=n
 show pt X (.mk k i j p s v c)=_
 rw[R6,R6]
noncomputable def Ar4 (o:Sw.Op):Nat:=([8,7,19,3,5,6,20,4,15,16,14,1,2,9,10,11,12,13]:List Nat).getD o 33
noncomputable def AF0 (o:OneOp):Nat:=([10,17,18]:List Nat).getD o 33
noncomputable def AL1 (o:Sw.Op):Nat:=levelOfOp o+2
noncomputable def lowL (s:Nat):Nat:=if s=4 then 5 else s
inductive Ob where
 |ex (x:Ex) |sz (x:Ex) |ar (l:List Ex)
noncomputable def two (k:Nat)(a b:Ex):Ex:=if k=11 then .round a b else if k=9 then .min a b else .max a b
noncomputable def hw (k:Nat)(c:Code)(a:Ex):Ex:=if k=6 then .held c a else .wrapped c a
noncomputable def ovr (k:Nat)(i:Bytes)(n a:Ex):Ex:=if k=15 then .sum i n a else .row i n a
noncomputable abbrev atm (i j:Nat)(p:Bool)(s:Nat)(c:List Nd):Nd:=.mk (.n .ATOM) i j p s 0 c
inductive Rp (X:Tx):Ob->List Nd->Nat->Nat->Prop where
 |num {i v:Nat}:X.tk i=some (.num v)->Rp X (.ex (.num v)) [atm i (i+1) false 13 []] i (i+1)
 |name {i:Nat} {b:Bytes}:X.tk i=some (.name b)->Rp X (.ex (.name b)) [atm i (i+1) false 13 []] i (i+1)
 |call {i j:Nat} {b:Bytes} {l:List Ex} {ns:List Nd}:X.tk i=some (.name b)->X.cy (i+1)=.sign 27->Rp X (.ar l) ns (i+2) j->X.cy j=.sign 28->Rp X (.ex (.call b l)) [atm i (j+1) false 12 ns] i (j+1)
 |par {i j:Nat} {x:Ex} {n:Nd}:X.cy i=.sign 27->Rp X (.ex x) [n] (i+1) j->X.cy j=.sign 28->Rp X (.ex x) [atm i (j+1) true n.st [n]] i (j+1)
 |hw {i j k m:Nat} {x:Ex} {n:Nd}:(k=6∨k=17)->m<8->X.cy i=.kept k->X.cy (i+1)=.kept (18+m)->X.cy (i+2)=.sign 27->Rp X (.ex x) [n] (i+3) j->X.cy j=.sign 28->Rp X (.ex (hw k m x)) [atm i (j+1) false 12 [n]] i (j+1)
 |abs {i j:Nat} {x:Ex} {n:Nd}:X.cy i=.kept 0->X.cy (i+1)=.sign 27->Rp X (.ex x) [n] (i+2) j->X.cy j=.sign 28->Rp X (.ex (.abs x)) [atm i (j+1) false 12 [n]] i (j+1)
 |two {i j m k:Nat} {x y:Ex} {n n':Nd}:(k=11∨k=9∨k=8)->X.cy i=.kept k->X.cy (i+1)=.sign 27->Rp X (.ex x) [n] (i+2) m->X.cy m=.sign 25->Rp X (.ex y) [n'] (m+1) j->X.cy j=.sign 28->Rp X (.ex (two k x y)) [atm i (j+1) false 12 [n,n']] i (j+1)
 |one {i j:Nat} {o:OneOp} {x:Ex} {n:Nd}:o<3->X.cy i=.sign (AF0 o)->Rp X (.ex x) [n] (i+1) j->(n.pr=false->11<=n.st)->Rp X (.ex (.one o x)) [.mk .SIGNED i j false 11 0 [n.setLe 11]] i j
 |bin {i j m:Nat} {o:Sw.Op} {x y:Ex} {n n':Nd}:o<18->Rp X (.ex x) [n] i m->X.cy m=.sign (Ar4 o)->Rp X (.ex y) [n'] (m+1) j->(n.pr=false->lowL (AL1 o)<=n.st)->(n'.pr=false->AL1 o+1<=n'.st)->
   Rp X (.ex (.bin o x y)) [.mk .OPERATOR i j false (AL1 o) 0 [n.setLe (lowL (AL1 o)),n'.setLe (AL1 o+1)]] i j
 |choice {i j m m':Nat} {x y z:Ex} {n n' n'':Nd}:Rp X (.ex x) [n] i m->X.cy m=.sign 22->Rp X (.ex y) [n'] (m+1) m'->X.cy m'=.sign 23->Rp X (.ex z) [n''] (m'+1) j->(n.pr=false->2<=n.st)->
   Rp X (.ex (.choice x y z)) [.mk .CHOICE i j false 1 0 [n.setLe 2,n',n'']] i j
 |index {i j m:Nat} {x y:Ex} {n n':Nd}:Rp X (.ex x) [n] i m->X.cy m=.sign 29->Rp X (.ex y) [n'] (m+1) j->X.cy j=.sign 30->(n.pr=false->12<=n.st)->Rp X (.ex (.index x y)) [.mk .POST i (j+1) false 12 0 [n.setLe 12,n']] i (j+1)
 |index2 {i j m m':Nat} {x y z:Ex} {n n' n'':Nd}:Rp X (.ex x) [n] i m->X.cy m=.sign 29->Rp X (.ex y) [n'] (m+1) m'->X.cy m'=.sign 25->Rp X (.ex z) [n''] (m'+1) j->X.cy j=.sign 30->(n.pr=false->12<=n.st)->
   Rp X (.ex (.index2 x y z)) [.mk .POST i (j+1) false 12 0 [n.setLe 12,n',n'']] i (j+1)
 |past {i j m:Nat} {x y:Ex} {n n':Nd}:Rp X (.ex x) [n] i m->X.cy m=.sign 26->Rp X (.sz y) [n'] (m+1) j->(n.pr=false->12<=n.st)->Rp X (.ex (.past x y)) [.mk .POST i j false 12 0 [n.setLe 12,n']] i j
 |ovr {i j m k:Nat} {b:Bytes} {x y:Ex} {n n':Nd}:(k=15∨k=12)->X.cy i=.kept k->X.tk (i+1)=some (.name b)->X.cy (i+2)=.sign 19->Rp X (.sz x) [n] (i+3) m->X.cy m=.sign 23->Rp X (.ex y) [n'] (m+1) j->
   Rp X (.ex (ovr k b x y)) [.mk .SUM i j false 0 0 [n,n']] i j
 |sheet {i j m m':Nat} {b b':Bytes} {x y z:Ex} {n n' n'':Nd}:X.cy i=.kept 13->X.tk (i+1)=some (.name b)->X.cy (i+2)=.sign 25->X.tk (i+3)=some (.name b')->X.cy (i+4)=.sign 19->Rp X (.sz x) [n] (i+5) m->X.cy m=.sign 25->Rp X (.sz y) [n'] (m+1) m'->X.cy m'=.sign 23->Rp X (.ex z) [n''] (m'+1) j->
   Rp X (.ex (.sheet b b' x y z)) [.mk .SUM i j false 0 0 [n,n',n'']] i j
 |sznum {i v:Nat}:X.tk i=some (.num v)->Rp X (.sz (.num v)) [.mk (.n .SIZE) i (i+1) false 13 0 []] i (i+1)
 |szname {i:Nat} {b:Bytes}:X.tk i=some (.name b)->Rp X (.sz (.name b)) [.mk (.n .SIZE) i (i+1) false 13 0 []] i (i+1)
 |szpar {i j:Nat} {x:Ex} {n:Nd}:X.cy i=.sign 27->Rp X (.ex x) [n] (i+1) j->X.cy j=.sign 28->Rp X (.sz x) [.mk (.n .SIZE) i (j+1) true n.st 13 [n]] i (j+1)
 |arone {i j:Nat} {x:Ex} {n:Nd}:Rp X (.ex x) [n] i j->Rp X (.ar [x]) [n] i j
 |arcons {i j m:Nat} {x:Ex} {l:List Ex} {n:Nd} {ns:List Nd}:l≠[]->Rp X (.ex x) [n] i m->X.cy m=.sign 25->Rp X (.ar l) ns (m+1) j->Rp X (.ar (x::l)) (n::ns) i j
theorem AG1 (t:Nat):∀{O:List Nd} {S:List Nat},(∀s∈S,s<t)->red t O S=(O,S)
 |[],[],_=>rfl
 |[],_::_,_=>rfl
 |[_],[],_=>rfl
 |[_],_::_,_=>rfl
 |_::_::_,[],_=>rfl
 |r::l::O,s::S,h=>by
  show(if t<=s then _ else _)=_
  exact if_neg (Nat.not_le.mpr (h s (List.mem_cons_self ..)))
theorem AC7 {t u:Nat}(h:t<=u):∀(S:List Nat) (O:List Nd),red t (red u O S).1 (red u O S).2=red t O S
 |[],[]=>rfl
 |[],[_]=>rfl
 |[],_::_::_=>rfl
 |s::S,[]=>rfl
 |s::S,[_]=>rfl
 |s::S,r::l::O=>by
  have e1:red u (r::l::O) (s::S)=if u<=s then red u (mkOp s l r::O) S else(r::l::O,s::S):=rfl
  rw[e1]
  by_cases q:u<=s
  ·rw[if_pos q,AC7 h S]
   have e2:red t (r::l::O) (s::S)=if t<=s then red t (mkOp s l r::O) S else(r::l::O,s::S):=rfl
   rw[e2,if_pos (by omega)]
  ·rw[if_neg q]
noncomputable def A34 (X:Tx)(x:List Nd×List Nat)(r:List Nd):List Nd×List Nat:=r.foldl (AG2 X.cy) x
noncomputable def Seg (X:Tx)(lo:Nat)(ns:List Nd)(M:Nd):Prop:=∃n r,ns=n::r/\r.all (A44 X.cy X.N)=true/\∀O S,(∀s∈S,s<lo)->red lo (A34 X (n::O,S) r).1 (A34 X (n::O,S) r).2=(M::O,S)
section
variable {X:Tx} {lo lo':Nat} {ns ms:List Nd} {M M':Nd}
theorem Seg.one (n:Nd):Seg X lo [n] n:=⟨n,[],rfl,rfl,fun O S h=>AG1 lo h⟩
theorem Seg.mono (h:Seg X lo ns M)(hl:lo'<=lo):Seg X lo' ns M:=by
 obtain⟨n,r,e,ha,h⟩:=h
 refine⟨n,r,e,ha,fun O S hS=>?_⟩
 rw[←AC7 hl,h O S (fun s hs=>Nat.lt_of_lt_of_le (hS s hs) hl)]
 exact AG1 lo' hS
theorem Seg.app (h:Seg X lo ns M)(h':Seg X (lo+1) ms M')(hh:∀n r,ms=n::r->1<=n.i/\n.i<=X.N/\stOf (X.cy (n.i-1))=lo)(h2:2<=lo):Seg X lo (ns++ms) (mkOp lo M M'):=by
 obtain⟨n,r,rfl,ha,h⟩:=h
 obtain⟨n',r',rfl,ha',h'⟩:=h'
 obtain⟨q1,q2,q3⟩:=hh n' r' rfl
 refine⟨n,r++n'::r',rfl,?_,fun O S hS=>?_⟩
 ·rw[List.all_append,ha,List.all_cons,ha']
  have:A44 X.cy X.N n'=true:=decide_eq_true ⟨q1,q2,by omega⟩
  rw[this]
  rfl
 ·have e:A34 X (n::O,S) (r++n'::r')=A34 X (n'::M::O,lo::S) r':=by
   unfold A34
   rw[List.foldl_append,List.foldl_cons]
   congr 1
   show(n'::(red (stOf (X.cy (n'.i-1))) _ _).1,stOf (X.cy (n'.i-1))::(red (stOf (X.cy (n'.i-1))) _ _).2)=_
   rw[q3]
   have:=h O S hS
   unfold A34 at this
   rw[this]
  rw[e,←AC7 (show lo<=lo+1 by omega),h' (M::O) (lo::S) (fun s hs=>by
   rcases List.mem_cons.mp hs with rfl |hs
   ·omega
   ·have:=hS s hs;omega)]
  show(if lo<=lo then red lo (mkOp lo M M'::O) S else _)=_
  rw[if_pos (Nat.le_refl _)]
  exact AG1 lo hS
theorem Seg.fin (h:Seg X 2 ns M):Aw0 X.cy X.N ns=some M:=by
 obtain⟨n,r,rfl,ha,h⟩:=h
 show(if r.all (A44 X.cy X.N)=true then _ else _)=_
 rw[if_pos ha]
 have:=h [] [] (fun s hs=>by cases hs)
 show(red 0 (A34 X ([n],[]) r).1 (A34 X ([n],[]) r).2).1.head?=_
 rw[←AC7 (Nat.zero_le 2),this]
 rfl
end
end Rd
namespace Rd
open Sw
theorem tb {t:Tok}{u:Tok}:(t==u)=decide (t=u):=rfl
theorem A67 {t:Tok}{k:Nat}:t=.sign k↔F1 t=.sign k:=by cases t<;>simp[F1]
theorem Am2 {t:Tok}{k:Nat}:t=.kept k↔F1 t=.kept k:=by cases t<;>simp[F1]
theorem Ae2 (t:Tok):beginsAtom t=decide (F1 t∈keys .ATOM):=by
 have e:(begins.map keptNo)=[6,17,11,0,9,8]:=by decide
 have e2:signNo "("=27:=by decide
 cases t with
 |kept k=>
  have e3:(begins.any fun s=>k==keptNo s)=(begins.map keptNo).any fun m=>k==m:=by rw[List.any_map];rfl
  show(begins.any fun s=>k==keptNo s)=_
  rw[e3,e]
  rw[Bool.eq_iff_iff]
  simp[keys,row,F1]
 |sign k=>
  show(k==signNo "(")=_
  rw[e2,Bool.eq_iff_iff]
  simp[keys,row,F1]
 |name b=>exact(decide_eq_true (by show Sy.name∈keys .ATOM;decide)).symm
 |num b=>exact(decide_eq_true (by show Sy.number∈keys .ATOM;decide)).symm
theorem A89 (t:Tok):beginsOne t=decide (F1 t∈keys .ONE):=by
 have e1:signNo "-"=10:=by decide
 have e2:signNo "~"=17:=by decide
 have e3:signNo "!"=18:=by decide
 have ek:keys .ONE=[.sign 10,.sign 17,.sign 18]++keys .ATOM:=by decide
 unfold beginsOne
 rw[Ae2,e1,e2,e3,ek,Bool.eq_iff_iff]
 simp only[Bool.or_eq_true,decide_eq_true_eq,tb,List.mem_append,List.mem_cons,List.not_mem_nil,or_false,A67]
 constructor
 ·rintro (h |h |h |h)
  ·exact .inr h
  ·exact .inl (.inl h)
  ·exact .inl (.inr (.inl h))
  ·exact .inl (.inr (.inr h))
 ·rintro ((h |h |h) |h)
  ·exact .inr (.inl h)
  ·exact .inr (.inr (.inl h))
  ·exact .inr (.inr (.inr h))
  ·exact .inl h
theorem b_e (t:Tok):beginsE t=decide (F1 t∈keys .E):=by
 have e1:keptNo "sum"=15:=by decide
 have e2:keptNo "row"=12:=by decide
 have e3:keptNo "sheet"=13:=by decide
 have ek:keys .E=[.kept 15,.kept 12,.kept 13]++keys .ONE:=by decide
 unfold beginsE
 rw[A89,e1,e2,e3,ek,Bool.eq_iff_iff]
 simp only[Bool.or_eq_true,decide_eq_true_eq,tb,List.mem_append,List.mem_cons,List.not_mem_nil,or_false,Am2]
 constructor
 ·rintro (h |h |h |h)
  ·exact .inr h
  ·exact .inl (.inl h)
  ·exact .inl (.inr (.inl h))
  ·exact .inl (.inr (.inr h))
 ·rintro ((h |h |h) |h)
  ·exact .inr (.inl h)
  ·exact .inr (.inr (.inl h))
  ·exact .inr (.inr (.inr h))
  ·exact .inl h
theorem A28 (t:Tok):beginsSize t=decide (F1 t∈keys .SIZE):=by
 have e2:signNo "("=27:=by decide
 cases t with
 |kept k=>exact(decide_eq_false (by show Sy.kept k∉keys .SIZE;simp[keys,row])).symm
 |sign k=>
  show(k==signNo "(")=_
  rw[e2,Bool.eq_iff_iff]
  simp[keys,row,F1]
 |name b=>exact(decide_eq_true (by show Sy.name∈keys .SIZE;decide)).symm
 |num b=>exact(decide_eq_true (by show Sy.number∈keys .SIZE;decide)).symm
theorem At4 {y:Sy}(h:y∈keys .ATOM):y∈keys .ONE:=(by decide:∀y∈keys .ATOM,y∈keys .ONE) y h
theorem BX0 {y:Sy}(h:y∈keys .ONE):y∈keys .E:=(by decide:∀y∈keys .ONE,y∈keys .E) y h
theorem K4 {x:Nt}{y:Sy}(h:y∈keys x):As5 y:=by
 have:=L5 h
 obtain⟨ps,hp⟩:=Option.isSome_iff_exists.mp (show(L7 x y).isSome=true from this)
 exact p5 hp
section
variable {X:Tx} {i:Nat}
theorem Q0 {d:Nat}{b:Tok->Bool}{s:PS}(h:d<=128):notDeep d b s=.ok ((),s):=by
 unfold notDeep DEEP
 rw[if_pos h]
 rfl
theorem AQ1 {d:Nat}{b:Tok->Bool}{Y:Nt}{s:PS}(hA:At X s i)(hB:∀t,b t=decide (F1 t∈keys Y))(h:¬d<=128)(h2:X.cy i∈keys Y):notDeep d b s=.error ⟨3,X.plc i⟩:=by
 obtain⟨t,e⟩:=R4 (K4 h2)
 unfold notDeep DEEP
 rw[if_neg h,A3 hA.peek,e]
 show(if b t.tok=true then bad 3 t.at_ else stray:P Unit) s=_
 rw[hB,←(E9 e).1,if_pos (decide_eq_true h2),(E9 e).2.1]
 rfl
theorem O0 {d:Nat}{b:Tok->Bool}{Y:Nt}{s:PS}(hA:At X s i)(hB:∀t,b t=decide (F1 t∈keys Y))(h:¬d<=128)(h2:X.cy i∉keys Y):notDeep d b s=stray s:=by
 unfold notDeep DEEP
 rw[if_neg h,A3 hA.peek]
 cases e:X.A[i]? with
 |none=>rfl
 |some t=>
  show(if b t.tok=true then bad 3 t.at_ else stray:P Unit) s=_
  rw[hB,←(E9 e).1,if_neg (fun q=>h2 (of_decide_eq_true q))]
theorem Au2 {y:Sy}{Y:Nt}{x:String}{m:Nat}(hx:signNo x=m)(h:y∉keys Y)(hm:Sy.sign m∈keys Y):y≠.sign (signNo x):=fun q=>h (by rw[q,hx];exact hm)
theorem AD9 {y:Sy}{Y:Nt}{x:String}{m:Nat}(hx:keptNo x=m)(h:y∉keys Y)(hm:Sy.kept m∈keys Y):y≠.kept (keptNo x):=fun q=>h (by rw[q,hx];exact hm)
theorem BI9 {s:PS}(hA:At X s i)(h:X.cy i≠.sign 27):∀(f d:Nat),inParens f d s=stray s
 |0,_=>by unfold inParens;rfl
 |f+1,d=>by
  unfold inParens
  exact C0 hA (U1 hA (by rw[show signNo "("=27 by decide];exact h))
theorem Ae9 {s:PS}(hA:At X s i)(h:X.cy i∉keys .ATOM):∀(f d:Nat),atomAt f d s=stray s
 |0,_=>by unfold atomAt;rfl
 |f+1,d=>by
  unfold atomAt
  by_cases hd:d<=128
  ·rw[A3 (Q0 hd)]
   show(here>>=_:P Ex) s=_
   rw[A3 hA.here,A3 hA.peek]
   cases e:X.A[i]? with
   |none=>rfl
   |some t=>
    have hc:=(E9 e).1
    obtain⟨p,l,k⟩:=t
    have h':=h
    rw[hc]at h'
    cases k with
    |name x=>exact(h' (by show Sy.name∈keys .ATOM;decide)).elim
    |num _=>exact(h' (by show Sy.number∈keys .ATOM;decide)).elim
    |sign k=>
     show(inParens f (d+1)>>=_:P Ex) s=_
     exact C0 hA (BI9 hA (fun q=>h (by rw[q];decide)) _ _)
    |kept k=>
     have e1:keptNo "held"=6:=by decide
     have e2:keptNo "wrapped"=17:=by decide
     have e3:keptNo "abs"=0:=by decide
     have e4:keptNo "round"=11:=by decide
     have e5:keptNo "min"=9:=by decide
     have e6:keptNo "max"=8:=by decide
     have nk:∀m,Sy.kept m∈keys .ATOM->k≠m:=fun m hm q=>h' (by rw[q];exact hm)
     show(if k=keptNo "held"∨k=keptNo "wrapped" then _ else if k=keptNo "abs" then _ else if k=keptNo "round"∨k=keptNo "min"∨k=keptNo "max" then _ else stray:P Ex) s=_
     rw[e1,e2,e3,e4,e5,e6,if_neg (fun q=>q.elim (nk 6 (by decide)) (nk 17 (by decide))),if_neg (nk 0 (by decide)),if_neg (fun q=>q.elim (nk 11 (by decide)) (fun q=>q.elim (nk 9 (by decide)) (nk 8 (by decide))))]
  ·exact C0 hA (O0 hA Ae2 hd h)
noncomputable def V5:P (Option OneOp):=do
 if(←takes "-")=true then return some 0
 else if(←takes "~")=true then return some 1
 else if(←takes "!")=true then return some 2
 else return none
theorem AB4 {s:PS}(hA:At X s i)(h1:X.cy i≠.sign 10)(h2:X.cy i≠.sign 17)(h3:X.cy i≠.sign 18):V5 s=.ok (none,s):=by
 unfold V5
 rw[A3 (F7 hA (by rw[show signNo "-"=10 by decide];exact h1))]
 show(takes "~">>=_:P (Option OneOp)) s=_
 rw[A3 (F7 hA (by rw[show signNo "~"=17 by decide];exact h2))]
 show(takes "!">>=_:P (Option OneOp)) s=_
 rw[A3 (F7 hA (by rw[show signNo "!"=18 by decide];exact h3))]
 rfl
theorem Ah7 {s:PS}{o:OneOp}(hA:At X s i)(ho:o<3)(h:X.cy i=.sign (AF0 o)):V5 s=.ok (some o,adv s):=by
 have e1:signNo "-"=10:=by decide
 have e2:signNo "~"=17:=by decide
 have e3:signNo "!"=18:=by decide
 unfold V5
 have hc:∀o:Nat,o<3->o=0∨o=1∨o=2:=by omega
 rcases hc o ho with rfl |rfl |rfl
 ·rw[A3 (G8 hA (h.trans (by rw[e1];rfl)))];rfl
 ·rw[A3 (F7 hA (by rw[h,e1];decide))]
  show(takes "~">>=_:P (Option OneOp)) s=_
  rw[A3 (G8 hA (h.trans (by rw[e2];rfl)))];rfl
 ·rw[A3 (F7 hA (by rw[h,e1];decide))]
  show(takes "~">>=_:P (Option OneOp)) s=_
  rw[A3 (F7 hA (by rw[h,e2];decide))]
  show(takes "!">>=_:P (Option OneOp)) s=_
  rw[A3 (G8 hA (h.trans (by rw[e3];rfl)))];rfl
noncomputable def AF1 (f d:Nat):Unit->P Ex:=fun _=>here>>=fun p=>V5>>=fun o=>match o with
  |some o=>oneAt f (d+1)>>=fun a=>Sw.part 6 p>>=fun _=>pure (.one o a)
  |none=>atomAt f (d+1)>>=fun a=>postAt f d p a
theorem A07 (f d:Nat):oneAt (f+1) d=notDeep d beginsOne>>=AF1 f d:=by
 conv=>lhs;unfold oneAt
 unfold AF1 V5
 congr 1
theorem A18 {s:PS}(hA:At X s i)(h:X.cy i∉keys .ONE):∀(f d:Nat),oneAt f d s=stray s
 |0,_=>by unfold oneAt;rfl
 |f+1,d=>by
  rw[A07]
  by_cases hd:d<=128
  ·rw[A3 (Q0 hd)]
   unfold AF1
   have nk:∀y,y∈keys .ONE->X.cy i≠y:=fun m hm q=>h (by rw[q];exact hm)
   rw[A3 hA.here,A3 (AB4 hA (nk _ (by decide)) (nk _ (by decide)) (nk _ (by decide)))]
   exact C0 hA (Ae9 hA (fun q=>h (At4 q)) f (d+1))
  ·exact C0 hA (O0 hA A89 hd h)
theorem l7 (f l d:Nat):levelAt (f+1) l d=if 9<=l then oneAt f (d+1)else here>>=fun p=>levelAt f (l+1) d>>=fun a=>moreAt f l d p a:=by
 conv=>lhs;unfold levelAt
theorem i9 {s:PS}(hA:At X s i)(h:X.cy i∉keys .ONE):∀(f l d:Nat),levelAt f l d s=stray s
 |0,_,_=>by unfold levelAt;rfl
 |f+1,l,d=>by
  rw[l7]
  by_cases hl:9<=l
  ·rw[if_pos hl];exact A18 hA h f (d+1)
  ·rw[if_neg hl,A3 hA.here]
   exact C0 hA (i9 hA h f (l+1) d)
noncomputable def Aw9 (f d:Nat):Unit->P Ex:=fun _=>here>>=fun p=>takesWord "sum">>=fun c=>if c=true then overAt f (d+1)>>=fun x=>Sw.part 5 p>>=fun _=>pure (.sum x.1 x.2.1 x.2.2)
  else takesWord "row">>=fun c=>if c=true then overAt f (d+1)>>=fun x=>Sw.part 5 p>>=fun _=>pure (.row x.1 x.2.1 x.2.2)
  else takesWord "sheet">>=fun c=>if c=true then wantsName>>=fun i=>wants ",">>=fun _=>wantsName>>=fun j=>wants "<">>=fun _=>sizeAt f (d+1)>>=fun n=>wants ",">>=fun _=>sizeAt f (d+1)>>=fun m=>wants ":">>=fun _=>eAt f (d+1)>>=fun e=>Sw.part 5 p>>=fun _=>pure (.sheet i j n m e)
  else levelAt f 0 d>>=fun c=>takes "?">>=fun q=>if q=true then eAt f (d+1)>>=fun a=>wants ":">>=fun _=>eAt f (d+1)>>=fun b=>Sw.part 5 p>>=fun _=>pure (.choice c a b)else pure c
theorem Ba6 (f d:Nat):eAt (f+1) d=notDeep d beginsE>>=Aw9 f d:=by
 conv=>lhs;unfold eAt
 unfold Aw9
 congr 1
theorem Bc7 {s:PS}(hA:At X s i)(h:X.cy i∉keys .E):∀(f d:Nat),eAt f d s=stray s
 |0,_=>by unfold eAt;rfl
 |f+1,d=>by
  rw[Ba6]
  by_cases hd:d<=128
  ·rw[A3 (Q0 hd)]
   unfold Aw9
   rw[A3 hA.here,A3 (P2 hA (AD9 (show keptNo "sum"=15 by decide) h (by decide)))]
   show(takesWord "row">>=_:P Ex) s=_
   rw[A3 (P2 hA (AD9 (show keptNo "row"=12 by decide) h (by decide)))]
   show(takesWord "sheet">>=_:P Ex) s=_
   rw[A3 (P2 hA (AD9 (show keptNo "sheet"=13 by decide) h (by decide)))]
   exact C0 hA (i9 hA (fun q=>h (BX0 q)) f 0 d)
  ·exact C0 hA (O0 hA b_e hd h)
theorem A51 {s:PS}(hA:At X s i)(h:X.cy i∉keys .SIZE):∀(f d:Nat),sizeAt f d s=stray s
 |0,_=>by unfold sizeAt;rfl
 |f+1,d=>by
  unfold sizeAt
  by_cases hd:d<=128
  ·rw[A3 (Q0 hd),A3 hA.peek]
   have hk:=U1 hA (Au2 (show signNo "("=27 by decide) h (by decide))
   cases e:X.A[i]? with
   |none=>exact C0 hA hk
   |some t=>
    have hc:=(E9 e).1
    obtain⟨p,l,k⟩:=t
    rw[hc]at h
    cases k with
    |name x=>exact(h (by show Sy.name∈keys .SIZE;decide)).elim
    |num _=>exact(h (by show Sy.number∈keys .SIZE;decide)).elim
    |sign k=>exact C0 hA hk
    |kept k=>exact C0 hA hk
  ·exact C0 hA (O0 hA A28 hd h)
theorem U0 {α:Type}{Y:Nt}{b:Tok->Bool}{d r k:Nat}{a:P α}{rest:Unit->P α}{Q:α->Nat->List Nd->List Part->Prop}(ha:a=notDeep d b>>=rest)(hY:W7 (.n Y)=true)(hB:∀t,b t=decide (F1 t∈keys Y))(hno:X.cy i∉keys Y->∀s,At X s i->a s=stray s)
  (hs:X.cy i∈keys Y->d<=128->Sim X [O Y r d] (rest ()) i k Q):Sim X [O Y r d] a i k Q:=by
 by_cases hb:X.cy i∈keys Y
 ·by_cases hd:d<=128
  ·exact Sim.congr (fun s hA=>by rw[ha];exact A3 (Q0 hd)) (hs hb hd)
  ·refine Sim.err (fun s hA=>by rw[ha];exact L4 (AQ1 hA hB hd hb)) fun hi=>⟨i,rfl,fun rest st _ _=>?_⟩
   have e:faultOf (O Y r d) (X.cy i)=3:=by
    unfold faultOf
    rw[if_neg (by rw[L5 hb];decide),if_pos ⟨hY,by show 128<d;omega⟩]
   have:=Af3 (X:=X) (fs:=rest) (st:=st) (f:=O Y r d) hi rfl (K4 hb).1 (by rw[e];decide)
   rw[e]at this
   exact this
 ·exact Sim.stray rfl (G4 hb) (hno hb)
end
end Rd
namespace Rd
open Sw
theorem BO2 {k:Nat}(h:33<=k):stOf (.sign k)=0:=by
 show stL.getD k 0=0
 rw[List.getD_eq_getElem?_getD,List.getElem?_eq_none (by show 21<=k;omega)]
 rfl
theorem P4 {y:Sy}(h:stOf y≠0):∃k,k<33/\y=.sign k:=by
 cases y with
 |sign k=>
  by_cases hk:k<33
  ·exact⟨k,hk,rfl⟩
  ·exact(h (BO2 (by omega))).elim
 |_=>exact(h rfl).elim
theorem BV1 (y:Sy):stOf y<=10:=by
 by_cases h:stOf y=0
 ·omega
 ·obtain⟨k,hk,rfl⟩:=P4 h
  have all:∀k,k<33->stOf (.sign k)<=10:=by decide
  exact all k hk
theorem Ah4:∀l,l<9->∀x∈opsOf l,x.2<18/\Ar4 x.2=signNo x.1/\AL1 x.2=l+2/\stOf (.sign (signNo x.1))=l+2:=by decide
theorem BB4:∀k,k<33->∀l,l<9->stOf (.sign k)=l+2->k∈(opsOf l).map fun x=>signNo x.1:=by decide
theorem Z5 {y:Sy}:y∈keys .OPERATED↔5<=stOf y:=by
 constructor
 ·exact(by decide:∀y∈keys .OPERATED,5<=stOf y) y
 ·intro h
  obtain⟨k,hk,rfl⟩:=P4 (y:=y) (by omega)
  exact(by decide:∀k,k<33->5<=stOf (.sign k)->Sy.sign k∈keys .OPERATED) k hk h
theorem AG8 {y:Sy}:y∈keys .JOINED↔2<=stOf y/\stOf y<4:=by
 constructor
 ·exact(by decide:∀y∈keys .JOINED,2<=stOf y/\stOf y<4) y
 ·intro h
  obtain⟨k,hk,rfl⟩:=P4 (y:=y) (by omega)
  exact(by decide:∀k,k<33->2<=stOf (.sign k)/\stOf (.sign k)<4->Sy.sign k∈keys .JOINED) k hk h
theorem Z3 {y:Sy}:y∈keys .COMPARED↔stOf y=4:=by
 constructor
 ·exact(by decide:∀y∈keys .COMPARED,stOf y=4) y
 ·intro h
  obtain⟨k,hk,rfl⟩:=P4 (y:=y) (by omega)
  exact(by decide:∀k,k<33->stOf (.sign k)=4->Sy.sign k∈keys .COMPARED) k hk h
theorem Aa4 {k:Nat}(h:Sy.sign k∈keys .OPERATED):L7 .OPERATED (.sign k)=some [s1 k,o1 .ONE]:=by
 have hk:k<33:=by obtain⟨m,hm,e⟩:=P4 (y:=.sign k) (by have:=Z5.mp h;omega);cases e;exact hm
 exact(by decide:∀k,k<33->Sy.sign k∈keys .OPERATED->L7 .OPERATED (.sign k)=some [s1 k,o1 .ONE]) k hk h
theorem Aw4 {k:Nat}(h:Sy.sign k∈keys .JOINED):L7 .JOINED (.sign k)=some [s1 k,o1 .COMPARISON]:=by
 have hk:k<33:=by obtain⟨m,hm,e⟩:=P4 (y:=.sign k) (by have:=AG8.mp h;omega);cases e;exact hm
 exact(by decide:∀k,k<33->Sy.sign k∈keys .JOINED->L7 .JOINED (.sign k)=some [s1 k,o1 .COMPARISON]) k hk h
theorem AZ0 {k:Nat}(h:Sy.sign k∈keys .COMPARED):L7 .COMPARED (.sign k)=some [s1 k,o1 .FORMULA]:=by
 have hk:k<33:=by obtain⟨m,hm,e⟩:=P4 (y:=.sign k) (by have:=Z3.mp h;omega);cases e;exact hm
 exact(by decide:∀k,k<33->Sy.sign k∈keys .COMPARED->L7 .COMPARED (.sign k)=some [s1 k,o1 .FORMULA]) k hk h
section
variable {X:Tx} {i:Nat}
theorem Z0 {l:Nat}(hl:l<9)(h:stOf (X.cy i)=l+2):∃o:Nat,o<18/\X.cy i=.sign (Ar4 o)/\AL1 o=l+2/\∀s,At X s i->opHere l s=.ok (some o,adv s):=by
 obtain⟨k,hk,ek⟩:=P4 (y:=X.cy i) (by omega)
 rw[ek]at h
 have hm:=BB4 k hk l hl h
 obtain⟨x,hx,hxk⟩:=List.mem_map.mp hm
 cases q:(opsOf l).find? (fun x=>signNo x.1==k)with
 |none=>exact absurd (List.find?_eq_none.mp q x hx) (by simp[hxk])
 |some y=>
  have h1:signNo y.1=k:=by simpa using List.find?_some q
  obtain⟨a1,a2,a3,a4⟩:=Ah4 l hl y (List.mem_of_find?_eq_some q)
  refine⟨y.2,a1,by rw[ek,a2,h1],a3,fun s hA=>?_⟩
  obtain⟨t,e⟩:=R4 (X:=X) (i:=i) (by rw[ek];exact⟨by simp,by simp⟩)
  have hc:=(E9 e).1
  obtain⟨p,n,u⟩:=t
  rw[ek]at hc
  unfold opHere
  rw[A3 hA.peek,e]
  cases u with
  |sign k'=>
   have:k=k':=by simpa [F1]using hc
   subst this
   show(match (opsOf l).find? (fun x=>signNo x.1==k)with |some x=>_ |none=>_:P (Option Sw.Op)) s=_
   rw[q]
   show(next>>=fun _=>pure (some y.2):P (Option Sw.Op)) s=_
   rw[A3 (M6 s)];rfl
  |name _=>cases hc
  |num _=>cases hc
  |kept _=>cases hc
theorem n9 {l:Nat}(hl:l<9)(h:stOf (X.cy i)≠l+2){s:PS}(hA:At X s i):opHere l s=.ok (none,s):=by
 unfold opHere
 rw[A3 hA.peek]
 cases e:X.A[i]? with
 |none=>rfl
 |some t=>
  have hc:=(E9 e).1
  obtain⟨p,n,k⟩:=t
  rw[hc]at h
  cases k with
  |sign k=>
   show(match (opsOf l).find? (fun x=>signNo x.1==k)with |some x=>_ |none=>_:P (Option Sw.Op)) s=_
   cases q:(opsOf l).find? (fun x=>signNo x.1==k)with
   |none=>rfl
   |some y=>
    have h1:signNo y.1=k:=by simpa using List.find?_some q
    have:=(Ah4 l hl y (List.mem_of_find?_eq_some q)).2.2.2
    rw[h1]at this
    exact absurd this h
  |_=>rfl
end
noncomputable abbrev Mn (Y:Nt)(r d:Nat):Fr:=⟨.many,.n Y,r,d⟩
noncomputable def Go (X:Tx)(fs:List Fr)(i:Nat)(gs:List Fr)(j:Nat)(ns:List Nd):Prop:=∀rest st R,Real rest->Okst st i->En X (gs++rest) j (push ns st) R->En X (fs++rest) i st R
noncomputable def SimO {α:Type}(X:Tx)(Y:Nt)(d:Nat)(fs:List Fr)(a:P α)(i k:Nat)(Q:α->Nat->List Nd->List Part->Prop)(stp:Nat->Prop):Prop:=∀s,At X s i->match a s with
 |.ok (x,s')=>∃j ns ps r',At X s' j/\i+k<=j/\i+ns.length<=j/\s'.parts=s.parts++ps/\Q x j ns ps/\stp (stOf (X.cy j))/\X.N-j<r'/\Go X fs i [Mn Y r' d] j ns
 |.error e=>Bad X fs i e
section
variable {α β:Type} {X:Tx} {Y:Nt} {d i k k1 r:Nat} {fs:List Fr} {a a':P α} {b:α->P β} {Q Q':α->Nat->List Nd->List Part->Prop} {Qb:β->Nat->List Nd->List Part->Prop} {stp stp':Nat->Prop}
theorem SimO.congr (h:∀s,At X s i->a s=a' s)(hs:SimO X Y d fs a' i k Q stp):SimO X Y d fs a i k Q stp:=by
 intro s hA
 rw[h s hA]
 exact hs s hA
theorem SimO.mono (hs:SimO X Y d fs a i k Q stp)(hk:k1<=k)(hq:∀x j ns ps,Q x j ns ps->Q' x j ns ps)(hp:∀x j ns ps,Q x j ns ps->stp (stOf (X.cy j))->stp' (stOf (X.cy j))):SimO X Y d fs a i k1 Q' stp':=by
 intro s hA
 have h:=hs s hA
 cases e:a s with
 |ok x=>
  rw[e]at h
  obtain⟨j,ns,ps,r',h1,h2,h3,h4,h5,h6,h7,h8⟩:=h
  exact⟨j,ns,ps,r',h1,by omega,h3,h4,hq _ _ _ _ h5,hp _ _ _ _ h5 h6,h7,h8⟩
 |error e'=>rw[e]at h;exact h
theorem SimO.unit {gs:List Fr}(h:Sim X gs a i k Q)(hr:X.N-i<r):SimO X Y d (gs++[Mn Y r d]) a i k Q fun _=>True:=by
 intro s hA
 have h:=h s hA
 cases e:a s with
 |ok x=>
  rw[e]at h
  obtain⟨j,ns,ps,h1,h2,h3,h4,h5,h6⟩:=h
  refine⟨j,ns,ps,r,h1,h2,h3,h4,h5,trivial,by have:=h1.le;omega,fun rest st R hr' ho hE=>?_⟩
  rw[List.append_assoc]
  exact h6 _ _ _ hr'.app ho hE
 |error e'=>
  rw[e]at h
  obtain⟨p,h1,h2⟩:=h
  exact⟨p,h1,fun rest st hr' ho=>by rw[List.append_assoc];exact h2 _ _ hr'.app ho⟩
theorem SimO.bind (h1:SimO X Y d fs a i k1 Q stp)(h2:∀x j ns ps r',Q x j ns ps->stp (stOf (X.cy j))->X.N-j<r'->i+k1<=j->j<=X.N->SimO X Y d [Mn Y r' d] (b x) j (k-k1) (fun y j' ns' ps'=>Qb y j' (ns++ns') (ps++ps')) stp'):SimO X Y d fs (a>>=b) i k Qb stp':=by
 intro s hA
 have h1:=h1 s hA
 cases e:a s with
 |error e'=>rw[e]at h1;rw[L4 e];exact h1
 |ok x=>
  obtain⟨x,s1⟩:=x
  rw[e]at h1
  obtain⟨j,ns,ps,r',g1,g2,g3,g4,g5,g6,g7,g8⟩:=h1
  have h2:=h2 x j ns ps r' g5 g6 g7 g2 g1.le s1 g1
  rw[A3 e]
  cases e2:b x s1 with
  |error e'=>
   rw[e2]at h2
   obtain⟨p,q1,q2⟩:=h2
   exact⟨p,q1,fun rest st hr ho=>g8 _ _ _ hr ho (q2 _ _ hr (ho.push g3))⟩
  |ok y=>
   obtain⟨y,s2⟩:=y
   rw[e2]at h2
   obtain⟨j',ns',ps',r2,q1,q2,q3,q4,q5,q6,q7,q8⟩:=h2
   refine⟨j',ns++ns',ps++ps',r2,q1,by omega,by rw[List.length_append];omega,by rw[q4,g4,List.append_assoc],q5,q6,q7,fun rest st R hr ho hE=>?_⟩
   refine g8 _ _ _ hr ho (q8 _ _ _ hr (ho.push g3) ?_)
   rw[AJ8]
   exact hE
theorem SimO.part {w p:Nat}{c:Unit->P β}(h:SimO X Y d fs (c ()) i k (fun y j ns ps=>Qb y j ns (⟨w,p,X.en i-p⟩::ps)) stp):SimO X Y d fs (Sw.part w p>>=c) i k Qb stp:=by
 intro s hA
 have e:Sw.part w p s=.ok ((),{s with parts:=s.parts++[⟨w,p,X.en i-p⟩]}):=by rw[←hA.l];rfl
 have h:=h {s with parts:=s.parts++[⟨w,p,X.en i-p⟩]} ⟨hA.le,hA.t,hA.n,hA.h,hA.l⟩
 rw[A3 e]
 cases e2:c () {s with parts:=s.parts++[⟨w,p,X.en i-p⟩]}with
 |ok x=>
  rw[e2]at h
  obtain⟨j,ns,ps,r',h1,h2,h3,h4,h5,h6⟩:=h
  exact⟨j,ns,_,r',h1,h2,h3,by rw[h4];show _++[_]++_=_;rw[List.append_assoc];rfl,h5,h6⟩
 |error e'=>rw[e2]at h;exact h
theorem SimO.rest {x:α}(h:∀s,At X s i->a s=.ok (x,s))(q:Q x i [] [])(hs:stp (stOf (X.cy i)))(hr:X.N-i<r):SimO X Y d [Mn Y r d] a i 0 Q stp:=by
 intro s hA
 rw[h s hA]
 exact⟨i,[],[],r,hA,Nat.le_refl _,Nat.le_refl _,(List.append_nil _).symm,q,hs,hr,fun rest st R hr ho hE=>by rw[AX0]at hE;exact hE⟩
theorem SimO.op {U:Nt}{m:Nat}(ht:R5 Y=false)(hd:W7 (.n Y)=false)(hc:X.cy i=.sign m)(hw:L7 Y (.sign m)=some [s1 m,o1 U])(hr:X.N-i<r)(h:∀s,At X s i->a s=a' (adv s))(hs:SimO X Y d [O U 1 d,Mn Y (r-1) d] a' (i+1) (k-1) Q stp):SimO X Y d [Mn Y r d] a i k Q stp:=by
 intro s hA
 have hy:As5 (.sign m):=⟨by simp,by simp⟩
 obtain⟨t,et⟩:=R4 (X:=X) (i:=i) (by rw[hc];exact hy)
 have hv:=hA.adv et
 have hs:=hs _ hv.1
 have hlt:=K1 et
 have go:∀rest st R,En X ([O U 1 d,Mn Y (r-1) d]++rest) (i+1) st R->En X ([Mn Y r d]++rest) i st R:=by
  intro rest st R hE
  have hw':L7 Y (X.cy i)=some [s1 m,o1 U]:=by rw[hc];exact hw
  refine S6 hA.le (by rw[hc];exact hy.1) (by show(L7 Y (X.cy i)).isSome=true;rw[hw'];rfl) ?_
  refine BA0 hA.le hw' (by rw[hc];exact hy.1) (by rw[hd];simp) (by omega) ?_
  unfold R7 V8 dps
  rw[ht,hd]
  exact Au8 hA.le hc hy.1 (Nat.le_refl _) hE
 rw[h s hA]
 cases e:a' (adv s)with
 |ok x=>
  rw[e]at hs
  obtain⟨j,ns,ps,r',h1,h2,h3,h4,h5,h6,h7,h8⟩:=hs
  exact⟨j,ns,ps,r',h1,by omega,by omega,by rw[h4,hv.2],h5,h6,h7,fun rest st R hr' ho hE=>go _ _ _ (h8 rest st R hr' (let ⟨o,r,e1,e2⟩:=ho;⟨o,r,e1,by omega⟩) hE)⟩
 |error e'=>
  rw[e]at hs
  obtain⟨p,h1,h2⟩:=hs
  exact⟨p,h1,fun rest st hr' ho=>go _ _ _ (h2 rest st hr' (let ⟨o,r,e1,e2⟩:=ho;⟨o,r,e1,by omega⟩))⟩
theorem SimO.close (h:SimO X Y d fs a i k Q stp)(hst:∀y,stp (stOf y)->y∉keys Y):Sim X fs a i k Q:=by
 intro s hA
 have h:=h s hA
 cases e:a s with
 |error e'=>rw[e]at h;exact h
 |ok x=>
  rw[e]at h
  obtain⟨j,ns,ps,r',h1,h2,h3,h4,h5,h6,h7,h8⟩:=h
  exact⟨j,ns,ps,h1,h2,h3,h4,h5,fun rest st R hr ho hE=>h8 _ _ _ hr ho (AN2 h1.le hr (G4 (hst _ h6)) hE)⟩
end
end Rd
namespace Rd
open Sw
section
variable {X:Tx}
theorem Rp.lt {o:Ob}{ns:List Nd}{i j:Nat}(h:Rp X o ns i j):i<j:=by
 induction h<;>omega
theorem Rp.at_ {x:Ex}{n:Nd}{i j:Nat}(h:Rp X (.ex x) [n] i j):n.i=i/\n.j=j/\n.le=0:=by
 cases h<;>exact⟨rfl,rfl,rfl⟩
theorem Ba1 (X:Tx)(i:Nat):own X (.n .ATOM) i (i+1)=[⟨8,X.bg i,X.en (i+1)-X.bg i⟩]:=by
 unfold own pNo
 rw[if_pos rfl,if_pos (by omega)]
theorem Bb3 (X:Tx){i j:Nat}(h:i+1<j):own X (.n .ATOM) i j=[⟨7,X.bg i,X.en j-X.bg i⟩]:=by
 unfold own pNo
 rw[if_pos rfl,if_neg (by omega)]
end
noncomputable def QX (X:Tx)(i lo d:Nat):Ex->Nat->List Nd->List Part->Prop:=fun x j ns ps=>∃n,ns=[n]/\Rp X (.ex x) [n] i j/\ps=pt X n/\(n.pr=false->lo<=n.st)/\d<=128
noncomputable def QZ (X:Tx)(i:Nat):Ex->Nat->List Nd->List Part->Prop:=fun x j ns ps=>∃n,ns=[n]/\Rp X (.sz x) [n] i j/\ps=pt X n
noncomputable def QP (X:Tx)(i:Nat):Ex->Nat->List Nd->List Part->Prop:=fun x j ns ps=>∃n m,j=m+1/\ns=[n]/\Rp X (.ex x) [n] (i+1) m/\ps=pt X n/\X.cy i=.sign 27/\X.cy m=.sign 28
noncomputable def Q2 (X:Tx)(i:Nat):Ex×Ex->Nat->List Nd->List Part->Prop:=fun x j ns ps=>∃n n' m m',j=m'+1/\ns=[n,n']/\Rp X (.ex x.1) [n] (i+1) m/\Rp X (.ex x.2) [n'] (m+1) m'/\ps=pt X n++pt X n'/\X.cy i=.sign 27/\X.cy m=.sign 25/\X.cy m'=.sign 28
noncomputable def QV (X:Tx)(i:Nat):Bytes×Ex×Ex->Nat->List Nd->List Part->Prop:=fun x j ns ps=>∃n n' m,ns=[n,n']/\X.tk i=some (.name x.1)/\X.cy (i+1)=.sign 19/\Rp X (.sz x.2.1) [n] (i+2) m/\X.cy m=.sign 23/\Rp X (.ex x.2.2) [n'] (m+1) j/\ps=pt X n++pt X n'
noncomputable def QL (X:Tx)(i lo:Nat):Ex->Nat->List Nd->List Part->Prop:=fun x j ns ps=>∃M,Rp X (.ex x) [M] i j/\ps=pt X M/\(M.pr=false->lo<=M.st)/\Seg X lo ns M/\∀n r,ns=n::r->n.i=i
structure Acc (X:Tx)(i0 i lo:Nat)(a:Ex)(ns:List Nd)(M:Nd):Prop where
 R:Rp X (.ex a) [M] i0 i
 l:M.pr=false->lo<=M.st
 s:Seg X lo ns M
 h:∀n r,ns=n::r->n.i=i0
noncomputable def QM (X:Tx)(i0 lo:Nat)(ns0:List Nd)(M0:Nd):Ex->Nat->List Nd->List Part->Prop:=fun x j ns ps=>∃M,Acc X i0 j lo x (ns0++ns) M/\pt X M0++ps=pt X M
noncomputable def QB (X:Tx)(i0:Nat)(M0:Nd):Ex->Nat->List Nd->List Part->Prop:=fun x j ns ps=>Rp X (.ex x) [ns.foldl F9 M0] i0 j/\pt X M0++ps=pt X (ns.foldl F9 M0)/\((ns.foldl F9 M0).pr=false->12<=(ns.foldl F9 M0).st)/\∀q∈ns,q.c.length<=2
noncomputable def QR (X:Tx)(i:Nat):List Ex->Nat->List Nd->List Part->Prop:=fun l j ns ps=>∃m,j=m+1/\l≠[]/\Rp X (.ar l) ns i m/\X.cy m=.sign 28/\ps=pts X ns
structure Ok (X:Tx)(f:Nat):Prop where
 e:∀d r i,1<=r->16*(X.N-i)+14<=f->Sim X [O .E r d] (eAt f d) i 1 (QX X i 0 d)
 over:∀d i,16*(X.N-i)+1<=f->Sim X [Tm .name d,Tm (.sign 19) d,O .SIZE 1 d,Tm (.sign 23) d,O .E 1 d] (overAt f d) i 1 (QV X i)
 level:∀l d r i,3<=l->l<=9->16*(X.N-i)+(13-l)<=f->X.N-i<r->SimO X .OPERATED (d+1) [O .ONE 1 (d+1),Mn .OPERATED r (d+1)] (levelAt f l d) i 1 (QL X i (l+2)) fun v=>¬l+2<=v
 more:∀l d a i0 i r ns M,3<=l->l<9->16*(X.N-i)+1<=f->X.N-i<r->¬l+3<=stOf (X.cy i)->Acc X i0 i (l+2) a ns M->SimO X .OPERATED (d+1) [Mn .OPERATED r (d+1)] (moreAt f l d (X.bg i0) a) i 0 (QM X i0 (l+2) ns M) fun v=>¬l+2<=v
 lev2:∀d r i,1<=r->16*(X.N-i)+11<=f->Sim X [O .COMPARISON r (d+1)] (levelAt f 2 d) i 1 (QL X i 4)
 more2:∀d a i0 i ns M,16*(X.N-i)+1<=f->Acc X i0 i 5 a ns M->Sim X [Mb .COMPARED (d+1)] (moreAt f 2 d (X.bg i0) a) i 0 (QM X i0 4 ns M)
 levJ:∀l d r i,l<=2->16*(X.N-i)+(13-l)<=f->X.N-i<r->SimO X .JOINED (d+1) [O .COMPARISON 1 (d+1),Mn .JOINED r (d+1)] (levelAt f l d) i 1 (QL X i (l+2)) fun v=>¬(l+2<=v/\v<4)
 moreJ:∀l d a i0 i r ns M,l<2->16*(X.N-i)+1<=f->X.N-i<r->¬(l+3<=stOf (X.cy i)/\stOf (X.cy i)<4)->Acc X i0 i (l+2) a ns M->SimO X .JOINED (d+1) [Mn .JOINED r (d+1)] (moreAt f l d (X.bg i0) a) i 0 (QM X i0 (l+2) ns M) fun v=>¬(l+2<=v/\v<4)
 one:∀d r i,1<=r->16*(X.N-i)+3<=f->Sim X [O .ONE r d] (oneAt f d) i 1 (QX X i 11 d)
 post:∀d a i0 i r M,X.N-i<r->16*(X.N-i)+1<=f->Rp X (.ex a) [M] i0 i->(M.pr=false->12<=M.st)->Sim X [Mn .BEHIND r (d+1)] (postAt f d (X.bg i0) a) i 0 (QB X i0 M)
 size:∀d r i,1<=r->16*(X.N-i)+1<=f->Sim X [O .SIZE r d] (sizeAt f d) i 1 (QZ X i)
 par:∀d i,16*(X.N-i)+1<=f->Sim X [Tm (.sign 27) d,O .E 1 d,Tm (.sign 28) d] (inParens f d) i 1 (QP X i)
 two:∀d i,16*(X.N-i)+1<=f->Sim X [Tm (.sign 27) d,O .E 1 d,Tm (.sign 25) d,O .E 1 d,Tm (.sign 28) d] (twoIn f d) i 1 (Q2 X i)
 atom:∀d r i,1<=r->16*(X.N-i)+2<=f->Sim X [O .ATOM r d] (atomAt f d) i 1 (QX X i 12 d)
 args:∀d had r i,(r=256-had∨(had=0/\1<=r))->(had≠0->d<=128)->16*(X.N-i)+15<=f->Sim X [O .E r d,⟨.more,.n .E,255-had,d⟩,Tm (.sign 28) d] (argsAt f d had) i 1 (QR X i)
theorem fu {n i j f c c':Nat}(h:16*(n-i)+c<=f+1)(hj:i+1<=j)(hn:i<n)(hc:c'<=15+c:=by decide):16*(n-j)+c'<=f:=by omega
theorem sgo:signNo "("=27:=by decide
theorem sgc:signNo ")"=28:=by decide
theorem sgk:signNo ","=25:=by decide
theorem sgl:signNo "<"=19:=by decide
theorem sgd:signNo ":"=23:=by decide
theorem sbo:signNo "["=29:=by decide
theorem sbc:signNo "]"=30:=by decide
theorem sga:signNo "@"=26:=by decide
theorem sgq:signNo "?"=22:=by decide
theorem AQ4 {X:Tx}{i:Nat}{y:Sy}(h:X.cy i=y)(hy:As5 y:=by exact⟨by simp,by simp⟩):i<X.N:=by
 obtain⟨t,e⟩:=R4 (X:=X) (i:=i) (by rw[h];exact hy)
 exact K1 e
theorem BV9 {X:Tx}{i:Nat}{t:Tok}(h:X.tk i=some t):i<X.N:=let ⟨_,_,e,_⟩:=Av2 h;K1 e
section
variable {X:Tx} {f:Nat}
theorem BN6 (h:Ok X f):∀d i,16*(X.N-i)+1<=f+1->Sim X [Tm (.sign 27) d,O .E 1 d,Tm (.sign 28) d] (inParens (f+1) d) i 1 (QP X i):=by
 intro d i hf
 unfold inParens
 refine Sim.want sgo fun e1=>?_
 refine Sim.bind (fs:=[O .E 1 d]) (h.e d 1 (i+1) (Nat.le_refl _) (fu hf (Nat.le_refl _) (AQ4 e1))) fun x j ns ps q hj hn=>?_
 obtain⟨n,rfl,hR,rfl,_⟩:=q
 refine Sim.want sgc fun e2=>?_
 exact Sim.ret ⟨n,j,rfl,rfl,hR,List.append_nil _,e1,e2⟩
theorem BP5 (h:Ok X f):∀d i,16*(X.N-i)+1<=f+1->Sim X [Tm (.sign 27) d,O .E 1 d,Tm (.sign 25) d,O .E 1 d,Tm (.sign 28) d] (twoIn (f+1) d) i 1 (Q2 X i):=by
 intro d i hf
 unfold twoIn
 refine Sim.want sgo fun e1=>?_
 have hi:=AQ4 e1
 refine Sim.bind (fs:=[O .E 1 d]) (h.e d 1 (i+1) (Nat.le_refl _) (fu hf (Nat.le_refl _) hi)) fun x j ns ps q hj hn=>?_
 obtain⟨n,rfl,hR,rfl,_⟩:=q
 refine Sim.want sgk fun e2=>?_
 refine Sim.bind (fs:=[O .E 1 d]) (h.e d 1 (j+1) (Nat.le_refl _) (fu hf (by omega) hi)) fun y m ns ps q hm hn=>?_
 obtain⟨n',rfl,hR',rfl,_⟩:=q
 refine Sim.want sgc fun e3=>?_
 exact Sim.ret ⟨n,n',j,m,rfl,rfl,hR,hR',by rw[List.append_nil],e1,e2,e3⟩
theorem A48 (h:Ok X f):∀d i,16*(X.N-i)+1<=f+1->Sim X [Tm .name d,Tm (.sign 19) d,O .SIZE 1 d,Tm (.sign 23) d,O .E 1 d] (overAt (f+1) d) i 1 (QV X i):=by
 intro d i hf
 unfold overAt
 refine Sim.name (Nat.le_refl _) fun b e0=>?_
 have hi:=BV9 e0
 refine Sim.want sgl fun e1=>?_
 refine Sim.bind (fs:=[O .SIZE 1 d]) (h.size d 1 (i+2) (Nat.le_refl _) (fu hf (by omega) hi)) fun x j ns ps q hj hn=>?_
 obtain⟨n,rfl,hR,rfl⟩:=q
 refine Sim.want sgd fun e2=>?_
 refine Sim.bind (fs:=[O .E 1 d]) (gs:=[]) (h.e d 1 (j+1) (Nat.le_refl _) (fu hf (by omega) hi)) fun y m ns ps q hm hn=>?_
 obtain⟨n',rfl,hR',rfl,_⟩:=q
 exact Sim.ret ⟨n,n',j,rfl,e0,e1,hR,e2,hR',by rw[List.append_nil]⟩
noncomputable def AC0 (f d:Nat):Unit->P Ex:=fun _=>peek>>=fun x=>match x with
  |some ⟨_,_,.num n⟩=>next>>=fun _=>pure (.num n)
  |some ⟨_,_,.name s⟩=>next>>=fun _=>pure (.name s)
  |_=>wants "(">>=fun _=>eAt f (d+1)>>=fun e=>wants ")">>=fun _=>pure e
theorem BB2 (f d:Nat):sizeAt (f+1) d=notDeep d beginsSize>>=AC0 f d:=by
 conv=>lhs;unfold sizeAt
 unfold AC0
 rfl
theorem AK9 {X:Tx}{i j l:Nat}{k:Kd}{n:Nd}{r:List Nd}(h:X.cy i=.sign 27):AE3 X.cy ⟨k,i,n::r⟩ j l=some (.mk k i j true n.st l (n::r)):=by
 unfold AE3
 rw[if_pos h]
theorem Y5 {X:Tx}{i l:Nat}{k:Kd}{c:List Nd}(h:X.cy i≠.sign 27):AE3 X.cy ⟨k,i,c⟩ (i+1) l=some (.mk k i (i+1) false 13 0 c):=by
 unfold AE3
 rw[if_neg h,if_neg (by show ¬1<i+1-i;omega)]
theorem Ak5 {X:Tx}{i j l:Nat}{k:Kd}{c:List Nd}(h:X.cy i≠.sign 27)(hj:i+1<j):AE3 X.cy ⟨k,i,c⟩ j l=some (.mk k i j false 12 0 c):=by
 unfold AE3
 rw[if_neg h,if_pos (by show 1<j-i;omega)]
theorem Az2 (X:Tx)(i j:Nat):own X (.n .SIZE) i j=[]:=rfl
theorem A64 (h:Ok X f):∀d r i,1<=r->16*(X.N-i)+1<=f+1->Sim X [O .SIZE r d] (sizeAt (f+1) d) i 1 (QZ X i):=by
 intro d r i hr hf
 refine U0 (Y:=.SIZE) (BB2 f d) rfl A28 (fun q s hA=>A51 hA q _ _) fun hb hd=>?_
 have ND:¬(W7 (.n .SIZE)=true/\128<d):=fun q=>by omega
 unfold AC0
 refine Sim.peek ?_
 obtain⟨t,e⟩:=R4 (K4 hb)
 have hi:=K1 e
 obtain⟨ec,_,et,_⟩:=E9 e
 obtain⟨p,l,k⟩:=t
 rw[e]
 cases k with
 |num v=>
  have hc:X.cy i=.number:=ec
  refine Sim.node (Q':=fun x j ns ps=>x=.num v/\j=i+1/\ns=[]/\ps=[]) (ps:=[nb]) (by rw[hc];rfl) rfl ND hr (Nat.le_refl _) ?_ ?_
  ·exact Sim.adv hc ⟨by simp,by simp⟩ (Nat.le_refl _) (fun s hA=>A3 (M6 s)) (Sim.ret ⟨rfl,rfl,rfl,rfl⟩)
  ·rintro y j ns qs ⟨rfl,rfl,rfl,rfl⟩ _
   refine⟨_,Y5 (l:=13) (by rw[hc];simp),_,rfl,.sznum et,?_⟩
   rw[R6,D7];rfl
 |name v=>
  have hc:X.cy i=.name:=ec
  refine Sim.node (Q':=fun x j ns ps=>x=.name v/\j=i+1/\ns=[]/\ps=[]) (ps:=[nm]) (by rw[hc];rfl) rfl ND hr (Nat.le_refl _) ?_ ?_
  ·exact Sim.adv hc ⟨by simp,by simp⟩ (Nat.le_refl _) (fun s hA=>A3 (M6 s)) (Sim.ret ⟨rfl,rfl,rfl,rfl⟩)
  ·rintro y j ns qs ⟨rfl,rfl,rfl,rfl⟩ _
   refine⟨_,Y5 (l:=13) (by rw[hc];simp),_,rfl,.szname et,?_⟩
   rw[R6,D7];rfl
 |kept k=>
  rw[ec]at hb
  have:Sy.kept k∈keys .SIZE:=hb
  simp[keys,row]at this
 |sign k=>
  have hk:k=27:=by rw[ec]at hb;have:Sy.sign k∈keys .SIZE:=hb;simpa [keys,row]using this
  subst hk
  have hc:X.cy i=.sign 27:=ec
  refine Sim.node (Q':=QP X i) (ps:=[s1 27,o1 .E,s1 28]) (by rw[hc];rfl) rfl ND hr (Nat.le_refl _) ?_ ?_
  ·refine Sim.want sgo fun e1=>?_
   refine Sim.bind (fs:=[O .E 1 (d+1)]) (h.e (d+1) 1 (i+1) (Nat.le_refl _) (fu hf (Nat.le_refl _) hi)) fun x j ns ps q hj hn=>?_
   obtain⟨n,rfl,hR,rfl,_⟩:=q
   refine Sim.want sgc fun e2=>?_
   exact Sim.ret ⟨n,j,rfl,rfl,hR,List.append_nil _,e1,e2⟩
  ·rintro y j ns qs ⟨n,m,rfl,rfl,hR,rfl,_,e2⟩ _
   refine⟨_,AK9 hc,_,rfl,.szpar hc hR e2,?_⟩
   rw[R6,D4,Az2,List.append_nil]
noncomputable def AG4 (f d:Nat)(had:Nat):P (List Ex):=eAt f d>>=fun a=>takes ",">>=fun c=>if c=true then argsAt f d (had+1)>>=fun l=>pure (a::l)else wants ")">>=fun _=>pure [a]
theorem BB3 (f d had:Nat):argsAt (f+1) d had=peek>>=fun x=>(match x with |some t=>if beginsE t.tok=true then oneMore had LIST else stray |none=>stray:P Unit)>>=fun _=>AG4 f d had:=by
 conv=>lhs;unfold argsAt
 unfold AG4
 congr 1
 funext x
 cases x with
 |none=>rfl
 |some t=>
  show(if beginsE t.tok=true then _ else _)=((if beginsE t.tok=true then oneMore had LIST else stray:P Unit)>>=_)
  by_cases q:beginsE t.tok=true
  ·rw[if_pos q,if_pos q]
  ·rw[if_neg q,if_neg q]
theorem Z9 {α:Type}{b:Sb}{fs:List Fr}{begins:Tok->Bool}{had most r d k i:Nat}{c:P α}{Q:α->Nat->List Nd->List Part->Prop}(hb:∀t,begins t=B2 b (F1 t))(hnn:B2 b .nothing=false/\B2 b .finish=false)
  (hroom:1<=r↔had<most) (hdp:had<most∨¬(W7 b=true/\128<d)) (hs:B2 b (X.cy i)=true->had<most->i<X.N->Sim X (⟨.once,b,r,d⟩::fs) c i k Q):
  Sim X (⟨.once,b,r,d⟩::fs) (peek>>=fun x=>(match x with |some t=>if begins t.tok=true then oneMore had most else stray |none=>stray:P Unit)>>=fun _=>c) i k Q:=by
 refine Sim.peek ?_
 cases hc:B2 b (X.cy i)with
 |false=>
  refine Sim.stray rfl hc fun s hA=>C0 hA ?_
  cases e:X.A[i]? with
  |none=>rfl
  |some t=>
   show(if begins t.tok=true then oneMore had most else stray:P Unit) s=_
   rw[hb,←(E9 e).1,hc]
   rfl
 |true=>
  have hre:As5 (X.cy i):=⟨fun q=>(by rw[q,hnn.1]at hc;cases hc),fun q=>(by rw[q,hnn.2]at hc;cases hc)⟩
  obtain⟨t,e⟩:=R4 hre
  have hbt:begins t.tok=true:=by rw[hb,←(E9 e).1,hc]
  by_cases hm:had<most
  ·refine Sim.congr (a':=c) (fun s hA=>?_) (hs hc hm (K1 e))
   rw[e]
   refine A3 (x:=()) ?_
   show(if begins t.tok=true then oneMore had most else stray:P Unit) s=_
   rw[if_pos hbt]
   unfold oneMore
   rw[if_pos hm]
   rfl
  ·refine Sim.err (e:=⟨4,X.plc i⟩) (fun s hA=>?_) fun hi=>⟨i,rfl,fun rest st _ _=>?_⟩
   ·rw[e]
    refine L4 ?_
    show(if begins t.tok=true then oneMore had most else stray:P Unit) s=_
    rw[if_pos hbt]
    unfold oneMore
    rw[if_neg hm,A3 hA.peek,e,(E9 e).2.1]
    rfl
   ·have e4:faultOf ⟨.once,b,r,d⟩ (X.cy i)=4:=by
     unfold faultOf
     rw[if_neg (by rw[hc];decide),if_neg (hdp.resolve_left hm),if_pos (by show r<1;omega)]
    have:=Af3 (X:=X) (fs:=fs++rest) (st:=st) (f:=⟨.once,b,r,d⟩) hi rfl hre.1 (by rw[e4];decide)
    rw[e4]at this
    exact this
theorem x4 {α:Type}{b:Sb}{fs:List Fr}{m d k i:Nat}{A B:P α}{Q:α->Nat->List Nd->List Part->Prop}(hA:X.cy i=.sign 25->Sim X (⟨.once,b,m,d⟩::⟨.more,b,m-1,d⟩::fs) A (i+1) (k-1) Q)(hB:X.cy i≠.sign 25->Sim X fs B i k Q):
  Sim X (⟨.more,b,m,d⟩::fs) (takes ",">>=fun c=>if c=true then A else B) i k Q:=by
 by_cases e:X.cy i=.sign 25
 ·have h1:=hA e
  intro s hAt
  obtain⟨t,et⟩:=R4 (X:=X) (i:=i) (by rw[e];exact⟨by simp,by simp⟩)
  have hv:=hAt.adv et
  have h1:=h1 _ hv.1
  rw[A3 (G8 hAt (by rw[sgk];exact e))]
  show(match A (adv s)with |.ok (x,s')=>_ |.error e=>_)
  cases e2:A (adv s)with
  |ok x=>
   rw[e2]at h1
   obtain⟨j,ns,ps,g1,g2,g3,g4,g5,g6⟩:=h1
   exact⟨j,ns,ps,g1,by omega,by omega,by rw[g4,hv.2],g5,fun rest st R hr ho hE=>Ao4 hAt.le e (g6 rest st R hr (let ⟨o,r,e1,e2⟩:=ho;⟨o,r,e1,by omega⟩) hE)⟩
  |error e'=>
   rw[e2]at h1
   obtain⟨p,g1,g2⟩:=h1
   exact⟨p,g1,fun rest st hr ho=>Ao4 hAt.le e (g2 rest st hr (let ⟨o,r,e1,e2⟩:=ho;⟨o,r,e1,by omega⟩))⟩
 ·refine Sim.conv (gs:=fs) (Sim.congr (fun s hAt=>A3 (F7 hAt (by rw[sgk];exact e))) (hB e)) fun rest st R hi hr ho hE=>BH8 hi hr.app e hE
theorem BE2 (h:Ok X f)(he:∀d r i,1<=r->16*(X.N-i)+14<=f->Sim X [O .E r d] (eAt f d) i 1 (QX X i 0 d)):∀d had r i,(r=256-had∨(had=0/\1<=r))->(had≠0->d<=128)->16*(X.N-i)+15<=f+1->Sim X [O .E r d,⟨.more,.n .E,255-had,d⟩,Tm (.sign 28) d] (argsAt (f+1) d had) i 1 (QR X i):=by
 intro d had r i hr hd hf
 rw[BB3]
 refine Z9 (fs:=[⟨.more,.n .E,255-had,d⟩,Tm (.sign 28) d]) (had:=had) (most:=LIST) (fun t=>by rw[b_e,T9]) ⟨rfl,rfl⟩ (by show 1<=r↔had<256;omega) ?_ fun hc hm hi=>?_
 ·by_cases q:had<LIST
  ·exact .inl q
  ·refine .inr fun z=>?_
   have:¬had<256:=q
   have:=hd (by omega)
   omega
 ·unfold AG4
  refine Sim.bind (fs:=[O .E r d]) (he d r i (by have:had<256:=hm;omega) (by omega)) fun x j ns ps q hj hn=>?_
  obtain⟨n,rfl,hR,rfl,_,hdd⟩:=q
  refine x4 (fun e1=>?_) (fun e1=>?_)
  ·have em:255-had-1=255-(had+1):=by omega
   rw[em]
   refine Sim.bind (gs:=[]) (h.args d (had+1) (255-had) (j+1) (.inl (by omega)) (fun _=>hdd) (by omega)) fun l m ns ps q hm' hn'=>?_
   obtain⟨m',rfl,hl,hR',e2,rfl⟩:=q
   refine Sim.ret ⟨m',rfl,by simp,(by show Rp X _ (n::(ns++[])) i m';rw[List.append_nil];exact .arcons hl hR e1 hR'),e2,?_⟩
   show pt X n++(pts X ns++[])=pts X (n::(ns++[]))
   rw[List.append_nil,List.append_nil,E5]
  ·refine Sim.want sgc fun e2=>?_
   exact Sim.ret ⟨j,rfl,by simp,.arone hR,e2,by show pt X n++[]=pts X [n];rw[List.append_nil,D4]⟩
end
end Rd
namespace Rd
open Sw
theorem Ay2:∀o,o<18->stOf (.sign (Ar4 o))=AL1 o:=by decide
section
variable {X:Tx} {f:Nat}
theorem AQ8 (f l d p:Nat)(a:Ex):moreAt (f+1) l d p a=opHere l>>=fun x=>match x with
  |none=>pure a
  |some o=>levelAt f (l+1) d>>=fun b=>Sw.part 5 p>>=fun _=>if l=2 then pure (.bin o a b)else moreAt f l d p (.bin o a b):=by
 conv=>lhs;unfold moreAt
 congr 1
theorem BV4 {lo:Nat}{M M':Nd}:pt X (mkOp lo M M')=pt X M++(pt X M'++[⟨5,X.bg M.i,X.en M'.j-X.bg M.i⟩]):=by
 unfold mkOp
 rw[R6,E5,D4,Ae8,Ae8,List.append_assoc]
 rfl
theorem Acc.op {lo i0 i j:Nat}{o:Nat}{a b:Ex}{ns ns':List Nd}{M M':Nd}(ho:o<18)(hs:AL1 o=lo)(hR:Rp X (.ex a) [M] i0 i)(hl:M.pr=false->lowL lo<=M.st)(hS:Seg X lo ns M)(hh:∀n r,ns=n::r->n.i=i0)(hc:X.cy i=.sign (Ar4 o))
  (hR':Rp X (.ex b) [M'] (i+1) j) (hl':M'.pr=false->lo+1<=M'.st) (hS':Seg X (lo+1) ns' M') (hh':∀n r,ns'=n::r->n.i=i+1) (hj:j<=X.N):
  Acc X i0 j lo (.bin o a b) (ns++ns') (mkOp lo M M')/\pt X (mkOp lo M M')=pt X M++(pt X M'++[⟨5,X.bg i0,X.en j-X.bg i0⟩]):=by
 have h1:=hR.at_
 have h2:=hR'.at_
 have h3:=hR'.lt
 have hlo:2<=lo:=by rw[←hs];exact(by decide:∀o,o<18->2<=AL1 o) o ho
 refine⟨⟨?_,fun _=>Nat.le_refl _,?_,?_⟩,?_⟩
 ·have e:mkOp lo M M'=.mk .OPERATOR i0 j false (AL1 o) 0 [M.setLe (lowL (AL1 o)),M'.setLe (AL1 o+1)]:=by
   unfold mkOp lowL
   rw[h1.1,h2.2.1,hs]
  rw[e]
  exact .bin ho hR hc hR' (by rw[hs];exact hl) (by rw[hs];exact hl')
 ·refine hS.app hS' (fun n r q=>?_) hlo
  have:=hh' n r q
  refine⟨by omega,by omega,?_⟩
  rw[this]
  show stOf (X.cy i)=lo
  rw[hc,Ay2 o ho,hs]
 ·intro n r q
  obtain⟨n0,r0,e,_⟩:=hS
  have q':n0=n:=by rw[e]at q;exact(List.cons.inj q).1
  rw[←q']
  exact hh n0 r0 e
 ·rw[BV4,h1.1,h2.2.1]
theorem QL.acc {i lo:Nat}{x:Ex}{j:Nat}{ns:List Nd}{ps:List Part}(h:QL X i lo x j ns ps):∃M,Acc X i j lo x ns M/\ps=pt X M:=by
 obtain⟨M,h1,h2,h3,h4,h5⟩:=h
 exact⟨M,⟨h1,h3,h4,h5⟩,h2⟩
theorem Acc.mono {i j lo lo':Nat}{x:Ex}{ns:List Nd}{M:Nd}(h:Acc X i j lo x ns M)(hl:lo'<=lo):Acc X i j lo' x ns M:=⟨h.R,fun q=>Nat.le_trans hl (h.l q),h.s.mono hl,h.h⟩
theorem QM.fin {i j lo:Nat}{x:Ex}{ns ns':List Nd}{ps:List Part}{M:Nd}(h:QM X i lo ns M x j ns' ps):QL X i lo x j (ns++ns') (pt X M++ps):=by
 obtain⟨M',h1,h2⟩:=h
 exact⟨M',h1.R,h2,h1.l,h1.s,h1.h⟩
theorem QM.more {i0 j lo:Nat}{x:Ex}{ns ns' ns2:List Nd}{ps:List Part}{M M' M2:Nd}{p:Part}(h:QM X i0 lo (ns++ns') M2 x j ns2 ps)(e:pt X M2=pt X M++(pt X M'++[p])):QM X i0 lo ns M x j (ns'++ns2) (pt X M'++(p::ps)):=by
 obtain⟨M3,h1,h2⟩:=h
 refine⟨M3,by rw[←List.append_assoc];exact h1,?_⟩
 rw[←h2,e]
 simp only[List.append_assoc,List.cons_append,List.nil_append]
theorem BE3 (h:Ok X f):∀l d a i0 i r ns M,3<=l->l<9->16*(X.N-i)+1<=f+1->X.N-i<r->¬l+3<=stOf (X.cy i)->Acc X i0 i (l+2) a ns M->SimO X .OPERATED (d+1) [Mn .OPERATED r (d+1)] (moreAt (f+1) l d (X.bg i0) a) i 0 (QM X i0 (l+2) ns M) fun v=>¬l+2<=v:=by
 intro l d a i0 i r ns M h3 h9 hf hr hst hA
 rw[AQ8]
 by_cases ho:stOf (X.cy i)=l+2
 ·obtain⟨o,hoo,o2,o3,o4⟩:=Z0 h9 ho
  have hi:=AQ4 o2
  have hk:Sy.sign (Ar4 o)∈keys .OPERATED:=Z5.mpr (by rw[←o2];omega)
  refine SimO.op (U:=.ONE) (a':=levelAt f (l+1) d>>=fun b=>Sw.part 5 (X.bg i0)>>=fun _=>if l=2 then pure (.bin o a b)else moreAt f l d (X.bg i0) (.bin o a b)) rfl rfl o2 (Aa4 hk) hr (fun s hs=>A3 (o4 s hs)) ?_
  refine SimO.bind (h.level (l+1) d (r-1) (i+1) (by omega) (by omega) (fu hf (Nat.le_refl _) hi (by omega)) (by omega)) fun b j ns' ps r' q hs hr' hj hn=>?_
  obtain⟨M',k1,rfl,k3,k4,k5⟩:=q
  have ha:=Acc.op hoo o3 hA.R (by unfold lowL;rw[if_neg (by omega)];exact hA.l) hA.s hA.h o2 k1 k3 k4 k5 hn
  refine SimO.part ?_
  rw[if_neg (by omega)]
  exact(h.more l d _ i0 j r' _ _ h3 h9 (fu hf (by omega) hi) hr' hs ha.1).mono (Nat.zero_le _) (fun _ _ _ _ q=>q.more ha.2) fun _ _ _ _ _ q=>q
 ·refine SimO.rest (x:=a) (fun s hs=>A3 (n9 h9 ho hs)) ⟨M,by rw[List.append_nil];exact hA,List.append_nil _⟩ (by omega) hr
theorem Az3 (h:Ok X f):∀l d r i,3<=l->l<=9->16*(X.N-i)+(13-l)<=f+1->X.N-i<r->SimO X .OPERATED (d+1) [O .ONE 1 (d+1),Mn .OPERATED r (d+1)] (levelAt (f+1) l d) i 1 (QL X i (l+2)) fun v=>¬l+2<=v:=by
 intro l d r i h3 h9 hf hr
 rw[l7]
 by_cases hl:9<=l
 ·rw[if_pos hl]
  refine(SimO.unit (gs:=[O .ONE 1 (d+1)]) (h.one (d+1) 1 i (Nat.le_refl _) (by omega)) hr).mono (Nat.le_refl _) (fun x j ns ps q=>?_) fun x j ns ps q _=>?_
  ·obtain⟨n,rfl,hR,rfl,hl',_⟩:=q
   exact⟨n,hR,rfl,fun z=>by have:=hl' z;omega,Seg.one n,fun n' r' e=>by cases e;exact hR.at_.1⟩
  ·have:=BV1 (X.cy j);omega
 ·rw[if_neg hl]
  refine SimO.congr (fun s hs=>A3 hs.here) ?_
  refine SimO.bind (h.level (l+1) d r i (by omega) (by omega) (by omega) hr) fun a j ns ps r' q hs hr' hj hn=>?_
  obtain⟨M,hM,rfl⟩:=q.acc
  exact(h.more l d a i j r' ns M h3 (by omega) (by omega) hr' hs (hM.mono (by omega))).mono (Nat.le_refl _) (fun _ _ _ _ q=>q.fin) fun _ _ _ _ _ q=>q
theorem BS6 {y:Sy}(h:y∈keys .ONE):L7 .OR y=some [o1 .COMPARISON,mn .JOINED x8]/\L7 .COMPARISON y=some [o1 .FORMULA,mb .COMPARED]/\L7 .FORMULA y=some [o1 .ONE,mn .OPERATED x8]/\L7 .E y=some [o1 .OR,mb .CHOICE]:=
 (by decide:∀y∈keys .ONE,L7 .OR y=some [o1 .COMPARISON,mn .JOINED x8]/\L7 .COMPARISON y=some [o1 .FORMULA,mb .COMPARED]/\L7 .FORMULA y=some [o1 .ONE,mn .OPERATED x8]/\L7 .E y=some [o1 .OR,mb .CHOICE]) y h
theorem Ba3:keys .OR=keys .ONE/\keys .COMPARISON=keys .ONE/\keys .FORMULA=keys .ONE:=by decide
theorem w9 (h:Ok X f)(hM:X.N<x8){d r i:Nat}(hr:1<=r)(hf:16*(X.N-i)+10<=f):Sim X [O .FORMULA r (d+1)] (levelAt f 3 d) i 1 (QL X i 5):=by
 by_cases hb:X.cy i∈keys .ONE
 ·refine Sim.exp (gs:=[]) (BS6 hb).2.2.1 rfl rfl hr ?_
  exact(h.level 3 d x8 i (by omega) (by omega) (by omega) (by omega)).close fun y q z=>q (Z5.mp z)
 ·exact Sim.stray rfl (G4 (by rw[Ba3.2.2];exact hb)) fun s hs=>i9 hs hb _ _ _
theorem Ax5 (h:Ok X f)(hM:X.N<x8):∀d a i0 i ns M,16*(X.N-i)+1<=f+1->Acc X i0 i 5 a ns M->Sim X [Mb .COMPARED (d+1)] (moreAt (f+1) 2 d (X.bg i0) a) i 0 (QM X i0 4 ns M):=by
 intro d a i0 i ns M hf hA
 rw[AQ8]
 by_cases ho:stOf (X.cy i)=2+2
 ·obtain⟨o,hoo,o2,o3,o4⟩:=Z0 (by decide) ho
  have hi:=AQ4 o2
  have hk:Sy.sign (Ar4 o)∈keys .COMPARED:=Z3.mpr (by rw[←o2];exact ho)
  have hw:L7 .COMPARED (X.cy i)=some [s1 (Ar4 o),o1 .FORMULA]:=by rw[o2];exact AZ0 hk
  have h1:Sim X [O .COMPARED 1 (d+1)] (opHere 2>>=fun x=>match x with
    |none=>pure a
    |some o=>levelAt f (2+1) d>>=fun b=>Sw.part 5 (X.bg i0)>>=fun _=>if 2=2 then pure (.bin o a b)else moreAt f 2 d (X.bg i0) (.bin o a b)) i 0 (QM X i0 4 ns M):=by
   refine Sim.exp (gs:=[]) hw rfl rfl (Nat.le_refl _) ?_
   refine Sim.adv (a':=levelAt f (2+1) d>>=fun b=>Sw.part 5 (X.bg i0)>>=fun _=>if 2=2 then pure (.bin o a b)else moreAt f 2 d (X.bg i0) (.bin o a b)) o2 ⟨by simp,by simp⟩ (Nat.le_refl _) (fun s hs=>A3 (o4 s hs)) ?_
   refine Sim.bind (fs:=[O .FORMULA 1 (d+1)]) (gs:=[]) (w9 h hM (Nat.le_refl _) (fu hf (Nat.le_refl _) hi)) fun b j ns' ps q hj hn=>?_
   obtain⟨M',k1,rfl,k3,k4,k5⟩:=q
   have ha:=Acc.op hoo o3 hA.R (by intro z;exact hA.l z) (hA.s.mono (by omega)) hA.h o2 k1 k3 k4 k5 hn
   refine Sim.part ?_
   rw[if_pos rfl]
   refine Sim.ret (QM.more (M2:=mkOp 4 M M') ⟨_,?_,List.append_nil _⟩ ha.2)
   rw[List.append_nil]
   exact ha.1
  exact h1.conv fun rest st R hi' hr ho' hE=>AU9 hi' (by rw[o2];simp) (by show(L7 .COMPARED (X.cy i)).isSome=true;rw[hw];rfl) hE
 ·refine Sim.ok (x:=a) (fun s hs=>A3 (n9 (by decide) ho hs)) ⟨M,by rw[List.append_nil];exact hA.mono (by omega),List.append_nil _⟩ fun rest st R hi hr ho' hE=>Aj1 hi hr (G4 fun q=>ho (Z3.mp q)) hE
theorem Ap0 (h:Ok X f)(hM:X.N<x8):∀d r i,1<=r->16*(X.N-i)+11<=f+1->Sim X [O .COMPARISON r (d+1)] (levelAt (f+1) 2 d) i 1 (QL X i 4):=by
 intro d r i hr hf
 by_cases hb:X.cy i∈keys .ONE
 ·rw[l7,if_neg (by decide)]
  refine Sim.exp (gs:=[]) (BS6 hb).2.1 rfl rfl hr (Sim.here ?_)
  refine Sim.bind (fs:=[O .FORMULA 1 (d+1)]) (w9 h hM (Nat.le_refl _) (by omega)) fun a j ns ps q hj hn=>?_
  obtain⟨M,hA,rfl⟩:=q.acc
  exact(h.more2 d a i j ns M (by omega) hA).mono (Nat.le_refl _) fun _ _ _ _ q=>q.fin
 ·exact Sim.stray rfl (G4 (by rw[Ba3.2.1];exact hb)) fun s hs=>i9 hs hb _ _ _
theorem Ax2 (h:Ok X f):∀l d a i0 i r ns M,l<2->16*(X.N-i)+1<=f+1->X.N-i<r->¬(l+3<=stOf (X.cy i)/\stOf (X.cy i)<4)->Acc X i0 i (l+2) a ns M->SimO X .JOINED (d+1) [Mn .JOINED r (d+1)] (moreAt (f+1) l d (X.bg i0) a) i 0 (QM X i0 (l+2) ns M) fun v=>¬(l+2<=v/\v<4):=by
 intro l d a i0 i r ns M h2 hf hr hst hA
 rw[AQ8]
 by_cases ho:stOf (X.cy i)=l+2
 ·obtain⟨o,hoo,o2,o3,o4⟩:=Z0 (by omega) ho
  have hi:=AQ4 o2
  have hk:Sy.sign (Ar4 o)∈keys .JOINED:=AG8.mpr (by rw[←o2];omega)
  refine SimO.op (U:=.COMPARISON) (a':=levelAt f (l+1) d>>=fun b=>Sw.part 5 (X.bg i0)>>=fun _=>if l=2 then pure (.bin o a b)else moreAt f l d (X.bg i0) (.bin o a b)) rfl rfl o2 (Aw4 hk) hr (fun s hs=>A3 (o4 s hs)) ?_
  refine SimO.bind (h.levJ (l+1) d (r-1) (i+1) (by omega) (fu hf (Nat.le_refl _) hi (by omega)) (by omega)) fun b j ns' ps r' q hs hr' hj hn=>?_
  obtain⟨M',k1,rfl,k3,k4,k5⟩:=q
  have ha:=Acc.op hoo o3 hA.R (by unfold lowL;rw[if_neg (by omega)];exact hA.l) hA.s hA.h o2 k1 k3 k4 k5 hn
  refine SimO.part ?_
  rw[if_neg (by omega)]
  exact(h.moreJ l d _ i0 j r' _ _ h2 (fu hf (by omega) hi) hr' hs ha.1).mono (Nat.zero_le _) (fun _ _ _ _ q=>q.more ha.2) fun _ _ _ _ _ q=>q
 ·refine SimO.rest (x:=a) (fun s hs=>A3 (n9 (by omega) ho hs)) ⟨M,by rw[List.append_nil];exact hA,List.append_nil _⟩ (by omega) hr
theorem A85 (h:Ok X f)(h2':∀d r i,1<=r->16*(X.N-i)+11<=f+1->Sim X [O .COMPARISON r (d+1)] (levelAt (f+1) 2 d) i 1 (QL X i 4)):∀l d r i,l<=2->16*(X.N-i)+(13-l)<=f+1->X.N-i<r->SimO X .JOINED (d+1) [O .COMPARISON 1 (d+1),Mn .JOINED r (d+1)] (levelAt (f+1) l d) i 1 (QL X i (l+2)) fun v=>¬(l+2<=v/\v<4):=by
 intro l d r i hl hf hr
 by_cases e2:l=2
 ·subst e2
  exact(SimO.unit (gs:=[O .COMPARISON 1 (d+1)]) (h2' d 1 i (Nat.le_refl _) (by omega)) hr).mono (Nat.le_refl _) (fun _ _ _ _ q=>q) fun _ _ _ _ _ _=>by omega
 ·rw[l7,if_neg (by omega)]
  refine SimO.congr (fun s hs=>A3 hs.here) ?_
  refine SimO.bind (h.levJ (l+1) d r i (by omega) (by omega) hr) fun a j ns ps r' q hs hr' hj hn=>?_
  obtain⟨M,hM,rfl⟩:=q.acc
  exact(h.moreJ l d a i j r' ns M (by omega) (by omega) hr' hs (hM.mono (by omega))).mono (Nat.le_refl _) (fun _ _ _ _ q=>q.fin) fun _ _ _ _ _ q=>q
end
end Rd
namespace Rd
open Sw
section
variable {X:Tx} {f:Nat}
noncomputable def BH3 (f d:Nat):P (Ex×Option Ex):=eAt f (d+1)>>=fun i=>takes ",">>=fun c=>if c=true then eAt f (d+1)>>=fun j=>wants "]">>=fun _=>pure (i,some j)else wants "]">>=fun _=>pure (i,none)
noncomputable def A96 (a:Ex):Ex×Option Ex->Ex
 |(i,none)=>.index a i
 |(i,some j)=>.index2 a i j
theorem BG4 (f d p:Nat)(a:Ex):postAt (f+1) d p a=takes "[">>=fun c=>if c=true then BH3 f d>>=fun x=>Sw.part 7 p>>=fun _=>postAt f d p (A96 a x)
  else takes "@">>=fun c=>if c=true then sizeAt f (d+1)>>=fun k=>Sw.part 7 p>>=fun _=>postAt f d p (.past a k)else pure a:=by
 conv=>lhs;unfold postAt
 congr 1
 funext c
 cases c with
 |false=>rfl
 |true=>
  show(eAt f (d+1)>>=_:P Ex)=BH3 f d>>=_
  unfold BH3
  rw[bind_assoc]
  congr 1
  funext i
  rw[bind_assoc]
  congr 1
  funext c
  cases c with
  |true=>
   show(eAt f (d+1)>>=_:P Ex)=(eAt f (d+1)>>=fun j=>wants "]">>=fun _=>pure (i,some j))>>=_
   rw[bind_assoc]
   congr 1
   funext j
   rw[bind_assoc]
   rfl
  |false=>
   show(wants "]">>=_:P Ex)=(wants "]">>=fun _=>pure (i,none))>>=_
   rw[bind_assoc]
   rfl
noncomputable def QI (X:Tx)(i:Nat):Ex×Option Ex->Nat->List Nd->List Part->Prop:=fun x j ns ps=>∃m,j=m+1/\X.cy m=.sign 30/\ps=pts X ns/\match x with
 |(e,none)=>∃n,ns=[n]/\Rp X (.ex e) [n] (i+1) m
 |(e,some e')=>∃n n' m',ns=[n,n']/\Rp X (.ex e) [n] (i+1) m'/\X.cy m'=.sign 25/\Rp X (.ex e') [n'] (m'+1) m
theorem BC5 {d i:Nat}{gs:List Fr}(h:Ok X f)(hi:i<X.N)(hf:16*(X.N-i)+1<=f+1):Sim X [O .E 1 (d+1),Mb .SECOND (d+1),Tm (.sign 30) (d+1)] (BH3 f d) (i+1) 0 (QI X i):=by
 unfold BH3
 refine Sim.bind (fs:=[O .E 1 (d+1)]) (h.e (d+1) 1 (i+1) (Nat.le_refl _) (fu hf (Nat.le_refl _) hi)) fun x j ns ps q hj hn=>?_
 obtain⟨n,rfl,hR,rfl,_⟩:=q
 refine Sim.opt (ps:=[o1 .E]) sgk rfl rfl rfl (fun e1=>?_) (fun e1=>?_)
 ·refine Sim.bind (fs:=[O .E 1 (d+1)]) (gs:=[Tm (.sign 30) (d+1)]) (h.e (d+1) 1 (j+1) (Nat.le_refl _) (fu hf (by omega) hi)) fun y m ns ps q hm hn=>?_
  obtain⟨n',rfl,hR',rfl,_⟩:=q
  refine Sim.want sbc fun e2=>?_
  refine Sim.ret ⟨m,rfl,e2,?_,n,n',j,rfl,hR,e1,hR'⟩
  show pt X n++(pt X n'++[])=pts X [n,n']
  rw[E5,D4,List.append_nil]
 ·refine Sim.want sbc fun e2=>?_
  refine Sim.ret ⟨j,rfl,e2,?_,n,rfl,hR⟩
  show pt X n++[]=pts X [n]
  rw[D4,List.append_nil]
theorem A76 {M b:Nd}:pt X (F9 M b)=pt X M++(pts X b.c++[⟨7,X.bg M.i,X.en b.j-X.bg M.i⟩]):=by
 unfold F9
 rw[R6,E5,Ae8,List.append_assoc]
 rfl
theorem QB.step {i0:Nat}{M b:Nd}{x:Ex}{j j':Nat}{ns:List Nd}{ps:List Part}(hM:M.i=i0)(hb:b.j=j)(hb2:b.c.length<=2)(h:QB X i0 (F9 M b) x j' ns ps):QB X i0 M x j' ([b]++ns) (pts X b.c++(⟨7,X.bg i0,X.en j-X.bg i0⟩::ps)):=by
 obtain⟨h1,h2,h3,h4⟩:=h
 refine⟨h1,?_,h3,fun q hq=>(List.mem_cons.mp hq).elim (fun e=>by rw[e];exact hb2) (h4 q)⟩
 show _=pt X (List.foldl F9 (F9 M b) ns)
 rw[←h2,A76,hM,hb]
 simp only[List.append_assoc,List.cons_append,List.nil_append]
theorem BC6 (h:Ok X f):∀d a i0 i r M,X.N-i<r->16*(X.N-i)+1<=f+1->Rp X (.ex a) [M] i0 i->(M.pr=false->12<=M.st)->Sim X [Mn .BEHIND r (d+1)] (postAt (f+1) d (X.bg i0) a) i 0 (QB X i0 M):=by
 intro d a i0 i r M hr hf hR hl
 have hM:=hR.at_.1
 rw[BG4]
 by_cases e1:X.cy i=.sign 29
 ·have hi:=AQ4 e1
  have h1:Sim X ([O .BEHIND r (d+1)]++[Mn .BEHIND (r-1) (d+1)]) ((wants "[">>=fun _=>BH3 f d)>>=fun x=>Sw.part 7 (X.bg i0)>>=fun _=>postAt f d (X.bg i0) (A96 a x)) i 0 (QB X i0 M):=by
   refine Sim.bind (k1:=1) (Q:=fun x j ns ps=>∃b:Nd,ns=[b]/\b.j=j/\QI X i x j b.c ps) ?_ fun x j ns ps q hj hn=>?_
   ·refine Sim.node (Q':=QI X i) (ps:=[o1 .INDEXES]) (by rw[e1];rfl) rfl (fun q=>nomatch q.1) (by omega) (Nat.le_refl _) ?_ fun y j ns qs q _=>⟨_,rfl,_,rfl,rfl,q⟩
    refine Sim.exp (gs:=[]) (ps:=[s1 29,o1 .E,mb .SECOND,s1 30]) (by rw[e1];rfl) rfl rfl (Nat.le_refl _) ?_
    exact Sim.want sbo fun _=>BC5 (gs:=[]) h hi hf
   ·obtain⟨b,rfl,hb,m,rfl,e2,rfl,hx⟩:=q
    refine Sim.part ?_
    have key:Rp X (.ex (A96 a x)) [F9 M b] i0 (m+1):=by
     obtain⟨e,o⟩:=x
     unfold F9
     rw[hM,hb]
     cases o with
     |none=>
      obtain⟨n,hc,hn⟩:=hx
      rw[hc]
      exact .index hR e1 hn e2 hl
     |some e'=>
      obtain⟨n,n',m',hc,hn,e3,hn'⟩:=hx
      rw[hc]
      exact .index2 hR e1 hn e3 hn' e2 hl
    have hb2:b.c.length<=2:=by
     obtain⟨e,o⟩:=x
     cases o with
     |none=>obtain⟨n,hc,_⟩:=hx;rw[hc];exact Nat.le_succ _
     |some e'=>obtain⟨n,n',m',hc,_⟩:=hx;rw[hc];exact Nat.le_refl _
    exact(h.post d _ i0 (m+1) (r-1) (F9 M b) (by omega) (fu hf hj hi) key fun _=>Nat.le_refl _).mono (Nat.zero_le _) fun _ _ _ _ q=>q.step hM hb hb2
  refine Sim.conv (Sim.congr (fun s hA=>?_) h1) fun rest st R hi' hr' ho hE=>S6 hi' (by rw[e1];simp) (L5 (by rw[e1];decide)) hE
  have he:X.cy i=.sign (signNo "["):=by rw[sbo];exact e1
  rw[A3 (G8 hA he),bind_assoc,A3 (T6 hA he)]
  rfl
 ·refine Sim.congr (fun s hA=>A3 (F7 hA (by rw[sbo];exact e1))) ?_
  show Sim X _ (takes "@">>=_) i 0 _
  by_cases e2:X.cy i=.sign 26
  ·have hi:=AQ4 e2
   have h1:Sim X ([O .BEHIND r (d+1)]++[Mn .BEHIND (r-1) (d+1)]) ((wants "@">>=fun _=>sizeAt f (d+1))>>=fun k=>Sw.part 7 (X.bg i0)>>=fun _=>postAt f d (X.bg i0) (.past a k)) i 0 (QB X i0 M):=by
    refine Sim.bind (k1:=1) (Q:=fun x j ns ps=>∃b:Nd,ns=[b]/\b.j=j/\QZ X (i+1) x j b.c ps) ?_ fun x j ns ps q hj hn=>?_
    ·refine Sim.node (Q':=QZ X (i+1)) (ps:=[s1 26,o1 .SIZE]) (by rw[e2];rfl) rfl (fun q=>nomatch q.1) (by omega) (Nat.le_refl _) ?_ fun y j ns qs q _=>⟨_,rfl,_,rfl,rfl,q⟩
     exact Sim.want sga fun _=>(h.size (d+1) 1 (i+1) (Nat.le_refl _) (fu hf (Nat.le_refl _) hi)).mono (Nat.zero_le _) fun _ _ _ _ q=>q
    ·obtain⟨b,rfl,hb,n,hc,hn,rfl⟩:=q
     refine Sim.part ?_
     have key:Rp X (.ex (.past a x)) [F9 M b] i0 j:=by
      unfold F9
      rw[hM,hb,hc]
      exact .past hR e2 hn hl
     have e3:pt X n=pts X b.c:=by rw[hc,D4]
     rw[e3]
     exact(h.post d _ i0 j (r-1) (F9 M b) (by omega) (fu hf hj hi) key fun _=>Nat.le_refl _).mono (Nat.zero_le _) fun _ _ _ _ q=>q.step hM hb (by rw[hc];exact Nat.le_succ _)
   refine Sim.conv (Sim.congr (fun s hA=>?_) h1) fun rest st R hi' hr' ho hE=>S6 hi' (by rw[e2];simp) (L5 (by rw[e2];decide)) hE
   have he:X.cy i=.sign (signNo "@"):=by rw[sga];exact e2
   rw[A3 (G8 hA he),bind_assoc,A3 (T6 hA he)]
   rfl
  ·refine Sim.ok (x:=a) (fun s hA=>A3 (F7 hA (by rw[sga];exact e2))) ⟨hR,List.append_nil _,hl,fun q hq=>nomatch hq⟩ fun rest st R hi hr' ho hE=>AN2 hi hr' (G4 ?_) hE
   intro q
   have:X.cy i∈[Sy.sign 29,.sign 26]:=q
   simp only[List.mem_cons,List.not_mem_nil,or_false]at this
   exact this.elim e1 e2
theorem BR3 (h:Ok X f)(hMn:X.N<x8):∀d r i,1<=r->16*(X.N-i)+3<=f+1->Sim X [O .ONE r d] (oneAt (f+1) d) i 1 (QX X i 11 d):=by
 intro d r i hr hf
 refine U0 (Y:=.ONE) (A07 f d) rfl A89 (fun q s hA=>A18 hA q _ _) fun hb hd=>?_
 have ND:¬(W7 (.n .ONE)=true/\128<d):=fun q=>by omega
 obtain⟨t,et⟩:=R4 (K4 hb)
 have hi:=K1 et
 unfold AF1
 refine Sim.here ?_
 have pre:∀o:Nat,o<3->X.cy i=.sign (AF0 o)->Sim X [O .ONE r d] (V5>>=fun o=>match o with
  |some o=>oneAt f (d+1)>>=fun a=>Sw.part 6 (X.bg i)>>=fun _=>pure (.one o a)
  |none=>atomAt f (d+1)>>=fun a=>postAt f d (X.bg i) a) i 1 (QX X i 11 d):=by
  intro o ho hc
  have hw:L7 .ONE (X.cy i)=some [s1 (AF0 o),o1 .ONE]:=by rw[hc];exact(by decide:∀o,o<3->L7 .ONE (.sign (AF0 o))=some [s1 (AF0 o),o1 .ONE]) o ho
  refine Sim.node (Q':=fun x j ns qs=>∃a n,x=.one o a/\ns=[n]/\Rp X (.ex a) [n] (i+1) j/\(n.pr=false->11<=n.st)/\qs=pt X n++own X .SIGNED i j) hw rfl ND hr (Nat.le_refl _) ?_ ?_
  ·refine Sim.adv (a':=oneAt f (d+1)>>=fun a=>Sw.part 6 (X.bg i)>>=fun _=>pure (.one o a)) hc ⟨by simp,by simp⟩ (Nat.le_refl _) (fun s hA=>A3 (Ah7 hA ho hc)) ?_
   refine Sim.bind (fs:=[O .ONE 1 (d+1)]) (gs:=[]) (h.one (d+1) 1 (i+1) (Nat.le_refl _) (fu hf (Nat.le_refl _) hi)) fun a j ns ps q hj hn=>?_
   obtain⟨n,rfl,hR,rfl,hl,_⟩:=q
   exact Sim.part (Sim.ret ⟨a,n,rfl,rfl,hR,hl,rfl⟩)
  ·rintro y j ns qs ⟨a,n,rfl,rfl,hR,hl,rfl⟩ _
   refine⟨_,?_,_,rfl,.one ho hc hR hl,?_,fun _=>Nat.le_refl _,hd⟩
   ·show AS7 X.cy ⟨.n .ONE,i,[n]⟩ j=_
    refine if_pos ?_
    show X.cy i=_∨X.cy i=_∨X.cy i=_
    rw[hc]
    exact(by decide:∀o,o<3->Sy.sign (AF0 o)=.sign 10∨Sy.sign (AF0 o)=.sign 17∨Sy.sign (AF0 o)=.sign 18) o ho
   ·rw[R6,D4,Ae8]
 by_cases h1:X.cy i=.sign 10
 ·exact pre 0 (by decide) h1
 by_cases h2':X.cy i=.sign 17
 ·exact pre 1 (by decide) h2'
 by_cases h3:X.cy i=.sign 18
 ·exact pre 2 (by decide) h3
 refine Sim.congr (fun s hA=>A3 (AB4 hA h1 h2' h3)) ?_
 have ha:X.cy i∈keys .ATOM:=by
  have:∀y∈keys .ONE,y∈keys .ATOM∨y=.sign 10∨y=.sign 17∨y=.sign 18:=by decide
  rcases this _ hb with q |q |q |q
  ·exact q
  ·exact(h1 q).elim
  ·exact(h2' q).elim
  ·exact(h3 q).elim
 have hw:L7 .ONE (X.cy i)=some [o1 .ATOM,mn .BEHIND x8]:=(by decide:∀y∈keys .ATOM,L7 .ONE y=some [o1 .ATOM,mn .BEHIND x8]) _ ha
 refine Sim.node (Q':=fun x j ns qs=>∃n r,ns=n::r/\Rp X (.ex x) [r.foldl F9 n] i j/\qs=pt X (r.foldl F9 n)/\((r.foldl F9 n).pr=false->12<=(r.foldl F9 n).st)/\∀q∈r,q.c.length<=2) hw rfl ND hr (Nat.le_refl _) ?_ ?_
 ·refine Sim.bind (fs:=[O .ATOM 1 (d+1)]) (gs:=[Mn .BEHIND x8 (d+1)]) (h.atom (d+1) 1 i (Nat.le_refl _) (by omega)) fun a j ns ps q hj hn=>?_
  obtain⟨n,rfl,hR,rfl,hl,_⟩:=q
  exact(h.post d a i j x8 n (by omega) (by omega) hR hl).mono (Nat.le_refl _) fun x j' ns ps q=>⟨n,ns,rfl,q.1,q.2.1,q.2.2.1,q.2.2.2⟩
 ·rintro y j ns qs ⟨n,r',rfl,hR,rfl,hl,h2⟩ _
  refine⟨_,?_,_,rfl,hR,rfl,fun q=>?_,hd⟩
  ·show AS7 X.cy ⟨.n .ONE,i,n::r'⟩ j=_
   refine(if_neg (fun q=>q.elim h1 fun q=>q.elim h2' h3)).trans (if_pos ?_)
   exact List.all_eq_true.mpr fun q hq=>decide_eq_true (h2 q hq)
  ·have:=hl q;omega
end
end Rd
namespace Rd
open Sw
section
variable {X:Tx} {f:Nat}
noncomputable def AF7 (f d:Nat):Unit->P Ex:=fun _=>here>>=fun p=>peek>>=fun x=>match x with
  |some ⟨_,_,.num n⟩=>next>>=fun _=>Sw.part 8 p>>=fun _=>pure (.num n)
  |some ⟨_,_,.name s⟩=>next>>=fun _=>takes "(">>=fun c=>if c=true then argsAt f (d+1) 0>>=fun l=>Sw.part 7 p>>=fun _=>pure (.call s l)else Sw.part 8 p>>=fun _=>pure (.name s)
  |some ⟨_,_,.sign _⟩=>inParens f (d+1)>>=fun e=>Sw.part 7 p>>=fun _=>pure e
  |some ⟨_,_,.kept k⟩=>
   if k=keptNo "held"∨k=keptNo "wrapped" then next>>=fun _=>wantsCode>>=fun c=>inParens f (d+1)>>=fun e=>Sw.part 7 p>>=fun _=>pure (if k=keptNo "held" then .held c e else .wrapped c e)
   else if k=keptNo "abs" then next>>=fun _=>inParens f (d+1)>>=fun e=>Sw.part 7 p>>=fun _=>pure (.abs e)
   else if k=keptNo "round"∨k=keptNo "min"∨k=keptNo "max" then next>>=fun _=>twoIn f (d+1)>>=fun x=>Sw.part 7 p>>=fun _=>pure (if k=keptNo "round" then .round x.1 x.2 else if k=keptNo "min" then .min x.1 x.2 else .max x.1 x.2)
   else stray
  |none=>stray
theorem A82 (f d:Nat):atomAt (f+1) d=notDeep d beginsAtom>>=AF7 f d:=by
 conv=>lhs;unfold atomAt
 unfold AF7
 congr 1
noncomputable def QA (X:Tx)(i:Nat):Ex->Nat->List Nd->List Part->Prop:=fun x j c qs=>∃n,fin X.cy X.N ⟨.n .ATOM,i,c⟩ j=some n/\Rp X (.ex x) [n] i j/\qs=pt X n/\(n.pr=false->12<=n.st)
theorem A53 (h:Ok X f):∀d r i,1<=r->16*(X.N-i)+2<=f+1->Sim X [O .ATOM r d] (atomAt (f+1) d) i 1 (QX X i 12 d):=by
 intro d r i hr hf
 refine U0 (Y:=.ATOM) (A82 f d) rfl Ae2 (fun q s hA=>Ae9 hA q _ _) fun hb hd=>?_
 have ND:¬(W7 (.n .ATOM)=true/\128<d):=fun q=>by omega
 obtain⟨t,e⟩:=R4 (K4 hb)
 have hi:=K1 e
 have hf1:16*(X.N-(i+1))+1<=f:=by omega
 obtain⟨ps,hw⟩:=Option.isSome_iff_exists.mp (show(L7 .ATOM (X.cy i)).isSome=true from L5 hb)
 refine Sim.node (Q':=QA X i) hw rfl ND hr (Nat.le_refl _) ?_ fun y j ns qs q _=>let ⟨n,q1,q2,q3,q4⟩:=q;⟨n,q1,n,rfl,q2,q3,q4,hd⟩
 unfold AF7
 refine Sim.here (Sim.peek ?_)
 obtain⟨ec,_,et,_⟩:=E9 e
 obtain⟨p0,l0,k⟩:=t
 rw[e]
 have two7:∀{j:Nat} {c:List Nd},X.cy i≠.sign 27->i+1<j->fin X.cy X.N ⟨.n .ATOM,i,c⟩ j=some (atm i j false 12 c)/\pt X (atm i j false 12 c)=pts X c++[⟨7,X.bg i,X.en j-X.bg i⟩]:=fun hc hj=>⟨Ak5 (l:=0) hc hj,by rw[R6,Bb3 X hj]⟩
 cases k with
 |num v=>
  have hc:X.cy i=.number:=ec
  rw[hc]at hw
  cases hw
  refine Sim.adv (a':=Sw.part 8 (X.bg i)>>=fun _=>pure (Ex.num v)) hc ⟨by simp,by simp⟩ (Nat.le_refl _) (fun s hA=>A3 (M6 s)) (Sim.part (Sim.ret ⟨_,Y5 (l:=0) (by rw[hc];simp),.num et,?_,fun _=>(by show 12<=13;decide)⟩))
  rw[R6,D7,Ba1];rfl
 |name v=>
  have hc:X.cy i=.name:=ec
  rw[hc]at hw
  cases hw
  refine Sim.adv (a':=takes "(">>=fun c=>if c=true then argsAt f (d+1) 0>>=fun l=>Sw.part 7 (X.bg i)>>=fun _=>pure (Ex.call v l)else Sw.part 8 (X.bg i)>>=fun _=>pure (Ex.name v)) hc ⟨by simp,by simp⟩ (Nat.le_refl _) (fun s hA=>A3 (M6 s)) ?_
  refine Sim.opt (ps:=[o1 .E,mr .E 255,s1 28]) (gs:=[]) sgo rfl rfl rfl (fun e1=>?_) (fun e1=>?_)
  ·refine Sim.bind (gs:=[]) (h.args (d+1) 0 1 (i+2) (.inr ⟨rfl,Nat.le_refl _⟩) (fun q=>(q rfl).elim) (by omega)) fun l j ns ps q hj hn=>?_
   obtain⟨m,rfl,_,hR,e2,rfl⟩:=q
   have hlt:=hR.lt
   have h7:=two7 (j:=m+1) (c:=ns) (by rw[hc];simp) (by omega)
   refine Sim.part (Sim.ret ⟨_,?_,.call et e1 hR e2,h7.2.symm,fun _=>Nat.le_refl _⟩)
   rw[List.append_nil]
   exact h7.1
  ·refine Sim.part (Sim.ret ⟨_,Y5 (l:=0) (by rw[hc];simp),.name et,?_,fun _=>(by show 12<=13;decide)⟩)
   rw[R6,D7,Ba1];rfl
 |sign k=>
  have hk:k=27:=by rw[ec]at hb;have:Sy.sign k∈keys .ATOM:=hb;simpa [keys,row]using this
  subst hk
  have hc:X.cy i=.sign 27:=ec
  rw[hc]at hw
  cases hw
  refine Sim.bind (gs:=[]) (h.par (d+1) i (by omega)) fun x j ns ps q hj hn=>?_
  obtain⟨n,m,rfl,rfl,hR,rfl,e1,e2⟩:=q
  have hlt:=hR.lt
  refine Sim.part (Sim.ret ⟨_,AK9 hc,.par hc hR e2,?_,fun q=>nomatch q⟩)
  show _=pt X (atm i (m+1) true n.st [n])
  rw[R6,D4,Bb3 X (by omega)]
 |kept k=>
  have hc:X.cy i=.kept k:=ec
  have n27:X.cy i≠.sign 27:=by rw[hc];simp
  rw[hc]at hb hw
  have hk:k=6∨k=17∨k=0∨k=11∨k=9∨k=8:=by
   have:Sy.kept k∈keys .ATOM:=hb
   simp[keys,row]at this
   omega
  show Sim X _ (if k=keptNo "held"∨k=keptNo "wrapped" then _ else if k=keptNo "abs" then _ else if k=keptNo "round"∨k=keptNo "min"∨k=keptNo "max" then _ else stray) i 1 _
  rw[show keptNo "held"=6 by decide,show keptNo "wrapped"=17 by decide,show keptNo "abs"=0 by decide,show keptNo "round"=11 by decide,show keptNo "min"=9 by decide,show keptNo "max"=8 by decide]
  by_cases h1:k=6∨k=17
  ·rw[if_pos h1]
   have hw':ps=[k1 k,o1 .CODE,s1 27,o1 .E,s1 28]:=by rcases h1 with rfl |rfl<;>(cases hw;rfl)
   subst hw'
   refine Sim.adv (a':=wantsCode>>=fun c=>inParens f (d+1)>>=fun e=>Sw.part 7 (X.bg i)>>=fun _=>pure (if k=6 then Ex.held c e else .wrapped c e)) hc ⟨by simp,by simp⟩ (Nat.le_refl _) (fun s hA=>A3 (M6 s)) ?_
   refine Sim.code fun m e1 hm=>?_
   refine Sim.bind (gs:=[]) (h.par (d+1) (i+2) (by omega)) fun x j ns ps q hj hn=>?_
   obtain⟨n,m',rfl,rfl,hR,rfl,e2,e3⟩:=q
   have hlt:=hR.lt
   have h7:=two7 (j:=m'+1) (c:=[n]) n27 (by omega)
   exact Sim.part (Sim.ret ⟨_,h7.1,.hw h1 hm hc e1 e2 hR e3,by rw[h7.2,D4],fun _=>Nat.le_refl _⟩)
  rw[if_neg h1]
  by_cases h2:k=0
  ·rw[if_pos h2]
   subst h2
   cases hw
   refine Sim.adv (a':=inParens f (d+1)>>=fun e=>Sw.part 7 (X.bg i)>>=fun _=>pure (Ex.abs e)) hc ⟨by simp,by simp⟩ (Nat.le_refl _) (fun s hA=>A3 (M6 s)) ?_
   refine Sim.bind (gs:=[]) (h.par (d+1) (i+1) hf1) fun x j ns ps q hj hn=>?_
   obtain⟨n,m',rfl,rfl,hR,rfl,e2,e3⟩:=q
   have hlt:=hR.lt
   have h7:=two7 (j:=m'+1) (c:=[n]) n27 (by omega)
   exact Sim.part (Sim.ret ⟨_,h7.1,.abs hc e2 hR e3,by rw[h7.2,D4],fun _=>Nat.le_refl _⟩)
  rw[if_neg h2]
  have h3:k=11∨k=9∨k=8:=by omega
  rw[if_pos h3]
  have hw':ps=[k1 k,s1 27,o1 .E,s1 25,o1 .E,s1 28]:=by rcases h3 with rfl |rfl |rfl<;>(cases hw;rfl)
  subst hw'
  refine Sim.adv (a':=twoIn f (d+1)>>=fun x=>Sw.part 7 (X.bg i)>>=fun _=>pure (two k x.1 x.2)) hc ⟨by simp,by simp⟩ (Nat.le_refl _) (fun s hA=>A3 (M6 s)) ?_
  refine Sim.bind (gs:=[]) (h.two (d+1) (i+1) hf1) fun x j ns ps q hj hn=>?_
  obtain⟨n,n',m,m',rfl,rfl,hR,hR',rfl,e2,e3,e4⟩:=q
  have hlt:=hR.lt
  have hlt':=hR'.lt
  have h7:=two7 (j:=m'+1) (c:=[n,n']) n27 (by omega)
  exact Sim.part (Sim.ret ⟨_,h7.1,.two h3 hc e2 hR e3 hR' e4,by rw[h7.2,E5,D4],fun _=>Nat.le_refl _⟩)
theorem BM1 (h:Ok X f)(hMn:X.N<x8){d i:Nat}(hb:X.cy i∈keys .ONE)(hf:16*(X.N-i)+13<=f):Sim X [O .OR 1 (d+1)] (levelAt f 0 d) i 1 (QX X i 2 0):=by
 refine Sim.node (Q':=QL X i 2) (BS6 hb).1 rfl (fun q=>nomatch q.1) (Nat.le_refl _) (Nat.le_refl _) ?_ ?_
 ·exact(h.levJ 0 d x8 i (by omega) (by omega) (by omega)).close fun y q z=>q (AG8.mp z)
 ·rintro y j ns qs ⟨M,h1,h2,h3,h4,h5⟩ _
  exact⟨M,h4.fin,M,rfl,h1,h2,h3,Nat.zero_le _⟩
noncomputable def QU (X:Tx)(i:Nat):Ex->Nat->List Nd->List Part->Prop:=fun x j c qs=>∃n,fin X.cy X.N ⟨.n .E,i,c⟩ j=some n/\Rp X (.ex x) [n] i j/\qs=pt X n
theorem Ak4 {i j k:Nat}{c:List Nd}(hc:X.cy i=.kept k)(hk:k=15∨k=12∨k=13):fin X.cy X.N ⟨.n .E,i,c⟩ j=some (.mk .SUM i j false 0 0 c):=by
 show BS7 X.cy ⟨.n .E,i,c⟩ j=_
 refine if_pos ?_
 show X.cy i=_∨X.cy i=_∨X.cy i=_
 rw[hc]
 rcases hk with rfl |rfl |rfl
 ·exact .inl rfl
 ·exact .inr (.inl rfl)
 ·exact .inr (.inr rfl)
theorem Be9 (h:Ok X f)(hMn:X.N<x8):∀d r i,1<=r->16*(X.N-i)+14<=f+1->Sim X [O .E r d] (eAt (f+1) d) i 1 (QX X i 0 d):=by
 intro d r i hr hf
 refine U0 (Y:=.E) (Ba6 f d) rfl b_e (fun q s hA=>Bc7 hA q _ _) fun hb hd=>?_
 have ND:¬(W7 (.n .E)=true/\128<d):=fun q=>by omega
 obtain⟨t,et⟩:=R4 (K4 hb)
 have hi:=K1 et
 obtain⟨ps,hw⟩:=Option.isSome_iff_exists.mp (show(L7 .E (X.cy i)).isSome=true from L5 hb)
 refine Sim.node (Q':=QU X i) hw rfl ND hr (Nat.le_refl _) ?_ fun y j ns qs q _=>let ⟨n,q1,q2,q3⟩:=q;⟨n,q1,n,rfl,q2,q3,fun _=>Nat.zero_le _,hd⟩
 unfold Aw9
 refine Sim.here ?_
 have w1:keptNo "sum"=15:=by decide
 have w2:keptNo "row"=12:=by decide
 have w3:keptNo "sheet"=13:=by decide
 have over:∀(k:Nat) (g:Bytes×Ex×Ex->Ex) (a:P Ex),(k=15∨k=12)->(∀x,g x=ovr k x.1 x.2.1 x.2.2)->X.cy i=.kept k->ps=[k1 k,nm,s1 19,o1 .SIZE,s1 23,o1 .E]->(∀s,At X s i->a s=(overAt f (d+1)>>=fun x=>Sw.part 5 (X.bg i)>>=fun _=>pure (g x)) (adv s))->Sim X (ps.map (fr (d+1))) a i 1 (QU X i):=by
  intro k g a hk hg hc hp ha
  subst hp
  refine Sim.adv hc ⟨by simp,by simp⟩ (Nat.le_refl _) ha ?_
  refine Sim.bind (gs:=[]) (h.over (d+1) (i+1) (by omega)) fun x j ns ps q hj hn=>?_
  obtain⟨n,n',m,rfl,q1,q2,q3,q4,q5,rfl⟩:=q
  refine Sim.part (Sim.ret ⟨_,Ak4 hc (by omega),?_,?_⟩)
  ·rw[hg]
   exact .ovr hk hc q1 q2 q3 q4 q5
  ·show _=pt X (.mk .SUM i j false 0 0 [n,n'])
   rw[R6,E5,D4];rfl
 by_cases h1:X.cy i=.kept 15
 ·have hw':ps=[k1 15,nm,s1 19,o1 .SIZE,s1 23,o1 .E]:=by rw[h1]at hw;cases hw;rfl
  exact over 15 _ _ (.inl rfl) (fun x=>rfl) h1 hw' fun s hA=>A3 (Q6 hA (by rw[w1];exact h1))
 refine Sim.congr (fun s hA=>A3 (P2 hA (by rw[w1];exact h1))) ?_
 show Sim X _ (takesWord "row">>=_) i 1 _
 by_cases h2:X.cy i=.kept 12
 ·have hw':ps=[k1 12,nm,s1 19,o1 .SIZE,s1 23,o1 .E]:=by rw[h2]at hw;cases hw;rfl
  exact over 12 _ _ (.inr rfl) (fun x=>rfl) h2 hw' fun s hA=>A3 (Q6 hA (by rw[w2];exact h2))
 refine Sim.congr (fun s hA=>A3 (P2 hA (by rw[w2];exact h2))) ?_
 show Sim X _ (takesWord "sheet">>=_) i 1 _
 by_cases h3:X.cy i=.kept 13
 ·have hw':ps=[k1 13,nm,s1 25,nm,s1 19,o1 .SIZE,s1 25,o1 .SIZE,s1 23,o1 .E]:=by rw[h3]at hw;cases hw;rfl
  subst hw'
  refine Sim.adv h3 ⟨by simp,by simp⟩ (Nat.le_refl _) (fun s hA=>A3 (Q6 hA (by rw[w3];exact h3))) ?_
  refine Sim.name (Nat.le_refl _) fun b q1=>?_
  refine Sim.want sgk fun q2=>?_
  refine Sim.name (Nat.le_refl _) fun b' q3=>?_
  refine Sim.want sgl fun q4=>?_
  refine Sim.bind (fs:=[O .SIZE 1 (d+1)]) (h.size (d+1) 1 (i+5) (Nat.le_refl _) (by omega)) fun x j ns ps q hj hn=>?_
  obtain⟨n,rfl,r1,rfl⟩:=q
  refine Sim.want sgk fun q5=>?_
  refine Sim.bind (fs:=[O .SIZE 1 (d+1)]) (h.size (d+1) 1 (j+1) (Nat.le_refl _) (by omega)) fun y m ns ps q hm hn'=>?_
  obtain⟨n',rfl,r2,rfl⟩:=q
  refine Sim.want sgd fun q6=>?_
  refine Sim.bind (fs:=[O .E 1 (d+1)]) (gs:=[]) (h.e (d+1) 1 (m+1) (Nat.le_refl _) (by omega)) fun z m' ns ps q hm' hn''=>?_
  obtain⟨n'',rfl,r3,rfl,_⟩:=q
  refine Sim.part (Sim.ret ⟨_,Ak4 h3 (by omega),.sheet h3 q1 q2 q3 q4 r1 q5 r2 q6 r3,?_⟩)
  show _=pt X (.mk .SUM i m' false 0 0 [n,n',n''])
  rw[R6,E5,E5,D4]
  simp only[List.append_assoc]
  rfl
 refine Sim.congr (fun s hA=>A3 (P2 hA (by rw[w3];exact h3))) ?_
 have ho:X.cy i∈keys .ONE:=by
  have:∀y∈keys .E,y∈keys .ONE∨y=.kept 15∨y=.kept 12∨y=.kept 13:=by decide
  rcases this _ hb with q |q |q |q
  ·exact q
  ·exact(h1 q).elim
  ·exact(h2 q).elim
  ·exact(h3 q).elim
 have hw':ps=[o1 .OR,mb .CHOICE]:=by rw[(BS6 ho).2.2.2]at hw;cases hw;rfl
 subst hw'
 have nsum:¬(X.cy i=.kept 15∨X.cy i=.kept 12∨X.cy i=.kept 13):=fun q=>q.elim h1 fun q=>q.elim h2 h3
 refine Sim.bind (fs:=[O .OR 1 (d+1)]) (gs:=[Mb .CHOICE (d+1)]) (BM1 h hMn ho (by omega)) fun c j ns ps q hj hn=>?_
 obtain⟨n,rfl,r1,rfl,hl,_⟩:=q
 refine Sim.opt (ps:=[o1 .E,s1 23,o1 .E]) (gs:=[]) sgq rfl rfl rfl (fun e1=>?_) (fun e1=>?_)
 ·refine Sim.bind (fs:=[O .E 1 (d+1)]) (gs:=[Tm (.sign 23) (d+1),O .E 1 (d+1)]) (h.e (d+1) 1 (j+1) (Nat.le_refl _) (by omega)) fun x m ns ps q hm hn'=>?_
  obtain⟨n',rfl,r2,rfl,_⟩:=q
  refine Sim.want sgd fun e2=>?_
  refine Sim.bind (fs:=[O .E 1 (d+1)]) (gs:=[]) (h.e (d+1) 1 (m+1) (Nat.le_refl _) (by omega)) fun y m' ns ps q hm' hn''=>?_
  obtain⟨n'',rfl,r3,rfl,_⟩:=q
  refine Sim.part (Sim.ret ⟨.mk .CHOICE i m' false 1 0 [n.setLe 2,n',n''],if_neg nsum,.choice r1 e1 r2 e2 r3 hl,?_⟩)
  rw[R6,E5,E5,D4,Ae8]
  simp only[List.append_assoc]
  rfl
 ·exact Sim.ret ⟨n,if_neg nsum,r1,List.append_nil _⟩
theorem A58 (X:Tx):Ok X 0:=by
 refine⟨?_,?_,?_,?_,?_,?_,?_,?_,?_,?_,?_,?_,?_,?_,?_⟩<;>(intros;omega)
theorem AV8 (hMn:X.N<x8):∀f,Ok X f
 |0=>A58 X
 |f+1=>by
  have h:=AV8 hMn f
  exact⟨Be9 h hMn,A48 h,Az3 h,BE3 h,Ap0 h hMn,Ax5 h hMn,A85 h (Ap0 h hMn),Ax2 h,BR3 h hMn,BC6 h,A64 h,BN6 h,BP5 h,A53 h,BE2 h h.e⟩
end
end Rd
namespace Rd
open Sw
inductive It where
 |nm (b:Bytes) |kw (k:Nat) |sg (k:Nat) |ob (o:Ob) |nd (x:Nt) (l:List It)
inductive SR (X:Tx):List It->List Nd->Nat->Nat->Prop where
 |nil {i:Nat}:SR X [] [] i i
 |nm {b:Bytes} {r:List It} {ns:List Nd} {i j:Nat}:X.tk i=some (.name b)->SR X r ns (i+1) j->SR X (.nm b::r) ns i j
 |kw {k:Nat} {r:List It} {ns:List Nd} {i j:Nat}:X.cy i=.kept k->SR X r ns (i+1) j->SR X (.kw k::r) ns i j
 |sg {k:Nat} {r:List It} {ns:List Nd} {i j:Nat}:X.cy i=.sign k->SR X r ns (i+1) j->SR X (.sg k::r) ns i j
 |ob {o:Ob} {r:List It} {ns ms:List Nd} {i m j:Nat}:Rp X o ns i m->SR X r ms m j->SR X (.ob o::r) (ns++ms) i j
 |nd {x:Nt} {l r:List It} {ns ms:List Nd} {i m j:Nat}:SR X l ns i m->i<m->SR X r ms m j->SR X (.nd x l::r) (.mk (.n x) i m false 13 0 ns::ms) i j
section
variable {X:Tx} {F:Nat}
theorem SR.app {l r:List It}{ns ms:List Nd}{i m j:Nat}(h:SR X l ns i m)(h':SR X r ms m j):SR X (l++r) (ns++ms) i j:=by
 induction h with
 |nil=>exact h'
 |nm e _ ih=>exact .nm e (ih h')
 |kw e _ ih=>exact .kw e (ih h')
 |sg e _ ih=>exact .sg e (ih h')
 |ob e _ ih=>rw[List.append_assoc];exact .ob e (ih h')
 |nd e e2 _ _ ih=>exact .nd e e2 (ih h')
theorem SR.one {o:Ob}{ns:List Nd}{i j:Nat}(h:Rp X o ns i j):SR X [.ob o] ns i j:=by
 have:=SR.ob h .nil
 rw[List.append_nil]at this
 exact this
noncomputable def AA0 (k:KindEx):List It:=.kw (18+k.code)::(match k.w,k.h with
 |some w,some h=>[.sg 29,.ob (.ex w),.sg 25,.ob (.ex h),.sg 30]
 |some w,none=>[.sg 29,.ob (.ex w),.sg 30]
 |none,_=>[])
noncomputable def Aj9:Option Ex->List It
 |none=>[]
 |some e=>[.sg 12,.ob (.sz e)]
noncomputable def AS6 (p:Port):List It:=.nm p.name::.sg 23::(AA0 p.kind++Aj9 p.per)
noncomputable def Ar5 (p:EndPort):List It:=.nm p.name::.sg 23::(AA0 p.kind++(.kw 1::.ob (.sz p.num)::Aj9 p.den))
noncomputable def f6:List (List It)->List It
 |[]=>[]
 |[x]=>x
 |x::y::l=>x++(.sg 25::f6 (y::l))
noncomputable def R0 (l:List Bytes):List It:=f6 (l.map fun b=>[.nm b])
noncomputable def Z6 (s:StateDecl):List It:=.kw 14::.nm s.name::.sg 23::(AA0 s.kind++[.sg 21,.ob (.ex s.init),.sg 24])
noncomputable def BA3:Do->List It
 |.bind s e=>[.kw 7,.nm s,.sg 21,.ob (.ex e),.sg 24]
 |.put s none e=>[.nm s,.sg 21,.ob (.ex e),.sg 24]
 |.put s (some i) e=>[.nm s,.sg 29,.ob (.ex i),.sg 30,.sg 21,.ob (.ex e),.sg 24]
noncomputable def Y7:Wire->List It
 |.node o f i=>R0 o++(.sg 21::.nm f::.sg 27::(R0 i++[.sg 28,.sg 24]))
 |.delay s n v x=>[.nm s,.sg 21,.kw 3,.ob (.sz n),.sg 27,.ob (.ex v),.sg 28,.sg 27,.nm x,.sg 28,.sg 24]
 |.same s x=>[.nm s,.sg 21,.nm x,.sg 24]
noncomputable def AR5 (l:List Port):List It:=f6 (l.map fun p=>[.nd .PORT (AS6 p)])
noncomputable def Ag0 (l:List EndPort):List It:=f6 (l.map fun p=>[.nd .END (Ar5 p)])
noncomputable def O7:Decl->List It
 |.const s e=>[.kw 2,.nm s,.sg 21,.ob (.ex e),.sg 24]
 |.table s c l=>[.kw 16,.nm s,.sg 23,.kw (18+c),.sg 21,.sg 29,.ob (.ar l),.sg 30,.sg 24]
 |.fn s ps e=>.kw 4::.nm s::.sg 27::(R0 ps++[.sg 28,.sg 21,.ob (.ex e),.sg 24])
 |.node s i o st ds=>.kw 10::.nm s::.sg 27::(AR5 i++(.sg 28::.sg 0::.sg 27::(AR5 o++(.sg 28::.sg 31::(st.map (fun s=>.nd .STATE (Z6 s))++(ds.map (fun d=>.nd .DO (BA3 d))++[.sg 32]))))))
 |.graph s i o ws=>.kw 5::.nm s::.sg 27::(Ag0 i++(.sg 28::.sg 0::.sg 27::(Ag0 o++(.sg 28::.sg 31::(ws.map (fun w=>.nd .WIRE (Y7 w))++[.sg 32])))))
noncomputable def p6 (P:Prog):List It:=P.map fun d=>.nd .DECL (O7 d)
noncomputable def QT {α:Type}(X:Tx)(it:α->List It)(i:Nat):α->Nat->List Nd->List Part->Prop:=fun y j ns qs=>SR X (it y) ns i j/\qs=pts X ns
noncomputable def QW {α:Type}(X:Tx)(x:Nt)(it:α->List It)(i:Nat):α->Nat->List Nd->List Part->Prop:=fun y j ns qs=>SR X (it y) ns i j/\qs=pts X ns++own X (.n x) i j
noncomputable def plain (x:Nt):Bool:=!decide (x=.E∨x=.OR∨x=.ONE∨x=.ATOM∨x=.SIZE)
theorem Ac9 {x:Nt}(hx:plain x=true){i j:Nat}{ns:List Nd}:fin X.cy X.N ⟨.n x,i,ns⟩ j=some (.mk (.n x) i j false 13 0 ns):=by
 cases x<;>first |rfl |cases hx
theorem Sim.nodeT {α:Type}{x:Nt}{it:α->List It}{a:P α}{r i k:Nat}{ps:List Pt}(hw:L7 x (X.cy i)=some ps)(hx:plain x=true/\R5 x=true/\W7 (.n x)=false)(hr:1<=r)(hk:1<=k)(hs:Sim X (ps.map (fr 0)) a i k (QW X x it i)):Sim X [O x r 0] a i k (QT X (fun y=>[.nd x (it y)]) i):=by
 have e:dps x 0=0:=by unfold dps;rw[hx.2.2];rfl
 refine Sim.node (Q':=QW X x it i) hw hx.2.1 (by rw[hx.2.2];simp) hr hk (by rw[e];exact hs) fun y j ns qs q hj=>⟨_,Ac9 hx.1,.nd q.1 hj .nil,?_⟩
 rw[q.2,D4,R6]
noncomputable def Enf (X:Tx)(F i:Nat):Prop:=16*(X.N-i)+14<=F/\X.N<x8
theorem Enf.less {i j:Nat}(h:Enf X F i)(hj:i<=j):Enf X F j:=⟨by have:=h.1;omega,h.2⟩
theorem AG9 {d r i:Nat}(h:Enf X F i)(hr:1<=r):Sim X [O .E r d] (eAt F d) i 1 (QX X i 0 d):=(AV8 h.2 F).e d r i hr h.1
theorem AC6 {d r i:Nat}(h:Enf X F i)(hr:1<=r):Sim X [O .SIZE r d] (sizeAt F d) i 1 (QZ X i):=(AV8 h.2 F).size d r i hr (by have:=h.1;omega)
theorem sgs:signNo "/"=12:=by decide
theorem sge:signNo "="=21:=by decide
theorem sgm:signNo ";"=24:=by decide
theorem sgw:signNo "->"=0:=by decide
theorem sco:signNo "{"=31:=by decide
theorem scc:signNo "}"=32:=by decide
theorem Ai1 {i:Nat}(h:Enf X F i):Sim X [Mb .DIVISOR 0] (optionSize F) i 0 (QT X Aj9 i):=by
 unfold optionSize
 refine Sim.opt (ps:=[o1 .SIZE]) (gs:=[]) sgs rfl rfl rfl (fun e1=>?_) (fun _=>Sim.ret ⟨.nil,(D7 X).symm⟩)
 refine Sim.bind (fs:=[O .SIZE 1 0]) (gs:=[]) (AC6 (h.less (Nat.le_succ _)) (Nat.le_refl _)) fun x j ns ps q hj hn=>?_
 obtain⟨n,rfl,hR,rfl⟩:=q
 exact Sim.ret ⟨.sg e1 (.one hR),by show pt X n++[]=pts X [n];rw[D4,List.append_nil]⟩
theorem AH4 {i:Nat}(h:Enf X F i):Sim X [O .KIND 1 0] (kindAt F) i 1 (QT X AA0 i):=by
 unfold kindAt
 rcases AA4 X i with ⟨m,e,hm⟩ |e
 ·refine Sim.exp (gs:=[]) (ps:=[o1 .CODE,mb .INDEXES]) (by rw[e];exact(A09 hm).2) rfl rfl (Nat.le_refl _) ?_
  refine Sim.code fun c e0 hc=>?_
  refine Sim.opt (ps:=[o1 .E,mb .SECOND,s1 30]) (gs:=[]) sbo rfl rfl rfl (fun e1=>?_) (fun _=>Sim.ret ⟨.kw e0 .nil,(D7 X).symm⟩)
  refine Sim.bind (fs:=[O .E 1 0]) (gs:=[Mb .SECOND 0,Tm (.sign 30) 0]) (AG9 (h.less (j:=i+1+1) (by omega)) (Nat.le_refl _)) fun w j ns ps q hj hn=>?_
  obtain⟨n,rfl,hR,rfl,_⟩:=q
  refine Sim.opt (ps:=[o1 .E]) (gs:=[Tm (.sign 30) 0]) sgk rfl rfl rfl (fun e2=>?_) (fun e2=>?_)
  ·refine Sim.bind (fs:=[O .E 1 0]) (gs:=[Tm (.sign 30) 0]) (AG9 (h.less (j:=j+1) (by omega)) (Nat.le_refl _)) fun hh m' ns ps q hm' hn'=>?_
   obtain⟨n',rfl,hR',rfl,_⟩:=q
   refine Sim.want sbc fun e3=>Sim.ret ⟨.kw e0 (.sg e1 (.ob hR (.sg e2 (.ob hR' (.sg e3 .nil))))),?_⟩
   show pt X n++(pt X n'++[])=pts X [n,n']
   rw[E5,D4,List.append_nil]
  ·refine Sim.want sbc fun e3=>Sim.ret ⟨.kw e0 (.sg e1 (.ob hR (.sg e3 .nil))),?_⟩
   show pt X n++[]=pts X [n]
   rw[D4,List.append_nil]
 ·exact Sim.stray rfl (G4 (AK1 (.inr rfl) e)) fun s hA=>C0 hA (Ak3 hA e)
theorem P7 {x:Nt}(hx:x=.PORT∨x=.END∨x=.WIRE){y:Sy}(h:y≠.name):B2 (.n x) y=false:=by
 refine G4 fun q=>h ?_
 rcases hx with rfl |rfl |rfl<;>exact List.mem_singleton.mp q
theorem Au1 {i r:Nat}(hr:1<=r)(h:Enf X F i):Sim X [O .PORT r 0] (portAt F) i 1 (QT X (fun y=>[.nd .PORT (AS6 y)]) i):=by
 unfold portAt
 by_cases e:X.cy i=.name
 ·refine Sim.nodeT (ps:=[nm,s1 23,o1 .KIND,mb .DIVISOR]) (by rw[e];rfl) ⟨rfl,rfl,rfl⟩ hr (Nat.le_refl _) (Sim.here ?_)
  refine Sim.name (Nat.le_refl _) fun b e0=>Sim.want sgd fun e1=>?_
  refine Sim.bind (fs:=[O .KIND 1 0]) (AH4 (h.less (j:=i+1+1) (by omega))) fun k j ns ps q hj hn=>?_
  obtain⟨q1,rfl⟩:=q
  refine Sim.bind (fs:=[Mb .DIVISOR 0]) (gs:=[]) (Ai1 (h.less (j:=j) (by omega))) fun n j' ns' ps q hj' hn'=>?_
  obtain⟨q2,rfl⟩:=q
  refine Sim.part (Sim.ret ⟨?_,?_⟩)
  ·rw[List.append_nil];exact .nm e0 (.sg e1 (q1.app q2))
  ·rw[List.append_nil,K5,List.append_assoc];rfl
 ·exact Sim.stray rfl (P7 (.inl rfl) e) fun s hA=>by rw[A3 hA.here];exact C0 hA (a7 hA e)
theorem BJ0 {i k:Nat}{β:Type}{fs:List Fr}{c:Unit->P β}{Q:β->Nat->List Nd->List Part->Prop}(h:X.cy i=.kept 1->Sim X fs (c ()) (i+1) (k-1) Q):Sim X (Tm (.kept 1) 0::fs) ((takesWord "at">>=fun c=>if c=true then pure ()else stray:P Unit)>>=c) i k Q:=by
 have e1:keptNo "at"=1:=by decide
 by_cases e:X.cy i=.kept 1
 ·refine Sim.adv e ⟨by simp,by simp⟩ (Nat.le_refl _) (fun s hA=>?_) (h e)
  refine A3 ?_
  rw[A3 (Q6 hA (by rw[e1];exact e))]
  rfl
 ·refine Sim.stray rfl (Ac5 e) fun s hA=>C0 hA ?_
  rw[A3 (P2 hA (by rw[e1];exact e))]
  rfl
theorem BM4:endAt F=here>>=fun p=>wantsName>>=fun x=>wants ":">>=fun _=>kindAt F>>=fun k=>(takesWord "at">>=fun c=>if c=true then pure ()else stray:P Unit)>>=fun _=>sizeAt F 0>>=fun n=>optionSize F>>=fun d=>Sw.part 1 p>>=fun _=>pure ⟨x,k,n,d⟩:=by
 unfold endAt
 congr 1
 funext p
 congr 1
 funext x
 congr 1
 funext _
 congr 1
 funext k
 rw[bind_assoc]
 congr 1
 funext c
 cases c<;>rfl
theorem BG1 {i r:Nat}(hr:1<=r)(h:Enf X F i):Sim X [O .END r 0] (endAt F) i 1 (QT X (fun y=>[.nd .END (Ar5 y)]) i):=by
 rw[BM4]
 by_cases e:X.cy i=.name
 ·refine Sim.nodeT (ps:=[nm,s1 23,o1 .KIND,k1 1,o1 .SIZE,mb .DIVISOR]) (by rw[e];rfl) ⟨rfl,rfl,rfl⟩ hr (Nat.le_refl _) (Sim.here ?_)
  refine Sim.name (Nat.le_refl _) fun b e0=>Sim.want sgd fun e1=>?_
  refine Sim.bind (fs:=[O .KIND 1 0]) (AH4 (h.less (j:=i+1+1) (by omega))) fun k j ns ps q hj hn=>?_
  obtain⟨q1,rfl⟩:=q
  refine BJ0 fun e2=>?_
  refine Sim.bind (fs:=[O .SIZE 1 0]) (AC6 (h.less (j:=j+1) (by omega)) (Nat.le_refl _)) fun z j2 ns2 ps q hj2 hn2=>?_
  obtain⟨n,rfl,q2,rfl⟩:=q
  refine Sim.bind (fs:=[Mb .DIVISOR 0]) (gs:=[]) (Ai1 (h.less (j:=j2) (by omega))) fun n j' ns' ps q hj' hn'=>?_
  obtain⟨q3,rfl⟩:=q
  refine Sim.part (Sim.ret ⟨?_,?_⟩)
  ·rw[List.append_nil];exact .nm e0 (.sg e1 (q1.app (.kw e2 (.ob q2 q3))))
  ·rw[List.append_nil,K5,K5,D4]
   simp only[List.append_assoc]
   rfl
 ·exact Sim.stray rfl (P7 (.inr (.inl rfl)) e) fun s hA=>by rw[A3 hA.here];exact C0 hA (a7 hA e)
theorem Ao7 {i:Nat}(hc:X.cy i=.kept 14)(h:Enf X F i):Sim X [Tm .name 0,Tm (.sign 23) 0,O .KIND 1 0,Tm (.sign 21) 0,O .E 1 0,Tm (.sign 24) 0] (stateAt F (X.bg i)) (i+1) 0 (QW X .STATE Z6 i):=by
 unfold stateAt
 refine Sim.name (Nat.le_refl _) fun b e0=>Sim.want sgd fun e1=>?_
 refine Sim.bind (fs:=[O .KIND 1 0]) (AH4 (h.less (j:=i+1+1+1) (by omega))) fun k j ns ps q hj hn=>?_
 obtain⟨q1,rfl⟩:=q
 refine Sim.want sge fun e2=>?_
 refine Sim.bind (fs:=[O .E 1 0]) (AG9 (h.less (j:=j+1) (by omega)) (Nat.le_refl _)) fun z j2 ns2 ps q hj2 hn2=>?_
 obtain⟨n,rfl,q2,rfl,_⟩:=q
 refine Sim.want sgm fun e3=>Sim.part (Sim.ret ⟨?_,?_⟩)
 ·exact .kw hc (.nm e0 (.sg e1 (q1.app (.sg e2 (.ob q2 (.sg e3 .nil))))))
 ·rw[K5,List.append_assoc]
  show _=pts X ns++(pts X [n]++_)
  rw[D4]
  rfl
noncomputable def QK {α:Type}(X:Tx)(g:α->List It)(y:Sy)(i:Nat):List α->Nat->List Nd->List Part->Prop:=fun l j ns qs=>∃m,j=m+1/\l≠[]/\X.cy m=y/\SR X (f6 (l.map g)) ns i m/\qs=pts X ns
theorem A98 {α:Type}(close:String)(most:Nat)(begins:Tok->Bool)(one:P α)(f had:Nat):listAt close most begins one (f+1) had=peek>>=fun x=>(match x with |some t=>if begins t.tok=true then oneMore had most else stray |none=>stray:P Unit)>>=fun _=>one>>=fun a=>takes ",">>=fun c=>if c=true then listAt close most begins one f (had+1)>>=fun l=>pure (a::l)else wants close>>=fun _=>pure [a]:=by
 conv=>lhs;unfold listAt
 congr 1
 funext x
 cases x with
 |none=>rfl
 |some t=>
  show(if begins t.tok=true then _ else _)=((if begins t.tok=true then oneMore had most else stray:P Unit)>>=_)
  by_cases q:begins t.tok=true
  ·rw[if_pos q,if_pos q]
  ·rw[if_neg q,if_neg q]
theorem m8 {α:Type}{close:String}{most m:Nat}{begins:Tok->Bool}{one:P α}{b:Sb}{g:α->List It}(hy:signNo close=m)(hb:∀t,begins t=B2 b (F1 t))(hnn:B2 b .nothing=false/\B2 b .finish=false)
  (hone:∀r i,1<=r->Enf X F i->Sim X [⟨.once,b,r,0⟩] one i 1 (QT X g i)):∀(f had r i:Nat),(1<=r↔had<most)->X.N-i+1<=f->Enf X F i->
  Sim X [⟨.once,b,r,0⟩,⟨.more,b,most-1-had,0⟩,Tm (.sign m) 0] (listAt close most begins one f had) i 1 (QK X g (.sign m) i)
 |0,had,r,i,hr,hf,hE=>by omega
 |f+1,had,r,i,hr,hf,hE=>by
  rw[A98]
  refine Z9 (fs:=[⟨.more,b,most-1-had,0⟩,Tm (.sign m) 0]) hb hnn hr (.inr fun q=>absurd q.2 (by decide)) fun hc hm hi=>?_
  refine Sim.bind (fs:=[⟨.once,b,r,0⟩]) (hone r i (hr.mpr hm) hE) fun a j ns ps q hj hn=>?_
  obtain⟨q1,rfl⟩:=q
  refine x4 (fun e1=>?_) (fun e1=>?_)
  ·have em:most-1-had-1=most-1-(had+1):=by omega
   rw[em]
   refine Sim.bind (gs:=[]) (m8 hy hb hnn hone f (had+1) (most-1-had) (j+1) ⟨fun _=>by omega,fun _=>by omega⟩ (by omega) (hE.less (by omega))) fun l j' ns' ps q hj' hn'=>?_
   obtain⟨m',rfl,hl,e2,q2,rfl⟩:=q
   refine Sim.ret ⟨m',rfl,by simp,e2,?_,?_⟩
   ·rw[List.append_nil]
    cases l with
    |nil=>exact(hl rfl).elim
    |cons x l=>exact q1.app (.sg e1 q2)
   ·rw[List.append_nil,List.append_nil,K5]
  ·refine Sim.want hy fun e2=>Sim.ret ⟨j,rfl,by simp,e2,?_,by rw[List.append_nil,List.append_nil]⟩
   rw[List.append_nil]
   exact q1
end
end Rd
namespace Rd
open Sw
section
variable {X:Tx} {F:Nat}
theorem Bd0 (t:Tok):isNameTok t=B2 (.t .name) (F1 t):=by cases t<;>rfl
theorem BU8 {x:Nt}(hx:x=.PORT∨x=.END∨x=.WIRE)(t:Tok):isNameTok t=B2 (.n x) (F1 t):=by
 cases t with
 |name _=>rcases hx with rfl |rfl |rfl<;>rfl
 |num _=>exact(P7 hx (by simp[F1])).symm
 |kept _=>exact(P7 hx (by simp[F1])).symm
 |sign _=>exact(P7 hx (by simp[F1])).symm
theorem Af0 {r i:Nat}(hr:1<=r):Sim X [⟨.once,.t .name,r,0⟩] wantsName i 1 (QT X (fun b=>[.nm b]) i):=by
 have e:(wantsName:P Bytes)=wantsName>>=fun b=>pure b:=(bind_pure _).symm
 rw[e]
 exact Sim.name hr fun b e0=>Sim.ret ⟨.nm e0 .nil,(D7 X).symm⟩
theorem V9 {close:String}{m had r i:Nat}(hy:signNo close=m)(hr:1<=r↔had<256)(h:Enf X F i):Sim X [⟨.once,.t .name,r,0⟩,⟨.more,.t .name,255-had,0⟩,Tm (.sign m) 0] (listAt close LIST isNameTok wantsName F had) i 1 (QK X (fun b=>[.nm b]) (.sign m) i):=
 m8 (most:=256) hy Bd0 ⟨rfl,rfl⟩ (fun r i hr _=>Af0 hr) F had r i hr (by have:=h.1;omega) h
theorem BS5:keptNo "let"=7:=by decide
noncomputable def BR2 (F:Nat):P (Option Ex):=takes "[">>=fun c=>if c=true then eAt F 0>>=fun i=>wants "]">>=fun _=>pure (some i)else pure none
noncomputable def BZ0:Option Ex->List It
 |none=>[]
 |some i=>[.sg 29,.ob (.ex i),.sg 30]
theorem Af9 {i:Nat}(h:Enf X F i):Sim X [Mb .INDEX 0] (BR2 F) i 0 (QT X BZ0 i):=by
 refine Sim.opt (ps:=[o1 .E,s1 30]) (gs:=[]) sbo rfl rfl rfl (fun e1=>?_) (fun _=>Sim.ret ⟨.nil,(D7 X).symm⟩)
 refine Sim.bind (fs:=[O .E 1 0]) (gs:=[Tm (.sign 30) 0]) (AG9 (h.less (Nat.le_succ _)) (Nat.le_refl _)) fun x j ns ps q hj hn=>?_
 obtain⟨n,rfl,hR,rfl,_⟩:=q
 refine Sim.want sbc fun e2=>Sim.ret ⟨.sg e1 (.ob hR (.sg e2 .nil)),?_⟩
 show pt X n++[]=pts X [n]
 rw[D4,List.append_nil]
theorem BW8:doAt F=here>>=fun p=>takesWord "let">>=fun c=>if c=true then wantsName>>=fun x=>wants "=">>=fun _=>eAt F 0>>=fun e=>wants ";">>=fun _=>Sw.part 3 p>>=fun _=>pure (Do.bind x e)
  else wantsName>>=fun x=>BR2 F>>=fun i=>wants "=">>=fun _=>eAt F 0>>=fun e=>wants ";">>=fun _=>Sw.part 3 p>>=fun _=>pure (Do.put x i e):=rfl
theorem BQ5 {i r:Nat}(hr:1<=r)(h:Enf X F i):Sim X [O .DO r 0] (doAt F) i 1 (QT X (fun y=>[.nd .DO (BA3 y)]) i):=by
 rw[BW8]
 by_cases e:X.cy i=.kept 7
 ·refine Sim.nodeT (ps:=[k1 7,nm,s1 21,o1 .E,s1 24]) (by rw[e];rfl) ⟨rfl,rfl,rfl⟩ hr (Nat.le_refl _) (Sim.here ?_)
  refine Sim.adv e ⟨by simp,by simp⟩ (Nat.le_refl _) (fun s hA=>A3 (Q6 hA (by rw[BS5];exact e))) ?_
  refine Sim.name (Nat.le_refl _) fun b e0=>Sim.want sge fun e1=>?_
  refine Sim.bind (fs:=[O .E 1 0]) (AG9 (h.less (j:=i+1+1+1) (by omega)) (Nat.le_refl _)) fun z j ns ps q hj hn=>?_
  obtain⟨n,rfl,q2,rfl,_⟩:=q
  refine Sim.want sgm fun e3=>Sim.part (Sim.ret ⟨.kw e (.nm e0 (.sg e1 (.ob q2 (.sg e3 .nil)))),?_⟩)
  show _=pts X [n]++_
  rw[D4]
  rfl
 by_cases e2:X.cy i=.name
 ·refine Sim.nodeT (ps:=[nm,mb .INDEX,s1 21,o1 .E,s1 24]) (by rw[e2];rfl) ⟨rfl,rfl,rfl⟩ hr (Nat.le_refl _) (Sim.here ?_)
  refine Sim.congr (fun s hA=>A3 (P2 hA (by rw[BS5];exact e))) ?_
  refine Sim.name (Nat.le_refl _) fun b e0=>?_
  refine Sim.bind (fs:=[Mb .INDEX 0]) (Af9 (h.less (j:=i+1) (by omega))) fun o j ns ps q hj hn=>?_
  obtain⟨q1,rfl⟩:=q
  refine Sim.want sge fun e1=>?_
  refine Sim.bind (fs:=[O .E 1 0]) (AG9 (h.less (j:=j+1) (by omega)) (Nat.le_refl _)) fun z j' ns' ps q hj' hn'=>?_
  obtain⟨n,rfl,q2,rfl,_⟩:=q
  refine Sim.want sgm fun e3=>Sim.part (Sim.ret ⟨?_,?_⟩)
  ·have:=SR.nm e0 (q1.app (.sg e1 (.ob q2 (.sg e3 .nil))))
   cases o<;>exact this
  ·rw[K5,List.append_assoc]
   show _=pts X ns++(pts X [n]++_)
   rw[D4]
   rfl
 ·refine Sim.stray rfl (G4 fun q=>?_) fun s hA=>?_
  ·have:X.cy i∈[Sy.kept 7,.name]:=q
   simp only[List.mem_cons,List.not_mem_nil,or_false]at this
   exact this.elim e e2
  ·rw[A3 hA.here,A3 (P2 hA (by rw[BS5];exact e))]
   exact C0 hA (a7 hA e2)
theorem Bd1 (t:Tok):(isNameTok t||t==.kept (keptNo "let"))=B2 (.n .DO) (F1 t):=by
 rw[BS5,T9,tb,Bool.eq_iff_iff]
 have hk:∀y,y∈keys .DO↔y=.kept 7∨y=.name:=fun y=>by
  show y∈[Sy.kept 7,.name]↔_
  simp
 simp only[Bool.or_eq_true,decide_eq_true_eq,hk]
 cases t<;>simp[isNameTok,F1]
theorem As4 {α:Type}{begins:Tok->Bool}{one:P α}(f had:Nat):untilBrace begins one (f+1) had=takes "}">>=fun c=>if c=true then pure []else peek>>=fun x=>(match x with |some t=>if begins t.tok=true then oneMore had LIST else stray |none=>stray:P Unit)>>=fun _=>one>>=fun a=>untilBrace begins one f (had+1)>>=fun l=>pure (a::l):=by
 conv=>lhs;unfold untilBrace
 congr 1
 funext c
 cases c with
 |true=>rfl
 |false=>
  show(peek>>=_:P (List α))=(peek>>=_:P (List α))
  congr 1
  funext x
  cases x with
  |none=>rfl
  |some t=>
   show(if begins t.tok=true then _ else _)=((if begins t.tok=true then oneMore had LIST else stray:P Unit)>>=_)
   by_cases q:begins t.tok=true
   ·rw[if_pos q,if_pos q]
   ·rw[if_neg q,if_neg q]
noncomputable def QY {α:Type}(X:Tx)(x:Nt)(it:α->List It)(i:Nat):List α->Nat->List Nd->List Part->Prop:=fun l j ns qs=>∃m,j=m+1/\X.cy m=.sign 32/\SR X (l.map fun y=>.nd x (it y)) ns i m/\qs=pts X ns
theorem AF3 {α:Type}{Y:Nt}{begins:Tok->Bool}{one:P α}{it:α->List It}(hY:W7 (.n Y)=false)(hb:∀t,begins t=B2 (.n Y) (F1 t))(h32:B2 (.n Y) (.sign 32)=false)(hone:∀r i,1<=r->Enf X F i->Sim X [O Y r 0] one i 1 (QT X (fun y=>[.nd Y (it y)]) i)):∀(f had i:Nat),had<=256->X.N-i+1<=f->Enf X F i->
  Sim X [Mn Y (256-had) 0,Tm (.sign 32) 0] (untilBrace begins one f had) i 1 (QY X Y it i)
 |0,had,i,hh,hf,hE=>by omega
 |f+1,had,i,hh,hf,hE=>by
  rw[As4]
  by_cases e:X.cy i=.sign 32
  ·have h1:Sim X [Tm (.sign 32) 0] (takes "}">>=fun c=>if c=true then pure []else peek>>=fun x=>(match x with |some t=>if begins t.tok=true then oneMore had LIST else stray |none=>stray:P Unit)>>=fun _=>one>>=fun a=>untilBrace begins one f (had+1)>>=fun l=>pure (a::l)) i 1 (QY X Y it i):=
    Sim.adv (a':=pure []) e ⟨by simp,by simp⟩ (Nat.le_refl _) (fun s hA=>A3 (G8 hA (by rw[scc];exact e))) (Sim.ret ⟨i,rfl,e,.nil,(D7 X).symm⟩)
   exact h1.conv fun rest st R hi hr ho hE'=>AN2 hi hr.cons (by rw[e];exact h32) hE'
  ·refine Sim.congr (fun s hA=>A3 (F7 hA (by rw[scc];exact e))) ?_
   show Sim X _ (peek>>=_) i 1 _
   cases hcb:B2 (.n Y) (X.cy i)with
   |false=>
    refine Sim.conv (gs:=[Tm (.sign 32) 0]) (Sim.stray rfl (Ac5 e) fun s hA=>?_) fun rest st R hi hr ho hE'=>AN2 hi hr.cons hcb hE'
    rw[A3 hA.peek]
    refine C0 hA ?_
    cases et:X.A[i]? with
    |none=>rfl
    |some t=>
     show(if begins t.tok=true then oneMore had LIST else stray:P Unit) s=_
     rw[hb,←(E9 et).1,hcb]
     rfl
   |true=>
    have hre:As5 (X.cy i):=by
     rw[T9]at hcb
     exact K4 (of_decide_eq_true hcb)
    have hnn:B2 (.n Y) .nothing=false/\B2 (.n Y) .finish=false:=by
     constructor<;>(rw[T9];refine decide_eq_false fun q=>?_)
     ·exact(K4 q).1 rfl
     ·exact(K4 q).2 rfl
    have h1:Sim X [O Y (256-had) 0,Mn Y (256-had-1) 0,Tm (.sign 32) 0] (peek>>=fun x=>(match x with |some t=>if begins t.tok=true then oneMore had LIST else stray |none=>stray:P Unit)>>=fun _=>one>>=fun a=>untilBrace begins one f (had+1)>>=fun l=>pure (a::l)) i 1 (QY X Y it i):=by
     refine Z9 (fs:=[Mn Y (256-had-1) 0,Tm (.sign 32) 0]) (most:=256) hb hnn (by omega) (.inr fun q=>absurd q.2 (by decide)) fun _ hm hi=>?_
     refine Sim.bind (fs:=[O Y (256-had) 0]) (hone _ i (by omega) hE) fun a j ns ps q hj hn=>?_
     obtain⟨q1,rfl⟩:=q
     have em:256-(had+1)=256-had-1:=by omega
     have ih:=AF3 hY hb h32 hone f (had+1) j (by omega) (by omega) (hE.less (by omega))
     rw[em]at ih
     refine Sim.bind (gs:=[]) ih fun l j' ns' ps q hj' hn'=>?_
     obtain⟨m,rfl,e2,q2,rfl⟩:=q
     refine Sim.mono (k:=0) (Sim.ret (Q:=fun y j' ns'' ps'=>QY X Y it i y j' (ns++(ns'++ns'')) (pts X ns++(pts X ns'++ps'))) ⟨m,rfl,e2,?_,?_⟩) (by omega) fun _ _ _ _ q=>q
     ·rw[List.append_nil];exact q1.app q2
     ·rw[List.append_nil,List.append_nil,K5]
    exact h1.conv fun rest st R hi hr ho hE'=>S6 hi hre.1 hcb hE'
theorem A40:keptNo "state"=14:=by decide
theorem AL7:∀(g had i:Nat),had<=256->X.N-i+1<=g->Enf X F i->Sim X [Mn .STATE (256-had) 0] (statesAt F g had) i 0 (QT X (fun l=>l.map fun s=>.nd .STATE (Z6 s)) i)
 |0,had,i,hh,hg,hE=>by omega
 |g+1,had,i,hh,hg,hE=>by
  have e0:∀s,At X s i->statesAt F (g+1) had s=(match X.A[i]? with
   |some t=>if t.tok=.kept (keptNo "state")then oneMore had LIST>>=fun _=>next>>=fun _=>stateAt F t.at_>>=fun a=>statesAt F g (had+1)>>=fun l=>pure (a::l)else pure []
   |none=>pure []:P (List StateDecl)) s:=by
   intro s hA
   conv=>lhs;unfold statesAt
   rw[A3 hA.peek]
   cases X.A[i]?<;>rfl
  refine Sim.congr e0 ?_
  by_cases e:X.cy i=.kept 14
  ·obtain⟨_,t,et,htk⟩:=Av2 (AG3.mpr e)
   have hcb:B2 (.n .STATE) (X.cy i)=true:=by rw[e];rfl
   rw[et]
   have h1:Sim X [O .STATE (256-had) 0,Mn .STATE (256-had-1) 0] (if t.tok=.kept (keptNo "state")then oneMore had LIST>>=fun _=>next>>=fun _=>stateAt F t.at_>>=fun a=>statesAt F g (had+1)>>=fun l=>pure (a::l)else pure []) i 0 (QT X (fun l=>l.map fun s=>.nd .STATE (Z6 s)) i):=by
    rw[if_pos (by rw[A40];exact htk)]
    by_cases h256:had<256
    ·have a1:Sim X [O .STATE (256-had) 0] (next>>=fun _=>stateAt F t.at_) i 1 (QT X (fun y=>[.nd .STATE (Z6 y)]) i):=by
      refine Sim.nodeT (ps:=[k1 14,nm,s1 23,o1 .KIND,s1 21,o1 .E,s1 24]) (by rw[e];rfl) ⟨rfl,rfl,rfl⟩ (by omega) (Nat.le_refl _) ?_
      refine Sim.adv e ⟨by simp,by simp⟩ (Nat.le_refl _) (fun s hA=>A3 (M6 s)) ?_
      rw[←(E9 et).2.2.2]
      exact Ao7 e hE
     have em:256-(had+1)=256-had-1:=by omega
     refine Sim.congr (a':=(next>>=fun _=>stateAt F t.at_)>>=fun a=>statesAt F g (had+1)>>=fun l=>pure (a::l)) (fun s hA=>?_) ?_
     ·rw[A3 (x:=()) (s1:=s) (by unfold oneMore LIST;rw[if_pos h256];rfl),bind_assoc]
     ·refine Sim.bind (fs:=[O .STATE (256-had) 0]) a1 fun a j ns ps q hj hn=>?_
      obtain⟨q1,rfl⟩:=q
      have ih:=AL7 g (had+1) j (by omega) (by omega) (hE.less (by omega))
      rw[em]at ih
      refine Sim.bind (gs:=[]) ih fun l j' ns' ps q hj' hn'=>?_
      obtain⟨q2,rfl⟩:=q
      refine Sim.ret ⟨?_,?_⟩
      ·rw[List.append_nil];exact q1.app q2
      ·rw[List.append_nil,List.append_nil,K5]
    ·refine Sim.err (e:=⟨4,X.plc i⟩) (fun s hA=>?_) fun hi=>⟨i,rfl,fun rest st _ _=>?_⟩
     ·refine L4 ?_
      unfold oneMore LIST
      rw[if_neg h256,A3 hA.peek,et,(E9 et).2.1]
      rfl
     ·have e4:faultOf (O .STATE (256-had) 0) (X.cy i)=4:=by
       unfold faultOf
       rw[if_neg (by rw[hcb];decide),if_neg (fun q=>nomatch q.1),if_pos (by show 256-had<1;omega)]
      have:=Af3 (X:=X) (fs:=[Mn .STATE (256-had-1) 0]++rest) (st:=st) (f:=O .STATE (256-had) 0) hi rfl (by rw[e];simp) (by rw[e4];decide)
      rw[e4]at this
      exact this
   exact h1.conv fun rest st R hi hr ho hE'=>S6 hi (by rw[e];simp) hcb hE'
  ·refine Sim.ok (x:=[]) (fun s hA=>?_) ⟨.nil,(D7 X).symm⟩ fun rest st R hi hr ho hE'=>AN2 hi hr (G4 fun q=>e (List.mem_singleton.mp q)) hE'
   cases et:X.A[i]? with
   |none=>rfl
   |some t=>
    show(if t.tok=.kept (keptNo "state")then _ else _:P (List StateDecl)) s=_
    rw[if_neg]
    ·rfl
    ·intro q
     apply e
     rw[(E9 et).1,q,A40]
     rfl
end
end Rd
namespace Rd
open Sw
section
variable {X:Tx} {F:Nat}
noncomputable def AY2 (f:Nat):P (List Bytes):=takes ",">>=fun c=>if c=true then listAt "=" LIST isNameTok wantsName f 1 else wants "=">>=fun _=>pure []
noncomputable def Av5 (f p:Nat)(x:Bytes):P Wire:=takesWord "delay">>=fun c=>if c=true then sizeAt f 0>>=fun n=>inParens f 0>>=fun v=>wants "(">>=fun _=>wantsName>>=fun y=>wants ")">>=fun _=>wants ";">>=fun _=>Sw.part 4 p>>=fun _=>pure (.delay x n v y)
  else wantsName>>=fun g=>takes "(">>=fun c=>if c=true then listAt ")" LIST isNameTok wantsName f 0>>=fun l=>wants ";">>=fun _=>Sw.part 4 p>>=fun _=>pure (.node [x] g l)else wants ";">>=fun _=>Sw.part 4 p>>=fun _=>pure (.same x g)
noncomputable def BG5 (f p:Nat)(x:Bytes)(more:List Bytes):P Wire:=if more=[]then Av5 f p x else wantsName>>=fun g=>wants "(">>=fun _=>listAt ")" LIST isNameTok wantsName f 0>>=fun l=>wants ";">>=fun _=>Sw.part 4 p>>=fun _=>pure (.node (x::more) g l)
theorem A79 (f:Nat):wireAt f=here>>=fun p=>wantsName>>=fun x=>AY2 f>>=fun more=>BG5 f p x more:=rfl
theorem A38:keptNo "delay"=3:=by decide
noncomputable def QWi (X:Tx)(i m:Nat)(pre:List It):Wire->Nat->List Nd->List Part->Prop:=fun y j ns qs=>∃l,Y7 y=pre++l/\SR X l ns m j/\qs=pts X ns++own X (.n .WIRE) i j
theorem BW5 (i j:Nat):own X (.n .WIRE) i j=[⟨4,X.bg i,X.en j-X.bg i⟩]:=rfl
theorem AB5 {i m:Nat}{pre:List It}{g:List Bytes->Wire}(hg:∀l,Y7 (g l)=pre++(.sg 27::(R0 l++[.sg 28,.sg 24])))(h:Enf X F m):Sim X [O .WIRE_INPUTS 1 0] (wants "(">>=fun _=>listAt ")" LIST isNameTok wantsName F 0>>=fun l=>wants ";">>=fun _=>Sw.part 4 (X.bg i)>>=fun _=>pure (g l)) m 0 (QWi X i m pre):=by
 by_cases e:X.cy m=.sign 27
 ·refine Sim.exp (gs:=[]) (ps:=[s1 27,nm,mrn 255,s1 28,s1 24]) (by rw[e];rfl) rfl rfl (Nat.le_refl _) ?_
  refine Sim.want sgo fun e1=>?_
  refine Sim.bind (gs:=[Tm (.sign 24) 0]) (V9 (had:=0) (r:=1) sgc (by omega) (h.less (j:=m+1) (by omega))) fun l j ns ps q hj hn=>?_
  obtain⟨m',rfl,_,e2,q1,rfl⟩:=q
  refine Sim.want sgm fun e3=>Sim.part (Sim.ret ⟨_,hg l,?_,?_⟩)
  ·exact .sg e1 (q1.app (.sg e2 (.sg e3 .nil)))
  ·rw[List.append_nil,BW5]
 ·exact Sim.stray rfl (G4 fun q=>e (List.mem_singleton.mp q)) fun s hA=>C0 hA (U1 hA (by rw[sgo];exact e))
theorem An7 {i m:Nat}{x:Bytes}(h:Enf X F m):Sim X [O .WIRE_SOURCE 1 0] (Av5 F (X.bg i) x) m 0 (QWi X i m [.nm x,.sg 21]):=by
 unfold Av5
 by_cases e:X.cy m=.kept 3
 ·refine Sim.exp (gs:=[]) (ps:=[k1 3,o1 .SIZE,s1 27,o1 .E,s1 28,s1 27,nm,s1 28,s1 24]) (by rw[e];rfl) rfl rfl (Nat.le_refl _) ?_
  refine Sim.adv e ⟨by simp,by simp⟩ (Nat.le_refl _) (fun s hA=>A3 (Q6 hA (by rw[A38];exact e))) ?_
  refine Sim.bind (fs:=[O .SIZE 1 0]) (AC6 (h.less (j:=m+1) (by omega)) (Nat.le_refl _)) fun z j ns ps q hj hn=>?_
  obtain⟨n,rfl,q1,rfl⟩:=q
  refine Sim.bind (fs:=[Tm (.sign 27) 0,O .E 1 0,Tm (.sign 28) 0]) ((AV8 h.2 F).par 0 j (by have:=h.1;omega)) fun v j2 ns ps q hj2 hn2=>?_
  obtain⟨n',m2,rfl,rfl,q2,rfl,e1,e2⟩:=q
  refine Sim.want sgo fun e3=>Sim.name (Nat.le_refl _) fun b e4=>Sim.want sgc fun e5=>Sim.want sgm fun e6=>Sim.part (Sim.ret ⟨_,rfl,?_,?_⟩)
  ·exact .kw e (.ob q1 (.sg e1 (.ob q2 (.sg e2 (.sg e3 (.nm e4 (.sg e5 (.sg e6 .nil))))))))
  ·show _=pts X [n,n']++_
   rw[E5,D4,BW5,List.append_assoc]
 ·refine Sim.congr (fun s hA=>A3 (P2 hA (by rw[A38];exact e))) ?_
  show Sim X _ (wantsName>>=_) m 0 _
  by_cases en:X.cy m=.name
  ·refine Sim.exp (gs:=[]) (ps:=[nm,o1 .WIRE_TAKEN]) (by rw[en];rfl) rfl rfl (Nat.le_refl _) ?_
   refine Sim.name (Nat.le_refl _) fun g e0=>?_
   have h1:=h.less (j:=m+1) (by omega)
   by_cases ep:X.cy (m+1)=.sign 27
   ·refine Sim.exp (gs:=[]) (ps:=[o1 .WIRE_INPUTS]) (by rw[ep];rfl) rfl rfl (Nat.le_refl _) ?_
    refine Sim.congr (a':=wants "(">>=fun _=>listAt ")" LIST isNameTok wantsName F 0>>=fun l=>wants ";">>=fun _=>Sw.part 4 (X.bg i)>>=fun _=>pure (Wire.node [x] g l)) (fun s hA=>?_) ?_
    ·have he:X.cy (m+1)=.sign (signNo "("):=by rw[sgo];exact ep
     rw[A3 (G8 hA he),A3 (T6 hA he)]
     rfl
    ·refine(AB5 (g:=fun l=>Wire.node [x] g l) (pre:=[.nm x,.sg 21,.nm g]) (fun l=>rfl) h1).mono (Nat.le_refl _) fun y j ns qs q=>?_
     obtain⟨l,a1,a2,a3⟩:=q
     exact⟨.nm g::l,a1,.nm e0 a2,a3⟩
   ·refine Sim.congr (a':=wants ";">>=fun _=>Sw.part 4 (X.bg i)>>=fun _=>pure (Wire.same x g)) (fun s hA=>?_) ?_
    ·rw[A3 (F7 hA (by rw[sgo];exact ep))]
     rfl
    ·by_cases es:X.cy (m+1)=.sign 24
     ·refine Sim.exp (gs:=[]) (ps:=[s1 24]) (by rw[es];rfl) rfl rfl (Nat.le_refl _) ?_
      refine Sim.want sgm fun e2=>Sim.part (Sim.ret ⟨_,rfl,.nm e0 (.sg e2 .nil),?_⟩)
      rw[D7,BW5]
      rfl
     ·refine Sim.stray rfl (G4 fun q=>?_) fun s hA=>C0 hA (U1 hA (by rw[sgm];exact es))
      have:X.cy (m+1)∈[Sy.sign 27,.sign 24]:=q
      simp only[List.mem_cons,List.not_mem_nil,or_false]at this
      exact this.elim ep es
  ·refine Sim.stray rfl (G4 fun q=>?_) fun s hA=>C0 hA (a7 hA en)
   have:X.cy m∈[Sy.kept 3,.name]:=q
   simp only[List.mem_cons,List.not_mem_nil,or_false]at this
   exact this.elim e en
theorem AL5 {x:Bytes}{l:List Bytes}(h:l≠[]):R0 (x::l)=.nm x::.sg 25::R0 l:=by
 cases l with
 |nil=>exact(h rfl).elim
 |cons y l=>rfl
theorem Ar2 {i r:Nat}(hr:1<=r)(h:Enf X F i):Sim X [O .WIRE r 0] (wireAt F) i 1 (QT X (fun y=>[.nd .WIRE (Y7 y)]) i):=by
 rw[A79]
 by_cases e:X.cy i=.name
 ·refine Sim.nodeT (ps:=[nm,o1 .WIRE_NAMED]) (by rw[e];rfl) ⟨rfl,rfl,rfl⟩ hr (Nat.le_refl _) (Sim.here ?_)
  refine Sim.name (Nat.le_refl _) fun x e0=>?_
  have h1:=h.less (j:=i+1) (by omega)
  by_cases ec:X.cy (i+1)=.sign 25
  ·refine Sim.exp (gs:=[]) (ps:=[s1 25,nm,mrn 254,s1 21,nm,o1 .WIRE_INPUTS]) (by rw[ec];rfl) rfl rfl (Nat.le_refl _) ?_
   refine Sim.adv (a':=listAt "=" LIST isNameTok wantsName F 1>>=fun more=>BG5 F (X.bg i) x more) ec ⟨by simp,by simp⟩ (Nat.le_refl _) (fun s hA=>?_) ?_
   ·have:AY2 F s=listAt "=" LIST isNameTok wantsName F 1 (adv s):=by
     unfold AY2
     rw[A3 (G8 hA (by rw[sgk];exact ec))]
     rfl
    show Except.bind (AY2 F s) _=Except.bind (listAt "=" LIST isNameTok wantsName F 1 (adv s)) _
    rw[this]
   ·refine Sim.bind (gs:=[Tm .name 0,O .WIRE_INPUTS 1 0]) (V9 (had:=1) (r:=1) sge (by omega) (h1.less (j:=i+1+1) (by omega))) fun more j ns ps q hj hn=>?_
    obtain⟨m',rfl,hl,e2,q1,rfl⟩:=q
    unfold BG5
    rw[if_neg hl]
    refine Sim.name (Nat.le_refl _) fun g e3=>?_
    have:=AB5 (X:=X) (F:=F) (i:=i) (m:=m'+1+1) (g:=fun l=>Wire.node (x::more) g l) (pre:=R0 (x::more)++[.sg 21,.nm g]) (fun l=>by show _++_=_++_++_;rw[List.append_assoc];rfl) (h1.less (by omega))
    refine this.mono (by omega) fun y j ns' qs q=>?_
    obtain⟨l,a1,a2,rfl⟩:=q
    refine⟨?_,by rw[K5,List.append_assoc]⟩
    rw[a1,AL5 hl,List.append_assoc]
    exact .nm e0 (.sg ec (q1.app (.sg e2 (.nm e3 a2))))
  ·by_cases ee:X.cy (i+1)=.sign 21
   ·refine Sim.exp (gs:=[]) (ps:=[s1 21,o1 .WIRE_SOURCE]) (by rw[ee];rfl) rfl rfl (Nat.le_refl _) ?_
    refine Sim.adv (a':=Av5 F (X.bg i) x) ee ⟨by simp,by simp⟩ (Nat.le_refl _) (fun s hA=>?_) ?_
    ·refine A3 (x:=[]) ?_
     unfold AY2
     rw[A3 (F7 hA (by rw[sgk];exact ec))]
     show(wants "=">>=fun _=>pure []:P (List Bytes)) s=_
     rw[A3 (T6 hA (by rw[sge];exact ee))]
     rfl
    ·refine(An7 (h1.less (j:=i+1+1) (by omega))).mono (Nat.le_refl _) fun y j ns qs q=>?_
     obtain⟨l,a1,a2,rfl⟩:=q
     exact⟨by rw[a1];exact .nm e0 (.sg ee a2),rfl⟩
   ·refine Sim.stray rfl (G4 fun q=>?_) fun s hA=>C0 hA ?_
    ·have:X.cy (i+1)∈[Sy.sign 25,.sign 21]:=q
     simp only[List.mem_cons,List.not_mem_nil,or_false]at this
     exact this.elim ec ee
    ·unfold AY2
     rw[A3 (F7 hA (by rw[sgk];exact ec))]
     exact C0 hA (U1 hA (by rw[sge];exact ee))
 ·exact Sim.stray rfl (P7 (.inr (.inr rfl)) e) fun s hA=>by rw[A3 hA.here];exact C0 hA (a7 hA e)
theorem v9 {i:Nat}(h:Enf X F i):Sim X [O .PORT 1 0,⟨.more,.n .PORT,255,0⟩,Tm (.sign 28) 0] (listAt ")" LIST isNameTok (portAt F) F 0) i 1 (QK X (fun p=>[.nd .PORT (AS6 p)]) (.sign 28) i):=
 m8 (most:=256) sgc (BU8 (.inl rfl)) ⟨rfl,rfl⟩ (fun r s hr hE=>Au1 hr hE) F 0 1 i (by omega) (by have:=h.1;omega) h
theorem z3 {i:Nat}(h:Enf X F i):Sim X [O .END 1 0,⟨.more,.n .END,255,0⟩,Tm (.sign 28) 0] (listAt ")" LIST isNameTok (endAt F) F 0) i 1 (QK X (fun p=>[.nd .END (Ar5 p)]) (.sign 28) i):=
 m8 (most:=256) sgc (BU8 (.inr (.inl rfl))) ⟨rfl,rfl⟩ (fun r s hr hE=>BG1 hr hE) F 0 1 i (by omega) (by have:=h.1;omega) h
theorem AR4 {i:Nat}(h:Enf X F i):Sim X [O .E 1 0,⟨.more,.n .E,65535,0⟩,Tm (.sign 30) 0] (listAt "]" ELEMENTS beginsE (eAt F 0) F 0) i 1 (QK X (fun x=>[.ob (.ex x)]) (.sign 30) i):=
 m8 (most:=65536) sbc (fun t=>by rw[b_e,T9]) ⟨rfl,rfl⟩ (fun r s hr hE=>(AG9 hE hr).mono (Nat.le_refl _) fun x j ns ps q=>by
  obtain⟨n,rfl,hR,rfl,_⟩:=q
  exact⟨.one hR,(D4 X n).symm⟩) F 0 1 i (by omega) (by have:=h.1;omega) h
theorem Rp.one1 {x:Ex}{ns:List Nd}{i j:Nat}(h:Rp X (.ex x) ns i j):∃n,ns=[n]:=by
 cases h<;>exact⟨_,rfl⟩
theorem BJ2:∀{l:List Ex} {ns:List Nd} {i j:Nat},l≠[]->SR X (f6 (l.map fun x=>[.ob (.ex x)])) ns i j->Rp X (.ar l) ns i j
 |[],_,_,_,h,_=>(h rfl).elim
 |[x],ns,i,j,_,h=>by
  have h:SR X [.ob (.ex x)] ns i j:=h
  cases h with
  |ob h1 h2=>
   cases h2
   obtain⟨n,rfl⟩:=h1.one1
   exact .arone h1
 |x::y::l,ns,i,j,_,h=>by
  have h:SR X (.ob (.ex x)::.sg 25::f6 ((y::l).map fun x=>[.ob (.ex x)])) ns i j:=h
  cases h with
  |ob h1 h2=>
   cases h2 with
   |sg e h3=>
    obtain⟨n,rfl⟩:=h1.one1
    exact .arcons (by simp) h1 e (BJ2 (by simp) h3)
noncomputable def AV5 (f:Nat):P Decl:=wantsName>>=fun x=>wants "=">>=fun _=>eAt f 0>>=fun e=>wants ";">>=fun _=>pure (.const x e)
noncomputable def AS0 (f:Nat):P Decl:=wantsName>>=fun x=>wants ":">>=fun _=>wantsCode>>=fun c=>wants "=">>=fun _=>wants "[">>=fun _=>listAt "]" ELEMENTS beginsE (eAt f 0) f 0>>=fun l=>wants ";">>=fun _=>pure (.table x c l)
noncomputable def dFn (f:Nat):P Decl:=wantsName>>=fun x=>wants "(">>=fun _=>listAt ")" LIST isNameTok wantsName f 0>>=fun ps=>wants "=">>=fun _=>eAt f 0>>=fun e=>wants ";">>=fun _=>pure (.fn x ps e)
noncomputable def Az9 (f:Nat):P Decl:=wantsName>>=fun x=>wants "(">>=fun _=>listAt ")" LIST isNameTok (portAt f) f 0>>=fun i=>wants "->">>=fun _=>wants "(">>=fun _=>listAt ")" LIST isNameTok (portAt f) f 0>>=fun o=>wants "{">>=fun _=>statesAt f f 0>>=fun st=>
 untilBrace (fun(t:Tok)=>isNameTok t||t==.kept (keptNo "let")) (doAt f) f 0>>=fun ds=>pure (.node x i o st ds)
noncomputable def AR9 (f:Nat):P Decl:=wantsName>>=fun x=>wants "(">>=fun _=>listAt ")" LIST isNameTok (endAt f) f 0>>=fun i=>wants "->">>=fun _=>wants "(">>=fun _=>listAt ")" LIST isNameTok (endAt f) f 0>>=fun o=>wants "{">>=fun _=>untilBrace isNameTok (wireAt f) f 0>>=fun ws=>pure (.graph x i o ws)
noncomputable def BL1 (f:Nat):P Decl:=takesWord "const">>=fun c=>if c=true then AV5 f else takesWord "table">>=fun c=>if c=true then AS0 f else takesWord "fn">>=fun c=>if c=true then dFn f else takesWord "node">>=fun c=>if c=true then Az9 f else takesWord "graph">>=fun c=>if c=true then AR9 f else stray
theorem BA7 (f:Nat):declAt f=here>>=fun p=>BL1 f>>=fun d=>Sw.part 0 p>>=fun _=>pure d:=rfl
theorem kws:keptNo "const"=2/\keptNo "table"=16/\keptNo "fn"=4/\keptNo "node"=10/\keptNo "graph"=5:=by decide
noncomputable def dOf (f:Nat):Nat->P Decl
 |2=>AV5 f
 |16=>AS0 f
 |4=>dFn f
 |10=>Az9 f
 |_=>AR9 f
theorem BD5 {i k:Nat}(hk:k=2∨k=16∨k=4∨k=10∨k=5)(hc:X.cy i=.kept k){s:PS}(hA:At X s i):BL1 F s=dOf F k (adv s):=by
 have no:∀{w:String} {m:Nat},keptNo w=m->k≠m->takesWord w s=.ok (false,s):=fun hw hm=>P2 hA (by rw[hc,hw];exact fun q=>hm (Sy.kept.inj q))
 have yes:∀{w:String},keptNo w=k->takesWord w s=.ok (true,adv s):=fun hw=>Q6 hA (by rw[hc,hw])
 obtain⟨w1,w2,w3,w4,w5⟩:=kws
 unfold BL1
 rcases hk with rfl |rfl |rfl |rfl |rfl
 ·rw[A3 (yes w1)];rfl
 ·rw[A3 (no w1 (by decide))]
  show(takesWord "table">>=_:P Decl) s=_
  rw[A3 (yes w2)];rfl
 ·rw[A3 (no w1 (by decide))]
  show(takesWord "table">>=_:P Decl) s=_
  rw[A3 (no w2 (by decide))]
  show(takesWord "fn">>=_:P Decl) s=_
  rw[A3 (yes w3)];rfl
 ·rw[A3 (no w1 (by decide))]
  show(takesWord "table">>=_:P Decl) s=_
  rw[A3 (no w2 (by decide))]
  show(takesWord "fn">>=_:P Decl) s=_
  rw[A3 (no w3 (by decide))]
  show(takesWord "node">>=_:P Decl) s=_
  rw[A3 (yes w4)];rfl
 ·rw[A3 (no w1 (by decide))]
  show(takesWord "table">>=_:P Decl) s=_
  rw[A3 (no w2 (by decide))]
  show(takesWord "fn">>=_:P Decl) s=_
  rw[A3 (no w3 (by decide))]
  show(takesWord "node">>=_:P Decl) s=_
  rw[A3 (no w4 (by decide))]
  show(takesWord "graph">>=_:P Decl) s=_
  rw[A3 (yes w5)];rfl
theorem Aj8 {i:Nat}(hc:X.cy i=.kept 2)(h:Enf X F (i+1)):Sim X [Tm .name 0,Tm (.sign 21) 0,O .E 1 0,Tm (.sign 24) 0] (AV5 F) (i+1) 0 (QT X O7 i):=by
 unfold AV5
 refine Sim.name (Nat.le_refl _) fun b e0=>Sim.want sge fun e1=>?_
 refine Sim.bind (fs:=[O .E 1 0]) (AG9 (h.less (j:=i+1+1+1) (by omega)) (Nat.le_refl _)) fun z j ns ps q hj hn=>?_
 obtain⟨n,rfl,q2,rfl,_⟩:=q
 refine Sim.want sgm fun e3=>Sim.ret ⟨.kw hc (.nm e0 (.sg e1 (.ob q2 (.sg e3 .nil)))),?_⟩
 show _=pts X [n]
 rw[D4,List.append_nil]
theorem Am5 {i:Nat}(hc:X.cy i=.kept 16)(h:Enf X F (i+1)):Sim X [Tm .name 0,Tm (.sign 23) 0,O .CODE 1 0,Tm (.sign 21) 0,Tm (.sign 29) 0,O .E 1 0,⟨.more,.n .E,65535,0⟩,Tm (.sign 30) 0,Tm (.sign 24) 0] (AS0 F) (i+1) 0 (QT X O7 i):=by
 unfold AS0
 refine Sim.name (Nat.le_refl _) fun b e0=>Sim.want sgd fun e1=>Sim.code fun c e2 hc2=>Sim.want sge fun e3=>Sim.want sbo fun e4=>?_
 refine Sim.bind (gs:=[Tm (.sign 24) 0]) (AR4 (h.less (by omega))) fun l j ns ps q hj hn=>?_
 obtain⟨m,rfl,hl,e5,q1,rfl⟩:=q
 refine Sim.want sgm fun e6=>Sim.ret ⟨?_,by rw[List.append_nil,List.append_nil]⟩
 exact .kw hc (.nm e0 (.sg e1 (.kw e2 (.sg e3 (.sg e4 (.ob (BJ2 hl q1) (.sg e5 (.sg e6 .nil))))))))
theorem BJ6 {i:Nat}(hc:X.cy i=.kept 4)(h:Enf X F (i+1)):Sim X [Tm .name 0,Tm (.sign 27) 0,Tm .name 0,⟨.more,.t .name,255,0⟩,Tm (.sign 28) 0,Tm (.sign 21) 0,O .E 1 0,Tm (.sign 24) 0] (dFn F) (i+1) 0 (QT X O7 i):=by
 unfold dFn
 refine Sim.name (Nat.le_refl _) fun b e0=>Sim.want sgo fun e1=>?_
 refine Sim.bind (gs:=[Tm (.sign 21) 0,O .E 1 0,Tm (.sign 24) 0]) (V9 (had:=0) (r:=1) sgc (by omega) (h.less (j:=i+1+1+1) (by omega))) fun l j ns ps q hj hn=>?_
 obtain⟨m,rfl,hl,e2,q1,rfl⟩:=q
 refine Sim.want sge fun e3=>?_
 refine Sim.bind (fs:=[O .E 1 0]) (AG9 (h.less (j:=m+1+1) (by omega)) (Nat.le_refl _)) fun z j' ns' ps q hj' hn'=>?_
 obtain⟨n,rfl,q2,rfl,_⟩:=q
 refine Sim.want sgm fun e4=>Sim.ret ⟨.kw hc (.nm e0 (.sg e1 (q1.app (.sg e2 (.sg e3 (.ob q2 (.sg e4 .nil))))))),?_⟩
 rw[List.append_nil,K5]
 show _=_++pts X [n]
 rw[D4]
theorem Ad2 {i:Nat}(hc:X.cy i=.kept 10)(h:Enf X F (i+1)):Sim X [Tm .name 0,Tm (.sign 27) 0,O .PORT 1 0,⟨.more,.n .PORT,255,0⟩,Tm (.sign 28) 0,Tm (.sign 0) 0,Tm (.sign 27) 0,O .PORT 1 0,⟨.more,.n .PORT,255,0⟩,Tm (.sign 28) 0,Tm (.sign 31) 0,Mn .STATE 256 0,Mn .DO 256 0,Tm (.sign 32) 0] (Az9 F) (i+1) 0 (QT X O7 i):=by
 unfold Az9
 refine Sim.name (Nat.le_refl _) fun b e0=>Sim.want sgo fun e1=>?_
 refine Sim.bind (fs:=[O .PORT 1 0,⟨.more,.n .PORT,255,0⟩,Tm (.sign 28) 0]) (v9 (h.less (by omega))) fun l j ns ps q hj hn=>?_
 obtain⟨m,rfl,hl,e2,q1,rfl⟩:=q
 refine Sim.want sgw fun e3=>Sim.want sgo fun e4=>?_
 refine Sim.bind (fs:=[O .PORT 1 0,⟨.more,.n .PORT,255,0⟩,Tm (.sign 28) 0]) (v9 (h.less (by omega))) fun l' j' ns' ps q hj' hn'=>?_
 obtain⟨m',rfl,hl',e5,q2,rfl⟩:=q
 refine Sim.want sco fun e6=>?_
 have h7:=h.less (j:=m'+1+1) (by omega)
 refine Sim.bind (fs:=[Mn .STATE 256 0]) (AL7 F 0 (m'+1+1) (by omega) (by have:=h7.1;omega) h7) fun st j2 ns2 ps q hj2 hn2=>?_
 obtain⟨q3,rfl⟩:=q
 have h8:=h7.less (j:=j2) (by omega)
 refine Sim.bind (fs:=[Mn .DO 256 0,Tm (.sign 32) 0]) (gs:=[]) (AF3 rfl Bd1 rfl (fun r i hr hE=>BQ5 hr hE) F 0 j2 (by omega) (by have:=h8.1;omega) h8) fun ds j3 ns3 ps q hj3 hn3=>?_
 obtain⟨m3,rfl,e7,q4,rfl⟩:=q
 refine Sim.mono (k:=0) (Sim.ret (Q:=fun y j' ns'' ps'=>QT X O7 i y j' (ns++(ns'++(ns2++(ns3++ns'')))) (pts X ns++(pts X ns'++(pts X ns2++(pts X ns3++ps'))))) ⟨?_,?_⟩) (by omega) fun _ _ _ _ q=>q
 ·have t4:SR X ((ds.map fun d=>It.nd .DO (BA3 d))++[.sg 32]) (ns3++[]) j2 (m3+1):=q4.app (.sg e7 .nil)
  exact .kw hc (.nm e0 (.sg e1 (q1.app (.sg e2 (.sg e3 (.sg e4 (q2.app (.sg e5 (.sg e6 (q3.app t4))))))))))
 ·simp only[K5,D7,List.append_nil]
theorem An6 {i:Nat}(hc:X.cy i=.kept 5)(h:Enf X F (i+1)):Sim X [Tm .name 0,Tm (.sign 27) 0,O .END 1 0,⟨.more,.n .END,255,0⟩,Tm (.sign 28) 0,Tm (.sign 0) 0,Tm (.sign 27) 0,O .END 1 0,⟨.more,.n .END,255,0⟩,Tm (.sign 28) 0,Tm (.sign 31) 0,Mn .WIRE 256 0,Tm (.sign 32) 0] (AR9 F) (i+1) 0 (QT X O7 i):=by
 unfold AR9
 refine Sim.name (Nat.le_refl _) fun b e0=>Sim.want sgo fun e1=>?_
 refine Sim.bind (fs:=[O .END 1 0,⟨.more,.n .END,255,0⟩,Tm (.sign 28) 0]) (z3 (h.less (by omega))) fun l j ns ps q hj hn=>?_
 obtain⟨m,rfl,hl,e2,q1,rfl⟩:=q
 refine Sim.want sgw fun e3=>Sim.want sgo fun e4=>?_
 refine Sim.bind (fs:=[O .END 1 0,⟨.more,.n .END,255,0⟩,Tm (.sign 28) 0]) (z3 (h.less (by omega))) fun l' j' ns' ps q hj' hn'=>?_
 obtain⟨m',rfl,hl',e5,q2,rfl⟩:=q
 refine Sim.want sco fun e6=>?_
 have h7:=h.less (j:=m'+1+1) (by omega)
 refine Sim.bind (fs:=[Mn .WIRE 256 0,Tm (.sign 32) 0]) (gs:=[]) (AF3 rfl (BU8 (.inr (.inr rfl))) rfl (fun r i hr hE=>Ar2 hr hE) F 0 (m'+1+1) (by omega) (by have:=h7.1;omega) h7) fun ds j3 ns3 ps q hj3 hn3=>?_
 obtain⟨m3,rfl,e7,q4,rfl⟩:=q
 refine Sim.mono (k:=0) (Sim.ret (Q:=fun y j' ns'' ps'=>QT X O7 i y j' (ns++(ns'++(ns3++ns''))) (pts X ns++(pts X ns'++(pts X ns3++ps')))) ⟨?_,?_⟩) (by omega) fun _ _ _ _ q=>q
 ·have t4:SR X ((ds.map fun d=>It.nd .WIRE (Y7 d))++[.sg 32]) (ns3++[]) (m'+1+1) (m3+1):=q4.app (.sg e7 .nil)
  exact .kw hc (.nm e0 (.sg e1 (q1.app (.sg e2 (.sg e3 (.sg e4 (q2.app (.sg e5 (.sg e6 t4)))))))))
 ·simp only[K5,D7,List.append_nil]
theorem Aw7 {y:Sy}(h:y∈keys .DECL):∃k,y=.kept k/\(k=2∨k=16∨k=4∨k=10∨k=5):=by
 have:y∈[Sy.kept 2,.kept 16,.kept 4,.kept 10,.kept 5]:=h
 simp only[List.mem_cons,List.not_mem_nil,or_false]at this
 rcases this with rfl |rfl |rfl |rfl |rfl
 ·exact⟨_,rfl,.inl rfl⟩
 ·exact⟨_,rfl,.inr (.inl rfl)⟩
 ·exact⟨_,rfl,.inr (.inr (.inl rfl))⟩
 ·exact⟨_,rfl,.inr (.inr (.inr (.inl rfl)))⟩
 ·exact⟨_,rfl,.inr (.inr (.inr (.inr rfl)))⟩
theorem Av6 {i r:Nat}(hr:1<=r)(h:Enf X F i)(hk:X.cy i∈keys .DECL):Sim X [O .DECL r 0] (declAt F) i 1 (QT X (fun y=>[.nd .DECL (O7 y)]) i):=by
 obtain⟨k,hc,hk'⟩:=Aw7 hk
 obtain⟨ps,hw⟩:=Option.isSome_iff_exists.mp (show(L7 .DECL (X.cy i)).isSome=true from L5 hk)
 rw[BA7]
 refine Sim.nodeT hw ⟨rfl,rfl,rfl⟩ hr (Nat.le_refl _) (Sim.here ?_)
 have go:∀(a:P Decl) (fs:List Fr),ps.map (fr 0)=Tm (.kept k) 0::fs->dOf F k=a->Sim X fs a (i+1) 0 (QT X O7 i)->Sim X (ps.map (fr 0)) (BL1 F>>=fun d=>Sw.part 0 (X.bg i)>>=fun _=>pure d) i 1 (QW X .DECL O7 i):=by
  intro a fs e1 e2 hs
  rw[e1]
  refine Sim.adv (a':=a>>=fun d=>Sw.part 0 (X.bg i)>>=fun _=>pure d) hc ⟨by simp,by simp⟩ (Nat.le_refl _) (fun s hA=>?_) ?_
  ·show Except.bind (BL1 F s) _=Except.bind (a (adv s)) _
   rw[BD5 hk' hc hA,e2]
  ·have:=Sim.bind (gs:=[]) (k:=0) (b:=fun d=>Sw.part 0 (X.bg i)>>=fun _=>pure d) (Qb:=QW X .DECL O7 i) hs fun d j ns ps q hj hn=>?_
   ·rw[List.append_nil]at this;exact this
   ·refine Sim.part (Sim.ret ⟨by rw[List.append_nil];exact q.1,?_⟩)
    rw[List.append_nil,q.2]
    rfl
 have h1:=h.less (j:=i+1) (by omega)
 rw[hc]at hw
 rcases hk' with rfl |rfl |rfl |rfl |rfl<;>cases hw
 ·exact go _ _ rfl rfl (Aj8 hc h1)
 ·exact go _ _ rfl rfl (Am5 hc h1)
 ·exact go _ _ rfl rfl (BJ6 hc h1)
 ·exact go _ _ rfl rfl (Ad2 hc h1)
 ·exact go _ _ rfl rfl (An6 hc h1)
end
end Rd
namespace Rd
open Sw
section
variable {X:Tx} {F:Nat}
theorem AZ2 (t:Tok):isDeclWord t=decide (F1 t∈keys .DECL):=by
 obtain⟨w1,w2,w3,w4,w5⟩:=kws
 unfold isDeclWord
 simp only[List.any_cons,List.any_nil,Bool.or_false,w1,w2,w3,w4,w5,tb]
 rw[Bool.eq_iff_iff]
 have hk:∀y,y∈keys .DECL↔y=.kept 2∨y=.kept 16∨y=.kept 4∨y=.kept 10∨y=.kept 5:=fun y=>by
  show y∈[Sy.kept 2,.kept 16,.kept 4,.kept 10,.kept 5]↔_
  simp
 simp only[Bool.or_eq_true,decide_eq_true_eq,hk,Am2]
theorem AN1 {fs:List Fr}{i k p:Nat}{st:List Op}(h:En X fs i st (.fault k p)):0<k:=by
 generalize hR:Fin.fault k p=R at h
 induction h with
 |done=>cases hR
 | @bad f fs i k' o e=>
  cases hR
  unfold step at e
  split at e
  ·cases e
  ·split at e
   ·unfold w8 at e
    split at e
    ·split at e
     ·split at e<;>cases e
     ·cases e
    ·cases e
   ·split at e
    ·cases e;decide
    ·split at e
     ·split at e
      ·rename_i h0
       cases e
       exact Nat.pos_of_ne_zero h0
      ·split at e<;>cases e
     ·split at e<;>cases e
     ·split at e<;>cases e
     ·split at e<;>cases e
 |go _ _ ih=>exact ih hR
noncomputable def BZ3 (X:Tx)(i:Nat)(o:Op)(r:List Op)(s:PS):Except Fault (Prog×PS)->Fin->Prop
 |.error e,R=>∃p,e.at_=X.plc p/\0<e.kind/\R=.fault e.kind p
 |.ok (P,s'),R=>∃ns,R=.done (⟨o.k,o.i,o.c++ns⟩::r)/\SR X (p6 P) ns i X.N/\s'.parts=s.parts++pts X ns
theorem AT5:∀(g had i:Nat) (o:Op) (r:List Op) (s:PS),had<=4096->X.N-i+1<=g->Enf X F i->At X s i->o.c.length<=i->∃R,En X [Mn .DECL (4096-had) 0,Tm .finish 0] i (o::r) R/\BZ3 X i o r s (declsAt F g had s) R
 |0,had,i,o,r,s,hh,hg,hE,hA,ho=>by omega
 |g+1,had,i,o,r,s,hh,hg,hE,hA,ho=>by
  have e0:declsAt F (g+1) had s=(match X.A[i]? with
   |none=>(match X.nn with |none=>pure [] |some p=>bad 1 p)
   |some t=>(if isDeclWord t.tok=true then oneMore had DECLS else stray:P Unit)>>=fun _=>declAt F>>=fun d=>declsAt F g (had+1)>>=fun l=>pure (d::l):P Prog) s:=by
   conv=>lhs;unfold declsAt
   show(match s.toks,s.none_ with |[],none=>_ |[],some p=>_ |t::_,_=>_:P Prog) s=_
   rw[hA.n]
   cases e:X.A[i]? with
   |none=>
    have:s.toks=[]:=by rw[hA.t];exact List.drop_eq_nil_of_le (List.getElem?_eq_none_iff.mp e)
    rw[this]
    cases X.nn<;>rfl
   |some t=>
    rw[hA.cons e]
    show(if isDeclWord t.tok=true then _ else _:P Prog) s=((if isDeclWord t.tok=true then oneMore had DECLS else stray:P Unit)>>=_:P Prog) s
    by_cases q:isDeclWord t.tok=true
    ·rw[if_pos q,if_pos q]
    ·rw[if_neg q,if_neg q]
  rw[e0]
  cases e:X.A[i]? with
  |none=>
   have hi:X.N<=i:=List.getElem?_eq_none_iff.mp e
   have hiN:i=X.N:=Nat.le_antisymm hA.le hi
   cases en:X.nn with
   |none=>
    have hc:X.cy i=.finish:=by unfold Tx.cy;rw[e,en];rfl
    refine⟨.done (o::r),AQ2 hA.le (by rw[hc];simp) (by rw[hc];rfl) (Au8 hA.le hc (by simp) (Nat.le_refl _) .done),[],?_,?_,?_⟩
    ·rw[List.append_nil]
    ·rw[hiN];exact .nil
    ·rw[D7,List.append_nil]
   |some p=>
    have hc:X.cy i=.nothing:=by unfold Tx.cy;rw[e,en];rfl
    exact⟨_,S5 hA.le (fun q=>nomatch q) hc,i,by unfold Tx.plc;rw[e,en];rfl,(by show 0<1;decide),rfl⟩
  |some t=>
   obtain⟨ec,ep,_,_⟩:=E9 e
   have hre:As5 (X.cy i):=by rw[ec];cases t.tok<;>exact⟨by simp[F1],by simp[F1]⟩
   show ∃R,_/\BZ3 X i o r s (((if isDeclWord t.tok=true then oneMore had DECLS else stray:P Unit)>>=fun _=>declAt F>>=fun d=>declsAt F g (had+1)>>=fun l=>pure (d::l):P Prog) s) R
   have hdw:=AZ2 t.tok
   rw[←ec]at hdw
   by_cases q:X.cy i∈keys .DECL
   ·rw[decide_eq_true q]at hdw
    rw[if_pos hdw]
    have hcb:B2 (.n .DECL) (X.cy i)=true:=L5 q
    by_cases h4:had<4096
    ·have e1:oneMore had DECLS s=.ok ((),s):=by unfold oneMore DECLS;rw[if_pos h4];rfl
     rw[A3 e1]
     have hs:=Av6 (r:=4096-had) (by omega) hE q s hA
     cases ed:declAt F s with
     |error e'=>
      rw[ed]at hs
      rw[L4 ed]
      obtain⟨p,h1,h2⟩:=hs
      have h3:=h2 [Mn .DECL (4096-had-1) 0,Tm .finish 0] (o::r) ⟨Mn .DECL (4096-had-1) 0,List.mem_cons_self ..,fun q=>nomatch q⟩ ⟨o,r,rfl,ho⟩
      have h4:=S6 hA.le hre.1 hcb h3
      refine⟨_,h4,p,h1,?_,rfl⟩
      exact AN1 h4
     |ok y=>
      obtain⟨y,s1⟩:=y
      rw[ed]at hs
      rw[A3 ed]
      obtain⟨j,ns,ps,g1,g2,g3,g4,⟨q1,rfl⟩,g6⟩:=hs
      have em:4096-(had+1)=4096-had-1:=by omega
      obtain⟨R,i1,i2⟩:=AT5 g (had+1) j ⟨o.k,o.i,o.c++ns⟩ r s1 (by omega) (by have:=g1.le;omega) (hE.less (by omega)) g1 (by rw[List.length_append];omega)
      rw[em]at i1
      have h3:=g6 [Mn .DECL (4096-had-1) 0,Tm .finish 0] (o::r) R ⟨Mn .DECL (4096-had-1) 0,List.mem_cons_self ..,fun q=>nomatch q⟩ ⟨o,r,rfl,ho⟩ i1
      refine⟨R,S6 hA.le hre.1 hcb h3,?_⟩
      cases ex:declsAt F g (had+1) s1 with
      |error e'=>
       rw[ex]at i2
       rw[L4 ex]
       exact i2
      |ok z=>
       obtain⟨z,s2⟩:=z
       rw[ex]at i2
       rw[A3 ex]
       obtain⟨ns',k1,k2,k3⟩:=i2
       refine⟨ns++ns',?_,q1.app k2,?_⟩
       ·rw[k1,List.append_assoc]
       ·rw[k3,g4,List.append_assoc,K5]
    ·have e1:oneMore had DECLS s=.error ⟨4,X.plc i⟩:=by
      unfold oneMore DECLS
      rw[if_neg h4,A3 hA.peek,e,ep]
      rfl
     rw[L4 e1]
     have e4:faultOf (O .DECL (4096-had) 0) (X.cy i)=4:=by
      unfold faultOf
      rw[if_neg (by rw[hcb];decide),if_neg (fun q=>nomatch q.1),if_pos (by show 4096-had<1;omega)]
     have:=Af3 (X:=X) (fs:=[Mn .DECL (4096-had-1) 0,Tm .finish 0]) (st:=o::r) (f:=O .DECL (4096-had) 0) hA.le rfl hre.1 (by rw[e4];decide)
     rw[e4]at this
     exact⟨_,S6 hA.le hre.1 hcb this,i,rfl,(by show 0<4;decide),rfl⟩
   ·rw[decide_eq_false q]at hdw
    rw[if_neg (by rw[hdw];decide),L4 hA.stray,if_neg hre.1]
    have hcb:B2 (.n .DECL) (X.cy i)=false:=G4 q
    have:=Am0 (X:=X) (fs:=[]) (st:=o::r) (f:=Tm .finish 0) hA.le rfl (Ac5 hre.2)
    rw[if_neg hre.1]at this
    exact⟨_,AQ2 hA.le hre.1 hcb this,i,rfl,(by show 0<2;decide),rfl⟩
theorem AT6:∀(f p:Nat) (l:Bytes),(tokensFrom f p l).1.length<=l.length:=by
 intro f
 induction f with
 |zero=>intro p l;exact Nat.zero_le _
 |succ f ih=>
  intro p l
  cases l with
  |nil=>exact Nat.zero_le _
  |cons c r=>
   unfold tokensFrom
   split
   ·have:=ih (p+1) r
    simp only[List.length_cons];omega
   ·split
    ·rename_i hb hn
     obtain⟨rfl,_⟩:=hn
     have h1:=My.noteLen_pos r
     have:=ih (p+noteLen (47::r)) ((47::r).drop (noteLen (47::r)))
     rw[List.length_drop]at this
     show(tokensFrom f (p+noteLen (47::r)) ((47::r).drop (noteLen (47::r)))).1.length<=_
     omega
    ·split
     ·rename_i hw
      have h1:=My.word_pos r hw
      have:=ih (p+((c::r).takeWhile isWordByte).length) ((c::r).drop ((c::r).takeWhile isWordByte).length)
      rw[List.length_drop]at this
      have hlw:=(List.takeWhile_sublist isWordByte (l:=c::r)).length_le
      cases hwt:wordTok ((c::r).takeWhile isWordByte)with
      |some t=>
       simp only[hwt]
       generalize ((c::r).takeWhile isWordByte).length=m at *
       simp only[List.length_cons]at *
       omega
      |none=>
       simp only[hwt]
       exact Nat.zero_le _
     ·split
      ·rename_i k m hs
       have h1:=(My.signAt_pos hs).1
       have:=ih (p+m) ((c::r).drop m)
       rw[List.length_drop]at this
       simp only[List.length_cons]at *;omega
      ·exact Nat.zero_le _
noncomputable def N0 (b:Bytes):Tx:=⟨(tokens b).1,(tokens b).2,b.length⟩
noncomputable def BS9:List Fr:=[Mn .DECL 4096 0,Tm .finish 0]
noncomputable def op0:Op:=⟨.PROGRAM,0,[]⟩
noncomputable def Ab3 (b:Bytes)(R:Fin):Prop:=match readAll b with
 |.error e=>∃p,e.at_=(N0 b).plc p/\0<e.kind/\R=.fault e.kind p
 |.ok (P,l)=>∃ns,R=.done [⟨.PROGRAM,0,ns⟩]/\SR (N0 b) (p6 P) ns 0 (N0 b).N/\l=pts (N0 b) ns
theorem BD9 {b:Bytes}(hb:b.length<=100000):∃R,En (N0 b) BS9 0 [op0] R/\Ab3 b R:=by
 have hl:(tokens b).1.length<=b.length:=AT6 (b.length+1) 0 b
 have hN:(N0 b).N=(tokens b).1.length:=rfl
 have hE:Enf (N0 b) (stepsFor b) 0:=by
  refine⟨?_,?_⟩
  ·show 16*((tokens b).1.length-0)+14<=32*(b.length+32)
   omega
  ·show(tokens b).1.length<1048576
   omega
 obtain⟨R,h1,h2⟩:=AT5 (X:=N0 b) (F:=stepsFor b) (b.length+2) 0 0 op0 [] ⟨(tokens b).1,(tokens b).2,b.length,0,[]⟩ (by omega) (by omega) hE ⟨Nat.zero_le _,rfl,rfl,rfl,rfl⟩ (Nat.zero_le _)
 refine⟨R,h1,?_⟩
 have er:readAll b=(declsAt (stepsFor b) (b.length+2) 0 ⟨(tokens b).1,(tokens b).2,b.length,0,[]⟩).map fun(y:Prog×PS)=>(y.1,y.2.parts):=rfl
 unfold Ab3
 rw[er]
 cases e:declsAt (stepsFor b) (b.length+2) 0 ⟨(tokens b).1,(tokens b).2,b.length,0,[]⟩with
 |error e'=>rw[e]at h2;exact h2
 |ok y=>
  obtain⟨y,s'⟩:=y
  rw[e]at h2
  obtain⟨ns,k1,k2,k3⟩:=h2
  exact⟨ns,k1,k2,k3⟩
end
end Rd
namespace Rd
open Sw
noncomputable def AY5:List Nt:=[.DECL,.CODE,.KIND,.PORT,.END,.DIVISOR,.STATE,.DO,.WIRE,.WIRE_NAMED,.WIRE_SOURCE,.WIRE_TAKEN,.WIRE_INPUTS,.SIZE,.E,.CHOICE,.OR,.JOINED,.COMPARISON,.COMPARED,.FORMULA,.OPERATED,.ONE,.BEHIND,.INDEX,.INDEXES,.SECOND,.ATOM,.CALLED]
theorem M4 (x:Nt):x∈AY5:=by cases x<;>decide
noncomputable def G6:List Sy:=[.name,.number,.nothing,.finish]++(List.range 26).map .kept++(List.range 33).map .sign
noncomputable def Vb:Sb->Prop
 |.t y=>y∈G6
 |.n _=>True
noncomputable instance (b:Sb):Decidable (Vb b):=by cases b<;>(unfold Vb;infer_instance)
noncomputable def lv:Nt->Nat
 |.DECL=>7 |.CODE=>1 |.KIND=>4 |.PORT=>5 |.END=>5 |.DIVISOR=>1 |.STATE=>5 |.DO=>5 |.WIRE=>6 |.WIRE_NAMED=>5 |.WIRE_SOURCE=>4 |.WIRE_TAKEN=>3 |.WIRE_INPUTS=>2 |.SIZE=>0 |.E=>0 |.CHOICE=>1 |.OR=>7 |.JOINED=>6 |.COMPARISON=>5 |.COMPARED=>4 |.FORMULA=>3 |.OPERATED=>2 |.ONE=>1 |.BEHIND=>3 |.INDEX=>1 |.INDEXES=>2 |.SECOND=>1 |.ATOM=>0 |.CALLED=>1
noncomputable def Aq2 (x:Nt)(d:Nat):Nat:=(130-d)*8+lv x
noncomputable def M1 (b:Sb)(d:Nat):Nat:=match b with
 |.t _=>1
 |.n x=>17*(Aq2 x d+1)
noncomputable def MM (f:Fr):Nat:=if f.fm=.fin then 1 else if f.fm=.once then M1 f.sb f.dp else 1+M1 f.sb f.dp
noncomputable def BB:Nat:=20000
noncomputable def Stk:List Fr->Prop
 |[]=>True
 |f::r=>r.length+MM f<=BB/\Stk r
theorem Ad8 (b:Sb)(d:Nat):1<=M1 b d:=by
 cases b with
 |t _=>exact Nat.le_refl _
 |n x=>show 1<=17*(Aq2 x d+1);omega
theorem BQ8 (f:Fr):1<=MM f:=by
 have:=Ad8 f.sb f.dp
 unfold MM
 split
 ·omega
 ·split<;>omega
theorem Stk.len {l:List Fr}(h:Stk l):l.length<=BB:=by
 cases l with
 |nil=>exact Nat.zero_le _
 |cons f r=>
  have:=h.1
  have:=BQ8 f
  rw[List.length_cons]
  omega
noncomputable def AY6:Sb->Nat
 |.t _=>0
 |.n x=>lv x+1
noncomputable def AO7 (x:Nt)(ps:List Pt):Bool:=decide (ps.length<=15)&&ps.all fun p=>decide (p.fm≠.fin)&&(decide (Vb p.sb)&&((W7 (.n x)||decide (AY6 p.sb<=lv x))&&decide (AY6 p.sb<=8)))
theorem Au3:∀x∈AY5,(row x).all (fun q=>AO7 x q.2)=true:=by decide+kernel
theorem BK0 {l:List (Sy×List Pt)}{y:Sy}{ps:List Pt}(h:lk l y=some ps):(y,ps)∈l:=by
 induction l with
 |nil=>cases h
 |cons p r ih=>
  have h:(if p.1=y then some p.2 else lk r y)=some ps:=h
  by_cases q:p.1=y
  ·rw[if_pos q]at h
   cases h
   rw[←q]
   exact List.mem_cons_self ..
  ·rw[if_neg q]at h
   exact List.mem_cons_of_mem _ (ih h)
theorem Ao8 {x:Nt}{y:Sy}{ps:List Pt}(h:L7 x y=some ps):ps.length<=15/\∀p∈ps,p.fm≠.fin/\Vb p.sb/\(W7 (.n x)=true∨AY6 p.sb<=lv x)/\AY6 p.sb<=8:=by
 have:=List.all_eq_true.mp (Au3 x (M4 x)) _ (BK0 h)
 have h1:AO7 x ps=true:=this
 unfold AO7 at h1
 simp only[Bool.and_eq_true,decide_eq_true_eq,List.all_eq_true,Bool.or_eq_true]at h1
 exact⟨h1.1,fun p hp=>h1.2 p hp⟩
theorem AV2 {x:Nt}{d d':Nat}{r:List Fr}(hd:(W7 (.n x)=true/\d'=d+1/\d<=128)∨(W7 (.n x)=false/\d'=d/\d<=129)){B:Nat}(hB:r.length<=B+1)(hb:B+17*(Aq2 x d+1)<=BB):∀(ps:List Pt),(∀p∈ps,(W7 (.n x)=true∨AY6 p.sb<=lv x)/\AY6 p.sb<=8)->ps.length<=15->Stk r->Stk (ps.map (fr d')++r)
 |[],_,_,h=>h
 |p::ps,hp,hl,h=>by
  rw[List.length_cons]at hl
  refine⟨?_,AV2 hd hB hb ps (fun q hq=>hp q (List.mem_cons_of_mem _ hq)) (by omega) h⟩
  have h1:=hp p (List.mem_cons_self ..)
  show(ps.map (fr d')++r).length+MM (fr d' p)<=BB
  rw[List.length_append,List.length_map]
  have hM:MM (fr d' p)<=1+M1 p.sb d':=by
   have:=Ad8 p.sb d'
   unfold MM
   show(if p.fm=.fin then 1 else if p.fm=.once then M1 p.sb d' else 1+M1 p.sb d')<=1+M1 p.sb d'
   split
   ·omega
   ·split<;>omega
  have hM1:M1 p.sb d'<=17*Aq2 x d:=by
   cases e:p.sb with
   |t y=>
    show 1<=17*Aq2 x d
    unfold Aq2
    omega
   |n z=>
    rw[e]at h1
    have h2:lv z+1<=8:=h1.2
    show 17*(Aq2 z d'+1)<=17*Aq2 x d
    unfold Aq2
    rcases hd with ⟨_,rfl,hd⟩ |⟨hx,rfl,hd⟩
    ·omega
    ·rcases h1.1 with q |q
     ·rw[hx]at q;cases q
     ·have q:lv z+1<=lv x:=q
      omega
  omega
structure Fine (fs:List Fr)(o:List Op):Prop where
 vb:∀f∈fs,Vb f.sb/\f.dp<=129
 st:Stk fs
 op:o.length=(fs.filter fun f=>decide (f.fm=.fin)).length+1
theorem Fine.len {fs:List Fr}{o:List Op}(h:Fine fs o):fs.length<=20000/\o.length<=20001:=by
 have h1:=h.st.len
 have h2:=List.length_filter_le (fun f:Fr=>decide (f.fm=.fin)) fs
 have:=h.op
 unfold BB at h1
 exact⟨h1,by omega⟩
theorem AY3 {ps:List Pt}{d:Nat}(h:∀p∈ps,p.fm≠.fin):(ps.map (fr d)).filter (fun f=>decide (f.fm=.fin))=[]:=by
 rw[List.filter_eq_nil_iff]
 intro f hf
 obtain⟨p,hp,rfl⟩:=List.mem_map.mp hf
 intro q
 exact h p hp (of_decide_eq_true q)
section
variable {cy:Nat->Sy} {N:Nat}
theorem Ao6 {f:Fr}{fs:List Fr}{i:Nat}{o:List Op}{c:Cf}(h:Fine (f::fs) o)(e:step cy N f fs i o=.go c):Fine c.frs c.opn:=by
 obtain⟨hv,hs,ho⟩:=h
 have hvf:=hv f (List.mem_cons_self ..)
 have hvr:∀g∈fs,Vb g.sb/\g.dp<=129:=fun g hg=>hv g (List.mem_cons_of_mem _ hg)
 obtain⟨hs1,hs2⟩:=hs
 unfold step at e
 split at e
 ·cases e
 split at e
 ·rename_i hf
  rw[List.filter_cons_of_pos (by simpa using hf),List.length_cons]at ho
  unfold w8 at e
  split at e
  ·split at e
   ·split at e
    ·cases e
     refine⟨hvr,hs2,?_⟩
     simp only[List.length_cons]at ho ⊢
     omega
    ·cases e
   ·cases e
  ·cases e
 rename_i hnf
 rw[List.filter_cons_of_neg (by simpa using hnf)]at ho
 split at e
 ·cases e
 obtain⟨fm,sb,room,dp⟩:=f
 have one:∀{fm':Fm} {room':Nat},fm'≠.fin->fm≠.once->Fine (⟨.once,sb,room,dp⟩::⟨fm',sb,room',dp⟩::fs) o/\Fine (⟨.once,sb,room,dp⟩::fs) o:=by
  intro fm' room' h1 h2
  have hM:MM ⟨fm,sb,room,dp⟩=1+M1 sb dp:=by
   unfold MM
   rw[if_neg hnf,if_neg h2]
  have hM':MM ⟨fm',sb,room',dp⟩<=1+M1 sb dp:=by
   have:=Ad8 sb dp
   show(if fm'=.fin then 1 else if fm'=.once then M1 sb dp else 1+M1 sb dp)<=_
   rw[if_neg h1]
   split<;>omega
  rw[hM]at hs1
  have hO:MM ⟨.once,sb,room,dp⟩=M1 sb dp:=rfl
  refine⟨⟨?_,⟨?_,?_,hs2⟩,?_⟩,⟨?_,⟨?_,hs2⟩,?_⟩⟩
  ·intro g hg
   rcases List.mem_cons.mp hg with rfl |hg
   ·exact hvf
   ·rcases List.mem_cons.mp hg with rfl |hg
    ·exact hvf
    ·exact hvr g hg
  ·rw[hO,List.length_cons];omega
  ·omega
  ·rw[List.filter_cons_of_neg (by simp),List.filter_cons_of_neg (by simpa using h1)];exact ho
  ·intro g hg
   rcases List.mem_cons.mp hg with rfl |hg
   ·exact hvf
   ·exact hvr g hg
  ·rw[hO];omega
  ·rw[List.filter_cons_of_neg (by simp)];exact ho
 have rest:Fine fs o:=⟨hvr,hs2,ho⟩
 cases fm with
 |once=>
  dsimp only at e
  split at e
  ·cases e
  rename_i hnb
  cases sb with
  |t y=>cases e;exact rest
  |n x=>
   cases e
   have hw:∃ps,L7 x (cy i)=some ps:=by
    cases q:L7 x (cy i)with
    |some ps=>exact⟨ps,rfl⟩
    |none=>
     refine(hnb ?_).elim
     unfold faultOf B2
     simp[q]
   obtain⟨ps,hw⟩:=hw
   have hdp:W7 (.n x)=true->dp<=128:=fun q=>by
    by_cases z:dp<=128
    ·exact z
    ·refine(hnb ?_).elim
     unfold faultOf B2
     simp only[hw]
     rw[if_neg (by simp),if_pos ⟨q,by omega⟩]
     decide
   have hfit:=Ao8 hw
   have hd:(W7 (.n x)=true/\dps x dp=dp+1/\dp<=128)∨(W7 (.n x)=false/\dps x dp=dp/\dp<=129):=by
    unfold dps
    cases q:W7 (.n x)with
    |true=>exact .inl ⟨rfl,if_pos rfl,hdp q⟩
    |false=>exact .inr ⟨rfl,if_neg (by decide),hvf.2⟩
   have hM:MM ⟨.once,.n x,room,dp⟩=17*(Aq2 x dp+1):=rfl
   rw[hM]at hs1
   rw[hw]
   show Fine (ps.map (fr (dps x dp))++(R7 x++fs)) (V8 x i++o)
   have hrest:∀f∈R7 x++fs,Vb f.sb/\f.dp<=129:=by
    intro g hg
    rcases List.mem_append.mp hg with hg |hg
    ·unfold R7 at hg
     split at hg
     ·rw[List.mem_singleton]at hg;subst hg;exact⟨trivial,Nat.zero_le _⟩
     ·cases hg
    ·exact hvr g hg
   have hlen:(R7 x++fs).length<=fs.length+1:=by
    rw[List.length_append]
    unfold R7
    split<;>simp
    omega
   have hst:Stk (R7 x++fs):=by
    unfold R7
    split
    ·refine⟨?_,hs2⟩
     show fs.length+1<=BB
     omega
    ·exact hs2
   refine⟨?_,AV2 hd hlen hs1 ps (fun p hp=>(hfit.2 p hp).2.2) hfit.1 hst,?_⟩
   ·intro g hg
    rcases List.mem_append.mp hg with hg |hg
    ·obtain⟨p,hp,rfl⟩:=List.mem_map.mp hg
     refine⟨(hfit.2 p hp).2.1,?_⟩
     show dps x dp<=129
     rcases hd with q |q<;>omega
    ·exact hrest g hg
   ·rw[List.filter_append,AY3 (fun p hp=>(hfit.2 p hp).1),List.nil_append,List.filter_append,List.length_append,List.length_append]
    unfold V8 R7
    split
    ·simp only[List.length_singleton,List.filter_cons,List.filter_nil]
     rw[if_pos (by decide)]
     simp only[List.length_singleton]
     omega
    ·simp only[List.length_nil,List.filter_nil]
     omega
 |maybe=>
  dsimp only at e
  split at e
  ·cases e;exact(one (fm':=.once) (room':=0) (by decide) (by decide)).2
  ·cases e;exact rest
 |many=>
  dsimp only at e
  split at e
  ·cases e;exact(one (by decide) (by decide)).1
  ·cases e;exact rest
 |more=>
  dsimp only at e
  split at e
  ·cases e;exact(one (by decide) (by decide)).1
  ·cases e;exact rest
 |fin=>exact(hnf rfl).elim
inductive EnN (cy:Nat->Sy) (N:Nat):Nat->List Fr->Nat->List Op->Fin->Prop where
 |done {n i:Nat} {o:List Op}:EnN cy N n [] i o (.done o)
 |bad {n:Nat} {f:Fr} {fs:List Fr} {i k:Nat} {o:List Op}:step cy N f fs i o=.bad k->EnN cy N n (f::fs) i o (.fault k i)
 |go {n:Nat} {f:Fr} {fs:List Fr} {i:Nat} {o:List Op} {c:Cf} {R:Fin}:step cy N f fs i o=.go c->EnN cy N n c.frs c.pos c.opn R->EnN cy N (n+1) (f::fs) i o R
theorem Ends.count {fs:List Fr}{i:Nat}{o:List Op}{R:Fin}(h:Ends cy N fs i o R):∃n,EnN cy N n fs i o R:=by
 induction h with
 |done=>exact⟨0,.done⟩
 |bad e=>exact⟨0,.bad e⟩
 |go e _ ih=>obtain⟨n,hn⟩:=ih;exact⟨n+1,.go e hn⟩
end
theorem BU7:Fine BS9 [op0]:=by
 refine⟨?_,?_,rfl⟩
 ·intro f hf
  have hf:f∈[(Mn .DECL 4096 0),Tm .finish 0]:=hf
  rcases List.mem_cons.mp hf with rfl |hf
  ·exact⟨trivial,Nat.zero_le _⟩
  ·rw[List.mem_singleton]at hf
   subst hf
   exact⟨by show Sy.finish∈G6;decide+kernel,Nat.zero_le _⟩
 ·show 1+MM (Mn .DECL 4096 0)<=BB/\(0+MM (Tm .finish 0)<=BB/\True)
  exact⟨by decide+kernel,by decide+kernel,trivial⟩
theorem Aw6 {k:Nat}(h:k<26):Sy.kept k∈G6:=by
 unfold G6
 exact List.mem_append_left _ (List.mem_append_right _ (List.mem_map.mpr ⟨k,List.mem_range.mpr h,rfl⟩))
theorem Ax4 {k:Nat}(h:k<33):Sy.sign k∈G6:=by
 unfold G6
 exact List.mem_append_right _ (List.mem_map.mpr ⟨k,List.mem_range.mpr h,rfl⟩)
theorem BD3 {w:Bytes}{t:Tok}(h:wordTok w=some t):F1 t∈G6:=by
 unfold wordTok at h
 cases w with
 |nil=>cases h
 |cons c r=>
  dsimp only at h
  split at h
  ·obtain⟨n,_,rfl⟩:=Option.map_eq_some_iff.mp h
   show Sy.number∈G6
   decide
  ·split at h
   ·cases h
   ·split at h
    ·rename_i k hk
     cases h
     have:=(List.findIdx?_eq_some_iff_getElem.mp hk).1
     exact Aw6 this
    ·cases h
     show Sy.name∈G6
     decide
theorem BB1 {b:Bytes}{k n:Nat}(h:signAt b=some (k,n)):k<33:=by
 unfold signAt at h
 split at h
 ·rename_i j hj
  cases h
  exact(List.findIdx?_eq_some_iff_getElem.mp hj).1
 ·cases h
theorem z7:∀(f p:Nat) (l:Bytes),∀t∈(tokensFrom f p l).1,F1 t.tok∈G6:=by
 intro f
 induction f with
 |zero=>intro p l t ht;cases ht
 |succ f ih=>
  intro p l
  cases l with
  |nil=>intro t ht;cases ht
  |cons c r=>
   unfold tokensFrom
   split
   ·exact ih _ _
   ·split
    ·exact ih _ _
    ·split
     ·cases hwt:wordTok ((c::r).takeWhile isWordByte)with
      |some tk=>
       intro t ht
       simp only[hwt]at ht
       rcases List.mem_cons.mp ht with rfl |ht
       ·exact BD3 hwt
       ·exact ih _ _ t ht
      |none=>
       intro t ht
       simp only[hwt]at ht
       cases ht
     ·split
      ·rename_i k m hs
       intro t ht
       rcases List.mem_cons.mp ht with rfl |ht
       ·exact Ax4 (BB1 hs)
       ·exact ih _ _ t ht
      ·intro t ht;cases ht
theorem BK5 (b:Bytes)(i:Nat):(N0 b).cy i∈G6:=by
 unfold Tx.cy
 cases e:(N0 b).A[i]? with
 |some t=>exact z7 _ _ _ t (List.mem_of_getElem? e)
 |none=>
  show(if(N0 b).nn.isSome=true then Sy.nothing else .finish)∈G6
  split<;>decide
end Rd
namespace Rd
noncomputable def Fit (N:Nat)(o:List Op):Prop:=∀p∈o,p.c.length<=N+1/\p.i<=N
theorem Az8 {cy:Nat->Sy}{N:Nat}{f:Fr}{fs:List Fr}{i:Nat}{o:List Op}{c:Cf}(h:Fit N o)(e:step cy N f fs i o=.go c):Fit N c.opn:=by
 unfold step at e
 split at e
 ·cases e
 rename_i hNi
 split at e
 ·unfold w8 at e
  split at e
  ·split at e
   ·split at e
    ·rename_i hl
     cases e
     intro p hp
     rcases List.mem_cons.mp hp with rfl |hp
     ·refine⟨?_,(h _ (List.mem_cons_of_mem _ (List.mem_cons_self ..))).2⟩
      show(_++[_]).length<=N+1
      rw[List.length_append,List.length_singleton]
      omega
     ·exact h p (List.mem_cons_of_mem _ (List.mem_cons_of_mem _ hp))
    ·cases e
   ·cases e
  ·cases e
 split at e
 ·cases e
 obtain⟨fm,sb,room,dp⟩:=f
 cases fm with
 |once=>
  dsimp only at e
  split at e
  ·cases e
  cases sb with
  |t y=>cases e;exact h
  |n x=>
   cases e
   intro p hp
   rcases List.mem_append.mp hp with hp |hp
   ·unfold V8 at hp
    split at hp
    ·rw[List.mem_singleton]at hp;subst hp;exact⟨Nat.zero_le _,Nat.le_of_not_lt hNi⟩
    ·cases hp
   ·exact h p hp
 |maybe=>
  dsimp only at e
  split at e<;>(cases e;exact h)
 |many=>
  dsimp only at e
  split at e<;>(cases e;exact h)
 |more=>
  dsimp only at e
  split at e<;>(cases e;exact h)
 |fin=>
  dsimp only at e
  split at e<;>(cases e;exact h)
theorem Be1 {N:Nat}:Fit N [op0]:=fun p hp=>by
 rw[List.mem_singleton]at hp
 subst hp
 exact⟨Nat.zero_le _,Nat.zero_le _⟩
end Rd
namespace Rd
open Sw My
theorem Ar1 {b:Bytes}{k i:Nat}(h:Ab3 b (.fault k i)):∃e,readAll b=.error e/\e.kind=k/\e.at_=(N0 b).plc i:=by
 unfold Ab3 at h
 split at h
 ·rename_i e he
  obtain⟨p,h1,_,h2⟩:=h
  cases h2
  exact⟨e,he,rfl,h1⟩
 ·obtain⟨nd,e,_⟩:=h;cases e
theorem BA1 {b:Bytes}{nd:List Nd}(h:Ab3 b (.done [⟨.PROGRAM,0,nd⟩])):∃P,readAll b=.ok (P,pts (N0 b) nd)/\SR (N0 b) (p6 P) nd 0 (N0 b).N:=by
 unfold Ab3 at h
 split at h
 ·obtain⟨p,_,_,e⟩:=h;cases e
 ·rename_i P l he
  obtain⟨nd',e,h1,h2⟩:=h
  cases e
  subst h2
  exact⟨P,he,h1⟩
end Rd
namespace Rd
open Sw My
noncomputable def BI0 (l:Bytes)(t:Token):Prop:=(wordTok (l.takeWhile isWordByte)=some t.tok/\t.len=(l.takeWhile isWordByte).length)∨∃k,signAt l=some (k,t.len)/\t.tok=.sign k
noncomputable def BQ9 (a b:Token):Prop:=a.at_+a.len<=b.at_
structure TkF (p:Nat)(l:Bytes)(A:List Token):Prop where
 pw:A.Pairwise BQ9
 ok:∀t∈A,p<=t.at_/\1<=t.len/\t.at_+t.len<=p+l.length/\BI0 (l.drop (t.at_-p)) t
theorem TkF.skip {p n:Nat}{l:Bytes}{A:List Token}(h:TkF (p+n) (l.drop n) A)(hn:n<=l.length):TkF p l A:=by
 refine⟨h.pw,fun t ht=>?_⟩
 obtain⟨h1,h2,h3,h4⟩:=h.ok t ht
 rw[List.length_drop]at h3
 refine⟨by omega,h2,by omega,?_⟩
 rw[List.drop_drop]at h4
 have:n+(t.at_-(p+n))=t.at_-p:=by omega
 rw[this]at h4
 exact h4
theorem TkF.cons {p:Nat}{l:Bytes}{A:List Token}{t:Token}(hp:t.at_=p)(h1:1<=t.len)(h2:t.len<=l.length)(hk:BI0 l t)(h:TkF (p+t.len) (l.drop t.len) A):TkF p l (t::A):=by
 have h':=h.skip h2
 refine⟨List.pairwise_cons.mpr ⟨fun b hb=>?_,h'.pw⟩,fun b hb=>?_⟩
 ·have:=(h.ok b hb).1
  unfold BQ9
  omega
 ·rcases List.mem_cons.mp hb with rfl |hb
  ·refine⟨by omega,h1,by omega,?_⟩
   rw[hp,Nat.sub_self]
   exact hk
  ·exact h'.ok b hb
theorem A49 {b:Bytes}{k n:Nat}(h:signAt b=some (k,n)):n<=b.length:=by
 unfold signAt at h
 split at h
 ·rename_i j hj
  cases h
  obtain⟨h1,h2,_⟩:=List.findIdx?_eq_some_iff_getElem.mp hj
  have h3:=(List.isPrefixOf_iff_prefix.mp h2).length_le
  have:signs.getD k []=signs[k]:=by rw[List.getD_eq_getElem?_getD,List.getElem?_eq_getElem h1];rfl
  rw[this]
  exact h3
 ·cases h
theorem tkF:∀(f p:Nat) (l:Bytes),TkF p l (tokensFrom f p l).1
 |0,p,l=>⟨List.Pairwise.nil,fun t ht=>nomatch ht⟩
 |f+1,p,[]=>⟨List.Pairwise.nil,fun t ht=>nomatch ht⟩
 |f+1,p,c::r=>by
  unfold tokensFrom
  split
  ·exact TkF.skip (n:=1) (tkF f (p+1) r) (by simp)
  ·split
   ·refine TkF.skip (tkF f (p+noteLen (c::r)) ((c::r).drop (noteLen (c::r)))) ?_
    unfold noteLen
    exact(List.takeWhile_sublist _).length_le
   ·split
    ·rename_i hw
     have hl:((c::r).takeWhile isWordByte).length<=(c::r).length:=(List.takeWhile_sublist _).length_le
     have h1:1<=((c::r).takeWhile isWordByte).length:=by rw[List.takeWhile_cons,if_pos hw];simp
     cases hwt:wordTok ((c::r).takeWhile isWordByte)with
     |some tk=>
      simp only[hwt]
      exact TkF.cons (t:=⟨p,_,tk⟩) rfl h1 hl (.inl ⟨hwt,rfl⟩) (tkF f _ _)
     |none=>simp only[hwt];exact⟨List.Pairwise.nil,fun t ht=>nomatch ht⟩
    ·split
     ·rename_i k n hs
      have h1:=(My.signAt_pos hs).1
      exact TkF.cons (t:=⟨p,n,.sign k⟩) rfl h1 (A49 hs) (.inr ⟨k,hs,rfl⟩) (tkF f _ _)
     ·exact⟨List.Pairwise.nil,fun t ht=>nomatch ht⟩
theorem BL7 (b:Bytes):TkF 0 b (tokens b).1:=tkF _ _ _
theorem BP8 {α:Type}{R:α->α->Prop}{l:List α}(h:l.Pairwise R){i j:Nat}{x y:α}(hi:l[i]?=some x)(hj:l[j]?=some y)(hij:i<j):R x y:=by
 obtain⟨h1,rfl⟩:=List.getElem?_eq_some_iff.mp hi
 obtain⟨h2,rfl⟩:=List.getElem?_eq_some_iff.mp hj
 exact List.pairwise_iff_getElem.mp h i j h1 h2 hij
end Rd
namespace Rd
open Sw My
section
variable {ns:List Int}
theorem Av9 {i:Nat}:SwRows.nat? (i:Int)=some i:=by
 unfold SwRows.nat?
 rw[if_pos (by omega)]
 rfl
theorem BM6 (hl:ns.length<=100000){e:Fault}(h:readAll (toB ns)=.error e)(f:Prog->List Part->Bytes->Ans):SwE.ofText (toB ns) f=says (-2):=by
 unfold SwE.ofText
 rw[if_neg (AV0 hl),h]
theorem BQ7 (hl:ns.length<=100000){P:Prog}{l:List Part}(h:readAll (toB ns)=.ok (P,l))(f:Prog->List Part->Bytes->Ans):SwE.ofText (toB ns) f=f P l (toB ns):=by
 unfold SwE.ofText
 rw[if_neg (AV0 hl),h]
end
end Rd
namespace Rd
open Sw My
end Rd
namespace Rd
open Sw My
mutual
noncomputable def Wn:Nd->Prop
 |.mk k i j _ _ _ c=>i<j/\Wl i j c/\(∀m∈c,i<m.i∨m.j<j)/\k≠.n .CHOICE
noncomputable def Wl:Nat->Nat->List Nd->Prop
 |lo,hi,[]=>lo<=hi
 |lo,hi,n::r=>lo<=n.i/\Wn n/\Wl n.j hi r
end
theorem AE6 {k:Kd}{i j:Nat}{p:Bool}{s l:Nat}{c:List Nd}:Wn (.mk k i j p s l c)↔i<j/\Wl i j c/\(∀m∈c,i<m.i∨m.j<j)/\k≠.n .CHOICE:=by unfold Wn;exact Iff.rfl
theorem R3 {a b:Nat}:Wl a b []↔a<=b:=by unfold Wl;exact Iff.rfl
theorem M8 {a b:Nat}{n:Nd}{r:List Nd}:Wl a b (n::r)↔a<=n.i/\Wn n/\Wl n.j b r:=by conv=>lhs;unfold Wl
theorem Wn.lt {n:Nd}(h:Wn n):n.i<n.j:=by
 obtain⟨k,i,j,p,s,l,c⟩:=n
 exact(AE6.mp h).1
theorem Wn.set {n:Nd}(h:Wn n)(v:Nat):Wn (n.setLe v):=by
 obtain⟨k,i,j,p,s,l,c⟩:=n
 exact AE6.mpr (AE6.mp h)
theorem A45 (n:Nd)(v:Nat):(n.setLe v).i=n.i/\(n.setLe v).j=n.j:=by
 obtain⟨k,i,j,p,s,l,c⟩:=n
 exact⟨rfl,rfl⟩
theorem Wl.le:∀{l:List Nd} {a b:Nat},Wl a b l->a<=b
 |[],a,b,h=>R3.mp h
 |n::r,a,b,h=>by
  obtain⟨h1,h2,h3⟩:=M8.mp h
  have:=h2.lt
  have:=Wl.le h3
  omega
theorem Wl.mem:∀{l:List Nd} {a b:Nat},Wl a b l->∀n∈l,a<=n.i/\n.j<=b/\Wn n
 |[],a,b,h,n,hn=>by cases hn
 |m::r,a,b,h,n,hn=>by
  obtain⟨h1,h2,h3⟩:=M8.mp h
  rcases List.mem_cons.mp hn with rfl |q
  ·exact⟨h1,h3.le,h2⟩
  ·have q:=Wl.mem h3 n q
   have:=h2.lt
   exact⟨by omega,by omega,q.2.2⟩
theorem Wl.app:∀{l r:List Nd} {a b c:Nat},Wl a b l->Wl b c r->Wl a c (l++r)
 |[],r,a,b,c,h,h'=>by
  have:=R3.mp h
  cases r with
  |nil=>exact R3.mpr (Nat.le_trans this (R3.mp h'))
  |cons n r=>obtain⟨h1,h2,h3⟩:=M8.mp h';exact M8.mpr ⟨by omega,h2,h3⟩
 |n::l,r,a,b,c,h,h'=>by
  obtain⟨h1,h2,h3⟩:=M8.mp h
  exact M8.mpr ⟨h1,h2,Wl.app h3 h'⟩
theorem Wl.up {l:List Nd}{a a' b b':Nat}(h:Wl a b l)(ha:a'<=a)(hb:b<=b'):Wl a' b' l:=by
 have:=Wl.app (R3.mpr ha) (Wl.app h (R3.mpr hb))
 rw[List.append_nil]at this
 exact this
theorem Wl.one {n:Nd}{a b:Nat}:Wl a b [n]↔a<=n.i/\Wn n/\n.j<=b:=by rw[M8,R3]
theorem Wl.set {n:Nd}{a b v:Nat}(h:Wl a b [n]):Wl a b [n.setLe v]:=by
 obtain⟨h1,h2,h3⟩:=Wl.one.mp h
 exact Wl.one.mpr ⟨by rw[(A45 n v).1];exact h1,h2.set v,by rw[(A45 n v).2];exact h3⟩
theorem W1 {k:Kd}{i j a b:Nat}{p:Bool}{s l:Nat}{c:List Nd}(h:Wl a b c)(hij:i<j)(ha:i<=a)(hb:b<=j)(hc:i<a∨b<j)(hk:k≠.n .CHOICE:=by intro z;cases z):Wl i j [.mk k i j p s l c]:=
 Wl.one.mpr ⟨Nat.le_refl _,AE6.mpr ⟨hij,h.up ha hb,fun m hm=>by have:=h.mem m hm;omega,hk⟩,Nat.le_refl _⟩
theorem W2 {k:Kd}{i j:Nat}{p:Bool}{s l:Nat}{c:List Nd}(h:Wl i j c)(hij:i<j)(hc:∀m∈c,i<m.i∨m.j<j)(hk:k≠.n .CHOICE:=by intro z;cases z):Wl i j [.mk k i j p s l c]:=Wl.one.mpr ⟨Nat.le_refl _,AE6.mpr ⟨hij,h,hc,hk⟩,Nat.le_refl _⟩
section
variable {X:Tx}
theorem Rp.w {o:Ob}{ns:List Nd}{i j:Nat}(h:Rp X o ns i j):Wl i j ns:=by
 induction h with
 | @num i _ e=>exact W1 (a:=i+1) (R3.mpr (Nat.le_refl _)) (by omega) (by omega) (by omega) (by omega)
 | @name i _ e=>exact W1 (a:=i+1) (R3.mpr (Nat.le_refl _)) (by omega) (by omega) (by omega) (by omega)
 |call _ _ h _ ih=>have:=h.lt;exact W1 ih (by omega) (by omega) (by omega) (by omega)
 |par _ h _ ih=>have:=h.lt;exact W1 ih (by omega) (by omega) (by omega) (by omega)
 |hw _ _ _ _ _ h _ ih=>have:=h.lt;exact W1 ih (by omega) (by omega) (by omega) (by omega)
 |abs _ _ h _ ih=>have:=h.lt;exact W1 ih (by omega) (by omega) (by omega) (by omega)
 |two _ _ _ h _ h' _ ih ih'=>
  have:=h.lt;have:=h'.lt
  exact W1 (ih.app (ih'.up (Nat.le_succ _) (Nat.le_refl _))) (by omega) (by omega) (by omega) (by omega)
 |one _ _ h _ ih=>have:=h.lt;exact W1 ih.set (by omega) (by omega) (by omega) (by omega)
 | @bin i j m o x y n n' _ h _ h' _ _ ih ih'=>
  have:=h.lt;have:=h'.lt
  have q:=(Wl.set ih (v:=lowL (AL1 o))).app ((Wl.set ih' (v:=AL1 o+1)).up (Nat.le_succ _) (Nat.le_refl _))
  refine W2 q (by omega) fun m hm=>?_
  rcases List.mem_cons.mp hm with rfl |hm
  ·have:=(Wl.mem (Wl.set (v:=lowL (AL1 o)) ih) _ (List.mem_singleton.mpr rfl)).2.1;omega
  ·have:=(Wl.mem (Wl.set (v:=AL1 o+1) ih') _ hm).1;omega
 |choice h _ h' _ h'' _ ih ih' ih''=>
  have:=h.lt;have:=h'.lt;have:=h''.lt
  have q:=(Wl.set ih (v:=2)).app ((ih'.up (Nat.le_succ _) (Nat.le_refl _)).app (ih''.up (Nat.le_succ _) (Nat.le_refl _)))
  refine W2 q (by omega) fun m hm=>?_
  rcases List.mem_cons.mp hm with rfl |hm
  ·have:=(Wl.mem (Wl.set (v:=2) ih) _ (List.mem_singleton.mpr rfl)).2.1;omega
  ·rcases List.mem_cons.mp hm with rfl |hm
   ·have:=(Wl.mem ih' _ (List.mem_singleton.mpr rfl)).1;omega
   ·have:=(Wl.mem ih'' _ hm).1;omega
 |index h _ h' _ _ ih ih'=>
  have:=h.lt;have:=h'.lt
  exact W1 ((Wl.set ih (v:=12)).app (ih'.up (Nat.le_succ _) (Nat.le_refl _))) (by omega) (by omega) (by omega) (by omega)
 |index2 h _ h' _ h'' _ _ ih ih' ih''=>
  have:=h.lt;have:=h'.lt;have:=h''.lt
  exact W1 ((Wl.set ih (v:=12)).app ((ih'.up (Nat.le_succ _) (Nat.le_refl _)).app (ih''.up (Nat.le_succ _) (Nat.le_refl _)))) (by omega) (by omega) (by omega) (by omega)
 |past h _ h' _ ih ih'=>
  have:=h.lt;have:=h'.lt
  have q:=(Wl.set ih (v:=12)).app (ih'.up (Nat.le_succ _) (Nat.le_refl _))
  refine W2 q (by omega) fun m hm=>?_
  rcases List.mem_cons.mp hm with rfl |hm
  ·have:=(Wl.mem (Wl.set (v:=12) ih) _ (List.mem_singleton.mpr rfl)).2.1;omega
  ·have:=(Wl.mem ih' _ hm).1;omega
 |ovr _ _ _ _ h _ h' ih ih'=>
  have:=h.lt;have:=h'.lt
  exact W1 (ih.app (ih'.up (Nat.le_succ _) (Nat.le_refl _))) (by omega) (by omega) (by omega) (by omega)
 |sheet _ _ _ _ _ h _ h' _ h'' ih ih' ih''=>
  have:=h.lt;have:=h'.lt;have:=h''.lt
  exact W1 (ih.app ((ih'.up (Nat.le_succ _) (Nat.le_refl _)).app (ih''.up (Nat.le_succ _) (Nat.le_refl _)))) (by omega) (by omega) (by omega) (by omega)
 | @sznum i _ e=>exact W1 (a:=i+1) (R3.mpr (Nat.le_refl _)) (by omega) (by omega) (by omega) (by omega)
 | @szname i _ e=>exact W1 (a:=i+1) (R3.mpr (Nat.le_refl _)) (by omega) (by omega) (by omega) (by omega)
 |szpar _ h _ ih=>have:=h.lt;exact W1 ih (by omega) (by omega) (by omega) (by omega)
 |arone _ ih=>exact ih
 |arcons _ h _ h' ih ih'=>exact ih.app (ih'.up (Nat.le_succ _) (Nat.le_refl _))
noncomputable def ldB:List It->Bool
 |.nm _::_=>true
 |.kw _::_=>true
 |.sg _::_=>true
 |_=>false
mutual
noncomputable def gd:It->Bool
 |.nd x l=>ldB l&&gds l&&decide (x≠.CHOICE)
 |.nm _=>true
 |.kw _=>true
 |.sg _=>true
 |.ob _=>true
noncomputable def gds:List It->Bool
 |[]=>true
 |x::r=>gd x&&gds r
end
theorem G3:gds []=true:=by unfold gds;rfl
theorem F4 {x:It}{r:List It}:gds (x::r)=(gd x&&gds r):=by conv=>lhs;unfold gds
theorem BI1 {x:Nt}{l:List It}:gd (.nd x l)=(ldB l&&gds l&&decide (x≠.CHOICE)):=by conv=>lhs;unfold gd
theorem p3:∀{l:List It},gds l=true↔∀x∈l,gd x=true
 |[]=>by rw[G3];simp
 |x::r=>by rw[F4,Bool.and_eq_true,p3 (l:=r)];simp
theorem K3 {l r:List It}(h:gds l=true)(h':gds r=true):gds (l++r)=true:=p3.mpr fun x hx=>(List.mem_append.mp hx).elim (p3.mp h x) (p3.mp h' x)
theorem G2 {x:It}{r:List It}(h:gd x=true)(h':gds r=true):gds (x::r)=true:=by rw[F4,h,h'];rfl
theorem j9:∀{l:List (List It)},(∀x∈l,gds x=true)->gds (f6 l)=true
 |[],_=>G3
 |[x],h=>h x (List.mem_singleton.mpr rfl)
 |x::y::l,h=>K3 (h x (List.mem_cons_self ..)) (G2 (by unfold gd;rfl) (j9 (l:=y::l) fun z hz=>h z (List.mem_cons_of_mem _ hz)))
theorem X1 {b:Bytes}:gd (.nm b)=true:=by unfold gd;rfl
theorem t7 {b:Nat}:gd (.kw b)=true:=by unfold gd;rfl
theorem J9 {b:Nat}:gd (.sg b)=true:=by unfold gd;rfl
theorem y9 {b:Ob}:gd (.ob b)=true:=by unfold gd;rfl
theorem BH0 {x:Nt}{l:List It}(h:ldB l=true)(h':gds l=true)(hx:decide (x≠.CHOICE)=true:=by rfl):gd (.nd x l)=true:=by rw[BI1,h,h',hx];rfl
theorem AP1 (l:List Bytes):gds (R0 l)=true:=j9 fun x hx=>by
 obtain⟨b,_,rfl⟩:=List.mem_map.mp hx
 exact G2 X1 G3
theorem Aj3 (k:KindEx):gds (AA0 k)=true:=by
 unfold AA0
 refine G2 t7 ?_
 split<;>simp[F4,G3,J9,y9]
theorem BI7 (o:Option Ex):gds (Aj9 o)=true:=by
 cases o<;>simp[Aj9,F4,G3,J9,y9]
theorem BP2 (p:Port):gds (AS6 p)=true:=G2 X1 (G2 J9 (K3 (Aj3 _) (BI7 _)))
theorem BW3 (p:EndPort):gds (Ar5 p)=true:=G2 X1 (G2 J9 (K3 (Aj3 _) (G2 t7 (G2 y9 (BI7 _)))))
theorem BC3 (s:StateDecl):gds (Z6 s)=true:=G2 t7 (G2 X1 (G2 J9 (K3 (Aj3 _) (by simp[F4,G3,J9,y9]))))
theorem Ba0 (d:Do):gds (BA3 d)=true/\ldB (BA3 d)=true:=by
 cases d with
 |bind s e=>exact⟨by simp[BA3,F4,G3,J9,y9,X1,t7],rfl⟩
 |put s o e=>cases o<;>exact⟨by simp[BA3,F4,G3,J9,y9,X1,t7],rfl⟩
theorem Ay5 (l:List Bytes)(r:List It)(h:ldB r=true):ldB (R0 l++r)=true:=by
 cases l with
 |nil=>exact h
 |cons b l=>cases l<;>rfl
theorem A19 (d:Wire):gds (Y7 d)=true/\ldB (Y7 d)=true:=by
 cases d with
 |node o f i=>exact⟨K3 (AP1 _) (G2 J9 (G2 X1 (G2 J9 (K3 (AP1 _) (by simp[F4,G3,J9]))))),Ay5 _ _ rfl⟩
 |delay s n v x=>exact⟨by simp[Y7,F4,G3,J9,y9,X1,t7],rfl⟩
 |same s x=>exact⟨by simp[Y7,F4,G3,J9,X1],rfl⟩
theorem Aw5 {α:Type}{f:α->It}(h:∀a,gd (f a)=true)(l:List α):gds (l.map f)=true:=p3.mpr fun x hx=>by
 obtain⟨a,_,rfl⟩:=List.mem_map.mp hx
 exact h a
theorem Ah9 (l:List Port):gds (AR5 l)=true:=j9 fun x hx=>by
 obtain⟨b,_,rfl⟩:=List.mem_map.mp hx
 exact G2 (BH0 rfl (BP2 b)) G3
theorem A01 (l:List EndPort):gds (Ag0 l)=true:=j9 fun x hx=>by
 obtain⟨b,_,rfl⟩:=List.mem_map.mp hx
 exact G2 (BH0 rfl (BW3 b)) G3
theorem BP4 (d:Decl):gd (.nd .DECL (O7 d))=true:=by
 refine BH0 (by cases d<;>rfl) ?_
 cases d with
 |const s e=>simp[O7,F4,G3,J9,y9,X1,t7]
 |table s c l=>simp[O7,F4,G3,J9,y9,X1,t7]
 |fn s ps e=>exact G2 t7 (G2 X1 (G2 J9 (K3 (AP1 _) (by simp[F4,G3,J9,y9]))))
 |node s i o st ds=>
  exact G2 t7 (G2 X1 (G2 J9 (K3 (Ah9 _) (G2 J9 (G2 J9 (G2 J9 (K3 (Ah9 _) (G2 J9 (G2 J9 (K3 (Aw5 (fun s=>BH0 rfl (BC3 s)) _) (K3 (Aw5 (fun d=>BH0 (Ba0 d).2 (Ba0 d).1) _) (G2 J9 G3))))))))))))
 |graph s i o ws=>
  exact G2 t7 (G2 X1 (G2 J9 (K3 (A01 _) (G2 J9 (G2 J9 (G2 J9 (K3 (A01 _) (G2 J9 (G2 J9 (K3 (Aw5 (fun d=>BH0 (A19 d).2 (A19 d).1) _) (G2 J9 G3)))))))))))
theorem BO7 (P:Prog):gds (p6 P)=true:=Aw5 BP4 P
theorem SR.w2 {l:List It}{ns:List Nd}{i j:Nat}(h:SR X l ns i j):gds l=true->Wl i j ns/\(ldB l=true->∀m∈ns,i<m.i):=by
 have tok:∀{x:It} {r:List It} {ns:List Nd} {i j:Nat},(gds r=true->Wl (i+1) j ns/\(ldB r=true->∀m∈ns,i+1<m.i))->gds (x::r)=true->Wl i j ns/\(ldB (x::r)=true->∀m∈ns,i<m.i):=by
  intro x r ns i j ih g
  rw[F4,Bool.and_eq_true]at g
  have q:=(ih g.2).1
  exact⟨q.up (Nat.le_succ _) (Nat.le_refl _),fun _ m hm=>(q.mem m hm).1⟩
 induction h with
 |nil=>intro _;exact⟨R3.mpr (Nat.le_refl _),fun _ m hm=>by cases hm⟩
 |nm _ _ ih=>exact tok ih
 |kw _ _ ih=>exact tok ih
 |sg _ _ ih=>exact tok ih
 |ob h _ ih=>intro g;rw[F4,Bool.and_eq_true]at g;exact⟨h.w.app (ih g.2).1,fun z=>by cases z⟩
 | @nd x l r ns ms i m j h hlt _ ih1 ih2=>
  intro g
  rw[F4,BI1,Bool.and_eq_true,Bool.and_eq_true,Bool.and_eq_true,decide_eq_true_eq]at g
  have w1:=ih1 g.1.1.2
  exact⟨Wl.app (W2 (k:=.n x) (p:=false) (s:=13) (l:=0) w1.1 hlt (fun m hm=>.inl (w1.2 g.1.1.1 m hm)) (fun z=>g.1.2 (by injection z))) (ih2 g.2).1,fun z=>by cases z⟩
theorem Ap4 {P:Prog}{ns:List Nd}{i j:Nat}(h:SR X (p6 P) ns i j):Wl i j ns:=(h.w2 (BO7 P)).1
end
end Rd
namespace Rd
open Sw My
structure TkO (X:Tx):Prop where
 be:∀i,i<X.N->X.bg i<X.en (i+1)
 eb:∀i j,1<=i->i<=j->j<X.N->X.en i<=X.bg j
theorem A56 (b:Bytes):TkO (N0 b):=by
 have hf:=BL7 b
 have hbg:∀i (h:i<(tokens b).1.length),(N0 b).bg i=((tokens b).1[i]).at_:=fun i h=>by
  show(((tokens b).1[i]?).map (·.at_)).getD _=_
  rw[List.getElem?_eq_getElem h];rfl
 have hen:∀i (h:i<(tokens b).1.length),(N0 b).en (i+1)=((tokens b).1[i]).at_+((tokens b).1[i]).len:=fun i h=>by
  show(((tokens b).1[i]?).map fun t=>t.at_+t.len).getD 0=_
  rw[List.getElem?_eq_getElem h];rfl
 refine⟨fun i h=>?_,fun i j h1 hij hj=>?_⟩
 ·rw[hbg i h,hen i h]
  have:1<=((tokens b).1[i]).len:=(hf.ok _ (List.getElem_mem h)).2.1
  omega
 ·cases i with
  |zero=>omega
  |succ i=>
   have hi:i<(tokens b).1.length:=Nat.lt_trans (Nat.lt_of_succ_le hij) hj
   rw[hen i hi,hbg j hj]
   exact BP8 hf.pw (List.getElem?_eq_getElem hi) (List.getElem?_eq_getElem hj) (by omega)
section
variable {X:Tx} (T:TkO X)
include T
theorem TkO.lt {i j:Nat}(h:i<j)(hj:j<=X.N):X.bg i<X.en j:=by
 cases j with
 |zero=>omega
 |succ j=>
  have h1:=T.be j hj
  by_cases e:i=j
  ·rw[e];exact h1
  ·have h2:=T.be i (by omega)
   have h3:=T.eb (i+1) j (by omega) (by omega) hj
   omega
theorem TkO.bl {i j:Nat}(h:i<j)(hj:j<X.N):X.bg i<X.bg j:=by
 have h2:=T.be i (by omega)
 have h3:=T.eb (i+1) j (by omega) (by omega) hj
 omega
theorem TkO.bb {i j:Nat}(h:i<=j)(hj:j<X.N):X.bg i<=X.bg j:=by
 by_cases e:i=j
 ·rw[e];exact Nat.le_refl _
 ·exact Nat.le_of_lt (T.bl (by omega) hj)
theorem TkO.el {i j:Nat}(h0:1<=i)(h:i<j)(hj:j<=X.N):X.en i<X.en j:=by
 cases j with
 |zero=>omega
 |succ j=>
  have h1:=T.be j hj
  have h3:=T.eb i j h0 (by omega) hj
  omega
theorem TkO.ee {i j:Nat}(h0:1<=i)(h:i<=j)(hj:j<=X.N):X.en i<=X.en j:=by
 by_cases e:i=j
 ·rw[e];exact Nat.le_refl _
 ·exact Nat.le_of_lt (T.el h0 (by omega) hj)
theorem Al6 {d:Kd}{i j:Nat}(h:i<j)(hj:j<=X.N){p:Part}(hp:p∈own X d i j):p.at_=X.bg i/\p.at_+p.len=X.en j/\own X d i j=[p]:=by
 unfold own at hp ⊢
 have:=T.lt h hj
 split at hp
 ·rw[List.mem_singleton]at hp
  rename_i w e
  subst hp
  exact⟨rfl,by show X.bg i+(X.en j-X.bg i)=_;omega,rfl⟩
 ·cases hp
mutual
theorem A83:∀(n:Nd),Wn n->n.j<=X.N->∀p∈pt X n,X.bg n.i<=p.at_/\p.at_+p.len<=X.en n.j
 |.mk d i j p0 s l c,h,hj,p,hp=>by
  obtain⟨h1,h2,h3,_⟩:=AE6.mp h
  rw[R6]at hp
  rcases List.mem_append.mp hp with q |q
  ·exact Ac8 c i j h2 hj p q
  ·have:=Al6 T h1 hj q
   exact⟨Nat.le_of_eq this.1.symm,Nat.le_of_eq this.2.1⟩
theorem Ac8:∀(c:List Nd) (a b:Nat),Wl a b c->b<=X.N->∀p∈pts X c,X.bg a<=p.at_/\p.at_+p.len<=X.en b
 |[],a,b,h,hb,p,hp=>by rw[D7]at hp;cases hp
 |n::r,a,b,h,hb,p,hp=>by
  obtain⟨h1,h2,h3⟩:=M8.mp h
  have hl:=h2.lt
  have hle:=h3.le
  rw[E5]at hp
  rcases List.mem_append.mp hp with q |q
  ·have:=A83 n h2 (by omega) p q
   exact⟨Nat.le_trans (T.bb h1 (by omega)) this.1,Nat.le_trans this.2 (T.ee (by omega) hle hb)⟩
  ·have hr:n.j<b:=by
    cases r with
    |nil=>rw[D7]at q;cases q
    |cons m r=>obtain⟨g1,g2,g3⟩:=M8.mp h3;have:=g2.lt;have:=g3.le;omega
   have:=Ac8 r n.j b h3 hb p q
   exact⟨Nat.le_trans (T.bb (by omega) (by omega)) this.1,this.2⟩
end
theorem An1:∀{c:List Nd} {p:Part},p∈pts X c->∃m∈c,p∈pt X m
 |[],p,h=>by rw[D7]at h;cases h
 |n::r,p,h=>by
  rw[E5]at h
  rcases List.mem_append.mp h with q |q
  ·exact⟨n,List.mem_cons_self ..,q⟩
  ·obtain⟨m,hm,hp⟩:=An1 q
   exact⟨m,List.mem_cons_of_mem _ hm,hp⟩
omit T
noncomputable def r8 (X:Tx)(k:Nat)(n:Nd):Bool:=decide (X.bg n.i<=k)&&decide (k<X.en n.j)
mutual
noncomputable def ch (X:Tx)(k:Nat):Nd->List Part
 |.mk d i j _ _ _ c=>chs X k c++own X d i j
noncomputable def chs (X:Tx)(k:Nat):List Nd->List Part
 |[]=>[]
 |n::r=>if r8 X k n=true then ch X k n else chs X k r
end
theorem A50 (k:Nat)(d:Kd)(i j:Nat)(p:Bool)(s l:Nat)(c:List Nd):ch X k (.mk d i j p s l c)=chs X k c++own X d i j:=by conv=>lhs;unfold ch
theorem AQ7 (k:Nat):chs X k []=[]:=by unfold chs;rfl
theorem AE7 (k:Nat)(n:Nd)(r:List Nd):chs X k (n::r)=if r8 X k n=true then ch X k n else chs X k r:=by conv=>lhs;unfold chs
theorem AU7 (k:Nat):∀c:List Nd,chs X k c=match c.find? (r8 X k)with |some n=>ch X k n |none=>[]
 |[]=>AQ7 k
 |n::r=>by
  rw[AE7]
  by_cases e:r8 X k n=true
  ·rw[if_pos e,List.find?_cons_of_pos e]
  ·rw[if_neg e,List.find?_cons_of_neg e,AU7 k r]
include T
mutual
theorem BX8 (k:Nat):∀(n:Nd),Wn n->n.j<=X.N->(pt X n).filter (fun(p:Part)=>SwE.Part.has p k)=if r8 X k n=true then ch X k n else []
 |.mk d i j p0 s l c,h,hj=>by
  obtain⟨h1,h2,h3,_⟩:=AE6.mp h
  by_cases e:r8 X k (.mk d i j p0 s l c)=true
  ·rw[if_pos e,R6,A50,List.filter_append,AM6 k c i j h2 hj]
   congr 1
   refine List.filter_eq_self.mpr fun p hp=>?_
   have:=Al6 T h1 hj hp
   unfold r8 at e
   unfold SwE.Part.has
   rw[this.1,←this.1,this.2.1,this.1]
   exact e
  ·rw[if_neg e]
   refine List.filter_eq_nil_iff.mpr fun p hp hh=>e ?_
   have:=A83 T _ h hj p hp
   unfold SwE.Part.has at hh
   unfold r8
   rw[Bool.and_eq_true,decide_eq_true_eq,decide_eq_true_eq]at hh ⊢
   omega
theorem AM6 (k:Nat):∀(c:List Nd) (a b:Nat),Wl a b c->b<=X.N->(pts X c).filter (fun(p:Part)=>SwE.Part.has p k)=chs X k c
 |[],a,b,h,hb=>by rw[D7,AQ7];rfl
 |n::r,a,b,h,hb=>by
  obtain⟨h1,h2,h3⟩:=M8.mp h
  have hl:=h2.lt
  have hle:=h3.le
  rw[E5,List.filter_append,BX8 k n h2 (by omega),AE7]
  by_cases e:r8 X k n=true
  ·rw[if_pos e,if_pos e]
   have:(pts X r).filter (fun(p:Part)=>SwE.Part.has p k)=[]:=by
    refine List.filter_eq_nil_iff.mpr fun p hp hh=>?_
    have hr:n.j<b:=by
     cases r with
     |nil=>rw[D7]at hp;cases hp
     |cons m r=>obtain⟨g1,g2,g3⟩:=M8.mp h3;have:=g2.lt;have:=g3.le;omega
    have h4:=(Ac8 T r n.j b h3 hb p hp).1
    have h5:=T.eb n.j n.j (by omega) (Nat.le_refl _) (by omega)
    unfold r8 at e
    unfold SwE.Part.has at hh
    rw[Bool.and_eq_true,decide_eq_true_eq,decide_eq_true_eq]at hh e
    omega
   rw[this,List.append_nil]
  ·rw[if_neg e,if_neg e,AM6 k r n.j b h3 hb]
   rfl
end
noncomputable def Ins (p q:Part):Prop:=q.at_<=p.at_/\p.at_+p.len<=q.at_+q.len/\p.len<q.len
mutual
theorem BU3 (k:Nat):∀(n:Nd),Wn n->n.j<=X.N->(ch X k n).Pairwise Ins
 |.mk d i j p0 s l c,h,hj=>by
  obtain⟨h1,h2,h3,_⟩:=AE6.mp h
  rw[A50,List.pairwise_append]
  refine⟨Ab7 k c i j h2 hj,?_,fun p hp q hq=>?_⟩
  ·unfold own
   split
   ·exact List.pairwise_singleton _ _
   ·exact List.Pairwise.nil
  ·have ho:=Al6 T h1 hj hq
   have hj:j<=X.N:=hj
   rw[←AM6 T k c i j h2 hj]at hp
   obtain⟨m,hm,hp⟩:=An1 T (List.mem_filter.mp hp).1
   obtain⟨w1,w2,w3⟩:=h2.mem m hm
   have hw:=w3.lt
   have hi:=A83 T m w3 (by omega) p hp
   have s1:=T.bb w1 (by omega)
   have s2:=T.ee (by omega) w2 hj
   have s3:X.bg i<X.bg m.i∨X.en m.j<X.en j:=(h3 m hm).imp (fun z=>T.bl z (by omega)) (fun z=>T.el (by omega) z hj)
   unfold Ins
   omega
theorem Ab7 (k:Nat):∀(c:List Nd) (a b:Nat),Wl a b c->b<=X.N->(chs X k c).Pairwise Ins
 |[],a,b,h,hb=>by rw[AQ7];exact List.Pairwise.nil
 |n::r,a,b,h,hb=>by
  obtain⟨h1,h2,h3⟩:=M8.mp h
  have hle:=h3.le
  rw[AE7]
  split
  ·exact BU3 k n h2 (by omega)
  ·exact Ab7 k r n.j b h3 hb
end
omit T
theorem z4 {p:Part}:∀{l:List Part},(∀q∈l,p.len<q.len)->l.foldl (fun(a:Option Part) (p:Part)=>match a with
  |none=>some p
  |some q=>if p.len<q.len then some p else some q) (some p)=some p
 |[],_=>rfl
 |q::r,h=>by
  have:=h q (List.mem_cons_self ..)
  rw[List.foldl_cons]
  show List.foldl _ (if q.len<p.len then some q else some p) r=_
  rw[if_neg (by omega)]
  exact z4 fun z hz=>h z (List.mem_cons_of_mem _ hz)
include T
theorem At9 {k:Nat}{c:List Nd}{a b:Nat}(h:Wl a b c)(hb:b<=X.N)(e:chs X k c=[]):SwE.smallest (pts X c) k=none:=by
 unfold SwE.smallest
 rw[AM6 T k c a b h hb,e]
 rfl
theorem Ao3 {k:Nat}{c:List Nd}{a b:Nat}(h:Wl a b c)(hb:b<=X.N){p:Part}{r:List Part}(e:chs X k c=p::r):SwE.smallest (pts X c) k=some p/\((pts X c).filter fun(q:Part)=>SwE.Part.within p q&&q != p).length=r.length:=by
 have pw:=Ab7 T k c a b h hb
 rw[e,List.pairwise_cons]at pw
 have hf:=AM6 T k c a b h hb
 refine⟨?_,?_⟩
 ·unfold SwE.smallest
  rw[hf,e]
  exact z4 fun q hq=>(pw.1 q hq).2.2
 ·have hk:SwE.Part.has p k=true:=(List.mem_filter.mp (show p∈(pts X c).filter (fun(p:Part)=>SwE.Part.has p k) by rw[hf,e];exact List.mem_cons_self ..)).2
  unfold SwE.Part.has at hk
  rw[Bool.and_eq_true,decide_eq_true_eq,decide_eq_true_eq]at hk
  have e1:((pts X c).filter fun(q:Part)=>SwE.Part.within p q&&q != p)=((pts X c).filter (fun(p:Part)=>SwE.Part.has p k)).filter fun(q:Part)=>SwE.Part.within p q&&q != p:=by
   rw[List.filter_filter]
   refine List.filter_congr fun q _=>?_
   by_cases w:SwE.Part.within p q=true
   ·have:SwE.Part.has q k=true:=by
     unfold SwE.Part.within at w
     unfold SwE.Part.has
     rw[Bool.and_eq_true,decide_eq_true_eq,decide_eq_true_eq]at w ⊢
     omega
    rw[this,Bool.and_true]
   ·rw[Bool.not_eq_true]at w
    rw[w]
    rfl
  rw[e1,hf,e,List.filter_cons_of_neg (by simp)]
  congr 1
  refine List.filter_eq_self.mpr fun q hq=>?_
  have:=pw.1 q hq
  have hne:q≠p:=fun z=>by rw[z]at this;have:=this.2.2;omega
  unfold SwE.Part.within
  have h2:=this.1
  have h3:=this.2.1
  simp[h2,h3,hne]
end
section
variable {ns:List Int}
theorem u1 (hB:Byt ns)(i:Nat):PyWqaibx.part (i:Int) ns=TextNeutral.told (.part (toB ns) i) (SwE.answer (.part (toB ns) i)):=by
 unfold PyWqaibx.part TextNeutral.step
 have:TextNeutral.callOf [[7,(i:Int)],ns]=some (.part (toB ns) i):=by
  show(do return SwE.Call.part (←SwRows.text? ns) (←SwRows.nat? (i:Int)):Option SwE.Call)=_
  rw[BE5 hB,Av9]
  rfl
 rw[this]
 rfl
theorem Ay9 (hB:Byt ns)(hl:ns.length<=100000){e:Fault}(h:readAll (toB ns)=.error e)(i:Nat):PyWqaibx.part (i:Int) ns=[-2]:=by
 rw[u1 hB]
 have e:SwE.answer (.part (toB ns) i)=says (-2):=by
  unfold SwE.answer
  dsimp only
  rw[BM6 hl h]
 rw[e]
 rfl
theorem BC9 (hB:Byt ns)(hl:ns.length<=100000){P:Prog}{nd:List Nd}(h:readAll (toB ns)=.ok (P,pts (N0 (toB ns)) nd))(hs:SR (N0 (toB ns)) (p6 P) nd 0 (N0 (toB ns)).N){i:Nat}(e:chs (N0 (toB ns)) i nd=[]):PyWqaibx.part (i:Int) ns=[-5]:=by
 rw[u1 hB]
 have e:SwE.answer (.part (toB ns) i)=says (-5):=by
  unfold SwE.answer
  dsimp only
  rw[BQ7 hl h,At9 (A56 _) (Ap4 hs) (Nat.le_refl _) e]
 rw[e]
 rfl
theorem Ar9 (hB:Byt ns)(hl:ns.length<=100000){P:Prog}{nd:List Nd}(h:readAll (toB ns)=.ok (P,pts (N0 (toB ns)) nd))(hs:SR (N0 (toB ns)) (p6 P) nd 0 (N0 (toB ns)).N){i:Nat}{p:Part}{r:List Part}(e:chs (N0 (toB ns)) i nd=p::r):PyWqaibx.part (i:Int) ns=[0,(p.what:Int),(p.at_:Int),(p.len:Int),(r.length:Int)]:=by
 rw[u1 hB]
 have e:SwE.answer (.part (toB ns) i)=tells 0 [p.what,p.at_,p.len,r.length]:=by
  unfold SwE.answer
  dsimp only
  have:=Ao3 (A56 _) (Ap4 hs) (Nat.le_refl _) e
  rw[BQ7 hl h,this.1]
  dsimp only
  rw[this.2]
 rw[e]
 rfl
end
end Rd
namespace Tk
open PySem PySem.Spec PyProof.Rows L2
noncomputable def top (i:Nat):Stmt:=PySem.Challenge.pw_rilltexts_s07_part.main.body.getD i (.Pass ⟨0,0,0,0⟩)
noncomputable abbrev At3:Stmt:=AD3 (top 20) 0
noncomputable abbrev L3:Stmt:=top 21
noncomputable abbrev P9:Stmt:=top 22
noncomputable abbrev X9:Stmt:=top 23
noncomputable abbrev v6:Stmt:=top 24
noncomputable abbrev Ac3:Stmt:=top 25
noncomputable abbrev W8:Stmt:=top 26
noncomputable abbrev AD7:Stmt:=top 27
noncomputable abbrev AE2:Stmt:=top 28
noncomputable abbrev W5:Stmt:=top 29
noncomputable abbrev AB3:Stmt:=top 30
noncomputable abbrev BS0:Stmt:=top 31
noncomputable abbrev AI8:Stmt:=top 32
noncomputable abbrev AR8:Stmt:=top 33
noncomputable abbrev AF5:Stmt:=top 34
noncomputable abbrev j8:Stmt:=top 35
noncomputable abbrev Ai7:Stmt:=top 36
noncomputable abbrev O5:Stmt:=top 40
noncomputable abbrev U7:Stmt:=top 41
noncomputable abbrev U8:Stmt:=top 42
noncomputable abbrev Q5:Stmt:=top 43
noncomputable abbrev j7:Stmt:=top 44
noncomputable abbrev J1:Stmt:=top 45
noncomputable abbrev AB2:Stmt:=top 48
noncomputable abbrev Aa0:Stmt:=top 49
noncomputable abbrev Ac1:Stmt:=top 50
noncomputable abbrev Ab6:Stmt:=AD3 (top 61) 0
noncomputable abbrev G9:Stmt:=top 62
noncomputable abbrev S7:Stmt:=top 63
noncomputable abbrev J8:Stmt:=top 64
noncomputable abbrev O8:Stmt:=top 65
noncomputable abbrev U4:Stmt:=top 66
noncomputable abbrev P3:Stmt:=top 67
noncomputable abbrev F6:Stmt:=top 68
noncomputable abbrev S8:Stmt:=top 69
noncomputable abbrev Ac7:Stmt:=AD3 (top 79) 0
noncomputable abbrev p4:Stmt:=top 80
noncomputable abbrev l9:Stmt:=AD3 (top 81) 0
noncomputable abbrev BJ1:Stmt:=top 82
noncomputable abbrev AS5:Stmt:=top 83
noncomputable abbrev P8:Stmt:=top 84
noncomputable abbrev i7:Stmt:=top 85
noncomputable abbrev l8:Stmt:=top 86
noncomputable abbrev k6:Stmt:=top 87
noncomputable abbrev Ar0:Stmt:=top 88
noncomputable abbrev Av7:Stmt:=top 89
noncomputable abbrev X6:Stmt:=top 90
noncomputable abbrev BA9:Stmt:=top 93
end Tk
namespace Tk
open PySem PySem.Spec PyProof.Rows L2
open My (U9 AZ1 AX6 wordB L6 P6 AJ3 c5 i5 Byt endOf notLF G0 y6 Z4 T Aa9)
structure Fn (K:PySem.W.Frag)(mg:Str->Option Value)(x:Str)(st:Stmt)(ps:List Str)(f:Addr)(fd:FuncData):Prop where
 F:Fun K x x st f fd
 g:mg x=some (.ref f)
 b:Binds K fd ps []
noncomputable def FN (K:PySem.W.Frag)(mg:Str->Option Value)(x:Str)(st:Stmt)(ps:List Str):Prop:=∃f fd,Fn K mg x st ps f fd
noncomputable def GI (mg:Str->Option Value)(x:Str)(i:Int):Prop:=∃t,mg x=some (.int i t)
section
variable {X:Cx}
theorem E6 {x:Str}{i:Int}{pos:Pos}(h:GI X.mg x i)(hg:Gl X x:=by rfl)(hd:(x==("__debug__":Str))=false:=by decide):PE X (.Name x pos) (tC (.int i)):=by
 obtain⟨t,h⟩:=h
 exact AP9 hg h ⟨t,rfl⟩ hd
theorem BW4 {x y:Str}{t:Tok}{pos:Pos}(h:X.mg x=some (.str y t))(hg:Gl X x:=by rfl)(hd:(x==("__debug__":Str))=false:=by decide):PE X (.Name x pos) (tC (.str y)):=AP9 hg h ⟨t,rfl⟩ hd
theorem Q7 {x:Str}{a:Addr}{pos:Pos}(h:X.mg x=some (.ref a))(hg:Gl X x:=by rfl)(hd:(x==("__debug__":Str))=false:=by decide):PE X (.Name x pos) (tC (.ref a)):=AP9 hg h rfl hd
theorem D5 {k:Nat}{x:Str}{st:Stmt}{ps:List Str}{f:Addr}{fd:FuncData}{sp:Sp}{e:Expr}{es:List Expr}{t:TA}{npos pos:Pos}(N:Fn X.K X.mg x st ps f fd)(G:D3 X.prog X.w X.K X.mg X.base CX0 k f fd ps sp)(hr:Room k X.A)(ha:PA X (e::es) t)
  (hg:Gl X x:=by rfl) (hdb:(x==("__debug__":Str))=false:=by decide) (he:starEach (e::es) X.env=(false,eval e X.env)::starEach es X.env:=by rfl) (hpl:(backTo pos (starEach es X.env)).any (·.1)=false:=by rfl):
  PE X (.Call (.Name x npos) (e::es) [] pos) (Aa2 sp [] E0 t):=BF3 G hr hg N.g N.F.kp N.b .nil AY7 ha hdb he hpl
end
theorem m6 {i:Nat}{σ:L2.St}{H:Hp}{Q:VK}{z lo hi:Int}(hz:σ[i]?=some (some (.int z)))(h:Q (.bl (decide (lo<=z)&&decide (z<=hi))) H):
  Ai9 (rI0 fun i j=>.bl (decide (i<=j))) (rI0 fun i j=>.bl (decide (i<=j))) (tC (.int lo)) (O4 i) (tC (.int hi)) σ H Q:=by
 refine⟨_,hz,_,_,rfl,rfl,_,rfl,?_⟩
 refine G7 (fun c=>⟨_,_,rfl,rfl,?_⟩) (fun c=>?_)
 ·rw[c,Bool.true_and]at h;exact h
 ·rw[Bool.eq_false_iff.mpr c,Bool.false_and]at h;exact h
theorem g0 {K:PySem.W.Frag}{σ:L2.St}{H:Hp}{Q:VK}{i j:Nat}{a:Addr}{ns:List Int}{p:Nat}{z:Int}(hx:σ[i]?=some (some (.ref a)))(hy:σ[j]?=some (some (.int (p:Int))))(hs:SqL K H a (ns.map V.int))(hz:ns[p]?=some z)(h:Q (.int z) H):
  tOp (BI4 K) (O4 i) (O4 j) σ H Q:=⟨_,hx,_,hy,a,_,_,_,rfl,rfl,hs,D6 (by rw[List.getElem?_map,hz];rfl),h⟩
theorem AU2 {K:PySem.W.Frag}{σ:L2.St}{H:Hp}{Q:VK}{i:Nat}{a:Addr}{ns:List Int}{p:Nat}{z:Int}(hx:σ[i]?=some (some (.ref a)))(hs:SqL K H a (ns.map V.int))(hz:ns[p]?=some z)(h:Q (.int z) H):
  tOp (BI4 K) (O4 i) (tC (.int (p:Int))) σ H Q:=⟨_,hx,a,_,_,_,rfl,rfl,hs,D6 (by rw[List.getElem?_map,hz];rfl),h⟩
theorem AU3 {K:PySem.W.Frag}{σ:L2.St}{H:Hp}{Q:VK}{i j:Nat}{a:Addr}{ns:List Int}{p:Nat}{z:Int}(hx:σ[i]?=some (some (.ref a)))(hy:σ[j]?=some (some (.int (p:Int))))(hs:SqL K H a (ns.map V.int))(hz:ns[p+1]?=some z)(h:Q (.int z) H):
  tOp (BI4 K) (O4 i) (tOp (rI0 fun i j=>.int (i+j)) (O4 j) (tC (.int 1))) σ H Q:=
 ⟨_,hx,_,hy,_,_,rfl,rfl,a,_,_,_,rfl,rfl,hs,by
  have e:(p:Int)+1=((p+1:Nat):Int):=by omega
  rw[e]
  exact D6 (by rw[List.getElem?_map,hz];rfl),h⟩
theorem L8 {K:PySem.W.Frag}{σ:L2.St}{H:Hp}{Q:VK}{i:Nat}{a:Addr}{ns:List Int}(hx:σ[i]?=some (some (.ref a)))(hs:SqL K H a (ns.map V.int))(h:Q (.int (ns.length:Nat)) H):
  tCB (fun xs H Q=>∃p ys,xs=[.ref p]/\(SqL K H p ys∨SqT K H p ys)/\Q (.int ys.length) H) (K6 (O4 i) AO5) σ H Q:=
 ⟨_,hx,a,_,rfl,.inl hs,by rw[List.length_map];exact h⟩
theorem Ap9 {c:TT}{t u v:TS}{D:Ends}{σ:L2.St}{H:Hp}(h:c σ H fun b H1=>if b=true then t {D with nx:=v D} σ H1 else u {D with nx:=v D} σ H1):Ab2 (BR1 c t u) v D σ H:=h
theorem BV2 {t u:TT}{σ:L2.St}{H:Hp}{Q:Bool->Hp->Prop}(h:t σ H fun c H1=>if c=true then Q true H1 else u σ H1 Q):tOr t u σ H Q:=h
theorem A32 {t u:TT}{σ:L2.St}{H:Hp}{Q:Bool->Hp->Prop}(h:t σ H fun c H1=>if c=true then u σ H1 Q else Q false H1):BZ6 t u σ H Q:=h
theorem c6 {r:R2}{ta tb:TE}{σ:L2.St}{H:Hp}{Q:Bool->Hp->Prop}(h:ta σ H fun x H1=>tb σ H1 fun y H2=>r x y H2 fun z H3=>∃k,z=.bl k/\Q k H3):AZ5 (tOp r ta tb) σ H Q:=h
noncomputable def X4:Sp:=fun vs H Q _=>∃z:Int,vs=[.int z]/\Q (.bl (U9 z)) H
noncomputable def AB0:Sp:=fun vs H Q _=>∃z:Int,vs=[.int z]/\Q (.bl (Aa9 z)) H
noncomputable def AL0:Sp:=fun vs H Q _=>∃z:Int,vs=[.int z]/\Q (.bl (L6 z)) H
section
variable {P:Program} {w:World} {K:PySem.W.Frag} {mg:Str->Option Value} {base:Heap}
theorem Ap1:B8 ["byte"] ["byte"] (A7 L3):=⟨rfl,rfl,rfl,by decide+kernel,rfl,by decide+kernel,by decide+kernel⟩
theorem Z8 {f:Addr}{fd:FuncData}(F:Fun K "is_digit" "is_digit" L3 f fd):D3 P w K mg base CX0 1 f fd ["byte"] X4:=by
 refine F.ok Ap1 (fun vs H Q E h=>?_) (fun cdv A outer s H vs Q E hr h=>?_)
 ·obtain⟨z,rfl,_⟩:=h
  rfl
 ·obtain⟨z,rfl,h⟩:=h
  refine⟨_,A4 (B7 (AD8 y4 y4 A9 (pv 0) A9)),?_⟩
  exact m6 rfl h
theorem AX9:B8 ["byte"] ["byte"] (A7 P9):=⟨rfl,rfl,rfl,by decide+kernel,rfl,by decide+kernel,by decide+kernel⟩
theorem AR1 {f:Addr}{fd:FuncData}(F:Fun K "is_letter" "is_letter" P9 f fd):D3 P w K mg base CX0 1 f fd ["byte"] AB0:=by
 refine F.ok AX9 (fun vs H Q E h=>?_) (fun cdv A outer s H vs Q E hr h=>?_)
 ·obtain⟨z,rfl,_⟩:=h
  rfl
 ·obtain⟨z,rfl,h⟩:=h
  refine⟨_,A4 (B7 (Al0 (AD8 y4 y4 A9 (pv 0) A9) (Al0 (AD8 y4 y4 A9 (pv 0) A9) (AA1 (P0 J3 (pv 0) A9 (C2 _)))))),?_⟩
  refine m6 rfl ⟨_,rfl,G7 (fun c=>?_) (fun c=>?_)⟩
  ·have e:Aa9 z=true:=by unfold Aa9 AZ1;rw[c];rfl
   rw[e]at h;exact h
  refine m6 rfl ⟨_,rfl,G7 (fun c2=>?_) (fun c2=>?_)⟩
  ·have e:Aa9 z=true:=by unfold Aa9 AX6;rw[c2];simp
   rw[e]at h;exact h
  refine⟨_,rfl,rfl,?_⟩
  have e:Aa9 z=decide (V.int z=V.int 95):=by
   unfold Aa9 AZ1 AX6
   rw[Bool.eq_false_iff.mpr c,Bool.eq_false_iff.mpr c2]
   simp
  rw[e]at h;exact h
theorem Ak0:B8 ["byte"] ["byte"] (A7 X9):=⟨rfl,rfl,rfl,by decide+kernel,rfl,by decide+kernel,by decide+kernel⟩
theorem AX5 {f:Addr}{fd:FuncData}(F:Fun K "is_blank" "is_blank" X9 f fd)(hb:GI mg "BLANK" 32)(hl:GI mg "LINE_END" 10):D3 P w K mg base CX0 1 f fd ["byte"] AL0:=by
 refine F.ok Ak0 (fun vs H Q E h=>?_) (fun cdv A outer s H vs Q E hr h=>?_)
 ·obtain⟨z,rfl,_⟩:=h
  rfl
 ·obtain⟨z,rfl,h⟩:=h
  refine⟨_,A4 (B7 (Al0 (P0 J3 (pv 0) (E6 hb) (C2 _)) (AA1 (P0 J3 (pv 0) (E6 hl) (C2 _))))),?_⟩
  refine⟨_,rfl,rfl,_,rfl,G7 (fun c=>?_) (fun c=>?_)⟩
  ·have e:z=32:=by simpa using c
   have e:L6 z=true:=by unfold L6;rw[e];rfl
   rw[e]at h;exact h
  ·have n:¬z=32:=by intro q;apply c;simpa using q
   refine⟨_,rfl,rfl,?_⟩
   have e:L6 z=decide (V.int z=V.int 10):=by unfold L6;simp[n]
   rw[e]at h;exact h
theorem J6 {α:Type}{l:List α}{i:Nat}{x:α}(h:l[i]?=some x):l.take (i+1)=l.take i++[x]:=by
 rw[List.take_succ,h];rfl
theorem u9 {α:Type}{f:α->V}{l:List α}{i:Nat}{y:V}(h:(l.map f)[i]?=some y):∃x,l[i]?=some x/\y=f x:=by
 rw[List.getElem?_map]at h
 cases e:l[i]? with
 |none=>rw[e]at h;cases h
 |some z=>rw[e]at h;exact⟨z,rfl,(Option.some.inj h).symm⟩
end
end Tk
namespace Tk
open PySem PySem.Spec PyProof.Rows L2
open My (U9 AZ1 AX6 wordB L6 P6 AJ3 c5 i5 Byt endOf notLF G0 y6 Z4 T Aa9)
noncomputable def AF6:Sp:=fun vs H Q _=>∃z:Int,vs=[.int z]/\Q (.bl (wordB z)) H
noncomputable def Y1 (ns:List Int)(p:Nat):Bool:=decide (ns[p]?=some 47)&&decide (ns[p+1]?=some 47)
noncomputable def A21 (K:PySem.W.Frag):Sp:=fun vs H Q _=>∃(a:Addr) (ns:List Int) (p:Nat) (z:Int),vs=[.ref a,.int p]/\SqL K H a (ns.map V.int)/\ns[p]?=some z/\Q (.bl (Y1 ns p)) H
noncomputable def AH9 (K:PySem.W.Frag):Sp:=fun vs H Q _=>∃(a:Addr) (ns:List Int) (p:Nat),vs=[.ref a,.int p]/\SqL K H a (ns.map V.int)/\p<=ns.length/\Q (.int (endOf notLF ns p:Nat)) H
noncomputable def AT4 (K:PySem.W.Frag):Sp:=fun vs H Q _=>∃(a:Addr) (ns:List Int) (p:Nat),vs=[.ref a,.int p]/\SqL K H a (ns.map V.int)/\p<=ns.length/\Q (.int (endOf wordB ns p:Nat)) H
noncomputable def AS3 (K:PySem.W.Frag):Sp:=fun vs H Q _=>∃(a:Addr) (ns:List Int) (p:Nat),vs=[.ref a,.int p]/\SqL K H a (ns.map V.int)/\Byt ns/\p<=ns.length/\
 ∀q:Nat,p<=q->q<=ns.length->T ns q=T ns p->Z4 ns q->Q (.int (q:Nat)) H
noncomputable def m7:Sp:=fun vs H Q _=>∃z:Int,vs=[.int z]/\Q (.int (P6 z)) H
noncomputable def BS1 (K:PySem.W.Frag):Sp:=fun vs H Q _=>∃(a:Addr) (ds:List Int) (base:Int) (most:Nat),vs=[.ref a,.int base,.int (most:Nat)]/\SqL K H a (ds.map V.int)/\(0<=base/\base<=100)/\Q (.bl (AJ3 ds base most)) H
noncomputable def Al9 (K:PySem.W.Frag):Sp:=fun vs H Q _=>∃(a:Addr) (w:List Int),vs=[.ref a]/\SqL K H a (w.map V.int)/\∀H':Hp,Same H H'->Q (.bl (i5 w)) H'
structure Txt (mg:Str->Option Value):Prop where
 len:mg "len"=none
 slash:GI mg "SLASH" 47
 lineEnd:GI mg "LINE_END" 10
 blank:GI mg "BLANK" 32
 zero:GI mg "ZERO" 48
 smallX:GI mg "SMALL_X" 120
 mostD:GI mg "MOST_DIGITS" 19
 mostH:GI mg "MOST_HEX_DIGITS" 16
 largest:GI mg "LARGEST_NUMBER" 9223372036854775807
section
variable {P:Program} {w:World} {K:PySem.W.Frag} {mg:Str->Option Value} {base:Heap}
theorem Av0:B8 ["byte"] ["byte"] (A7 v6):=⟨rfl,rfl,rfl,by decide+kernel,rfl,by decide+kernel,by decide+kernel⟩
theorem At2 (z:Int):wordB z=(Aa9 z||U9 z):=by
 unfold wordB Aa9
 generalize AZ1 z=a
 generalize AX6 z=b
 generalize U9 z=c
 generalize decide (z=95)=d
 cases a<;>cases b<;>cases c<;>cases d<;>rfl
theorem AM5 {f fL fD:Addr}{fd fdL fdD:FuncData}(F:Fun K "is_word_byte" "is_word_byte" v6 f fd)(L:Fn K mg "is_letter" P9 ["byte"] fL fdL)(D:Fn K mg "is_digit" L3 ["byte"] fD fdD):D3 P w K mg base CX0 2 f fd ["byte"] AF6:=by
 have GL:D3 P w K mg base CX0 1 fL fdL ["byte"] AB0:=AR1 L.F
 have GD:D3 P w K mg base CX0 1 fD fdD ["byte"] X4:=Z8 D.F
 refine F.ok Av0 (fun vs H Q E h=>?_) (fun cdv A outer s H vs Q E hr h=>?_)
 ·obtain⟨z,rfl,_⟩:=h
  rfl
 ·obtain⟨z,rfl,h⟩:=h
  rw[At2]at h
  refine⟨_,A4 (B7 (Al0 (D5 L GL hr (A0 (pv 0) A6)) (AA1 (D5 D GD hr (A0 (pv 0) A6))))),?_⟩
  refine⟨_,rfl,z,rfl,_,rfl,G7 (fun c=>?_) (fun c=>?_)⟩
  ·rw[c,Bool.true_or]at h;exact h
  ·rw[Bool.eq_false_iff.mpr c,Bool.false_or]at h
   exact⟨_,rfl,z,rfl,h⟩
theorem BI6:B8 ["t","at"] ["t","at"] (A7 Ac3):=⟨rfl,rfl,rfl,by decide+kernel,rfl,by decide+kernel,by decide+kernel⟩
theorem BC1 {f:Addr}{fd:FuncData}(F:Fun K "begins_note" "begins_note" Ac3 f fd)(T:Txt mg):D3 P w K mg base CX0 1 f fd ["t","at"] (A21 K):=by
 refine F.ok BI6 (fun vs H Q E h=>?_) (fun cdv A outer s H vs Q E hr h=>?_)
 ·obtain⟨a,ns,p,z,rfl,_⟩:=h
  rfl
 ·obtain⟨a,ns,p,z,rfl,hs,hz,h⟩:=h
  refine⟨_,A4 (B7 (AU5 (P0 J3 (F5 C6 (pv 0) (pv 1) (fun _ _=>rfl)) (E6 T.slash) (C2 _))
   (AU5 (P0 AJ5 (M5 T5 (pv 1) A9) (F0 C3 (by rfl) T.len PySem.boot_len (A0 (pv 0) A6)) (C2 _))
    (AA1 (P0 J3 (F5 C6 (pv 0) (M5 T5 (pv 1) A9) (fun _ _=>rfl)) (E6 T.slash) (C2 _)))))),?_⟩
  refine g0 rfl rfl hs hz ⟨rfl,_,rfl,G7 (fun c=>?_) (fun c=>?_)⟩
  ·have e:z=47:=by simpa using c
   subst e
   refine⟨_,rfl,_,_,rfl,rfl,L8 rfl hs ⟨_,_,rfl,rfl,_,rfl,G7 (fun c2=>?_) (fun c2=>?_)⟩⟩
   ·have hlt:p+1<ns.length:=by have:=of_decide_eq_true c2;omega
    have hy:ns[p+1]?=some ns[p+1]:=List.getElem?_eq_getElem hlt
    refine AU3 rfl rfl hs hy ⟨rfl,?_⟩
    have e:Y1 ns p=decide (V.int ns[p+1]=V.int 47):=by
     unfold Y1
     rw[hz,hy]
     simp
    rw[e]at h;exact h
   ·have hge:ns.length<=p+1:=by have:=of_decide_eq_false (Bool.eq_false_iff.mpr c2);omega
    have e:Y1 ns p=false:=by
     unfold Y1
     rw[List.getElem?_eq_none hge]
     simp
    rw[e]at h;exact h
  ·have e:Y1 ns p=false:=by
    unfold Y1
    rw[hz]
    have:¬z=47:=by intro q;apply c;simpa using q
    simp[this]
   rw[e]at h;exact h
theorem AN4:B8 ["t","at"] ["t","at"] (A7 W8):=⟨rfl,rfl,rfl,by decide+kernel,rfl,by decide+kernel,by decide+kernel⟩
theorem AZ3 {f:Addr}{fd:FuncData}(F:Fun K "note_end" "note_end" W8 f fd)(T:Txt mg):D3 P w K mg base CX0 1 f fd ["t","at"] (AH9 K):=by
 refine F.ok AN4 (fun vs H Q E h=>?_) (fun cdv A outer s H vs Q E hr h=>?_)
 ·obtain⟨a,ns,p,rfl,_⟩:=h
  rfl
 ·obtain⟨a,ns,p,rfl,hs,hp,h⟩:=h
  refine⟨_,A2 (M9 PassesOwn.never (PW.pt (e8 (B5 AJ5 (pv 1) (F0 C3 (by rfl) T.len PySem.boot_len (A0 (pv 0) A6)) (C2 _))
    (T7 (B5 BW2 (F5 C6 (pv 0) (pv 1) (fun _ _=>rfl)) (E6 T.lineEnd) (C2 _)))))
   (A4 (AK4 (i:=1) AN4.nd rfl (Or.inl rfl) A9 r9))) (A4 (B7 (pv 1))),?_⟩
  refine⟨fun m σ H'=>∃q:Nat,σ=[some (.ref a),some (.int q)]/\H'=H/\q<=ns.length/\endOf notLF ns q=endOf notLF ns p/\m=ns.length-q,⟨_,p,rfl,rfl,hp,rfl,rfl⟩,?_⟩
  rintro m σ H' ⟨q,rfl,rfl,hq,he,rfl⟩
  refine⟨_,rfl,L8 rfl hs ⟨_,_,rfl,rfl,_,rfl,G7 (fun c=>?_) (fun c=>?_)⟩⟩
  ·have hlt:q<ns.length:=by have:=of_decide_eq_true c;omega
   have hy:ns[q]?=some ns[q]:=List.getElem?_eq_getElem hlt
   refine g0 rfl rfl hs hy ⟨rfl,_,rfl,G7 (fun c2=>?_) (fun c2=>?_)⟩
   ·have hne:notLF ns[q]=true:=by unfold notLF;simpa using c2
    refine⟨_,fun _ _ x=>x,_,rfl,_,_,rfl,rfl,?_⟩
    refine⟨ns.length-(q+1),by omega,q+1,?_,rfl,hlt,by rw[←he,My.endOf_step hy hne],rfl⟩
    show [some (V.ref a),some (V.int ((q:Int)+1))]=_
    rfl
   ·have hne:notLF ns[q]=false:=by unfold notLF;simpa using c2
    refine⟨_,rfl,?_⟩
    rw[←he,My.endOf_stop hy hne]at h
    exact h
  ·have hge:ns.length<=q:=by have:=of_decide_eq_false (Bool.eq_false_iff.mpr c);omega
   refine⟨_,rfl,?_⟩
   rw[←he,My.endOf_end hge]at h
   exact h
end
end Tk
namespace Tk
open PySem PySem.Spec PyProof.Rows L2
open My (U9 AZ1 AX6 wordB L6 P6 AJ3 c5 i5 Byt endOf notLF G0 y6 Z4 T Aa9)
section
variable {P:Program} {w:World} {K:PySem.W.Frag} {mg:Str->Option Value} {base:Heap}
theorem AE9:B8 ["t","at"] ["t","at"] (A7 AD7):=⟨rfl,rfl,rfl,by decide+kernel,rfl,by decide+kernel,by decide+kernel⟩
theorem Ab8 {f fN fE fK:Addr}{fd fdN fdE fdK:FuncData}(F:Fun K "behind_blanks" "behind_blanks" AD7 f fd)(X:Txt mg)(B:Fn K mg "is_blank" X9 ["byte"] fK fdK)(N:Fn K mg "begins_note" Ac3 ["t","at"] fN fdN)(E:Fn K mg "note_end" W8 ["t","at"] fE fdE):
  D3 P w K mg base CX0 2 f fd ["t","at"] (AS3 K):=by
 have GB:D3 P w K mg base CX0 1 fK fdK ["byte"] AL0:=AX5 B.F X.blank X.lineEnd
 have GN:D3 P w K mg base CX0 1 fN fdN ["t","at"] (A21 K):=BC1 N.F X
 have GE:D3 P w K mg base CX0 1 fE fdE ["t","at"] (AH9 K):=AZ3 E.F X
 refine F.ok AE9 (fun vs H Q E h=>?_) (fun cdv A outer s H vs Q E' hr h=>?_)
 ·obtain⟨a,ns,p,rfl,_⟩:=h
  rfl
 ·obtain⟨a,ns,p,rfl,hs,hB,hp,h⟩:=h
  refine⟨_,A2 (M9 PassesOwn.never (B5 AJ5 (pv 1) (F0 C3 (by rfl) X.len PySem.boot_len (A0 (pv 0) A6)) (C2 _))
   (A4 (E2 (S9 (D5 B GB hr (A0 (F5 C6 (pv 0) (pv 1) (fun _ _=>rfl)) A6)))
    (A4 (AK4 (i:=1) AE9.nd rfl (Or.inl rfl) A9 r9))
    (A4 (E2 (S9 (D5 N GN hr (A0 (pv 0) (A0 (pv 1) A6))))
     (A4 (C8 (i:=1) AE9.nd rfl (Or.inl rfl) (D5 E GE hr (A0 (pv 0) (A0 (pv 1) A6)))))
     (A4 (B7 (pv 1)))))))) (A4 (B7 (pv 1))),?_⟩
  refine⟨fun m σ H'=>∃q:Nat,σ=[some (.ref a),some (.int q)]/\H=H'/\p<=q/\q<=ns.length/\T ns q=T ns p/\m=ns.length-q,⟨_,p,rfl,rfl,Nat.le_refl _,hp,rfl,rfl⟩,?_⟩
  rintro m σ H' ⟨q,rfl,rfl,hpq,hq,he,rfl⟩
  refine⟨_,rfl,L8 rfl hs ⟨_,_,rfl,rfl,_,rfl,G7 (fun c=>?_) (fun c=>?_)⟩⟩
  ·have hlt:q<ns.length:=by have:=of_decide_eq_true c;omega
   have hy:ns[q]?=some ns[q]:=List.getElem?_eq_getElem hlt
   refine⟨fun σ' H'=>∃m',m'<ns.length-q/\∃q:Nat,σ'=[some (.ref a),some (.int q)]/\H=H'/\p<=q/\q<=ns.length/\T ns q=T ns p/\m'=ns.length-q,fun _ _ x=>x,?_⟩
   have step:L6 ns[q]=true->∃m',m'<ns.length-q/\∃q':Nat,[some (V.ref a),some (V.int ((q:Int)+1))]=[some (V.ref a),some (V.int q')]/\H=H/\p<=q'/\q'<=ns.length/\T ns q'=T ns p/\m'=ns.length-q':=fun hb=>
    ⟨ns.length-(q+1),by omega,q+1,rfl,rfl,by omega,hlt,by rw[←he];exact(My.T_blank hB hy hb).symm,rfl⟩
   refine g0 rfl rfl hs hy ⟨_,rfl,_,rfl,G7 (fun c2=>?_) (fun c2=>?_)⟩
   ·exact⟨_,rfl,_,_,rfl,rfl,step c2⟩
   ·have nb:L6 ns[q]=false:=Bool.eq_false_iff.mpr c2
    refine⟨_,rfl,_,rfl,a,ns,q,_,rfl,hs,hy,_,rfl,G7 (fun c4=>?_) (fun c4=>?_)⟩
    ·have hn:y6 ns q:=by
      unfold Y1 at c4
      simp only[Bool.and_eq_true,decide_eq_true_eq]at c4
      exact c4
     refine⟨_,rfl,_,rfl,a,ns,q,rfl,hs,hq,?_⟩
     have e47:ns[q]=47:=by have:=hn.1;rw[hy]at this;exact Option.some.inj this
     have hle:=My.endOf_le (P:=notLF) (ns:=ns) (p:=q+1) hlt
     have hst:=My.endOf_step (P:=notLF) hy (by unfold notLF;rw[e47];rfl)
     have hge:=My.endOf_ge (P:=notLF) (ns:=ns) (p:=q+1)
     exact⟨ns.length-endOf notLF ns q,by omega,endOf notLF ns q,rfl,rfl,by omega,by omega,by rw[←he];exact(My.T_note hB hn).symm,rfl⟩
    ·refine⟨_,rfl,?_⟩
     refine h q hpq hq he fun z hz=>?_
     rw[hy]at hz
     cases hz
     refine⟨nb,fun hn=>c4 ?_⟩
     unfold Y1
     rw[decide_eq_true hn.1,decide_eq_true hn.2]
     rfl
  ·have hge:ns.length<=q:=by have:=of_decide_eq_false (Bool.eq_false_iff.mpr c);omega
   refine⟨_,rfl,?_⟩
   refine h q hpq hq he fun z hz=>?_
   rw[List.getElem?_eq_none hge]at hz
   cases hz
theorem AU1:B8 ["t","at"] ["t","at"] (A7 AE2):=⟨rfl,rfl,rfl,by decide+kernel,rfl,by decide+kernel,by decide+kernel⟩
theorem Al3 {f fW fL fD:Addr}{fd fdW fdL fdD:FuncData}(F:Fun K "run_end" "run_end" AE2 f fd)(X:Txt mg)(W:Fn K mg "is_word_byte" v6 ["byte"] fW fdW)(L:Fn K mg "is_letter" P9 ["byte"] fL fdL)(D:Fn K mg "is_digit" L3 ["byte"] fD fdD):
  D3 P w K mg base CX0 3 f fd ["t","at"] (AT4 K):=by
 have GW:D3 P w K mg base CX0 2 fW fdW ["byte"] AF6:=AM5 W.F L D
 refine F.ok AU1 (fun vs H Q E h=>?_) (fun cdv A outer s H vs Q E hr h=>?_)
 ·obtain⟨a,ns,p,rfl,_⟩:=h
  rfl
 ·obtain⟨a,ns,p,rfl,hs,hp,h⟩:=h
  refine⟨_,A2 (M9 PassesOwn.never (PW.pt (e8 (B5 AJ5 (pv 1) (F0 C3 (by rfl) X.len PySem.boot_len (A0 (pv 0) A6)) (C2 _))
    (T7 (S9 (D5 W GW hr (A0 (F5 C6 (pv 0) (pv 1) (fun _ _=>rfl)) A6))))))
   (A4 (AK4 (i:=1) AU1.nd rfl (Or.inl rfl) A9 r9))) (A4 (B7 (pv 1))),?_⟩
  refine⟨fun m σ H'=>∃q:Nat,σ=[some (.ref a),some (.int q)]/\H'=H/\q<=ns.length/\endOf wordB ns q=endOf wordB ns p/\m=ns.length-q,⟨_,p,rfl,rfl,hp,rfl,rfl⟩,?_⟩
  rintro m σ H' ⟨q,rfl,rfl,hq,he,rfl⟩
  refine⟨_,rfl,L8 rfl hs ⟨_,_,rfl,rfl,_,rfl,G7 (fun c=>?_) (fun c=>?_)⟩⟩
  ·have hlt:q<ns.length:=by have:=of_decide_eq_true c;omega
   have hy:ns[q]?=some ns[q]:=List.getElem?_eq_getElem hlt
   refine g0 rfl rfl hs hy ⟨_,rfl,_,rfl,G7 (fun c2=>?_) (fun c2=>?_)⟩
   ·refine⟨_,fun _ _ x=>x,_,rfl,_,_,rfl,rfl,?_⟩
    exact⟨ns.length-(q+1),by omega,q+1,rfl,rfl,hlt,by rw[←he,My.endOf_step hy c2],rfl⟩
   ·refine⟨_,rfl,?_⟩
    rw[←he,My.endOf_stop hy (Bool.eq_false_iff.mpr c2)]at h
    exact h
  ·have hge:ns.length<=q:=by have:=of_decide_eq_false (Bool.eq_false_iff.mpr c);omega
   refine⟨_,rfl,?_⟩
   rw[←he,My.endOf_end hge]at h
   exact h
theorem Aq8:B8 ["byte"] ["byte"] (A7 W5):=⟨rfl,rfl,rfl,by decide+kernel,rfl,by decide+kernel,by decide+kernel⟩
theorem AK5 {f fD:Addr}{fd fdD:FuncData}(F:Fun K "digit_value" "digit_value" W5 f fd)(D:Fn K mg "is_digit" L3 ["byte"] fD fdD):D3 P w K mg base CX0 2 f fd ["byte"] m7:=by
 have GD:D3 P w K mg base CX0 1 fD fdD ["byte"] X4:=Z8 D.F
 refine F.ok Aq8 (fun vs H Q E h=>?_) (fun cdv A outer s H vs Q E hr h=>?_)
 ·obtain⟨z,rfl,_⟩:=h
  rfl
 ·obtain⟨z,rfl,h⟩:=h
  refine⟨_,A2 (E2 (S9 (D5 D GD hr (A0 (pv 0) A6))) (A4 (B7 (M5 W9 (pv 0) A9))) C4)
   (A2 (E2 (AV3 y4 y4 A9 (pv 0) A9) (A4 (B7 (M5 W9 (pv 0) A9))) C4) (A4 (B7 A9))),?_⟩
  refine⟨_,rfl,z,rfl,_,rfl,G7 (fun c=>?_) (fun c=>?_)⟩
  ·refine⟨_,rfl,_,_,rfl,rfl,?_⟩
   have e:P6 z=z-48:=by unfold P6;rw[if_pos c]
   rw[e]at h;exact h
  ·refine m6 rfl ⟨_,rfl,G7 (fun c2=>?_) (fun c2=>?_)⟩
   ·refine⟨_,rfl,_,_,rfl,rfl,?_⟩
    rw[Bool.and_eq_true,decide_eq_true_eq,decide_eq_true_eq]at c2
    have e:P6 z=z-55:=by unfold P6;rw[if_neg c,if_pos c2]
    rw[e]at h;exact h
   ·rw[Bool.and_eq_true,decide_eq_true_eq,decide_eq_true_eq]at c2
    have e:P6 z=16:=by unfold P6;rw[if_neg c,if_neg c2]
    rw[e]at h;exact h
theorem AH1:B8 ["digits","base","number","digit"] ["digits","base"] (A7 AB3):=⟨rfl,rfl,rfl,by decide+kernel,rfl,by decide+kernel,by decide+kernel⟩
noncomputable def AP7 (K:PySem.W.Frag):Sp:=fun vs H Q _=>∃(a:Addr) (ds:List Int) (base:Int),vs=[.ref a,.int base]/\SqL K H a (ds.map V.int)/\(0<=base/\base<=100)/\Q (.int (c5 base ds 0)) H
theorem At1 {f fV fD:Addr}{fd fdV fdD:FuncData}(F:Fun K "value_of_digits" "value_of_digits" AB3 f fd)(DV:Fn K mg "digit_value" W5 ["byte"] fV fdV)(D:Fn K mg "is_digit" L3 ["byte"] fD fdD):
  D3 P w K mg base CX0 3 f fd ["digits","base"] (AP7 K):=by
 have GV:D3 P w K mg base CX0 2 fV fdV ["byte"] m7:=AK5 DV.F D
 refine F.ok AH1 (fun vs H Q E h=>?_) (fun cdv A outer s H vs Q E hr h=>?_)
 ·obtain⟨a,ds,b,rfl,_⟩:=h
  rfl
 ·obtain⟨a,ds,b,rfl,hs,hb,h⟩:=h
  refine⟨_,A2 (C8 (i:=2) AH1.nd rfl (Or.inl rfl) A9)
   (A2 (Y0 PassesOwn.never rfl (T3 (pv 0)) (K9 (i:=3) AH1.nd rfl (Or.inl rfl))
    (A4 (C8 (i:=2) AH1.nd rfl (Or.inl rfl) (M5 T5 (M5 BN3 (pv 2) (pv 1)) (D5 DV GV hr (A0 (pv 3) A6))))))
   (A4 (B7 (pv 2)))),?_⟩
  refine⟨_,rfl,a,rfl,⟨_,hs⟩,U2 (K:=K) (a:=a) (xs:=ds.map V.int) (fun i σ H'=>H'=H/\∃v:Option V,σ=[some (.ref a),some (.int b),some (.int (c5 b (ds.take i) 0)),v])
   ⟨rfl,none,rfl⟩ (fun i σ H' _ ⟨e,_⟩=>by rw[e];exact hs) ?_ ?_⟩
  ·rintro i y σ H' hi ⟨rfl,v,rfl⟩
   obtain⟨z,hz,rfl⟩:=u9 hi
   refine⟨_,rfl,_,rfl,_,_,rfl,rfl,.inr ⟨by omega,by omega⟩,_,rfl,z,rfl,_,_,rfl,rfl,rfl,some (V.int z),?_⟩
   show [some (V.ref a),some (V.int b),some (V.int (c5 b (ds.take i) 0*b+P6 z)),some (V.int z)]=_
   rw[J6 hz]
   unfold c5
   rw[List.foldl_append]
   rfl
  ·rintro σ H' ⟨rfl,v,rfl⟩
   rw[List.length_map,List.take_length]
   exact⟨_,rfl,h⟩
theorem BM8:B8 ["digits","base","most","digit"] ["digits","base","most"] (A7 BS0):=⟨rfl,rfl,rfl,by decide+kernel,rfl,by decide+kernel,by decide+kernel⟩
theorem BN4 {f fU fV fD:Addr}{fd fdU fdV fdD:FuncData}(F:Fun K "are_digits" "are_digits" BS0 f fd)(X:Txt mg)(U:Fn K mg "value_of_digits" AB3 ["digits","base"] fU fdU)(DV:Fn K mg "digit_value" W5 ["byte"] fV fdV)(D:Fn K mg "is_digit" L3 ["byte"] fD fdD):
  D3 P w K mg base CX0 4 f fd ["digits","base","most"] (BS1 K):=by
 have GV:D3 P w K mg base CX0 2 fV fdV ["byte"] m7:=AK5 DV.F D
 have GU:D3 P w K mg base CX0 3 fU fdU ["digits","base"] (AP7 K):=At1 U.F DV D
 refine F.ok BM8 (fun vs H Q E h=>?_) (fun cdv A outer s H vs Q E hr h=>?_)
 ·obtain⟨a,ds,b,m,rfl,_⟩:=h
  rfl
 ·obtain⟨a,ds,b,m,rfl,hs,hb,h⟩:=h
  have hr2:Room 2 _:=hr.mono (by decide)
  refine⟨_,A2 (E2 (PW.pt (BK4 (B5 J3 (F0 C3 (by rfl) X.len PySem.boot_len (A0 (pv 0) A6)) A9 (C2 _))
    (A30 (B5 AG6 (F0 C3 (by rfl) X.len PySem.boot_len (A0 (pv 0) A6)) (pv 2) (C2 _))))) (A4 (B7 Ad5)) C4)
   (A2 (E2 (PW.pt (e8 (B5 J3 (F5 C6 (pv 0) A9 (fun _ _=>rfl)) (E6 X.zero) (C2 _))
    (T7 (B5 AG6 (F0 C3 (by rfl) X.len PySem.boot_len (A0 (pv 0) A6)) A9 (C2 _))))) (A4 (B7 Ad5)) C4)
   (A2 (Y0 PassesOwn.never rfl (T3 (pv 0)) (K9 (i:=3) BM8.nd rfl (Or.inl rfl))
    (A4 (E2 (B5 BM3 (D5 DV GV hr2 (A0 (pv 3) A6)) (pv 1) (C2 _)) (A4 (B7 Ad5)) C4)))
   (A4 (B7 (P0 y4 (D5 U GU hr (A0 (pv 0) (A0 (pv 1) A6))) (E6 X.largest) (C2 _)))))),?_⟩
  have no:AJ3 ds b m=false->Q (.bl false) H:=fun e=>by rw[e]at h;exact h
  refine Ap9 (BV2 (c6 (L8 rfl hs ⟨rfl,_,rfl,G7 (fun c=>?_) (fun c=>?_)⟩)))
  ·have e:ds.length=0:=by simpa using c
   exact no (My.areD_false (.inl (.inl e)))
  have n0:¬ds.length=0:=by intro e;apply c;simp[e]
  refine c6 (L8 rfl hs ⟨_,rfl,_,_,rfl,rfl,_,rfl,G7 (fun c2=>?_) (fun c2=>?_)⟩)
  ·have e:m<ds.length:=by have:=of_decide_eq_true c2;omega
   exact no (My.areD_false (.inl (.inr e)))
  have n1:¬m<ds.length:=by intro e;apply c2;exact decide_eq_true (by omega)
  have hy:ds[0]?=some ds[0]:=List.getElem?_eq_getElem (by omega)
  have hh:ds.head?=some ds[0]:=by rw[List.head?_eq_getElem?];exact hy
  have main:¬(ds.head?=some 48/\1<ds.length)->Ab2 (BS3 (BO5 K (O4 0)) (AO1 3) (BR1 (AZ5 (tOp (rI0 fun i j=>V.bl (decide (j<=i))) (Aa2 m7 [] E0 (K6 (O4 3) AO5)) (O4 1))) (BF4 (tC (V.bl false))) Aq4)) (BF4 (tOp (rI0 fun i j=>V.bl (decide (i<=j))) (Aa2 (AP7 K) [] E0 (K6 (O4 0) (K6 (O4 1) AO5))) (tC (V.int 9223372036854775807)))) {nx:=fun _ H'=>Q .non H',rt:=Q} [some (.ref a),some (.int b),some (.int m),none] H:=by
   intro n2
   refine⟨_,rfl,a,rfl,⟨_,hs⟩,U2 (K:=K) (a:=a) (xs:=ds.map V.int) (fun i σ H'=>H'=H/\∃v:Option V,σ=[some (.ref a),some (.int b),some (.int m),v]/\((ds.take i).all fun z=>decide (P6 z<b))=true)
    ⟨rfl,none,rfl,rfl⟩ (fun i σ H' _ ⟨e,_⟩=>by rw[e];exact hs) ?_ ?_⟩
   ·rintro i y σ H' hi ⟨rfl,v,rfl,hall⟩
    obtain⟨z,hz,rfl⟩:=u9 hi
    refine⟨_,rfl,z,rfl,_,rfl,_,_,rfl,rfl,_,rfl,G7 (fun c3=>?_) (fun c3=>?_)⟩
    ·refine no (My.areD_false (.inr (.inr (.inl ?_))))
     have:b<=P6 z:=of_decide_eq_true c3
     rw[Bool.eq_false_iff]
     intro q
     have q2:=List.all_eq_true.mp q z (List.mem_of_getElem? hz)
     have:=of_decide_eq_true q2
     omega
    ·have lt:P6 z<b:=by have:=of_decide_eq_false (Bool.eq_false_iff.mpr c3);omega
     refine⟨rfl,some (V.int z),rfl,?_⟩
     rw[J6 hz,List.all_append,hall]
     simp[lt]
   ·rintro σ H' ⟨rfl,v,rfl,hall⟩
    rw[List.length_map,List.take_length]at hall
    refine⟨_,rfl,_,rfl,a,ds,b,rfl,hs,hb,_,_,rfl,rfl,?_⟩
    rw[My.areD_val (by omega) n2 hall]at h
    exact h
  refine Ap9 (A32 (c6 (AU2 (p:=0) rfl hs hy ⟨rfl,_,rfl,G7 (fun c3=>?_) (fun c3=>?_)⟩)))
  ·have e48:ds[0]=48:=by simpa using c3
   refine c6 (L8 rfl hs ⟨_,_,rfl,rfl,_,rfl,G7 (fun c4=>?_) (fun c4=>?_)⟩)
   ·have e1:1<ds.length:=by have:=of_decide_eq_true c4;omega
    exact no (My.areD_false (.inr (.inl ⟨by rw[hh,e48],e1⟩)))
   ·have e1:¬1<ds.length:=by have:=of_decide_eq_false (Bool.eq_false_iff.mpr c4);omega
    exact main fun q=>e1 q.2
  ·have n48:¬ds[0]=48:=by intro z;apply c3;simpa using z
   exact main fun q=>n48 (by rw[hh]at q;exact Option.some.inj q.1)
noncomputable def BC7 (w:List Int):Prop:=1<w.length/\w[0]?=some 48/\w[1]?=some 120
noncomputable instance (w:List Int):Decidable (BC7 w):=by unfold BC7;infer_instance
noncomputable def Ao1 (K:PySem.W.Frag):Sp:=fun vs H Q _=>∃(a:Addr) (w:List Int),vs=[.ref a]/\SqL K H a (w.map V.int)/\Q (.bl (decide (BC7 w))) H
theorem Am8 {r:R2}{ta tb tc:TE}{D:Ends}{σ:L2.St}{H:Hp}(h:ta σ H fun x H1=>tb σ H1 fun y H2=>r x y H2 fun z H3=>∃k,z=.bl k/\if k=true then tc σ H3 D.rt else D.rt (.bl false) H3):BF4 (BN2 (tOp r ta tb) tc) D σ H:=h
theorem A46:B8 ["run"] ["run"] (A7 AI8):=⟨rfl,rfl,rfl,by decide+kernel,rfl,by decide+kernel,by decide+kernel⟩
theorem Ay1 {f:Addr}{fd:FuncData}(F:Fun K "is_hexadecimal" "is_hexadecimal" AI8 f fd)(X:Txt mg):D3 P w K mg base CX0 1 f fd ["run"] (Ao1 K):=by
 refine F.ok A46 (fun vs H Q E h=>?_) (fun cdv A outer s H vs Q E hr h=>?_)
 ·obtain⟨a,ns,rfl,_⟩:=h
  rfl
 ·obtain⟨a,ns,rfl,hs,h⟩:=h
  refine⟨_,A4 (B7 (AU5 (P0 AG6 (F0 C3 (by rfl) X.len PySem.boot_len (A0 (pv 0) A6)) A9 (C2 _))
    (AU5 (P0 J3 (F5 C6 (pv 0) A9 (fun _ _=>rfl)) (E6 X.zero) (C2 _)) (AA1 (P0 J3 (F5 C6 (pv 0) A9 (fun _ _=>rfl)) (E6 X.smallX) (C2 _)))))),?_⟩
  have no:¬BC7 ns->Q (.bl false) H:=fun n=>by rw[decide_eq_false n]at h;exact h
  refine Am8 (L8 rfl hs ⟨_,_,rfl,rfl,_,rfl,G7 (fun c=>?_) (fun c=>?_)⟩)
  rotate_left
  ·exact no fun q=>by have:=of_decide_eq_false (Bool.eq_false_iff.mpr c);have:=q.1;omega
  have l1:1<ns.length:=by have:=of_decide_eq_true c;omega
  have h0:ns[0]?=some ns[0]:=List.getElem?_eq_getElem (by omega)
  have h1:ns[1]?=some ns[1]:=List.getElem?_eq_getElem l1
  refine AU2 (p:=0) rfl hs h0 ⟨rfl,_,rfl,G7 (fun c2=>?_) (fun c2=>?_)⟩
  rotate_left
  ·have n48:¬ns[0]=48:=by intro z;apply c2;simpa using z
   exact no fun q=>n48 (by have:=q.2.1;rw[h0]at this;exact Option.some.inj this)
  have e48:ns[0]=48:=by simpa using c2
  refine AU2 (p:=1) rfl hs h1 ⟨rfl,?_⟩
  have e:decide (BC7 ns)=decide (V.int ns[1]=V.int 120):=decide_eq_decide.mpr ⟨fun q=>by have:=q.2.2;rw[h1]at this;rw[Option.some.inj this],fun q=>⟨l1,by rw[h0,e48],by rw[h1];injection q with q;rw[q]⟩⟩
  rw[e]at h
  exact h
theorem A52:B8 ["run"] ["run"] (A7 AR8):=⟨rfl,rfl,rfl,by decide+kernel,rfl,by decide+kernel,by decide+kernel⟩
theorem AV9 (ns:List Int)(i:Nat)(e:Option Nat):AW6 (ns.map V.int) (some (i:Int)) (e.map fun j=>((j:Nat):Int))=((ns.drop i).take (e.getD ns.length-i)).map V.int:=by
 unfold AW6
 rw[List.length_map,HT.sIx_nat]
 cases e with
 |none=>
  show((ns.map V.int).drop (min i ns.length)).take (HT.sIx ns.length ns.length none-min i ns.length)=_
  rw[HT.sIx_none,←List.map_drop,←List.map_take]
  congr 1
  by_cases h:i<=ns.length
  ·rw[Nat.min_eq_left h];rfl
  ·rw[Nat.min_eq_right (show ns.length<=i by omega),List.drop_eq_nil_of_le (Nat.le_refl _),List.drop_eq_nil_of_le (show ns.length<=i by omega)]
   simp
 |some j=>
  show((ns.map V.int).drop (min i ns.length)).take (HT.sIx ns.length ns.length (some ((j:Nat):Int))-min i ns.length)=_
  rw[HT.sIx_nat,←List.map_drop,←List.map_take]
  congr 1
  by_cases h:i<=ns.length
  ·rw[Nat.min_eq_left h]
   show List.take (min j ns.length-i) (List.drop i ns)=List.take (j-i) (List.drop i ns)
   by_cases hj:j<=ns.length
   ·rw[Nat.min_eq_left hj]
   ·rw[Nat.min_eq_right (by omega),List.take_of_length_le (by rw[List.length_drop];omega),List.take_of_length_le (by rw[List.length_drop];omega)]
  ·rw[Nat.min_eq_right (show ns.length<=i by omega),List.drop_eq_nil_of_le (Nat.le_refl _),List.drop_eq_nil_of_le (show ns.length<=i by omega)]
   simp
theorem B9 {H:Hp}{p:Addr}{o:HO}(h:H p=none):Same H (upd H p o):=fun b u e=>by
 rw[A5 (B0 e h)]
 exact e
theorem Aq7 {f fX fA fU fV fD:Addr}{fd fdX fdA fdU fdV fdD:FuncData}(F:Fun K "is_number" "is_number" AR8 f fd)(X:Txt mg)(Hx:Fn K mg "is_hexadecimal" AI8 ["run"] fX fdX)(R:Fn K mg "are_digits" BS0 ["digits","base","most"] fA fdA)(U:Fn K mg "value_of_digits" AB3 ["digits","base"] fU fdU)(DV:Fn K mg "digit_value" W5 ["byte"] fV fdV)(D:Fn K mg "is_digit" L3 ["byte"] fD fdD):
  D3 P w K mg base CX0 5 f fd ["run"] (Al9 K):=by
 have GX:D3 P w K mg base CX0 1 fX fdX ["run"] (Ao1 K):=Ay1 Hx.F X
 have GR:D3 P w K mg base CX0 4 fA fdA ["digits","base","most"] (BS1 K):=BN4 R.F X U DV D
 refine F.ok A52 (fun vs H Q E h=>?_) (fun cdv A outer s H vs Q E hr h=>?_)
 ·obtain⟨a,ns,rfl,_⟩:=h
  rfl
 ·obtain⟨a,ns,rfl,hs,h⟩:=h
  have hr1:Room 1 _:=hr.mono (by decide)
  refine⟨_,A2 (E2 (S9 (D5 Hx GX hr1 (A0 (pv 0) A6)))
   (A4 (B7 (D5 R GR hr (A0 (m5 AE8 (pv 0) (t6 A9) AP0) (A0 A9 (A0 (E6 X.mostH) A6)))))) C4)
   (A4 (B7 (D5 R GR hr (A0 (pv 0) (A0 A9 (A0 (E6 X.mostD) A6)))))),?_⟩
  refine⟨_,rfl,a,ns,rfl,hs,_,rfl,G7 (fun c=>?_) (fun c=>?_)⟩
  ·have hx:BC7 ns:=of_decide_eq_true c
   refine⟨_,rfl,_,rfl,a,_,rfl,hs,fun p hp=>?_⟩
   have ec:AW6 (ns.map V.int) (some 2) none=(ns.drop 2).map V.int:=by
    have:=AV9 ns 2 none
    rw[Option.getD_none,List.take_of_length_le (by rw[List.length_drop];omega)]at this
    exact this
   refine⟨p,ns.drop 2,16,16,rfl,SqL.of (by rw[A1,ec]),by decide,?_⟩
   have:=h _ (B9 (o:=.lst (AW6 (ns.map V.int) (some 2) none)) hp)
   unfold i5 at this
   have hx':1<ns.length/\ns[0]?=some 48/\ns[1]?=some 120:=hx
   rw[if_pos hx']at this
   exact this
  ·have hx:¬BC7 ns:=of_decide_eq_false (Bool.eq_false_iff.mpr c)
   refine⟨_,rfl,a,ns,10,19,rfl,hs,by decide,?_⟩
   have:=h H (Same.refl H)
   unfold i5 at this
   have hx':¬(1<ns.length/\ns[0]?=some 48/\ns[1]?=some 120):=hx
   rw[if_neg hx']at this
   exact this
end
end Tk
namespace Tk
open PySem PySem.Spec PyProof.Rows L2
open My (U9 AZ1 AX6 wordB L6 P6 AJ3 c5 i5 Byt endOf notLF G0 y6 Z4 T qOf W0)
noncomputable def tf (f l wh wi:Int):List (Str×V):=C1 "which" (.int wi) (C1 "what" (.int wh) (C1 "length" (.int l) (C1 "first" (.int f) [])))
theorem AU0 (f l wh wi:Int):(tf f l wh wi).lookup ("first":Str)=some (.int f):=by
 unfold tf
 rw[C9,if_neg (by decide),C9,if_neg (by decide),C9,if_neg (by decide),C9,if_pos rfl]
theorem p8 (f l wh wi:Int):(tf f l wh wi).lookup ("length":Str)=some (.int l):=by
 unfold tf
 rw[C9,if_neg (by decide),C9,if_neg (by decide),C9,if_pos rfl]
theorem a8 (f l wh wi:Int):(tf f l wh wi).lookup ("what":Str)=some (.int wh):=by
 unfold tf
 rw[C9,if_neg (by decide),C9,if_pos rfl]
theorem AT7 (f l wh wi:Int):(tf f l wh wi).lookup ("which":Str)=some (.int wi):=by
 unfold tf
 rw[C9,if_pos rfl]
noncomputable def TokAt (C:Addr)(H:Hp)(a:Addr)(f l wh wi:Int):Prop:=∃dx,H a=some (.ins C dx (tf f l wh wi))
theorem TokAt.same {C:Addr}{H H':Hp}{a:Addr}{f l wh wi:Int}(h:TokAt C H a f l wh wi)(s:Same H H'):TokAt C H' a f l wh wi:=let ⟨dx,e⟩:=h;⟨dx,s _ _ e⟩
noncomputable def Ae6 (C:Addr):Sp:=fun vs H Q _=>∃(p dx:Addr) (f l wh wi:Int),vs=[.ref p,.int f,.int l,.int wh,.int wi]/\H p=some (.ins C dx [])/\∀H':Hp,TokAt C H' p f l wh wi->(∀b o,H b=some o->b≠p->H' b=some o)->Q .non H'
noncomputable def X7 (w:List Int):Str:=⟨(w.map Int.toNat).toArray⟩
noncomputable def Y9:List Str:=W0.map X7
noncomputable def Ag6:Str:="0123456789:;<=>?@ABCDEFGHIJKLMNOPQRSTUVWXYZ[\\]^_`abcdefghijklmnopqrstuvwxyz"
noncomputable def AI9:List (List Key×V):=[([45,62],0),([60,60],1),([62,62],2),([60,61],3),([62,61],4),([61,61],5),([33,61],6),([38,38],7),([124,124],8)].map fun(p:List Int×Int)=>(p.1.map Sum.inl,V.int p.2)
noncomputable def w6:List (Key×V):=[(43,9),(45,10),(42,11),(47,12),(37,13),(38,14),(124,15),(94,16),(126,17),(33,18),(60,19),(62,20),(61,21),(63,22),(58,23),(59,24),(44,25),(64,26),(40,27),(41,28),(91,29),(93,30),(123,31),(125,32)].map fun(p:Int×Int)=>(Sum.inl p.1,V.int p.2)
theorem AO8 {κ:Type}[DecidableEq κ]{α:Type}(f:α->κ)(k:κ):∀(l:List α) (n:Nat),O9 ((l.zipIdx n).map fun p=>(f p.1,V.int ((p.2:Nat):Int))) k=(l.findIdx? fun x=>decide (f x=k)).map fun(j:Nat)=>V.int ((j+n:Nat):Int)
 |[],n=>rfl
 |x::r,n=>by
  rw[List.zipIdx_cons,List.map_cons,List.findIdx?_cons]
  by_cases h:f x=k
  ·rw[G5 h,decide_eq_true h,if_pos rfl]
   show some (V.int (n:Int))=some (V.int ((0+n:Nat):Int))
   rw[Nat.zero_add]
  ·rw[J2 h,AO8 f k r (n+1),decide_eq_false h,if_neg (by decide),Option.map_map]
   congr 1
   funext j
   show V.int ((j+(n+1):Nat):Int)=V.int ((j+1+n:Nat):Int)
   rw[show j+(n+1)=j+1+n by omega]
theorem Ar7:AI9=(My.two.zipIdx 0).map fun p=>([Sum.inl p.1.1,Sum.inl p.1.2],V.int ((p.2:Nat):Int)):=rfl
theorem Ax9:w6=(My.one.zipIdx 9).map fun p=>(Sum.inl p.1,V.int ((p.2:Nat):Int)):=rfl
theorem AN8 (c d:Int):O9 AI9 [Sum.inl c,Sum.inl d]=(My.pyTwo c d).map fun(k:Nat)=>V.int (k:Int):=by
 rw[Ar7,AO8 (fun q:Int×Int=>([Sum.inl q.1,Sum.inl q.2]:List Key))]
 unfold My.pyTwo
 rw[My.findIdx_congr (R:=fun q:Int×Int=>decide (q.1=c/\q.2=d)) fun q _=>?_]
 ·rfl
 ·exact decide_eq_decide.mpr (by simp)
theorem X0 (c:Int):O9 w6 (Sum.inl c)=(My.pyOne c).map fun(k:Nat)=>V.int ((k+9:Nat):Int):=by
 rw[Ax9,AO8 (fun q:Int=>(Sum.inl q:Key))]
 unfold My.pyOne
 rw[My.findIdx_congr (R:=fun q:Int=>decide (q=c)) fun q _=>?_]
 exact decide_eq_decide.mpr (by simp)
theorem AS4 {v w:List Int}(hv:Byt v)(hw:Byt w):(X7 v==X7 w)=decide (v=w):=by
 by_cases h:v=w
 ·rw[decide_eq_true h,h];exact beq_self_eq_true _
 ·rw[decide_eq_false h]
  refine beq_eq_false_iff_ne.mpr fun e=>h ?_
  have e1:(v.map Int.toNat).toArray=(w.map Int.toNat).toArray:=congrArg Str.cps e
  have e2:v.map Int.toNat=w.map Int.toNat:=by simpa using congrArg Array.toList e1
  have back:∀{l:List Int},Byt l->(l.map Int.toNat).map (fun(n:Nat)=>(n:Int))=l:=by
   intro l
   induction l with
   |nil=>intro _;rfl
   |cons a r ih=>
    intro hb
    rw[List.map_cons,List.map_cons,ih fun z hz=>hb z (List.mem_cons_of_mem _ hz)]
    have:=(hb a List.mem_cons_self).1
    congr 1
    omega
  rw[←back hv,←back hw,e2]
theorem AM7:(Y9.map V.str).all T0=true:=by
 rw[List.all_eq_true]
 intro x hx
 obtain⟨y,_,rfl⟩:=List.mem_map.mp hx
 rfl
theorem n8 {α:Type}(P:α->Bool):∀l:List α,l.any P=(l.findIdx? P).isSome
 |[]=>rfl
 |x::r=>by
  rw[List.any_cons,List.findIdx?_cons,n8 P r]
  cases P x with
  |true=>rfl
  |false=>rw[if_neg (by decide),Option.isSome_map];rfl
theorem Am1 {w:List Int}(hB:Byt w):inV (.str (X7 w)) (Y9.map V.str)=(W0.findIdx? fun k=>decide (k=w)).isSome:=by
 unfold inV Y9
 rw[List.any_map,List.any_map,n8,My.findIdx_congr (R:=fun k=>decide (k=w)) fun k hk=>?_]
 show(X7 k==X7 w)=_
 exact AS4 (fun z hz=>My.keptZ_byt k hk z hz) hB
theorem A90 {w:List Int}(hB:Byt w){j:Nat}(h:(W0.findIdx? fun k=>decide (k=w))=some j):(Y9.map V.str)[j]?=some (.str (X7 w))/\∀(m:Nat) (z':V),m<j->(Y9.map V.str)[m]?=some z'->eqV z' (.str (X7 w))=false:=by
 rw[List.findIdx?_eq_some_iff_getElem]at h
 obtain⟨hj,h1,h2⟩:=h
 have e1:W0[j]=w:=of_decide_eq_true h1
 refine⟨?_,fun m z' hm hz=>?_⟩
 ·unfold Y9
  rw[List.getElem?_map,List.getElem?_map,List.getElem?_eq_getElem hj,e1]
  rfl
 ·unfold Y9 at hz
  have hml:m<W0.length:=by omega
  rw[List.getElem?_map,List.getElem?_map,List.getElem?_eq_getElem hml]at hz
  cases hz
  show(X7 W0[m]==X7 w)=false
  rw[AS4 (fun z hz=>My.keptZ_byt _ (List.getElem_mem hml) z hz) hB]
  have:=h2 m hm
  simpa using this
structure Ao9 (P:Program)(w:World)(K:PySem.W.Frag)(mg:Str->Option Value)(C:Addr):Prop where
 tx:Txt mg
 cl:Cls K C
 nF:NoAttr K C "first"
 nL:NoAttr K C "length"
 nW:NoAttr K C "what"
 nI:NoAttr K C "which"
 mgC:mg "Token"=some (.ref C)
 name:GI mg "NAME" 0
 number:GI mg "NUMBER" 1
 kept:GI mg "KEPT" 2
 sign:GI mg "SIGN" 3
 noTok:GI mg "NO_TOKEN" 4
 longW:GI mg "LONGEST_WORD" 32
 notTok:GI mg "NOT_A_TOKEN" 1
 longT:GI mg "LONGEST_TEXT" 1048576
 fz:∃t,mg "FROM_0_TO_Z"=some (.str Ag6 t)
 kw:∃a,mg "KEPT_WORDS"=some (.ref a)/\(∃o,K.lookup a=some o/\o.cls=.type "tuple"/\o.dict=none)/\∀H,SqT K H a (Y9.map V.str)
 s2:∃a,mg "SIGNS_OF_TWO"=some (.ref a)/\Ah2 P w K a AI9
 s1:∃a,mg "SIGNS_OF_ONE"=some (.ref a)/\AD1 P w K a w6
section
variable {P:Program} {w:World} {K:PySem.W.Frag} {mg:Str->Option Value} {base:Heap}
theorem BO9:B8 ["self","first","length","what","which"] ["self","first","length","what","which"] (A7 At3):=⟨rfl,rfl,rfl,by decide+kernel,rfl,by decide+kernel,by decide+kernel⟩
theorem BE4 {f C:Addr}{fd:FuncData}(F:Fun K "__init__" "Token.__init__" At3 f fd)(X:Ao9 P w K mg C):D3 P w K mg base CX0 1 f fd ["self","first","length","what","which"] (Ae6 C):=by
 refine F.ok BO9 (fun vs H Q E h=>?_) (fun cdv A outer s H vs Q E hr h=>?_)
 ·obtain⟨p,dx,f,l,wh,wi,rfl,_⟩:=h
  rfl
 ·obtain⟨p,dx,f,l,wh,wi,rfl,hp,k⟩:=h
  refine⟨_,A2 (C7 (pv 0) (pv 1) rfl) (A2 (C7 (pv 0) (pv 2) rfl) (A2 (C7 (pv 0) (pv 3) rfl) (A4 (C7 (pv 0) (pv 4) rfl)))),?_⟩
  refine⟨_,rfl,_,rfl,p,C,dx,[],rfl,hp,X.cl,X.nF,(by show 0<1000;decide),?_⟩
  refine⟨_,rfl,_,rfl,p,C,dx,_,rfl,A1,X.cl,X.nL,(by show 1<1000;decide),?_⟩
  refine⟨_,rfl,_,rfl,p,C,dx,_,rfl,A1,X.cl,X.nW,(by show 2<1000;decide),?_⟩
  refine⟨_,rfl,_,rfl,p,C,dx,_,rfl,A1,X.cl,X.nI,(by show 3<1000;decide),?_⟩
  refine k _ ⟨dx,A1⟩ fun b o e hb=>?_
  rw[A5 hb,A5 hb,A5 hb,A5 hb]
  exact e
structure BS8 (P:Program)(w:World)(K:PySem.W.Frag)(mg:Str->Option Value)(C fI:Addr)(fdI:FuncData):Prop where
 X:Ao9 P w K mg C
 M:Mk K C fI
 F:Fun K "__init__" "Token.__init__" At3 fI fdI
 b:Binds K fdI ["self","first","length","what","which"] []
theorem pmk {X:Cx}{C fI:Addr}{fdI:FuncData}{t:TA}{e:Expr}{es:List Expr}{npos pos:Pos}(O:BS8 X.prog X.w X.K X.mg C fI fdI)(hr:Room 2 X.A)(ha:PA X (e::es) t)(hg:Gl X "Token":=by rfl)
  (he:starEach (e::es) X.env=(false,eval e X.env)::starEach es X.env:=by rfl) (hpl:(backTo pos (starEach es X.env)).any (·.1)=false:=by rfl):PE X (.Call (.Name "Token" npos) (e::es) [] pos) (AZ9 C (Ae6 C) [] E0 t):=
 AD0 O.M (BE4 O.F O.X) hr hg O.X.mgC O.b .nil AY7 ha (by decide) he hpl
noncomputable def BY5 (C:Addr)(H:Hp)(f l wh wi:Int)(Q:VK):Prop:=∀(H':Hp) (a:Addr),Same H H'->TokAt C H' a f l wh wi->Q (.ref a) H'
theorem x9 {C:Addr}{H H1:Hp}{f l wh wi f' l' wh' wi':Int}{Q:VK}(h:BY5 C H f l wh wi Q)(s:Same H H1)(e1:f'=f)(e2:l'=l)(e3:wh'=wh)(e4:wi'=wi):
  ∀x dx,H1 x=none->H1 dx=none->dx≠x->Ae6 C (.ref x::([.int f',.int l',.int wh',.int wi']++[])) (upd (upd H1 dx (.own x)) x (.ins C dx [])) (fun v H2=>v=.non/\Q (.ref x) H2) E0:=by
 subst e1 e2 e3 e4
 intro x dx nx nd _
 exact⟨x,dx,_,_,_,_,rfl,A1,fun H' hT kp=>⟨rfl,h H' x (s.trans (Same.made nx nd kp)) hT⟩⟩
noncomputable def AV6 (K:PySem.W.Frag)(C:Addr):Sp:=fun vs H Q _=>∃(a:Addr) (ns:List Int) (p:Nat) (z:Int),vs=[.ref a,.int p]/\SqL K H a (ns.map V.int)/\Byt ns/\ns.length<=100000/\ns[p]?=some z/\wordB z=true/\
 BY5 C H p (G0 ns p).length (qOf (Sw.wordTok (My.toB (G0 ns p)))).1 (qOf (Sw.wordTok (My.toB (G0 ns p)))).2 Q
noncomputable def sq (x:Option (Nat×Nat)):Nat×Nat×Nat:=match x with
 |some (k,n)=>(n,3,k)
 |none=>(1,4,0)
noncomputable def AH8 (K:PySem.W.Frag)(C:Addr):Sp:=fun vs H Q _=>∃(a:Addr) (ns:List Int) (p:Nat) (z:Int),vs=[.ref a,.int p]/\SqL K H a (ns.map V.int)/\ns[p]?=some z/\
 BY5 C H p (sq (My.signB z ns[p+1]?)).1 (sq (My.signB z ns[p+1]?)).2.1 (sq (My.signB z ns[p+1]?)).2.2 Q
end
end Tk
namespace Tk
open PySem PySem.Spec PyProof.Rows L2
open My (U9 AZ1 AX6 wordB L6 P6 AJ3 c5 i5 Byt endOf notLF G0 y6 Z4 T qOf W0)
section
variable {P:Program} {w:World} {K:PySem.W.Frag} {mg:Str->Option Value} {base:Heap}
theorem Av3 {z:Int}(h:wordB z=true):atI Ag6.cps.toList (z-48)=some z.toNat:=by
 have hb:48<=z/\z<=122:=by
  unfold wordB AZ1 AX6 U9 at h
  simp at h
  omega
 obtain⟨n,rfl⟩:∃n:Nat,z=((n+48:Nat):Int):=⟨(z-48).toNat,by omega⟩
 have hn:n<=74:=by omega
 have all:∀n,n<=74->Ag6.cps.toList[n]?=some (n+48):=by decide+kernel
 rw[show((n+48:Nat):Int)-48=(n:Int) by omega]
 rw[D6 (all n hn)]
 congr 1
theorem X3:B8 ["t","at","run","word","byte"] ["t","at"] (A7 AF5):=⟨rfl,rfl,rfl,by decide+kernel,rfl,by decide+kernel,by decide+kernel⟩
structure Sc (P:Program)(w:World)(K:PySem.W.Frag)(mg:Str->Option Value)(C:Addr):Prop where
 X:Ao9 P w K mg C
 O:∃fI fdI,BS8 P w K mg C fI fdI
 D:FN K mg "is_digit" L3 ["byte"]
 L:FN K mg "is_letter" P9 ["byte"]
 Bl:FN K mg "is_blank" X9 ["byte"]
 W:FN K mg "is_word_byte" v6 ["byte"]
 E:FN K mg "run_end" AE2 ["t","at"]
 V:FN K mg "digit_value" W5 ["byte"]
 U:FN K mg "value_of_digits" AB3 ["digits","base"]
 A:FN K mg "are_digits" BS0 ["digits","base","most"]
 Hx:FN K mg "is_hexadecimal" AI8 ["run"]
 N:FN K mg "is_number" AR8 ["run"]
 B:FN K mg "behind_blanks" AD7 ["t","at"]
 T:FN K mg "run_token" AF5 ["t","at"]
 S:FN K mg "sign_token" j8 ["t","at"]
 Nt:FN K mg "begins_note" Ac3 ["t","at"]
 Ne:FN K mg "note_end" W8 ["t","at"]
 Z:FN K mg "scan" Ai7 ["t"]
theorem AC4:∀(w:List Int),Txt.join (Str.ofString "") (w.map fun z=>(⟨#[z.toNat]⟩:Str))=X7 w:=by
 intro w
 rw[TL.join_eq]
 apply TL.ext_tl
 rw[TL.tl_join]
 have:∀l:List Int,TL.joinL (TL.tl (Str.ofString "")) ((l.map fun z=>(⟨#[z.toNat]⟩:Str)).map TL.tl)=l.map Int.toNat:=by
  intro l
  have e0:TL.tl (Str.ofString "")=[]:=rfl
  rw[e0]
  induction l with
  |nil=>rfl
  |cons a r ih=>
   cases r with
   |nil=>rfl
   |cons b r'=>
    show [a.toNat]++([]++TL.joinL [] (((b::r').map fun z=>(⟨#[z.toNat]⟩:Str)).map TL.tl))=a.toNat::(b::r').map Int.toNat
    rw[ih]
    rfl
 rw[this]
 rfl
theorem AN6:∀l:List Int,(l.map ((fun x=>x.length)∘fun z=>(⟨#[z.toNat]⟩:Str))).sum=l.length
 |[]=>rfl
 |a::r=>by
  rw[List.map_cons,List.sum_cons,AN6 r,List.length_cons]
  show 1+r.length=_
  omega
theorem Ag2 {f C:Addr}{fd:FuncData}(F:Fun K "run_token" "run_token" AF5 f fd)(R:Sc P w K mg C):
  D3 P w K mg base CX0 6 f fd ["t","at"] (AV6 K C):=by
 obtain⟨X,⟨fI,fdI,O⟩,⟨fD,fdD,D⟩,⟨fL,fdL,L⟩,_,⟨fW,fdW,W⟩,⟨fE,fdE,E⟩,⟨fV,fdV,DV⟩,⟨fU,fdU,U⟩,⟨fA,fdA,A⟩,⟨fX,fdX,Hx⟩,⟨fN,fdN,N⟩,_⟩:=R
 have GE:D3 P w K mg base CX0 3 fE fdE ["t","at"] (AT4 K):=Al3 E.F X.tx W L D
 have GD:D3 P w K mg base CX0 1 fD fdD ["byte"] X4:=Z8 D.F
 have GN:D3 P w K mg base CX0 5 fN fdN ["run"] (Al9 K):=Aq7 N.F X.tx Hx A U DV D
 obtain⟨tz,hfz⟩:=X.fz
 obtain⟨aK,hkw,hkt,hkS⟩:=X.kw
 refine F.ok X3 (fun vs H Q E' h=>?_) (fun cdv A' outer s H vs Q E' hr h=>?_)
 ·obtain⟨a,ns,p,z,rfl,_⟩:=h
  rfl
 ·obtain⟨a,ns,p,z,rfl,hs,hB,hlen,hz,hwz,h⟩:=h
  have hr3:Room 3 _:=hr.mono (by decide)
  have hr2:Room 2 _:=hr.mono (by decide)
  have hr1:Room 1 _:=hr.mono (by decide)
  refine⟨_,A2 (C8 (i:=2) X3.nd rfl (Or.inl rfl) (m5 AE8 (pv 0) (t6 (pv 1)) (t6 (D5 E GE hr3 (A0 (pv 0) (A0 (pv 1) A6))))))
   (A2 (E2 (S9 (D5 D GD hr1 (A0 (F5 C6 (pv 2) A9 (fun _ _=>rfl)) A6)))
    (A4 (B7 (pmk O hr2 (A0 (pv 1) (A0 (F0 C3 (by rfl) X.tx.len PySem.boot_len (A0 (pv 2) A6)) (A0 (Y2 (S9 (D5 N GN hr (A0 (pv 2) A6))) (E6 X.number) (E6 X.noTok)) (A0 A9 A6))))))) C4)
   (A2 (E2 (B5 AG6 (F0 C3 (by rfl) X.tx.len PySem.boot_len (A0 (pv 2) A6)) (E6 X.longW) (C2 _))
    (A4 (B7 (pmk O hr2 (A0 (pv 1) (A0 (F0 C3 (by rfl) X.tx.len PySem.boot_len (A0 (pv 2) A6)) (A0 (E6 X.noTok) (A0 A9 A6))))))) C4)
   (A2 (C8 (i:=3) X3.nd rfl (Or.inl rfl) (A66 D9 (Ax0 (own:=[("byte",4)]) rfl X3.nd (T3 (pv 2)) (m4 (by kernel_rfl)) (fun _ _ _ _ _=>K9 (i:=4) X3.nd rfl (Or.inl rfl)) (fun _ _ _ _ _=>D7)
    (fun _ _ _ _ _=>F5 BR0 (BW4 hfz) (M5 W9 (pv 4) A9) (fun _ _=>rfl)))))
   (A2 (E2 (B5 S4 (pv 3) (Q7 hkw) rfl)
    (A4 (B7 (pmk O hr2 (A0 (pv 1) (A0 (F0 C3 (by rfl) X.tx.len PySem.boot_len (A0 (pv 2) A6)) (A0 (E6 X.kept) (A0 (X8 PySem.F.plainAttrs_tuple PySem.F.slot_tuple_index PySem.F.type_tuple_index Ah3 (Q7 hkw) (A0 (pv 3) A6)) A6))))))) C4)
   (A4 (B7 (pmk O hr2 (A0 (pv 1) (A0 (F0 C3 (by rfl) X.tx.len PySem.boot_len (A0 (pv 2) A6)) (A0 (E6 X.name) (A0 A9 A6))))))))))),?_⟩
  have hp:p<=ns.length:=Nat.le_of_lt (List.getElem?_eq_some_iff.mp hz).1
  refine⟨_,rfl,_,rfl,_,rfl,_,rfl,_,rfl,a,ns,p,rfl,hs,hp,_,rfl,a,_,rfl,hs,fun r hrN=>?_⟩
  have ec:AW6 (ns.map V.int) (some (p:Int)) (some ((endOf wordB ns p:Nat):Int))=(G0 ns p).map V.int:=by
   have:=AV9 ns p (some (endOf wordB ns p))
   rw[Option.getD_some,←My.runAt_cut]at this
   exact this
  rw[ec]
  have hwB:=My.runAt_byt hB p
  have hhd:=My.runAt_head hz hwz
  have hw0:(G0 ns p)[0]?=some z:=by rw[←List.head?_eq_getElem?];exact hhd
  have hww:=My.runAt_word (ns:=ns) (p:=p)
  have hwl:(G0 ns p).length<=ns.length:=by
   unfold G0
   exact Nat.le_trans (List.takeWhile_sublist _).length_le (by rw[List.length_drop];omega)
  generalize hwe:G0 ns p=w' at *
  have s1:Same H (upd H r (.lst (w'.map V.int))):=B9 hrN
  have hsR:SqL K (upd H r (.lst (w'.map V.int))) r (w'.map V.int):=SqL.of A1
  generalize (upd H r (.lst (w'.map V.int)))=H1 at s1 hsR ⊢
  refine AU2 (p:=0) rfl hsR hw0 ⟨z,rfl,_,rfl,G7 (fun c=>?_) (fun c=>?_)⟩
  ·have hq:=My.wordTok_dig hwB hhd c
   refine⟨_,rfl,L8 rfl hsR ⟨_,rfl,r,w',rfl,hsR,fun H2 s2=>⟨_,rfl,G7 (fun c2=>?_) (fun c2=>?_)⟩⟩⟩
   ·exact x9 h (s1.trans s2) rfl rfl (by rw[hq,if_pos c2];rfl) (by rw[hq];rfl)
   ·exact x9 h (s1.trans s2) rfl rfl (by rw[hq,if_neg c2];rfl) (by rw[hq];rfl)
  ·have hd:U9 z=false:=Bool.eq_false_iff.mpr c
   refine Ap9 (c6 (L8 rfl hsR ⟨_,_,rfl,rfl,_,rfl,G7 (fun c2=>?_) (fun c2=>?_)⟩))
   ·have hl:32<w'.length:=by have:=of_decide_eq_true c2;omega
    have hq:=My.wordTok_long hwB hhd hd hl
    exact⟨_,rfl,L8 rfl hsR (x9 h s1 rfl rfl (by rw[hq];rfl) (by rw[hq];rfl))⟩
   ·have hl:¬32<w'.length:=by have:=of_decide_eq_false (Bool.eq_false_iff.mpr c2);omega
    have hq:=My.wordTok_word hwB hhd hd hl
    refine⟨⟨_,rfl⟩,_,rfl,r,rfl,⟨_,hsR⟩,fun D hD=>Ak9 (K:=K) (a:=r) (xs:=w'.map V.int) (fun i H'=>Same H1 H'/\H' D=some (.lst (((w'.take i).map fun z=>(⟨#[z.toNat]⟩:Str)).map V.str)))
     ⟨B9 hD,A1⟩ (fun i H' _ x=>x.1.seq hsR) ?_ ?_⟩
    ·rintro i y H' hi ⟨sm,hDl⟩
     obtain⟨z',hz',rfl⟩:∃z',w'[i]?=some z'/\y=V.int z':=by
      rw[List.getElem?_map]at hi
      cases e:w'[i]? with
      |none=>rw[e]at hi;cases hi
      |some z=>rw[e]at hi;exact⟨z,rfl,(Option.some.inj hi).symm⟩
     refine⟨rfl,_,rfl,_,_,rfl,rfl,Ag6,_,_,rfl,rfl,(by decide+kernel),Av3 (hww z' (List.mem_of_getElem? hz')),_,hDl,?_,?_,?_⟩
     ·rw[List.length_map,List.length_map,List.length_take]
      have:=sizeLine_eq
      omega
     ·exact fun b o e=>by rw[A5 (B0 e hD)];exact sm b o e
     ·rw[A1,J6 hz',List.map_append,List.map_append]
      rfl
    ·rintro H' ⟨sm,hDl⟩
     rw[List.length_map,List.take_length]at hDl
     refine⟨_,D,_,rfl,rfl,.inl (SqL.of hDl),?_,?_⟩
     ·rw[List.map_map]
      rw[AN6,List.length_map]
      show w'.length+w'.length*0<=16777216
      omega
     ·rw[AC4]
      have sR:=sm.seq hsR
      have s2:=s1.trans sm
      refine⟨_,rfl,aK,_,rfl,.inr (hkS _),rfl,AM7,_,rfl,G7 (fun c3=>?_) (fun c3=>?_)⟩
      ·have c3:inV (.str (X7 w')) (Y9.map V.str)=true:=c3
       rw[Am1 hwB]at c3
       obtain⟨j,hj⟩:=Option.isSome_iff_exists.mp c3
       obtain⟨k1,k2⟩:=A90 hwB hj
       rw[hj]at hq
       refine⟨_,rfl,L8 rfl sR ⟨.inr (.inl ⟨rfl,hkt⟩),_,rfl,aK,_,_,j,_,rfl,rfl,hkS _,rfl,AM7,k1,beq_self_eq_true (X7 w'),k2,?_⟩⟩
       exact x9 h s2 rfl rfl (by rw[hq];rfl) (by rw[hq])
      ·have c3:¬inV (.str (X7 w')) (Y9.map V.str)=true:=c3
       rw[Am1 hwB]at c3
       have hj:(W0.findIdx? fun k=>decide (k=w'))=none:=Option.not_isSome_iff_eq_none.mp c3
       rw[hj]at hq
       exact⟨_,rfl,L8 rfl sR (x9 h s2 rfl rfl (by rw[hq];rfl) (by rw[hq];rfl))⟩
theorem An0:B8 ["t","at"] ["t","at"] (A7 j8):=⟨rfl,rfl,rfl,by decide+kernel,rfl,by decide+kernel,by decide+kernel⟩
theorem AX8 {f C fI:Addr}{fd fdI:FuncData}(F:Fun K "sign_token" "sign_token" j8 f fd)(O:BS8 P w K mg C fI fdI):D3 P w K mg base CX0 3 f fd ["t","at"] (AH8 K C):=by
 have X:=O.X
 obtain⟨a2,h2,m2⟩:=X.s2
 obtain⟨a1,h1,m1⟩:=X.s1
 refine F.ok An0 (fun vs H Q E h=>?_) (fun cdv A outer s H vs Q E hr h=>?_)
 ·obtain⟨a,ns,p,z,rfl,_⟩:=h
  rfl
 ·obtain⟨a,ns,p,z,rfl,hs,hz,h⟩:=h
  have hu:=AX1 hr
  refine⟨_,A2 (E2 (PW.pt (e8 (B5 AJ5 (M5 T5 (pv 1) A9) (F0 C3 (by rfl) X.tx.len PySem.boot_len (A0 (pv 0) A6)) (C2 _))
    (T7 (Af1 (Ad4 hu (AA5 (A0 (F5 C6 (pv 0) (pv 1) (fun _ _=>rfl)) (A0 (F5 C6 (pv 0) (M5 T5 (pv 1) A9) (fun _ _=>rfl)) A6))) (Q7 h2))))))
   (A4 (B7 (pmk O hr (A0 (pv 1) (A0 A9 (A0 (E6 X.sign) (A0 (p7 hu (Q7 h2) (AA5 (A0 (F5 C6 (pv 0) (pv 1) (fun _ _=>rfl)) (A0 (F5 C6 (pv 0) (M5 T5 (pv 1) A9) (fun _ _=>rfl)) A6))) (fun _ _=>rfl)) A6))))))) C4)
   (A2 (E2 (Af1 (Ad4 hu (F5 C6 (pv 0) (pv 1) (fun _ _=>rfl)) (Q7 h1)))
   (A4 (B7 (pmk O hr (A0 (pv 1) (A0 A9 (A0 (E6 X.sign) (A0 (p7 hu (Q7 h1) (F5 C6 (pv 0) (pv 1) (fun _ _=>rfl)) (fun _ _=>rfl)) A6))))))) C4)
   (A4 (B7 (pmk O hr (A0 (pv 1) (A0 A9 (A0 (E6 X.noTok) (A0 A9 A6)))))))),?_⟩
  cases e2:ns[p+1]?.bind (My.pyTwo z)with
  |some k=>
   obtain⟨y,hy,hk⟩:=Option.bind_eq_some_iff.mp e2
   have hlt:p+1<ns.length:=(List.getElem?_eq_some_iff.mp hy).1
   have esq:sq (My.signB z ns[p+1]?)=(2,3,k):=by
    unfold My.signB
    rw[e2]
    rfl
   rw[esq]at h
   have ev:O9 AI9 [Sum.inl z,Sum.inl y]=some (V.int (k:Int)):=by rw[AN8,hk];rfl
   refine⟨_,rfl,_,_,rfl,rfl,L8 rfl hs ⟨_,_,rfl,rfl,_,rfl,G7 (fun c=>?_) (fun c=>?_)⟩⟩
   ·refine g0 rfl rfl hs hz (AU3 rfl rfl hs hy ⟨(by show 2<=sizeLine;decide),fun tp htp=>?_⟩)
    have hs1:=(B9 (o:=.tup [V.int z,V.int y]) htp)
    refine⟨a2,_,rfl,.inr ⟨AI9,[Sum.inl z,Sum.inl y],tp,m2,rfl,A1,rfl⟩,_,rfl,?_⟩
    rw[ev]
    refine AX4 ⟨_,rfl,?_⟩
    refine g0 rfl rfl (hs1.seq hs) hz (AU3 rfl rfl (hs1.seq hs) hy ⟨(by show 2<=sizeLine;decide),fun tq htq=>?_⟩)
    refine⟨a2,_,rfl,.inr ⟨AI9,[Sum.inl z,Sum.inl y],tq,m2,rfl,A1,ev.symm⟩,?_⟩
    exact x9 h (hs1.trans (B9 htq)) rfl rfl rfl rfl
   ·exact absurd (decide_eq_true (by omega)) c
  |none=>
   have rest:∀y,ns[p+1]?=some y->O9 AI9 [Sum.inl z,Sum.inl y]=none:=fun y hy=>by
    rw[hy]at e2
    have:My.pyTwo z y=none:=e2
    rw[AN8,this];rfl
   refine⟨_,rfl,_,_,rfl,rfl,L8 rfl hs ⟨_,_,rfl,rfl,_,rfl,G7 (fun c=>?_) (fun c=>?_)⟩⟩
   ·have hlt:p+1<ns.length:=by have:=of_decide_eq_true c;omega
    have hy:ns[p+1]?=some ns[p+1]:=List.getElem?_eq_getElem hlt
    refine g0 rfl rfl hs hz (AU3 rfl rfl hs hy ⟨(by show 2<=sizeLine;decide),fun tp htp=>?_⟩)
    have hs1:=(B9 (o:=.tup [V.int z,V.int ns[p+1]]) htp)
    refine⟨a2,_,rfl,.inr ⟨AI9,[Sum.inl z,Sum.inl ns[p+1]],tp,m2,rfl,A1,rfl⟩,_,rfl,?_⟩
    rw[rest _ hy]
    refine AQ3 ?_
    have s1:Same H (upd H tp (.tup [V.int z,V.int ns[p+1]])):=hs1
    generalize (upd H tp (.tup [V.int z,V.int ns[p+1]]))=H1 at s1 ⊢
    have hs2:=s1.seq hs
    have n2:My.signB z ns[p+1]?=(My.pyOne z).map fun k=>(k+9,1):=by
     unfold My.signB
     rw[e2]
     cases My.pyOne z<;>rfl
    refine g0 rfl rfl hs2 hz ⟨a1,_,rfl,.inl ⟨w6,Sum.inl z,m1,rfl,rfl⟩,_,rfl,?_⟩
    cases e1:My.pyOne z with
    |some k=>
     have ev:O9 w6 (Sum.inl z)=some (V.int ((k+9:Nat):Int)):=by rw[X0,e1];rfl
     rw[ev]
     rw[n2,e1]at h
     refine AX4 ⟨_,rfl,g0 rfl rfl hs2 hz ⟨a1,_,rfl,.inl ⟨w6,Sum.inl z,m1,rfl,ev.symm⟩,?_⟩⟩
     exact x9 h s1 rfl rfl rfl rfl
    |none=>
     have ev:O9 w6 (Sum.inl z)=none:=by rw[X0,e1];rfl
     rw[ev]
     rw[n2,e1]at h
     exact AQ3 ⟨_,rfl,x9 h s1 rfl rfl rfl rfl⟩
   ·have s1:Same H H:=Same.refl H
    have hs2:=s1.seq hs
    have n2:My.signB z ns[p+1]?=(My.pyOne z).map fun k=>(k+9,1):=by
     unfold My.signB
     rw[e2]
     cases My.pyOne z<;>rfl
    refine g0 rfl rfl hs2 hz ⟨a1,_,rfl,.inl ⟨w6,Sum.inl z,m1,rfl,rfl⟩,_,rfl,?_⟩
    cases e1:My.pyOne z with
    |some k=>
     have ev:O9 w6 (Sum.inl z)=some (V.int ((k+9:Nat):Int)):=by rw[X0,e1];rfl
     rw[ev]
     rw[n2,e1]at h
     refine AX4 ⟨_,rfl,g0 rfl rfl hs2 hz ⟨a1,_,rfl,.inl ⟨w6,Sum.inl z,m1,rfl,ev.symm⟩,?_⟩⟩
     exact x9 h s1 rfl rfl rfl rfl
    |none=>
     have ev:O9 w6 (Sum.inl z)=none:=by rw[X0,e1];rfl
     rw[ev]
     rw[n2,e1]at h
     exact AQ3 ⟨_,rfl,x9 h s1 rfl rfl rfl rfl⟩
end
end Tk
namespace Tk
open PySem PySem.Spec PyProof.Rows L2
open My (U9 AZ1 AX6 wordB L6 P6 AJ3 c5 i5 Byt endOf notLF G0 y6 Z4 T qOf W0)
structure Q4 where
 f:Nat
 l:Nat
 wh:Nat
 wi:Nat
noncomputable def q4 (t:Sw.Token):Q4:=⟨t.at_,t.len,(qOf (some t.tok)).1,(qOf (some t.tok)).2⟩
noncomputable def Toks (C:Addr)(H:Hp)(as:List Addr)(qs:List Q4):Prop:=as.length=qs.length/\∀(i:Nat) (a:Addr),as[i]?=some a->∃q,qs[i]?=some q/\TokAt C H a q.f q.l q.wh q.wi
theorem Toks.nil {C:Addr}{H:Hp}:Toks C H [] []:=⟨rfl,fun i a h=>by simp at h⟩
theorem Toks.keep {C:Addr}{H H':Hp}{as:List Addr}{qs:List Q4}(t:Toks C H as qs)(k:∀(b:Addr) (dx:Addr) (fs:List (Str×V)),H b=some (.ins C dx fs)->H' b=some (.ins C dx fs)):Toks C H' as qs:=
 ⟨t.1,fun i a h=>let ⟨q,e,dx,hd⟩:=t.2 i a h;⟨q,e,dx,k _ _ _ hd⟩⟩
theorem Toks.snoc {C:Addr}{H:Hp}{as:List Addr}{qs:List Q4}{a:Addr}{q:Q4}(t:Toks C H as qs)(h:TokAt C H a q.f q.l q.wh q.wi):Toks C H (as++[a]) (qs++[q]):=by
 refine⟨by rw[List.length_append,List.length_append,t.1];rfl,fun i b hb=>?_⟩
 by_cases c:i<as.length
 ·rw[List.getElem?_append_left c]at hb
  obtain⟨q',e,x⟩:=t.2 i b hb
  exact⟨q',by rw[List.getElem?_append_left (by rw[←t.1];exact c)];exact e,x⟩
 ·rw[List.getElem?_append_right (by omega)]at hb
  have e0:i-as.length=0:=by
   have:=(List.getElem?_eq_some_iff.mp hb).1
   simp at this
   omega
  rw[e0]at hb
  cases hb
  refine⟨q,?_,h⟩
  rw[List.getElem?_append_right (by rw[←t.1];omega),←t.1,e0]
  rfl
noncomputable def V7 (ns:List Int)(qs:List Q4):Prop:=
 (∃A,Sw.tokens (My.toB ns)=(A,none)/\qs=A.map q4)∨∃A p n,Sw.tokens (My.toB ns)=(A,some p)/\qs=A.map q4++[⟨p,n,4,0⟩]
noncomputable def A13 (K:PySem.W.Frag)(C:Addr):Sp:=fun vs H Q _=>∃(a:Addr) (ns:List Int),vs=[.ref a]/\SqL K H a (ns.map V.int)/\Byt ns/\ns.length<=100000/\
 ∀(H':Hp) (l:Addr) (as:List Addr) (qs:List Q4),Same H H'->H' l=some (.lst (as.map V.ref))->Toks C H' as qs->as.length<=100000->V7 ns qs->Q (.ref l) H'
noncomputable def Ba9 (ns:List Int)(q n wh wi:Nat):Prop:=(wh=4/\wi=0/\T ns q=([],some q))∨
 ∃tok,qOf (some tok)=(wh,wi)/\T ns q=(⟨q,n,tok⟩::(T ns (q+n)).1,(T ns (q+n)).2)/\1<=n/\q+n<=ns.length/\wh≠4
theorem BC4 (t:Sw.Tok):(qOf (some t)).1≠4:=by cases t<;>simp[qOf]
theorem Ag3 {ns:List Int}(hB:Byt ns){q:Nat}{z:Int}(e:ns[q]?=some z)(hs:Z4 ns q)(hw:wordB z=true):Ba9 ns q (G0 ns q).length (qOf (Sw.wordTok (My.toB (G0 ns q)))).1 (qOf (Sw.wordTok (My.toB (G0 ns q)))).2:=by
 have ht:=My.T_word hB e hs hw
 have hl:q<ns.length:=(List.getElem?_eq_some_iff.mp e).1
 have h1:1<=(G0 ns q).length:=by
  have:=My.runAt_head e hw
  cases hr:G0 ns q with
  |nil=>rw[hr]at this;cases this
  |cons a r=>simp
 have h2:q+(G0 ns q).length<=ns.length:=by
  have:=(List.takeWhile_sublist wordB (l:=ns.drop q)).length_le
  rw[List.length_drop]at this
  unfold G0
  omega
 cases ew:Sw.wordTok (My.toB (G0 ns q))with
 |none=>
  rw[ew]at ht
  exact .inl ⟨rfl,rfl,ht⟩
 |some tok=>
  rw[ew]at ht
  exact .inr ⟨tok,rfl,ht,h1,h2,BC4 tok⟩
theorem Ap5 {ns:List Int}(hB:Byt ns){q:Nat}{z:Int}(e:ns[q]?=some z)(hs:Z4 ns q)(hw:wordB z=false):Ba9 ns q (sq (My.signB z ns[q+1]?)).1 (sq (My.signB z ns[q+1]?)).2.1 (sq (My.signB z ns[q+1]?)).2.2:=by
 have ht:=My.T_sign hB e hs hw
 have hl:q<ns.length:=(List.getElem?_eq_some_iff.mp e).1
 rw[My.signAt_ok hB e]at ht
 cases ew:My.signB z ns[q+1]? with
 |none=>
  rw[ew]at ht
  exact .inl ⟨rfl,rfl,ht⟩
 |some x=>
  obtain⟨k,n⟩:=x
  rw[ew]at ht
  refine .inr ⟨.sign k,rfl,ht,?_,?_,by show 3≠4;decide⟩
  ·show 1<=n
   unfold My.signB at ew
   split at ew
   ·cases ew;decide
   ·split at ew
    ·cases ew;decide
    ·cases ew
  ·show q+n<=ns.length
   unfold My.signB at ew
   split at ew
   ·rename_i j hj
    cases ew
    obtain⟨y,hy,_⟩:=Option.bind_eq_some_iff.mp hj
    have:=(List.getElem?_eq_some_iff.mp hy).1
    omega
   ·split at ew
    ·cases ew;omega
    ·cases ew
section
variable {P:Program} {w:World} {K:PySem.W.Frag} {mg:Str->Option Value} {base:Heap}
theorem AH6:B8 ["t","found","at","token"] ["t"] (A7 Ai7):=⟨rfl,rfl,rfl,by decide+kernel,rfl,by decide+kernel,by decide+kernel⟩
theorem A59 {f C:Addr}{fd:FuncData}(F:Fun K "scan" "scan" Ai7 f fd)(Z:Sc P w K mg C):D3 P w K mg base CX0 7 f fd ["t"] (A13 K C):=by
 have X:=Z.X
 obtain⟨fI,fdI,O⟩:=Z.O
 obtain⟨fB,fdB,B⟩:=Z.B
 obtain⟨fK,fdK,Bl⟩:=Z.Bl
 obtain⟨fO,fdO,Nt⟩:=Z.Nt
 obtain⟨fX,fdX,Ne⟩:=Z.Ne
 obtain⟨fR,fdR,Tt⟩:=Z.T
 obtain⟨fS,fdS,St⟩:=Z.S
 obtain⟨fW,fdW,W⟩:=Z.W
 obtain⟨fL,fdL,L⟩:=Z.L
 obtain⟨fD,fdD,D⟩:=Z.D
 have GB:D3 P w K mg base CX0 2 fB fdB ["t","at"] (AS3 K):=Ab8 B.F X.tx Bl Nt Ne
 have GT:D3 P w K mg base CX0 6 fR fdR ["t","at"] (AV6 K C):=Ag2 Tt.F Z
 have GS:D3 P w K mg base CX0 3 fS fdS ["t","at"] (AH8 K C):=AX8 St.F O
 have GW:D3 P w K mg base CX0 2 fW fdW ["byte"] AF6:=AM5 W.F L D
 refine F.ok AH6 (fun vs H Q E h=>?_) (fun cdv A outer s H vs Q E hr h=>?_)
 ·obtain⟨a,ns,rfl,_⟩:=h
  rfl
 ·obtain⟨a,ns,rfl,hs,hB,hlen,h⟩:=h
  have hr3:Room 3 _:=hr.mono (by decide)
  have hr2:Room 2 _:=hr.mono (by decide)
  refine⟨_,A2 (C8 (i:=1) AH6.nd rfl (Or.inl rfl) (K8 A6))
   (A2 (C8 (i:=2) AH6.nd rfl (Or.inl rfl) (D5 B GB hr2 (A0 (pv 0) (A0 A9 A6))))
   (A2 (M9 PassesOwn.never (B5 AJ5 (pv 2) (F0 C3 (by rfl) X.tx.len PySem.boot_len (A0 (pv 0) A6)) (C2 _))
    (A2 (C8 (i:=3) AH6.nd rfl (Or.inl rfl) (Y2 (S9 (D5 W GW hr2 (A0 (F5 C6 (pv 0) (pv 2) (fun _ _=>rfl)) A6))) (D5 Tt GT hr (A0 (pv 0) (A0 (pv 2) A6))) (D5 St GS hr3 (A0 (pv 0) (A0 (pv 2) A6)))))
    (A2 (E8 (X8 PySem.F.plainAttrs_list PySem.F.slot_list_append PySem.F.type_list_append F8 (pv 1) (A0 (pv 3) A6)))
    (A2 (E2 (B5 J3 (A8 (pv 3) rfl) (E6 X.noTok) (C2 _)) (A4 (B7 (pv 1))) C4)
    (A4 (C8 (i:=2) AH6.nd rfl (Or.inl rfl) (D5 B GB hr2 (A0 (pv 0) (A0 (M5 T5 (pv 2) (A8 (pv 3) rfl)) A6)))))))))
   (A4 (B7 (pv 1))))),?_⟩
  refine⟨Nat.zero_le _,fun l hl=>?_⟩
  have s0:Same H (upd H l (.lst [])):=B9 hl
  refine⟨_,rfl,a,ns,0,rfl,s0.seq hs,hB,Nat.zero_le _,fun q0 _ hq0 ht0 hso0=>?_⟩
  refine⟨fun m σ H'=>∃(q:Nat) (as:List Addr) (A:List Sw.Token) (v:Option V),σ=[some (.ref a),some (.ref l),some (.int q),v]/\Same H H'/\H' l=some (.lst (as.map V.ref))/\Toks C H' as (A.map q4)/\
   Sw.tokens (My.toB ns)=(A++(T ns q).1,(T ns q).2)/\Z4 ns q/\q<=ns.length/\as.length<=q/\m=ns.length-q,⟨_,q0,[],[],none,rfl,s0,A1,Toks.nil,?_,hso0,hq0,Nat.zero_le _,rfl⟩,?_⟩
  ·rw[ht0,My.T_zero]
   rfl
  rintro m σ H' ⟨q,as,A',v,rfl,sm,hl',tk,hT,hso,hq,hal,rfl⟩
  have hs':=sm.seq hs
  have sz:=sizeLine_eq
  refine⟨_,rfl,L8 rfl hs' ⟨_,_,rfl,rfl,_,rfl,G7 (fun c=>?_) (fun c=>?_)⟩⟩
  ·have hlt:q<ns.length:=by have:=of_decide_eq_true c;omega
   have hy:ns[q]?=some ns[q]:=List.getElem?_eq_getElem hlt
   refine⟨fun σ' H'=>∃m',m'<ns.length-q/\∃(q:Nat) (as:List Addr) (A:List Sw.Token) (v:Option V),σ'=[some (.ref a),some (.ref l),some (.int q),v]/\Same H H'/\H' l=some (.lst (as.map V.ref))/\Toks C H' as (A.map q4)/\
    Sw.tokens (My.toB ns)=(A++(T ns q).1,(T ns q).2)/\Z4 ns q/\q<=ns.length/\as.length<=q/\m'=ns.length-q,fun _ _ x=>x,?_⟩
   refine g0 rfl rfl hs' hy ⟨_,rfl,_,rfl,G7 (fun cw=>?_) (fun cw=>?_)⟩
   ·have st:=Ag3 hB hy hso cw
    refine⟨_,rfl,_,rfl,a,ns,q,ns[q],rfl,hs',hB,hlen,hy,cw,fun H2 b s2 hb=>?_⟩
    generalize (G0 ns q).length=n at st hb
    generalize (qOf (Sw.wordTok (My.toB (G0 ns q)))).1=wh at st hb
    generalize (qOf (Sw.wordTok (My.toB (G0 ns q)))).2=wi at st hb
    have hl2:=s2 _ _ hl'
    obtain⟨dx,hbx⟩:=hb
    have nbl:b≠l:=D8 hbx hl2 (by intro z;cases z)
    refine⟨_,rfl,.inl ⟨rfl,_,SqL.of hl2⟩,_,rfl,l,_,_,rfl,rfl,hl2,(by rw[List.length_map];omega),?_⟩
    have hb3:(upd H2 l (.lst (as.map V.ref++[V.ref b]))) b=some (.ins C dx (tf q n wh wi)):=by rw[A5 nbl];exact hbx
    have s3:Same H (upd H2 l (.lst (as.map V.ref++[V.ref b]))):=fun x o e=>by rw[A5 (B0 e hl)];exact s2 _ _ (sm _ _ e)
    have tk3:Toks C (upd H2 l (.lst (as.map V.ref++[V.ref b]))) (as++[b]) (A'.map q4++[⟨q,n,wh,wi⟩]):=
     (tk.keep fun x dy fs e=>by
      have e2:=s2 _ _ e
      rw[A5 (D8 e2 hl2 (by intro z;cases z))]
      exact e2).snoc ⟨dx,hb3⟩
    have hl3:(upd H2 l (.lst (as.map V.ref++[V.ref b]))) l=some (.lst ((as++[b]).map V.ref)):=by rw[A1,List.map_append];rfl
    have hal3:(as++[b]).length=as.length+1:=by simp
    refine⟨_,rfl,b,C,dx,_,_,rfl,hb3,X.cl,X.nW,a8 _ _ _ _,rfl,_,rfl,G7 (fun c4=>?_) (fun c4=>?_)⟩
    ·have e4:wh=4:=by have:((wh:Nat):Int)=4:=(by simpa using c4);omega
     rcases st with ⟨_,e0,hTq⟩ |⟨tok,_,_,_,_,n4⟩
     ·refine⟨_,rfl,?_⟩
      subst e4 e0
      refine h _ l (as++[b]) _ s3 hl3 tk3 (by omega) (.inr ⟨A',q,n,?_,rfl⟩)
      rw[hT,hTq,List.append_nil]
     ·exact(n4 e4).elim
    ·rcases st with ⟨e4,_⟩ |⟨tok,hq4,hTq,hn1,hqn,_⟩
     ·exact absurd (by rw[e4];rfl) c4
     ·refine⟨_,rfl,_,rfl,_,rfl,b,C,dx,_,_,rfl,hb3,X.cl,X.nL,p8 _ _ _ _,_,_,rfl,rfl,a,ns,q+n,rfl,s3.seq hs,hB,hqn,fun q' h1 h2 h3 h4=>?_⟩
      refine⟨ns.length-q',by omega,q',as++[b],A'++[⟨q,n,tok⟩],some (.ref b),rfl,s3,hl3,?_,?_,h4,h2,by omega,rfl⟩
      ·have e:q4 ⟨q,n,tok⟩=⟨q,n,wh,wi⟩:=by unfold q4;rw[hq4]
       rw[List.map_append,List.map_cons,List.map_nil,e]
       exact tk3
      ·rw[h3,hT,hTq,List.append_assoc]
       rfl
   ·have st:=Ap5 hB hy hso (Bool.eq_false_iff.mpr cw)
    refine⟨_,rfl,_,rfl,a,ns,q,ns[q],rfl,hs',hy,fun H2 b s2 hb=>?_⟩
    generalize (sq (My.signB ns[q] ns[q+1]?)).1=n at st hb
    generalize (sq (My.signB ns[q] ns[q+1]?)).2.1=wh at st hb
    generalize (sq (My.signB ns[q] ns[q+1]?)).2.2=wi at st hb
    have hl2:=s2 _ _ hl'
    obtain⟨dx,hbx⟩:=hb
    have nbl:b≠l:=D8 hbx hl2 (by intro z;cases z)
    refine⟨_,rfl,.inl ⟨rfl,_,SqL.of hl2⟩,_,rfl,l,_,_,rfl,rfl,hl2,(by rw[List.length_map];omega),?_⟩
    have hb3:(upd H2 l (.lst (as.map V.ref++[V.ref b]))) b=some (.ins C dx (tf q n wh wi)):=by rw[A5 nbl];exact hbx
    have s3:Same H (upd H2 l (.lst (as.map V.ref++[V.ref b]))):=fun x o e=>by rw[A5 (B0 e hl)];exact s2 _ _ (sm _ _ e)
    have tk3:Toks C (upd H2 l (.lst (as.map V.ref++[V.ref b]))) (as++[b]) (A'.map q4++[⟨q,n,wh,wi⟩]):=
     (tk.keep fun x dy fs e=>by
      have e2:=s2 _ _ e
      rw[A5 (D8 e2 hl2 (by intro z;cases z))]
      exact e2).snoc ⟨dx,hb3⟩
    have hl3:(upd H2 l (.lst (as.map V.ref++[V.ref b]))) l=some (.lst ((as++[b]).map V.ref)):=by rw[A1,List.map_append];rfl
    have hal3:(as++[b]).length=as.length+1:=by simp
    refine⟨_,rfl,b,C,dx,_,_,rfl,hb3,X.cl,X.nW,a8 _ _ _ _,rfl,_,rfl,G7 (fun c4=>?_) (fun c4=>?_)⟩
    ·have e4:wh=4:=by have:((wh:Nat):Int)=4:=(by simpa using c4);omega
     rcases st with ⟨_,e0,hTq⟩ |⟨tok,_,_,_,_,n4⟩
     ·refine⟨_,rfl,?_⟩
      subst e4 e0
      refine h _ l (as++[b]) _ s3 hl3 tk3 (by omega) (.inr ⟨A',q,n,?_,rfl⟩)
      rw[hT,hTq,List.append_nil]
     ·exact(n4 e4).elim
    ·rcases st with ⟨e4,_⟩ |⟨tok,hq4,hTq,hn1,hqn,_⟩
     ·exact absurd (by rw[e4];rfl) c4
     ·refine⟨_,rfl,_,rfl,_,rfl,b,C,dx,_,_,rfl,hb3,X.cl,X.nL,p8 _ _ _ _,_,_,rfl,rfl,a,ns,q+n,rfl,s3.seq hs,hB,hqn,fun q' h1 h2 h3 h4=>?_⟩
      refine⟨ns.length-q',by omega,q',as++[b],A'++[⟨q,n,tok⟩],some (.ref b),rfl,s3,hl3,?_,?_,h4,h2,by omega,rfl⟩
      ·have e:q4 ⟨q,n,tok⟩=⟨q,n,wh,wi⟩:=by unfold q4;rw[hq4]
       rw[List.map_append,List.map_cons,List.map_nil,e]
       exact tk3
      ·rw[h3,hT,hTq,List.append_assoc]
       rfl
  ·have hge:ns.length<=q:=by have:=of_decide_eq_false (Bool.eq_false_iff.mpr c);omega
   refine⟨_,rfl,?_⟩
   rw[My.T_end hge,List.append_nil]at hT
   exact h H' l as _ sm hl' tk (by omega) (.inl ⟨A',hT,rfl⟩)
end
end Tk
namespace Rk
open PySem PySem.Spec PyProof.Rows L2 Tk
inductive RP where
 |s (x:Str)
 |t (f x:Str) (n:Int)
 deriving DecidableEq
noncomputable abbrev PS3:=Str×Str×Int
noncomputable def RP.full:RP->PS3
 |.s x=>("once",x,1)
 |.t f x n=>(f,x,n)
noncomputable abbrev AB9:=List (Str×List (List RP))
noncomputable def c8:List RP->Str
 |.s x::_=>x
 |_=>""
noncomputable def AL2 (o:Obj):Option (List Value):=match o with
 |⟨.type n,none,.seq its _,_⟩=>if n="tuple"/\its.size<=1000 then some its.toList else none
 |_=>none
noncomputable def BT0 (K:PySem.W.Frag):Value->Option RP
 |.str x _=>some (.s x)
 |.ref d=>match (K.lookup d).bind AL2 with
  |some [.str f _,.str x _,.int n _]=>some (.t f x n)
  |_=>none
 |_=>none
noncomputable def AR6 {α:Type}(f:Value->Option α):List Value->Option (List α)
 |[]=>some []
 |u::r=>match f u,AR6 f r with
  |some x,some l=>some (x::l)
  |_,_=>none
noncomputable def Ar6 (K:PySem.W.Frag):Value->Option (List RP)
 |.ref c=>((K.lookup c).bind AL2).bind (AR6 (BT0 K))
 |_=>none
noncomputable def AN5 (K:PySem.W.Frag):Value->Option (List (List RP))
 |.ref c=>((K.lookup c).bind AL2).bind (AR6 (Ar6 K))
 |_=>none
noncomputable def Ad9 (K:PySem.W.Frag):List DictEntry->Option AB9
 |[]=>some []
 |⟨_,.str x _,val⟩::r=>match AN5 K val,Ad9 K r with
  |some w,some l=>some ((x,w)::l)
  |_,_=>none
 |_::_=>none
noncomputable def BT6 (K:PySem.W.Frag)(v:V):RP->Prop
 |.s x=>v=.str x
 |.t f x n=>∃d,v=.ref d/\∀H,SqT K H d [.str f,.str x,.int n]
noncomputable def BL5 (K:PySem.W.Frag)(v:V)(rs:List RP):Prop:=∃c vs,v=.ref c/\(∀H,SqT K H c vs)/\Paired (BT6 K) vs rs
noncomputable def z5 (K:PySem.W.Frag)(v:V)(ws:List (List RP)):Prop:=∃b vs,v=.ref b/\(∀H,SqT K H b vs)/\Paired (BL5 K) vs ws
theorem AE1 {K:PySem.W.Frag}{a:Addr}{us:List Value}{vs:List V}(h:(K.lookup a).bind AL2=some us)(r:Vals vs us):∀H,SqT K H a vs:=by
 intro H
 cases e:K.lookup a with
 |none=>rw[e]at h;cases h
 |some o=>
  rw[e]at h
  have h:AL2 o=some us:=h
  unfold AL2 at h
  split at h
  ·rename_i n its m sl
   split at h
   ·rename_i c
    obtain⟨rfl,c2⟩:=c
    cases h
    exact .inr ⟨_,_,_,e,rfl,rfl,by have:=sizeLine_eq;omega,r⟩
   ·cases h
  ·cases h
theorem AC8 {α:Type}{f:Value->Option α}{R:V->α->Prop}(hf:∀u x,f u=some x->∃v,RelV v u/\R v x):∀{us:List Value} {xs:List α},AR6 f us=some xs->∃vs,Vals vs us/\Paired R vs xs
 |[],xs,h=>by
  cases h
  exact⟨[],.nil,.nil⟩
 |u::r,xs,h=>by
  unfold AR6 at h
  split at h
  ·rename_i x l h1 h2
   cases h
   obtain⟨v,r1,r2⟩:=hf u x h1
   obtain⟨vs,r3,r4⟩:=AC8 hf h2
   exact⟨v::vs,.cons r1 r3,.cons r2 r4⟩
  ·cases h
theorem A87 {K:PySem.W.Frag}(u:Value)(x:RP)(h:BT0 K u=some x):∃v,RelV v u/\BT6 K v x:=by
 unfold BT0 at h
 split at h
 ·rename_i y t
  cases h
  exact⟨.str y,⟨t,rfl⟩,rfl⟩
 ·rename_i d
  split at h
  ·rename_i f t1 y t2 n t3 e
   cases h
   exact⟨.ref d,rfl,d,rfl,AE1 e (.cons ⟨_,rfl⟩ (.cons ⟨_,rfl⟩ (.cons ⟨_,rfl⟩ .nil)))⟩
  ·cases h
 ·cases h
theorem At6 {K:PySem.W.Frag}(u:Value)(x:List RP)(h:Ar6 K u=some x):∃v,RelV v u/\BL5 K v x:=by
 unfold Ar6 at h
 split at h
 ·rename_i c
  cases e:(K.lookup c).bind AL2 with
  |none=>rw[e]at h;cases h
  |some us=>
   rw[e]at h
   obtain⟨vs,r1,r2⟩:=AC8 A87 (show AR6 (BT0 K) us=some x from h)
   exact⟨.ref c,rfl,c,vs,rfl,AE1 e r1,r2⟩
 ·cases h
theorem Af8 {K:PySem.W.Frag}(u:Value)(x:List (List RP))(h:AN5 K u=some x):∃v,RelV v u/\z5 K v x:=by
 unfold AN5 at h
 split at h
 ·rename_i c
  cases e:(K.lookup c).bind AL2 with
  |none=>rw[e]at h;cases h
  |some us=>
   rw[e]at h
   obtain⟨vs,r1,r2⟩:=AC8 At6 (show AR6 (Ar6 K) us=some x from h)
   exact⟨.ref c,rfl,c,vs,rfl,AE1 e r1,r2⟩
 ·cases h
noncomputable def A11 (P:Program)(w:World)(K:PySem.W.Frag)(a:Addr)(g:AB9):Prop:=∃kvs:List (Str×V),MDk P w K a (kvs.map fun p=>(Sum.inr p.1,p.2))/\Paired (fun(p:Str×V) (q:Str×List (List RP))=>p.1=q.1/\z5 K p.2 q.2) kvs g
theorem AZ6 {K:PySem.W.Frag}{u:Value}{x:List (List RP)}(h:AN5 K u=some x):∃c,u=.ref c:=by
 unfold AN5 at h
 split at h
 ·exact⟨_,rfl⟩
 ·cases h
theorem AS8 {K:PySem.W.Frag}:∀{es:List DictEntry} {g:AB9},Ad9 K es=some g->∃kvs:List (Str×V),AF8 es=some kvs/\Paired (fun(p:Str×V) (q:Str×List (List RP))=>p.1=q.1/\z5 K p.2 q.2) kvs g
 |[],g,h=>by
  cases h
  exact⟨[],rfl,.nil⟩
 |⟨hs,key,val⟩::r,g,h=>by
  unfold Ad9 at h
  split at h
  ·cases h
   rename_i e
   cases e
  ·rename_i hs' x t val' r' e
   cases e
   split at h
   ·rename_i w l h1 h2
    cases h
    obtain⟨kvs,r1,r2⟩:=AS8 h2
    obtain⟨v,rv,hv⟩:=Af8 val w h1
    obtain⟨c,rfl⟩:=AZ6 h1
    obtain⟨b,vs,rfl,hb⟩:=id hv
    have e1:BX7 ⟨hs,.str x t,.ref c⟩=some (x,V.ref b):=by
     cases rv
     rfl
    refine⟨(x,.ref b)::kvs,?_,.cons ⟨rfl,hv⟩ r2⟩
    show(match BX7 ⟨hs,.str x t,.ref c⟩,AF8 r with |some x,some l=>some (x::l) |_,_=>none)=_
    rw[e1,r1]
   ·cases h
  ·cases h
theorem A97 {P:Program}{w:World}{K:PySem.W.Frag}{a:Addr}{es:Array DictEntry}{n:Nat}{g:AB9}(hl:K.lookup a=some ⟨.type "dict",none,.dict es n,#[]⟩)(hk:PySem.W.KeysLit w.params es.toList)(h:Ad9 K es.toList=some g)
  (nd:(g.map (·.1)).Nodup) (ha:(a==sysModules)=false):A11 P w K a g:=by
 obtain⟨kvs,r1,r2⟩:=AS8 h
 refine⟨kvs,BY1 hl hk r1 ?_ ha,r2⟩
 have e:kvs.map (·.1)=g.map (·.1):=by
  clear r1 h nd
  induction r2 with
  |nil=>rfl
  |cons h _ ih=>rw[List.map_cons,List.map_cons,ih,h.1]
 rw[List.map_map]
 have e2:((fun(x:Key×V)=>x.1)∘fun(p:Str×V)=>((Sum.inr p.1,p.2):Key×V))=fun p=>Sum.inr p.1:=rfl
 rw[e2]
 have e3:(kvs.map fun p=>(Sum.inr p.1:Key))=(kvs.map (·.1)).map Sum.inr:=by rw[List.map_map];rfl
 rw[e3,e]
 refine(List.pairwise_map.mpr ?_)
 exact nd.imp fun h q=>h (Sum.inr.inj q)
end Rk
namespace Rk
open PySem PySem.Spec PyProof.Rows L2 Tk
noncomputable def look (g:AB9)(x:Str):Option (List (List RP)):=(g.find? fun p=>decide (p.1=x)).map (·.2)
theorem Ay0 {K:PySem.W.Frag}{kvs:List (Str×V)}{g:AB9}(h:Paired (fun(p:Str×V) (q:Str×List (List RP))=>p.1=q.1/\z5 K p.2 q.2) kvs g)(x:Str):
  (look g x=none/\O9 (kvs.map fun p=>((Sum.inr p.1,p.2):Key×V)) (Sum.inr x)=none)∨∃ws v,look g x=some ws/\O9 (kvs.map fun p=>((Sum.inr p.1,p.2):Key×V)) (Sum.inr x)=some v/\z5 K v ws:=by
 induction h with
 |nil=>exact .inl ⟨rfl,rfl⟩
 | @cons p q ps qs hpq _ ih=>
  by_cases c:q.1=x
  ·refine .inr ⟨q.2,p.2,?_,?_,hpq.2⟩
   ·unfold look
    rw[List.find?_cons,decide_eq_true c]
    rfl
   ·rw[List.map_cons]
    exact G5 (by rw[hpq.1,c])
  ·have e1:look (q::qs) x=look qs x:=by
    unfold look
    rw[List.find?_cons,decide_eq_false c]
   have e2:O9 ((p::ps).map fun p=>((Sum.inr p.1,p.2):Key×V)) (Sum.inr x)=O9 (ps.map fun p=>((Sum.inr p.1,p.2):Key×V)) (Sum.inr x):=by
    rw[List.map_cons]
    unfold O9
    rw[List.find?_cons,decide_eq_false (fun z=>c (by rw[←hpq.1];exact Sum.inr.inj z))]
   rw[e1,e2]
   exact ih
structure TxG (P:Program)(w:World)(K:PySem.W.Frag)(mg:Str->Option Value)(g:AB9):Prop where
 isi:mg "isinstance"=none
 str:mg "str"=none
 tup:mg "tuple"=none
 kt:PySem.W.kitOne K (.type "tuple") (.type "str")=some false
 gr:∃a,mg "GRAMMAR"=some (.ref a)/\A11 P w K a g
theorem AO9:bootBuiltins "tuple"=some (.type "tuple"):=by decide+kernel
theorem Same.tup {K:PySem.W.Frag}{H H':Hp}{a:Addr}{xs:List V}(e:Same H H')(h:SqT K H a xs):SqT K H' a xs:=by
 rcases h with (h |⟨o,h⟩) |h
 ·exact .inl (.inl (e _ _ h))
 ·exact .inl (.inr ⟨o,e _ _ h⟩)
 ·exact .inr h
noncomputable def BJ3 (K:PySem.W.Frag)(H:Hp)(q:Addr)(p:PS3):Prop:=SqT K H q [.str p.1,.str p.2.1,.int p.2.2]
noncomputable def PtsAt (K:PySem.W.Frag)(H:Hp)(a:Addr)(ps:List PS3):Prop:=∃qs:List Addr,SqT K H a (qs.map V.ref)/\Paired (BJ3 K H) qs ps
theorem PtsAt.keep {K:PySem.W.Frag}{H H':Hp}{a:Addr}{ps:List PS3}(h:PtsAt K H a ps)(e:∀a xs,SqT K H a xs->SqT K H' a xs):PtsAt K H' a ps:=by
 obtain⟨qs,h1,h2⟩:=h
 refine⟨qs,e _ _ h1,?_⟩
 clear h1
 induction h2 with
 |nil=>exact .nil
 |cons h _ ih=>exact .cons (e _ _ h) ih
noncomputable def A33 (K:PySem.W.Frag):Sp:=fun vs H Q _=>∃(v:V) (r:RP),vs=[v]/\BT6 K v r/\∀(H':Hp) (q:Addr),Same H H'->BJ3 K H' q r.full->Q (.ref q) H'
section
variable {P:Program} {w:World} {K:PySem.W.Frag} {mg:Str->Option Value} {base:Heap} {g:AB9}
theorem BJ9:B8 ["part"] ["part"] (A7 Aa0):=⟨rfl,rfl,rfl,by decide+kernel,rfl,by decide+kernel,by decide+kernel⟩
theorem BF5 {f:Addr}{fd:FuncData}(F:Fun K "full_part" "full_part" Aa0 f fd)(T:TxG P w K mg g):D3 P w K mg base CX0 1 f fd ["part"] (A33 K):=by
 refine F.ok BJ9 (fun vs H Q E h=>?_) (fun cdv A outer s H vs Q E hr h=>?_)
 ·obtain⟨v,r,rfl,_⟩:=h
  rfl
 ·obtain⟨v,r,rfl,hv,h⟩:=h
  refine⟨_,A2 (E2 (S9 (Ax1 (pv 0) (by rfl) T.isi (by rfl) T.str T.kt)) (A4 (B7 (AA5 (A0 D9 (A0 (pv 0) (A0 A9 A6)))))) C4) (A4 (B7 (pv 0))),?_⟩
  have sz:=sizeLine_eq
  cases r with
  |s x=>
   have e:v=.str x:=hv
   subst e
   exact⟨_,rfl,.inl ⟨x,rfl,_,rfl,AX4 ⟨_,rfl,(by show 3<=sizeLine;omega),fun t ht=>h _ t (B9 ht) (SqT.of A1)⟩⟩⟩
  |t y x n=>
   obtain⟨d,rfl,hd⟩:=hv
   exact⟨_,rfl,.inr ⟨d,_,rfl,hd _,_,rfl,AQ3 ⟨_,rfl,h _ d (Same.refl _) (hd _)⟩⟩⟩
noncomputable def ft (g:AB9):Nat->List Str->List Str->Option (List Str)
 |0,_,_=>none
 |n+1,wt,fd=>match wt.getLast? with
  |none=>some fd
  |some x=>match look g x with
   |some ws=>if wt.length+ws.length<=1000 then ft g n (wt.dropLast++ws.map c8) fd else none
   |none=>if fd.length<1000 then ft g n wt.dropLast (fd++[x])else none
noncomputable def AE0 (g:AB9):Prop:=∀p∈g,∀rs∈p.2,rs.length<=1000/\∃x r,rs=RP.s x::r
noncomputable def Ai5 (g:AB9):Sp:=fun vs H Q _=>∃(x:Str) (n:Nat) (L:List Str),vs=[.str x]/\ft g n [x] []=some L/\∀(H':Hp) (l:Addr),Same H H'->H' l=some (.lst (L.map V.str))->Q (.ref l) H'
theorem As6 {x:Str}{ws:List (List RP)}(h:look g x=some ws):(x,ws)∈g:=by
 unfold look at h
 obtain⟨p,hp,rfl⟩:=Option.map_eq_some_iff.mp h
 have:=List.find?_some hp
 have e:p.1=x:=by simpa using this
 have:=List.mem_of_find?_eq_some hp
 rw[←e]
 exact this
theorem Paired.get {α β:Type}{R:α->β->Prop}{l:List α}{m:List β}(h:Paired R l m):∀{i:Nat} {x:α},l[i]?=some x->∃y,m[i]?=some y/\R x y:=by
 induction h with
 |nil=>intro i x e;simp at e
 |cons hh _ ih=>
  intro i x e
  cases i with
  |zero=>cases e;exact⟨_,rfl,hh⟩
  |succ i=>exact ih (by simpa using e)
theorem BY9 {α:Type}(l:List α):l=[]∨∃l' b,l=l'++[b]:=by
 rcases List.eq_nil_or_concat l with h |⟨a,b,h⟩
 ·exact .inl h
 ·exact .inr ⟨a,b,by rw[h,List.concat_eq_append]⟩
theorem b4:B8 ["symbol","found","waiting","way"] ["symbol"] (A7 AB2):=⟨rfl,rfl,rfl,by decide+kernel,rfl,by decide+kernel,by decide+kernel⟩
theorem Az4 {f:Addr}{fd:FuncData}(F:Fun K "first_tokens" "first_tokens" AB2 f fd)(T:TxG P w K mg g)(hH:AE0 g):D3 P w K mg base CX0 1 f fd ["symbol"] (Ai5 g):=by
 obtain⟨aG,hgr,kvs,hmd,hpr⟩:=T.gr
 refine F.ok b4 (fun vs H Q E h=>?_) (fun cdv A outer s H vs Q E hr h=>?_)
 ·obtain⟨x,n,L,rfl,_⟩:=h
  rfl
 ·obtain⟨x0,n0,L,rfl,hft,h⟩:=h
  have hu:=AX1 hr
  refine⟨_,A2 (C8 (i:=1) b4.nd rfl (Or.inl rfl) (K8 A6))
   (A2 (C8 (i:=2) b4.nd rfl (Or.inl rfl) (K8 (A0 (pv 0) A6)))
   (A2 (M9 PassesOwn.never (k8 (pv 2) (fun _=>rfl))
    (A2 (C8 (i:=0) b4.nd rfl (Or.inl rfl) (z9 PySem.F.plainAttrs_list PySem.F.slot_list_pop PySem.F.type_list_pop AB8 (pv 2)))
    (A4 (E2 (Af1 (Ad4 hu (pv 0) (Q7 hgr)))
     (A4 (E8 (X8 PySem.F.plainAttrs_list PySem.F.slot_list_extend PySem.F.type_list_extend Am4 (pv 2)
      (A0 (Ax0 (own:=[("way",3)]) rfl b4.nd (Ai0 (p7 hu (Q7 hgr) (pv 0) (fun _ _=>rfl))) (m4 (by kernel_rfl)) (fun _ _ _ _ _=>K9 (i:=3) b4.nd rfl (Or.inl rfl)) (fun _ _ _ _ _=>D7)
       (fun _ _ _ _ _=>F5 (show IxR _ (A03 K)from t8) (pv 3) A9 (fun _ _=>rfl))) A6))))
     (A4 (E8 (X8 PySem.F.plainAttrs_list PySem.F.slot_list_append PySem.F.type_list_append F8 (pv 1) (A0 (pv 0) A6))))))))
   (A4 (B7 (pv 1))))),?_⟩
  have sz:=sizeLine_eq
  refine⟨Nat.zero_le _,fun l hl=>⟨_,rfl,(by show 1<=sizeLine;omega),fun wt hwt=>?_⟩⟩
  have nlw:wt≠l:=fun q=>by rw[q,A1]at hwt;cases hwt
  have s0:Same H (upd (upd H l (.lst [])) wt (.lst [V.str x0])):=(B9 hl).trans (B9 hwt)
  refine⟨fun m σ H'=>∃(x:Str) (ws fs:List Str) (v:Option V),σ=[some (.str x),some (.ref l),some (.ref wt),v]/\Same H H'/\H' l=some (.lst (fs.map V.str))/\H' wt=some (.lst (ws.map V.str))/\ft g m ws fs=some L,
   ⟨n0,x0,[x0],[],none,rfl,s0,by rw[A5 (Ne.symm nlw),A1];rfl,A1,hft⟩,?_⟩
  rintro m σ H' ⟨x,ws,fs,v,rfl,sm,hfl,hwl,hf⟩
  cases m with
  |zero=>cases hf
  |succ m=>
   refine⟨_,rfl,!ws.isEmpty,?_,?_⟩
   ·exact .inl ⟨_,SqL.of hwl,by cases ws<;>rfl⟩
   ·rcases BY9 ws with rfl |⟨ws',y,rfl⟩
    ·refine⟨_,rfl,h H' l sm ?_⟩
     unfold ft at hf
     cases hf
     exact hfl
    ·have hgl:(ws'++[y]).getLast?=some y:=by simp
     have hdl:(ws'++[y]).dropLast=ws':=by simp
     unfold ft at hf
     rw[hgl,hdl]at hf
     dsimp only at hf
     have e1:((ws'++[y]).map V.str)[((ws'++[y]).map V.str).length-1]?=some (V.str y):=by
      rw[List.map_append]
      simp
     have e2:((ws'++[y]).map V.str).dropLast=ws'.map V.str:=by rw[List.map_append];simp
     rw[show(!(ws'++[y]).isEmpty)=true by simp]
     refine⟨_,fun _ _ z=>z,_,rfl,.inl ⟨rfl,_,SqL.of hwl⟩,wt,_,_,rfl,rfl,hwl,e1,?_⟩
     rw[e2]
     have sW:Same H (upd H' wt (.lst (ws'.map V.str))):=fun b o e=>by
      rw[A5 (B0 (B9 hl _ _ e) hwt)]
      exact sm _ _ e
     have hf1:(upd H' wt (.lst (ws'.map V.str))) l=some (.lst (fs.map V.str)):=by rw[A5 (Ne.symm nlw)];exact hfl
     have hw1:(upd H' wt (.lst (ws'.map V.str))) wt=some (.lst (ws'.map V.str)):=A1
     generalize (upd H' wt (.lst (ws'.map V.str)))=H1 at sW hf1 hw1 ⊢
     rcases Ay0 hpr y with ⟨g1,g2⟩ |⟨wys,vv,g1,g2,g3⟩
     ·rw[g1]at hf
      dsimp only at hf
      by_cases c:fs.length<1000
      ·have hf:ft g m ws' (fs++[y])=some L:=by rw[if_pos c]at hf;exact hf
       refine⟨_,rfl,aG,none,rfl,.inl ⟨_,Sum.inr y,hmd.mdict,rfl,g2.symm⟩,_,rfl,AQ3 ?_⟩
       refine⟨_,rfl,.inl ⟨rfl,_,SqL.of hf1⟩,_,rfl,l,_,_,rfl,rfl,hf1,(by rw[List.length_map];omega),?_⟩
       refine⟨m,Nat.lt_succ_self _,y,ws',fs++[y],v,rfl,fun b o e=>?_,?_,?_,hf⟩
       ·rw[A5 (B0 e hl)];exact sW _ _ e
       ·rw[A1,List.map_append];rfl
       ·rw[A5 nlw];exact hw1
      ·rw[if_neg c]at hf;cases hf
     ·rw[g1]at hf
      dsimp only at hf
      by_cases c:(ws'++[y]).length+wys.length<=1000
      ·have hf:ft g m (ws'++wys.map c8) fs=some L:=by rw[if_pos c]at hf;exact hf
       have c':ws'.length+wys.length<=1000:=by rw[List.length_append]at c;omega
       obtain⟨b,wvs,rfl,hb1,hb2⟩:=g3
       have hwlen:wvs.length=wys.length:=Paired.length hb2
       refine⟨_,rfl,aG,_,rfl,.inl ⟨_,Sum.inr y,hmd.mdict,rfl,g2.symm⟩,_,rfl,AX4 ?_⟩
       refine⟨_,rfl,.inl ⟨rfl,_,SqL.of hw1⟩,?_⟩
       refine⟨_,rfl,aG,_,rfl,.inl ⟨_,Sum.inr y,hmd.mdict,rfl,g2.symm⟩,b,rfl,⟨_,hb1 _⟩,fun D hD=>A42 (K:=K) (a:=b) (xs:=wvs) (fun i H2=>Same H1 H2/\H2 D=some (.lst (((wys.take i).map c8).map V.str)))
        ⟨B9 hD,A1⟩ (fun i H2 _ _=>hb1 _) ?_ ?_⟩
       ·rintro i wv H2 hi ⟨sm2,hD2⟩
        obtain⟨rs,hrs,c2,rvs,rfl,hc1,hc2⟩:=Paired.get hb2 hi
        obtain⟨_,x1,r1,e3⟩:=hH _ (As6 g1) rs (List.mem_of_getElem? hrs)
        subst e3
        cases hc2 with
        | @cons v0 _ vr _ h0 _=>
         have h0:v0=.str x1:=h0
         subst h0
         refine⟨rfl,_,rfl,c2,_,_,_,rfl,rfl,hc1 _,D6 (j:=0) (show(V.str x1::vr)[0]?=some (V.str x1)from rfl),_,hD2,(by rw[List.length_map,List.length_map,List.length_take];omega),fun b' o e=>?_,?_⟩
         ·rw[A5 (B0 e hD)];exact sm2 _ _ e
         ·rw[A1,J6 hrs,List.map_append,List.map_append];rfl
       ·rintro H2 ⟨sm2,hD2⟩
        have e4:wys.take wvs.length=wys:=List.take_of_length_le (by omega)
        rw[e4]at hD2
        have hw2:=sm2 _ _ hw1
        refine⟨wt,D,_,_,rfl,rfl,hw2,hD2,(by simp only[List.length_map];omega),?_⟩
        refine⟨m,Nat.lt_succ_self _,y,ws'++wys.map c8,fs,v,rfl,fun b' o e=>?_,?_,?_,hf⟩
        ·rw[A5 (B0 (B9 hl _ _ e) hwt)];exact sm2 _ _ (sW _ _ e)
        ·rw[A5 (Ne.symm nlw)];exact sm2 _ _ hf1
        ·rw[A1,List.map_append]
      ·rw[if_neg c]at hf;cases hf
end
end Rk
namespace Rk
open PySem PySem.Spec PyProof.Rows L2 Tk
noncomputable abbrev Put:=Str×Str×List PS3
noncomputable def Aj7 (g:AB9)(rule:Str)(rs:List RP):List Put:=((ft g 1000 [c8 rs] []).getD []).map fun y=>(rule,y,rs.map RP.full)
noncomputable def i3 (g:AB9)(rule:Str)(ws:List (List RP)):List Put:=ws.flatMap (Aj7 g rule)
noncomputable def f9 (g:AB9)(l:AB9):List Put:=l.flatMap fun p=>i3 g p.1 p.2
noncomputable def Aa8 (puts:List Put)(x y:Str):Option (List PS3):=puts.foldl (fun a q=>if q.1=x/\q.2.1=y then some q.2.2 else a) none
theorem Ab9 (puts:List Put)(q:Put)(x y:Str):Aa8 (puts++[q]) x y=if q.1=x/\q.2.1=y then some q.2.2 else Aa8 puts x y:=by
 unfold Aa8
 rw[List.foldl_append]
 rfl
noncomputable def WT (K:PySem.W.Frag)(H:Hp)(kvs:List (List Key×V))(puts:List Put):Prop:=kvs.length<=puts.length/\∀x y:Str,match Aa8 puts x y with
 |none=>O9 kvs [Sum.inr x,Sum.inr y]=none
 |some ps=>∃p,O9 kvs [Sum.inr x,Sum.inr y]=some (.ref p)/\PtsAt K H p ps
theorem WT.nil {K:PySem.W.Frag}{H:Hp}:WT K H [] []:=⟨Nat.le_refl _,fun _ _=>rfl⟩
theorem WT.keep {K:PySem.W.Frag}{H H':Hp}{kvs:List (List Key×V)}{puts:List Put}(h:WT K H kvs puts)(e:∀a xs,SqT K H a xs->SqT K H' a xs):WT K H' kvs puts:=by
 refine⟨h.1,fun x y=>?_⟩
 have h2:=h.2 x y
 cases q:Aa8 puts x y with
 |none=>rw[q]at h2;exact h2
 |some ps=>
  rw[q]at h2
  obtain⟨p,h3,h4⟩:=h2
  exact⟨p,h3,h4.keep e⟩
theorem Ar3 {κ:Type}[DecidableEq κ](kvs:List (κ×V))(k:κ)(v:V):(AO3 kvs k v).length<=kvs.length+1:=by
 unfold AO3
 split
 ·rw[List.length_map];omega
 ·rw[List.length_append];simp
theorem WT.put {K:PySem.W.Frag}{H:Hp}{kvs:List (List Key×V)}{puts:List Put}{x y:Str}{p:Addr}{ps:List PS3}(h:WT K H kvs puts)(hp:PtsAt K H p ps):WT K H (AO3 kvs [Sum.inr x,Sum.inr y] (.ref p)) (puts++[(x,y,ps)]):=by
 refine⟨?_,fun x' y'=>?_⟩
 ·have:=Ar3 kvs [Sum.inr x,Sum.inr y] (.ref p)
  have:=h.1
  rw[List.length_append]
  simp only[List.length_cons,List.length_nil]
  omega
 ·rw[Ab9,Aq6]
  by_cases c:x=x'/\y=y'
  ·obtain⟨rfl,rfl⟩:=c
   rw[if_pos ⟨rfl,rfl⟩,if_pos rfl]
   exact⟨p,rfl,hp⟩
  ·rw[if_neg c,if_neg (fun q=>c (by
    injection q with q1 q2
    injection q2 with q3 _
    exact⟨(Sum.inr.inj q1).symm,(Sum.inr.inj q3).symm⟩))]
   exact h.2 x' y'
theorem Ae7 {K:PySem.W.Frag}{H:Hp}{d:Addr}{u o:HO}(hd:H d=some u)(h1:∀xs,u≠.tup xs)(h2:∀o xs,u≠.frz o (.tup xs)):∀a xs,SqT K H a xs->SqT K (upd H d o) a xs:=by
 intro a xs h
 rcases h with (h |⟨o',h⟩) |h
 ·exact .inl (.inl (by rw[A5 (D8 h hd (fun z=>h1 _ z.symm))];exact h))
 ·exact .inl (.inr ⟨o',by rw[A5 (D8 h hd (fun z=>h2 _ _ z.symm))];exact h⟩)
 ·exact .inr h
theorem A26 {K:PySem.W.Frag}{H:Hp}{d:Addr}{kvs:List (List Key×V)}{o:HO}(hd:H d=some (.dT kvs)):∀a xs,SqT K H a xs->SqT K (upd H d o) a xs:=Ae7 hd (fun _ z=>by cases z) (fun _ _ z=>by cases z)
theorem BO8 {K:PySem.W.Frag}{H:Hp}{d:Addr}{xs:List V}{o:HO}(hd:H d=some (.lst xs)):∀a xs,SqT K H a xs->SqT K (upd H d o) a xs:=Ae7 hd (fun _ z=>by cases z) (fun _ _ z=>by cases z)
theorem AB6 {K:PySem.W.Frag}{H H':Hp}(h:Same H H'):∀a xs,SqT K H a xs->SqT K H' a xs:=fun _ _ x=>Same.tup h x
theorem AH0 {K:PySem.W.Frag}{H H':Hp}{qs:List Addr}{ps:List PS3}(h:Paired (BJ3 K H) qs ps)(e:∀a xs,SqT K H a xs->SqT K H' a xs):Paired (BJ3 K H') qs ps:=by
 induction h with
 |nil=>exact .nil
 |cons h _ ih=>exact .cons (e _ _ h) ih
theorem AQ9 {α β:Type}{R:α->β->Prop}{l:List α}{m:List β}{a:α}{b:β}(h:Paired R l m)(hb:R a b):Paired R (l++[a]) (m++[b]):=by
 induction h with
 |nil=>exact .cons hb .nil
 |cons h _ ih=>exact .cons h ih
theorem BJ4 {kvs:List (Key×V)}:(kvs.map (·.1)).Nodup->∀{i:Nat} {k:Key} {v:V},kvs[i]?=some (k,v)->O9 kvs k=some v:=by
 induction kvs with
 |nil=>intro _ i k v h;simp at h
 |cons p r ih=>
  intro nd i k v h
  rw[List.map_cons,List.nodup_cons]at nd
  cases i with
  |zero=>
   have h:p=(k,v):=by simpa using h
   subst h
   exact G5 rfl
  |succ i=>
   have h:r[i]?=some (k,v):=by simpa using h
   have hm:k∈r.map (·.1):=List.mem_map.mpr ⟨(k,v),List.mem_of_getElem? h,rfl⟩
   rw[J2 (fun q=>nd.1 (by rw[q];exact hm))]
   exact ih nd.2 h
theorem Y3 {α β:Type}(f:α->List β){l:List α}{i:Nat}{x:α}(h:l[i]?=some x):(l.take (i+1)).flatMap f=(l.take i).flatMap f++f x:=by
 rw[J6 h,List.flatMap_append]
 simp
theorem Ae3 {α β:Type}(f:α->List β)(l:List α)(i:Nat):((l.take i).flatMap f).length<=(l.flatMap f).length:=by
 have:l.flatMap f=(l.take i).flatMap f++(l.drop i).flatMap f:=by rw[←List.flatMap_append,List.take_append_drop]
 rw[this,List.length_append]
 omega
theorem BD6 {K:PySem.W.Frag}{kvs:List (Str×V)}{g:AB9}(h:Paired (fun(p:Str×V) (q:Str×List (List RP))=>p.1=q.1/\z5 K p.2 q.2) kvs g):kvs.map (·.1)=g.map (·.1):=by
 induction h with
 |nil=>rfl
 |cons h _ ih=>rw[List.map_cons,List.map_cons,ih,h.1]
noncomputable def BU0 (g:AB9):Prop:=∀p∈g,∀rs∈p.2,(ft g 1000 [c8 rs] []).isSome=true
noncomputable def A24 (K:PySem.W.Frag)(g:AB9):Sp:=fun vs H Q _=>vs=[]/\∀(H':Hp) (d:Addr) (kvs:List (List Key×V)),Same H H'->H d=none->H' d=some (.dT kvs)->WT K H' kvs (f9 g g)->Q (.ref d) H'
section
variable {P:Program} {w:World} {K:PySem.W.Frag} {mg:Str->Option Value} {base:Heap} {g:AB9}
theorem c9:B8 ["ways","rule","way","parts","token","part"] [] (A7 Ac1):=⟨rfl,rfl,rfl,by decide+kernel,rfl,by decide+kernel,by decide+kernel⟩
theorem A70 {f fU fT:Addr}{fd fdU fdT:FuncData}(F:Fun K "ways_by_token" "ways_by_token" Ac1 f fd)(T:TxG P w K mg g)(hH:AE0 g)(hF:BU0 g)(hN:(g.map (·.1)).Nodup)(hL:(f9 g g).length<=1000)
  (U:Fn K mg "full_part" Aa0 ["part"] fU fdU) (N:Fn K mg "first_tokens" AB2 ["symbol"] fT fdT):D3 P w K mg base CX0 2 f fd [] (A24 K g):=by
 have GU:D3 P w K mg base CX0 1 fU fdU ["part"] (A33 K):=BF5 U.F T
 have GN:D3 P w K mg base CX0 1 fT fdT ["symbol"] (Ai5 g):=Az4 N.F T hH
 obtain⟨aG,hgr,kvs,hmd,hpr⟩:=T.gr
 refine F.ok c9 (fun vs H Q E h=>?_) (fun cdv A outer s H vs Q E hr h=>?_)
 ·obtain⟨rfl,_⟩:=h
  rfl
 ·obtain⟨rfl,h⟩:=h
  have hu:=AX1 hr
  refine⟨_,A2 (C8 (i:=0) c9.nd rfl (Or.inl rfl) Ax7)
   (A2 (Y0 PassesOwn.never rfl (AY8 (Q7 hgr)) (K9 (i:=1) c9.nd rfl (Or.inl rfl))
    (A4 (Y0 PassesOwn.never rfl (Ai0 (p7 hu (Q7 hgr) (pv 1) (fun _ _=>rfl))) (K9 (i:=2) c9.nd rfl (Or.inl rfl))
     (A2 (C8 (i:=3) c9.nd rfl (Or.inl rfl) (Ae0 AC9 (by rfl) T.tup AO9 (A0 (Ax0 (own:=[("part",5)]) rfl c9.nd (Ai0 (pv 2)) (m4 (by kernel_rfl)) (fun _ _ _ _ _=>K9 (i:=5) c9.nd rfl (Or.inl rfl)) (fun _ _ _ _ _=>D7)
       (fun _ _ _ _ _=>D5 U GU hr (A0 (pv 5) A6))) A6)))
     (A4 (Y0 PassesOwn.never rfl (T3 (D5 N GN hr (A0 (F5 t8 (pv 2) A9 (fun _ _=>rfl)) A6))) (K9 (i:=4) c9.nd rfl (Or.inl rfl))
      (A4 (BE6 hu (pv 0) (AA5 (A0 (pv 1) (A0 (pv 4) A6))) (pv 3) rfl))))))))
   (A4 (B7 (pv 0)))),?_⟩
  have sz:=sizeLine_eq
  have hlen:kvs.length=g.length:=Paired.length hpr
  have hnd:((kvs.map fun p=>((Sum.inr p.1,p.2):Key×V)).map (·.1)).Nodup:=by
   have e:=BD6 hpr
   rw[List.map_map]
   have e3:kvs.map ((fun(x:Key×V)=>x.1)∘fun p=>((Sum.inr p.1,p.2):Key×V))=(kvs.map (·.1)).map Sum.inr:=by rw[List.map_map];rfl
   rw[e3,e]
   exact List.pairwise_map.mpr (hN.imp fun h q=>h (Sum.inr.inj q))
  refine fun d hd=>⟨aG,_,rfl,hmd,Al1 (fun i σ H'=>∃(v1 v2 v3 v4 v5:Option V) (ds:List (List Key×V)),σ=[some (.ref d),v1,v2,v3,v4,v5]/\Same H H'/\H' d=some (.dT ds)/\WT K H' ds (f9 g (g.take i)))
   ⟨none,none,none,none,none,[],rfl,B9 hd,A1,WT.nil⟩ ?_ ?_⟩
  ·rintro i k v σ H1 hi ⟨v1,v2,v3,v4,v5,ds,rfl,s1,hd1,wt1⟩
   obtain⟨⟨rule,v'⟩,hkv,hke⟩:∃p,kvs[i]?=some p/\(k,v)=((Sum.inr p.1,p.2):Key×V):=by
    rw[List.getElem?_map]at hi
    cases e:kvs[i]? with
    |none=>rw[e]at hi;cases hi
    |some z=>rw[e]at hi;exact⟨z,rfl,(Option.some.inj hi).symm⟩
   cases hke
   obtain⟨⟨rule2,ws⟩,hgi,he,hws⟩:=Paired.get hpr hkv
   have he:rule=rule2:=he
   subst he
   have hval:O9 (kvs.map fun p=>((Sum.inr p.1,p.2):Key×V)) (Sum.inr rule)=some v':=by
    refine BJ4 hnd (i:=i) ?_
    rw[List.getElem?_map,hkv]
    rfl
   obtain⟨b,wvs,e0,hb1,hb2⟩:=hws
   have e0:v'=.ref b:=e0
   subst e0
   have hwl:wvs.length=ws.length:=Paired.length hb2
   refine⟨_,rfl,aG,_,rfl,.inl ⟨_,Sum.inr rule,hmd.mdict,rfl,hval.symm⟩,b,rfl,⟨_,hb1 _⟩,BF8 (K:=K) (a:=b) (xs:=wvs) (fun j σ H'=>∃(v2 v3 v4 v5:Option V) (ds:List (List Key×V)),σ=[some (.ref d),some (.str rule),v2,v3,v4,v5]/\Same H H'/\H' d=some (.dT ds)/\WT K H' ds (f9 g (g.take i)++i3 g rule (ws.take j)))
    ⟨v2,v3,v4,v5,ds,rfl,s1,hd1,by rw[show i3 g rule (ws.take 0)=[]from rfl,List.append_nil];exact wt1⟩ (fun _ _ _ _ _=>hb1 _) ?_ ?_⟩
   ·rintro j wv σ H2 hj ⟨v2,v3,v4,v5,ds,rfl,s2,hd2,wt2⟩
    obtain⟨rs,hrs,c,rvs,rfl,hc1,hc2⟩:=Paired.get hb2 hj
    have hmem:rs∈ws:=List.mem_of_getElem? hrs
    have hgm:(rule,ws)∈g:=List.mem_of_getElem? hgi
    obtain⟨hr1000,x1,r1,e3⟩:=hH _ hgm rs hmem
    have hrl:rvs.length=rs.length:=Paired.length hc2
    refine⟨_,rfl,c,rfl,⟨_,hc1 _⟩,fun D hD=>A42 (K:=K) (a:=c) (xs:=rvs) (fun m H3=>Same H2 H3/\∃qs:List Addr,H3 D=some (.lst (qs.map V.ref))/\Paired (BJ3 K H3) qs ((rs.take m).map RP.full))
     ⟨B9 hD,[],A1,.nil⟩ (fun _ _ _ _=>hc1 _) ?_ ?_⟩
    ·rintro m pv' H3 hm ⟨s3,qs,hD3,hq3⟩
     obtain⟨rp,hrp,hat⟩:=Paired.get hc2 hm
     refine⟨rfl,_,rfl,pv',rp,rfl,hat,fun H4 q s4 hq=>⟨_,s4 _ _ hD3,?_,?_,qs++[q],?_,?_⟩⟩
     ·have:=Paired.length hq3
      rw[List.length_map,List.length_take]at this
      rw[List.length_map]
      omega
     ·exact fun b' o e=>by rw[A5 (B0 e hD)];exact s4 _ _ (s3 _ _ e)
     ·rw[A1,List.map_append];rfl
     ·rw[J6 hrp,List.map_append]
      exact AH0 (AQ9 (AH0 hq3 (AB6 s4)) hq) (BO8 (s4 _ _ hD3))
    ·rintro H3 ⟨s3,qs,hD3,hq3⟩
     refine⟨D,_,rfl,.inl ⟨SqL.of hD3,fun p hp=>?_⟩⟩
     rw[hrl,List.take_length]at hq3
     have s4:Same H2 (upd H3 p (.tup (qs.map V.ref))):=s3.trans (B9 hp)
     have hp4:PtsAt K (upd H3 p (.tup (qs.map V.ref))) p (rs.map RP.full):=⟨qs,SqT.of A1,AH0 hq3 (AB6 (B9 hp))⟩
     generalize (upd H3 p (.tup (qs.map V.ref)))=H4 at s4 hp4 ⊢
     obtain⟨L,hft⟩:=Option.isSome_iff_exists.mp (hF _ hgm rs hmem)
     have ef:c8 rs=x1:=by rw[e3];rfl
     have eW:Aj7 g rule rs=L.map fun y=>(rule,y,rs.map RP.full):=by unfold Aj7;rw[hft];rfl
     have hv0:rvs[0]?=some (.str x1):=by
      subst e3
      cases hc2 with
      | @cons v0 _ vr _ h0 _=>
       have h0:v0=.str x1:=h0
       rw[h0]
       rfl
     rw[ef]at hft
     have hLb:(f9 g (g.take i)).length+(i3 g rule (ws.take j)).length+L.length<=1000:=by
      have a1:=Ae3 (fun p:Str×List (List RP)=>i3 g p.1 p.2) g (i+1)
      rw[Y3 _ hgi,List.length_append]at a1
      have a2:=Ae3 (Aj7 g rule) ws (j+1)
      rw[Y3 _ hrs,List.length_append,eW,List.length_map]at a2
      have a1:(f9 g (g.take i)).length+(i3 g rule ws).length<=(f9 g g).length:=a1
      have a2:(i3 g rule (ws.take j)).length+L.length<=(i3 g rule ws).length:=a2
      omega
     refine⟨_,rfl,c,_,_,_,rfl,rfl,hc1 _,D6 (j:=0) hv0,x1,1000,L,rfl,hft,fun H5 l s5 hl5=>⟨l,rfl,⟨_,SqL.of hl5⟩,U2 (K:=K) (a:=l) (xs:=L.map V.str)
      (fun m σ H'=>∃(v4 v5:Option V) (ds:List (List Key×V)),σ=[some (.ref d),some (.str rule),some (.ref c),some (.ref p),v4,v5]/\Same H H'/\H' l=some (.lst (L.map V.str))/\PtsAt K H' p (rs.map RP.full)/\H' d=some (.dT ds)/\WT K H' ds (f9 g (g.take i)++i3 g rule (ws.take j)++(L.take m).map fun y=>(rule,y,rs.map RP.full)))
      ⟨v4,v5,ds,rfl,s2.trans (s4.trans s5),hl5,hp4.keep (AB6 s5),s5 _ _ (s4 _ _ hd2),?_⟩ ?_ ?_ ?_⟩⟩
     ·rw[show(L.take 0).map (fun y=>((rule,y,rs.map RP.full):Put))=[]from rfl,List.append_nil]
      exact wt2.keep (AB6 (s4.trans s5))
     ·rintro m σ H' _ ⟨v4,v5,ds,rfl,s6,hl6,_⟩
      exact SqL.of hl6
     ·rintro m y σ H6 hm ⟨v4,v5,ds,rfl,s6,hl6,hp6,hd6,wt6⟩
      obtain⟨tk,htk,rfl⟩:=u9 hm
      refine⟨_,rfl,_,rfl,_,rfl,_,rfl,(by show 2<=sizeLine;omega),fun t ht=>?_⟩
      have nd:d≠t:=B0 hd6 ht
      have nl:l≠t:=B0 hl6 ht
      have nld:l≠d:=D8 hl6 hd6 (by intro z;cases z)
      have wt7:=wt6.keep (AB6 (B9 (o:=.tup [V.str rule,V.str tk]) ht))
      have hp7:=hp6.keep (AB6 (B9 (o:=.tup [V.str rule,V.str tk]) ht))
      have hd7:(upd H6 t (.tup [V.str rule,V.str tk])) d=some (.dT ds):=by rw[A5 nd];exact hd6
      refine⟨d,_,rfl,DPut.t (k:=[Sum.inr rule,Sum.inr tk]) hd7 A1 ?_,?_⟩
      ·have:=wt6.1
       have e9:(L.take m).length<=L.length:=by rw[List.length_take];omega
       simp only[List.length_append,List.length_map]at this
       omega
      ·refine⟨_,_,_,rfl,fun b' o e=>?_,?_,hp7.keep (A26 hd7),A1,?_⟩
       ·rw[A5 (B0 e hd)]
        exact B9 ht _ _ (s6 _ _ e)
       ·rw[A5 nld,A5 nl];exact hl6
       ·have:=(wt7.put (x:=rule) (y:=tk) hp7).keep (A26 (o:=.dT (AO3 ds [Sum.inr rule,Sum.inr tk] (.ref p))) hd7)
        rw[J6 htk,List.map_append,←List.append_assoc]
        exact this
     ·rintro σ H6 ⟨v4,v5,ds,rfl,s6,hl6,hp6,hd6,wt6⟩
      refine⟨_,_,_,_,ds,rfl,s6,hd6,?_⟩
      rw[List.length_map,List.take_length]at wt6
      rw[show i3 g rule (ws.take (j+1))=i3 g rule (ws.take j)++Aj7 g rule rs from Y3 _ hrs,eW,←List.append_assoc]
      exact wt6
   ·rintro σ H2 ⟨v2,v3,v4,v5,ds,rfl,s2,hd2,wt2⟩
    refine⟨_,_,_,_,_,ds,rfl,s2,hd2,?_⟩
    rw[show f9 g (g.take (i+1))=f9 g (g.take i)++i3 g rule ws from Y3 _ hgi]
    rw[hwl,List.take_length]at wt2
    exact wt2
  ·rintro σ H1 ⟨v1,v2,v3,v4,v5,ds,rfl,s1,hd1,wt1⟩
   refine⟨_,rfl,h H1 d ds s1 hd hd1 ?_⟩
   rw[List.length_map,hlen,List.take_length]at wt1
   exact wt1
end
end Rk
namespace Rk
open PySem PySem.Spec PyProof.Rows L2 Tk
noncomputable def gr:AB9:=[
 ("DECL",[[.s "const",.s "name",.s "=",.s "E",.s ";"],[.s "table",.s "name",.s ":",.s "CODE",.s "=",.s "[",.s "E",.t "more" "E" 65535,.s "]",.s ";"],[.s "fn",.s "name",.s "(",.s "name",.t "more" "name" 255,.s ")",.s "=",.s "E",.s ";"],[.s "node",.s "name",.s "(",.s "PORT",.t "more" "PORT" 255,.s ")",.s "->",.s "(",.s "PORT",.t "more" "PORT" 255,.s ")",.s "{",.t "many" "STATE" 256,.t "many" "DO" 256,.s "}"],[.s "graph",.s "name",.s "(",.s "END",.t "more" "END" 255,.s ")",.s "->",.s "(",.s "END",.t "more" "END" 255,.s ")",.s "{",.t "many" "WIRE" 256,.s "}"]]),
 ("CODE",[[.s "u8"],[.s "s8"],[.s "u16"],[.s "s16"],[.s "u32"],[.s "s32"],[.s "u64"],[.s "s64"]]),
 ("KIND",[[.s "CODE",.t "maybe" "INDEXES" 1]]),
 ("PORT",[[.s "name",.s ":",.s "KIND",.t "maybe" "DIVISOR" 1]]),
 ("END",[[.s "name",.s ":",.s "KIND",.s "at",.s "SIZE",.t "maybe" "DIVISOR" 1]]),
 ("DIVISOR",[[.s "/",.s "SIZE"]]),
 ("STATE",[[.s "state",.s "name",.s ":",.s "KIND",.s "=",.s "E",.s ";"]]),
 ("DO",[[.s "let",.s "name",.s "=",.s "E",.s ";"],[.s "name",.t "maybe" "INDEX" 1,.s "=",.s "E",.s ";"]]),
 ("WIRE",[[.s "name",.s "WIRE_NAMED"]]),
 ("WIRE_NAMED",[[.s ",",.s "name",.t "more" "name" 254,.s "=",.s "name",.s "WIRE_INPUTS"],[.s "=",.s "WIRE_SOURCE"]]),
 ("WIRE_SOURCE",[[.s "delay",.s "SIZE",.s "(",.s "E",.s ")",.s "(",.s "name",.s ")",.s ";"],[.s "name",.s "WIRE_TAKEN"]]),
 ("WIRE_TAKEN",[[.s "WIRE_INPUTS"],[.s ";"]]),
 ("WIRE_INPUTS",[[.s "(",.s "name",.t "more" "name" 255,.s ")",.s ";"]]),
 ("SIZE",[[.s "number"],[.s "name"],[.s "(",.s "E",.s ")"]]),
 ("E",[[.s "OR",.t "maybe" "CHOICE" 1],[.s "sum",.s "name",.s "<",.s "SIZE",.s ":",.s "E"],[.s "row",.s "name",.s "<",.s "SIZE",.s ":",.s "E"],[.s "sheet",.s "name",.s ",",.s "name",.s "<",.s "SIZE",.s ",",.s "SIZE",.s ":",.s "E"]]),
 ("CHOICE",[[.s "?",.s "E",.s ":",.s "E"]]),
 ("OR",[[.s "COMPARISON",.t "many" "JOINED" 1048576]]),
 ("JOINED",[[.s "||",.s "COMPARISON"],[.s "&&",.s "COMPARISON"]]),
 ("COMPARISON",[[.s "FORMULA",.t "maybe" "COMPARED" 1]]),
 ("COMPARED",[[.s "<",.s "FORMULA"],[.s "<=",.s "FORMULA"],[.s "==",.s "FORMULA"],[.s "!=",.s "FORMULA"],[.s ">",.s "FORMULA"],[.s ">=",.s "FORMULA"]]),
 ("FORMULA",[[.s "ONE",.t "many" "OPERATED" 1048576]]),
 ("OPERATED",[[.s "|",.s "ONE"],[.s "^",.s "ONE"],[.s "&",.s "ONE"],[.s "<<",.s "ONE"],[.s ">>",.s "ONE"],[.s "+",.s "ONE"],[.s "-",.s "ONE"],[.s "*",.s "ONE"],[.s "/",.s "ONE"],[.s "mod",.s "ONE"]]),
 ("ONE",[[.s "-",.s "ONE"],[.s "~",.s "ONE"],[.s "!",.s "ONE"],[.s "ATOM",.t "many" "BEHIND" 1048576]]),
 ("BEHIND",[[.s "INDEXES"],[.s "@",.s "SIZE"]]),
 ("INDEX",[[.s "[",.s "E",.s "]"]]),
 ("INDEXES",[[.s "[",.s "E",.t "maybe" "SECOND" 1,.s "]"]]),
 ("SECOND",[[.s ",",.s "E"]]),
 ("ATOM",[[.s "number"],[.s "name",.t "maybe" "CALLED" 1],[.s "(",.s "E",.s ")"],[.s "held",.s "CODE",.s "(",.s "E",.s ")"],[.s "wrapped",.s "CODE",.s "(",.s "E",.s ")"],[.s "round",.s "(",.s "E",.s ",",.s "E",.s ")"],[.s "abs",.s "(",.s "E",.s ")"],[.s "min",.s "(",.s "E",.s ",",.s "E",.s ")"],[.s "max",.s "(",.s "E",.s ",",.s "E",.s ")"]]),
 ("CALLED",[[.s "(",.s "E",.t "more" "E" 255,.s ")"]])
]
noncomputable def BC0:List (String×String×List (String×String×Int)):=[
 ("DECL","const",[("once","const",1),("once","name",1),("once","=",1),("once","E",1),("once",";",1)]),
 ("DECL","table",[("once","table",1),("once","name",1),("once",":",1),("once","CODE",1),("once","=",1),("once","[",1),("once","E",1),("more","E",65535),("once","]",1),("once",";",1)]),
 ("DECL","fn",[("once","fn",1),("once","name",1),("once","(",1),("once","name",1),("more","name",255),("once",")",1),("once","=",1),("once","E",1),("once",";",1)]),
 ("DECL","node",[("once","node",1),("once","name",1),("once","(",1),("once","PORT",1),("more","PORT",255),("once",")",1),("once","->",1),("once","(",1),("once","PORT",1),("more","PORT",255),("once",")",1),("once","{",1),("many","STATE",256),("many","DO",256),("once","}",1)]),
 ("DECL","graph",[("once","graph",1),("once","name",1),("once","(",1),("once","END",1),("more","END",255),("once",")",1),("once","->",1),("once","(",1),("once","END",1),("more","END",255),("once",")",1),("once","{",1),("many","WIRE",256),("once","}",1)]),
 ("CODE","u8",[("once","u8",1)]),
 ("CODE","s8",[("once","s8",1)]),
 ("CODE","u16",[("once","u16",1)]),
 ("CODE","s16",[("once","s16",1)]),
 ("CODE","u32",[("once","u32",1)]),
 ("CODE","s32",[("once","s32",1)]),
 ("CODE","u64",[("once","u64",1)]),
 ("CODE","s64",[("once","s64",1)]),
 ("KIND","s64",[("once","CODE",1),("maybe","INDEXES",1)]),
 ("KIND","u64",[("once","CODE",1),("maybe","INDEXES",1)]),
 ("KIND","s32",[("once","CODE",1),("maybe","INDEXES",1)]),
 ("KIND","u32",[("once","CODE",1),("maybe","INDEXES",1)]),
 ("KIND","s16",[("once","CODE",1),("maybe","INDEXES",1)]),
 ("KIND","u16",[("once","CODE",1),("maybe","INDEXES",1)]),
 ("KIND","s8",[("once","CODE",1),("maybe","INDEXES",1)]),
 ("KIND","u8",[("once","CODE",1),("maybe","INDEXES",1)]),
 ("PORT","name",[("once","name",1),("once",":",1),("once","KIND",1),("maybe","DIVISOR",1)]),
 ("END","name",[("once","name",1),("once",":",1),("once","KIND",1),("once","at",1),("once","SIZE",1),("maybe","DIVISOR",1)]),
 ("DIVISOR","/",[("once","/",1),("once","SIZE",1)]),
 ("STATE","state",[("once","state",1),("once","name",1),("once",":",1),("once","KIND",1),("once","=",1),("once","E",1),("once",";",1)]),
 ("DO","let",[("once","let",1),("once","name",1),("once","=",1),("once","E",1),("once",";",1)]),
 ("DO","name",[("once","name",1),("maybe","INDEX",1),("once","=",1),("once","E",1),("once",";",1)]),
 ("WIRE","name",[("once","name",1),("once","WIRE_NAMED",1)]),
 ("WIRE_NAMED",",",[("once",",",1),("once","name",1),("more","name",254),("once","=",1),("once","name",1),("once","WIRE_INPUTS",1)]),
 ("WIRE_NAMED","=",[("once","=",1),("once","WIRE_SOURCE",1)]),
 ("WIRE_SOURCE","delay",[("once","delay",1),("once","SIZE",1),("once","(",1),("once","E",1),("once",")",1),("once","(",1),("once","name",1),("once",")",1),("once",";",1)]),
 ("WIRE_SOURCE","name",[("once","name",1),("once","WIRE_TAKEN",1)]),
 ("WIRE_TAKEN","(",[("once","WIRE_INPUTS",1)]),
 ("WIRE_TAKEN",";",[("once",";",1)]),
 ("WIRE_INPUTS","(",[("once","(",1),("once","name",1),("more","name",255),("once",")",1),("once",";",1)]),
 ("SIZE","number",[("once","number",1)]),
 ("SIZE","name",[("once","name",1)]),
 ("SIZE","(",[("once","(",1),("once","E",1),("once",")",1)]),
 ("E","max",[("once","OR",1),("maybe","CHOICE",1)]),
 ("E","min",[("once","OR",1),("maybe","CHOICE",1)]),
 ("E","abs",[("once","OR",1),("maybe","CHOICE",1)]),
 ("E","round",[("once","OR",1),("maybe","CHOICE",1)]),
 ("E","wrapped",[("once","OR",1),("maybe","CHOICE",1)]),
 ("E","held",[("once","OR",1),("maybe","CHOICE",1)]),
 ("E","(",[("once","OR",1),("maybe","CHOICE",1)]),
 ("E","name",[("once","OR",1),("maybe","CHOICE",1)]),
 ("E","number",[("once","OR",1),("maybe","CHOICE",1)]),
 ("E","!",[("once","OR",1),("maybe","CHOICE",1)]),
 ("E","~",[("once","OR",1),("maybe","CHOICE",1)]),
 ("E","-",[("once","OR",1),("maybe","CHOICE",1)]),
 ("E","sum",[("once","sum",1),("once","name",1),("once","<",1),("once","SIZE",1),("once",":",1),("once","E",1)]),
 ("E","row",[("once","row",1),("once","name",1),("once","<",1),("once","SIZE",1),("once",":",1),("once","E",1)]),
 ("E","sheet",[("once","sheet",1),("once","name",1),("once",",",1),("once","name",1),("once","<",1),("once","SIZE",1),("once",",",1),("once","SIZE",1),("once",":",1),("once","E",1)]),
 ("CHOICE","?",[("once","?",1),("once","E",1),("once",":",1),("once","E",1)]),
 ("OR","max",[("once","COMPARISON",1),("many","JOINED",1048576)]),
 ("OR","min",[("once","COMPARISON",1),("many","JOINED",1048576)]),
 ("OR","abs",[("once","COMPARISON",1),("many","JOINED",1048576)]),
 ("OR","round",[("once","COMPARISON",1),("many","JOINED",1048576)]),
 ("OR","wrapped",[("once","COMPARISON",1),("many","JOINED",1048576)]),
 ("OR","held",[("once","COMPARISON",1),("many","JOINED",1048576)]),
 ("OR","(",[("once","COMPARISON",1),("many","JOINED",1048576)]),
 ("OR","name",[("once","COMPARISON",1),("many","JOINED",1048576)]),
 ("OR","number",[("once","COMPARISON",1),("many","JOINED",1048576)]),
 ("OR","!",[("once","COMPARISON",1),("many","JOINED",1048576)]),
 ("OR","~",[("once","COMPARISON",1),("many","JOINED",1048576)]),
 ("OR","-",[("once","COMPARISON",1),("many","JOINED",1048576)]),
 ("JOINED","||",[("once","||",1),("once","COMPARISON",1)]),
 ("JOINED","&&",[("once","&&",1),("once","COMPARISON",1)]),
 ("COMPARISON","max",[("once","FORMULA",1),("maybe","COMPARED",1)]),
 ("COMPARISON","min",[("once","FORMULA",1),("maybe","COMPARED",1)]),
 ("COMPARISON","abs",[("once","FORMULA",1),("maybe","COMPARED",1)]),
 ("COMPARISON","round",[("once","FORMULA",1),("maybe","COMPARED",1)]),
 ("COMPARISON","wrapped",[("once","FORMULA",1),("maybe","COMPARED",1)]),
 ("COMPARISON","held",[("once","FORMULA",1),("maybe","COMPARED",1)]),
 ("COMPARISON","(",[("once","FORMULA",1),("maybe","COMPARED",1)]),
 ("COMPARISON","name",[("once","FORMULA",1),("maybe","COMPARED",1)]),
 ("COMPARISON","number",[("once","FORMULA",1),("maybe","COMPARED",1)]),
 ("COMPARISON","!",[("once","FORMULA",1),("maybe","COMPARED",1)]),
 ("COMPARISON","~",[("once","FORMULA",1),("maybe","COMPARED",1)]),
 ("COMPARISON","-",[("once","FORMULA",1),("maybe","COMPARED",1)]),
 ("COMPARED","<",[("once","<",1),("once","FORMULA",1)]),
 ("COMPARED","<=",[("once","<=",1),("once","FORMULA",1)]),
 ("COMPARED","==",[("once","==",1),("once","FORMULA",1)]),
 ("COMPARED","!=",[("once","!=",1),("once","FORMULA",1)]),
 ("COMPARED",">",[("once",">",1),("once","FORMULA",1)]),
 ("COMPARED",">=",[("once",">=",1),("once","FORMULA",1)]),
 ("FORMULA","max",[("once","ONE",1),("many","OPERATED",1048576)]),
 ("FORMULA","min",[("once","ONE",1),("many","OPERATED",1048576)]),
 ("FORMULA","abs",[("once","ONE",1),("many","OPERATED",1048576)]),
 ("FORMULA","round",[("once","ONE",1),("many","OPERATED",1048576)]),
 ("FORMULA","wrapped",[("once","ONE",1),("many","OPERATED",1048576)]),
 ("FORMULA","held",[("once","ONE",1),("many","OPERATED",1048576)]),
 ("FORMULA","(",[("once","ONE",1),("many","OPERATED",1048576)]),
 ("FORMULA","name",[("once","ONE",1),("many","OPERATED",1048576)]),
 ("FORMULA","number",[("once","ONE",1),("many","OPERATED",1048576)]),
 ("FORMULA","!",[("once","ONE",1),("many","OPERATED",1048576)]),
 ("FORMULA","~",[("once","ONE",1),("many","OPERATED",1048576)]),
 ("FORMULA","-",[("once","ONE",1),("many","OPERATED",1048576)]),
 ("OPERATED","|",[("once","|",1),("once","ONE",1)]),
 ("OPERATED","^",[("once","^",1),("once","ONE",1)]),
 ("OPERATED","&",[("once","&",1),("once","ONE",1)]),
 ("OPERATED","<<",[("once","<<",1),("once","ONE",1)]),
 ("OPERATED",">>",[("once",">>",1),("once","ONE",1)]),
 ("OPERATED","+",[("once","+",1),("once","ONE",1)]),
 ("OPERATED","-",[("once","-",1),("once","ONE",1)]),
 ("OPERATED","*",[("once","*",1),("once","ONE",1)]),
 ("OPERATED","/",[("once","/",1),("once","ONE",1)]),
 ("OPERATED","mod",[("once","mod",1),("once","ONE",1)]),
 ("ONE","-",[("once","-",1),("once","ONE",1)]),
 ("ONE","~",[("once","~",1),("once","ONE",1)]),
 ("ONE","!",[("once","!",1),("once","ONE",1)]),
 ("ONE","max",[("once","ATOM",1),("many","BEHIND",1048576)]),
 ("ONE","min",[("once","ATOM",1),("many","BEHIND",1048576)]),
 ("ONE","abs",[("once","ATOM",1),("many","BEHIND",1048576)]),
 ("ONE","round",[("once","ATOM",1),("many","BEHIND",1048576)]),
 ("ONE","wrapped",[("once","ATOM",1),("many","BEHIND",1048576)]),
 ("ONE","held",[("once","ATOM",1),("many","BEHIND",1048576)]),
 ("ONE","(",[("once","ATOM",1),("many","BEHIND",1048576)]),
 ("ONE","name",[("once","ATOM",1),("many","BEHIND",1048576)]),
 ("ONE","number",[("once","ATOM",1),("many","BEHIND",1048576)]),
 ("BEHIND","[",[("once","INDEXES",1)]),
 ("BEHIND","@",[("once","@",1),("once","SIZE",1)]),
 ("INDEX","[",[("once","[",1),("once","E",1),("once","]",1)]),
 ("INDEXES","[",[("once","[",1),("once","E",1),("maybe","SECOND",1),("once","]",1)]),
 ("SECOND",",",[("once",",",1),("once","E",1)]),
 ("ATOM","number",[("once","number",1)]),
 ("ATOM","name",[("once","name",1),("maybe","CALLED",1)]),
 ("ATOM","(",[("once","(",1),("once","E",1),("once",")",1)]),
 ("ATOM","held",[("once","held",1),("once","CODE",1),("once","(",1),("once","E",1),("once",")",1)]),
 ("ATOM","wrapped",[("once","wrapped",1),("once","CODE",1),("once","(",1),("once","E",1),("once",")",1)]),
 ("ATOM","round",[("once","round",1),("once","(",1),("once","E",1),("once",",",1),("once","E",1),("once",")",1)]),
 ("ATOM","abs",[("once","abs",1),("once","(",1),("once","E",1),("once",")",1)]),
 ("ATOM","min",[("once","min",1),("once","(",1),("once","E",1),("once",",",1),("once","E",1),("once",")",1)]),
 ("ATOM","max",[("once","max",1),("once","(",1),("once","E",1),("once",",",1),("once","E",1),("once",")",1)]),
 ("CALLED","(",[("once","(",1),("once","E",1),("more","E",255),("once",")",1)])
]
noncomputable def AC1:List Put:=BC0.map fun q=>(Str.ofString q.1,Str.ofString q.2.1,q.2.2.map fun p=>(Str.ofString p.1,Str.ofString p.2.1,p.2.2))
noncomputable def BV3:List Str:=(["abs","at","const","delay","fn","graph","held","let","max","min","node","round","row","sheet","state","sum","table","wrapped","u8","s8","u16","s16","u32","s32","u64","s64"]:List String).map Str.ofString
noncomputable def AO6:List Str:=(["->","<<",">>","<=",">=","==","!=","&&","||","+","-","*","/","mod","&","|","^","~","!","<",">","=","?",":",";",",","@","(",")","[","]","{","}"]:List String).map Str.ofString
end Rk
namespace Rk
open PySem PySem.Spec PyProof.Rows L2 Tk Rd
noncomputable def nameNt:Nt->Str
 |.DECL=>"DECL" |.CODE=>"CODE" |.KIND=>"KIND" |.PORT=>"PORT" |.END=>"END" |.DIVISOR=>"DIVISOR" |.STATE=>"STATE" |.DO=>"DO" |.WIRE=>"WIRE" |.WIRE_NAMED=>"WIRE_NAMED" |.WIRE_SOURCE=>"WIRE_SOURCE" |.WIRE_TAKEN=>"WIRE_TAKEN" |.WIRE_INPUTS=>"WIRE_INPUTS" |.SIZE=>"SIZE" |.E=>"E" |.CHOICE=>"CHOICE" |.OR=>"OR" |.JOINED=>"JOINED" |.COMPARISON=>"COMPARISON" |.COMPARED=>"COMPARED" |.FORMULA=>"FORMULA" |.OPERATED=>"OPERATED" |.ONE=>"ONE" |.BEHIND=>"BEHIND" |.INDEX=>"INDEX" |.INDEXES=>"INDEXES" |.SECOND=>"SECOND" |.ATOM=>"ATOM" |.CALLED=>"CALLED"
noncomputable def B6:Sy->Str
 |.name=>"name"
 |.number=>"number"
 |.kept k=>BV3.getD k ""
 |.sign k=>AO6.getD k ""
 |.nothing=>"nothing"
 |.finish=>"finish"
noncomputable def J4:Sb->Str
 |.t y=>B6 y
 |.n x=>nameNt x
noncomputable def Aq1:Fm->Str
 |.once=>"once"
 |.maybe=>"maybe"
 |.many=>"many"
 |.more=>"more"
 |.fin=>"end"
noncomputable def A36 (p:Pt):PS3:=(Aq1 p.fm,J4 p.sb,(p.room:Int))
theorem Ak6:f9 gr gr=AC1:=by decide+kernel
theorem BK7:∀x∈AY5,∀y∈G6,Aa8 AC1 (nameNt x) (B6 y)=(L7 x y).map (·.map A36):=by decide+kernel
theorem BY8:∀q∈AC1,∀z∈G6,q.1≠B6 z:=by decide+kernel
theorem Aj2 {puts:List Put}{x y:Str}(h:∀q∈puts,q.1≠x):Aa8 puts x y=none:=by
 unfold Aa8
 have:∀a:Option (List PS3),puts.foldl (fun a q=>if q.1=x/\q.2.1=y then some q.2.2 else a) a=a:=by
  induction puts with
  |nil=>intro a;rfl
  |cons q r ih=>
   intro a
   rw[List.foldl_cons,if_neg (fun z=>h q (List.mem_cons_self ..) z.1)]
   exact ih (fun q' hq=>h q' (List.mem_cons_of_mem _ hq)) a
 exact this none
theorem BW6 {z y:Sy}(hz:z∈G6):Aa8 AC1 (B6 z) (B6 y)=none:=Aj2 fun q hq=>BY8 q hq z hz
theorem A22:∀z∈G6,∀y∈G6,decide (B6 z=B6 y)=decide (z=y):=by decide+kernel
theorem BH9:∀x∈AY5,∀y∈G6,nameNt x≠B6 y:=by decide+kernel
theorem BL2 {b:Sb}{y:Sy}(hb:Vb b)(hy:y∈G6):(decide (J4 b=B6 y)||(Aa8 AC1 (J4 b) (B6 y)).isSome)=B2 b y:=by
 cases b with
 |t z=>
  show(decide (B6 z=B6 y)||(Aa8 AC1 (B6 z) (B6 y)).isSome)=decide (z=y)
  rw[A22 z hb y hy,BW6 hb]
  simp
 |n x=>
  show(decide (nameNt x=B6 y)||(Aa8 AC1 (nameNt x) (B6 y)).isSome)=(L7 x y).isSome
  rw[decide_eq_false (BH9 x (M4 x) y hy),BK7 x (M4 x) y hy,Option.isSome_map]
  rfl
noncomputable def x6:List Str:=(["E","ONE","ATOM","SIZE"]:List String).map Str.ofString
theorem A14:∀x∈AY5,inV (.str (nameNt x)) (x6.map V.str)=W7 (.n x):=by decide+kernel
theorem BO1:∀y∈G6,inV (.str (B6 y)) (x6.map V.str)=false:=by decide+kernel
theorem BD7 {b:Sb}(hb:Vb b):inV (.str (J4 b)) (x6.map V.str)=W7 b:=by
 cases b with
 |t y=>exact BO1 y hb
 |n x=>exact A14 x (M4 x)
noncomputable def Aa1:List Str:=(["DECL","PORT","END","STATE","DO","WIRE","SIZE","E","OR","ONE","ATOM","BEHIND"]:List String).map Str.ofString
theorem BM2:∀x∈AY5,inV (.str (nameNt x)) (Aa1.map V.str)=R5 x:=by decide+kernel
theorem Au9:AE0 gr:=by
 unfold AE0
 have h:(gr.all fun p=>p.2.all fun rs=>decide (rs.length<=1000)&&(match rs with |RP.s _::_=>true |_=>false))=true:=by decide+kernel
 intro p hp rs hrs
 have h1:=List.all_eq_true.mp (List.all_eq_true.mp h p hp) rs hrs
 rw[Bool.and_eq_true,decide_eq_true_eq]at h1
 refine⟨h1.1,?_⟩
 have h2:=h1.2
 split at h2
 ·rename_i x r
  exact⟨x,r,rfl⟩
 ·cases h2
theorem BY6:BU0 gr:=by
 unfold BU0
 have h:(gr.all fun p=>p.2.all fun rs=>(ft gr 1000 [c8 rs] []).isSome)=true:=by decide+kernel
 exact fun p hp rs hrs=>List.all_eq_true.mp (List.all_eq_true.mp h p hp) rs hrs
theorem BR5:(gr.map (·.1)).Nodup:=by decide+kernel
theorem BR7:(f9 gr gr).length<=1000:=by rw[Ak6];decide+kernel
end Rk
namespace Rk
open PySem PySem.Spec PyProof.Rows L2 Tk Rd
noncomputable def J7:Kd->Str
 |.PROGRAM=>"PROGRAM" |.n x=>nameNt x |.OPERATOR=>"OPERATOR" |.POST=>"POST" |.SUM=>"SUM" |.CHOICE=>"CHOICE" |.SIGNED=>"SIGNED"
structure NRc where
 il:Addr
 k:Str
 i:Int
 j:Int
 p:Bool
 s:Int
 l:Int
structure NF (fs:List (Str×V))(r:NRc):Prop where
 n:fs.length<=100
 k:fs.lookup ("kind":Str)=some (.str r.k)
 i:fs.lookup ("first":Str)=some (.int r.i)
 j:fs.lookup ("behind":Str)=some (.int r.j)
 il:fs.lookup ("inner":Str)=some (.ref r.il)
 p:fs.lookup ("is_pair":Str)=some (.bl r.p)
 s:fs.lookup ("strength":Str)=some (.int r.s)
 l:fs.lookup ("least":Str)=some (.int r.l)
noncomputable def NO (C:Addr)(H:Hp)(a:Addr)(r:NRc):Prop:=∃dx fs,H a=some (.ins C dx fs)/\NF fs r
theorem NO.keep {C:Addr}{H H':Hp}{a:Addr}{r:NRc}(h:NO C H a r)(k:∀o,H a=some o->H' a=some o):NO C H' a r:=let ⟨dx,fs,e,q⟩:=h;⟨dx,fs,k _ e,q⟩
theorem O3 {f:Str}{v:V}:∀{fs:List (Str×V)},(fs.lookup f).isSome=true->(C1 f v fs).length=fs.length
 |[],h=>by cases h
 |(g,x)::r,h=>by
  unfold C1
  by_cases c:g=f
  ·rw[if_pos c];rfl
  ·rw[if_neg c,List.length_cons,List.length_cons]
   rw[O3]
   rw[List.lookup_cons]at h
   have:(f==g)=false:=beq_eq_false_iff_ne.mpr fun q=>c q.symm
   rw[this]at h
   exact h
theorem B4 {f g:Str}{v:V}{fs:List (Str×V)}{o:Option V}(n:¬f=g)(h:fs.lookup f=o):(C1 g v fs).lookup f=o:=by rw[C9,if_neg n];exact h
theorem K7 {f:Str}{v:V}{fs:List (Str×V)}:(C1 f v fs).lookup f=some v:=by rw[C9,if_pos rfl]
section
variable {fs:List (Str×V)} {r:NRc}
theorem NF.setK (h:NF fs r)(v:Str):NF (C1 "kind" (.str v) fs) {r with k:=v}:=⟨by rw[O3 (by rw[h.k];rfl)];exact h.n,K7,B4 (by decide) h.i,B4 (by decide) h.j,B4 (by decide) h.il,B4 (by decide) h.p,B4 (by decide) h.s,B4 (by decide) h.l⟩
theorem NF.setJ (h:NF fs r)(v:Int):NF (C1 "behind" (.int v) fs) {r with j:=v}:=⟨by rw[O3 (by rw[h.j];rfl)];exact h.n,B4 (by decide) h.k,B4 (by decide) h.i,K7,B4 (by decide) h.il,B4 (by decide) h.p,B4 (by decide) h.s,B4 (by decide) h.l⟩
theorem NF.setI (h:NF fs r)(v:Addr):NF (C1 "inner" (.ref v) fs) {r with il:=v}:=⟨by rw[O3 (by rw[h.il];rfl)];exact h.n,B4 (by decide) h.k,B4 (by decide) h.i,B4 (by decide) h.j,K7,B4 (by decide) h.p,B4 (by decide) h.s,B4 (by decide) h.l⟩
theorem NF.setP (h:NF fs r)(v:Bool):NF (C1 "is_pair" (.bl v) fs) {r with p:=v}:=⟨by rw[O3 (by rw[h.p];rfl)];exact h.n,B4 (by decide) h.k,B4 (by decide) h.i,B4 (by decide) h.j,B4 (by decide) h.il,K7,B4 (by decide) h.s,B4 (by decide) h.l⟩
theorem NF.setS (h:NF fs r)(v:Int):NF (C1 "strength" (.int v) fs) {r with s:=v}:=⟨by rw[O3 (by rw[h.s];rfl)];exact h.n,B4 (by decide) h.k,B4 (by decide) h.i,B4 (by decide) h.j,B4 (by decide) h.il,B4 (by decide) h.p,K7,B4 (by decide) h.l⟩
theorem NF.setL (h:NF fs r)(v:Int):NF (C1 "least" (.int v) fs) {r with l:=v}:=⟨by rw[O3 (by rw[h.l];rfl)];exact h.n,B4 (by decide) h.k,B4 (by decide) h.i,B4 (by decide) h.j,B4 (by decide) h.il,B4 (by decide) h.p,B4 (by decide) h.s,K7⟩
end
structure NdC (K:PySem.W.Frag)(mg:Str->Option Value)(C:Addr):Prop where
 F:∃fI fdI,Mk K C fI/\Fun K "__init__" "Node.__init__" Ab6 fI fdI/\Binds K fdI ["self","kind","first"] []
 cl:Cls K C
 nk:NoAttr K C "kind"
 ni:NoAttr K C "first"
 nj:NoAttr K C "behind"
 nc:NoAttr K C "inner"
 np:NoAttr K C "is_pair"
 ns:NoAttr K C "strength"
 nl:NoAttr K C "least"
 mgC:mg "Node"=some (.ref C)
 sumS:GI mg "SUM_STRENGTH" 0
 choS:GI mg "CHOICE_STRENGTH" 1
 cmpS:GI mg "COMPARISON_STRENGTH" 4
 sgnS:GI mg "SIGNED_STRENGTH" 11
 pstS:GI mg "POST_STRENGTH" 12
 wrdS:GI mg "WORD_STRENGTH" 13
noncomputable def A06 (C:Addr):Sp:=fun vs H Q _=>∃(p dx:Addr) (k:Str) (i:Int),vs=[.ref p,.str k,.int i]/\H p=some (.ins C dx [])/\∀(H':Hp) (il:Addr),NO C H' p ⟨il,k,i,i,false,13,0⟩->H' il=some (.lst [])->H il=none->(∀b o,H b=some o->b≠p->H' b=some o)->Q .non H'
section
variable {P:Program} {w:World} {K:PySem.W.Frag} {mg:Str->Option Value} {base:Heap}
theorem BO3:B8 ["self","kind","first"] ["self","kind","first"] (A7 Ab6):=⟨rfl,rfl,rfl,by decide+kernel,rfl,by decide+kernel,by decide+kernel⟩
theorem BG8 {C fI:Addr}{fdI:FuncData}(X:NdC K mg C)(F:Fun K "__init__" "Node.__init__" Ab6 fI fdI):D3 P w K mg base CX0 1 fI fdI ["self","kind","first"] (A06 C):=by
 refine F.ok BO3 (fun vs H Q E h=>?_) (fun cdv A outer s H vs Q E hr h=>?_)
 ·obtain⟨p,dx,k,i,rfl,_⟩:=h
  rfl
 ·obtain⟨p,dx,k,i,rfl,hp,h⟩:=h
  refine⟨_,A2 (C7 (pv 0) (pv 1) rfl) (A2 (C7 (pv 0) (pv 2) rfl) (A2 (C7 (pv 0) (pv 2) rfl) (A2 (C7 (pv 0) (K8 A6) rfl) (A2 (C7 (pv 0) Ad5 rfl) (A2 (C7 (pv 0) (E6 X.wrdS) rfl) (A4 (C7 (pv 0) (E6 X.sumS) rfl))))))),?_⟩
  refine⟨_,rfl,_,rfl,p,C,dx,[],rfl,hp,X.cl,X.nk,(by show 0<1000;decide),?_⟩
  refine⟨_,rfl,_,rfl,p,C,dx,_,rfl,A1,X.cl,X.ni,(by show 1<1000;decide),?_⟩
  refine⟨_,rfl,_,rfl,p,C,dx,_,rfl,A1,X.cl,X.nj,(by show 2<1000;decide),?_⟩
  rw[K0,K0]
  refine⟨Nat.zero_le _,fun il hil=>?_⟩
  have npi:p≠il:=fun q=>by rw[q,A1]at hil;cases hil
  have hi0:H il=none:=by rw[A5 (Ne.symm npi)]at hil;exact hil
  refine⟨_,rfl,p,C,dx,_,rfl,(by rw[A5 npi,A1]),X.cl,X.nc,(by show 3<1000;decide),?_⟩
  refine⟨_,rfl,p,C,dx,_,rfl,A1,X.cl,X.np,(by show 4<1000;decide),?_⟩
  refine⟨_,rfl,p,C,dx,_,rfl,A1,X.cl,X.ns,(by show 5<1000;decide),?_⟩
  refine⟨_,rfl,p,C,dx,_,rfl,A1,X.cl,X.nl,(by show 6<1000;decide),?_⟩
  rw[K0,K0,K0]
  refine h _ il ⟨dx,_,A1,⟨by show 7<=100;decide,?_,?_,?_,?_,?_,?_,K7⟩⟩ ?_ hi0 fun b o e hb=>?_
  ·exact B4 (by decide) (B4 (by decide) (B4 (by decide) (B4 (by decide) (B4 (by decide) (B4 (by decide) K7)))))
  ·exact B4 (by decide) (B4 (by decide) (B4 (by decide) (B4 (by decide) (B4 (by decide) K7))))
  ·exact B4 (by decide) (B4 (by decide) (B4 (by decide) (B4 (by decide) K7)))
  ·exact B4 (by decide) (B4 (by decide) (B4 (by decide) K7))
  ·exact B4 (by decide) (B4 (by decide) K7)
  ·exact B4 (by decide) K7
  ·rw[A5 (Ne.symm npi),A1]
  ·have nb:b≠il:=fun q=>by rw[q,hi0]at e;cases e
   rw[A5 hb,A5 nb,A5 hb]
   exact e
theorem BX3 {X:Cx}{C fI:Addr}{fdI:FuncData}{t:TA}{e:Expr}{es:List Expr}{npos pos:Pos}(O:NdC X.K X.mg C)(M:Mk X.K C fI)(F:Fun X.K "__init__" "Node.__init__" Ab6 fI fdI)(b:Binds X.K fdI ["self","kind","first"] [])(hr:Room 2 X.A)(ha:PA X (e::es) t)(hg:Gl X "Node":=by rfl)
  (he:starEach (e::es) X.env=(false,eval e X.env)::starEach es X.env:=by rfl) (hpl:(backTo pos (starEach es X.env)).any (·.1)=false:=by rfl):PE X (.Call (.Name "Node" npos) (e::es) [] pos) (AZ9 C (A06 C) [] E0 t):=
 AD0 M (BG8 O F) hr hg O.mgC b .nil AY7 ha (by decide) he hpl
end
inductive LT where
 |mk (a il:Addr) (k:Kd) (i j:Nat) (p:Bool) (s l:Nat) (c:List LT)
namespace LT
noncomputable def a:LT->Addr |mk a _ _ _ _ _ _ _ _=>a
noncomputable def il:LT->Addr |mk _ il _ _ _ _ _ _ _=>il
noncomputable def k:LT->Kd |mk _ _ k _ _ _ _ _ _=>k
noncomputable def i:LT->Nat |mk _ _ _ i _ _ _ _ _=>i
noncomputable def j:LT->Nat |mk _ _ _ _ j _ _ _ _=>j
noncomputable def s:LT->Nat |mk _ _ _ _ _ _ s _ _=>s
noncomputable def c:LT->List LT |mk _ _ _ _ _ _ _ _ c=>c
noncomputable def rc:LT->NRc |mk _ il k i j p s l _=>⟨il,J7 k,i,j,p,s,l⟩
noncomputable def setLe:LT->Nat->LT |mk a il k i j p s _ c,l=>mk a il k i j p s l c
end LT
mutual
noncomputable def er:LT->Nd
 |.mk _ _ k i j p s l c=>.mk k i j p s l (ers c)
noncomputable def ers:List LT->List Nd
 |[]=>[]
 |t::r=>er t::ers r
end
mutual
noncomputable def fp:LT->List Addr
 |.mk a il _ _ _ _ _ _ c=>a::il::fps c
noncomputable def fps:List LT->List Addr
 |[]=>[]
 |t::r=>fp t++fps r
end
noncomputable def B3 (c:List LT):List V:=c.map fun t=>.ref t.a
mutual
noncomputable def AtT (C:Addr)(H:Hp):LT->Prop
 |.mk a il k i j p s l c=>NO C H a ⟨il,J7 k,i,j,p,s,l⟩/\H il=some (.lst (B3 c))/\AtL C H c
noncomputable def AtL (C:Addr)(H:Hp):List LT->Prop
 |[]=>True
 |t::r=>AtT C H t/\AtL C H r
end
theorem Af4:∀c:List LT,ers c=c.map er
 |[]=>by unfold ers;rfl
 |t::r=>by unfold ers;rw[Af4 r];rfl
theorem T8 {a il:Addr}{k:Kd}{i j:Nat}{p:Bool}{s l:Nat}{c:List LT}:er (.mk a il k i j p s l c)=.mk k i j p s l (c.map er):=by
 conv=>lhs;unfold er
 rw[Af4]
theorem E3 {a il:Addr}{k:Kd}{i j:Nat}{p:Bool}{s l:Nat}{c:List LT}:fp (.mk a il k i j p s l c)=a::il::fps c:=by conv=>lhs;unfold fp
theorem B1 {t:LT}{r:List LT}:fps (t::r)=fp t++fps r:=by conv=>lhs;unfold fps
theorem E4:fps []=[]:=by unfold fps;rfl
theorem P5:∀(l m:List LT),fps (l++m)=fps l++fps m
 |[],m=>by rw[E4];rfl
 |t::r,m=>by
  show fps (t::(r++m))=_
  rw[B1,B1,P5 r m,List.append_assoc]
theorem T1:∀{c:List LT} {b:Addr},b∈fps c↔∃t∈c,b∈fp t
 |[],b=>by rw[E4];simp
 |t::r,b=>by rw[B1,List.mem_append,T1 (c:=r)];simp
theorem J5 {C:Addr}{H:Hp}{a il:Addr}{k:Kd}{i j:Nat}{p:Bool}{s l:Nat}{c:List LT}:AtT C H (.mk a il k i j p s l c)↔NO C H a ⟨il,J7 k,i,j,p,s,l⟩/\H il=some (.lst (B3 c))/\AtL C H c:=by conv=>lhs;unfold AtT
theorem D0 {C:Addr}{H:Hp}:∀{c:List LT},AtL C H c↔∀t∈c,AtT C H t
 |[]=>by unfold AtL;simp
 |t::r=>by
  have:AtL C H (t::r)↔AtT C H t/\AtL C H r:=by conv=>lhs;unfold AtL
  rw[this,D0 (c:=r)]
  simp
mutual
theorem AtT.keep {C:Addr}{H H':Hp}:∀(t:LT),AtT C H t->(∀b∈fp t,∀o,H b=some o->H' b=some o)->AtT C H' t
 |.mk a il k i j p s l c,h,q=>by
  rw[J5]at h ⊢
  rw[E3]at q
  exact⟨h.1.keep (q a (by simp)),q il (by simp) _ h.2.1,AtL.keep c h.2.2 fun b hb=>q b (by simp[hb])⟩
theorem AtL.keep {C:Addr}{H H':Hp}:∀(c:List LT),AtL C H c->(∀b∈fps c,∀o,H b=some o->H' b=some o)->AtL C H' c
 |[],_,_=>by unfold AtL;trivial
 |t::r,h,q=>by
  unfold AtL at h ⊢
  rw[B1]at q
  exact⟨AtT.keep t h.1 fun b hb=>q b (List.mem_append_left _ hb),AtL.keep r h.2 fun b hb=>q b (List.mem_append_right _ hb)⟩
end
mutual
theorem AtT.ex {C:Addr}{H:Hp}:∀(t:LT),AtT C H t->∀b∈fp t,∃o,H b=some o
 |.mk a il k i j p s l c,h,b,hb=>by
  rw[J5]at h
  rw[E3]at hb
  rcases List.mem_cons.mp hb with rfl |hb
  ·obtain⟨dx,fs,e,_⟩:=h.1;exact⟨_,e⟩
  ·rcases List.mem_cons.mp hb with rfl |hb
   ·exact⟨_,h.2.1⟩
   ·exact AtL.ex c h.2.2 b hb
theorem AtL.ex {C:Addr}{H:Hp}:∀(c:List LT),AtL C H c->∀b∈fps c,∃o,H b=some o
 |[],_,b,hb=>by rw[E4]at hb;cases hb
 |t::r,h,b,hb=>by
  unfold AtL at h
  rw[B1]at hb
  rcases List.mem_append.mp hb with hb |hb
  ·exact AtT.ex t h.1 b hb
  ·exact AtL.ex r h.2 b hb
end
theorem Au0 (t:LT):(er t).k=t.k/\(er t).i=t.i/\(er t).j=t.j/\(er t).st=t.s:=by
 obtain⟨a,il,k,i,j,p,s,l,c⟩:=t
 rw[T8]
 exact⟨rfl,rfl,rfl,rfl⟩
theorem Aq9 (t:LT)(v:Nat):er (t.setLe v)=(er t).setLe v:=by
 obtain⟨a,il,k,i,j,p,s,l,c⟩:=t
 show er (.mk a il k i j p s v c)=_
 rw[T8,T8]
 rfl
theorem AK0 (t:LT)(v:Nat):fp (t.setLe v)=fp t:=by
 obtain⟨a,il,k,i,j,p,s,l,c⟩:=t
 show fp (.mk a il k i j p s v c)=_
 rw[E3,E3]
theorem A29 (t:LT)(v:Nat):(t.setLe v).a=t.a:=by obtain⟨a,il,k,i,j,p,s,l,c⟩:=t;rfl
theorem y8 (t:LT):t.rc.i=(t.i:Nat)/\t.rc.j=(t.j:Nat)/\t.rc.s=(t.s:Nat)/\t.rc.k=J7 t.k/\t.rc.il=t.il:=by obtain⟨a,il,k,i,j,p,s,l,c⟩:=t;exact⟨rfl,rfl,rfl,rfl,rfl⟩
theorem BD8 (t:LT)(v:Nat):(t.setLe v).i=t.i/\(t.setLe v).j=t.j/\(t.setLe v).s=t.s/\(t.setLe v).c=t.c:=by obtain⟨a,il,k,i,j,p,s,l,c⟩:=t;exact⟨rfl,rfl,rfl,rfl⟩
theorem E7 (t:LT):t.a∈fp t:=by obtain⟨a,il,k,i,j,p,s,l,c⟩:=t;rw[E3];exact List.mem_cons_self ..
theorem AtT.no {C:Addr}{H:Hp}{t:LT}(h:AtT C H t):NO C H t.a t.rc:=by
 obtain⟨a,il,k,i,j,p,s,l,c⟩:=t
 exact(J5.mp h).1
theorem AtT.setLe {C dx:Addr}{H:Hp}{t:LT}{fs:List (Str×V)}(h:AtT C H t)(nd:(fp t).Nodup)(ha:H t.a=some (.ins C dx fs))(hf:NF fs t.rc)(v:Nat):AtT C (upd H t.a (.ins C dx (C1 "least" (.int (v:Nat)) fs))) (t.setLe v):=by
 obtain⟨a,il,k,i,j,p,s,l,c⟩:=t
 rw[J5]at h
 rw[E3,List.nodup_cons]at nd
 show AtT C _ (.mk a il k i j p s v c)
 refine J5.mpr ⟨⟨dx,_,A1,hf.setL _⟩,?_,AtL.keep c h.2.2 fun b hb o e=>?_⟩
 ·have:il≠a:=fun q=>nd.1 (by rw[q];exact List.mem_cons_self ..)
  show(upd H a _) il=_
  rw[A5 this];exact h.2.1
 ·have:b≠a:=fun q=>nd.1 (by rw[←q];exact List.mem_cons_of_mem _ hb)
  show(upd H a _) b=_
  rw[A5 this];exact e
end Rk
namespace Rk
open PySem PySem.Spec PyProof.Rows L2 Tk Rd
noncomputable def k7 (C:Addr):Sp:=fun vs H Q _=>∃(k:Str) (b:Addr) (j s:Int) (x:Addr) (xs:List V) (r:NRc),vs=[.str k,.ref b,.int j,.int s]/\H b=some (.lst (.ref x::xs))/\NO C H x r/\∀(H':Hp) (a:Addr),H a=none->NO C H' a ⟨b,k,r.i,j,false,s,0⟩->Same H H'->Q (.ref a) H'
noncomputable def A39 (C:Addr):Sp:=fun vs H Q _=>∃(ol tl:Addr) (O:List LT) (l r:LT) (S:List Nat) (s:Nat),vs=[.ref ol,.ref tl]/\H ol=some (.lst (B3 (O++[l,r])))/\H tl=some (.lst ((S++[s]).map fun n=>.int (n:Nat)))/\AtT C H l/\AtT C H r/\(fp l++fp r).Nodup/\ol∉fp l++fp r/\tl∉fp l++fp r/\ol≠tl/\O.length<=200000/\s<=100/\
 ∀(H':Hp) (n:LT) (a b:Addr),H' ol=some (.lst (B3 (O++[n])))->H' tl=some (.lst (S.map fun n=>.int (n:Nat)))->AtT C H' n->er n=mkOp s (er l) (er r)->fp n=a::b::(fp l++fp r)->H a=none->H b=none->a≠b->(∀c o,c≠ol->c≠tl->c∉fp l++fp r->H c=some o->H' c=some o)->Q .non H'
section
variable {P:Program} {w:World} {K:PySem.W.Frag} {mg:Str->Option Value} {base:Heap}
theorem AW1:B8 ["kind","inner","behind","strength","node"] ["kind","inner","behind","strength"] (A7 G9):=⟨rfl,rfl,rfl,by decide+kernel,rfl,by decide+kernel,by decide+kernel⟩
theorem AL4 {C f:Addr}{fd:FuncData}(F:Fun K "node_around" "node_around" G9 f fd)(X:NdC K mg C):D3 P w K mg base CX0 3 f fd ["kind","inner","behind","strength"] (k7 C):=by
 obtain⟨fI,fdI,M,FI,bI⟩:=X.F
 refine F.ok AW1 (fun vs H Q E h=>?_) (fun cdv A outer s H vs Q E hr h=>?_)
 ·obtain⟨k,b,j,s,x,xs,r,rfl,_⟩:=h
  rfl
 ·obtain⟨k,b,j,s,x,xs,r,rfl,hb,⟨dx,fs,hx,nf⟩,h⟩:=h
  refine⟨_,A2 (C8 (i:=4) AW1.nd rfl (Or.inl rfl) (BX3 X M FI bI hr (A0 (pv 0) (A0 (A8 (F5 C6 (pv 1) A9 (fun _ _=>rfl)) rfl) A6))))
   (A2 (C7 (pv 4) (pv 2) rfl) (A2 (C7 (pv 4) (pv 1) rfl) (A2 (C7 (pv 4) (pv 3) rfl) (A4 (B7 (pv 4)))))),?_⟩
  refine⟨_,rfl,_,rfl,b,_,_,_,rfl,rfl,SqL.of hb,D6 (j:=0) rfl,x,C,dx,fs,_,rfl,hx,X.cl,X.ni,nf.i,fun a dx1 na nd _=>⟨a,dx1,_,_,rfl,A1,fun H1 il hN hil nil kp=>⟨rfl,?_⟩⟩⟩
  have s1:=Same.made na nd kp
  obtain⟨dx2,fs2,ha,nf2⟩:=hN
  refine⟨_,rfl,_,rfl,a,C,dx2,fs2,rfl,ha,X.cl,X.nj,(by have:=nf2.n;omega),?_⟩
  have nf3:=nf2.setJ j
  refine⟨_,rfl,_,rfl,a,C,dx2,_,rfl,A1,X.cl,X.nc,(by have:=nf3.n;omega),?_⟩
  have nf4:=nf3.setI b
  refine⟨_,rfl,_,rfl,a,C,dx2,_,rfl,A1,X.cl,X.ns,(by have:=nf4.n;omega),?_⟩
  have nf5:=nf4.setS s
  rw[K0,K0]
  refine⟨_,rfl,h _ a na ⟨dx2,_,A1,nf5⟩ fun c o e=>?_⟩
  rw[A5 (B0 e na)]
  exact s1 _ _ e
theorem AW5:B8 ["operands","strengths","strength","right","left"] ["operands","strengths"] (A7 S7):=⟨rfl,rfl,rfl,by decide+kernel,rfl,by decide+kernel,by decide+kernel⟩
theorem J0 (l m:List LT):B3 (l++m)=B3 l++B3 m:=List.map_append ..
theorem AC3 {α:Type}(l:List α)(x:α):(l++[x])[(l++[x]).length-1]?=some x:=by simp
theorem A71 {C f fA:Addr}{fd fdA:FuncData}(F:Fun K "join_last" "join_last" S7 f fd)(X:NdC K mg C)(N:Fn K mg "node_around" G9 ["kind","inner","behind","strength"] fA fdA):D3 P w K mg base CX0 4 f fd ["operands","strengths"] (A39 C):=by
 have GA:D3 P w K mg base CX0 3 fA fdA ["kind","inner","behind","strength"] (k7 C):=AL4 N.F X
 refine F.ok AW5 (fun vs H Q E h=>?_) (fun cdv A outer s H vs Q E hr h=>?_)
 ·obtain⟨ol,tl,O,l,r,S,s,rfl,_⟩:=h
  rfl
 ·obtain⟨ol,tl,O,l,r,S,s,rfl,hol,htl,hl,hrr,nd,nol,ntl,not_,hO,hs,h⟩:=h
  refine⟨_,A2 (C8 (i:=2) AW5.nd rfl (Or.inl rfl) (z9 PySem.F.plainAttrs_list PySem.F.slot_list_pop PySem.F.type_list_pop AB8 (pv 1)))
   (A2 (C8 (i:=3) AW5.nd rfl (Or.inl rfl) (z9 PySem.F.plainAttrs_list PySem.F.slot_list_pop PySem.F.type_list_pop AB8 (pv 0)))
   (A2 (C8 (i:=4) AW5.nd rfl (Or.inl rfl) (z9 PySem.F.plainAttrs_list PySem.F.slot_list_pop PySem.F.type_list_pop AB8 (pv 0)))
   (A2 (C7 (pv 4) (Y2 (B5 J3 (pv 2) (E6 X.cmpS) (C2 _)) (M5 T5 (pv 2) A9) (pv 2)) rfl)
   (A2 (C7 (pv 3) (M5 T5 (pv 2) A9) rfl)
   (A4 (E8 (X8 PySem.F.plainAttrs_list PySem.F.slot_list_append PySem.F.type_list_append F8 (pv 0) (A0 (D5 N GA hr (A0 D9 (A0 (K8 (A0 (pv 4) (A0 (pv 3) A6))) (A0 (A8 (pv 3) rfl) (A0 (pv 2) A6))))) A6)))))))),?_⟩
  have sz:=sizeLine_eq
  have hla:=hl.no
  obtain⟨dl,fl,hl0,nfl⟩:=hla
  obtain⟨dr,frr,hr0,nfr⟩:=hrr.no
  have nal:l.a∈fp l++fp r:=List.mem_append_left _ (E7 l)
  have nar:r.a∈fp l++fp r:=List.mem_append_right _ (E7 r)
  have e1:((S++[s]).map fun n=>V.int ((n:Nat):Int))=(S.map fun n=>V.int ((n:Nat):Int))++[V.int (s:Nat)]:=by rw[List.map_append];rfl
  rw[e1]at htl
  refine⟨_,rfl,.inl ⟨rfl,_,SqL.of htl⟩,tl,_,_,rfl,rfl,htl,AC3 _ _,?_⟩
  rw[List.dropLast_concat]
  have e2:B3 (O++[l,r])=B3 (O++[l])++[V.ref r.a]:=by rw[J0,J0];simp[B3]
  have hol1:(upd H tl (.lst (S.map fun n=>V.int ((n:Nat):Int)))) ol=some (.lst (B3 (O++[l])++[V.ref r.a])):=by rw[A5 not_,hol,e2]
  refine⟨_,rfl,.inl ⟨rfl,_,SqL.of hol1⟩,ol,_,_,rfl,rfl,hol1,AC3 _ _,?_⟩
  rw[List.dropLast_concat]
  have e3:B3 (O++[l])=B3 O++[V.ref l.a]:=J0 _ _
  rw[e3]
  refine⟨_,rfl,.inl ⟨rfl,_,SqL.of A1⟩,ol,_,_,rfl,rfl,A1,AC3 _ _,?_⟩
  rw[List.dropLast_concat,K0]
  have kp0:∀c o,c≠ol->c≠tl->H c=some o->(upd (upd H tl (.lst (S.map fun n=>V.int ((n:Nat):Int)))) ol (.lst (B3 O))) c=some o:=fun c o n1 n2 e=>by rw[A5 n1,A5 n2];exact e
  have t0:(upd (upd H tl (.lst (S.map fun n=>V.int ((n:Nat):Int)))) ol (.lst (B3 O))) tl=some (.lst (S.map fun n=>V.int ((n:Nat):Int))):=by rw[A5 (Ne.symm not_),A1]
  have o0:(upd (upd H tl (.lst (S.map fun n=>V.int ((n:Nat):Int)))) ol (.lst (B3 O))) ol=some (.lst (B3 O)):=A1
  have n0:∀c,(upd (upd H tl (.lst (S.map fun n=>V.int ((n:Nat):Int)))) ol (.lst (B3 O))) c=none->H c=none:=fun c e=>by
   have c1:c≠ol:=fun q=>by rw[q,A1]at e;cases e
   have c2:c≠tl:=fun q=>by rw[q,A5 (Ne.symm not_),A1]at e;cases e
   rw[A5 c1,A5 c2]at e
   exact e
  generalize (upd (upd H tl (.lst (S.map fun n=>V.int ((n:Nat):Int)))) ol (.lst (B3 O)))=H1 at kp0 t0 o0 n0 ⊢
  have ndl:=(List.nodup_append.mp nd).1
  have ndr:=(List.nodup_append.mp nd).2.1
  have dis:=(List.nodup_append.mp nd).2.2
  have hl1:AtT C H1 l:=hl.keep l (fun b hb o e=>kp0 b o (fun q=>nol (by rw[←q];exact List.mem_append_left _ hb)) (fun q=>ntl (by rw[←q];exact List.mem_append_left _ hb)) e)
  have hr1:AtT C H1 r:=hrr.keep r (fun b hb o e=>kp0 b o (fun q=>nol (by rw[←q];exact List.mem_append_right _ hb)) (fun q=>ntl (by rw[←q];exact List.mem_append_right _ hb)) e)
  have la1:H1 l.a=some (.ins C dl fl):=kp0 _ _ (fun q=>nol (by rw[←q];exact nal)) (fun q=>ntl (by rw[←q];exact nal)) hl0
  have ra1:H1 r.a=some (.ins C dr frr):=kp0 _ _ (fun q=>nol (by rw[←q];exact nar)) (fun q=>ntl (by rw[←q];exact nar)) hr0
  have nlr:l.a≠r.a:=fun q=>dis _ (E7 l) _ (E7 r) q
  have main:∀v:Int,v=((lowL s:Nat):Int)->Ab2 (BH1 K (O4 4) (tC (V.int v)) "least") (Ab2 (BH1 K (O4 3) (tOp (rI0 fun i j=>V.int (i+j)) (O4 2) (tC (V.int 1))) "least") (As0 (tBM K "list" AH3 (O4 0) (K6 (Aa2 (k7 C) [] E0 (K6 (tC (V.str "OPERATOR")) (K6 (Bb0 (K6 (O4 4) (K6 (O4 3) AO5))) (K6 (AZ7 K (O4 3) "behind") (K6 (O4 2) AO5))))) AO5)))) {nx:=fun _ H'=>Q .non H',rt:=Q} [some (.ref ol),some (.ref tl),some (.int (s:Nat)),some (.ref r.a),some (.ref l.a)] H1:=by
   intro v hv
   subst hv
   refine⟨_,rfl,l.a,C,dl,fl,rfl,la1,X.cl,X.nl,(by have:=nfl.n;omega),?_⟩
   have hl2:=hl1.setLe ndl la1 nfl (lowL s)
   have ra2:(upd H1 l.a (.ins C dl (C1 "least" (.int ((lowL s:Nat):Int)) fl))) r.a=some (.ins C dr frr):=by rw[A5 (Ne.symm nlr)];exact ra1
   have hr2:AtT C (upd H1 l.a (.ins C dl (C1 "least" (.int ((lowL s:Nat):Int)) fl))) r:=hr1.keep r (fun b hb o e=>by rw[A5 (fun q=>dis _ (E7 l) _ hb q.symm)];exact e)
   have kp1:∀c o,c≠l.a->H1 c=some o->(upd H1 l.a (.ins C dl (C1 "least" (.int ((lowL s:Nat):Int)) fl))) c=some o:=fun c o n e=>by rw[A5 n];exact e
   have n1:∀c,(upd H1 l.a (.ins C dl (C1 "least" (.int ((lowL s:Nat):Int)) fl))) c=none->H1 c=none:=fun c e=>by
    have c1:c≠l.a:=fun q=>by rw[q,A1]at e;cases e
    rw[A5 c1]at e;exact e
   generalize (upd H1 l.a (.ins C dl (C1 "least" (.int ((lowL s:Nat):Int)) fl)))=H2 at hl2 ra2 hr2 kp1 n1 ⊢
   refine⟨_,rfl,_,_,rfl,rfl,_,rfl,r.a,C,dr,frr,rfl,ra2,X.cl,X.nl,(by have:=nfr.n;omega),?_⟩
   have hr3:=hr2.setLe ndr ra2 nfr (s+1)
   have hl3:AtT C (upd H2 r.a (.ins C dr (C1 "least" (.int ((s+1:Nat):Int)) frr))) (l.setLe (lowL s)):=hl2.keep _ (fun b hb o e=>by
    rw[AK0]at hb
    rw[A5 (fun q=>dis _ hb _ (E7 r) q)];exact e)
   have kp2:∀c o,c≠r.a->H2 c=some o->(upd H2 r.a (.ins C dr (C1 "least" (.int ((s+1:Nat):Int)) frr))) c=some o:=fun c o n e=>by rw[A5 n];exact e
   have n2:∀c,(upd H2 r.a (.ins C dr (C1 "least" (.int ((s+1:Nat):Int)) frr))) c=none->H2 c=none:=fun c e=>by
    have c1:c≠r.a:=fun q=>by rw[q,A1]at e;cases e
    rw[A5 c1]at e;exact e
   rw[show((fun i j:Int=>V.int (i+j)) (s:Nat) 1)=V.int ((s+1:Nat):Int)from rfl]
   generalize (upd H2 r.a (.ins C dr (C1 "least" (.int ((s+1:Nat):Int)) frr)))=H3 at hl3 hr3 kp2 n2 ⊢
   have kp3:∀c o,c≠l.a->c≠r.a->H1 c=some o->H3 c=some o:=fun c o a b e=>kp2 c o b (kp1 c o a e)
   have ol3:H3 ol=some (.lst (B3 O)):=kp3 _ _ (fun q=>nol (by rw[q];exact nal)) (fun q=>nol (by rw[q];exact nar)) o0
   have tl3:H3 tl=some (.lst (S.map fun n=>V.int ((n:Nat):Int))):=kp3 _ _ (fun q=>ntl (by rw[q];exact nal)) (fun q=>ntl (by rw[q];exact nar)) t0
   have nH:∀c,H3 c=none->H c=none:=fun c e=>n0 c (n1 c (n2 c e))
   obtain⟨dr4,fr4,ra4,nf4⟩:=hr3.no
   rw[A29]at ra4
   refine⟨_,rfl,.inl ⟨rfl,_,SqL.of ol3⟩,?_⟩
   refine⟨_,rfl,_,rfl,(by show 2<=sizeLine;omega),fun b hb=>?_⟩
   have s4:Same H3 (upd H3 b (.lst [V.ref l.a,V.ref r.a])):=B9 hb
   have hb4:(upd H3 b (.lst [V.ref l.a,V.ref r.a])) b=some (.lst [V.ref l.a,V.ref r.a]):=A1
   generalize (upd H3 b (.lst [V.ref l.a,V.ref r.a]))=H4 at s4 hb4 ⊢
   have hl4:=hl3.no
   rw[A29]at hl4
   refine⟨_,rfl,r.a,C,dr4,fr4,_,rfl,s4 _ _ ra4,X.cl,X.nj,nf4.j,_,rfl,_,b,_,_,l.a,[V.ref r.a],_,rfl,hb4,hl4.keep (fun o e=>s4 _ _ e),fun H5 a na hN s5=>?_⟩
   have ol5:=s5 _ _ (s4 _ _ ol3)
   refine⟨ol,_,_,rfl,rfl,ol5,(by unfold B3;rw[List.length_map];omega),?_⟩
   have hna3:H3 a=none:=s4.free na
   have ab:a≠b:=fun q=>by rw[q,hb4]at na;cases na
   have oa:ol≠a:=fun q=>by rw[←q,ol3]at hna3;cases hna3
   have ob:ol≠b:=fun q=>by rw[←q,ol3]at hb;cases hb
   have ta:tl≠a:=fun q=>by rw[←q,tl3]at hna3;cases hna3
   have tb:tl≠b:=fun q=>by rw[←q,tl3]at hb;cases hb
   have s35:Same H3 H5:=s4.trans s5
   refine h _ (.mk a b .OPERATOR l.i r.j false s 0 [l.setLe (lowL s),r.setLe (s+1)]) a b ?_ ?_ ?_ ?_ ?_ (nH a hna3) (nH b hb) ab ?_
   ·rw[A1,J0];rfl
   ·rw[A5 (Ne.symm not_)];exact s35 _ _ tl3
   ·have keep:∀x∈fp l++fp r,∀o,H3 x=some o->(upd H5 ol (.lst (B3 O++[V.ref a]))) x=some o:=fun x hx o e=>by
     rw[A5 (fun q=>nol (by rw[←q];exact hx))]
     exact s35 _ _ e
    refine J5.mpr ⟨?_,?_,D0.mpr fun t ht=>?_⟩
    ·rw[(y8 _).1,(BD8 l _).1,(y8 _).2.1,(BD8 r _).2.1]at hN
     have q:NO C (upd H5 ol (.lst (B3 O++[V.ref a]))) a ⟨b,"OPERATOR",(l.i:Nat),(r.j:Nat),false,(s:Nat),0⟩:=NO.keep hN fun o e=>by rw[A5 (Ne.symm oa)];exact e
     exact q
    ·rw[A5 (Ne.symm ob),s5 _ _ hb4]
     show some (HO.lst [V.ref l.a,V.ref r.a])=some (HO.lst [V.ref (l.setLe (lowL s)).a,V.ref (r.setLe (s+1)).a])
     rw[A29,A29]
    ·rcases List.mem_cons.mp ht with rfl |ht
     ·exact hl3.keep _ fun x hx o e=>keep x (by rw[AK0]at hx;exact List.mem_append_left _ hx) o e
     ·rw[List.mem_singleton]at ht
      subst ht
      exact hr3.keep _ fun x hx o e=>keep x (by rw[AK0]at hx;exact List.mem_append_right _ hx) o e
   ·rw[T8]
    unfold mkOp
    rw[(Au0 l).2.1,(Au0 r).2.2.1]
    simp only[List.map_cons,List.map_nil,Aq9]
    rfl
   ·rw[E3,B1,B1,E4,AK0,AK0,List.append_nil]
   ·intro c o c1 c2 c3 e
    have nl:c≠l.a:=fun q=>c3 (by rw[q];exact nal)
    have nr:c≠r.a:=fun q=>c3 (by rw[q];exact nar)
    rw[A5 c1]
    exact s35 _ _ (kp3 c o nl nr (kp0 c o c1 c2 e))
  refine⟨_,rfl,rfl,_,rfl,G7 (fun c=>?_) (fun c=>?_)⟩
  ·have c:s=4:=by have:V.int ((s:Nat):Int)=V.int 4:=of_decide_eq_true c;injection this with this;omega
   refine⟨_,rfl,_,_,rfl,rfl,?_⟩
   exact main _ (by unfold lowL;rw[if_pos c];subst c;rfl)
  ·have c:¬s=4:=fun q=>c (decide_eq_true (by rw[q];rfl))
   refine⟨_,rfl,?_⟩
   exact main _ (by unfold lowL;rw[if_neg c])
end
end Rk
namespace Rk
open PySem PySem.Spec PyProof.Rows L2 Tk Rd
noncomputable def SyAt (H:Hp)(sl:Addr)(cy:Nat->Sy)(N:Nat):Prop:=∃syms:List Str,H sl=some (.lst (syms.map V.str))/\∀i,i<=N->syms[i]?=some (B6 (cy i))
theorem SyAt.at {H:Hp}{sl:Addr}{cy:Nat->Sy}{N i:Nat}(h:∃syms:List Str,H sl=some (.lst (syms.map V.str))/\∀i,i<=N->syms[i]?=some (B6 (cy i)))(hi:i<=N):∃xs:List V,H sl=some (.lst xs)/\xs[i]?=some (.str (B6 (cy i))):=by
 obtain⟨syms,h1,h2⟩:=h
 exact⟨_,h1,by rw[List.getElem?_map,h2 i hi];rfl⟩
theorem SyAt.keep {H H':Hp}{sl:Addr}{cy:Nat->Sy}{N:Nat}(h:SyAt H sl cy N)(k:∀o,H sl=some o->H' sl=some o):SyAt H' sl cy N:=let ⟨s,h1,h2⟩:=h;⟨s,k _ h1,h2⟩
structure Am9 (C:Addr)(H H':Hp)(t t':LT)(n:Nd):Prop where
 at_:AtT C H' t'
 er:er t'=n
 nd:(fp t').Nodup
 sub:∀b∈fp t',b∈fp t∨H b=none
 kp:∀b o,b∉fp t->H b=some o->H' b=some o
noncomputable def V0 (C:Addr)(mf:(Nat->Sy)->Nat->Op->Nat->Option Nd):Sp:=fun vs H Q _=>∃(t:LT) (sl:Addr) (cy:Nat->Sy) (N:Nat) (n:Nd) (k0:Kd),vs=[.ref t.a,.ref sl]/\AtT C H t/\(fp t).Nodup/\sl∉fp t/\SyAt H sl cy N/\(∀i,cy i∈G6)/\t.i<=N/\t.c.length<=100001/\er t=.mk k0 t.i t.j false 13 0 (t.c.map er)/\
 mf cy N ⟨k0,t.i,t.c.map er⟩ t.j=some n/\∀(H':Hp) (t':LT),Am9 C H H' t t' n->Q (.ref t'.a) H'
structure OI (C:Addr)(H0:Hp)(c0:List LT)(Z:List Addr)(ol tl:Addr)(rem:List LT)(H:Hp)(O:List LT)(S:List Nat):Prop where
 o:H ol=some (.lst (B3 O))
 t:H tl=some (.lst (S.map fun n=>V.int ((n:Nat):Int)))
 ao:AtL C H O
 ar:AtL C H rem
 nd:(fps O++fps rem).Nodup
 sub:∀b∈fps O++fps rem,b∈fps c0∨H0 b=none
 no:∀z∈Z,z∉fps O++fps rem
 kp:∀b o,b∉fps c0->H0 b=some o->H b=some o
 kz:∀z∈Z,z=ol∨z=tl∨∃xs,H z=some (.lst xs)
 len:O.length=S.length+1
 le:∀s∈S,s<=10
theorem Am7 {x y z:List Addr}{a b:Addr}(h:(x++y++z).Nodup)(ha:a∉x++y++z)(hb:b∉x++y++z)(hab:a≠b):(x++(a::b::y)++z).Nodup:=by
 have p:List.Perm (x++(a::b::y)++z) (a::b::(x++y++z)):=by
  have p1:List.Perm (x++a::b::(y++z)) (a::(x++b::(y++z))):=List.perm_middle
  have p2:List.Perm (x++b::(y++z)) (b::(x++(y++z))):=List.perm_middle
  rw[List.append_assoc,List.append_assoc]
  exact p1.trans (p2.cons a)
 refine p.nodup_iff.mpr (List.nodup_cons.mpr ⟨?_,List.nodup_cons.mpr ⟨hb,h⟩⟩)
 intro q
 rcases List.mem_cons.mp q with q |q
 ·exact hab q
 ·exact ha q
theorem OI.join {C ol tl:Addr}{H0 H H':Hp}{c0 rem O:List LT}{Z:List Addr}{S:List Nat}{l r n:LT}{s:Nat}{a b:Addr}(I:OI C H0 c0 Z ol tl rem H (O++[l,r]) (S++[s]))(hZ:ol∈Z/\tl∈Z)(z1:H0 ol=none)(z2:H0 tl=none)
  (h1:H' ol=some (.lst (B3 (O++[n])))) (h2:H' tl=some (.lst (S.map fun n=>V.int ((n:Nat):Int)))) (h3:AtT C H' n) (h5:fp n=a::b::(fp l++fp r)) (na:H a=none) (nb:H b=none) (hab:a≠b)
  (h6:∀c o,c≠ol->c≠tl->c∉fp l++fp r->H c=some o->H' c=some o):OI C H0 c0 Z ol tl rem H' (O++[n]) S:=by
 have eO:fps (O++[l,r])=fps O++(fp l++fp r):=by rw[P5,B1,B1,E4,List.append_nil]
 have eN:fps (O++[n])=fps O++(a::b::(fp l++fp r)):=by rw[P5,B1,E4,List.append_nil,h5]
 have nd:=I.nd
 have sub:=I.sub
 have no:=I.no
 rw[eO]at nd sub no
 have some_:∀x∈fps O++(fp l++fp r)++fps rem,∃o,H x=some o:=by
  intro x hx
  rcases List.mem_append.mp hx with hx |hx
  ·exact AtL.ex _ I.ao x (by rw[eO];exact hx)
  ·exact AtL.ex _ I.ar x hx
 have fresh:∀c,H c=none->c∉fps O++(fp l++fp r)++fps rem:=fun c e q=>by
  obtain⟨o,ho⟩:=some_ c q
  rw[e]at ho;cases ho
 have h0:∀c,H c=none->H0 c=none∨c∈fps c0:=fun c e=>by
  by_cases q:c∈fps c0
  ·exact .inr q
  ·cases e0:H0 c with
   |none=>exact .inl rfl
   |some o=>rw[I.kp c o q e0]at e;cases e
 have out:∀x,x∈fps O∨x∈fps rem->∀o,H x=some o->H' x=some o:=by
  intro x hx o e
  have hU:x∈fps O++(fp l++fp r)++fps rem:=by
   rcases hx with hx |hx
   ·exact List.mem_append_left _ (List.mem_append_left _ hx)
   ·exact List.mem_append_right _ hx
  refine h6 x o (fun q=>no ol hZ.1 (by rw[←q];exact hU)) (fun q=>no tl hZ.2 (by rw[←q];exact hU)) (fun q=>?_) e
  rw[List.nodup_append]at nd
  rcases hx with hx |hx
  ·have:=(List.nodup_append.mp nd.1).2.2
   exact this x hx x q rfl
  ·exact nd.2.2 x (List.mem_append_right _ q) x hx rfl
 refine⟨h1,h2,?_,AtL.keep rem I.ar fun x hx=>out x (.inr hx),?_,?_,?_,?_,?_,?_,fun x hx=>I.le x (List.mem_append_left _ hx)⟩
 ·rw[D0]
  intro t ht
  rcases List.mem_append.mp ht with ht |ht
  ·exact(D0.mp I.ao t (List.mem_append_left _ ht)).keep t fun x hx=>out x (.inl (T1.mpr ⟨t,ht,hx⟩))
  ·rw[List.mem_singleton]at ht;subst ht;exact h3
 ·rw[eN]
  exact Am7 nd (fresh a na) (fresh b nb) hab
 ·rw[eN]
  intro x hx
  have hx:x=a∨x=b∨x∈fps O++(fp l++fp r)++fps rem:=by
   simp only[List.mem_append,List.mem_cons]at hx ⊢
   rcases hx with (q |q |q |q) |q
   ·exact .inr (.inr (.inl (.inl q)))
   ·exact .inl q
   ·exact .inr (.inl q)
   ·exact .inr (.inr (.inl (.inr q)))
   ·exact .inr (.inr (.inr q))
  rcases hx with rfl |rfl |hx
  ·exact(h0 _ na).symm
  ·exact(h0 _ nb).symm
  ·exact sub x hx
 ·intro z hz q
  rw[eN]at q
  have q:z=a∨z=b∨z∈fps O++(fp l++fp r)++fps rem:=by
   simp only[List.mem_append,List.mem_cons]at q ⊢
   rcases q with (q |q |q |q) |q
   ·exact .inr (.inr (.inl (.inl q)))
   ·exact .inl q
   ·exact .inr (.inl q)
   ·exact .inr (.inr (.inl (.inr q)))
   ·exact .inr (.inr (.inr q))
  have hs:∃o,H z=some o:=by
   rcases I.kz z hz with rfl |rfl |⟨xs,e⟩
   ·exact⟨_,I.o⟩
   ·exact⟨_,I.t⟩
   ·exact⟨_,e⟩
  obtain⟨o,ho⟩:=hs
  rcases q with rfl |rfl |q
  ·rw[na]at ho;cases ho
  ·rw[nb]at ho;cases ho
  ·exact no z hz q
 ·intro x o hx e
  refine h6 x o (fun q=>by rw[q,z1]at e;cases e) (fun q=>by rw[q,z2]at e;cases e) (fun q=>?_) (I.kp x o hx e)
  have:=sub x (List.mem_append_left _ (List.mem_append_right _ q))
  rcases this with q |q
  ·exact hx q
  ·rw[q]at e;cases e
 ·intro z hz
  rcases I.kz z hz with q |q |⟨xs,e⟩
  ·exact .inl q
  ·exact .inr (.inl q)
  ·by_cases q1:z=ol
   ·exact .inl q1
   by_cases q2:z=tl
   ·exact .inr (.inl q2)
   exact .inr (.inr ⟨xs,h6 z _ q1 q2 (fun q=>no z hz (List.mem_append_left _ (List.mem_append_right _ q))) e⟩)
 ·have:=I.len
  simp only[List.length_append,List.length_cons,List.length_nil]at this ⊢
  omega
theorem OI.push {C ol tl:Addr}{H0 H:Hp}{c0 rem O:List LT}{Z:List Addr}{S:List Nat}{n:LT}{s:Nat}(I:OI C H0 c0 Z ol tl (n::rem) H O S)(hZ:ol∈Z/\tl∈Z)(z1:H0 ol=none)(z2:H0 tl=none)(not_:ol≠tl)(hs:s<=10):
  OI C H0 c0 Z ol tl rem (upd (upd H tl (.lst ((S++[s]).map fun n=>V.int ((n:Nat):Int)))) ol (.lst (B3 (O++[n])))) (O++[n]) (S++[s]):=by
 have eU:fps (O++[n])++fps rem=fps O++fps (n::rem):=by rw[P5,B1,E4,B1,List.append_nil,List.append_assoc]
 have keep:∀x,x≠ol->x≠tl->∀o,H x=some o->(upd (upd H tl (.lst ((S++[s]).map fun n=>V.int ((n:Nat):Int)))) ol (.lst (B3 (O++[n])))) x=some o:=fun x n1 n2 o e=>by rw[A5 n1,A5 n2];exact e
 have out:∀x∈fps O++fps (n::rem),∀o,H x=some o->(upd (upd H tl (.lst ((S++[s]).map fun n=>V.int ((n:Nat):Int)))) ol (.lst (B3 (O++[n])))) x=some o:=fun x hx=>keep x (fun q=>I.no ol hZ.1 (by rw[←q];exact hx)) (fun q=>I.no tl hZ.2 (by rw[←q];exact hx))
 refine⟨A1,by rw[A5 (Ne.symm not_),A1],?_,?_,by rw[eU];exact I.nd,by rw[eU];exact I.sub,by rw[eU];exact I.no,?_,?_,?_,?_⟩
 ·rw[D0]
  intro t ht
  rcases List.mem_append.mp ht with ht |ht
  ·exact(D0.mp I.ao t ht).keep t fun x hx=>out x (List.mem_append_left _ (T1.mpr ⟨t,ht,hx⟩))
  ·rw[List.mem_singleton]at ht
   subst ht
   exact(D0.mp I.ar t (List.mem_cons_self ..)).keep t fun x hx=>out x (List.mem_append_right _ (T1.mpr ⟨t,List.mem_cons_self ..,hx⟩))
 ·rw[D0]
  intro t ht
  exact(D0.mp I.ar t (List.mem_cons_of_mem _ ht)).keep t fun x hx=>out x (List.mem_append_right _ (T1.mpr ⟨t,List.mem_cons_of_mem _ ht,hx⟩))
 ·intro x o hx e
  exact keep x (fun q=>by rw[q,z1]at e;cases e) (fun q=>by rw[q,z2]at e;cases e) o (I.kp x o hx e)
 ·intro z hz
  by_cases q1:z=ol
  ·exact .inl q1
  by_cases q2:z=tl
  ·exact .inr (.inl q2)
  rcases I.kz z hz with q |q |⟨xs,e⟩
  ·exact(q1 q).elim
  ·exact(q2 q).elim
  ·exact .inr (.inr ⟨xs,keep z q1 q2 _ e⟩)
 ·have:=I.len
  simp only[List.length_append,List.length_cons,List.length_nil]at this ⊢
  omega
 ·intro x hx
  rcases List.mem_append.mp hx with hx |hx
  ·exact I.le x hx
  ·rw[List.mem_singleton]at hx;omega
noncomputable def mir (O:List LT)(S:List Nat):List Nd×List Nat:=((O.map er).reverse,S.reverse)
theorem AS9 {O:List LT}{S:List Nat}{l r n:LT}{s t:Nat}(e:er n=mkOp s (er l) (er r))(h:t<=s):red t (mir (O++[l,r]) (S++[s])).1 (mir (O++[l,r]) (S++[s])).2=red t (mir (O++[n]) S).1 (mir (O++[n]) S).2:=by
 unfold mir
 rw[List.map_append,List.reverse_append,List.reverse_append,List.map_append,List.reverse_append]
 show(if t<=s then red t (mkOp s (er l) (er r)::(O.map er).reverse) S.reverse else _)=red t (er n::(O.map er).reverse) S.reverse
 rw[if_pos h,e]
theorem Ax3 {O:List LT}{S:List Nat}{s t:Nat}(hl:O.length=(S++[s]).length+1)(h:s<t):red t (mir O (S++[s])).1 (mir O (S++[s])).2=mir O (S++[s]):=by
 have:∃r l q,(O.map er).reverse=r::l::q:=by
  have hl2:(O.map er).reverse.length=S.length+2:=by simp at hl ⊢;omega
  cases e:(O.map er).reverse with
  |nil=>rw[e]at hl2;cases hl2
  |cons r q=>
   cases q with
   |nil=>rw[e]at hl2;simp at hl2
   |cons l q=>exact⟨r,l,q,rfl⟩
 obtain⟨r,l,q,e⟩:=this
 unfold mir
 rw[e,List.reverse_append]
 show(if t<=s then _ else _)=_
 exact if_neg (by omega)
theorem Ak8 {O:List LT}{t:Nat}:red t (mir O []).1 (mir O []).2=mir O []:=AG1 t (fun s hs=>by cases hs)
end Rk
namespace Rk
open PySem PySem.Spec PyProof.Rows L2 Tk Rd
noncomputable def BT1:List (Str×V):=([("||",2),("&&",3),("<",4),("<=",4),("==",4),("!=",4),(">",4),(">=",4),("|",5),("^",6),("&",7),("<<",8),(">>",8),("+",9),("-",9),("*",10),("/",10),("mod",10)]:List (String×Int)).map fun p=>(Str.ofString p.1,V.int p.2)
theorem A69:∀k,k<33->2<=stOf (.sign k)->O9 (BT1.map fun p=>((Sum.inr p.1,p.2):Key×V)) (Sum.inr (B6 (.sign k)))=some (.int (stOf (.sign k):Nat)):=by decide+kernel
theorem BB8 {y:Sy}(h:2<=stOf y):O9 (BT1.map fun p=>((Sum.inr p.1,p.2):Key×V)) (Sum.inr (B6 y))=some (.int (stOf y:Nat)):=by
 obtain⟨k,hk,rfl⟩:=P4 (y:=y) (by omega)
 exact A69 k hk h
theorem Ai3:∀k,k<33->stOf (.sign k)<=10:=by decide+kernel
theorem BF0 (y:Sy):stOf y<=10:=by
 by_cases h:stOf y=0
 ·omega
 ·obtain⟨k,hk,rfl⟩:=P4 (y:=y) (by omega)
  exact Ai3 k hk
noncomputable def BH5:List Str:=["sum","row","sheet"]
noncomputable def BH4:List Str:=["-","~","!"]
structure TxO (P:Program)(w:World)(K:PySem.W.Frag)(mg:Str->Option Value):Prop where
 st:∃a,mg "OPERATOR_STRENGTHS"=some (.ref a)/\AD1 P w K a (BT1.map fun p=>(Sum.inr p.1,p.2))
 sums:∃a,mg "BEGINNINGS_OF_A_SUM"=some (.ref a)/\∀H,SqT K H a (BH5.map V.str)
 ones:∃a,mg "SIGNS_OF_A_ONE"=some (.ref a)/\∀H,SqT K H a (BH4.map V.str)
 len:mg "len"=none
noncomputable def BZ2 (cy:Nat->Sy)(N:Nat)(o:Op)(_:Nat):Option Nd:=Aw0 cy N o.c
section
variable {P:Program} {w:World} {K:PySem.W.Frag} {mg:Str->Option Value} {base:Heap}
theorem Y6:B8 ["node","symbols","operands","strengths","operand","strength"] ["node","symbols"] (A7 J8):=⟨rfl,rfl,rfl,by decide+kernel,rfl,by decide+kernel,by decide+kernel⟩
theorem Ay3 {α:Type}{l:List α}{m:Nat}(h:l.length=m+1):∃l' x,l=l'++[x]/\l'.length=m:=by
 rcases List.eq_nil_or_concat l with e |⟨a,b,e⟩
 ·rw[e]at h;cases h
 ·refine⟨a,b,by rw[e,List.concat_eq_append],?_⟩
  rw[e,List.concat_eq_append,List.length_append]at h
  simpa using h
theorem Ac0 {C f fA fJ:Addr}{fd fdA fdJ:FuncData}(F:Fun K "folded_operators" "folded_operators" J8 f fd)(X:NdC K mg C)(T:TxO P w K mg)(NA:Fn K mg "node_around" G9 ["kind","inner","behind","strength"] fA fdA)(NJ:Fn K mg "join_last" S7 ["operands","strengths"] fJ fdJ):
  D3 P w K mg base CX0 5 f fd ["node","symbols"] (V0 C BZ2):=by
 have GJ:D3 P w K mg base CX0 4 fJ fdJ ["operands","strengths"] (A39 C):=A71 NJ.F X NA
 obtain⟨aO,hO,hmd⟩:=T.st
 refine F.ok Y6 (fun vs H Q E h=>?_) (fun cdv A outer s H vs Q E hr h=>?_)
 ·obtain⟨t,sl,cy,N,n,k0,rfl,_⟩:=h
  rfl
 ·obtain⟨t,sl,cy,N,n,k0,rfl,hT,ndT,nsl,hS,hcy,hiN,hcl,_,hfin,h⟩:=h
  have hu:=AX1 hr
  refine⟨_,A2 (C8 (i:=2) Y6.nd rfl (Or.inl rfl) (K8 (A0 (F5 C6 (A8 (pv 0) rfl) A9 (fun _ _=>rfl)) A6)))
   (A2 (C8 (i:=3) Y6.nd rfl (Or.inl rfl) (K8 A6))
   (A2 (Y0 PassesOwn.never rfl (T3 (m5 AE8 (A8 (pv 0) rfl) (t6 A9) AP0)) (K9 (i:=4) Y6.nd rfl (Or.inl rfl))
    (A2 (C8 (i:=5) Y6.nd rfl (Or.inl rfl) (p7 hu (Q7 hO) (F5 C6 (pv 1) (M5 W9 (A8 (pv 4) rfl) A9) (fun _ _=>rfl)) (fun _ _=>rfl)))
    (A2 (M9 PassesOwn.never (PW.pt (e8 (k8 (pv 3) (fun _=>rfl)) (T7 (B5 BM3 (F5 C6 (pv 3) (Am3 AN7 A9) (fun _ _=>rfl)) (pv 5) (C2 _)))))
     (A4 (E8 (D5 NJ GJ hr (A0 (pv 2) (A0 (pv 3) A6))))))
    (A2 (E8 (X8 PySem.F.plainAttrs_list PySem.F.slot_list_append PySem.F.type_list_append F8 (pv 3) (A0 (pv 5) A6)))
    (A4 (E8 (X8 PySem.F.plainAttrs_list PySem.F.slot_list_append PySem.F.type_list_append F8 (pv 2) (A0 (pv 4) A6))))))))
   (A2 (M9 PassesOwn.never (k8 (pv 3) (fun _=>rfl)) (A4 (E8 (D5 NJ GJ hr (A0 (pv 2) (A0 (pv 3) A6))))))
   (A4 (B7 (F5 C6 (pv 2) A9 (fun _ _=>rfl))))))),?_⟩
  have sz:=sizeLine_eq
  obtain⟨a,il,k,i,j,p,st,le,c⟩:=t
  obtain⟨⟨dx,fs,ha,nf⟩,hil,hc⟩:=J5.mp hT
  rw[E3,List.nodup_cons,List.nodup_cons]at ndT
  obtain⟨nda,ndi,ndc⟩:=ndT
  have hcl:c.length<=100001:=hcl
  have hfin:Aw0 cy N (c.map er)=some n:=hfin
  cases c with
  |nil=>cases hfin
  |cons t0 rest=>
  have hfin:(if(rest.map er).all (A44 cy N)=true then(let x:=(rest.map er).foldl (AG2 cy) ([er t0],[]);(red 0 x.1 x.2).1.head?)else none)=some n:=hfin
  have hop:(rest.map er).all (A44 cy N)=true:=by
   by_cases q:(rest.map er).all (A44 cy N)=true
   ·exact q
   ·rw[if_neg q]at hfin;cases hfin
  rw[if_pos hop]at hfin
  have hfin:(red 0 ((rest.map er).foldl (AG2 cy) ([er t0],[])).1 ((rest.map er).foldl (AG2 cy) ([er t0],[])).2).1.head?=some n:=hfin
  refine⟨_,rfl,a,C,dx,fs,_,rfl,ha,X.cl,X.nc,nf.il,il,_,_,_,rfl,rfl,SqL.of hil,D6 (j:=0) rfl,(by show 1<=sizeLine;omega),fun ol hol=>?_⟩
  have s1:Same H (upd H ol (.lst [V.ref t0.a])):=B9 hol
  have o1:(upd H ol (.lst [V.ref t0.a])) ol=some (.lst [V.ref t0.a]):=A1
  generalize (upd H ol (.lst [V.ref t0.a]))=H1 at s1 o1 ⊢
  refine⟨Nat.zero_le _,fun tl htl=>?_⟩
  have s2:Same H1 (upd H1 tl (.lst [])):=B9 htl
  have t2:(upd H1 tl (.lst [])) tl=some (.lst []):=A1
  generalize (upd H1 tl (.lst []))=H2 at s2 t2 ⊢
  have not_:ol≠tl:=fun q=>by rw[←q,o1]at htl;cases htl
  have s02:=s1.trans s2
  refine⟨_,rfl,a,C,dx,fs,_,rfl,s02 _ _ ha,X.cl,X.nc,nf.il,_,rfl,il,_,rfl,SqL.of (s02 _ _ hil),fun D hD=>?_⟩
  have eD:AW6 (B3 (t0::rest)) (some 1) none=B3 rest:=by
   unfold AW6
   rw[HT.sIx_none,show(some (1:Int))=some ((1:Nat):Int)from rfl,HT.sIx_nat]
   have:(B3 (t0::rest)).length=rest.length+1:=by simp[B3]
   rw[this,Nat.min_eq_left (by omega)]
   show(B3 rest).take (rest.length+1-1)=B3 rest
   exact List.take_of_length_le (by simp[B3])
  rw[eD]
  have s3:Same H2 (upd H2 D (.lst (B3 rest))):=B9 hD
  have d3:(upd H2 D (.lst (B3 rest))) D=some (.lst (B3 rest)):=A1
  generalize (upd H2 D (.lst (B3 rest)))=H3 at s3 d3 ⊢
  have nDo:D≠ol:=fun q=>by rw[q,s2 _ _ o1]at hD;cases hD
  have nDt:D≠tl:=fun q=>by rw[q,t2]at hD;cases hD
  have s03:=s02.trans s3
  have zo:H ol=none:=hol
  have zt:H tl=none:=s1.free htl
  have zD:H D=none:=s02.free hD
  have hc':AtT C H t0/\AtL C H rest:=by unfold AtL at hc;exact hc
  have n0:∀z,H z=none->z∉fps [t0]++fps rest:=fun z e q=>by
   have q:z∈fps (t0::rest):=by rw[B1];rw[B1,E4,List.append_nil]at q;exact q
   obtain⟨o,ho⟩:=AtL.ex _ hc z q
   rw[e]at ho;cases ho
  have I0:OI C H (t0::rest) [ol,tl,D] ol tl rest H3 [t0] []:=by
   refine⟨s3 _ _ (s2 _ _ o1),s3 _ _ t2,?_,AtL.keep rest hc'.2 (fun b _ o e=>s03 _ _ e),?_,?_,?_,fun b o _ e=>s03 _ _ e,?_,rfl,fun s hs=>by cases hs⟩
   ·rw[D0]
    intro t ht
    rw[List.mem_singleton]at ht
    subst ht
    exact hc'.1.keep _ fun b _ o e=>s03 _ _ e
   ·rw[B1,E4,List.append_nil,←B1];exact ndc
   ·intro b hb
    rw[B1,E4,List.append_nil,←B1]at hb
    exact .inl hb
   ·intro z hz
    simp only[List.mem_cons,List.not_mem_nil,or_false]at hz
    rcases hz with rfl |rfl |rfl
    ·exact n0 _ zo
    ·exact n0 _ zt
    ·exact n0 _ zD
   ·intro z hz
    simp only[List.mem_cons,List.not_mem_nil,or_false]at hz
    rcases hz with rfl |rfl |rfl
    ·exact .inl rfl
    ·exact .inr (.inl rfl)
    ·exact .inr (.inr ⟨_,d3⟩)
  have hZ:ol∈[ol,tl,D]/\tl∈[ol,tl,D]:=⟨by simp,by simp⟩
  have keepD:∀{rem O:List LT} {S:List Nat} {Hx Hy:Hp} {l r:LT},OI C H (t0::rest) [ol,tl,D] ol tl rem Hx (O++[l,r]) S->Hx D=some (.lst (B3 rest))->(∀c o,c≠ol->c≠tl->c∉fp l++fp r->Hx c=some o->Hy c=some o)->Hy D=some (.lst (B3 rest)):=by
   intro rem O S Hx Hy l r I e k
   refine k D _ nDo nDt (fun q=>I.no D (by simp) (List.mem_append_left _ ?_)) e
   rw[P5,B1,B1,E4,List.append_nil]
   exact List.mem_append_right _ q
  have joinS:∀{rem O:List LT} {S:List Nat} {l r:LT} {s:Nat} {Hx:Hp},OI C H (t0::rest) [ol,tl,D] ol tl rem Hx (O++[l,r]) (S++[s])->
    AtT C Hx l/\AtT C Hx r/\(fp l++fp r).Nodup/\ol∉fp l++fp r/\tl∉fp l++fp r/\s<=100:=by
   intro rem O S l r s Hx I
   have hl:=D0.mp I.ao l (by simp)
   have hrr:=D0.mp I.ao r (by simp)
   have eO:fps (O++[l,r])=fps O++(fp l++fp r):=by rw[P5,B1,B1,E4,List.append_nil]
   have nd:=I.nd
   rw[eO]at nd
   have nlr:(fp l++fp r).Nodup:=(List.nodup_append.mp (List.nodup_append.mp nd).1).2.1
   have out:∀z,z∈[ol,tl,D]->z∉fp l++fp r:=fun z hz q=>I.no z hz (by rw[eO];exact List.mem_append_left _ (List.mem_append_right _ q))
   exact⟨hl,hrr,nlr,out ol (by simp),out tl (by simp),by have:=I.le s (by simp);omega⟩
  have lastTwo:∀{O:List LT} {S:List Nat} {s:Nat},O.length=(S++[s]).length+1->∃O' l r,O=O'++[l,r]/\O'.length=S.length:=by
   intro O S s hl
   obtain⟨O1,r,rfl,h1⟩:=Ay3 hl
   have h1:O1.length=S.length+1:=by rw[h1];simp
   obtain⟨O2,l,rfl,h2⟩:=Ay3 h1
   exact⟨O2,l,r,by simp,h2⟩
  refine⟨D,rfl,⟨_,SqL.of d3⟩,U2 (K:=K) (a:=D) (xs:=B3 rest) (fun m σ H'=>∃(v4 v5:Option V) (O:List LT) (S:List Nat),σ=[some (.ref a),some (.ref sl),some (.ref ol),some (.ref tl),v4,v5]/\OI C H (t0::rest) [ol,tl,D] ol tl (rest.drop m) H' O S/\H' D=some (.lst (B3 rest))/\mir O S=((rest.take m).map er).foldl (AG2 cy) ([er t0],[])/\O.length<=m+1)
   ⟨none,none,[t0],[],rfl,I0,d3,rfl,Nat.le_refl _⟩ (fun m σ H' _ hx=>by obtain⟨v4,v5,O,S,_,_,e,_⟩:=hx;exact SqL.of e) ?_ ?_⟩
  ·rintro m y σ Hx hy ⟨v4,v5,O,S,rfl,I,hDx,hmir,hlen⟩
   obtain⟨tm,htm,rfl⟩:=u9 (f:=fun t:LT=>V.ref t.a) hy
   have hml:m<rest.length:=(List.getElem?_eq_some_iff.mp htm).1
   have edr:rest.drop m=tm::rest.drop (m+1):=by
    rw[List.drop_eq_getElem_cons hml]
    congr 1
    exact(List.getElem?_eq_some_iff.mp htm).2
   rw[edr]at I
   have htk:=J6 htm
   have hopm:A44 cy N (er tm)=true:=List.all_eq_true.mp hop _ (List.mem_map.mpr ⟨tm,List.mem_of_getElem? htm,rfl⟩)
   obtain⟨k1,k2,k3⟩:1<=(er tm).i/\(er tm).i<=N/\2<=stOf (cy ((er tm).i-1)):=of_decide_eq_true hopm
   rw[(Au0 tm).2.1]at k1 k2 k3
   obtain⟨dm,fm,hm0,nfm⟩:=(D0.mp I.ar tm (List.mem_cons_self ..)).no
   have hSx:SyAt Hx sl cy N:=hS.keep fun o e=>I.kp sl o (fun q=>nsl (by rw[E3];exact List.mem_cons_of_mem _ (List.mem_cons_of_mem _ q))) e
   obtain⟨xs,hxs,hxi⟩:=SyAt.at hSx (i:=tm.i-1) (by omega)
   have ei:tm.rc.i-1=((tm.i-1:Nat):Int):=by rw[(y8 tm).1];omega
   refine⟨_,rfl,_,rfl,tm.a,C,dm,fm,_,rfl,hm0,X.cl,X.ni,nfm.i,_,_,rfl,rfl,?_⟩
   rw[show((fun i j:Int=>V.int (i-j)) tm.rc.i 1)=V.int ((tm.i-1:Nat):Int)from by show V.int (tm.rc.i-1)=_;rw[ei]]
   refine⟨sl,_,_,_,rfl,rfl,SqL.of hxs,D6 hxi,aO,_,rfl,.inl ⟨_,Sum.inr (B6 (cy (tm.i-1))),hmd,rfl,(BB8 k3).symm⟩,?_⟩
   have hsl:=BF0 (cy (tm.i-1))
   have nxt:∀{Hy:Hp} {O':List LT} {S':List Nat},OI C H (t0::rest) [ol,tl,D] ol tl (tm::rest.drop (m+1)) Hy O' S'->Hy D=some (.lst (B3 rest))->red (stOf (cy (tm.i-1))) (mir O S).1 (mir O S).2=mir O' S'->O'.length<=m+1->
     ∃(v4 v5:Option V) (O1:List LT) (S1:List Nat),[some (V.ref a),some (.ref sl),some (.ref ol),some (.ref tl),some (.ref tm.a),some (.int ((stOf (cy (tm.i-1)):Nat):Int))]=[some (V.ref a),some (.ref sl),some (.ref ol),some (.ref tl),v4,v5]/\OI C H (t0::rest) [ol,tl,D] ol tl (rest.drop (m+1)) (upd (upd Hy tl (.lst ((S'.map fun n=>V.int ((n:Nat):Int))++[V.int ((stOf (cy (tm.i-1)):Nat):Int)]))) ol (.lst (B3 O'++[V.ref tm.a]))) O1 S1/\
      (upd (upd Hy tl (.lst ((S'.map fun n=>V.int ((n:Nat):Int))++[V.int ((stOf (cy (tm.i-1)):Nat):Int)]))) ol (.lst (B3 O'++[V.ref tm.a]))) D=some (.lst (B3 rest))/\mir O1 S1=((rest.take (m+1)).map er).foldl (AG2 cy) ([er t0],[])/\O1.length<=m+1+1:=by
    intro Hy O' S' I' hD' hr' hl'
    have q:=I'.push hZ zo zt not_ hsl
    rw[J0,List.map_append]at q
    refine⟨_,_,O'++[tm],S'++[stOf (cy (tm.i-1))],rfl,q,?_,?_,?_⟩
    ·rw[A5 nDo,A5 nDt];exact hD'
    ·rw[htk,List.map_append,List.foldl_append,←hmir]
     show _=AG2 cy (mir O S) (er tm)
     unfold AG2
     rw[(Au0 tm).2.1]
     show _=(er tm::(red (stOf (cy (tm.i-1))) (mir O S).1 (mir O S).2).1,stOf (cy (tm.i-1))::(red (stOf (cy (tm.i-1))) (mir O S).1 (mir O S).2).2)
     rw[hr']
     unfold mir
     simp
    ·rw[List.length_append];simp;omega
   refine⟨fun q σ Hy=>∃(O':List LT) (S':List Nat),σ=[some (V.ref a),some (.ref sl),some (.ref ol),some (.ref tl),some (.ref tm.a),some (.int ((stOf (cy (tm.i-1)):Nat):Int))]/\OI C H (t0::rest) [ol,tl,D] ol tl (tm::rest.drop (m+1)) Hy O' S'/\Hy D=some (.lst (B3 rest))/\
     red (stOf (cy (tm.i-1))) (mir O S).1 (mir O S).2=red (stOf (cy (tm.i-1))) (mir O' S').1 (mir O' S').2/\O'.length<=m+1/\q=S'.length,⟨_,O,S,rfl,I,hDx,rfl,hlen,rfl⟩,?_⟩
   rintro q σ Hy ⟨O',S',rfl,I',hD',hr',hl',rfl⟩
   have hrl:(B3 O').length=O'.length:=by simp[B3]
   have hil:rest.length<=100000:=by simpa using hcl
   have hlen':=I'.len
   refine⟨_,rfl,!S'.isEmpty,.inl ⟨_,SqL.of I'.t,by cases S'<;>rfl⟩,?_⟩
   rcases List.eq_nil_or_concat S' with rfl |⟨S1,s,e⟩
   ·rw[Ak8]at hr'
    refine AQ3 (AQ3 ⟨_,rfl,.inl ⟨rfl,_,SqL.of I'.t⟩,_,rfl,tl,_,_,rfl,rfl,I'.t,(by show 0<sizeLine;omega),?_⟩)
    refine⟨_,rfl,.inl ⟨rfl,_,SqL.of (by rw[A5 not_];exact I'.o)⟩,_,rfl,ol,_,_,rfl,rfl,(by rw[A5 not_];exact I'.o),(by rw[hrl];omega),?_⟩
    exact nxt I' hD' hr' hl'
   ·rw[List.concat_eq_append]at e
    subst e
    rw[show(!(S1++[s]).isEmpty)=true by simp]
    have hs:=I'.le s (by simp)
    have et:(S1++[s]).map (fun n=>V.int ((n:Nat):Int))=S1.map (fun n=>V.int ((n:Nat):Int))++[V.int ((s:Nat):Int)]:=by rw[List.map_append];rfl
    have it:=I'.t
    rw[et]at it
    refine AX4 ⟨_,rfl,1,rfl,tl,_,_,_,rfl,rfl,SqL.of it,AW9 _ _,_,rfl,_,_,rfl,rfl,_,rfl,G7 (fun c=>?_) (fun c=>?_)⟩
    ·have c:stOf (cy (tm.i-1))<=s:=by have:=of_decide_eq_true c;omega
     obtain⟨O2,l,r,rfl,e2⟩:=lastTwo hlen'
     have l2:O2.length<=200000:=by simp at hl';omega
     obtain⟨j1,j2,j3,j4,j5,j6⟩:=joinS I'
     refine⟨_,fun _ _ z=>z,_,rfl,_,rfl,ol,tl,O2,l,r,S1,s,rfl,I'.o,I'.t,j1,j2,j3,j4,j5,not_,l2,j6,fun Hz n a' b' g1 g2 g3 g4 g5 g6 g7 g8 g9=>⟨S1.length,by simp,O2++[n],S1,rfl,I'.join hZ zo zt g1 g2 g3 g5 g6 g7 g8 g9,keepD I' hD' g9,?_,?_,rfl⟩⟩
     ·rw[hr',AS9 g4 c]
     ·simp at hl' ⊢;omega
    ·have c:s<stOf (cy (tm.i-1)):=by
      have:¬(((stOf (cy (tm.i-1)):Nat):Int)<=(s:Nat)):=fun q=>c (decide_eq_true q)
      omega
     rw[Ax3 hlen' c]at hr'
     refine⟨_,rfl,.inl ⟨rfl,_,SqL.of I'.t⟩,_,rfl,tl,_,_,rfl,rfl,I'.t,(by rw[List.length_map];omega),?_⟩
     refine⟨_,rfl,.inl ⟨rfl,_,SqL.of (by rw[A5 not_];exact I'.o)⟩,_,rfl,ol,_,_,rfl,rfl,(by rw[A5 not_];exact I'.o),(by rw[hrl];omega),?_⟩
     exact nxt I' hD' hr' hl'
  ·rintro σ Hx ⟨v4,v5,O,S,rfl,I,hDx,hmir,hlen⟩
   have er0:(B3 rest).length=rest.length:=by simp[B3]
   rw[er0,List.drop_length]at I
   rw[er0,List.take_length]at hmir
   rw[er0]at hlen
   rw[←hmir]at hfin
   refine⟨fun q σ Hy=>∃(O':List LT) (S':List Nat),σ=[some (V.ref a),some (.ref sl),some (.ref ol),some (.ref tl),v4,v5]/\OI C H (t0::rest) [ol,tl,D] ol tl [] Hy O' S'/\Hy D=some (.lst (B3 rest))/\
     red 0 (mir O S).1 (mir O S).2=red 0 (mir O' S').1 (mir O' S').2/\O'.length<=rest.length+1/\q=S'.length,⟨_,O,S,rfl,I,hDx,rfl,hlen,rfl⟩,?_⟩
   rintro q σ Hy ⟨O',S',rfl,I',hD',hr',hl',rfl⟩
   have hil:rest.length<=100000:=by simpa using hcl
   have hlen':=I'.len
   refine⟨_,rfl,!S'.isEmpty,.inl ⟨_,SqL.of I'.t,by cases S'<;>rfl⟩,?_⟩
   rcases List.eq_nil_or_concat S' with rfl |⟨S1,s,e⟩
   ·rw[hr',Ak8]at hfin
    obtain⟨x,rfl⟩:∃x,O'=[x]:=by
     cases O' with
     |nil=>cases hlen'
     |cons x r=>cases r with
      |nil=>exact⟨x,rfl⟩
      |cons y r=>simp at hlen'
    have ex:er x=n:=by injection hfin
    refine AQ3 ⟨_,rfl,ol,_,0,_,rfl,rfl,SqL.of I'.o,D6 (j:=0) rfl,?_⟩
    have nd:=I'.nd
    have sub:=I'.sub
    rw[B1,E4,List.append_nil,List.append_nil]at nd sub
    refine h Hy x ⟨D0.mp I'.ao x (List.mem_singleton.mpr rfl),ex,nd,fun b hb=>?_,fun b o hb e=>I'.kp b o (fun q=>hb ?_) e⟩
    ·rcases sub b hb with q |q
     ·exact .inl (by rw[E3];exact List.mem_cons_of_mem _ (List.mem_cons_of_mem _ q))
     ·exact .inr q
    ·rw[E3];exact List.mem_cons_of_mem _ (List.mem_cons_of_mem _ q)
   ·rw[List.concat_eq_append]at e
    subst e
    rw[show(!(S1++[s]).isEmpty)=true by simp]
    obtain⟨O2,l,r,rfl,e2⟩:=lastTwo hlen'
    have l2:O2.length<=200000:=by simp at hl';omega
    obtain⟨j1,j2,j3,j4,j5,j6⟩:=joinS I'
    refine AX4 ⟨_,fun _ _ z=>z,_,rfl,_,rfl,ol,tl,O2,l,r,S1,s,rfl,I'.o,I'.t,j1,j2,j3,j4,j5,not_,l2,j6,fun Hz n a' b' g1 g2 g3 g4 g5 g6 g7 g8 g9=>⟨S1.length,by simp,O2++[n],S1,rfl,I'.join hZ zo zt g1 g2 g3 g5 g6 g7 g8 g9,keepD I' hD' g9,?_,?_,rfl⟩⟩
    ·rw[hr',AS9 g4 (Nat.zero_le _)]
    ·simp at hl' ⊢;omega
end
end Rk
namespace Rk
open PySem PySem.Spec PyProof.Rows L2 Tk Rd
structure PI (C:Addr)(H0:Hp)(c0:List LT)(D:Addr)(dl:List V)(rem:List LT)(H:Hp)(p:LT):Prop where
 d:H D=some (.lst dl)
 ap:AtT C H p
 ar:AtL C H rem
 nd:(fp p++fps rem).Nodup
 sub:∀b∈fp p++fps rem,b∈fps c0∨H0 b=none
 no:D∉fp p++fps rem
 kp:∀b o,b∉fps c0->H0 b=some o->H b=some o
noncomputable def A04 (C:Addr):Sp:=fun vs H Q _=>∃(t t0:LT) (rest:List LT),vs=[.ref t.a]/\AtT C H t/\(fp t).Nodup/\t.c=t0::rest/\rest.length<=100001/\(∀q∈rest,q.c.length<=2)/\∀(H':Hp) (t':LT),Am9 C H H' t t' ((rest.map er).foldl F9 (er t0))->Q (.ref t'.a) H'
theorem Bc3 {x:V}{xs:List V}:AW6 (x::xs) (some 1) none=xs:=by
 unfold AW6
 rw[HT.sIx_none,show(some (1:Int))=some ((1:Nat):Int)from rfl,HT.sIx_nat]
 rw[List.length_cons,Nat.min_eq_left (by omega)]
 show xs.take (xs.length+1-1)=xs
 exact List.take_of_length_le (by simp)
theorem PI.post {C:Addr}{H0 H H':Hp}{c0 rem:List LT}{D:Addr}{dl:List V}{p q:LT}{a b:Addr}(I:PI C H0 c0 D dl (q::rem) H p)(ha:H a=none)(hb:H b=none)(hab:a≠b)
  (h1:AtT C H' (.mk a b .POST p.i q.j false 12 0 (p.setLe 12::q.c))) (h2:∀c o,c≠p.a->H c=some o->H' c=some o):PI C H0 c0 D dl rem H' (.mk a b .POST p.i q.j false 12 0 (p.setLe 12::q.c)):=by
 have eq1:fps (q::rem)=q.a::q.il::(fps q.c++fps rem):=by
  obtain⟨qa,qi,k,i,j,p,s,l,c⟩:=q
  rw[B1,E3]
  rfl
 have e2:fp (.mk a b .POST p.i q.j false 12 0 (p.setLe 12::q.c))++fps rem=a::b::(fp p++(fps q.c++fps rem)):=by
  rw[E3,B1,AK0,List.cons_append,List.cons_append,List.append_assoc]
 have inU:∀x,x∈fp p++(fps q.c++fps rem)->x∈fp p++fps (q::rem):=fun x hx=>by
  rw[eq1]
  rcases List.mem_append.mp hx with hx |hx
  ·exact List.mem_append_left _ hx
  ·exact List.mem_append_right _ (List.mem_cons_of_mem _ (List.mem_cons_of_mem _ hx))
 have exU:∀x,x∈fp p++fps (q::rem)->∃o,H x=some o:=fun x hx=>by
  rcases List.mem_append.mp hx with hx |hx
  ·exact AtT.ex _ I.ap x hx
  ·exact AtL.ex _ I.ar x hx
 have fresh:∀x,H x=none->x∉fp p++(fps q.c++fps rem):=fun x e hx=>by
  obtain⟨o,ho⟩:=exU x (inU x hx)
  rw[e]at ho;cases ho
 have h0:∀x,H x=none->x∈fps c0∨H0 x=none:=fun x e=>by
  by_cases z:x∈fps c0
  ·exact .inl z
  ·cases e0:H0 x with
   |none=>exact .inr rfl
   |some o=>rw[I.kp x o z e0]at e;cases e
 have nd:=I.nd
 rw[eq1]at nd
 have ndU:(fp p++(fps q.c++fps rem)).Nodup:=by
  rw[List.nodup_append]at nd ⊢
  refine⟨nd.1,(List.nodup_cons.mp (List.nodup_cons.mp nd.2.1).2).2,fun x hx y hy=>nd.2.2 x hx y (List.mem_cons_of_mem _ (List.mem_cons_of_mem _ hy))⟩
 have nD:D≠p.a:=fun z=>I.no (by rw[z];exact List.mem_append_left _ (E7 p))
 refine⟨h2 D _ nD I.d,h1,?_,?_,?_,?_,?_⟩
 ·have hr:AtL C H rem:=by have:=I.ar;unfold AtL at this;exact this.2
  refine AtL.keep rem hr fun x hx o e=>h2 x o (fun z=>?_) e
  rw[List.nodup_append]at ndU
  exact ndU.2.2 p.a (E7 p) x (List.mem_append_right _ hx) z.symm
 ·rw[e2]
  refine List.nodup_cons.mpr ⟨fun z=>?_,List.nodup_cons.mpr ⟨fresh b hb,ndU⟩⟩
  rcases List.mem_cons.mp z with z |z
  ·exact hab z
  ·exact fresh a ha z
 ·rw[e2]
  intro x hx
  rcases List.mem_cons.mp hx with rfl |hx
  ·exact h0 _ ha
  rcases List.mem_cons.mp hx with rfl |hx
  ·exact h0 _ hb
  exact I.sub x (inU x hx)
 ·rw[e2]
  intro hx
  rcases List.mem_cons.mp hx with hx |hx
  ·have:=I.d;rw[hx,ha]at this;cases this
  rcases List.mem_cons.mp hx with hx |hx
  ·have:=I.d;rw[hx,hb]at this;cases this
  exact I.no (inU D hx)
 ·intro x o hx e
  refine h2 x o (fun z=>?_) (I.kp x o hx e)
  rcases I.sub p.a (List.mem_append_left _ (E7 p))with y |y
  ·exact hx (by rw[z];exact y)
  ·rw[z,y]at e;cases e
section
variable {P:Program} {w:World} {K:PySem.W.Frag} {mg:Str->Option Value} {base:Heap}
theorem AW4:B8 ["node","post","part"] ["node"] (A7 O8):=⟨rfl,rfl,rfl,by decide+kernel,rfl,by decide+kernel,by decide+kernel⟩
theorem AF4 {C f fA:Addr}{fd fdA:FuncData}(F:Fun K "folded_post" "folded_post" O8 f fd)(X:NdC K mg C)(NA:Fn K mg "node_around" G9 ["kind","inner","behind","strength"] fA fdA):
  D3 P w K mg base CX0 4 f fd ["node"] (A04 C):=by
 have GA:D3 P w K mg base CX0 3 fA fdA ["kind","inner","behind","strength"] (k7 C):=AL4 NA.F X
 refine F.ok AW4 (fun vs H Q E h=>?_) (fun cdv A outer s H vs Q E hr h=>?_)
 ·obtain⟨t,t0,rest,rfl,_⟩:=h
  rfl
 ·obtain⟨t,t0,rest,rfl,hT,ndT,ec,hrl,hq2,h⟩:=h
  refine⟨_,A2 (C8 (i:=1) AW4.nd rfl (Or.inl rfl) (F5 C6 (A8 (pv 0) rfl) A9 (fun _ _=>rfl)))
   (A2 (Y0 PassesOwn.never rfl (T3 (m5 AE8 (A8 (pv 0) rfl) (t6 A9) AP0)) (K9 (i:=2) AW4.nd rfl (Or.inl rfl))
    (A2 (C7 (pv 1) (E6 X.pstS) rfl)
    (A4 (C8 (i:=1) AW4.nd rfl (Or.inl rfl) (D5 NA GA hr (A0 D9 (A0 (M5 AL8 (K8 (A0 (pv 1) A6)) (A8 (pv 2) rfl)) (A0 (A8 (pv 2) rfl) (A0 (E6 X.pstS) A6)))))))))
   (A4 (B7 (pv 1)))),?_⟩
  have sz:=sizeLine_eq
  obtain⟨a,il,k,i,j,p,st,le,c⟩:=t
  obtain⟨⟨dx,fs,ha,nf⟩,hil,hc⟩:=J5.mp hT
  rw[E3,List.nodup_cons,List.nodup_cons]at ndT
  obtain⟨nda,ndi,ndc⟩:=ndT
  have ec:c=t0::rest:=ec
  subst ec
  refine⟨_,rfl,a,C,dx,fs,_,rfl,ha,X.cl,X.nc,nf.il,il,_,_,_,rfl,rfl,SqL.of hil,D6 (j:=0) rfl,?_⟩
  refine⟨_,rfl,a,C,dx,fs,_,rfl,ha,X.cl,X.nc,nf.il,_,rfl,il,_,rfl,SqL.of hil,fun D hD=>?_⟩
  rw[show AW6 (B3 (t0::rest)) (some 1) none=B3 rest from Bc3]
  have s3:Same H (upd H D (.lst (B3 rest))):=B9 hD
  have d3:(upd H D (.lst (B3 rest))) D=some (.lst (B3 rest)):=A1
  generalize (upd H D (.lst (B3 rest)))=H3 at s3 d3 ⊢
  have hc':AtT C H t0/\AtL C H rest:=by unfold AtL at hc;exact hc
  have I0:PI C H (t0::rest) D (B3 rest) rest H3 t0:=by
   refine⟨d3,hc'.1.keep _ fun b _ o e=>s3 _ _ e,AtL.keep rest hc'.2 fun b _ o e=>s3 _ _ e,by rw[←B1];exact ndc,fun b hb=>.inl (by rw[B1];exact hb),fun q=>?_,fun b o _ e=>s3 _ _ e⟩
   obtain⟨o,ho⟩:=AtL.ex _ hc D (by rw[B1];exact q)
   rw[hD]at ho;cases ho
  refine⟨D,rfl,⟨_,SqL.of d3⟩,U2 (K:=K) (a:=D) (xs:=B3 rest) (fun m σ H'=>∃(v2:Option V) (p:LT),σ=[some (.ref a),some (.ref p.a),v2]/\PI C H (t0::rest) D (B3 rest) (rest.drop m) H' p/\er p=((rest.take m).map er).foldl F9 (er t0))
   ⟨none,t0,rfl,I0,rfl⟩ (fun m σ H' _ hx=>by obtain⟨v2,p,_,I,_⟩:=hx;exact SqL.of I.d) ?_ ?_⟩
  ·rintro m y σ Hx hy ⟨v2,p,rfl,I,hp⟩
   obtain⟨q,hq,rfl⟩:=u9 (f:=fun t:LT=>V.ref t.a) hy
   have hml:m<rest.length:=(List.getElem?_eq_some_iff.mp hq).1
   have edr:rest.drop m=q::rest.drop (m+1):=by
    rw[List.drop_eq_getElem_cons hml]
    congr 1
    exact(List.getElem?_eq_some_iff.mp hq).2
   rw[edr]at I
   have htk:=J6 hq
   have q2:=hq2 q (List.mem_of_getElem? hq)
   obtain⟨dp,fp',hp0,nfp⟩:=I.ap.no
   have ndp:(fp p).Nodup:=(List.nodup_append.mp I.nd).1
   have dis:=(List.nodup_append.mp I.nd).2.2
   have aq:AtT C Hx q:=D0.mp I.ar q (List.mem_cons_self ..)
   have fq:∀x,x∈fp q->x∈fps (q::rest.drop (m+1)):=fun x hx=>by rw[B1];exact List.mem_append_left _ hx
   have hpl:=I.ap.setLe ndp hp0 nfp 12
   have hq1:AtT C (upd Hx p.a (.ins C dp (C1 "least" (.int ((12:Nat):Int)) fp'))) q:=aq.keep q fun x hx o e=>by rw[A5 (fun z=>dis p.a (E7 p) x (fq x hx) z.symm)];exact e
   have kp1:∀c o,c≠p.a->Hx c=some o->(upd Hx p.a (.ins C dp (C1 "least" (.int ((12:Nat):Int)) fp'))) c=some o:=fun c o n e=>by rw[A5 n];exact e
   have n1:∀c,(upd Hx p.a (.ins C dp (C1 "least" (.int ((12:Nat):Int)) fp'))) c=none->Hx c=none:=fun c e=>by
    have c1:c≠p.a:=fun q=>by rw[q,A1]at e;cases e
    rw[A5 c1]at e;exact e
   refine⟨_,rfl,p.a,C,dp,fp',rfl,hp0,X.cl,X.nl,(by have:=nfp.n;omega),?_⟩
   rw[show(12:Int)=((12:Nat):Int)from rfl]
   generalize (upd Hx p.a (.ins C dp (C1 "least" (.int ((12:Nat):Int)) fp')))=H1 at hpl hq1 kp1 n1 ⊢
   have hq1':=hq1
   obtain⟨qa,qi,qk,qii,qj,qp,qs,ql,qc⟩:=q
   obtain⟨⟨dq,fq',hqa,nfq⟩,hqi,hqc⟩:=J5.mp hq1'
   obtain⟨dp2,fp2,hp2,nfp2⟩:=hpl.no
   rw[A29]at hp2
   have q2:qc.length<=2:=q2
   refine⟨_,rfl,(by show 1<=sizeLine;omega),fun l0 hl0=>?_⟩
   have s2:Same H1 (upd H1 l0 (.lst [V.ref p.a])):=B9 hl0
   have e2:(upd H1 l0 (.lst [V.ref p.a])) l0=some (.lst [V.ref p.a]):=A1
   generalize (upd H1 l0 (.lst [V.ref p.a]))=H2 at s2 e2 ⊢
   refine⟨_,rfl,qa,C,dq,fq',_,rfl,s2 _ _ hqa,X.cl,X.nc,nfq.il,l0,qi,_,_,rfl,rfl,e2,s2 _ _ hqi,(by simp[B3];omega),fun b hb=>?_⟩
   have s4:Same H2 (upd H2 b (.lst ([V.ref p.a]++B3 qc))):=B9 hb
   have e4:(upd H2 b (.lst ([V.ref p.a]++B3 qc))) b=some (.lst (V.ref p.a::B3 qc)):=A1
   generalize (upd H2 b (.lst ([V.ref p.a]++B3 qc)))=H4 at s4 e4 ⊢
   have s14:=s2.trans s4
   refine⟨_,rfl,qa,C,dq,fq',_,rfl,s14 _ _ hqa,X.cl,X.nj,nfq.j,"POST",b,_,_,p.a,B3 qc,_,rfl,e4,⟨dp2,fp2,s14 _ _ hp2,nfp2⟩,fun H5 a5 ha5 hN5 s5=>?_⟩
   have s15:=s14.trans s5
   have hab:a5≠b:=fun z=>by rw[z,e4]at ha5;cases ha5
   have hpi:(p.setLe 12).rc.i=(p.i:Nat):=by rw[(y8 _).1,(BD8 p _).1]
   rw[hpi]at hN5
   refine⟨_,.mk a5 b .POST p.i qj false 12 0 (p.setLe 12::qc),rfl,I.post (q:=.mk qa qi qk qii qj qp qs ql qc) (n1 _ (s14.free ha5)) (n1 _ (s2.free hb)) hab ?_ fun c o n e=>s15 _ _ (kp1 c o n e),?_⟩
   ·refine J5.mpr ⟨hN5,?_,D0.mpr fun t ht=>?_⟩
    ·rw[s5 _ _ e4]
     show some (HO.lst (V.ref p.a::B3 qc))=some (HO.lst (V.ref (p.setLe 12).a::B3 qc))
     rw[A29]
    ·rcases List.mem_cons.mp ht with rfl |ht
     ·exact hpl.keep _ fun x _ o e=>s15 _ _ e
     ·exact(D0.mp hqc t ht).keep _ fun x _ o e=>s15 _ _ e
   ·rw[htk,List.map_append,List.foldl_append,←hp]
    show _=F9 (er p) (er (.mk qa qi qk qii qj qp qs ql qc))
    unfold F9
    rw[T8,T8,List.map_cons,Aq9,(Au0 p).2.1]
    rfl
  ·rintro σ Hx ⟨v2,p,rfl,I,hp⟩
   have er0:(B3 rest).length=rest.length:=by simp[B3]
   rw[er0,List.drop_length]at I
   rw[er0,List.take_length]at hp
   have nd:=I.nd
   have sub:=I.sub
   rw[E4,List.append_nil]at nd sub
   refine⟨_,rfl,h Hx p ⟨I.ap,hp,nd,fun b hb=>?_,fun b o hb e=>I.kp b o (fun q=>hb ?_) e⟩⟩
   ·rcases sub b hb with q |q
    ·exact .inl (by rw[E3];exact List.mem_cons_of_mem _ (List.mem_cons_of_mem _ q))
    ·exact .inr q
   ·rw[E3];exact List.mem_cons_of_mem _ (List.mem_cons_of_mem _ q)
end
end Rk
namespace Rk
open PySem PySem.Spec PyProof.Rows L2 Tk Rd
noncomputable def BZ1 (y:Sy):Bool:=decide (y=.kept 15∨y=.kept 12∨y=.kept 13)
noncomputable def BT4 (y:Sy):Bool:=decide (y=.sign 10∨y=.sign 17∨y=.sign 18)
theorem BB9:∀y∈G6,inV (.str (B6 y)) (BH5.map V.str)=BZ1 y:=by decide+kernel
theorem BA8:∀y∈G6,inV (.str (B6 y)) (BH4.map V.str)=BT4 y:=by decide+kernel
theorem A84:∀y∈G6,decide (V.str (B6 y)=V.str "(")=decide (y=.sign 27):=by decide+kernel
theorem As3:(BH5.map V.str).all T0=true:=by decide+kernel
theorem As8:(BH4.map V.str).all T0=true:=by decide+kernel
theorem Af6 (k:Kd):decide (V.str (J7 k)=V.str "SIZE")=decide (k=.n .SIZE):=by
 cases k with
 |n x=>cases x<;>decide+kernel
 |_=>decide+kernel
theorem Bd7 (k:Kd):decide (V.str (J7 k)=V.str "E")=decide (k=.n .E):=by
 cases k with
 |n x=>cases x<;>decide+kernel
 |_=>decide+kernel
theorem BW9 (k:Kd):decide (V.str (J7 k)=V.str "OR")=decide (k=.n .OR):=by
 cases k with
 |n x=>cases x<;>decide+kernel
 |_=>decide+kernel
theorem BQ4 (k:Kd):decide (V.str (J7 k)=V.str "ONE")=decide (k=.n .ONE):=by
 cases k with
 |n x=>cases x<;>decide+kernel
 |_=>decide+kernel
theorem AQ0 (k:Kd):decide (V.str (J7 k)=V.str "ATOM")=decide (k=.n .ATOM):=by
 cases k with
 |n x=>cases x<;>decide+kernel
 |_=>decide+kernel
theorem AtT.root {C a il dx:Addr}{H:Hp}{k:Kd}{i j:Nat}{p:Bool}{s l:Nat}{c:List LT}{fs:List (Str×V)}(hil:H il=some (.lst (B3 c)))(hc:AtL C H c)(nda:a∉il::fps c)(nf:NF fs ⟨il,J7 k,i,j,p,s,l⟩):AtT C (upd H a (.ins C dx fs)) (.mk a il k i j p s l c):=by
 refine J5.mpr ⟨⟨dx,_,A1,nf⟩,?_,AtL.keep c hc fun b hb o e=>?_⟩
 ·rw[A5 (fun q=>nda (by rw[q];exact List.mem_cons_self ..))];exact hil
 ·rw[A5 (fun q=>nda (by rw[←q];exact List.mem_cons_of_mem _ hb))];exact e
theorem AJ1 {t:LT}{k0:Kd}{i j:Nat}{x:List Nd}(e:er t=.mk k0 i j false 13 0 x):∃a il,t=.mk a il k0 i j false 13 0 t.c:=by
 obtain⟨a,il,k,i',j',p,s,l,c⟩:=t
 rw[T8]at e
 injection e with e1 e2 e3 e4 e5 e6 e7
 subst e1 e2 e3 e4 e5 e6
 exact⟨a,il,rfl⟩
theorem U3 {C a il:Addr}{H H':Hp}{k k0:Kd}{i j i0 j0:Nat}{p p0:Bool}{s l s0 l0:Nat}{c c':List LT}{n:Nd}(h:AtT C H' (.mk a il k i j p s l c'))(ef:fps c'=fps c)(nd:(fp (.mk a il k0 i0 j0 p0 s0 l0 c)).Nodup)(e:Nd.mk k i j p s l (c'.map er)=n)(kp:∀b o,b∉fp (.mk a il k0 i0 j0 p0 s0 l0 c)->H b=some o->H' b=some o):Am9 C H H' (.mk a il k0 i0 j0 p0 s0 l0 c) (.mk a il k i j p s l c') n:=by
 refine⟨h,by rw[T8];exact e,?_,fun b hb=>.inl ?_,kp⟩
 ·rw[E3,ef];rw[E3]at nd;exact nd
 ·rw[E3,ef]at hb;rw[E3];exact hb
noncomputable def mfE (cy:Nat->Sy)(_:Nat)(o:Op)(j:Nat):Option Nd:=BS7 cy o j
noncomputable def BO4 (cy:Nat->Sy)(_:Nat)(o:Op)(j:Nat):Option Nd:=AS7 cy o j
noncomputable def Bb5 (cy:Nat->Sy)(_:Nat)(o:Op)(j:Nat):Option Nd:=AE3 cy o j (if o.k=.n .SIZE then 13 else 0)
section
variable {P:Program} {w:World} {K:PySem.W.Frag} {mg:Str->Option Value} {base:Heap}
theorem A08:B8 ["node","symbols","condition"] ["node","symbols"] (A7 U4):=⟨rfl,rfl,rfl,by decide+kernel,rfl,by decide+kernel,by decide+kernel⟩
theorem BA4 {C f:Addr}{fd:FuncData}(F:Fun K "finished_e" "finished_e" U4 f fd)(X:NdC K mg C)(T:TxO P w K mg):D3 P w K mg base CX0 1 f fd ["node","symbols"] (V0 C mfE):=by
 obtain⟨aS,hS0,hS1⟩:=T.sums
 refine F.ok A08 (fun vs H Q E h=>?_) (fun cdv A outer s H vs Q E hr h=>?_)
 ·obtain⟨t,sl,cy,N,n,k0,rfl,_⟩:=h
  rfl
 ·obtain⟨t,sl,cy,N,n,k0,rfl,hT,ndT,nsl,hS,hcy,hiN,hcl,het,hfin,h⟩:=h
  refine⟨_,A2 (E2 (B5 S4 (F5 C6 (pv 1) (A8 (pv 0) rfl) (fun _ _=>rfl)) (Q7 hS0) rfl)
    (A2 (C7 (pv 0) D9 rfl) (A2 (C7 (pv 0) (E6 X.sumS) rfl) (A4 (B7 (pv 0))))) C4)
   (A2 (E2 (B5 J3 (F0 C3 (by rfl) T.len PySem.boot_len (A0 (A8 (pv 0) rfl) A6)) A9 (C2 _)) (A4 (B7 (F5 C6 (A8 (pv 0) rfl) A9 (fun _ _=>rfl)))) C4)
   (A2 (C8 (i:=2) A08.nd rfl (Or.inl rfl) (F5 C6 (A8 (pv 0) rfl) A9 (fun _ _=>rfl)))
   (A2 (C7 (pv 2) (M5 T5 (E6 X.choS) A9) rfl)
   (A2 (C7 (pv 0) D9 rfl) (A2 (C7 (pv 0) (E6 X.choS) rfl) (A4 (B7 (pv 0)))))))),?_⟩
  have sz:=sizeLine_eq
  obtain⟨a,il,et⟩:=AJ1 het
  generalize t.c=c at et hcl hfin
  generalize t.i=i at et hiN hfin
  generalize t.j=j at et hfin
  subst et
  obtain⟨⟨dx,fs,ha,nf⟩,hil,hc⟩:=J5.mp hT
  have nd0:=ndT
  rw[E3,List.nodup_cons,List.nodup_cons]at ndT
  obtain⟨nda,ndi,ndc⟩:=ndT
  obtain⟨xs,hxs,hxi⟩:=SyAt.at hS hiN
  have hfin:BS7 cy ⟨k0,i,c.map er⟩ j=some n:=hfin
  refine⟨_,rfl,_,rfl,a,C,dx,fs,_,rfl,ha,X.cl,X.ni,nf.i,sl,_,_,_,rfl,rfl,SqL.of hxs,D6 hxi,aS,_,rfl,.inr (hS1 _),rfl,As3,_,rfl,?_⟩
  rw[show(if false=true then !inV (V.str (B6 (cy i))) (BH5.map V.str)else inV (V.str (B6 (cy i))) (BH5.map V.str))=BZ1 (cy i)from BB9 _ (hcy i)]
  refine G7 (fun q=>?_) (fun q=>?_)
  ·have q:cy i=.kept 15∨cy i=.kept 12∨cy i=.kept 13:=of_decide_eq_true q
   have hfin:some (Nd.mk .SUM i j false 0 0 (c.map er))=some n:=by rw[←hfin];exact(if_pos q).symm
   injection hfin with hfin
   refine⟨_,rfl,a,C,dx,fs,rfl,ha,X.cl,X.nk,(by have:=nf.n;omega),?_⟩
   have nf2:=nf.setK "SUM"
   refine⟨_,rfl,a,C,dx,_,rfl,A1,X.cl,X.ns,(by have:=nf2.n;omega),?_⟩
   have nf3:=nf2.setS 0
   rw[K0]
   refine⟨_,rfl,h _ (.mk a il .SUM i j false 0 0 c) (U3 (AtT.root hil hc nda nf3) rfl nd0 hfin fun b o hb e=>?_)⟩
   rw[A5 (fun q=>hb (by rw[q,E3];exact List.mem_cons_self ..))];exact e
  ·have q:¬(cy i=.kept 15∨cy i=.kept 12∨cy i=.kept 13):=fun z=>q (decide_eq_true z)
   cases c with
   |nil=>exact absurd (hfin.symm.trans (if_neg q)) (fun z=>by cases z)
   |cons t0 rest=>
   have hfin:(if(rest.map er).isEmpty=true then some (er t0)else some (Nd.mk .CHOICE i j false 1 0 ((er t0).setLe 2::rest.map er)))=some n:=by rw[←hfin];exact(if_neg q).symm
   have hc':AtT C H t0/\AtL C H rest:=by unfold AtL at hc;exact hc
   rw[B1,List.nodup_append]at ndc
   refine⟨_,rfl,a,C,dx,fs,_,rfl,ha,X.cl,X.nc,nf.il,il,_,rfl,.inl (SqL.of hil),rfl,_,rfl,G7 (fun z=>?_) (fun z=>?_)⟩
   ·have z:rest=[]:=by
     have z:V.int ((B3 (t0::rest)).length:Nat)=V.int 1:=of_decide_eq_true z
     injection z with z
     have:(B3 (t0::rest)).length=rest.length+1:=by simp[B3]
     rw[this]at z
     exact List.length_eq_zero_iff.mp (by omega)
    subst z
    have hfin:some (er t0)=some n:=hfin
    injection hfin with hfin
    refine⟨_,rfl,a,C,dx,fs,_,rfl,ha,X.cl,X.nc,nf.il,il,_,_,_,rfl,rfl,SqL.of hil,D6 (j:=0) rfl,h H t0 ⟨hc'.1,hfin,ndc.1,fun b hb=>.inl ?_,fun b o _ e=>e⟩⟩
    rw[E3,B1]
    exact List.mem_cons_of_mem _ (List.mem_cons_of_mem _ (List.mem_append_left _ hb))
   ·have z:rest≠[]:=fun y=>z (by subst y;rfl)
    have hfin:Nd.mk .CHOICE i j false 1 0 ((er t0).setLe 2::rest.map er)=n:=by
     rw[if_neg (by cases rest with |nil=>exact(z rfl).elim |cons x y=>simp)]at hfin
     injection hfin
    refine⟨_,rfl,a,C,dx,fs,_,rfl,ha,X.cl,X.nc,nf.il,il,_,_,_,rfl,rfl,SqL.of hil,D6 (j:=0) rfl,?_⟩
    obtain⟨d0,f0,h0,nf0⟩:=hc'.1.no
    refine⟨_,_,rfl,rfl,_,rfl,t0.a,C,d0,f0,rfl,h0,X.cl,X.nl,(by have:=nf0.n;omega),?_⟩
    rw[show((fun i j:Int=>V.int (i+j)) 1 1)=V.int ((2:Nat):Int)from rfl]
    have h02:=hc'.1.setLe ndc.1 h0 nf0 2
    have na0:a≠t0.a:=fun y=>nda (by rw[y,B1];exact List.mem_cons_of_mem _ (List.mem_append_left _ (E7 t0)))
    have ni0:il≠t0.a:=fun y=>ndi (by rw[y,B1];exact List.mem_append_left _ (E7 t0))
    have kp1:∀c o,c≠t0.a->H c=some o->(upd H t0.a (.ins C d0 (C1 "least" (.int ((2:Nat):Int)) f0))) c=some o:=fun c o n e=>by rw[A5 n];exact e
    generalize (upd H t0.a (.ins C d0 (C1 "least" (.int ((2:Nat):Int)) f0)))=H1 at h02 kp1 ⊢
    refine⟨_,rfl,a,C,dx,fs,rfl,kp1 _ _ na0 ha,X.cl,X.nk,(by have:=nf.n;omega),?_⟩
    have nf2:=nf.setK "CHOICE"
    refine⟨_,rfl,a,C,dx,_,rfl,A1,X.cl,X.ns,(by have:=nf2.n;omega),?_⟩
    have nf3:=nf2.setS 1
    rw[K0]
    have ef:fps (t0.setLe 2::rest)=fps (t0::rest):=by rw[B1,B1,AK0]
    have hrr:H1 il=some (.lst (B3 (t0.setLe 2::rest))):=by
     rw[kp1 _ _ ni0 hil]
     show some (HO.lst (V.ref t0.a::B3 rest))=some (HO.lst (V.ref (t0.setLe 2).a::B3 rest))
     rw[A29]
    have hcc:AtL C H1 (t0.setLe 2::rest):=by
     unfold AtL
     exact⟨h02,AtL.keep rest hc'.2 fun b hb o e=>kp1 b o (fun y=>ndc.2.2 _ (E7 t0) b hb y.symm) e⟩
    refine⟨_,rfl,h _ (.mk a il .CHOICE i j false 1 0 (t0.setLe 2::rest)) (U3 (AtT.root hrr hcc (by rw[ef];exact nda) nf3) ef nd0 ?_ fun b o hb e=>?_)⟩
    ·rw[List.map_cons,Aq9];exact hfin
    ·have n1:b≠a:=fun y=>hb (by rw[y,E3];exact List.mem_cons_self ..)
     have n2:b≠t0.a:=fun y=>hb (by rw[y,E3,B1];exact List.mem_cons_of_mem _ (List.mem_cons_of_mem _ (List.mem_append_left _ (E7 t0))))
     rw[A5 n1];exact kp1 b o n2 e
end
end Rk
namespace Rk
open PySem PySem.Spec PyProof.Rows L2 Tk Rd
section
variable {P:Program} {w:World} {K:PySem.W.Frag} {mg:Str->Option Value} {base:Heap}
theorem AW2:B8 ["node","symbols","operand"] ["node","symbols"] (A7 P3):=⟨rfl,rfl,rfl,by decide+kernel,rfl,by decide+kernel,by decide+kernel⟩
theorem Al8 {C f fA fP:Addr}{fd fdA fdP:FuncData}(F:Fun K "finished_one" "finished_one" P3 f fd)(X:NdC K mg C)(T:TxO P w K mg)(NA:Fn K mg "node_around" G9 ["kind","inner","behind","strength"] fA fdA)(NP:Fn K mg "folded_post" O8 ["node"] fP fdP):
  D3 P w K mg base CX0 5 f fd ["node","symbols"] (V0 C BO4):=by
 have GP:D3 P w K mg base CX0 4 fP fdP ["node"] (A04 C):=AF4 NP.F X NA
 obtain⟨aS,hS0,hS1⟩:=T.ones
 refine F.ok AW2 (fun vs H Q E h=>?_) (fun cdv A outer s H vs Q E hr h=>?_)
 ·obtain⟨t,sl,cy,N,n,k0,rfl,_⟩:=h
  rfl
 ·obtain⟨t,sl,cy,N,n,k0,rfl,hT,ndT,nsl,hS,hcy,hiN,hcl,het,hfin,h⟩:=h
  refine⟨_,A2 (E2 (B5 AL3 (F5 C6 (pv 1) (A8 (pv 0) rfl) (fun _ _=>rfl)) (Q7 hS0) rfl)
    (A4 (B7 (D5 NP GP hr (A0 (pv 0) A6)))) C4)
   (A2 (C8 (i:=2) AW2.nd rfl (Or.inl rfl) (F5 C6 (A8 (pv 0) rfl) A9 (fun _ _=>rfl)))
   (A2 (C7 (pv 2) (E6 X.sgnS) rfl)
   (A2 (C7 (pv 0) D9 rfl) (A2 (C7 (pv 0) (E6 X.sgnS) rfl) (A4 (B7 (pv 0))))))),?_⟩
  have sz:=sizeLine_eq
  obtain⟨a,il,et⟩:=AJ1 het
  generalize t.c=c at et hcl hfin
  generalize t.i=i at et hiN hfin
  generalize t.j=j at et hfin
  subst et
  obtain⟨⟨dx,fs,ha,nf⟩,hil,hc⟩:=J5.mp hT
  have nd0:=ndT
  rw[E3,List.nodup_cons,List.nodup_cons]at ndT
  obtain⟨nda,ndi,ndc⟩:=ndT
  obtain⟨xs,hxs,hxi⟩:=SyAt.at hS hiN
  cases c with
  |nil=>cases hfin
  |cons t0 rest=>
  have hfin:(if cy i=.sign 10∨cy i=.sign 17∨cy i=.sign 18 then some (Nd.mk .SIGNED i j false 11 0 ((er t0).setLe 11::rest.map er))else if(rest.map er).all (fun q=>decide (q.c.length<=2))=true then some ((rest.map er).foldl F9 (er t0))else none)=some n:=hfin
  have hc':AtT C H t0/\AtL C H rest:=by unfold AtL at hc;exact hc
  rw[B1,List.nodup_append]at ndc
  refine⟨_,rfl,_,rfl,a,C,dx,fs,_,rfl,ha,X.cl,X.ni,nf.i,sl,_,_,_,rfl,rfl,SqL.of hxs,D6 hxi,aS,_,rfl,.inr (hS1 _),rfl,As8,_,rfl,?_⟩
  rw[show(if true=true then !inV (V.str (B6 (cy i))) (BH4.map V.str)else inV (V.str (B6 (cy i))) (BH4.map V.str))= !BT4 (cy i)from congrArg (fun z=>!z) (BA8 _ (hcy i))]
  refine G7 (fun q=>?_) (fun q=>?_)
  ·have q:¬(cy i=.sign 10∨cy i=.sign 17∨cy i=.sign 18):=fun z=>by
    rw[show BT4 (cy i)=true from decide_eq_true z]at q
    cases q
   rw[if_neg q]at hfin
   by_cases q2:(rest.map er).all (fun q=>decide (q.c.length<=2))=true
   ·rw[if_pos q2]at hfin
    injection hfin with hfin
    subst hfin
    have h2:∀x∈rest,x.c.length<=2:=fun x hx=>by
     have:=of_decide_eq_true (List.all_eq_true.mp q2 (er x) (List.mem_map.mpr ⟨x,hx,rfl⟩))
     obtain⟨xa,xi,k,i',j',p,s,l,c⟩:=x
     rw[T8]at this
     show c.length<=2
     have this:(c.map er).length<=2:=this
     rw[List.length_map]at this
     exact this
    have hcl:rest.length+1<=100001:=hcl
    exact⟨_,rfl,_,t0,rest,rfl,hT,nd0,rfl,(by omega),h2,fun H' t' o=>h H' t' o⟩
   ·rw[if_neg q2]at hfin;cases hfin
  ·have q:cy i=.sign 10∨cy i=.sign 17∨cy i=.sign 18:=by
    cases e:BT4 (cy i)with
    |true=>exact of_decide_eq_true e
    |false=>rw[e]at q;exact(q rfl).elim
   rw[if_pos q]at hfin
   injection hfin with hfin
   refine⟨_,rfl,a,C,dx,fs,_,rfl,ha,X.cl,X.nc,nf.il,il,_,_,_,rfl,rfl,SqL.of hil,D6 (j:=0) rfl,?_⟩
   obtain⟨d0,f0,h0,nf0⟩:=hc'.1.no
   refine⟨_,rfl,t0.a,C,d0,f0,rfl,h0,X.cl,X.nl,(by have:=nf0.n;omega),?_⟩
   rw[show(11:Int)=((11:Nat):Int)from rfl]
   have h02:=hc'.1.setLe ndc.1 h0 nf0 11
   have na0:a≠t0.a:=fun y=>nda (by rw[y,B1];exact List.mem_cons_of_mem _ (List.mem_append_left _ (E7 t0)))
   have ni0:il≠t0.a:=fun y=>ndi (by rw[y,B1];exact List.mem_append_left _ (E7 t0))
   have kp1:∀c o,c≠t0.a->H c=some o->(upd H t0.a (.ins C d0 (C1 "least" (.int ((11:Nat):Int)) f0))) c=some o:=fun c o n e=>by rw[A5 n];exact e
   generalize (upd H t0.a (.ins C d0 (C1 "least" (.int ((11:Nat):Int)) f0)))=H1 at h02 kp1 ⊢
   refine⟨_,rfl,a,C,dx,fs,rfl,kp1 _ _ na0 ha,X.cl,X.nk,(by have:=nf.n;omega),?_⟩
   have nf2:=nf.setK "SIGNED"
   refine⟨_,rfl,a,C,dx,_,rfl,A1,X.cl,X.ns,(by have:=nf2.n;omega),?_⟩
   have nf3:=nf2.setS ((11:Nat):Int)
   rw[K0]
   have ef:fps (t0.setLe 11::rest)=fps (t0::rest):=by rw[B1,B1,AK0]
   have hrr:H1 il=some (.lst (B3 (t0.setLe 11::rest))):=by
    rw[kp1 _ _ ni0 hil]
    show some (HO.lst (V.ref t0.a::B3 rest))=some (HO.lst (V.ref (t0.setLe 11).a::B3 rest))
    rw[A29]
   have hcc:AtL C H1 (t0.setLe 11::rest):=by
    unfold AtL
    exact⟨h02,AtL.keep rest hc'.2 fun b hb o e=>kp1 b o (fun y=>ndc.2.2 _ (E7 t0) b hb y.symm) e⟩
   refine⟨_,rfl,h _ (.mk a il .SIGNED i j false 11 0 (t0.setLe 11::rest)) (U3 (AtT.root hrr hcc (by rw[ef];exact nda) nf3) ef nd0 ?_ fun b o hb e=>?_)⟩
   ·rw[List.map_cons,Aq9];exact hfin
   ·have n1:b≠a:=fun y=>hb (by rw[y,E3];exact List.mem_cons_self ..)
    have n2:b≠t0.a:=fun y=>hb (by rw[y,E3,B1];exact List.mem_cons_of_mem _ (List.mem_cons_of_mem _ (List.mem_append_left _ (E7 t0))))
    rw[A5 n1];exact kp1 b o n2 e
theorem BE1:B8 ["node","symbols"] ["node","symbols"] (A7 F6):=⟨rfl,rfl,rfl,by decide+kernel,rfl,by decide+kernel,by decide+kernel⟩
theorem Aq3 {C f:Addr}{fd:FuncData}(F:Fun K "finished_atom_or_size" "finished_atom_or_size" F6 f fd)(X:NdC K mg C):D3 P w K mg base CX0 1 f fd ["node","symbols"] (V0 C Bb5):=by
 refine F.ok BE1 (fun vs H Q E h=>?_) (fun cdv A outer s H vs Q E hr h=>?_)
 ·obtain⟨t,sl,cy,N,n,k0,rfl,_⟩:=h
  rfl
 ·obtain⟨t,sl,cy,N,n,k0,rfl,hT,ndT,nsl,hS,hcy,hiN,hcl,het,hfin,h⟩:=h
  refine⟨_,A2 (E2 (B5 J3 (F5 C6 (pv 1) (A8 (pv 0) rfl) (fun _ _=>rfl)) D9 (C2 _))
    (A2 (C7 (pv 0) (Y2 (B5 J3 (A8 (pv 0) rfl) D9 (C2 _)) (E6 X.wrdS) (E6 X.sumS)) rfl)
    (A2 (C7 (pv 0) Ad5 rfl)
    (A4 (C7 (pv 0) (A8 (F5 C6 (A8 (pv 0) rfl) A9 (fun _ _=>rfl)) rfl) rfl))))
    (A4 (E2 (B5 AG6 (M5 W9 (A8 (pv 0) rfl) (A8 (pv 0) rfl)) A9 (C2 _)) (A4 (C7 (pv 0) (E6 X.pstS) rfl)) C4)))
   (A4 (B7 (pv 0))),?_⟩
  have sz:=sizeLine_eq
  obtain⟨a,il,et⟩:=AJ1 het
  generalize t.c=c at et hcl hfin
  generalize t.i=i at et hiN hfin
  generalize t.j=j at et hfin
  subst et
  obtain⟨⟨dx,fs,ha,nf⟩,hil,hc⟩:=J5.mp hT
  have nd0:=ndT
  rw[E3,List.nodup_cons,List.nodup_cons]at ndT
  obtain⟨nda,ndi,ndc⟩:=ndT
  obtain⟨xs,hxs,hxi⟩:=SyAt.at hS hiN
  refine⟨_,rfl,_,rfl,a,C,dx,fs,_,rfl,ha,X.cl,X.ni,nf.i,sl,_,_,_,rfl,rfl,SqL.of hxs,D6 hxi,rfl,_,rfl,?_⟩
  rw[show decide (V.str (B6 (cy i))=V.str "(")=decide (cy i=.sign 27)from A84 _ (hcy i)]
  refine G7 (fun q=>?_) (fun q=>?_)
  ·have q:cy i=.sign 27:=of_decide_eq_true q
   cases c with
   |nil=>exact absurd (hfin.symm.trans (if_pos q)) (fun z=>by cases z)
   |cons t0 rest=>
   have hfin:some (Nd.mk k0 i j true (er t0).st (if k0=.n .SIZE then 13 else 0) (er t0::rest.map er))=some n:=by rw[←hfin];exact(if_pos q).symm
   injection hfin with hfin
   rw[(Au0 t0).2.2.2]at hfin
   have hc':AtT C H t0/\AtL C H rest:=by unfold AtL at hc;exact hc
   obtain⟨d0,f0,h0,nf0⟩:=hc'.1.no
   have na0:t0.a≠a:=fun y=>nda (by rw[←y,B1];exact List.mem_cons_of_mem _ (List.mem_append_left _ (E7 t0)))
   have nai:il≠a:=fun y=>nda (by rw[y];exact List.mem_cons_self ..)
   have main:∀v:Nat,v=(if k0=.n .SIZE then 13 else 0)->Ab2 (BH1 K (O4 0) (tC (V.int (v:Nat))) "least") (Ab2 (BH1 K (O4 0) (tC (V.bl true)) "is_pair") (BH1 K (O4 0) (AZ7 K (tOp (BI4 K) (AZ7 K (O4 0) "inner") (tC (V.int 0))) "strength") "strength")) {nx:=BF4 (O4 0) {nx:=fun _ H'=>Q .non H',rt:=Q},rt:=Q} [some (.ref a),some (.ref sl)] H:=by
    intro v hv
    refine⟨_,rfl,a,C,dx,fs,rfl,ha,X.cl,X.nl,(by have:=nf.n;omega),?_⟩
    have nf2:=nf.setL ((v:Nat):Int)
    refine⟨_,rfl,a,C,dx,_,rfl,A1,X.cl,X.np,(by have:=nf2.n;omega),?_⟩
    have nf3:=nf2.setP true
    rw[K0]
    refine⟨_,rfl,a,C,dx,_,_,rfl,A1,X.cl,X.nc,nf3.il,il,_,_,_,rfl,rfl,SqL.of (by rw[A5 nai];exact hil),D6 (j:=0) rfl,t0.a,C,d0,f0,_,rfl,(by rw[A5 na0];exact h0),X.cl,X.ns,nf0.s,?_⟩
    refine⟨_,rfl,a,C,dx,_,rfl,A1,X.cl,X.ns,(by have:=nf3.n;omega),?_⟩
    have nf4:=nf3.setS t0.rc.s
    rw[K0]
    rw[(y8 t0).2.2.1]at nf4 ⊢
    refine⟨_,rfl,h _ (.mk a il k0 i j true t0.s v (t0::rest)) (U3 (AtT.root hil hc nda nf4) rfl nd0 ?_ fun b o hb e=>?_)⟩
    ·rw[hv];exact hfin
    ·rw[A5 (fun q=>hb (by rw[q,E3];exact List.mem_cons_self ..))];exact e
   refine⟨_,rfl,a,C,dx,fs,_,rfl,ha,X.cl,X.nk,nf.k,rfl,_,rfl,?_⟩
   rw[show decide (V.str (J7 k0)=V.str "SIZE")=decide (k0=.n .SIZE)from Af6 k0]
   refine G7 (fun z=>?_) (fun z=>?_)
   ·exact main 13 (if_pos (of_decide_eq_true z)).symm
   ·exact main 0 (if_neg (fun y=>z (decide_eq_true y))).symm
  ·have q:¬cy i=.sign 27:=fun z=>q (decide_eq_true z)
   have hfin:some (Nd.mk k0 i j false (if 1<j-i then 12 else 13) 0 (c.map er))=some n:=by rw[←hfin];exact(if_neg q).symm
   injection hfin with hfin
   refine⟨_,rfl,a,C,dx,fs,_,rfl,ha,X.cl,X.nj,nf.j,_,rfl,a,C,dx,fs,_,rfl,ha,X.cl,X.ni,nf.i,_,_,rfl,rfl,_,_,rfl,rfl,_,rfl,G7 (fun z=>?_) (fun z=>?_)⟩
   ·have z:(1:Int)<(j:Nat)-(i:Nat):=of_decide_eq_true z
    rw[if_pos (by omega)]at hfin
    refine⟨_,rfl,a,C,dx,fs,rfl,ha,X.cl,X.ns,(by have:=nf.n;omega),?_⟩
    have nf2:=nf.setS ((12:Nat):Int)
    refine⟨_,rfl,h _ (.mk a il k0 i j false 12 0 c) (U3 (AtT.root hil hc nda nf2) rfl nd0 hfin fun b o hb e=>?_)⟩
    rw[A5 (fun q=>hb (by rw[q,E3];exact List.mem_cons_self ..))];exact e
   ·have z:¬(1:Int)<(j:Nat)-(i:Nat):=fun y=>z (decide_eq_true y)
    rw[if_neg (by omega)]at hfin
    exact⟨_,rfl,h _ (.mk a il k0 i j false 13 0 c) (U3 hT rfl nd0 hfin fun b o hb e=>e)⟩
end
end Rk
namespace Rk
open PySem PySem.Spec PyProof.Rows L2 Tk Rd
noncomputable def BM0 (cy:Nat->Sy)(N:Nat)(o:Op)(j:Nat):Option Nd:=fin cy N o j
structure TrF (K:PySem.W.Frag)(mg:Str->Option Value):Prop where
 ar:∃f fd,Fn K mg "node_around" G9 ["kind","inner","behind","strength"] f fd
 jl:∃f fd,Fn K mg "join_last" S7 ["operands","strengths"] f fd
 fo:∃f fd,Fn K mg "folded_operators" J8 ["node","symbols"] f fd
 po:∃f fd,Fn K mg "folded_post" O8 ["node"] f fd
 e:∃f fd,Fn K mg "finished_e" U4 ["node","symbols"] f fd
 one:∃f fd,Fn K mg "finished_one" P3 ["node","symbols"] f fd
 at_:∃f fd,Fn K mg "finished_atom_or_size" F6 ["node","symbols"] f fd
section
variable {P:Program} {w:World} {K:PySem.W.Frag} {mg:Str->Option Value} {base:Heap}
theorem Aa6:B8 ["node","symbols"] ["node","symbols"] (A7 S8):=⟨rfl,rfl,rfl,by decide+kernel,rfl,by decide+kernel,by decide+kernel⟩
theorem AP8 {C f:Addr}{fd:FuncData}(F:Fun K "finished" "finished" S8 f fd)(X:NdC K mg C)(T:TxO P w K mg)(W:TrF K mg):D3 P w K mg base CX0 6 f fd ["node","symbols"] (V0 C BM0):=by
 obtain⟨fA,dA,NA⟩:=W.ar
 obtain⟨fJ,dJ,NJ⟩:=W.jl
 obtain⟨fO,dO,NO⟩:=W.fo
 obtain⟨fP,dP,NP⟩:=W.po
 obtain⟨fE,dE,NE⟩:=W.e
 obtain⟨f1,d1,N1⟩:=W.one
 obtain⟨fT,dT,NT⟩:=W.at_
 have GO:D3 P w K mg base CX0 5 fO dO ["node","symbols"] (V0 C BZ2):=Ac0 NO.F X T NA NJ
 have GE:D3 P w K mg base CX0 1 fE dE ["node","symbols"] (V0 C mfE):=BA4 NE.F X T
 have G1:D3 P w K mg base CX0 5 f1 d1 ["node","symbols"] (V0 C BO4):=Al8 N1.F X T NA NP
 have GT:D3 P w K mg base CX0 1 fT dT ["node","symbols"] (V0 C Bb5):=Aq3 NT.F X
 refine F.ok Aa6 (fun vs H Q E h=>?_) (fun cdv A outer s H vs Q E hr h=>?_)
 ·obtain⟨t,sl,cy,N,n,k0,rfl,_⟩:=h
  rfl
 ·obtain⟨t,sl,cy,N,n,k0,rfl,hT,ndT,nsl,hS,hcy,hiN,hcl,het,hfin,h⟩:=h
  have hr1:Room 1 _:=hr.mono (by decide)
  refine⟨_,A2 (E2 (B5 J3 (A8 (pv 0) rfl) D9 (C2 _)) (A4 (B7 (D5 NE GE hr1 (A0 (pv 0) (A0 (pv 1) A6))))) C4)
   (A2 (E2 (B5 J3 (A8 (pv 0) rfl) D9 (C2 _)) (A4 (B7 (D5 NO GO hr (A0 (pv 0) (A0 (pv 1) A6))))) C4)
   (A2 (E2 (B5 J3 (A8 (pv 0) rfl) D9 (C2 _)) (A4 (B7 (D5 N1 G1 hr (A0 (pv 0) (A0 (pv 1) A6))))) C4)
   (A2 (E2 (PW.pt (BK4 (B5 J3 (A8 (pv 0) rfl) D9 (C2 _)) (A30 (B5 J3 (A8 (pv 0) rfl) D9 (C2 _))))) (A4 (B7 (D5 NT GT hr1 (A0 (pv 0) (A0 (pv 1) A6))))) C4)
   (A4 (B7 (pv 0)))))),?_⟩
  have hT':=hT
  have het':=het
  obtain⟨a,il,et⟩:=AJ1 het
  have ec:t.c=t.c:=rfl
  obtain⟨dx,fs,ha,nf⟩:=hT.no
  have ek:t.rc.k=J7 k0:=by rw[et];rfl
  have hk:=nf.k
  rw[ek]at hk
  have hfin:fin cy N ⟨k0,t.i,t.c.map er⟩ t.j=some n:=hfin
  unfold fin at hfin
  dsimp only at hfin
  refine⟨_,rfl,t.a,C,dx,fs,_,rfl,ha,X.cl,X.nk,hk,rfl,_,rfl,?_⟩
  rw[show decide (V.str (J7 k0)=V.str "E")=decide (k0=.n .E)from Bd7 k0]
  refine G7 (fun q=>?_) (fun q=>?_)
  ·rw[if_pos (of_decide_eq_true q)]at hfin
   exact⟨_,rfl,_,rfl,t,sl,cy,N,n,k0,rfl,hT,ndT,nsl,hS,hcy,hiN,hcl,het,hfin,h⟩
  rw[if_neg (fun z=>q (decide_eq_true z))]at hfin
  refine⟨_,rfl,t.a,C,dx,fs,_,rfl,ha,X.cl,X.nk,hk,rfl,_,rfl,?_⟩
  rw[show decide (V.str (J7 k0)=V.str "OR")=decide (k0=.n .OR)from BW9 k0]
  refine G7 (fun q=>?_) (fun q=>?_)
  ·rw[if_pos (of_decide_eq_true q)]at hfin
   exact⟨_,rfl,_,rfl,t,sl,cy,N,n,k0,rfl,hT,ndT,nsl,hS,hcy,hiN,hcl,het,hfin,h⟩
  rw[if_neg (fun z=>q (decide_eq_true z))]at hfin
  refine⟨_,rfl,t.a,C,dx,fs,_,rfl,ha,X.cl,X.nk,hk,rfl,_,rfl,?_⟩
  rw[show decide (V.str (J7 k0)=V.str "ONE")=decide (k0=.n .ONE)from BQ4 k0]
  refine G7 (fun q=>?_) (fun q=>?_)
  ·rw[if_pos (of_decide_eq_true q)]at hfin
   exact⟨_,rfl,_,rfl,t,sl,cy,N,n,k0,rfl,hT,ndT,nsl,hS,hcy,hiN,hcl,het,hfin,h⟩
  rw[if_neg (fun z=>q (decide_eq_true z))]at hfin
  refine⟨_,rfl,t.a,C,dx,fs,_,rfl,ha,X.cl,X.nk,hk,rfl,_,rfl,?_⟩
  rw[show decide (V.str (J7 k0)=V.str "ATOM")=decide (k0=.n .ATOM)from AQ0 k0]
  refine G7 (fun q=>?_) (fun q=>?_)
  ·have q:=of_decide_eq_true q
   rw[if_pos q]at hfin
   refine AX4 ⟨_,rfl,_,rfl,t,sl,cy,N,n,k0,rfl,hT,ndT,nsl,hS,hcy,hiN,hcl,het,?_,h⟩
   subst q
   exact hfin
  rw[if_neg (fun z=>q (decide_eq_true z))]at hfin
  refine⟨_,rfl,t.a,C,dx,fs,_,rfl,ha,X.cl,X.nk,hk,rfl,_,rfl,?_⟩
  rw[show decide (V.str (J7 k0)=V.str "SIZE")=decide (k0=.n .SIZE)from Af6 k0]
  refine G7 (fun q=>?_) (fun q=>?_)
  ·have q:=of_decide_eq_true q
   rw[if_pos q]at hfin
   refine⟨_,rfl,_,rfl,t,sl,cy,N,n,k0,rfl,hT,ndT,nsl,hS,hcy,hiN,hcl,het,?_,h⟩
   subst q
   exact hfin
  rw[if_neg (fun z=>q (decide_eq_true z))]at hfin
  injection hfin with hfin
  exact⟨_,rfl,h H t ⟨hT,by rw[het];exact hfin,ndT,fun b hb=>.inl hb,fun b o _ e=>e⟩⟩
end
end Rk
namespace Rk
open PySem PySem.Spec PyProof.Rows L2 Tk Rd
noncomputable def FR (C:Addr)(H:Hp)(a:Addr)(x y:Str)(n d:Int):Prop:=∃dx fs,H a=some (.ins C dx fs)/\fs.lookup ("form":Str)=some (.str x)/\fs.lookup ("symbol":Str)=some (.str y)/\fs.lookup ("room":Str)=some (.int n)/\fs.lookup ("depth":Str)=some (.int d)
noncomputable def AG7 (C:Addr):Sp:=fun vs H Q _=>∃(p dx:Addr) (x y:Str) (n d:Int),vs=[.ref p,.str x,.str y,.int n,.int d]/\H p=some (.ins C dx [])/\∀H':Hp,FR C H' p x y n d->(∀b o,H b=some o->b≠p->H' b=some o)->Q .non H'
structure FrC (K:PySem.W.Frag)(mg:Str->Option Value)(C fI:Addr)(fdI:FuncData):Prop where
 M:Mk K C fI
 cl:Cls K C
 n1:NoAttr K C "form"
 n2:NoAttr K C "symbol"
 n3:NoAttr K C "room"
 n4:NoAttr K C "depth"
 mgC:mg "Frame"=some (.ref C)
 F:Fun K "__init__" "Frame.__init__" Ac7 fI fdI
 b:Binds K fdI ["self","form","symbol","room","depth"] []
section
variable {P:Program} {w:World} {K:PySem.W.Frag} {mg:Str->Option Value} {base:Heap}
theorem A54:B8 ["self","form","symbol","room","depth"] ["self","form","symbol","room","depth"] (A7 Ac7):=⟨rfl,rfl,rfl,by decide+kernel,rfl,by decide+kernel,by decide+kernel⟩
theorem Aw3 {C fI:Addr}{fdI:FuncData}(X:FrC K mg C fI fdI):D3 P w K mg base CX0 1 fI fdI ["self","form","symbol","room","depth"] (AG7 C):=by
 refine X.F.ok A54 (fun vs H Q E h=>?_) (fun cdv A outer s H vs Q E hr h=>?_)
 ·obtain⟨p,dx,x,y,n,d,rfl,_⟩:=h
  rfl
 ·obtain⟨p,dx,x,y,n,d,rfl,hp,k⟩:=h
  refine⟨_,A2 (C7 (pv 0) (pv 1) rfl) (A2 (C7 (pv 0) (pv 2) rfl) (A2 (C7 (pv 0) (pv 3) rfl) (A4 (C7 (pv 0) (pv 4) rfl)))),?_⟩
  refine⟨_,rfl,_,rfl,p,C,dx,[],rfl,hp,X.cl,X.n1,(by show 0<1000;decide),?_⟩
  refine⟨_,rfl,_,rfl,p,C,dx,_,rfl,A1,X.cl,X.n2,(by show 1<1000;decide),?_⟩
  refine⟨_,rfl,_,rfl,p,C,dx,_,rfl,A1,X.cl,X.n3,(by show 2<1000;decide),?_⟩
  refine⟨_,rfl,_,rfl,p,C,dx,_,rfl,A1,X.cl,X.n4,(by show 3<1000;decide),?_⟩
  refine k _ ⟨dx,_,A1,?_,?_,?_,?_⟩ fun b o e hb=>?_
  ·exact B4 (by decide) (B4 (by decide) (B4 (by decide) K7))
  ·exact B4 (by decide) (B4 (by decide) K7)
  ·exact B4 (by decide) K7
  ·exact K7
  ·rw[A5 hb,A5 hb,A5 hb,A5 hb]
   exact e
theorem A61 {X:Cx}{C fI:Addr}{fdI:FuncData}{t:TA}{e:Expr}{es:List Expr}{npos pos:Pos}(O:FrC X.K X.mg C fI fdI)(hr:Room 2 X.A)(ha:PA X (e::es) t)(hg:Gl X "Frame":=by rfl)
  (he:starEach (e::es) X.env=(false,eval e X.env)::starEach es X.env:=by rfl) (hpl:(backTo pos (starEach es X.env)).any (·.1)=false:=by rfl):PE X (.Call (.Name "Frame" npos) (e::es) [] pos) (AZ9 C (AG7 C) [] E0 t):=
 AD0 O.M (Aw3 O) hr hg O.mgC O.b .nil AY7 ha (by decide) he hpl
end
structure RR where
 fo:Addr
 sl:Addr
 d:Addr
 pg:Addr
 bl:Addr
 fl:Addr
structure RFl (fs:List (Str×V))(R:RR)(a f:Int):Prop where
 n:fs.length<=100
 fo:fs.lookup ("found":Str)=some (.ref R.fo)
 sl:fs.lookup ("symbols":Str)=some (.ref R.sl)
 d:fs.lookup ("ways":Str)=some (.ref R.d)
 a:fs.lookup ("at":Str)=some (.int a)
 f:fs.lookup ("fault":Str)=some (.int f)
 pg:fs.lookup ("program":Str)=some (.ref R.pg)
 bl:fs.lookup ("begun":Str)=some (.ref R.bl)
 fl:fs.lookup ("frames":Str)=some (.ref R.fl)
noncomputable def RD (C:Addr)(H:Hp)(r:Addr)(R:RR)(a f:Int):Prop:=∃dx fs,H r=some (.ins C dx fs)/\RFl fs R a f
theorem RFl.setF {fs:List (Str×V)}{R:RR}{a f:Int}(h:RFl fs R a f)(v:Int):RFl (C1 "fault" (.int v) fs) R a v:=⟨by rw[O3 (by rw[h.f];rfl)];exact h.n,B4 (by decide) h.fo,B4 (by decide) h.sl,B4 (by decide) h.d,B4 (by decide) h.a,K7,B4 (by decide) h.pg,B4 (by decide) h.bl,B4 (by decide) h.fl⟩
theorem RFl.setA {fs:List (Str×V)}{R:RR}{a f:Int}(h:RFl fs R a f)(v:Int):RFl (C1 "at" (.int v) fs) R v f:=⟨by rw[O3 (by rw[h.a];rfl)];exact h.n,B4 (by decide) h.fo,B4 (by decide) h.sl,B4 (by decide) h.d,K7,B4 (by decide) h.f,B4 (by decide) h.pg,B4 (by decide) h.bl,B4 (by decide) h.fl⟩
theorem RD.keep {C:Addr}{H H':Hp}{r:Addr}{R:RR}{a f:Int}(h:RD C H r R a f)(k:∀o,H r=some o->H' r=some o):RD C H' r R a f:=let ⟨dx,fs,e,q⟩:=h;⟨dx,fs,k _ e,q⟩
noncomputable def FM (C:Addr)(H:Hp)(a:Addr)(f:Fr):Prop:=∃n:Int,n.toNat=f.room/\FR C H a (Aq1 f.fm) (J4 f.sb) n (f.dp:Nat)
theorem FR.keep {C:Addr}{H H':Hp}{a:Addr}{x y:Str}{n d:Int}(h:FR C H a x y n d)(k:∀dx fs,H a=some (.ins C dx fs)->H' a=some (.ins C dx fs)):FR C H' a x y n d:=let ⟨dx,fs,e,q⟩:=h;⟨dx,fs,k _ _ e,q⟩
theorem FM.keep {C:Addr}{H H':Hp}{a:Addr}{f:Fr}(h:FM C H a f)(k:∀dx fs,H a=some (.ins C dx fs)->H' a=some (.ins C dx fs)):FM C H' a f:=let ⟨n,e,q⟩:=h;⟨n,e,q.keep k⟩
theorem FMs.keep {C:Addr}{H H':Hp}{as:List Addr}{fs:List Fr}(h:Paired (FM C H) as fs)(k:∀a dx fs,H a=some (.ins C dx fs)->H' a=some (.ins C dx fs)):Paired (FM C H') as fs:=by
 induction h with
 |nil=>exact .nil
 |cons h _ ih=>exact .cons (h.keep (k _)) ih
noncomputable def WY (K:PySem.W.Frag)(H:Hp)(d:Addr):Prop:=∃kvs,H d=some (.dT kvs)/\WT K H kvs AC1
theorem SqT.same {K:PySem.W.Frag}{H H':Hp}{a:Addr}{ys:List V}(s:Same H H')(q:SqT K H a ys):SqT K H' a ys:=by
 rcases q with (q |⟨o',q⟩) |q
 ·exact .inl (.inl (s _ _ q))
 ·exact .inl (.inr ⟨o',s _ _ q⟩)
 ·exact .inr q
theorem WY.same {K:PySem.W.Frag}{H H':Hp}{d:Addr}(h:WY K H d)(s:Same H H'):WY K H' d:=by
 obtain⟨kvs,h1,h2⟩:=h
 exact⟨kvs,s _ _ h1,h2.keep fun a ys q=>SqT.same s q⟩
structure TxR (P:Program)(w:World)(K:PySem.W.Frag)(mg:Str->Option Value)(CR CF CN:Addr):Prop where
 cl:Cls K CR
 nfo:NoAttr K CR "found"
 nsl:NoAttr K CR "symbols"
 nd:NoAttr K CR "ways"
 na:NoAttr K CR "at"
 nf:NoAttr K CR "fault"
 npg:NoAttr K CR "program"
 nbl:NoAttr K CR "begun"
 nfl:NoAttr K CR "frames"
 fr:CF≠CR
 nr:CN≠CR
 fn:CF≠CN
 cant:GI mg "CANT_STAND" 2
 dp:GI mg "TOO_DEEP" 3
 many:GI mg "TOO_MANY" 4
 nott:GI mg "NOT_A_TOKEN" 1
 most:GI mg "MOST_DECLARATIONS" 4096
 deepest:GI mg "DEEPEST" 128
 rules:∃a,mg "RULES_THAT_COUNT_AS_DEEP"=some (.ref a)/\∀H,SqT K H a (x6.map V.str)
 tree:∃a,mg "RULES_IN_THE_TREE"=some (.ref a)/\∀H,SqT K H a (Aa1.map V.str)
 rev:mg "reversed"=none
noncomputable def BC2 (K:PySem.W.Frag)(CR:Addr):Sp:=fun vs H Q _=>∃(r:Addr) (R:RR) (a f:Int) (b:Sb) (y:Sy),vs=[.ref r,.str (J4 b),.str (B6 y)]/\RD CR H r R a f/\WY K H R.d/\Vb b/\y∈G6/\
 ∀H',Same H H'->Q (.bl (B2 b y)) H'
section
variable {P:Program} {w:World} {K:PySem.W.Frag} {mg:Str->Option Value} {base:Heap}
theorem BX1:B8 ["reading","symbol","token"] ["reading","symbol","token"] (A7 BJ1):=⟨rfl,rfl,rfl,by decide+kernel,rfl,by decide+kernel,by decide+kernel⟩
theorem A43 {f CR CF CN:Addr}{fd:FuncData}(F:Fun K "can_begin" "can_begin" BJ1 f fd)(X:TxR P w K mg CR CF CN):D3 P w K mg base CX0 1 f fd ["reading","symbol","token"] (BC2 K CR):=by
 refine F.ok BX1 (fun vs H Q E h=>?_) (fun cdv A outer s H vs Q E hr h=>?_)
 ·obtain⟨r,R,a,f,b,y,rfl,_⟩:=h
  rfl
 ·obtain⟨r,R,a,f,b,y,rfl,⟨dx,fs,hr0,nf⟩,⟨kvs,hd,hw⟩,hb,hy,h⟩:=h
  have hu:=AX1 hr
  refine⟨_,A4 (B7 (Al0 (P0 J3 (pv 1) (pv 2) (C2 _)) (AA1 (BR6 (BR8 hu (AA5 (A0 (pv 1) (A0 (pv 2) A6))) (A8 (pv 0) rfl)))))),?_⟩
  have sz:=sizeLine_eq
  have hce:=BL2 hb hy
  refine⟨_,rfl,_,rfl,rfl,_,rfl,G7 (fun c=>?_) (fun c=>?_)⟩
  ·have c:J4 b=B6 y:=by simpa using c
   rw[decide_eq_true c,Bool.true_or]at hce
   rw[←hce]at h
   exact h _ (Same.refl _)
  ·have c:¬J4 b=B6 y:=by intro q;apply c;simpa using q
   rw[decide_eq_false c,Bool.false_or]at hce
   refine⟨_,rfl,_,rfl,(by show 2<=sizeLine;omega),fun t ht=>?_⟩
   have s1:=B9 (o:=.tup [V.str (J4 b),V.str (B6 y)]) ht
   refine⟨_,rfl,r,CR,dx,fs,_,rfl,s1 _ _ hr0,X.cl,X.nd,nf.d,R.d,_,rfl,DGet.t (k:=[Sum.inr (J4 b),Sum.inr (B6 y)]) (s1 _ _ hd) A1,?_⟩
   have hv:=hw.2 (J4 b) (B6 y)
   cases q:Aa8 AC1 (J4 b) (B6 y)with
   |none=>
    rw[q]at hv hce
    rw[hv]
    rw[←hce]at h
    exact h _ s1
   |some ps=>
    rw[q]at hv hce
    obtain⟨p,hv,_⟩:=hv
    rw[hv]
    rw[←hce]at h
    exact h _ s1
end
noncomputable def Ae4 (K:PySem.W.Frag)(CR CF:Addr):Sp:=fun vs H Q _=>∃(r:Addr) (R:RR) (a f:Int) (p:Addr) (g:Fr) (y:Sy),vs=[.ref r,.ref p,.str (B6 y)]/\RD CR H r R a f/\WY K H R.d/\FM CF H p g/\Vb g.sb/\y∈G6/\
 ∀H',Same H H'->Q (.int (faultOf g y:Nat)) H'
theorem AN0:(x6.map V.str).all T0=true:=by decide+kernel
theorem Ai2:(Aa1.map V.str).all T0=true:=by decide+kernel
section
variable {P:Program} {w:World} {K:PySem.W.Frag} {mg:Str->Option Value} {base:Heap}
theorem A77:B8 ["reading","frame","token"] ["reading","frame","token"] (A7 AS5):=⟨rfl,rfl,rfl,by decide+kernel,rfl,by decide+kernel,by decide+kernel⟩
theorem At7 {f fC CR CF CN fI:Addr}{fd fdC fdI:FuncData}(F:Fun K "fault_of" "fault_of" AS5 f fd)(X:TxR P w K mg CR CF CN)(O:FrC K mg CF fI fdI)(N:Fn K mg "can_begin" BJ1 ["reading","symbol","token"] fC fdC):D3 P w K mg base CX0 2 f fd ["reading","frame","token"] (Ae4 K CR CF):=by
 have GC:D3 P w K mg base CX0 1 fC fdC ["reading","symbol","token"] (BC2 K CR):=A43 N.F X
 obtain⟨aR,hrl,hrS⟩:=X.rules
 refine F.ok A77 (fun vs H Q E h=>?_) (fun cdv A outer s H vs Q E hr h=>?_)
 ·obtain⟨r,R,a,f,p,g,y,rfl,_⟩:=h
  rfl
 ·obtain⟨r,R,a,f,p,g,y,rfl,hR,hW,hF,hb,hy,h⟩:=h
  refine⟨_,A2 (E2 (BL3 (S9 (D5 N GC hr (A0 (pv 0) (A0 (A8 (pv 1) rfl) (A0 (pv 2) A6)))))) (A4 (B7 (E6 X.cant))) C4)
   (A2 (E2 (PW.pt (e8 (B5 S4 (A8 (pv 1) rfl) (Q7 hrl) rfl) (T7 (B5 AG6 (A8 (pv 1) rfl) (E6 X.deepest) (C2 _))))) (A4 (B7 (E6 X.dp))) C4)
   (A2 (E2 (B5 AJ5 (A8 (pv 1) rfl) A9 (C2 _)) (A4 (B7 (E6 X.many))) C4)
   (A4 (B7 A9)))),?_⟩
  obtain⟨nr,hnr,dx,fs,hp,k1,k2,k3,k4⟩:=hF
  refine⟨_,rfl,_,rfl,p,CF,dx,fs,_,rfl,hp,O.cl,O.n2,k2,_,rfl,r,R,a,f,g.sb,y,rfl,hR,hW,hb,hy,fun H1 s1=>⟨_,rfl,?_⟩⟩
  unfold faultOf at h
  cases hc:B2 g.sb y with
  |false=>
   rw[hc,if_pos rfl]at h
   exact AX4 (h _ s1)
  |true=>
   rw[hc,if_neg (by decide)]at h
   refine AQ3 ?_
   have hp1:=s1 _ _ hp
   have last:¬(W7 g.sb=true/\128<g.dp)->Ab2 (BR1 (AZ5 (tOp (rI0 fun i j=>V.bl (decide (i<j))) (AZ7 K (O4 1) "room") (tC (V.int 1)))) (BF4 (tC (V.int 4))) Aq4) (BF4 (tC (V.int 0))) {nx:=fun _ H'=>Q .non H',rt:=Q} [some (.ref r),some (.ref p),some (.str (B6 y))] H1:=by
    intro hd
    rw[if_neg hd]at h
    refine⟨_,rfl,p,CF,dx,fs,_,rfl,hp1,O.cl,O.n3,k3,_,_,rfl,rfl,_,rfl,G7 (fun c=>?_) (fun c=>?_)⟩
    ·have c:nr<1:=of_decide_eq_true c
     rw[if_pos (by omega)]at h
     exact h _ s1
    ·have c:¬nr<1:=of_decide_eq_false (Bool.eq_false_iff.mpr c)
     rw[if_neg (by omega)]at h
     exact h _ s1
   refine⟨_,rfl,p,CF,dx,fs,_,rfl,hp1,O.cl,O.n2,k2,aR,_,rfl,.inr (hrS _),rfl,AN0,_,rfl,?_⟩
   rw[show(if false=true then !inV (V.str (J4 g.sb)) (x6.map V.str)else inV (V.str (J4 g.sb)) (x6.map V.str))=W7 g.sb from BD7 hb]
   refine G7 (fun c=>?_) (fun c=>?_)
   ·refine⟨_,rfl,p,CF,dx,fs,_,rfl,hp1,O.cl,O.n4,k4,_,_,rfl,rfl,_,rfl,G7 (fun c2=>?_) (fun c2=>?_)⟩
    ·have c2:(128:Int)<(g.dp:Nat):=of_decide_eq_true c2
     rw[if_pos ⟨c,by omega⟩]at h
     exact h _ s1
    ·have c2:¬(128:Int)<(g.dp:Nat):=of_decide_eq_false (Bool.eq_false_iff.mpr c2)
     exact last fun q=>c2 (by omega)
   ·exact last fun q=>c q.1
end
end Rk
namespace Rk
open PySem PySem.Spec PyProof.Rows L2 Tk Rd
structure Psh (fl:Addr)(H H':Hp)(as new:List Addr):Prop where
 l:H' fl=some (.lst ((as++new).map V.ref))
 k:∀b o,b≠fl->H b=some o->H' b=some o
theorem FR.psh {H H':Hp}{fl C a:Addr}{xs:List V}{x y:Str}{n d:Int}(h:FR C H a x y n d)(k:∀b o,b≠fl->H b=some o->H' b=some o)(hl:H fl=some (.lst xs)):FR C H' a x y n d:=by
 obtain⟨dx',fs',h1,h2⟩:=h
 exact⟨dx',fs',k _ _ (D8 h1 hl (by intro z;cases z)) h1,h2⟩
theorem FM.psh {H H':Hp}{fl C a:Addr}{xs:List V}{f:Fr}(h:FM C H a f)(k:∀b o,b≠fl->H b=some o->H' b=some o)(hl:H fl=some (.lst xs)):FM C H' a f:=let ⟨n,e,q⟩:=h;⟨n,e,q.psh k hl⟩
theorem FMs.psh {H H':Hp}{fl C:Addr}{xs:List V}{as:List Addr}{fs:List Fr}(h:Paired (FM C H) as fs)(k:∀b o,b≠fl->H b=some o->H' b=some o)(hl:H fl=some (.lst xs)):Paired (FM C H') as fs:=by
 induction h with
 |nil=>exact .nil
 |cons h _ ih=>exact .cons (h.psh k hl) ih
theorem SqT.psh {K:PySem.W.Frag}{H H':Hp}{fl a:Addr}{xs ys:List V}(q:SqT K H a ys)(k:∀b o,b≠fl->H b=some o->H' b=some o)(hl:H fl=some (.lst xs)):SqT K H' a ys:=by
 rcases q with (q |⟨o',q⟩) |q
 ·exact .inl (.inl (k _ _ (D8 q hl (by intro z;cases z)) q))
 ·exact .inl (.inr ⟨o',k _ _ (D8 q hl (by intro z;cases z)) q⟩)
 ·exact .inr q
noncomputable def AI4 (CR CF:Addr):Sp:=fun vs H Q _=>∃(r:Addr) (R:RR) (a f:Int) (p:Addr) (g:Fr) (as:List Addr),vs=[.ref r,.ref p]/\RD CR H r R a f/\FM CF H p g/\H R.fl=some (.lst (as.map V.ref))/\as.length<=30000/\
 ∀H' a1 a2,Psh R.fl H H' as [a1,a2]->FM CF H' a1 ⟨g.fm,g.sb,g.room-1,g.dp⟩->FM CF H' a2 ⟨.once,g.sb,g.room,g.dp⟩->Q .non H'
section
variable {P:Program} {w:World} {K:PySem.W.Frag} {mg:Str->Option Value} {base:Heap}
theorem Ah8:B8 ["reading","frame"] ["reading","frame"] (A7 k6):=⟨rfl,rfl,rfl,by decide+kernel,rfl,by decide+kernel,by decide+kernel⟩
theorem AZ8 {f CR CF CN fI:Addr}{fd fdI:FuncData}(F:Fun K "push_one_and_others" "push_one_and_others" k6 f fd)(X:TxR P w K mg CR CF CN)(O:FrC K mg CF fI fdI):D3 P w K mg base CX0 3 f fd ["reading","frame"] (AI4 CR CF):=by
 refine F.ok Ah8 (fun vs H Q E h=>?_) (fun cdv A outer s H vs Q E hr h=>?_)
 ·obtain⟨r,R,a,f,p,g,as,rfl,_⟩:=h
  rfl
 ·obtain⟨r,R,a,f,p,g,as,rfl,⟨dr,rs,hr0,nf⟩,⟨nr,hnr,dx,fs,hp,k1,k2,k3,k4⟩,hl,has,h⟩:=h
  refine⟨_,A2 (E8 (X8 PySem.F.plainAttrs_list PySem.F.slot_list_append PySem.F.type_list_append F8 (A8 (pv 0) rfl) (A0 (A61 O hr (A0 (A8 (pv 1) rfl) (A0 (A8 (pv 1) rfl) (A0 (M5 W9 (A8 (pv 1) rfl) A9) (A0 (A8 (pv 1) rfl) A6))))) A6)))
   (A4 (E8 (X8 PySem.F.plainAttrs_list PySem.F.slot_list_append PySem.F.type_list_append F8 (A8 (pv 0) rfl) (A0 (A61 O hr (A0 D9 (A0 (A8 (pv 1) rfl) (A0 (A8 (pv 1) rfl) (A0 (A8 (pv 1) rfl) A6))))) A6)))),?_⟩
  have sz:=sizeLine_eq
  refine⟨_,rfl,r,CR,dr,rs,_,rfl,hr0,X.cl,X.nfl,nf.fl,.inl ⟨rfl,_,SqL.of hl⟩,?_⟩
  refine⟨_,rfl,p,CF,dx,fs,_,rfl,hp,O.cl,O.n1,k1,_,rfl,p,CF,dx,fs,_,rfl,hp,O.cl,O.n2,k2,_,rfl,p,CF,dx,fs,_,rfl,hp,O.cl,O.n3,k3,_,_,rfl,rfl,_,rfl,p,CF,dx,fs,_,rfl,hp,O.cl,O.n4,k4,fun a1 dx1 na1 nd1 _=>⟨a1,dx1,_,_,_,_,rfl,A1,fun H1 hF1 kp1=>⟨rfl,?_⟩⟩⟩
  have s1:=Same.made na1 nd1 kp1
  have hl1:=s1 _ _ hl
  refine⟨R.fl,_,_,rfl,rfl,hl1,(by rw[List.length_map];omega),?_⟩
  have nfp:p≠R.fl:=D8 hp hl (by intro z;cases z)
  have nfr:r≠R.fl:=D8 hr0 hl (by intro z;cases z)
  have hp2:(upd H1 R.fl (.lst (as.map V.ref++[V.ref a1]))) p=some (.ins CF dx fs):=by rw[A5 nfp];exact s1 _ _ hp
  have hr2:(upd H1 R.fl (.lst (as.map V.ref++[V.ref a1]))) r=some (.ins CR dr rs):=by rw[A5 nfr];exact s1 _ _ hr0
  have hl2:(upd H1 R.fl (.lst (as.map V.ref++[V.ref a1]))) R.fl=some (.lst ((as++[a1]).map V.ref)):=by rw[A1,List.map_append];rfl
  have kk2:∀b o,b≠R.fl->H b=some o->(upd H1 R.fl (.lst (as.map V.ref++[V.ref a1]))) b=some o:=fun b o nb e=>by rw[A5 nb];exact s1 _ _ e
  have hF2:FR CF (upd H1 R.fl (.lst (as.map V.ref++[V.ref a1]))) a1 (Aq1 g.fm) (J4 g.sb) (nr-1) (g.dp:Nat):=by
   obtain⟨dx',fs',q1,q2⟩:=hF1
   exact⟨dx',fs',by rw[A5 (D8 q1 hl1 (by intro z;cases z))];exact q1,q2⟩
  generalize (upd H1 R.fl (.lst (as.map V.ref++[V.ref a1])))=H2 at hp2 hr2 hl2 kk2 hF2 ⊢
  refine⟨_,rfl,r,CR,dr,rs,_,rfl,hr2,X.cl,X.nfl,nf.fl,.inl ⟨rfl,_,SqL.of hl2⟩,?_⟩
  refine⟨_,rfl,p,CF,dx,fs,_,rfl,hp2,O.cl,O.n2,k2,_,rfl,p,CF,dx,fs,_,rfl,hp2,O.cl,O.n3,k3,_,rfl,p,CF,dx,fs,_,rfl,hp2,O.cl,O.n4,k4,fun a2 dx2 na2 nd2 _=>⟨a2,dx2,_,_,_,_,rfl,A1,fun H3 hF3 kp3=>⟨rfl,?_⟩⟩⟩
  have s3:=Same.made na2 nd2 kp3
  have hl3:=s3 _ _ hl2
  refine⟨R.fl,_,_,rfl,rfl,hl3,(by simp only[List.length_map,List.length_append,List.length_cons,List.length_nil];omega),?_⟩
  refine h _ a1 a2 ⟨?_,fun b o nb e=>?_⟩ ⟨nr-1,by show(nr-1).toNat=g.room-1;omega,?_⟩ ⟨nr,hnr,?_⟩
  ·rw[A1,List.map_append,List.map_append,List.append_assoc]
   rfl
  ·rw[A5 nb];exact s3 _ _ (kk2 b o nb e)
  ·obtain⟨dx',fs',q1,q2⟩:=hF2
   exact⟨dx',fs',by rw[A5 (D8 (s3 _ _ q1) hl3 (by intro z;cases z))];exact s3 _ _ q1,q2⟩
  ·obtain⟨dx',fs',q1,q2⟩:=hF3
   exact⟨dx',fs',by rw[A5 (D8 q1 hl3 (by intro z;cases z))];exact q1,q2⟩
end
structure BJ5 (CF CN:Addr)(R:RR)(H H':Hp)(x:Nt)(i:Int)(as:List Addr)(bs:List V):Prop where
 ex:∃p n il,H' R.fl=some (.lst ((as++[p]).map V.ref))/\H' R.bl=some (.lst (bs++[V.ref n]))/\FM CF H' p ⟨.fin,.n x,1,0⟩/\NO CN H' n ⟨il,nameNt x,i,i,false,13,0⟩/\H' il=some (.lst [])/\H n=none/\H il=none/\n≠il
 k:∀b o,b≠R.fl->b≠R.bl->H b=some o->H' b=some o
noncomputable def Ag1 (CR CF CN:Addr):Sp:=fun vs H Q _=>∃(r:Addr) (R:RR) (i f:Int) (x:Nt) (as:List Addr) (bs:List V),vs=[.ref r,.str (nameNt x)]/\RD CR H r R i f/\H R.fl=some (.lst (as.map V.ref))/\H R.bl=some (.lst bs)/\R.fl≠R.bl/\as.length<=30000/\bs.length<=30000/\
 ∀H',BJ5 CF CN R H H' x i as bs->Q .non H'
section
variable {P:Program} {w:World} {K:PySem.W.Frag} {mg:Str->Option Value} {base:Heap}
theorem A93:B8 ["reading","rule"] ["reading","rule"] (A7 P8):=⟨rfl,rfl,rfl,by decide+kernel,rfl,by decide+kernel,by decide+kernel⟩
theorem Au6 {f CR CF CN fI:Addr}{fd fdI:FuncData}(F:Fun K "begin_node" "begin_node" P8 f fd)(X:TxR P w K mg CR CF CN)(O:FrC K mg CF fI fdI)(Y:NdC K mg CN):D3 P w K mg base CX0 3 f fd ["reading","rule"] (Ag1 CR CF CN):=by
 obtain⟨fN,dN,M,FN,bN⟩:=Y.F
 refine F.ok A93 (fun vs H Q E h=>?_) (fun cdv A outer s H vs Q E hr h=>?_)
 ·obtain⟨r,R,i,f,x,as,bs,rfl,_⟩:=h
  rfl
 ·obtain⟨r,R,i,f,x,as,bs,rfl,⟨dr,rs,hr0,nf⟩,hl,hb,nfb,has,hbs,h⟩:=h
  refine⟨_,A2 (E8 (X8 PySem.F.plainAttrs_list PySem.F.slot_list_append PySem.F.type_list_append F8 (A8 (pv 0) rfl) (A0 (BX3 Y M FN bN hr (A0 (pv 1) (A0 (A8 (pv 0) rfl) A6))) A6)))
   (A4 (E8 (X8 PySem.F.plainAttrs_list PySem.F.slot_list_append PySem.F.type_list_append F8 (A8 (pv 0) rfl) (A0 (A61 O hr (A0 D9 (A0 (pv 1) (A0 A9 (A0 A9 A6))))) A6)))),?_⟩
  have sz:=sizeLine_eq
  refine⟨_,rfl,r,CR,dr,rs,_,rfl,hr0,X.cl,X.nbl,nf.bl,.inl ⟨rfl,_,SqL.of hb⟩,?_⟩
  refine⟨_,rfl,_,rfl,r,CR,dr,rs,_,rfl,hr0,X.cl,X.na,nf.a,fun n dx1 na1 nd1 _=>⟨n,dx1,_,_,rfl,A1,fun H1 il hN1 hil1 nil1 kp1=>⟨rfl,?_⟩⟩⟩
  have s1:=Same.made na1 nd1 kp1
  have hb1:=s1 _ _ hb
  have nni:n≠il:=fun q=>by rw[←q,A1]at nil1;cases nil1
  have ild:il≠dx1:=fun q=>by rw[q,A5 (fun z=>nni (by rw[q];exact z.symm))]at nil1;rw[A1]at nil1;cases nil1
  have nil:H il=none:=by rw[A5 (Ne.symm nni),A5 ild]at nil1;exact nil1
  refine⟨R.bl,_,_,rfl,rfl,hb1,(by omega),?_⟩
  have nrb:r≠R.bl:=D8 hr0 hb (by intro z;cases z)
  have hr2:(upd H1 R.bl (.lst (bs++[V.ref n]))) r=some (.ins CR dr rs):=by rw[A5 nrb];exact s1 _ _ hr0
  have hb2:(upd H1 R.bl (.lst (bs++[V.ref n]))) R.bl=some (.lst (bs++[V.ref n])):=A1
  have hl2:(upd H1 R.bl (.lst (bs++[V.ref n]))) R.fl=some (.lst (as.map V.ref)):=by rw[A5 nfb];exact s1 _ _ hl
  have kk2:∀b o,b≠R.bl->H b=some o->(upd H1 R.bl (.lst (bs++[V.ref n]))) b=some o:=fun b o nb e=>by rw[A5 nb];exact s1 _ _ e
  have hN2:NO CN (upd H1 R.bl (.lst (bs++[V.ref n]))) n ⟨il,nameNt x,i,i,false,13,0⟩:=hN1.keep fun o e=>by rw[A5 (B0 hb na1).symm];exact e
  have hil2:(upd H1 R.bl (.lst (bs++[V.ref n]))) il=some (.lst []):=by rw[A5 (B0 hb nil).symm];exact hil1
  generalize (upd H1 R.bl (.lst (bs++[V.ref n])))=H2 at hr2 hb2 hl2 kk2 hN2 hil2 ⊢
  refine⟨_,rfl,r,CR,dr,rs,_,rfl,hr2,X.cl,X.nfl,nf.fl,.inl ⟨rfl,_,SqL.of hl2⟩,?_⟩
  refine⟨_,rfl,fun p dx2 na2 nd2 _=>⟨p,dx2,_,_,_,_,rfl,A1,fun H3 hF3 kp3=>⟨rfl,?_⟩⟩⟩
  have s3:=Same.made na2 nd2 kp3
  have hl3:=s3 _ _ hl2
  refine⟨R.fl,_,_,rfl,rfl,hl3,(by simp only[List.length_map];omega),?_⟩
  refine h _ ⟨⟨p,n,il,by rw[A1,List.map_append];rfl,by rw[A5 (Ne.symm nfb)];exact s3 _ _ hb2,⟨1,rfl,hF3.keep fun dx fs e=>by rw[A5 (D8 e hl3 (by intro z;cases z))];exact e⟩,?_,?_,na1,nil,nni⟩,fun b o n1 n2 e=>by rw[A5 n1];exact s3 _ _ (kk2 b o n2 e)⟩
  ·exact hN2.keep fun o e=>by rw[A5 (B0 hl na1).symm];exact s3 _ _ e
  ·rw[A5 (B0 hl nil).symm];exact s3 _ _ hil2
end
end Rk
namespace Rk
open PySem PySem.Spec PyProof.Rows L2 Tk Rd
theorem Z2 {α β:Type}{R:α->β->Prop}{l l':List α}{m m':List β}(h:Paired R l m)(h':Paired R l' m'):Paired R (l++l') (m++m'):=by
 induction h with
 |nil=>exact h'
 |cons h _ ih=>exact .cons h ih
structure BQ0 (CF CN:Addr)(R:RR)(H H':Hp)(x:Nt)(ps:List Pt)(i:Int)(d:Nat)(as:List Addr)(bs:List V):Prop where
 fr:∃new,H' R.fl=some (.lst ((as++new).map V.ref))/\Paired (FM CF H') new.reverse (ps.map (fr (dps x d))++R7 x)
 nd:(R5 x=false/\H' R.bl=some (.lst bs))∨(R5 x=true/\∃n il,H' R.bl=some (.lst (bs++[V.ref n]))/\NO CN H' n ⟨il,nameNt x,i,i,false,13,0⟩/\H' il=some (.lst [])/\H n=none/\H il=none/\n≠il)
 k:∀b o,b≠R.fl->b≠R.bl->H b=some o->H' b=some o
noncomputable def AH7 (K:PySem.W.Frag)(CR CF CN:Addr):Sp:=fun vs H Q _=>∃(r:Addr) (R:RR) (i f:Int) (p:Addr) (g:Fr) (x:Nt) (y:Sy) (ps:List Pt) (as:List Addr) (bs:List V),vs=[.ref r,.ref p,.str (B6 y)]/\RD CR H r R i f/\WY K H R.d/\FM CF H p g/\g.sb=.n x/\y∈G6/\L7 x y=some ps/\
 H R.fl=some (.lst (as.map V.ref))/\H R.bl=some (.lst bs)/\R.fl≠R.bl/\as.length<=20001/\bs.length<=20001/\
 ∀H',BQ0 CF CN R H H' x ps i g.dp as bs->Q .non H'
section
variable {P:Program} {w:World} {K:PySem.W.Frag} {mg:Str->Option Value} {base:Heap}
theorem S3:B8 ["reading","frame","token","depth","way","part"] ["reading","frame","token"] (A7 l8):=⟨rfl,rfl,rfl,by decide+kernel,rfl,by decide+kernel,by decide+kernel⟩
theorem Aa7 {f CR CF CN fI fB:Addr}{fd fdI fdB:FuncData}(F:Fun K "push_way" "push_way" l8 f fd)(X:TxR P w K mg CR CF CN)(O:FrC K mg CF fI fdI)(Y:NdC K mg CN)(B:Fn K mg "begin_node" P8 ["reading","rule"] fB fdB):D3 P w K mg base CX0 4 f fd ["reading","frame","token"] (AH7 K CR CF CN):=by
 have GB:D3 P w K mg base CX0 3 fB fdB ["reading","rule"] (Ag1 CR CF CN):=Au6 B.F X O Y
 obtain⟨aR,hrl,hrS⟩:=X.rules
 obtain⟨aT,htl,htS⟩:=X.tree
 refine F.ok S3 (fun vs H Q E h=>?_) (fun cdv A outer s H vs Q E hr h=>?_)
 ·obtain⟨r,R,i,f,p,g,x,y,ps,as,bs,rfl,_⟩:=h
  rfl
 ·obtain⟨r,R,i,f,p,g,x,y,ps,as,bs,rfl,hR,hW,hF,hgx,hy,hw,hl,hbl,nfb,has,hbs,h⟩:=h
  have hu:=AX1 hr
  have hr2:Room 2 _:=hr.mono (by decide)
  refine⟨_,A2 (E2 (B5 S4 (A8 (pv 1) rfl) (Q7 htl) rfl) (A4 (E8 (D5 B GB hr (A0 (pv 0) (A0 (A8 (pv 1) rfl) A6))))) C4)
   (A2 (C8 (i:=3) S3.nd rfl (Or.inl rfl) (A8 (pv 1) rfl))
   (A2 (E2 (B5 S4 (A8 (pv 1) rfl) (Q7 hrl) rfl) (A4 (AK4 (i:=3) S3.nd rfl (Or.inl rfl) A9 r9)) C4)
   (A2 (C8 (i:=4) S3.nd rfl (Or.inl rfl) (BF6 hu (A8 (pv 0) rfl) (AA5 (A0 (A8 (pv 1) rfl) (A0 (pv 2) A6))) (fun _ _=>rfl)))
   (A4 (Y0 PassesOwn.never rfl (AO0 (by rfl) X.rev (A0 (pv 4) A6)) (K9 (i:=5) S3.nd rfl (Or.inl rfl))
    (A4 (E8 (X8 PySem.F.plainAttrs_list PySem.F.slot_list_append PySem.F.type_list_append F8 (A8 (pv 0) rfl) (A0 (A61 O hr2 (A0 (F5 t8 (pv 5) A9 (fun _ _=>rfl)) (A0 (F5 t8 (pv 5) A9 (fun _ _=>rfl)) (A0 (F5 t8 (pv 5) A9 (fun _ _=>rfl)) (A0 (pv 3) A6))))) A6))))))))),?_⟩
  have sz:=sizeLine_eq
  have hps:ps.length<=15:=(Ao8 hw).1
  -- what comes behind the node
  have main:∀(H1:Hp) (as1:List Addr),RD CR H1 r R i f->WY K H1 R.d->FM CF H1 p g->H1 R.fl=some (.lst (as1.map V.ref))->as1.length<=20002->
    (∀H' new,Psh R.fl H1 H' as1 new->Paired (FM CF H') new.reverse (ps.map (fr (dps x g.dp)))->Q .non H')->
    Ab2 (BT2 (AZ7 K (O4 1) "depth") (AO1 3)) (Ab2 (BR1 (AZ5 (tOp (rIn K false) (AZ7 K (O4 1) "symbol") (tC (V.ref aR)))) (Bb4 3 (tC (V.int 1)) (ipI fun i j=>i+j)) Aq4) (Ab2 (BT2 (BA2 (AZ7 K (O4 0) "ways") (BU5 (K6 (AZ7 K (O4 1) "symbol") (K6 (O4 2) AO5)))) (AO1 4)) (BS3 (A86 K (K6 (O4 4) AO5)) (AO1 5) (As0 (tBM K "list" AH3 (AZ7 K (O4 0) "frames") (K6 (AZ9 CF (AG7 CF) [] E0 (K6 (tOp (A03 K) (O4 5) (tC (V.int 0))) (K6 (tOp (A03 K) (O4 5) (tC (V.int 1))) (K6 (tOp (A03 K) (O4 5) (tC (V.int 2))) (K6 (O4 3) AO5))))) AO5)))))) {nx:=fun _ H'=>Q .non H',rt:=Q} [some (.ref r),some (.ref p),some (.str (B6 y)),none,none,none] H1:=by
   rintro H1 as1 ⟨dr,rs,hr0,nf⟩ ⟨kvs,hd,hwt⟩ ⟨nr,hnr,dx,fs,hp,k1,k2,k3,k4⟩ hl1 has1 hfin
   rw[hgx]at k2
   have hv:=hwt.2 (nameNt x) (B6 y)
   rw[BK7 x (M4 x) y hy,hw]at hv
   obtain⟨pw,hv,qs,hq1,hq2⟩:=hv
   have hql:qs.length=ps.length:=by have:=Paired.length hq2;rw[List.length_map]at this;exact this
   have nfr:r≠R.fl:=D8 hr0 hl1 (by intro z;cases z)
   have tail:∀D:Nat,D=dps x g.dp->Ab2 (BT2 (BA2 (AZ7 K (O4 0) "ways") (BU5 (K6 (AZ7 K (O4 1) "symbol") (K6 (O4 2) AO5)))) (AO1 4)) (BS3 (A86 K (K6 (O4 4) AO5)) (AO1 5) (As0 (tBM K "list" AH3 (AZ7 K (O4 0) "frames") (K6 (AZ9 CF (AG7 CF) [] E0 (K6 (tOp (A03 K) (O4 5) (tC (V.int 0))) (K6 (tOp (A03 K) (O4 5) (tC (V.int 1))) (K6 (tOp (A03 K) (O4 5) (tC (V.int 2))) (K6 (O4 3) AO5))))) AO5)))) {nx:=fun _ H'=>Q .non H',rt:=Q} [some (.ref r),some (.ref p),some (.str (B6 y)),some (.int (D:Nat)),none,none] H1:=by
    intro D hD
    refine⟨_,rfl,r,CR,dr,rs,_,rfl,hr0,X.cl,X.nd,nf.d,_,rfl,p,CF,dx,fs,_,rfl,hp,O.cl,O.n2,k2,_,rfl,(by show 2<=sizeLine;omega),fun t ht=>?_⟩
    have s1:=B9 (o:=.tup [V.str (nameNt x),V.str (B6 y)]) ht
    refine⟨R.d,.ref pw,rfl,by rw[←hv];exact DGet.t (k:=[Sum.inr (nameNt x),Sum.inr (B6 y)]) (s1 _ _ hd) A1,?_⟩
    refine⟨_,rfl,pw,_,rfl,Same.tup s1 hq1,Ay6 (K:=K) (a:=pw) (xs:=qs.map V.ref) (fun i σ H'=>∃(v:Option V) (new:List Addr),σ=[some (.ref r),some (.ref p),some (.str (B6 y)),some (.int (D:Nat)),some (.ref pw),v]/\Psh R.fl H1 H' as1 new/\new.length=i/\Paired (FM CF H') new.reverse ((ps.drop (ps.length-i)).map (fr D)))
     ⟨none,[],rfl,⟨by rw[List.append_nil];exact s1 _ _ hl1,fun b o _ e=>s1 _ _ e⟩,rfl,by rw[Nat.sub_zero,List.drop_length];exact .nil⟩ ?_ ?_ ?_⟩
    ·rintro i σ H' _ ⟨v,new,rfl,hP,_,_⟩
     exact SqT.psh hq1 hP.k hl1
    ·rintro i z σ H' hi hz ⟨v,new,rfl,hP,hni,hnF⟩
     rw[List.length_map]at hi hz
     obtain⟨q,hqz,rfl⟩:=u9 hz
     obtain⟨pt3,hpt3,hPt⟩:=Paired.get hq2 hqz
     rw[List.getElem?_map]at hpt3
     obtain⟨pt,hpt,rfl⟩:∃pt,ps[qs.length-1-i]?=some pt/\pt3=A36 pt:=by
      cases e:ps[qs.length-1-i]? with
      |none=>rw[e]at hpt3;cases hpt3
      |some z=>rw[e]at hpt3;exact⟨z,rfl,(Option.some.inj hpt3).symm⟩
     have hPt2:SqT K H' q [.str (Aq1 pt.fm),.str (J4 pt.sb),.int (pt.room:Nat)]:=SqT.psh hPt hP.k hl1
     have hr1:=hP.k _ _ nfr hr0
     refine⟨_,rfl,r,CR,dr,rs,_,rfl,hr1,X.cl,X.nfl,nf.fl,.inl ⟨rfl,_,SqL.of hP.l⟩,?_⟩
     refine⟨_,rfl,q,_,_,_,rfl,rfl,hPt2,D6 (j:=0) rfl,_,rfl,q,_,_,_,rfl,rfl,hPt2,D6 (j:=1) rfl,_,rfl,q,_,_,_,rfl,rfl,hPt2,D6 (j:=2) rfl,_,rfl,fun a1 dx1 na1 nd1 _=>⟨a1,dx1,_,_,_,_,rfl,A1,fun H2 hF1 kp1=>⟨rfl,?_⟩⟩⟩
     have s2:=Same.made na1 nd1 kp1
     have hl2:=s2 _ _ hP.l
     refine⟨R.fl,_,_,rfl,rfl,hl2,(by simp only[List.length_map,List.length_append];omega),?_⟩
     refine⟨_,new++[a1],rfl,⟨?_,fun b o nb e=>?_⟩,by rw[List.length_append,hni];rfl,?_⟩
     ·rw[A1,←List.append_assoc,List.map_append (l₁:=as1++new)];rfl
     ·rw[A5 nb];exact s2 _ _ (hP.k b o nb e)
     ·have e1:ps.drop (ps.length-(i+1))=pt::ps.drop (ps.length-i):=by
       have hlt:ps.length-(i+1)<ps.length:=by omega
       rw[List.drop_eq_getElem_cons hlt]
       have e2:qs.length-1-i=ps.length-(i+1):=by omega
       rw[e2,List.getElem?_eq_getElem hlt]at hpt
       rw[Option.some.inj hpt]
       congr 2
       omega
      rw[e1,List.reverse_append,List.map_cons]
      have kk:∀b o,b≠R.fl->H' b=some o->(upd H2 R.fl (.lst ((as1++new).map V.ref++[V.ref a1]))) b=some o:=fun b o nb e=>by rw[A5 nb];exact s2 _ _ e
      refine .cons ⟨(pt.room:Nat),rfl,?_⟩ (FMs.psh hnF kk hP.l)
      exact hF1.psh (fun b o nb e=>by rw[A5 nb];exact e) hl2
    ·rintro σ H' ⟨v,new,rfl,hP,hni,hnF⟩
     rw[List.length_map,hql,Nat.sub_self,List.drop_zero]at hnF
     rw[hD]at hnF
     exact hfin H' new hP hnF
   refine⟨_,rfl,p,CF,dx,fs,_,rfl,hp,O.cl,O.n4,k4,?_⟩
   refine⟨_,rfl,p,CF,dx,fs,_,rfl,hp,O.cl,O.n2,k2,aR,_,rfl,.inr (hrS _),rfl,AN0,_,rfl,?_⟩
   rw[show(if false=true then !inV (V.str (J4 (.n x))) (x6.map V.str)else inV (V.str (J4 (.n x))) (x6.map V.str))=W7 (.n x)from A14 x (M4 x)]
   refine G7 (fun c=>?_) (fun c=>?_)
   ·refine⟨_,rfl,_,_,rfl,rfl,?_⟩
    exact tail (g.dp+1) (by unfold dps;rw[if_pos c])
   ·exact tail g.dp (by unfold dps;rw[if_neg c])
  obtain⟨nr,hnr,dx,fs,hp,k1,k2,k3,k4⟩:=id hF
  rw[hgx]at k2
  refine⟨_,rfl,p,CF,dx,fs,_,rfl,hp,O.cl,O.n2,k2,aT,_,rfl,.inr (htS _),rfl,Ai2,_,rfl,?_⟩
  rw[show(if false=true then !inV (V.str (J4 (.n x))) (Aa1.map V.str)else inV (V.str (J4 (.n x))) (Aa1.map V.str))=R5 x from BM2 x (M4 x)]
  refine G7 (fun c=>?_) (fun c=>?_)
  ·refine⟨_,rfl,_,rfl,p,CF,dx,fs,_,rfl,hp,O.cl,O.n2,k2,r,R,i,f,x,as,bs,rfl,hR,hl,hbl,nfb,(by omega),(by omega),fun H1 o1=>?_⟩
   obtain⟨q,n,il,g1,g2,g3,g4,g5,g6,g7,g8⟩:=o1.ex
   obtain⟨dr,rs,hr0,nf⟩:=id hR
   have nrf:r≠R.fl:=D8 hr0 hl (by intro z;cases z)
   have nrb:r≠R.bl:=D8 hr0 hbl (by intro z;cases z)
   have hW1:WY K H1 R.d:=by
    obtain⟨kvs,w1,w2⟩:=hW
    refine⟨kvs,o1.k _ _ (D8 w1 hl (by intro z;cases z)) (D8 w1 hbl (by intro z;cases z)) w1,w2.keep fun a ys q=>?_⟩
    rcases q with (q |⟨o',q⟩) |q
    ·exact .inl (.inl (o1.k _ _ (D8 q hl (by intro z;cases z)) (D8 q hbl (by intro z;cases z)) q))
    ·exact .inl (.inr ⟨o',o1.k _ _ (D8 q hl (by intro z;cases z)) (D8 q hbl (by intro z;cases z)) q⟩)
    ·exact .inr q
   refine main H1 (as++[q]) (hR.keep fun o e=>o1.k _ _ nrf nrb e) hW1 (hF.keep fun dx fs e=>o1.k _ _ (D8 e hl (by intro z;cases z)) (D8 e hbl (by intro z;cases z)) e) g1 (by rw[List.length_append];show _+1<=_;omega) fun H' new hP hnF=>?_
   refine h H' ⟨⟨[q]++new,by rw[←List.append_assoc];exact hP.l,?_⟩,.inr ⟨c,n,il,hP.k _ _ (Ne.symm nfb) g2,?_,?_,g6,g7,g8⟩,fun b o n1 n2 e=>hP.k b o n1 (o1.k b o n1 n2 e)⟩
   ·rw[List.reverse_append]
    refine Z2 hnF ?_
    unfold R7
    rw[if_pos c]
    exact .cons (g3.psh hP.k g1) .nil
   ·exact g4.keep fun o e=>hP.k _ _ (fun z=>by rw[z,hl]at g6;cases g6) e
   ·exact hP.k _ _ (fun z=>by rw[z,hl]at g7;cases g7) g5
  ·have c:R5 x=false:=Bool.eq_false_iff.mpr c
   refine main H as hR hW hF hl (by omega) fun H' new hP hnF=>?_
   refine h H' ⟨⟨new,hP.l,?_⟩,.inl ⟨c,hP.k _ _ (Ne.symm nfb) hbl⟩,fun b o n1 n2 e=>hP.k b o n1 e⟩
   unfold R7
   rw[c,if_neg (by decide),List.append_nil]
   exact hnF
end
end Rk
namespace Rk
open PySem PySem.Spec PyProof.Rows L2 Tk Rd
namespace LT
noncomputable def setJ:LT->Nat->LT |mk a il k i _ p s l c,j=>mk a il k i j p s l c
noncomputable def addC:LT->LT->LT |mk a il k i j p s l c,t=>mk a il k i j p s l (c++[t])
end LT
theorem Ai6 (t:LT)(v:Nat):fp (t.setJ v)=fp t:=by
 obtain⟨a,il,k,i,j,p,s,l,c⟩:=t
 show fp (.mk a il k i v p s l c)=_
 rw[E3,E3]
theorem AtT.setJ {C dx:Addr}{H:Hp}{t:LT}{fs:List (Str×V)}(h:AtT C H t)(nd:(fp t).Nodup)(ha:H t.a=some (.ins C dx fs))(hf:NF fs t.rc)(v:Nat):AtT C (upd H t.a (.ins C dx (C1 "behind" (.int (v:Nat)) fs))) (t.setJ v):=by
 obtain⟨a,il,k,i,j,p,s,l,c⟩:=t
 rw[J5]at h
 rw[E3,List.nodup_cons]at nd
 exact AtT.root h.2.1 h.2.2 nd.1 (hf.setJ _)
theorem BO6 (u t:LT):er (u.addC t)=.mk (er u).k (er u).i (er u).j (er u).pr (er u).st (er u).le ((er u).c++[er t]):=by
 obtain⟨a,il,k,i,j,p,s,l,c⟩:=u
 show er (.mk a il k i j p s l (c++[t]))=_
 rw[T8,T8,List.map_append]
 rfl
theorem BK6 (u t:LT):fp (u.addC t)=fp u++fp t:=by
 obtain⟨a,il,k,i,j,p,s,l,c⟩:=u
 show fp (.mk a il k i j p s l (c++[t]))=_
 rw[E3,E3,P5,B1,E4,List.append_nil]
 rfl
theorem BX9 (u t:LT):(u.addC t).a=u.a:=by obtain⟨a,il,k,i,j,p,s,l,c⟩:=u;rfl
structure A23 (C bl:Addr)(H H':Hp)(ts:List LT)(u t t':LT)(n:Nd):Prop where
 l:H' bl=some (.lst (B3 (ts++[u.addC t'])))
 at_:AtL C H' (ts++[u.addC t'])
 nd:(fps (ts++[u.addC t'])).Nodup
 er:er t'=n
 sub:∀b∈fps (ts++[u.addC t']),b∈fps (ts++[u,t])∨H b=none
 kp:∀b o,b≠bl->b∉fps (ts++[u,t])->H b=some o->H' b=some o
noncomputable def BJ7 (CR CN:Addr):Sp:=fun vs H Q _=>∃(r:Addr) (R:RR) (i:Nat) (f:Int) (cy:Nat->Sy) (N:Nat) (ts:List LT) (u t:LT) (k:Kd) (n:Nd),vs=[.ref r]/\RD CR H r R (i:Nat) f/\SyAt H R.sl cy N/\(∀i,cy i∈G6)/\
 H R.bl=some (.lst (B3 (ts++[u,t])))/\AtL CN H (ts++[u,t])/\(fps (ts++[u,t])).Nodup/\R.sl∉fps (ts++[u,t])/\R.bl∉fps (ts++[u,t])/\R.sl≠R.bl/\CN≠CR/\
 er t=.mk k t.i t.i false 13 0 (t.c.map er)/\t.i<=N/\t.c.length<=100001/\u.c.length<=100001/\fin cy N ⟨k,t.i,t.c.map er⟩ i=some n/\
 ∀(H':Hp) (t':LT),A23 CN R.bl H H' ts u t t' n->Q .non H'
section
variable {P:Program} {w:World} {K:PySem.W.Frag} {mg:Str->Option Value} {base:Heap}
theorem BG2:B8 ["reading","node","around"] ["reading"] (A7 i7):=⟨rfl,rfl,rfl,by decide+kernel,rfl,by decide+kernel,by decide+kernel⟩
theorem BJ8 {f CR CF CN fN:Addr}{fd fdN:FuncData}(F:Fun K "end_node" "end_node" i7 f fd)(X:TxR P w K mg CR CF CN)(Y:NdC K mg CN)(T:TxO P w K mg)(W:TrF K mg)(N:Fn K mg "finished" S8 ["node","symbols"] fN fdN):D3 P w K mg base CX0 7 f fd ["reading"] (BJ7 CR CN):=by
 have GN:D3 P w K mg base CX0 6 fN fdN ["node","symbols"] (V0 CN BM0):=AP8 N.F Y T W
 refine F.ok BG2 (fun vs H Q E h=>?_) (fun cdv A outer s H vs Q E hr h=>?_)
 ·obtain⟨r,R,i,f,cy,N,ts,u,t,k,n,rfl,_⟩:=h
  rfl
 ·obtain⟨r,R,i,f,cy,N',ts,u,t,k,n,rfl,⟨dr,rs,hr0,nf⟩,hS,hcy,hbl,hat,hnd,nsl,nbl,slb,cnr,het,hiN,hcl,hul,hfin,h⟩:=h
  refine⟨_,A2 (C8 (i:=1) BG2.nd rfl (Or.inl rfl) (z9 PySem.F.plainAttrs_list PySem.F.slot_list_pop PySem.F.type_list_pop AB8 (A8 (pv 0) rfl)))
   (A2 (C7 (pv 1) (A8 (pv 0) rfl) rfl)
   (A2 (C8 (i:=2) BG2.nd rfl (Or.inl rfl) (F5 C6 (A8 (pv 0) rfl) (Am3 AN7 A9) (fun _ _=>rfl)))
   (A4 (E8 (X8 PySem.F.plainAttrs_list PySem.F.slot_list_append PySem.F.type_list_append F8 (A8 (pv 2) rfl) (A0 (D5 N GN hr (A0 (pv 1) (A0 (A8 (pv 0) rfl) A6))) A6)))))),?_⟩
  have sz:=sizeLine_eq
  have e0:B3 (ts++[u,t])=B3 (ts++[u])++[V.ref t.a]:=by rw[J0,J0];simp[B3]
  have e1:B3 (ts++[u])=B3 ts++[V.ref u.a]:=J0 _ _
  have ef:fps (ts++[u,t])=fps ts++(fp u++fp t):=by rw[P5,B1,B1,E4,List.append_nil]
  rw[e0]at hbl
  have hat':=D0.mp hat
  have hu:=hat' u (by simp)
  have ht:=hat' t (by simp)
  have nrb:r≠R.bl:=D8 hr0 hbl (by intro z;cases z)
  have nd:=hnd
  rw[ef]at nd
  have nd1:=List.nodup_append.mp nd
  have nd2:=List.nodup_append.mp nd1.2.1
  have inT:∀x,x∈fp t->x∈fps (ts++[u,t]):=fun x hx=>by rw[ef];exact List.mem_append_right _ (List.mem_append_right _ hx)
  have inU:∀x,x∈fp u->x∈fps (ts++[u,t]):=fun x hx=>by rw[ef];exact List.mem_append_right _ (List.mem_append_left _ hx)
  have inS:∀x,x∈fps ts->x∈fps (ts++[u,t]):=fun x hx=>by rw[ef];exact List.mem_append_left _ hx
  refine⟨_,rfl,r,CR,dr,rs,_,rfl,hr0,X.cl,X.nbl,nf.bl,.inl ⟨rfl,_,SqL.of hbl⟩,R.bl,_,_,rfl,rfl,hbl,AC3 _ _,?_⟩
  rw[List.dropLast_concat]
  have kp1:∀b o,b≠R.bl->H b=some o->(upd H R.bl (.lst (B3 (ts++[u])))) b=some o:=fun b o n e=>by rw[A5 n];exact e
  have b1:(upd H R.bl (.lst (B3 (ts++[u])))) R.bl=some (.lst (B3 (ts++[u]))):=A1
  have f1:∀b,(upd H R.bl (.lst (B3 (ts++[u])))) b=none->H b=none:=fun b e=>by
   have c1:b≠R.bl:=fun q=>by rw[q,A1]at e;cases e
   rw[A5 c1]at e;exact e
  generalize (upd H R.bl (.lst (B3 (ts++[u]))))=H1 at kp1 b1 f1 ⊢
  have hr1:=kp1 _ _ nrb hr0
  have nb:∀x,x∈fps (ts++[u,t])->x≠R.bl:=fun x hx q=>nbl (by rw[←q];exact hx)
  have ht1:AtT CN H1 t:=ht.keep t fun b hb o e=>kp1 b o (nb b (inT b hb)) e
  obtain⟨dt,ft,ht0,nft⟩:=ht1.no
  refine⟨_,rfl,r,CR,dr,rs,_,rfl,hr1,X.cl,X.na,nf.a,_,rfl,t.a,CN,dt,ft,rfl,ht0,Y.cl,Y.nj,(by have:=nft.n;omega),?_⟩
  have ht2:=ht1.setJ nd2.2.1 ht0 nft i
  have kp2:∀b o,b≠t.a->H1 b=some o->(upd H1 t.a (.ins CN dt (C1 "behind" (.int (i:Nat)) ft))) b=some o:=fun b o n e=>by rw[A5 n];exact e
  have f2:∀b,(upd H1 t.a (.ins CN dt (C1 "behind" (.int (i:Nat)) ft))) b=none->H1 b=none:=fun b e=>by
   have c1:b≠t.a:=fun q=>by rw[q,A1]at e;cases e
   rw[A5 c1]at e;exact e
  generalize (upd H1 t.a (.ins CN dt (C1 "behind" (.int (i:Nat)) ft)))=H2 at ht2 kp2 f2 ⊢
  have nta:t.a∈fps (ts++[u,t]):=inT _ (E7 t)
  have hr2:=kp2 _ _ (D8 hr1 ht0 (by intro z;injection z with z;exact cnr z.symm)) hr1
  have b2:=kp2 _ _ (Ne.symm (nb _ nta)) b1
  rw[e1]at b2
  refine⟨_,rfl,r,CR,dr,rs,_,rfl,hr2,X.cl,X.nbl,nf.bl,1,rfl,R.bl,_,_,_,rfl,rfl,SqL.of b2,AW9 _ _,?_⟩
  have keepU:∀b,b∈fp u->∀o,H b=some o->H2 b=some o:=fun b hb o e=>kp2 b o (fun q=>nd2.2.2 b hb t.a (E7 t) q) (kp1 b o (nb b (inU b hb)) e)
  have keepS:∀b,b∈fps ts->∀o,H b=some o->H2 b=some o:=fun b hb o e=>kp2 b o (fun q=>nd1.2.2 b hb t.a (List.mem_append_right _ (E7 t)) q) (kp1 b o (nb b (inS b hb)) e)
  have hu2:AtT CN H2 u:=hu.keep u keepU
  have hS2:SyAt H2 R.sl cy N':=hS.keep fun o e=>kp2 _ _ (fun q=>nsl (by rw[q];exact nta)) (kp1 _ _ slb e)
  obtain⟨ta,til,et⟩:=AJ1 het
  have htj:t.setJ i=.mk ta til k t.i i false 13 0 t.c:=by
   conv=>lhs;rw[et]
   rfl
  have eta:(t.setJ i).a=t.a:=by rw[htj,et];rfl
  obtain⟨ua,uil,uk,ui,uj,up,us,ul,uc⟩:=u
  obtain⟨⟨du,fu,hu0,nfu⟩,huil,huc⟩:=J5.mp hu2
  refine⟨_,rfl,ua,CN,du,fu,_,rfl,hu0,Y.cl,Y.nc,nfu.il,.inl ⟨rfl,_,SqL.of huil⟩,?_⟩
  refine⟨_,rfl,_,rfl,r,CR,dr,rs,_,rfl,hr2,X.cl,X.nsl,nf.sl,t.setJ i,R.sl,cy,N',n,k,by rw[eta];rfl,ht2,by rw[Ai6];exact nd2.2.1,by rw[Ai6];exact fun q=>nsl (inT _ q),hS2,hcy,?_,?_,?_,?_,fun H3 t' o3=>?_⟩
  ·rw[htj];exact hiN
  ·rw[htj];exact hcl
  ·rw[htj,T8];rfl
  ·rw[htj];exact hfin
  have nuil:uil∉fp (t.setJ i):=fun q=>by
   rw[Ai6]at q
   exact nd2.2.2 uil (by rw[E3];exact List.mem_cons_of_mem _ (List.mem_cons_self ..)) uil q rfl
  have huil3:=o3.kp _ _ nuil huil
  have hul:uc.length<=100001:=hul
  refine⟨uil,_,_,rfl,rfl,huil3,(by simp only[B3,List.length_map];omega),?_⟩
  have ndu:=nd2.1
  rw[E3,List.nodup_cons,List.nodup_cons]at ndu
  have nt':∀x,x∈fps (ts++[.mk ua uil uk ui uj up us ul uc,t])->x∉fp t->x∉fp t':=fun x hx h1 h2=>by
   rcases o3.sub x h2 with q |q
   ·rw[Ai6]at q;exact h1 q
   ·obtain⟨o,ho⟩:=AtL.ex _ hat x hx
    rw[f1 _ (f2 _ q)]at ho;cases ho
  have utn:∀x,x∈fp (.mk ua uil uk ui uj up us ul uc)->x∉fp t:=fun x hx q=>nd2.2.2 x hx x q rfl
  have stn:∀x,x∈fps ts->x∉fp t:=fun x hx q=>nd1.2.2 x hx x (List.mem_append_right _ q) rfl
  have kp4:∀b o,b≠uil->H3 b=some o->(upd H3 uil (.lst (B3 uc++[V.ref t'.a]))) b=some o:=fun b o n e=>by rw[A5 n];exact e
  have nTu:∀x,x∈fp t'->x≠uil:=fun x hx q=>nt' uil (inU uil (by rw[E3];exact List.mem_cons_of_mem _ (List.mem_cons_self ..))) (by rw[Ai6]at nuil;exact nuil) (by rw[←q];exact hx)
  have en:fps (ts++[LT.addC (.mk ua uil uk ui uj up us ul uc) t'])=fps ts++(fp (.mk ua uil uk ui uj up us ul uc)++fp t'):=by rw[P5,B1,E4,List.append_nil,BK6]
  have toH:∀b,H2 b=none->H b=none:=fun b e=>f1 _ (f2 _ e)
  refine h _ t' ⟨?_,?_,?_,o3.er,?_,?_⟩
  ·rw[J0]
   have b3:=o3.kp _ _ (fun q=>nbl (inT _ (by rw[Ai6]at q;exact q))) b2
   have nbu:R.bl≠uil:=fun q=>nbl (inU _ (by rw[q,E3];exact List.mem_cons_of_mem _ (List.mem_cons_self ..)))
   exact kp4 _ _ nbu b3
  ·rw[D0]
   intro x hx
   rcases List.mem_append.mp hx with hx |hx
   ·refine(hat' x (List.mem_append_left _ hx)).keep x fun b hb o e=>?_
    have hbs:b∈fps ts:=T1.mpr ⟨x,hx,hb⟩
    refine kp4 b o (fun q=>nd1.2.2 b hbs uil (List.mem_append_left _ (by rw[E3];exact List.mem_cons_of_mem _ (List.mem_cons_self ..))) q) (o3.kp b o (by rw[Ai6];exact stn b hbs) (keepS b hbs o e))
   ·rw[List.mem_singleton]at hx
    subst hx
    show AtT CN _ (.mk ua uil uk ui uj up us ul (uc++[t']))
    have nua:ua≠uil:=fun q=>ndu.1 (by rw[q];exact List.mem_cons_self ..)
    refine J5.mpr ⟨⟨du,fu,kp4 _ _ nua (o3.kp _ _ (by rw[Ai6];exact utn _ (by rw[E3];exact List.mem_cons_self ..)) hu0),nfu⟩,by rw[A1,J0];rfl,D0.mpr fun y hy=>?_⟩
    rcases List.mem_append.mp hy with hy |hy
    ·refine(D0.mp huc y hy).keep y fun b hb o e=>?_
     have hbu:b∈fps uc:=T1.mpr ⟨y,hy,hb⟩
     exact kp4 b o (fun q=>ndu.2.1 (by rw[←q];exact hbu)) (o3.kp b o (by rw[Ai6];exact utn b (by rw[E3];exact List.mem_cons_of_mem _ (List.mem_cons_of_mem _ hbu))) e)
    ·rw[List.mem_singleton]at hy
     subst hy
     exact o3.at_.keep _ fun b hb o e=>kp4 b o (nTu b hb) e
  ·rw[en,List.nodup_append,List.nodup_append]
   refine⟨nd1.1,⟨nd2.1,o3.nd,fun x hx y hy q=>nt' x (inU x hx) (utn x hx) (by rw[q];exact hy)⟩,fun x hx y hy q=>?_⟩
   rcases List.mem_append.mp hy with hy |hy
   ·exact nd1.2.2 x hx y (List.mem_append_left _ hy) q
   ·exact nt' x (inS x hx) (stn x hx) (by rw[q];exact hy)
  ·rw[en]
   intro b hb
   rcases List.mem_append.mp hb with hb |hb
   ·exact .inl (inS b hb)
   rcases List.mem_append.mp hb with hb |hb
   ·exact .inl (inU b hb)
   rcases o3.sub b hb with q |q
   ·exact .inl (inT b (by rw[Ai6]at q;exact q))
   ·exact .inr (toH b q)
  ·intro b o n1 n2 e
   have h2:=kp2 b o (fun q=>n2 (by rw[q];exact nta)) (kp1 b o n1 e)
   exact kp4 b o (fun q=>n2 (by rw[q];exact inU _ (by rw[E3];exact List.mem_cons_of_mem _ (List.mem_cons_self ..)))) (o3.kp b o (fun q=>n2 (inT b (by rw[Ai6]at q;exact q))) h2)
end
end Rk
namespace Rk
open PySem PySem.Spec PyProof.Rows L2 Tk Rd
structure BF1 (CR CF CN:Addr)(H:Hp)(r:Addr)(R:RR)(i:Int)(as:List Addr)(bs:List V)(g:Fr)(y:Sy)(H':Hp):Prop where
 k:∀b o,b≠r->b≠R.fl->b≠R.bl->H b=some o->H' b=some o
 bad:faultOf g y≠0->RD CR H' r R i (faultOf g y:Nat)
 tok:faultOf g y=0->∀z,g.sb=.t z->RD CR H' r R (i+1) 0/\H' R.fl=some (.lst (as.map V.ref))/\H' R.bl=some (.lst bs)
 exp:faultOf g y=0->∀x,g.sb=.n x->RD CR H' r R i 0/\∃Hm,(∀b,Hm b=none->H b=none)/\BQ0 CF CN R Hm H' x ((L7 x y).getD []) i g.dp as bs
noncomputable def A37 (K:PySem.W.Frag)(CR CF CN:Addr):Sp:=fun vs H Q _=>∃(r:Addr) (R:RR) (i f:Int) (p:Addr) (g:Fr) (y:Sy) (as:List Addr) (bs:List V),vs=[.ref r,.ref p,.str (B6 y)]/\RD CR H r R i f/\WY K H R.d/\FM CF H p g/\Vb g.sb/\y∈G6/\
 H R.fl=some (.lst (as.map V.ref))/\H R.bl=some (.lst bs)/\R.fl≠R.bl/\as.length<=20001/\bs.length<=20001/\∀H',BF1 CR CF CN H r R i as bs g y H'->Q .non H'
theorem WY.keepR {K:PySem.W.Frag}{H H':Hp}{d r C dx:Addr}{fs:List (Str×V)}(h:WY K H d)(k:∀b o,b≠r->H b=some o->H' b=some o)(hr:H r=some (.ins C dx fs)):WY K H' d:=by
 obtain⟨kvs,w1,w2⟩:=h
 refine⟨kvs,k _ _ (D8 w1 hr (by intro z;cases z)) w1,w2.keep fun a ys q=>?_⟩
 rcases q with (q |⟨o',q⟩) |q
 ·exact .inl (.inl (k _ _ (D8 q hr (by intro z;cases z)) q))
 ·exact .inl (.inr ⟨o',k _ _ (D8 q hr (by intro z;cases z)) q⟩)
 ·exact .inr q
section
variable {P:Program} {w:World} {K:PySem.W.Frag} {mg:Str->Option Value} {base:Heap}
structure RdF (P:Program)(w:World)(K:PySem.W.Frag)(mg:Str->Option Value)(CR CF CN:Addr):Prop where
 X:TxR P w K mg CR CF CN
 O:∃f fd,FrC K mg CF f fd
 Y:NdC K mg CN
 T:TxO P w K mg
 W:TrF K mg
 can:∃f fd,Fn K mg "can_begin" BJ1 ["reading","symbol","token"] f fd
 flt:∃f fd,Fn K mg "fault_of" AS5 ["reading","frame","token"] f fd
 beg:∃f fd,Fn K mg "begin_node" P8 ["reading","rule"] f fd
 enn:∃f fd,Fn K mg "end_node" i7 ["reading"] f fd
 fin:∃f fd,Fn K mg "finished" S8 ["node","symbols"] f fd
 way:∃f fd,Fn K mg "push_way" l8 ["reading","frame","token"] f fd
 one:∃f fd,Fn K mg "push_one_and_others" k6 ["reading","frame"] f fd
 onc:∃f fd,Fn K mg "read_once" Ar0 ["reading","frame","token"] f fd
theorem BL9:B8 ["reading","frame","token"] ["reading","frame","token"] (A7 Ar0):=⟨rfl,rfl,rfl,by decide+kernel,rfl,by decide+kernel,by decide+kernel⟩
theorem BE0 {f CR CF CN:Addr}{fd:FuncData}(F:Fun K "read_once" "read_once" Ar0 f fd)(Z:RdF P w K mg CR CF CN):D3 P w K mg base CX0 5 f fd ["reading","frame","token"] (A37 K CR CF CN):=by
 have X:=Z.X
 obtain⟨fI,dI,O⟩:=Z.O
 obtain⟨fC,dC,N⟩:=Z.can
 obtain⟨fT,dT,T⟩:=Z.flt
 obtain⟨fB,dB,B⟩:=Z.beg
 obtain⟨fW,dW,W⟩:=Z.way
 have GT:D3 P w K mg base CX0 2 fT dT ["reading","frame","token"] (Ae4 K CR CF):=At7 T.F X O N
 have GW:D3 P w K mg base CX0 4 fW dW ["reading","frame","token"] (AH7 K CR CF CN):=Aa7 W.F X O Z.Y B
 refine F.ok BL9 (fun vs H Q E h=>?_) (fun cdv A outer s H vs Q E hr h=>?_)
 ·obtain⟨r,R,i,f,p,g,y,as,bs,rfl,_⟩:=h
  rfl
 ·obtain⟨r,R,i,f,p,g,y,as,bs,rfl,hR,hW,hF,hb,hy,hl,hbl,nfb,has,hbs,h⟩:=h
  have hr2:Room 2 _:=hr.mono (by decide)
  refine⟨_,A2 (C7 (pv 0) (D5 T GT hr2 (A0 (pv 0) (A0 (pv 1) (A0 (pv 2) A6)))) rfl)
   (A2 (E2 (B5 AG6 (A8 (pv 0) rfl) A9 (C2 _)) (A4 BE9) C4)
   (A4 (E2 (B5 J3 (A8 (pv 1) rfl) (pv 2) (C2 _)) (A4 (AM9 (pv 0) A9 r9)) (A4 (E8 (D5 W GW hr (A0 (pv 0) (A0 (pv 1) (A0 (pv 2) A6))))))))),?_⟩
  obtain⟨nr,hnr,dx,fs,hp,k1,k2,k3,k4⟩:=id hF
  obtain⟨dr,rs,hr0,nf⟩:=id hR
  have nrl:r≠R.fl:=D8 hr0 hl (by intro z;cases z)
  have nrb:r≠R.bl:=D8 hr0 hbl (by intro z;cases z)
  have npr:p≠r:=D8 hp hr0 (by intro z;injection z with z;exact X.fr z)
  refine⟨_,rfl,_,rfl,_,rfl,r,R,i,f,p,g,y,rfl,hR,hW,hF,hb,hy,fun H1 s1=>?_⟩
  refine⟨_,rfl,r,CR,dr,rs,rfl,s1 _ _ hr0,X.cl,X.nf,(by have:=nf.n;omega),?_⟩
  have nf2:=nf.setF (faultOf g y:Nat)
  have hr2:(upd H1 r (.ins CR dr (C1 "fault" (.int (faultOf g y:Nat)) rs))) r=some (.ins CR dr (C1 "fault" (.int (faultOf g y:Nat)) rs)):=A1
  have kp2:∀b o,b≠r->H b=some o->(upd H1 r (.ins CR dr (C1 "fault" (.int (faultOf g y:Nat)) rs))) b=some o:=fun b o n e=>by rw[A5 n];exact s1 _ _ e
  have fr2:∀b,(upd H1 r (.ins CR dr (C1 "fault" (.int (faultOf g y:Nat)) rs))) b=none->H b=none:=fun b e=>by
   have n:b≠r:=fun q=>by rw[q,A1]at e;cases e
   rw[A5 n]at e
   exact s1.free e
  generalize (upd H1 r (.ins CR dr (C1 "fault" (.int (faultOf g y:Nat)) rs)))=H2 at hr2 kp2 fr2 ⊢
  generalize (C1 "fault" (.int (faultOf g y:Nat)) rs)=rs2 at hr2 nf2 ⊢
  have hl2:=kp2 _ _ (Ne.symm nrl) hl
  have hb2:=kp2 _ _ (Ne.symm nrb) hbl
  have hW2:WY K H2 R.d:=hW.keepR kp2 hr0
  have hF2:FM CF H2 p g:=hF.keep fun dx fs e=>kp2 _ _ npr e
  have hp2:=kp2 _ _ npr hp
  refine⟨_,rfl,r,CR,dr,rs2,_,rfl,hr2,X.cl,X.nf,nf2.f,_,_,rfl,rfl,_,rfl,G7 (fun c=>?_) (fun c=>?_)⟩
  ·have c:(0:Int)<(faultOf g y:Nat):=of_decide_eq_true c
   have c:faultOf g y≠0:=by omega
   exact h H2 ⟨fun b o n1 _ _ e=>kp2 b o n1 e,fun _=>⟨dr,rs2,hr2,nf2⟩,fun q=>(c q).elim,fun q=>(c q).elim⟩
  ·have c:¬(0:Int)<(faultOf g y:Nat):=of_decide_eq_false (Bool.eq_false_iff.mpr c)
   have c0:faultOf g y=0:=by omega
   rw[c0]at nf2
   have hcb:B2 g.sb y=true:=by
    cases q:B2 g.sb y with
    |true=>rfl
    |false=>unfold faultOf at c0;rw[if_pos q]at c0;cases c0
   refine⟨_,rfl,p,CF,dx,fs,_,rfl,hp2,O.cl,O.n2,k2,_,rfl,rfl,_,rfl,G7 (fun e=>?_) (fun e=>?_)⟩
   ·have e:J4 g.sb=B6 y:=by simpa using e
    refine⟨_,rfl,r,CR,dr,rs2,_,rfl,hr2,X.cl,X.na,nf2.a,_,_,rfl,rfl,dr,rs2,hr2,(by have:=nf2.n;omega),?_⟩
    refine h _ ⟨fun b o n1 _ _ e=>(by rw[A5 n1];exact kp2 b o n1 e),fun q=>(q c0).elim,fun _ z hz=>?_,fun _ x hx=>?_⟩
    ·exact⟨⟨dr,_,A1,nf2.setA _⟩,by rw[A5 (Ne.symm nrl)];exact hl2,by rw[A5 (Ne.symm nrb)];exact hb2⟩
    ·rw[hx]at e
     exact(BH9 x (M4 x) y hy e).elim
   ·have e:¬J4 g.sb=B6 y:=by intro z;apply e;simpa using z
    cases hsb:g.sb with
    |t z=>
     rw[hsb]at hcb e
     have:z=y:=by simpa [B2]using hcb
     exact(e (by rw[this];rfl)).elim
    |n x=>
     rw[hsb]at hcb
     obtain⟨ps,hw⟩:=Option.isSome_iff_exists.mp (show(L7 x y).isSome=true from hcb)
     refine⟨_,rfl,_,rfl,_,rfl,r,R,i,0,p,g,x,y,ps,as,bs,rfl,⟨dr,rs2,hr2,nf2⟩,hW2,hF2,hsb,hy,hw,hl2,hb2,nfb,has,hbs,fun H4 o4=>?_⟩
     refine h H4 ⟨fun b o n1 n2 n3 e=>o4.k b o n2 n3 (kp2 b o n1 e),fun q=>(q c0).elim,fun _ z hz=>(by rw[hsb]at hz;cases hz),fun _ x' hx'=>?_⟩
     rw[hsb]at hx'
     cases hx'
     refine⟨⟨dr,rs2,o4.k _ _ nrl nrb hr2,nf2⟩,H2,fr2,?_⟩
     rw[hw]
     exact o4
end
end Rk
namespace Rk
open PySem PySem.Spec PyProof.Rows L2 Tk Rd
structure CS (K:PySem.W.Frag)(H0:Hp)(r:Addr)(R:RR)(cy:Nat->Sy)(N:Nat):Prop where
 sy:SyAt H0 R.sl cy N
 wy:WY K H0 R.d
 cy:∀i,cy i∈G6
 nr:H0 r=none
 nf:H0 R.fl=none
 nb:H0 R.bl=none
 ne:R.fl≠R.bl
 N:N<=100000
noncomputable def BH7 (t:LT)(o:Op):Prop:=er t=.mk o.k o.i o.i false 13 0 o.c
structure NDs (CN:Addr)(H0 H:Hp)(R:RR)(ts:List LT)(opn:List Op):Prop where
 l:H R.bl=some (.lst (B3 ts))
 at_:AtL CN H ts
 nd:(fps ts).Nodup
 op:Paired BH7 ts.reverse opn
 h0:∀b∈fps ts,H0 b=none
 nb:R.bl∉fps ts
 nf:R.fl∉fps ts
 pg:∃t0 tr,ts=t0::tr/\t0.a=R.pg
structure MC (CF CR CN:Addr)(H0 H:Hp)(r:Addr)(R:RR)(frs:List Fr)(pos:Nat)(opn:List Op):Prop where
 rd:RD CR H r R (pos:Nat) 0
 bs:Same H0 H
 fr:∃as:List Addr,H R.fl=some (.lst (as.map V.ref))/\Paired (FM CF H) as.reverse frs
 nd:∃ts,NDs CN H0 H R ts opn
mutual
theorem AtT.kind {C:Addr}{H:Hp}:∀(t:LT),AtT C H t->∀b∈fp t,(∃dx fs,H b=some (.ins C dx fs))∨∃xs,H b=some (.lst xs)
 |.mk a il k i j p s l c,h,b,hb=>by
  rw[J5]at h
  rw[E3]at hb
  rcases List.mem_cons.mp hb with rfl |hb
  ·obtain⟨dx,fs,e,_⟩:=h.1;exact .inl ⟨_,_,e⟩
  ·rcases List.mem_cons.mp hb with rfl |hb
   ·exact .inr ⟨_,h.2.1⟩
   ·exact AtL.kind c h.2.2 b hb
theorem AtL.kind {C:Addr}{H:Hp}:∀(c:List LT),AtL C H c->∀b∈fps c,(∃dx fs,H b=some (.ins C dx fs))∨∃xs,H b=some (.lst xs)
 |[],_,b,hb=>by rw[E4]at hb;cases hb
 |t::r,h,b,hb=>by
  unfold AtL at h
  rw[B1]at hb
  rcases List.mem_append.mp hb with hb |hb
  ·exact AtT.kind t h.1 b hb
  ·exact AtL.kind r h.2 b hb
end
theorem AtL.notin {C C' dx b:Addr}{H:Hp}{c:List LT}{fs:List (Str×V)}(h:AtL C H c)(hb:H b=some (.ins C' dx fs))(n:C'≠C):b∉fps c:=fun q=>by
 rcases AtL.kind c h b q with ⟨dx',fs',e⟩ |⟨xs,e⟩
 ·rw[hb]at e
  injection e with e
  injection e with e
  exact n e
 ·rw[hb]at e;cases e
theorem NDs.keep {CN CR r:Addr}{H0 H H':Hp}{R:RR}{ts:List LT}{opn:List Op}(h:NDs CN H0 H R ts opn)(hr:r∉fps ts)(hrb:R.bl≠r)(hfb:R.fl≠R.bl)(k:∀b o,b≠r->b≠R.fl->H b=some o->H' b=some o):NDs CN H0 H' R ts opn:=
 ⟨k _ _ hrb (Ne.symm hfb) h.l,AtL.keep ts h.at_ fun b hb o e=>k b o (fun q=>hr (by rw[←q];exact hb)) (fun q=>h.nf (by rw[←q];exact hb)) e,h.nd,h.op,h.h0,h.nb,h.nf,h.pg⟩
theorem NDs.push {CN r:Addr}{H0 H H':Hp}{R:RR}{ts:List LT}{opn:List Op}{n il:Addr}{x:Nt}{i:Nat}(h:NDs CN H0 H R ts opn)(hs:Same H0 H)(hr:r∉fps ts)(hfl:∃o,H R.fl=some o)(k:∀b o,b≠r->b≠R.fl->b≠R.bl->H b=some o->H' b=some o)
  (g1:H' R.bl=some (.lst (B3 ts++[V.ref n]))) (g2:NO CN H' n ⟨il,nameNt x,(i:Nat),(i:Nat),false,13,0⟩) (g3:H' il=some (.lst [])) (g4:H n=none) (g5:H il=none) (g6:n≠il):NDs CN H0 H' R (ts++[.mk n il (.n x) i i false 13 0 []]) (⟨.n x,i,[]⟩::opn):=by
 have e1:fps (ts++[.mk n il (.n x) i i false 13 0 []])=fps ts++[n,il]:=by rw[P5,B1,E4,E3,E4];rfl
 have no:∀b,H b=none->b∉fps ts:=fun b e q=>by
  obtain⟨o,ho⟩:=AtL.ex ts h.at_ b q
  rw[e]at ho;cases ho
 obtain⟨ofl,hofl⟩:=hfl
 refine⟨by rw[J0];exact g1,?_,?_,?_,?_,?_,?_,?_⟩
 ·rw[D0]
  intro t ht
  rcases List.mem_append.mp ht with ht |ht
  ·refine(D0.mp h.at_ t ht).keep t fun b hb o e=>?_
   have hb:b∈fps ts:=T1.mpr ⟨t,ht,hb⟩
   exact k b o (fun q=>hr (by rw[←q];exact hb)) (fun q=>h.nf (by rw[←q];exact hb)) (fun q=>h.nb (by rw[←q];exact hb)) e
  ·rw[List.mem_singleton]at ht
   subst ht
   exact J5.mpr ⟨g2,g3,by unfold AtL;trivial⟩
 ·rw[e1,List.nodup_append]
  refine⟨h.nd,List.nodup_cons.mpr ⟨by simpa using g6,by simp⟩,fun a ha b hb q=>?_⟩
  simp only[List.mem_cons,List.not_mem_nil,or_false]at hb
  rcases hb with rfl |rfl
  ·exact no _ g4 (by rw[←q];exact ha)
  ·exact no _ g5 (by rw[←q];exact ha)
 ·rw[List.reverse_append]
  refine .cons ?_ h.op
  show er _=_
  rw[T8]
  rfl
 ·rw[e1]
  intro b hb
  rcases List.mem_append.mp hb with hb |hb
  ·exact h.h0 b hb
  simp only[List.mem_cons,List.not_mem_nil,or_false]at hb
  rcases hb with rfl |rfl
  ·exact hs.free g4
  ·exact hs.free g5
 ·rw[e1]
  intro hb
  rcases List.mem_append.mp hb with hb |hb
  ·exact h.nb hb
  simp only[List.mem_cons,List.not_mem_nil,or_false]at hb
  have:=h.l
  rcases hb with q |q
  ·rw[q,g4]at this;cases this
  ·rw[q,g5]at this;cases this
 ·rw[e1]
  intro hb
  rcases List.mem_append.mp hb with hb |hb
  ·exact h.nf hb
  simp only[List.mem_cons,List.not_mem_nil,or_false]at hb
  rcases hb with q |q
  ·rw[q,g4]at hofl;cases hofl
  ·rw[q,g5]at hofl;cases hofl
 ·obtain⟨t0,tr,e,q⟩:=h.pg
  exact⟨t0,tr++[.mk n il (.n x) i i false 13 0 []],by rw[e];rfl,q⟩
theorem NDs.close {CN r:Addr}{H0 H H':Hp}{R:RR}{ts:List LT}{u t t':LT}{opn:List Op}{o p:Op}{n:Nd}(h:NDs CN H0 H R (ts++[u,t]) (o::p::opn))(hs:Same H0 H)(hfl:∃o,H R.fl=some o)(E:A23 CN R.bl H H' ts u t t' n):NDs CN H0 H' R (ts++[u.addC t']) (⟨p.k,p.i,p.c++[n]⟩::opn):=by
 have hop:=h.op
 rw[List.reverse_append]at hop
 have hop:Paired BH7 (t::u::ts.reverse) (o::p::opn):=hop
 have nn:∀{b:Addr},(∃o,H b=some o)->b∉fps (ts++[u,t])->b∉fps (ts++[u.addC t']):=fun {b} hb h1 h2=>by
  obtain⟨o,ho⟩:=hb
  rcases E.sub b h2 with q |q
  ·exact h1 q
  ·rw[q]at ho;cases ho
 refine⟨E.l,E.at_,E.nd,?_,?_,nn ⟨_,h.l⟩ h.nb,nn hfl h.nf,?_⟩
 ·cases hop with
  |cons h1 h2=>
   cases h2 with
   |cons h2 h3=>
    rw[List.reverse_append]
    refine .cons ?_ h3
    show er (u.addC t')=_
    have h2:er u=.mk p.k p.i p.i false 13 0 p.c:=h2
    rw[BO6,h2,E.er]
    rfl
 ·intro b hb
  rcases E.sub b hb with q |q
  ·exact h.h0 b q
  ·exact hs.free q
 ·obtain⟨t0,tr,e,q⟩:=h.pg
  cases ts with
  |nil=>
   injection e with e1 e2
   refine⟨_,[],rfl,?_⟩
   rw[BX9,e1]
   exact q
  |cons x r=>
   injection e with e1 e2
   exact⟨x,r++[u.addC t'],rfl,by rw[e1];exact q⟩
end Rk
namespace Rk
open PySem PySem.Spec PyProof.Rows L2 Tk Rd
theorem A25 {y z:Sy}(hy:y∈G6)(hz:z∈G6):decide (V.str (B6 y)=V.str (B6 z))=decide (y=z):=by
 rw[←A22 y hy z hz]
 exact decide_eq_decide.mpr (by simp)
theorem AS1 (f g:Fm):decide (V.str (Aq1 f)=V.str (Aq1 g))=decide (f=g):=by cases f<;>cases g<;>decide+kernel
noncomputable def A27 (K:PySem.W.Frag)(CR CF CN:Addr):Sp:=fun vs H Q _=>∃(r:Addr) (R:RR) (H0:Hp) (cy:Nat->Sy) (N:Nat) (g:Fr) (gs:List Fr) (i:Nat) (opn:List Op),vs=[.ref r]/\CS K H0 r R cy N/\MC CF CR CN H0 H r R (g::gs) i opn/\Fine (g::gs) opn/\Fit N opn/\
 ((∃c,step cy N g gs i opn=.go c/\∀H',MC CF CR CN H0 H' r R c.frs c.pos c.opn->Q .non H')∨(∃k,step cy N g gs i opn=.bad k/\∀H',RD CR H' r R (i:Nat) (k:Nat)->Same H0 H'->Q .non H'))
theorem Ap7 {cy:Nat->Sy}{N:Nat}{g:Fr}{gs:List Fr}{i:Nat}{opn:List Op}(h:step cy N g gs i opn≠.stuck):i<=N:=by
 by_cases q:N<i
 ·exact(h (by unfold Rd.step;rw[if_pos q])).elim
 ·omega
theorem BV6 {α:Type}(l:List α):l=[]∨∃l' x,l=l'++[x]:=by
 rcases List.eq_nil_or_concat l with h |⟨a,b,h⟩
 ·exact .inl h
 ·exact .inr ⟨a,b,by rw[h,List.concat_eq_append]⟩
section
variable {P:Program} {w:World} {K:PySem.W.Frag} {mg:Str->Option Value} {base:Heap}
theorem Ad7:B8 ["reading","frame","token"] ["reading"] (A7 Av7):=⟨rfl,rfl,rfl,by decide+kernel,rfl,by decide+kernel,by decide+kernel⟩
theorem BC8 {f CR CF CN:Addr}{fd:FuncData}(F:Fun K "step" "step" Av7 f fd)(Z:RdF P w K mg CR CF CN):D3 P w K mg base CX0 8 f fd ["reading"] (A27 K CR CF CN):=by
 have X:=Z.X
 obtain⟨fI,dI,O⟩:=Z.O
 obtain⟨fC,dC,NC⟩:=Z.can
 obtain⟨fE,dE,NE⟩:=Z.enn
 obtain⟨fN,dN,NN⟩:=Z.fin
 obtain⟨fP,dP,P1⟩:=Z.one
 obtain⟨fO,dO,R1⟩:=Z.onc
 have GC:D3 P w K mg base CX0 1 fC dC ["reading","symbol","token"] (BC2 K CR):=A43 NC.F X
 have GO:D3 P w K mg base CX0 5 fO dO ["reading","frame","token"] (A37 K CR CF CN):=BE0 R1.F Z
 have GP:D3 P w K mg base CX0 3 fP dP ["reading","frame"] (AI4 CR CF):=AZ8 P1.F X O
 have GE:D3 P w K mg base CX0 7 fE dE ["reading"] (BJ7 CR CN):=BJ8 NE.F X Z.Y Z.T Z.W NN
 refine F.ok Ad7 (fun vs H Q E h=>?_) (fun cdv A outer s H vs Q E hr h=>?_)
 ·obtain⟨r,R,H0,cy,N,g,gs,i,opn,rfl,_⟩:=h
  rfl
 ·obtain⟨r,R,H0,cy,N,g,gs,i,opn,rfl,S0,M,hFi,hFt,h⟩:=h
  have hr5:Room 5 _:=hr.mono (by decide)
  have hr3:Room 3 _:=hr.mono (by decide)
  have hr2:Room 2 _:=hr.mono (by decide)
  have hr1:Room 1 _:=hr.mono (by decide)
  refine⟨_,A2 (C8 (i:=1) Ad7.nd rfl (Or.inl rfl) (z9 PySem.F.plainAttrs_list PySem.F.slot_list_pop PySem.F.type_list_pop AB8 (A8 (pv 0) rfl)))
   (A2 (C8 (i:=2) Ad7.nd rfl (Or.inl rfl) (F5 C6 (A8 (pv 0) rfl) (A8 (pv 0) rfl) (fun _ _=>rfl)))
   (A4 (E2 (B5 J3 (A8 (pv 1) rfl) D9 (C2 _)) (A4 (E8 (D5 NE GE hr (A0 (pv 0) A6))))
    (A4 (E2 (B5 J3 (pv 2) D9 (C2 _)) (A4 (C7 (pv 0) (E6 X.nott) rfl))
    (A4 (E2 (B5 J3 (A8 (pv 1) rfl) D9 (C2 _)) (A4 (E8 (D5 R1 GO hr5 (A0 (pv 0) (A0 (pv 1) (A0 (pv 2) A6))))))
     (A4 (E2 (B5 J3 (A8 (pv 1) rfl) D9 (C2 _))
      (A4 (E2 (B5 J3 (pv 2) D9 (C2 _)) (A2 (AM9 (pv 0) A9 r9) (A4 (E8 (D5 P1 GP hr3 (A0 (pv 0) (A0 (pv 1) A6)))))) C4))
      (A4 (E2 (S9 (D5 NC GC hr1 (A0 (pv 0) (A0 (A8 (pv 1) rfl) (A0 (pv 2) A6)))))
       (A4 (E2 (B5 J3 (A8 (pv 1) rfl) D9 (C2 _)) (A4 (E8 (D5 P1 GP hr3 (A0 (pv 0) (A0 (pv 1) A6)))))
        (A4 (E8 (X8 PySem.F.plainAttrs_list PySem.F.slot_list_append PySem.F.type_list_append F8 (A8 (pv 0) rfl) (A0 (A61 O hr2 (A0 D9 (A0 (A8 (pv 1) rfl) (A0 (A8 (pv 1) rfl) (A0 (A8 (pv 1) rfl) A6))))) A6))))))
       C4))))))))))),?_⟩
  have sz:=sizeLine_eq
  have hns:step cy N g gs i opn≠.stuck:=by
   rcases h with ⟨c,e,_⟩ |⟨k,e,_⟩<;>(rw[e];intro q;cases q)
  have hi:=Ap7 hns
  obtain⟨dr,rs,hr0,nf⟩:=id M.rd
  obtain⟨as,hl,hfr⟩:=M.fr
  obtain⟨ts,D⟩:=M.nd
  have hlen:=hFi.len
  have hal:as.length<=20000:=by
   have e1:=Paired.length hfr
   rw[List.length_reverse]at e1
   omega
  have htl:ts.length<=20001:=by
   have e1:=Paired.length D.op
   rw[List.length_reverse]at e1
   omega
  have hvb:=(hFi.vb g (List.mem_cons_self ..)).1
  rcases BV6 as with rfl |⟨as',p,rfl⟩
  ·cases hfr
  rw[List.reverse_append]at hfr
  have hfr:Paired (FM CF H) (p::as'.reverse) (g::gs):=hfr
  cases hfr with
  |cons hF hgs=>
  rw[List.length_append]at hal
  have has:as'.length<=20000:=by omega
  have nrl:r≠R.fl:=D8 hr0 hl (by intro z;cases z)
  have nrb:r≠R.bl:=D8 hr0 D.l (by intro z;cases z)
  have nrt:r∉fps ts:=AtL.notin D.at_ hr0 (Ne.symm X.nr)
  have e1:((as'++[p]).map V.ref)[((as'++[p]).map V.ref).length-1]?=some (V.ref p):=by
   rw[List.map_append]
   simp
  have e2:((as'++[p]).map V.ref).dropLast=as'.map V.ref:=by rw[List.map_append];simp
  -- an end
  have fin:∀(H':Hp) (c:Cf) (as2:List Addr) (ts2:List LT),step cy N g gs i opn=.go c->RD CR H' r R (c.pos:Nat) 0->Same H0 H'->H' R.fl=some (.lst (as2.map V.ref))->Paired (FM CF H') as2.reverse c.frs->NDs CN H0 H' R ts2 c.opn->Q .non H':=by
   intro H' c as2 ts2 hst hR' hs' hl' hf' hn'
   rcases h with ⟨c',e,h⟩ |⟨k,e,_⟩
   ·rw[hst]at e
    cases e
    exact h H' ⟨hR',hs',⟨as2,hl',hf'⟩,⟨ts2,hn'⟩⟩
   ·rw[hst]at e;cases e
  have bad:∀(H':Hp) (k:Nat),step cy N g gs i opn=.bad k->RD CR H' r R (i:Nat) (k:Nat)->Same H0 H'->Q .non H':=by
   intro H' k hst hR' hs'
   rcases h with ⟨c',e,_⟩ |⟨k',e,h⟩
   ·rw[hst]at e;cases e
   ·rw[hst]at e
    cases e
    exact h H' hR' hs'
  refine⟨_,rfl,r,CR,dr,rs,_,rfl,hr0,X.cl,X.nfl,nf.fl,.inl ⟨rfl,_,SqL.of hl⟩,R.fl,_,_,rfl,rfl,hl,e1,?_⟩
  rw[e2]
  have kk1:∀b o,b≠R.fl->H b=some o->(upd H R.fl (.lst (as'.map V.ref))) b=some o:=fun b o nb e=>by rw[A5 nb];exact e
  have hl1:(upd H R.fl (.lst (as'.map V.ref))) R.fl=some (.lst (as'.map V.ref)):=A1
  generalize (upd H R.fl (.lst (as'.map V.ref)))=H1 at kk1 hl1 ⊢
  have hR1:RD CR H1 r R (i:Nat) 0:=M.rd.keep fun o e=>kk1 _ _ nrl e
  have hF1:=hF.psh kk1 hl
  have hgs1:=FMs.psh hgs kk1 hl
  have S1:Same H0 H1:=fun b o e=>kk1 _ _ (fun q=>by rw[q,S0.nf]at e;cases e) (M.bs _ _ e)
  have D1:NDs CN H0 H1 R ts opn:=D.keep (CR:=CR) nrt (Ne.symm nrb) S0.ne fun b o _ n e=>kk1 b o n e
  have hW1:WY K H1 R.d:=S0.wy.same S1
  have hr1':=kk1 _ _ nrl hr0
  have hS1:SyAt H1 R.sl cy N:=S0.sy.keep fun o e=>S1 _ _ e
  obtain⟨xs,hxs,hxi⟩:=SyAt.at hS1 hi
  obtain⟨nr,hnr,dx,fs,hp1,k1,k2,k3,k4⟩:=id hF1
  refine⟨_,rfl,r,CR,dr,rs,_,rfl,hr1',X.cl,X.nsl,nf.sl,_,rfl,r,CR,dr,rs,_,rfl,hr1',X.cl,X.na,nf.a,R.sl,_,_,_,rfl,rfl,SqL.of hxs,D6 hxi,?_⟩
  have hcur:=S0.cy i
  have q0:decide (V.str (B6 (cy i))=V.str "nothing")=decide (cy i=.nothing):=A25 (z:=.nothing) hcur (by decide+kernel)
  have q1:decide (V.str (Aq1 g.fm)=V.str "once")=decide (g.fm=.once):=AS1 g.fm .once
  have q2:decide (V.str (Aq1 g.fm)=V.str "more")=decide (g.fm=.more):=AS1 g.fm .more
  have q3:decide (V.str (Aq1 g.fm)=V.str "many")=decide (g.fm=.many):=AS1 g.fm .many
  have q5:decide (V.str (Aq1 g.fm)=V.str "end")=decide (g.fm=.fin):=AS1 g.fm .fin
  have q4:decide (V.str (B6 (cy i))=V.str ",")=decide (cy i=.sign 25):=A25 (z:=.sign 25) hcur (by decide+kernel)
  have hst0:=Eq.refl (Rd.step cy N g gs i opn)
  conv at hst0=>
   rhs
   unfold Rd.step
   rw[if_neg (Nat.not_lt.mpr hi)]
  have nrt1:r∉fps ts:=nrt
  refine⟨_,rfl,p,CF,dx,fs,_,rfl,hp1,O.cl,O.n1,k1,rfl,_,rfl,?_⟩
  rw[q5]
  refine G7 (fun e=>?_) (fun e=>?_)
  ·-- the end of a node
   have hm:g.fm=.fin:=of_decide_eq_true e
   rw[if_pos hm]at hst0
   have hop:=D1.op
   cases opn with
   |nil=>exact(hns hst0).elim
   |cons o op1=>
   cases op1 with
   |nil=>exact(hns hst0).elim
   |cons p' opr=>
   have hst1:step cy N g gs i (o::p'::opr)=match Rd.fin cy N o i with
    |some n=>if p'.c.length<=N then .go ⟨gs,i,⟨p'.k,p'.i,p'.c++[n]⟩::opr⟩else .stuck
    |none=>.stuck:=hst0
   cases hn:Rd.fin cy N o i with
   |none=>rw[hn]at hst1;exact(hns hst1).elim
   |some n=>
   rw[hn]at hst1
   have hst1:step cy N g gs i (o::p'::opr)=if p'.c.length<=N then .go ⟨gs,i,⟨p'.k,p'.i,p'.c++[n]⟩::opr⟩else .stuck:=hst1
   by_cases hpl:p'.c.length<=N
   ·rw[if_pos hpl]at hst1
    -- the two last nodes
    obtain⟨ts',u,t,rfl⟩:∃ts' u t,ts=ts'++[u,t]:=by
     have hl2:=Paired.length hop
     rw[List.length_reverse]at hl2
     simp only[List.length_cons]at hl2
     obtain⟨t1,t,rfl,h1⟩:=Ay3 hl2
     obtain⟨t2,u,rfl,h2⟩:=Ay3 h1
     exact⟨t2,u,t,by simp⟩
    rw[List.reverse_append]at hop
    have hop:Paired BH7 (t::u::ts'.reverse) (o::p'::opr):=hop
    cases hop with
    |cons ho hop=>
    cases hop with
    |cons hpp hop=>
    have ho:er t=.mk o.k o.i o.i false 13 0 o.c:=ho
    have hpp:er u=.mk p'.k p'.i p'.i false 13 0 p'.c:=hpp
    have ek:t.i=o.i:=by have:=(Au0 t).2.1;rw[ho]at this;exact this.symm
    have ecc:∀{t:LT} {o:Op},er t=.mk o.k o.i o.i false 13 0 o.c->t.c.map er=o.c:=by
     intro t o e
     obtain⟨a,il,k,i,j,p,s,l,c⟩:=t
     rw[T8]at e
     injection e
    have ec:=ecc ho
    have ecu:=ecc hpp
    have hfo:=hFt o (List.mem_cons_self ..)
    have hfp:=hFt p' (List.mem_cons_of_mem _ (List.mem_cons_self ..))
    have lc:t.c.length<=100001:=by have:=congrArg List.length ec;rw[List.length_map]at this;have:=S0.N;omega
    have lu:u.c.length<=100001:=by have:=congrArg List.length ecu;rw[List.length_map]at this;have:=S0.N;omega
    have nsl:R.sl∉fps (ts'++[u,t]):=fun q=>by
     obtain⟨syms,z,_⟩:=S0.sy
     rw[D1.h0 _ q]at z;cases z
    have slb:R.sl≠R.bl:=fun q=>by
     obtain⟨syms,z,_⟩:=S0.sy
     rw[q,S0.nb]at z;cases z
    refine⟨_,rfl,r,R,i,0,cy,N,ts',u,t,o.k,n,rfl,hR1,hS1,S0.cy,D1.l,D1.at_,D1.nd,nsl,D1.nb,slb,X.nr,?_,?_,lc,lu,?_,fun H' t' EO=>?_⟩
    ·rw[ec,ek];exact ho
    ·rw[ek];exact hfo.2
    ·rw[ec,ek];exact hn
    refine fin H' _ as' _ hst1 (hR1.keep fun o e=>EO.kp _ _ nrb nrt e) (fun b o' e=>EO.kp b o' (fun q=>by rw[q,S0.nb]at e;cases e) (fun q=>by rw[D1.h0 b q]at e;cases e) (S1 _ _ e)) (EO.kp _ _ S0.ne D1.nf hl1) (FMs.keep hgs1 fun a dx fs e=>EO.kp _ _ (D8 e D1.l (by intro z;cases z)) (AtL.notin D1.at_ e X.fn) e) (D1.close (r:=r) S1 ⟨_,hl1⟩ EO)
   ·rw[if_neg hpl]at hst1;exact(hns hst1).elim
  have hnf:g.fm≠.fin:=of_decide_eq_false (Bool.eq_false_iff.mpr e)
  rw[if_neg hnf]at hst0
  refine⟨_,rfl,rfl,_,rfl,?_⟩
  rw[q0]
  refine G7 (fun e=>?_) (fun e=>?_)
  ·have e:cy i=.nothing:=of_decide_eq_true e
   rw[if_pos e]at hst0
   refine⟨_,rfl,r,CR,dr,rs,rfl,hr1',X.cl,X.nf,(by have:=nf.n;omega),?_⟩
   exact bad _ 1 hst0 ⟨dr,_,A1,nf.setF 1⟩ fun b o e=>by rw[A5 (fun q=>by rw[q,S0.nr]at e;cases e)];exact S1 _ _ e
  have hnn:cy i≠.nothing:=of_decide_eq_false (Bool.eq_false_iff.mpr e)
  rw[if_neg hnn]at hst0
  obtain⟨gfm,gsb,groom,gdp⟩:=g
  refine⟨_,rfl,p,CF,dx,fs,_,rfl,hp1,O.cl,O.n1,k1,rfl,_,rfl,?_⟩
  rw[q1]
  refine G7 (fun e1=>?_) (fun e1=>?_)
  ·have hm:gfm=.once:=of_decide_eq_true e1
   subst hm
   refine⟨_,rfl,_,rfl,_,rfl,r,R,_,0,p,_,cy i,as',B3 ts,rfl,hR1,hW1,hF1,hvb,hcur,hl1,D1.l,S0.ne,(by omega),(by simp only[B3,List.length_map];omega),fun H' out=>?_⟩
   have sH:Same H0 H':=fun b o e=>out.k b o (fun q=>by rw[q,S0.nr]at e;cases e) (fun q=>by rw[q,S0.nf]at e;cases e) (fun q=>by rw[q,S0.nb]at e;cases e) (S1 _ _ e)
   have fmH:Paired (FM CF H') as'.reverse gs:=FMs.keep hgs1 fun a dx fs e=>out.k _ _ (D8 e hr1' (by intro z;injection z with z;exact X.fr z)) (D8 e hl1 (by intro z;cases z)) (D8 e D1.l (by intro z;cases z)) e
   by_cases hb:faultOf ⟨.once,gsb,groom,gdp⟩ (cy i)=0
   ·cases gsb with
    |t z=>
     have hst1:step cy N ⟨.once,.t z,groom,gdp⟩ gs i opn=.go ⟨gs,i+1,opn⟩:=by rw[hst0];exact if_neg (show ¬(faultOf ⟨.once,.t z,groom,gdp⟩ (cy i)≠0)from fun q=>q hb)
     obtain⟨o1,o2,o3⟩:=out.tok hb z rfl
     refine fin H' _ as' ts hst1 ?_ sH o2 fmH ⟨o3,AtL.keep ts D1.at_ fun b hb o e=>out.k b o (fun q=>nrt (by rw[←q];exact hb)) (fun q=>D1.nf (by rw[←q];exact hb)) (fun q=>D1.nb (by rw[←q];exact hb)) e,D1.nd,D1.op,D1.h0,D1.nb,D1.nf,D1.pg⟩
     have:((i+1:Nat):Int)=(i:Int)+1:=by omega
     show RD CR H' r R ((i+1:Nat):Int) 0
     rw[this]
     exact o1
    |n x=>
     have hst1:step cy N ⟨.once,.n x,groom,gdp⟩ gs i opn=.go ⟨((L7 x (cy i)).getD []).map (fr (dps x gdp))++(R7 x++gs),i,V8 x i++opn⟩:=by rw[hst0];exact if_neg (show ¬(faultOf ⟨.once,.n x,groom,gdp⟩ (cy i)≠0)from fun q=>q hb)
     obtain⟨o1,Hm,hm0,o2⟩:=out.exp hb x rfl
     obtain⟨new,o3,o4⟩:=o2.fr
     have fr':Paired (FM CF H') (as'++new).reverse (((L7 x (cy i)).getD []).map (fr (dps x gdp))++(R7 x++gs)):=by
      rw[List.reverse_append,←List.append_assoc]
      exact Z2 o4 fmH
     rcases o2.nd with ⟨c,o5⟩ |⟨c,n,il,o5,o6,o7,o8,o9,o10⟩
     ·refine fin H' _ (as'++new) ts hst1 o1 sH o3 fr' ?_
      have:V8 x i++opn=opn:=by unfold V8;rw[c];rfl
      show NDs CN H0 H' R ts (V8 x i++opn)
      rw[this]
      exact⟨o5,AtL.keep ts D1.at_ fun b hb o e=>out.k b o (fun q=>nrt (by rw[←q];exact hb)) (fun q=>D1.nf (by rw[←q];exact hb)) (fun q=>D1.nb (by rw[←q];exact hb)) e,D1.nd,D1.op,D1.h0,D1.nb,D1.nf,D1.pg⟩
     ·refine fin H' _ (as'++new) (ts++[.mk n il (.n x) i i false 13 0 []]) hst1 o1 sH o3 fr' ?_
      have:V8 x i++opn=⟨.n x,i,[]⟩::opn:=by unfold V8;rw[c];rfl
      show NDs CN H0 H' R _ (V8 x i++opn)
      rw[this]
      exact D1.push S1 nrt ⟨_,hl1⟩ out.k o5 o6 o7 (hm0 _ o8) (hm0 _ o9) o10
   ·have hst1:step cy N ⟨.once,gsb,groom,gdp⟩ gs i opn=.bad (faultOf ⟨.once,gsb,groom,gdp⟩ (cy i)):=by
     rw[hst0];exact if_pos hb
    exact bad H' _ hst1 (out.bad hb) sH
  have hm1:gfm≠.once:=of_decide_eq_false (Bool.eq_false_iff.mpr e1)
  refine⟨_,rfl,p,CF,dx,fs,_,rfl,hp1,O.cl,O.n1,k1,rfl,_,rfl,?_⟩
  rw[q2]
  refine G7 (fun e2=>?_) (fun e2=>?_)
  ·have hm:gfm=.more:=of_decide_eq_true e2
   subst hm
   refine⟨_,rfl,rfl,_,rfl,?_⟩
   rw[q4]
   refine G7 (fun e3=>?_) (fun e3=>?_)
   ·have hc:cy i=.sign 25:=of_decide_eq_true e3
    have hst1:step cy N ⟨.more,gsb,groom,gdp⟩ gs i opn=.go ⟨⟨.once,gsb,groom,gdp⟩::⟨.more,gsb,groom-1,gdp⟩::gs,i+1,opn⟩:=by rw[hst0];exact if_pos hc
    refine⟨_,rfl,r,CR,dr,rs,_,rfl,hr1',X.cl,X.na,nf.a,_,_,rfl,rfl,dr,rs,hr1',(by have:=nf.n;omega),?_⟩
    have nf2:=nf.setA ((i:Int)+1)
    have hr2:(upd H1 r (.ins CR dr (C1 "at" (.int ((i:Int)+1)) rs))) r=some (.ins CR dr (C1 "at" (.int ((i:Int)+1)) rs)):=A1
    have kp2:∀b o,b≠r->H1 b=some o->(upd H1 r (.ins CR dr (C1 "at" (.int ((i:Int)+1)) rs))) b=some o:=fun b o n e=>by rw[A5 n];exact e
    generalize (upd H1 r (.ins CR dr (C1 "at" (.int ((i:Int)+1)) rs)))=H2 at hr2 kp2 ⊢
    have hF2:FM CF H2 p ⟨.more,gsb,groom,gdp⟩:=hF1.keep fun dx fs e=>kp2 _ _ (D8 e hr1' (by intro z;injection z with z;exact X.fr z)) e
    have hgs2:Paired (FM CF H2) as'.reverse gs:=FMs.keep hgs1 fun a dx fs e=>kp2 _ _ (D8 e hr1' (by intro z;injection z with z;exact X.fr z)) e
    have hl2:=kp2 _ _ (Ne.symm nrl) hl1
    refine⟨_,rfl,_,rfl,r,R,_,0,p,_,as',rfl,⟨dr,_,hr2,nf2⟩,hF2,hl2,(by omega),fun H' a1 a2 hP hA hB=>?_⟩
    refine fin H' _ (as'++[a1,a2]) ts hst1 ?_ (fun b o e=>hP.k b o (fun q=>by rw[q,S0.nf]at e;cases e) (kp2 b o (fun q=>by rw[q,S0.nr]at e;cases e) (S1 _ _ e))) hP.l ?_ (D1.keep (CR:=CR) nrt (Ne.symm nrb) S0.ne fun b o n1 n2 e=>hP.k b o n2 (kp2 b o n1 e))
    ·have:((i+1:Nat):Int)=(i:Int)+1:=by omega
     show RD CR H' r R ((i+1:Nat):Int) 0
     rw[this]
     exact⟨dr,_,hP.k _ _ nrl hr2,nf2⟩
    ·rw[List.reverse_append]
     exact .cons hB (.cons hA (FMs.psh hgs2 hP.k hl2))
   ·have hc:cy i≠.sign 25:=of_decide_eq_false (Bool.eq_false_iff.mpr e3)
    have hst1:step cy N ⟨.more,gsb,groom,gdp⟩ gs i opn=.go ⟨gs,i,opn⟩:=by rw[hst0];exact if_neg hc
    exact fin H1 _ as' ts hst1 hR1 S1 hl1 hgs1 D1
  have hm2:gfm≠.more:=of_decide_eq_false (Bool.eq_false_iff.mpr e2)
  refine⟨_,rfl,_,rfl,p,CF,dx,fs,_,rfl,hp1,O.cl,O.n2,k2,_,rfl,r,R,_,0,gsb,cy i,rfl,hR1,hW1,hvb,hcur,fun H2 s2=>⟨_,rfl,?_⟩⟩
  have hR2:=hR1.keep fun o e=>s2 _ _ e
  have hl2:=s2 _ _ hl1
  have hF2:FM CF H2 p ⟨gfm,gsb,groom,gdp⟩:=hF1.keep fun dx fs e=>s2 _ _ e
  have hgs2:Paired (FM CF H2) as'.reverse gs:=FMs.keep hgs1 fun a dx fs e=>s2 _ _ e
  have hp2:=s2 _ _ hp1
  have D2:NDs CN H0 H2 R ts opn:=D1.keep (CR:=CR) nrt (Ne.symm nrb) S0.ne fun b o _ n e=>s2 b o e
  have S2:=S1.trans s2
  refine G7 (fun e3=>?_) (fun e3=>?_)
  ·refine⟨_,rfl,p,CF,dx,fs,_,rfl,hp2,O.cl,O.n1,k1,rfl,_,rfl,?_⟩
   rw[q3]
   refine G7 (fun e4=>?_) (fun e4=>?_)
   ·have hm:gfm=.many:=of_decide_eq_true e4
    subst hm
    have hst1:step cy N ⟨.many,gsb,groom,gdp⟩ gs i opn=.go ⟨⟨.once,gsb,groom,gdp⟩::⟨.many,gsb,groom-1,gdp⟩::gs,i,opn⟩:=by rw[hst0];exact if_pos e3
    refine⟨_,rfl,_,rfl,r,R,_,0,p,_,as',rfl,hR2,hF2,hl2,(by omega),fun H' a1 a2 hP hA hB=>?_⟩
    refine fin H' _ (as'++[a1,a2]) ts hst1 (hR2.keep fun o e=>hP.k _ _ nrl e) (fun b o e=>hP.k b o (fun q=>by rw[q,S0.nf]at e;cases e) (S2 _ _ e)) hP.l ?_ (D2.keep (CR:=CR) nrt (Ne.symm nrb) S0.ne fun b o n1 n2 e=>hP.k b o n2 e)
    rw[List.reverse_append]
    exact .cons hB (.cons hA (FMs.psh hgs2 hP.k hl2))
   ·have hm:gfm=.maybe:=by
     have hm3:gfm≠.many:=of_decide_eq_false (Bool.eq_false_iff.mpr e4)
     cases gfm with
     |once=>exact(hm1 rfl).elim
     |more=>exact(hm2 rfl).elim
     |many=>exact(hm3 rfl).elim
     |fin=>exact(hnf rfl).elim
     |maybe=>rfl
    subst hm
    have hst1:step cy N ⟨.maybe,gsb,groom,gdp⟩ gs i opn=.go ⟨⟨.once,gsb,groom,gdp⟩::gs,i,opn⟩:=by rw[hst0];exact if_pos e3
    have hr2':=s2 _ _ hr1'
    refine⟨_,rfl,r,CR,dr,rs,_,rfl,hr2',X.cl,X.nfl,nf.fl,.inl ⟨rfl,_,SqL.of hl2⟩,?_⟩
    refine⟨_,rfl,p,CF,dx,fs,_,rfl,hp2,O.cl,O.n2,k2,_,rfl,p,CF,dx,fs,_,rfl,hp2,O.cl,O.n3,k3,_,rfl,p,CF,dx,fs,_,rfl,hp2,O.cl,O.n4,k4,fun a1 dx1 na1 nd1 _=>⟨a1,dx1,_,_,_,_,rfl,A1,fun H3 hF3 kp3=>⟨rfl,?_⟩⟩⟩
    have s3:=Same.made na1 nd1 kp3
    have hl3:=s3 _ _ hl2
    refine⟨R.fl,_,_,rfl,rfl,hl3,(by rw[List.length_map];omega),?_⟩
    have kk:∀b o,b≠R.fl->H2 b=some o->(upd H3 R.fl (.lst (as'.map V.ref++[V.ref a1]))) b=some o:=fun b o nb e=>by rw[A5 nb];exact s3 _ _ e
    refine fin _ _ (as'++[a1]) ts hst1 (hR2.keep fun o e=>kk _ _ nrl e) (fun b o e=>kk b o (fun q=>by rw[q,S0.nf]at e;cases e) (S2 _ _ e)) ?_ ?_ (D2.keep (CR:=CR) nrt (Ne.symm nrb) S0.ne fun b o n1 n2 e=>kk b o n2 e)
    ·rw[A1,List.map_append];rfl
    ·rw[List.reverse_append]
     refine .cons ⟨nr,hnr,?_⟩ (FMs.psh hgs2 kk hl2)
     exact hF3.psh (fun b o nb e=>by rw[A5 nb];exact e) hl3
  ·have hcb:¬B2 gsb (cy i)=true:=e3
   have hst1:step cy N ⟨gfm,gsb,groom,gdp⟩ gs i opn=.go ⟨gs,i,opn⟩:=by
    cases gfm with
    |once=>exact(hm1 rfl).elim
    |more=>exact(hm2 rfl).elim
    |many=>rw[hst0];exact if_neg hcb
    |fin=>exact(hnf rfl).elim
    |maybe=>rw[hst0];exact if_neg hcb
   exact fin H2 _ as' ts hst1 hR2 S2 hl2 hgs2 D2
end
end Rk
namespace Rk
open PySem PySem.Spec PyProof.Rows L2 Tk Rd
noncomputable def SyQ (q:Q4)(y:Sy):Prop:=(q.wh=0/\y=.name)∨(q.wh=1/\y=.number)∨(q.wh=2/\q.wi<26/\y=.kept q.wi)∨(q.wh=3/\q.wi<33/\y=.sign q.wi)∨(q.wh=4/\y=.nothing)
noncomputable def AV4 (C:Addr):Sp:=fun vs H Q _=>∃(a:Addr) (q:Q4) (y:Sy),vs=[.ref a]/\TokAt C H a q.f q.l q.wh q.wi/\SyQ q y/\Q (.str (B6 y)) H
theorem A72 {k:Nat}(h:k<26):(Y9.map V.str)[k]?=some (V.str (B6 (.kept k))):=by
 have all:∀k,k<26->(Y9.map V.str)[k]?=some (V.str (B6 (.kept k))):=by decide+kernel
 exact all k h
theorem BE8 {k:Nat}(h:k<33):(AO6.map V.str)[k]?=some (V.str (B6 (.sign k))):=by
 have all:∀k,k<33->(AO6.map V.str)[k]?=some (V.str (B6 (.sign k))):=by decide+kernel
 exact all k h
section
variable {P:Program} {w:World} {K:PySem.W.Frag} {mg:Str->Option Value} {base:Heap}
theorem Ay8:B8 ["token"] ["token"] (A7 p4):=⟨rfl,rfl,rfl,by decide+kernel,rfl,by decide+kernel,by decide+kernel⟩
theorem Ai4 {f C:Addr}{fd:FuncData}(F:Fun K "symbol_of" "symbol_of" p4 f fd)(X:Ao9 P w K mg C)(hsg:∃a,mg "SIGNS"=some (.ref a)/\∀H,SqT K H a (AO6.map V.str)):D3 P w K mg base CX0 1 f fd ["token"] (AV4 C):=by
 obtain⟨aK,hkw,hkt,hkS⟩:=X.kw
 obtain⟨aS,hsg,hsS⟩:=hsg
 refine F.ok Ay8 (fun vs H Q E h=>?_) (fun cdv A outer s H vs Q E hr h=>?_)
 ·obtain⟨a,q,y,rfl,_⟩:=h
  rfl
 ·obtain⟨a,q,y,rfl,⟨dx,hd⟩,hq,h⟩:=h
  refine⟨_,A2 (E2 (B5 J3 (A8 (pv 0) rfl) (E6 X.name) (C2 _)) (A4 (B7 D9)) C4)
   (A2 (E2 (B5 J3 (A8 (pv 0) rfl) (E6 X.number) (C2 _)) (A4 (B7 D9)) C4)
   (A2 (E2 (B5 J3 (A8 (pv 0) rfl) (E6 X.kept) (C2 _)) (A4 (B7 (F5 t8 (Q7 hkw) (A8 (pv 0) rfl) (fun _ _=>rfl)))) C4)
   (A2 (E2 (B5 J3 (A8 (pv 0) rfl) (E6 X.sign) (C2 _)) (A4 (B7 (F5 t8 (Q7 hsg) (A8 (pv 0) rfl) (fun _ _=>rfl)))) C4)
   (A4 (B7 D9))))),?_⟩
  have dec:∀n:Nat,decide (V.int ((q.wh:Nat):Int)=V.int (n:Int))=decide (q.wh=n):=fun n=>decide_eq_decide.mpr ⟨fun z=>by injection z with z;omega,fun z=>by rw[z]⟩
  have d0:decide (V.int ((q.wh:Nat):Int)=V.int 0)=decide (q.wh=0):=dec 0
  have d1:decide (V.int ((q.wh:Nat):Int)=V.int 1)=decide (q.wh=1):=dec 1
  have d2:decide (V.int ((q.wh:Nat):Int)=V.int 2)=decide (q.wh=2):=dec 2
  have d3:decide (V.int ((q.wh:Nat):Int)=V.int 3)=decide (q.wh=3):=dec 3
  refine⟨_,rfl,a,C,dx,_,_,rfl,hd,X.cl,X.nW,a8 _ _ _ _,rfl,_,rfl,?_⟩
  rw[d0]
  refine G7 (fun c=>?_) (fun c=>?_)
  ·have c:q.wh=0:=of_decide_eq_true c
   rcases hq with ⟨e,rfl⟩ |⟨e,_⟩ |⟨e,_⟩ |⟨e,_⟩ |⟨e,_⟩
   ·exact h
   all_goals omega
  have c0:q.wh≠0:=of_decide_eq_false (Bool.eq_false_iff.mpr c)
  refine⟨_,rfl,a,C,dx,_,_,rfl,hd,X.cl,X.nW,a8 _ _ _ _,rfl,_,rfl,?_⟩
  rw[d1]
  refine G7 (fun c=>?_) (fun c=>?_)
  ·have c:q.wh=1:=of_decide_eq_true c
   rcases hq with ⟨e,_⟩ |⟨e,rfl⟩ |⟨e,_⟩ |⟨e,_⟩ |⟨e,_⟩
   ·omega
   ·exact h
   all_goals omega
  have c1:q.wh≠1:=of_decide_eq_false (Bool.eq_false_iff.mpr c)
  refine⟨_,rfl,a,C,dx,_,_,rfl,hd,X.cl,X.nW,a8 _ _ _ _,rfl,_,rfl,?_⟩
  rw[d2]
  refine G7 (fun c=>?_) (fun c=>?_)
  ·have c:q.wh=2:=of_decide_eq_true c
   rcases hq with ⟨e,_⟩ |⟨e,_⟩ |⟨e,e2,rfl⟩ |⟨e,_⟩ |⟨e,_⟩
   ·omega
   ·omega
   ·exact⟨_,rfl,a,C,dx,_,_,rfl,hd,X.cl,X.nI,AT7 _ _ _ _,aK,_,_,_,rfl,rfl,hkS _,D6 (A72 e2),h⟩
   all_goals omega
  have c2:q.wh≠2:=of_decide_eq_false (Bool.eq_false_iff.mpr c)
  refine⟨_,rfl,a,C,dx,_,_,rfl,hd,X.cl,X.nW,a8 _ _ _ _,rfl,_,rfl,?_⟩
  rw[d3]
  refine G7 (fun c=>?_) (fun c=>?_)
  ·have c:q.wh=3:=of_decide_eq_true c
   rcases hq with ⟨e,_⟩ |⟨e,_⟩ |⟨e,_⟩ |⟨e,e2,rfl⟩ |⟨e,_⟩
   ·omega
   ·omega
   ·omega
   ·exact⟨_,rfl,a,C,dx,_,_,rfl,hd,X.cl,X.nI,AT7 _ _ _ _,aS,_,_,_,rfl,rfl,hsS _,D6 (BE8 e2),h⟩
   ·omega
  have c3:q.wh≠3:=of_decide_eq_false (Bool.eq_false_iff.mpr c)
  rcases hq with ⟨e,_⟩ |⟨e,_⟩ |⟨e,_⟩ |⟨e,_⟩ |⟨e,rfl⟩
  ·omega
  ·omega
  ·omega
  ·omega
  ·exact h
end
structure RdC (K:PySem.W.Frag)(mg:Str->Option Value)(C:Addr):Prop where
 mgC:mg "Reading"=some (.ref C)
 F:∃fI fdI,Mk K C fI/\Fun K "__init__" "Reading.__init__" l9 fI fdI/\Binds K fdI ["self","found"] []
structure BX5 (K:PySem.W.Frag)(CF CR CN:Addr)(H:Hp)(p l:Addr)(ys:List Sy)(H':Hp)(R:RR)(H0:Hp):Prop where
 fo:R.fo=l
 s0:∀b o,b≠p->H b=some o->H0 b=some o
 sy:H0 R.sl=some (.lst ((ys.map B6++(["finish"]:List Str)).map V.str))
 wy:WY K H0 R.d
 np:H0 p=none
 nf:H0 R.fl=none
 nb:H0 R.bl=none
 ne:R.fl≠R.bl
 mc:MC CF CR CN H0 H' p R BS9 0 [op0]
noncomputable def AM8 (K:PySem.W.Frag)(C CR CF CN:Addr):Sp:=fun vs H Q _=>∃(p dx l:Addr) (as:List Addr) (qs:List Q4) (ys:List Sy),vs=[.ref p,.ref l]/\H p=some (.ins CR dx [])/\H l=some (.lst (as.map V.ref))/\Toks C H as qs/\Paired SyQ qs ys/\as.length<=100000/\C≠CR/\
 ∀(H':Hp) (R:RR) (H0:Hp),BX5 K CF CR CN H p l ys H' R H0->Q .non H'
section
variable {P:Program} {w:World} {K:PySem.W.Frag} {mg:Str->Option Value} {base:Heap}
theorem v8:B8 ["self","found","token"] ["self","found"] (A7 l9):=⟨rfl,rfl,rfl,by decide+kernel,rfl,by decide+kernel,by decide+kernel⟩
theorem Aa5 {C CR CF CN fI:Addr}{fdI:FuncData}(F:Fun K "__init__" "Reading.__init__" l9 fI fdI)(Z:RdF P w K mg CR CF CN)(X2:Ao9 P w K mg C)(hsg:∃a,mg "SIGNS"=some (.ref a)/\∀H,SqT K H a (AO6.map V.str))(G:TxG P w K mg gr)(Wy:∃f fd,Fn K mg "ways_by_token" Ac1 [] f fd)
  (U:∃f fd,Fn K mg "full_part" Aa0 ["part"] f fd) (N:∃f fd,Fn K mg "first_tokens" AB2 ["symbol"] f fd) (Sb:∃f fd,Fn K mg "symbol_of" p4 ["token"] f fd):D3 P w K mg base CX0 3 fI fdI ["self","found"] (AM8 K C CR CF CN):=by
 have X:=Z.X
 have Y:=Z.Y
 obtain⟨fF,dF,O⟩:=Z.O
 obtain⟨fN,dN,M,FN,bN⟩:=Y.F
 obtain⟨fW,dW,Wy⟩:=Wy
 obtain⟨fU,dU,U⟩:=U
 obtain⟨fT,dT,N⟩:=N
 obtain⟨fY,dY,Sb⟩:=Sb
 have GY:D3 P w K mg base CX0 1 fY dY ["token"] (AV4 C):=Ai4 Sb.F X2 hsg
 have GW:D3 P w K mg base CX0 2 fW dW [] (A24 K gr):=A70 Wy.F G Au9 BY6 BR5 BR7 U N
 refine F.ok v8 (fun vs H Q E h=>?_) (fun cdv A outer s H vs Q E hr h=>?_)
 ·obtain⟨p,dx,l,as,qs,ys,rfl,_⟩:=h
  rfl
 ·obtain⟨p,dx,l,as,qs,ys,rfl,hp,hl,htk,hyp,hal,ncr,h⟩:=h
  have hr1:Room 1 _:=hr.mono (by decide)
  refine⟨_,A2 (C7 (pv 0) (pv 1) rfl)
   (A2 (C7 (pv 0) (M5 AL8 (Ax0 (own:=[("token",2)]) rfl v8.nd (T3 (pv 1)) (m4 (by kernel_rfl)) (fun _ _ _ _ _=>K9 (i:=2) v8.nd rfl (Or.inl rfl)) (fun _ _ _ _ _=>D7) (fun _ _ _ _ _=>D5 Sb GY hr1 (A0 (pv 2) A6))) (K8 (A0 D9 A6))) rfl)
   (A2 (C7 (pv 0) (Ax8 GW hr (by rfl) Wy.g Wy.F.kp Wy.b .nil AY7) rfl) (A2 (C7 (pv 0) A9 rfl) (A2 (C7 (pv 0) A9 rfl)
   (A2 (C7 (pv 0) (BX3 Y M FN bN hr (A0 D9 (A0 A9 A6))) rfl)
   (A2 (C7 (pv 0) (K8 (A0 (A8 (pv 0) rfl) A6)) rfl)
   (A4 (C7 (pv 0) (K8 (A0 (A61 O hr (A0 D9 (A0 D9 (A0 A9 (A0 A9 A6))))) (A0 (A61 O hr (A0 D9 (A0 D9 (A0 (E6 X.most) (A0 A9 A6))))) A6))) rfl)))))))),?_⟩
  have sz:=sizeLine_eq
  have hyl:ys.length=as.length:=by rw[htk.1,Paired.length hyp]
  have nlp:l≠p:=D8 hl hp (by intro z;cases z)
  refine⟨_,rfl,_,rfl,p,CR,dx,[],rfl,hp,X.cl,X.nfo,(by show 0<1000;decide),?_⟩
  -- the symbols
  have kA:∀b o,b≠p->H b=some o->(upd H p (.ins CR dx (C1 "found" (.ref l) []))) b=some o:=fun b o n e=>by rw[A5 n];exact e
  have pA:(upd H p (.ins CR dx (C1 "found" (.ref l) []))) p=some (.ins CR dx (C1 "found" (.ref l) [])):=A1
  generalize (upd H p (.ins CR dx (C1 "found" (.ref l) [])))=HA at kA pA ⊢
  have hlA:=kA _ _ nlp hl
  have htkA:Toks C HA as qs:=htk.keep fun b dx fs e=>kA _ _ (D8 e hp (by intro z;injection z with z;exact ncr z)) e
  refine⟨_,rfl,l,rfl,⟨_,SqL.of hlA⟩,fun D hD=>Ak9 (K:=K) (a:=l) (xs:=as.map V.ref) (fun i H'=>Same HA H'/\H' D=some (.lst (((ys.take i).map B6).map V.str)))
   ⟨B9 hD,A1⟩ (fun i H' _ x=>SqL.of (x.1 _ _ hlA)) ?_ ?_⟩
  ·rintro i y H' hi ⟨sm,hD1⟩
   obtain⟨b,hb,rfl⟩:=u9 hi
   obtain⟨q,hq,htb⟩:=htkA.2 i b hb
   obtain⟨y,hy,hsy⟩:=Paired.get hyp hq
   refine⟨rfl,_,rfl,b,q,y,rfl,htb.same sm,hsy,_,hD1,?_,?_,?_⟩
   ·have:i<as.length:=(List.getElem?_eq_some_iff.mp hb).1
    simp only[List.length_map,List.length_take]
    omega
   ·exact fun b' o e=>by rw[A5 (B0 e hD)];exact sm _ _ e
   ·rw[A1,J6 hy,List.map_append,List.map_append];rfl
  rintro HB ⟨sB,hDB⟩
  rw[List.length_map,←hyl,List.take_length]at hDB
  refine⟨(by show 1<=sizeLine;omega),fun f1 hf1=>?_⟩
  have sC:Same HB (upd HB f1 (.lst [V.str "finish"])):=B9 hf1
  have fC:(upd HB f1 (.lst [V.str "finish"])) f1=some (.lst [V.str "finish"]):=A1
  generalize (upd HB f1 (.lst [V.str "finish"]))=HC at sC fC ⊢
  refine⟨D,f1,_,_,rfl,rfl,sC _ _ hDB,fC,(by simp only[List.length_map,List.length_cons,List.length_nil];omega),fun sl hsl=>?_⟩
  have sD:Same HC (upd HC sl (.lst ((ys.map B6).map V.str++[V.str "finish"]))):=B9 hsl
  have slD:(upd HC sl (.lst ((ys.map B6).map V.str++[V.str "finish"]))) sl=some (.lst ((ys.map B6++(["finish"]:List Str)).map V.str)):=by rw[A1,List.map_append];rfl
  generalize (upd HC sl (.lst ((ys.map B6).map V.str++[V.str "finish"])))=HD at sD slD ⊢
  have sAD:Same HA HD:=(sB.trans sC).trans sD
  have pD:=sAD _ _ pA
  have nsp:sl≠p:=D8 slD pD (by intro z;cases z)
  refine⟨_,rfl,p,CR,dx,_,rfl,pD,X.cl,X.nsl,(by show 1<1000;decide),?_⟩
  -- the L7
  have kE:∀b o,b≠p->HD b=some o->(upd HD p (.ins CR dx (C1 "symbols" (.ref sl) (C1 "found" (.ref l) [])))) b=some o:=fun b o n e=>by rw[A5 n];exact e
  have pE:(upd HD p (.ins CR dx (C1 "symbols" (.ref sl) (C1 "found" (.ref l) [])))) p=some (.ins CR dx (C1 "symbols" (.ref sl) (C1 "found" (.ref l) []))):=A1
  generalize (upd HD p (.ins CR dx (C1 "symbols" (.ref sl) (C1 "found" (.ref l) []))))=HE at kE pE ⊢
  refine⟨rfl,fun HF d kvs sF nd hd hw=>?_⟩
  rw[Ak6]at hw
  have pF:=sF _ _ pE
  have ndp:d≠p:=D8 hd pF (by intro z;cases z)
  refine⟨_,rfl,p,CR,dx,_,rfl,pF,X.cl,X.nd,(by show 2<1000;decide),?_⟩
  refine⟨_,rfl,p,CR,dx,_,rfl,A1,X.cl,X.na,(by show 3<1000;decide),?_⟩
  rw[K0]
  refine⟨_,rfl,p,CR,dx,_,rfl,A1,X.cl,X.nf,(by show 4<1000;decide),?_⟩
  rw[K0]
  -- the constant heap
  have kG:∀b o,b≠p->HF b=some o->(upd HF p (.ins CR dx (C1 "fault" (.int 0) (C1 "at" (.int 0) (C1 "ways" (.ref d) (C1 "symbols" (.ref sl) (C1 "found" (.ref l) []))))))) b=some o:=fun b o n e=>by rw[A5 n];exact e
  have pG:(upd HF p (.ins CR dx (C1 "fault" (.int 0) (C1 "at" (.int 0) (C1 "ways" (.ref d) (C1 "symbols" (.ref sl) (C1 "found" (.ref l) []))))))) p=some (.ins CR dx (C1 "fault" (.int 0) (C1 "at" (.int 0) (C1 "ways" (.ref d) (C1 "symbols" (.ref sl) (C1 "found" (.ref l) [])))))):=A1
  have nG:∀b,(upd HF p (.ins CR dx (C1 "fault" (.int 0) (C1 "at" (.int 0) (C1 "ways" (.ref d) (C1 "symbols" (.ref sl) (C1 "found" (.ref l) []))))))) b=none->HF b=none:=fun b e=>by
   have n:b≠p:=fun q=>by rw[q,A1]at e;cases e
   rw[A5 n]at e
   exact e
  have lg:(C1 "fault" (.int 0) (C1 "at" (.int 0) (C1 "ways" (.ref d) (C1 "symbols" (.ref sl) (C1 "found" (.ref l) []))))).length=5:=rfl
  generalize (upd HF p (.ins CR dx (C1 "fault" (.int 0) (C1 "at" (.int 0) (C1 "ways" (.ref d) (C1 "symbols" (.ref sl) (C1 "found" (.ref l) [])))))))=HG at kG pG nG ⊢
  refine fun n dxn na nd' _=>⟨n,dxn,_,_,rfl,A1,fun HH pil hN hpil npil kp=>⟨rfl,?_⟩⟩
  have sH:Same HG HH:=Same.made na nd' kp
  have nni:n≠pil:=fun q=>by rw[←q,A1]at npil;cases npil
  have ild:pil≠dxn:=fun q=>by rw[q,A5 (fun z=>nni (by rw[q];exact z.symm))]at npil;rw[A1]at npil;cases npil
  have gpil:HG pil=none:=by rw[A5 (Ne.symm nni),A5 ild]at npil;exact npil
  have pH:=sH _ _ pG
  have npn:p≠n:=B0 pG na
  have npi:p≠pil:=B0 pG gpil
  refine⟨_,rfl,p,CR,dx,_,rfl,pH,X.cl,X.npg,(by show 5<1000;decide),?_⟩
  have kI:∀b o,b≠p->HH b=some o->(upd HH p (.ins CR dx (C1 "program" (.ref n) (C1 "fault" (.int 0) (C1 "at" (.int 0) (C1 "ways" (.ref d) (C1 "symbols" (.ref sl) (C1 "found" (.ref l) [])))))))) b=some o:=fun b o n e=>by rw[A5 n];exact e
  have pI:(upd HH p (.ins CR dx (C1 "program" (.ref n) (C1 "fault" (.int 0) (C1 "at" (.int 0) (C1 "ways" (.ref d) (C1 "symbols" (.ref sl) (C1 "found" (.ref l) [])))))))) p=some (.ins CR dx (C1 "program" (.ref n) (C1 "fault" (.int 0) (C1 "at" (.int 0) (C1 "ways" (.ref d) (C1 "symbols" (.ref sl) (C1 "found" (.ref l) []))))))):=A1
  generalize (upd HH p (.ins CR dx (C1 "program" (.ref n) (C1 "fault" (.int 0) (C1 "at" (.int 0) (C1 "ways" (.ref d) (C1 "symbols" (.ref sl) (C1 "found" (.ref l) []))))))))=HI at kI pI ⊢
  have nI:=hN.keep fun o e=>kI _ _ (Ne.symm npn) e
  have iI:=kI _ _ (Ne.symm npi) hpil
  have sGI:∀b o,b≠p->HG b=some o->HI b=some o:=fun b o n e=>kI b o n (sH _ _ e)
  refine⟨_,rfl,p,CR,dx,_,_,rfl,pI,X.cl,X.npg,K7,(by show 1<=sizeLine;omega),fun bl hbl=>?_⟩
  have sJ:Same HI (upd HI bl (.lst [V.ref n])):=B9 hbl
  have bJ:(upd HI bl (.lst [V.ref n])) bl=some (.lst [V.ref n]):=A1
  generalize (upd HI bl (.lst [V.ref n]))=HJ at sJ bJ ⊢
  have npb:p≠bl:=B0 pI hbl
  refine⟨_,rfl,p,CR,dx,_,rfl,sJ _ _ pI,X.cl,X.nbl,(by show 6<1000;decide),?_⟩
  have kK:∀b o,b≠p->HJ b=some o->(upd HJ p (.ins CR dx (C1 "begun" (.ref bl) (C1 "program" (.ref n) (C1 "fault" (.int 0) (C1 "at" (.int 0) (C1 "ways" (.ref d) (C1 "symbols" (.ref sl) (C1 "found" (.ref l) []))))))))) b=some o:=fun b o n e=>by rw[A5 n];exact e
  have pK:(upd HJ p (.ins CR dx (C1 "begun" (.ref bl) (C1 "program" (.ref n) (C1 "fault" (.int 0) (C1 "at" (.int 0) (C1 "ways" (.ref d) (C1 "symbols" (.ref sl) (C1 "found" (.ref l) []))))))))) p=some (.ins CR dx (C1 "begun" (.ref bl) (C1 "program" (.ref n) (C1 "fault" (.int 0) (C1 "at" (.int 0) (C1 "ways" (.ref d) (C1 "symbols" (.ref sl) (C1 "found" (.ref l) [])))))))):=A1
  generalize (upd HJ p (.ins CR dx (C1 "begun" (.ref bl) (C1 "program" (.ref n) (C1 "fault" (.int 0) (C1 "at" (.int 0) (C1 "ways" (.ref d) (C1 "symbols" (.ref sl) (C1 "found" (.ref l) [])))))))))=HK at kK pK ⊢
  have bK:=kK _ _ (Ne.symm npb) bJ
  refine fun a1 dx1 na1 nd1 _=>⟨a1,dx1,_,_,_,_,rfl,A1,fun HL hF1 kp1=>⟨rfl,?_⟩⟩
  have sL:Same HK HL:=Same.made na1 nd1 kp1
  refine fun a2 dx2 na2 nd2 _=>⟨a2,dx2,_,_,_,_,rfl,A1,fun HM hF2 kp2=>⟨rfl,?_⟩⟩
  have sM:Same HL HM:=Same.made na2 nd2 kp2
  refine⟨(by show 2<=sizeLine;omega),fun fl hfl=>?_⟩
  have sKM:=sL.trans sM
  have pM:=sKM _ _ pK
  have npf:p≠fl:=B0 pM hfl
  have sN:Same HM (upd HM fl (.lst [V.ref a1,V.ref a2])):=B9 hfl
  have fN:(upd HM fl (.lst [V.ref a1,V.ref a2])) fl=some (.lst [V.ref a1,V.ref a2]):=A1
  generalize (upd HM fl (.lst [V.ref a1,V.ref a2]))=HN at sN fN ⊢
  refine⟨_,rfl,p,CR,dx,_,rfl,sN _ _ pM,X.cl,X.nfl,(by show 7<1000;decide),?_⟩
  have nf:RFl (C1 "frames" (.ref fl) (C1 "begun" (.ref bl) (C1 "program" (.ref n) (C1 "fault" (.int 0) (C1 "at" (.int 0) (C1 "ways" (.ref d) (C1 "symbols" (.ref sl) (C1 "found" (.ref l) [])))))))) ⟨l,sl,d,n,bl,fl⟩ 0 0:=by
   refine⟨by show 8<=100;decide,?_,?_,?_,?_,?_,?_,?_,K7⟩
   ·exact B4 (by decide) (B4 (by decide) (B4 (by decide) (B4 (by decide) (B4 (by decide) (B4 (by decide) (B4 (by decide) K7))))))
   ·exact B4 (by decide) (B4 (by decide) (B4 (by decide) (B4 (by decide) (B4 (by decide) (B4 (by decide) K7)))))
   ·exact B4 (by decide) (B4 (by decide) (B4 (by decide) (B4 (by decide) (B4 (by decide) K7))))
   ·exact B4 (by decide) (B4 (by decide) (B4 (by decide) (B4 (by decide) K7)))
   ·exact B4 (by decide) (B4 (by decide) (B4 (by decide) K7))
   ·exact B4 (by decide) (B4 (by decide) K7)
   ·exact B4 (by decide) K7
  have kO:∀b o,b≠p->HN b=some o->(upd HN p (.ins CR dx (C1 "frames" (.ref fl) (C1 "begun" (.ref bl) (C1 "program" (.ref n) (C1 "fault" (.int 0) (C1 "at" (.int 0) (C1 "ways" (.ref d) (C1 "symbols" (.ref sl) (C1 "found" (.ref l) [])))))))))) b=some o:=fun b o n e=>by rw[A5 n];exact e
  have pO:(upd HN p (.ins CR dx (C1 "frames" (.ref fl) (C1 "begun" (.ref bl) (C1 "program" (.ref n) (C1 "fault" (.int 0) (C1 "at" (.int 0) (C1 "ways" (.ref d) (C1 "symbols" (.ref sl) (C1 "found" (.ref l) [])))))))))) p=some (.ins CR dx (C1 "frames" (.ref fl) (C1 "begun" (.ref bl) (C1 "program" (.ref n) (C1 "fault" (.int 0) (C1 "at" (.int 0) (C1 "ways" (.ref d) (C1 "symbols" (.ref sl) (C1 "found" (.ref l) []))))))))):=A1
  generalize (upd HN p (.ins CR dx (C1 "frames" (.ref fl) (C1 "begun" (.ref bl) (C1 "program" (.ref n) (C1 "fault" (.int 0) (C1 "at" (.int 0) (C1 "ways" (.ref d) (C1 "symbols" (.ref sl) (C1 "found" (.ref l) []))))))))))=HO_ at kO pO ⊢
  have sIO:∀b o,b≠p->HI b=some o->HO_ b=some o:=fun b o n e=>kO b o n (sN _ _ (sKM _ _ (kK b o n (sJ _ _ e))))
  have sGO:∀b o,b≠p->HG b=some o->HO_ b=some o:=fun b o n e=>sIO b o n (sGI b o n e)
  have sKO:∀b o,b≠p->HK b=some o->HO_ b=some o:=fun b o n e=>kO b o n (sN _ _ (sKM _ _ e))
  have hd0:HG d=some (.dT kvs):=kG _ _ ndp hd
  have h0:∀b o,b≠p->HG b=some o->(fun b=>if b=p then none else HG b) b=some o:=fun b o n e=>by show(if b=p then none else HG b)=some o;rw[if_neg n];exact e
  have z0:∀b,HG b=none->(fun b=>if b=p then none else HG b) b=none:=fun b e=>by
   show(if b=p then none else HG b)=none
   by_cases q:b=p
   ·rw[if_pos q]
   ·rw[if_neg q];exact e
  have up:∀b,HK b=none->HG b=none:=fun b e=>by
   cases q:HG b with
   |none=>rfl
   |some o=>
    by_cases z:b=p
    ·rw[z,pK]at e;cases e
    ·rw[kK b o z (sJ _ _ (sGI b o z q))]at e;cases e
  have nbl:HG bl=none:=by
   cases q:HG bl with
   |none=>rfl
   |some o=>rw[sGI bl o (Ne.symm npb) q]at hbl;cases hbl
  have nfl:HG fl=none:=up fl (sKM.free hfl)
  have nfb:fl≠bl:=fun q=>by rw[q,sKM _ _ bK]at hfl;cases hfl
  have nO:=nI.keep fun o e=>sIO _ _ (Ne.symm npn) e
  have iO:=sIO _ _ (Ne.symm npi) iI
  have nbn:bl≠n:=fun q=>by rw[q]at hbl;obtain⟨_,_,e,_⟩:=nI;rw[hbl]at e;cases e
  have nbi:bl≠pil:=fun q=>by rw[q,iI]at hbl;cases hbl
  have gone:∀b,(∃o,HI b=some o)->b≠p->fl≠b:=fun b ⟨o,e⟩ n q=>by
   have:=sKM _ _ (kK b o n (sJ _ _ e))
   rw[←q,hfl]at this;cases this
  have eF:fps [LT.mk n pil .PROGRAM 0 0 false 13 0 []]=[n,pil]:=by rw[B1,E4,E3,E4];rfl
  refine h HO_ ⟨l,sl,d,n,bl,fl⟩ (fun b=>if b=p then none else HG b) ⟨rfl,fun b o nb e=>?_,?_,?_,if_pos rfl,z0 _ nfl,z0 _ nbl,nfb,⟨⟨dx,_,pO,nf⟩,fun b o e=>?_,⟨[a1,a2],kO _ _ (Ne.symm npf) fN,?_⟩,⟨[.mk n pil .PROGRAM 0 0 false 13 0 []],?_⟩⟩⟩
  ·exact h0 b o nb (kG b o nb (sF _ _ (kE b o nb (sAD _ _ (kA b o nb e)))))
  ·exact h0 _ _ nsp (kG _ _ nsp (sF _ _ (kE _ _ nsp slD)))
  ·refine⟨kvs,h0 _ _ ndp hd0,hw.keep fun a ys q=>?_⟩
   rcases q with (q |⟨o',q⟩) |q
   ·have z:=D8 q pF (by intro z;cases z);exact .inl (.inl (h0 _ _ z (kG _ _ z q)))
   ·have z:=D8 q pF (by intro z;cases z);exact .inl (.inr ⟨o',h0 _ _ z (kG _ _ z q)⟩)
   ·exact .inr q
  ·have e:(if b=p then none else HG b)=some o:=e
   by_cases q:b=p
   ·rw[if_pos q]at e;cases e
   ·rw[if_neg q]at e;exact sGO b o q e
  ·have nF1:∀{a:Addr} {dx':Addr} {fs:List (Str×V)},HM a=some (.ins CF dx' fs)->HO_ a=some (.ins CF dx' fs):=fun {a dx' fs} e=>kO _ _ (D8 e pM (by intro z;injection z with z;exact X.fr z)) (sN _ _ e)
   exact .cons ⟨4096,rfl,hF2.keep fun dx fs e=>nF1 e⟩ (.cons ⟨1,rfl,hF1.keep fun dx fs e=>nF1 (sM _ _ e)⟩ .nil)
  ·refine⟨sKO _ _ (Ne.symm npb) bK,?_,?_,?_,?_,?_,?_,⟨_,[],rfl,rfl⟩⟩
   ·rw[D0]
    intro t ht
    rw[List.mem_singleton]at ht
    subst ht
    exact J5.mpr ⟨nO,iO,by unfold AtL;trivial⟩
   ·rw[eF];exact List.nodup_cons.mpr ⟨by simpa using nni,by simp⟩
   ·refine .cons ?_ .nil
    show er _=_
    rw[T8]
    rfl
   ·rw[eF]
    intro b hb
    simp only[List.mem_cons,List.not_mem_nil,or_false]at hb
    rcases hb with rfl |rfl
    ·exact z0 _ na
    ·exact z0 _ gpil
   ·rw[eF]
    intro hb
    simp only[List.mem_cons,List.not_mem_nil,or_false]at hb
    exact hb.elim nbn nbi
   ·rw[eF]
    intro hb
    simp only[List.mem_cons,List.not_mem_nil,or_false]at hb
    obtain⟨_,_,e,_⟩:=nI
    exact hb.elim (gone n ⟨_,e⟩ (Ne.symm npn)) (gone pil ⟨_,iI⟩ (Ne.symm npi))
end
end Rk
namespace Rk
open PySem PySem.Spec PyProof.Rows L2 Tk Rd
open My (Byt)
noncomputable def BK8 (A:List Sw.Token)(nn:Option Nat):List Sy:=A.map (fun t=>F1 t.tok)++(match nn with |none=>[] |some _=>[.nothing])
theorem BK2 {t:Sw.Token}(h:F1 t.tok∈G6):SyQ (q4 t) (F1 t.tok):=by
 obtain⟨p,n,k⟩:=t
 cases k with
 |name s=>exact .inl ⟨rfl,rfl⟩
 |num v=>exact .inr (.inl ⟨rfl,rfl⟩)
 |kept k=>
  have hk:k<26:=by
   by_cases q:k<26
   ·exact q
   ·refine absurd h ?_
    unfold G6
    simp[F1]
    omega
  exact .inr (.inr (.inl ⟨rfl,hk,rfl⟩))
 |sign k=>
  have hk:k<33:=by
   by_cases q:k<33
   ·exact q
   ·refine absurd h ?_
    unfold G6
    simp[F1]
    omega
  exact .inr (.inr (.inr (.inl ⟨rfl,hk,rfl⟩)))
theorem O6 {α β γ:Type}{R:β->γ->Prop}{f:α->β}{g:α->γ}:∀{l:List α},(∀a∈l,R (f a) (g a))->Paired R (l.map f) (l.map g)
 |[],_=>.nil
 |a::l,h=>.cons (h a (List.mem_cons_self ..)) (O6 fun x hx=>h x (List.mem_cons_of_mem _ hx))
theorem BV8 {ns:List Int}{qs:List Q4}(h:V7 ns qs):Paired SyQ qs (BK8 (Sw.tokens (My.toB ns)).1 (Sw.tokens (My.toB ns)).2):=by
 have hv:∀t∈(Sw.tokens (My.toB ns)).1,F1 t.tok∈G6:=fun t ht=>z7 _ _ _ t ht
 unfold BK8
 rcases h with ⟨A,e,rfl⟩ |⟨A,p,n,e,rfl⟩
 ·rw[e]at hv ⊢
  dsimp only
  rw[List.append_nil]
  exact O6 fun t ht=>BK2 (hv t ht)
 ·rw[e]at hv ⊢
  dsimp only
  exact Z2 (O6 fun t ht=>BK2 (hv t ht)) (.cons (.inr (.inr (.inr (.inr ⟨rfl,rfl⟩)))) .nil)
theorem BX4 (b:Sw.Bytes){i:Nat}(hi:i<=(N0 b).N):((BK8 (Sw.tokens b).1 (Sw.tokens b).2).map B6++(["finish"]:List Str))[i]?=some (B6 ((N0 b).cy i)):=by
 have hN:(N0 b).N=(Sw.tokens b).1.length:=rfl
 rw[hN]at hi
 unfold BK8 Tx.cy
 show _=some (B6 (match (Sw.tokens b).1[i]? with
  |some t=>F1 t.tok
  |none=>if(Sw.tokens b).2.isSome=true then .nothing else .finish))
 cases e:(Sw.tokens b).1[i]? with
 |some t=>
  have hl:=(List.getElem?_eq_some_iff.mp e).1
  rw[List.map_append,List.append_assoc,List.getElem?_append_left (by simpa using hl),List.getElem?_map,List.getElem?_map,e]
  rfl
 |none=>
  have hl:i=(Sw.tokens b).1.length:=Nat.le_antisymm hi (List.getElem?_eq_none_iff.mp e)
  rw[List.map_append,List.append_assoc,List.getElem?_append_right (by simp[hl])]
  simp only[List.length_map,hl,Nat.sub_self]
  cases(Sw.tokens b).2<;>rfl
structure A57 (C CR CN:Addr)(ns:List Int)(H':Hp)(r:Addr)(R:RR)(as:List Addr)(qs:List Q4):Prop where
 fo:H' R.fo=some (.lst (as.map V.ref))
 tk:Toks C H' as qs
 al:as.length<=100000
 se:V7 ns qs
 sy:H' R.sl=some (.lst (((BK8 (Sw.tokens (My.toB ns)).1 (Sw.tokens (My.toB ns)).2).map B6++(["finish"]:List Str)).map V.str))
 out:(∃k i:Nat,0<k/\RD CR H' r R (i:Nat) (k:Nat)/\Ab3 (My.toB ns) (.fault k i)/\i<=(N0 (My.toB ns)).N)∨∃(i:Nat) (nd:List Nd) (t0:LT),RD CR H' r R (i:Nat) 0/\Ab3 (My.toB ns) (.done [⟨.PROGRAM,0,nd⟩])/\AtT CN H' t0/\(fp t0).Nodup/\t0.a=R.pg/\BH7 t0 ⟨.PROGRAM,0,nd⟩
noncomputable def Ad3 (K:PySem.W.Frag)(C CR CN:Addr):Sp:=fun vs H Q _=>∃(a:Addr) (ns:List Int),vs=[.ref a]/\SqL K H a (ns.map V.int)/\Byt ns/\ns.length<=100000/\
 ∀(H':Hp) (r:Addr) (R:RR) (as:List Addr) (qs:List Q4),Same H H'->A57 C CR CN ns H' r R as qs->Q (.ref r) H'
theorem Ak2 {b:Sw.Bytes}{o:List Op}(h:Ab3 b (.done o)):∃nd,o=[⟨.PROGRAM,0,nd⟩]:=by
 unfold Ab3 at h
 split at h
 ·obtain⟨p,_,_,e⟩:=h;cases e
 ·obtain⟨nd,e,_⟩:=h;cases e;exact⟨nd,rfl⟩
section
variable {P:Program} {w:World} {K:PySem.W.Frag} {mg:Str->Option Value} {base:Heap}
structure RtF (P:Program)(w:World)(K:PySem.W.Frag)(mg:Str->Option Value)(C CR CF CN:Addr):Prop where
 Z:RdF P w K mg CR CF CN
 S:Sc P w K mg C
 ne:C≠CR
 Y:RdC K mg CR
 sg:∃a,mg "SIGNS"=some (.ref a)/\∀H,SqT K H a (AO6.map V.str)
 G:TxG P w K mg gr
 Wy:∃f fd,Fn K mg "ways_by_token" Ac1 [] f fd
 U:∃f fd,Fn K mg "full_part" Aa0 ["part"] f fd
 N:∃f fd,Fn K mg "first_tokens" AB2 ["symbol"] f fd
 Sb:∃f fd,Fn K mg "symbol_of" p4 ["token"] f fd
 sc:∃f fd,Fn K mg "scan" Ai7 ["t"] f fd
 st:∃f fd,Fn K mg "step" Av7 ["reading"] f fd
theorem Ai8:B8 ["t","reading"] ["t"] (A7 X6):=⟨rfl,rfl,rfl,by decide+kernel,rfl,by decide+kernel,by decide+kernel⟩
theorem Ay7 {f C CR CF CN:Addr}{fd:FuncData}(F:Fun K "read_text" "read_text" X6 f fd)(W:RtF P w K mg C CR CF CN):D3 P w K mg base CX0 9 f fd ["t"] (Ad3 K C CR CN):=by
 have Z:=W.Z
 have X:=Z.X
 obtain⟨fI,dI,M,FI,bI⟩:=W.Y.F
 obtain⟨fZ,dZ,NZ⟩:=W.sc
 obtain⟨fS,dS,NS⟩:=W.st
 have GZ:D3 P w K mg base CX0 7 fZ dZ ["t"] (A13 K C):=A59 NZ.F W.S
 have GS:D3 P w K mg base CX0 8 fS dS ["reading"] (A27 K CR CF CN):=BC8 NS.F Z
 have GR:D3 P w K mg base CX0 3 fI dI ["self","found"] (AM8 K C CR CF CN):=Aa5 FI Z W.S.X W.sg W.G W.Wy W.U W.N W.Sb
 refine F.ok Ai8 (fun vs H Q E h=>?_) (fun cdv A' outer s H vs Q E hr h=>?_)
 ·obtain⟨a,ns,rfl,_⟩:=h
  rfl
 ·obtain⟨a,ns,rfl,hs,hB,hlen,h⟩:=h
  have hr7:Room 7 _:=hr.mono (by decide)
  have hr4:Room 4 _:=hr.mono (by decide)
  refine⟨_,A2 (C8 (i:=1) Ai8.nd rfl (Or.inl rfl) (AD0 M GR hr4 (by rfl) W.Y.mgC bI .nil AY7 (A0 (D5 NZ GZ hr7 (A0 (pv 0) A6)) A6)))
   (A2 (M9 PassesOwn.never (PW.pt (e8 (B5 J3 (A8 (pv 1) rfl) A9 (C2 _)) (T7 (k8 (A8 (pv 1) rfl) (fun _=>rfl)))))
    (A4 (E8 (D5 NS GS hr (A0 (pv 1) A6)))))
   (A4 (B7 (pv 1)))),?_⟩
  have sz:=sizeLine_eq
  refine⟨_,rfl,a,ns,rfl,hs,hB,hlen,fun H1 l as qs s1 hl tk hal he=>?_⟩
  refine fun r dr nr ndr _=>⟨r,dr,l,as,qs,_,rfl,A1,?_,?_,BV8 he,hal,W.ne,fun H2 R H0 O=>⟨rfl,?_⟩⟩
  ·rw[A5 (B0 hl nr),A5 (B0 hl ndr)];exact hl
  ·exact tk.keep fun b dx fs e=>by rw[A5 (B0 e nr),A5 (B0 e ndr)];exact e
  have s10:Same H1 H0:=fun b o e=>O.s0 b o (B0 e nr) (by rw[A5 (B0 e nr),A5 (B0 e ndr)];exact e)
  obtain⟨Rf,hEn,hRest⟩:=BD9 (b:=My.toB ns) (by rw[My.toB_length];exact hlen)
  have hpos:∀k p,Rf=.fault k p->0<k:=fun k p e=>by rw[e]at hEn;exact AN1 hEn
  obtain⟨n0,hN0⟩:=Ends.count hEn
  have hNl:(N0 (My.toB ns)).N<=100000:=by
   have h1:(N0 (My.toB ns)).N<=(My.toB ns).length:=AT6 _ 0 _
   rw[My.toB_length]at h1
   omega
  have S0:CS K H0 r R (N0 (My.toB ns)).cy (N0 (My.toB ns)).N:=⟨⟨_,O.sy,fun i hi=>BX4 _ hi⟩,O.wy,BK5 _,O.np,O.nf,O.nb,O.ne,hNl⟩
  have out:∀{Hx:Hp},Same H0 Hx->((∃k i:Nat,0<k/\RD CR Hx r R (i:Nat) (k:Nat)/\Ab3 (My.toB ns) (.fault k i)/\i<=(N0 (My.toB ns)).N)∨∃(i:Nat) (nd:List Nd) (t0:LT),RD CR Hx r R (i:Nat) 0/\Ab3 (My.toB ns) (.done [⟨.PROGRAM,0,nd⟩])/\AtT CN Hx t0/\(fp t0).Nodup/\t0.a=R.pg/\BH7 t0 ⟨.PROGRAM,0,nd⟩)->Q (.ref r) Hx:=fun {Hx} sx o=>
   h Hx r R as qs (fun b o e=>sx _ _ (s10 _ _ (s1 _ _ e))) ⟨by rw[O.fo];exact sx _ _ (s10 _ _ hl),tk.keep fun b dx fs e=>sx _ _ (s10 _ _ e),hal,he,sx _ _ O.sy,o⟩
  refine⟨fun m σ Hx=>σ=[some (.ref a),some (.ref r)]/\((∃n frs pos opn,m=n+1/\MC CF CR CN H0 Hx r R frs pos opn/\Fine frs opn/\Fit (N0 (My.toB ns)).N opn/\EnN (N0 (My.toB ns)).cy (N0 (My.toB ns)).N n frs pos opn Rf)∨
    ∃k i:Nat,Rf=.fault k i/\RD CR Hx r R (i:Nat) (k:Nat)/\Same H0 Hx/\i<=(N0 (My.toB ns)).N),
   ⟨n0+1,rfl,.inl ⟨n0,BS9,0,[op0],rfl,O.mc,BU7,Be1,hN0⟩⟩,?_⟩
  rintro m σ Hx ⟨rfl,hx⟩
  rcases hx with ⟨n,frs,pos,opn,rfl,hM,hFi,hFt,hE⟩ |⟨k,i,hk,hRx,sx,hile⟩
  ·obtain⟨dx,fs,hr0,nf⟩:=id hM.rd
   obtain⟨fas,hfx,hfp⟩:=hM.fr
   refine⟨_,rfl,r,CR,dx,fs,_,rfl,hr0,X.cl,X.nf,nf.f,rfl,_,rfl,AX4 ?_⟩
   refine⟨_,rfl,r,CR,dx,fs,_,rfl,hr0,X.cl,X.nfl,nf.fl,!fas.isEmpty,.inl ⟨_,SqL.of hfx,by cases fas<;>rfl⟩,?_⟩
   cases hE with
   |done=>
    have hfe:fas=[]:=by
     have:=Paired.length hfp
     rw[List.length_reverse]at this
     exact List.eq_nil_of_length_eq_zero this
    subst hfe
    obtain⟨nd,rfl⟩:=Ak2 hRest
    obtain⟨ts,D⟩:=hM.nd
    obtain⟨t0,tr,rfl,hpg⟩:=D.pg
    have htr:tr=[]:=by
     have:=Paired.length D.op
     rw[List.length_reverse]at this
     simp only[List.length_cons,List.length_nil]at this
     exact List.eq_nil_of_length_eq_zero (by omega)
    subst htr
    have hop:Paired BH7 [t0] [⟨.PROGRAM,0,nd⟩]:=D.op
    cases hop with
    |cons h1 _=>
    have ndf:=D.nd
    rw[B1,E4,List.append_nil]at ndf
    exact⟨_,rfl,out hM.bs (.inr ⟨pos,nd,t0,hM.rd,hRest,D0.mp D.at_ t0 (List.mem_singleton.mpr rfl),ndf,hpg,h1⟩)⟩
   | @bad n g gs i k o e=>
    have hee:(!fas.isEmpty)=true:=by
     cases fas with
     |nil=>cases hfp
     |cons _ _=>rfl
    rw[hee]
    exact⟨_,fun _ _ z=>z,_,rfl,r,R,H0,_,_,g,gs,pos,opn,rfl,S0,hM,hFi,hFt,.inr ⟨k,e,fun H' hR' s'=>⟨0,Nat.succ_pos _,rfl,.inr ⟨k,pos,rfl,hR',s',Ap7 (by rw[e];intro z;cases z)⟩⟩⟩⟩
   | @go n g gs i o c R' e hE=>
    have hee:(!fas.isEmpty)=true:=by
     cases fas with
     |nil=>cases hfp
     |cons _ _=>rfl
    rw[hee]
    exact⟨_,fun _ _ z=>z,_,rfl,r,R,H0,_,_,g,gs,pos,opn,rfl,S0,hM,hFi,hFt,.inl ⟨c,e,fun H' hM'=>⟨n+1,Nat.lt_succ_self _,rfl,.inl ⟨n,c.frs,c.pos,c.opn,rfl,hM',Ao6 hFi e,Az8 hFt e,hE⟩⟩⟩⟩
  ·obtain⟨dx,fs,hr0,nf⟩:=id hRx
   have hkp:=hpos k i hk
   refine⟨_,rfl,r,CR,dx,fs,_,rfl,hr0,X.cl,X.nf,nf.f,rfl,_,rfl,?_⟩
   have e0:decide (V.int ((k:Nat):Int)=V.int 0)=false:=decide_eq_false (fun z=>by injection z with z;omega)
   rw[e0]
   refine AQ3 ?_
   rw[hk]at hRest
   exact⟨_,rfl,out sx (.inl ⟨k,i,hkp,hRx,hRest,hile⟩)⟩
end
end Rk
namespace Rk
open PySem PySem.Spec PyProof.Rows L2 Tk Rd
open My (Byt)
structure Fd (C CR:Addr)(H:Hp)(r:Addr)(R:RR)(as:List Addr)(qs:List Q4):Prop where
 rd:∃a f,RD CR H r R a f
 fo:H R.fo=some (.lst (as.map V.ref))
 tk:Toks C H as qs
theorem Fd.same {C CR:Addr}{H H':Hp}{r:Addr}{R:RR}{as:List Addr}{qs:List Q4}(h:Fd C CR H r R as qs)(s:Same H H'):Fd C CR H' r R as qs:=by
 obtain⟨a,f,hr⟩:=h.rd
 exact⟨⟨a,f,hr.keep fun o e=>s _ _ e⟩,s _ _ h.fo,h.tk.keep fun b dx fs e=>s _ _ e⟩
theorem Fd.at {C CR:Addr}{H:Hp}{r:Addr}{R:RR}{as:List Addr}{qs:List Q4}(h:Fd C CR H r R as qs){i:Nat}{q:Q4}(e:qs[i]?=some q):∃a dx,as[i]?=some a/\(as.map V.ref)[i]?=some (.ref a)/\H a=some (.ins C dx (tf q.f q.l q.wh q.wi)):=by
 have hl:=(List.getElem?_eq_some_iff.mp e).1
 rw[←h.tk.1]at hl
 have hb:as[i]?=some as[i]:=List.getElem?_eq_getElem hl
 obtain⟨q',e',dx,hd⟩:=h.tk.2 i _ hb
 rw[e]at e'
 cases e'
 exact⟨_,dx,hb,by rw[List.getElem?_map,hb];rfl,hd⟩
theorem BP1 {ns:List Int}{qs:List Q4}(h:V7 ns qs){i:Nat}{t:Sw.Token}(e:(Sw.tokens (My.toB ns)).1[i]?=some t):qs[i]?=some (q4 t):=by
 rcases h with ⟨A,ea,rfl⟩ |⟨A,p,n,ea,rfl⟩
 ·rw[ea]at e
  rw[List.getElem?_map,e]
  rfl
 ·rw[ea]at e
  have:=(List.getElem?_eq_some_iff.mp e).1
  rw[List.getElem?_append_left (by simpa using this),List.getElem?_map,e]
  rfl
end Rk
namespace Rk
open PySem PySem.Spec PyProof.Rows L2 Tk Rd
open My (Byt)
noncomputable def BX6 (C CR CN:Addr):Sp:=fun vs H Q _=>∃(r:Addr) (R:RR) (as:List Addr) (qs:List Q4) (n:Addr) (rc:NRc) (k:Nat) (q:Q4),vs=[.ref r,.ref n]/\Fd C CR H r R as qs/\NO CN H n rc/\rc.i=(k:Nat)/\qs[k]?=some q/\Q (.int (q.f:Nat)) H
noncomputable def BT7 (C CR CN:Addr):Sp:=fun vs H Q _=>∃(r:Addr) (R:RR) (as:List Addr) (qs:List Q4) (n:Addr) (rc:NRc) (k:Nat) (q:Q4),vs=[.ref r,.ref n]/\Fd C CR H r R as qs/\NO CN H n rc/\rc.j=((k+1:Nat):Int)/\qs[k]?=some q/\Q (.int ((q.f+q.l:Nat):Int)) H
noncomputable def Ba5 (C CR CN:Addr):Sp:=fun vs H Q _=>∃(r:Addr) (R:RR) (as:List Addr) (qs:List Q4) (n:Addr) (rc:NRc) (k m:Nat) (q q':Q4),vs=[.ref r,.ref n]/\Fd C CR H r R as qs/\NO CN H n rc/\rc.i=(k:Nat)/\qs[k]?=some q/\rc.j=((m+1:Nat):Int)/\qs[m]?=some q'/\
 ∀(H':Hp) (p:Addr),Same H H'->H p=none->H' p=some (.lst [.int (q.f:Nat),.int (((q'.f+q'.l:Nat):Int)-(q.f:Nat))])->Q (.ref p) H'
section
variable {P:Program} {w:World} {K:PySem.W.Frag} {mg:Str->Option Value} {base:Heap}
theorem Be4:B8 ["reading","node"] ["reading","node"] (A7 O5):=⟨rfl,rfl,rfl,by decide+kernel,rfl,by decide+kernel,by decide+kernel⟩
theorem f7 {f C CR CF CN:Addr}{fd:FuncData}(F:Fun K "first_byte" "first_byte" O5 f fd)(X:Ao9 P w K mg C)(XR:TxR P w K mg CR CF CN)(Y:NdC K mg CN):D3 P w K mg base CX0 1 f fd ["reading","node"] (BX6 C CR CN):=by
 refine F.ok Be4 (fun vs H Q E h=>?_) (fun cdv A outer s H vs Q E hr h=>?_)
 ·obtain⟨r,R,as,qs,n,rc,k,q,rfl,_⟩:=h
  rfl
 ·obtain⟨r,R,as,qs,n,rc,k,q,rfl,hF,⟨dn,fn,hn,nfn⟩,hk,hq,h⟩:=h
  obtain⟨_,_,dr,rs,hr0,nf⟩:=hF.rd
  obtain⟨a,dx,ha,hav,hT⟩:=hF.at hq
  refine⟨_,A4 (B7 (A8 (F5 C6 (A8 (pv 0) rfl) (A8 (pv 1) rfl) (fun _ _=>rfl)) rfl)),?_⟩
  have hi:=nfn.i
  rw[hk]at hi
  exact⟨_,rfl,r,CR,dr,rs,_,rfl,hr0,XR.cl,XR.nfo,nf.fo,_,rfl,n,CN,dn,fn,_,rfl,hn,Y.cl,Y.ni,hi,R.fo,_,_,_,rfl,rfl,SqL.of hF.fo,D6 hav,a,C,dx,_,_,rfl,hT,X.cl,X.nF,AU0 _ _ _ _,h⟩
theorem Ba4:B8 ["reading","node","last"] ["reading","node"] (A7 U7):=⟨rfl,rfl,rfl,by decide+kernel,rfl,by decide+kernel,by decide+kernel⟩
theorem AA3 {f C CR CF CN:Addr}{fd:FuncData}(F:Fun K "end_byte" "end_byte" U7 f fd)(X:Ao9 P w K mg C)(XR:TxR P w K mg CR CF CN)(Y:NdC K mg CN):D3 P w K mg base CX0 1 f fd ["reading","node"] (BT7 C CR CN):=by
 refine F.ok Ba4 (fun vs H Q E h=>?_) (fun cdv A outer s H vs Q E hr h=>?_)
 ·obtain⟨r,R,as,qs,n,rc,k,q,rfl,_⟩:=h
  rfl
 ·obtain⟨r,R,as,qs,n,rc,k,q,rfl,hF,⟨dn,fn,hn,nfn⟩,hk,hq,h⟩:=h
  obtain⟨_,_,dr,rs,hr0,nf⟩:=hF.rd
  obtain⟨a,dx,ha,hav,hT⟩:=hF.at hq
  refine⟨_,A2 (C8 (i:=2) Ba4.nd rfl (Or.inl rfl) (F5 C6 (A8 (pv 0) rfl) (M5 W9 (A8 (pv 1) rfl) A9) (fun _ _=>rfl)))
   (A4 (B7 (M5 T5 (A8 (pv 2) rfl) (A8 (pv 2) rfl)))),?_⟩
  have hi:=nfn.j
  rw[hk]at hi
  refine⟨_,rfl,r,CR,dr,rs,_,rfl,hr0,XR.cl,XR.nfo,nf.fo,_,rfl,n,CN,dn,fn,_,rfl,hn,Y.cl,Y.nj,hi,_,_,rfl,rfl,?_⟩
  rw[show((fun i j:Int=>V.int (i-j)) ((k+1:Nat):Int) 1)=V.int ((k:Nat):Int)from by show V.int (((k+1:Nat):Int)-1)=_;congr 1;omega]
  refine⟨R.fo,_,_,_,rfl,rfl,SqL.of hF.fo,D6 hav,?_⟩
  refine⟨_,rfl,a,C,dx,_,_,rfl,hT,X.cl,X.nF,AU0 _ _ _ _,_,rfl,a,C,dx,_,_,rfl,hT,X.cl,X.nL,p8 _ _ _ _,_,_,rfl,rfl,?_⟩
  rw[show((fun i j:Int=>V.int (i+j)) ((q.f:Nat):Int) ((q.l:Nat):Int))=V.int ((q.f+q.l:Nat):Int)from by show V.int (((q.f:Nat):Int)+((q.l:Nat):Int))=_;congr 1]
  exact h
theorem Bb1:B8 ["reading","node","first"] ["reading","node"] (A7 U8):=⟨rfl,rfl,rfl,by decide+kernel,rfl,by decide+kernel,by decide+kernel⟩
theorem AL9 {f C CR CF CN fF fE:Addr}{fd fdF fdE:FuncData}(F:Fun K "place_told" "place_told" U8 f fd)(X:Ao9 P w K mg C)(XR:TxR P w K mg CR CF CN)(Y:NdC K mg CN)(NF:Fn K mg "first_byte" O5 ["reading","node"] fF fdF)(NE:Fn K mg "end_byte" U7 ["reading","node"] fE fdE):D3 P w K mg base CX0 2 f fd ["reading","node"] (Ba5 C CR CN):=by
 have GF:D3 P w K mg base CX0 1 fF fdF ["reading","node"] (BX6 C CR CN):=f7 NF.F X XR Y
 have GE:D3 P w K mg base CX0 1 fE fdE ["reading","node"] (BT7 C CR CN):=AA3 NE.F X XR Y
 refine F.ok Bb1 (fun vs H Q E h=>?_) (fun cdv A outer s H vs Q E hr h=>?_)
 ·obtain⟨r,R,as,qs,n,rc,k,m,q,q',rfl,_⟩:=h
  rfl
 ·obtain⟨r,R,as,qs,n,rc,k,m,q,q',rfl,hF,hN,hk,hq,hm,hq',h⟩:=h
  refine⟨_,A2 (C8 (i:=2) Bb1.nd rfl (Or.inl rfl) (D5 NF GF hr (A0 (pv 0) (A0 (pv 1) A6))))
   (A4 (B7 (K8 (A0 (pv 2) (A0 (M5 W9 (D5 NE GE hr (A0 (pv 0) (A0 (pv 1) A6))) (pv 2)) A6))))),?_⟩
  have sz:=sizeLine_eq
  refine⟨_,rfl,_,rfl,r,R,as,qs,n,rc,k,q,rfl,hF,hN,hk,hq,?_⟩
  refine⟨_,rfl,_,rfl,_,rfl,r,R,as,qs,n,rc,m,q',rfl,hF,hN,hm,hq',_,rfl,_,_,rfl,rfl,(by show 2<=sizeLine;omega),fun p hp=>?_⟩
  exact h _ p (B9 hp) hp A1
end
end Rk
namespace L2
open PySem PySem.Spec PyProof.Rows
noncomputable def BM5 (X:Cx)(td ty:TE):TE:=fun σ H Q=>td σ H fun x H1=>∃a kvs,x=.ref a/\AD1 X.prog X.w X.K a kvs/\ty σ H1 fun y H2=>∃k,y=kV k/\Q ((O9 kvs k).getD .non) H2
theorem Av4 {X:Cx}{o e:Expr}{apos cpos:Pos}{td ty:TE}(ho:PE X o td)(he:PE X e ty)(m:M1 X o "get" apos e cpos):PE X (.Call (.Attribute o "get" apos) [e] [] cpos) (BM5 X td ty):=by
 intro pins s σ H Q I h
 refine wpAny_Call_method m.base m.few m.line PySem.F.plainAttrs_dict PySem.F.slot_dict_get PySem.F.type_dict_get (thn (ho pins s σ H _ I h) fun u s1 ⟨x,H1,I1,rx,a,kvs,ex,d,q1⟩=>?_)
 subst ex
 obtain rfl:u=Value.ref a:=rx
 obtain⟨vs,_,dd⟩:=d.2 _ fun b o hb=>I1.kIn b o hb
 refine⟨dd.typeIs,fun b q=>?_,?_⟩
 ·cases q
  obtain⟨ob,_,_,h1,h2,_⟩:=dd
  exact⟨ob,h1,h2.2.1⟩
 rw[m.trees]
 refine Calls.callWith_builtin rfl (Calls.evalArgs_plain (Calls.spliced_cons (thn (he pins s1 σ H1 _ I1 q1) fun iv s2 ⟨y,H2,I2,ry,k,ey,q2⟩=>Calls.spliced_nil ?_)))
 subst ey
 obtain⟨vs,rel,dd⟩:=d.2 _ fun b o hb=>I2.kIn b o hb
 refine call_meetsIn PySem.F.slot_dict_get dd.typeIs PySem.F.entry_dict_get (PySem.F.args_dict_get_2 _ _) (meets_dict_get (C5 X.prog X.w) a (AR0 ry) d.1) ⟨_,dd.mapOf,?_⟩
 exact⟨_,H2,I2.tok _,RelO.getD (d:=V.non) (rel.val k) rfl,q2⟩
end L2
namespace Rk
open PySem PySem.Spec PyProof.Rows L2 Tk Rd
open My (Byt)
noncomputable def pnL:List (Str×V):=[("DECL",V.int 0),("PORT",V.int 1),("END",V.int 1),("STATE",V.int 2),("DO",V.int 3),("WIRE",V.int 4),("OPERATOR",V.int 5),("CHOICE",V.int 5),("SUM",V.int 5),("SIGNED",V.int 6),("POST",V.int 7),("ATOM",V.int 7)]
noncomputable def noV (o:Option Nat):V:=match o with |some w=>.int (w:Nat) |none=>.non
theorem BL8 (k:Kd)(w:Nat)(h:¬(k=.n .ATOM/\w=1))(hc:k≠.n .CHOICE):(O9 (pnL.map fun p=>((Sum.inr p.1,p.2):Key×V)) (Sum.inr (J7 k))).getD .non=noV (pNo k w):=by
 have e:pNo k w=pNo k 2:=by
  unfold pNo
  by_cases c:k=.n .ATOM
  ·rw[if_pos c,if_pos c,if_neg (fun z=>h ⟨c,z⟩),if_neg (by decide)]
  ·rw[if_neg c,if_neg c]
 rw[e]
 cases k with
 |n x=>cases x<;>first |exact absurd rfl hc |decide+kernel
 |_=>decide+kernel
noncomputable def BZ4 (CN:Addr):Sp:=fun vs H Q _=>∃(n:Addr) (rc:NRc) (k:Kd) (i j:Nat),vs=[.ref n]/\NO CN H n rc/\rc.k=J7 k/\rc.i=(i:Nat)/\rc.j=(j:Nat)/\i<=j/\k≠.n .CHOICE/\Q (noV (pNo k (j-i))) H
noncomputable def Pl (X:Tx)(qs:List Q4)(n:Nd):Prop:=∃m q q',n.j=m+1/\qs[n.i]?=some q/\qs[m]?=some q'/\X.bg n.i=q.f/\X.en n.j=q'.f+q'.l
theorem BL6 {ns:List Int}{qs:List Q4}(h:V7 ns qs){n:Nd}(w:Wn n)(hj:n.j<=(N0 (My.toB ns)).N):Pl (N0 (My.toB ns)) qs n:=by
 have hl:=w.lt
 obtain⟨m,hm⟩:∃m,n.j=m+1:=⟨n.j-1,by omega⟩
 have hN:(N0 (My.toB ns)).N=(Sw.tokens (My.toB ns)).1.length:=rfl
 have e1:(Sw.tokens (My.toB ns)).1[n.i]?=some (Sw.tokens (My.toB ns)).1[n.i]:=List.getElem?_eq_getElem (by omega)
 have e2:(Sw.tokens (My.toB ns)).1[m]?=some (Sw.tokens (My.toB ns)).1[m]:=List.getElem?_eq_getElem (by omega)
 refine⟨m,_,_,hm,BP1 h e1,BP1 h e2,?_,?_⟩
 ·show(((Sw.tokens (My.toB ns)).1[n.i]?).map (·.at_)).getD _=_
  rw[e1];rfl
 ·rw[hm]
  show(((Sw.tokens (My.toB ns)).1[m]?).map fun t=>t.at_+t.len).getD 0=_
  rw[e2];rfl
theorem Ad1 {α:Type}{f:α->Bool}:∀{l:List α} {i:Nat} {x:α},l[i]?=some x->f x=true->(∀j:Nat,j<i->∀y,l[j]?=some y->f y=false)->l.find? f=some x
 |[],i,x,h,_,_=>by cases h
 |y::l,0,x,h,hf,_=>by cases h;exact List.find?_cons_of_pos hf
 |y::l,i+1,x,h,hf,hn=>by
  rw[List.find?_cons_of_neg (by rw[hn 0 (by omega) y rfl];simp)]
  exact Ad1 (l:=l) (i:=i) h hf fun j hj z hz=>hn (j+1) (by omega) z hz
theorem Ad6 {α:Type}{f:α->Bool}{l:List α}{i:Nat}{x:α}(hn:∀j:Nat,j<i->∀y,l[j]?=some y->f y=false)(h:l[i]?=some x)(hf:f x=false):∀j:Nat,j<i+1->∀y,l[j]?=some y->f y=false:=by
 intro j hj y hy
 by_cases e:j=i
 ·subst e;rw[h]at hy;cases hy;exact hf
 ·exact hn j (by omega) y hy
noncomputable def BT3 (o:Option LT):V:=match o with |some t=>.ref t.a |none=>.non
noncomputable def Bb2 (C CR CN:Addr):Sp:=fun vs H Q _=>∃(r n:Addr) (k:Nat) (R:RR) (as:List Addr) (qs:List Q4) (rc:NRc) (c:List LT) (X:Tx),vs=[.ref r,.ref n,.int (k:Nat)]/\Fd C CR H r R as qs/\NO CN H n rc/\H rc.il=some (.lst (B3 c))/\AtL CN H c/\(∀t∈c,Pl X qs (er t))/\
 Q (BT3 (c.find? fun t=>r8 X k (er t))) H
section
variable {P:Program} {w:World} {K:PySem.W.Frag} {mg:Str->Option Value} {base:Heap}
theorem Bb6:B8 ["node"] ["node"] (A7 Q5):=⟨rfl,rfl,rfl,by decide+kernel,rfl,by decide+kernel,by decide+kernel⟩
theorem AE5 {f CN:Addr}{fd:FuncData}(F:Fun K "part_number" "part_number" Q5 f fd)(Y:NdC K mg CN)(h8:GI mg "ATOM_OF_ONE_TOKEN" 8)(hp:∃a,mg "PART_NUMBERS"=some (.ref a)/\AD1 P w K a (pnL.map fun p=>((Sum.inr p.1,p.2):Key×V))):D3 P w K mg base CX0 1 f fd ["node"] (BZ4 CN):=by
 obtain⟨aP,hP,hM⟩:=hp
 refine F.ok Bb6 (fun vs H Q E h=>?_) (fun cdv A outer s H vs Q E hr h=>?_)
 ·obtain⟨n,rc,k,i,j,rfl,_⟩:=h
  rfl
 ·obtain⟨n,rc,k,i,j,rfl,⟨dn,fn,hn,nfn⟩,hk,hi,hj,hij,hkc,h⟩:=h
  refine⟨_,A2 (E2 (PW.pt (e8 (B5 J3 (A8 (pv 0) rfl) D9 (C2 _)) (T7 (B5 J3 (M5 W9 (A8 (pv 0) rfl) (A8 (pv 0) rfl)) A9 (C2 _))))) (A4 (B7 (E6 h8))) C4)
   (A4 (B7 (Av4 (Q7 hP) (A8 (pv 0) rfl) ⟨rfl,rfl,rfl,rfl⟩))),?_⟩
  have ek:=nfn.k
  have ei:=nfn.i
  have ej:=nfn.j
  rw[hk]at ek
  rw[hi]at ei
  rw[hj]at ej
  have fin:¬(k=.n .ATOM/\j-i=1)->Q ((O9 (pnL.map fun p=>((Sum.inr p.1,p.2):Key×V)) (Sum.inr (J7 k))).getD .non) H:=fun q=>by rw[BL8 k (j-i) q hkc];exact h
  refine Ap9 (A32 (c6 ⟨_,rfl,n,CN,dn,fn,_,rfl,hn,Y.cl,Y.nk,ek,rfl,_,rfl,G7 (fun c=>?_) (fun c=>?_)⟩))
  ·rw[AQ0]at c
   have c:=of_decide_eq_true c
   refine c6 ⟨_,rfl,n,CN,dn,fn,_,rfl,hn,Y.cl,Y.nj,ej,_,rfl,n,CN,dn,fn,_,rfl,hn,Y.cl,Y.ni,ei,_,_,rfl,rfl,rfl,_,rfl,G7 (fun c2=>?_) (fun c2=>?_)⟩
   ·have c2:V.int (((j:Nat):Int)-((i:Nat):Int))=V.int 1:=of_decide_eq_true c2
    injection c2 with c2
    have e:pNo k (j-i)=some 8:=by rw[show j-i=1 by omega,c];rfl
    rw[e]at h
    exact h
   ·have c2:¬V.int (((j:Nat):Int)-((i:Nat):Int))=V.int 1:=fun z=>c2 (decide_eq_true z)
    exact⟨aP,_,rfl,hM,_,rfl,n,CN,dn,fn,_,rfl,hn,Y.cl,Y.nk,ek,Sum.inr _,rfl,fin fun q=>c2 (by congr 1;omega)⟩
  ·rw[AQ0]at c
   exact⟨aP,_,rfl,hM,_,rfl,n,CN,dn,fn,_,rfl,hn,Y.cl,Y.nk,ek,Sum.inr _,rfl,fin fun q=>c (decide_eq_true q.1)⟩
theorem Ba7:B8 ["reading","node","at","inner"] ["reading","node","at"] (A7 j7):=⟨rfl,rfl,rfl,by decide+kernel,rfl,by decide+kernel,by decide+kernel⟩
theorem AY4 {f C CR CF CN fF fE:Addr}{fd fdF fdE:FuncData}(F:Fun K "inner_at" "inner_at" j7 f fd)(X:Ao9 P w K mg C)(XR:TxR P w K mg CR CF CN)(Y:NdC K mg CN)(NF:Fn K mg "first_byte" O5 ["reading","node"] fF fdF)(NE:Fn K mg "end_byte" U7 ["reading","node"] fE fdE):D3 P w K mg base CX0 2 f fd ["reading","node","at"] (Bb2 C CR CN):=by
 have GF:D3 P w K mg base CX0 1 fF fdF ["reading","node"] (BX6 C CR CN):=f7 NF.F X XR Y
 have GE:D3 P w K mg base CX0 1 fE fdE ["reading","node"] (BT7 C CR CN):=AA3 NE.F X XR Y
 refine F.ok Ba7 (fun vs H Q E h=>?_) (fun cdv A outer s H vs Q E hr h=>?_)
 ·obtain⟨r,n,k,R,as,qs,rc,c,Xt,rfl,_⟩:=h
  rfl
 ·obtain⟨r,n,k,R,as,qs,rc,c,Xt,rfl,hF,⟨dn,fn,hn,nfn⟩,hil,hat,hpl,h⟩:=h
  refine⟨_,A2 (Y0 PassesOwn.never rfl (T3 (A8 (pv 1) rfl)) (K9 (i:=3) Ba7.nd rfl (Or.inl rfl))
    (A4 (E2 (AV3 y4 AJ5 (D5 NF GF hr (A0 (pv 0) (A0 (pv 3) A6))) (pv 2) (D5 NE GE hr (A0 (pv 0) (A0 (pv 3) A6)))) (A4 (B7 (pv 3))) C4)))
   (A4 (B7 AJ2)),?_⟩
  refine⟨_,rfl,n,CN,dn,fn,_,rfl,hn,Y.cl,Y.nc,nfn.il,rc.il,rfl,⟨_,SqL.of hil⟩,U2 (K:=K) (a:=rc.il) (xs:=B3 c) (fun m σ H'=>H'=H/\∃v:Option V,σ=[some (.ref r),some (.ref n),some (.int (k:Nat)),v]/\∀j:Nat,j<m->∀t,c[j]?=some t->r8 Xt k (er t)=false)
   ⟨rfl,none,rfl,fun j hj=>by omega⟩ (fun i σ H' _ hp=>by rw[hp.1];exact SqL.of hil) (fun i x σ H' hx hp=>?_) (fun σ H' hp=>?_)⟩
  ·obtain⟨rfl,v,rfl,hno⟩:=hp
   unfold B3 at hx
   rw[List.getElem?_map]at hx
   obtain⟨t,ht,rfl⟩:=Option.map_eq_some_iff.mp hx
   have hmem:=List.mem_of_getElem? ht
   have hT:=D0.mp hat t hmem
   obtain⟨m,q,q',hm,hq,hq',hb,he⟩:=hpl t hmem
   have ek:=Au0 t
   have hi1:t.rc.i=((er t).i:Nat):=by rw[(y8 t).1,ek.2.1]
   have hj1:t.rc.j=((m+1:Nat):Int):=by rw[(y8 t).2.1,←ek.2.2.1,hm]
   refine⟨_,rfl,_,rfl,r,R,as,qs,t.a,t.rc,_,q,rfl,hF,hT.no,hi1,hq,_,rfl,_,_,rfl,rfl,_,rfl,G7 (fun c1=>?_) (fun c1=>?_)⟩
   ·have c1:(((q.f:Nat):Int)<=((k:Nat):Int)):=of_decide_eq_true c1
    refine⟨_,rfl,_,rfl,r,R,as,qs,t.a,t.rc,m,q',rfl,hF,hT.no,hj1,hq',_,_,rfl,rfl,_,rfl,G7 (fun c2=>?_) (fun c2=>?_)⟩
    ·have c2:(((k:Nat):Int)<((q'.f+q'.l:Nat):Int)):=of_decide_eq_true c2
     have e:(c.find? fun t=>r8 Xt k (er t))=some t:=by
      refine Ad1 (i:=i) ht ?_ fun j hj z hz=>hno j hj z hz
      unfold r8
      rw[hb,he,Bool.and_eq_true,decide_eq_true_eq,decide_eq_true_eq]
      omega
     rw[e]at h
     exact⟨_,rfl,h⟩
    ·have c2:¬(((k:Nat):Int)<((q'.f+q'.l:Nat):Int)):=fun z=>c2 (decide_eq_true z)
     refine⟨rfl,_,rfl,Ad6 hno ht ?_⟩
     unfold r8
     rw[hb,he,decide_eq_false (p:=k<q'.f+q'.l) (by omega),Bool.and_false]
   ·have c1:¬(((q.f:Nat):Int)<=((k:Nat):Int)):=fun z=>c1 (decide_eq_true z)
    refine⟨_,rfl,AQ3 ⟨rfl,_,rfl,Ad6 hno ht ?_⟩⟩
    unfold r8
    rw[hb,decide_eq_false (p:=q.f<=k) (by omega),Bool.false_and]
  ·obtain⟨rfl,v,rfl,hno⟩:=hp
   have e:(c.find? fun t=>r8 Xt k (er t))=none:=List.find?_eq_none.mpr fun z hz=>by
    obtain⟨j,hj,ej⟩:=List.getElem_of_mem hz
    have:=hno j (by show j<(B3 c).length;unfold B3;rw[List.length_map];exact hj) z (ej▸List.getElem?_eq_getElem hj)
    rw[this];simp
   rw[e]at h
   exact h
end
end Rk
namespace Rk
open PySem PySem.Spec PyProof.Rows L2 Tk Rd
open My (Byt)
noncomputable def BR4 (p:Sw.Part)(d:Nat):List V:=[.int (p.what:Nat),.int (p.at_:Nat),.int (p.len:Nat),.int (d:Nat)]
noncomputable def BK1 (H:Hp)(dn:List Sw.Part)(v:V):Prop:=match dn with
 |[]=>v=.non
 |p::r=>∃l,v=.ref l/\H l=some (.lst (BR4 p r.length))
noncomputable def chO (X:Tx)(k:Nat):Option LT->List Sw.Part
 |some t=>ch X k (er t)
 |none=>[]
noncomputable def szO:Option LT->Nat
 |some t=>sizeOf t+1
 |none=>0
theorem AT1 (X:Tx)(k:Nat)(c:List LT):chs X k (c.map er)=chO X k (c.find? fun t=>r8 X k (er t)):=by
 rw[AU7,List.find?_map]
 show(match (c.find? fun t=>r8 X k (er t)).map er with |some n=>ch X k n |none=>[])=_
 cases c.find? fun t=>r8 X k (er t)<;>rfl
theorem BN7 {t:LT}{f:LT->Bool}:szO (t.c.find? f)<szO (some t):=by
 cases e:t.c.find? f with
 |none=>exact Nat.succ_pos _
 |some u=>
  have hm:=List.mem_of_find?_eq_some e
  obtain⟨a,il,k,i,j,p,s,l,c⟩:=t
  have:=List.sizeOf_lt_of_mem (as:=c) hm
  show sizeOf u+1<sizeOf (LT.mk a il k i j p s l c)+1
  rw[LT.mk.sizeOf_spec]
  omega
noncomputable def Ba2 (C CR CN:Addr):Sp:=fun vs H Q _=>∃(r:Addr) (k:Nat) (R:RR) (as:List Addr) (qs:List Q4) (ns:List Int) (rc:NRc) (c:List LT) (a b:Nat),vs=[.ref r,.int (k:Nat)]/\Fd C CR H r R as qs/\V7 ns qs/\NO CN H R.pg rc/\H rc.il=some (.lst (B3 c))/\AtL CN H c/\Wl a b (c.map er)/\b<=(N0 (My.toB ns)).N/\
 ∀H' v,Same H H'->BK1 H' (chs (N0 (My.toB ns)) k (c.map er)) v->Q v H'
theorem BQ3 {ns:List Int}{qs:List Q4}(h:V7 ns qs){c:List LT}{a b:Nat}(w:Wl a b (c.map er))(hb:b<=(N0 (My.toB ns)).N):∀t∈c,Pl (N0 (My.toB ns)) qs (er t):=fun t ht=>by
 have:=w.mem (er t) (List.mem_map.mpr ⟨t,ht,rfl⟩)
 exact BL6 h this.2.2 (by omega)
structure PnF (P:Program)(w:World)(K:PySem.W.Frag)(mg:Str->Option Value):Prop where
 pn:∃f fd,Fn K mg "part_number" Q5 ["node"] f fd
 ia:∃f fd,Fn K mg "inner_at" j7 ["reading","node","at"] f fd
 fb:∃f fd,Fn K mg "first_byte" O5 ["reading","node"] f fd
 eb:∃f fd,Fn K mg "end_byte" U7 ["reading","node"] f fd
 pt:∃f fd,Fn K mg "place_told" U8 ["reading","node"] f fd
 h8:GI mg "ATOM_OF_ONE_TOKEN" 8
 hp:∃a,mg "PART_NUMBERS"=some (.ref a)/\AD1 P w K a (pnL.map fun p=>((Sum.inr p.1,p.2):Key×V))
section
variable {P:Program} {w:World} {K:PySem.W.Frag} {mg:Str->Option Value} {base:Heap}
theorem A12:B8 ["reading","at","answer","depth","node","what"] ["reading","at"] (A7 J1):=⟨rfl,rfl,rfl,by decide+kernel,rfl,by decide+kernel,by decide+kernel⟩
theorem AP5 {f C CR CF CN:Addr}{fd:FuncData}(F:Fun K "smallest_part_told" "smallest_part_told" J1 f fd)(X:Ao9 P w K mg C)(XR:TxR P w K mg CR CF CN)(Y:NdC K mg CN)(Z:PnF P w K mg):D3 P w K mg base CX0 3 f fd ["reading","at"] (Ba2 C CR CN):=by
 obtain⟨fN,dN,NN⟩:=Z.pn
 obtain⟨fA,dA,NA⟩:=Z.ia
 obtain⟨fF,dF,NF⟩:=Z.fb
 obtain⟨fE,dE,NE⟩:=Z.eb
 obtain⟨fP,dP,NP⟩:=Z.pt
 have GN:D3 P w K mg base CX0 1 fN dN ["node"] (BZ4 CN):=AE5 NN.F Y Z.h8 Z.hp
 have GA:D3 P w K mg base CX0 2 fA dA ["reading","node","at"] (Bb2 C CR CN):=AY4 NA.F X XR Y NF NE
 have GP:D3 P w K mg base CX0 2 fP dP ["reading","node"] (Ba5 C CR CN):=AL9 NP.F X XR Y NF NE
 refine F.ok A12 (fun vs H Q E h=>?_) (fun cdv A outer s H vs Q E hr h=>?_)
 ·obtain⟨r,k,R,as,qs,ns,rc,c,a,b,rfl,_⟩:=h
  rfl
 ·obtain⟨r,k,R,as,qs,ns,rc,c,a,b,rfl,hF,hse,hN,hil,hat,hw,hb,h⟩:=h
  have hr1:Room 1 _:=hr.mono (by decide)
  refine⟨_,A2 (C8 (i:=2) A12.nd rfl (Or.inl rfl) AJ2)
   (A2 (C8 (i:=3) A12.nd rfl (Or.inl rfl) A9)
   (A2 (C8 (i:=4) A12.nd rfl (Or.inl rfl) (D5 NA GA hr (A0 (pv 0) (A0 (A8 (pv 0) rfl) (A0 (pv 1) A6)))))
   (A2 (M9 PassesOwn.never (B5 Aj6 (pv 4) AJ2 (C2 _))
    (A2 (C8 (i:=5) A12.nd rfl (Or.inl rfl) (D5 NN GN hr1 (A0 (pv 4) A6)))
    (A2 (E2 (B5 Aj6 (pv 5) AJ2 (C2 _))
     (A2 (C8 (i:=2) A12.nd rfl (Or.inl rfl) (M5 AL8 (M5 AL8 (K8 (A0 (pv 5) A6)) (D5 NP GP hr (A0 (pv 0) (A0 (pv 4) A6)))) (K8 (A0 (pv 3) A6))))
      (A4 (AK4 (i:=3) A12.nd rfl (Or.inl rfl) A9 r9))) C4)
    (A4 (C8 (i:=4) A12.nd rfl (Or.inl rfl) (D5 NA GA hr (A0 (pv 0) (A0 (pv 4) (A0 (pv 1) A6)))))))))
   (A4 (B7 (pv 2)))))),?_⟩
  have sz:=sizeLine_eq
  have TO:=A56 (My.toB ns)
  have hpl:=BQ3 hse hw hb
  have hch:=AT1 (N0 (My.toB ns)) k c
  generalize hXt:N0 (My.toB ns)=Xt at *
  obtain⟨_,_,dr,rs,hr0,nf⟩:=id hF.rd
  refine⟨_,rfl,_,rfl,r,CR,dr,rs,_,rfl,hr0,XR.cl,XR.npg,nf.pg,_,rfl,r,R.pg,k,R,as,qs,rc,c,Xt,rfl,hF,hN,hil,hat,hpl,?_⟩
  refine⟨fun m σ H'=>∃(node:Option LT) (dn:List Sw.Part) (av:V) (v5:Option V),σ=[some (.ref r),some (.int (k:Nat)),some av,some (.int (dn.length:Nat)),some (BT3 node),v5]/\Same H H'/\BK1 H' dn av/\chs Xt k (c.map er)=chO Xt k node++dn/\(∀t,node=some t->AtT CN H' t/\Wn (er t)/\(er t).j<=Xt.N)/\m=szO node,
   ⟨_,c.find? fun t=>r8 Xt k (er t),[],.non,none,rfl,Same.refl _,rfl,by rw[List.append_nil];exact hch,fun t ht=>?_,rfl⟩,?_⟩
  ·have hm:=List.mem_of_find?_eq_some ht
   have:=hw.mem (er t) (List.mem_map.mpr ⟨t,hm,rfl⟩)
   exact⟨D0.mp hat t hm,this.2.2,by omega⟩
  rintro m σ H1 ⟨node,dn,av,v5,rfl,s1,hans,hcs,hnode,rfl⟩
  cases node with
  |none=>
   refine⟨_,rfl,rfl,_,rfl,AQ3 ⟨_,rfl,h H1 av s1 ?_⟩⟩
   rw[hcs]
   exact hans
  |some t=>
   obtain⟨hT,hWn,hjN⟩:=hnode t rfl
   refine⟨_,rfl,rfl,_,rfl,AX4 ⟨_,fun _ _ z=>z,?_⟩⟩
   have ek:=Au0 t
   have hlt:=hWn.lt
   obtain⟨mm,q,q',hm,hq,hq',hbq,heq⟩:Pl Xt qs (er t):=by rw[←hXt]at hjN ⊢;exact BL6 hse hWn hjN
   have hi1:t.rc.i=((er t).i:Nat):=by rw[(y8 t).1,ek.2.1]
   have hj0:t.rc.j=((er t).j:Nat):=by rw[(y8 t).2.1,ek.2.2.1]
   have hj1:t.rc.j=((mm+1:Nat):Int):=by rw[hj0,hm]
   have hk1:t.rc.k=J7 (er t).k:=by rw[(y8 t).2.2.2.1,ek.1]
   have hwc:Wl (er t).i (er t).j (t.c.map er)/\(er t).k≠.n .CHOICE/\ch Xt k (er t)=chs Xt k (t.c.map er)++own Xt (er t).k (er t).i (er t).j/\H1 t.rc.il=some (.lst (B3 t.c))/\AtL CN H1 t.c:=by
    obtain⟨a,il,kd,i,j,p,s,l,c'⟩:=t
    obtain⟨h1,h2,h3⟩:=J5.mp hT
    rw[T8]at hWn ⊢
    obtain⟨w1,w2,w3,w4⟩:=AE6.mp hWn
    exact⟨w2,w4,A50 ..,h2,h3⟩
   obtain⟨hwl,hkc,hch2,hil2,hat2⟩:=hwc
   refine⟨_,rfl,t.a,t.rc,(er t).k,(er t).i,(er t).j,rfl,hT.no,hk1,hi1,hj0,Nat.le_of_lt hlt,hkc,?_⟩
   have next:∀{H2:Hp},Same H1 H2->Fd C CR H2 r R as qs/\NO CN H2 t.a t.rc/\H2 t.rc.il=some (.lst (B3 t.c))/\AtL CN H2 t.c/\(∀u∈t.c,Pl Xt qs (er u)):=fun {H2} s2=>by
    refine⟨(hF.same s1).same s2,hT.no.keep fun o e=>s2 _ _ e,s2 _ _ hil2,AtL.keep _ hat2 fun b _ o e=>s2 _ _ e,?_⟩
    rw[←hXt]at hjN ⊢
    exact BQ3 hse hwl hjN
   have fin:∀{H2:Hp} {dn':List Sw.Part} {av':V} {v5':Option V},Same H1 H2->BK1 H2 dn' av'->dn'=own Xt (er t).k (er t).i (er t).j++dn->∃m',m'<szO (some t)/\∃(node:Option LT) (dn:List Sw.Part) (av:V) (v5:Option V),[some (.ref r),some (.int (k:Nat)),some av',some (.int (dn'.length:Nat)),some (BT3 (t.c.find? fun u=>r8 Xt k (er u))),v5']=[some (.ref r),some (.int (k:Nat)),some av,some (.int (dn.length:Nat)),some (BT3 node),v5]/\Same H H2/\BK1 H2 dn av/\chs Xt k (c.map er)=chO Xt k node++dn/\(∀t,node=some t->AtT CN H2 t/\Wn (er t)/\(er t).j<=Xt.N)/\m'=szO node:=fun {H2 dn' av' v5'} s2 ha hd=>by
    refine⟨_,BN7,t.c.find? fun u=>r8 Xt k (er u),dn',av',v5',rfl,s1.trans s2,ha,?_,fun u hu=>?_,rfl⟩
    ·rw[hcs,hd]
     show ch Xt k (er t)++dn=_
     rw[hch2,AT1,List.append_assoc]
    ·have hmu:=List.mem_of_find?_eq_some hu
     have:=hwl.mem (er u) (List.mem_map.mpr ⟨u,hmu,rfl⟩)
     exact⟨D0.mp (next s2).2.2.2.1 u hmu,this.2.2,by omega⟩
   cases hp:pNo (er t).k ((er t).j-(er t).i)with
   |none=>
    have ho:own Xt (er t).k (er t).i (er t).j=[]:=by unfold own;rw[hp]
    obtain⟨n1,n2,n3,n4,n5⟩:=next (Same.refl H1)
    refine⟨_,rfl,rfl,_,rfl,AQ3 ?_⟩
    refine⟨_,rfl,_,rfl,_,rfl,r,t.a,k,R,as,qs,t.rc,t.c,Xt,rfl,n1,n2,n3,n4,n5,?_⟩
    exact fin (Same.refl _) hans (by rw[ho];rfl)
   |some wn=>
    have ho:own Xt (er t).k (er t).i (er t).j=[⟨wn,Xt.bg (er t).i,Xt.en (er t).j-Xt.bg (er t).i⟩]:=by unfold own;rw[hp]
    refine⟨_,rfl,rfl,_,rfl,AX4 ?_⟩
    refine⟨_,rfl,(by show 1<=sizeLine;omega),fun l1 hl1=>?_⟩
    have t1:Same H1 (upd H1 l1 (.lst [noV (some wn)])):=B9 hl1
    have e1:(upd H1 l1 (.lst [noV (some wn)])) l1=some (.lst [V.int (wn:Nat)]):=A1
    generalize (upd H1 l1 (.lst [noV (some wn)]))=H2 at t1 e1 ⊢
    obtain⟨n1,n2,n3,n4,n5⟩:=next t1
    refine⟨_,rfl,_,rfl,r,R,as,qs,t.a,t.rc,_,mm,q,q',rfl,n1,n2,hi1,hq,hj1,hq',fun H3 p2 s2 np2 e2=>?_⟩
    refine⟨l1,p2,_,_,rfl,rfl,s2 _ _ e1,e2,(by show 3<=sizeLine;omega),fun l3 hl3=>?_⟩
    have t3:Same H3 (upd H3 l3 (.lst ([V.int (wn:Nat)]++[.int (q.f:Nat),.int (((q'.f+q'.l:Nat):Int)-(q.f:Nat))]))):=B9 hl3
    have e3:(upd H3 l3 (.lst ([V.int (wn:Nat)]++[.int (q.f:Nat),.int (((q'.f+q'.l:Nat):Int)-(q.f:Nat))]))) l3=some (.lst [V.int (wn:Nat),.int (q.f:Nat),.int (((q'.f+q'.l:Nat):Int)-(q.f:Nat))]):=A1
    generalize (upd H3 l3 (.lst ([V.int (wn:Nat)]++[.int (q.f:Nat),.int (((q'.f+q'.l:Nat):Int)-(q.f:Nat))])))=H4 at t3 e3 ⊢
    refine⟨_,rfl,(by show 1<=sizeLine;omega),fun l4 hl4=>?_⟩
    have t4:=B9 (o:=.lst [V.int (dn.length:Nat)]) hl4
    refine⟨l3,l4,_,_,rfl,rfl,t4 _ _ e3,A1,(by show 4<=sizeLine;omega),fun l5 hl5=>?_⟩
    have t5:=t4.trans (B9 (o:=.lst ([V.int (wn:Nat),.int (q.f:Nat),.int (((q'.f+q'.l:Nat):Int)-(q.f:Nat))]++[V.int (dn.length:Nat)])) hl5)
    have e5:(upd (upd H4 l4 (.lst [V.int (dn.length:Nat)])) l5 (.lst ([V.int (wn:Nat),.int (q.f:Nat),.int (((q'.f+q'.l:Nat):Int)-(q.f:Nat))]++[V.int (dn.length:Nat)]))) l5=some (.lst [V.int (wn:Nat),.int (q.f:Nat),.int (((q'.f+q'.l:Nat):Int)-(q.f:Nat)),V.int (dn.length:Nat)]):=A1
    have tt:=((t1.trans s2).trans t3).trans t5
    generalize (upd (upd H4 l4 (.lst [V.int (dn.length:Nat)])) l5 (.lst ([V.int (wn:Nat),.int (q.f:Nat),.int (((q'.f+q'.l:Nat):Int)-(q.f:Nat))]++[V.int (dn.length:Nat)])))=H5 at tt e5 ⊢
    obtain⟨n1,n2,n3,n4,n5⟩:=next tt
    refine⟨_,rfl,_,_,rfl,rfl,?_⟩
    refine⟨_,rfl,_,rfl,_,rfl,r,t.a,k,R,as,qs,t.rc,t.c,Xt,rfl,n1,n2,n3,n4,n5,?_⟩
    have hle:=TO.lt hlt hjN
    have ea:BK1 H5 (⟨wn,Xt.bg (er t).i,Xt.en (er t).j-Xt.bg (er t).i⟩::dn) (.ref l5):=by
     refine⟨l5,rfl,?_⟩
     rw[e5]
     unfold BR4
     dsimp only
     rw[hbq,heq]at hle ⊢
     rw[show(((q'.f+q'.l:Nat):Int)-(q.f:Nat))=((q'.f+q'.l-q.f:Nat):Int) by omega]
    exact fin (dn':=⟨wn,Xt.bg (er t).i,Xt.en (er t).j-Xt.bg (er t).i⟩::dn) tt ea (by rw[ho];rfl)
noncomputable def spPart (K:PySem.W.Frag):Sp:=fun vs H Q _=>∃(i:Nat) (a:Addr) (ns:List Int),vs=[.int (i:Nat),.ref a]/\SqL K H a (ns.map V.int)/\Byt ns/\ns.length<=100000/\
 ∀(H':Hp) (p:Addr),H' p=some (.lst ((PyWqaibx.part (i:Nat) ns).map V.int))->Q (.ref p) H'
theorem Al7:B8 ["at","t","reading","told"] ["at","t"] (A7 BA9):=⟨rfl,rfl,rfl,by decide+kernel,rfl,by decide+kernel,by decide+kernel⟩
theorem BG0 {f C CR CF CN fR fS:Addr}{fd fdR fdS:FuncData}(F:Fun K "part" "part" BA9 f fd)(W:RtF P w K mg C CR CF CN)(N:Fn K mg "read_text" X6 ["t"] fR fdR)(S:Fn K mg "smallest_part_told" J1 ["reading","at"] fS fdS)(Z:PnF P w K mg):D3 P w K mg base CX0 10 f fd ["at","t"] (spPart K):=by
 have X:=W.S.X
 have XR:=W.Z.X
 have Y:=W.Z.Y
 have GR:D3 P w K mg base CX0 9 fR fdR ["t"] (Ad3 K C CR CN):=Ay7 N.F W
 have GS:D3 P w K mg base CX0 3 fS fdS ["reading","at"] (Ba2 C CR CN):=AP5 S.F X XR Y Z
 refine F.ok Al7 (fun vs H Q E h=>?_) (fun cdv A' outer s H vs Q E hr h=>?_)
 ·obtain⟨i,a,ns,rfl,_⟩:=h
  rfl
 ·obtain⟨i,a,ns,rfl,hs,hB,hlen,h⟩:=h
  have hr3:Room 3 _:=hr.mono (by decide)
  refine⟨_,A2 (E2 (B5 AG6 (F0 C3 (by rfl) X.tx.len PySem.boot_len (A0 (pv 1) A6)) (E6 X.longT) (C2 _)) (A4 (B7 (K8 (A0 (Am3 AN7 A9) A6)))) C4)
   (A2 (C8 (i:=2) Al7.nd rfl (Or.inl rfl) (D5 N GR hr (A0 (pv 1) A6)))
   (A2 (E2 (B5 AG6 (A8 (pv 2) rfl) A9 (C2 _)) (A4 (B7 (K8 (A0 (Am3 AN7 A9) A6)))) C4)
   (A2 (C8 (i:=3) Al7.nd rfl (Or.inl rfl) (D5 S GS hr3 (A0 (pv 2) (A0 (pv 0) A6))))
   (A4 (B7 (Y2 (B5 BK3 (pv 3) AJ2 (C2 _)) (K8 (A0 (Am3 AN7 A9) A6)) (M5 AL8 (K8 (A0 A9 A6)) (pv 3)))))))),?_⟩
  have sz:=sizeLine_eq
  refine Ap9 (c6 (L8 rfl hs ⟨_,_,rfl,rfl,_,rfl,G7 (fun c=>?_) (fun c=>?_)⟩))
  ·have:=of_decide_eq_true c
   omega
  refine⟨_,rfl,a,ns,rfl,hs,hB,hlen,fun H2 r R as qs s2 RO=>?_⟩
  rcases RO.out with ⟨k,j,hk,⟨dx,fs,hr0,nf⟩,hrest,hiN⟩ |⟨j,nd,t0,⟨dx,fs,hr0,nf⟩,hrest,hat,hnd,hpg,hop⟩
  ·obtain⟨e,he,rfl,hp⟩:=Ar1 hrest
   rw[Ay9 hB hlen he]at h
   refine⟨_,rfl,r,CR,dx,fs,_,rfl,hr0,XR.cl,XR.nf,nf.f,_,_,rfl,rfl,_,rfl,G7 (fun c=>?_) (fun c=>?_)⟩
   ·exact⟨_,rfl,(by show 1<=sizeLine;omega),fun p hp'=>h _ p A1⟩
   ·have c:¬(0:Int)<(e.kind:Nat):=fun z=>c (decide_eq_true z)
    omega
  ·obtain⟨Pg,he,hsr⟩:=BA1 hrest
   obtain⟨a0,il0,k0,i0,j0,p0,s0,l0,c0⟩:=t0
   have hc:c0.map er=nd:=by
    have hop:er _=_:=hop
    rw[T8]at hop
    injection hop
   obtain⟨h0,hil,hac⟩:=J5.mp hat
   have hpg:a0=R.pg:=hpg
   subst hpg
   have hwl:=Ap4 hsr
   rw[←hc]at hwl
   refine⟨_,rfl,r,CR,dx,fs,_,rfl,hr0,XR.cl,XR.nf,nf.f,_,_,rfl,rfl,_,rfl,AQ3 ?_⟩
   refine⟨_,rfl,_,rfl,r,i,R,as,qs,ns,_,c0,_,_,rfl,⟨⟨_,_,dx,fs,hr0,nf⟩,RO.fo,RO.tk⟩,RO.se,h0,hil,hac,hwl,Nat.le_refl _,fun H3 v s3 hv=>?_⟩
   rw[hc]at hv
   cases ec:chs (N0 (My.toB ns)) i nd with
   |nil=>
    rw[ec]at hv
    have hv:v=.non:=hv
    subst hv
    rw[BC9 hB hlen he hsr ec]at h
    exact⟨_,rfl,rfl,_,rfl,AX4 ⟨_,rfl,(by show 1<=sizeLine;omega),fun p hp'=>h _ p A1⟩⟩
   |cons p rr=>
    rw[ec]at hv
    obtain⟨l,rfl,hl⟩:=hv
    rw[Ar9 hB hlen he hsr ec]at h
    refine⟨_,rfl,rfl,_,rfl,AQ3 ⟨(by show 1<=sizeLine;omega),fun l1 hl1=>?_⟩⟩
    have t1:=B9 (o:=.lst [V.int 0]) hl1
    exact⟨_,rfl,l1,l,_,_,rfl,rfl,A1,t1 _ _ hl,(by show 5<=sizeLine;omega),fun l5 hl5=>h _ l5 A1⟩
end
end Rk
namespace Tk
open PySem PySem.Spec PyProof.Rows L2
theorem Ac4 {K:PySem.W.Frag}{h:Heap}{mg:Str->Option Value}{x:Str}{st:Stmt}{ps:List Str}{f:Addr}{oc kV doc pm cdv ct:Value}{od an:Option Addr}{osl:Array (Option Value)}(X:K.In h)(G:h.Ns mainGlobals mg)
  (a:PySem.W.nsIn K mainGlobals x=some (some (.ref f))) (l:K.lookup f=some ⟨oc,od,.func (PySem.W.fnOf x x (M7 st) (L0 st) (A7 st) .none kV doc pm an cdv ct),osl⟩) (c:PySem.W.codeIn K cdv x=true) (k:PySem.W.keepIn K (.ref f)=true)
  (b:∀(kV doc pm:Value) (an:Option Addr) (cdv ct:Value) (us:List Value),us.length=ps.length->bindArgs (PySem.W.fnOf x x (M7 st) (L0 st) (A7 st) .none kV doc pm an cdv ct) ⟨us,[]⟩=pure (ps.zip us)):
  Fn K mg x st ps f (PySem.W.fnOf x x (M7 st) (L0 st) (A7 st) .none kV doc pm an cdv ct):=
 ⟨AT8 l c k,PySem.W.mg_of X G a,(AT8 (st:=st) l c k).binds b⟩
theorem K2 {K:PySem.W.Frag}{h:Heap}{mg:Str->Option Value}{x:Str}{i:Int}{t:Tok}(X:K.In h)(G:h.Ns mainGlobals mg)(a:PySem.W.nsIn K mainGlobals x=some (some (.int i t))):GI mg x i:=⟨t,PySem.W.mg_of X G a⟩
noncomputable def Be7:List (Int×V):=[(43,V.int 9),(45,V.int 10),(42,V.int 11),(47,V.int 12),(37,V.int 13),(38,V.int 14),(124,V.int 15),(94,V.int 16),(126,V.int 17),(33,V.int 18),(60,V.int 19),(62,V.int 20),(61,V.int 21),(63,V.int 22),(58,V.int 23),(59,V.int 24),(44,V.int 25),(64,V.int 26),(40,V.int 27),(41,V.int 28),(91,V.int 29),(93,V.int 30),(123,V.int 31),(125,V.int 32)]
noncomputable def A41 (o:Obj):Option (List Str):=match o with
 |⟨.type n,none,.seq its _,_⟩=>if n="tuple"/\its.size<=1000 then its.toList.mapM fun u=>(match u with |.str x _=>some x |_=>none)else none
 |_=>none
theorem AT2:∀{us:List Value} {xs:List Str},(us.mapM fun u=>(match u with |.str x _=>some x |_=>none:Option Str))=some xs->Vals (xs.map V.str) us
 |[],xs,h=>by
  cases h
  exact .nil
 |u::r,xs,h=>by
  rw[List.mapM_cons]at h
  cases u with
  |str x t=>
   cases e:(r.mapM fun u=>(match u with |.str x _=>some x |_=>none:Option Str))with
   |none=>rw[e]at h;cases h
   |some l=>
    rw[e]at h
    cases h
    exact .cons ⟨t,rfl⟩ (AT2 e)
  |_=>cases h
theorem a9 {K:PySem.W.Frag}{a:Addr}{o:Obj}{xs:List Str}(l:K.lookup a=some o)(h:A41 o=some xs):(∃o,K.lookup a=some o/\o.cls=.type "tuple"/\o.dict=none)/\∀H,SqT K H a (xs.map V.str):=by
 unfold A41 at h
 split at h
 ·rename_i n its m sl
  split at h
  ·rename_i c
   obtain⟨rfl,c2⟩:=c
   refine⟨⟨_,l,rfl,rfl⟩,fun H=>.inr ⟨_,its,m,l,rfl,rfl,?_,AT2 h⟩⟩
   have:=sizeLine_eq
   omega
  ·cases h
 ·cases h
noncomputable def Bc9:List (List Int×V):=[([45,62],V.int 0),([60,60],V.int 1),([62,62],V.int 2),([60,61],V.int 3),([62,61],V.int 4),([61,61],V.int 5),([33,61],V.int 6),([38,38],V.int 7),([124,124],V.int 8)]
end Tk
namespace Tk
open PySem PySem.Spec PyProof.Rows L2
noncomputable def TopIs (K:PySem.W.Frag)(x:Str)(st:Stmt):Prop:=∃(f:Addr) (od an:Option Addr) (sl:Array (Option Value)) (oc kV dc pm cd ct:Value),PySem.W.nsIn K mainGlobals x=some (some (.ref f))/\K.lookup f=some ⟨oc,od,.func (PySem.W.fnOf x x (M7 st) (L0 st) (A7 st) .none kV dc pm an cd ct),sl⟩/\PySem.W.codeIn K cd x=true/\PySem.W.keepIn K (.ref f)=true
theorem top_mk {K:PySem.W.Frag}{x:Str}{st:Stmt}{f:Addr}{od an:Option Addr}{sl:Array (Option Value)}{oc kV dc pm cd ct:Value}(a:PySem.W.nsIn K mainGlobals x=some (some (.ref f)))(l:K.lookup f=some ⟨oc,od,.func (PySem.W.fnOf x x (M7 st) (L0 st) (A7 st) .none kV dc pm an cd ct),sl⟩)(c:PySem.W.codeIn K cd x=true)(k:PySem.W.keepIn K (.ref f)=true):TopIs K x st:=⟨f,od,an,sl,oc,kV,dc,pm,cd,ct,a,l,c,k⟩
theorem TopIs.fn {K:PySem.W.Frag}{h:Heap}{mg:Str->Option Value}{x:Str}{st:Stmt}(t:TopIs K x st)(X:K.In h)(G:h.Ns mainGlobals mg)(ps:List Str)
  (b:∀(kV doc pm:Value) (an:Option Addr) (cdv ct:Value) (us:List Value),us.length=ps.length->bindArgs (PySem.W.fnOf x x (M7 st) (L0 st) (A7 st) .none kV doc pm an cdv ct) ⟨us,[]⟩=pure (ps.zip us)):
  ∃f fd,Fn K mg x st ps f fd/\∀(s:Shared) (us:List Value),us.length=ps.length->BindsTo s fd ⟨us,[]⟩ (ps.zip us):=by
 obtain⟨f,od,an,sl,oc,kV,dc,pm,cd,ct,a,l,c,k⟩:=t
 exact⟨f,_,Ac4 X G a l c k b,fun s us hu=>.of_eq (b _ _ _ _ _ _ us hu)⟩
structure Ac6 (K:PySem.W.Frag)(x q:Str)(st:Stmt)(ps:List Str)(C:Addr):Prop where
 aC:PySem.W.nsIn K mainGlobals x=some (some (.ref C))
 cl:Cls K C
 F:∃f fd,Mk K C f/\Fun K "__init__" q st f fd/\Binds K fd ps []
theorem cls_mk {K:PySem.W.Frag}{x q:Str}{st:Stmt}{ps:List Str}{C f:Addr}{od an:Option Addr}{sl:Array (Option Value)}{oc kV dc pm cd ct:Value}(aC:PySem.W.nsIn K mainGlobals x=some (some (.ref C)))(a:PySem.W.findIn K (.ref C) "__init__"=some (some (.ref f)))(i:PySem.W.isFn K (.ref f)=true)(l:K.lookup f=some ⟨oc,od,.func (PySem.W.fnOf "__init__" q (M7 st) (L0 st) (A7 st) .none kV dc pm an cd ct),sl⟩)(c:PySem.W.codeIn K cd q=true)(k:PySem.W.keepIn K (.ref f)=true)
  (pg:PySem.W.plainGet K C Str.empty=true) (hd:PySem.W.hasDictIn K C=true) (po:PySem.W.plainOver K C=true) (sa:PySem.W.findIn K (.ref C) "__setattr__"=some (some (.builtin "object.__setattr__"))) (mk:PySem.W.makesIn K C=true) (kc:PySem.W.keepIn K (.ref C)=true)
  (b:∀(kV doc pm:Value) (an:Option Addr) (cdv ct:Value) (us:List Value),us.length=ps.length->bindArgs (PySem.W.fnOf "__init__" q (M7 st) (L0 st) (A7 st) .none kV doc pm an cdv ct) ⟨us,[]⟩=pure (ps.zip us)):Ac6 K x q st ps C:=
 ⟨aC,⟨pg,hd,po,sa⟩,f,_,⟨mk,a,i,kc⟩,AT8 l c k,(AT8 (st:=st) l c k).binds b⟩
end Tk
namespace Jh
open PySem PySem.Spec PyProof.Rows L2 Tk Rk
theorem all_mk {P:Program}{w:World}{K:PySem.W.Frag}{h:Heap}{mg:Str->Option Value}{fa:Addr}(X:K.In h)(G:h.Ns mainGlobals mg)(hfa:mg "part"=some (.ref fa))
  {CI:Addr}
  {CJ:Addr}
  {CL:Addr}
  {CM:Addr}
  {tSLASH:Tok}
  {tLINE_END:Tok}
  {tBLANK:Tok}
  {tZERO:Tok}
  {tSMALL_X:Tok}
  {tMOST_DIGITS:Tok}
  {tMOST_HEX_DIGITS:Tok}
  {tLARGEST_NUMBER:Tok}
  {tNAME:Tok}
  {tNUMBER:Tok}
  {tKEPT:Tok}
  {tSIGN:Tok}
  {tNO_TOKEN:Tok}
  {tLONGEST_WORD:Tok}
  {tNOT_A_TOKEN:Tok}
  {tLONGEST_TEXT:Tok}
  {tCANT_STAND:Tok}
  {tTOO_DEEP:Tok}
  {tTOO_MANY:Tok}
  {tMOST_DECLARATIONS:Tok}
  {tDEEPEST:Tok}
  {tSUM_STRENGTH:Tok}
  {tCHOICE_STRENGTH:Tok}
  {tCOMPARISON_STRENGTH:Tok}
  {tSIGNED_STRENGTH:Tok}
  {tPOST_STRENGTH:Tok}
  {tWORD_STRENGTH:Tok}
  {tATOM_OF_ONE_TOKEN:Tok}
  {tFZ:Tok} {aKW aS2 aS1:Addr} {oKW:Obj}
  {aGR aOS:Addr} {es eo:Array DictEntry} {en eon:Nat}
  {aSG:Addr} {oSG:Obj}
  {aRU:Addr} {oRU:Obj}
  {aTR:Addr} {oTR:Obj}
  {aSU:Addr} {oSU:Obj}
  {aON:Addr} {oON:Obj}
  {aPN:Addr} {ep:Array DictEntry} {epn:Nat}
  (d1:TopIs K "is_digit" L3)
  (d2:TopIs K "is_letter" P9)
  (d3:TopIs K "is_blank" X9)
  (d4:TopIs K "is_word_byte" v6)
  (d5:TopIs K "begins_note" Ac3)
  (d6:TopIs K "note_end" W8)
  (d7:TopIs K "behind_blanks" AD7)
  (d8:TopIs K "run_end" AE2)
  (d9:TopIs K "digit_value" W5)
  (d10:TopIs K "value_of_digits" AB3)
  (d11:TopIs K "are_digits" BS0)
  (d12:TopIs K "is_hexadecimal" AI8)
  (d13:TopIs K "is_number" AR8)
  (d14:TopIs K "run_token" AF5)
  (d15:TopIs K "sign_token" j8)
  (d16:TopIs K "scan" Ai7)
  (d17:TopIs K "first_tokens" AB2)
  (d18:TopIs K "full_part" Aa0)
  (d19:TopIs K "ways_by_token" Ac1)
  (d20:TopIs K "node_around" G9)
  (d21:TopIs K "join_last" S7)
  (d22:TopIs K "folded_operators" J8)
  (d23:TopIs K "folded_post" O8)
  (d24:TopIs K "finished_e" U4)
  (d25:TopIs K "finished_one" P3)
  (d26:TopIs K "finished_atom_or_size" F6)
  (d27:TopIs K "finished" S8)
  (d28:TopIs K "symbol_of" p4)
  (d29:TopIs K "can_begin" BJ1)
  (d30:TopIs K "fault_of" AS5)
  (d31:TopIs K "begin_node" P8)
  (d32:TopIs K "end_node" i7)
  (d33:TopIs K "push_way" l8)
  (d34:TopIs K "push_one_and_others" k6)
  (d35:TopIs K "read_once" Ar0)
  (d36:TopIs K "step" Av7)
  (d37:TopIs K "read_text" X6)
  (d38:TopIs K "first_byte" O5)
  (d39:TopIs K "end_byte" U7)
  (d40:TopIs K "place_told" U8)
  (d41:TopIs K "part_number" Q5)
  (d42:TopIs K "inner_at" j7)
  (d43:TopIs K "smallest_part_told" J1)
  (d44:TopIs K "part" BA9)
  (cI:Ac6 K "Token" "Token.__init__" At3 ["self","first","length","what","which"] CI)
  (nIfirst:PySem.W.findIn K (.ref CI) "first"=some none)
  (nIlength:PySem.W.findIn K (.ref CI) "length"=some none)
  (nIwhat:PySem.W.findIn K (.ref CI) "what"=some none)
  (nIwhich:PySem.W.findIn K (.ref CI) "which"=some none)
  (cJ:Ac6 K "Frame" "Frame.__init__" Ac7 ["self","form","symbol","room","depth"] CJ)
  (nJform:PySem.W.findIn K (.ref CJ) "form"=some none)
  (nJsymbol:PySem.W.findIn K (.ref CJ) "symbol"=some none)
  (nJroom:PySem.W.findIn K (.ref CJ) "room"=some none)
  (nJdepth:PySem.W.findIn K (.ref CJ) "depth"=some none)
  (cL:Ac6 K "Reading" "Reading.__init__" l9 ["self","found"] CL)
  (nLfound:PySem.W.findIn K (.ref CL) "found"=some none)
  (nLsymbols:PySem.W.findIn K (.ref CL) "symbols"=some none)
  (nLways:PySem.W.findIn K (.ref CL) "ways"=some none)
  (nLat:PySem.W.findIn K (.ref CL) "at"=some none)
  (nLfault:PySem.W.findIn K (.ref CL) "fault"=some none)
  (nLprogram:PySem.W.findIn K (.ref CL) "program"=some none)
  (nLbegun:PySem.W.findIn K (.ref CL) "begun"=some none)
  (nLframes:PySem.W.findIn K (.ref CL) "frames"=some none)
  (cM:Ac6 K "Node" "Node.__init__" Ab6 ["self","kind","first"] CM)
  (nMkind:PySem.W.findIn K (.ref CM) "kind"=some none)
  (nMfirst:PySem.W.findIn K (.ref CM) "first"=some none)
  (nMbehind:PySem.W.findIn K (.ref CM) "behind"=some none)
  (nMinner:PySem.W.findIn K (.ref CM) "inner"=some none)
  (nMis_pair:PySem.W.findIn K (.ref CM) "is_pair"=some none)
  (nMstrength:PySem.W.findIn K (.ref CM) "strength"=some none)
  (nMleast:PySem.W.findIn K (.ref CM) "least"=some none)
  (z_len:PySem.W.nsIn K mainGlobals "len"=some none)
  (z_isinstance:PySem.W.nsIn K mainGlobals "isinstance"=some none)
  (z_str:PySem.W.nsIn K mainGlobals "str"=some none)
  (z_tuple:PySem.W.nsIn K mainGlobals "tuple"=some none)
  (z_reversed:PySem.W.nsIn K mainGlobals "reversed"=some none)
  (gSLASH:PySem.W.nsIn K mainGlobals "SLASH"=some (some (.int 47 tSLASH)))
  (gLINE_END:PySem.W.nsIn K mainGlobals "LINE_END"=some (some (.int 10 tLINE_END)))
  (gBLANK:PySem.W.nsIn K mainGlobals "BLANK"=some (some (.int 32 tBLANK)))
  (gZERO:PySem.W.nsIn K mainGlobals "ZERO"=some (some (.int 48 tZERO)))
  (gSMALL_X:PySem.W.nsIn K mainGlobals "SMALL_X"=some (some (.int 120 tSMALL_X)))
  (gMOST_DIGITS:PySem.W.nsIn K mainGlobals "MOST_DIGITS"=some (some (.int 19 tMOST_DIGITS)))
  (gMOST_HEX_DIGITS:PySem.W.nsIn K mainGlobals "MOST_HEX_DIGITS"=some (some (.int 16 tMOST_HEX_DIGITS)))
  (gLARGEST_NUMBER:PySem.W.nsIn K mainGlobals "LARGEST_NUMBER"=some (some (.int 9223372036854775807 tLARGEST_NUMBER)))
  (gNAME:PySem.W.nsIn K mainGlobals "NAME"=some (some (.int 0 tNAME)))
  (gNUMBER:PySem.W.nsIn K mainGlobals "NUMBER"=some (some (.int 1 tNUMBER)))
  (gKEPT:PySem.W.nsIn K mainGlobals "KEPT"=some (some (.int 2 tKEPT)))
  (gSIGN:PySem.W.nsIn K mainGlobals "SIGN"=some (some (.int 3 tSIGN)))
  (gNO_TOKEN:PySem.W.nsIn K mainGlobals "NO_TOKEN"=some (some (.int 4 tNO_TOKEN)))
  (gLONGEST_WORD:PySem.W.nsIn K mainGlobals "LONGEST_WORD"=some (some (.int 32 tLONGEST_WORD)))
  (gNOT_A_TOKEN:PySem.W.nsIn K mainGlobals "NOT_A_TOKEN"=some (some (.int 1 tNOT_A_TOKEN)))
  (gLONGEST_TEXT:PySem.W.nsIn K mainGlobals "LONGEST_TEXT"=some (some (.int 1048576 tLONGEST_TEXT)))
  (gCANT_STAND:PySem.W.nsIn K mainGlobals "CANT_STAND"=some (some (.int 2 tCANT_STAND)))
  (gTOO_DEEP:PySem.W.nsIn K mainGlobals "TOO_DEEP"=some (some (.int 3 tTOO_DEEP)))
  (gTOO_MANY:PySem.W.nsIn K mainGlobals "TOO_MANY"=some (some (.int 4 tTOO_MANY)))
  (gMOST_DECLARATIONS:PySem.W.nsIn K mainGlobals "MOST_DECLARATIONS"=some (some (.int 4096 tMOST_DECLARATIONS)))
  (gDEEPEST:PySem.W.nsIn K mainGlobals "DEEPEST"=some (some (.int 128 tDEEPEST)))
  (gSUM_STRENGTH:PySem.W.nsIn K mainGlobals "SUM_STRENGTH"=some (some (.int 0 tSUM_STRENGTH)))
  (gCHOICE_STRENGTH:PySem.W.nsIn K mainGlobals "CHOICE_STRENGTH"=some (some (.int 1 tCHOICE_STRENGTH)))
  (gCOMPARISON_STRENGTH:PySem.W.nsIn K mainGlobals "COMPARISON_STRENGTH"=some (some (.int 4 tCOMPARISON_STRENGTH)))
  (gSIGNED_STRENGTH:PySem.W.nsIn K mainGlobals "SIGNED_STRENGTH"=some (some (.int 11 tSIGNED_STRENGTH)))
  (gPOST_STRENGTH:PySem.W.nsIn K mainGlobals "POST_STRENGTH"=some (some (.int 12 tPOST_STRENGTH)))
  (gWORD_STRENGTH:PySem.W.nsIn K mainGlobals "WORD_STRENGTH"=some (some (.int 13 tWORD_STRENGTH)))
  (gATOM_OF_ONE_TOKEN:PySem.W.nsIn K mainGlobals "ATOM_OF_ONE_TOKEN"=some (some (.int 8 tATOM_OF_ONE_TOKEN)))
  (gFZ:PySem.W.nsIn K mainGlobals "FROM_0_TO_Z"=some (some (.str Ag6 tFZ))) (gKW:PySem.W.nsIn K mainGlobals "KEPT_WORDS"=some (some (.ref aKW))) (lKW:K.lookup aKW=some oKW) (gS2:PySem.W.nsIn K mainGlobals "SIGNS_OF_TWO"=some (some (.ref aS2))) (gS1:PySem.W.nsIn K mainGlobals "SIGNS_OF_ONE"=some (some (.ref aS1)))
  (xKW:A41 oKW=some Y9) (xS2:A75 P w K aS2=some Bc9) (xS1:A80 K aS1=some Be7) (yS2:(aS2==sysModules)=false) (yS1:(aS1==sysModules)=false)
  (gSG:PySem.W.nsIn K mainGlobals "SIGNS"=some (some (.ref aSG))) (lSG:K.lookup aSG=some oSG) (xSG:A41 oSG=some AO6)
  (gRU:PySem.W.nsIn K mainGlobals "RULES_THAT_COUNT_AS_DEEP"=some (some (.ref aRU))) (lRU:K.lookup aRU=some oRU) (xRU:A41 oRU=some x6)
  (gTR:PySem.W.nsIn K mainGlobals "RULES_IN_THE_TREE"=some (some (.ref aTR))) (lTR:K.lookup aTR=some oTR) (xTR:A41 oTR=some Aa1)
  (gSU:PySem.W.nsIn K mainGlobals "BEGINNINGS_OF_A_SUM"=some (some (.ref aSU))) (lSU:K.lookup aSU=some oSU) (xSU:A41 oSU=some BH5)
  (gON:PySem.W.nsIn K mainGlobals "SIGNS_OF_A_ONE"=some (some (.ref aON))) (lON:K.lookup aON=some oON) (xON:A41 oON=some BH4)
  (gGR:PySem.W.nsIn K mainGlobals "GRAMMAR"=some (some (.ref aGR))) (lGR:K.lookup aGR=some ⟨.type "dict",none,.dict es en,#[]⟩) (hKL:PySem.W.KeysLit w.params es.toList) (xGR:Ad9 K es.toList=some gr) (kit:PySem.W.kitOne K (.type "tuple") (.type "str")=some false) (yGR:(aGR==sysModules)=false)
  (gOS:PySem.W.nsIn K mainGlobals "OPERATOR_STRENGTHS"=some (some (.ref aOS))) (lOS:K.lookup aOS=some ⟨.type "dict",none,.dict eo eon,#[]⟩) (hOS:PySem.W.KeysLit w.params eo.toList) (xOS:AF8 eo.toList=some BT1) (yOS:(aOS==sysModules)=false)
  (yJL:CJ≠CL) (yML:CM≠CL) (yJM:CJ≠CM) (yIL:CI≠CL)
  (gPN:PySem.W.nsIn K mainGlobals "PART_NUMBERS"=some (some (.ref aPN))) (lPN:K.lookup aPN=some ⟨.type "dict",none,.dict ep epn,#[]⟩) (hPN:PySem.W.KeysLit w.params ep.toList) (xPN:AF8 ep.toList=some pnL) (yPN:(aPN==sysModules)=false):
  ∃fd:FuncData,(∀(s:Shared) (us:List Value),us.length=(["at","t"]:List Str).length->BindsTo s fd ⟨us,[]⟩ ((["at","t"]:List Str).zip us))/\∀base:Heap,K.In base->base.Ns mainGlobals mg->D3 P w K mg base CX0 10 fa fd ["at","t"] (Rk.spPart K):=by
 obtain⟨_,_,N1,_⟩:=d1.fn X G ["byte"] fun _ _ _ _ _ _ us hl=>match us,hl with |[_],_=>rfl
 obtain⟨_,_,N2,_⟩:=d2.fn X G ["byte"] fun _ _ _ _ _ _ us hl=>match us,hl with |[_],_=>rfl
 obtain⟨_,_,N3,_⟩:=d3.fn X G ["byte"] fun _ _ _ _ _ _ us hl=>match us,hl with |[_],_=>rfl
 obtain⟨_,_,N4,_⟩:=d4.fn X G ["byte"] fun _ _ _ _ _ _ us hl=>match us,hl with |[_],_=>rfl
 obtain⟨_,_,N5,_⟩:=d5.fn X G ["t","at"] fun _ _ _ _ _ _ us hl=>match us,hl with |[_,_],_=>rfl
 obtain⟨_,_,N6,_⟩:=d6.fn X G ["t","at"] fun _ _ _ _ _ _ us hl=>match us,hl with |[_,_],_=>rfl
 obtain⟨_,_,N7,_⟩:=d7.fn X G ["t","at"] fun _ _ _ _ _ _ us hl=>match us,hl with |[_,_],_=>rfl
 obtain⟨_,_,N8,_⟩:=d8.fn X G ["t","at"] fun _ _ _ _ _ _ us hl=>match us,hl with |[_,_],_=>rfl
 obtain⟨_,_,N9,_⟩:=d9.fn X G ["byte"] fun _ _ _ _ _ _ us hl=>match us,hl with |[_],_=>rfl
 obtain⟨_,_,N10,_⟩:=d10.fn X G ["digits","base"] fun _ _ _ _ _ _ us hl=>match us,hl with |[_,_],_=>rfl
 obtain⟨_,_,N11,_⟩:=d11.fn X G ["digits","base","most"] fun _ _ _ _ _ _ us hl=>match us,hl with |[_,_,_],_=>rfl
 obtain⟨_,_,N12,_⟩:=d12.fn X G ["run"] fun _ _ _ _ _ _ us hl=>match us,hl with |[_],_=>rfl
 obtain⟨_,_,N13,_⟩:=d13.fn X G ["run"] fun _ _ _ _ _ _ us hl=>match us,hl with |[_],_=>rfl
 obtain⟨_,_,N14,_⟩:=d14.fn X G ["t","at"] fun _ _ _ _ _ _ us hl=>match us,hl with |[_,_],_=>rfl
 obtain⟨_,_,N15,_⟩:=d15.fn X G ["t","at"] fun _ _ _ _ _ _ us hl=>match us,hl with |[_,_],_=>rfl
 obtain⟨_,_,N16,_⟩:=d16.fn X G ["t"] fun _ _ _ _ _ _ us hl=>match us,hl with |[_],_=>rfl
 obtain⟨_,_,N17,_⟩:=d17.fn X G ["symbol"] fun _ _ _ _ _ _ us hl=>match us,hl with |[_],_=>rfl
 obtain⟨_,_,N18,_⟩:=d18.fn X G ["part"] fun _ _ _ _ _ _ us hl=>match us,hl with |[_],_=>rfl
 obtain⟨_,_,N19,_⟩:=d19.fn X G [] fun _ _ _ _ _ _ us hl=>match us,hl with |[],_=>rfl
 obtain⟨_,_,N20,_⟩:=d20.fn X G ["kind","inner","behind","strength"] fun _ _ _ _ _ _ us hl=>match us,hl with |[_,_,_,_],_=>rfl
 obtain⟨_,_,N21,_⟩:=d21.fn X G ["operands","strengths"] fun _ _ _ _ _ _ us hl=>match us,hl with |[_,_],_=>rfl
 obtain⟨_,_,N22,_⟩:=d22.fn X G ["node","symbols"] fun _ _ _ _ _ _ us hl=>match us,hl with |[_,_],_=>rfl
 obtain⟨_,_,N23,_⟩:=d23.fn X G ["node"] fun _ _ _ _ _ _ us hl=>match us,hl with |[_],_=>rfl
 obtain⟨_,_,N24,_⟩:=d24.fn X G ["node","symbols"] fun _ _ _ _ _ _ us hl=>match us,hl with |[_,_],_=>rfl
 obtain⟨_,_,N25,_⟩:=d25.fn X G ["node","symbols"] fun _ _ _ _ _ _ us hl=>match us,hl with |[_,_],_=>rfl
 obtain⟨_,_,N26,_⟩:=d26.fn X G ["node","symbols"] fun _ _ _ _ _ _ us hl=>match us,hl with |[_,_],_=>rfl
 obtain⟨_,_,N27,_⟩:=d27.fn X G ["node","symbols"] fun _ _ _ _ _ _ us hl=>match us,hl with |[_,_],_=>rfl
 obtain⟨_,_,N28,_⟩:=d28.fn X G ["token"] fun _ _ _ _ _ _ us hl=>match us,hl with |[_],_=>rfl
 obtain⟨_,_,N29,_⟩:=d29.fn X G ["reading","symbol","token"] fun _ _ _ _ _ _ us hl=>match us,hl with |[_,_,_],_=>rfl
 obtain⟨_,_,N30,_⟩:=d30.fn X G ["reading","frame","token"] fun _ _ _ _ _ _ us hl=>match us,hl with |[_,_,_],_=>rfl
 obtain⟨_,_,N31,_⟩:=d31.fn X G ["reading","rule"] fun _ _ _ _ _ _ us hl=>match us,hl with |[_,_],_=>rfl
 obtain⟨_,_,N32,_⟩:=d32.fn X G ["reading"] fun _ _ _ _ _ _ us hl=>match us,hl with |[_],_=>rfl
 obtain⟨_,_,N33,_⟩:=d33.fn X G ["reading","frame","token"] fun _ _ _ _ _ _ us hl=>match us,hl with |[_,_,_],_=>rfl
 obtain⟨_,_,N34,_⟩:=d34.fn X G ["reading","frame"] fun _ _ _ _ _ _ us hl=>match us,hl with |[_,_],_=>rfl
 obtain⟨_,_,N35,_⟩:=d35.fn X G ["reading","frame","token"] fun _ _ _ _ _ _ us hl=>match us,hl with |[_,_,_],_=>rfl
 obtain⟨_,_,N36,_⟩:=d36.fn X G ["reading"] fun _ _ _ _ _ _ us hl=>match us,hl with |[_],_=>rfl
 obtain⟨_,_,N37,_⟩:=d37.fn X G ["t"] fun _ _ _ _ _ _ us hl=>match us,hl with |[_],_=>rfl
 obtain⟨_,_,N38,_⟩:=d38.fn X G ["reading","node"] fun _ _ _ _ _ _ us hl=>match us,hl with |[_,_],_=>rfl
 obtain⟨_,_,N39,_⟩:=d39.fn X G ["reading","node"] fun _ _ _ _ _ _ us hl=>match us,hl with |[_,_],_=>rfl
 obtain⟨_,_,N40,_⟩:=d40.fn X G ["reading","node"] fun _ _ _ _ _ _ us hl=>match us,hl with |[_,_],_=>rfl
 obtain⟨_,_,N41,_⟩:=d41.fn X G ["node"] fun _ _ _ _ _ _ us hl=>match us,hl with |[_],_=>rfl
 obtain⟨_,_,N42,_⟩:=d42.fn X G ["reading","node","at"] fun _ _ _ _ _ _ us hl=>match us,hl with |[_,_,_],_=>rfl
 obtain⟨_,_,N43,_⟩:=d43.fn X G ["reading","at"] fun _ _ _ _ _ _ us hl=>match us,hl with |[_,_],_=>rfl
 obtain⟨_,_,N44,bb⟩:=d44.fn X G ["at","t"] fun _ _ _ _ _ _ us hl=>match us,hl with |[_,_],_=>rfl
 cases hfa.symm.trans N44.g
 have tx:Tk.Txt mg:=⟨PySem.W.mg_none_of X G z_len,K2 X G gSLASH,K2 X G gLINE_END,K2 X G gBLANK,K2 X G gZERO,K2 X G gSMALL_X,K2 X G gMOST_DIGITS,K2 X G gMOST_HEX_DIGITS,K2 X G gLARGEST_NUMBER⟩
 have tx2:Ao9 P w K mg CI:=⟨tx,cI.cl,nIfirst,nIlength,nIwhat,nIwhich,PySem.W.mg_of X G cI.aC,K2 X G gNAME,K2 X G gNUMBER,K2 X G gKEPT,K2 X G gSIGN,K2 X G gNO_TOKEN,K2 X G gLONGEST_WORD,K2 X G gNOT_A_TOKEN,K2 X G gLONGEST_TEXT,⟨_,PySem.W.mg_of X G gFZ⟩,⟨_,PySem.W.mg_of X G gKW,a9 lKW xKW⟩,⟨_,PySem.W.mg_of X G gS2,A55 xS2 (by decide+kernel) yS2⟩,⟨_,PySem.W.mg_of X G gS1,A62 xS1 (by decide+kernel) yS1⟩⟩
 obtain⟨fI,dI,mkI,FI,bI⟩:=cI.F
 have O:BS8 P w K mg CI fI dI:=⟨tx2,mkI,FI,bI⟩
 have Z:Sc P w K mg CI:=⟨tx2,⟨_,_,O⟩,⟨_,_,N1⟩,⟨_,_,N2⟩,⟨_,_,N3⟩,⟨_,_,N4⟩,⟨_,_,N8⟩,⟨_,_,N9⟩,⟨_,_,N10⟩,⟨_,_,N11⟩,⟨_,_,N12⟩,⟨_,_,N13⟩,⟨_,_,N7⟩,⟨_,_,N14⟩,⟨_,_,N15⟩,⟨_,_,N5⟩,⟨_,_,N6⟩,⟨_,_,N16⟩⟩
 obtain⟨fJ,dJ,mkJ,FJ,bJ⟩:=cJ.F
 have OJ:FrC K mg CJ fJ dJ:=⟨mkJ,cJ.cl,nJform,nJsymbol,nJroom,nJdepth,PySem.W.mg_of X G cJ.aC,FJ,bJ⟩
 have OM:NdC K mg CM:=⟨cM.F,cM.cl,nMkind,nMfirst,nMbehind,nMinner,nMis_pair,nMstrength,nMleast,PySem.W.mg_of X G cM.aC,K2 X G gSUM_STRENGTH,K2 X G gCHOICE_STRENGTH,K2 X G gCOMPARISON_STRENGTH,K2 X G gSIGNED_STRENGTH,K2 X G gPOST_STRENGTH,K2 X G gWORD_STRENGTH⟩
 have OL:RdC K mg CL:=⟨PySem.W.mg_of X G cL.aC,cL.F⟩
 have XR:TxR P w K mg CL CJ CM:=⟨cL.cl,nLfound,nLsymbols,nLways,nLat,nLfault,nLprogram,nLbegun,nLframes,yJL,yML,yJM,K2 X G gCANT_STAND,K2 X G gTOO_DEEP,K2 X G gTOO_MANY,K2 X G gNOT_A_TOKEN,K2 X G gMOST_DECLARATIONS,K2 X G gDEEPEST,⟨_,PySem.W.mg_of X G gRU,(a9 lRU xRU).2⟩,⟨_,PySem.W.mg_of X G gTR,(a9 lTR xTR).2⟩,PySem.W.mg_none_of X G z_reversed⟩
 have XG:TxG P w K mg gr:=⟨PySem.W.mg_none_of X G z_isinstance,PySem.W.mg_none_of X G z_str,PySem.W.mg_none_of X G z_tuple,kit,⟨_,PySem.W.mg_of X G gGR,A97 lGR hKL xGR BR5 yGR⟩⟩
 have XO:TxO P w K mg:=⟨⟨_,PySem.W.mg_of X G gOS,Ao0 lOS hOS xOS (by decide+kernel) yOS⟩,⟨_,PySem.W.mg_of X G gSU,(a9 lSU xSU).2⟩,⟨_,PySem.W.mg_of X G gON,(a9 lON xON).2⟩,PySem.W.mg_none_of X G z_len⟩
 have XT:TrF K mg:=⟨⟨_,_,N20⟩,⟨_,_,N21⟩,⟨_,_,N22⟩,⟨_,_,N23⟩,⟨_,_,N24⟩,⟨_,_,N25⟩,⟨_,_,N26⟩⟩
 have XF:RdF P w K mg CL CJ CM:=⟨XR,⟨_,_,OJ⟩,OM,XO,XT,⟨_,_,N29⟩,⟨_,_,N30⟩,⟨_,_,N31⟩,⟨_,_,N32⟩,⟨_,_,N27⟩,⟨_,_,N33⟩,⟨_,_,N34⟩,⟨_,_,N35⟩⟩
 have XW:RtF P w K mg CI CL CJ CM:=⟨XF,Z,yIL,OL,⟨_,PySem.W.mg_of X G gSG,(a9 lSG xSG).2⟩,XG,⟨_,_,N19⟩,⟨_,_,N18⟩,⟨_,_,N17⟩,⟨_,_,N28⟩,⟨_,_,N16⟩,⟨_,_,N36⟩⟩
 exact⟨_,bb,fun base _ _=>BG0 N44.F XW N37 N43 ⟨⟨_,_,N41⟩,⟨_,_,N42⟩,⟨_,_,N38⟩,⟨_,_,N39⟩,⟨_,_,N40⟩,K2 X G gATOM_OF_ONE_TOKEN,⟨_,PySem.W.mg_of X G gPN,Ao0 lPN hPN xPN (by decide+kernel) yPN⟩⟩⟩
end Jh
open PySem PySem.W PyProof.Rows
namespace PySem.W.Fast
theorem tw11960000471461037590:1=1:=rfl
theorem tw3089776097352001570:1=1:=rfl
theorem tw12826594821896434414:1=1:=rfl
theorem tw12165397522113758456:1=1:=rfl
theorem tw1222433653439256938:1=1:=rfl
theorem tw6214066360181426702:1=1:=rfl
theorem tw3276688586668867056:1=1:=rfl
theorem tw18185748488136988281:1=1:=rfl
theorem tw12395941643363347684:1=1:=rfl
theorem tw16801005853877226947:1=1:=rfl
theorem tw11885794827098278700:1=1:=rfl
theorem tw1302610634090102953:1=1:=rfl
theorem tw7375405438454166096:1=1:=rfl
theorem tw9457648799726759907:1=1:=rfl
theorem tw4689879510601152717:1=1:=rfl
theorem tw8384025084123287323:1=1:=rfl
theorem tw16621939733520201079:1=1:=rfl
theorem tw15722323411199074284:1=1:=rfl
theorem tw18260275878739982990:1=1:=rfl
theorem tw7562666274327483857:1=1:=rfl
theorem tw2723385252577229369:1=1:=rfl
theorem tw16218274759125099509:1=1:=rfl
theorem tw8852398510718083791:1=1:=rfl
theorem tw3997106641186798934:1=1:=rfl
theorem tw5984538456302028634:1=1:=rfl
theorem tw8624185184178243275:1=1:=rfl
theorem tw4135566910969291361:1=1:=rfl
theorem tw466994052573433435:1=1:=rfl
theorem tw11372212687866109339:1=1:=rfl
theorem tw5062133433569146598:1=1:=rfl
theorem tw15611127272864638146:1=1:=rfl
theorem tw15498092464267289119:1=1:=rfl
theorem tw11377699335306355375:1=1:=rfl
theorem tw4163232534821054163:1=1:=rfl
theorem tw13737633374076667984:1=1:=rfl
theorem tw16396100748903320562:1=1:=rfl
theorem tw5242700186166953061:1=1:=rfl
theorem tw14892949577076477806:1=1:=rfl
theorem tw7896335904942930123:1=1:=rfl
theorem tw11532469574529138715:1=1:=rfl
theorem tw17999585536213315374:1=1:=rfl
theorem tw11666821029941395823:1=1:=rfl
theorem tw17520520985388191219:1=1:=rfl
theorem tw3428437002872391843:1=1:=rfl
theorem tw11562971270807685801:1=1:=rfl
theorem tw17686355824732749354:1=1:=rfl
theorem tw13455065284995940315:1=1:=rfl
theorem tw2364961752745119247:1=1:=rfl
theorem tw31660763993636593:1=1:=rfl
theorem tw14491640878988799801:1=1:=rfl
theorem tw5477184311765448092:1=1:=rfl
theorem tw18186415259310058368:1=1:=rfl
theorem tw11849608446344948712:1=1:=rfl
theorem tw13835641345240375762:1=1:=rfl
theorem tw11718041699168311001:1=1:=rfl
theorem tw9268450881781760398:1=1:=rfl
theorem tw2744057229903058033:1=1:=rfl
theorem tw15429478954050451562:1=1:=rfl
theorem tw4360862245729040275:1=1:=rfl
theorem tw18363933587730008051:1=1:=rfl
theorem tw6265783105093205997:1=1:=rfl
theorem tw2740221125360084847:1=1:=rfl
theorem tw10231084198008798238:1=1:=rfl
theorem tw10452056977968641301:1=1:=rfl
theorem tw11238515841019202905:1=1:=rfl
theorem tw17184176440327940414:1=1:=rfl
theorem tw18297757759845948734:1=1:=rfl
theorem tw14766546089361103881:1=1:=rfl
theorem tw11705808315930223397:1=1:=rfl
theorem tw17425040351601550498:1=1:=rfl
theorem tw12252143834550187478:1=1:=rfl
theorem tw13401082823138185702:1=1:=rfl
theorem tw3573809613431152166:1=1:=rfl
theorem tw2391586205382159259:1=1:=rfl
theorem tw7790556780466877982:1=1:=rfl
theorem tw8244441968956409701:1=1:=rfl
theorem tw5545915327170243820:1=1:=rfl
theorem tw17963783183174258275:1=1:=rfl
theorem tw6948842956495333828:1=1:=rfl
theorem tw3889474366056294725:1=1:=rfl
theorem tw9411269160611897872:1=1:=rfl
theorem tw8654434606271654978:1=1:=rfl
theorem tw16422300170164251360:1=1:=rfl
theorem tw14515338723014745310:1=1:=rfl
theorem tw16184126458541760766:1=1:=rfl
theorem tw10536568530773475073:1=1:=rfl
theorem tw5011470082532435926:1=1:=rfl
theorem tw14213317652509415339:1=1:=rfl
theorem tw4821498785916718784:1=1:=rfl
theorem tw10471490364926339072:1=1:=rfl
theorem tw5334445711336334465:1=1:=rfl
theorem tw4707859375714035768:1=1:=rfl
theorem tw667581010959108550:1=1:=rfl
theorem tw140277101995682106:1=1:=rfl
theorem tw10178401927303867271:1=1:=rfl
theorem tw7480823745930569218:1=1:=rfl
theorem tw3169892511797899606:1=1:=rfl
theorem tw315761398548076075:1=1:=rfl
theorem tw9756957517204432323:1=1:=rfl
theorem tw17097679405098126752:1=1:=rfl
theorem tw17743381903794026113:1=1:=rfl
theorem tw5616525092915258737:1=1:=rfl
theorem tw5793685585757363958:1=1:=rfl
theorem tw6358680986875262645:1=1:=rfl
theorem tw15785472127109707699:1=1:=rfl
theorem tw4012260486518635601:1=1:=rfl
theorem tw5055392124873772209:1=1:=rfl
theorem tw11699572887107636755:1=1:=rfl
theorem tw15701605178331153781:1=1:=rfl
theorem tw11580509452218711275:1=1:=rfl
theorem tw14167798971377262453:1=1:=rfl
theorem tw18121587641841432795:1=1:=rfl
theorem tw5397825172321205793:1=1:=rfl
theorem tw14778945154213974403:1=1:=rfl
theorem tw2827250370079109361:1=1:=rfl
theorem tw8206878251884211744:1=1:=rfl
theorem tw8029000332278016546:1=1:=rfl
theorem tw7325771592573185461:1=1:=rfl
theorem tw11317678575407281135:1=1:=rfl
theorem tw12014061377157277799:1=1:=rfl
theorem tw12245699430052750171:1=1:=rfl
theorem tw16559216329342374721:1=1:=rfl
theorem tw5145931842419366506:1=1:=rfl
theorem tw1892136345983115003:1=1:=rfl
theorem tw7168487428971609568:1=1:=rfl
theorem tw12101045805569464039:1=1:=rfl
theorem tw11820451965633465132:1=1:=rfl
theorem tw8841395136281911528:1=1:=rfl
theorem tw8358667675887144790:1=1:=rfl
theorem tw17499739648489579446:1=1:=rfl
theorem tw15773086189233967159:1=1:=rfl
theorem tw5419442463867820401:1=1:=rfl
theorem tw9325713759378848332:1=1:=rfl
theorem tw11253867591950944446:1=1:=rfl
theorem tw16800434798806166163:1=1:=rfl
theorem tw14637365852584169066:1=1:=rfl
theorem tw2948816640397737392:1=1:=rfl
theorem tw17611155681054322256:1=1:=rfl
theorem tw3881021599233009087:1=1:=rfl
theorem tw16547809350783680469:1=1:=rfl
theorem tw15536638366961093760:1=1:=rfl
theorem tw5245334177212601987:1=1:=rfl
theorem tw17297751065529160719:1=1:=rfl
theorem tw12860346212366403320:1=1:=rfl
theorem tw9897674332058175474:1=1:=rfl
theorem tw12567359906644603041:1=1:=rfl
theorem tw9027975524781986169:1=1:=rfl
theorem tw3278262375965330042:1=1:=rfl
theorem tw8891295620376633831:1=1:=rfl
theorem tw4012995319445416791:1=1:=rfl
theorem tw17094867698993574708:1=1:=rfl
theorem tw15915894286679330629:1=1:=rfl
theorem tw6239565533986823495:1=1:=rfl
theorem tw11182662462092428939:1=1:=rfl
theorem tw13394920089198320217:1=1:=rfl
theorem tw16437236252978404907:1=1:=rfl
theorem tw15614586926919014498:1=1:=rfl
theorem tw10766194539415543779:1=1:=rfl
theorem tw13537762098729055321:1=1:=rfl
theorem tw16520413671707716749:1=1:=rfl
theorem tw16686413191549944342:1=1:=rfl
theorem tw1190995822057793328:1=1:=rfl
theorem tw14089299216260931334:1=1:=rfl
theorem tw6794226126034023232:1=1:=rfl
theorem tw524514251179955567:1=1:=rfl
theorem tw14087202845355305647:1=1:=rfl
theorem tw9777862248064337635:1=1:=rfl
theorem tw15019063767503264860:1=1:=rfl
theorem tw16634292620485920595:1=1:=rfl
theorem tw18380659612804690272:1=1:=rfl
theorem tw15514726089202597238:1=1:=rfl
theorem tw2367898027799356403:1=1:=rfl
theorem tw6582336637923681111:1=1:=rfl
theorem tw15540778471886652588:1=1:=rfl
theorem tw8149614878364293121:1=1:=rfl
theorem tw13199093377383556374:1=1:=rfl
theorem tw396790060918379902:1=1:=rfl
theorem tw5590058519637086414:1=1:=rfl
theorem tw12681648064878422611:1=1:=rfl
theorem tw15841659782606515138:1=1:=rfl
theorem tw11159774575970866088:1=1:=rfl
theorem tw10929575132167242075:1=1:=rfl
theorem tw2114455231559137393:1=1:=rfl
theorem tw8871656057989399926:1=1:=rfl
theorem tw2412466613569307014:1=1:=rfl
theorem tw2954857126474048414:1=1:=rfl
theorem tw4234029378144970957:1=1:=rfl
theorem tw16541600187821741573:1=1:=rfl
theorem tw2400679569143772303:1=1:=rfl
theorem tw13004980750402757197:1=1:=rfl
theorem tw16310365365315523749:1=1:=rfl
theorem tw9775666827765286081:1=1:=rfl
theorem tw5333559340886518963:1=1:=rfl
theorem tw10471420587054016147:1=1:=rfl
theorem tw6572169849269194793:1=1:=rfl
theorem tw14771603385024186521:1=1:=rfl
theorem tw2555755908754507440:1=1:=rfl
theorem tw12390992602634558521:1=1:=rfl
theorem tw16435474021892787507:1=1:=rfl
theorem tw7053485935334510702:1=1:=rfl
theorem tw6887526649513474846:1=1:=rfl
theorem tw12683785061769148980:1=1:=rfl
theorem tw2598618198261264554:1=1:=rfl
theorem tw4899202073833670604:1=1:=rfl
theorem tw13810380960908685259:1=1:=rfl
theorem tw4727823663085749304:1=1:=rfl
theorem tw16747590876707220567:1=1:=rfl
theorem tw12935033225945283574:1=1:=rfl
theorem tw10265322908134211359:1=1:=rfl
theorem tw14294857978080602732:1=1:=rfl
theorem tw289590480242777852:1=1:=rfl
theorem tw6941837958384874068:1=1:=rfl
theorem tw13369183084419667378:1=1:=rfl
theorem tw13846571205949317141:1=1:=rfl
theorem tw11270962678618868400:1=1:=rfl
theorem tw7512458073319600587:1=1:=rfl
theorem tw15662928868415172127:1=1:=rfl
theorem tw872311647228261258:1=1:=rfl
theorem tw13855071910685607383:1=1:=rfl
theorem tw9009576963050959030:1=1:=rfl
theorem tw17248456025975561686:1=1:=rfl
theorem tw13448426721693422224:1=1:=rfl
theorem tw8070063226999672079:1=1:=rfl
theorem tw6009998020774920820:1=1:=rfl
theorem tw7860220093751361914:1=1:=rfl
theorem tw15558968927890064629:1=1:=rfl
theorem tw15467881894954894043:1=1:=rfl
theorem tw5361924928567435667:1=1:=rfl
theorem tw2682810155082508435:1=1:=rfl
theorem tw12627527988015342416:1=1:=rfl
theorem tw16864522553849719634:1=1:=rfl
theorem tw16584391939861238781:1=1:=rfl
theorem tw8618535667700944414:1=1:=rfl
theorem tw14611404220711086074:1=1:=rfl
theorem tw13216444174175218728:1=1:=rfl
theorem tw6517223885766102437:1=1:=rfl
theorem tw425353943853783775:1=1:=rfl
theorem tw5205017530642279620:1=1:=rfl
theorem tw631400781308481672:1=1:=rfl
theorem tw5243156780992681477:1=1:=rfl
theorem tw1966764099135843070:1=1:=rfl
theorem tw6543774929400849665:1=1:=rfl
theorem tw14193888000431901596:1=1:=rfl
theorem tw900227209707846876:1=1:=rfl
theorem tw15902710955774004760:1=1:=rfl
theorem tw1129378101286921464:1=1:=rfl
theorem tw5700259333939492826:1=1:=rfl
theorem tw6399947054965525127:1=1:=rfl
theorem tw9752162232024512884:1=1:=rfl
theorem tw12526971491478392989:1=1:=rfl
theorem tw15447936070630100176:1=1:=rfl
theorem tw5082933715899339088:1=1:=rfl
theorem tw12095570856489512247:1=1:=rfl
theorem tw764414711286533676:1=1:=rfl
theorem tw8937457876750346157:1=1:=rfl
theorem tw14680669302782867223:1=1:=rfl
theorem tw7402417412432453669:1=1:=rfl
theorem tw3001836983398000653:1=1:=rfl
theorem tw13473820626413408185:1=1:=rfl
theorem tw13609950600996899726:1=1:=rfl
theorem tw17839086781196501932:1=1:=rfl
theorem tw4186193279372458533:1=1:=rfl
theorem tw9460292210883500535:1=1:=rfl
theorem tw4193427244352510058:1=1:=rfl
theorem tw17563812299978172672:1=1:=rfl
theorem tw12282367937971372552:1=1:=rfl
theorem tw10858202388516584292:1=1:=rfl
theorem tw16831904120341309191:1=1:=rfl
theorem tw1520542566808382122:1=1:=rfl
theorem tw13690357592765591532:1=1:=rfl
theorem tw16708679447921079511:1=1:=rfl
theorem tw1731438817653055742:1=1:=rfl
theorem tw8688888873521271342:1=1:=rfl
theorem tw10502946354929493495:1=1:=rfl
theorem tw14314120578828649341:1=1:=rfl
theorem tw11964440086207120478:1=1:=rfl
theorem tw15562831020286362243:1=1:=rfl
theorem tw10896092561404249631:1=1:=rfl
theorem tw12395578184573651942:1=1:=rfl
theorem tw9769588781457621742:1=1:=rfl
theorem tw2056649245029893630:1=1:=rfl
theorem tw9775985963105649753:1=1:=rfl
theorem tw3416477580298702039:1=1:=rfl
theorem tw11423000403614764910:1=1:=rfl
theorem tw17459539632985293855:1=1:=rfl
theorem tw16865930728504136125:1=1:=rfl
theorem tw9902095764992323910:1=1:=rfl
theorem tw12278898922683514720:1=1:=rfl
theorem tw16670579125552768160:1=1:=rfl
theorem tw12648134467371649743:1=1:=rfl
theorem tw16921841832996824799:1=1:=rfl
theorem tw6395121176775395896:1=1:=rfl
theorem tw12537984083928730989:1=1:=rfl
theorem tw15981388201505498839:1=1:=rfl
theorem tw4516063578383315070:1=1:=rfl
theorem tw3352098793309613977:1=1:=rfl
theorem tw15169666482943362942:1=1:=rfl
theorem tw4182777357116993345:1=1:=rfl
theorem tw13265617577365988728:1=1:=rfl
theorem tw2569771097881596033:1=1:=rfl
theorem tw13720028042629770761:1=1:=rfl
theorem tw12832341914515374253:1=1:=rfl
theorem tw7376244623131079363:1=1:=rfl
theorem tw10611162042256259027:1=1:=rfl
theorem tw9486298120013830942:1=1:=rfl
theorem tw5419745088912846896:1=1:=rfl
theorem tw5175865940741647647:1=1:=rfl
theorem tw14224913110729931393:1=1:=rfl
theorem tw1634389263777960279:1=1:=rfl
theorem tw14086986666276711077:1=1:=rfl
theorem tw315112889162386595:1=1:=rfl
theorem tw10422221526849002029:1=1:=rfl
theorem tw15367448786459625611:1=1:=rfl
theorem tw15628445922978243710:1=1:=rfl
theorem tw14945645712685385822:1=1:=rfl
theorem tw5559936669378534758:1=1:=rfl
theorem tw14021775875691303704:1=1:=rfl
theorem tw13539782922625468463:1=1:=rfl
theorem tw664220045432153653:1=1:=rfl
theorem tw7047815479491993956:1=1:=rfl
theorem tw17256408257888114291:1=1:=rfl
theorem tw14015045168001892911:1=1:=rfl
theorem tw11338948309370153403:1=1:=rfl
theorem tw4144835222485781220:1=1:=rfl
theorem tw8456550313197533538:1=1:=rfl
theorem tw9230638118079959459:1=1:=rfl
theorem tw17782064532458535124:1=1:=rfl
theorem tw11315278685483962591:1=1:=rfl
theorem tw10419715274991936134:1=1:=rfl
theorem tw1587591876015100206:1=1:=rfl
theorem tw14140275854400630229:1=1:=rfl
theorem tw13061706071580784511:1=1:=rfl
theorem tw4040142417083090808:1=1:=rfl
theorem tw5802205815168177473:1=1:=rfl
theorem tw257537579334964620:1=1:=rfl
theorem tw3578802871006686214:1=1:=rfl
theorem tw17941783981826875258:1=1:=rfl
theorem tw10830956523675320086:1=1:=rfl
theorem tw9500332419390825868:1=1:=rfl
theorem tw8189868644297600:1=1:=rfl
theorem tw12407663193860349655:1=1:=rfl
theorem tw16095028787983125029:1=1:=rfl
theorem tw1835157153274776479:1=1:=rfl
theorem tw17683697024885884273:1=1:=rfl
theorem tw3158687531849579027:1=1:=rfl
theorem tw11605166665929309418:1=1:=rfl
theorem tw3460153073979728219:1=1:=rfl
theorem tw43547176509877868:1=1:=rfl
theorem tw16605689886990007300:1=1:=rfl
theorem tw14604007471761089403:1=1:=rfl
theorem tw14830656384165915388:1=1:=rfl
theorem tw15344636288026960527:1=1:=rfl
theorem tw2211604075120310691:1=1:=rfl
theorem tw15849189418142420701:1=1:=rfl
theorem tw4273186187297111069:1=1:=rfl
theorem tw18368379975907934905:1=1:=rfl
theorem tw3294033044827352670:1=1:=rfl
theorem tw8564296337858113076:1=1:=rfl
theorem tw12368824437321991231:1=1:=rfl
theorem tw12421287810987131029:1=1:=rfl
theorem tw8073441758359661412:1=1:=rfl
theorem tw8956423880209626366:1=1:=rfl
theorem tw7992641643791492146:1=1:=rfl
theorem tw7917730001141609714:1=1:=rfl
theorem tw15963457450198277144:1=1:=rfl
theorem tw2992901871192832482:1=1:=rfl
theorem tw724698480663802270:1=1:=rfl
theorem tw5435296899008604127:1=1:=rfl
theorem tw7767032153755849813:1=1:=rfl
theorem tw11749692711425639824:1=1:=rfl
theorem tw4862469233672151701:1=1:=rfl
theorem tw1845389873287184908:1=1:=rfl
theorem tw1102404145713718540:1=1:=rfl
theorem tw16676557826338950908:1=1:=rfl
theorem tw5454461308180151658:1=1:=rfl
theorem tw3334674464065533031:1=1:=rfl
theorem tw12147199688014201775:1=1:=rfl
theorem tw10592316936616637840:1=1:=rfl
theorem tw12548163124009797724:1=1:=rfl
theorem tw14084244608371058988:1=1:=rfl
theorem tw14142961627503826435:1=1:=rfl
theorem tw11724506744841555715:1=1:=rfl
theorem tw4164169827248124103:1=1:=rfl
end PySem.W.Fast
set_option maxRecDepth 100000 in
set_option maxHeartbeats 0 in
theorem PySem.Challenge.cw_rilltexts_s07_part_holds : PySem.Challenge.rw_rilltexts_s07_part.Holds := by
 w_on;k_headS;(case hw=>exact⟨[.int 0,.list []],by decide+kernel,by decide+kernel⟩)
 k_fillS
 refine L2.walk_specK (r:=PySem.Challenge.rw_rilltexts_s07_part) (k:=10) (CX:=L2.CX0) (ps:=["at","t"]) (sp:=Rk.spPart) (by decide+kernel) rfl rfl ⟨rfl,by decide,by decide⟩ (fun w h Y=>PySem.W.kIn_of Y) ?F ?S (fun _ _ _ _ z=>z)
 case F=>
  intro w mg fa h Y KX G hmg
  refine' Jh.all_mk KX G hmg ?d1 ?d2 ?d3 ?d4 ?d5 ?d6 ?d7 ?d8 ?d9 ?d10 ?d11 ?d12 ?d13 ?d14 ?d15 ?d16 ?d17 ?d18 ?d19 ?d20 ?d21 ?d22 ?d23 ?d24 ?d25 ?d26 ?d27 ?d28 ?d29 ?d30 ?d31 ?d32 ?d33 ?d34 ?d35 ?d36 ?d37 ?d38 ?d39 ?d40 ?d41 ?d42 ?d43 ?d44 ?cI ?nIfirst ?nIlength ?nIwhat ?nIwhich ?cJ ?nJform ?nJsymbol ?nJroom ?nJdepth ?cL ?nLfound ?nLsymbols ?nLways ?nLat ?nLfault ?nLprogram ?nLbegun ?nLframes ?cM ?nMkind ?nMfirst ?nMbehind ?nMinner ?nMis_pair ?nMstrength ?nMleast ?z_len ?z_isinstance ?z_str ?z_tuple ?z_reversed ?gSLASH ?gLINE_END ?gBLANK ?gZERO ?gSMALL_X ?gMOST_DIGITS ?gMOST_HEX_DIGITS ?gLARGEST_NUMBER ?gNAME ?gNUMBER ?gKEPT ?gSIGN ?gNO_TOKEN ?gLONGEST_WORD ?gNOT_A_TOKEN ?gLONGEST_TEXT ?gCANT_STAND ?gTOO_DEEP ?gTOO_MANY ?gMOST_DECLARATIONS ?gDEEPEST ?gSUM_STRENGTH ?gCHOICE_STRENGTH ?gCOMPARISON_STRENGTH ?gSIGNED_STRENGTH ?gPOST_STRENGTH ?gWORD_STRENGTH ?gATOM_OF_ONE_TOKEN ?gFZ ?gKW ?lKW ?gS2 ?gS1 ?xKW ?xS2 ?xS1 ?yS2 ?yS1 ?gSG ?lSG ?xSG ?gRU ?lRU ?xRU ?gTR ?lTR ?xTR ?gSU ?lSU ?xSU ?gON ?lON ?xON ?gGR ?lGR ?hKL ?xGR ?kit ?yGR ?gOS ?lOS ?hOS ?xOS ?yOS ?yJL ?yML ?yJM ?yIL ?gPN ?lPN ?hPN ?xPN ?yPN
  (case d1=>(refine' Tk.top_mk ?a ?l ?c ?k;(case a=>k_is);(case l=>k_is);(case c=>k_is);(case k=>k_is)))
  (case d2=>(refine' Tk.top_mk ?a ?l ?c ?k;(case a=>k_is);(case l=>k_is);(case c=>k_is);(case k=>k_is)))
  (case d3=>(refine' Tk.top_mk ?a ?l ?c ?k;(case a=>k_is);(case l=>k_is);(case c=>k_is);(case k=>k_is)))
  (case d4=>(refine' Tk.top_mk ?a ?l ?c ?k;(case a=>k_is);(case l=>k_is);(case c=>k_is);(case k=>k_is)))
  (case d5=>(refine' Tk.top_mk ?a ?l ?c ?k;(case a=>k_is);(case l=>k_is);(case c=>k_is);(case k=>k_is)))
  (case d6=>(refine' Tk.top_mk ?a ?l ?c ?k;(case a=>k_is);(case l=>k_is);(case c=>k_is);(case k=>k_is)))
  (case d7=>(refine' Tk.top_mk ?a ?l ?c ?k;(case a=>k_is);(case l=>k_is);(case c=>k_is);(case k=>k_is)))
  (case d8=>(refine' Tk.top_mk ?a ?l ?c ?k;(case a=>k_is);(case l=>k_is);(case c=>k_is);(case k=>k_is)))
  (case d9=>(refine' Tk.top_mk ?a ?l ?c ?k;(case a=>k_is);(case l=>k_is);(case c=>k_is);(case k=>k_is)))
  (case d10=>(refine' Tk.top_mk ?a ?l ?c ?k;(case a=>k_is);(case l=>k_is);(case c=>k_is);(case k=>k_is)))
  (case d11=>(refine' Tk.top_mk ?a ?l ?c ?k;(case a=>k_is);(case l=>k_is);(case c=>k_is);(case k=>k_is)))
  (case d12=>(refine' Tk.top_mk ?a ?l ?c ?k;(case a=>k_is);(case l=>k_is);(case c=>k_is);(case k=>k_is)))
  (case d13=>(refine' Tk.top_mk ?a ?l ?c ?k;(case a=>k_is);(case l=>k_is);(case c=>k_is);(case k=>k_is)))
  (case d14=>(refine' Tk.top_mk ?a ?l ?c ?k;(case a=>k_is);(case l=>k_is);(case c=>k_is);(case k=>k_is)))
  (case d15=>(refine' Tk.top_mk ?a ?l ?c ?k;(case a=>k_is);(case l=>k_is);(case c=>k_is);(case k=>k_is)))
  (case d16=>(refine' Tk.top_mk ?a ?l ?c ?k;(case a=>k_is);(case l=>k_is);(case c=>k_is);(case k=>k_is)))
  (case d17=>(refine' Tk.top_mk ?a ?l ?c ?k;(case a=>k_is);(case l=>k_is);(case c=>k_is);(case k=>k_is)))
  (case d18=>(refine' Tk.top_mk ?a ?l ?c ?k;(case a=>k_is);(case l=>k_is);(case c=>k_is);(case k=>k_is)))
  (case d19=>(refine' Tk.top_mk ?a ?l ?c ?k;(case a=>k_is);(case l=>k_is);(case c=>k_is);(case k=>k_is)))
  (case d20=>(refine' Tk.top_mk ?a ?l ?c ?k;(case a=>k_is);(case l=>k_is);(case c=>k_is);(case k=>k_is)))
  (case d21=>(refine' Tk.top_mk ?a ?l ?c ?k;(case a=>k_is);(case l=>k_is);(case c=>k_is);(case k=>k_is)))
  (case d22=>(refine' Tk.top_mk ?a ?l ?c ?k;(case a=>k_is);(case l=>k_is);(case c=>k_is);(case k=>k_is)))
  (case d23=>(refine' Tk.top_mk ?a ?l ?c ?k;(case a=>k_is);(case l=>k_is);(case c=>k_is);(case k=>k_is)))
  (case d24=>(refine' Tk.top_mk ?a ?l ?c ?k;(case a=>k_is);(case l=>k_is);(case c=>k_is);(case k=>k_is)))
  (case d25=>(refine' Tk.top_mk ?a ?l ?c ?k;(case a=>k_is);(case l=>k_is);(case c=>k_is);(case k=>k_is)))
  (case d26=>(refine' Tk.top_mk ?a ?l ?c ?k;(case a=>k_is);(case l=>k_is);(case c=>k_is);(case k=>k_is)))
  (case d27=>(refine' Tk.top_mk ?a ?l ?c ?k;(case a=>k_is);(case l=>k_is);(case c=>k_is);(case k=>k_is)))
  (case d28=>(refine' Tk.top_mk ?a ?l ?c ?k;(case a=>k_is);(case l=>k_is);(case c=>k_is);(case k=>k_is)))
  (case d29=>(refine' Tk.top_mk ?a ?l ?c ?k;(case a=>k_is);(case l=>k_is);(case c=>k_is);(case k=>k_is)))
  (case d30=>(refine' Tk.top_mk ?a ?l ?c ?k;(case a=>k_is);(case l=>k_is);(case c=>k_is);(case k=>k_is)))
  (case d31=>(refine' Tk.top_mk ?a ?l ?c ?k;(case a=>k_is);(case l=>k_is);(case c=>k_is);(case k=>k_is)))
  (case d32=>(refine' Tk.top_mk ?a ?l ?c ?k;(case a=>k_is);(case l=>k_is);(case c=>k_is);(case k=>k_is)))
  (case d33=>(refine' Tk.top_mk ?a ?l ?c ?k;(case a=>k_is);(case l=>k_is);(case c=>k_is);(case k=>k_is)))
  (case d34=>(refine' Tk.top_mk ?a ?l ?c ?k;(case a=>k_is);(case l=>k_is);(case c=>k_is);(case k=>k_is)))
  (case d35=>(refine' Tk.top_mk ?a ?l ?c ?k;(case a=>k_is);(case l=>k_is);(case c=>k_is);(case k=>k_is)))
  (case d36=>(refine' Tk.top_mk ?a ?l ?c ?k;(case a=>k_is);(case l=>k_is);(case c=>k_is);(case k=>k_is)))
  (case d37=>(refine' Tk.top_mk ?a ?l ?c ?k;(case a=>k_is);(case l=>k_is);(case c=>k_is);(case k=>k_is)))
  (case d38=>(refine' Tk.top_mk ?a ?l ?c ?k;(case a=>k_is);(case l=>k_is);(case c=>k_is);(case k=>k_is)))
  (case d39=>(refine' Tk.top_mk ?a ?l ?c ?k;(case a=>k_is);(case l=>k_is);(case c=>k_is);(case k=>k_is)))
  (case d40=>(refine' Tk.top_mk ?a ?l ?c ?k;(case a=>k_is);(case l=>k_is);(case c=>k_is);(case k=>k_is)))
  (case d41=>(refine' Tk.top_mk ?a ?l ?c ?k;(case a=>k_is);(case l=>k_is);(case c=>k_is);(case k=>k_is)))
  (case d42=>(refine' Tk.top_mk ?a ?l ?c ?k;(case a=>k_is);(case l=>k_is);(case c=>k_is);(case k=>k_is)))
  (case d43=>(refine' Tk.top_mk ?a ?l ?c ?k;(case a=>k_is);(case l=>k_is);(case c=>k_is);(case k=>k_is)))
  (case d44=>(refine' Tk.top_mk ?a ?l ?c ?k;(case a=>k_is);(case l=>k_is);(case c=>k_is);(case k=>k_is)))
  (case cI=>(refine' Tk.cls_mk ?aC ?a ?i ?l ?c ?k ?pg ?hd ?po ?sa ?mk ?kc (fun _ _ _ _ _ _ us hl=>match us,hl with |[_,_,_,_,_],_=>rfl);(case aC=>k_is);(case a=>k_is);(case i=>k_is);(case l=>k_is);(case c=>k_is);(case k=>k_is);(case pg=>k_is);(case hd=>k_is);(case po=>k_is);(case sa=>k_is);(case mk=>k_is);(case kc=>k_is)))
  (case nIfirst=>k_is)
  (case nIlength=>k_is)
  (case nIwhat=>k_is)
  (case nIwhich=>k_is)
  (case cJ=>(refine' Tk.cls_mk ?aC ?a ?i ?l ?c ?k ?pg ?hd ?po ?sa ?mk ?kc (fun _ _ _ _ _ _ us hl=>match us,hl with |[_,_,_,_,_],_=>rfl);(case aC=>k_is);(case a=>k_is);(case i=>k_is);(case l=>k_is);(case c=>k_is);(case k=>k_is);(case pg=>k_is);(case hd=>k_is);(case po=>k_is);(case sa=>k_is);(case mk=>k_is);(case kc=>k_is)))
  (case nJform=>k_is)
  (case nJsymbol=>k_is)
  (case nJroom=>k_is)
  (case nJdepth=>k_is)
  (case cL=>(refine' Tk.cls_mk ?aC ?a ?i ?l ?c ?k ?pg ?hd ?po ?sa ?mk ?kc (fun _ _ _ _ _ _ us hl=>match us,hl with |[_,_],_=>rfl);(case aC=>k_is);(case a=>k_is);(case i=>k_is);(case l=>k_is);(case c=>k_is);(case k=>k_is);(case pg=>k_is);(case hd=>k_is);(case po=>k_is);(case sa=>k_is);(case mk=>k_is);(case kc=>k_is)))
  (case nLfound=>k_is)
  (case nLsymbols=>k_is)
  (case nLways=>k_is)
  (case nLat=>k_is)
  (case nLfault=>k_is)
  (case nLprogram=>k_is)
  (case nLbegun=>k_is)
  (case nLframes=>k_is)
  (case cM=>(refine' Tk.cls_mk ?aC ?a ?i ?l ?c ?k ?pg ?hd ?po ?sa ?mk ?kc (fun _ _ _ _ _ _ us hl=>match us,hl with |[_,_,_],_=>rfl);(case aC=>k_is);(case a=>k_is);(case i=>k_is);(case l=>k_is);(case c=>k_is);(case k=>k_is);(case pg=>k_is);(case hd=>k_is);(case po=>k_is);(case sa=>k_is);(case mk=>k_is);(case kc=>k_is)))
  (case nMkind=>k_is)
  (case nMfirst=>k_is)
  (case nMbehind=>k_is)
  (case nMinner=>k_is)
  (case nMis_pair=>k_is)
  (case nMstrength=>k_is)
  (case nMleast=>k_is)
  (case z_len=>k_is)
  (case z_isinstance=>k_is)
  (case z_str=>k_is)
  (case z_tuple=>k_is)
  (case z_reversed=>k_is)
  (case gSLASH=>k_is)
  (case gLINE_END=>k_is)
  (case gBLANK=>k_is)
  (case gZERO=>k_is)
  (case gSMALL_X=>k_is)
  (case gMOST_DIGITS=>k_is)
  (case gMOST_HEX_DIGITS=>k_is)
  (case gLARGEST_NUMBER=>k_is)
  (case gNAME=>k_is)
  (case gNUMBER=>k_is)
  (case gKEPT=>k_is)
  (case gSIGN=>k_is)
  (case gNO_TOKEN=>k_is)
  (case gLONGEST_WORD=>k_is)
  (case gNOT_A_TOKEN=>k_is)
  (case gLONGEST_TEXT=>k_is)
  (case gCANT_STAND=>k_is)
  (case gTOO_DEEP=>k_is)
  (case gTOO_MANY=>k_is)
  (case gMOST_DECLARATIONS=>k_is)
  (case gDEEPEST=>k_is)
  (case gSUM_STRENGTH=>k_is)
  (case gCHOICE_STRENGTH=>k_is)
  (case gCOMPARISON_STRENGTH=>k_is)
  (case gSIGNED_STRENGTH=>k_is)
  (case gPOST_STRENGTH=>k_is)
  (case gWORD_STRENGTH=>k_is)
  (case gATOM_OF_ONE_TOKEN=>k_is)
  (case gFZ=>k_is)
  (case gKW=>k_is)
  (case lKW=>k_is)
  (case gS2=>k_is)
  (case gS1=>k_is)
  (case xKW=>kernel_rfl)
  (case xS2=>kernel_rfl)
  (case xS1=>kernel_rfl)
  (case yS2=>decide+kernel)
  (case yS1=>decide+kernel)
  (case gSG=>k_is)
  (case lSG=>k_is)
  (case xSG=>kernel_rfl)
  (case gRU=>k_is)
  (case lRU=>k_is)
  (case xRU=>kernel_rfl)
  (case gTR=>k_is)
  (case lTR=>k_is)
  (case xTR=>kernel_rfl)
  (case gSU=>k_is)
  (case lSU=>k_is)
  (case xSU=>kernel_rfl)
  (case gON=>k_is)
  (case lON=>k_is)
  (case xON=>kernel_rfl)
  (case gGR=>k_is)
  (case lGR=>k_is)
  (case hKL=>k_keys)
  (case xGR=>kernel_rfl)
  (case kit=>kernel_rfl)
  (case yGR=>decide+kernel)
  (case gOS=>k_is)
  (case lOS=>k_is)
  (case hOS=>k_keys)
  (case xOS=>kernel_rfl)
  (case yOS=>decide+kernel)
  (case yJL=>decide+kernel)
  (case yML=>decide+kernel)
  (case yJM=>decide+kernel)
  (case yIL=>decide+kernel)
  (case gPN=>k_is)
  (case lPN=>k_is)
  (case hPN=>k_keys)
  (case xPN=>kernel_rfl)
  (case yPN=>decide+kernel)
 case S=>
  intro K H xs a hO hwi hask hx
  cases hx with
  |cons h0 h2=>
  cases h2 with
  |cons h1 h3=>
  cases h3
  cases h0 with
  |int i=>
  cases h1 with
  |lst hs ha=>
   have e:=L2.ints_dw a.2.1 _ ha
   subst e
   have q:(Codec.inInt 0 4294967295 a.1&&((Codec.inLen 0 100000 a.2.1&&a.2.1.all (Codec.inInt 0 255))&&true))=true:=hwi
   rw[Bool.and_eq_true,Bool.and_eq_true,Bool.and_eq_true]at q
   obtain⟨n,hn⟩:=Int.eq_ofNat_of_zero_le (Codec.inInt_iff.mp q.1).1
   have hf:Codec.app PySem.Challenge.rw_rilltexts_s07_part.args PySem.Challenge.rw_rilltexts_s07_part.f a=PyWqaibx.part a.1 a.2.1:=rfl
   rw[hf,hn]
   refine⟨n,_,a.2.1,by rw[←hn],hs,fun z hz=>?_,(Codec.inNat_iff.mp q.2.1.1).2,fun H' p hp=>.lst (L2.SqL.of hp) (L2.dw_ints _)⟩
   exact Codec.inInt_iff.mp (List.all_eq_true.mp q.2.1.2 z hz)
#print axioms PySem.Challenge.cw_rilltexts_s07_part_holds
