import PyProof.Rows.All
import Wide.All
import OpenK.AllK
import Wide.FinOn
import PyProof.EqAt
import PyProof.EqKinds
import PyProof.TupleCall
import KE.BitLaws
import Open.SpecLaws
import KE.OsHead
import KE.OsGo
import PySem.Challenge.RW_rilltexts_s04_same
set_option Elab.async false
set_option linter.all false
set_option maxRecDepth 100000
open PySem.W (nsIn findIn keepIn fnOf codeIn emptyDict KeysLit plainGet hasDictIn plainOver makesIn isFn instObj hideAll)
abbrev AA:=@PySem.W.Frag
abbrev AB:=@Nat.le_refl
abbrev AC:=@List.mem_cons_of_mem
abbrev AD:=@if_neg
abbrev AE:=@List.append_nil
abbrev AF:=@List.append_assoc
abbrev AG:=@List.mem_cons_self
abbrev AH:=@PySem.Value
abbrev AI:=@PySem.Addr
abbrev AJ:=@List.length_map
abbrev AK:=@List.mem_cons
abbrev AL:=@if_pos
abbrev AM:=@PySem.wpAny_bind
abbrev AN:=@List.mem_singleton
abbrev AO:=@List.length_append
abbrev AQ:=@List.mem_append_right
abbrev AR:=@decide_eq_true
abbrev AU:=@List.mem_append_left
abbrev AV:=@List.map_append
abbrev AW:=@PySem.Shared
abbrev AX:=@decide_eq_false
abbrev AY:=@List.mem_append
abbrev AZ:=@List.length_cons
abbrev Aa:=@Option.some.inj
abbrev Ab:=@Bool.eq_false_iff
abbrev Ac:=@PySem.F.plainAttrs_list
abbrev Ad:=@List.getElem?_eq_some_iff
abbrev Ae:=@List.size_toArray
abbrev Af:=@PySem.Program
abbrev Ag:=@Nat.zero_le
abbrev Ah:=@List.map_cons
abbrev Ai:=@Bool.false_ne_true
abbrev Aj:=@List.getElem?_eq_getElem
abbrev Ak:=@PySem.Heap.get?_push_of_some
abbrev Al:=@of_decide_eq_false
abbrev Am:=@List.nodup_cons
abbrev An:=@PySem.Heap.get?_push_size
abbrev Ao:=@PySem.Heap.lt_size
abbrev Ap:=@PySem.World
abbrev Aq:=@List.getElem?_map
abbrev Ar:=@Bool.and_eq_true
abbrev Au:=@PySem.wpAny_pure
abbrev Av:=@Nat.lt_of_lt_of_le
abbrev Aw:=@PySem.F.type_list_append
abbrev Ax:=@PySem.F.slot_list_append
abbrev Ay:=@Option.map_eq_some_iff
abbrev Az:=@List.mem_of_getElem?
abbrev BA:=@PySem.sizeLine_eq
abbrev BC:=@decide_eq_true_eq
abbrev BD:=@Ne.symm
abbrev BE:=@List.nodup_append
abbrev BF:=@List.length_drop
abbrev BG:=@List.findIdx?_eq_some_iff_getElem
abbrev BH:=@PySem.mem_of_lookup
abbrev BI:=@List.reverse_append
abbrev BJ:=@PySem.PassesOwn.never
abbrev BK:=@PySem.FuncData
abbrev BL:=@List.not_mem_nil
abbrev BM:=@PySem.W.mg_of
abbrev BN:=@List.mem_map
abbrev BO:=@List.all_eq_true
abbrev BP:=@PySem.boot_len
abbrev BQ:=@PySem.Paired.length
abbrev BR:=@PySem.Heap
abbrev BS:=@List.drop_eq_nil_of_le
abbrev BU:=@Option.isSome_iff_exists
abbrev BV:=@Nat.le_trans
abbrev BW:=@beq_eq_false_iff_ne
abbrev BX:=@Nat.le_succ
abbrev BZ:=@List.takeWhile_cons
abbrev Ba:=@Nat.ne_of_lt
abbrev Bb:=@PySem.W.mg_none_of
abbrev Bc:=@PySem.W.kia_one
abbrev Bd:=@List.take_of_length_le
abbrev Be:=@List.take_length
abbrev Bf:=@Bool.eq_iff_iff
abbrev Bg:=@PySem.DictEntry
abbrev Bh:=@congrArg
abbrev Bi:=@PySem.Heap.size_push
abbrev Bj:=@List.takeWhile_sublist
abbrev Bk:=@List.map_map
abbrev Bm:=@List.find?_cons
abbrev Bn:=@List.getElem?_eq_none_iff
abbrev Bo:=@PySem.wpAny_truthy_bool
abbrev Bp:=@PySem.F.type_list_pop
abbrev Bq:=@PySem.F.slot_list_pop
abbrev Br:=@List.length_take
abbrev Bs:=@List.cons_append
abbrev Bt:=@List.length_nil
abbrev Bu:=@List.all_cons
abbrev Bv:=@List.lookup_cons
abbrev Bw:=@or_false
abbrev Bx:=@Nat.not_lt
abbrev Bz:=@List.getD_eq_getElem?_getD
abbrev CA:=@List.concat_eq_append
abbrev CB:=@List.foldl_cons
abbrev CC:=@PySem.wpAny_mono
abbrev CD:=@Nat.lt_irrefl
abbrev CG:=@PySem.wpAny_newObj_type
abbrev CH:=@decide_eq_decide
abbrev CK:=@List.length_replicate
abbrev CO:=@List.getElem?_eq_none
abbrev CP:=@List.eq_nil_or_concat
abbrev CQ:=@PySem.wpAny_Call_Name_kw
abbrev CT:=@PySem.wpAny_passesOwn
abbrev CU:=@List.mem_of_mem_drop
abbrev CV:=@List.getElem?_set_ne
abbrev CW:=@List.getElem?_append_right
abbrev CY:=@Nat.lt_succ_self
abbrev CZ:=@List.map_nil
abbrev Ca:=@List.getElem?_append_left
abbrev Cb:=@List.drop_eq_getElem_cons
abbrev Cc:=@List.replicate_succ
abbrev Cd:=@List.length_reverse
abbrev Ce:=@Array.length_toList
abbrev Cg:=@PySem.F.type_list_extend
abbrev Ch:=@PySem.F.slot_list_extend
abbrev Ci:=@List.any_cons
abbrev Cj:=@Option.map_some
abbrev Ck:=@Bool.or_eq_true
abbrev Cm:=@List.findIdx?_cons
abbrev Cn:=@List.filter_cons_of_neg
abbrev Co:=@Option.isSome_map
abbrev Cp:=@List.getElem?_set_self
abbrev Cq:=@List.foldl_append
abbrev Cr:=@PySem.tupleKind_room_in1
abbrev Cs:=@PySem.wpAny_of_eq
abbrev Ct:=@UInt8.le_iff_toNat_le
abbrev Cu:=@List.length_singleton
abbrev Cv:=@Nat.le_add_right
abbrev Cw:=@Bool.false_or
abbrev Cy:=@List.dropLast_concat
abbrev Cz:=@Nat.min_eq_left
abbrev DA:=@List.nil_append
abbrev DB:=@PySem.builtinLookup_eq_fast
abbrev DC:=@List.flatMap_append
abbrev DD:=@PySem.wpAny_call_entry
abbrev DE:=@PyProof.Rows.callWith_type1
abbrev DF:=@UInt8.toNat_ofNat'
abbrev DG:=@List.mem_of_find?_eq_some
abbrev DH:=@PySem.F.slot_dict_keyiterator_next
abbrev DI:=@Sum.inr.inj
abbrev DJ:=@Nat.le_of_succ_le
abbrev DK:=@List.flatten_cons
abbrev DL:=@List.flatMap_cons
abbrev DM:=@List.findIdx?_map
abbrev DN:=@PySem.Heap.SameBut.update
abbrev DP:=@Bool.true_and
abbrev DQ:=@PySem.isSubtype_type
abbrev DR:=@Option.getD_none
abbrev DS:=@PySem.Obj.data_mapFields
abbrev DT:=@List.length_eq_zero_iff
abbrev DU:=@PySem.Calls.spliced_cons
abbrev DW:=@Bool.not_eq_true
abbrev DX:=@Nat.le_of_lt
abbrev DY:=@PySem.wpAny_callSpecial?_slot
abbrev DZ:=@List.mem_of_mem_take
abbrev Da:=@List.drop_drop
abbrev Db:=@PySem.call_meets
abbrev Dc:=@List.toList_toArray
abbrev Dd:=@List.map_congr_left
abbrev De:=@List.filterMap_cons
abbrev Df:=@PySem.Calls.callWith_builtin
abbrev Dg:=@PySem.wpAny_specialOf
abbrev Dh:=@PySem.wpAny_execs_nil
abbrev Di:=@PySem.typeLookup_type
abbrev Dj:=@PySem.pushCells_keeps
abbrev Dk:=@beq_iff_eq
abbrev Dl:=@Nat.lt_of_le_of_lt
abbrev Dm:=@PySem.Heap.get?_update_self
abbrev Dn:=@PySem.wpAny_setField
abbrev Dq:=@PySem.wpAny_field
abbrev Dr:=@Nat.zero_add
abbrev Ds:=@Nat.sub_self
abbrev Dt:=@Nat.lt_succ_of_lt
abbrev Du:=@Nat.le_of_eq
abbrev Dv:=@List.map_set
abbrev Dx:=@beq_self_eq_true
abbrev Dy:=@PyProof.Rows.callWith_builtin1
abbrev Dz:=@Nat.min_eq_right
abbrev EA:=@List.drop_length
abbrev EB:=@Int.mul_le_mul_of_nonneg_right
abbrev EC:=@PySem.wpAny_attempt
abbrev ED:=@List.eq_nil_of_length_eq_zero
abbrev EE:=@PySem.W.length_le_weightAllW
abbrev EF:=@List.of_mem_zip
abbrev EG:=@List.length_set
abbrev EH:=@List.find?_some
abbrev EI:=@if_true
abbrev EJ:=@if_false
abbrev EK:=@PySem.codeAny_mono
abbrev EL:=@List.mem_range
abbrev EM:=@List.mapM_cons
abbrev EN:=@List.isPrefixOf_iff_prefix
abbrev EQ:=@PySem.Calls.spliced_nil
abbrev ER:=@Bool.false_and
namespace L2
open PySem PySem.Spec PyProof.Rows
noncomputable abbrev Key:=Sum Int Str
noncomputable def AU9:Key->AH->Bool
 |.inl k,v=>Value.isInt k v
 |.inr x,v=>Value.isStrOf x v
noncomputable def B23 (w:Ap):Key->Int
 |.inl k=>hashInt k
 |.inr x=>hashStr w x
theorem G3:∀{k:Key} {v:AH},AU9 k v=true->(∃i t,k=Sum.inl i/\v=Value.int i t)∨(∃x t,k=Sum.inr x/\v=Value.str x t)
 |.inl i,v,h=>by obtain⟨t,e⟩:=Value.isInt_shape (k:=i) (v:=v) h;exact .inl ⟨i,t,rfl,e⟩
 |.inr x,v,h=>by obtain⟨t,e⟩:=Value.isStrOf_shape (x:=x) (v:=v) h;exact .inr ⟨x,t,rfl,e⟩
theorem Aw5 (i:Int)(t:Tok):AU9 (.inl i) (.int i t)=true:=by simp[AU9,Value.isInt]
theorem Az4 (x:Str)(t:Tok):AU9 (.inr x) (.str x t)=true:=by simp[AU9,Value.isStrOf]
theorem Bi8 (a b:Int):decide ((Sum.inl a:Key)=Sum.inl b)=(a==b):=by
 by_cases e:a=b
 ·subst e;simp
 ·have h:¬(Sum.inl a:Key)=Sum.inl b:=fun q=>e (Sum.inl.inj q);rw[AX h];exact(BW.mpr e).symm
theorem Bk1 (a b:Str):decide ((Sum.inr a:Key)=Sum.inr b)=decide (a=b):=by
 by_cases e:a=b
 ·subst e;simp
 ·have h:¬(Sum.inr a:Key)=Sum.inr b:=fun q=>e (DI q);rw[AX h,AX e]
theorem Bd2 (a:Int)(b:Str):decide ((Sum.inl a:Key)=Sum.inr b)=false:=AX (fun q=>nomatch q)
theorem Bd7 (a:Str)(b:Int):decide ((Sum.inr a:Key)=Sum.inl b)=false:=AX (fun q=>nomatch q)
noncomputable def C8 (prog:Af)(w:Ap):PySem.KeyKind prog w Key where
 is:=AU9
 hash:=B23 w
 inj:=fun v a b ha hb=>by
  rcases G3 ha with ⟨i,t,rfl,rfl⟩ |⟨x,t,rfl,rfl⟩
  ·rcases G3 hb with ⟨j,u,rfl,e⟩ |⟨y,u,rfl,e⟩
   ·injection e with e1 _;rw[e1]
   ·exact nomatch e
  ·rcases G3 hb with ⟨j,u,rfl,e⟩ |⟨y,u,rfl,e⟩
   ·exact nomatch e
   ·injection e with e1 _;rw[e1]
 byValue:=fun k v h=>by rcases G3 h with ⟨i,t,rfl,rfl⟩ |⟨x,t,rfl,rfl⟩<;>rfl
 pyHash:=fun hv h=>by
  rcases G3 hv with ⟨i,t,rfl,rfl⟩ |⟨x,t,rfl,rfl⟩
  ·exact wpAny_pyHash_int h
  ·exact wpAny_pyHash_str h
 eqBool:=fun hu hv h=>by
  rcases G3 hu with ⟨i,t,rfl,rfl⟩ |⟨x,t,rfl,rfl⟩
  ·rcases G3 hv with ⟨j,u,rfl,rfl⟩ |⟨y,u,rfl,rfl⟩
   ·rw[Bi8]at h;exact wpAny_eqBool_int h
   ·rw[Bd2]at h;exact SeqAt.EqAt.int_str i t y u _ _ _ _ h
  ·rcases G3 hv with ⟨j,u,rfl,rfl⟩ |⟨y,u,rfl,rfl⟩
   ·rw[Bd7]at h;exact SeqAt.EqAt.str_int x t j u _ _ _ _ h
   ·rw[Bk1]at h;exact wpAny_eqBool_str h
 «strs»:=fun k x t v h=>by
  rcases G3 h with ⟨i,u,rfl,e⟩ |⟨y,u,rfl,e⟩
  ·exact nomatch e
  ·injection e with e1 _;subst e1;cases v<;>rfl
theorem c7 (prog:Af)(w:Ap)(i:Int)(t:Tok):(C8 prog w).is (.inl i) (.int i t)=true:=Aw5 i t
theorem b7 (prog:Af)(w:Ap)(x:Str)(t:Tok):(C8 prog w).is (.inr x) (.str x t)=true:=Az4 x t
inductive V where
 |non |bl (b:Bool) |int (i:Int) |str (x:Str) |byt (b:Array UInt8) |flt (b:UInt64) |ref (a:AI) |ty (n:String)
 deriving DecidableEq
noncomputable def RelV:V->AH->Prop
 |.non,u=>u=Value.none
 |.bl b,u=>u=Value.bool b
 |.int i,u=>∃t,u=Value.int i t
 |.str x,u=>∃t,u=Value.str x t
 |.byt b,u=>∃t,u=Value.bytes b t
 |.flt b,u=>∃t,u=Value.float b t
 |.ref a,u=>u=Value.ref a
 |.ty n,u=>u=Value.type n
noncomputable abbrev Vals:List V->List AH->Prop:=Paired RelV
theorem Vals.length (r:Vals xs us):xs.length=us.length:=BQ r
theorem Vals.get:∀{xs:List V} {us:List AH} {i:Nat} {x:V},Vals xs us->xs[i]?=some x->∃u,us[i]?=some u/\RelV x u
 |_,_,_,_,.nil,e=>by simp at e
 |_,_,0,_,.cons r _,e=>by simp at e;subst e;exact⟨_,rfl,r⟩
 |_,_,i+1,x,.cons _ t,e=>by obtain⟨u,a,b⟩:=Vals.get (i:=i) (x:=x) t (by simpa using e);exact⟨u,by simpa using a,b⟩
theorem Vals.set (r:RelV x u):∀{xs:List V} {us:List AH} (i:Nat),Vals xs us->Vals (xs.set i x) (us.set i u)
 |_,_,_,.nil=>.nil
 |_,_,0,.cons _ t=>.cons r t
 |_,_,i+1,.cons q t=>.cons q (Vals.set r i t)
theorem Vals.append:∀{xs ys:List V} {us a:List AH},Vals xs us->Vals ys a->Vals (xs++ys) (us++a)
 |_,_,_,_,.nil,s=>s
 |_,_,_,_,.cons r t,s=>.cons r (Vals.append t s)
theorem Vals.take:∀{xs:List V} {us:List AH} (n:Nat),Vals xs us->Vals (xs.take n) (us.take n)
 |_,_,0,_=>.nil
 |_,_,_+1,.nil=>.nil
 |_,_,n+1,.cons r t=>.cons r (Vals.take n t)
theorem Vals.drop:∀{xs:List V} {us:List AH} (n:Nat),Vals xs us->Vals (xs.drop n) (us.drop n)
 |_,_,0,r=>r
 |_,_,_+1,.nil=>.nil
 |_,_,n+1,.cons _ t=>Vals.drop n t
noncomputable def RelO:Option V->Option AH->Prop
 |some v,some u=>RelV v u
 |none,none=>True
 |_,_=>False
noncomputable def KV {a:Type}:List (a×V)->List (a×AH)->Prop:=Paired fun(p:a×V) (q:a×AH)=>p.1=q.1/\RelV p.2 q.2
noncomputable def kV:Key->V
 |.inl i=>.int i
 |.inr x=>.str x
inductive HO where
 |lst (xs:List V)
 |tup (xs:List V)
 |dK (kvs:List (Key×V)) |dT (kvs:List (List Key×V))
 |set (S:Int->Bool) (n:Nat)
 |ins (C dx:AI) (fs:List (Str×V))
 |own (x:AI)
 |xd (fs:List (Str×V))
 |met (f x:AI)
 |rng (lo hi:Int)
 |frz (o:Obj) (u:HO)
 |tbl (ps:Array AH)
 |ext (φ:BR->Prop)
noncomputable abbrev Hp:=AI->Option HO
noncomputable def upd (H:Hp)(a:AI)(o:HO):Hp:=fun b=>if b=a then some o else H b
theorem A1:upd H a o a=some o:=by unfold upd;rw[AL rfl]
theorem A4 (h:b≠a):upd H a o b=H b:=by unfold upd;rw[AD h]
theorem L5:upd (upd H a o) a u=upd H a u:=by funext b;unfold upd;split<;>rfl
theorem E8 {H:Hp}{a b:AI}{o u:HO}(h:H a=some o)(h':H b=some u)(d:o≠u):a≠b:=by intro e;subst e;rw[h]at h';exact d (Aa h')
theorem A7 {H:Hp}{a b:AI}{o:HO}(h:H a=some o)(h':H b=none):a≠b:=by intro e;subst e;rw[h]at h';cases h'
section
variable (P:Af) (w:Ap)
noncomputable def ObjOk (H:Hp)(h:BR)(a:AI):HO->Prop
 |.lst d=>d.length<=sizeLine/\∃(b:List AH) (n:Nat),Vals d b/\h.get? a=some {cls:=.type "list",data:=.seq b.toArray n}
 |.tup d=>d.length<=sizeLine/\∃b:List AH,Vals d b/\IsTup h a b.toArray
 |.dK c=>c.length<=sizeLine/\(a==sysModules)=false/\∃k,KV c k/\h.DictOf (C8 P w) a k
 |.dT c=>c.length<=sizeLine/\(a==sysModules)=false/\∃d:List (List Key×AI×AH),
   Paired (fun(p:List Key×V) (q:List Key×AI×AH)=>p.1=q.1/\H q.2.1=some (.tup (p.1.map kV))/\RelV p.2 q.2.2) c d/\
   ∃o l s,h.get? a=some o/\o.ExactDict/\o.data=.dict l s/\l.toList=d.map (entryOfKey (tupleKind (C8 P w)))/\(d.map (·.1)).Nodup
 |.set S n=>h.SetOf (intKind P w) a S n
 |.ins C i g=>H i=some (.own a)/\g.length<=1000/\i≠a/\h.get? a=some (instObj C i)/\
   ∃e,h.Ns1 i e/\(∀f,RelO (g.lookup f) (e f))/\PySem.Within e (g.map (·.1))
 |.own _=>∃o,h.get? a=some o
 |.xd g=>∃e,h.Ns1 a e/\∀f,RelO (g.lookup f) (e f)
 |.rng y z=>∃t u v,h.get? a=some {cls:=.type "range",data:=.fields #[.int y t,.int z u,.int 1 v]}
 |.frz o u=>h.get? a=some o/\ObjOk H h a u
 |.tbl A=>h.get? a=some {cls:=.none,data:=.fields A}
 |.met f x=>h.get? a=some (PySem.W.methodObj (.ref f) (.ref x))
 |.ext j=>j h/\(∃o,h.get? a=some o)/\∀m r:BR,j m->(∀o,m.get? a=some o->r.get? a=some o)->j r
def HOk (H:Hp)(h:BR):Prop:=∀a o,H a=some o->ObjOk P w H h a o
end
section
variable {P:Af} {w:Ap} {H H':Hp} {h h':BR} {a:AI} {o:HO}
theorem ObjOk.lt (x:ObjOk P w H h a o):a<h.objs.size:=by
 cases o with
 |lst c=>obtain⟨_,_,_,_,e⟩:=x;exact Ao e
 |tup c=>obtain⟨_,_,_,p⟩:=x;exact p.lt
 |dK b=>obtain⟨_,_,_,_,o,_,_,e,_⟩:=x;exact Ao e
 |dT b=>obtain⟨_,_,_,_,o,_,_,e,_⟩:=x;exact Ao e
 |set S n=>obtain⟨o,_,_,_,e,_⟩:=x;exact Ao e
 |ins C g d=>obtain⟨_,_,_,e,_⟩:=x;exact Ao e
 |own y=>obtain⟨_,e⟩:=x;exact Ao e
 |xd d=>obtain⟨_,⟨_,_,_,e,_⟩,_⟩:=x;exact Ao e
 |rng i j=>obtain⟨_,_,_,e⟩:=x;exact Ao e
 |frz k u=>obtain⟨e,_⟩:=x;exact Ao e
 |tbl l=>exact Ao (show h.get? a=some _ from x)
 |met f y=>exact Ao (show h.get? a=some _ from x)
 |ext m=>obtain⟨_,⟨_,e⟩,_⟩:=x;exact Ao e
theorem Paired.mapP {d e:Type}{F G:d->e->Prop}:∀{l₁:List d} {c:List e},Paired F l₁ c->(∀a b,F a b->G a b)->Paired G l₁ c
 |_,_,.nil,_=>.nil
 |_,_,.cons r t,f=>.cons (f _ _ r) (Paired.mapP t f)
theorem ObjOk.stay (x:ObjOk P w H h a o)(k:∀b u,(b=a∨H b=some (.own a))->h.get? b=some u->h'.get? b=some u)
  (E:∀b,H b=some (.own a)->H' b=some (.own a)) (F:∀b xs,H b=some (.tup xs)->H' b=some (.tup xs)):ObjOk P w H' h' a o:=by
 induction o with
 |lst xs=>obtain⟨z,l,n,r,e⟩:=x;exact⟨z,l,n,r,k _ _ (.inl rfl) e⟩
 |tup xs=>obtain⟨z,l,r,g,e,c⟩:=x;exact⟨z,l,r,g,k _ _ (.inl rfl) e,c⟩
 |dK m=>obtain⟨z,y,G,r,g,i,j,e,c⟩:=x;exact⟨z,y,G,r,g,i,j,k _ _ (.inl rfl) e,c⟩
 |dT m=>obtain⟨z,y,xs,r,g,i,j,e,c⟩:=x;exact⟨z,y,xs,Paired.mapP r fun p q z=>⟨z.1,F _ _ z.2.1,z.2.2⟩,g,i,j,k _ _ (.inl rfl) e,c⟩
 |set S n=>obtain⟨g,i,j,t,e,c⟩:=x;exact⟨g,i,j,t,k _ _ (.inl rfl) e,c⟩
 |ins C M I=>obtain⟨d,z,J,e,s,⟨A,i,j,K,c⟩,r⟩:=x;exact⟨E _ d,z,J,k _ _ (.inl rfl) e,s,⟨A,i,j,k _ _ (.inr d) K,c⟩,r⟩
 |own y=>obtain⟨g,e⟩:=x;exact⟨g,k _ _ (.inl rfl) e⟩
 |xd I=>obtain⟨s,⟨A,i,j,e,c⟩,r⟩:=x;exact⟨s,⟨A,i,j,k _ _ (.inl rfl) e,c⟩,r⟩
 |rng N O=>obtain⟨t,u,v,e⟩:=x;exact⟨t,u,v,k _ _ (.inl rfl) e⟩
 |frz g u L=>obtain⟨e,q⟩:=x;exact⟨k _ _ (.inl rfl) e,L q⟩
 |tbl B=>have e:h.get? a=some {cls:=.none,data:=.fields B}:=x;show h'.get? a=some {cls:=.none,data:=.fields B};exact k a _ (.inl rfl) e
 |met f y=>have e:h.get? a=some (PySem.W.methodObj (.ref f) (.ref y)):=x;show h'.get? a=some (PySem.W.methodObj (.ref f) (.ref y));exact k a _ (.inl rfl) e
 |ext Q=>obtain⟨p,⟨o,e⟩,D⟩:=x;exact⟨D _ _ p fun o q=>k _ _ (.inl rfl) q,⟨o,k _ _ (.inl rfl) e⟩,D⟩
theorem HOk.lt (x:HOk P w H h)(e:H a=some o):a<h.objs.size:=(x a o e).lt
theorem HOk.fresh (x:HOk P w H h)(e:h.objs.size<=a):H a=none:=by
 cases q:H a with
 |none=>rfl
 |some u=>exact absurd (Av (x.lt q) e) (CD _)
theorem HOk.kept (x:HOk P w H h)(k:∀b u,h.get? b=some u->h'.get? b=some u):HOk P w H h':=fun a o e=>
 (x a o e).stay (fun b u _ q=>k b u q) (fun _ q=>q) fun _ _ q=>q
theorem HOk.laid (x:HOk P w H h)(k:∀b u,h.get? b=some u->h'.get? b=some u)(i:h.objs.size<=a)(d:ObjOk P w (upd H a o) h' a o):HOk P w (upd H a o) h':=fun b u e=>by
 have f:=x.fresh i;by_cases g:b=a
 ·subst g;rw[A1]at e;cases e;exact d
 ·rw[A4 g]at e;exact(x b u e).stay (fun c v _ q=>k c v q) (fun c q=>by rw[A4 (A7 q f)];exact q) fun c j q=>by rw[A4 (A7 q f)];exact q
end
def Rd (H:Hp)(a:AI)(u:HO):Prop:=H a=some u∨∃o,H a=some (.frz o u)
theorem Rd.ok (r:Rd H a u)(x:HOk P w H h):ObjOk P w H h a u:=by
 rcases r with r |⟨o,r⟩
 ·exact x a u r
 ·obtain⟨_,q⟩:=x a _ r;exact q
noncomputable def Mut:Option HO->Prop
 |some (.lst _)=>True
 |some (.dK _)=>True
 |some (.dT _)=>True
 |some (.set _ _)=>True
 |some (.ins _ _ _)=>True
 |some (.ext _)=>True
 |_=>False
section
variable {P:Af} {w:Ap} {H:Hp} {h h':BR} {x e:AI} {o':HO}
theorem HOk.write (s:HOk P w H h)(g:Mut (H x))(o:e=x∨H e=some (.own x))(k:∀b u,b≠e->h.get? b=some u->h'.get? b=some u)(m:∃u,h'.get? e=some u)
  (n:ObjOk P w (upd H x o') h' x o'):HOk P w (upd H x o') h':=fun b u q=>by
 have d:∀c y,H c=some (.own y)->c≠x:=fun c y r z=>by subst z;rw[r]at g;exact g
 have f:∀c i,H c=some (.tup i)->c≠x:=fun c i r z=>by subst z;rw[r]at g;exact g
 by_cases j:b=x
 ·subst j;rw[A1]at q;cases q;exact n
 ·rw[A4 j]at q;by_cases a:b=e
  ·have p:H b=some (.own x):=by
    rcases o with z |z
    ·exact absurd (a.trans z) j
    ·rw[a];exact z
   rw[q]at p;cases p;obtain⟨v,t⟩:=m;exact⟨v,by rw[a];exact t⟩
  ·refine(s b u q).stay (fun c v l r=>k c v ?_ r) (fun c r=>by rw[A4 (d c b r)];exact r) fun c i r=>by rw[A4 (f c i r)];exact r
   rcases l with rfl |l
   ·exact a
   ·rintro rfl;rcases o with z |z
    ·exact d c b l z
    ·rw[l]at z;cases z;exact j rfl
end
structure Un (fs ex:List AI)(H H':Hp)(h h':BR):Prop where
 keep:∀b o,h.get? b=some o->H b=none->b∉fs->b∉ex->h'.get? b=some o
 slot:∀b o,h.get? b=some o->H b=none->b∈fs->b∉ex->∃sl,h'.get? b=some {o with slots:=sl}
 free:∀b o,h.get? b=some o->H b=none->b∉ex->H' b=none
 there:∀b o,h.get? b=some o->b∉ex->∃o',h'.get? b=some o'
 tups:∀b xs,H b=some (.tup xs)->H' b=some (.tup xs)
 frzs:∀b o u,H b=some (.frz o u)->H' b=some (.frz o u)
 tbls:∀b ps,H b=some (.tbl ps)->∃more,H' b=some (.tbl (ps++more))
section
variable {fs fs' ex ex':List AI} {H H1 H2:Hp} {h h1 h2 h':BR} {a x e:AI} {o:HO}
theorem Un.any (u:Un fs ex H H1 h h1)(q:h.get? b=some ob)(n:H b=none)(a:b∉ex):∃d,h1.get? b=some {ob with slots:=d}:=by
 by_cases c:b∈fs
 ·exact u.slot b ob q n c a
 ·exact⟨ob.slots,u.keep b ob q n c a⟩
theorem Un.kept (k:∀b u,h.get? b=some u->h'.get? b=some u):Un fs ex H H h h':=
 ⟨fun b a q _ _ _=>k b a q,fun b a q _ _ _=>⟨a.slots,k b a q⟩,fun _ _ _ n _=>n,fun b a q _=>⟨a,k b a q⟩,fun _ _ q=>q,fun _ _ _ q=>q,fun _ c q=>⟨#[],by rw[q];simp⟩⟩
theorem Un.refl:Un fs ex H H h h:=Un.kept fun _ _ q=>q
theorem Un.laid (k:∀b u,h.get? b=some u->h'.get? b=some u)(d:h.objs.size<=a)(c:H a=none):Un fs ex H (upd H a o) h h' where
 keep:=fun b u q _ _ _=>k b u q
 slot:=fun b u q _ _ _=>⟨u.slots,k b u q⟩
 free:=fun b u q n _=>by rw[A4 (Ba (Av (Ao q) d))];exact n
 there:=fun b u q _=>⟨u,k b u q⟩
 tups:=fun b e q=>by rw[A4 (A7 q c)];exact q
 frzs:=fun b u e q=>by rw[A4 (A7 q c)];exact q
 tbls:=fun b f q=>⟨#[],by rw[A4 (A7 q c),q];simp⟩
theorem Un.write (c:Mut (H x))(j:e=x∨H e=some (.own x))(k:∀b u,b≠e->h.get? b=some u->h'.get? b=some u)(d:∃u,h'.get? e=some u):Un fs ex H (upd H x o) h h':=by
 have g:∀b,H b=none->b≠x:=fun b n z=>by subst z;rw[n]at c;exact c
 have i:∀b,H b=none->b≠e:=fun b n z=>by
  subst z;rcases j with r |r
  ·exact g b n r
  ·rw[n]at r;cases r
 have f:∀b u,H b=some u->¬Mut (some u)->b≠x:=fun b u q l z=>by subst z;rw[q]at c;exact l c
 refine⟨fun b u q n _ _=>k b u (i b n) q,fun b u q n _ _=>⟨u.slots,k b u (i b n) q⟩,fun b u q n _=>by rw[A4 (g b n)];exact n,fun b u q _=>?_,
  fun b m q=>by rw[A4 (f b _ q fun z=>z)];exact q,fun b u m q=>by rw[A4 (f b _ q fun z=>z)];exact q,fun b p q=>⟨#[],by rw[A4 (f b _ q fun z=>z),q];simp⟩⟩
 by_cases a:b=e
 ·subst a;exact d
 ·exact⟨u,k b u a q⟩
end
noncomputable def trk (h:BR)(H:Hp):List AI:=(List.range h.objs.size).filter fun a=>(H a).isSome
noncomputable def A72 (h:BR)(H:Hp):BR:=hideAll h (trk h H)
theorem Av7 (h:BR)(H:Hp):(A72 h H).objs.size=h.objs.size:=PySem.W.hideAll_size _ _
theorem A92 (e:h.get? b=some o)(n:H b=none):(A72 h H).get? b=some o:=
 PySem.W.hideAll_get _ e fun a=>by have q:(H b).isSome=true:=(List.mem_filter.mp a).2;rw[n]at q;simp at q
theorem BL3 (e:(A72 h H).get? b=some o):h.get? b=some o/\H b=none:=by
 have a:h.get? b=some o:=PySem.W.of_hideAll (trk h H) e;refine⟨a,?_⟩;cases q:H b with
 |none=>rfl
 |some x=>have c:b∈trk h H:=List.mem_filter.mpr ⟨EL.mpr (Ao a),by simp[q]⟩;have z:(A72 h H).get? b=none:=PySem.W.hideAll_none (trk h H) c;rw[z]at e;cases e
structure Mod (K:AA)(mg:Str->Option AH)(base:BR):Prop where
 kin:K.In base
 glob:base.Ns mainGlobals mg
 blt:∃mb,base.Ns builtinsNs mb/\∀x:Str,x≠"__name__"->mb x=bootBuiltins x
 nolimit:base.NoLimit
/-- the context:a def's body (or a comprehension's block) running. base:fixed through the whole law;s₀,H₀:the entry;outer:the frames whose slots others may change (a def's callers);stack:all frames that run;
  ex:iterators that were made ahead of the entry and are walked here (a comprehension's);fn:the names whose cells were made at the entry (a def:all;a comprehension's block:its own);calm:not within an except suite;pn:pins that every state bears;xe:what is wanted of an exception that leaves the code -/
structure Cx where
 prog:Af
 w:Ap
 K:AA
 mg:Str->Option AH
 base:BR
 A:Around
 N:List Str
 s_0:AW
 H_0:Hp
 env:Env
 outer:List Env
 stack:List Env
 ex:List AI
 fn:Str->Bool
 calm:Bool
 pn:List (AI×Obj)
 xe:AH->AW->Prop
noncomputable def frs (l:List Env):List AI:=l.filterMap (·.frame)
noncomputable abbrev Cx.fs (X:Cx):List AI:=frs X.outer
def Vis (a:Scope)(x:Str):Prop:=a.names.lookup x=some .local∨a.names.lookup x=some .cell∨a.names.lookup x=some .free
def Loc (a:Scope)(x:Str):Prop:=a.names.lookup x=some .local∨a.names.lookup x=some .cell
def By3 (a:Env)(h:BR)(m:Str->Option AH)(x:Str)(u:AH):Prop:=
 (a.kindOf x=some .local/\m x=some u)∨((a.kindOf x=some .cell∨a.kindOf x=some .free)/\∃c,a.cells.lookup x=some c/\h.IsCell c (some u))
structure Cx.Ok (X:Cx):Prop where
 mod:Mod X.K X.mg X.base
 kind:X.env.scope.kind=.function
 glob:X.env.globals=mainGlobals
 blt:X.env.builtins=builtinsNs
 above:X.s_0.heap.objs.size<=X.env.locals
 inj:∀x y c,X.env.cells.lookup x=some c->X.env.cells.lookup y=some c->x=y
 has:∀x,(X.env.kindOf x=some .cell∨X.env.kindOf x=some .free)->∃c,X.env.cells.lookup x=some c
 cab:∀x c,X.fn x=true->X.env.cells.lookup x=some c->X.s_0.heap.objs.size<=c
 hd:X.calm=true->X.A.handled=none
 frames:X.A.frames=some X.stack
 stk:X.stack=X.outer∨(X.stack=X.env::X.outer/\X.env.frame=some X.env.locals)
 exf:∀b∈X.ex,b≠X.env.locals/\∀x c,X.env.cells.lookup x=some c->c≠b
 bs:∀b o,X.base.get? b=some o->X.s_0.heap.get? b=some o/\X.H_0 b=none
 bsz:X.base.objs.size<=X.s_0.heap.objs.size
 noex:∀b o,X.base.get? b=some o->b∉X.ex
 exfs:∀b∈X.ex,b∉X.fs
 funs:X.s_0.heap.FunFrames X.base X.outer
 frf:∀b∈X.fs,X.H_0 b=none
structure Inv (X:Cx)(pins:List (AI×Obj))(σ:List (Option V))(H:Hp)(s:AW):Prop where
 ok:X.Ok
 os:s.os=X.s_0.os
 bare:AllBare s.gens
 base:Un X.fs X.ex X.H_0 H X.s_0.heap s.heap
 loc:∃m,s.heap.Ns X.env.locals m/\∀(i:Nat) (x:Str) (v:V),X.N[i]?=some x->σ[i]?=some (some v)->Vis X.env.scope x->∃u,RelV v u/\By3 X.env s.heap m x u
 cell:∀x c,X.env.cells.lookup x=some c->∃v,s.heap.IsCell c v
 free:H X.env.locals=none
 freeC:∀x c,X.env.cells.lookup x=some c->H c=none
 pin:∀p∈X.pn++pins,s.heap.get? p.1=some p.2/\H p.1=none/\p.1≠X.env.locals/\p.1∉X.fs/\∀v,p.2.data≠.cell v
 hok:HOk X.prog X.w H s.heap
 len:σ.length=X.N.length
section
variable {X:Cx} {pins:List (AI×Obj)} {σ:List (Option V)} {H H':Hp} {s:AW} {h':BR}
theorem Cx.Ok.nofr (a:X.Ok)(e:X.base.get? b=some o):b∉X.fs:=fun c=>by have:=(a.funs.mem c).1;rw[e]at this;cases this
theorem Inv.bs (I:Inv X pins σ H s):∀b o,X.base.get? b=some o->s.heap.get? b=some o/\H b=none:=fun b o e=>
 ⟨I.base.keep b o (I.ok.bs b o e).1 (I.ok.bs b o e).2 (I.ok.nofr e) (I.ok.noex b o e),I.base.free b o (I.ok.bs b o e).1 (I.ok.bs b o e).2 (I.ok.noex b o e)⟩
theorem Inv.bk (I:Inv X pins σ H s):∀b o,X.base.get? b=some o->s.heap.get? b=some o:=fun b o e=>(I.bs b o e).1
theorem Inv.mod (I:Inv X pins σ H s):Mod X.K X.mg X.base:=I.ok.mod
theorem Inv.kIn (I:Inv X pins σ H s):X.K.In s.heap:=I.ok.mod.kin.keeps I.bk
theorem Inv.lt (I:Inv X pins σ H s):X.env.locals<s.heap.objs.size:=let ⟨_,a,_⟩:=I.loc;a.lt
theorem Inv.sz (I:Inv X pins σ H s):X.s_0.heap.objs.size<=s.heap.objs.size:=BV I.ok.above (DX I.lt)
theorem Inv.nofs (I:Inv X pins σ H s)(h:s.heap.objs.size<=a):a∉X.fs:=fun b=>by obtain⟨_,o,c,_⟩:=I.ok.funs.mem b;exact absurd (Av (Ao c) (BV I.sz h)) (CD _)
theorem Inv.cne (I:Inv X pins σ H s):∀x c,X.env.cells.lookup x=some c->c≠X.env.locals:=fun x c e z=>by obtain⟨v,o,d,f⟩:=I.cell x c e;obtain⟨m,⟨g,h,i,a,b,_⟩,_⟩:=I.loc;rw[z,a]at d;cases d;rw[b]at f;cases f
theorem Inv.funs (I:Inv X pins σ H s):s.heap.FunFrames X.base X.outer:=by
 have a:∀(l:List Env),(∀b∈frs l,b∈X.fs)->X.s_0.heap.FunFrames X.base l->s.heap.FunFrames X.base l:=by
  intro l
  induction l with
  |nil=>intro _ _;trivial
  |cons h r i=>intro g j;obtain⟨k,⟨L,o,c,m,n,p⟩,q⟩:=j;have d:L∈X.fs:=g L (by unfold frs;rw[De,c];exact AG);obtain⟨t,e⟩:=I.base.slot L o n (I.ok.frf L d) d fun z=>I.ok.exfs L z d;exact⟨k,⟨L,_,c,m,e,p⟩,i (fun b f=>g b (by unfold frs;rw[De,c];exact AC _ f)) q⟩
 exact a X.outer (fun _ f=>f) I.ok.funs
theorem Inv.stack (I:Inv X pins σ H s):s.heap.FunFrames X.base X.stack:=by
 rcases I.ok.stk with e |⟨e,a⟩
 ·rw[e];exact I.funs
 ·rw[e];obtain⟨m,b,_⟩:=I.loc;refine .cons (by rw[I.ok.kind];decide) a b ?_ I.funs;exact Heap.get?_none_of_le (BV I.ok.bsz I.ok.above)
theorem Inv.stkSub (I:Inv X pins σ H s):∀b∈frs X.stack,b∈X.env.locals::X.fs:=fun b a=>by
 rcases I.ok.stk with e |⟨e,c⟩
 ·rw[e]at a;exact AC _ a
 ·rw[e]at a;unfold frs at a;rw[De,c]at a;exact a
theorem Inv.stkFree (I:Inv X pins σ H s):∀b∈frs X.stack,H b=none:=fun b a=>by
 rcases AK.mp (I.stkSub b a)with e |a
 ·rw[e];exact I.free
 ·obtain⟨_,o,c,_⟩:=I.ok.funs.mem a;exact I.base.free b o c (I.ok.frf b a) fun z=>I.ok.exfs b z a
theorem Inv.step {g':Array GenState}{t':Nat}{d':Drawn}{ch:List AI}(I:Inv X pins σ H s)
  (g:∀b∈ch,(b∈X.ex∨X.s_0.heap.objs.size<=b)/\b≠X.env.locals/\(∀x c,X.env.cells.lookup x=some c->c≠b)/\∀p∈X.pn++pins,p.1≠b)
  (h:∀b o,b≠X.env.locals->b∉X.fs->b∉ch->s.heap.get? b=some o->H b=none->h'.get? b=some o)
  (B:∀b o,b≠X.env.locals->b∈X.fs->b∉ch->s.heap.get? b=some o->H b=none->∃O,h'.get? b=some {o with slots:=O}) (f:∀b o,b∉ch->s.heap.get? b=some o->H b=none->H' b=none)
  (C:∀b o,b∉ch->s.heap.get? b=some o->∃F,h'.get? b=some F)
  (G:∀b xs,H b=some (.tup xs)->H' b=some (.tup xs)) (J:∀b o u,H b=some (.frz o u)->H' b=some (.frz o u)) (K:∀b ps,H b=some (.tbl ps)->∃L,H' b=some (.tbl (ps++L)))
  (ns:∀m,s.heap.Ns X.env.locals m->h'.Ns X.env.locals m) (P:HOk X.prog X.w H' h') (W:AllBare g'):
  Inv X pins σ H' {s with heap:=h',gens:=g',drawn:=d',toks:=t'}:=by
 have M:∀b o,X.s_0.heap.get? b=some o->b≠X.env.locals:=fun b o e=>Ba (Av (Ao e) I.ok.above);have y:∀b o,X.s_0.heap.get? b=some o->b∉X.ex->b∉ch:=fun b o e a D=>by
  rcases(g b D).1 with z |z
  ·exact a z
  ·exact absurd (Av (Ao e) z) (CD _)
 have j:∀x c,X.env.cells.lookup x=some c->∀v,s.heap.IsCell c v->h'.IsCell c v:=fun x c e v ⟨o,E,Q⟩=>by
  have t:c∉ch:=fun z=>(g c z).2.2.1 x c e rfl;by_cases S:c∈X.fs
  ·obtain⟨O,q⟩:=B c o (I.cne x c e) S t E (I.freeC x c e);exact⟨_,q,Q⟩
  ·exact⟨o,h c o (I.cne x c e) S t E (I.freeC x c e),Q⟩
 refine⟨I.ok,I.os,W,⟨fun b o e n D a=>?_,fun b o e n D a=>?_,fun b o e n a=>?_,fun b o e a=>?_,fun b xs e=>G b xs (I.base.tups b xs e),fun b o xs e=>J b o xs (I.base.frzs b o xs e),fun b ps e=>?_⟩,?_,fun x c e=>?_,?_,fun x c e=>?_,fun p T=>?_,P,I.len⟩
 ·exact h b o (M b o e) D (y b o e a) (I.base.keep b o e n D a) (I.base.free b o e n a)
 ·obtain⟨O,A⟩:=I.base.slot b o e n D a;obtain⟨R,N⟩:=B b _ (M b o e) D (y b o e a) A (I.base.free b o e n a);exact⟨R,N⟩
 ·obtain⟨F,A⟩:=I.base.there b o e a;exact f b F (y b o e a) A (I.base.free b o e n a)
 ·obtain⟨F,A⟩:=I.base.there b o e a;exact C b F (y b o e a) A
 ·obtain⟨Y,A⟩:=I.base.tbls b ps e;obtain⟨Z,N⟩:=K b _ A;exact⟨Y++Z,by rw[N,Array.append_assoc]⟩
 ·obtain⟨m,hn,hl⟩:=I.loc;refine⟨m,ns m hn,fun i x v A N e3=>?_⟩;obtain⟨u,r,l⟩:=hl i x v A N e3;refine⟨u,r,?_⟩;rcases l with l |⟨k,c,e,z⟩
  ·exact .inl l
  ·exact .inr ⟨k,c,e,j x c e _ z⟩
 ·obtain⟨v,z⟩:=I.cell x c e;exact⟨v,j x c e v z⟩
 ·obtain⟨m,⟨o,_,_,E,_⟩,_⟩:=I.loc;exact f _ o (fun z=>(g _ z).2.1 rfl) E I.free
 ·obtain⟨v,o,E,Q⟩:=I.cell x c e;exact f c o (fun z=>(g c z).2.2.1 x c e rfl) E (I.freeC x c e)
 ·obtain⟨e,n,U,V,d⟩:=I.pin p T;have t:p.1∉ch:=fun z=>(g p.1 z).2.2.2 p T rfl;exact⟨h p.1 p.2 U V t e n,f p.1 p.2 t e n,U,V,d⟩
theorem Inv.un {t':Nat}(I:Inv X pins σ H s)(u:Un X.fs [] H H' s.heap h')(c:HOk X.prog X.w H' h'):Inv X pins σ H' {s with heap:=h',toks:=t'}:=by
 obtain⟨m,⟨o,l,p,h,r⟩,_⟩:=id I.loc;obtain⟨q,i⟩:=u.any h I.free (by simp);exact I.step (g':=s.gens) (d':=s.drawn) (ch:=[]) (fun _ z=>nomatch z) (fun b o _ d _ e n=>u.keep b o e n d (by simp)) (fun b o _ d _ e n=>u.slot b o e n d (by simp)) (fun b o _ e n=>u.free b o e n (by simp)) (fun b o _ e=>u.there b o e (by simp)) u.tups u.frzs u.tbls (fun t j=>by
  obtain⟨v,f,g,a,k⟩:=j;rw[h]at a;cases a;exact⟨_,f,g,i,k⟩) c I.bare
theorem Inv.call {g':Array GenState}{t':Nat}{d':Drawn}{ch:List AI}(I:Inv X pins σ H s)(u:Un (frs X.stack) ch H H' s.heap h')(g:HOk X.prog X.w H' h')(l:AllBare g')
  (d:∀b∈ch,(b∈X.ex∨X.s_0.heap.objs.size<=b)/\b≠X.env.locals/\(∀x c,X.env.cells.lookup x=some c->c≠b)/\∀p∈X.pn++pins,p.1≠b):
  Inv X pins σ H' {s with heap:=h',gens:=g',drawn:=d',toks:=t'}:=by
 obtain⟨m,⟨o,y,A,k,r⟩,_⟩:=id I.loc;obtain⟨B,h⟩:=u.any k I.free fun z=>(d _ z).2.1 rfl;exact I.step (ch:=ch) d (fun b o h q a e n=>u.keep b o e n (fun z=>(AK.mp (I.stkSub b z)).elim h q) a) (fun b o _ _ a e n=>u.any e n a) (fun b o a e n=>u.free b o e n a) (fun b o a e=>u.there b o e a) u.tups u.frzs u.tbls (fun C t=>by
  obtain⟨D,i,j,f,v⟩:=t;rw[k]at f;cases f;exact⟨_,i,j,h,v⟩) g l
theorem Inv.turned {t':Nat}{a:AI}(I:Inv X pins σ H s)(k:∀b o,b≠a->s.heap.get? b=some o->h'.get? b=some o)(h:H a=none)(g:a≠X.env.locals)
  (i:a∈X.ex∨X.s_0.heap.objs.size<=a) (j:∀x c,X.env.cells.lookup x=some c->c≠a) (l:∀p∈X.pn++pins,p.1≠a):Inv X pins σ H {s with heap:=h',toks:=t'}:=by
 have f:∀b u,H b=some u->b≠a:=fun b u e z=>by rw[z,h]at e;cases e
 refine I.step (g':=s.gens) (d':=s.drawn) (ch:=[a]) (fun b t=>?_) (fun b o _ _ d e _=>k b o (fun z=>d (by simp[z])) e) (fun b o _ _ d e _=>⟨o.slots,k b o (fun z=>d (by simp[z])) e⟩) (fun _ _ _ _ n=>n)
  (fun b o d e=>⟨o,k b o (fun z=>d (by simp[z])) e⟩) (fun _ _ e=>e) (fun _ _ _ e=>e) (fun b C e=>⟨#[],by rw[e];simp⟩) (fun m w=>?_) (fun b u e=>?_) I.bare
 ·have e:b=a:=by simpa using t
  subst e;exact⟨i,g,j,l⟩
 ·obtain⟨o,y,A,B,r⟩:=w;exact⟨o,y,A,k _ o (BD g) B,r⟩
 ·refine(I.hok b u e).stay (fun c v d q=>k c v ?_ q) (fun _ q=>q) fun _ _ q=>q;rcases d with z |z
  ·rw[z];exact f b u e
  ·exact f c _ z
theorem Inv.tok (I:Inv X pins σ H s)(t:Nat):Inv X pins σ H {s with toks:=t}:=I.un (h':=s.heap) (t':=t) Un.refl I.hok
theorem Inv.kept (I:Inv X pins σ H s)(k:∀b u,s.heap.get? b=some u->h'.get? b=some u):Inv X pins σ H {s with heap:=h',toks:=t'}:=I.un (Un.kept k) (I.hok.kept k)
theorem Inv.laid (I:Inv X pins σ H s)(k:∀b u,s.heap.get? b=some u->h'.get? b=some u)(c:s.heap.objs.size<=a)(d:ObjOk X.prog X.w (upd H a o) h' a o):
  Inv X pins σ (upd H a o) {s with heap:=h',toks:=t'}:=I.un (Un.laid k c (I.hok.fresh c)) (I.hok.laid k c d)
theorem Inv.write (I:Inv X pins σ H s)(d:Mut (H x))(f:e=x∨H e=some (.own x))(k:∀b u,b≠e->s.heap.get? b=some u->h'.get? b=some u)(a:∃u,h'.get? e=some u)
  (c:ObjOk X.prog X.w (upd H x o) h' x o):Inv X pins σ (upd H x o) {s with heap:=h',toks:=t'}:=I.un (Un.write d f k a) (I.hok.write d f k a c)
theorem Inv.weak (I:Inv X pins σ H s)(b:σ'.length=σ.length)(w:∀(i:Nat) v,σ'[i]?=some (some v)->σ[i]?=some (some v)):Inv X pins σ' H s:=
 ⟨I.ok,I.os,I.bare,I.base,let ⟨m,c,a⟩:=I.loc;⟨m,c,fun i x v d e f=>a i x v d (w i v e) f⟩,I.cell,I.free,I.freeC,I.pin,I.hok,b.trans I.len⟩
theorem Inv.pins_of (I:Inv X pins σ H s)(h:∀p∈pins',s.heap.get? p.1=some p.2/\H p.1=none/\p.1≠X.env.locals/\p.1∉X.fs/\∀v,p.2.data≠.cell v):Inv X pins' σ H s:=
 ⟨I.ok,I.os,I.bare,I.base,I.loc,I.cell,I.free,I.freeC,fun p a=>(AY.mp a).elim (fun z=>I.pin p (AU _ z)) (h p),I.hok,I.len⟩
theorem AK4 {N:List Str}(c:N.Nodup){i j:Nat}{x:Str}(a:N[i]?=some x)(b:N[j]?=some x):i=j:=by obtain⟨f,d⟩:=Ad.mp a;obtain⟨g,e⟩:=Ad.mp b;exact(List.getElem_inj c).mp (d.trans e.symm)
theorem Ar4 {M:Model}{A:Around}{E:AH->AW->Prop}{i:Nat}{x:Str}{v:V}{u:AH}{Q:Unit->AW->Prop}(I:Inv X pins σ H s)(hN:X.N.Nodup)(R:X.N[i]?=some x)(B:Loc X.env.scope x)(r:RelV v u)
  (h:∀s',Inv X pins (σ.set i (some v)) H s'->(∃a,Heap.SameBut a s.heap s'.heap/\(a=X.env.locals∨X.env.cells.lookup x=some a))->Q () s') (hf:X.fn x=true∨X.env.scope.names.lookup x=some .local:=by first |exact .inl rfl |exact .inr rfl |assumption):wpAny M A (storeName X.env x u) Q E s:=by
 obtain⟨m,hn,hl⟩:=id I.loc;have S:(X.env.scope.kind==.class||(X.env.scope.kind==.module&&X.env.locals != X.env.globals))=false:=by rw[I.ok.kind];rfl
 have F:i<σ.length:=by rw[I.len];exact(Ad.mp R).1
 have J:=I.cne;have g:∀{a:AI} {P:BR},(∃o,s.heap.get? a=some o/\H a=none)->Heap.SameBut a s.heap P->HOk X.prog X.w H P:=fun {a P} ha f b ob e=>by
  obtain⟨_,_,C⟩:=ha;refine(I.hok b ob e).stay (fun c Z t q=>(f.2 c ?_).trans q) (fun _ q=>q) fun _ _ q=>q;rintro rfl;rcases t with rfl |t
  ·rw[C]at e;cases e
  ·rw[C]at t;cases t
 rcases B with G |G
 ·refine wpAny_storeName_local G hn (fun P aa f=>?_) S;obtain⟨oL,_,_,ab,_⟩:=id hn;refine h _ ⟨I.ok,I.os,I.bare,⟨fun b o e n K B=>?_,fun b o e n K B=>?_,I.base.free,fun b o e B=>?_,I.base.tups,I.base.frzs,I.base.tbls⟩,⟨_,aa,fun j y v' l D e3=>?_⟩,fun y c e=>?_,I.free,I.freeC,fun p hp=>?_,g ⟨oL,ab,I.free⟩ f,by simpa using I.len⟩ ⟨_,f,.inl rfl⟩
  ·exact(f.2 b (Ba (Av (Ao e) I.ok.above))).trans (I.base.keep b o e n K B)
  ·obtain⟨sl,l⟩:=I.base.slot b o e n K B;exact⟨sl,(f.2 b (Ba (Av (Ao e) I.ok.above))).trans l⟩
  ·obtain⟨o',l⟩:=I.base.there b o e B;exact⟨o',(f.2 b (Ba (Av (Ao e) I.ok.above))).trans l⟩
  ·by_cases L:j=i
   ·subst L;rw[R]at l;cases l;rw[Cp F]at D;cases D;exact⟨u,r,.inl ⟨G,by simp⟩⟩
   ·rw[CV (BD L)]at D;obtain⟨u',r',q⟩:=hl j y v' l D e3;refine⟨u',r',?_⟩;rcases q with ⟨k,e⟩ |⟨k,c,e,z⟩
    ·refine .inl ⟨k,?_⟩;have:y≠x:=fun e=>L (AK4 hN l (e▸R));simp[this,e]
    ·exact .inr ⟨k,c,e,z.sameBut f (J y c e)⟩
  ·obtain⟨Z,z⟩:=I.cell y c e;exact⟨Z,z.sameBut f (J y c e)⟩
  ·obtain⟨e,n,ne,nf,d⟩:=I.pin p hp;exact⟨(f.2 p.1 ne).trans e,n,ne,nf,d⟩
 ·have O:X.fn x=true:=by
   rcases hf with z |z
   ·exact z
   ·rw[z]at G;cases G
  obtain⟨c,t⟩:=I.ok.has x (.inl G);obtain⟨Z,z⟩:=I.cell x c t;refine wpAny_storeName_cell I.ok.kind G t z (fun P T f=>?_);obtain⟨oc,U,W⟩:=id z;refine h {s with heap:=P} ⟨I.ok,I.os,I.bare,⟨fun b o e n K B=>?_,fun b o e n K B=>?_,I.base.free,fun b o e B=>?_,I.base.tups,I.base.frzs,I.base.tbls⟩,⟨m,hn.sameBut f (BD (J x c t)),fun j y v' l D e3=>?_⟩,fun y c' e=>?_,I.free,I.freeC,fun p hp=>?_,g ⟨oc,U,I.freeC x c t⟩ f,by simpa using I.len⟩ ⟨c,f,.inr t⟩
  ·exact(f.2 b (Ba (Av (Ao e) (I.ok.cab x c O t)))).trans (I.base.keep b o e n K B)
  ·obtain⟨sl,l⟩:=I.base.slot b o e n K B;exact⟨sl,(f.2 b (Ba (Av (Ao e) (I.ok.cab x c O t)))).trans l⟩
  ·obtain⟨o',l⟩:=I.base.there b o e B;exact⟨o',(f.2 b (Ba (Av (Ao e) (I.ok.cab x c O t)))).trans l⟩
  ·by_cases L:j=i
   ·subst L;rw[R]at l;cases l;rw[Cp F]at D;cases D;exact⟨u,r,.inr ⟨.inl G,c,t,T⟩⟩
   ·rw[CV (BD L)]at D;obtain⟨u',r',q⟩:=hl j y v' l D e3;refine⟨u',r',?_⟩;rcases q with q |⟨k,c',e,z'⟩
    ·exact .inl q
    ·refine .inr ⟨k,c',e,z'.sameBut f ?_⟩;rintro rfl;exact L (AK4 hN l (I.ok.inj _ _ _ e t▸R))
  ·by_cases Y:c'=c
   ·subst Y;exact⟨_,T⟩
   ·obtain⟨w2,z2⟩:=I.cell y c' e;exact⟨w2,z2.sameBut f Y⟩
  ·obtain⟨e,n,ne,nf,d⟩:=I.pin p hp;refine⟨(f.2 p.1 ?_).trans e,n,ne,nf,d⟩;intro q;rw[q,U]at e;have q':oc=p.2:=Aa e;exact d Z (by rw[←q'];exact W)
theorem AO3 (I:Inv X pins σ H s)(a:X.N.Nodup)(b:X.N[i]?=some x)(c:Loc X.env.scope x)(r:RelV v u)
  (h:∀s',Inv X pins (σ.set i (some v)) H s'->Q () s') (d:X.fn x=true∨X.env.scope.names.lookup x=some .local:=by first |exact .inl rfl |exact .inr rfl |assumption):wpAny M A (storeName X.env x u) Q E s:=
 Ar4 I a b c r (fun s' e _=>h s' e) d
theorem Inv.call' (I:Inv X pins σ H s)(f:s'.os=s.os)(u:Un (frs X.stack) ch H H' s.heap s'.heap)(a:HOk X.prog X.w H' s'.heap)(g:AllBare s'.gens)
  (d:∀b∈ch,(b∈X.ex∨X.s_0.heap.objs.size<=b)/\b≠X.env.locals/\(∀x c,X.env.cells.lookup x=some c->c≠b)/\∀p∈X.pn++pins,p.1≠b):Inv X pins σ H' s':=by
 obtain⟨l,h,i,j,k⟩:=s';have e:k=s.os:=f;subst e;exact I.call (g':=h) (t':=j) (d':=i) u a g d
end
noncomputable abbrev XK:=AH->Option AI->Hp->Prop
noncomputable abbrev St:=List (Option V)
noncomputable abbrev VK:=V->Hp->Prop
noncomputable abbrev TE:=St->Hp->VK->Prop
noncomputable abbrev TT:=St->Hp->(Bool->Hp->Prop)->Prop
noncomputable abbrev TA:=St->Hp->(List V->Hp->Prop)->Prop
structure Ends where
 nx:St->Hp->Prop
 rt:VK
 bk:St->Hp->Prop:=fun _ _=>False
 ct:St->Hp->Prop:=fun _ _=>False
noncomputable abbrev TS:=Ends->St->Hp->Prop
inductive EP (X:Cx) (pins:List (AI×Obj)) (σ:St) (Q:VK) (u:AH) (s':AW):Prop
 |mk:∀v H',Inv X pins σ H' s'->RelV v u->Q v H'->EP X pins σ Q u s'
inductive NP (X:Cx) (pins:List (AI×Obj)) (Q:St->Hp->Prop) (s':AW):Prop
 |mk:∀σ' H',Inv X pins σ' H' s'->Q σ' H'->NP X pins Q s'
inductive TP (X:Cx) (pins:List (AI×Obj)) (σ:St) (Q:Bool->Hp->Prop) (b:Bool) (s':AW):Prop
 |mk:∀H',Inv X pins σ H' s'->Q b H'->TP X pins σ Q b s'
inductive AP (X:Cx) (pins:List (AI×Obj)) (σ:St) (Q:List V->Hp->Prop) (us:List AH) (s':AW):Prop
 |mk:∀vs H',Inv X pins σ H' s'->Vals vs us->Q vs H'->AP X pins σ Q us s'
inductive RP (X:Cx) (pins:List (AI×Obj)) (R:VK) (u:AH) (s':AW):Prop
 |mk:∀v σ' H',Inv X pins σ' H' s'->RelV v u->R v H'->RP X pins R u s'
def SP (X:Cx)(pins:List (AI×Obj))(D:Ends)(f:Flow)(s':AW):Prop:=
 match f with
 |.next=>NP X pins D.nx s'
 |.brk=>NP X pins D.bk s'
 |.cont=>NP X pins D.ct s'
 |.ret u=>RP X pins D.rt u s'
def PE (X:Cx)(e:Expr)(t:TE):Prop:=
 ∀(a:List (AI×Obj)) (s:AW) (b:St) (H:Hp) (Q:VK),Inv X a b H s->t b H Q->wpAny (model X.prog X.w) X.A (eval e X.env) (EP X a b Q) X.xe s
def PT (X:Cx)(e:Expr)(t:TT):Prop:=
 ∀(a:List (AI×Obj)) (s:AW) (b:St) (H:Hp) (Q:Bool->Hp->Prop),Inv X a b H s->t b H Q->wpAny (model X.prog X.w) X.A (isTrue e X.env (eval e X.env)) (TP X a b Q) X.xe s
def PW (X:Cx)(e:Expr)(t:TT):Prop:=
 ∀(b:Sem AH) (a:List (AI×Obj)) (s:AW) (c:St) (H:Hp) (Q:Bool->Hp->Prop),Inv X a c H s->t c H Q->wpAny (model X.prog X.w) X.A (isTrue e X.env b) (TP X a c Q) X.xe s
theorem PW.pt (h:PW X e t):PT X e t:=h _
def PA (X:Cx)(es:List Expr)(t:TA):Prop:=
 ∀(b:Pos) (a:List (AI×Obj)) (s:AW) (c:St) (H:Hp) (Q:List V->Hp->Prop),Inv X a c H s->t c H Q->wpAny (model X.prog X.w) X.A (spliced (backTo b (starEach es X.env))) (AP X a c Q) X.xe s
def PS (X:Cx)(st:Stmt)(t:TS):Prop:=
 ∀(a:List (AI×Obj)) (s:AW) (b:St) (H:Hp) (D:Ends),Inv X a b H s->t D b H->wpAny (model X.prog X.w) X.A (exec st X.env) (SP X a D) X.xe s
def PSs (X:Cx)(st:List Stmt)(t:TS):Prop:=
 ∀(a:List (AI×Obj)) (s:AW) (b:St) (H:Hp) (D:Ends),Inv X a b H s->t D b H->wpAny (model X.prog X.w) X.A (execs st X.env) (SP X a D) X.xe s
theorem thn (h:wpAny M A t Q E s)(b:∀a s,Q a s->Q' a s):wpAny M A t Q' E s:=CC h b fun _ _ x=>x
section
variable {X:Cx}
inductive Bm6 (i:Nat) (σ:St) (H:Hp) (Q:VK):Prop
 |mk:∀v,σ[i]?=some (some v)->Q v H->Bm6 i σ H Q
def Q8 (i:Nat):TE:=fun a H Q=>Bm6 i a H Q
def tC (v:V):TE:=fun _ H Q=>Q v H
theorem Bb0 (k:X.N[i]?=some x)(n:Vis X.env.scope x)(hd:(x==("__debug__":Str))=false:=by decide)(g:(x==("__classdict__":Str))=false:=by decide):PE X (.Name x pos) (Q8 i):=by
 intro f s o H Q I h;obtain⟨v,e,h⟩:=h;obtain⟨m,p,q⟩:=I.loc;obtain⟨u,r,l⟩:=q i x v k e n;have b:EP X f o Q u s:=⟨v,H,I,r,h⟩;rcases l with ⟨d,t⟩ |⟨d,c,j,a⟩
 ·exact wpAny_Name (wpAny_loadName_local I.ok.kind d p t b) hd
 ·rcases d with d |d
  ·exact wpAny_Name (wpAny_loadName_cell I.ok.kind d j a b) hd
  ·exact wpAny_Name (wpAny_loadName_free I.ok.kind d j a b g) hd
theorem B0:PE X (.Constant (.int i) j pos) (tC (.int i)):=fun _ _ _ H _ I h=>wpAny_Constant_int ⟨.int i,H,I.tok _,⟨_,rfl⟩,h⟩
theorem AP9:PE X (.Constant (.bool b) j pos) (tC (.bl b)):=fun _ _ _ H _ I h=>Constant_bool ⟨.bl b,H,I,rfl,h⟩
theorem At0:PE X (.Constant .none j pos) (tC .non):=fun _ _ _ H _ I h=>Constant_none ⟨.non,H,I,rfl,h⟩
theorem C7:PE X (.Constant (.str x) j pos) (tC (.str x)):=fun _ _ _ H _ I h=>Calls.Constant_str ⟨.str x,H,I.tok _,⟨_,rfl⟩,h⟩
def Gl (X:Cx)(x:Str):Prop:=X.env.kindOf x=some .globalImplicit
theorem AL6 (I:Inv X pins σ H s)(a:Gl X x)(b:X.mg x=some u)(h:Q u s)
  (hd:(x==("__debug__":Str))=false:=by decide):wpAny (model X.prog X.w) X.A (eval (.Name x pos) X.env) Q E s:=
 Calls.Name_function_global I.ok.kind a (Calls.loadGlobal_global (by rw[I.ok.glob];exact I.mod.glob.keeps I.bk) b h) hd
theorem AH6 (I:Inv X pins σ H s)(a:Gl X x)(b:X.mg x=none)(c:bootBuiltins x=some u)(h:Q u s)
  (d:x≠"__name__":=by decide) (hd:(x==("__debug__":Str))=false:=by decide):wpAny (model X.prog X.w) X.A (eval (.Name x pos) X.env) Q E s:=by
 obtain⟨g,e,f⟩:=I.mod.blt;exact Calls.Name_function_global I.ok.kind a (Calls.loadGlobal_builtin (by rw[I.ok.glob];exact I.mod.glob.keeps I.bk) b (by rw[I.ok.blt];exact e.keeps I.bk) ((f x d).trans c) h) hd
theorem Aa0 (a:Gl X x)(b:X.mg x=some u)(r:RelV v u)(hd:(x==("__debug__":Str))=false:=by decide):PE X (.Name x pos) (tC v):=
 fun _ _ _ H _ I h=>AL6 I a b ⟨v,H,I,r,h⟩ hd
variable {a b:Expr} {ta tb:TE} {pos:Pos}
def PC (X:Cx)(op:CmpOp)(a b:Expr)(t:TE):Prop:=
 ∀(c:List (AI×Obj)) (s:AW) (f:St) (H:Hp) (Q:VK),Inv X c f H s->t f H Q->
  wpAny (model X.prog X.w) X.A (eval a X.env) (fun v d=>wpAny (model X.prog X.w) X.A (eval b X.env) (fun u e=>wpAny (model X.prog X.w) X.A (compareOp op v u) (EP X c f Q) X.xe e) X.xe d) X.xe s
inductive ItB (Q:Bool->Hp->Prop) (x:V) (H1:Hp):Prop
 |mk:∀c,x=.bl c->Q c H1->ItB Q x H1
def tB (t:TE):TT:=fun a H Q=>t a H fun x b=>ItB Q x b
theorem Bc3 (h:PC X op a b t)(d:behindInMarks op b=false:=by first |exact nobehind _ (by decide) (by decide) |rfl):PE X (.Compare a [op] [b] pos) t:=fun c s e H Q I f=>wpAny_Compare1 (h c s e H Q I f) d
theorem A15 (h:PC X op a b t)(f:behindInMarks op b=false:=by first |exact nobehind _ (by decide) (by decide) |rfl):PT X (.Compare a [op] [b] pos) (tB t):=by intro e s g H Q I i;refine wpAny_isTrue_Compare1 (thn (h e s g H _ I i) fun v o f=>thn f fun u p j=>thn j fun c r ⟨x,k,l,m,n⟩=>?_) f;obtain⟨d,rfl,q⟩:=n;cases m;exact Bo ⟨k,l,q⟩
theorem R7 (h:PE X e t)(c:∀a,isTrue e X.env a=(do let v ←a;standAt e.pos;holding [v] (truthy v)):=by intro _;rfl):PT X e (tB t):=by intro b s f H Q I g;refine isTrue_plain (thn (h b s f H _ I g) fun v m ⟨x,i,j,k,l⟩=>?_) (c _);obtain⟨d,rfl,q⟩:=l;cases k;exact Bo ⟨i,j,q⟩
variable {tA tB':TT} {rest:List Expr}
def Bw7 (t u:TT):TT:=fun a H Q=>t a H fun c b=>if c=true then u a b Q else Q false b
def tOr (t u:TT):TT:=fun a H Q=>t a H fun c b=>if c=true then Q true b else u a b Q
def B24 (t:TT):TT:=fun a H Q=>t a H fun c b=>Q (!c) b
theorem X4 (d:PT X a tA):PW X (.BoolOp .And [a] pos) tA:=by
 intro g b s f H Q I h;refine isTrue_and (thn (d b s f H Q I h) fun c i e=>?_);cases c with
 |true=>exact isTrue_and_nil e
 |false=>exact e
theorem Aa9 (d:PT X a tA):PW X (.BoolOp .Or [a] pos) tA:=by
 intro g b s f H Q I h;refine isTrue_or (thn (d b s f H Q I h) fun c i e=>?_);cases c with
 |false=>exact isTrue_or_nil e
 |true=>exact e
theorem w4 (j:PT X a tA)(k:PW X (.BoolOp .And (b::rest) pos) tB'):PW X (.BoolOp .And (a::b::rest) pos) (Bw7 tA tB'):=by
 intro l d s e H Q I h;refine isTrue_and (thn (j d s e H _ I h) fun c m ⟨f,g,i⟩=>?_);cases c with
 |true=>exact k l d m e f Q g i
 |false=>exact⟨f,g,i⟩
theorem A43 (j:PT X a tA)(k:PW X (.BoolOp .Or (b::rest) pos) tB'):PW X (.BoolOp .Or (a::b::rest) pos) (tOr tA tB'):=by
 intro l d s e H Q I h;refine isTrue_or (thn (j d s e H _ I h) fun c m ⟨f,g,i⟩=>?_);cases c with
 |true=>exact⟨f,g,i⟩
 |false=>exact k l d m e f Q g i
theorem Bg4 (e:PT X a tA):PT X (.UnaryOp .Not a pos) (B24 tA):=by intro b s f H Q I h;exact isTrue_not (thn (e b s f H (fun c d=>Q (!c) d) I h) fun c j ⟨d,g,i⟩=>⟨d,g,i⟩)
inductive Ap2 (tb:TE) (σ:St) (Q:VK) (x:V) (H1:Hp):Prop
 |mk:∀c,x=.bl c->(if c=true then tb σ H1 Q else Q (.bl false) H1)->Ap2 tb σ Q x H1
def Be3 (b c:TE):TE:=fun a H Q=>b a H fun x d=>Ap2 c a Q x d
inductive Ba5 (tb:TE) (σ:St) (Q:VK) (x:V) (H1:Hp):Prop
 |mk:∀c,x=.bl c->(if c=true then Q (.bl true) H1 else tb σ H1 Q)->Ba5 tb σ Q x H1
def B04 (b c:TE):TE:=fun a H Q=>b a H fun x d=>Ba5 c a Q x d
theorem m2 (h:PE X a t):PE X (.BoolOp op [a] pos) t:=fun b s c H Q I d=>BoolOp_one (h b s c H Q I d)
theorem AH0 (j:PE X a ta)(k:PE X (.BoolOp .And (b::rest) pos) tb):PE X (.BoolOp .And (a::b::rest) pos) (Be3 ta tb):=by
 intro d s f H Q I h;refine BoolOp_and (thn (j d s f H _ I h) fun v l ⟨x,g,i,m,e⟩=>?_);obtain⟨c,rfl,e⟩:=e;cases m;refine Bo ?_;cases c with
 |true=>exact k d l f g Q i e
 |false=>exact⟨.bl false,g,i,rfl,e⟩
theorem Ak8 (j:PE X a ta)(k:PE X (.BoolOp .Or (b::rest) pos) tb):PE X (.BoolOp .Or (a::b::rest) pos) (B04 ta tb):=by
 intro d s f H Q I h;refine BoolOp_or (thn (j d s f H _ I h) fun v l ⟨x,g,i,m,e⟩=>?_);obtain⟨c,rfl,e⟩:=e;cases m;refine Bo ?_;cases c with
 |false=>exact k d l f g Q i e
 |true=>exact⟨.bl true,g,i,rfl,e⟩
def tIf (t:TT)(d e:TE):TE:=fun a H Q=>t a H fun c b=>if c=true then d a b Q else e a b Q
theorem U9 (l:PT X c tA)(m:PE X a ta)(n:PE X b tb):PE X (.IfExp c a b pos) (tIf tA ta tb):=by
 intro e s f H Q I h;refine wpAny_IfExp (thn (l e s f H _ I h) fun d g ⟨i,j,k⟩=>?_);cases d with
 |true=>exact m e g f i Q j k
 |false=>exact n e g f i Q j k
end
def SqL (K:AA)(H:Hp)(a:AI)(xs:List V):Prop:=
 Rd H a (.lst xs)∨
  ∃(o:Obj) (b:Array AH) (n:Nat),K.lookup a=some o/\o.cls=.type "list"/\o.dict=none/\o.data=.seq b n/\b.size<=sizeLine/\Vals xs b.toList
def SqT (K:AA)(H:Hp)(a:AI)(xs:List V):Prop:=
 Rd H a (.tup xs)∨
  ∃(o:Obj) (b:Array AH) (n:Nat),K.lookup a=some o/\o.cls=.type "tuple"/\o.data=.seq b n/\b.size<=sizeLine/\Vals xs b.toList
noncomputable def BF4:AH->Option V
 |.none=>some .non
 |.bool b=>some (.bl b)
 |.int i _=>some (.int i)
 |.str x _=>some (.str x)
 |.bytes b _=>some (.byt b)
 |.float b _=>some (.flt b)
 |.ref a=>some (.ref a)
 |.type n=>some (.ty n)
 |_=>none
theorem RelV.abs (r:RelV x u):BF4 u=some x:=by
 cases x with
 |non=>cases r;rfl
 |bl _=>cases r;rfl
 |int _=>obtain⟨t,rfl⟩:=r;rfl
 |str _=>obtain⟨t,rfl⟩:=r;rfl
 |byt _=>obtain⟨t,rfl⟩:=r;rfl
 |flt _=>obtain⟨t,rfl⟩:=r;rfl
 |ref _=>cases r;rfl
 |ty _=>cases r;rfl
theorem RelV.inj (r:RelV x u)(q:RelV y u):x=y:=Aa (r.abs.symm.trans q.abs)
theorem Vals.inj:∀{xs ys:List V} {us:List AH},Vals xs us->Vals ys us->xs=ys
 |_,_,_,.nil,.nil=>rfl
 |_,_,_,.cons r t,.cons a b=>by rw[r.inj a,Vals.inj t b]
section
variable {X:Cx} {pins:List (AI×Obj)} {σ:St} {H:Hp} {s:AW} {a:AI} {xs ys:List V}
theorem SqL.of {K:AA}(h:H a=some (.lst xs)):SqL K H a xs:=.inl (.inl h)
theorem SqT.of {K:AA}(h:H a=some (.tup xs)):SqT K H a xs:=.inl (.inl h)
theorem Inv.list (I:Inv X pins σ H s)(h:SqL X.K H a xs):∃b:List AH,Vals xs b/\PlainL s.heap a b.toArray/\xs.length<=sizeLine:=by
 rcases h with h |⟨o,b,n,c,d,f,g,i,r⟩
 ·obtain⟨z,b,n,r,e⟩:=h.ok I.hok;exact⟨b,r,⟨_,n,e,rfl,rfl,rfl⟩,z⟩
 ·refine⟨b.toList,r,⟨o,n,I.kIn a o c,d,f,by simpa using g⟩,?_⟩;have e:=r.length;simp only[Ce]at e;omega
theorem Inv.tuple (I:Inv X pins σ H s)(h:SqT X.K H a xs):∃b:List AH,Vals xs b/\IsTup s.heap a b.toArray/\xs.length<=sizeLine:=by
 rcases h with h |⟨o,b,n,c,d,f,g,r⟩
 ·obtain⟨z,b,r,p⟩:=h.ok I.hok;exact⟨b,r,p,z⟩
 ·refine⟨b.toList,r,⟨o,I.kIn a o c,d,n,by simpa using f⟩,?_⟩;have e:=r.length;simp only[Ce]at e;omega
theorem Inv.list_inj (I:Inv X pins σ H s)(h:SqL X.K H a xs)(h':SqL X.K H a ys):xs=ys:=by
 obtain⟨c,r,⟨o,n,e,_,_,d⟩,_⟩:=I.list h;obtain⟨b,i,⟨j,k,f,_,_,g⟩,_⟩:=I.list h';rw[e]at f;cases f;rw[d]at g;injection g with d1 _;have:c=b:=by simpa using Bh Array.toList d1
 subst this;exact r.inj i
theorem Inv.tuple_inj (I:Inv X pins σ H s)(h:SqT X.K H a xs)(h':SqT X.K H a ys):xs=ys:=by
 obtain⟨c,r,⟨o,e,_,n,d⟩,_⟩:=I.tuple h;obtain⟨b,i,⟨j,f,_,k,g⟩,_⟩:=I.tuple h';rw[e]at f;cases f;rw[d]at g;injection g with d1 _;have:c=b:=by simpa using Bh Array.toList d1
 subst this;exact r.inj i
end
noncomputable abbrev Cx.wish (X:Cx)(E:AH->AW->Prop):Cx:={X with xe:=E}
noncomputable abbrev Cx.nox (X:Cx):Cx:=X.wish fun _ _=>False
theorem Cx.Ok.wish {X:Cx}(a:X.Ok)(E:AH->AW->Prop):(X.wish E).Ok:=
 ⟨a.mod,a.kind,a.glob,a.blt,a.above,a.inj,a.has,a.cab,a.hd,a.frames,a.stk,a.exf,a.bs,a.bsz,a.noex,a.exfs,a.funs,a.frf⟩
theorem Cx.Ok.unwish {X:Cx}{E:AH->AW->Prop}(a:(X.wish E).Ok):X.Ok:=
 ⟨a.mod,a.kind,a.glob,a.blt,a.above,a.inj,a.has,a.cab,a.hd,a.frames,a.stk,a.exf,a.bs,a.bsz,a.noex,a.exfs,a.funs,a.frf⟩
section
variable {X:Cx} {pins:List (AI×Obj)} {σ:St} {H:Hp} {s:AW} {E:AH->AW->Prop}
theorem Inv.wish (I:Inv X pins σ H s)(E:AH->AW->Prop):Inv (X.wish E) pins σ H s:=⟨I.ok.wish E,I.os,I.bare,I.base,I.loc,I.cell,I.free,I.freeC,I.pin,I.hok,I.len⟩
theorem Inv.unwish (I:Inv (X.wish E) pins σ H s):Inv X pins σ H s:=⟨I.ok.unwish,I.os,I.bare,I.base,I.loc,I.cell,I.free,I.freeC,I.pin,I.hok,I.len⟩
theorem SP.unwish (h:SP (X.wish E) pins D f s'):SP X pins D f s':=by
 cases f with
 |next=>obtain⟨a,b,I,q⟩:=h;exact⟨a,b,I.unwish,q⟩
 |brk=>obtain⟨a,b,I,q⟩:=h;exact⟨a,b,I.unwish,q⟩
 |cont=>obtain⟨a,b,I,q⟩:=h;exact⟨a,b,I.unwish,q⟩
 |ret u=>obtain⟨v,a,b,I,r,q⟩:=h;exact⟨v,a,b,I.unwish,r,q⟩
theorem PSs.nox {st:List Stmt}{t:TS}(h:PSs X.nox st t):PSs X st t:=fun a s b H D I c=>
 CC (h a s b H D (I.wish _) c) (fun _ _ q=>q.unwish) fun _ _ z=>False.elim z
end
section
variable {X:Cx} {st:Stmt} {rest:List Stmt} {t u:TS} {e:Expr} {te:TE} {pos:Pos}
def BC8:TS:=fun D a H=>D.nx a H
def An3 (t u:TS):TS:=fun D a H=>t {D with nx:=u D} a H
theorem C4:PSs X [] BC8:=fun _ _ a H _ I h=>Dh ⟨a,H,I,h⟩
theorem A2 (c:PS X st t)(d:PSs X rest u):PSs X (st::rest) (An3 t u):=by
 intro a s e H D I h;refine wpAny_execs_cons (thn (c a s e H {D with nx:=u D} I h) fun f g q=>?_);cases f with
 |next=>obtain⟨b,i,j,q⟩:=q;exact d a g b i D j q
 |ret v=>exact q
 |brk=>exact q
 |cont=>exact q
theorem A3 (b:PS X st t):PSs X [st] t:=by
 intro a s c H D I h;refine wpAny_execs_cons (thn (b a s c H D I h) fun f d q=>?_);cases f with
 |next=>exact Dh q
 |ret v=>exact q
 |brk=>exact q
 |cont=>exact q
theorem Inv.quiet (I:Inv X pins σ H s):interactive X.env=false:=by simp[interactive,I.ok.kind]
def BA5 (b:TE):TS:=fun D a H=>b a H fun _ c=>D.nx a c
theorem E4 (c:PE X e te)(d:swapsWith e none pos.line X.env=pure false:=by rfl):PS X (.Expr e pos) (BA5 te):=by intro a s b H D I h;exact wpAny_Expr_any (thn (c a s b H _ I h) fun v j ⟨x,f,g,k,i⟩=>⟨b,f,g,i⟩) I.quiet d
def BT8 (a:TE):TS:=fun D b H=>a b H D.rt
theorem B6 (c:PE X e te):PS X (.Return (some e) pos) (BT8 te):=by intro a s b H D I h;exact wpAny_Return_some (thn (c a s b H _ I h) fun v j ⟨x,d,f,g,i⟩=>⟨x,b,d,f,g,i⟩)
def Bu3:TS:=fun D _ H=>D.rt .non H
theorem BK1:PS X (.Return none pos) Bu3:=fun _ _ a H _ I h=>wpAny_Return_none ⟨.non,a,H,I,rfl,h⟩
def Bc0 (c:TT)(t u:TS):TS:=fun D a H=>c a H fun b d=>if b=true then t D a d else u D a d
theorem D9 (l:PT X c tc)(m:PSs X a t)(n:PSs X b u):PS X (.If c a b pos) (Bc0 tc t u):=by
 intro e s f H D I h;refine wpAny_If (thn (l e s f H _ I h) fun d g ⟨i,j,k⟩=>?_);cases d with
 |true=>exact m e g f i D j k
 |false=>exact n e g f i D j k
end
noncomputable abbrev TG:=V->St->Hp->(St->Hp->Prop)->Prop
noncomputable abbrev TGs:=List V->St->Hp->(St->Hp->Prop)->Prop
def PG (X:Cx)(a:Expr)(t:TG):Prop:=
 ∀(b:List (AI×Obj)) (s:AW) (c:St) (H:Hp) (v:V) (u:AH) (Q:St->Hp->Prop),Inv X b c H s->RelV v u->t v c H Q->
  wpAny (model X.prog X.w) X.A (assign a X.env u) (fun _ d=>NP X b Q d) X.xe s
def PGs (X:Cx)(ts:List Expr)(t:TGs):Prop:=
 ∀(a:List (AI×Obj)) (s:AW) (b:St) (H:Hp) (c:List V) (d:List AH) (Q:St->Hp->Prop),Inv X a b H s->Vals c d->t c b H Q->
  wpAny (model X.prog X.w) X.A (assignInOrder ((assignEach ts X.env).map (·.2)) d) (fun _ e=>NP X a Q e) X.xe s
noncomputable abbrev Bv8:=V->V->V->Hp->(Hp->Prop)->Prop
def Bx0 (X:Cx)(t:Bv8):Prop:=
 ∀(a:List (AI×Obj)) (s:AW) (b:St) (H:Hp) (o i v:V) (c d u:AH) (Q:Hp->Prop),Inv X a b H s->RelV o c->RelV i d->RelV v u->t o i v H Q->
  wpAny (model X.prog X.w) X.A (setItem c d u) (fun _ f=>∃e,Inv X a b e f/\Q e) X.xe s
noncomputable abbrev TIp:=V->V->Hp->VK->Prop
def PIp (X:Cx)(op:Operator)(t:TIp):Prop:=
 ∀(a:List (AI×Obj)) (s:AW) (b:St) (H:Hp) (x y:V) (v u:AH) (Q:VK),Inv X a b H s->RelV x v->RelV y u->t x y H Q->
  wpAny (model X.prog X.w) X.A (inplaceOp op v u) (EP X a b Q) X.xe s
section
variable {X:Cx} {pos:Pos}
def AT9 (i:Nat):TG:=fun v a H Q=>Q (a.set i (some v)) H
theorem K8 (b:X.N.Nodup)(c:X.N[i]?=some x)(d:Loc X.env.scope x)(e:X.fn x=true∨X.env.scope.names.lookup x=some .local:=by first |exact .inl rfl |exact .inr rfl |assumption):PG X (.Name x pos) (AT9 i):=by intro a s g H v u Q I r h;exact wpAny_assign_Name (AO3 I b c d r (fun j f=>⟨_,H,f,h⟩) e)
def Bz9:TGs:=fun a b H Q=>a=[]/\Q b H
inductive BJ0 (t:TG) (u:TGs) (vs:List V) (σ:St) (H:Hp) (Q:St->Hp->Prop):Prop
 |mk:∀v r,vs=v::r->(t v σ H fun σ' H'=>u r σ' H' Q)->BJ0 t u vs σ H Q
def Bp9 (t:TG)(u:TGs):TGs:=fun a b H Q=>BJ0 t u a b H Q
theorem BM6:PGs X [] Bz9:=by intro a s b H c d Q I r h;obtain⟨e,h⟩:=h;subst e;cases r;exact assignInOrder_nil ⟨b,H,I,h⟩
theorem Ac2 (c:PG X e t)(d:PGs X es u)
  (f:(assignEach (e::es) X.env).map (·.2)=assign e X.env::(assignEach es X.env).map (·.2):=by rfl):PGs X (e::es) (Bp9 t u):=by
 intro a s g H o p Q I r h;obtain⟨v,q,i,h⟩:=h;subst i;cases r with
 |cons r j=>rw[f];refine assignInOrder_cons (thn (c a s g H _ _ _ I r h) fun _ k ⟨b,l,m,n⟩=>?_);exact d a k b l _ _ Q m j n
inductive Bc9 (K:AA) (n:Nat) (t:TGs) (v:V) (σ:St) (H:Hp) (Q:St->Hp->Prop):Prop
 |mk:∀a xs,v=.ref a->SqT K H a xs->xs.length=n->t xs σ H Q->Bc9 K n t v σ H Q
def B14 (K:AA)(n:Nat)(t:TGs):TG:=fun v a H Q=>Bc9 K n t v a H Q
theorem Bk0 (j:X.calm=true)(h:PGs X es t)
  (l:(assignEach es X.env).length=n:=by rfl) (d:(assignEach es X.env).findIdx? (·.1)=none:=by rfl):PG X (.Tuple es k pos) (B14 X.K n t):=by
 intro c s g H v u Q I r f;obtain⟨a,m,p,q,w,f⟩:=f;subst p;cases r;obtain⟨x,i,y,C⟩:=I.tuple q;refine assign_Tuple_tuple (I.ok.hd j) y (by simp[l,←w,i.length]) d fun z A=>?_;have B:Inv X c g H {s with heap:=z}:=I.kept (t':=s.toks) fun b o e=>A b o (Ba (Ao e)) e;exact h c _ g H m _ Q B (by simpa using i) f
def B07 (b c:TE)(t:Bv8):TG:=fun v a H Q=>b a H fun o d=>c a d fun i e=>t o i v e fun f=>Q a f
theorem Ad0 (e:PE X o to)(f:PE X i ti)(g:Bx0 X t)
  (j:∀v,assign (.Subscript o i pos) X.env v=(do
   let b ←holding [v] (eval o X.env)
   let c ←holding [v,b] (eval i X.env)
   standAt pos
   holding [v,b,c] (setItem b c v)
   release [v,b,c] []):=by intro _;rfl):PG X (.Subscript o i pos) (B07 to ti t):=by
 intro a s d H v u Q I r h;rw[j];refine AM (wpAny_holding (thn (e a s d H _ I h) fun b k ⟨x,l,m,n,p⟩=>?_));refine AM (wpAny_holding (thn (f a k d l _ m p) fun c q ⟨y,w,z,A,B⟩=>?_));refine AM (wpAny_standAt (AM (wpAny_holding (thn (g a q d w x y v b c u _ z n A r B) fun _ F ⟨C,D,E⟩=>?_))));exact wpAny_release ⟨d,C,D,E⟩
def Bi5 (b:TE)(g:TG):TS:=fun D a H=>b a H fun x c=>g x a c D.nx
theorem Ai1 (c:PE X e te)(d:PG X tg g)(f:swapsWithSole [tg] e pos.line X.env=pure false:=by rfl)(hw:swappedStores [tg] e X.env=pure none:=by rfl)
  (i:(assignEach [tg] X.env).map (·.2)=[assign tg X.env]:=by rfl):PS X (.Assign [tg] e pos) (Bi5 te g):=by
 intro a s b H D I h;refine wpAny_Assign_stores (thn (c a s b H _ I h) fun v j ⟨x,k,l,m,n⟩=>?_) f hw;rw[i];exact thn (d a j b k x v _ l m n) fun _ o q=>q
theorem C9 (b:X.N.Nodup)(c:X.N[i]?=some x)(d:Loc X.env.scope x)(f:PE X e te)(g:swapsWith e (some (.Name x pos')) pos.line X.env=pure false:=by rfl)(j:X.fn x=true∨X.env.scope.names.lookup x=some .local:=by first |exact .inl rfl |exact .inr rfl |assumption):
  PS X (.Assign [.Name x pos'] e pos) (Bi5 te (AT9 i)):=by
 intro a s k H D I h;refine wpAny_Assign_Name (thn (f a s k H _ I h) fun v q ⟨y,l,m,n,o⟩=>?_) g;exact AO3 m b c d n (fun r p=>⟨_,l,p,o⟩) j
inductive Bl4 (i:Nat) (te:TE) (ti:TIp) (D:Ends) (σ:St) (H:Hp):Prop
 |mk:∀x,σ[i]?=some (some x)->(te σ H fun y H1=>ti x y H1 fun z H2=>D.nx (σ.set i (some z)) H2)->Bl4 i te ti D σ H
def Bx9 (i:Nat)(a:TE)(b:TIp):TS:=fun D c H=>Bl4 i a b D c H
theorem Ag5 (t:X.N.Nodup)(o:X.N[i]?=some x)(j:Loc X.env.scope x)(B:PE X e te)(C:PIp X op ti)(E:X.fn x=true∨X.env.scope.names.lookup x=some .local:=by first |exact .inl rfl |exact .inr rfl |assumption):
  PS X (.AugAssign (.Name x pos') op e pos) (Bx9 i te ti):=by
 intro a s p H D I h;obtain⟨v,F,h⟩:=h;obtain⟨m,G,J⟩:=I.loc;have n:Vis X.env.scope x:=by rcases j with k |k;exact .inl k;exact .inr (.inl k)
 obtain⟨u,r,l⟩:=J i x v o F n;refine wpAny_AugAssign_Name ?_;have q:wpAny (model X.prog X.w) X.A (eval e X.env) (fun w f=>wpAny (model X.prog X.w) X.A (inplaceOp op u w) (fun r g=>wpAny (model X.prog X.w) X.A (storeName X.env x r) (fun _=>SP X a D .next) X.xe g) X.xe f) X.xe s:=by refine thn (B a s p H _ I h) fun w K ⟨y,L,M,O,P⟩=>?_;refine thn (C a K p L v y u w _ M r O P) fun z Y ⟨Z,Q,R,S,T⟩=>?_;exact AO3 R t o j S (fun s3 U=>⟨_,Q,U,T⟩) E
 rcases l with ⟨b,V⟩ |⟨b,c,W,d⟩
 ·exact wpAny_loadName_local I.ok.kind b G V q
 ·rcases b with b |b
  ·exact wpAny_loadName_cell I.ok.kind b W d q
  ·rcases j with k |k
   ·have:X.env.scope.names.lookup x=some .free:=b;rw[k]at this;cases this
   ·have:X.env.scope.names.lookup x=some .free:=b;rw[k]at this;cases this
inductive Bw9 (f:Int->Int->Int) (x:V) (y:V) (H:Hp) (Q:VK):Prop
 |mk:∀i j,x=.int i->y=.int j->Q (.int (f i j)) H->Bw9 f x y H Q
def ipI (f:Int->Int->Int):TIp:=fun x y H Q=>Bw9 f x y H Q
theorem AJ5:PIp X .Add (ipI fun i j=>i+j):=by intro a s f H x y v u Q I b c h;obtain⟨i,j,d,e,q⟩:=h;subst d;subst e;obtain⟨t,rfl⟩:=b;obtain⟨g,rfl⟩:=c;exact iadd_int ⟨.int _,H,I.tok _,⟨_,rfl⟩,q⟩
def Bl7 (c:TT)(h:TS):TS:=fun D a H=>∃W:Nat->St->Hp->Prop,(∃m,W m a H)/\∀m a H,W m a H->
 c a H fun b e=>if b=true then ∃N:St->Hp->Prop,(∀d f,N d f->∃g,g<m/\W g d f)/\h {D with nx:=N,ct:=N,bk:=D.nx} a e else D.nx a e
theorem Q7 (t:PassesOwn (model X.prog X.w) X.A X.env X.xe)(C:PT X c tc)(E:PSs X body tb):PS X (.While c body [] pos) (Bl7 tc tb):=by
 intro a s F H D I h;obtain⟨W,⟨G,J⟩,g⟩:=h;refine wpAny_While (codeAny_whileLoop (fun n K=>∃i u,Inv X a i u K/\W n i u) ?_ G ⟨F,H,I,J⟩);rintro n L ⟨e,x,M,O⟩;refine CT t (thn (C a L e x _ M (g n e x O)) fun b P ⟨y,z,k⟩=>?_);cases b with
 |true=>
  obtain⟨N,B,k⟩:=k;rw[AL rfl];refine CT t (thn (E a P e y _ z k) fun f Q l=>?_);cases f with
  |next=>obtain⟨d,j,m,o⟩:=l;obtain⟨p,q,r⟩:=B d j o;exact⟨p,q,d,j,m,r⟩
  |cont=>obtain⟨d,j,m,o⟩:=l;obtain⟨p,q,r⟩:=B d j o;exact⟨p,q,d,j,m,r⟩
  |brk=>exact l
  |ret v=>exact l
 |false=>rw[AD Ai];exact Dh ⟨e,y,z,k⟩
end
structure It where
 go:Nat->Hp->Prop
 yld:Nat->Hp->V->Hp->Prop
 stop:Nat->Hp->Prop
def FpOk (X:Cx)(pins:List (AI×Obj))(H:Hp)(b:AI):Prop:=
 H b=none/\b≠X.env.locals/\b∉X.fs/\(b∈X.ex∨X.s_0.heap.objs.size<=b)/\(∀x c,X.env.cells.lookup x=some c->c≠b)/\∀p∈X.pn++pins,p.1≠b
theorem Inv.fpOk (I:Inv X pins σ H s)(a:s.heap.objs.size<=b)(d:H' b=none):FpOk X pins H' b:=by
 refine⟨d,Nat.ne_of_gt (Av I.lt a),I.nofs a,.inr (BV I.sz a),fun x c e z=>?_,fun p f z=>?_⟩
 ·obtain⟨v,q⟩:=I.cell x c e;exact absurd (Av q.lt (by rw[z];exact a)) (CD _)
 ·exact absurd (Av (Ao (I.pin p f).1) (by rw[z];exact a)) (CD _)
structure BF2 (P:Af)(w:Ap)(K:AA)(tg:Expr)(J:It)(fp:List AI)(it:AI)(tn:Nat->BR->Prop):Prop where
 mem:it∈fp
 obj:∀i h,tn i h->∀b∈fp,∃o,h.get? b=some o/\∀v,o.data≠.cell v
 keep:∀i h h',tn i h->(∀b∈fp,∀o,h.get? b=some o->h'.get? b=some o)->tn i h'
 item:∀(X:Cx),X.prog=P->X.w=w->X.K=K->X.calm=true->∀(i:Nat) (pins:List (AI×Obj)) (s:AW) (σ:St) (H:Hp) (E:AH->AW->Prop),Inv X pins σ H s->(∀b∈fp,FpOk X pins H b)->tn i s.heap->J.go i H->
  wpAny (model P w) X.A (pyNext (.ref it)) (fun r s1=>∃u,r=some u/\
   wpAny (model P w) X.A (letOwnedTupleGo tg (.ref it) u) (fun _ s2=>∃x H',Inv X pins σ H' s2/\RelV x u/\J.yld i H x H'/\tn (i+1) s2.heap/\∀b∈fp,H' b=none) E s1) E s
 done:∀(X:Cx),X.prog=P->X.w=w->X.K=K->X.calm=true->∀(i:Nat) (pins:List (AI×Obj)) (s:AW) (σ:St) (H:Hp) (E:AH->AW->Prop),Inv X pins σ H s->(∀b∈fp,FpOk X pins H b)->tn i s.heap->J.stop i H->
  wpAny (model P w) X.A (pyNext (.ref it)) (fun r s1=>r=none/\Inv X pins σ H s1) E s
 self:∀(A:Around) (i:Nat) (s:AW) (Q:AH->AW->Prop) (E:AH->AW->Prop),tn i s.heap->Q (.ref it) s->wpAny (model P w) A (pyIter (.ref it)) Q E s
noncomputable abbrev TI:=St->Hp->(It->Hp->Prop)->Prop
inductive PIE (X:Cx) (pins:List (AI×Obj)) (σ:St) (tg:Expr) (R:It->Hp->Prop) (itv:AH) (s2:AW):Prop
 |mk:∀(it:AI) (fp:List AI) (tn:Nat->BR->Prop) (J:It) (H':Hp),itv=.ref it->Inv X pins σ H' s2->BF2 X.prog X.w X.K tg J fp it tn->tn 0 s2.heap->(∀b∈fp,FpOk X pins H' b)->R J H'->PIE X pins σ tg R itv s2
def PI (X:Cx)(d b:Expr)(e:TI):Prop:=
 ∀(a:List (AI×Obj)) (s:AW) (c:St) (H:Hp) (R:It->Hp->Prop),Inv X a c H s->e c H R->
  wpAny (model X.prog X.w) X.A (eval b X.env) (fun v f=>wpAny (model X.prog X.w) X.A (pyIter v) (PIE X a c d R) X.xe f) X.xe s
theorem Aw4 (b:s.heap.get? it=some o)(c:o.cls=.type n)(hd:o.data=.fields vs)
  (d:["enumerate","zip","dict_itemiterator","dict_reverseitemiterator","odict_iterator","itertools.zip_longest","itertools.pairwise"].contains n=false) (a:Q () s):wpAny M A (letOwnedTupleGo tg (.ref it) u) Q E s:=by
 unfold letOwnedTupleGo;cases tg<;>first
  |exact Au a
  |(cases u<;>first
    |exact Au a
    |(refine AM (wpAny_load b ?_)
      rw[c,hd];show wpAny M A (if(["enumerate","zip","dict_itemiterator","dict_reverseitemiterator","odict_iterator","itertools.zip_longest","itertools.pairwise"].contains n&&vs[0]?==some (rawInt _))=true then _ else _) Q E s;rw[AD (by intro h;rw[d,ER]at h;cases h)];exact Au a))
noncomputable def Itl (K:AA)(a:AI):It:=
 ⟨fun i H=>∃b x,SqL K H a b/\b[i]?=some x,fun i H x c=>c=H/\∀b,SqL K H a b->b[i]?=some x,fun i H=>∃b,SqL K H a b/\b.length<=i⟩
noncomputable def Itt (K:AA)(a:AI):It:=
 ⟨fun i H=>∃b x,SqT K H a b/\b[i]?=some x,fun i H x c=>c=H/\∀b,SqT K H a b->b[i]?=some x,fun i H=>∃b,SqT K H a b/\b.length<=i⟩
theorem Av0 {P:Af}{w:Ap}{K:AA}{R:Expr}(a j:AI):BF2 P w K R (Itl K a) [j] j (fun i h=>h.IsListIter j a i) where
 mem:=by simp
 obj:=fun i h f b l=>by
  have e:b=j:=by simpa using l
  subst e;obtain⟨o,e,c,d⟩:=f;exact⟨o,e,fun v z=>by rw[d]at z;cases z⟩
 keep:=fun i h n f k=>f.at fun o e=>k j (by simp) o e
 item:=by intro X t y A O i g s Q H E I q f B;subst t y A;obtain⟨S,x,r,C⟩:=B;obtain⟨D,F,p,T⟩:=I.list r;obtain⟨u,U,V⟩:=F.get C;obtain⟨G,J,Y,L,M,N⟩:=q j (by simp);refine wpAny_pyNext_list_item f p.isList (x:=u) (by simpa using U) fun n m Z=>?_;have I1:Inv X g Q H {s with heap:=n}:=I.turned (t':=s.toks) (fun b o l e=>(Z.2 b l).trans e) G J L M N;obtain⟨o,e,c,d⟩:=id m;exact⟨u,rfl,Aw4 (s:={s with heap:=n}) e c d (by decide) ⟨x,H,I1,V,⟨rfl,fun ys hy=>by rw[I.list_inj hy r];exact C⟩,m,fun b l=>(q b l).1⟩⟩
 done:=by intro X t y A O i g s Q H E I q f B;subst t y A;obtain⟨S,r,C⟩:=B;obtain⟨D,F,p,T⟩:=I.list r;obtain⟨G,J,Y,L,M,N⟩:=q j (by simp);have hl:=F.length;exact wpAny_pyNext_list_end (I.ok.hd O) f p.isList (by simp;omega) fun n eb=>⟨rfl,I.turned (t':=s.toks) (fun b o l e=>eb b o l e) G J L M N⟩
 self:=fun _ _ _ _ _ f h=>wpAny_pyIter_listiter f h
theorem Ak7 {P:Af}{w:Ap}{K:AA}{R:Expr}(a j:AI):BF2 P w K R (Itt K a) [j] j (fun i h=>h.IsTupleIter j a i) where
 mem:=by simp
 obj:=fun i h f b l=>by
  have e:b=j:=by simpa using l
  subst e;obtain⟨o,e,c,d⟩:=f;exact⟨o,e,fun v z=>by rw[d]at z;cases z⟩
 keep:=fun i h q f k=>f.at fun o e=>k j (by simp) o e
 item:=by intro X y A B O i g s Q H E I r f C;subst y A B;obtain⟨S,x,t,D⟩:=C;obtain⟨m,F,p,T⟩:=I.tuple t;obtain⟨u,U,V⟩:=F.get D;obtain⟨G,J,Y,L,M,N⟩:=r j (by simp);refine wpAny_pyNext_tuple_item f (show s.heap.IsTuple a m.toArray from p) (x:=u) (by simpa using U) fun q n Z=>?_;have I1:Inv X g Q H {s with heap:=q}:=I.turned (t':=s.toks) (fun b o l e=>(Z.2 b l).trans e) G J L M N;obtain⟨o,e,c,d⟩:=id n;exact⟨u,rfl,Aw4 (s:={s with heap:=q}) e c d (by decide) ⟨x,H,I1,V,⟨rfl,fun ys hy=>by rw[I.tuple_inj hy t];exact D⟩,n,fun b l=>(r b l).1⟩⟩
 done:=by intro X y A B O i g s Q H E I r f C;subst y A B;obtain⟨S,t,D⟩:=C;obtain⟨m,F,p,T⟩:=I.tuple t;obtain⟨G,J,Y,L,M,N⟩:=r j (by simp);have hl:=F.length;exact wpAny_pyNext_tuple_end (I.ok.hd O) f (show s.heap.IsTuple a m.toArray from p) (by simp;omega) fun q eb=>⟨rfl,I.turned (t':=s.toks) (fun b o l e=>eb b o l e) G J L M N⟩
 self:=fun _ _ _ _ _ f h=>wpAny_pyIter_tupleiter f h
section
variable {X:Cx} {tg:Expr}
inductive BG5 (K:AA) (R:It->Hp->Prop) (x:V) (H1:Hp):Prop
 |mk:∀a,x=.ref a->((∃xs,SqL K H1 a xs))->R (Itl K a) H1->BG5 K R x H1
def Bb3 (K:AA)(a:TE):TI:=fun b H R=>a b H fun x c=>BG5 K R x c
inductive Bb4 (K:AA) (R:It->Hp->Prop) (x:V) (H1:Hp):Prop
 |mk:∀a,x=.ref a->((∃xs,SqT K H1 a xs))->R (Itt K a) H1->Bb4 K R x H1
def Bz6 (K:AA)(a:TE):TI:=fun b H R=>a b H fun x c=>Bb4 K R x c
theorem X3 {l:Expr}{g:TE}(i:PE X l g):PI X tg l (Bb3 X.K g):=by
 intro c s j H R I h;refine thn (i c s j H _ I h) fun v d ⟨x,k,f,m,n⟩=>?_;obtain⟨a,e,⟨w,r⟩,q⟩:=n;subst e;cases m;obtain⟨t,y,p,z⟩:=f.list r;refine wpAny_pyIter_list p.isList ?_;refine⟨d.heap.objs.size,[d.heap.objs.size],_,_,k,rfl,f.kept (t':=d.toks) fun b o e=>Ak _ e,Av0 a _,⟨_,An _ rfl,rfl,rfl⟩,fun b u=>?_,q⟩;have e:b=d.heap.objs.size:=by simpa using u
 subst e;exact f.fpOk (AB _) (f.hok.fresh (AB _))
theorem A09 {l:Expr}{i:TE}(j:PE X l i):PI X tg l (Bz6 X.K i):=by
 intro c s k H R I h;refine thn (j c s k H _ I h) fun v d ⟨x,m,f,n,r⟩=>?_;obtain⟨a,e,⟨w,t⟩,q⟩:=r;subst e;cases n;obtain⟨g,y,p,z⟩:=f.tuple t;refine wpAny_pyIter_tuple (show d.heap.IsTuple a g.toArray from p) ?_;refine⟨d.heap.objs.size,[d.heap.objs.size],_,_,m,rfl,f.kept (t':=d.toks) fun b o e=>Ak _ e,Ak7 a _,⟨_,An _ rfl,rfl,rfl⟩,fun b u=>?_,q⟩;have e:b=d.heap.objs.size:=by simpa using u
 subst e;exact f.fpOk (AB _) (f.hok.fresh (AB _))
def Bn3 (f:TI)(g:TG)(h:TS):TS:=fun D a H=>f a H fun J j=>∃W:Nat->Nat->St->Hp->Prop,(∃m,W 0 m a j)/\∀i m a H,W i m a H->
 (J.stop i H/\D.nx a H)∨(J.go i H/\∃N:St->Hp->Prop,(∀b c,N b c->∃e,e<m/\W (i+1) e b c)/\∀x c,J.yld i H x c->g x a c fun d k=>h {D with nx:=N,ct:=N,bk:=D.nx} d k)
noncomputable def AW0 (a:List AI)(h:BR):List (AI×Obj):=a.filterMap fun b=>(h.get? b).map fun o=>(b,o)
theorem r9 (a:b∈fp)(e:h.get? b=some o):(b,o)∈AW0 fp h:=List.mem_filterMap.mpr ⟨b,a,by rw[e];rfl⟩
theorem Aw1 (a:p∈AW0 fp h):p.1∈fp/\h.get? p.1=some p.2:=by
 obtain⟨b,c,e⟩:=List.mem_filterMap.mp a;cases q:h.get? b with
 |none=>rw[q]at e;cases e
 |some o=>rw[q]at e;have d:(b,o)=p:=Aa e;subst d;exact⟨c,q⟩
theorem Inv.pinned (I:Inv X pins σ H s)(f:∀b∈fp,FpOk X pins H b)(g:∀b∈fp,∃o,s.heap.get? b=some o/\∀v,o.data≠.cell v):Inv X (pins++AW0 fp s.heap) σ H s:=
 I.pins_of fun p h=>(AY.mp h).elim (fun z=>I.pin p (AQ _ z)) fun z=>by obtain⟨a,e⟩:=Aw1 z;obtain⟨i,j,k,_⟩:=f p.1 a;obtain⟨o,c,d⟩:=g p.1 a;rw[e]at c;cases c;exact⟨e,i,j,k,d⟩
theorem Inv.unpinned (I:Inv X (pins++pl) σ H s):Inv X pins σ H s:=I.pins_of fun p a=>I.pin p (AQ _ (AU _ a))
theorem Z8 (E:PassesOwn (model X.prog X.w) X.A X.env X.xe)(hc:X.calm=true)(hi:PI X tg iter wi)(hg:PG X tg g)(j:PSs X body tb)
  (hs:∀x,foldedSetIterable iter X.env x=pure x:=by intro _;rfl):PS X (.For tg iter body [] pos) (Bn3 wi g tb):=by
 intro a s σ H D I h;refine wpAny_For (thn (hi a s σ H _ I h) fun v s1 h1=>thn h1 fun aa s2 h2=>?_) hs;obtain⟨it,F,tn,J,H2,e,I2,T,R,f2,W,⟨m0,w0⟩,G⟩:=h2;subst e
 -- what stays true of the iterator's objects through the loop
 have k:∀{z:Hp},(∀b∈F,z b=none)->∀b∈F,FpOk X a z b:=fun hn b j=>⟨hn b j,(f2 b j).2⟩;refine codeAny_forLoop_any (fun n s'=>∃i l z,Inv X a l z s'/\tn i s'.heap/\(∀b∈F,z b=none)/\W i n l z) ?_ m0 ⟨0,σ,H2,I2,R,fun b j=>(f2 b j).1,w0⟩;rintro n s3 ⟨i,p,Q,I3,K,L,w3⟩;rcases G i n p Q w3 with ⟨M,qn⟩ |⟨go,N,hN,O⟩
 ·refine CT E (thn (T.done X rfl rfl rfl hc i a s3 p Q X.xe I3 (k L) K M) fun r s4 ⟨S,I4⟩=>?_);subst S;exact Dh ⟨p,Q,I4,qn⟩
 ·refine CT E (thn (T.item X rfl rfl rfl hc i a s3 p Q X.xe I3 (k L) K go) fun r s4 ⟨u,S,h4⟩=>?_);subst S;refine CT E (thn h4 fun _ s5 ⟨x,H5,I5,r5,y5,C,U⟩=>?_);have V:=I5.pinned (k U) (T.obj _ _ C);refine CT E (thn (hg _ s5 p H5 x u _ V r5 (O x H5 y5)) fun _ s6 ⟨Y,H6,I6,q6⟩=>?_);refine CT E (thn (j _ s6 Y H6 _ I6 q6) fun f Z B=>?_);have q:∀{c:St} {t:Hp},Inv X (a++AW0 F s5.heap) c t Z->N c t->∃m,m<n/\∃i l z,Inv X a l z Z/\tn i Z.heap/\(∀b∈F,z b=none)/\W i m l z:=fun {c t} y P=>by obtain⟨m',hm,w7⟩:=hN c t P;refine⟨m',hm,i+1,c,t,y.unpinned,T.keep _ _ _ C fun b j o e=>(y.pin (b,o) (AQ _ (AQ _ (r9 j e)))).1,fun b j=>?_,w7⟩;obtain⟨o,e,d⟩:=T.obj _ _ C b j;exact(y.pin (b,o) (AQ _ (AQ _ (r9 j e)))).2.1
  cases f with
  |next=>obtain⟨c,t,y,P⟩:=B;exact q y P
  |cont=>obtain⟨c,t,y,P⟩:=B;exact q y P
  |brk=>obtain⟨c,t,y,B⟩:=B;exact⟨c,t,y.unpinned,B⟩
  |ret v=>obtain⟨x7,c,t,y,r7,B⟩:=B;exact⟨x7,c,t,y.unpinned,r7,B⟩
end
theorem Y5 {K:AA}{a:AI}{xs:List V}{g:TG}{k:TS}{D:Ends}{b:St}{H:Hp}(c:Nat->St->Hp->Prop)(n:c 0 b H)(o:∀i b H,i<=xs.length->c i b H->SqL K H a xs)
  (r:∀i x b H,xs[i]?=some x->c i b H->g x b H fun d j=>k {D with nx:=c (i+1),ct:=c (i+1),bk:=D.nx} d j) (hd:∀b H,c xs.length b H->D.nx b H):
  ∃W:Nat->Nat->St->Hp->Prop,(∃m,W 0 m b H)/\∀i m b H,W i m b H->
   ((Itl K a).stop i H/\D.nx b H)∨((Itl K a).go i H/\∃N:St->Hp->Prop,(∀f H',N f H'->∃l,l<m/\W (i+1) l f H')/\∀x H',(Itl K a).yld i H x H'->g x b H' fun d j=>k {D with nx:=N,ct:=N,bk:=D.nx} d j):=by
 refine⟨fun i m b H=>m=xs.length-i/\i<=xs.length/\c i b H,⟨xs.length,by simp,Ag _,n⟩,?_⟩;rintro i m b H ⟨rfl,s,p⟩;have q:=o i b H s p;by_cases h:i<xs.length
 ·refine .inr ⟨⟨xs,xs[i],q,by simp[h]⟩,c (i+1),fun f H' t=>⟨xs.length-(i+1),by omega,rfl,h,t⟩,fun x H' y=>?_⟩;obtain⟨e,y⟩:=y;subst e;exact r i x b _ (y xs q) p
 ·have e:i=xs.length:=by omega
  subst e;exact .inl ⟨⟨xs,q,AB _⟩,hd b H p⟩
theorem BU2 {K:AA}{a:AI}{xs:List V}{g:TG}{k:TS}{D:Ends}{b:St}{H:Hp}(c:Nat->St->Hp->Prop)(n:c 0 b H)(o:∀i b H,i<=xs.length->c i b H->SqT K H a xs)
  (r:∀i x b H,xs[i]?=some x->c i b H->g x b H fun d j=>k {D with nx:=c (i+1),ct:=c (i+1),bk:=D.nx} d j) (hd:∀b H,c xs.length b H->D.nx b H):
  ∃W:Nat->Nat->St->Hp->Prop,(∃m,W 0 m b H)/\∀i m b H,W i m b H->
   ((Itt K a).stop i H/\D.nx b H)∨((Itt K a).go i H/\∃N:St->Hp->Prop,(∀f H',N f H'->∃l,l<m/\W (i+1) l f H')/\∀x H',(Itt K a).yld i H x H'->g x b H' fun d j=>k {D with nx:=N,ct:=N,bk:=D.nx} d j):=by
 refine⟨fun i m b H=>m=xs.length-i/\i<=xs.length/\c i b H,⟨xs.length,by simp,Ag _,n⟩,?_⟩;rintro i m b H ⟨rfl,s,p⟩;have q:=o i b H s p;by_cases h:i<xs.length
 ·refine .inr ⟨⟨xs,xs[i],q,by simp[h]⟩,c (i+1),fun f H' t=>⟨xs.length-(i+1),by omega,rfl,h,t⟩,fun x H' y=>?_⟩;obtain⟨e,y⟩:=y;subst e;exact r i x b _ (y xs q) p
 ·have e:i=xs.length:=by omega
  subst e;exact .inl ⟨⟨xs,q,AB _⟩,hd b H p⟩
noncomputable abbrev R2:=V->V->Hp->VK->Prop
def OpR (X:Cx)(f:AH->AH->Sem AH)(r:R2):Prop:=
 ∀(a:List (AI×Obj)) (s:AW) (b:St) (H:Hp) (x y:V) (v u:AH) (Q:VK),Inv X a b H s->RelV x v->RelV y u->r x y H Q->
  wpAny (model X.prog X.w) X.A (f v u) (EP X a b Q) X.xe s
def UnR (X:Cx)(f:AH->Sem AH)(r:V->Hp->VK->Prop):Prop:=
 ∀(a:List (AI×Obj)) (s:AW) (b:St) (H:Hp) (x:V) (v:AH) (Q:VK),Inv X a b H s->RelV x v->r x H Q->
  wpAny (model X.prog X.w) X.A (f v) (EP X a b Q) X.xe s
def AW6 (X:Cx)(f:AH)(r:List V->Hp->VK->Prop):Prop:=
 ∀(a:List (AI×Obj)) (s:AW) (b:St) (H:Hp) (c:List V) (d:List AH) (Q:VK),Inv X a b H s->Vals c d->r c H Q->
  wpAny (model X.prog X.w) X.A (call f d) (EP X a b Q) X.xe s
def B03 (X:Cx)(r:V->Hp->(Bool->Hp->Prop)->Prop):Prop:=
 ∀(a:List (AI×Obj)) (s:AW) (b:St) (H:Hp) (x:V) (v:AH) (Q:Bool->Hp->Prop),Inv X a b H s->RelV x v->r x H Q->
  wpAny (model X.prog X.w) X.A (truthy v) (TP X a b Q) X.xe s
def tOp (r:R2)(b c:TE):TE:=fun a H Q=>b a H fun x d=>c a d fun y e=>r x y e Q
def tUn (r:V->Hp->VK->Prop)(a:TE):TE:=fun b H Q=>a b H fun x c=>r x c Q
inductive IrI (C:Int->Int->Prop) (g:Int->Int->V) (x:V) (y:V) (H:Hp) (Q:VK):Prop
 |mk:∀i j,x=.int i->y=.int j->C i j->Q (g i j) H->IrI C g x y H Q
def rI (C:Int->Int->Prop)(g:Int->Int->V):R2:=fun x y H Q=>IrI C g x y H Q
inductive Bv6 (g:Int->Int->V) (x:V) (y:V) (H:Hp) (Q:VK):Prop
 |mk:∀i j,x=.int i->y=.int j->Q (g i j) H->Bv6 g x y H Q
def rI0 (g:Int->Int->V):R2:=fun x y H Q=>Bv6 g x y H Q
inductive IrU (g:Int->V) (x:V) (H:Hp) (Q:VK):Prop
 |mk:∀i,x=.int i->Q (g i) H->IrU g x H Q
noncomputable def rU (g:Int->V):V->Hp->VK->Prop:=fun x H Q=>IrU g x H Q
section
variable {X:Cx} {a b c:Expr} {ta tb tc:TE} {pos:Pos}
theorem Bt0 (j:PE X a ta)(k:PE X b tb){R:V->V->Hp->Prop}(I:Inv X pins σ H s)
  (h:ta σ H fun x i=>tb σ i fun y c=>R x y c) {Q:AH->AW->Prop} {f:AH->AH->Sem AH}
  (l:∀v u g x y c,Inv X pins σ c g->RelV x v->RelV y u->R x y c->wpAny (model X.prog X.w) X.A (f v u) Q X.xe g):
  wpAny (model X.prog X.w) X.A (eval a X.env) (fun v d=>wpAny (model X.prog X.w) X.A (eval b X.env) (fun u e=>wpAny (model X.prog X.w) X.A (f v u) Q X.xe e) X.xe d) X.xe s:=by
 refine thn (j pins s σ H _ I h) fun v m ⟨x,i,n,o,p⟩=>?_;refine thn (k pins m σ i _ n p) fun u g ⟨y,c,q,r,t⟩=>?_;exact l v u g x y c q o r t
theorem R9 (d:OpR X (binaryOp op) r)(e:PE X a ta)(f:PE X b tb):PE X (.BinOp a op b pos) (tOp r ta tb):=by intro c s g H Q I h;exact wpAny_BinOp (Bt0 e f I h fun v u i x y j k l m q=>d c i g j x y v u Q k l m q)
theorem Az6 (d:UnR X (unaryOp op) r)(e:PE X a ta):PE X (.UnaryOp op a pos) (tUn r ta):=by intro b s c H Q I h;exact UnaryOp_ (thn (e b s c H _ I h) fun v f ⟨x,g,i,j,k⟩=>d b f c g x v Q i j k)
theorem opI {f:AH->AH->Sem AH}{C:Int->Int->Prop}{g:Int->Int->Int}
  (a:∀(i j:Int) (t u:Tok) (s:AW) (Q:AH->AW->Prop) (E:AH->AW->Prop),C i j->Q (.int (g i j) s.toks) {s with toks:=s.toks+1}->wpAny (model X.prog X.w) X.A (f (.int i t) (.int j u)) Q E s):
  OpR X f (rI C fun i j=>.int (g i j)):=by
 intro b s l H x y v u Q I c d h;obtain⟨i,j,rfl,rfl,e,q⟩:=h;obtain⟨t,rfl⟩:=c;obtain⟨k,rfl⟩:=d;exact a i j t k s _ _ e ⟨.int (g i j),H,I.tok _,⟨_,rfl⟩,q⟩
theorem Bx7 {f:AH->AH->Sem AH}{g:Int->Int->Int}
  (a:∀(i j:Int) (t u:Tok) (s:AW) (Q:AH->AW->Prop) (E:AH->AW->Prop),Q (.int (g i j) s.toks) {s with toks:=s.toks+1}->wpAny (model X.prog X.w) X.A (f (.int i t) (.int j u)) Q E s):
  OpR X f (rI0 fun i j=>.int (g i j)):=by
 intro b s k H x y v u Q I c d h;obtain⟨i,j,rfl,rfl,q⟩:=h;obtain⟨t,rfl⟩:=c;obtain⟨e,rfl⟩:=d;exact a i j t e s _ _ ⟨.int (g i j),H,I.tok _,⟨_,rfl⟩,q⟩
theorem Bo1 {f:AH->AH->Sem AH}{g:Int->Int->Bool}
  (a:∀(i j:Int) (t u:Tok) (s:AW) (Q:AH->AW->Prop) (E:AH->AW->Prop),Q (.bool (g i j)) s->wpAny (model X.prog X.w) X.A (f (.int i t) (.int j u)) Q E s):
  OpR X f (rI0 fun i j=>.bl (g i j)):=by
 intro b s k H x y v u Q I c d h;obtain⟨i,j,rfl,rfl,q⟩:=h;obtain⟨t,rfl⟩:=c;obtain⟨e,rfl⟩:=d;exact a i j t e s _ _ ⟨.bl (g i j),H,I,rfl,q⟩
def CMul (i j:Int):Prop:=(-(2 ^ 64)<i/\i<2 ^ 64)∨(-(2 ^ 64)<j/\j<2 ^ 64)
theorem CMul.ok (h:CMul i j):IntMulOk i j:=by
 rcases h with ⟨a,b⟩ |⟨a,b⟩
 ·exact .of_left (intBits_le_64 a b)
 ·exact .of_right (intBits_le_64 a b)
theorem V7:OpR X (binaryOp .Add) (rI0 fun i j=>.int (i+j)):=Bx7 fun _ _ _ _ _ _ _ q=>add_int q
theorem AF1:OpR X (binaryOp .Sub) (rI0 fun i j=>.int (i-j)):=Bx7 fun _ _ _ _ _ _ _ q=>sub_int q
theorem Ba9:OpR X (binaryOp .Mult) (rI CMul fun i j=>.int (i*j)):=opI fun _ _ _ _ _ _ _ a q=>mul_int q a.ok
theorem unI {f:AH->Sem AH}{g:Int->Int}
  (a:∀(i:Int) (t:Tok) (s:AW) (Q:AH->AW->Prop) (E:AH->AW->Prop),Q (.int (g i) s.toks) {s with toks:=s.toks+1}->wpAny (model X.prog X.w) X.A (f (.int i t)) Q E s):
  UnR X f (rU fun i=>.int (g i)):=by
 intro b s d H x v Q I c h;obtain⟨i,rfl,q⟩:=h;obtain⟨t,rfl⟩:=c;exact a i t s _ _ ⟨.int (g i),H,I.tok _,⟨_,rfl⟩,q⟩
theorem AU0:UnR X (unaryOp .USub) (rU fun i=>.int (-i)):=unI fun _ _ _ _ _ q=>neg_int q
end
noncomputable def Bw0:V->V->Bool
 |.non,.non=>true |.non,.int _=>true |.int _,.non=>true |.non,.bl _=>true |.bl _,.non=>true |.non,.str _=>true |.str _,.non=>true
 |.int _,.int _=>true |.bl _,.bl _=>true |.str _,.str _=>true |.byt _,.byt _=>true
 |.int _,.str _=>true |.str _,.int _=>true |.bl _,.str _=>true |.str _,.bl _=>true
 |_,_=>false
inductive Bv0 (p:Prop) (x:V) (H:Hp) (Q:VK):Prop
 |mk:p->Q x H->Bv0 p x H Q
def rEq:R2:=fun x y H Q=>Bv0 (Bw0 x y=true) (.bl (decide (x=y))) H Q
def rNe:R2:=fun x y H Q=>Bv0 (Bw0 x y=true) (.bl (!decide (x=y))) H Q
theorem A26:decide (V.int i=V.int j)=(i==j):=by rw[Bf];simp
theorem BF0:decide (V.bl i=V.bl j)=(i==j):=by rw[Bf];simp
theorem Au0:decide (V.str i=V.str j)=(i==j):=by rw[Bf];simp
theorem Ax4:decide (V.byt i=V.byt j)=(i.toList==j.toList):=by rw[Bf];cases i;cases j;simp
section
variable {X:Cx} {a b c:Expr} {ta tb tc:TE} {pos:Pos}
theorem F3 (I:Inv X pins σ H s)(q:Q (.bl k) H)(e:k=k'):EP X pins σ Q (.bool k') s:=by subst e;exact⟨.bl k,H,I,rfl,q⟩
theorem J0:OpR X (compareOp .Eq) rEq:=by
 intro e s f H x y v u Q I d a h;obtain⟨c,q⟩:=h;cases x with
 |non=>
  cases d;cases y with
  |non=>cases a;exact PySem.EqNone.eq_none_none (F3 I q (by simp))
  |bl j=>cases a;exact PySem.EqNone.eq_none_bool (F3 I q (by simp))
  |int j=>obtain⟨b,rfl⟩:=a;exact PySem.EqNone.eq_none_int (F3 I q (by simp))
  |str j=>obtain⟨b,rfl⟩:=a;exact PySem.EqNone.eq_none_str (F3 I q (by simp))
  |_=>exact absurd (show false=true from c) Ai
 |bl i=>
  cases d;cases y with
  |non=>cases a;exact PySem.EqNone.eq_bool_none (F3 I q (by simp))
  |bl j=>cases a;exact eq_bool (F3 I q BF0)
  |str j=>obtain⟨b,rfl⟩:=a;exact PySem.EqMixed.eq_bool_str (F3 I q (by simp))
  |_=>exact absurd (show false=true from c) Ai
 |int i=>
  obtain⟨t,rfl⟩:=d;cases y with
  |non=>cases a;exact PySem.EqNone.eq_int_none (F3 I q (by simp))
  |int j=>obtain⟨b,rfl⟩:=a;exact eq_int (F3 I q A26)
  |str j=>obtain⟨b,rfl⟩:=a;exact PySem.EqMixed.eq_int_str (F3 I q (by simp))
  |_=>exact absurd (show false=true from c) Ai
 |str i=>
  obtain⟨t,rfl⟩:=d;cases y with
  |non=>cases a;exact PySem.EqNone.eq_str_none (F3 I q (by simp))
  |bl j=>cases a;exact PySem.EqMixed.eq_str_bool (F3 I q (by simp))
  |int j=>obtain⟨b,rfl⟩:=a;exact PySem.EqMixed.eq_str_int (F3 I q (by simp))
  |str j=>obtain⟨b,rfl⟩:=a;exact eq_str (F3 I q Au0)
  |_=>exact absurd (show false=true from c) Ai
 |byt i=>
  obtain⟨t,rfl⟩:=d;cases y with
  |byt j=>obtain⟨b,rfl⟩:=a;exact PySem.W.eq_bytes (F3 I q Ax4)
  |_=>exact absurd (show false=true from c) Ai
 |_=>cases y<;>exact absurd (show false=true from c) Ai
theorem A85:OpR X (compareOp .NotEq) rNe:=by
 intro e s f H x y v u Q I d a h;obtain⟨c,q⟩:=h;cases x with
 |non=>
  cases d;cases y with
  |non=>cases a;exact PySem.EqNone.ne_none_none (F3 I q (by simp))
  |bl j=>cases a;exact PySem.EqNone.ne_none_bool (F3 I q (by simp))
  |int j=>obtain⟨b,rfl⟩:=a;exact PySem.EqNone.ne_none_int (F3 I q (by simp))
  |str j=>obtain⟨b,rfl⟩:=a;exact PySem.EqNone.ne_none_str (F3 I q (by simp))
  |_=>exact absurd (show false=true from c) Ai
 |bl i=>
  cases d;cases y with
  |non=>cases a;exact PySem.EqNone.ne_bool_none (F3 I q (by simp))
  |bl j=>cases a;exact ne_bool (F3 I q (Bh not BF0))
  |str j=>obtain⟨b,rfl⟩:=a;exact PySem.EqMixed.ne_bool_str (F3 I q (by simp))
  |_=>exact absurd (show false=true from c) Ai
 |int i=>
  obtain⟨t,rfl⟩:=d;cases y with
  |non=>cases a;exact PySem.EqNone.ne_int_none (F3 I q (by simp))
  |int j=>obtain⟨b,rfl⟩:=a;exact ne_int (F3 I q (Bh not A26))
  |str j=>obtain⟨b,rfl⟩:=a;exact PySem.EqMixed.ne_int_str (F3 I q (by simp))
  |_=>exact absurd (show false=true from c) Ai
 |str i=>
  obtain⟨t,rfl⟩:=d;cases y with
  |non=>cases a;exact PySem.EqNone.ne_str_none (F3 I q (by simp))
  |bl j=>cases a;exact PySem.EqMixed.ne_str_bool (F3 I q (by simp))
  |int j=>obtain⟨b,rfl⟩:=a;exact PySem.EqMixed.ne_str_int (F3 I q (by simp))
  |str j=>obtain⟨b,rfl⟩:=a;exact ne_str (F3 I q (Bh not Au0))
  |_=>exact absurd (show false=true from c) Ai
 |byt i=>
  obtain⟨t,rfl⟩:=d;cases y with
  |byt j=>obtain⟨b,rfl⟩:=a;exact PySem.W.ne_bytes (F3 I q (Bh not Ax4))
  |_=>exact absurd (show false=true from c) Ai
 |_=>cases y<;>exact absurd (show false=true from c) Ai
theorem AX6:OpR X (compareOp .Lt) (rI0 fun i j=>.bl (decide (i<j))):=Bo1 fun _ _ _ _ _ _ _ q=>lt_int q
theorem AN6:OpR X (compareOp .LtE) (rI0 fun i j=>.bl (decide (i<=j))):=Bo1 fun _ _ _ _ _ _ _ q=>le_int q
theorem AG2:OpR X (compareOp .Gt) (rI0 fun i j=>.bl (decide (j<i))):=Bo1 fun _ _ _ _ _ _ _ q=>gt_int q
theorem BX6:OpR X (compareOp .GtE) (rI0 fun i j=>.bl (decide (j<=i))):=Bo1 fun _ _ _ _ _ _ _ q=>ge_int q
theorem BI1:OpR X (compareOp .Is) (fun x y H Q=>y=.non/\Q (.bl (decide (x=.non))) H):=by
 intro a s d H x y v u Q I b c h;obtain⟨rfl,q⟩:=h;cases c;refine is_none_gen (F3 I q ?_);cases x<;>first
  |(cases b;rfl)
  |(obtain⟨t,rfl⟩:=b;rfl)
theorem C1 (b:Expr)(h:op≠.In:=by decide)(a:op≠.NotIn:=by decide):behindInMarks op b=false:=by
 have c:(op==CmpOp.In)=false:=by cases op<;>first |rfl |exact absurd rfl h
 have d:(op==CmpOp.NotIn)=false:=by cases op<;>first |rfl |exact absurd rfl a
 cases b<;>simp[behindInMarks,c,d]
theorem K7 (d:OpR X (compareOp op) r)(e:PE X a ta)(f:PE X b tb)(g:behindInMarks op b=false):PE X (.Compare a [op] [b] pos) (tOp r ta tb):=by intro c s i H Q I h;exact wpAny_Compare1 (Bt0 e f I h fun v u j x y k l m n q=>d c j i k x y v u Q l m n q) g
inductive Ax9 (Q:Bool->Hp->Prop) (x:V) (H':Hp):Prop
 |mk:∀k,x=.bl k->Q k H'->Ax9 Q x H'
def Al9 (t:TE):TT:=fun a H Q=>t a H fun x b=>Ax9 Q x b
theorem B4 (g:OpR X (compareOp op) r)(i:PE X a ta)(j:PE X b tb)(l:behindInMarks op b=false):PT X (.Compare a [op] [b] pos) (Al9 (tOp r ta tb)):=by
 intro d s f H Q I h;refine wpAny_isTrue_Compare1 (thn (i d s f H _ I h) fun v m ⟨x,n,o,p,q⟩=>thn (j d m f n _ o q) fun u t ⟨y,w,A,B,C⟩=>
  thn (g d t f w x y v u _ A p B C) fun c J ⟨z,D,E,F,k,e,G⟩=>?_) l
 subst e;cases F;exact Bo ⟨D,E,G⟩
inductive A20 (r':R2) (tc:TE) (σ:St) (Q:VK) (y:V) (z:V) (H3:Hp):Prop
 |mk:∀k,z=.bl k->((if k=true then tc σ H3 fun w' H4=>r' y w' H4 Q else Q (.bl false) H3))->A20 r' tc σ Q y z H3
def As0 (r b:R2)(c d e:TE):TE:=fun a H Q=>c a H fun x f=>d a f fun y g=>r x y g fun z h=>A20 b e a Q y z h
theorem AL8 (o:OpR X (compareOp op) r)(i:OpR X (compareOp op') r')(p:PE X a ta)(q:PE X b tb)(t:PE X c tc)
  (w:lastMarks [op,op'] [b,c]=false:=by with_unfolding_all rfl):PE X (.Compare a [op,op'] [b,c] pos) (As0 r r' ta tb tc):=by
 intro f s g H Q I h;refine Compare_chain (thn (p f s g H _ I h) fun v A ⟨x,B,C,D,E⟩=>chain_link (thn (q f A g B _ C E) fun u F ⟨y,G,J,j,K⟩=>
  thn (o f F g G x y v u _ J D j K) fun d L ⟨z,l,m,M,k,e,n⟩=>?_)) w
 subst e;cases M;refine Bo ?_;cases k with
 |false=>exact ite_ff ⟨.bl false,l,m,rfl,n⟩
 |true=>exact ite_tt (chain_last (thn (t f L g l _ m n) fun N O ⟨P,R,S,T,U⟩=>i f O g R y P u N Q S j T U))
theorem A58 (o:OpR X (compareOp op) r)(i:OpR X (compareOp op') r')(p:PE X a ta)(q:PE X b tb)(t:PE X c tc)
  (w:lastMarks [op,op'] [b,c]=false:=by with_unfolding_all rfl):PT X (.Compare a [op,op'] [b,c] pos) (Al9 (As0 r r' ta tb tc)):=by
 intro f s g H Q I h;refine isTrue_chain (thn (p f s g H _ I h) fun v A ⟨x,B,C,D,E⟩=>test_link (thn (q f A g B _ C E) fun u F ⟨y,G,J,j,K⟩=>
  thn (o f F g G x y v u _ J D j K) fun d L ⟨z,l,m,M,k,e,n⟩=>?_)) w
 subst e;cases M;refine Bo ?_;cases k with
 |false=>obtain⟨k',N,O⟩:=n;cases N;exact ite_ff ⟨l,m,O⟩
 |true=>refine ite_tt (test_last (thn (t f L g l _ m n) fun P R ⟨S,T,U,V,W⟩=>thn (i f R g T y S u P _ U j V W) fun d' s5 ⟨z2,Y,Z,r5,k2,e2,q5⟩=>?_));subst e2;cases r5;exact Bo ⟨Y,Z,q5⟩
def Bw2 (K:AA)(x:V)(H:Hp)(k:Bool):Prop:=
 match x with
 |.non=>k=false
 |.bl b=>k=b
 |.int i=>k=(i != 0)
 |.str y=>y.length<=sizeLine/\k=((y.length:Int) != 0)
 |.byt y=>y.size<=sizeLine/\k=((y.size:Int) != 0)
 |.ref p=>(∃a,SqL K H p a/\k= !a.isEmpty)∨(∃a,SqT K H p a/\k= !a.isEmpty)∨∃c,H p=some (.dK c)/\k= !c.isEmpty
 |_=>False
theorem Al0 (r:KV kvs vs):(!vs.isEmpty)= !kvs.isEmpty:=by cases r<;>rfl
theorem AH3 (r:Vals xs its):(!its.toArray.isEmpty)= !xs.isEmpty:=by cases r<;>simp
theorem AI4:(sizeLine:Nat)<2 ^ 63:=by rw[BA];decide
theorem Bj1:B03 X (fun x H Q=>∃k,Bw2 X.K x H k/\Q k H):=by
 intro u s C H x v Q I g h;obtain⟨k,e,q⟩:=h;have D:=AI4;have E:sizeLine=16777216:=BA;cases x with
 |non=>cases g;have a:k=false:=e;subst a;exact truthy_none ⟨H,I,q⟩
 |bl b=>cases g;have a:k=b:=e;subst a;exact Bo ⟨H,I,q⟩
 |int i=>obtain⟨t,rfl⟩:=g;have a:k=(i != 0):=e;subst a;exact PySem.P.truthy_int ⟨H,I,q⟩
 |str y=>obtain⟨t,rfl⟩:=g;obtain⟨A,a⟩:y.length<=sizeLine/\k=((y.length:Int) != 0):=e;subst a;exact PySem.P.truthy_str (by omega) ⟨H,I.tok _,q⟩
 |byt y=>obtain⟨t,rfl⟩:=g;obtain⟨A,a⟩:y.size<=sizeLine/\k=((y.size:Int) != 0):=e;subst a;exact PySem.W.truthy_bytes (by omega) ⟨H,I.tok _,q⟩
 |ref p=>
  cases g;have a:(∃f,SqL X.K H p f/\k= !f.isEmpty)∨(∃f,SqT X.K H p f/\k= !f.isEmpty)∨∃c,H p=some (.dK c)/\k= !c.isEmpty:=e;rcases a with ⟨f,j,a⟩ |⟨f,j,a⟩ |⟨c,j,a⟩
  ·subst a;obtain⟨n,r,o,z⟩:=I.list j;have d:=r.length;exact wpAny_truthy_list o.isList (by simp only[Ae];omega) ⟨H,I.tok _,by rw[AH3 r];exact q⟩
  ·subst a;obtain⟨n,r,o,z⟩:=I.tuple j;have d:=r.length;exact truthy_tuple o (by simp only[Ae];omega) ⟨H,I.tok _,by rw[AH3 r];exact q⟩
  ·subst a;obtain⟨z,B,l,r,m⟩:c.length<=sizeLine/\(p==sysModules)=false/\∃l,KV c l/\s.heap.DictOf (C8 X.prog X.w) p l:=I.hok p _ j;have d:c.length=l.length:=BQ r;exact wpAny_truthy_dict B m (by omega) ⟨H,I.tok _,by rw[Al0 r];exact q⟩
 |_=>exact(show False from e).elim
theorem l4 (e:PE X a ta)(f:∀b,isTrue a X.env b=(do let v ←b;standAt a.pos;holding [v] (truthy v))):
  PT X a (fun d H Q=>ta d H fun x H'=>∃k,Bw2 X.K x H' k/\Q k H'):=by
 intro c s d H Q I h;exact isTrue_plain (thn (e c s d H _ I h) fun v g ⟨x,i,j,l,m⟩=>Bj1 c g d i x v Q j l m) (f _)
theorem Au4 (r:Vals [x] us):∃u,us=[u]/\RelV x u:=by
 cases r with
 |cons a b=>cases b;exact⟨_,rfl,a⟩
theorem AV7:AW6 X (.type "str") (fun xs H Q=>∃i,xs=[.int i]/\i.natAbs.log2<1920/\Q (.str (toString i)) H):=by intro a s c H xs d Q I r h;obtain⟨i,rfl,b,q⟩:=h;obtain⟨u,rfl,t,rfl⟩:=Au4 r;exact PySem.P.str_of_int b ⟨.str _,H,I.tok _,⟨_,rfl⟩,q⟩
theorem A78:AW6 X (.builtin "ord") (fun xs H Q=>∃x,xs=[.str x]/\x.length=1/\Q (.int (x.cps.getD 0 0:Nat)) H):=by intro a s c H xs d Q I r h;obtain⟨x,rfl,b,q⟩:=h;obtain⟨u,rfl,t,rfl⟩:=Au4 r;exact ord_of_one b ⟨.int _,H,I.tok _,⟨_,rfl⟩,q⟩
end
structure ObjM (h:BR)(x dx C:AI)(mA:Str->Option AH):Prop where
 obj:h.get? x=some (instObj C dx)
 ns:h.Ns1 dx mA
 ne:dx≠x
theorem A17 {h:BR}{c:Str->Option AH}(n:h.Ns1 dx c):∃od,h.get? dx=some od/\∀name,PySem.W.lookIn name od=some (c name):=by
 obtain⟨o,d,m,f,g,i,_,j⟩:=n;refine⟨o,f,fun name=>?_⟩;have e:=j name;unfold nsFind findBy at e;rw[←Array.find?_toList]at e;unfold PySem.W.lookIn;rw[g];dsimp only;split
 ·rename_i y q;rw[q]at e;exact Bh some e
 ·rename_i q;rw[q]at e;have a:d.toList.any (·.refKey)=false:=by rw[List.any_eq_false];intro y k;obtain⟨z,t,b⟩:=i y (Array.mem_toList_iff.mp k);simp[DictEntry.refKey,b]
  have l:¬d.toList.any (·.refKey)=true:=by rw[a];exact Ai
  rw[AD l];exact Bh some e
theorem ObjM.look (I:ObjM h x dx C mA):∃od,PySem.W.InstAt h x (instObj C dx) C (some od)/\∀name,PySem.W.lookIn name od=some (mA name):=
 let ⟨od,a,b⟩:=A17 I.ns
 ⟨od,⟨I.obj,rfl,rfl,a⟩,b⟩
section
variable {prog:Af} {w:Ap} {A:Around} {E:AH->AW->Prop} {s:AW} {K:AA} {x dx C f:AI} {mA:Str->Option AH} {name:Str} {v:AH}
theorem BK4 (X:K.In s.heap)(I:ObjM s.heap x dx C mA)(b:plainGet K C name=true)(c:hasDictIn K C=true)
  (d:findIn K (.ref C) name=some none) (e:mA name=some v) (a:PySem.W.handedIn v=true) (h:Q v {s with toks:=s.toks+1}):
  wpAny (model prog w) A (getAttr (.ref x) name expr) Q E s:=by
 obtain⟨g,J,f⟩:=I.look;exact PySem.W.get_value X J (PySem.W.plainGet_of b).1 (PySem.W.findObj_own c d rfl (by rw[f,e])) a h
theorem BO5 (X:K.In s.heap)(I:ObjM s.heap x dx C mA)
  (j:findIn K (.ref C) "__setattr__"=some (some (.builtin "object.__setattr__"))) (k:plainOver K C=true) (l:PySem.W.takerIn K C name=some none) (m:hasDictIn K C=true)
  (hw:PySem.Within mA ns) (hsz:ns.length<=sizeLine)
  (h:∀h',ObjM h' x dx C (fun y=>if y=name then some v else mA y)->Heap.SameBut dx s.heap h'->Q () {s with heap:=h',toks:=s.toks+2}):
  wpAny (model prog w) A (setAttr (.ref x) name v) Q E s:=by
 obtain⟨t,J,u⟩:=I.look;refine PySem.W.set_plain X J j (PySem.W.osa_open (s:={s with toks:=s.toks+1}) (r:=none) X J k l fun b=>?_);obtain⟨z,n,e⟩:=PySem.W.any_some m;have o:s.heap.get? x=some ⟨.ref C,some dx,.plain,#[]⟩:=I.obj;refine AM (Au (AM (AM (wpAny_loadPart o (AM (PySem.W.Looks.here (s:={s with toks:=s.toks+1}) (PySem.W.looks_clsIn X n) ?_))))));rw[e];refine Au (a:=some dx) (AM (Au (AM ?_)));refine wpAny_nsSet1 (s:={s with toks:=s.toks+1}) I.ns fun h' c d=>?_;obtain⟨B,p,q,f,g,i⟩:=c.count (PySem.Within.cons name v hw);refine AM (wpAny_lookBehind f (by rw[g];exact pastItsLine_dict (BV i (by rw[AZ];omega))) ?_);exact Au (h _ ⟨(d.2 _ (BD I.ne)).trans I.obj,c,I.ne⟩ d)
theorem BA7 (X:K.In s.heap)(b:makesIn K C=true)
  (c:findIn K (.ref C) "__init__"=some (some (.ref f))) (e:PySem.W.typeIn K (.ref f)=some (.type "function"))
  (h:codeAny (model prog w) (A.under (.builtin "type.__call__" ⟨.ref C::vs,kw⟩)) (.call (.ref f) ⟨.ref (s.heap.objs.size+1)::vs,kw⟩) (PySem.W.InitBack (s.heap.objs.size+1) R)
   {s with heap:=(s.heap.push emptyDict).push (instObj C s.heap.objs.size)}):
  codeAny (model prog w) A (.call (.ref C) ⟨vs,kw⟩) R s:=by
 obtain⟨i,g,d,t,j⟩:=s;exact PySem.W.make_core (PySem.W.makes_of X b) (PySem.W.looks_findIn X c) (fun a=>PySem.W.bind_fn X a e) (.inl rfl) h
end
noncomputable def C3 (f:Str)(v:V):List (Str×V)->List (Str×V)
 |[]=>[(f,v)]
 |(g,x)::r=>if g=f then(g,v)::r else(g,x)::C3 f v r
theorem D8 (f g:Str)(v:V):∀fs:List (Str×V),(C3 f v fs).lookup g=if g=f then some v else fs.lookup g
 |[]=>by
  show List.lookup g [(f,v)]=_;by_cases h:g=f
  ·have a:(g==f)=true:=Dk.mpr h;simp only[List.lookup,a,AL h]
  ·have a:(g==f)=false:=BW.mpr h;simp only[List.lookup,a,AD h]
 |(k,x)::r=>by
  have c:=D8 f g v r;rw[show C3 f v ((k,x)::r)=(if k=f then(k,v)::r else(k,x)::C3 f v r)from rfl];by_cases b:k=f
  ·rw[AL b];by_cases h:g=k
   ·have a:(g==k)=true:=Dk.mpr h;simp only[List.lookup,a,AL (h.trans b)]
   ·have a:(g==k)=false:=BW.mpr h;simp only[List.lookup,a,AD (fun e:g=f=>h (e.trans b.symm))]
  ·rw[AD b];by_cases h:g=k
   ·have a:(g==k)=true:=Dk.mpr h;simp only[List.lookup,a,AD (fun e:g=f=>b (h.symm.trans e))]
   ·have a:(g==k)=false:=BW.mpr h;simp only[List.lookup,a];exact c
theorem AE5 (f:Str)(v:V):∀fs:List (Str×V),f∈(C3 f v fs).map (·.1)/\∀g,g∈fs.map (·.1)->g∈(C3 f v fs).map (·.1)
 |[]=>⟨by simp[C3],fun g h=>by simp at h⟩
 |(k,x)::r=>by
  obtain⟨b,c⟩:=AE5 f v r;rw[show C3 f v ((k,x)::r)=(if k=f then(k,v)::r else(k,x)::C3 f v r)from rfl];by_cases a:k=f
  ·rw[AL a];subst a;exact⟨by simp,fun g h=>by simpa using h⟩
  ·rw[AD a];refine⟨?_,fun g h=>?_⟩
   ·rw[Ah];exact AC _ b
   ·rw[Ah]at h ⊢;rcases AK.mp h with e |e
    ·exact AK.mpr (.inl e)
    ·exact AC _ (c g e)
theorem AB8 (f:Str)(v:V):∀fs:List (Str×V),(C3 f v fs).length<=fs.length+1
 |[]=>by simp[C3]
 |(k,x)::r=>by
  have b:=AB8 f v r;rw[show C3 f v ((k,x)::r)=(if k=f then(k,v)::r else(k,x)::C3 f v r)from rfl];by_cases a:k=f
  ·rw[AL a,AZ,AZ];omega
  ·rw[AD a,AZ,AZ];omega
theorem RelO.some_of (r:RelO (some v) o):∃u,o=some u/\RelV v u:=by
 cases o with
 |none=>exact(show False from r).elim
 |some u=>exact⟨u,rfl,r⟩
theorem Av6 (r:RelV v u):PySem.W.handedIn u=true:=by
 cases v with
 |non=>cases(show u=Value.none from r);rfl
 |bl b=>cases(show u=Value.bool b from r);rfl
 |int i=>obtain⟨t,e⟩:=(show ∃t,u=Value.int i t from r);cases e;rfl
 |str x=>obtain⟨t,e⟩:=(show ∃t,u=Value.str x t from r);cases e;rfl
 |byt b=>obtain⟨t,e⟩:=(show ∃t,u=Value.bytes b t from r);cases e;rfl
 |flt b=>obtain⟨t,e⟩:=(show ∃t,u=Value.float b t from r);cases e;rfl
 |ref a=>cases(show u=Value.ref a from r);rfl
 |ty n=>cases(show u=Value.type n from r);rfl
section
variable {P:Af} {w:Ap} {H H':Hp} {h h':BR} {a C dx:AI} {fs fs':List (Str×V)}
theorem Aa3 (c:HOk P w H h)(e:H a=some (.ins C dx fs)):∃b,ObjM h a dx C b/\(∀f,RelO (fs.lookup f) (b f))/\PySem.Within b (fs.map (·.1))/\fs.length<=1000/\H dx=some (.own a):=by obtain⟨d,z,g,i,b,n,r,q⟩:=(show ObjOk P w H h a (.ins C dx fs)from c a _ e);exact⟨b,⟨i,n,g⟩,r,q,z,d⟩
end
structure Cls (K:AA)(C:AI):Prop where
 pg:plainGet K C Str.empty=true
 hd:hasDictIn K C=true
 po:plainOver K C=true
 sa:findIn K (.ref C) "__setattr__"=some (some (.builtin "object.__setattr__"))
theorem Cls.get {K:AA}{C:AI}(c:Cls K C)(f:Str):plainGet K C f=true:=c.pg
def NoAttr (K:AA)(C:AI)(f:Str):Prop:=findIn K (.ref C) f=some none
theorem NoAttr.taker {K:AA}{C:AI}{f:Str}(n:NoAttr K C f):PySem.W.takerIn K C f=some none:=by unfold PySem.W.takerIn;rw[show findIn K (.ref C) f=some none from n];rfl
section
variable {X:Cx} {pins:List (AI×Obj)} {σ:St} {H:Hp} {s:AW} {a C dx:AI} {fs:List (Str×V)} {f:Str} {v:V} {A:Around} {E:AH->AW->Prop}
theorem AI5 (I:Inv X pins σ H s)(e:H a=some (.ins C dx fs))(c:Cls X.K C)(n:NoAttr X.K C f)(l:fs.lookup f=some v)
  (h:∀u s',Inv X pins σ H s'->RelV v u->Q u s'):wpAny (model X.prog X.w) A (getAttr (.ref a) f b) Q E s:=by
 obtain⟨g,O,r,_,_,_⟩:=Aa3 I.hok e;obtain⟨u,i,d⟩:=RelO.some_of (v:=v) (o:=g f) (by rw[←l];exact r f);exact BK4 I.kIn O (c.get f) c.hd n i (Av6 d) (h u _ (I.tok _) d)
theorem AH5 (I:Inv X pins σ H s)(e:H a=some (.ins C dx fs))(c:Cls X.K C)(n:NoAttr X.K C f)(G:fs.length<1000)(l:RelV y u)
  (h:∀s',Inv X pins σ (upd H a (.ins C dx (C3 f y fs))) s'->Q () s'):wpAny (model X.prog X.w) A (setAttr (.ref a) f u) Q E s:=by
 obtain⟨i,O,r,j,_,k⟩:=Aa3 I.hok e;have m:(fs.map (·.1)).length<=sizeLine:=by rw[AJ,BA];omega
 refine BO5 I.kIn O c.sa c.po n.taker c.hd j m fun p d t=>h _ ?_;have v:∃o,p.get? dx=some o:=let ⟨o,_,_,B,_⟩:=d.ns;⟨o,B⟩;refine I.write (x:=a) (e:=dx) (by rw[e];exact True.intro) (.inr k) (fun b q D z=>(t.2 b D).trans z) v ?_;refine⟨by rw[A4 O.ne];exact k,?_,O.ne,d.obj,_,d.ns,fun g=>?_,fun g F=>?_⟩
 ·have:=AB8 f y fs;omega
 ·show RelO ((C3 f y fs).lookup g) (if g=f then some u else i g);rw[D8];by_cases q:g=f
  ·rw[AL q,AL q];exact l
  ·rw[AD q,AD q];exact r g
 ·by_cases q:g=f
  ·rw[q];exact(AE5 f y fs).1
  ·refine(AE5 f y fs).2 g (j g fun z=>F ?_);show(if g=f then some u else i g)=none;rw[AD q];exact z
theorem Inv.made (I:Inv X pins σ H s):Inv X pins σ (upd (upd H s.heap.objs.size (.own (s.heap.objs.size+1))) (s.heap.objs.size+1) (.ins C s.heap.objs.size []))
  {s with heap:=(s.heap.push emptyDict).push (instObj C s.heap.objs.size)}:=by
 have c:(s.heap.push emptyDict).get? s.heap.objs.size=some emptyDict:=An s.heap rfl;have f:((s.heap.push emptyDict).push (instObj C s.heap.objs.size)).get? (s.heap.objs.size+1)=some (instObj C s.heap.objs.size):=by
  have:=An (s.heap.push emptyDict) (o:=instObj C s.heap.objs.size) rfl
  rwa [Bi]at this
 have g:(s.heap.push emptyDict).Ns s.heap.objs.size (fun _=>none):=⟨emptyDict,#[],_,c,rfl,(fun e h=>absurd h (by simp)),fun _=>rfl⟩;have i:=I.laid (a:=s.heap.objs.size) (o:=.own (s.heap.objs.size+1)) (h':=s.heap.push emptyDict) (t':=s.toks) (fun b u q=>Ak _ q) (AB _) ⟨_,c⟩;refine i.laid (a:=s.heap.objs.size+1) (o:=.ins C s.heap.objs.size []) (t':=s.toks) (fun b u q=>Ak _ q) (Du (Bi _ _)) ?_;have d:s.heap.objs.size≠s.heap.objs.size+1:=Ba (CY _);refine⟨by rw[A4 d,A1],Ag _,d,f,fun _=>none,(Heap.Ns1.of_empty g).at fun o q=>Ak _ q,fun _=>True.intro,fun y j=>absurd rfl j⟩
theorem BK6 (b:attributeBase e f env (eval e env)=eval e env)
  (h:wpAny (model prog w) A (eval e env) (fun o a=>wpAny (model prog w) A (getAttr o f true) Q E a) E s):wpAny (model prog w) A (eval (.Attribute e f pos) env) Q E s:=
 Attribute_any_ h (by rw[arm_eval_Attribute,b])
end
inductive Be1 (K:AA) (f:Str) (Q:VK) (x:V) (H1:Hp):Prop
 |mk:∀a C dx fs v,x=.ref a->H1 a=some (.ins C dx fs)->Cls K C->NoAttr K C f->fs.lookup f=some v->Q v H1->Be1 K f Q x H1
def Ak1 (K:AA)(a:TE)(f:Str):TE:=fun b H Q=>a b H fun x c=>Be1 K f Q x c
inductive Bb7 (K:AA) (f:Str) (D:Ends) (σ:St) (y:V) (x:V) (H2:Hp):Prop
 |mk:∀a C dx fs,x=.ref a->H2 a=some (.ins C dx fs)->Cls K C->NoAttr K C f->fs.length<1000->D.nx σ (upd H2 a (.ins C dx (C3 f y fs)))->Bb7 K f D σ y x H2
def BY6 (K:AA)(b c:TE)(f:Str):TS:=fun D a H=>c a H fun y d=>b a d fun x e=>Bb7 K f D a y x e
def Bz4 (X:Cx)(op:Operator)(c:V->V->Hp->VK->Prop):Prop:=
 ∀(a:List (AI×Obj)) (s:AW) (b:St) (H:Hp) (x y:V) (u v:AH) (Q:VK),Inv X a b H s->RelV x u->RelV y v->c x y H Q->wpAny (model X.prog X.w) X.A (inplaceOp op u v) (EP X a b Q) X.xe s
inductive Ae1 (K:AA) (tv:TE) (rd:V->V->Hp->VK->Prop) (f:Str) (D:Ends) (σ:St) (x:V) (H1:Hp):Prop
 |mk:∀a C dx fs v,x=.ref a->H1 a=some (.ins C dx fs)->Cls K C->NoAttr K C f->fs.lookup f=some v->(tv σ H1 fun y H2=>rd v y H2 fun z H3=>∃dx' fs',H3 a=some (.ins C dx' fs')/\fs'.length<1000/\D.nx σ (upd H3 a (.ins C dx' (C3 f z fs'))))->Ae1 K tv rd f D σ x H1
def BR9 (K:AA)(b c:TE)(d:V->V->Hp->VK->Prop)(f:Str):TS:=fun D a H=>b a H fun x e=>Ae1 K c d f D a x e
section
variable {X:Cx} {o e value:Expr} {f:Str} {pos pos' tpos:Pos} {ta tv:TE}
theorem A9 (d:PE X e ta)(g:attributeBase e f X.env (eval e X.env)=eval e X.env):PE X (.Attribute e f pos) (Ak1 X.K ta f):=by intro b s i H Q I h;refine BK6 g (thn (d b s i H _ I h) fun u w ⟨x,j,k,m,a,C,y,z,v,o,p,c,n,l,q⟩=>?_);subst o;obtain rfl:u=Value.ref a:=m;exact AI5 k p c n l fun A B r t=>⟨v,j,r,t,q⟩
theorem D0 (e:PE X o ta)(g:PE X value tv)(i:swapsWith value (some (.Attribute o f pos')) pos.line X.env=pure false):PS X (.Assign [.Attribute o f pos'] value pos) (BY6 X.K ta tv f):=by intro b s d H D I h;refine plainObj_wpAny_Assign_Attribute (thn (g b s d H _ I h) fun u j ⟨y,k,m,p,q⟩=>thn (e b j d k _ m q) fun r E ⟨x,F,t,v,a,C,G,J,w,z,c,n,l,A⟩=>?_) i;subst w;obtain rfl:r=Value.ref a:=v;exact AH5 t z c n l p fun L B=>⟨d,_,B,A⟩
theorem AV2 (i:PE X o ta)(j:PE X value tv)(e:Bz4 X op rd):PS X (.AugAssign (.Attribute o f tpos) op value pos) (BR9 X.K ta tv rd f):=by intro b s d H D I h;refine wpAny_AugAssign_AttributeAny (thn (i b s d H _ I h) fun k V ⟨x,m,p,r,a,C,W,Y,v,t,w,c,n,l,q⟩=>?_);subst t;obtain rfl:k=Value.ref a:=r;refine AI5 p w c n l fun u A B E=>thn (j b A d m _ B q) fun F G ⟨y,J,L,M,N⟩=>thn (e b G d J v y u F _ L E M N) fun Z s4 ⟨z,H3,O,P,Q,R,g,S,T⟩=>?_;exact AH5 O g c n S P fun s5 U=>⟨d,_,U,T⟩
end
section
variable {X:Cx} {pins:List (AI×Obj)} {σ:St} {H:Hp} {s:AW} {A:Around} {E:AH->AW->Prop} {Q:AH->AW->Prop} {c:AH} {b:Bool}
inductive An0 (K:AA) (H:Hp):V->AH->Prop where
 |non:An0 K H .non (.type "NoneType")
 |bl (x:Bool):An0 K H (.bl x) (.type "bool")
 |int (i:Int):An0 K H (.int i) (.type "int")
 |str (x:Str):An0 K H (.str x) (.type "str")
 |flt (x:UInt64):An0 K H (.flt x) (.type "float")
 |lst {a:AI} {xs:List V} (e:H a=some (.lst xs)):An0 K H (.ref a) (.type "list")
 |frz {a:AI} {o:Obj} {xs:List V} (e:H a=some (.frz o (.lst xs))):An0 K H (.ref a) (.type "list")
 |tup {a:AI} {xs:List V} (e:H a=some (.tup xs)):An0 K H (.ref a) (.type "tuple")
 |dK {a:AI} {kvs:List (Key×V)} (e:H a=some (.dK kvs)):An0 K H (.ref a) (.type "dict")
 |dT {a:AI} {kvs:List (List Key×V)} (e:H a=some (.dT kvs)):An0 K H (.ref a) (.type "dict")
 |ins {a C dx:AI} {fs:List (Str×V)} (e:H a=some (.ins C dx fs)) (cl:Cls K C) (ha:findIn K (.ref C) "__class__"=some (some (.builtin "object.__class__")))
   (hn:PySem.W.specialIn K (.builtin "object.__class__") "__get__"=some (some (.builtin "getset_descriptor.__get__"))) (htk:PySem.W.takesIn K (.builtin "object.__class__")=some true)
   (hm:PySem.W.mroIn K C (.type "object")=some true):An0 K H (.ref a) (.ref C)
theorem A02 (I:Inv X pins σ H s)(rx:RelV x u)(ty:An0 X.K H x t)(e:PySem.W.kitOne X.K t c=some b)(h:∀tk,Q (.bool b) {s with toks:=tk}):
  wpAny (model X.prog X.w) A (call (.builtin "isinstance") [u,c]) Q E s:=by
 cases ty with
 |non=>cases(show u=Value.none from rx);exact Bc PySem.W.kitx_none I.kIn True.intro e (fun z=>nomatch z) h
 |bl y=>cases(show u=Value.bool y from rx);exact Bc PySem.W.kitx_bool I.kIn True.intro e (fun z=>nomatch z) h
 |int i=>obtain⟨t,q⟩:=(show ∃t,u=Value.int i t from rx);cases q;exact Bc PySem.W.kitx_int I.kIn True.intro e (fun z=>nomatch z) h
 |str y=>obtain⟨t,q⟩:=(show ∃t,u=Value.str y t from rx);cases q;exact Bc PySem.W.kitx_str I.kIn True.intro e (fun z=>nomatch z) h
 |flt y=>obtain⟨t,q⟩:=(show ∃t,u=Value.float y t from rx);cases q;exact Bc PySem.W.kitx_float I.kIn True.intro e (fun z=>nomatch z) h
 | @lst a xs ea=>cases(show u=Value.ref a from rx);obtain⟨_,_,n,_,h1⟩:=(show ObjOk X.prog X.w H s.heap a (.lst xs)from I.hok a _ ea);exact Bc PySem.W.kitx_list I.kIn ⟨_,h1,rfl⟩ e (fun z=>nomatch z) h
 | @frz a ob xs ea=>cases(show u=Value.ref a from rx);obtain⟨_,_,_,n,_,h1⟩:=(show ObjOk X.prog X.w H s.heap a (.frz ob (.lst xs))from I.hok a _ ea);exact Bc PySem.W.kitx_list I.kIn ⟨_,h1,rfl⟩ e (fun z=>nomatch z) h
 | @tup a xs ea=>cases(show u=Value.ref a from rx);obtain⟨_,_,_,p⟩:=(show ObjOk X.prog X.w H s.heap a (.tup xs)from I.hok a _ ea);obtain⟨o,h1,h2,_⟩:=p;exact Bc PySem.W.kitx_tuple I.kIn ⟨o,h1,h2⟩ e (fun z=>nomatch z) h
 | @dK a kvs ea=>cases(show u=Value.ref a from rx);obtain⟨_,_,vs,_,p⟩:=(show ObjOk X.prog X.w H s.heap a (.dK kvs)from I.hok a _ ea);obtain⟨o,es,ep,h1,h2,_⟩:=p;exact Bc PySem.W.kitx_dict I.kIn ⟨o,h1,h2.1⟩ e (fun z=>nomatch z) h
 | @dT a kvs ea=>cases(show u=Value.ref a from rx);obtain⟨_,_,xs,_,o,es,ep,h1,h2,_⟩:=(show ObjOk X.prog X.w H s.heap a (.dT kvs)from I.hok a _ ea);exact Bc PySem.W.kitx_dict I.kIn ⟨o,h1,h2.1⟩ e (fun z=>nomatch z) h
 | @ins a C dx fs ea cl ha hn htk hm=>cases(show u=Value.ref a from rx);obtain⟨mA,O,_⟩:=Aa3 I.hok ea;obtain⟨od,J,_⟩:=O.look;exact Bc (PySem.W.kitx_own (cl.get _) cl.hd ha hn htk hm) I.kIn J e (fun z=>nomatch z) h
end
structure Room (k:Nat)(A:Around):Prop where
 hd:A.handled=none
 dp:A.depth+3*k+5<recursionLimit
 un:A.units+16*k+200<cLine
theorem Room.mono (r:Room k A)(h:j<=k):Room j A:=⟨r.hd,by have:=r.dp;omega,by have:=r.un;omega⟩
theorem Room.deeper (r:Room (k+1) A)(a:Env):Room k (A.deeper a):=
 ⟨r.hd,by have:=r.dp;show A.depth+1+3*k+5<_;omega,by have:=r.un;show A.units+3+16*k+200<_;omega⟩
theorem Al2 {A:Around}:(A.under (.builtin "type.__call__" ⟨.ref C::us,kw⟩)).depth=A.depth+1:=by
 first |rfl |simp[Around.under,Code.weight,Code.isCreation,Code.isGuard,Code.isCaller,Code.frames,Code.isFrame,guardIds]
theorem Al1 {A:Around}:(A.under (.builtin "type.__call__" ⟨.ref C::us,kw⟩)).units=A.units+1:=by
 first |rfl |simp[Around.under,Code.cUnits,Code.frames,Code.isFrame]
theorem Room.make (r:Room (k+1) A)(C:AI)(us:List AH)(a:List (Str×AH)):Room k (A.under (.builtin "type.__call__" ⟨.ref C::us,a⟩)):=
 ⟨r.hd,by have:=r.dp;rw[Al2];omega,by have:=r.un;rw[Al1];omega⟩
theorem Room.depth (r:Room k A):A.depth<recursionLimit:=by have:=r.dp;omega
theorem Room.units (r:Room k A):A.units+64<cLine:=by have:=r.un;omega
def AW1:TA:=fun _ H Q=>Q [] H
def M9 (b:TE)(c:TA):TA:=fun a H Q=>b a H fun x d=>c a d fun e f=>Q (x::e) f
section
variable {X:Cx} {e:Expr} {es:List Expr} {te:TE} {t:TA} {pos:Pos}
theorem A6:PA X [] AW1:=fun _ _ _ _ H Q I h=>EQ ⟨[],H,I,.nil,h⟩
theorem A0 (d:PE X e te)(f:PA X es t)(g:starEach (e::es) X.env=(false,eval e X.env)::starEach es X.env:=by rfl):PA X (e::es) (M9 te t):=by intro b a s c H Q I h;rw[g];show wpAny _ _ (spliced ((false,eval e X.env)::backTo b (starEach es X.env))) _ _ s;refine DU (thn (d a s c H _ I h) fun u i ⟨x,j,k,l,m⟩=>?_);exact thn (f b a i c j _ k m) fun v w ⟨n,o,p,q,r⟩=>⟨x::n,o,p,.cons l q,r⟩
inductive BN5 (xs:List V) (o:HO) (H1:Hp) (Q:VK):Prop
 |mk:xs.length<=sizeLine->(∀p,H1 p=none->Q (.ref p) (upd H1 p o))->BN5 xs o H1 Q
def Bp5 (t:TA):TE:=fun b H Q=>t b H fun a c=>BN5 a (.tup a) c Q
def Bx3 (t:TA):TE:=fun b H Q=>t b H fun a c=>BN5 a (.lst a) c Q
theorem AJ1 (h:PA X es t):PE X (.Tuple es x1 pos) (Bp5 t):=by intro a s g H Q I i;refine wpAny_Tuple_spliced (thn (h pos a s g H _ I i) fun j c ⟨k,d,f,r,z,q⟩=>⟨by rw[←r.length];exact z,?_⟩);have l:d c.heap.objs.size=none:=f.hok.fresh (AB _);refine⟨.ref c.heap.objs.size,upd d c.heap.objs.size (.tup k),f.laid (t':=c.toks) (fun b u e=>Ak _ e) (AB _) ?_,rfl,q _ l⟩;exact⟨z,j,r,⟨_,An _ rfl,rfl,_,rfl⟩⟩
theorem M7 (h:PA X es t):PE X (.List es pos) (Bx3 t):=by intro a s g H Q I i;refine wpAny_List_spliced (thn (h pos a s g H _ I i) fun j c ⟨k,d,f,r,z,q⟩=>⟨by rw[←r.length];exact z,?_⟩);have l:d c.heap.objs.size=none:=f.hok.fresh (AB _);refine⟨.ref c.heap.objs.size,upd d c.heap.objs.size (.lst k),f.laid (t':=c.toks) (fun b u e=>Ak _ e) (AB _) ?_,rfl,q _ l⟩;exact⟨z,j,0,r,An _ rfl⟩
end
noncomputable abbrev Sp:=List V->Hp->VK->XK->Prop
noncomputable abbrev CXT:=List Env->Hp->AW->XK->AH->AW->Prop
structure Env0 (P:Af)(w:Ap)(K:AA)(mg:Str->Option AH)(base:BR)(A:Around)(outer:List Env)(s:AW)(H:Hp):Prop where
 frames:A.frames=some outer
 mod:Mod K mg base
 bs:∀b o,base.get? b=some o->s.heap.get? b=some o/\H b=none
 bsz:base.objs.size<=s.heap.objs.size
 funs:s.heap.FunFrames base outer
 frf:∀b∈frs outer,H b=none
 hok:HOk P w H s.heap
 bare:AllBare s.gens
inductive CE (outer:List Env) (P:Af) (w:Ap) (H:Hp) (s:AW) (Q:VK) (u:AH) (s':AW):Prop
 |mk:∀v H',s'.os=s.os->AllBare s'.gens->Un (frs outer) [] H H' s.heap s'.heap->HOk P w H' s'.heap->RelV v u->Q v H'->CE outer P w H s Q u s'
def CR (CX:CXT)(a:List Env)(P:Af)(w:Ap)(H:Hp)(s:AW)(Q:VK)(E:XK)(r:Result)(s':AW):Prop:=
 match r with
 |.ok (.ret u)=>CE a P w H s Q u s'
 |.ok _=>False
 |.error e=>CX a H s E e s'
structure D6 (P:Af)(w:Ap)(K:AA)(mg:Str->Option AH)(base:BR)(CX:CXT)(k:Nat)(f:AI)(fd:BK)(ps:List Str)(sp:Sp):Prop where
 len:∀vs H Q E,sp vs H Q E->vs.length=ps.length
 run:∀(A:Around) (outer:List Env) (s:AW) (H:Hp) (args:Args) (us:List AH) (vs:List V) (Q:VK) (E:XK),Room k A->Env0 P w K mg base A outer s H->BindsTo s fd args (ps.zip us)->Vals vs us->sp vs H Q E->
  codeAny (model P w) A (.call (.ref f) args) (CR CX outer P w H s Q E) s
theorem Env0.make {P:Af}{w:Ap}{K:AA}{c:Str->Option AH}{b:BR}{A:Around}{a:List Env}{s:AW}{H:Hp}(e:Env0 P w K c b A a s H)(C:AI)(us:List AH)(d:List (Str×AH)):
  Env0 P w K c b (A.under (.builtin "type.__call__" ⟨.ref C::us,d⟩)) a s H:=⟨by first |exact e.frames |(simpa [Around.under,Code.envs,Code.isFrame,pushEnvs]using e.frames),e.mod,e.bs,e.bsz,e.funs,e.frf,e.hok,e.bare⟩
section
variable {X:Cx} {pins:List (AI×Obj)} {σ:St} {H:Hp} {s s':AW}
theorem Inv.env0 (I:Inv X pins σ H s):Env0 X.prog X.w X.K X.mg X.base X.A X.stack s H:=
 ⟨I.ok.frames,I.ok.mod,I.bs,BV I.ok.bsz I.sz,I.stack,I.stkFree,I.hok,I.bare⟩
theorem Inv.after (I:Inv X pins σ H s)(h:CE X.stack X.prog X.w H s Q u s'):EP X pins σ Q u s':=by obtain⟨v,f,i,a,j,c,r,q⟩:=h;obtain⟨k,g,d,t,e⟩:=s';obtain rfl:e=s.os:=i;exact⟨v,f,I.call (h':=k) (g':=g) (d':=d) (t':=t) (ch:=[]) j c a (fun b z=>absurd z (by simp)),r,q⟩
end
def Am2 (sp:Sp)(a:List V)(E:XK)(t:TA):TE:=fun b H Q=>t b H fun c d=>sp (c++a) d Q E
def Am9 (C:AI)(sp:Sp)(b:List V)(E:XK)(t:TA):TE:=fun d H Q=>t d H fun e c=>∀x a,c x=none->c a=none->a≠x->
 sp (.ref x::(e++b)) (upd (upd c a (.own x)) x (.ins C a [])) (fun v f=>v=.non/\Q (.ref x) f) E
def Binds (K:AA)(b:BK)(ps:List Str)(ds:List AH):Prop:=
 ∀(s:AW) (a:List AH),K.In s.heap->(a++ds).length=ps.length->BindsTo s b ⟨a,[]⟩ (ps.zip (a++ds))
theorem Binds.all {K:AA}{a:BK}{ps:List Str}(h:∀us:List AH,us.length=ps.length->bindArgs a ⟨us,[]⟩=pure (ps.zip us)):Binds K a ps []:=fun s us _ b=>by rw[AE]at b ⊢;exact .of_eq (h us b)
def AJ3 (CX:CXT)(X:Cx)(E:XK):Prop:=∀(a:List (AI×Obj)) (c:St) (H:Hp) (s:AW) (e:AH) (b:AW),Inv X a c H s->CX X.stack H s E e b->X.xe e b
section
variable {X:Cx} {CX:CXT} {k:Nat} {f C:AI} {fd:BK} {ps:List Str} {sp:Sp} {dvs:List V} {ds:List AH} {E:XK} {x m:Str} {p pos apos:Pos} {e o:Expr} {es:List Expr} {ta:TE} {t:TA}
theorem BF5 (F:D6 X.prog X.w X.K X.mg X.base CX k f fd ps sp)(c:Room k X.A)(d:Binds X.K fd ps ds)(hd:Vals dvs ds)(g:AJ3 CX X E)
  (I:Inv X pins σ H s) (r:Vals vs us) (h:sp (vs++dvs) H Q E):wpAny (model X.prog X.w) X.A (call (.ref f) us) (EP X pins σ Q) X.xe s:=by
 have b:Vals (vs++dvs) (us++ds):=r.append hd;have i:(us++ds).length=ps.length:=by rw[←b.length];exact F.len _ _ _ _ h
 refine wpAny_call (EK (F.run X.A X.stack s H ⟨us,[]⟩ (us++ds) (vs++dvs) Q E c I.env0 (d s us I.kIn i) b h) fun r j a=>?_);cases r with
 |error e=>exact g pins σ H s e j I a
 |ok l=>
  cases l with
  |ret u=>exact I.after a
  |next=>exact False.elim a
  |brk=>exact False.elim a
  |cont=>exact False.elim a
theorem BU5 (F:D6 X.prog X.w X.K X.mg X.base CX k f fd ps sp)(g:Room k X.A)(i:Gl X x)(j:X.mg x=some (.ref f))(l:keepIn X.K (.ref f)=true)(m:Binds X.K fd ps ds)(hd:Vals dvs ds)(n:AJ3 CX X E)
  (o:PA X (e::es) t) (b:(x==("__debug__":Str))=false:=by decide) (u:starEach (e::es) X.env=(false,eval e X.env)::starEach es X.env:=by rfl) (c:(backTo pos (starEach es X.env)).any (·.1)=false:=by rfl):
  PE X (.Call (.Name x p) (e::es) [] pos) (Am2 sp dvs E t):=by
 intro a s v H Q I h;refine CQ (AL6 I i j ?_ b);refine PySem.W.callWith_K (h₀:=X.base) I.ok.mod.kin l (thn (o pos a s v H _ I h) fun y z ⟨B,C,d,r,q⟩=>⟨d.kIn,?_⟩) u c;exact BF5 F g m hd n d r q
theorem BD0 (F:D6 X.prog X.w X.K X.mg X.base CX k f fd ps sp)(c:Room k X.A)(d:Gl X x)(e:X.mg x=some (.ref f))(g:keepIn X.K (.ref f)=true)(i:Binds X.K fd ps ds)(hd:Vals dvs ds)(j:AJ3 CX X E)
  (a:(x==("__debug__":Str))=false:=by decide):PE X (.Call (.Name x p) [] [] pos) (Am2 sp dvs E AW1):=by
 intro b s l H Q I h;refine CQ (AL6 I d e ?_ a);exact PySem.W.callWith_K0 I.kIn g (BF5 (us:=[]) F c i hd j I .nil h)
structure Mk (K:AA)(C f:AI):Prop where
 makes:makesIn K C=true
 init:findIn K (.ref C) "__init__"=some (some (.ref f))
 fn:isFn K (.ref f)=true
 kp:keepIn K (.ref C)=true
theorem A84 (M:Mk X.K C f)(F:D6 X.prog X.w X.K X.mg X.base CX k f fd ps sp)(i:Room (k+1) X.A)(j:Binds X.K fd ps ds)(hd:Vals dvs ds)
  (l:AJ3 CX X E) (I:Inv X pins σ H s) (r:Vals vs us)
  (h:∀x b,H x=none->H b=none->b≠x->sp (.ref x::(vs++dvs)) (upd (upd H b (.own x)) x (.ins C b [])) (fun v m=>v=.non/\Q (.ref x) m) E):
  wpAny (model X.prog X.w) X.A (call (.ref C) us) (EP X pins σ Q) X.xe s:=by
 have d:=h (s.heap.objs.size+1) s.heap.objs.size (I.hok.fresh (BX _)) (I.hok.fresh (AB _)) (Ba (CY _));have c:=Inv.made (C:=C) I;have g:Vals (V.ref (s.heap.objs.size+1)::(vs++dvs)) (Value.ref (s.heap.objs.size+1)::(us++ds)):=.cons rfl (r.append hd);have n:(Value.ref (s.heap.objs.size+1)::us++ds).length=ps.length:=by have e:=g.length;rw[F.len _ _ _ _ d]at e;exact e.symm
 refine wpAny_call (BA7 (f:=f) I.kIn M.makes M.init (Dk.mp M.fn) (EK (F.run _ X.stack _ _ ⟨Value.ref (s.heap.objs.size+1)::us,[]⟩ (Value.ref (s.heap.objs.size+1)::(us++ds)) _ _ E (i.make C us [])
  (c.env0.make C us []) (j _ (Value.ref (s.heap.objs.size+1)::us) c.kIn n) g d) fun r o a=>?_))
 cases r with
 |error e=>exact l pins σ _ _ e o c a
 |ok p=>
  cases p with
  |ret u=>obtain⟨v,q,t,y,z,B⟩:=c.after a;subst z;exact⟨y,⟨V.ref (s.heap.objs.size+1),q,t,rfl,B⟩⟩
  |next=>exact False.elim a
  |brk=>exact False.elim a
  |cont=>exact False.elim a
theorem AL5 (M:Mk X.K C f)(F:D6 X.prog X.w X.K X.mg X.base CX k f fd ps sp)(g:Room (k+1) X.A)(i:Gl X x)(j:X.mg x=some (.ref C))(l:Binds X.K fd ps ds)(hd:Vals dvs ds)(m:AJ3 CX X E)
  (n:PA X (e::es) t) (b:(x==("__debug__":Str))=false:=by decide) (o:starEach (e::es) X.env=(false,eval e X.env)::starEach es X.env:=by rfl) (c:(backTo pos (starEach es X.env)).any (·.1)=false:=by rfl):
  PE X (.Call (.Name x p) (e::es) [] pos) (Am9 C sp dvs E t):=by
 intro a s u H Q I h;refine CQ (AL6 I i j ?_ b);refine PySem.W.callWith_K (h₀:=X.base) I.ok.mod.kin M.kp (thn (n pos a s u H _ I h) fun v y ⟨z,B,d,r,q⟩=>⟨d.kIn,?_⟩) o c;exact A84 M F g l hd m d r q
end
section
variable {X:Cx} {CX:CXT} {k:Nat} {f C:AI} {fd:BK} {ps ks:List Str} {sp:Sp} {E:XK} {x m:Str} {p pos apos kpos:Pos} {e o:Expr} {es:List Expr} {kws:List Keyword} {te ta:TE} {t tk:TA} {nm:Option Str}
variable {g:List AH->List AH->List AH} {gV:List V->List V->List V}
end
structure B7 (N P:List Str)(sc:Scope):Prop where
 kind:sc.kind=.function
 co:sc.isCoroutine=false
 gen:sc.isGenerator=false
 nd:N.Nodup
 pre:N.take P.length=P
 par:∀x∈P,sc.names.lookup x=some .local∨sc.names.lookup x=some .cell
 nofree:∀y∈sc.names,y.2≠.free
theorem AU4 {b:Str->Option NameKind}:∀{a:List (Str×AH)} {m:Str->Option AH},(∀v,(x,v)∉a)->bindL b a m x=m x
 |[],_,_=>rfl
 |(n,v)::r,m,h=>by
  unfold bindL;rw[AU4 fun w c=>h w (AC _ c)];split
  ·have:x≠n:=by rintro rfl;exact h v AG
   simp[this]
  ·rfl
theorem AR7 {b:Str->Option NameKind}:∀{a:List (Str×AH)} {m:Str->Option AH},(∀v,(x,v)∉a)->bindC b a m x=m x
 |[],_,_=>rfl
 |(n,v)::r,m,h=>by
  unfold bindC;rw[AR7 fun w c=>h w (AC _ c)];split
  ·rfl
  ·have:x≠n:=by rintro rfl;exact h v AG
   simp[this]
theorem AV3 {a:Str->Option NameKind}:∀{P:List Str} {vs:List AH} {i:Nat} {m:Str->Option AH},P.Nodup->P[i]?=some x->vs[i]?=some v->a x=some .local->
  bindL a (P.zip vs) m x=some v
 |[],_,_,_,_,h,_,_=>by simp at h
 |_::_,[],_,_,_,_,h,_=>by simp at h
 |p::P,w::vs,0,m,nd,h1,h2,hk=>by simp at h1 h2;subst h1;subst h2;show bindL a ((p,w)::P.zip vs) m p=_;unfold bindL;rw[AU4 fun v b=>(Am.mp nd).1 (EF b).1,AL hk];simp
 |p::P,w::vs,i+1,m,nd,h1,h2,hk=>by show bindL a ((p,w)::P.zip vs) m x=_;unfold bindL;exact AV3 (i:=i) (Am.mp nd).2 (by simpa using h1) (by simpa using h2) hk
theorem AQ0 {a:Str->Option NameKind}:∀{P:List Str} {vs:List AH} {i:Nat} {m:Str->Option AH},P.Nodup->P[i]?=some x->vs[i]?=some v->a x≠some .local->
  bindC a (P.zip vs) m x=some v
 |[],_,_,_,_,h,_,_=>by simp at h
 |_::_,[],_,_,_,_,h,_=>by simp at h
 |p::P,w::vs,0,m,nd,h1,h2,hk=>by simp at h1 h2;subst h1;subst h2;show bindC a ((p,w)::P.zip vs) m p=_;unfold bindC;rw[AR7 fun v b=>(Am.mp nd).1 (EF b).1,AD hk];simp
 |p::P,w::vs,i+1,m,nd,h1,h2,hk=>by show bindC a ((p,w)::P.zip vs) m x=_;unfold bindC;exact AQ0 (i:=i) (Am.mp nd).2 (by simpa using h1) (by simpa using h2) hk
noncomputable def start (N:List Str)(vs:List V):St:=vs.map some++List.replicate (N.length-vs.length) none
noncomputable def BQ4 (CX:CXT)(P:Af)(w:Ap)(K:AA)(mg:Str->Option AH)(base:BR)(N:List Str)(qual:Str)(scope:Scope)(f:AI)(cd:AH)(A:Around)(outer:List Env)(s:AW)(H:Hp)(E:XK):Cx where
 prog:=P
 w:=w
 K:=K
 mg:=mg
 base:=base
 A:=A.deeper (envOfC qual scope s.heap.objs.size f cd)
 N:=N
 s_0:=s
 H_0:=H
 env:=envOfC qual scope s.heap.objs.size f cd
 outer:=outer
 stack:=envOfC qual scope s.heap.objs.size f cd::outer
 ex:=[]
 calm:=true
 fn:=fun _=>true
 pn:=[]
 xe:=fun e s'=>wpAny (model P w) (A.deeper (envOfC qual scope s.heap.objs.size f cd)) (leaving (envOfC qual scope s.heap.objs.size f cd) e) (fun _ s''=>CX outer H s E e s'') (fun e' s''=>CX outer H s E e' s'') s'
theorem Ae6 {a:Scope}(h:a.names.lookup x=some .cell):∃c,(cellsFrom n a.names []).lookup x=some c:=by have q:=PySem.W.cellsFrom_some a.names n [] (.inl h);exact BU.mp q
theorem Ap5 {CX:CXT}{P:Af}{w:Ap}{K:AA}{mg:Str->Option AH}{base:BR}{N ps:List Str}{qual:Str}{scope:Scope}{f:AI}{cd:AH}{A:Around}{outer:List Env}{s s1:AW}{H:Hp}{E:XK}{us:List AH}{vs:List V}
  (S:B7 N ps scope) (hd:A.handled=none) (e0:Env0 P w K mg base A outer s H) (hl:vs.length=ps.length) (r:Vals vs us)
  (x:InCallC s s.heap.objs.size (bindL (envOfC qual scope s.heap.objs.size f cd).kindOf (ps.zip us) fun _=>none) (cellsFrom (s.heap.objs.size+1) scope.names []) (bindC (envOfC qual scope s.heap.objs.size f cd).kindOf (ps.zip us) fun _=>none) s1):
  Inv (BQ4 CX P w K mg base N qual scope f cd A outer s H E) [] (start N vs) H s1:=by
 have hpl:ps.length<=N.length:=by have:=Bh List.length S.pre;rw[Br]at this;omega
 obtain⟨h1,tk,rfl,hk⟩:=x.done;have noA:∀b:AI,b∉(BQ4 CX P w K mg base N qual scope f cd A outer s H E).ex:=fun b z=>absurd (show b∈([]:List AI)from z) (by simp);refine⟨⟨e0.mod,S.kind,rfl,rfl,AB _,fun y z c h1 h2=>?_,fun y hy=>?_,fun y c _ h=>?_,fun _=>hd,Around.frames_deeper e0.frames,.inr ⟨rfl,rfl⟩,fun b z=>absurd z (noA b),e0.bs,e0.bsz,fun b _ _=>noA b,fun b z=>absurd z (noA b),e0.funs,e0.frf⟩,
  rfl,e0.bare,Un.kept hk,⟨_,x.toInCall.ns,fun i y v h1 h2 h3=>?_⟩,fun y c h=>⟨_,x.cell y c h⟩,e0.hok.fresh (AB _),fun y c h=>?_,fun p hp=>absurd (show p∈([]:List (AI×Obj))from hp) (by simp),e0.hok.kept hk,?_⟩
 ·exact name_of_addr x.apart (BH h1) (BH h2)
 ·have hy:scope.names.lookup y=some .cell∨scope.names.lookup y=some .free:=hy;rcases hy with hy |hy
  ·exact Ae6 hy
  ·exact absurd rfl (S.nofree _ (BH hy))
 ·exact DX (x.above y c (BH h))
 ·have hi:i<vs.length:=by
   unfold start at h2;by_cases hi:i<vs.length
   ·exact hi
   ·rw[CW (by simpa using hi)]at h2;rw[List.getElem?_replicate]at h2;split at h2<;>cases h2
  have ha:vs[i]?=some v:=by
   unfold start at h2;rw[Ca (by simpa using hi),Aq]at h2;cases e:vs[i]? with
   |none=>rw[e]at h2;cases h2
   |some a=>rw[e]at h2;cases h2;rfl
  obtain⟨u,hu,rv⟩:=r.get ha;have hp:ps[i]?=some y:=by rw[←S.pre,List.getElem?_take_of_lt (by omega)];exact h1
  have ndP:ps.Nodup:=by rw[←S.pre];exact S.nd.sublist (List.take_sublist _ _)
  refine⟨u,rv,?_⟩;rcases S.par y (Az hp)with k |k
  ·exact .inl ⟨k,AV3 ndP hp hu k⟩
  ·obtain⟨c,e⟩:=Ae6 (n:=s.heap.objs.size+1) k;refine .inr ⟨.inl k,c,e,?_⟩;have q:=x.cell y c e;rw[AQ0 ndP hp hu (by show scope.names.lookup y≠_;rw[k];decide)]at q;exact q
 ·exact e0.hok.fresh (DX (x.above y c (BH h)))
 ·unfold start;show _=N.length;rw[AO,AJ,CK];omega
theorem Bt5 {CX:CXT}{P:Af}{w:Ap}{K:AA}{mg:Str->Option AH}{base:BR}{k:Nat}{f:AI}{name qual:Str}{params:Arguments}{body:List Stmt}{scope:Scope}{dV kV doc pm cdv ct oc:AH}{an od:Option AI}
  {osl:Array (Option AH)} {N ps:List Str} {sp:Sp} (lk:K.lookup f=some ⟨oc,od,.func (fnOf name qual params body scope dV kV doc pm an cdv ct),osl⟩) (hcd:codeIn K cdv qual=true) (S:B7 N ps scope)
  (len:∀vs H Q E,sp vs H Q E->vs.length=ps.length)
  (hbody:∀(A:Around) (outer:List Env) (s:AW) (H:Hp) (vs:List V) (Q:VK) (E:XK),Room k (A.deeper (envOfC qual scope s.heap.objs.size f cdv))->sp vs H Q E->
   ∃t,PSs (BQ4 CX P w K mg base N qual scope f cdv A outer s H E) body t/\t {nx:=fun _ H'=>Q .non H',rt:=Q} (start N vs) H):
  D6 P w K mg base CX (k+1) f (fnOf name qual params body scope dV kV doc pm an cdv ct) ps sp:=by
 refine⟨len,fun A outer s H args us vs Q E hr e0 hb r hsp=>?_⟩;have hl:=len _ _ _ _ hsp;have KX:K.In s.heap:=e0.mod.kin.keeps fun b o e=>(e0.bs b o e).1;have lim:s.heap.NoLimit:=e0.mod.nolimit.keeps fun b o e=>(e0.bs b o e).1;have hkind:∀y∈ps.zip us,scope.names.lookup y.1=some .local∨(scope.names.lookup y.1=some .cell/\((cellsFrom (s.heap.objs.size+1) scope.names []).lookup y.1).isSome=true):=fun⟨n,v⟩ hy=>by
  rcases S.par n (EF hy).1 with q |q
  ·exact .inl q
  ·exact .inr ⟨q,PySem.W.cellsFrom_some _ _ _ (.inl q)⟩
 refine codeAny_call_function hr.depth (KX _ _ lk) rfl S.co S.gen rfl (PySem.W.codeRec_of KX hcd) (hb _ _ _ _ ?_);refine wpAny_newFunctionEnv_cells S.kind hkind fun env he s1 x=>?_;subst he;refine⟨lim.keeps x.toInCall.keep,codeAny_func ?_⟩;obtain⟨t,ht,hq⟩:=hbody A outer s H vs Q E (hr.deeper _) hsp;have I:Inv (BQ4 CX P w K mg base N qual scope f cdv A outer s H E) [] (start N vs) H s1:=Ap5 S hr.hd e0 hl r x;refine CC (ht [] s1 (start N vs) H _ I hq) (fun fl s' hs=>?_) fun e s' hs=>hs;have fin:∀{σ':St} {H':Hp} {v:V} {u:AH},Inv (BQ4 CX P w K mg base N qual scope f cdv A outer s H E) [] σ' H' s'->RelV v u->Q v H'->CE outer P w H s Q u s':=
  fun {σ' H' v u} J rv q=>⟨v,H',J.os,J.bare,J.base,J.hok,rv,q⟩
 cases fl with
 |ret u=>obtain⟨v,σ',H',J,rv,q⟩:=hs;exact fin J rv q
 |next=>obtain⟨σ',H',J,q⟩:=hs;exact fin (v:=V.non) (u:=Value.none) J rfl q
 |brk=>obtain⟨_,_,_,q⟩:=hs;exact False.elim q
 |cont=>obtain⟨_,_,_,q⟩:=hs;exact False.elim q
section
variable {X:Cx} {x:Str} {p pos:Pos} {e:Expr} {es:List Expr} {t:TA} {id T:String} {r:List V->Hp->VK->Prop}
def tCB (r:List V->Hp->VK->Prop)(t:TA):TE:=fun a H Q=>t a H fun b c=>r b c Q
theorem F1 (f:AW6 X (.builtin id) r)(g:Gl X x)(i:X.mg x=none)(j:bootBuiltins x=some (.builtin id))(k:PA X (e::es) t)(l:x≠"__name__":=by decide)(b:(x==("__debug__":Str))=false:=by decide)
  (m:starEach (e::es) X.env=(false,eval e X.env)::starEach es X.env:=by rfl) (c:(backTo pos (starEach es X.env)).any (·.1)=false:=by rfl):PE X (.Call (.Name x p) (e::es) [] pos) (tCB r t):=by
 intro a s d H Q I h;refine CQ (AH6 I g i j ?_ l b);exact Dy (thn (k pos a s d H _ I h) fun n o ⟨q,u,v,w,y⟩=>f a o d u q n Q v w y) m c
theorem AC1 (f:AW6 X (.type T) r)(g:Gl X x)(i:X.mg x=none)(j:bootBuiltins x=some (.type T))(k:PA X (e::es) t)(l:x≠"__name__":=by decide)(b:(x==("__debug__":Str))=false:=by decide)
  (m:starEach (e::es) X.env=(false,eval e X.env)::starEach es X.env:=by rfl) (c:(backTo pos (starEach es X.env)).any (·.1)=false:=by rfl):PE X (.Call (.Name x p) (e::es) [] pos) (tCB r t):=by
 intro a s d H Q I h;refine CQ (AH6 I g i j ?_ l b);exact DE (thn (k pos a s d H _ I h) fun n o ⟨q,u,v,w,y⟩=>f a o d u q n Q v w y) m c
end
end L2
namespace HT
open PySem PyProof.Rows
section
open PySem.SeqAt
open PySem.AutoSeq1 (wpAny_loadPart')
open PySem.MeetsSeq PySem.MeetsSeq2 PySem.MeetsSeq3
end
section
variable {prog:Af} {w:Ap} {A:Around} {E:AH->AW->Prop} {s:AW}
noncomputable def sIx (n d:Nat):Option Int->Nat
 |none=>d
 |some v=>if v<0 then(v+(n:Int)).toNat else min v.toNat n
theorem sIx_none (n d:Nat):sIx n d none=d:=rfl
theorem sIx_nat (n d k:Nat):sIx n d (some (k:Int))=min k n:=by show(if(k:Int)<0 then((k:Int)+(n:Int)).toNat else min (k:Int).toNat n)=min k n;rw[AD (by omega),Int.toNat_natCast]
end
end HT
namespace L2
open PySem PySem.Spec PyProof.Rows
noncomputable abbrev TO:=St->Hp->(Option Int->Hp->Prop)->Prop
def PO (X:Cx)(e:Option Expr)(t:TO):Prop:=
 ∀(a:List (AI×Obj)) (s:AW) (b:St) (H:Hp) (Q:Option Int->Hp->Prop),Inv X a b H s->t b H Q->
  wpAny (model X.prog X.w) X.A (evalPart e X.env) (fun u d=>∃o c,Inv X a b c d/\IsPart u o/\Q o c) X.xe s
def BP5:TO:=fun _ H Q=>Q none H
inductive BG0 (Q:Option Int->Hp->Prop) (x:V) (H1:Hp):Prop
 |mk:∀i,x=.int i->Q (some i) H1->BG0 Q x H1
def Bt9 (t:TE):TO:=fun a H Q=>t a H fun x b=>BG0 Q x b
section
variable {X:Cx} {e:Expr} {te:TE} {lo hi:Option Expr} {tl th:TO} {pos p2:Pos}
theorem AN7:PO X none BP5:=by intro a s b H Q I h;rw[evalPart_none];exact Au ⟨none,H,I,.none,h⟩
theorem W9 (h:PE X e te):PO X (some e) (Bt9 te):=by intro a s b H Q I c;rw[evalPart_some];refine thn (h a s b H _ I c) fun u k ⟨x,d,f,g,j⟩=>?_;obtain⟨i,rfl,q⟩:=j;obtain⟨t,rfl⟩:=g;exact⟨some i,d,f,.int i t,q⟩
def SlR (X:Cx)(r:V->Option Int->Option Int->Hp->VK->Prop):Prop:=
 ∀(a:List (AI×Obj)) (s:AW) (b:St) (H:Hp) (x:V) (v c d:AH) (e f:Option Int) (g:AI) (Q:VK),Inv X a b H s->RelV x v->s.heap.IsSliceOf g c d .none->IsPart c e->IsPart d f->r x e f H Q->
  ∃T h,typeLookup (.type T) "__getitem__"=pure (some (.builtin h))/\s.TypeIs v T/\wpAny (model X.prog X.w) X.A (getItem v (.ref g)) (EP X a b Q) X.xe s
def tSl (r:V->Option Int->Option Int->Hp->VK->Prop)(b:TE)(c d:TO):TE:=fun a H Q=>b a H fun x e=>c a e fun l f=>d a f fun u g=>r x l u g Q
theorem Y6 (j:SlR X r)(k:PE X e te)(m:PO X lo tl)(n:PO X hi th):PE X (.Subscript e (.Slice lo hi none p2) pos) (tSl r te tl th):=by intro a s d H Q I h;refine Subscript_ (thn (k a s d H _ I h) fun v o ⟨x,p,t,y,z⟩=>?_);refine wpAny_Slice (thn (m a o d p _ t z) fun f B ⟨l,C,D,E,F⟩=>thn (n a B d C _ D F) fun g c ⟨u,i,G,J,K⟩=>?_);rw[evalPart_none];refine Au ?_;have L:Inv X a d i {c with heap:=c.heap.push {cls:=.type "slice",data:=.fields #[f,g,.none]}}:=G.kept (t':=c.toks) fun b P q=>Ak _ q;obtain⟨T,R,M,N,O⟩:=j a {c with heap:=c.heap.push {cls:=.type "slice",data:=.fields #[f,g,.none]}} d i x v f g l u c.heap.objs.size Q L y (Heap.IsSliceOf.new ..) E J K;show wpAny (model X.prog X.w) X.A (subscriptTail e (.Slice lo hi none p2) v (.ref c.heap.objs.size)) (EP X a d Q) X.xe {c with heap:=c.heap.push {cls:=.type "slice",data:=.fields #[f,g,.none]}};exact tail_any (ops:=[.ref c.heap.objs.size,v]) N M O (by with_unfolding_all rfl)
noncomputable def AU2 (xs:List V)(a b:Option Int):List V:=(xs.drop (HT.sIx xs.length 0 a)).take (HT.sIx xs.length xs.length b-HT.sIx xs.length 0 a)
theorem AW4 (xs:List V)(a b:Option Int):(AU2 xs a b).length<=xs.length:=by unfold AU2;rw[Br,BF];omega
end
noncomputable def ixN (n:Nat)(i:Int):Option Nat:=if 0<=i then(if i<n then some i.toNat else none)else if -(n:Int)<=i then some (i+n).toNat else none
noncomputable def atI {a:Type}(xs:List a)(i:Int):Option a:=(ixN xs.length i).bind fun j=>xs[j]?
theorem Ar3 (h:ixN n i=some j):seqIndex? i n=some j/\j<n/\-(n:Int)<=i/\i<n:=by
 unfold ixN at h;by_cases b:0<=i
 ·rw[AL b]at h;by_cases a:i<n
  ·rw[AL a]at h;have e:i.toNat=j:=Aa h;exact⟨by rw[seqIndex_of b a,e],by omega,by omega,a⟩
  ·rw[AD a]at h;cases h
 ·rw[AD b]at h;by_cases a: -(n:Int)<=i
  ·rw[AL a]at h;have e:(i+n).toNat=j:=Aa h;exact⟨by rw[seqIndex_neg (by omega) a,e],by omega,a,by omega⟩
  ·rw[AD a]at h;cases h
theorem AY1 (h:atI xs i=some v):∃j,seqIndex? i xs.length=some j/\xs[j]?=some v/\j<xs.length/\-(xs.length:Int)<=i/\i<xs.length:=by
 unfold atI at h;cases e:ixN xs.length i with
 |none=>rw[e]at h;cases h
 |some j=>rw[e]at h;obtain⟨a,b,c,d⟩:=Ar3 e;exact⟨j,a,h,b,c,d⟩
theorem E9 {a:Type}{xs:List a}{j:Nat}{v:a}(h:xs[j]?=some v):atI xs (j:Int)=some v:=by
 have b:j<xs.length:=(Ad.mp h).1;have e:ixN xs.length (j:Int)=some j:=by unfold ixN;rw[AL (by omega),AL (by omega)];simp
 unfold atI;rw[e];exact h
theorem Ah8 {a:Type}(xs:List a)(v:a):atI (xs++[v]) (-1)=some v:=by
 have b:(xs++[v]).length=xs.length+1:=by simp
 have e:ixN (xs++[v]).length (-1)=some xs.length:=by unfold ixN;rw[b,AD (by decide),AL (by omega)];congr 1;omega
 unfold atI;rw[e];show(xs++[v])[xs.length]?=some v;simp
def BW7 (b:Expr):Prop:=∀o i,subscripted b false o i=operate [o,i] (getItem o i)
def IxR (X:Cx)(r:R2):Prop:=
 ∀(c a:Expr) (b:List (AI×Obj)) (s:AW) (d:St) (H:Hp) (x y:V) (v u:AH) (Q:VK),Inv X b d H s->RelV x v->RelV y u->r x y H Q->
  subscripted a false v u=operate [v,u] (getItem v u)->wpAny (model X.prog X.w) X.A (subscriptTail c a v u) (EP X b d Q) X.xe s
def MtR (X:Cx)(id:String)(r:V->List V->Hp->VK->Prop):Prop:=
 ∀(a:List (AI×Obj)) (s:AW) (b:St) (H:Hp) (x:V) (c:List V) (v:AH) (d:List AH) (Q:VK),Inv X a b H s->RelV x v->Vals c d->r x c H Q->
  wpAny (model X.prog X.w) X.A (call (.builtin id) (v::d)) (EP X a b Q) X.xe s
section
variable {X:Cx} {a b:Expr} {ta tb:TE} {pos:Pos}
theorem G7 (d:IxR X r)(e:PE X a ta)(f:PE X b tb)(g:BW7 b):PE X (.Subscript a b pos) (tOp r ta tb):=by intro c s i H Q I h;exact Subscript_ (Bt0 e f I h fun v u j x y k l m n q=>d a b c j i k x y v u Q l m n q (g _ _))
inductive Bc2 (K:AA) (x:V) (y:V) (H:Hp) (Q:VK):Prop
 |mk:∀p xs i v,x=.ref p->y=.int i->SqL K H p xs->atI xs i=some v->Q v H->Bc2 K x y H Q
def Bl5 (K:AA):R2:=fun x y H Q=>Bc2 K x y H Q
inductive Bc5 (K:AA) (x:V) (y:V) (H:Hp) (Q:VK):Prop
 |mk:∀p xs i v,x=.ref p->y=.int i->SqT K H p xs->atI xs i=some v->Q v H->Bc5 K x y H Q
def BG7 (K:AA):R2:=fun x y H Q=>Bc5 K x y H Q
inductive Bb1 (x:V) (y:V) (H:Hp) (Q:VK):Prop
 |mk:∀z i c,x=.str z->y=.int i->z.length<=sizeLine->atI z.cps.toList i=some c->Q (.str ⟨#[c]⟩) H->Bb1 x y H Q
def B00:R2:=fun x y H Q=>Bb1 x y H Q
theorem D4:IxR X (Bl5 X.K):=by
 intro d e a s m H x y v u Q I B C h n;obtain⟨p,N,i,z,rfl,rfl,D,E,q⟩:=h;cases B;obtain⟨t,rfl⟩:=C;obtain⟨f,r,g,O⟩:=I.list D;obtain⟨j,c,F,P,G,J⟩:=AY1 E;obtain⟨w,o,k⟩:=r.get F;have L:=r.length;have R:=AI4;have b:EP X a m Q w s:=⟨z,H,I,k,q⟩;by_cases A:0<=i
 ·have l:i.toNat=j:=by rw[seqIndex_of A J]at c;exact Aa c
  exact item_listR g.isList A (by omega) (by rw[l];simpa using o) b n
 ·have l:(i+(f.toArray.size:Int)).toNat=j:=by rw[seqIndex_neg (by omega) G]at c;rw[Ae,←L];exact Aa c
  exact subscriptTail_builtinR (x:=w) g.isList.typeIs slot_list_getitem.lookup
   (wpAny_getItem_list_neg (Q:=fun r M=>r=w/\EP X a m Q r M) g.isList (by omega) (by rw[Ae]<;>omega) (by omega) (by rw[l];simpa using o) ⟨rfl,b⟩) n
theorem AB4:IxR X (BG7 X.K):=by
 intro b c a s f H x y v u Q I k l h m;obtain⟨p,G,i,z,rfl,rfl,n,o,q⟩:=h;cases k;obtain⟨t,rfl⟩:=l;obtain⟨A,r,g,J⟩:=I.tuple n;obtain⟨j,B,C,L,M,N⟩:=AY1 o;obtain⟨w,D,d⟩:=r.get C;have E:=r.length;have O:=AI4;have e:EP X a f Q w s:=⟨z,H,I,d,q⟩;exact subscriptTail_builtinR (x:=w) g.typeIs slot_tuple_getitem.lookup
  (getItem_tuple (j:=j) (Q:=fun r F=>r=w/\EP X a f Q r F) g (by omega) (by omega) (by rw[Ae,←E];exact B) (by simpa using D) ⟨rfl,e⟩) m
theorem Bf2:IxR X B00:=by
 intro a b d s A H x y v u Q I f g h k;obtain⟨z,i,c,rfl,rfl,B,l,q⟩:=h;obtain⟨t,rfl⟩:=f;obtain⟨C,rfl⟩:=g;obtain⟨j,e,m,D,n,o⟩:=AY1 l;have p:z.cps.toList.length=z.length:=by simp[Str.length]
 rw[p]at e n o;have E:=AI4;exact tail_any (typeIs_str s z t) slot_str_getitem.lookup (getItem_str (c:=c) (by
  have r:decide (i < -(2 ^ 63:Int))=false:=AX (by omega);have w:decide (i≥2 ^ 63)=false:=AX (by omega);rw[r,w,Bool.or_false]) (by rw[e];simpa using m) ⟨.str ⟨#[c]⟩,H,I.tok _,⟨_,rfl⟩,q⟩) k
theorem Al6 (a:List AH)(n j:Nat)(u:AH):Obj.mapSeq (·.setIfInBounds j u) {cls:=.type "list",data:=.seq a.toArray n}={cls:=.type "list",data:=.seq (a.set j u).toArray n}:=by simp[Obj.mapSeq]
theorem Inv.lst (I:Inv X pins σ H s)(h:H p=some (.lst xs)):
  ∃(a:List AH) (n:Nat),Vals xs a/\s.heap.get? p=some {cls:=.type "list",data:=.seq a.toArray n}/\xs.length<=sizeLine:=by
 obtain⟨z,a,n,r,e⟩:=I.hok p _ h;exact⟨a,n,r,e,z⟩
theorem Inv.lstUpd {s:AW}{xs ys:List V}{a its':List AH}{f:Obj->Obj}(I:Inv X pins σ H s)(h:H p=some (.lst xs))
  (d:s.heap.get? p=some {cls:=.type "list",data:=.seq a.toArray n}) (c:f {cls:=.type "list",data:=.seq a.toArray n}={cls:=.type "list",data:=.seq its'.toArray n'}) (r:Vals ys its') (hz:ys.length<=sizeLine) (t:Nat):
  Inv X pins σ (upd H p (.lst ys)) {s with heap:=s.heap.update p f,toks:=t}:=by
 have e:(s.heap.update p f).get? p=some {cls:=.type "list",data:=.seq its'.toArray n'}:=by rw[Dm f d (by rw[c]<;>rfl),c]
 refine I.write (x:=p) (e:=p) (by rw[h];trivial) (.inl rfl) (fun b u g q=>(Heap.get?_update_other _ _ (BD g)).trans q) ⟨_,e⟩ ?_;exact⟨hz,its',n',r,e⟩
inductive BG1 (o:V) (i:V) (v:V) (H:Hp) (Q:Hp->Prop):Prop
 |mk:∀p xs k j,o=.ref p->i=.int k->H p=some (.lst xs)->ixN xs.length k=some j->Q (upd H p (.lst (xs.set j v)))->BG1 o i v H Q
noncomputable def Bt2:V->V->V->Hp->(Hp->Prop)->Prop:=fun o i v H Q=>BG1 o i v H Q
theorem AA1:Bx0 X Bt2:=by
 intro a s y H o i v F G u Q I z A B h;obtain⟨p,C,k,j,rfl,rfl,g,D,q⟩:=h;cases z;obtain⟨t,rfl⟩:=A;obtain⟨b,n,r,d,E⟩:=I.lst g;obtain⟨c,J,l,m⟩:=Ar3 D;have e:=r.length;have K:=AI4;have w:Inv X a y (upd H p (.lst (C.set j v))) {s with heap:=s.heap.update p (Obj.mapSeq (·.setIfInBounds j u))}:=
  I.lstUpd g d (Al6 b n j u) (r.set B j) (by rw[EG];exact E) s.toks
 by_cases x:0<=k
 ·have f:k.toNat=j:=by rw[seqIndex_of x m]at c;exact Aa c
  exact PySem.W.ki_setAt d x (by omega) (by rw[Ae,←e];exact m) (by rw[f];exact⟨_,w,q⟩)
 ·have f:(k+(b.toArray.size:Int)).toNat=j:=by rw[seqIndex_neg (by omega) l]at c;rw[Ae,←e];exact Aa c
  exact PySem.W.ki_setBack d (by omega) (by rw[Ae,←e];exact l) (by omega) (by rw[f];exact⟨_,w,q⟩)
theorem AS1 (a b:Option Int)(n:Nat):(sliceBounds a b none n).1=((HT.sIx n 0 a:Nat):Int)/\(sliceBounds a b none n).2.1=((HT.sIx n n b:Nat):Int)/\(sliceBounds a b none n).2.2=1:=by
 refine⟨?_,?_,rfl⟩
 ·cases a with
  |none=>simp[sliceBounds,HT.sIx]
  |some i=>
   simp only[sliceBounds,HT.sIx,DR,show(1:Int)>0 by decide,EI];by_cases h:i<0
   ·simp only[h,EI]<;>omega
   ·simp only[h,EJ]<;>omega
 ·cases b with
  |none=>simp[sliceBounds,HT.sIx]
  |some i=>
   simp only[sliceBounds,HT.sIx,DR,show(1:Int)>0 by decide,EI];by_cases h:i<0
   ·simp only[h,EI]<;>omega
   ·simp only[h,EJ]<;>omega
theorem AJ6 (a:List AH)(b c:Option Int):slicePick a.toArray b c none=((a.drop (HT.sIx a.length 0 b)).take (HT.sIx a.length a.length c-HT.sIx a.length 0 b)).toArray:=by obtain⟨d,e,f⟩:=AS1 b c a.toArray.size;unfold slicePick;rw[d,e,f];simp only[sliceRange_one,pick_run,Ae]<;>rfl
inductive Bm7 (K:AA) (x:V) (lo:Option Int) (hi:Option Int) (H:Hp) (Q:VK):Prop
 |mk:∀a xs,x=.ref a->SqL K H a xs->(∀p,H p=none->Q (.ref p) (upd H p (.lst (AU2 xs lo hi))))->Bm7 K x lo hi H Q
noncomputable def B17 (K:AA):V->Option Int->Option Int->Hp->VK->Prop:=fun x a b H Q=>Bm7 K x a b H Q
theorem p7:SlR X (B17 X.K):=by intro g s u H x v w y e f z Q I j k l m h;obtain⟨a,c,rfl,n,q⟩:=h;cases j;obtain⟨p,r,i,t⟩:=I.list n;have d:=r.length;refine⟨"list",_,slot_list_getitem.lookup,i.isList.typeIs,?_⟩;refine wpAny_getItem_list_slice i.isList k l m .none (by simp) ?_ (by rw[Ae]<;>omega);rw[AJ6,←d];refine⟨.ref s.heap.objs.size,_,I.laid (t':=s.toks) (o:=.lst (AU2 c e f)) (fun b A q=>Ak _ q) (AB _) ?_,rfl,q _ (I.hok.fresh (AB _))⟩;exact⟨BV (AW4 c e f) t,_,0,(r.drop (HT.sIx c.length 0 e)).take (HT.sIx c.length c.length f-HT.sIx c.length 0 e),An _ rfl⟩
noncomputable def T5:V->Bool
 |.non=>true
 |.bl _=>true
 |.int _=>true
 |.str _=>true
 |_=>false
noncomputable def eqV:V->V->Bool
 |.non,.non=>true
 |.bl a,.bl b=>a==b
 |.bl a,.int b=>(if a then 1 else 0)==b
 |.int a,.bl b=>a==(if b then 1 else 0)
 |.int a,.int b=>a==b
 |.str a,.str b=>a==b
 |_,_=>false
theorem Bd1 (e:RelV y u)(c:RelV x v)(g:T5 y=true)(f:T5 x=true):SeqAt.EqAt A s u v (eqV y x):=by
 cases y with
 |non=>
  cases e;cases x with
  |non=>cases c;exact SeqAt.EqAt.same _
  |bl b=>cases c;exact SeqAt.EqAt.none_bool b
  |int b=>obtain⟨t,rfl⟩:=c;exact SeqAt.EqAt.none_int b t
  |str b=>obtain⟨t,rfl⟩:=c;exact SeqAt.EqAt.none_str b t
  |_=>exact absurd (show false=true from f) Ai
 |bl a=>
  cases e;cases x with
  |non=>cases c;exact SeqAt.EqAt.bool_none a
  |bl b=>cases c;exact SeqAt.EqAt.bool_bool a b
  |int b=>obtain⟨t,rfl⟩:=c;exact SeqAt.EqAt.bool_int a b t
  |str b=>obtain⟨t,rfl⟩:=c;exact SeqAt.EqAt.bool_str a b t
  |_=>exact absurd (show false=true from f) Ai
 |int a=>
  obtain⟨d,rfl⟩:=e;cases x with
  |non=>cases c;exact SeqAt.EqAt.int_none a d
  |bl b=>cases c;exact SeqAt.EqAt.int_bool a d b
  |int b=>obtain⟨t,rfl⟩:=c;exact SeqAt.EqAt.int_int a d b t
  |str b=>obtain⟨t,rfl⟩:=c;exact SeqAt.EqAt.int_str a d b t
  |_=>exact absurd (show false=true from f) Ai
 |str a=>
  obtain⟨d,rfl⟩:=e;cases x with
  |non=>cases c;exact SeqAt.EqAt.str_none a d
  |bl b=>cases c;exact SeqAt.EqAt.str_bool a d b
  |int b=>obtain⟨t,rfl⟩:=c;exact SeqAt.EqAt.str_int a d b t
  |str b=>obtain⟨t,rfl⟩:=c;exact SeqAt.EqAt.str_str a d b t
  |_=>exact absurd (show false=true from f) Ai
 |_=>exact absurd (show false=true from g) Ai
noncomputable def eqU (x:V)(u:AH):Bool:=match u with
 |.none=>eqV .non x
 |.bool b=>eqV (.bl b) x
 |.int i _=>eqV (.int i) x
 |.str z _=>eqV (.str z) x
 |_=>false
theorem Af5 (r:RelV y u)(f:T5 y=true):eqU x u=eqV y x:=by
 cases y with
 |non=>cases r;rfl
 |bl b=>cases r;rfl
 |int i=>obtain⟨t,rfl⟩:=r;rfl
 |str z=>obtain⟨t,rfl⟩:=r;rfl
 |_=>exact absurd (show false=true from f) Ai
theorem AC6:∀{xs:List V} {us:List AH},Vals xs us->xs.all T5=true->us.any (eqU x)=xs.any fun y=>eqV y x
 |_,_,.nil,_=>rfl
 |y::xs,u::us,.cons r t,f=>by rw[Bu,Ar]at f;rw[Ci,Ci,Af5 r f.1,AC6 t f.2]
theorem Y8 (b:RelV x v)(c:T5 x=true):∀{xs:List V} {us:List AH},Vals xs us->xs.all T5=true->∀u∈us,SeqAt.EqAt A s u v (eqU x u)
 |_,_,.nil,_=>fun u a=>by cases a
 |y::xs,u::us,.cons r t,f=>fun d a=>by
  rw[Bu,Ar]at f;rcases AK.mp a with rfl |a
  ·rw[Af5 r f.1];exact Bd1 r b f.1 c
  ·exact Y8 b c t f.2 d a
noncomputable def inV (x:V)(xs:List V):Bool:=xs.any fun y=>eqV y x
inductive Bx1 (K:AA) (neg:Bool) (x:V) (y:V) (H:Hp) (Q:VK):Prop
 |mk:∀p xs,y=.ref p->((SqL K H p xs∨SqT K H p xs))->T5 x=true->xs.all T5=true->(Q (.bl (if neg then !inV x xs else inV x xs)) H)->Bx1 K neg x y H Q
def rIn (K:AA)(a:Bool):R2:=fun x y H Q=>Bx1 K a x y H Q
theorem L9:OpR X (compareOp .In) (rIn X.K false):=by
 intro f s l H x y v u Q I g j h;obtain⟨p,m,rfl,b,i,c,q⟩:=h;cases j;rcases b with b |b
 ·obtain⟨a,r,d,k⟩:=I.list b;refine SeqAt.in_listAt (eqU x) d.isList (fun w e=>Y8 g i r c w (by simpa using e)) ⟨.bl _,H,I,rfl,?_⟩;rw[show a.toArray.any (eqU x)=a.any (eqU x) by simp,AC6 r c];exact q
 ·obtain⟨a,r,d,k⟩:=I.tuple b;refine SeqAt.in_tupleAt (eqU x) d (fun w e=>Y8 g i r c w (by simpa using e)) ⟨.bl _,H,I,rfl,?_⟩;rw[show a.toArray.any (eqU x)=a.any (eqU x) by simp,AC6 r c];exact q
theorem x5:OpR X (compareOp .NotIn) (rIn X.K true):=by
 intro f s l H x y v u Q I g j h;obtain⟨p,m,rfl,b,i,c,q⟩:=h;cases j;rcases b with b |b
 ·obtain⟨a,r,d,k⟩:=I.list b;refine SeqAt.notIn_listAt (eqU x) d.isList (fun w e=>Y8 g i r c w (by simpa using e)) ⟨.bl _,H,I,rfl,?_⟩;rw[show a.toArray.any (eqU x)=a.any (eqU x) by simp,AC6 r c];exact q
 ·obtain⟨a,r,d,k⟩:=I.tuple b;refine SeqAt.notIn_tupleAt (eqU x) d (fun w e=>Y8 g i r c w (by simpa using e)) ⟨.bl _,H,I,rfl,?_⟩;rw[show a.toArray.any (eqU x)=a.any (eqU x) by simp,AC6 r c];exact q
theorem C5:AW6 X (.builtin "len") (fun xs H Q=>∃p ys,xs=[.ref p]/\(SqL X.K H p ys∨SqT X.K H p ys)/\Q (.int ys.length) H):=by
 intro f s j H xs k Q I r h;obtain⟨p,ys,rfl,b,q⟩:=h;obtain⟨u,rfl,g⟩:=Au4 r;cases g;have l:=AI4;rcases b with b |b
 ·obtain⟨c,d,e,i⟩:=I.list b;have a:=d.length;exact Calls.call_len_list e.isList (by simp only[Ae]<;>omega) ⟨.int ys.length,H,I.tok _,⟨s.toks+1,by rw[Ae,a]⟩,q⟩
 ·obtain⟨c,d,e,i⟩:=I.tuple b;have a:=d.length;exact len_tuple e (by simp only[Ae]<;>omega) ⟨.int ys.length,H,I.tok _,⟨s.toks+1,by rw[Ae,a]⟩,q⟩
theorem AU1:AW6 X (.type "list") (fun xs H Q=>∃p ys,xs=[.ref p]/\(SqL X.K H p ys∨SqT X.K H p ys)/\∀l,H l=none->Q (.ref l) (upd H l (.lst ys))):=by
 intro g s B H xs D Q I r h;obtain⟨p,ys,rfl,i,q⟩:=h;obtain⟨u,rfl,C⟩:=Au4 r;cases C;have j:∀(a:List AH),Vals ys a->ys.length<=sizeLine->∀(c:BR) (d:Nat),(∀b A,s.heap.get? b=some A->c.get? b=some A)->
   c.get? s.heap.objs.size=some {cls:=.type "list",dict:=none,data:=.seq a.toArray d,slots:=#[]}->EP X g B Q (.ref s.heap.objs.size) {s with heap:=c}:=fun a f k c d m e=>
  ⟨.ref s.heap.objs.size,_,I.laid (t':=s.toks) m (AB _) (show ObjOk X.prog X.w _ c _ (.lst ys)from⟨k,a,d,f,e⟩),rfl,q _ (I.hok.fresh (AB _))⟩
 rcases i with i |i
 ·obtain⟨a,f,v,k⟩:=I.list i;have t:=f.length;obtain⟨o,x,y,n,z⟩:=v.isList;exact call_list_seq p (.inl rfl) x y z (fun c d m e=>j a f k c d m e) (by simp only[Ae]<;>omega)
 ·obtain⟨a,f,v,k⟩:=I.tuple i;have t:=f.length;obtain⟨o,x,y,n,z⟩:=v;exact call_list_seq p (.inr rfl) x y z (fun c d m e=>j a f k c d m e) (by simp only[Ae]<;>omega)
theorem AP1:AW6 X (.type "tuple") (fun xs H Q=>∃p ys,xs=[.ref p]/\((SqL X.K H p ys/\∀l,H l=none->Q (.ref l) (upd H l (.tup ys)))∨(SqT X.K H p ys/\Q (.ref p) H))):=by
 intro a s j H xs y Q I r h;obtain⟨p,ys,rfl,h⟩:=h;obtain⟨u,rfl,t⟩:=Au4 r;cases t;rcases h with ⟨f,q⟩ |⟨f,q⟩
 ·obtain⟨c,g,i,k⟩:=I.list f;have m:=g.length;refine call_tuple_list i.isList (fun d v=>?_) (by simp only[Ae]<;>omega);have n:Inv X a j H {s with heap:=d}:=I.kept (t':=s.toks) v;have x:Inv X a j (upd H d.objs.size (.tup ys)) {s with heap:=d.push {cls:=.type "tuple",data:=.seq c.toArray}}:=
   n.laid (t':=s.toks) (fun b o e=>Ak _ e) (AB _) (show ObjOk X.prog X.w _ _ _ (.tup ys)from⟨k,c,g,IsTup.new _ _⟩)
  exact⟨.ref d.objs.size,_,x,rfl,q _ (n.hok.fresh (AB _))⟩
 ·obtain⟨c,g,i,k⟩:=I.tuple f;exact call_tuple_same i ⟨.ref p,H,I,rfl,q⟩
def tyV (K:AA)(T:String)(x:V)(H:Hp):Prop:=match x with
 |.str _=>T="str"
 |.int _=>T="int"
 |.ref p=>(T="list"/\∃b,SqL K H p b)∨(T="tuple"/\∃o,K.lookup p=some o/\o.cls=.type "tuple"/\o.dict=none)∨
   (T="dict"/\((∃a,H p=some (.dK a))∨∃a,H p=some (.dT a)))∨(T="set"/\∃S n,H p=some (.set S n))
 |_=>False
theorem BH1 (I:Inv X pins σ H s)(r:RelV x v)(f:tyV X.K T x H):
  s.TypeIs v T/\∀a,v=.ref a->∃k,s.heap.get? a=some k/\k.dict=none:=by
 cases x with
 |str z=>obtain⟨t,rfl⟩:=r;cases(show T="str" from f);exact⟨typeIs_str s z t,fun _ e=>nomatch e⟩
 |int i=>obtain⟨t,rfl⟩:=r;cases(show T="int" from f);exact⟨typeIs_int s i t,fun _ e=>nomatch e⟩
 |ref p=>
  cases r;rcases f with ⟨rfl,w,m⟩ |⟨rfl,o,b,q,g⟩ |⟨rfl,b⟩ |⟨rfl,S,n,b⟩
  ·obtain⟨u,_,l,_⟩:=I.list m;refine⟨l.isList.typeIs,fun a e=>?_⟩;cases e;obtain⟨o,n,e,c,g,_⟩:=l;exact⟨o,e,g⟩
  ·refine⟨⟨o,I.kIn p o b,q⟩,fun a e=>?_⟩;cases e;exact⟨o,I.kIn _ o b,g⟩
  ·have z:∃o,s.heap.get? p=some o/\o.ExactDict:=by
    rcases b with ⟨h,b⟩ |⟨h,b⟩
    ·obtain⟨_,_,_,_,o,_,_,e,d,_⟩:=I.hok p _ b;exact⟨o,e,d⟩
    ·obtain⟨_,_,_,_,o,_,_,e,d,_⟩:=I.hok p _ b;exact⟨o,e,d⟩
   obtain⟨o,e,d⟩:=z;refine⟨⟨o,e,d.1⟩,fun a j=>?_⟩;cases j;exact⟨o,e,d.2.1⟩
  ·obtain⟨o,_,_,_,e,d,_⟩:=I.hok p _ b;refine⟨⟨o,e,d.1⟩,fun a j=>?_⟩;cases j;exact⟨o,e,d.2.1⟩
 |_=>exact False.elim f
def B15 (K:AA)(T:String)(r:V->List V->Hp->VK->Prop)(b:TE):TE:=fun c H Q=>b c H fun x a=>tyV K T x a/\r x [] a Q
def tBM (K:AA)(T:String)(r:V->List V->Hp->VK->Prop)(c:TE)(t:TA):TE:=fun a H Q=>c a H fun x b=>tyV K T x b/\t a b fun d e=>r x d e Q
variable {o e:Expr} {es:List Expr} {to:TE} {t:TA} {name:Str} {apos cpos:Pos} {T id:String} {r:V->List V->Hp->VK->Prop}
theorem AE8 (j:PlainAttrs T)(d:Slot T name id)(e:typeOf (.builtin id)=pure (.type "method_descriptor"))(k:MtR X id r)(l:PE X o to)
  (b:attributeBase o name X.env (eval o X.env)=eval o X.env:=by rfl) (c:(apos.endLine==cpos.line)=true:=by rfl):PE X (.Call (.Attribute o name apos) [] [] cpos) (B15 X.K T r to):=by
 intro a s f H Q I h;refine wpAny_Call_method0_late b c (thn (l a s f H _ I h) fun v m ⟨x,n,g,i,p,q⟩=>?_);obtain⟨t,u⟩:=BH1 g i p;exact⟨T,id,j,d,e,t,u,Df rfl (PySem.evalArgs_none (k a m f n x [] v [] Q g i .nil q))⟩
theorem U2 (n:PlainAttrs T)(f:Slot T name id)(i:typeOf (.builtin id)=pure (.type "method_descriptor"))(p:MtR X id r)(q:PE X o to)(u:PA X (e::es) t)
  (c:attributeBase o name X.env (eval o X.env)=eval o X.env:=by rfl)
  (g:((backTo cpos (starEach (e::es) X.env)).all (fun x=>!x.1)&&(backToKw cpos (keywordEach [] X.env)).all (fun x=>x.1.isSome)
   &&decide ((e::es).length+([]:List Keyword).length+(if([]:List Keyword).isEmpty then 0 else 1)<30))=true:=by rfl)
  (d:(apos.endLine==cpos.line)=true:=by rfl) (w:starEach (e::es) X.env=(false,eval e X.env)::starEach es X.env:=by rfl) (b:(backTo cpos (starEach es X.env)).any (·.1)=false:=by rfl):
  PE X (.Call (.Attribute o name apos) (e::es) [] cpos) (tBM X.K T r to t):=by
 intro a s j H Q I h;refine wpAny_Call_method_late c g d rfl (thn (q a s j H _ I h) fun v y ⟨x,z,k,l,A,B⟩=>?_);obtain⟨C,D⟩:=BH1 k l A;refine⟨T,id,n,f,i,C,D,?_⟩;have m:=u cpos a y j z _ k B;rw[w]at m ⊢;refine Df (by show(false||(backTo cpos (starEach es X.env)).any (·.1))=false;rw[b]<;>rfl) (Calls.evalArgs_plain ?_);exact thn m fun E F ⟨G,J,L,M,N⟩=>p a F j J x G v E Q L l M N
end
def MtM (X:Cx)(id:String)(r:V->List V->Hp->VK->Prop):Prop:=
 ∀(a:List (AI×Obj)) (s:AW) (b:St) (H:Hp) (x:V) (c:List V) (v:AH) (d:List AH) (Q:VK),Inv X a b H s->RelV x v->Vals c d->r x c H Q->
  wpAny (model X.prog X.w) X.A (call (.builtin id) (v::d)) (EP X a b Q) X.xe s
theorem Vals.one:∀{x:V} {us:List AH},Vals [x] us->∃u,us=[u]/\RelV x u
 |_,_,.cons r .nil=>⟨_,rfl,r⟩
theorem Vals.zero:∀{us:List AH},Vals [] us->us=[]
 |_,.nil=>rfl
theorem Vals.dropLast (h:Vals xs us):Vals xs.dropLast us.dropLast:=by
 induction h with
 |nil=>exact .nil
 |cons r t a=>
  cases t with
  |nil=>exact .nil
  |cons q b=>exact .cons r a
theorem Vals.rep (h:Vals xs us):∀k:Nat,Vals (List.replicate k xs).flatten (List.replicate k us).flatten
 |0=>.nil
 |k+1=>by rw[Cc,Cc,DK,DK];exact Vals.append h (Vals.rep h k)
theorem Aj9 {c:Type}(l:List c):l.eraseIdx (l.length-1)=l.dropLast:=by
 induction l with
 |nil=>rfl
 |cons a r d=>
  cases r with
  |nil=>rfl
  |cons b r=>
   have e:(a::b::r).length-1=((b::r).length-1)+1:=by have f:(a::b::r).length=r.length+2:=rfl;have g:(b::r).length=r.length+1:=rfl;omega
   rw[e,List.eraseIdx_cons_succ,d]
   all_goals rfl
theorem AR9 (a:List AH):∀(k:Nat) (acc:List AH),
  List.foldl (fun b c=>b++c) acc.toArray (List.replicate k a.toArray)=(acc++(List.replicate k a).flatten).toArray
 |0,acc=>by simp
 |k+1,acc=>by
  have e:acc.toArray++a.toArray=(acc++a).toArray:=by simp
  have d:(acc++a)++(List.replicate k a).flatten=acc++(List.replicate (k+1) a).flatten:=by rw[Cc,DK,AF]
  rw[←d,←AR9 a k (acc++a),←e,Cc,CB]
section
variable {X:Cx} {pins:List (AI×Obj)} {σ:St} {H:Hp} {s:AW} {l b:AI} {xs ys zs:List V}
theorem Inv.lset {a its':List AH}{f:Array AH->Array AH}(I:Inv X pins σ H s)(b:H l=some (.lst xs))
  (e:s.heap.get? l=some {cls:=.type "list",data:=.seq a.toArray n}) (c:f a.toArray=its'.toArray) (d:Vals ys its') (hz:ys.length<=sizeLine):
  Inv X pins σ (upd H l (.lst ys)) {s with heap:=s.heap.update l (Obj.mapSeq f),toks:=t'}:=by
 have q:=PySem.IsL.update e f;rw[c]at q;refine I.write (x:=l) (e:=l) (by rw[b];exact trivial) (.inl rfl) (fun i u g h=>(Heap.get?_update_other s.heap (Obj.mapSeq f) (BD g)).trans h) ⟨_,q⟩ ?_;exact⟨hz,its',_,d,q⟩
theorem Inv.lnew (I:Inv X pins σ H s)(a:Vals ys its)(hz:ys.length<=sizeLine):
  Inv X pins σ (upd H s.heap.objs.size (.lst ys)) {s with heap:=s.heap.push {cls:=.type "list",data:=.seq its.toArray},toks:=t'}:=
 I.laid (fun _ _ q=>Ak _ q) (AB _) ⟨hz,its,0,a,An _ rfl⟩
theorem Inv.fresh (I:Inv X pins σ H s):H s.heap.objs.size=none:=I.hok.fresh (AB _)
theorem Inv.lstM (I:Inv X pins σ H s)(b:H l=some (.lst xs)):xs.length<=sizeLine/\∃(a:List AH) (n:Nat),Vals xs a/\xs.length=a.length/\s.heap.get? l=some {cls:=.type "list",data:=.seq a.toArray n}:=by obtain⟨z,a,n,r,e⟩:=I.hok l _ b;exact⟨z,a,n,r,r.length,e⟩
theorem Ah5 (h:n<=sizeLine):Builtin.List.listTooLong n=false:=by unfold Builtin.List.listTooLong;exact AX (by omega)
end
section
variable {X:Cx}
inductive Ag7 (x:V) (vs:List V) (H:Hp) (Q:VK):Prop
 |mk:∀l xs y,x=.ref l->vs=[y]->H l=some (.lst xs)->xs.length<sizeLine->Q .non (upd H l (.lst (xs++[y])))->Ag7 x vs H Q
noncomputable def AK1:V->List V->Hp->VK->Prop:=fun x a H Q=>Ag7 x a H Q
theorem G2:MtM X "list.append" AK1:=by intro b s i H x j v k Q I d f h;obtain⟨l,m,y,rfl,rfl,c,o,q⟩:=h;cases d;obtain⟨u,rfl,g⟩:=f.one;obtain⟨z,a,n,r,p,e⟩:=I.lstM c;refine Db F.slot_list_append ⟨_,e,rfl⟩ F.entry_list_append (F.args_list_append_2 _ _) (PySem.list_append l a.toArray n u (by rw[Ae];omega)) ⟨e,?_⟩;refine⟨.non,_,I.lset (its':=a++[u]) c e (by simp) (r.append (.cons g .nil)) ?_,rfl,q⟩;rw[AO,Cu];omega
inductive Af9 (x:V) (vs:List V) (H:Hp) (Q:VK):Prop
 |mk:∀l b xs zs,x=.ref l->vs=[.ref b]->H l=some (.lst xs)->H b=some (.lst zs)->xs.length+zs.length<=sizeLine->Q .non (upd H l (.lst (xs++zs)))->Af9 x vs H Q
noncomputable def BR3:V->List V->Hp->VK->Prop:=fun x a H Q=>Af9 x a H Q
theorem j7:MtM X "list.extend" BR3:=by
 intro g s A H x B v C Q I j k h;obtain⟨l,b,D,E,rfl,rfl,i,m,G,q⟩:=h;cases j;obtain⟨u,rfl,o⟩:=k.one;cases o;obtain⟨z,c,n,r,J,e⟩:=I.lstM i;obtain⟨K,a,p,t,w,y⟩:=I.lstM m;have f:c.toArray.size+a.toArray.size<=sizeLine:=by rw[Ae,Ae];omega
 have d:¬(!c.toArray.isEmpty&&Builtin.List.listTooLong (c.toArray.size+a.toArray.size))=true:=by rw[Ah5 f,Bool.and_false];exact Ai
 refine Db F.slot_list_extend ⟨_,e,rfl⟩ F.entry_list_extend (F.args_list_extend_2 _ _)
  (AutoSeq1.list_extend_list_list_0 l c.toArray n b a.toArray p d (by rw[Ae];omega) (by omega)) ⟨e,y,?_⟩
 refine⟨.non,_,I.lset (its':=c++a) i e (by simp) (r.append t) ?_,rfl,q⟩;rw[AO];omega
inductive Bg9 (x:V) (vs:List V) (H:Hp) (Q:VK):Prop
 |mk:∀l xs y,x=.ref l->vs=[]->H l=some (.lst xs)->xs[xs.length-1]?=some y->Q y (upd H l (.lst xs.dropLast))->Bg9 x vs H Q
noncomputable def B13:V->List V->Hp->VK->Prop:=fun x a H Q=>Bg9 x a H Q
theorem AD2:MtM X "list.pop" B13:=by
 intro d s p H x t v w Q I g i h;obtain⟨l,A,y,rfl,rfl,f,j,q⟩:=h;cases g;have b:=i.zero;subst b;obtain⟨z,a,n,r,k,e⟩:=I.lstM f;obtain⟨u,m,o⟩:=r.get j;have c:a.toArray[a.toArray.size-1]?=some u:=by show a.toArray[a.length-1]?=some u;rw[←Array.getElem?_toList,←k];exact m
 refine Db F.slot_list_pop ⟨_,e,rfl⟩ F.entry_list_pop (F.args_list_pop_1 _) (MeetsSeq.list_pop_last l a.toArray n u c (by rw[Ae];omega)) ⟨e,?_⟩;refine⟨y,_,I.lset (its':=a.dropLast) f e ?_ r.dropLast ?_,o,q⟩
 ·show a.toArray.eraseIdxIfInBounds (a.toArray.size-1)=a.dropLast.toArray;rw[Ae,List.eraseIdxIfInBounds_toArray,Aj9]
 ·rw[List.length_dropLast];omega
inductive Bk2 (x:V) (y:V) (H:Hp) (Q:VK):Prop
 |mk:∀l b xs zs,x=.ref l->y=.ref b->H l=some (.lst xs)->H b=some (.lst zs)->xs.length+zs.length<=sizeLine->(∀p,H p=none->Q (.ref p) (upd H p (.lst (xs++zs))))->Bk2 x y H Q
def By5:R2:=fun x y H Q=>Bk2 x y H Q
theorem BJ7:OpR X (binaryOp .Add) By5:=by
 intro d s t H x y v u Q I f g h;obtain⟨l,b,w,A,rfl,rfl,i,j,B,q⟩:=h;cases f;cases g;obtain⟨z,c,n,r,C,e⟩:=I.lstM i;obtain⟨D,a,E,k,m,o⟩:=I.lstM j;refine PySem.P.add_list e o ?_ (by rw[Ae,Ae];omega);have p:c.toArray++a.toArray=(c++a).toArray:=by simp
 rw[p];exact⟨.ref _,_,I.lnew (t':=s.toks) (r.append k) (by rw[AO];omega),rfl,q _ I.fresh⟩
inductive Bl2 (x:V) (y:V) (H:Hp) (Q:VK):Prop
 |mk:∀l k xs,x=.ref l->y=.int k->H l=some (.lst xs)->-(2 ^ 63)<=k->k<2 ^ 63->xs.length*k.toNat<=sizeLine->(∀p,H p=none->Q (.ref p) (upd H p (.lst (List.replicate k.toNat xs).flatten)))->Bl2 x y H Q
def B26:R2:=fun x y H Q=>Bl2 x y H Q
theorem BO4 {a:Type}(xs:List a)(k:Nat):(List.replicate k xs).flatten.length=k*xs.length:=by
 induction k with
 |zero=>simp
 |succ k b=>rw[Cc,DK,AO,b,Nat.succ_mul,Nat.add_comm]
theorem Bd9:OpR X (binaryOp .Mult) B26:=by
 intro pins s σ H x y v u Q I rx ry h;obtain⟨l,k,xs,rfl,rfl,hH,h1,h2,hz,q⟩:=h;cases rx;obtain⟨t,rfl⟩:=ry;obtain⟨z,its,n,r,hl,e⟩:=I.lstM hH;have hlen:its.toArray.size*k.toNat<=sizeLine:=by rw[Ae,←hl];exact hz
 have hcap:¬its.toArray.size*k.toNat>(2 ^ 63-1)/8:=by
  have:(sizeLine:Nat)<=(2 ^ 63-1)/8:=by decide
  omega
 have hfit:¬(!Builtin.List.listFitsIndex k)=true:=by rw[fitsIndex_both h1 h2];exact Ai
 have hlong:¬Builtin.List.listTooLong (its.toArray.size*k.toNat)=true:=by rw[Ah5 hlen];exact Ai
 have hnew:List.foldl (fun x1 x2=>x1++x2) #[] (List.replicate (if its.toArray.isEmpty=true then 0 else k.toNat) its.toArray)=(List.replicate k.toNat its).flatten.toArray:=by
  have f0:∀m:Nat,List.foldl (fun x1 x2=>x1++x2) #[] (List.replicate m its.toArray)=(List.replicate m its).flatten.toArray:=fun m=>by have:=AR9 its m [];rw[DA]at this;exact this
  rw[f0];cases its with
  |nil=>simp
  |cons a r'=>rw[AD (by simp)]
 refine wpAny_binaryOp_repeat_ref (T:="list") (U:="int") (by decide) ⟨_,e,rfl⟩ (fun s'=>typeIs_int s' k t) noFill_list_mul F.fills_int_mul F.slot_int_rmul repeat_list F.slot_int_index.lookup
  (Db F.slot_int_rmul (typeIs_int s k t) F.entry_int_rmul (F.args_int_rmul_2 _ _) (int___rmul___int_list k t l its.toArray n)
   ⟨e,rfl,⟨_,e,rfl⟩,Db F.slot_list_mul ⟨_,e,rfl⟩ F.entry_list_mul (F.args_list_mul_2 _ _) (AutoListH.list___mul___list_int_3 l its.toArray n k t hfit hcap hlong) ⟨e,?_⟩⟩)
 rw[hnew];exact⟨.ref _,_,I.lnew (t':=s.toks) (r.rep k.toNat) (by rw[BO4,Nat.mul_comm];exact hz),rfl,q _ I.fresh⟩
end
section
variable {prog:Af} {w:Ap} {A:Around} {E:AH->AW->Prop} {s:AW}
set_option maxRecDepth 100000 in
end
section
variable {X:Cx}
end
section
variable {prog:Af} {w:Ap} {A:Around} {E:AH->AW->Prop} {s:AW} {l:AI} {its:List AH} {ns:List Int} {Q:AH->AW->Prop}
end
section
variable {X:Cx}
theorem At8 {ys:List V}(f:ys.all T5=true){j:Nat}{z:V}(h:ys[j]?=some z):T5 z=true:=BO.mp f z (Az h)
end
mutual
inductive Dp (K:AA) (H:Hp):V->PyData->Prop
 |non:Dp K H .non .none
 |bl (b:Bool):Dp K H (.bl b) (.bool b)
 |int (i:Int):Dp K H (.int i) (.int i)
 |str (x:Str):Dp K H (.str x) (.str x)
 |lst {a:AI} {xs:List V} {ds:List PyData}:SqL K H a xs->AX2 K H xs ds->Dp K H (.ref a) (.list ds)
 |tup {a:AI} {xs:List V} {ds:List PyData}:SqT K H a xs->AX2 K H xs ds->Dp K H (.ref a) (.tuple ds)
inductive AX2 (K:AA) (H:Hp):List V->List PyData->Prop
 |nil:AX2 K H [] []
 |cons {v:V} {vs:List V} {d:PyData} {ds:List PyData}:Dp K H v d->AX2 K H vs ds->AX2 K H (v::vs) (d::ds)
end
section
variable {X:Cx} {pins:List (AI×Obj)} {σ:St} {H:Hp} {s:AW}
mutual
theorem Dp.reads (I:Inv X pins σ H s):∀(d:PyData) (v:V) (u:AH),Dp X.K H v d->RelV v u->∃as,Reads s.heap u d as
 |.none,_,_,h,r=>by cases h;cases r;exact⟨_,Reads.none⟩
 |.bool b,_,_,h,r=>by cases h;cases r;exact⟨_,Reads.bool b⟩
 |.int i,_,_,h,r=>by cases h;obtain⟨t,rfl⟩:=r;exact⟨_,Reads.int i t⟩
 |.str x,_,_,h,r=>by cases h;obtain⟨t,rfl⟩:=r;exact⟨_,Reads.str x t⟩
 |.list c,_,_,h,r=>by
  cases h with
  |lst e f=>cases r;obtain⟨a,g,⟨o,n,j,k,_,l⟩,_⟩:=I.list e;obtain⟨as,m⟩:=Dp.readsAll I c _ a f g;exact⟨_,Reads.list j k l m⟩
 |.tuple c,_,_,h,r=>by
  cases h with
  |tup e f=>cases r;obtain⟨a,g,⟨o,j,k,n,l⟩,_⟩:=I.tuple e;obtain⟨as,m⟩:=Dp.readsAll I c _ a f g;exact⟨_,Reads.tuple j k l m⟩
 |.dict _,_,_,h,_=>by cases h
theorem Dp.readsAll (I:Inv X pins σ H s):∀(ds:List PyData) (vs:List V) (us:List AH),AX2 X.K H vs ds->Vals vs us->∃as,ReadsAll s.heap us ds as
 |[],_,_,h,r=>by cases h;cases r;exact⟨_,ReadsAll.nil⟩
 |d::ds,_,_,h,r=>by
  cases h with
  |cons a b=>
   cases r with
   |cons c e=>obtain⟨as,f⟩:=Dp.reads I d _ _ a c;obtain⟨i,g⟩:=Dp.readsAll I ds _ _ b e;exact⟨_,ReadsAll.cons f g⟩
end
end
section
variable {X:Cx}
inductive BZ9 (K:AA) (x:V) (y:V) (H:Hp) (Q:VK):Prop
 |mk:∀d e,Dp K H x d->Dp K H y e->SeqAt.shaped d=true->SeqAt.shaped e=true->Q (.bl (PyData.eqv d e)) H->BZ9 K x y H Q
def By2 (K:AA):R2:=fun x y H Q=>BZ9 K x y H Q
theorem Bg0 (b:X.A.units+64<cLine):OpR X (compareOp .Eq) (By2 X.K):=by intro a s n H x y v u Q I c f h;obtain⟨d,e,g,i,j,k,q⟩:=h;obtain⟨o,l⟩:=Dp.reads I d x v g c;obtain⟨p,m⟩:=Dp.reads I e y u i f;exact SeqAt.compareEq_shaped l m j k b ⟨.bl _,H,I,rfl,q⟩
end
abbrev BF9 (h:BR)(c:AI)(v:Option AH):Prop:=h.IsCell c v
noncomputable def B20 (a b:Scope):Scope:=
 {a with names:=a.names.map fun(n,k)=>if(k==.free&&b.kind==.function&&b.names.lookup n==some .cell)then(n,.cell)else(n,k)}
noncomputable def G4 (cells:List (Str×AI)):List (Str×NameKind)->List (Str×AI)->List (Str×AI)
 |[],a=>a
 |(n,k)::r,a=>if k==.free then G4 cells r ((n,(cells.lookup n).getD 0)::a)else G4 cells r a
theorem x4 (b:Env)(f:Str×NameKind->List (Str×AI)->Sem (ForInStep (List (Str×AI))))
  (g:∀n k c,f (n,k) c=if k==.free then(do let a ←cellOf b n;pure (.yield ((n,a)::c)))else pure (.yield c)):
  ∀(names:List (Str×NameKind)) (acc:List (Str×AI)),(∀y∈names,y.2=.free->∃c,b.cells.lookup y.1=some c)->forIn names acc f=pure (G4 b.cells names acc)
 |[],acc,_=>by rw[List.forIn_nil];rfl
 |(n,k)::r,acc,h=>by
  rw[List.forIn_cons,g];have i:=fun acc=>x4 b f g r acc fun y l=>h y (AC _ l);unfold G4;by_cases d:(k==NameKind.free)=true
  ·rw[AL d,AL d];obtain⟨c,j⟩:=h (n,k) AG (by simpa using d);have e:cellOf b n=pure c:=by unfold cellOf;rw[j]
   rw[e];have m:(b.cells.lookup n).getD 0=c:=by rw[j];rfl
   rw[m];exact i _
  ·rw[AD d,AD d];exact i _
theorem Aj2 (h:∀y∈scope.names,y.2=.free->∃c,env.cells.lookup y.1=some c):closureFor scope env=pure (G4 env.cells scope.names []):=by simp only[closureFor];rw[x4 env _ (fun n k c=>rfl) scope.names [] h];rfl
theorem p6 {a:Type}:∀{l:List (Str×a)} {n:Str} {c:a},(n,c)∈l->∃b,l.lookup n=some b
 |(k,v)::r,n,c,h=>by
  rw[Bv];cases d:n==k with
  |true=>exact⟨_,rfl⟩
  |false=>
   rcases AK.mp h with e |h
   ·cases e;simp at d
   ·exact p6 h
theorem U8:∀{names:List (Str×NameKind)} {acc:List (Str×AI)} {n:Str} {c:AI},(n,c)∈G4 cells names acc->(n,c)∈acc∨((n,.free)∈names/\c=(cells.lookup n).getD 0)
 |[],_,_,_,h=>.inl h
 |(m,k)::r,acc,n,c,h=>by
  unfold G4 at h;split at h
  ·rename_i a;have a:k=.free:=by simpa using a
   rcases U8 h with h |⟨b,d⟩
   ·rcases AK.mp h with e |h
    ·cases e;exact .inr ⟨a▸AG,rfl⟩
    ·exact .inl h
   ·exact .inr ⟨AC _ b,d⟩
  ·rcases U8 h with h |⟨b,d⟩
   ·exact .inl h
   ·exact .inr ⟨AC _ b,d⟩
theorem a3:∀{names:List (Str×NameKind)} {acc:List (Str×AI)} {p:Str×AI},p∈acc->p∈G4 cells names acc
 |[],_,_,h=>h
 |(m,k)::r,acc,p,h=>by
  unfold G4;split
  ·exact a3 (AC _ h)
  ·exact a3 h
theorem Z9:∀{names:List (Str×NameKind)} {acc:List (Str×AI)} {n:Str},(n,.free)∈names->(n,(cells.lookup n).getD 0)∈G4 cells names acc
 |(m,k)::r,acc,n,h=>by
  unfold G4;rcases AK.mp h with e |h
  ·cases e;exact a3 AG
  ·split
   ·exact Z9 h
   ·exact Z9 h
theorem X0:∀{names:List (Str×NameKind)} {h:BR} {acc:List (Str×AI)} {x:Str} {c:AI},(x,c)∈cellsFrom h.objs.size names acc->
  (x,c)∈acc∨((x,.cell)∈names/\h.objs.size<=c/\BF9 (pushCells h names) c none)
 |[],_,_,_,_,h=>.inl h
 |(n,k)::r,h,acc,x,c,a=>by
  unfold cellsFrom at a;unfold pushCells;split at a
  ·rename_i b;rw[AL b];have b:k=.cell:=by simpa using b
   rw[←Bi h {cls:=.type "cell",data:=.cell none}]at a;rcases X0 a with a |⟨f,d,g⟩
   ·rcases AK.mp a with e |a
    ·cases e;exact .inr ⟨b▸AG,AB _,_,Dj r _ _ _ (An _ rfl),rfl⟩
    ·exact .inl a
   ·rw[Bi]at d;exact .inr ⟨AC _ f,DJ d,g⟩
  ·rename_i b;rw[AD b];rcases X0 a with a |⟨f,d,g⟩
   ·exact .inl a
   ·exact .inr ⟨AC _ f,d,g⟩
theorem l7:∀{names:List (Str×NameKind)} {n:Nat} {acc:List (Str×AI)} {p:Str×AI},p∈acc->p∈cellsFrom n names acc
 |[],_,_,_,h=>h
 |(m,k)::r,n,acc,p,h=>by
  unfold cellsFrom;split
  ·exact l7 (AC _ h)
  ·exact l7 h
theorem AE3:∀{names:List (Str×NameKind)} {n:Nat} {acc:List (Str×AI)} {x:Str},(x,.cell)∈names->∃c,(x,c)∈cellsFrom n names acc
 |(m,k)::r,n,acc,x,h=>by
  unfold cellsFrom;rcases AK.mp h with e |h
  ·cases e;exact⟨n,l7 AG⟩
  ·split
   ·exact AE3 h
   ·exact AE3 h
theorem AF4:∀{names:List (Str×NameKind)} {h:BR} {acc:List (Str×AI)} {x y:Str} {c:AI},(∀p∈acc,p.2<h.objs.size)->(∀x y c,(x,c)∈acc->(y,c)∈acc->x=y)->
  (x,c)∈cellsFrom h.objs.size names acc->(y,c)∈cellsFrom h.objs.size names acc->x=y
 |[],_,_,_,_,_,_,g,f,d=>g _ _ _ f d
 |(n,k)::r,h,acc,x,y,c,hl,g,f,d=>by
  unfold cellsFrom at f d;split at f
  ·rename_i i;rw[AL i]at d;rw[←Bi h {cls:=.type "cell",data:=.cell none}]at f d;refine AF4 (h:=h.push _) (fun p j=>?_) (fun x y c a b=>?_) f d
   ·rw[Bi];rcases AK.mp j with rfl |j
    ·exact CY _
    ·exact Dt (hl p j)
   ·rcases AK.mp a with e |a<;>rcases AK.mp b with l |b
    ·cases e;cases l;rfl
    ·cases e;exact absurd (hl _ b) (CD _)
    ·cases l;exact absurd (hl _ a) (CD _)
    ·exact g _ _ _ a b
  ·rename_i i;rw[AD i]at d;exact AF4 hl g f d
theorem AZ9 {M:Model}{A:Around}{E:AH->AW->Prop}{s:AW}{a:Scope}{e:AI}{b:List (Str×AI)}{g:Str}{i:Option AI}{j:AH}{f:Env}{d:AI}{Q:Env->AW->Prop}
  (h:Q (newEnv a s.heap.objs.size e (cellsFrom (s.heap.objs.size+1) a.names b) g i j (some f) d)
   {s with heap:=pushCells (s.heap.push {cls:=.type "dict",data:=.dict #[]}) a.names}):
  wpAny M A (newFunctionEnv a e b [] g i j (some f) d) Q E s:=by
 simp only[newFunctionEnv,Option.isSome_some,EI];refine AM (wpAny_alloc ?_);refine AM (wpAny_layCells _ (fun n k c=>rfl) a.names b _ _ ?_);rw[show({s with heap:=s.heap.push {cls:=.type "dict",data:=.dict #[]}}:AW).heap.objs.size=s.heap.objs.size+1 from Bi ..];rw[List.forIn_nil];exact AM (Au (Au h))
theorem c8 {c:Scope}:∀{names:List (Str×NameKind)} {x:Str} {k:NameKind},
  (names.map fun(n,k)=>if(k==NameKind.free&&c.kind==.function&&c.names.lookup n==some .cell)then(n,NameKind.cell)else(n,k)).lookup x=some k->
  ∃f,names.lookup x=some f/\(k=f∨(f=.free/\k=.cell))
 |[],_,_,h=>by simp at h
 |(n,a)::r,x,k,h=>by
  have g:=@c8 c r x k;have b:List.lookup x ((if(a==NameKind.free&&c.kind==.function&&c.names.lookup n==some .cell)=true then(n,NameKind.cell)else(n,a))::(r.map _))=some k:=h;cases e:x==n with
  |true=>
   simp only[Bv,e];by_cases d:(a==NameKind.free&&c.kind==.function&&c.names.lookup n==some .cell)=true
   ·rw[AL d]at b;simp only[Bv,e]at b;cases b;simp only[Ar,Dk]at d;exact⟨a,rfl,.inr ⟨d.1.1,rfl⟩⟩
   ·rw[AD d]at b;simp only[Bv,e]at b;cases b;exact⟨_,rfl,.inl rfl⟩
  |false=>
   simp only[Bv,e];by_cases d:(a==NameKind.free&&c.kind==.function&&c.names.lookup n==some .cell)=true
   ·rw[AL d]at b;simp only[Bv,e]at b;exact g b
   ·rw[AD d]at b;simp only[Bv,e]at b;exact g b
structure A83 (N:List Str)(sc scope:Scope)(own:List (Str×Nat)):Prop where
 kind:scope.kind=.function
 uniq:∀y∈scope.names,scope.names.lookup y.1=some y.2
 ix:∀p∈own,N[p.2]?=some p.1
 free:∀y∈scope.names,y.2=.free->sc.names.lookup y.1=some .cell∨sc.names.lookup y.1=some .free
 own:∀y∈scope.names,y.2=.local∨y.2=.cell->y.1∈own.map (·.1)∨y.1∉N
noncomputable def c5 (a:St):List Nat->St
 |[]=>a
 |v::vs=>(c5 a vs).set v none
theorem a6 (a:St):∀vs:List Nat,(c5 a vs).length=a.length
 |[]=>rfl
 |v::vs=>by unfold c5;rw[EG,a6 a vs]
theorem AD7:∀{vs:List Nat},(c5 σ vs)[i]?=some (some x)->σ[i]?=some (some x)/\i∉vs
 |[],h=>⟨h,by simp⟩
 |v::vs,h=>by
  unfold c5 at h;by_cases a:v=i
  ·subst a;by_cases b:v<(c5 σ vs).length
   ·rw[Cp b]at h;cases h
   ·rw[CO (by simpa using b)]at h;cases h
  ·rw[CV a]at h;obtain⟨c,d⟩:=AD7 h;exact⟨c,by simp only[AK,not_or];exact⟨fun e=>a e.symm,d⟩⟩
noncomputable abbrev Cx.blk (X:Cx)(s:AW)(H:Hp)(a:Scope)(b:Env)(c:List AI):Cx:={X with s_0:=s,H_0:=H,env:=b,outer:=X.stack,ex:=c,fn:=fun x=>a.names.lookup x==some .cell,pn:=[],xe:=fun _ _=>False}
section
variable {X:Cx} {pins:List (AI×Obj)} {σ:St} {H:Hp} {s:AW}
theorem AX4 (I:Inv X pins σ H s)(C:A83 X.N X.env.scope scope own)(hN:X.N.Nodup)(j:∀b∈fp,FpOk X pins H b/\b<s.heap.objs.size):
  Inv (X.blk s H scope (compEnvC scope (cellsFrom (s.heap.objs.size+1) scope.names (G4 X.env.cells scope.names [])) s.heap.objs.size X.env) fp) [] (c5 σ (own.map (·.2))) H {s with heap:=pushCells (s.heap.push {cls:=.type "dict",data:=.dict #[]}) scope.names}:=by
 have K:∀y∈scope.names,y.2=.free->∃c,X.env.cells.lookup y.1=some c:=fun y x e=>by
  rcases C.free y x e with k |k
  ·exact I.ok.has _ (.inl k)
  ·exact I.ok.has _ (.inr k)
 generalize f:compEnvC scope (cellsFrom (s.heap.objs.size+1) scope.names (G4 X.env.cells scope.names [])) s.heap.objs.size X.env=d;have U:∀b o,s.heap.get? b=some o->(pushCells (s.heap.push {cls:=.type "dict",data:=.dict #[]}) scope.names).get? b=some o:=fun b o e=>Dj _ _ _ _ (Ak _ e);have V:d.locals=s.heap.objs.size:=by rw[←f];rfl
 have h:d.cells=cellsFrom (s.heap.objs.size+1) scope.names (G4 X.env.cells scope.names []):=by rw[←f];rfl
 have L:d.scope=B20 scope X.env.scope:=by rw[←f];rfl
 rw[←Bi s.heap {cls:=.type "dict",data:=.dict #[]}]at h;have R:∀{y c},(y,c)∈G4 X.env.cells scope.names []->X.env.cells.lookup y=some c/\c<s.heap.objs.size:=fun {y c} l=>by
  rcases U8 l with l |⟨g,rfl⟩
  ·cases l
  ·obtain⟨c,hc⟩:=K _ g rfl;rw[hc];obtain⟨w,z⟩:=I.cell _ _ hc;exact⟨rfl,z.lt⟩
 have M:∀{y c},d.cells.lookup y=some c->(X.env.cells.lookup y=some c/\c<s.heap.objs.size)∨(s.heap.objs.size+1<=c/\BF9 (pushCells (s.heap.push {cls:=.type "dict",data:=.dict #[]}) scope.names) c none):=fun {y c} e=>by
  rw[h]at e;rcases X0 (BH e)with l |⟨_,A,h3⟩
  ·exact .inl (R l)
  ·rw[Bi]at A;exact .inr ⟨A,h3⟩
 have D:∀{y},scope.names.lookup y=some .free->∃c,d.cells.lookup y=some c/\X.env.cells.lookup y=some c:=fun {y} W=>by
  have x:(y,NameKind.free)∈scope.names:=BH W;obtain⟨Y,t⟩:=p6 (l7 (names:=scope.names) (n:=(s.heap.push {cls:=.type "dict",data:=.dict #[]}).objs.size) (Z9 (cells:=X.env.cells) (acc:=[]) x));rw[←h]at t;refine⟨Y,t,?_⟩;rw[h]at t;rcases X0 (BH t)with l |⟨g,_,_⟩
  ·exact(R l).1
  ·have:=C.uniq _ g;rw[W]at this;cases this
 have Z:(X.blk s H scope d fp).Ok:=by
  refine⟨I.ok.mod,by show d.scope.kind=_;rw[L];exact C.kind,by show d.globals=_;rw[←f];exact I.ok.glob,by show d.builtins=_;rw[←f];exact I.ok.blt,by show s.heap.objs.size<=d.locals;rw[V];exact AB _,
   fun y z c E F=>?_,fun y x=>?_,fun y c z e=>?_,I.ok.hd,I.ok.frames,.inl rfl,fun b G=>⟨?_,fun y c e z=>?_⟩,I.bs,BV I.ok.bsz I.sz,fun b o e G=>?_,fun b G z=>?_,I.stack,I.stkFree⟩
  ·have E:d.cells.lookup y=some c:=E;have F:d.cells.lookup z=some c:=F;rw[h]at E F;refine AF4 (fun p Q=>?_) (fun y z c a b=>I.ok.inj y z c (R a).1 (R b).1) (BH E) (BH F);rw[Bi];exact Dt (R (y:=p.1) (c:=p.2) Q).2
  ·show ∃c,d.cells.lookup y=some c;have u:∀k,d.kindOf y=some k->(k=.cell∨k=.free)->∃c,d.cells.lookup y=some c:=fun k O P=>by
    unfold Env.kindOf at O;rw[L]at O;obtain⟨J,e,r⟩:=c8 O;have:J=.cell∨J=.free:=by
     rcases r with rfl |⟨rfl,_⟩
     ·exact P
     ·exact .inr rfl
    rcases this with rfl |rfl
    ·obtain⟨c,l⟩:=AE3 (n:=(s.heap.push {cls:=.type "dict",data:=.dict #[]}).objs.size) (acc:=G4 X.env.cells scope.names []) (BH e);obtain⟨Y,t⟩:=p6 l;exact⟨Y,by rw[h];exact t⟩
    ·obtain⟨c,g,_⟩:=D e;exact⟨c,g⟩
   rcases x with x |x
   ·exact u _ x (.inl rfl)
   ·exact u _ x (.inr rfl)
  ·have z:(scope.names.lookup y==some NameKind.cell)=true:=z;have z:scope.names.lookup y=some .cell:=by simpa using z
   have e:d.cells.lookup y=some c:=e;rw[h]at e;rcases X0 (BH e)with l |⟨_,A,_⟩
   ·rcases U8 l with l |⟨g,_⟩
    ·cases l
    ·have q:=C.uniq _ g;rw[z]at q;cases q
   ·rw[Bi]at A;exact DJ A
  ·show b≠d.locals;rw[V];exact Ba (j b G).2
  ·have e:d.cells.lookup y=some c:=e;rcases M e with ⟨g,_⟩ |⟨g,_⟩
   ·exact(j b G).1.2.2.2.2.1 y c g z
   ·have A:s.heap.objs.size+1<=b:=by rw[←z];exact g
    exact absurd (Av (j b G).2 (DJ A)) (CD _)
  ·rcases(j b G).1.2.2.2.1 with z |z
   ·exact I.ok.noex b o e z
   ·exact absurd (Av (Ao e) (BV I.ok.bsz z)) (CD _)
  ·rcases AK.mp (I.stkSub b z)with z |z
   ·exact(j b G).1.2.1 z
   ·exact(j b G).1.2.2.1 z
 refine⟨Z,rfl,I.bare,Un.kept U,⟨fun _=>none,?_,fun i y av E F v=>?_⟩,fun y c e=>?_,?_,fun y c e=>?_,fun p Q=>?_,I.hok.kept U,by rw[a6];exact I.len⟩
 ·show Heap.Ns _ d.locals _;rw[V];exact Heap.Ns.keeps (Heap.Ns.new ..) fun b o e=>Dj _ _ _ _ e
 ·obtain⟨F,aa⟩:=AD7 F;have B:scope.names.lookup y=some .free/\(d.kindOf y=some .cell∨d.kindOf y=some .free):=by
   have u:∀k,d.scope.names.lookup y=some k->k=.local∨k=.cell∨k=.free->scope.names.lookup y=some .free/\(d.kindOf y=some .cell∨d.kindOf y=some .free):=fun k O P=>by
    have S:=O;rw[L]at O;obtain⟨J,e,r⟩:=c8 O;have no:¬(J=.local∨J=.cell):=fun hh=>by
     rcases C.own _ (BH e) hh with t |t
     ·obtain⟨p,Q,ab⟩:=BN.mp t;have v:=C.ix p Q;have:p.1=y:=ab;rw[this]at v;exact aa (BN.mpr ⟨p,Q,AK4 hN v E⟩)
     ·exact t (Az E)
    rcases r with rfl |⟨rfl,rfl⟩
    ·rcases P with rfl |rfl |rfl
     ·exact absurd (.inl rfl) no
     ·exact absurd (.inr rfl) no
     ·exact⟨e,.inr S⟩
    ·exact⟨e,.inl S⟩
   have v:Vis d.scope y:=v;rcases v with v |v |v
   ·exact u _ v (.inl rfl)
   ·exact u _ v (.inr (.inl rfl))
   ·exact u _ v (.inr (.inr rfl))
  obtain⟨m,hn,W⟩:=I.loc;have T:Vis X.env.scope y:=(C.free _ (BH B.1) rfl).elim (fun k=>.inr (.inl k)) (fun k=>.inr (.inr k));obtain⟨w,r,q⟩:=W i y av E F T;refine⟨w,r,.inr ⟨B.2,?_⟩⟩;obtain⟨c,g,A⟩:=D B.1;rcases q with ⟨k,_⟩ |⟨_,Y,t,z⟩
  ·have k:X.env.scope.names.lookup y=some .local:=k;rcases C.free _ (BH B.1) rfl with J |J<;>rw[show X.env.scope.names.lookup y=_ from J]at k<;>cases k
  ·rw[A]at t;cases t;exact⟨c,g,z.keeps U⟩
 ·have e:d.cells.lookup y=some c:=e;rcases M e with ⟨g,_⟩ |⟨_,z⟩
  ·obtain⟨w,z⟩:=I.cell y c g;exact⟨w,z.keeps U⟩
  ·exact⟨_,z⟩
 ·show H d.locals=none;rw[V];exact I.hok.fresh (AB _)
 ·have e:d.cells.lookup y=some c:=e;rcases M e with ⟨g,_⟩ |⟨g,_⟩
  ·exact I.freeC y c g
  ·exact I.hok.fresh (DJ g)
 ·exact absurd (show p∈([]:List (AI×Obj))++[]from Q) (by simp)
theorem Ba6 (I:Inv X pins σ H s)(d:H D=some (.lst xs))(hz:xs.length<sizeLine)(r:RelV y v)
  (h:∀s',Inv X pins σ (upd H D (.lst (xs++[y]))) s'->Q .none s'):wpAny (model X.prog X.w) X.A (call (.builtin "list.append") [.ref D,v]) Q E s:=by
 obtain⟨g,c,n,f,e⟩:=I.hok D _ d;have l:=f.length;refine append_at (hsz:=by rw[Ae];omega) e fun i j a=>?_;refine h {s with heap:=i} (I.write (t':=s.toks) (by rw[d];trivial) (.inl rfl) (fun b u k q=>(j.2 b k).trans q) ⟨_,a⟩ ⟨by rw[AO];exact hz,c++[v],n+1,f.append (.cons r .nil),?_⟩);rw[a];simp
def PTs (X:Cx)(b:List Expr)(t:TT):Prop:=
 ∀(a:List (AI×Obj)) (s:AW) (d:St) (H:Hp) (Q:Bool->Hp->Prop),Inv X a d H s->t d H Q->
  wpAny (model X.prog X.w) X.A (forIn b true fun c r=>if r=true then do let e ←isTrue c X.env (eval c X.env);pure (ForInStep.yield e)else pure (ForInStep.yield r)) (TP X a d Q) X.xe s
def B18:TT:=fun _ H Q=>Q true H
theorem F8:PTs X [] B18:=fun _ _ _ H _ I h=>wpAny_tests_nil ⟨H,I,h⟩
end
theorem BY4 (h:wpAny M A t Q (fun _ _=>False) s)(b:∀a s,Q a s->Q' a s):wpAny M A t Q' E s:=CC h b fun _ _ z=>False.elim z
theorem AR0 (I:Nat->AW->Prop)
  (turn:∀n s,I n s->wpAny (model prog w) A (pyNext it) (fun r a=>match r with
   |none=>R (.ok .next) a
   |some v=>wpAny (model prog w) A (letOwnedTupleGo target it v) (fun _ b=>wpAny (model prog w) A (assign target env v) (fun _ g=>
     wpAny (model prog w) A (forIn ifs true fun c r=>if r=true then do let p ←isTrue c env (eval c env);pure (ForInStep.yield p)else pure (ForInStep.yield r)) (fun p d=>
      if p=true then wpAny (model prog w) A (eval elt env) (fun x i=>
       wpAny (model prog w) A (call (.builtin "list.append") [acc,x]) (fun _ j=>∃m,m<n/\I m j) (notedBy (model prog w) A env fun e s'=>R (.error e) s') i) (notedBy (model prog w) A env fun e s'=>R (.error e) s') d
      else ∃m,m<n/\I m d) (notedBy (model prog w) A env fun e s'=>R (.error e) s') g) (notedBy (model prog w) A env fun e s'=>R (.error e) s') b) (notedBy (model prog w) A env fun e s'=>R (.error e) s') a) (notedBy (model prog w) A env fun e s'=>R (.error e) s') s)
  (n:Nat) (h:I n s):
  codeAny (model prog w) A (.compLoop (.ListComp elt [⟨target,iter,ifs,0⟩] scope pos) 0 it acc env) R s:=by
 refine codeAny_loop rfl I (fun n s y=>?_) n h;show wpAny _ A ((compTurn (.ListComp elt [⟨target,iter,ifs,0⟩] scope pos) 0 it acc env).onRaise (fun x=>do noteFrame x env;theTreesLotGoes x)) _ _ s;refine wpAny_noted ?_;rw[compTurn_list];refine AM (wpAny_standAt (AM (CC (turn n s y) (fun r a k=>?_) fun _ _ f=>f)));cases r with
 |none=>exact Au k
 |some v=>
  refine AM (CC k (fun _ b o=>?_) fun _ _ f=>f);refine AM (CC o (fun _ g q=>AM (CC q (fun p d l=>?_) fun _ _ f=>f)) fun _ _ f=>f);cases p with
  |false=>exact Au ⟨rfl,l⟩
  |true=>exact AM (AM (CC l (fun x i t=>AM (CC t (fun _ j u=>Au (Au ⟨rfl,u⟩)) fun _ _ f=>f)) fun _ _ f=>f))
section
variable {X:Cx}
def tLc (n:TI)(g:TG)(o:TT)(p:TE)(vs:List Nat):TE:=fun e H Q=>n e H fun J h=>∀D,h D=none->∃W:Nat->Nat->Hp->Prop,(∃m,W 0 m (upd h D (.lst [])))/\∀i m H,W i m H->
 (J.stop i H/\Q (.ref D) H)∨(J.go i H/\∃f:Hp->Prop,(∀d,f d->∃j,j<m/\W (i+1) j d)/\∀x d,J.yld i H x d->g x (c5 e vs) d fun a q=>c5 a vs=c5 e vs/\o a q fun b k=>
  if b=true then p a k fun y l=>∃c,l D=some (.lst c)/\c.length<sizeLine/\f (upd l D (.lst (c++[y])))else f k)
theorem BO2 {pins:List (AI×Obj)}{s:AW}{F:St}{H:Hp}{Q:VK}{G tg t:Expr}{K:List Expr}{a:Scope}{own:List (Str×Nat)}{S aa:Pos}{wi:TI}{g:TG}{tt:TT}{te:TE}{use:Option (AH->Sem Unit)}{Qf:AH->AW->Prop}
  (hc:X.calm=true) (hN:X.N.Nodup) (I:Inv X pins F H s) (hi:PI X tg t wi) (ok:A83 X.N X.env.scope a own)
  (hg:∀(s:AW) (H:Hp) (C:AI) (cl:List (Str×AI)) (f:List AI),PG (X.blk s H a (compEnvC a cl C X.env) f) tg g) (ht:∀(s:AW) (H:Hp) (C:AI) (cl:List (Str×AI)) (f:List AI),PTs (X.blk s H a (compEnvC a cl C X.env) f) K tt)
  (he:∀(s:AW) (H:Hp) (C:AI) (cl:List (Str×AI)) (f:List AI),PE (X.blk s H a (compEnvC a cl C X.env) f) G te) (hs:∀x,foldedSetIterable t X.env x=pure x)
  (h:tLc wi g tt te (own.map (·.2)) F H Q)
  (ap:∀D C s' m H',Inv X pins F H' s'->Q (.ref D) H'->s'.heap.Ns C m->FpOk X pins H' C->compPost (model X.prog X.w) X.A X.xe use Qf (.ref D) C (.ok .next) s'):
  wpAny (model X.prog X.w) X.A (comprehension (.ListComp G [⟨tg,t,K,0⟩] a S) a X.env aa (newList []) false (eval t X.env) use) Qf X.xe s:=by
 have U:∀y∈a.names,y.2=.free->∃c,X.env.cells.lookup y.1=some c:=fun y hy e=>by
  rcases ok.free y hy e with k |k
  ·exact I.ok.has _ (.inl k)
  ·exact I.ok.has _ (.inr k)
 refine wpAny_comprehension_free (use:=use) rfl hs (Aj2 U) ok.kind (fun y hy e=>by rw[ok.uniq y hy,e])
  (thn (hi pins s F H _ I h) fun xv s1 hx=>thn hx fun bb s2 h2=>?_)
 obtain⟨it,f,tn,J,O,e,I2,T,ab,f2,q⟩:=h2;subst e;refine CG (AZ9 ?_) (by show 0<=sizeLine;decide);generalize hD:s2.heap.objs.size=D;have aq:O D=none:=I2.hok.fresh (Du hD);obtain⟨W,⟨m0,w0⟩,ac⟩:=q D aq
 -- the new list
 generalize ad:({s2 with heap:=s2.heap.push {cls:=.type "list",data:=.seq ([]:List AH).toArray}}:AW)=d;have I3:Inv X pins F (upd O D (.lst [])) d:=by rw[←ad];refine I2.laid (t':=s2.toks) (fun b o e=>Ak _ e) (Du hD) ⟨Ag _,[],0,.nil,?_⟩;rw[←hD];exact An _ rfl
 have h3:d.heap=s2.heap.push {cls:=.type "list",data:=.seq ([]:List AH).toArray}:=by rw[←ad]
 have sz:∀b∈f,b<s2.heap.objs.size:=fun b l=>by obtain⟨o,e,_⟩:=T.obj _ _ ab b l;exact Ao e
 have V:∀b∈f,FpOk X pins (upd O D (.lst [])) b/\b<d.heap.objs.size:=fun b l=>by have ae:=sz b l;refine⟨⟨?_,(f2 b l).2⟩,by rw[h3,Bi];exact Dt ae⟩;rw[A4 (by rw[←hD];exact Ba ae)];exact(f2 b l).1
 have ar:tn 0 d.heap:=T.keep _ _ _ ab fun b _ o e=>by rw[h3];exact Ak _ e
 have I4:=AX4 I3 ok hN V;have pg:=hg d (upd O D (.lst [])) d.heap.objs.size (cellsFrom (d.heap.objs.size+1) a.names (G4 X.env.cells a.names [])) f;have pt:=ht d (upd O D (.lst [])) d.heap.objs.size (cellsFrom (d.heap.objs.size+1) a.names (G4 X.env.cells a.names [])) f;have pe:=he d (upd O D (.lst [])) d.heap.objs.size (cellsFrom (d.heap.objs.size+1) a.names (G4 X.env.cells a.names [])) f;show codeAny _ _ (.compStart (.ListComp G [⟨tg,t,K,0⟩] a S) 0 (.ref it) (.ref D) (compEnvC a (cellsFrom (d.heap.objs.size+1) a.names (G4 X.env.cells a.names [])) d.heap.objs.size X.env)) (compPost (model X.prog X.w) X.A X.xe use Qf (.ref D) d.heap.objs.size) {d with heap:=pushCells (d.heap.push {cls:=.type "dict",data:=.dict #[]}) a.names};have af:∀b∈f,(upd O D (.lst [])) b=none:=fun b l=>(V b l).1.1;generalize au:compEnvC a (cellsFrom (d.heap.objs.size+1) a.names (G4 X.env.cells a.names [])) d.heap.objs.size X.env=B at I4 pg pt pe ⊢;have cL:B.locals=d.heap.objs.size:=by subst au;rfl
 generalize bc:upd O D (.lst [])=L at I3 I4 pg pt pe w0 af V;generalize av:({d with heap:=pushCells (d.heap.push {cls:=.type "dict",data:=.dict #[]}) a.names}:AW)=s4 at I4 ⊢;have ag:tn 0 s4.heap:=T.keep _ _ _ ar fun b _ o e=>by rw[←av];exact Dj _ _ _ _ (Ak _ e)
 have E:∀{ah:St} {H':Hp} {s':AW},Inv (X.blk d L a B f) [] ah H' s'->(∀b∈f,H' b=none)->∀b∈f,FpOk (X.blk d L a B f) [] H' b:=fun {ah H' s'} I' hn b l=>
  ⟨hn b l,(I'.ok.exf b l).1,I'.ok.exfs b l,.inl l,fun x c e=>(I'.ok.exf b l).2 x c e,fun p hp=>absurd (show p∈([]:List (AI×Obj))++[]from hp) (by simp)⟩
 have P:codeAny (model X.prog X.w) X.A (.compLoop (.ListComp G [⟨tg,t,K,0⟩] a S) 0 (.ref it) (.ref D) B) (compPost (model X.prog X.w) X.A X.xe use Qf (.ref D) d.heap.objs.size) s4:=by
  refine AR0 (fun n s'=>∃i H',Inv (X.blk d L a B f) [] (c5 F (own.map (·.2))) H' s'/\tn i s'.heap/\(∀b∈f,H' b=none)/\W i n H') ?_ m0 ⟨0,L,I4,ag,af,w0⟩;rintro n s5 ⟨i,Y,I5,ai,n5,w5⟩;rcases ac i n Y w5 with ⟨aj,qq⟩ |⟨go,Nx,aw,ak⟩
  ·have td:=T.done (X.blk d L a B f) rfl rfl rfl hc i [] s5 _ Y (fun _ _=>False) I5 (E I5 n5) ai aj;refine BY4 td fun r s6 ⟨hr,I6⟩=>?_;subst hr
   -- back in the def's context
   have I7:Inv X pins F Y s6:=I3.call' (ch:=f) I6.os I6.base I6.hok I6.bare fun b l=>⟨(V b l).1.2.2.2.1,(V b l).1.2.1,(V b l).1.2.2.2.2.1,(V b l).1.2.2.2.2.2⟩;have nC:Y d.heap.objs.size=none:=by have z:Y B.locals=none:=I6.free;rw[cL]at z;exact z
   obtain⟨m,hn,_⟩:=I6.loc;have hn:s6.heap.Ns B.locals m:=hn;rw[cL]at hn;exact ap D d.heap.objs.size s6 m Y I7 qq hn (I3.fpOk (AB _) nC)
  ·have ti:=T.item (X.blk d L a B f) rfl rfl rfl hc i [] s5 _ Y (fun _ _=>False) I5 (E I5 n5) ai go;refine BY4 ti fun r s6 ⟨u,hr,h6⟩=>?_;subst hr;refine BY4 h6 fun _ s7 ⟨x,H7,I7,r7,y7,Z,n7⟩=>?_;have ax:=I7.pinned (E I7 n7) (T.obj _ _ Z);refine BY4 (pg _ s7 _ H7 x u _ ax r7 (ak x H7 y7)) fun _ s8 ⟨M,H8,I8,al,q8⟩=>?_;refine BY4 (pt _ s8 M H8 _ I8 q8) fun b s9 ⟨H9,I9,q9⟩=>?_
   -- the turn's end
   have am:∀{s':AW} {H':Hp},Inv (X.blk d L a B f) ([]++AW0 f s7.heap) M H' s'->Nx H'->∃m,m<n/\∃i H',Inv (X.blk d L a B f) [] (c5 F (own.map (·.2))) H' s'/\tn i s'.heap/\(∀b∈f,H' b=none)/\W i m H':=fun {s' H'} I' nx=>by
    obtain⟨m',hm,w'⟩:=aw H' nx;have R:∀b∈f,∀o,s7.heap.get? b=some o->s'.heap.get? b=some o/\H' b=none:=fun b l o e=>
     let z:=I'.pin (b,o) (AQ _ (AQ _ (r9 l e)))
     ⟨z.1,z.2.1⟩
    have hl:(c5 F (own.map (·.2))).length=M.length:=by rw[←al,a6]
    refine⟨m',hm,i+1,H',(I'.unpinned (pins:=[])).weak hl (fun j v e=>?_),T.keep _ _ _ Z fun b l o e=>(R b l o e).1,fun b l=>?_,w'⟩
    ·rw[←al]at e;exact(AD7 e).1
    ·obtain⟨o,e,_⟩:=T.obj _ _ Z b l;exact(R b l o e).2
   cases b with
   |false=>simp only[Bool.false_eq_true,EJ]at q9 ⊢;exact am I9 q9
   |true=>simp only[EI]at q9 ⊢;refine BY4 (pe _ s9 M H9 _ I9 q9) fun z bd ⟨yv,be,ay,az,bf,an,ao,nx⟩=>?_;exact Ba6 (X:=X.blk d L a B f) ay an ao az fun bg ba=>am ba nx
 exact codeAny_compStart_list P (T.self X.A 0 _ _ _ ag P)
theorem Ar7 (d:X.calm=true)(i:X.N.Nodup)(j:PI X tg iter wi)(k:A83 X.N X.env.scope scope own)
  (l:∀(s:AW) (H:Hp) (C:AI) (cl:List (Str×AI)) (a:List AI),PG (X.blk s H scope (compEnvC scope cl C X.env) a) tg g) (n:∀(s:AW) (H:Hp) (C:AI) (cl:List (Str×AI)) (a:List AI),PTs (X.blk s H scope (compEnvC scope cl C X.env) a) ifs tt)
  (p:∀(s:AW) (H:Hp) (C:AI) (cl:List (Str×AI)) (a:List AI),PE (X.blk s H scope (compEnvC scope cl C X.env) a) elt te) (r:∀x,foldedSetIterable iter X.env x=pure x:=by intro _;rfl):
  PE X (.ListComp elt [⟨tg,iter,ifs,0⟩] scope pos) (tLc wi g tt te (own.map (·.2))):=by
 intro c s K H Q I h;rw[eval_ListComp];refine BO2 d i I j k l n p r h fun D C t m u v q w f=>⟨m,w,fun y z=>?_⟩;obtain⟨A,B,L,E,F,G⟩:=f;exact⟨.ref D,u,v.turned (t':=t.toks) (fun b o J e=>(z.2 b J).trans e) A B E F G,rfl,q⟩
end
theorem Ap4 {K:AA}{a:AI}{xs:List V}{g:TG}{n:TT}{o:TE}{vs:List Nat}{j:St}{r:Hp}{D:AI}{s:Hp->Prop}(d:Nat->Hp->Prop)(u:d 0 (upd r D (.lst [])))(v:∀i H,i<=xs.length->d i H->SqL K H a xs)
  (w:∀i x H,xs[i]?=some x->d i H->g x (c5 j vs) H fun c k=>c5 c vs=c5 j vs/\n c k fun b f=>
   if b=true then o c f fun y H4=>∃acc,H4 D=some (.lst acc)/\acc.length<sizeLine/\d (i+1) (upd H4 D (.lst (acc++[y])))else d (i+1) f) (hd:∀H,d xs.length H->s H):
  ∃W:Nat->Nat->Hp->Prop,(∃m,W 0 m (upd r D (.lst [])))/\∀i m H,W i m H->
   ((Itl K a).stop i H/\s H)∨((Itl K a).go i H/\∃l:Hp->Prop,(∀H',l H'->∃t,t<m/\W (i+1) t H')/\∀x H',(Itl K a).yld i H x H'->g x (c5 j vs) H' fun c k=>c5 c vs=c5 j vs/\n c k fun b f=>
    if b=true then o c f fun y H4=>∃acc,H4 D=some (.lst acc)/\acc.length<sizeLine/\l (upd H4 D (.lst (acc++[y])))else l f):=by
 refine⟨fun i m H=>m=xs.length-i/\i<=xs.length/\d i H,⟨xs.length,by simp,Ag _,u⟩,?_⟩;rintro i m H ⟨rfl,z,p⟩;have q:=v i H z p;by_cases h:i<xs.length
 ·refine .inr ⟨⟨xs,xs[i],q,by simp[h]⟩,d (i+1),fun H' A=>⟨xs.length-(i+1),by omega,rfl,h,A⟩,fun x H' y=>?_⟩;obtain⟨e,y⟩:=y;subst e;exact w i x _ (y xs q) p
 ·have e:i=xs.length:=by omega
  subst e;exact .inl ⟨⟨xs,q,AB _⟩,hd H p⟩
theorem BJ5 {K:AA}{a:AI}{xs:List V}{g:TG}{n:TT}{o:TE}{vs:List Nat}{j:St}{r:Hp}{D:AI}{s:Hp->Prop}(d:Nat->Hp->Prop)(u:d 0 (upd r D (.lst [])))(v:∀i H,i<=xs.length->d i H->SqT K H a xs)
  (w:∀i x H,xs[i]?=some x->d i H->g x (c5 j vs) H fun c k=>c5 c vs=c5 j vs/\n c k fun b f=>
   if b=true then o c f fun y H4=>∃acc,H4 D=some (.lst acc)/\acc.length<sizeLine/\d (i+1) (upd H4 D (.lst (acc++[y])))else d (i+1) f) (hd:∀H,d xs.length H->s H):
  ∃W:Nat->Nat->Hp->Prop,(∃m,W 0 m (upd r D (.lst [])))/\∀i m H,W i m H->
   ((Itt K a).stop i H/\s H)∨((Itt K a).go i H/\∃l:Hp->Prop,(∀H',l H'->∃t,t<m/\W (i+1) t H')/\∀x H',(Itt K a).yld i H x H'->g x (c5 j vs) H' fun c k=>c5 c vs=c5 j vs/\n c k fun b f=>
    if b=true then o c f fun y H4=>∃acc,H4 D=some (.lst acc)/\acc.length<sizeLine/\l (upd H4 D (.lst (acc++[y])))else l f):=by
 refine⟨fun i m H=>m=xs.length-i/\i<=xs.length/\d i H,⟨xs.length,by simp,Ag _,u⟩,?_⟩;rintro i m H ⟨rfl,z,p⟩;have q:=v i H z p;by_cases h:i<xs.length
 ·refine .inr ⟨⟨xs,xs[i],q,by simp[h]⟩,d (i+1),fun H' A=>⟨xs.length-(i+1),by omega,rfl,h,A⟩,fun x H' y=>?_⟩;obtain⟨e,y⟩:=y;subst e;exact w i x _ (y xs q) p
 ·have e:i=xs.length:=by omega
  subst e;exact .inl ⟨⟨xs,q,AB _⟩,hd H p⟩
noncomputable def Bw6 (N:List Str)(b a:Scope)(own:List (Str×Nat)):Bool:=
 (match a.kind with |.function=>true |_=>false)&&(a.names.all fun y=>decide (a.names.lookup y.1=some y.2))&&(own.all fun p=>decide (N[p.2]?=some p.1))&&
  (a.names.all fun y=>match y.2 with
   |.free=>(match b.names.lookup y.1 with |some .cell=>true |some .free=>true |_=>false)
   |.local=>decide (y.1∈own.map (·.1))||decide (y.1∉N)
   |.cell=>decide (y.1∈own.map (·.1))||decide (y.1∉N)
   |_=>true)
theorem k7 (h:Bw6 N sc scope own=true):A83 N sc scope own:=by
 unfold Bw6 at h;simp only[Ar,BO,BC]at h;obtain⟨⟨⟨b,d⟩,f⟩,c⟩:=h;refine⟨?_,d,f,fun y a e=>?_,fun y a e=>?_⟩
 ·split at b
  ·assumption
  ·cases b
 ·have q:=c y a;simp only[e]at q;split at q<;>first |exact .inl (by assumption) |exact .inr (by assumption) |cases q
 ·have q:=c y a;rcases e with e |e<;>(simp only[e,Ck,BC]at q;exact q)
section
variable {prog:Af} {w:Ap} {A:Around} {R:Result->AW->Prop} {s:AW} {elt t0 i0 t1 i1:Expr} {ifs0 ifs1:List Expr} {scope:Scope} {pos:Pos} {it acc:AH} {env:Env}
end
section
variable {X:Cx}
end
section
variable {κ:Type} [DecidableEq κ]
noncomputable def S6 (a:List (κ×V))(k:κ):Option V:=(a.find? fun b=>decide (b.1=k)).map (·.2)
noncomputable def AQ4 (a:List (κ×V))(k:κ)(v:V):List (κ×V):=
 if(a.any fun b=>decide (b.1=k))=true then a.map (fun b=>if b.1=k then(b.1,v)else b)else a++[(k,v)]
theorem J7 {p:κ×V}(e:p.1=k):S6 (p::r) k=some p.2:=by simp[S6,Bm,e]
theorem K4 {p:κ×V}(e:¬p.1=k):S6 (p::r) k=S6 r k:=by simp[S6,Bm,e]
theorem z1 (k:κ):∀a:List (κ×V),(a.any fun b=>decide (b.1=k))=(S6 a k).isSome
 |[]=>rfl
 |p::r=>by
  rw[Ci];by_cases e:p.1=k
  ·simp only[J7 e,AR e,Bool.true_or,Option.isSome_some]
  ·rw[K4 e,AX e,Cw];exact z1 k r
theorem Ah2 (k j:κ)(y:V):∀a:List (κ×V),S6 (a.map fun b=>if b.1=k then(b.1,y)else b) j=(S6 a j).map fun x=>if j=k then y else x
 |[]=>rfl
 |p::r=>by
  have c:=Ah2 k j y r;rw[Ah];by_cases h:p.1=k
  ·rw[AL h];by_cases e:p.1=j
   ·rw[J7 (p:=(p.1,y)) e,J7 e,Cj,AL (e.symm.trans h)]
   ·rw[K4 (p:=(p.1,y)) e,K4 e,c]
  ·rw[AD h];by_cases e:p.1=j
   ·rw[J7 (p:=p) e,J7 e,Cj,AD (fun z=>h (e.trans z))]
   ·rw[K4 (p:=p) e,K4 e,c]
theorem AT6 (k j:κ)(y:V):∀a:List (κ×V),S6 a k=none->S6 (a++[(k,y)]) j=if j=k then some y else S6 a j
 |[],_=>by
  by_cases e:k=j
  ·rw[AL e.symm];exact J7 (p:=(k,y)) e
  ·rw[AD (fun z=>e z.symm)];exact K4 (p:=(k,y)) e
 |p::r,hn=>by
  rw[Bs];have b:¬p.1=k:=fun z=>by rw[J7 z]at hn;cases hn
  rw[K4 b]at hn;have c:=AT6 k j y r hn;by_cases e:p.1=j
  ·rw[J7 e,J7 e,AD (fun z=>b (e.trans z))]
  ·rw[K4 e,K4 e,c]
theorem BA9 (b:List (κ×V))(k j:κ)(y:V):S6 (AQ4 b k y) j=if j=k then some y else S6 b j:=by
 unfold AQ4;by_cases a:(b.any fun c=>decide (c.1=k))=true
 ·rw[AL a,Ah2];rw[z1]at a;by_cases e:j=k
  ·obtain⟨x,d⟩:=BU.mp a;rw[AL e,e,d,Cj,AL rfl]
  ·rw[AD e];cases S6 b j with
   |none=>rfl
   |some x=>rw[Cj,AD e]
 ·rw[AD a];refine AT6 k j y b ?_;rw[z1]at a;cases q:S6 b k with
  |none=>rfl
  |some x=>rw[q]at a;exact(a rfl).elim
theorem AB5 (a:List (κ×V))(k:κ)(v:V):(AQ4 a k v).length<=a.length+1:=by
 unfold AQ4;split
 ·rw[AJ];omega
 ·rw[AO,AZ,Bt];omega
theorem RelO.isSome_eq (r:RelO o u):o.isSome=u.isSome:=by
 cases o with
 |none=>cases u with
  |none=>rfl
  |some _=>exact(show False from r).elim
 |some _=>cases u with
  |none=>exact(show False from r).elim
  |some _=>rfl
theorem KV.val (r:KV kvs vs)(k:κ):RelO (S6 kvs k) (valueAt vs k):=by
 unfold KV at r
 induction r with
 |nil=>exact True.intro
 | @cons p q i a h t f=>
  obtain⟨d,g⟩:=h;by_cases e:p.1=k
  ·have c:q.1=k:=d.symm.trans e;have b:valueAt (q::a) k=some q.2:=by simp[valueAt,Bm,c]
   rw[J7 e,b];exact g
  ·have c:¬q.1=k:=fun z=>e (d.trans z);have b:valueAt (q::a) k=valueAt a k:=by simp[valueAt,Bm,c]
   rw[K4 e,b];exact f
theorem KV.any (r:KV kvs vs)(k:κ):(kvs.any fun a=>decide (a.1=k))=vs.any fun a=>decide (a.1=k):=by
 unfold KV at r
 induction r with
 |nil=>rfl
 |cons h t b=>rw[Ci,Ci,b,h.1]
theorem KV.repl (r:KV kvs vs)(k:κ)(c:RelV y u):
  KV (kvs.map fun a=>if a.1=k then(a.1,y)else a) (vs.map fun a=>if a.1=k then(a.1,u)else a):=by
 unfold KV at r ⊢
 induction r with
 |nil=>exact .nil
 | @cons p q g i h t d=>
  rw[Ah,Ah];refine .cons ?_ d;obtain⟨b,f⟩:=h;by_cases e:p.1=k
  ·rw[AL e,AL (b.symm.trans e)];exact⟨b,c⟩
  ·rw[AD e,AD (fun z=>e (b.trans z))];exact⟨b,f⟩
theorem KV.put (r:KV kvs vs)(k:κ)(a:RelV y u):KV (AQ4 kvs k y) (stored vs k u):=by
 unfold AQ4 stored;rw[r.any k];by_cases e:(vs.any fun b=>decide (b.1=k))=true
 ·rw[AL e,AL e];exact r.repl k a
 ·rw[AD e,AD e];exact Paired.snoc r ⟨rfl,a⟩
theorem KV.keys {a:List (κ×V)}{vs:List (κ×AH)}(r:KV a vs):a.map (·.1)=vs.map (·.1):=by
 unfold KV at r
 induction r with
 |nil=>rfl
 |cons h t b=>rw[Ah,Ah,b,h.1]
theorem KV.length (r:KV kvs vs):kvs.length=vs.length:=BQ r
end
theorem Aj7 (r:RelV (kV k) u):(C8 P w).is k u=true:=by
 cases k with
 |inl i=>obtain⟨t,e⟩:=(show ∃t,u=Value.int i t from r);subst e;exact c7 P w i t
 |inr x=>obtain⟨t,e⟩:=(show ∃t,u=Value.str x t from r);subst e;exact b7 P w x t
theorem AU3:∀{a:List Key} {us:List AH},Vals (a.map kV) us->ItemsAre (C8 P w) a us
 |[],_,r=>by rw[CZ]at r;cases r;exact .nil
 |k::a,_,r=>by
  rw[Ah]at r;cases r with
  |cons h t=>exact .cons (Aj7 h) (AU3 t)
noncomputable abbrev KT (H:Hp):List (List Key×V)->List (List Key×AI×AH)->Prop:=Paired fun p q=>p.1=q.1/\H q.2.1=some (.tup (p.1.map kV))/\RelV p.2 q.2.2
theorem KT.val (r:KT H kvs xs)(k:List Key):RelO (S6 kvs k) ((atKey xs k).map (·.2)):=by
 induction r with
 |nil=>exact True.intro
 | @cons p q i a h t f=>
  obtain⟨d,_,g⟩:=h;by_cases e:p.1=k
  ·have c:q.1=k:=d.symm.trans e;have b:atKey (q::a) k=some q.2:=by simp[atKey,Bm,c]
   rw[J7 e,b];exact g
  ·have c:¬q.1=k:=fun z=>e (d.trans z);have b:atKey (q::a) k=atKey a k:=by simp[atKey,Bm,c]
   rw[K4 e,b];exact f
theorem KT.repl (r:KT H kvs xs)(k:List Key)(d:RelV y u):
  KT H (kvs.map fun b=>if b.1=k then(b.1,y)else b) (xs.map (putAt k u)):=by
 induction r with
 |nil=>exact .nil
 | @cons p q i j h t f=>
  rw[Ah,Ah];refine .cons ?_ f;obtain⟨a,c,g⟩:=h;unfold putAt;by_cases e:p.1=k
  ·rw[AL e,AL (a.symm.trans e)];exact⟨a,c,d⟩
  ·rw[AD e,AD (fun z=>e (a.trans z))];exact⟨a,c,g⟩
theorem KT.put (r:KT H kvs xs)(k:List Key)(c:H b=some (.tup (k.map kV)))(a:RelV y u):
  KT H (AQ4 kvs k y) (storedH xs k b u):=by
 have e:(kvs.any fun d=>decide (d.1=k))=(atKey xs k).isSome:=by rw[z1,(r.val k).isSome_eq,Co]
 unfold AQ4 storedH;rw[e];by_cases q:(atKey xs k).isSome=true
 ·rw[AL q,AL q];exact r.repl k a
 ·rw[AD q,AD q];exact Paired.snoc r ⟨rfl,c,a⟩
theorem KT.keeps (r:KT H kvs xs)(a:∀b ys,H b=some (.tup ys)->H' b=some (.tup ys)):KT H' kvs xs:=
 Paired.mapP r fun _ _ z=>⟨z.1,a _ _ z.2.1,z.2.2⟩
section
variable {P:Af} {w:Ap} {H:Hp} {h:BR} {a:AI}
theorem Bk3 (b:HOk P w H h)(e:Rd H a u):ObjOk P w H h a u:=e.ok b
theorem BD1 (b:HOk P w H h)(e:Rd H a (.dK kvs)):kvs.length<=sizeLine/\(a==sysModules)=false/\∃vs,KV kvs vs/\h.DictOf (C8 P w) a vs:=
 show ObjOk P w H h a (.dK kvs)from Bk3 b e
theorem Bs3 (b:HOk P w H h)(e:H a=some (.dK kvs)):kvs.length<=sizeLine/\(a==sysModules)=false/\∃vs,KV kvs vs/\h.DictOf (C8 P w) a vs:=BD1 b (.inl e)
theorem AJ4 (c:HOk P w H h)(e:H a=some (.tup (ks.map kV))):(tupleKind (C8 P w)).is h ks a:=by obtain⟨_,b,r,o,d,f,n,g⟩:=(show ObjOk P w H h a (.tup (ks.map kV))from c a _ e);exact⟨o,b.toArray,n,d,f,g,by simpa using AU3 r⟩
theorem A56 (d:HOk P w H h)(e:Rd H a (.dT kvs)):kvs.length<=sizeLine/\(a==sysModules)=false/\
  ∃xs,KT H kvs xs/\h.DictOfH (tupleKind (C8 P w)) a xs:=by
 obtain⟨z,y,xs,r,o,g,i,j,k,n,s,u⟩:=(show ObjOk P w H h a (.dT kvs)from Bk3 d e);refine⟨z,y,xs,r,o,g,i,j,k,n,s,fun x b=>?_,u⟩;have c:∀{l:List (List Key×V)} {m:List (List Key×AI×AH)},KT H l m->∀x∈m,(tupleKind (C8 P w)).is h x.1 x.2.1:=by
  intro l m q
  induction q with
  |nil=>intro x b;exact nomatch b
  | @cons p q A B f t v=>
   intro x b;rcases AK.mp b with e |b
   ·subst e;exact AJ4 d (by rw[←f.1];exact f.2.1)
   ·exact v x b
 exact c r x b
theorem Bu2 (b:HOk P w H h)(e:H a=some (.dT kvs)):kvs.length<=sizeLine/\(a==sysModules)=false/\
  ∃xs,KT H kvs xs/\h.DictOfH (tupleKind (C8 P w)) a xs:=A56 b (.inl e)
end
def DGet (H:Hp)(a:AI)(y:V)(r:Option V):Prop:=
 (∃c k,Rd H a (.dK c)/\y=kV k/\r=S6 c k)∨∃c k b,Rd H a (.dT c)/\y=.ref b/\H b=some (.tup (k.map kV))/\r=S6 c k
def DPut (H:Hp)(a:AI)(y v:V)(H':Hp):Prop:=
 (∃c k,H a=some (.dK c)/\y=kV k/\c.length<sizeLine/\H'=upd H a (.dK (AQ4 c k v)))∨
 ∃c k b,H a=some (.dT c)/\y=.ref b/\H b=some (.tup (k.map kV))/\c.length<sizeLine/\H'=upd H a (.dT (AQ4 c k v))
theorem DGet.t {k:List Key}(e:H a=some (.dT kvs))(c:H b=some (.tup (k.map kV))):DGet H a (.ref b) (S6 kvs k):=.inr ⟨kvs,k,b,.inl e,rfl,c,rfl⟩
theorem DPut.t {c:List (List Key×V)}{k:List Key}(e:H a=some (.dT c))(d:H b=some (.tup (k.map kV)))(f:c.length<sizeLine):
  DPut H a (.ref b) v (upd H a (.dT (AQ4 c k v))):=.inr ⟨c,k,b,e,rfl,d,f,rfl⟩
section
variable {X:Cx} {pins:List (AI×Obj)} {σ:St} {H:Hp} {s:AW} {a:AI} {y v:V} {u r:AH} {o:Option V} {A:Around} {E:AH->AW->Prop}
theorem Inv.big (I:Inv X pins σ H s):sysModules<s.heap.objs.size:=by have h:mainGlobals<s.heap.objs.size:=(I.mod.glob.keeps I.bk).lt;exact Nat.lt_trans (by decide) h
theorem Av2 (t:A.units+1<cLine)(I:Inv X pins σ H s)(g:DGet H a y (some v))(r:RelV y u)(h:∀f s',Inv X pins σ H s'->RelV v f->Q f s'):
  wpAny (model X.prog X.w) A (getItem (.ref a) u) Q E s:=by
 rcases g with ⟨i,k,e,j,l⟩ |⟨i,k,b,e,j,x,l⟩
 ·subst j;obtain⟨z,B,C,c,m⟩:=BD1 I.hok e;obtain⟨f,n,d⟩:=RelO.some_of (v:=v) (o:=valueAt C k) (by rw[l];exact c.val k);exact wpAny_getItem_of (Aj7 r) m.mapOf n (h f _ (I.tok _) d)
 ·subst j;cases(show u=Value.ref b from r);obtain⟨z,B,D,c,m⟩:=A56 I.hok e;obtain⟨f,n,d⟩:=RelO.some_of (v:=v) (o:=(atKey D k).map (·.2)) (by rw[l];exact c.val k);obtain⟨p,F,q⟩:=Ay.mp n;refine wpAny_getItem_heap (Cr t) (AJ4 I.hok x) m F ?_;rw[q];exact h f _ (I.tok _) d
theorem B06 (n:A.units+1<cLine)(I:Inv X pins σ H s)(g:DGet H a y o)(m:RelV y u)(h:∀s',Inv X pins σ H s'->Q (.bool o.isSome) s'):
  wpAny (model X.prog X.w) A (compareOp .In u (.ref a)) Q E s:=by
 rcases g with ⟨d,k,e,f,l⟩ |⟨d,k,b,e,f,p,l⟩
 ·subst f;obtain⟨z,i,r,c,j⟩:=BD1 I.hok e;refine wpAny_in_of (Aj7 m) i j.mapOf ?_;rw[←(c.val k).isSome_eq,←l];exact h _ (I.tok _)
 ·subst f;cases(show u=Value.ref b from m);obtain⟨z,i,t,c,j⟩:=A56 I.hok e;refine wpAny_in_heap (Cr n) (AJ4 I.hok p) i j ?_;have q:=(c.val k).isSome_eq;rw[Co]at q;rw[←q,←l];exact h _ (I.tok _)
theorem Ay3 (I:Inv X pins σ H s)(d:Mut (H a))(f:Heap.SameBut a s.heap h')(g:∃q,h'.get? a=some q)(c:ObjOk X.prog X.w (upd H a ob) h' a ob):
  Inv X pins σ (upd H a ob) {s with heap:=h',toks:=t'}:=
 I.write (x:=a) (e:=a) d (.inl rfl) (fun b q h z=>(f.2 b h).trans z) g c
theorem Bl0 (z:kvs.length<=sizeLine)(hd:(a==sysModules)=false)(b:KV kvs vs)(c:h'.DictOf (C8 P w) a vs):
  ObjOk P w H' h' a (.dK kvs):=⟨z,hd,vs,b,c⟩
theorem Ax5 {Q:Unit->AW->Prop}(hu:A.units+1<cLine)(I:Inv X pins σ H s)(g:DPut H a y v H')(ry:RelV y u)(rv:RelV v r)(h:∀s',Inv X pins σ H' s'->Q () s'):
  wpAny (model X.prog X.w) A (setItem (.ref a) u r) Q E s:=by
 rcases g with ⟨kvs,k,e,ey,l,eH⟩ |⟨kvs,k,b,e,ey,eb,l,eH⟩
 ·subst ey eH;obtain⟨z,hd,vs,rel,dd⟩:=Bs3 I.hok e;have hz:vs.length<=sizeLine:=by rw[←rel.length];exact z
  have hl:(AQ4 kvs k v).length<=sizeLine:=by have:=AB5 kvs k v;omega
  refine wpAny_setItem_pairs (hsz:=hz) (Aj7 ry) dd fun h' dd' hs=>h _ ?_;have he:∃q,h'.get? a=some q:=let ⟨q,_,_,hq,_⟩:=dd';⟨q,hq⟩;exact Ay3 I (by rw[e];exact True.intro) hs he (Bl0 hl hd (rel.put k rv) dd')
 ·subst ey eH;cases(show u=Value.ref b from ry);obtain⟨z,hd,xs,rel,dd⟩:=Bu2 I.hok e;have hz:xs.length<=sizeLine:=by rw[←BQ rel];exact z
  have hl:(AQ4 kvs k v).length<=sizeLine:=by have:=AB5 kvs k v;omega
  refine wpAny_setItem_heap (hsz:=hz) (Cr hu) (AJ4 I.hok eb) dd fun h' dd' hs=>h _ ?_;obtain⟨q,es,ep,hq,h2,h3,h4,_,h5⟩:=dd';refine Ay3 I (by rw[e];exact True.intro) hs ⟨q,hq⟩ ⟨hl,hd,_,(rel.put k eb rv).keeps fun c ys ec=>?_,q,es,ep,hq,h2,h3,h4,h5⟩;rw[A4 (E8 ec e (fun z=>nomatch z))];exact ec
end
section
variable {X:Cx} {pins:List (AI×Obj)} {σ:St} {H:Hp} {s:AW} {a:AI} {kvs:List (Key×V)} {k:Key} {u:AH} {A:Around} {E:AH->AW->Prop}
end
def Bs0 (i:Expr):Prop:=∀a b,subscripted i false a b=operate [a,b] (getItem a b)
theorem At7 {prog:Af}{w:Ap}{A:Around}{E:AH->AW->Prop}{s:AW}{g:Env}{b a:Expr}{m:Pos}{T id:String}{Q:AH->AW->Prop}
  (p:typeLookup (.type T) "__getitem__"=pure (some (.builtin id))) (q:Bs0 a)
  (h:wpAny (model prog w) A (eval b g) (fun o e=>wpAny (model prog w) A (eval a g) (fun i c=>c.TypeIs o T/\wpAny (model prog w) A (getItem o i) Q E c) E e) E s):
  wpAny (model prog w) A (eval (.Subscript b a m) g) Q E s:=by
 refine Subscript_ (CC h (fun o e k=>CC k (fun i c d=>?_) fun _ _ x=>x) fun _ _ x=>x);obtain⟨n,d⟩:=d;unfold subscriptTail;refine AM ?_;rw[getitemInPython_of_ne n.not_modules];refine AM (Dg n p ?_);have j:wpAny (model prog w) A (subscripted a false o i) (fun r f=>wpAny (model prog w) A (letTemporaryGo b o r>>=fun _=>pure r) Q E f) E c:=by rw[q o i];exact wpAny_operating (CC d (fun r f l=>AM (wpAny_letTemporaryGo (Au l))) fun _ _ x=>x)
 first
  |exact Au (AM j)
  |exact AM (Au (AM j))
  |exact AM j
theorem AZ2 (I:Inv X pins σ H s)(g:DGet H a y o):s.TypeIs (.ref a) "dict":=by
 rcases g with ⟨c,k,e,_,_⟩ |⟨c,k,b,e,_,_,_⟩
 ·obtain⟨_,_,f,_,d⟩:=BD1 I.hok e;exact d.typeIs
 ·obtain⟨_,_,h,_,d⟩:=A56 I.hok e;exact d.typeIs
inductive BE8 (Q:VK) (x:V) (y:V) (H2:Hp):Prop
 |mk:∀a v,x=.ref a->DGet H2 a y (some v)->Q v H2->BE8 Q x y H2
def BV4 (b c:TE):TE:=fun a H Q=>b a H fun x d=>c a d fun y e=>BE8 Q x y e
inductive Be5 (Q:VK) (y:V) (x:V) (H2:Hp):Prop
 |mk:∀a o,x=.ref a->DGet H2 a y o->Q (.bl o.isSome) H2->Be5 Q y x H2
def By8 (b c:TE):TE:=fun a H Q=>b a H fun y d=>c a d fun x e=>Be5 Q y x e
inductive BF1 (D:Ends) (σ:St) (v:V) (x:V) (y:V) (H3:Hp):Prop
 |mk:∀a H4,x=.ref a->DPut H3 a y v H4->D.nx σ H4->BF1 D σ v x y H3
def Bo9 (b c d:TE):TS:=fun D a H=>d a H fun v e=>b a e fun x f=>c a f fun y g=>BF1 D a v x y g
section
variable {X:Cx} {o i e value:Expr} {pos pos' tpos:Pos} {td ty tv:TE}
theorem BU9 (f:X.A.units+1<cLine)(j:PE X o td)(k:PE X i ty)(l:Bs0 i):PE X (.Subscript o i pos) (BV4 td ty):=by intro b s d H Q I h;refine At7 PySem.F.slot_dict_getitem.lookup l (thn (j b s d H _ I h) fun u m ⟨x,n,p,q,r⟩=>thn (k b m d n _ p r) fun D E ⟨y,t,e,w,a,v,z,g,B⟩=>?_);subst z;obtain rfl:u=Value.ref a:=q;exact⟨AZ2 e g,Av2 f e g w fun G J C c=>⟨v,t,C,c,B⟩⟩
theorem Bi6 (d:X.A.units+1<cLine)(e:PE X i ty)(f:PE X o td):PC X .In i o (By8 ty td):=by intro b s c H Q I h;refine thn (e b s c H _ I h) fun B j ⟨y,k,l,m,n⟩=>thn (f b j c k _ l n) fun u C ⟨x,p,q,r,a,t,v,g,w⟩=>?_;subst v;obtain rfl:u=Value.ref a:=r;exact B06 d q g m fun D z=>⟨.bl t.isSome,p,z,rfl,w⟩
theorem BW4 (d:X.A.units+1<cLine)(e:PE X o td)(f:PE X i ty)(j:PE X value tv)(k:swapsWith value (some (.Subscript o i pos')) pos.line X.env=pure false):
  PS X (.Assign [.Subscript o i pos'] value pos) (Bo9 td ty tv):=by
 intro b s c H D I h;refine wpAny_Assign_Subscript (thn (j b s c H _ I h) fun r l ⟨v,m,n,p,q⟩=>thn (e b l c m _ n q) fun u t ⟨x,w,z,B,C⟩=>thn (f b t c w _ z C) fun M N ⟨y,O,E,F,a,G,J,g,K⟩=>?_) k;subst J;obtain rfl:u=Value.ref a:=B;exact Ax5 d E g F p fun P L=>⟨c,G,L,K⟩
end
theorem A49 (h:BR)(a:sysModules<h.objs.size):ObjOk P w H (h.push {cls:=.type "dict",data:=.dict #[]}) h.objs.size (.dT []):=
 ⟨Ag _,BW.mpr (BD (Ba a)),[],.nil,_,#[],0,An _ rfl,⟨rfl,rfl,rfl⟩,rfl,rfl,List.nodup_nil⟩
def Bd8:TE:=fun _ H Q=>∀p,H p=none->Q (.ref p) (upd H p (.dT []))
section
variable {X:Cx} {pos:Pos}
theorem A63:PE X (.Dict [] [] pos) Bd8:=fun b s c H Q I h=>
 wpAny_Dict_empty ⟨.ref s.heap.objs.size,_,I.laid (a:=s.heap.objs.size) (o:=.dT []) (t':=s.toks) (fun _ _ q=>Ak _ q) (AB _) (A49 s.heap I.big),rfl,h _ (I.hok.fresh (AB _))⟩
end
section
variable {X:Cx} {pins:List (AI×Obj)} {σ:St} {H:Hp} {s:AW} {a:AI} {y d:V} {u r:AH} {o:Option V} {A:Around} {E:AH->AW->Prop}
end
section
variable {X:Cx} {o e f:Expr} {apos cpos:Pos} {td ty tx:TE}
end
section
variable {X:Cx} {pins:List (AI×Obj)} {σ:St} {H:Hp} {s:AW} {a:AI} {kvs:List (Key×V)} {A:Around} {E:AH->AW->Prop}
end
section
variable {X:Cx} {pins:List (AI×Obj)} {σ:St} {H:Hp} {s:AW} {a:AI} {y:V} {u:AH} {A:Around} {E:AH->AW->Prop}
end
section
variable {prog:Af} {w:Ap} {A:Around} {E:AH->AW->Prop}
end
section
variable {X:Cx}
end
theorem AG7:bootBuiltins "reversed"=some (.type "reversed"):=by decide+kernel
section
variable {X:Cx} {pins:List (AI×Obj)} {σ:St} {H:Hp} {s:AW} {h':BR}
theorem Inv.turnedL {t':Nat}{ch:List AI}(I:Inv X pins σ H s)(k:∀b o,b∉ch->s.heap.get? b=some o->h'.get? b=some o)(d:∀b∈ch,FpOk X pins H b):Inv X pins σ H {s with heap:=h',toks:=t'}:=by
 have f:∀b u,H b=some u->b∉ch:=fun b u e z=>by have q:=(d b z).1;rw[q]at e;cases e
 refine I.step (g':=s.gens) (d':=s.drawn) (ch:=ch) (fun b g=>⟨(d b g).2.2.2.1,(d b g).2.1,(d b g).2.2.2.2.1,(d b g).2.2.2.2.2⟩) (fun b o _ _ a e _=>k b o a e) (fun b o _ _ a e _=>⟨o.slots,k b o a e⟩)
  (fun _ _ _ _ n=>n) (fun b o a e=>⟨o,k b o a e⟩) (fun _ _ e=>e) (fun _ _ _ e=>e) (fun b p e=>⟨#[],by rw[e];simp⟩) (fun m h=>?_) (fun b u e=>?_) I.bare
 ·obtain⟨o,i,j,l,r⟩:=h;exact⟨o,i,j,k _ o (fun z=>(d _ z).2.1 rfl) l,r⟩
 ·refine(I.hok b u e).stay (fun c v a q=>k c v ?_ q) (fun _ q=>q) fun _ _ q=>q;rcases a with z |z
  ·rw[z];exact f b u e
  ·exact f c _ z
theorem Inv.turnedNew {t':Nat}{ch:List AI}{T:AI}{i:HO}(I:Inv X pins σ H s)(k:∀b o,b∉ch->s.heap.get? b=some o->h'.get? b=some o)(f:∀b∈ch,FpOk X pins H b)(l:s.heap.objs.size<=T)
  (j:ObjOk X.prog X.w (upd H T i) h' T i):Inv X pins σ (upd H T i) {s with heap:=h',toks:=t'}:=by
 have g:H T=none:=I.hok.fresh l;have h:∀b u,H b=some u->b∉ch:=fun b u e z=>by have q:=(f b z).1;rw[q]at e;cases e
 refine I.step (g':=s.gens) (d':=s.drawn) (ch:=ch) (fun b a=>⟨(f b a).2.2.2.1,(f b a).2.1,(f b a).2.2.2.2.1,(f b a).2.2.2.2.2⟩) (fun b o _ _ d e _=>k b o d e) (fun b o _ _ d e _=>⟨o.slots,k b o d e⟩)
  (fun b o _ e n=>?_) (fun b o d e=>⟨o,k b o d e⟩) (fun b p e=>?_) (fun b o u e=>?_) (fun b B e=>⟨#[],?_⟩) (fun m t=>?_) (fun b u e=>?_) I.bare
 ·rw[A4 (Ba (Av (Ao e) l))];exact n
 ·rw[A4 (A7 e g)];exact e
 ·rw[A4 (A7 e g)];exact e
 ·rw[A4 (A7 e g),e];simp
 ·obtain⟨o,x,y,A,r⟩:=t;exact⟨o,x,y,k _ o (fun z=>(f _ z).2.1 rfl) A,r⟩
 ·by_cases a:b=T
  ·subst a;rw[A1]at e;cases e;exact j
  ·rw[A4 a]at e;refine(I.hok b u e).stay (fun c v d q=>k c v ?_ q) (fun c q=>by rw[A4 (A7 q g)];exact q) fun c p q=>by rw[A4 (A7 q g)];exact q
   rcases d with z |z
   ·rw[z];exact h b u e
   ·exact h c _ z
end
section
variable {X:Cx}
theorem Ab3 (I:Inv X pins σ H s)(o:Obj)
  (T:BF2 X.prog X.w X.K tg J [s.heap.objs.size] s.heap.objs.size tn) (st:tn 0 (s.heap.push o)) (q:R J H):PIE X pins σ tg R (.ref s.heap.objs.size) {s with heap:=s.heap.push o,toks:=tk}:=by
 refine⟨s.heap.objs.size,[s.heap.objs.size],tn,J,H,rfl,I.kept fun b c e=>Ak _ e,T,st,fun b a=>?_,q⟩;have e:b=s.heap.objs.size:=by simpa using a
 subst e;exact I.fpOk (AB _) (I.hok.fresh (AB _))
end
section
variable {X:Cx} {tg:Expr}
end
noncomputable def Its (x:Str):It:=⟨fun i _=>i<x.cps.size,fun i H v a=>a=H/\∃c,x.cps[i]?=some c/\v=.str ⟨#[c]⟩,fun i _=>x.cps.size<=i⟩
theorem Af0 {P:Af}{w:Ap}{K:AA}{tg:Expr}(it:AI)(x:Str)(t:Tok)(ty:String)(hty:ty="str_ascii_iterator"∨ty="str_iterator"):
  BF2 P w K tg (Its x) [it] it (fun i h=>h.IsStrIter it ty x t i) where
 mem:=by simp
 obj:=fun i h st b hb=>by
  have e:b=it:=by simpa using hb
  subst e;obtain⟨o,e,c,d⟩:=st;exact⟨o,e,fun v z=>by rw[d]at z;cases z⟩
 keep:=fun i h h' st k=>let ⟨o,ho,r⟩:=st;⟨o,k it (by simp) o ho,r⟩
 item:=by
  intro X hP hw hK hc i pins s σ H E I hf st hg;subst hP hw hK;obtain⟨f0,f1,f2,f3,f4,f5⟩:=hf it (by simp);have W:Walks X.prog X.w X.A it [it] [it] x.cps.size (SignAt x) (fun i h=>h.IsStrIter it ty x t i):=by
   rcases hty with e |e
   ·rw[e];exact Walks.strAscii (I.ok.hd hc) it x t
   ·rw[e];exact Walks.strWide (I.ok.hd hc) it x t
  have hno:["enumerate","zip","dict_itemiterator","dict_reverseitemiterator","odict_iterator","itertools.zip_longest","itertools.pairwise"].contains ty=false:=by
   rcases hty with e |e
   ·rw[e];decide
   ·rw[e];decide
  refine W.item i s _ _ hg st fun v h' tk hv st' kk=>?_;obtain⟨c,u,hcx,rfl⟩:=hv;have I1:Inv X pins σ H {s with heap:=h',toks:=tk}:=I.turned (fun b o hb e=>kk b o (by simpa using hb) e) f0 f1 f3 f4 f5;obtain⟨oi,e,cc,dd⟩:=id st';exact⟨_,rfl,Aw4 (s:={s with heap:=h',toks:=tk}) e cc dd hno ⟨.str ⟨#[c]⟩,H,I1,⟨u,rfl⟩,⟨rfl,c,hcx,rfl⟩,st',fun b hb=>(hf b hb).1⟩⟩
 done:=by
  intro X hP hw hK hc i pins s σ H E I hf st hg;subst hP hw hK;obtain⟨f0,f1,f2,f3,f4,f5⟩:=hf it (by simp);have hx:x.cps[i]?=none:=Array.getElem?_eq_none hg;rcases hty with e |e
  ·rw[e]at st;exact wpAny_pyNext_ascii_end (I.ok.hd hc) st hx fun h' eb=>⟨rfl,I.turned (t':=s.toks) (fun b o hb e=>eb b o hb e) f0 f1 f3 f4 f5⟩
  ·rw[e]at st;exact wpAny_pyNext_wide_end (I.ok.hd hc) st hx fun h' eb=>⟨rfl,I.turned (t':=s.toks) (fun b o hb e=>eb b o hb e) f0 f1 f3 f4 f5⟩
 self:=fun A i s Q E st h=>by
  rcases hty with e |e
  ·rw[e]at st;exact wpAny_pyIter_striter_ascii st h
  ·rw[e]at st;exact wpAny_pyIter_striter_wide st h
inductive Ba4 (R:It->Hp->Prop) (v:V) (H1:Hp):Prop
 |mk:∀x,v=.str x->R (Its x) H1->Ba4 R v H1
def Bz1 (a:TE):TI:=fun b H R=>a b H fun v c=>Ba4 R v c
theorem Bg1 (he:PE X e te):PI X tg e (Bz1 te):=by
 intro pins s σ H R I h;refine thn (he pins s σ H _ I h) fun v s1 ⟨y,H1,I1,r1,x,ex,q⟩=>?_;subst ex;obtain⟨t,rfl⟩:=r1;cases ha:x.cps.all (· < 128)
 ·exact wpAny_pyIter_wide ha (Ab3 (tk:=s1.toks) I1 _ (Af0 _ x t "str_iterator" (.inr rfl)) ⟨_,An _ rfl,rfl,rfl⟩ q)
 ·exact wpAny_pyIter_ascii ha (Ab3 (tk:=s1.toks) I1 _ (Af0 _ x t "str_ascii_iterator" (.inl rfl)) ⟨_,An _ rfl,rfl,rfl⟩ q)
section
variable {prog:Af} {w:Ap} {A:Around} {E:AH->AW->Prop} {s:AW}
theorem Ap3 (hd:(d==sysModules)=false)(b:s.heap.get? d=some o)(e:o.ExactDict)(a:o.data=.dict es ep)
  (f:Q (.ref s.heap.objs.size) {s with heap:=s.heap.push {cls:=.type "dict_keyiterator",data:=.fields #[.ref d,.int 0 0,.int es.size 0,.int ep 0]}}):
  wpAny (model prog w) A (pyIter (.ref d)) Q E s:=by
 have c:s.TypeIs (.ref d) "dict":=⟨o,b,e.1⟩;refine wpAny_pyIter_slot c F.slot_dict_iter (DD F.slot_dict_iter c F.entry_dict_iter ?_ (F.args_dict_iter_1 _));unfold Builtin.«dict.__iter__»;refine AM ?_;unfold Builtin.Dict.dictSlotNone;refine AM (wpAny_notOrdered_dict c ?_);show wpAny _ _ (pure (Value.ref d)) _ _ s;refine Au ?_;show wpAny _ _ (Builtin.Dict.showsAll d>>=_) _ _ s;unfold Builtin.Dict.showsAll;rw[AD (by rw[hd];exact Ai)];refine AM (Au ?_);refine AM (wpAny_dictEntries b a ?_);refine AM (wpAny_dictEpoch b a ?_);refine AM (CG (Au ⟨_,rfl,"dict_keyiterator",_,⟨_,An _ rfl,rfl⟩,DH.lookup,?_⟩));simpa [rawInt]using f
theorem AQ5 (p:A.handled=none)(c:s.heap.IsKeyIter it d i n ep)(e:s.heap.get? d=some od)(f:od.data=.dict es ep)
  (hsz:es.size=n) (j:n<=i) (q:∀h',Heap.ExtBut it s.heap h'->Q none {s with heap:=h'}):wpAny (model prog w) A (pyNext (.ref it)) Q E s:=by
 obtain⟨o,k,r,l⟩:=id c;unfold pyNext;refine AM (EC (DY (name:=Str.ofString "__next__") c.typeIs DH
  (DD DH c.typeIs F.entry_dict_keyiterator_next ?_ (F.args_dict_keyiterator_next_1 _))))
 refine AM (Au ?_);refine AM ?_;refine AM ?_
 first |refine AM (wpAny_typeNameOfWhole_keyiter c.typeIs (Au ?_)) |refine AM (wpAny_typeNameOf_keyiter c.typeIs (Au ?_))
 refine AM (wpAny_fieldsOf k l ?_);have g:Builtin.Dict_items.ownsTuple "dict_keyiterator"=false:=by decide
 simp only[g,Bool.false_eq_true,EJ];show wpAny _ _ (if(Value.ref d==Value.none)=true then _ else _) _ _ s;rw[AD (show ¬((Value.ref d==Value.none)=true)from Ai)];refine AM (Au ?_);refine AM (wpAny_dictEntries e f ?_);rw[AD (by rw[hsz];simp)];refine AM (Au ?_);refine AM (wpAny_dictEpoch e f ?_);rw[AD (by simp)];refine Au ?_;have h:es.size<=i:=by rw[hsz];exact j
 simp only[show ¬((i:Int)<0)from by omega,EJ,Int.toNat_natCast,Array.getElem?_eq_none h];refine AM ?_
 first |refine AM (wpAny_typeNameOfWhole_keyiter c.typeIs (Au ?_)) |refine AM (wpAny_typeNameOf_keyiter c.typeIs (Au ?_))
 show wpAny _ _ (setField (.ref it) 0 .none>>=_) _ _ s;refine AM (Dn k l (by simp) ?_);show wpAny _ _ (newExc (.type "StopIteration") []>>=_) _ _ _;refine AM ?_;simp only[newExc,newTuple];refine AM (CG ?_ (by size_fits));refine AM (m:=firstArgMember _ _) (Cs (a:=Value.none) (by first |rfl |(simp only[firstArgMember];rfl)) ?_);refine CG ?_ (by size_fits);simp only[raiseNew];refine AM (wpAny_handled ?_);rw[show A.in1.handled=none from p];refine AM (Au (wpAny_throw ?_));refine AM (wpAny_isInstance (T:="StopIteration") (b:=true) ⟨_,An _ rfl,rfl⟩ isSubtype_stop ?_);exact Au (q _ (((DN ..).extBut.push _).push _))
end
theorem Bc1 {d:Type}{c:List (d×V)}{vs:List (d×AH)}(h:KV c vs):∀{i:Nat} {k:d} {v:V},c[i]?=some (k,v)->∃u,vs[i]?=some (k,u)/\RelV v u:=by
 unfold KV at h
 induction h with
 |nil=>intro i k v e;simp at e
 | @cons a b f g r t l=>
  intro i k v e;cases i with
  |zero=>simp only[List.getElem?_cons_zero,Option.some.injEq]at e;subst e;refine⟨b.2,?_,r.2⟩;simp only[List.getElem?_cons_zero];exact Bh some (Prod.ext r.1.symm rfl)
  |succ j=>simp only[List.getElem?_cons_succ]at e ⊢;exact l e
theorem BA4 (h:AU9 k u=true):RelV (kV k) u:=by
 rcases G3 h with ⟨i,t,rfl,rfl⟩ |⟨x,t,rfl,rfl⟩
 ·exact⟨t,rfl⟩
 ·exact⟨t,rfl⟩
section
variable {X:Cx} {pins:List (AI×Obj)} {σ:St} {H:Hp} {s:AW} {d:AI} {o:Obj}
end
section
variable {P:Af} {w:Ap} {K:AA} {tg:Expr} {d:AI} {o:Obj} {es:Array Bg} {ep:Nat}
end
section
variable {X:Cx} {tg e:Expr} {td:TE} {apos cpos:Pos}
end
theorem A23:bootBuiltins "zip"=some (.type "zip"):=by decide+kernel
noncomputable def Itz (K:AA)(a b:AI):It:=
 ⟨fun i H=>∃(c d:List V) (x y:V),SqL K H a c/\SqL K H b d/\c[i]?=some x/\d[i]?=some y,
  fun i H v e=>∃T x y,v=.ref T/\H T=none/\e=upd H T (.tup [x,y])/\(∀c,SqL K H a c->c[i]?=some x)/\∀d,SqL K H b d->d[i]?=some y,
  fun i H=>∃c d:List V,SqL K H a c/\SqL K H b d/\(c.length<=i∨d.length<=i)⟩
theorem BD4 {P:Af}{w:Ap}{K:AA}{elts:List Expr}{kk:Nat}{tpos:Pos}{a b z TI TO i1 i2:AI}(D:ZipApart z TI TO i1 i2 a b):
  BF2 P w K (.Tuple elts kk tpos) (Itz K a b) [z,TI,TO,i1,i2] z (fun i h=>IsZip h z TI TO .none/\IsPair h TI (.ref i1) (.ref i2)/\(∃x y,IsPair h TO x y)/\h.IsListIter i1 a i/\h.IsListIter i2 b i) where
 mem:=by simp
 obj:=fun i h st c hc=>by
  obtain⟨hz,hTI,⟨x,y,hTO⟩,⟨o1,e1,_,d1⟩,⟨o2,e2,_,d2⟩⟩:=st;have e':c=z∨c=TI∨c=TO∨c=i1∨c=i2:=by simpa using hc
  rcases e' with q |q |q |q |q
  ·rw[q];exact⟨_,hz,fun v q=>nomatch q⟩
  ·rw[q];exact⟨_,hTI,fun v q=>nomatch q⟩
  ·rw[q];exact⟨_,hTO,fun v q=>nomatch q⟩
  ·rw[q];exact⟨o1,e1,fun v q=>by rw[d1]at q;cases q⟩
  ·rw[q];exact⟨o2,e2,fun v q=>by rw[d2]at q;cases q⟩
 keep:=fun i h h' st k=>by obtain⟨hz,hTI,⟨x,y,hTO⟩,h1,h2⟩:=st;exact⟨k z (by simp) _ hz,k TI (by simp) _ hTI,⟨x,y,k TO (by simp) _ hTO⟩,h1.at fun o q=>k i1 (by simp) o q,h2.at fun o q=>k i2 (by simp) o q⟩
 item:=by
  intro X hP hw hK hc i pins s σ H E I hf st hg;subst hP hw hK;obtain⟨hz,hTI,⟨x0,y0,hTO⟩,h1,h2⟩:=st;obtain⟨xs,ys,x,y,hqx,hqy,hx,hy⟩:=hg;obtain⟨its,rv,p,_⟩:=I.list hqx;obtain⟨its2,rv2,p2,_⟩:=I.list hqy;obtain⟨u,hu,ru⟩:=rv.get hx;obtain⟨u2,hu2,ru2⟩:=rv2.get hy;have hzl:z<s.heap.objs.size:=Ao hz;refine wpAny_pyNext_zip_item D hz hTI hTO h1 h2 p.isList p2.isList (x:=u) (y:=u2) (by simpa using hu) (by simpa using hu2) fun h' z' TO' h1' h2' hT hsz hk=>?_;refine⟨_,rfl,wpAny_letOwnedTupleGo_zip (s:={s with heap:=h'}) z' fun h'' z'' sb=>?_⟩;have hT2:h''.get? s.heap.objs.size=some {cls:=.type "tuple",data:=.seq #[u,u2]}:=(sb.2 _ (Nat.ne_of_gt hzl)).trans hT;have new:ObjOk X.prog X.w (upd H s.heap.objs.size (.tup [x,y])) h'' s.heap.objs.size (.tup [x,y]):=
   ⟨by show 2<=sizeLine;decide,[u,u2],.cons ru (.cons ru2 .nil),⟨_,hT2,rfl,_,rfl⟩⟩
  have I1:Inv X pins σ (upd H s.heap.objs.size (.tup [x,y])) {s with heap:=h''}:=
   I.turnedNew (t':=s.toks) (ch:=[z,TI,TO,i1,i2]) (fun c o hb q=>(sb.2 c (fun q'=>hb (by simp[q']))).trans (hk c o (fun q'=>hb (by simp[q'])) (fun q'=>hb (by simp[q'])) (fun q'=>hb (by simp[q'])) (fun q'=>hb (by simp[q'])) q)) hf (AB _) new
  refine⟨.ref s.heap.objs.size,_,I1,rfl,⟨_,x,y,rfl,I.hok.fresh (AB _),rfl,fun l hl=>by rw[I.list_inj hl hqx];exact hx,fun l hl=>by rw[I.list_inj hl hqy];exact hy⟩,⟨z'',?_,⟨u,u2,?_⟩,?_,?_⟩,fun c hcm=>?_⟩
  ·exact(sb.2 _ D.TIz).trans (hk _ _ D.TIz D.TITO D.TIi1 D.TIi2 hTI)
  ·exact(sb.2 _ D.TOz).trans TO'
  ·exact h1'.at fun o q=>(sb.2 _ D.i1z).trans q
  ·exact h2'.at fun o q=>(sb.2 _ D.i2z).trans q
  ·have hlt:c<s.heap.objs.size:=by
    have e':c=z∨c=TI∨c=TO∨c=i1∨c=i2:=by simpa using hcm
    rcases e' with q |q |q |q |q
    ·rw[q];exact hzl
    ·rw[q];exact Ao hTI
    ·rw[q];exact Ao hTO
    ·rw[q];obtain⟨_,e1,_⟩:=h1;exact Ao e1
    ·rw[q];obtain⟨_,e2,_⟩:=h2;exact Ao e2
   rw[A4 (Ba hlt)];exact(hf c hcm).1
 done:=by
  intro X hP hw hK hc i pins s σ H E I hf st hg;subst hP hw hK;obtain⟨hz,hTI,⟨x0,y0,hTO⟩,h1,h2⟩:=st;obtain⟨xs,ys,hqx,hqy,hend⟩:=hg;obtain⟨its,rv,p,_⟩:=I.list hqx;obtain⟨its2,rv2,p2,_⟩:=I.list hqy;have l1:=rv.length;have l2:=rv2.length;have he:its.toArray[i]?=none∨its2.toArray[i]?=none:=by
   rcases hend with q |q
   ·exact .inl (by simp;omega)
   ·exact .inr (by simp;omega)
  exact wpAny_pyNext_zip_end (I.ok.hd hc) D hz hTI hTO h1 h2 p.isList p2.isList he fun h' hk=>⟨rfl,I.turnedL (t':=s.toks) (ch:=[z,TI,TO,i1,i2]) (fun c o hb q=>
   hk c o (fun q'=>hb (by simp[q'])) (fun q'=>hb (by simp[q'])) (fun q'=>hb (by simp[q'])) (fun q'=>hb (by simp[q'])) q) hf⟩
 self:=fun A i s Q E st h=>wpAny_pyIter_zip st.1 h
inductive Bi0 (K:AA) (R:It->Hp->Prop) (vs:List V) (H1:Hp):Prop
 |mk:∀a b xs ys,vs=[.ref a,.ref b]->SqL K H1 a xs->SqL K H1 b ys->R (Itz K a b) H1->Bi0 K R vs H1
def B12 (K:AA)(a:TA):TI:=fun b H R=>a b H fun c d=>Bi0 K R c d
theorem Bm0 {X:Cx}(hg:Gl X "zip")(hm:X.mg "zip"=none)(ha:PA X [e,e2] ta)
  (hs:starEach [e,e2] X.env=(false,eval e X.env)::starEach [e2] X.env:=by rfl) (hpl:(backTo pos (starEach [e2] X.env)).any (·.1)=false:=by rfl):
  PI X (.Tuple elts kk tpos) (.Call (.Name "zip" p) [e,e2] [] pos) (B12 X.K ta):=by
 intro pins s σ H R I h;refine Call_ (AH6 I hg hm A23 (DE (thn (ha pos pins s σ H _ I h) fun us s1 ⟨vs,H1,I1,r1,q1⟩=>?_) hs hpl));obtain⟨a,b,xs,ys,ex,hqx,hqy,q⟩:=q1;subst ex;cases r1 with
 |cons r rr=>
  cases rr with
  |cons r' rr=>
   cases rr;cases r;cases r';obtain⟨its,rv,p1,_⟩:=I1.list hqx;obtain⟨its2,rv2,p2,_⟩:=I1.list hqy;have la:a<s1.heap.objs.size:=p1.lt;have lb:b<s1.heap.objs.size:=p2.lt;refine call_zip_2 p1.isList p2.isList fun h' hz hTI hTO h1 h2 hsz hk=>wpAny_pyIter_zip hz ?_;have I2:Inv X pins σ H1 {s1 with heap:=h'}:=I1.kept (t':=s1.toks) hk;refine⟨s1.heap.objs.size+4,[s1.heap.objs.size+4,s1.heap.objs.size+2,s1.heap.objs.size+3,s1.heap.objs.size,s1.heap.objs.size+1],_,_,H1,rfl,I2,BD4 (PySem.W.ktu_apart s1.heap.objs.size a b la lb),⟨hz,hTI,⟨_,_,hTO⟩,h1,h2⟩,fun c hcm=>?_,q⟩;have e':c=s1.heap.objs.size+4∨c=s1.heap.objs.size+2∨c=s1.heap.objs.size+3∨c=s1.heap.objs.size∨c=s1.heap.objs.size+1:=by simpa using hcm
   have hle:s1.heap.objs.size<=c:=by
    rcases e' with z |z |z |z |z
    ·rw[z];exact Cv _ _
    ·rw[z];exact Cv _ _
    ·rw[z];exact Cv _ _
    ·rw[z];exact AB _
    ·rw[z];exact Cv _ _
   exact I1.fpOk hle (I1.hok.fresh hle)
end L2
section
namespace Bits
open PySem PyProof.Rows
end Bits
end
section
namespace TL
open PySem PySem.Builtin PySem.Builtin.Str PySem.StrLaws
noncomputable abbrev tl (x:Str):List Nat:=x.cps.toList
theorem ext_tl (h:tl x=tl y):x=y:=Str.ext' (Array.toList_inj.mp h)
theorem AV4 (x y:Str):tl (x++y)=tl x++tl y:=by show(x++y).cps.toList=_;rw[Str.cps_append,Array.toList_append]
noncomputable def joinL (S:List Nat):List (List Nat)->List Nat
 |[]=>[]
 |[p]=>p
 |p::q::r=>p++(S++joinL S (q::r))
theorem tl_join (y:Str):∀a:List Str,tl (Str.join y a)=joinL (tl y) (a.map tl)
 |[]=>rfl
 |[_]=>rfl
 |x::z::r=>by show tl (x++y++Str.join y (z::r))=tl x++(tl y++joinL (tl y) ((z::r).map tl));rw[AV4,AV4,tl_join y (z::r),AF]
theorem join_eq (y:Str)(a:List Str):Txt.join y a=Str.join y a:=glued_eq_join y a
end TL
end
namespace L2
open PySem PySem.Spec PyProof.Rows
theorem W8:∀{ys:List Str} {us:List AH},Vals (ys.map V.str) us->StrsAre us ys
 |[],_,.nil=>.nil
 |y::ys,_,.cons r t=>by obtain⟨k,rfl⟩:=r;exact .cons y k (W8 t)
section
variable {X:Cx} {pins:List (AI×Obj)} {σ:St} {H:Hp} {s:AW} {Q:VK}
end
section
variable {X:Cx}
theorem BM7:MtR X "str.join" (fun x xs H Q=>∃a p,∃ys:List Str,x=.str a/\xs=[.ref p]/\(SqL X.K H p (ys.map V.str)∨SqT X.K H p (ys.map V.str))/\
  (ys.map (·.length)).sum+ys.length*a.length<=16777216/\Q (.str (Txt.join a ys)) H):=by
 intro f s w H x xs v y Q I i d h;obtain⟨a,p,ys,rfl,rfl,c,g,h⟩:=h;obtain⟨t,rfl⟩:=i;cases d with
 |cons j d=>
  cases d;cases j;rcases c with c |c
  ·obtain⟨b,r,⟨o,n,l,m,_,q⟩,_⟩:=I.list c;exact PyProof.Rows.join_list (items:=b.toArray) ⟨o,l,m,n,q⟩ (by rw[Dc];exact W8 r) g fun e k=>⟨.str _,H,I.tok k,⟨e,rfl⟩,h⟩
  ·obtain⟨b,r,u,_⟩:=I.tuple c;exact PyProof.Rows.join_tuple (items:=b.toArray) u (by rw[Dc];exact W8 r) g fun e k=>⟨.str _,H,I.tok k,⟨e,rfl⟩,h⟩
end
section
variable {X:Cx} {o e:Expr} {to te:TE}
def tM1 (r:V->List V->Hp->VK->Prop)(c d:TE):TE:=fun b H Q=>c b H fun x e=>(∃a,x=.str a)/\d b e fun y f=>r x [y] f Q
theorem Bv4 {id:String}{name:Str}{c g:Pos}{r:V->List V->Hp->VK->Prop}(i:Slot "str" name id)(n:typeOf (.builtin id)=pure (.type "method_descriptor"))(j:MtR X id r)(p:PE X o to)(q:PE X e te)
  (w:starEach [e] X.env=[(false,eval e X.env)]:=by rfl) (d:attributeBase o name X.env (eval o X.env)=eval o X.env:=by rfl) (f:(c.endLine==g.line)=true:=by rfl):
  PE X (.Call (.Attribute o name c) [e] [] g) (tM1 r to te):=by
 intro b s k H Q I h;refine PySem.Call_method1 d w f (thn (p b s k H _ I h) fun v z ⟨x,A,B,m,l⟩=>?_);obtain⟨⟨a,rfl⟩,l⟩:=l;obtain⟨t,rfl⟩:=_root_.id m;refine⟨"str",_,F.plainAttrs_str,i,n,typeIs_str _ _ _,(fun _ e=>nomatch e),Df rfl (Calls.evalArgs_plain (DU ?_))⟩;exact thn (q b z k A _ B l) fun u C ⟨y,D,E,G,J⟩=>EQ (j b C k D _ [y] _ [u] Q E m (.cons G .nil) J)
theorem BS7 (d:PE X o to)(f:PE X e te)(g:starEach [e] X.env=[(false,eval e X.env)]:=by rfl)(b:attributeBase o "join" X.env (eval o X.env)=eval o X.env:=by rfl)(c:(apos.endLine==pos.line)=true:=by rfl):
  PE X (.Call (.Attribute o "join" apos) [e] [] pos) (tM1 (fun x xs H Q=>∃a p,∃ys:List Str,x=.str a/\xs=[.ref p]/\(SqL X.K H p (ys.map V.str)∨SqT X.K H p (ys.map V.str))/\
   (ys.map (·.length)).sum+ys.length*a.length<=16777216/\Q (.str (Txt.join a ys)) H) to te):=
 Bv4 F.slot_str_join F.type_str_join BM7 d f g b c
end
section
variable {X:Cx}
end
end L2
namespace Att
open PySem PySem.W PySem.Calls PyProof.Rows
section
variable {prog:Af} {w:Ap} {A:Around} {E:AH->AW->Prop} {s:AW} {K:Frag}
end
end Att
namespace L2
open PySem PySem.Spec PyProof.Rows
end L2
section
set_option maxRecDepth 100000
set_option maxHeartbeats 2000000
namespace L2
open PySem PySem.Spec PyProof.Rows
open PySem.W (WData Codec OpenSpec Well WellAll ReadsW ReadsAllW)
mutual
inductive Dw (K:AA) (H:Hp):V->WData->Prop
 |non:Dw K H .non .none
 |bl (b:Bool):Dw K H (.bl b) (.bool b)
 |int (i:Int):Dw K H (.int i) (.int i)
 |str (x:Str):Dw K H (.str x) (.str x)
 |byt (b:Array UInt8):Dw K H (.byt b) (.bytes b.toList)
 |lst {a:AI} {xs:List V} {ds:List WData}:SqL K H a xs->x9 K H xs ds->Dw K H (.ref a) (.list ds)
 |tup {a:AI} {xs:List V} {ds:List WData}:SqT K H a xs->x9 K H xs ds->Dw K H (.ref a) (.tuple ds)
inductive x9 (K:AA) (H:Hp):List V->List WData->Prop
 |nil:x9 K H [] []
 |cons {v:V} {vs:List V} {d:WData} {ds:List WData}:Dw K H v d->x9 K H vs ds->x9 K H (v::vs) (d::ds)
end
theorem dw_ints {K:AA}{H:Hp}:∀ns:List Int,x9 K H (ns.map V.int) (ns.map WData.int)
 |[]=>.nil
 |n::r=>.cons (.int n) (dw_ints r)
theorem ints_dw {K:AA}{H:Hp}:∀(ns:List Int) (xs:List V),x9 K H xs (ns.map WData.int)->xs=ns.map V.int
 |[],xs,h=>by cases h;rfl
 |n::r,xs,h=>by
  cases h with
  |cons a b=>cases a;rw[ints_dw r _ b]<;>rfl
section
variable {P:Af} {w:Ap} {K:AA} {H:Hp} {h:BR} {R:PySem.W.WRecords} {cl:Str->Option AI}
theorem Bg8 (c:HOk P w H h)(f:K.In h)(q:SqL K H a xs):∃(b:List AH) (o:Obj) (n:Nat),Vals xs b/\h.get? a=some o/\o.cls=.type "list"/\o.data=.seq b.toArray n:=by
 rcases q with q |⟨o,b,n,e,g,_,i,_,d⟩
 ·obtain⟨_,b,n,d,e⟩:=(show ObjOk P w H h a (.lst xs)from q.ok c);exact⟨b,_,n,d,e,rfl,rfl⟩
 ·exact⟨b.toList,o,n,d,f _ _ e,g,by simp[i]⟩
theorem Bb9 (c:HOk P w H h)(i:K.In h)(q:SqT K H a xs):∃(b:List AH) (o:Obj) (n:Nat),Vals xs b/\h.get? a=some o/\o.cls=.type "tuple"/\o.data=.seq b.toArray n:=by
 rcases q with q |⟨o,b,n,e,d,f,_,g⟩
 ·obtain⟨_,b,g,o,e,d,n,f⟩:=(show ObjOk P w H h a (.tup xs)from q.ok c);exact⟨b,o,n,g,e,d,f⟩
 ·exact⟨b.toList,o,n,g,i _ _ e,d,by simp[f]⟩
mutual
theorem Dw.reads (a:HOk P w H h)(e:K.In h):∀(d:WData) (v:V) (u:AH),Dw K H v d->RelV v u->∃as,ReadsW R cl h u d as
 |.none,_,_,x,r=>by cases x;cases r;exact⟨_,ReadsW.none⟩
 |.bool b,_,_,x,r=>by cases x;cases r;exact⟨_,ReadsW.bool b⟩
 |.int i,_,_,x,r=>by cases x;obtain⟨t,rfl⟩:=r;exact⟨_,ReadsW.int i t⟩
 |.str s,_,_,x,r=>by cases x;obtain⟨t,rfl⟩:=r;exact⟨_,ReadsW.str s t⟩
 |.bytes b,_,_,x,r=>by cases x;obtain⟨t,rfl⟩:=r;exact⟨_,ReadsW.bytes _ t⟩
 |.list f,_,_,x,r=>by
  cases x with
  |lst g j=>cases r;obtain⟨c,o,n,k,l,m,p⟩:=Bg8 a e g;obtain⟨as,q⟩:=Dw.readsAll a e f _ c j k;exact⟨_,ReadsW.list l m p q⟩
 |.tuple f,_,_,x,r=>by
  cases x with
  |tup g j=>cases r;obtain⟨c,o,n,k,l,m,p⟩:=Bb9 a e g;obtain⟨as,q⟩:=Dw.readsAll a e f _ c j k;exact⟨_,ReadsW.tuple l m p q⟩
 |.float _,_,_,x,_=>by cases x
 |.dict _,_,_,x,_=>by cases x
 |.bytearray _,_,_,x,_=>by cases x
 |.set _,_,_,x,_=>by cases x
 |.frozenset _,_,_,x,_=>by cases x
 |.obj _ _,_,_,x,_=>by cases x
theorem Dw.readsAll (a:HOk P w H h)(b:K.In h):∀(ds:List WData) (vs:List V) (us:List AH),x9 K H vs ds->Vals vs us->∃as,ReadsAllW R cl h us ds as
 |[],_,_,x,r=>by cases x;cases r;exact⟨_,ReadsAllW.nil⟩
 |d::ds,_,_,x,r=>by
  cases x with
  |cons c e=>
   cases r with
   |cons f g=>obtain⟨as,i⟩:=Dw.reads a b d _ _ c f;obtain⟨k,j⟩:=Dw.readsAll a b ds _ _ e g;exact⟨_,ReadsAllW.cons i j⟩
end
end
mutual
noncomputable def plW:WData->Bool
 |.none=>true
 |.bool _=>true
 |.int _=>true
 |.str _=>true
 |.bytes _=>true
 |.list a=>An2 a
 |.tuple a=>An2 a
 |_=>false
noncomputable def An2:List WData->Bool
 |[]=>true
 |x::r=>plW x&&An2 r
end
theorem Af7 {b:Type}{f:b->WData}(h:∀a,plW (f a)=true):∀l:List b,An2 (l.map f)=true
 |[]=>rfl
 |x::r=>by show(plW (f x)&&An2 (r.map f))=true;rw[h x,Af7 h r]<;>rfl
theorem t8:∀(c:Codec) (a:c.denote),plW (c.enc a)=true
 |.unit,_=>rfl
 |.bool,_=>rfl
 |.int _ _,_=>rfl
 |.nat _ _,_=>rfl
 |.u8,_=>rfl
 |.bytes _ _,_=>rfl
 |.text _ _ _ _,_=>rfl
 |.list _ _ c,a=>Af7 (fun x=>t8 c x) a
 |.pair c d,a=>by show(plW (c.enc a.1)&&(plW (d.enc a.2)&&true))=true;rw[t8 c a.1,t8 d a.2]<;>rfl
 |.triple c d e,a=>by show(plW (c.enc a.1)&&(plW (d.enc a.2.1)&&(plW (e.enc a.2.2)&&true)))=true;rw[t8 c a.1,t8 d a.2.1,t8 e a.2.2]<;>rfl
 |.option c,none=>rfl
 |.option c,some x=>t8 c x
theorem AT7:∀(b:List Codec) (a:Codec.denoteAll b),An2 (Codec.encAll b a)=true
 |[],_=>rfl
 |c::b,a=>by show(plW (c.enc a.1)&&An2 (Codec.encAll b a.2))=true;rw[t8 c a.1,AT7 b a.2]<;>rfl
theorem p5:∀{xs:List WData} {d:WData},d∈xs->d.weight<=WData.weightAll xs
 |[],d,h=>absurd h (by simp)
 |x::r,d,h=>by
  show d.weight<=x.weight+1+WData.weightAll r;rcases AK.mp h with e |m
  ·rw[e];omega
  ·have z:=p5 m;omega
noncomputable def toV:AH->V
 |.none=>.non
 |.bool b=>.bl b
 |.int i _=>.int i
 |.str x _=>.str x
 |.bytes b _=>.byt b
 |.ref a=>.ref a
 |_=>.non
noncomputable def OkU (A:List AI):AH->Prop
 |.none=>True
 |.bool _=>True
 |.int _ _=>True
 |.str _ _=>True
 |.bytes _ _=>True
 |.ref a=>a∈A
 |_=>False
theorem OkU.mono (h:∀a∈A,a∈B):∀{u:AH},OkU A u->OkU B u:=fun {u} x=>by
 cases u with
 |ref a=>exact h a x
 |none=>trivial
 |bool b=>trivial
 |int i t=>trivial
 |str s t=>trivial
 |bytes b t=>trivial
 |_=>exact False.elim x
theorem A42 (x:OkU A u):RelV (toV u) u:=by
 cases u with
 |ref a=>rfl
 |none=>rfl
 |bool b=>rfl
 |int i t=>exact⟨t,rfl⟩
 |str s t=>exact⟨t,rfl⟩
 |bytes b t=>exact⟨t,rfl⟩
 |_=>exact False.elim x
theorem Z2:∀{vs:List AH},(∀u∈vs,OkU A u)->Vals (vs.map toV) vs
 |[],_=>.nil
 |u::r,h=>.cons (A42 (h u (AG ..))) (Z2 fun x a=>h x (AC _ a))
def ArgOb (h:BR)(A:List AI)(a:AI):Prop:=∃b:List AH,b.length<=sizeLine/\(∀u∈b,OkU A u)/\
 (h.get? a=some {cls:=.type "list",data:=.seq b.toArray}∨h.get? a=some {cls:=.type "tuple",data:=.seq b.toArray})
theorem ArgOb.mono (k:∀a∈A,a∈B)(x:ArgOb h A a):ArgOb h B a:=by obtain⟨b,c,d,e⟩:=x;exact⟨b,c,fun u f=>(d u f).mono k,e⟩
theorem U5:∀{vs:List AH} {ds:List WData},WellAll P h vs ds->vs.length=ds.length
 |_,_,.nil=>rfl
 |_,_,.cons _ b=>by show _+1=_+1;rw[U5 b]
theorem AS8 (x:Well P h v (.list ds)):∃(a:AI) (vs:List AH),v=.ref a/\h.get? a=some {cls:=.type "list",data:=.seq vs.toArray}/\WellAll P h vs ds:=by
 cases x with
 |list c b=>exact⟨_,_,rfl,c,b⟩
theorem AI7 (x:Well P h v (.tuple ds)):∃(a:AI) (vs:List AH),v=.ref a/\h.get? a=some {cls:=.type "tuple",data:=.seq vs.toArray}/\WellAll P h vs ds:=by
 cases x with
 |tuple c b=>exact⟨_,_,rfl,c,b⟩
theorem AV1 (x:WellAll P h us (d::ds)):∃(v:AH) (vs:List AH),us=v::vs/\Well P h v d/\WellAll P h vs ds:=by
 cases x with
 |cons a b=>exact⟨_,_,rfl,a,b⟩
theorem S9 (h:n<=1048576):n<=sizeLine:=BV h (by decide)
section
variable {P:Params} {h:BR}
mutual
theorem BB9:∀(d:WData) (v:AH),Well P h v d->plW d=true->d.weight<=1048576->∃A:List AI,OkU A v/\∀a∈A,ArgOb h A a
 |.none,_,x,_,_=>by cases x;exact⟨[],trivial,fun a m=>absurd m (by simp)⟩
 |.bool b,_,x,_,_=>by cases x;exact⟨[],trivial,fun a m=>absurd m (by simp)⟩
 |.int i,_,x,_,_=>by cases x;exact⟨[],trivial,fun a m=>absurd m (by simp)⟩
 |.str s,_,x,_,_=>by cases x;exact⟨[],trivial,fun a m=>absurd m (by simp)⟩
 |.bytes b,_,x,_,_=>by cases x;exact⟨[],trivial,fun a m=>absurd m (by simp)⟩
 |.list f,_,x,p,z=>by
  obtain⟨a,l,rfl,n,c⟩:=AS8 x;have j:WData.weightAll f<=1048576:=z;obtain⟨A,o,q⟩:=AA2 f _ c p fun d r=>BV (p5 r) j;have k:∀b∈A,b∈a::A:=fun b g=>AC _ g;refine⟨a::A,AG ..,fun b g=>?_⟩;rcases AK.mp g with e |m
  ·rw[e];exact⟨l,S9 (by rw[U5 c];exact BV (EE f) j),fun u t=>(o u t).mono k,.inl n⟩
  ·exact(q b m).mono k
 |.tuple f,_,x,p,z=>by
  obtain⟨a,l,rfl,n,c⟩:=AI7 x;have j:WData.weightAll f<=1048576:=z;obtain⟨A,o,q⟩:=AA2 f _ c p fun d r=>BV (p5 r) j;have k:∀b∈A,b∈a::A:=fun b g=>AC _ g;refine⟨a::A,AG ..,fun b g=>?_⟩;rcases AK.mp g with e |m
  ·rw[e];exact⟨l,S9 (by rw[U5 c];exact BV (EE f) j),fun u t=>(o u t).mono k,.inr n⟩
  ·exact(q b m).mono k
 |.float _,_,_,p,_=>Bool.noConfusion (show false=true from p)
 |.dict _,_,_,p,_=>Bool.noConfusion (show false=true from p)
 |.bytearray _,_,_,p,_=>Bool.noConfusion (show false=true from p)
 |.set _,_,_,p,_=>Bool.noConfusion (show false=true from p)
 |.frozenset _,_,_,p,_=>Bool.noConfusion (show false=true from p)
 |.obj _ _,_,_,p,_=>Bool.noConfusion (show false=true from p)
theorem AA2:∀(ds:List WData) (vs:List AH),WellAll P h vs ds->An2 ds=true->(∀d∈ds,d.weight<=1048576)->∃A:List AI,(∀u∈vs,OkU A u)/\∀a∈A,ArgOb h A a
 |[],_,x,_,_=>by cases x;exact⟨[],fun u m=>absurd m (by simp),fun a m=>absurd m (by simp)⟩
 |d::ds,_,x,p,z=>by
  obtain⟨v,vs,rfl,i,j⟩:=AV1 x;have q:plW d=true/\An2 ds=true:=Bool.and_eq_true_iff.mp p;obtain⟨A,k,l⟩:=BB9 d v i q.1 (z d (AG ..));obtain⟨B,n,o⟩:=AA2 ds vs j q.2 fun e r=>z e (AC _ r);have f:∀b∈A,b∈A++B:=fun b c=>AY.mpr (.inl c);have g:∀b∈B,b∈A++B:=fun b c=>AY.mpr (.inr c);refine⟨A++B,fun u s=>?_,fun b c=>?_⟩
  ·rcases AK.mp s with e |m
   ·rw[e];exact k.mono f
   ·exact(n u m).mono g
  ·rcases AY.mp c with m |m
   ·exact(l b m).mono f
   ·exact(o b m).mono g
end
end
noncomputable def Bo4 (o:Obj):Option HO:=match o.data with
 |.seq a _=>if(o.cls==Value.type "list")=true then some (.frz o (.lst (a.toList.map toV)))else some (.frz o (.tup (a.toList.map toV)))
 |_=>none
noncomputable def AM7 (K:AA)(h:BR)(A:List AI):Hp:=fun b=>if b∈A then(if(K.lookup b).isNone=true then(h.get? b).bind Bo4 else none)else none
def As8 (H:Hp):Prop:=∀b,H b=none∨∃o u,H b=some (.frz o u)
theorem Ac4 (vs:List AH):Bo4 {cls:=.type "list",data:=.seq vs.toArray}=some (.frz {cls:=.type "list",data:=.seq vs.toArray} (.lst (vs.map toV))):=by show(if(Value.type "list"==Value.type "list")=true then some (HO.frz {cls:=.type "list",data:=.seq vs.toArray} (.lst (vs.toArray.toList.map toV)))else some (HO.frz {cls:=.type "list",data:=.seq vs.toArray} (.tup (vs.toArray.toList.map toV))))=_;rw[AL (Dx _)]
theorem Ad5 (vs:List AH):Bo4 {cls:=.type "tuple",data:=.seq vs.toArray}=some (.frz {cls:=.type "tuple",data:=.seq vs.toArray} (.tup (vs.map toV))):=by show(if(Value.type "tuple"==Value.type "list")=true then some (HO.frz {cls:=.type "tuple",data:=.seq vs.toArray} (.lst (vs.toArray.toList.map toV)))else some (HO.frz {cls:=.type "tuple",data:=.seq vs.toArray} (.tup (vs.toArray.toList.map toV))))=_;rw[AD (by decide)]
section
variable {P:Af} {w:Ap} {K:AA} {h:BR} {A:List AI}
theorem AM1 (a:b∈A)(c:K.lookup b=none)(e:h.get? b=some o):AM7 K h A b=Bo4 o:=by unfold AM7;rw[AL a,c,AL (show(none:Option Obj).isNone=true from rfl),e]<;>rfl
theorem BK3 (q:AM7 K h A b=some u):b∈A/\K.lookup b=none:=by
 unfold AM7 at q;by_cases a:b∈A
 ·rw[AL a]at q;cases c:K.lookup b with
  |none=>exact⟨a,rfl⟩
  |some o=>rw[c,AD (by simp)]at q;cases q
 ·rw[AD a]at q;cases q
theorem AP2 (f:∀a∈A,ArgOb h A a)(q:AM7 K h A b=some u):K.lookup b=none/\∃vs:List AH,vs.length<=sizeLine/\(∀u∈vs,OkU A u)/\
  ((h.get? b=some {cls:=.type "list",data:=.seq vs.toArray}/\u=.frz {cls:=.type "list",data:=.seq vs.toArray} (.lst (vs.map toV)))∨
   (h.get? b=some {cls:=.type "tuple",data:=.seq vs.toArray}/\u=.frz {cls:=.type "tuple",data:=.seq vs.toArray} (.tup (vs.map toV)))):=by
 obtain⟨c,d⟩:=BK3 q;obtain⟨vs,g,i,j⟩:=f b c;refine⟨d,vs,g,i,?_⟩;rcases j with e |e
 ·rw[AM1 c d e,Ac4]at q;exact .inl ⟨e,(Aa q).symm⟩
 ·rw[AM1 c d e,Ad5]at q;exact .inr ⟨e,(Aa q).symm⟩
theorem A19 (c:∀a∈A,ArgOb h A a):As8 (AM7 K h A):=fun b=>by
 cases q:AM7 K h A b with
 |none=>exact .inl rfl
 |some u=>
  obtain⟨_,d,_,_,⟨_,e⟩ |⟨_,e⟩⟩:=AP2 c q
  ·exact .inr ⟨_,_,by rw[e]⟩
  ·exact .inr ⟨_,_,by rw[e]⟩
theorem BQ0 (g:∀a∈A,ArgOb h A a):HOk P w (AM7 K h A) h:=fun b u q=>by
 obtain⟨_,c,d,f,⟨e,rfl⟩ |⟨e,rfl⟩⟩:=AP2 g q
 ·exact⟨e,by rw[AJ];exact d,c,_,Z2 f,e⟩
 ·exact⟨e,by rw[AJ];exact d,c,Z2 f,_,e,rfl,_,rfl⟩
theorem AJ7 {vs us:List AH}(e:(some {cls:=c,data:=.seq vs.toArray}:Option Obj)=some {cls:=c',data:=.seq us.toArray}):c=c'/\vs=us:=by have a:=Aa e;have b:c=c':=Bh Obj.cls a;have d:Data.seq vs.toArray=Data.seq us.toArray:=Bh Obj.data a;injection d with e4;refine⟨b,?_⟩;have f:=Bh Array.toList e4;simpa using f
theorem Bz2 (i:K.In h)(j:∀a∈A,ArgOb h A a){vs:List AH}(c:a∈A)(e:h.get? a=some {cls:=.type "list",data:=.seq vs.toArray}):(∀u∈vs,OkU A u)/\SqL K (AM7 K h A) a (vs.map toV):=by
 obtain⟨d,k,f,l⟩:=j a c;have m:d=vs:=by
  rcases l with q |q
  ·rw[e]at q;exact(AJ7 q).2.symm
  ·rw[e]at q;exact absurd (Value.type.inj (AJ7 q).1) (by decide)
 subst m;refine⟨f,?_⟩;cases b:K.lookup a with
 |none=>exact .inl (.inr ⟨_,by rw[AM1 c b e,Ac4]⟩)
 |some o=>have g:=i a o b;rw[e]at g;obtain rfl:=Aa g;exact .inr ⟨_,d.toArray,_,b,rfl,rfl,rfl,by rw[Ae];exact k,by simpa using Z2 f⟩
theorem B25 (i:K.In h)(j:∀a∈A,ArgOb h A a){vs:List AH}(c:a∈A)(e:h.get? a=some {cls:=.type "tuple",data:=.seq vs.toArray}):(∀u∈vs,OkU A u)/\SqT K (AM7 K h A) a (vs.map toV):=by
 obtain⟨d,k,f,l⟩:=j a c;have m:d=vs:=by
  rcases l with q |q
  ·rw[e]at q;exact absurd (Value.type.inj (AJ7 q).1) (by decide)
  ·rw[e]at q;exact(AJ7 q).2.symm
 subst m;refine⟨f,?_⟩;cases b:K.lookup a with
 |none=>exact .inl (.inr ⟨_,by rw[AM1 c b e,Ad5]⟩)
 |some o=>have g:=i a o b;rw[e]at g;obtain rfl:=Aa g;exact .inr ⟨_,d.toArray,_,b,rfl,rfl,by rw[Ae];exact k,by simpa using Z2 f⟩
mutual
theorem Bl9 (e:K.In h)(f:∀a∈A,ArgOb h A a):∀(d:WData) (v:AH),Well Pm h v d->plW d=true->OkU A v->Dw K (AM7 K h A) (toV v) d
 |.none,_,x,_,_=>by cases x;exact .non
 |.bool b,_,x,_,_=>by cases x;exact .bl b
 |.int i,_,x,_,_=>by cases x;exact .int i
 |.str s,_,x,_,_=>by cases x;exact .str s
 |.bytes b,_,x,_,_=>by cases x;have z:=Dw.byt (K:=K) (H:=AM7 K h A) b.toArray;exact z
 |.list g,_,x,p,j=>by obtain⟨a,n,rfl,k,c⟩:=AS8 x;obtain⟨l,m⟩:=Bz2 e f j k;exact .lst m (Ac0 e f g _ c p l)
 |.tuple g,_,x,p,j=>by obtain⟨a,n,rfl,k,c⟩:=AI7 x;obtain⟨l,m⟩:=B25 e f j k;exact .tup m (Ac0 e f g _ c p l)
 |.float _,_,_,p,_=>Bool.noConfusion (show false=true from p)
 |.dict _,_,_,p,_=>Bool.noConfusion (show false=true from p)
 |.bytearray _,_,_,p,_=>Bool.noConfusion (show false=true from p)
 |.set _,_,_,p,_=>Bool.noConfusion (show false=true from p)
 |.frozenset _,_,_,p,_=>Bool.noConfusion (show false=true from p)
 |.obj _ _,_,_,p,_=>Bool.noConfusion (show false=true from p)
theorem Ac0 (b:K.In h)(c:∀a∈A,ArgOb h A a):∀(ds:List WData) (vs:List AH),WellAll Pm h vs ds->An2 ds=true->(∀u∈vs,OkU A u)->x9 K (AM7 K h A) (vs.map toV) ds
 |[],_,x,_,_=>by cases x;exact .nil
 |d::ds,_,x,p,hu=>by obtain⟨v,vs,rfl,e,f⟩:=AV1 x;have q:plW d=true/\An2 ds=true:=Bool.and_eq_true_iff.mp p;exact .cons (Bl9 b c d v e q.1 (hu _ (AG ..))) (Ac0 b c ds vs f q.2 fun u m=>hu u (AC _ m))
end
end
theorem At5 {w:Ap}{K:AA}{B O:Str->Option AH}{ps:List Str}{a:AW}{ds:List WData}{cl:Str->Option AI}
  (Q:K.In a.heap) (C:a.heap.Ns mainGlobals B) (S:a.heap.Ns builtinsNs O) (T:∀x:Str,x≠"__name__"->O x=bootBuiltins x) (D:a.heap.NoLimit) (hg:a.gens= #[])
  (j:WellAll w.params a.heap vals ds) (E:An2 ds=true) (U:∀d∈ds,d.weight<=1048576) (hr:Room k callerA)
  (F:∀f:BR,K.In f->f.Ns mainGlobals B->D6 P w K B f CX k fa fd ps sp) (l:∀(s:AW) (us:List AH),us.length=ps.length->BindsTo s fd ⟨us,[]⟩ (ps.zip us)) (G:ds.length=ps.length)
  (X:∀(H:Hp) (xs:List V),As8 H->x9 K H xs ds->sp xs H (fun v H'=>Dw K H' v d0) fun _ _ _=>False)
  (Y:∀H e s',CX [] H a (fun _ _ _=>False) e s'->False):
  codeAny (model P w) callerA (.call (.ref fa) ⟨vals,[]⟩) (fun r s'=>∃u as,r=.ok (.ret u)/\ReadsW R cl s'.heap u d0 as/\OldK a.heap s'.heap/\s'.os=a.os/\AllBare s'.gens) a:=by
 obtain⟨A,ho,I⟩:=AA2 ds vals j E U;have Z:As8 (AM7 K a.heap A):=A19 I;have p:HOk P w (AM7 K a.heap A) a.heap:=BQ0 I;have hS:=Ac0 Q I ds vals j E ho;have hV:=Z2 ho;have hK:∀b u,AM7 K a.heap A b=some u->K.lookup b=none:=fun b u q=>(AP2 I q).1;have J:∀{b:AI} {o:Obj} {t:Array Bg} {y:Nat},a.heap.get? b=some o->o.data=.dict t y->AM7 K a.heap A b=none:=fun {b o t y} e d=>by
  cases q:AM7 K a.heap A b with
  |none=>rfl
  |some u=>
   obtain⟨_,vs,_,_,⟨L,_⟩ |⟨L,_⟩⟩:=AP2 I q
   ·rw[L]at e;cases e;have d':Data.seq vs.toArray _=Data.dict t y:=d;cases d'
   ·rw[L]at e;cases e;have d':Data.seq vs.toArray _=Data.dict t y:=d;cases d'
 generalize AM7 K a.heap A=H at Z p hS hK J;have c:∀{b:AI} {o:Obj},a.heap.get? b=some o->H b=none->(A72 a.heap H).get? b=some o:=fun e n=>A92 e n;have g:∀{b:AI} {m:Str->Option AH},a.heap.Ns b m->(A72 a.heap H).Ns b m:=fun {b m} ⟨o,t,y,e,d,r⟩=>⟨o,t,y,c e (J e d),d,r⟩;have nK:∀b o,K.lookup b=some o->H b=none:=fun b o e=>by
  cases q:H b with
  |none=>rfl
  |some u=>rw[hK b u q]at e;cases e
 have M:K.In (A72 a.heap H):=fun b o e=>c (Q b o e) (nK b o e);have hM:Mod K B (A72 a.heap H):=⟨M,g C,⟨O,g S,T⟩,let ⟨mc,h1,h2⟩:=D;⟨mc,g h1,h2⟩⟩;have e0:Env0 P w K B (A72 a.heap H) callerA [] a H:=⟨rfl,hM,fun b o e=>BL3 e,Du (Av7 _ _),trivial,fun b S=>absurd (show b∈([]:List AI)from S) (by simp),p,.of_eq hg⟩;have hl:vals.length=ps.length:=by rw[U5 j];exact G
 refine EK ((F _ M (g C)).run callerA [] a H ⟨vals,[]⟩ vals (vals.map toV) _ _ hr e0 (l a vals hl) hV (X H _ Z hS)) fun r s' x=>?_;cases r with
 |error e=>exact(Y H e s' x).elim
 |ok fl=>
  cases fl with
  |next=>exact False.elim x
  |brk=>exact False.elim x
  |cont=>exact False.elim x
  |ret u=>
   obtain⟨v,H',os,N,un,h,r',q⟩:=x;have i:∀b o,a.heap.get? b=some o->s'.heap.get? b=some o:=fun b o e=>by
    cases q2:H b with
    |none=>exact un.keep b o e q2 (by intro z;exact absurd (show b∈([]:List AI)from z) (by simp)) (by simp)
    |some u2=>
     rcases Z b with z |⟨ob,u3,z⟩
     ·rw[q2]at z;cases z
     ·have z2:=un.frzs b ob _ z;obtain⟨e1,_⟩:=p b _ z;obtain⟨L,_⟩:=h b _ z2;rw[e]at e1;cases e1;exact L
   have aa:K.In s'.heap:=fun b o e=>i b o (Q b o e);obtain⟨as,ab⟩:=Dw.reads (R:=R) (cl:=cl) h aa d0 v u q r';exact⟨u,as,rfl,ab,OldK.of_keep i,os,N⟩
theorem AG6 (h:WData.layableAll ds=true):∀d∈ds,d.weight<=1048576:=fun d a=>
 (PySem.W.layableW_iff.mp (BO.mp h d a)).2.2
theorem AJ0:∀(b:List Codec) (a:Codec.denoteAll b),(Codec.encAll b a).length=b.length
 |[],_=>rfl
 |c::b,a=>by show(Codec.encAll b a.2).length+1=b.length+1;rw[AJ0 b a.2]
theorem Az3 {r:OpenSpec}{O:(Str->Option AH)->BR->Prop}{A:Ap->BR->Prop}{d:DefRec}{K:Params->AA}{CX:Ap->CXT}{ps:List Str}{sp:Ap->Sp}
  (i:r.wellSaid=true) (P:d.params.defaults=[]) (l:r.args.length=ps.length) (Q:Room k callerA)
  (S:∀(w:Ap) (h:BR),A w h->(K w.params).In h)
  (F:∀(w:Ap) (j:Str->Option AH) (y:AI) (h:BR),A w h->(K w.params).In h->h.Ns mainGlobals j->j d.name=some (.ref y)->
   ∃B:BK,(∀(s:AW) (us:List AH),us.length=ps.length->BindsTo s B ⟨us,[]⟩ (ps.zip us))/\
    ∀c:BR,(K w.params).In c->c.Ns mainGlobals j->D6 r.prog w (K w.params) j c (CX w) k y B ps (sp w))
  (C:∀(w:Ap) (H:Hp) (xs:List V) (a:Codec.denoteAll r.args),As8 H->Codec.withinAll r.args a=true->Codec.app r.args r.asked a=true->x9 (K w.params) H xs (Codec.encAll r.args a)->
   sp w xs H (fun v H'=>Dw (K w.params) H' v (r.ret.enc (Codec.app r.args r.f a))) fun _ _ _=>False)
  (D:∀(w:Ap) (H:Hp) (s:AW) (e:AH) (s':AW),CX w [] H s (fun _ _ _=>False) e s'->False):
  PySem.W.WalkOS q loose O A r d [] (fun f vs=>PySem.call f vs):=by
 intro w E m j mb G Y y o pm cd U dV kV ho hd X hD I Z n M as p t aa J ab;obtain⟨a,e1,e2⟩:=PySem.W.os_pre_some p;obtain⟨e3,x⟩:=Codec.encAll_of_decAll r.args n a e1;subst e3;have N:=S w _ Y;obtain⟨B,hb,hF⟩:=F w j y _ Y N G.T.g I;refine PySem.W.enter_call (EK (At5 (R:=[]) (cl:=classAt E.heap) (d0:=r.ret.enc (Codec.app r.args r.f a)) N G.T.g G.T.b G.T.builtins G.T.nolimit Z J (AT7 _ _) (AG6 t) Q hF hb (by rw[AJ0];exact l)
  (fun H xs hO hS=>C w H xs a hO x e2 hS) fun H e s'=>D w H m e s') fun r' s' hq=>?_)
 obtain⟨u,L,rfl,h1,h2,h3,h4⟩:=hq;exact⟨.inl ⟨u,_,L,rfl,fun _=>rfl,h1,(OpenSpec.post_iff i x _ _).mpr rfl,fun z=>Bool.noConfusion (show false=true from z)⟩,h2,h3,h4⟩
theorem walk_specK {r:OpenSpec}{t:(Str->Option AH)->BR->Prop}{j:Ap->BR->Prop}{d:DefRec}{K:Params->AA}{ps:List Str}{sp:AA->Sp}
  (c:r.wellSaid=true) (l:d.params.defaults=[]) (g:r.args.length=ps.length) (u:Room k callerA)
  (x:∀(w:Ap) (h:BR),j w h->(K w.params).In h)
  (F:∀(w:Ap) (i:Str->Option AH) (o:AI) (h:BR),j w h->(K w.params).In h->h.Ns mainGlobals i->i d.name=some (.ref o)->
   ∃p:BK,(∀(s:AW) (us:List AH),us.length=ps.length->BindsTo s p ⟨us,[]⟩ (ps.zip us))/\
    ∀b:BR,(K w.params).In b->b.Ns mainGlobals i->D6 r.prog w (K w.params) i b CX k o p ps (sp (K w.params)))
  (m:∀(K:AA) (H:Hp) (xs:List V) (a:Codec.denoteAll r.args),As8 H->Codec.withinAll r.args a=true->Codec.app r.args r.asked a=true->x9 K H xs (Codec.encAll r.args a)->
   sp K xs H (fun v H'=>Dw K H' v (r.ret.enc (Codec.app r.args r.f a))) fun _ _ _=>False)
  (n:∀(H:Hp) (s:AW) (e:AH) (s':AW),CX [] H s (fun _ _ _=>False) e s'->False):
  PySem.W.WalkOS q loose t j r d [] (fun f vs=>PySem.call f vs):=
 Az3 (K:=K) (CX:=fun _=>CX) (sp:=fun w=>sp (K w.params)) c l g u x F (fun w H xs a y z A B=>m (K w.params) H xs a y z A B) fun _ H s e s'=>n H s e s'
end L2
-- rests on (row put in by the clerk,for the bench that shows a file only what it spells):KE.SpHead KE.OsShapes
end
namespace L2
open PySem PySem.Spec PyProof.Rows
noncomputable def AO2 (s:Stmt)(j:Nat):Stmt:=match s with
 |.ClassDef _ _ _ a _ _ _ _ _ _ _=>a.getD j (.Pass ⟨0,0,0,0⟩)
 |_=>.Pass ⟨0,0,0,0⟩
noncomputable def P8 (s:Stmt):Arguments:=match s with
 |.FunctionDef _ a _ _ _ _ _ _ _ _=>a
 |_=>{posonlyargs:=[],args:=[],vararg:=none,kwonlyargs:=[],kw_defaults:=[],kwarg:=none,defaults:=[]}
noncomputable def M6 (s:Stmt):List Stmt:=match s with
 |.FunctionDef _ _ b _ _ _ _ _ _ _=>b
 |_=>[]
noncomputable def A8 (s:Stmt):Scope:=match s with
 |.FunctionDef _ _ _ _ _ _ a _ _ _=>a
 |_=>{kind:=.function,names:=[],isGenerator:=false,isCoroutine:=false}
noncomputable abbrev CX0:CXT:=fun _ _ _ _ _ _=>False
noncomputable abbrev E0:XK:=fun _ _ _=>False
theorem Ak2:AJ3 CX0 X E0:=fun _ _ _ _ _ _ _ h=>h.elim
structure Fun (K:AA)(x qual:Str)(st:Stmt)(f:AI)(fd:BK):Prop where
 ex:∃(oc:AH) (od:Option AI) (kV doc pm:AH) (an:Option AI) (cdv ct:AH) (osl:Array (Option AH)),
  fd=fnOf x qual (P8 st) (M6 st) (A8 st) .none kV doc pm an cdv ct/\K.lookup f=some ⟨oc,od,.func fd,osl⟩/\codeIn K cdv qual=true
 kp:keepIn K (.ref f)=true
section
variable {P:Af} {w:Ap} {K:AA} {mg:Str->Option AH} {base:BR}
theorem Fun.ok {x b:Str}{st:Stmt}{f:AI}{j:BK}{N ps:List Str}{k:Nat}{sp:Sp}(F:Fun K x b st f j)(S:B7 N ps (A8 st))(e:∀vs H Q E,sp vs H Q E->vs.length=ps.length)
  (d:∀(c:AH) (A:Around) (a:List Env) (s:AW) (H:Hp) (vs:List V) (Q:VK) (E:XK),Room k (A.deeper (envOfC b (A8 st) s.heap.objs.size f c))->sp vs H Q E->
   ∃t,PSs (BQ4 CX0 P w K mg base N b (A8 st) f c A a s H E).nox (M6 st) t/\t {nx:=fun _ H'=>Q .non H',rt:=Q} (start N vs) H):D6 P w K mg base CX0 (k+1) f j ps sp:=by
 obtain⟨p,r,u,l,v,y,c,z,m,rfl,n,g⟩:=F.ex;refine Bt5 n g S e fun A a s H vs Q E o i=>?_;obtain⟨t,h,q⟩:=d c A a s H vs Q E o i;exact⟨t,h.nox,q⟩
theorem Fun.binds {x a:Str}{st:Stmt}{f:AI}{j:BK}{ps:List Str}(F:Fun K x a st f j)
  (h:∀(d b e:AH) (g:Option AI) (c i:AH) (us:List AH),us.length=ps.length->bindArgs (fnOf x a (P8 st) (M6 st) (A8 st) .none d b e g c i) ⟨us,[]⟩=pure (ps.zip us)):Binds K j ps []:=by
 obtain⟨m,n,d,b,e,g,c,i,k,rfl,o,l⟩:=F.ex;exact .all (h d b e g c i)
theorem Ab7 {x a:Str}{st:Stmt}{f:AI}{m:AH}{od g:Option AI}{e:Array (Option AH)}{h d i b j:AH}(l:K.lookup f=some ⟨m,od,.func (fnOf x a (P8 st) (M6 st) (A8 st) .none h d i g b j),e⟩)
  (c:codeIn K b a=true) (k:keepIn K (.ref f)=true):Fun K x a st f (fnOf x a (P8 st) (M6 st) (A8 st) .none h d i g b j):=⟨⟨m,od,h,d,i,g,b,j,e,rfl,l,c⟩,k⟩
end
theorem Aj5 (a:Room k A):A.units+1<cLine:=Dl (Nat.add_le_add_left (by decide:1<=64) _) a.units
section
variable {X:Cx}
theorem pv (i:Nat)(b:X.N[i]?=some x:=by rfl)(c:Vis X.env.scope x:=by first |exact Or.inl rfl |exact Or.inr (Or.inl rfl) |exact Or.inr (Or.inr rfl))(hd:(x==("__debug__":Str))=false:=by decide)
  (a:(x==("__classdict__":Str))=false:=by decide):PE X (.Name x pos) (Q8 i):=Bb0 b c hd a
end
theorem AG9 {A B:Prop}(h:B):if false=true then A else B:=by rw[AD Ai];exact h
theorem AS0 {A B:Prop}(h:A):if true=true then A else B:=by rw[AL rfl];exact h
theorem G5 {c A B:Prop}[Decidable c](a:c->A)(b:¬c->B):if c then A else B:=by
 by_cases h:c
 ·rw[AL h];exact a h
 ·rw[AD h];exact b h
def Same (H H':Hp):Prop:=∀b o,H b=some o->H' b=some o
theorem Same.refl (H:Hp):Same H H:=fun _ _ h=>h
theorem Same.trans (a:Same H H1)(b:Same H1 H2):Same H H2:=fun c o h=>b c o (a c o h)
theorem Same.free (e:Same H H')(h:H' l=Option.none):H l=Option.none:=by
 cases q:H l with
 |none=>rfl
 |some o=>rw[e l o q]at h;cases h
theorem Same.seq {K:AA}{H H':Hp}{a:AI}{xs:List V}(e:Same H H')(h:SqL K H a xs):SqL K H' a xs:=by
 rcases h with (h |⟨o,h⟩) |h
 ·exact .inl (.inl (e _ _ h))
 ·exact .inl (.inr ⟨o,e _ _ h⟩)
 ·exact .inr h
section
variable {κ:Type} [DecidableEq κ]
end
theorem Same.made (a:H x=Option.none)(c:H dx=Option.none)(k:∀b o,(upd (upd H dx (.own x)) x (.ins C dx [])) b=some o->b≠x->H1 b=some o):Same H H1:=fun b o e=>
 k b o (by rw[A4 (A7 e a),A4 (A7 e c)];exact e) (A7 e a)
end L2
set_option maxRecDepth 100000
set_option maxHeartbeats 2000000
namespace L2
open PySem PySem.Spec PyProof.Rows
theorem AW3 (h:BF4 u=some v):RelV v u:=by
 cases u<;>first
  |(cases h;rfl)
  |(cases h;exact⟨_,rfl⟩)
  |(cases h)
noncomputable def t7 (o:Obj):Option (List Bg):=match o with
 |⟨.type n,none,.dict a _,b⟩=>if n="dict"/\b.size=0 then some a.toList else none
 |_=>none
theorem AJ2 (h:t7 o=some l):o.ExactDict/\∃es a,o.data=.dict es a/\es.toList=l:=by
 unfold t7 at h;split at h
 ·rename_i n es a d;split at h
  ·rename_i c;obtain⟨rfl,b⟩:=c;cases h;exact⟨⟨rfl,rfl,Array.eq_empty_of_size_eq_zero b⟩,es,a,rfl,rfl⟩
  ·cases h
 ·cases h
noncomputable def Bp2 (e:Bg):Option (Int×V):=match e with
 |⟨b,.int k _,a⟩=>if b=hashInt k then(BF4 a).map fun v=>(k,v)else none
 |_=>none
noncomputable def Ax3:List Bg->Option (List (Int×V))
 |[]=>some []
 |e::r=>match Bp2 e,Ax3 r with
  |some x,some l=>some (x::l)
  |_,_=>none
noncomputable def BL2 (K:AA)(a:AI):Option (List (Int×V)):=match K.lookup a with
 |some o=>(t7 o).bind Ax3
 |none=>none
def Aj8 (P:Af)(w:Ap)(K:AA)(a:AI)(b:List (Key×V)):Prop:=(a==sysModules)=false/\∀h:BR,K.In h->∃c,KV b c/\h.DictOf (C8 P w) a c
theorem BR5 (h:Bp2 e=some x):(C8 P w).is (Sum.inl x.1) e.key=true/\e.hash=(C8 P w).hash (Sum.inl x.1)/\RelV x.2 e.val:=by
 obtain⟨i,f,a⟩:=e;unfold Bp2 at h;split at h
 ·rename_i g k t d q;cases q;split at h
  ·rename_i c;cases b:BF4 a with
   |none=>rw[b]at h;cases h
   |some v=>rw[b]at h;cases h;exact⟨c7 P w k t,c,AW3 b⟩
  ·cases h
 ·cases h
theorem Ai2:∀{es:List Bg} {l:List (Int×V)},Ax3 es=some l->
  (∀e∈es,∃k,(C8 P w).is k e.key=true/\e.hash=(C8 P w).hash k)/\∃vs:List (Key×AH),KV (l.map fun p=>(Sum.inl p.1,p.2)) vs/\Pairs (C8 P w) es vs
 |[],l,h=>by cases h;exact⟨(fun _ q=>nomatch q),[],.nil,.nil⟩
 |e::r,l,h=>by
  unfold Ax3 at h;split at h
  ·rename_i x o c d;cases h;obtain⟨b,f,g⟩:=BR5 (P:=P) (w:=w) c;obtain⟨i,vs,j,m⟩:=Ai2 (P:=P) (w:=w) d;refine⟨fun n a=>?_,(Sum.inl x.1,e.val)::vs,.cons ⟨rfl,g⟩ j,.cons b rfl m⟩;rcases AK.mp a with rfl |a
   ·exact⟨_,b,f⟩
   ·exact i n a
  ·cases h
theorem BN7 {P:Af}{w:Ap}{K:AA}{a:AI}{l:List (Int×V)}(h:BL2 K a=some l)(f:((l.map fun p=>((Sum.inl p.1,p.2):Key×V)).map (·.1)).Nodup)(g:(a==sysModules)=false):Aj8 P w K a (l.map fun p=>(Sum.inl p.1,p.2)):=by
 refine⟨g,fun x i=>?_⟩;unfold BL2 at h;split at h
 ·rename_i o j;cases b:t7 o with
  |none=>rw[b]at h;cases h
  |some k=>rw[b]at h;obtain⟨m,n,q,r,c⟩:=AJ2 b;obtain⟨s,t,d,u⟩:=Ai2 (P:=P) (w:=w) (show Ax3 k=some l from h);refine⟨t,d,o,n,q,i a o j,m,r,fun e v=>s e (by rw[←c];simpa using v),by rw[c];exact u,?_⟩;rw[←d.keys];exact f
 ·cases h
noncomputable def Bo6 (K:AA)(b:AI):Option (List Int):=match K.lookup b with
 |some ⟨.type n,_,.seq a _,_⟩=>if n="tuple" then a.toList.mapM fun u=>(match u with |.int k _=>some k |_=>none)else none
 |_=>none
theorem AT8:∀{us:List AH} {a:List Int},(us.mapM fun u=>(match u with |.int k _=>some k |_=>none:Option Int))=some a->ItemsAre (C8 P w) (a.map Sum.inl) us
 |[],a,h=>by cases h;exact .nil
 |u::r,a,h=>by
  rw[EM]at h;cases u with
  |int k t=>
   cases e:(r.mapM fun u=>(match u with |.int k _=>some k |_=>none:Option Int))with
   |none=>rw[e]at h;cases h
   |some l=>rw[e]at h;cases h;exact .cons (c7 P w k t) (AT8 e)
  |_=>cases h
theorem BN0 {K:AA}{d:List Int}(f:K.In h)(e:Bo6 K b=some d):(tupleKind (C8 P w)).is h (d.map Sum.inl) b:=by
 unfold Bo6 at e;split at e
 ·rename_i n i a m j g;split at e
  ·rename_i c;subst c;exact⟨_,a,m,f b _ g,rfl,rfl,AT8 e⟩
  ·cases e
 ·cases e
noncomputable def Bw4 (P:Af)(w:Ap)(K:AA)(e:Bg):Option (List Int×AI×AH×V):=match e with
 |⟨d,.ref b,a⟩=>match Bo6 K b,BF4 a with
  |some c,some v=>if d=tupleKeyHash (C8 P w) (c.map Sum.inl)then some (c,b,a,v)else none
  |_,_=>none
 |_=>none
noncomputable def AK8 (P:Af)(w:Ap)(K:AA):List Bg->Option (List (List Int×AI×AH×V))
 |[]=>some []
 |e::r=>match Bw4 P w K e,AK8 P w K r with
  |some x,some l=>some (x::l)
  |_,_=>none
noncomputable def BW5 (P:Af)(w:Ap)(K:AA)(a:AI):Option (List (List Int×V)):=match K.lookup a with
 |some o=>((t7 o).bind (AK8 P w K)).map fun l=>l.map fun x=>(x.1,x.2.2.2)
 |none=>none
def As3 (P:Af)(w:Ap)(K:AA)(a:AI)(b:List (List Key×V)):Prop:=(a==sysModules)=false/\∀h:BR,K.In h->∃c:List (List Key×AI×AH),
 Paired (fun(p:List Key×V) (q:List Key×AI×AH)=>p.1=q.1/\RelV p.2 q.2.2) b c/\h.DictOfH (tupleKind (C8 P w)) a c
theorem Ag8 {K:AA}(f:K.In h):∀{es:List Bg} {l:List (List Int×AI×AH×V)},AK8 P w K es=some l->
  es=(l.map fun x=>((x.1.map Sum.inl,x.2.1,x.2.2.1):List Key×AI×AH)).map (entryOfKey (tupleKind (C8 P w)))/\∀x∈l,(tupleKind (C8 P w)).is h (x.1.map Sum.inl) x.2.1/\RelV x.2.2.2 x.2.2.1
 |[],l,e=>by cases e;exact⟨rfl,(fun _ q=>nomatch q)⟩
 |i::r,l,e=>by
  unfold AK8 at e;split at e
  ·rename_i x u a j;cases e;obtain⟨k,m⟩:=Ag8 f j;obtain⟨y,n,o⟩:=i;unfold Bw4 at a;split at a
   ·rename_i p b g q;cases q;split at a
    ·rename_i z v s t;split at a
     ·rename_i c;cases a;refine⟨?_,fun x d=>?_⟩
      ·rw[Ah,Ah,←k];show _=DictEntry.mk _ _ _::r;rw[c];rfl
      ·rcases AK.mp d with rfl |d
       ·exact⟨BN0 f s,AW3 t⟩
       ·exact m x d
     ·cases a
    ·cases a
   ·cases a
  ·cases e
theorem Q9 {a b c:Type}{F:b->c->Prop}{f:a->b}{g:a->c}:∀{l:List a},(∀x∈l,F (f x) (g x))->Paired F (l.map f) (l.map g)
 |[],_=>.nil
 |x::r,h=>.cons (h x AG) (Q9 fun y d=>h y (AC _ d))
theorem BL1 {P:Af}{w:Ap}{K:AA}{a:AI}{l:List (List Int×V)}(h:BW5 P w K a=some l)(g:(l.map fun p=>(p.1.map Sum.inl:List Key)).Nodup)(k:(a==sysModules)=false):As3 P w K a (l.map fun p=>(p.1.map Sum.inl,p.2)):=by
 refine⟨k,fun A i=>?_⟩;unfold BW5 at h;split at h
 ·rename_i o n;cases c:t7 o with
  |none=>rw[c]at h;cases h
  |some b=>
   rw[c]at h;cases d:AK8 P w K b with
   |none=>rw[show(some b).bind (AK8 P w K)=AK8 P w K b from rfl,d]at h;cases h
   |some m=>
    rw[show(some b).bind (AK8 P w K)=AK8 P w K b from rfl,d]at h;have e:m.map (fun x=>(x.1,x.2.2.2))=l:=Aa h;subst e;obtain⟨q,r,s,t,u⟩:=AJ2 c;obtain⟨v,j⟩:=Ag8 (P:=P) (w:=w) i d;refine⟨m.map fun x=>(x.1.map Sum.inl,x.2.1,x.2.2.1),?_,o,r,s,i a o n,q,t,by rw[u];exact v,fun x f=>?_,?_⟩
    ·rw[Bk];exact Q9 fun x f=>⟨rfl,(j x f).2⟩
    ·obtain⟨z,y,rfl⟩:=BN.mp f;exact(j z y).1
    ·rw[Bk]at g ⊢;exact g
 ·cases h
def BZ2 (X:Cx)(H:Hp)(a:AI)(y:V)(r:Option V):Prop:=
 (∃c k,Aj8 X.prog X.w X.K a c/\y=kV k/\r=S6 c k)∨∃c k b,As3 X.prog X.w X.K a c/\y=.ref b/\H b=some (.tup (k.map kV))/\r=S6 c k
theorem AD3 (r:Paired (fun(p:List Key×V) (q:List Key×AI×AH)=>p.1=q.1/\RelV p.2 q.2.2) kvs xs)(k:List Key):RelO (S6 kvs k) ((atKey xs k).map (·.2)):=by
 induction r with
 |nil=>exact True.intro
 | @cons p q g h d t b=>
  obtain⟨e,f⟩:=d;unfold S6 atKey at b ⊢;simp only[Bm];by_cases c:p.1=k
  ·have a:q.1=k:=e▸c;simp only[AR c,AR a];exact f
  ·have a:¬q.1=k:=fun z=>c (e▸z);simp only[AX c,AX a];exact b
section
variable {X:Cx} {pins:List (AI×Obj)} {σ:St} {H:Hp} {s:AW} {a:AI} {y v:V} {u r:AH} {o:Option V} {A:Around} {E:AH->AW->Prop}
theorem A24 (x:A.units+1<cLine)(I:Inv X pins σ H s)(g:BZ2 X H a y (some v))(t:RelV y u)(h:∀f s',Inv X pins σ H s'->RelV v f->Q f s'):
  wpAny (model X.prog X.w) A (getItem (.ref a) u) Q E s:=by
 rcases g with ⟨i,k,e,j,l⟩ |⟨i,k,b,e,j,z,l⟩
 ·subst j;obtain⟨B,c,m⟩:=e.2 _ fun b o n=>I.kIn b o n;obtain⟨f,q,d⟩:=RelO.some_of (v:=v) (o:=valueAt B k) (by rw[l];exact c.val k);exact wpAny_getItem_of (Aj7 t) m.mapOf q (h f _ (I.tok _) d)
 ·subst j;cases(show u=Value.ref b from t);obtain⟨C,c,m⟩:=e.2 _ fun b o n=>I.kIn b o n;obtain⟨f,q,d⟩:=RelO.some_of (v:=v) (o:=(atKey C k).map (·.2)) (by rw[l];exact AD3 c k);obtain⟨p,D,r⟩:=Ay.mp q;refine wpAny_getItem_heap (Cr x) (AJ4 I.hok z) m D ?_;rw[r];exact h f _ (I.tok _) d
theorem B21 (n:A.units+1<cLine)(I:Inv X pins σ H s)(g:BZ2 X H a y o)(m:RelV y u)(h:∀s',Inv X pins σ H s'->Q (.bool o.isSome) s'):
  wpAny (model X.prog X.w) A (compareOp .In u (.ref a)) Q E s:=by
 rcases g with ⟨d,k,e,f,l⟩ |⟨d,k,b,e,f,p,l⟩
 ·subst f;obtain⟨r,c,i⟩:=e.2 _ fun b o j=>I.kIn b o j;refine wpAny_in_of (Aj7 m) e.1 i.mapOf ?_;rw[←(c.val k).isSome_eq,←l];exact h _ (I.tok _)
 ·subst f;cases(show u=Value.ref b from m);obtain⟨t,c,i⟩:=e.2 _ fun b o j=>I.kIn b o j;refine wpAny_in_heap (Cr n) (AJ4 I.hok p) e.1 i ?_;have q:=(AD3 c k).isSome_eq;rw[Co]at q;rw[←q,←l];exact h _ (I.tok _)
theorem Aa2 (I:Inv X pins σ H s)(g:BZ2 X H a y o):s.TypeIs (.ref a) "dict":=by
 rcases g with ⟨c,k,e,_,_⟩ |⟨c,k,b,e,_,_,_⟩
 ·obtain⟨h,_,d⟩:=e.2 _ fun b o f=>I.kIn b o f;exact d.typeIs
 ·obtain⟨i,_,d⟩:=e.2 _ fun b o f=>I.kIn b o f;exact d.typeIs
end
inductive BJ2 (X:Cx) (Q:VK) (x:V) (y:V) (H2:Hp):Prop
 |mk:∀a v,x=.ref a->BZ2 X H2 a y (some v)->Q v H2->BJ2 X Q x y H2
def Br6 (X:Cx)(b c:TE):TE:=fun a H Q=>b a H fun x d=>c a d fun y e=>BJ2 X Q x y e
inductive Bh8 (X:Cx) (Q:VK) (y:V) (x:V) (H2:Hp):Prop
 |mk:∀a o,x=.ref a->BZ2 X H2 a y o->Q (.bl o.isSome) H2->Bh8 X Q y x H2
def By6 (X:Cx)(b c:TE):TE:=fun a H Q=>b a H fun y d=>c a d fun x e=>Bh8 X Q y x e
section
variable {X:Cx} {o i:Expr} {pos:Pos} {td ty:TE}
theorem AC7 (f:X.A.units+1<cLine)(j:PE X o td)(k:PE X i ty)(l:Bs0 i):PE X (.Subscript o i pos) (Br6 X td ty):=by intro b s d H Q I h;refine At7 PySem.F.slot_dict_getitem.lookup l (thn (j b s d H _ I h) fun u m ⟨x,n,p,q,r⟩=>thn (k b m d n _ p r) fun D E ⟨y,t,e,w,a,v,z,g,B⟩=>?_);subst z;obtain rfl:u=Value.ref a:=q;exact⟨Aa2 e g,A24 f e g w fun G J C c=>⟨v,t,C,c,B⟩⟩
theorem Ar1 (d:X.A.units+1<cLine)(e:PE X i ty)(f:PE X o td):PC X .In i o (By6 X ty td):=by intro b s c H Q I h;refine thn (e b s c H _ I h) fun B j ⟨y,k,l,m,n⟩=>thn (f b j c k _ l n) fun u C ⟨x,p,q,r,a,t,v,g,w⟩=>?_;subst v;obtain rfl:u=Value.ref a:=r;exact B21 d q g m fun D z=>⟨.bl t.isSome,p,z,rfl,w⟩
end
theorem AC0 {a:Type}(f:Nat->a->Sem (ForInStep a))(I:List Nat->a->AW->Prop)(Q:a->AW->Prop)
  (turn:∀x rest b s,I (x::rest) b s->wpAny M A (f x b) (fun r s'=>match r with |.yield c=>I rest c s' |.done c=>Q c s') E s)
  (fin:∀b s,I [] b s->Q b s) (r:Std.Legacy.Range) (b:a) (h:I (List.range' r.start r.size r.step) b s):wpAny M A (forIn r b f) Q E s:=by
 rw[Std.Legacy.Range.forIn_eq_forIn_range'];exact wpAny_forIn_list f I Q turn fin _ b h
theorem AO1 (l:AI)(items:Array AH)(n:Nat)(B:Option AI)(C:Array (Option AH))(x:AH)(e:AH->Bool)(j:Nat)(J:j<items.size)
  (q:e items[j]=true) (r:∀(m:Nat) (p:m<items.size),m<j->e items[m]=false):
  Meets (Builtin.«tuple.index» ⟨[.ref l,x],[]⟩)
   (fun A R s=>s.heap.get? l=some {cls:=.type "tuple",dict:=B,data:=.seq items n,slots:=C}/\(∀y,y∈items->SeqAt.EqAt A.in1 s y x (e y))/\R (.ok (.ret (.int (j:Nat) s.toks))) {s with toks:=s.toks+1}):=
 .of_wp fun f w A R s h=>by
  obtain⟨D,g,d,E,F⟩:=s;obtain⟨G,H,h⟩:=h
  wp_walk using wpAny_loadPart' G,AC0 _ (fun a b t=>b.1=none/\t=⟨D,g,d,E,F⟩/\∃i,i<=j/\a=List.range' i (items.size-i) 1) _
  case turn=>
   rintro m a b t ⟨I,rfl,i,u,k⟩;have v:items.size-i=(items.size-(i+1))+1:=by omega
   rw[v,List.range'_succ]at k;obtain⟨rfl,rfl⟩:=List.cons.inj k;have p:m<items.size:=by omega
   have o:items[m]?=some items[m]:=Array.getElem?_eq_getElem p;simp only[o];refine AM (H items[m] (Array.getElem_mem p) f w _ _ ?_);by_cases c:m=j
   ·subst c;rw[q]
    wp_walk
    exact⟨_,rfl,h⟩
   ·have z:m<j:=by omega
    rw[r m p z]
    wp_walk
    exact⟨rfl,rfl,m+1,by omega,rfl⟩
  case fin=>
   rintro ⟨K,L⟩ t ⟨I,rfl,i,u,k⟩;have v:items.size-i=(items.size-(i+1))+1:=by omega
   rw[v,List.range'_succ]at k;cases k
  case h=>
   refine⟨rfl,rfl,0,Ag _,?_⟩;simp[Std.Legacy.Range.size]
inductive Ae0 (K:AA) (x:V) (xs:List V) (H:Hp) (Q:VK):Prop
 |mk:∀(a:AI) (ys:List V) (y:V) (j:Nat) (z:V),x=V.ref a->xs=[y]->SqT K H a ys->T5 y=true->ys.all T5=true->ys[j]?=some z->eqV z y=true->((∀(m:Nat) (z':V),m<j->ys[m]?=some z'->eqV z' y=false))->Q (.int (j:Nat)) H->Ae0 K x xs H Q
noncomputable def BP6 (K:AA):V->List V->Hp->VK->Prop:=fun x a H Q=>Ae0 K x a H Q
theorem Aq2:MtR X "tuple.index" (BP6 X.K):=by
 intro D s σ H x xs v us Q I O f h;obtain⟨a,g,y,j,z,rfl,rfl,P,R,c,E,i,k,q⟩:=h;cases O;cases f with
 |cons S T=>
  rename_i U ut;cases T;obtain⟨b,e,⟨⟨V,W,G,Y⟩,J,L,n,M⟩,N⟩:=I.tuple P;simp only at L M;subst L M;obtain⟨u,Z,ru⟩:=e.get E;obtain⟨l,o⟩:=Ad.mp Z;have aa:=e.length;have hj:j<b.toArray.size:=by simpa using l
  refine Db PySem.F.slot_tuple_index ⟨_,J,rfl⟩ PySem.F.entry_tuple_index (PySem.F.args_tuple_index_2 _ _)
   (AO1 a b.toArray n W Y U (eqU y) j hj ?_ ?_) ⟨J,fun u' p=>Y8 S R e c u' (by simpa using p),?_⟩
  ·have r:b.toArray[j]=u:=by simpa using o
   rw[r,Af5 ru (At8 c E)];exact i
  ·intro m hm t;have ab:m<b.length:=by simpa using hm
   have w:m<g.length:=by omega
   have d:g[m]?=some g[m]:=Aj w;obtain⟨u2,A,B⟩:=e.get d;obtain⟨_,C⟩:=Ad.mp A;have r:b.toArray[m]=u2:=by simpa using C
   rw[r,Af5 B (At8 c d)];exact k m _ t d
  ·exact⟨.int (j:Nat),H,I.tok _,⟨_,rfl⟩,q⟩
noncomputable def Bt4 (e:Bg):Option (Str×V):=match e with
 |⟨_,.str x _,a⟩=>(BF4 a).map fun v=>(x,v)
 |_=>none
noncomputable def AR6:List Bg->Option (List (Str×V))
 |[]=>some []
 |e::r=>match Bt4 e,AR6 r with
  |some x,some l=>some (x::l)
  |_,_=>none
theorem AM0:∀{es:List Bg} {l:List (Str×V)},KeysLit w.params es->AR6 es=some l->
  (∀e∈es,∃k,(C8 P w).is k e.key=true/\e.hash=(C8 P w).hash k)/\∃vs:List (Key×AH),KV (l.map fun p=>(Sum.inr p.1,p.2)) vs/\Pairs (C8 P w) es vs
 |[],l,_,h=>by cases h;exact⟨(fun _ q=>nomatch q),[],.nil,.nil⟩
 |e::r,l,hk,h=>by
  obtain⟨⟨x,t,g,i⟩,c⟩:=hk;unfold AR6 at h;split at h
  ·rename_i y z b j;cases h;obtain⟨m,vs,n,o⟩:=AM0 (P:=P) (w:=w) c j;obtain⟨A,s,a⟩:=e;simp only at g i;subst g;have b:(BF4 a).map (fun v=>(x,v))=some y:=b;cases d:BF4 a with
   |none=>rw[d]at b;cases b
   |some v=>
    rw[d]at b;cases b;refine⟨fun u f=>?_,(Sum.inr x,a)::vs,.cons ⟨rfl,AW3 d⟩ n,.cons (b7 P w x t) rfl o⟩;rcases AK.mp f with rfl |f
    ·exact⟨Sum.inr x,b7 P w x t,i⟩
    ·exact m u f
  ·cases h
theorem BU0 {w:Ap}{K:AA}{es:Array Bg}{l:List (Str×V)}(c:K.lookup a=some ⟨.type "dict",none,.dict es n,#[]⟩)(d:KeysLit w.params es.toList)(h:AR6 es.toList=some l)
  (f:((l.map fun p=>((Sum.inr p.1,p.2):Key×V)).map (·.1)).Nodup) (g:(a==sysModules)=false):Aj8 P w K a (l.map fun p=>(Sum.inr p.1,p.2)):=by
 refine⟨g,fun q i=>?_⟩;obtain⟨j,k,b,m⟩:=AM0 (P:=P) (w:=w) d h;refine⟨k,b,_,es,n,i a _ c,⟨rfl,rfl,rfl⟩,rfl,fun e o=>j e (by simpa using o),m,?_⟩;rw[←b.keys];exact f
structure MDk (P:Af)(w:Ap)(K:AA)(d:AI)(kvs:List (Key×V)):Prop where
 sys:(d==sysModules)=false
 ex:∃(o:Obj) (es:Array Bg) (ep:Nat) (vs:List (Key×AH)),K.lookup d=some o/\o.ExactDict/\o.data=.dict es ep/\KV kvs vs/\KeysOf (C8 P w) es/\Pairs (C8 P w) es.toList vs/\(vs.map (·.1)).Nodup
theorem Bp3 {w:Ap}{K:AA}{es:Array Bg}{l:List (Str×V)}(c:K.lookup a=some ⟨.type "dict",none,.dict es n,#[]⟩)(d:KeysLit w.params es.toList)(h:AR6 es.toList=some l)
  (f:((l.map fun p=>((Sum.inr p.1,p.2):Key×V)).map (·.1)).Nodup) (g:(a==sysModules)=false):MDk P w K a (l.map fun p=>(Sum.inr p.1,p.2)):=by
 obtain⟨i,j,b,k⟩:=AM0 (P:=P) (w:=w) d h;refine⟨g,_,es,n,j,c,⟨rfl,rfl,rfl⟩,rfl,b,fun e m=>i e (by simpa using m),k,?_⟩;rw[←b.keys];exact f
theorem MDk.mdict {P:Af}{w:Ap}{K:AA}{d:AI}{a:List (Key×V)}(m:MDk P w K d a):Aj8 P w K d a:=by obtain⟨o,b,c,e,f,g,i,j,k,l,n⟩:=m.ex;exact⟨m.sys,fun h p=>⟨e,j,o,b,c,p d o f,g,i,k,l,n⟩⟩
noncomputable def Bh4 (a:List (Key×V)):It:=⟨fun i _=>i<a.length,fun i H x b=>b=H/\∃k v,a[i]?=some (k,v)/\x=kV k,fun i _=>a.length<=i⟩
section
variable {P:Af} {w:Ap} {K:AA} {tg:Expr} {d:AI} {o:Obj} {es:Array Bg} {ep:Nat}
theorem Ai8 (f:AI)(W:K.lookup d=some o)(hx:o.ExactDict)(n:o.data=.dict es ep)(D:KV kvs vs)(F:KeysOf (C8 P w) es)(Y:Pairs (C8 P w) es.toList vs)(G:(vs.map (·.1)).Nodup):
  BF2 P w K tg (Bh4 kvs) [f] f (fun i h=>h.IsKeyIter f d i kvs.length ep) where
 mem:=by simp
 obj:=fun i h a b l=>by
  have e:b=f:=by simpa using l
  subst e;obtain⟨B,e,c,J⟩:=a;exact⟨B,e,fun v z=>by rw[J]at z;cases z⟩
 keep:=fun i h q a k=>a.at fun B e=>k f (by simp) B e
 item:=by intro X L M N Z i g s σ H E I C a m;subst L M N;obtain⟨O,R,f2,S,T,U⟩:=C f (by simp);have m:i<kvs.length:=m;have hm:s.heap.DictAt (C8 X.prog X.w) d vs ep:=⟨o,es,I.kIn d o W,hx,n,F,Y,G⟩;obtain⟨⟨k,v⟩,r⟩:∃p,kvs[i]?=some p:=⟨kvs[i],Aj m⟩;obtain⟨u,hu,ru⟩:=Bc1 D r;have j:kvs.length=vs.length:=BQ D;rw[j]at a;refine wpAny_pyNext_dict_item a hm hu fun t q x y sb=>?_;have I1:Inv X g σ H {s with heap:=q}:=I.turned (t':=s.toks) (fun b ob l e=>(sb.2 b l).trans e) O R S T U;obtain⟨B,e,c,J⟩:=id y;refine⟨t,rfl,Aw4 (s:={s with heap:=q}) e c J (by decide) ⟨kV k,H,I1,BA4 (show AU9 k t=true from x),⟨rfl,k,v,r,rfl⟩,?_,fun b l=>(C b l).1⟩⟩;show q.IsKeyIter f d (i+1) kvs.length _;rw[j];exact y
 done:=by
  intro X L M N Z i g s σ H E I C a m;subst L M N;have m:kvs.length<=i:=m;obtain⟨O,R,f2,S,T,U⟩:=C f (by simp);have V:es.size=kvs.length:=by have l1:=Y.length;have l2:kvs.length=vs.length:=BQ D;rw[Ce]at l1;omega
  exact AQ5 (I.ok.hd Z) a (I.kIn d o W) n V m fun q eb=>⟨rfl,I.turned (t':=s.toks) (fun b ob l e=>eb b ob l e) O R S T U⟩
 self:=fun A i s Q E a h=>wpAny_pyIter_keyiter a h
end
inductive AV8 (X:Cx) (R:It->Hp->Prop) (x:V) (H1:Hp):Prop
 |mk:∀d kvs,x=.ref d->MDk X.prog X.w X.K d kvs->R (Bh4 kvs) H1->AV8 X R x H1
def BD9 (X:Cx)(a:TE):TI:=fun b H R=>a b H fun x c=>AV8 X R x c
theorem Al3 (r:PE X e td):PI X tg e (BD9 X td):=by
 intro a s t H R I h;refine thn (r a s t H _ I h) fun u v ⟨x,C,j,w,d,b,y,m,q⟩=>?_;subst y;obtain rfl:u=Value.ref d:=w;obtain⟨o,z,D,A,k,l,c,n,f,p,g⟩:=m.ex;have i:z.size=b.length:=by have B:=p.length;have E:b.length=A.length:=BQ n;rw[Ce]at B;omega
 refine Ap3 m.sys (j.kIn d o k) l c (Ab3 (tk:=v.toks) j _ (Ai8 _ k l c n f p g) ⟨_,An _ rfl,rfl,?_⟩ q);rw[i]<;>rfl
theorem Az2 {a:List (Key×V)}{g:TG}{l:TS}{D:Ends}{b:L2.St}{H:Hp}(c:Nat->L2.St->Hp->Prop)(o:c 0 b H)
  (q:∀i k v b H,a[i]?=some (k,v)->c i b H->g (kV k) b H fun d j=>l {D with nx:=c (i+1),ct:=c (i+1),bk:=D.nx} d j) (hd:∀b H,c a.length b H->D.nx b H):
  ∃W:Nat->Nat->L2.St->Hp->Prop,(∃m,W 0 m b H)/\∀i m b H,W i m b H->
   ((Bh4 a).stop i H/\D.nx b H)∨((Bh4 a).go i H/\∃N:L2.St->Hp->Prop,(∀f H',N f H'->∃n,n<m/\W (i+1) n f H')/\∀x H',(Bh4 a).yld i H x H'->g x b H' fun d j=>l {D with nx:=N,ct:=N,bk:=D.nx} d j):=by
 refine⟨fun i m b H=>m=a.length-i/\i<=a.length/\c i b H,⟨a.length,by simp,Ag _,o⟩,?_⟩;rintro i m b H ⟨rfl,t,p⟩;by_cases h:i<a.length
 ·refine .inr ⟨h,c (i+1),fun f H' r=>⟨a.length-(i+1),by omega,rfl,h,r⟩,fun x H' y=>?_⟩;obtain⟨e,k,v,s,rfl⟩:=y;subst e;exact q i k v b _ s p
 ·have e:i=a.length:=by omega
  subst e;exact .inl ⟨AB _,hd b H p⟩
theorem Ag4:Manifest.owners.lookup (String.ofList ['d','e','s','r','e','v','e','r'].reverse)=some Manifest.sig_reversed:=by kernel_rfl
theorem P2:Slot "reversed" "__next__" "reversed.__next__":=
 .of (owner:="reversed") (n:="__next__") (by rw[Di,DB];kernel_rfl) (by decide+kernel) (by decide+kernel) (by decide+kernel)
  (by first |exact .inl (by decide+kernel) |exact .inr (by decide+kernel)) (by rw[DQ];kernel_rfl)
theorem k6:entryFor table "reversed.__next__"=some Builtin.«reversed.__next__»:=entryFor_of_tree (by kernel_rfl)
theorem v8 (a:AH):argsOk "reversed.__next__" ⟨[a],[]⟩:=by unfold argsOk;rw[signature?_of (id:="reversed.__next__") (n:=['_','_','t','x','e','n','_','_']) (o:=['d','e','s','r','e','v','e','r']) (by kernel_rfl) Ag4];kernel_rfl
theorem u9:Slot "reversed" "__iter__" "reversed.__iter__":=
 .of (owner:="reversed") (n:="__iter__") (by rw[Di,DB];kernel_rfl) (by decide+kernel) (by decide+kernel) (by decide+kernel)
  (by first |exact .inl (by decide+kernel) |exact .inr (by decide+kernel)) (by rw[DQ];kernel_rfl)
theorem AU5 (a:AH):argsOk "reversed.__iter__" ⟨[a],[]⟩:=by unfold argsOk;rw[signature?_of (id:="reversed.__iter__") (n:=['_','_','r','e','t','i','_','_']) (o:=['d','e','s','r','e','v','e','r']) (by kernel_rfl) Ag4];kernel_rfl
theorem AP7:entryFor table "reversed.__iter__"=some Builtin.«dict_keyiterator.__iter__»:=
 entryFor_alias (id':="dict_keyiterator.__iter__") (by kernel_rfl) (by first |rfl |decide+kernel |(unfold String.splitOn;simp+decide [String.splitOnAux])) (by decide+kernel) (by kernel_rfl)
theorem AT1:Slot "reversed" "__init__" "object.__init__":=
 .of (owner:="object") (n:="__init__") (by rw[Di,DB];kernel_rfl) (by decide+kernel) (by decide+kernel) (by decide+kernel)
  (by first |exact .inl (by decide+kernel) |exact .inr (by decide+kernel)) (by rw[DQ];kernel_rfl)
theorem Au5:TypeCalled "reversed" "reversed.__new__" "object.__init__":=
 ⟨by decide+kernel,by decide+kernel,⟨_,_,F.mro_reversed⟩,madeBy_type F.mro_reversed F.lookup_reversed_new (by decide+kernel),by decide+kernel,by rw[DQ];kernel_rfl,AT1⟩
theorem BL8:typeLookup (.type "tuple") "__reversed__"=pure none:=by rw[Di,DB];kernel_rfl
theorem Ai5:isSubtype (.type "tuple") (.type "dict")=pure false:=by rw[DQ];kernel_rfl
noncomputable def BH5 (t:AI)(i:Int):Obj:={cls:=.type "reversed",data:=.fields #[.ref t,rawInt i]}
def IsRevT (h:BR)(a t:AI)(i:Int):Prop:=∃o,h.get? a=some o/\o.cls=.type "reversed"/\o.data=.fields #[.ref t,rawInt i]
theorem IsRevT.at (x:IsRevT h a t i)(e:∀o,h.get? a=some o->h'.get? a=some o):IsRevT h' a t i:=let ⟨o,b,r⟩:=x;⟨o,e _ b,r⟩
theorem Bl1 (t:AI):Meets (Builtin.«reversed.__new__» ⟨[.type "reversed",.ref t],[]⟩) (fun _ R s=>∃items:Array AH,IsTup s.heap t items/\(items.size:Int)<2 ^ 63/\
   ∀tk,R (.ok (.ret (.ref s.heap.objs.size))) {s with heap:=s.heap.push (BH5 t ((items.size:Int)-1)),toks:=tk}):=
 .of_wp fun c w A R s h=>by
  obtain⟨items,e,d,h⟩:=h;unfold Builtin.«reversed.__new__»;refine AM (Cs (newClass_reversed _) ?_)
  try dsimp only
  refine AM (Cs (a:=()) (by first |rfl |kernel_rfl) ?_);refine AM (Cs (a:=()) (by first |rfl |kernel_rfl) ?_)
  try dsimp only
  refine AM (Dg e.typeIs BL8 ?_)
  try dsimp only
  refine AM ?_;refine(show wpAny (model c w) A.in1 (isInstance (Value.ref t) (.type "dict")>>=fun b=>_) _ _ s from ?_);refine AM (wpAny_isInstance e.typeIs Ai5 ?_);rw[AD (by decide)];refine AM (Dg e.typeIs slot_tuple_getitem.lookup ?_);show wpAny (model c w) A.in1 (if(_:List String).contains "tuple.__getitem__"=true then pure true else _) _ _ s;rw[AL (by decide+kernel)];refine Au ?_;rw[AD (by decide)];refine AM (len_tuple e d ?_);refine AM (Cs (a:=some (items.size:Int)) (by first |rfl |kernel_rfl) ?_);dsimp only;refine AM (m:=newObj (.type "reversed") (.fields #[.ref t,rawInt ((items.size:Int)-1)])) (CG ?_ (by size_fits));exact Au ⟨_,rfl,h _⟩
section
variable {prog:Af} {w:Ap} {A:Around} {E:AH->AW->Prop} {s:AW}
theorem p4 (c:IsTup s.heap t items)(a:(items.size:Int)<2 ^ 63)
  (h:∀tk,Q (.ref s.heap.objs.size) {s with heap:=s.heap.push (BH5 t ((items.size:Int)-1)),toks:=tk}):wpAny (model prog w) A (call (.type "reversed") [.ref t]) Q E s:=
 callType_new Au5 (by decide) (F.typeCall_reversed_1 _) (F.newCall_reversed_1 _) (fun b=>F.args_object_init_2 b _) F.entry_reversed_new (Bl1 t) ⟨items,c,a,fun tk=>⟨⟨_,An _ rfl,rfl⟩,h tk⟩⟩
theorem IsRevT.typeIs (x:IsRevT s.heap a t i):s.TypeIs (.ref a) "reversed":=let ⟨o,b,c,_⟩:=x;⟨o,b,c⟩
theorem Ag9 (a:IsRevT s.heap it t i)(h:Q (.ref it) s):wpAny (model prog w) A (pyIter (.ref it)) Q E s:=by refine wpAny_pyIter_slot a.typeIs u9 (DD u9 a.typeIs AP7 ?_ (AU5 _));show wpAny _ _ (ret (.ref it)) _ _ s;exact Au ⟨_,rfl,"reversed",_,a.typeIs,P2.lookup,h⟩
theorem A61 {c t:AI}{i:Nat}{items:Array AH}{x:AH}{Q:Option AH->AW->Prop}(b:IsRevT s.heap c t (i:Int))(f:IsTup s.heap t items)(g:(items.size:Int)<2 ^ 63)(h:items[i]?=some x)
  (k:∀h' tk,IsRevT h' c t ((i:Int)-1)->Heap.SameBut c s.heap h'->Q (some x) {s with heap:=h',toks:=tk}):wpAny (model prog w) A (pyNext (.ref c)) Q E s:=by
 obtain⟨o,e,l,d⟩:=id b;have m:i<items.size:=(Array.getElem?_eq_some_iff.mp h).1;unfold pyNext;refine AM (EC (DY (name:=Str.ofString "__next__") b.typeIs P2
  (DD P2 b.typeIs k6 ?_ (v8 _))))
 unfold Builtin.«reversed.__next__»;refine AM (Cs (a:=(Value.ref c,[])) rfl ?_)
 try dsimp only
 refine AM (Dq e d (x:=.ref t) rfl ?_);refine AM (Dq e d (x:=rawInt (i:Int)) rfl ?_);show wpAny _ _ (if(i:Int)<0 then _ else _) _ _ s;rw[AD (by omega)];refine AM (Dg f.typeIs slot_tuple_getitem.lookup ?_);rw[AD (show ¬(some (Value.builtin "tuple.__getitem__")).isNone=true by decide)];refine AM (wpAny_mkInt ?_);refine AM (EC (getItem_tuple (j:=i) (x:=x) f (by omega) (by omega) (by rw[seqIndex_of (by omega) (by omega)];rfl) h ?_))
 try dsimp only
 refine AM (Dq e d (x:=rawInt (i:Int)) rfl ?_);show wpAny _ _ (setField (.ref c) 1 (rawInt ((i:Int)-1))>>=_) _ _ _;refine AM (Dn e d (by simp) ?_);refine Au ⟨x,rfl,Au (k _ _ ?_ (DN ..))⟩;exact⟨_,Dm _ e (Obj.isFreed_of_fields (DS d _)),(Obj.cls_mapFields ..).trans l,by
  rw[DS d];simp⟩
theorem BK2 (g:A.handled=none)(c:IsRevT s.heap it t (-1))
  (i:∀h',Heap.ExtBut it s.heap h'->Q none {s with heap:=h'}):wpAny (model prog w) A (pyNext (.ref it)) Q E s:=by
 obtain⟨o,f,j,d⟩:=id c;unfold pyNext;refine AM (EC (DY (name:=Str.ofString "__next__") c.typeIs P2
  (DD P2 c.typeIs k6 ?_ (v8 _))))
 unfold Builtin.«reversed.__next__»;refine AM (Cs (a:=(Value.ref it,[])) rfl ?_)
 try dsimp only
 refine AM (Dq f d (x:=.ref t) rfl ?_);refine AM (Dq f d (x:=rawInt (-1)) rfl ?_);show wpAny _ _ (if(-1:Int)<0 then _ else _) _ _ s;rw[AL (by decide)];refine AM (wpAny_rule ?_);refine AM (show wpAny _ _ (setField (.ref it) 1 (rawInt (-1))>>=fun _=>setField (.ref it) 0 .none) _ _ s from ?_);refine AM (Dn f d (by simp) ?_);refine Dn (Dm _ f (Obj.isFreed_of_fields (DS d _))) (DS d _) (by simp) ?_;unfold Builtin.SmallTypes.stopIteration;refine AM ?_
 first
 |show wpAny _ _ (newExc (.type "StopIteration") []>>=_) _ _ _
 |(refine AM ?_;show wpAny _ _ (newExc (.type "StopIteration") []>>=_) _ _ _)
 refine AM ?_;simp only[newExc,newTuple];refine AM (CG ?_ (by size_fits));refine AM (m:=firstArgMember _ _) (Cs (a:=Value.none) (by first |rfl |(simp only[firstArgMember];rfl)) ?_);refine CG ?_ (by size_fits);simp only[raiseNew];refine AM (wpAny_handled ?_)
 first |rw[show A.in1.handled=none from g] |rw[g]
 refine AM (Au (wpAny_throw ?_));refine AM (wpAny_isInstance (T:="StopIteration") (b:=true) ⟨_,An _ rfl,rfl⟩ isSubtype_stop ?_);refine Au (i _ fun b k h e=>?_);refine Ak _ (Ak _ ?_);exact((DN ..).2 b h).trans (((DN ..).2 b h).trans e)
end
noncomputable def Bj4 (K:AA)(a:AI)(n:Nat):It:=
 ⟨fun i H=>i<n/\∃(b:List V) (x:V),SqT K H a b/\b[n-1-i]?=some x,fun i H x c=>c=H/\∀b,SqT K H a b->b[n-1-i]?=some x,fun i _=>n<=i⟩
theorem Ar0 {P:Af}{w:Ap}{K:AA}{Z:Expr}(a l:AI)(n:Nat):BF2 P w K Z (Bj4 K a n) [l] l (fun i h=>i<=n/\IsRevT h l a ((n:Int)-1-(i:Nat))) where
 mem:=by simp
 obj:=fun i h g b m=>by
  have e:b=l:=by simpa using m
  subst e;obtain⟨_,o,e,c,d⟩:=g;exact⟨o,e,fun v z=>by rw[d]at z;cases z⟩
 keep:=fun i h t g k=>⟨g.1,g.2.at fun o e=>k l (by simp) o e⟩
 item:=by
  intro X B C D S i j s T H E I y g F;subst B C D;obtain⟨r,xs,x,U,V⟩:=F;obtain⟨aa,Y,p,hz⟩:=I.tuple U;obtain⟨u,hu,ru⟩:=Y.get V;obtain⟨G,J,f2,L,M,N⟩:=y l (by simp);obtain⟨_,f⟩:=g;have hl:=Y.length;have sz:=BA;have O:(n:Int)-1-((i:Nat):Int)=((n-1-i:Nat):Int):=by omega
  rw[O]at f;refine A61 f p (by rw[Ae];omega) (x:=u) (by simpa using hu) fun t R q sb=>?_;have e2:((n-1-i:Nat):Int)-1=(n:Int)-1-((i+1:Nat):Int):=by omega
  rw[e2]at q;have I1:Inv X j T H {s with heap:=t,toks:=R}:=I.turned (t':=R) (fun b o m e=>(sb.2 b m).trans e) G J L M N;obtain⟨o,e,c,d⟩:=id q;exact⟨u,rfl,Aw4 (s:={s with heap:=t,toks:=R}) e c d (by decide) ⟨x,H,I1,ru,⟨rfl,fun ys hy=>by rw[I.tuple_inj hy U];exact V⟩,⟨r,q⟩,fun b m=>(y b m).1⟩⟩
 done:=by
  intro X B C D S i j s T H E I y g F;subst B C D;obtain⟨G,J,f2,L,M,N⟩:=y l (by simp);obtain⟨r,f⟩:=g;have ab:n<=i:=F;have O:(n:Int)-1-((i:Nat):Int)= -1:=by omega
  rw[O]at f;exact BK2 (I.ok.hd S) f fun t eb=>⟨rfl,I.turned (t':=s.toks) (fun b o m e=>eb b o m e) G J L M N⟩
 self:=fun A i s Q E g h=>Ag9 g.2 h
inductive BI6 (K:AA) (R:It->Hp->Prop) (vs:List V) (H1:Hp):Prop
 |mk:∀(a:AI) (xs:List V),vs=[.ref a]->SqT K H1 a xs->R (Bj4 K a xs.length) H1->BI6 K R vs H1
def BR1 (K:AA)(a:TA):TI:=fun b H R=>a b H fun c d=>BI6 K R c d
section
variable {X:Cx} {tg:Expr}
theorem AQ9 {e:Expr}{f:TA}{p b:Pos}(k:Gl X "reversed")(l:X.mg "reversed"=none)(m:PA X [e] f)(n:starEach [e] X.env=[(false,eval e X.env)]:=by rfl):PI X tg (.Call (.Name "reversed" p) [e] [] b) (BR1 X.K f):=by
 intro c s o H R I h;refine Call_ (AH6 I k l AG7 (DE (thn (m b c s o H _ I h) fun C D ⟨E,F,g,u,v⟩=>?_) n rfl));obtain⟨a,j,e,w,q⟩:=v;subst e;cases u with
 |cons r x=>
  cases x;cases r;obtain⟨d,y,z,G⟩:=g.tuple w;have J:=y.length;have L:=BA;have A:((d.toArray.size:Nat):Int)-1=(j.length:Int)-1-((0:Nat):Int):=by simp only[Ae];omega
  refine p4 z (by rw[Ae];omega) fun B=>Ag9 (t:=a) (i:=((d.toArray.size:Nat):Int)-1) ⟨_,An _ rfl,rfl,rfl⟩ ?_;refine Ab3 (tk:=B) g _ (Ar0 a _ j.length) ⟨Ag _,?_⟩ q;rw[←A];exact⟨_,An _ rfl,rfl,rfl⟩
end
theorem BD5 {K:AA}{a:AI}{xs:List V}{g:TG}{k:TS}{D:Ends}{b:L2.St}{H:Hp}(c:Nat->L2.St->Hp->Prop)(q:c 0 b H)(l:∀i b H,i<=xs.length->c i b H->SqT K H a xs)
  (r:∀i x b H,i<xs.length->xs[xs.length-1-i]?=some x->c i b H->g x b H fun d j=>k {D with nx:=c (i+1),ct:=c (i+1),bk:=D.nx} d j) (hd:∀b H,c xs.length b H->D.nx b H):
  ∃W:Nat->Nat->L2.St->Hp->Prop,(∃m,W 0 m b H)/\∀i m b H,W i m b H->
   ((Bj4 K a xs.length).stop i H/\D.nx b H)∨((Bj4 K a xs.length).go i H/\∃N:L2.St->Hp->Prop,(∀f H',N f H'->∃n,n<m/\W (i+1) n f H')/\∀x H',(Bj4 K a xs.length).yld i H x H'->g x b H' fun d j=>k {D with nx:=N,ct:=N,bk:=D.nx} d j):=by
 refine⟨fun i m b H=>m=xs.length-i/\i<=xs.length/\c i b H,⟨xs.length,by simp,Ag _,q⟩,?_⟩;rintro i m b H ⟨rfl,o,p⟩;by_cases h:i<xs.length
 ·have s:xs[xs.length-1-i]?=some xs[xs.length-1-i]:=Aj (by omega);refine .inr ⟨⟨h,xs,_,l i b H o p,s⟩,c (i+1),fun f H' t=>⟨xs.length-(i+1),by omega,rfl,h,t⟩,fun x H' y=>?_⟩;obtain⟨e,y⟩:=y;subst e;exact r i x b _ h (y xs (l i b _ o p)) p
 ·have e:i=xs.length:=by omega
  subst e;exact .inl ⟨AB _,hd b H p⟩
theorem y6:bootBuiltins "isinstance"=some (.builtin "isinstance"):=by decide+kernel
theorem A32:bootBuiltins "str"=some (.type "str"):=by decide+kernel
def Bi4 (K:AA)(c:TE):TE:=fun d H Q=>c d H fun x b=>(∃y,x=.str y/\Q (.bl true) b)∨∃a e,x=.ref a/\SqT K b a e/\Q (.bl false) b
section
variable {X:Cx}
theorem A41 (he:PE X e te)(hg:Gl X "isinstance")(hm:X.mg "isinstance"=none)(hg2:Gl X "str")(hm2:X.mg "str"=none)(k:PySem.W.kitOne X.K (.type "tuple") (.type "str")=some false)
  (hs:starEach [e,.Name "str" q] X.env=[(false,eval e X.env),(false,eval (.Name "str" q) X.env)]:=by rfl):PE X (.Call (.Name "isinstance" p) [e,.Name "str" q] [] pos) (Bi4 X.K te):=by
 intro pins s σ H Q I h;refine CQ (AH6 I hg hm y6 ?_);refine Dy ?_ (by rw[hs];rfl) (by rfl);rw[hs];show wpAny _ _ (spliced ((false,eval e X.env)::backTo pos [(false,eval (.Name "str" q) X.env)])) _ _ s;refine DU (thn (he pins s σ H _ I h) fun u s1 ⟨x,H1,I1,r1,q1⟩=>?_);show wpAny _ _ (spliced ((false,eval (.Name "str" q) X.env)::backTo pos [])) _ _ s1;refine DU (AH6 I1 hg2 hm2 A32 ?_);refine EQ ?_;rcases q1 with ⟨y,rfl,q1⟩ |⟨a,xs,rfl,hq,q1⟩
 ·exact A02 I1 r1 (.str y) (by unfold PySem.W.kitOne;rw[AL (by decide+kernel)]) fun tk=>⟨.bl true,H1,I1.tok tk,rfl,q1⟩
 ·cases r1;obtain⟨its,rv,pl,hz⟩:=I1.tuple hq;obtain⟨o,h1,h2,_⟩:=pl;exact Bc PySem.W.kitx_tuple I1.kIn ⟨o,h1,h2⟩ k (fun z=>nomatch z) fun tk=>⟨.bl false,H1,I1.tok tk,rfl,q1⟩
end
theorem fsc (a:sc.kind=.function:=by rfl)(b:sc.isCoroutine=false:=by rfl)(c:sc.isGenerator=false:=by rfl)(d:N.Nodup:=by decide+kernel)(e:N.take P.length=P:=by rfl)(f:∀x∈P,sc.names.lookup x=some .local∨sc.names.lookup x=some .cell:=by decide+kernel)(g:∀y∈sc.names,y.2≠.free:=by decide+kernel):B7 N P sc:=⟨a,b,c,d,e,f,g⟩
theorem Fun.oK {P:Af}{w:Ap}{K:AA}{i:Str->Option AH}{b:BR}{x a:Str}{st:Stmt}{f:AI}{j:BK}{N ps:List Str}{k:Nat}{sp:Sp}(F:Fun K x a st f j)(S:B7 N ps (A8 st))
  (c:∀(e:AH) (A:Around) (d:List Env) (s:AW) (H:Hp) (vs:List V) (Q:VK) (E:XK),Room k (A.deeper (envOfC a (A8 st) s.heap.objs.size f e))->sp vs H Q E->
   ∃t,PSs (BQ4 CX0 P w K i b N a (A8 st) f e A d s H E).nox (M6 st) t/\t {nx:=fun _ H'=>Q .non H',rt:=Q} (start N vs) H) (g:∀vs H Q E,sp vs H Q E->vs.length=ps.length:=by intro _ _ _ _ h;cases h;subst_vars;rfl):D6 P w K i b CX0 (k+1) f j ps sp:=F.ok S g c
end L2
namespace My
open Sw
theorem noteLen_pos (r:Bytes):1<=noteLen (47::r):=by unfold noteLen;rw[BZ,AL (by decide)];simp
theorem word_pos (r:Bytes)(h:isWordByte c=true):1<=((c::r).takeWhile isWordByte).length:=by rw[BZ,AL h];simp
theorem At2:∀k,k<signs.length->1<=(signs.getD k []).length:=by decide
theorem signAt_pos (h:signAt b=some (k,n)):1<=n/\k<signs.length/\n=(signs.getD k []).length:=by
 unfold signAt at h;split at h
 ·rename_i j a;injection h with h;injection h with h1 h2;subst h1;have:j<signs.length:=by rw[BG]at a;exact a.1
  rw[←h2];exact⟨At2 j this,this,rfl⟩
 ·cases h
theorem Bz8:∀(n:Nat) (l:Bytes) (p f:Nat),l.length<=n->l.length+1<=f->tokensFrom f p l=tokensFrom (l.length+1) p l:=by
 intro n
 induction n with
 |zero=>
  intro l p f d g;have:l=[]:=DT.mp (by omega);subst this;cases f with
  |zero=>omega
  |succ f=>rfl
 |succ n h=>
  intro l p f d g;cases f with
  |zero=>omega
  |succ f=>
  cases l with
  |nil=>rfl
  |cons c r=>
   simp only[AZ]at d g;have a:∀(q:Nat) (m:Bytes),m.length<=r.length->tokensFrom f q m=tokensFrom (r.length+1) q m:=by intro q m s;rw[h m q f (by omega) (by omega),h m q (r.length+1) (by omega) (by omega)]
   have e:(c::r).length+1=(r.length+1)+1:=by simp
   rw[e];unfold tokensFrom;split
   ·exact a _ _ (AB _)
   ·split
    ·rename_i t i;obtain⟨rfl,_⟩:=i;have:=noteLen_pos r;refine a _ _ ?_;rw[BF];simp only[AZ];omega
    ·split
     ·rename_i j;have:=word_pos r j;have b:=a (p+((c::r).takeWhile isWordByte).length) ((c::r).drop ((c::r).takeWhile isWordByte).length) (by rw[BF];simp only[AZ];omega);simp only[b]
     ·split
      ·rename_i k m o;have:=(signAt_pos o).1;have b:=a (p+m) ((c::r).drop m) (by rw[BF];simp only[AZ];omega);simp only[b]
      ·rfl
noncomputable def tk (p:Nat)(l:Bytes):List Token×Option Nat:=tokensFrom (l.length+1) p l
theorem A53 (p:Nat)(c:UInt8)(r:Bytes):tk p (c::r)=
  if isBlank c=true then tk (p+1) r
  else if c=47/\r.head?=some 47 then tk (p+noteLen (c::r)) ((c::r).drop (noteLen (c::r)))
  else if isWordByte c=true then
   match wordTok ((c::r).takeWhile isWordByte)with
   |some t=>let x:=tk (p+((c::r).takeWhile isWordByte).length) ((c::r).drop ((c::r).takeWhile isWordByte).length)
    (⟨p,((c::r).takeWhile isWordByte).length,t⟩::x.1,x.2)
   |none=>([],some p)
  else match signAt (c::r)with
   |some (k,n)=>let x:=tk (p+n) ((c::r).drop n)
    (⟨p,n,.sign k⟩::x.1,x.2)
   |none=>([],some p):=by
 have a:∀(q:Nat) (m:Bytes),m.length<=r.length->tokensFrom (r.length+1) q m=tk q m:=by intro q m i;exact Bz8 m.length m q _ (AB _) (by omega)
 have e:tk p (c::r)=tokensFrom ((r.length+1)+1) p (c::r):=by unfold tk;simp
 rw[e];unfold tokensFrom;split
 ·exact a _ _ (AB _)
 ·split
  ·rename_i j f;obtain⟨rfl,_⟩:=f;have:=noteLen_pos r;refine a _ _ ?_;rw[BF];simp only[AZ];omega
  ·split
   ·rename_i g;have:=word_pos r g;have d:=a (p+((c::r).takeWhile isWordByte).length) ((c::r).drop ((c::r).takeWhile isWordByte).length) (by rw[BF];simp only[AZ];omega);simp only[d];split<;>rename_i h<;>simp only[h]
   ·split
    ·rename_i k m b;have:=(signAt_pos b).1;have d:=a (p+m) ((c::r).drop m) (by rw[BF];simp only[AZ];omega);simp only[d,b]
    ·rename_i b;simp only[b]
noncomputable def u (z:Int):UInt8:=UInt8.ofNat z.toNat
noncomputable def toB (ns:List Int):Bytes:=ns.map u
def Byt (ns:List Int):Prop:=∀z∈ns,0<=z/\z<=255
theorem AK7 (a:0<=z)(b:z<=255):(u z).toNat=z.toNat:=by unfold u;rw[DF];omega
theorem u_cast (a:0<=z)(b:z<=255):((u z).toNat:Int)=z:=by rw[AK7 a b];omega
theorem BT5 (a:0<=z)(b:z<=255)(c:0<=y)(k1:y<=255):u y=u z↔y=z:=by
 constructor
 ·intro e;have:=Bh UInt8.toNat e;rw[AK7 a b,AK7 c k1]at this;omega
 ·intro e;rw[e]
theorem A54 (n:Nat)(c:n<=255)(a:0<=z)(b:z<=255):u z=UInt8.ofNat n↔z=n:=by
 have:UInt8.ofNat n=u (n:Int):=by unfold u;simp
 rw[this,BT5 (by omega) (by omega) a b]
noncomputable def m7 (z:Int):Bool:=decide (48<=z)&&decide (z<=57)
noncomputable def BI4 (z:Int):Bool:=decide (97<=z)&&decide (z<=122)
noncomputable def BH4 (z:Int):Bool:=decide (65<=z)&&decide (z<=90)
noncomputable def wordB (z:Int):Bool:=BI4 z||(BH4 z||(m7 z||decide (z=95)))
noncomputable def A36 (z:Int):Bool:=BI4 z||(BH4 z||decide (z=95))
noncomputable def V5 (z:Int):Bool:=decide (z=32)||decide (z=10)
theorem Bq8 (n:Nat)(c:n<=255)(a:0<=z)(b:z<=255):decide (UInt8.ofNat n<=u z)=decide ((n:Int)<=z):=by
 have e:(UInt8.ofNat n<=u z)↔((n:Int)<=z):=by rw[Ct,AK7 a b,DF];omega
 exact CH.mpr e
theorem Bs5 (n:Nat)(c:n<=255)(a:0<=z)(b:z<=255):decide (u z<=UInt8.ofNat n)=decide (z<=(n:Int)):=by
 have e:(u z<=UInt8.ofNat n)↔(z<=(n:Int)):=by rw[Ct,AK7 a b,DF];omega
 exact CH.mpr e
theorem A40 (n:Nat)(a:n<=255)(b:0<=z)(c:z<=255):(u z==UInt8.ofNat n)=decide (z=(n:Int)):=by
 by_cases h:z=(n:Int)
 ·rw[AR h,(A54 n a b c).mpr h];simp
 ·rw[AX h];exact BW.mpr fun e=>h ((A54 n a b c).mp e)
theorem T6 (a:0<=z)(b:z<=255):isDigit (u z)=m7 z:=by unfold isDigit m7;rw[show(48:UInt8)=UInt8.ofNat 48 from rfl,show(57:UInt8)=UInt8.ofNat 57 from rfl,Bq8 48 (by decide) a b,Bs5 57 (by decide) a b];rfl
theorem X7 (a:0<=z)(b:z<=255):isWordByte (u z)=wordB z:=by
 unfold isWordByte;rw[T6 a b];unfold isLetter wordB BI4 BH4;rw[show(65:UInt8)=UInt8.ofNat 65 from rfl,show(90:UInt8)=UInt8.ofNat 90 from rfl,show(97:UInt8)=UInt8.ofNat 97 from rfl,show(122:UInt8)=UInt8.ofNat 122 from rfl,show(95:UInt8)=UInt8.ofNat 95 from rfl,
  Bq8 65 (by decide) a b,Bs5 90 (by decide) a b,Bq8 97 (by decide) a b,Bs5 122 (by decide) a b,A40 95 (by decide) a b]
 generalize decide (((65:Nat):Int)<=z)=c;generalize decide (z<=((90:Nat):Int))=d;generalize decide (((97:Nat):Int)<=z)=e;generalize decide (z<=((122:Nat):Int))=f;generalize m7 z=g;show(c&&d||(e&&f||decide (z=95))||g)=(e&&f||(c&&d||(g||decide (z=95))));generalize decide (z=95)=h;revert c d e f g h;decide
theorem AA7 (a:0<=z)(b:z<=255):isBlank (u z)=V5 z:=by unfold isBlank V5 BLANK LF;rw[show(32:UInt8)=UInt8.ofNat 32 from rfl,show(10:UInt8)=UInt8.ofNat 10 from rfl,A40 32 (by decide) a b,A40 10 (by decide) a b];rfl
theorem toB_length (ns:List Int):(toB ns).length=ns.length:=by unfold toB;simp
theorem toB_drop (ns:List Int)(p:Nat):(toB ns).drop p=toB (ns.drop p):=by unfold toB;rw[List.map_drop]
theorem Byt.drop (h:Byt ns)(p:Nat):Byt (ns.drop p):=fun z a=>h z (CU a)
theorem Byt.at {ns:List Int}(h:Byt ns){p:Nat}{z:Int}(e:ns[p]?=some z):0<=z/\z<=255:=h z (Az e)
theorem O6 {ns:List Int}(e:ns[p]?=some z):ns.drop p=z::ns.drop (p+1):=by obtain⟨h,e⟩:=Ad.mp e;rw[Cb h,e]
noncomputable def T (ns:List Int)(p:Nat):List Token×Option Nat:=tk p (toB (ns.drop p))
theorem T_zero (ns:List Int):T ns 0=Sw.tokens (toB ns):=rfl
theorem T_end (h:ns.length<=p):T ns p=([],none):=by unfold T;rw[BS h];rfl
theorem T_blank {ns:List Int}(a:Byt ns){p:Nat}{z:Int}(e:ns[p]?=some z)(hz:V5 z=true):T ns p=T ns (p+1):=by unfold T;obtain⟨b,c⟩:=a.at e;rw[O6 e];show tk p (u z::toB (ns.drop (p+1)))=_;rw[A53,AL (by rw[AA7 b c];exact hz)]
noncomputable def endOf (P:Int->Bool)(ns:List Int)(p:Nat):Nat:=p+((ns.drop p).takeWhile P).length
theorem endOf_step {P:Int->Bool}(e:ns[p]?=some z)(hz:P z=true):endOf P ns p=endOf P ns (p+1):=by unfold endOf;rw[O6 e,BZ,AL hz,AZ];omega
theorem endOf_stop {P:Int->Bool}(e:ns[p]?=some z)(hz:P z=false):endOf P ns p=p:=by unfold endOf;rw[O6 e,BZ,AD (by rw[hz];decide)];rfl
theorem endOf_end {P:Int->Bool}{ns:List Int}(h:ns.length<=p):endOf P ns p=p:=by unfold endOf;rw[BS h];rfl
theorem endOf_le {P:Int->Bool}{ns:List Int}(h:p<=ns.length):endOf P ns p<=ns.length:=by unfold endOf;have:=(Bj P (l:=ns.drop p)).length_le;rw[BF]at this;omega
theorem endOf_ge {P:Int->Bool}:p<=endOf P ns p:=Cv _ _
noncomputable def notLF (z:Int):Bool:=!decide (z=10)
theorem a7 {P:Int->Bool}{R:UInt8->Bool}:∀{ns:List Int},Byt ns->(∀z,0<=z->z<=255->R (u z)=P z)->(toB ns).takeWhile R=toB (ns.takeWhile P)
 |[],_,_=>rfl
 |z::r,hB,h=>by show(u z::toB r).takeWhile R=_;have a:=hB z (AG);rw[BZ,BZ,h z a.1 a.2,a7 (ns:=r) (fun y b=>hB y (AC _ b)) h];split<;>rfl
theorem BW6 (a:0<=z)(b:z<=255):(u z != LF)=notLF z:=by unfold bne LF notLF;rw[show(10:UInt8)=UInt8.ofNat 10 from rfl,A40 10 (by decide) a b];rfl
theorem Aw8 {ns:List Int}(a:Byt ns):noteLen (toB ns)=(ns.takeWhile notLF).length:=by unfold noteLen;rw[a7 (P:=notLF) a fun z b c=>BW6 b c,toB_length]
def Au6 (ns:List Int)(p:Nat):Prop:=ns[p]?=some 47/\ns[p+1]?=some 47
theorem T_note (b:Byt ns)(c:Au6 ns p):T ns p=T ns (endOf notLF ns p):=by
 obtain⟨d,e⟩:=c;unfold T;have a:toB (ns.drop p)=u 47::u 47::toB (ns.drop (p+1+1)):=by rw[O6 d,O6 e];rfl
 rw[a,A53,AD (by decide),AL (by constructor<;>rfl),←a,Aw8 (b.drop p),toB_drop,Da];rfl
def AS4 (ns:List Int)(p:Nat):Prop:=∀z,ns[p]?=some z->V5 z=false/\¬Au6 ns p
theorem AI3 {ns:List Int}(c:Byt ns){p:Nat}{z:Int}(e:ns[p]?=some z)(h:¬Au6 ns p):¬(u z=47/\(toB (ns.drop (p+1))).head?=some 47):=by
 rintro ⟨g,a⟩;have d:=c.at e;have i:z=47:=(A54 47 (by decide) d.1 d.2).mp g;subst i;apply h;refine⟨e,?_⟩;cases b:ns[p+1]? with
 |none=>have:ns.drop (p+1)=[]:=BS (Bn.mp b);rw[this]at a;cases a
 |some y=>rw[O6 b]at a;have j:u y=47:=Aa a;have f:=c.at b;rw[(A54 47 (by decide) f.1 f.2).mp j];rfl
noncomputable def K6 (ns:List Int)(p:Nat):List Int:=(ns.drop p).takeWhile wordB
theorem T_word {ns:List Int}(c:Byt ns){p:Nat}{z:Int}(e:ns[p]?=some z)(f:AS4 ns p)(g:wordB z=true):
  T ns p=match wordTok (toB (K6 ns p))with
   |some t=>(⟨p,(K6 ns p).length,t⟩::(T ns (p+(K6 ns p).length)).1,(T ns (p+(K6 ns p).length)).2)
   |none=>([],some p):=by
 obtain⟨a,b⟩:=c.at e;obtain⟨h,i⟩:=f z e;have j:(u z::toB (ns.drop (p+1))).takeWhile isWordByte=toB (K6 ns p):=by have:=a7 (P:=wordB) (R:=isWordByte) (c.drop p) fun z a b=>X7 a b;rw[O6 e]at this;unfold K6;rw[O6 e];exact this
 unfold T;have d:toB (ns.drop p)=u z::toB (ns.drop (p+1)):=by rw[O6 e];rfl
 rw[d,A53,AD (by rw[AA7 a b,h];decide),AD (AI3 c e i),AL (by rw[X7 a b];exact g),j,←d,toB_length,toB_drop,Da]
 all_goals rfl
theorem T_sign {ns:List Int}(a:Byt ns){p:Nat}{z:Int}(e:ns[p]?=some z)(f:AS4 ns p)(g:wordB z=false):
  T ns p=match signAt (toB (ns.drop p))with
   |some (k,n)=>(⟨p,n,.sign k⟩::(T ns (p+n)).1,(T ns (p+n)).2)
   |none=>([],some p):=by
 obtain⟨b,c⟩:=a.at e;obtain⟨h,i⟩:=f z e;unfold T;have d:toB (ns.drop p)=u z::toB (ns.drop (p+1)):=by rw[O6 e];rfl
 rw[d,A53,AD (by rw[AA7 b c,h];decide),AD (AI3 a e i),AD (by rw[X7 b c,g];decide),←d];cases signAt (toB (ns.drop p))with
 |none=>rfl
 |some x=>obtain⟨k,n⟩:=x;show(_,_)=(_,_);rw[toB_drop,Da]
noncomputable def V4 (z:Int):Int:=if m7 z=true then z-48 else if 65<=z/\z<=70 then z-55 else 16
noncomputable def X1:Int:=9223372036854775807
noncomputable def t9 (b:Int)(ds:List Int)(a:Int):Int:=ds.foldl (fun a z=>a*b+V4 z) a
noncomputable def An1 (ds:List Int)(a:Int)(most:Nat):Bool:=
 if ds.length=0∨most<ds.length then false
 else if ds.head?=some 48/\1<ds.length then false
 else ds.all (fun z=>decide (V4 z<a))&&decide (t9 a ds 0<=X1)
noncomputable def AZ4 (w:List Int):Bool:=if 1<w.length/\w[0]?=some 48/\w[1]?=some 120 then An1 (w.drop 2) 16 16 else An1 w 10 19
theorem As9 (_:0<=z):0<=V4 z:=by
 unfold V4;split
 ·rename_i h;unfold m7 at h;simp at h;omega
 ·split<;>omega
theorem AT4:V4 z<10↔m7 z=true:=by
 unfold V4 m7;by_cases a:48<=z<;>by_cases b:z<=57
 ·simp[a,b];omega
 ·simp[a,b];split<;>omega
 ·simp[a,b];split<;>omega
 ·simp[a,b];split<;>omega
theorem BQ8 (b:0<=z)(c:z<=255):hexOf (u z)=if V4 z<16 then some (V4 z).toNat else none:=by
 unfold hexOf;rw[T6 b c,AK7 b c];unfold V4;by_cases a:m7 z=true
 ·rw[AL a,AL a];unfold m7 at a;simp at a;rw[AL (by omega)];congr 1;omega
 ·rw[AD a,AD a];have d:(65<=u z)↔(65<=z):=by rw[Ct,AK7 b c];show 65<=z.toNat↔_;omega
  have e:(u z<=70)↔(z<=70):=by rw[Ct,AK7 b c];show z.toNat<=70↔_;omega
  simp only[d,e];by_cases h:65<=z/\z<=70
  ·rw[AL h,AL h,AL (by omega)];congr 1;omega
  ·rw[AD h,AD h,AD (by omega)]
theorem AM3:∀{ds:List Int},Byt ds->(toB ds).mapM hexOf=if ds.all (fun z=>decide (V4 z<16))=true then some (ds.map fun z=>(V4 z).toNat)else none
 |[],_=>rfl
 |z::r,hB=>by
  have c:=hB z AG;have d:=AM3 (ds:=r) fun y e=>hB y (AC _ e);show(u z::toB r).mapM hexOf=_;rw[EM,BQ8 c.1 c.2,d];by_cases a:V4 z<16
  ·rw[AL a];by_cases b:(r.all fun z=>decide (V4 z<16))=true
   ·rw[AL b,AL (by rw[Bu,b,AR a];rfl)];rfl
   ·rw[AD b,AD (by rw[Bu,AR a];simpa using b)];rfl
  ·rw[AD a];show none=_;rw[AD (by rw[Bu,AX a];simp)]
theorem AZ7:∀{ds:List Int},Byt ds->∀a:Nat,(((ds.map fun z=>(V4 z).toNat).foldl (fun(a b:Nat)=>16*a+b) a:Nat):Int)=t9 16 ds a
 |[],_,a=>rfl
 |z::r,hB,a=>by have c:=hB z AG;have e:=As9 c.1;rw[Ah,CB,AZ7 (ds:=r) (fun y d=>hB y (AC _ d))];unfold t9;rw[CB];congr 1;omega
theorem AY9:∀{ds:List Int},Byt ds->ds.all m7=true->∀a:Nat,(((toB ds).foldl (fun(a:Nat) (c:UInt8)=>10*a+(c.toNat-48)) a:Nat):Int)=t9 10 ds a
 |[],_,_,a=>rfl
 |z::r,hB,hd,a=>by
  have b:=hB z AG;rw[Bu,Ar]at hd;show(((u z::toB r).foldl _ _:Nat):Int)=_;rw[CB,AY9 (ds:=r) (fun y d=>hB y (AC _ d)) hd.2];unfold t9;rw[CB,AK7 b.1 b.2];have:V4 z=z-48:=by unfold V4;rw[AL hd.1]
  rw[this];have e:48<=z:=by have:=hd.1;unfold m7 at this;simp at this;exact this.1
  congr 1;omega
theorem BG3:∀{ds:List Int},Byt ds->∀a:Int,0<=a->a*10 ^ ds.length<=t9 10 ds a
 |[],_,a,_=>by unfold t9;simp
 |z::r,hB,a,ha=>by have c:=hB z AG;have e:=As9 c.1;have b:=BG3 (ds:=r) (fun y d=>hB y (AC _ d)) (a*10+V4 z) (by omega);unfold t9 at b ⊢;rw[CB];refine Int.le_trans ?_ b;rw[AZ,Int.pow_succ,←Int.mul_assoc,Int.mul_comm _ 10,←Int.mul_assoc,Int.mul_comm 10 a];refine EB (by omega) ?_;exact Int.le_of_lt (Int.pow_pos (by decide))
theorem Ax2 {ds:List Int}:(ds.all fun z=>decide (V4 z<10))=ds.all m7:=by
 congr 1;funext z;by_cases h:m7 z=true
 ·rw[h];exact AR (AT4.mpr h)
 ·rw[Ab.mpr h];exact AX fun q=>h (AT4.mp q)
theorem h7:∀{ds:List Int},Byt ds->(toB ds).all isDigit=ds.all m7
 |[],_=>rfl
 |z::r,hB=>by have a:=hB z AG;show(u z::toB r).all isDigit=_;rw[Bu,Bu,T6 a.1 a.2,h7 (ds:=r) fun y b=>hB y (AC _ b)]
theorem Ac3 (b:Byt ds):(toB ds).head?=some 48↔ds.head?=some 48:=by
 cases ds with
 |nil=>simp[toB]
 |cons z r=>
  have a:=b z AG;show some (u z)=some 48↔some z=some 48;constructor
  ·intro h;rw[(A54 48 (by decide) a.1 a.2).mp (Aa h)];rfl
  ·intro h;rw[Aa h];rfl
theorem BB2 (a:Byt ds)(h:ds.head?=some 48):toB ds=[48]↔¬1<ds.length:=by
 cases ds with
 |nil=>cases h
 |cons z r=>
  have e:z=48:=Aa h;subst e;cases r with
  |nil=>constructor<;>intro _<;>first |rfl |(simp)
  |cons y s=>
   constructor
   ·intro q;injection q with _ q;cases q
   ·intro q;simp at q
theorem AU6:((if x<=MOST then some x else none:Option Nat)).isSome=decide ((x:Int)<=X1):=by
 have hM:(MOST:Int)=X1:=rfl;split
 ·rename_i h;rw[AR (by rw[←hM];exact_mod_cast h)];rfl
 ·rename_i h;rw[AX (by rw[←hM];intro q;exact h (by exact_mod_cast q))];rfl
theorem big (c:Byt w)(d:w.all m7=true)(b:w.head?≠some 48)(a:19<w.length):X1<t9 10 w 0:=by
 cases w with
 |nil=>simp at a
 |cons z r=>
  have l:=c z AG;rw[Bu,Ar]at d;have f:z≠48:=fun q=>b (by rw[q];rfl);have h:1<=V4 z:=by have:=d.1;unfold V4;rw[AL this];unfold m7 at this;simp at this;omega
  have i:=BG3 (ds:=r) (fun y j=>c y (AC _ j)) (0*10+V4 z) (by omega);have e:t9 10 (z::r) 0=t9 10 r (0*10+V4 z):=rfl;rw[←e]at i;simp only[AZ]at a;have m:(10:Int) ^ 19<=10 ^ r.length:=by
   have:(10:Nat) ^ 19<=10 ^ r.length:=Nat.pow_le_pow_right (by decide) (by omega)
   exact_mod_cast this
  have k:(10:Int) ^ 19=10000000000000000000:=by decide
  have g:1*(10:Int) ^ r.length<=(0*10+V4 z)*10 ^ r.length:=EB (by omega) (Int.le_of_lt (Int.pow_pos (by decide)));unfold X1;omega
noncomputable def Bo2 (w:Bytes):Option Nat:=if w.all isDigit=true/\(w.head?≠some 48∨w=[48])then some (w.foldl (fun(a:Nat) (c:UInt8)=>10*a+(c.toNat-48)) 0)else none
noncomputable def Bn9 (d:Bytes):Option Nat:=if d.isEmpty=true∨16<d.length∨(d.head?=some 48/\d≠[48])then none else(d.mapM hexOf).map fun(l:List Nat)=>l.foldl (fun(a b:Nat)=>16*a+b) 0
theorem areD_false (h:(ds.length=0∨most<ds.length)∨(ds.head?=some 48/\1<ds.length)∨(ds.all fun z=>decide (V4 z<base))=false∨X1<t9 base ds 0):An1 ds base most=false:=by
 unfold An1;split
 ·rfl
 ·rename_i a;split
  ·rfl
  ·rename_i b;rcases h with h |h |h |h
   ·exact(a h).elim
   ·exact(b h).elim
   ·rw[h];rfl
   ·rw[AX (show ¬t9 base ds 0<=X1 by omega),Bool.and_false]
theorem areD_val (a:¬(ds.length=0∨most<ds.length))(b:¬(ds.head?=some 48/\1<ds.length))(c:(ds.all fun z=>decide (V4 z<base))=true):An1 ds base most=decide (t9 base ds 0<=X1):=by unfold An1;rw[AD a,AD b,c,DP]
theorem Bj2 (b:Byt w)(i:w≠[]):An1 w 10 19=((Bo2 (toB w)).bind fun(x:Nat)=>if x<=MOST then some x else none).isSome:=by
 have k:0<w.length:=List.length_pos_iff.mpr i;unfold Bo2;by_cases c:w.all m7=false
 ·have d:¬((toB w).all isDigit=true/\((toB w).head?≠some 48∨toB w=[48])):=by intro h;rw[h7 b,c]at h;exact absurd h.1 (by decide)
  rw[AD d,areD_false (.inr (.inr (.inl (by rw[Ax2];exact c))))];rfl
 have f:w.all m7=true:=by simpa using c
 have g:=AY9 b f 0;have j:t9 10 w ((0:Nat):Int)=t9 10 w 0:=rfl;rw[j]at g;by_cases a:w.head?=some 48/\1<w.length
 ·have d:¬((toB w).all isDigit=true/\((toB w).head?≠some 48∨toB w=[48])):=by
   intro h;rcases h.2 with q |q
   ·exact q ((Ac3 b).mpr a.1)
   ·exact((BB2 b a.1).mp q) a.2
  rw[AD d,areD_false (.inr (.inl a))];rfl
 ·have d:((toB w).all isDigit=true/\((toB w).head?≠some 48∨toB w=[48])):=by
   refine⟨by rw[h7 b];exact f,?_⟩;by_cases q:w.head?=some 48
   ·exact .inr ((BB2 b q).mpr fun r=>a ⟨q,r⟩)
   ·exact .inl fun r=>q ((Ac3 b).mp r)
  rw[AL d];show _=(if _ then _ else _:Option Nat).isSome;rw[AU6,g];by_cases e:19<w.length
  ·have l:=big b f (fun q=>a ⟨q,by omega⟩) e;rw[areD_false (.inl (.inr e)),AX (by omega)]
  ·exact areD_val (by omega) a (by rw[Ax2];exact f)
theorem Bh7 (b:Byt d):An1 d 16 16=((Bn9 (toB d)).bind fun(x:Nat)=>if x<=MOST then some x else none).isSome:=by
 unfold Bn9;by_cases a:(toB d).isEmpty=true∨16<(toB d).length∨((toB d).head?=some 48/\toB d≠[48])
 ·rw[AL a];show _=false;rw[toB_length]at a;refine areD_false ?_;rcases a with h |h |h
  ·left;left;have:toB d=[]:=List.isEmpty_iff.mp h;have:=Bh List.length this;rw[toB_length]at this;exact this
  ·exact .inl (.inr h)
  ·have c:=(Ac3 b).mp h.1;refine .inr (.inl ⟨c,?_⟩);by_cases q:1<d.length
   ·exact q
   ·exact(h.2 ((BB2 b c).mpr q)).elim
 ·rw[AD a,AM3 b];rw[toB_length]at a;have f:¬(d.length=0∨16<d.length):=by
   rintro (h |h)
   ·exact a (.inl (by rw[DT.mp h];rfl))
   ·exact a (.inr (.inl h))
  have g:¬(d.head?=some 48/\1<d.length):=by rintro ⟨h,k⟩;exact a (.inr (.inr ⟨(Ac3 b).mpr h,fun q=>(BB2 b h).mp q k⟩))
  by_cases e:(d.all fun z=>decide (V4 z<16))=true
  ·rw[AL e,areD_val f g e];show _=(if _ then _ else _:Option Nat).isSome;rw[AU6,AZ7 b];rfl
  ·rw[AD e,areD_false (.inr (.inr (.inl (Ab.mpr e))))];rfl
theorem w6 (d:Bytes):numberOf (48::120::d)=(Bn9 d).bind fun(x:Nat)=>if x<=MOST then some x else none:=rfl
theorem u7 (h:¬∃d,w=48::120::d):numberOf w=(Bo2 w).bind fun(x:Nat)=>if x<=MOST then some x else none:=by
 unfold numberOf;split
 ·rename_i d;exact(h ⟨d,rfl⟩).elim
 ·rfl
theorem BB4 (c:Byt w)(l:w≠[]):AZ4 w=(numberOf (toB w)).isSome:=by
 unfold AZ4;split
 ·rename_i h;obtain⟨_,f,g⟩:=h
  match w,f,g with
  |a::b::d,f,g=>have m:a=48:=Aa f;have n:b=120:=Aa g;subst m n;have i:Byt d:=fun z o=>c z (AC _ (AC _ o));show An1 d 16 16=(numberOf (48::120::toB d)).isSome;rw[w6,Bh7 i]
 ·rename_i h;rw[u7,Bj2 c l];rintro ⟨d,e⟩
  match w,e with
  |[a],e=>injection e with _ e2;cases e2
  |a::b::r,e=>
   have j:=c a AG;have k:=c b (AC _ AG);injection e with e1 e2;injection e2 with e2 _;apply h;refine⟨by simp,?_,?_⟩
   ·rw[(A54 48 (by decide) j.1 j.2).mp e1];rfl
   ·rw[(A54 120 (by decide) k.1 k.2).mp e2];rfl
noncomputable def two:List (Int×Int):=[(45,62),(60,60),(62,62),(60,61),(62,61),(61,61),(33,61),(38,38),(124,124)]
noncomputable def one:List Int:=[43,45,42,47,37,38,124,94,126,33,60,62,61,63,58,59,44,64,40,41,91,93,123,125]
noncomputable def pyTwo (c d:Int):Option Nat:=two.findIdx? fun q=>decide (q.1=c/\q.2=d)
noncomputable def pyOne (c:Int):Option Nat:=one.findIdx? fun q=>decide (q=c)
theorem AA0:signs=two.map (fun q=>[u q.1,u q.2])++one.map (fun q=>[u q]):=by decide
theorem BO6:∀q∈two,(0<=q.1/\q.1<=255)/\(0<=q.2/\q.2<=255):=by decide
theorem BN1:∀q∈one,0<=q/\q<=255:=by decide
theorem findIdx_congr {a:Type}{P R:a->Bool}:∀{l:List a},(∀x∈l,P x=R x)->l.findIdx? P=l.findIdx? R
 |[],_=>rfl
 |x::r,h=>by rw[Cm,Cm,h x AG,findIdx_congr (l:=r) fun y b=>h y (AC _ b)]
theorem u6 {a:Type}{P:a->Bool}:∀{l:List a},(∀x∈l,P x=false)->l.findIdx? P=none
 |[],_=>rfl
 |x::r,h=>by rw[Cm,h x AG,u6 (l:=r) fun y b=>h y (AC _ b)];rfl
theorem B22 (c:UInt8)(r:Bytes)(x:UInt8):([x]:Bytes).isPrefixOf (c::r)=(x==c):=by simp[List.isPrefixOf]
theorem B08 (c d:UInt8)(r:Bytes)(x y:UInt8):([x,y]:Bytes).isPrefixOf (c::d::r)=(x==c&&y==d):=by simp[List.isPrefixOf]
theorem pre2' (c:UInt8)(x y:UInt8):([x,y]:Bytes).isPrefixOf [c]=false:=by simp[List.isPrefixOf]
theorem Ao1 (a:0<=z)(b:z<=255)(c:0<=y)(k1:y<=255):(u y==u z)=decide (y=z):=by
 by_cases h:y=z
 ·rw[AR h,h];simp
 ·rw[AX h];exact BW.mpr fun e=>h ((BT5 a b c k1).mp e)
theorem AR3 (a:0<=c/\c<=255)(r:Bytes):(one.map fun q=>[u q]).findIdx? (fun s=>s.isPrefixOf (u c::r))=pyOne c:=by rw[DM];refine findIdx_congr fun q b=>?_;have:=BN1 q b;show([u q]:Bytes).isPrefixOf (u c::r)=_;rw[B22,Ao1 a.1 a.2 this.1 this.2]
theorem A90 (a:0<=c/\c<=255)(b:0<=d/\d<=255)(r:Bytes):(two.map fun q=>[u q.1,u q.2]).findIdx? (fun s=>s.isPrefixOf (u c::u d::r))=pyTwo c d:=by rw[DM];refine findIdx_congr fun q e=>?_;have:=BO6 q e;show([u q.1,u q.2]:Bytes).isPrefixOf (u c::u d::r)=_;rw[B08,Ao1 a.1 a.2 this.1.1 this.1.2,Ao1 b.1 b.2 this.2.1 this.2.2];by_cases f:q.1=c<;>by_cases g:q.2=d<;>simp[f,g]
theorem two_find' (c:UInt8):(two.map fun q=>[u q.1,u q.2]).findIdx? (fun s=>s.isPrefixOf [c])=none:=by rw[DM];refine u6 fun q _=>?_;show([u q.1,u q.2]:Bytes).isPrefixOf [c]=_;rw[pre2']
theorem BO0:∀k,k<9->(signs.getD k []).length=2:=by decide
theorem As1:∀k,k<24->(signs.getD (k+9) []).length=1:=by decide
theorem BC0 (h:pyTwo c d=some k):k<9:=by unfold pyTwo at h;rw[BG]at h;exact h.1
theorem Ah3 (h:pyOne c=some k):k<24:=by unfold pyOne at h;rw[BG]at h;exact h.1
noncomputable def signB (c:Int)(d:Option Int):Option (Nat×Nat):=match d.bind (pyTwo c)with
 |some k=>some (k,2)
 |none=>match pyOne c with
  |some k=>some (k+9,1)
  |none=>none
theorem signAt_ok (c:Byt ns)(e:ns[p]?=some z):signAt (toB (ns.drop p))=signB z ns[p+1]?:=by
 have a:=c.at e;unfold signAt signB;rw[O6 e];cases b:ns[p+1]? with
 |none=>
  have d:ns.drop (p+1)=[]:=BS (Bn.mp b);rw[d];show(match signs.findIdx? fun s=>s.isPrefixOf [u z]with |some k=>some (k,(signs.getD k []).length) |none=>none)=_;rw[AA0,List.findIdx?_append,two_find',AR3 a];rw[←AA0];cases h:pyOne z with
  |none=>rfl
  |some k=>have:=Ah3 h;show some (k+9,(signs.getD (k+9) []).length)=some (k+9,1);rw[As1 k this]
 |some y=>
  have f:=c.at b;rw[O6 b];show(match signs.findIdx? fun s=>s.isPrefixOf (u z::u y::toB (ns.drop (p+1+1)))with |some k=>some (k,(signs.getD k []).length) |none=>none)=(match pyTwo z y with |some k=>_ |none=>_);rw[AA0,List.findIdx?_append,A90 a f,AR3 a];rw[←AA0];cases g:pyTwo z y with
  |some k=>have:=BC0 g;show some (k,(signs.getD k []).length)=some (k,2);rw[BO0 k this]
  |none=>
  cases h:pyOne z with
  |none=>rfl
  |some k=>have:=Ah3 h;show some (k+9,(signs.getD (k+9) []).length)=some (k+9,1);rw[As1 k this]
noncomputable def n9:List (List Int):=["abs","at","const","delay","fn","graph","held","let","max","min","node","round","row","sheet","state","sum","table","wrapped","u8","s8","u16","s16","u32","s32","u64","s64"].map fun s=>s.toList.map fun c=>(c.toNat:Int)
theorem BX7:kept=n9.map toB:=by decide
theorem keptZ_byt:∀w∈n9,∀z∈w,0<=z/\z<=255:=by decide
theorem Ap7:∀{v w:List Int},Byt v->Byt w->(toB v=toB w↔v=w)
 |[],[],_,_=>by simp
 |[],_::_,_,_=>by simp[toB]
 |_::_,[],_,_=>by simp[toB]
 |a::v,b::w,h1,h2=>by have d:=h1 a AG;have e:=h2 b AG;have f:=Ap7 (v:=v) (w:=w) (fun z c=>h1 z (AC _ c)) fun z c=>h2 z (AC _ c);show u a::toB v=u b::toB w↔_;rw[List.cons.injEq,List.cons.injEq,f,BT5 e.1 e.2 d.1 d.2]
theorem Ay5 (a:Byt w):(kept.findIdx? fun k=>k==toB w)=n9.findIdx? fun k=>decide (k=w):=by
 rw[BX7,DM];refine findIdx_congr fun k b=>?_;have:=keptZ_byt k b;show(toB k==toB w)=_;by_cases h:k=w
 ·rw[AR h,h];simp
 ·rw[AX h];exact BW.mpr fun e=>h ((Ap7 (fun z c=>this z c) a).mp e)
noncomputable def qOf:Option Tok->Nat×Nat
 |none=>(4,0)
 |some (.name _)=>(0,0)
 |some (.num _)=>(1,0)
 |some (.kept k)=>(2,k)
 |some (.sign k)=>(3,k)
theorem wordTok_dig (b:Byt w)(e:w.head?=some z)(d:m7 z=true):qOf (wordTok (toB w))=(if AZ4 w=true then 1 else 4,0):=by
 cases w with
 |nil=>cases e
 |cons a r=>have e:a=z:=Aa e;subst e;have c:=b a AG;have f:=BB4 b (by simp);show qOf (if isDigit (u a)=true then(numberOf (toB (a::r))).map .num else _)=_;rw[AL (by rw[T6 c.1 c.2];exact d),f];cases numberOf (toB (a::r))<;>rfl
theorem wordTok_long (c:Byt w)(e:w.head?=some z)(d:m7 z=false)(f:32<w.length):qOf (wordTok (toB w))=(4,0):=by
 cases w with
 |nil=>cases e
 |cons a r=>have e:a=z:=Aa e;subst e;have b:=c a AG;show qOf (if isDigit (u a)=true then _ else if WORD<(toB (a::r)).length then none else _)=_;rw[AD (by rw[T6 b.1 b.2,d];decide),AL (by rw[toB_length];exact f)];rfl
theorem wordTok_word (b:Byt w)(e:w.head?=some z)(d:m7 z=false)(f:¬32<w.length):
  qOf (wordTok (toB w))=match n9.findIdx? fun k=>decide (k=w)with |some k=>(2,k) |none=>(0,0):=by
 cases w with
 |nil=>cases e
 |cons a r=>have e:a=z:=Aa e;subst e;have c:=b a AG;show qOf (if isDigit (u a)=true then _ else if WORD<(toB (a::r)).length then none else match kept.findIdx? fun(k:Bytes)=>k==toB (a::r)with |some k=>some (.kept k) |none=>some (.name (toB (a::r))))=_;rw[AD (by rw[T6 c.1 c.2,d];decide),AD (by rw[toB_length];exact f),Ay5 b];cases n9.findIdx? fun k=>decide (k=a::r)<;>rfl
theorem runAt_head (e:ns[p]?=some z)(a:wordB z=true):(K6 ns p).head?=some z:=by unfold K6;rw[O6 e,BZ,AL a];rfl
theorem runAt_byt (a:Byt ns)(p:Nat):Byt (K6 ns p):=fun z b=>a z (CU ((Bj _).subset b))
theorem runAt_word:∀z∈K6 ns p,wordB z=true:=fun z a=>by unfold K6 at a;have:=List.all_takeWhile (l:=ns.drop p) (p:=wordB);rw[BO]at this;exact this z a
theorem runAt_cut (ns:List Int)(p:Nat):K6 ns p=(ns.drop p).take (endOf wordB ns p-p):=by unfold K6 endOf;rw[Nat.add_sub_cancel_left];exact List.prefix_iff_eq_take.mp (List.takeWhile_prefix wordB)
theorem A10 (a:Byt ns):SwRows.text? ns=some (toB ns):=by
 unfold SwRows.text?;rw[AL]
 ·rfl
 ·unfold NeutralIO.bytes;rw[BO];intro z b;obtain⟨c,d⟩:=a z b;rw[AR c,AR d];rfl
theorem Af6 (a:ns.length<=100000):¬SwE.large (toB ns)=true:=by unfold SwE.large SwE.TEXT;rw[toB_length];intro h;have:=of_decide_eq_true h;omega
end My
namespace Rd
open Sw
inductive Sy where
 |name |number |kept (k:Nat) |sign (k:Nat) |nothing |finish
 deriving DecidableEq
inductive Nt where
 |DECL |CODE |KIND |PORT |END |DIVISOR |STATE |DO |WIRE |WIRE_NAMED |WIRE_SOURCE |WIRE_TAKEN |WIRE_INPUTS |SIZE |E |CHOICE |OR |JOINED |COMPARISON |COMPARED |FORMULA |OPERATED |ONE |BEHIND |INDEX |INDEXES |SECOND |ATOM |CALLED
 deriving DecidableEq
inductive Sb where
 |t (y:Sy) |n (x:Nt)
 deriving DecidableEq
inductive Fm where
 |once |maybe |many |more |fin
 deriving DecidableEq
structure Pt where
 fm:Fm
 sb:Sb
 room:Nat
 deriving DecidableEq
noncomputable def k1 (k:Nat):Pt:=⟨.once,.t (.kept k),1⟩
noncomputable def s1 (k:Nat):Pt:=⟨.once,.t (.sign k),1⟩
noncomputable def nm:Pt:=⟨.once,.t .name,1⟩
noncomputable def nb:Pt:=⟨.once,.t .number,1⟩
noncomputable def o1 (x:Nt):Pt:=⟨.once,.n x,1⟩
noncomputable def mb (x:Nt):Pt:=⟨.maybe,.n x,1⟩
noncomputable def mn (x:Nt)(r:Nat):Pt:=⟨.many,.n x,r⟩
noncomputable def mr (x:Nt)(r:Nat):Pt:=⟨.more,.n x,r⟩
noncomputable def mrn (r:Nat):Pt:=⟨.more,.t .name,r⟩
noncomputable def AF8:Nat:=1048576
noncomputable def fA:List Sy:=[.number,.name,.sign 27,.kept 6,.kept 17,.kept 11,.kept 0,.kept 9,.kept 8]
noncomputable def fO:List Sy:=[.sign 10,.sign 17,.sign 18,.number,.name,.sign 27,.kept 6,.kept 17,.kept 11,.kept 0,.kept 9,.kept 8]
noncomputable def fC:List Nat:=[18,19,20,21,22,23,24,25]
noncomputable def Bk5 (l:List Sy)(p:List Pt):List (Sy×List Pt):=l.map fun y=>(y,p)
noncomputable def row:Nt->List (Sy×List Pt)
 |.DECL=>[(.kept 2,[k1 2,nm,s1 21,o1 .E,s1 24]),
  (.kept 16,[k1 16,nm,s1 23,o1 .CODE,s1 21,s1 29,o1 .E,mr .E 65535,s1 30,s1 24]),
  (.kept 4,[k1 4,nm,s1 27,nm,mrn 255,s1 28,s1 21,o1 .E,s1 24]),
  (.kept 10,[k1 10,nm,s1 27,o1 .PORT,mr .PORT 255,s1 28,s1 0,s1 27,o1 .PORT,mr .PORT 255,s1 28,s1 31,mn .STATE 256,mn .DO 256,s1 32]),
  (.kept 5,[k1 5,nm,s1 27,o1 .END,mr .END 255,s1 28,s1 0,s1 27,o1 .END,mr .END 255,s1 28,s1 31,mn .WIRE 256,s1 32])]
 |.CODE=>fC.map fun k=>(.kept k,[k1 k])
 |.KIND=>fC.map fun k=>(.kept k,[o1 .CODE,mb .INDEXES])
 |.PORT=>[(.name,[nm,s1 23,o1 .KIND,mb .DIVISOR])]
 |.END=>[(.name,[nm,s1 23,o1 .KIND,k1 1,o1 .SIZE,mb .DIVISOR])]
 |.DIVISOR=>[(.sign 12,[s1 12,o1 .SIZE])]
 |.STATE=>[(.kept 14,[k1 14,nm,s1 23,o1 .KIND,s1 21,o1 .E,s1 24])]
 |.DO=>[(.kept 7,[k1 7,nm,s1 21,o1 .E,s1 24]),(.name,[nm,mb .INDEX,s1 21,o1 .E,s1 24])]
 |.WIRE=>[(.name,[nm,o1 .WIRE_NAMED])]
 |.WIRE_NAMED=>[(.sign 25,[s1 25,nm,mrn 254,s1 21,nm,o1 .WIRE_INPUTS]),(.sign 21,[s1 21,o1 .WIRE_SOURCE])]
 |.WIRE_SOURCE=>[(.kept 3,[k1 3,o1 .SIZE,s1 27,o1 .E,s1 28,s1 27,nm,s1 28,s1 24]),(.name,[nm,o1 .WIRE_TAKEN])]
 |.WIRE_TAKEN=>[(.sign 27,[o1 .WIRE_INPUTS]),(.sign 24,[s1 24])]
 |.WIRE_INPUTS=>[(.sign 27,[s1 27,nm,mrn 255,s1 28,s1 24])]
 |.SIZE=>[(.number,[nb]),(.name,[nm]),(.sign 27,[s1 27,o1 .E,s1 28])]
 |.E=>[(.kept 15,[k1 15,nm,s1 19,o1 .SIZE,s1 23,o1 .E]),(.kept 12,[k1 12,nm,s1 19,o1 .SIZE,s1 23,o1 .E]),
  (.kept 13,[k1 13,nm,s1 25,nm,s1 19,o1 .SIZE,s1 25,o1 .SIZE,s1 23,o1 .E])]++Bk5 fO [o1 .OR,mb .CHOICE]
 |.CHOICE=>[(.sign 22,[s1 22,o1 .E,s1 23,o1 .E])]
 |.OR=>Bk5 fO [o1 .COMPARISON,mn .JOINED AF8]
 |.JOINED=>[(.sign 8,[s1 8,o1 .COMPARISON]),(.sign 7,[s1 7,o1 .COMPARISON])]
 |.COMPARISON=>Bk5 fO [o1 .FORMULA,mb .COMPARED]
 |.COMPARED=>[19,3,5,6,20,4].map fun k=>(.sign k,[s1 k,o1 .FORMULA])
 |.FORMULA=>Bk5 fO [o1 .ONE,mn .OPERATED AF8]
 |.OPERATED=>[15,16,14,1,2,9,10,11,12,13].map fun k=>(.sign k,[s1 k,o1 .ONE])
 |.ONE=>[(.sign 10,[s1 10,o1 .ONE]),(.sign 17,[s1 17,o1 .ONE]),(.sign 18,[s1 18,o1 .ONE])]++Bk5 fA [o1 .ATOM,mn .BEHIND AF8]
 |.BEHIND=>[(.sign 29,[o1 .INDEXES]),(.sign 26,[s1 26,o1 .SIZE])]
 |.INDEX=>[(.sign 29,[s1 29,o1 .E,s1 30])]
 |.INDEXES=>[(.sign 29,[s1 29,o1 .E,mb .SECOND,s1 30])]
 |.SECOND=>[(.sign 25,[s1 25,o1 .E])]
 |.ATOM=>[(.number,[nb]),(.name,[nm,mb .CALLED]),(.sign 27,[s1 27,o1 .E,s1 28]),(.kept 6,[k1 6,o1 .CODE,s1 27,o1 .E,s1 28]),
  (.kept 17,[k1 17,o1 .CODE,s1 27,o1 .E,s1 28]),(.kept 11,[k1 11,s1 27,o1 .E,s1 25,o1 .E,s1 28]),(.kept 0,[k1 0,s1 27,o1 .E,s1 28]),
  (.kept 9,[k1 9,s1 27,o1 .E,s1 25,o1 .E,s1 28]),(.kept 8,[k1 8,s1 27,o1 .E,s1 25,o1 .E,s1 28])]
 |.CALLED=>[(.sign 27,[s1 27,o1 .E,mr .E 255,s1 28])]
noncomputable def lk:List (Sy×List Pt)->Sy->Option (List Pt)
 |[],_=>none
 |(k,p)::r,y=>if k=y then some p else lk r y
noncomputable def P3 (x:Nt)(y:Sy):Option (List Pt):=lk (row x) y
noncomputable def keys (x:Nt):List Sy:=(row x).map (·.1)
noncomputable def B8 (b:Sb)(y:Sy):Bool:=match b with
 |.t z=>decide (z=y)
 |.n x=>(P3 x y).isSome
noncomputable def Bu5:List Nt:=[.E,.ONE,.ATOM,.SIZE]
noncomputable def Br3:List Nt:=[.DECL,.PORT,.END,.STATE,.DO,.WIRE,.SIZE,.E,.OR,.ONE,.ATOM,.BEHIND]
noncomputable def c9 (b:Sb):Bool:=match b with
 |.t _=>false
 |.n x=>Bu5.contains x
noncomputable def V1 (x:Nt):Bool:=Br3.contains x
structure Fr where
 fm:Fm
 sb:Sb
 room:Nat
 dp:Nat
 deriving DecidableEq
inductive Kd where
 |PROGRAM |n (x:Nt) |OPERATOR |POST |SUM |CHOICE |SIGNED
 deriving DecidableEq
inductive Nd where
 |mk (k:Kd) (i j:Nat) (pr:Bool) (st le:Nat) (c:List Nd)
namespace Nd
noncomputable def k:Nd->Kd |mk k _ _ _ _ _ _=>k
noncomputable def i:Nd->Nat |mk _ i _ _ _ _ _=>i
noncomputable def j:Nd->Nat |mk _ _ j _ _ _ _=>j
noncomputable def pr:Nd->Bool |mk _ _ _ p _ _ _=>p
noncomputable def st:Nd->Nat |mk _ _ _ _ s _ _=>s
noncomputable def le:Nd->Nat |mk _ _ _ _ _ l _=>l
noncomputable def c:Nd->List Nd |mk _ _ _ _ _ _ c=>c
noncomputable def setLe:Nd->Nat->Nd |mk k i j p s _ c,l=>mk k i j p s l c
end Nd
structure Op where
 k:Kd
 i:Nat
 c:List Nd
noncomputable def mkOp (s:Nat)(l r:Nd):Nd:=.mk .OPERATOR l.i r.j false s 0 [l.setLe (if s=4 then 5 else s),r.setLe (s+1)]
noncomputable def red (t:Nat):List Nd->List Nat->List Nd×List Nat
 |r::l::O,s::S=>if t<=s then red t (mkOp s l r::O) S else(r::l::O,s::S)
 |O,S=>(O,S)
termination_by structural _ S=>S
noncomputable def stL:List Nat:=[0,8,8,4,4,4,4,3,2,9,9,10,10,10,7,5,6,0,0,4,4]
noncomputable def stOf:Sy->Nat
 |.sign k=>stL.getD k 0
 |_=>0
noncomputable def J3 (p q:Nd):Nd:=.mk .POST p.i q.j false 12 0 (p.setLe 12::q.c)
section
variable (cy:Nat->Sy) (N:Nat)
noncomputable def AP8 (x:List Nd×List Nat)(n:Nd):List Nd×List Nat:=let y:=red (stOf (cy (n.i-1))) x.1 x.2
 (n::y.1,stOf (cy (n.i-1))::y.2)
noncomputable def BH7 (n:Nd):Bool:=decide (1<=n.i/\n.i<=N/\2<=stOf (cy (n.i-1)))
noncomputable def A50:List Nd->Option Nd
 |[]=>none
 |n::r=>if r.all (BH7 cy N)=true then(let x:=r.foldl (AP8 cy) ([n],[]);(red 0 x.1 x.2).1.head?)else none
noncomputable def Bn7 (o:Op)(j:Nat):Option Nd:=if cy o.i=.kept 15∨cy o.i=.kept 12∨cy o.i=.kept 13 then some (.mk .SUM o.i j false 0 0 o.c)else match o.c with
  |[]=>none
  |n::r=>if r.isEmpty=true then some n else some (.mk .CHOICE o.i j false 1 0 (n.setLe 2::r))
noncomputable def Ai4 (o:Op)(j:Nat):Option Nd:=match o.c with
  |[]=>none
  |n::r=>if cy o.i=.sign 10∨cy o.i=.sign 17∨cy o.i=.sign 18 then some (.mk .SIGNED o.i j false 11 0 (n.setLe 11::r))else if r.all (fun q=>decide (q.c.length<=2))=true then some (r.foldl J3 n)else none
noncomputable def AP4 (o:Op)(j:Nat)(l:Nat):Option Nd:=if cy o.i=.sign 27 then(match o.c with |[]=>none |n::r=>some (.mk o.k o.i j true n.st l (n::r)))else some (.mk o.k o.i j false (if 1<j-o.i then 12 else 13) 0 o.c)
noncomputable def fin (o:Op)(j:Nat):Option Nd:=if o.k=.n .E then Bn7 cy o j else if o.k=.n .OR then A50 cy N o.c else if o.k=.n .ONE then Ai4 cy o j else if o.k=.n .ATOM then AP4 cy o j 0 else if o.k=.n .SIZE then AP4 cy o j 13 else some (.mk o.k o.i j false 13 0 o.c)
structure Cf where
 frs:List Fr
 pos:Nat
 opn:List Op
inductive Res where
 |go (c:Cf)
 |bad (k:Nat)
 |stuck
inductive Fin where
 |fault (k i:Nat)
 |done (o:List Op)
noncomputable def faultOf (f:Fr)(y:Sy):Nat:=
 if B8 f.sb y=false then 2 else if c9 f.sb=true/\128<f.dp then 3 else if f.room<1 then 4 else 0
noncomputable def fr (d:Nat)(p:Pt):Fr:=⟨p.fm,p.sb,p.room,d⟩
noncomputable def V6 (x:Nt):List Fr:=if V1 x=true then [⟨.fin,.n x,1,0⟩]else []
noncomputable def b9 (x:Nt)(i:Nat):List Op:=if V1 x=true then [⟨.n x,i,[]⟩]else []
noncomputable def AC9 (fs:List Fr)(i:Nat):List Op->Res
 |o::p::r=>match fin cy N o i with
  |some n=>if p.c.length<=N then .go ⟨fs,i,⟨p.k,p.i,p.c++[n]⟩::r⟩else .stuck
  |none=>.stuck
 |_=>.stuck
noncomputable def dps (x:Nt)(d:Nat):Nat:=if c9 (.n x)=true then d+1 else d
noncomputable def step (f:Fr)(fs:List Fr)(i:Nat)(a:List Op):Res:=
 if N<i then .stuck
 else if f.fm=.fin then AC9 cy N fs i a
 else if cy i=.nothing then .bad 1
 else match f.fm with
  |.once=>if faultOf f (cy i)≠0 then .bad (faultOf f (cy i))else match f.sb with
   |.t _=>.go ⟨fs,i+1,a⟩
   |.n x=>.go ⟨((P3 x (cy i)).getD []).map (fr (dps x f.dp))++(V6 x++fs),i,b9 x i++a⟩
  |.more=>if cy i=.sign 25 then .go ⟨⟨.once,f.sb,f.room,f.dp⟩::⟨.more,f.sb,f.room-1,f.dp⟩::fs,i+1,a⟩else .go ⟨fs,i,a⟩
  |.many=>if B8 f.sb (cy i)=true then .go ⟨⟨.once,f.sb,f.room,f.dp⟩::⟨.many,f.sb,f.room-1,f.dp⟩::fs,i,a⟩else .go ⟨fs,i,a⟩
  |_=>if B8 f.sb (cy i)=true then .go ⟨⟨.once,f.sb,f.room,f.dp⟩::fs,i,a⟩else .go ⟨fs,i,a⟩
inductive Ends:List Fr->Nat->List Op->Fin->Prop where
 |done {i:Nat} {o:List Op}:Ends [] i o (.done o)
 |bad {f:Fr} {fs:List Fr} {i k:Nat} {o:List Op}:step cy N f fs i o=.bad k->Ends (f::fs) i o (.fault k i)
 |go {f:Fr} {fs:List Fr} {i:Nat} {o:List Op} {c:Cf} {R:Fin}:step cy N f fs i o=.go c->Ends c.frs c.pos c.opn R->Ends (f::fs) i o R
end
noncomputable def F5:Tok->Sy
 |.name _=>.name
 |.num _=>.number
 |.kept k=>.kept k
 |.sign k=>.sign k
structure Tx where
 A:List Token
 nn:Option Nat
 hl:Nat
noncomputable def Tx.cy (X:Tx)(i:Nat):Sy:=match X.A[i]? with
 |some t=>F5 t.tok
 |none=>if X.nn.isSome=true then .nothing else .finish
noncomputable def Tx.plc (X:Tx)(i:Nat):Nat:=match X.A[i]? with
 |some t=>t.at_
 |none=>X.nn.getD X.hl
noncomputable def Tx.tk (X:Tx)(i:Nat):Option Tok:=(X.A[i]?).map (·.tok)
noncomputable abbrev Tx.N (X:Tx):Nat:=X.A.length
noncomputable def Tx.bg (X:Tx)(i:Nat):Nat:=((X.A[i]?).map (·.at_)).getD X.hl
noncomputable def Tx.en (X:Tx):Nat->Nat
 |0=>0
 |i+1=>((X.A[i]?).map fun t=>t.at_+t.len).getD 0
structure At (X:Tx)(s:PS)(i:Nat):Prop where
 le:i<=X.N
 t:s.toks=X.A.drop i
 n:s.none_=X.nn
 h:s.halt_=X.hl
 l:s.last=X.en i
noncomputable def adv (s:PS):PS:=match s.toks with
 |t::r=>{s with toks:=r,last:=t.at_+t.len}
 |[]=>s
theorem P9 (s:PS):next s=.ok ((),adv s):=rfl
theorem BX8 (s:PS):peek s=.ok (s.toks.head?,s):=rfl
theorem BP4 (s:PS):here s=.ok (((s.toks.head?).map fun(t:Token)=>t.at_).getD s.halt_,s):=rfl
theorem A5 {c d:Type}{a:P c}{b:c->P d}{s s1:PS}{x:c}(h:a s=.ok (x,s1)):(a>>=b) s=b x s1:=by show Except.bind (a s) _=_;rw[h];rfl
theorem P0 {c d:Type}{a:P c}{b:c->P d}{s:PS}{e:Fault}(h:a s=.error e):(a>>=b) s=.error e:=by show Except.bind (a s) _=_;rw[h];rfl
def A55 (y:Sy):Prop:=y≠.nothing/\y≠.finish
section
variable {X:Tx} {s:PS} {i:Nat}
theorem F9 (e:X.A[i]?=some t):X.cy i=F5 t.tok/\X.plc i=t.at_/\X.tk i=some t.tok/\X.bg i=t.at_:=by unfold Tx.cy Tx.plc Tx.tk Tx.bg;rw[e];exact⟨rfl,rfl,rfl,rfl⟩
theorem V2 (h:A55 (X.cy i)):∃t,X.A[i]?=some t:=by
 cases e:X.A[i]? with
 |some t=>exact⟨t,rfl⟩
 |none=>
  unfold Tx.cy at h;rw[e]at h;cases q:X.nn with
  |none=>rw[q]at h;exact(h.2 rfl).elim
  |some p=>rw[q]at h;exact(h.1 rfl).elim
theorem M5 (e:X.A[i]?=some t):i<X.N:=(Ad.mp e).1
theorem At.head (h:At X s i):s.toks.head?=X.A[i]?:=by rw[h.t,List.head?_drop]
theorem At.cons (h:At X s i){t:Token}(e:X.A[i]?=some t):s.toks=t::X.A.drop (i+1):=by rw[h.t];exact List.drop_eq_getElem?_toList_append.trans (by rw[e];rfl)
theorem At.adv (h:At X s i){t:Token}(e:X.A[i]?=some t):At X (adv s) (i+1)/\(adv s).parts=s.parts:=by unfold Rd.adv;rw[h.cons e];refine⟨⟨M5 e,rfl,h.n,h.h,?_⟩,rfl⟩;show _=Option.getD _ _;rw[e];rfl
theorem At.here (h:At X s i):Sw.here s=.ok (X.bg i,s):=by rw[BP4,h.head,h.h];rfl
theorem At.stray (h:At X s i){a:Type}:(Sw.stray:P a) s=.error ⟨if X.cy i=.nothing then 1 else 2,X.plc i⟩:=by
 show(match s.toks,s.none_ with |t::_,_=>bad 2 t.at_ |[],some p=>bad 1 p |[],none=>bad 2 s.halt_:P a) s=_;cases e:X.A[i]? with
 |some t=>
  rw[h.cons e,(F9 e).1,(F9 e).2.1];have:F5 t.tok≠.nothing:=by cases t.tok<;>simp[F5]
  rw[AD this];rfl
 |none=>
  have b:s.toks=[]:=by rw[h.t];exact BS (Bn.mp e)
  unfold Tx.cy Tx.plc;rw[b,h.n,h.h,e];cases X.nn<;>rfl
theorem At.peek (h:At X s i):Sw.peek s=.ok (X.A[i]?,s):=by rw[BX8,h.head]
theorem U6 (h:At X s i)(t:Tok):takesTok t s=if X.tk i=some t then .ok (true,Rd.adv s)else .ok (false,s):=by
 unfold takesTok;rw[A5 h.peek];cases e:X.A[i]? with
 |none=>rw[AD (by unfold Tx.tk;rw[e];simp)];rfl
 |some x=>
  show(if x.tok=t then _ else _:P Bool) s=_;rw[(F9 e).2.2.1];by_cases q:x.tok=t
  ·rw[AL q,AL (by rw[q])];rw[A5 (P9 s)];rfl
  ·rw[AD q,AD (fun z=>q (Aa z))];rfl
theorem Ao3:X.tk i=some (.sign k)↔X.cy i=.sign k:=by
 cases e:X.A[i]? with
 |none=>unfold Tx.tk Tx.cy;rw[e];cases X.nn<;>simp
 |some t=>rw[(F9 e).1,(F9 e).2.2.1];cases t.tok<;>simp[F5]
theorem AK2:X.tk i=some (.kept k)↔X.cy i=.kept k:=by
 cases e:X.A[i]? with
 |none=>unfold Tx.tk Tx.cy;rw[e];cases X.nn<;>simp
 |some t=>rw[(F9 e).1,(F9 e).2.2.1];cases t.tok<;>simp[F5]
theorem BR4 (h:X.cy i=.name):∃b,X.tk i=some (.name b):=by
 obtain⟨t,e⟩:=V2 (X:=X) (i:=i) (by rw[h];exact⟨by simp,by simp⟩);rw[(F9 e).1]at h;rw[(F9 e).2.2.1];cases q:t.tok with
 |name b=>exact⟨b,rfl⟩
 |num _=>rw[q]at h;cases h
 |kept _=>rw[q]at h;cases h
 |sign _=>rw[q]at h;cases h
theorem BA6 (h:X.tk i=some t):X.cy i=F5 t/\∃u,X.A[i]?=some u/\u.tok=t:=by unfold Tx.tk at h;obtain⟨u,e,q⟩:=Ay.mp h;exact⟨by rw[(F9 e).1,q],u,e,q⟩
theorem K1 (h:At X s i)(e:X.cy i=.sign (signNo x)):takes x s=.ok (true,Rd.adv s):=by unfold takes;rw[U6 h,AL (Ao3.mpr e)]
theorem J1 (h:At X s i)(e:X.cy i≠.sign (signNo x)):takes x s=.ok (false,s):=by unfold takes;rw[U6 h,AD (fun q=>e (Ao3.mp q))]
theorem U3 (h:At X s i)(e:X.cy i=.kept (keptNo x)):takesWord x s=.ok (true,Rd.adv s):=by unfold takesWord;rw[U6 h,AL (AK2.mpr e)]
theorem R8 (h:At X s i)(e:X.cy i≠.kept (keptNo x)):takesWord x s=.ok (false,s):=by unfold takesWord;rw[U6 h,AD (fun q=>e (AK2.mp q))]
theorem X9 (h:At X s i){x:String}(e:X.cy i=.sign (signNo x)):wants x s=.ok ((),Rd.adv s):=by unfold wants;rw[A5 (K1 h e)];rfl
theorem Y7 (h:At X s i){x:String}(e:X.cy i≠.sign (signNo x)):wants x s=stray s:=by unfold wants;rw[A5 (J1 h e)];rfl
theorem A94 (h:At X s i){b:Bytes}(e:X.tk i=some (.name b)):wantsName s=.ok (b,Rd.adv s):=by obtain⟨_,u,a,q⟩:=BA6 e;unfold wantsName;rw[A5 h.peek,a];obtain⟨p,l,k⟩:=u;cases q;show(next>>=fun _=>pure b:P Bytes) s=_;rw[A5 (P9 s)];rfl
theorem r4 (h:At X s i)(e:X.cy i≠.name):wantsName s=stray s:=by
 unfold wantsName;rw[A5 h.peek];cases q:X.A[i]? with
 |none=>rfl
 |some u=>
  rw[(F9 q).1]at e;obtain⟨p,l,k⟩:=u;cases k with
  |name b=>exact(e rfl).elim
  |_=>rfl
theorem AU8 (k:Nat):codeOf k=if 18<=k/\k<26 then some (k-18)else none:=by
 have a:keptNo "u8"=18:=by decide
 have b:kept.length=26:=by decide
 unfold codeOf;rw[a,b]
theorem A73 (h:At X s i){k:Nat}(a:18<=k/\k<26)(e:X.cy i=.kept k):wantsCode s=.ok (k-18,Rd.adv s):=by obtain⟨_,u,b,q⟩:=BA6 (AK2.mpr e);unfold wantsCode;rw[A5 h.peek,b];obtain⟨p,l,d⟩:=u;cases q;show(match codeOf k with |some c=>_ |none=>_:P Code) s=_;rw[AU8,AL a];show(next>>=fun _=>pure (k-18):P Code) s=_;rw[A5 (P9 s)];rfl
theorem As6 (h:At X s i)(e:∀k,X.cy i=.kept k->¬(18<=k/\k<26)):wantsCode s=stray s:=by
 unfold wantsCode;rw[A5 h.peek];cases q:X.A[i]? with
 |none=>rfl
 |some u=>
  rw[(F9 q).1]at e;obtain⟨p,l,k⟩:=u;cases k with
  |kept k=>show(match codeOf k with |some c=>_ |none=>_:P Code) s=_;rw[AU8,AD (e k rfl)]
  |_=>rfl
theorem C2 {c d:Type}{a:P c}{b:c->P d}(h:At X s i)(e:a s=stray s):(a>>=b) s=stray s:=by rw[h.stray]at e ⊢;exact P0 e
end
abbrev En (X:Tx)(fs:List Fr)(i:Nat)(o:List Op)(R:Fin):Prop:=Ends X.cy X.N fs i o R
noncomputable def push (ns:List Nd):List Op->List Op
 |[]=>[]
 |o::r=>⟨o.k,o.i,o.c++ns⟩::r
theorem Ah1 (st:List Op):push [] st=st:=by
 cases st with
 |nil=>rfl
 |cons o r=>show(⟨o.k,o.i,o.c++[]⟩:Op)::r=_;rw[AE]
theorem AT2 (ns a:List Nd)(st:List Op):push a (push ns st)=push (ns++a) st:=by
 cases st with
 |nil=>rfl
 |cons o r=>show(⟨o.k,o.i,o.c++ns++a⟩:Op)::r=⟨o.k,o.i,o.c++(ns++a)⟩::r;rw[AF]
def Okst (st:List Op)(i:Nat):Prop:=∃o r,st=o::r/\o.c.length<=i
theorem Okst.push (h:Okst st i)(a:i+ns.length<=j):Okst (push ns st) j:=by obtain⟨o,r,rfl,h⟩:=h;exact⟨_,_,rfl,by show(o.c++ns).length<=j;rw[AO];omega⟩
def Real (fs:List Fr):Prop:=∃f∈fs,f.fm≠.fin
theorem Real.app (h:Real gs):Real (fs++gs):=let ⟨f,a,q⟩:=h;⟨f,AQ _ a,q⟩
theorem Real.cons (h:Real gs):Real (f::gs):=Real.app (fs:=[f]) h
section
variable {X:Tx} {i:Nat} {fs:List Fr} {st:List Op} {R:Fin} {f:Fr}
theorem Y1 (a:i<=X.N)(b:f.fm≠.fin)(c:X.cy i=.nothing):En X (f::fs) i st (.fault 1 i):=by refine .bad ?_;unfold step;rw[AD (Bx.mpr a),AD b,AL c]
theorem Az9 (b:i<=X.N)(a:f.fm=.once)(c:X.cy i≠.nothing)(d:faultOf f (X.cy i)≠0):En X (f::fs) i st (.fault (faultOf f (X.cy i)) i):=by refine .bad ?_;unfold step;rw[AD (Bx.mpr b),AD (by rw[a];decide),AD c,a];exact AL d
theorem Ao0 (a:i<=X.N)(b:f.fm=.once)(c:B8 f.sb (X.cy i)=false):En X (f::fs) i st (.fault (if X.cy i=.nothing then 1 else 2) i):=by
 by_cases h:X.cy i=.nothing
 ·rw[AL h];exact Y1 a (by rw[b];decide) h
 ·rw[AD h];have e:faultOf f (X.cy i)=2:=by unfold faultOf;rw[AL c]
  have:=Az9 (fs:=fs) (st:=st) a b h (by rw[e];decide);rw[e]at this;exact this
theorem BH0 (a:B8 f.sb y=true)(b:¬(c9 f.sb=true/\128<f.dp))(c:1<=f.room):faultOf f y=0:=by unfold faultOf;rw[AD (by rw[a];decide),AD b,AD (by omega)]
theorem BD8 (a:i<=X.N)(b:X.cy i=y)(f:y≠.nothing)(g:1<=r)(h:En X fs (i+1) st R):En X (⟨.once,.t y,r,d⟩::fs) i st R:=by refine .go (c:=⟨fs,i+1,st⟩) ?_ h;unfold step;rw[AD (Bx.mpr a),AD (fun q=>nomatch q),b,AD f];have e:faultOf ⟨.once,.t y,r,d⟩ y=0:=BH0 (by show decide (y=y)=true;exact AR rfl) (fun q=>by cases q.1) g;show(if faultOf _ _≠0 then _ else _)=_;rw[e];rfl
theorem BS1 (b:i<=X.N)(a:P3 x (X.cy i)=some ps)(f:X.cy i≠.nothing)(g:¬(c9 (.n x)=true/\128<d))(j:1<=r)(h:En X (ps.map (fr (dps x d))++(V6 x++fs)) i (b9 x i++st) R):En X (⟨.once,.n x,r,d⟩::fs) i st R:=by refine .go (c:=⟨_,i,_⟩) ?_ h;unfold step;rw[AD (Bx.mpr b),AD (fun q=>nomatch q),AD f];have e:faultOf ⟨.once,.n x,r,d⟩ (X.cy i)=0:=BH0 (by show(P3 x (X.cy i)).isSome=true;rw[a];rfl) g j;show(if faultOf _ _≠0 then _ else Res.go _)=_;rw[e,a];rfl
theorem Ap9 (a:i<=X.N)(e:X.cy i=.sign 25)(h:En X (⟨.once,b,r,d⟩::⟨.more,b,r-1,d⟩::fs) (i+1) st R):En X (⟨.more,b,r,d⟩::fs) i st R:=by refine .go (c:=⟨_,_,_⟩) ?_ h;unfold step;rw[AD (Bx.mpr a),AD (fun q=>nomatch q),e,AD (by decide)];exact AL rfl
theorem BS2 (a:i<=X.N)(e:X.cy i≠.nothing)(f:X.cy i≠.sign 25)(h:En X fs i st R):En X (⟨.more,b,r,d⟩::fs) i st R:=by refine .go (c:=⟨_,_,_⟩) ?_ h;unfold step;rw[AD (Bx.mpr a),AD (fun q=>nomatch q),AD e];exact AD f
theorem W3 (a:i<=X.N)(e:X.cy i≠.nothing)(f:B8 b (X.cy i)=true)(h:En X (⟨.once,b,r,d⟩::⟨.many,b,r-1,d⟩::fs) i st R):En X (⟨.many,b,r,d⟩::fs) i st R:=by refine .go (c:=⟨_,_,_⟩) ?_ h;unfold step;rw[AD (Bx.mpr a),AD (fun q=>nomatch q),AD e];exact AL f
theorem AZ0 (a:i<=X.N)(e:X.cy i≠.nothing)(f:B8 b (X.cy i)=false)(h:En X fs i st R):En X (⟨.many,b,r,d⟩::fs) i st R:=by refine .go (c:=⟨_,_,_⟩) ?_ h;unfold step;rw[AD (Bx.mpr a),AD (fun q=>nomatch q),AD e];exact AD (by rw[f];decide)
theorem Ai3 (a:i<=X.N)(e:X.cy i≠.nothing)(f:B8 b (X.cy i)=true)(h:En X (⟨.once,b,r,d⟩::fs) i st R):En X (⟨.maybe,b,r,d⟩::fs) i st R:=by refine .go (c:=⟨_,_,_⟩) ?_ h;unfold step;rw[AD (Bx.mpr a),AD (fun q=>nomatch q),AD e];exact AL f
theorem A46 (a:i<=X.N)(e:X.cy i≠.nothing)(f:B8 b (X.cy i)=false)(h:En X fs i st R):En X (⟨.maybe,b,r,d⟩::fs) i st R:=by refine .go (c:=⟨_,_,_⟩) ?_ h;unfold step;rw[AD (Bx.mpr a),AD (fun q=>nomatch q),AD e];exact AD (by rw[f];decide)
theorem Bu1 (a:i<=X.N)(b:fin X.cy X.N o i=some n)(d:p.c.length<=X.N)(h:En X fs i (⟨p.k,p.i,p.c++[n]⟩::st) R):En X (⟨.fin,.n x,1,0⟩::fs) i (o::p::st) R:=by refine .go (c:=⟨_,_,_⟩) ?_ h;unfold step;rw[AD (Bx.mpr a),AL rfl];show(match fin X.cy X.N o i with |some n=>_ |none=>_)=_;rw[b];exact AL d
theorem b8 (hn:X.cy i=.nothing):∀{fs:List Fr} {st:List Op},Real fs->En X fs i st R->R=.fault 1 i:=by
 intro fs
 induction fs with
 |nil=>rintro st ⟨f,hf,_⟩ _;cases hf
 |cons f fs ih=>
  intro st hr h;by_cases hf:f.fm=.fin
  ·have hr':Real fs:=by
    obtain⟨g,hg,q⟩:=hr;rcases AK.mp hg with rfl |hg
    ·exact(q hf).elim
    ·exact⟨g,hg,q⟩
   have key:step X.cy X.N f fs i st=.stuck∨∃o,step X.cy X.N f fs i st=.go ⟨fs,i,o⟩:=by
    unfold step;by_cases hN:X.N<i
    ·exact .inl (AL hN)
    ·rw[AD hN,AL hf];unfold AC9;split
     ·split
      ·split
       ·exact .inr ⟨_,rfl⟩
       ·exact .inl rfl
      ·exact .inl rfl
     ·exact .inl rfl
   cases h with
   |bad e=>rcases key with q |⟨o,q⟩<;>(rw[q]at e;cases e)
   |go e h2=>
    rcases key with q |⟨o,q⟩
    ·rw[q]at e;cases e
    ·rw[q]at e;cases e;exact ih hr' h2
  ·have key:step X.cy X.N f fs i st=.stuck∨step X.cy X.N f fs i st=.bad 1:=by
    unfold step;by_cases hN:X.N<i
    ·exact .inl (AL hN)
    ·rw[AD hN,AD hf,AL hn];exact .inr rfl
   cases h with
   |bad e=>rcases key with q |q<;>(rw[q]at e;cases e);rfl
   |go e h2=>rcases key with q |q<;>(rw[q]at e;cases e)
theorem AR4 (c:i<=X.N)(e:Real fs)(f:B8 b (X.cy i)=false)(h:En X fs i st R):En X (⟨.many,b,r,d⟩::fs) i st R:=by
 by_cases a:X.cy i=.nothing
 ·rw[b8 a e h];exact Y1 c (fun q=>nomatch q) a
 ·exact AZ0 c a f h
theorem A31 (c:i<=X.N)(e:Real fs)(f:B8 b (X.cy i)=false)(h:En X fs i st R):En X (⟨.maybe,b,r,d⟩::fs) i st R:=by
 by_cases a:X.cy i=.nothing
 ·rw[b8 a e h];exact Y1 c (fun q=>nomatch q) a
 ·exact A46 c a f h
theorem Bl6 (c:i<=X.N)(e:Real fs)(f:X.cy i≠.sign 25)(h:En X fs i st R):En X (⟨.more,b,r,d⟩::fs) i st R:=by
 by_cases a:X.cy i=.nothing
 ·rw[b8 a e h];exact Y1 c (fun q=>nomatch q) a
 ·exact BS2 c a f h
end
def B09 (X:Tx)(fs:List Fr)(i j:Nat)(ns:List Nd):Prop:=∀a b R,Real a->Okst b i->En X a j (push ns b) R->En X (fs++a) i b R
def Bad (X:Tx)(fs:List Fr)(i:Nat)(e:Fault):Prop:=∃p,e.at_=X.plc p/\∀a b,Real a->Okst b i->En X (fs++a) i b (.fault e.kind p)
def Sim {c:Type}(X:Tx)(fs:List Fr)(a:P c)(i k:Nat)(Q:c->Nat->List Nd->List Part->Prop):Prop:=∀s,At X s i->match a s with
 |.ok (x,d)=>∃j b f,At X d j/\i+k<=j/\i+b.length<=j/\d.parts=s.parts++f/\Q x j b f/\B09 X fs i j b
 |.error e=>Bad X fs i e
section
variable {α β:Type} {X:Tx} {fs gs:List Fr} {a a':P α} {b:α->P β} {i k k1:Nat} {Q Q':α->Nat->List Nd->List Part->Prop} {Qb:β->Nat->List Nd->List Part->Prop}
theorem Sim.ok (h:∀s,At X s i->a s=.ok (x,s))(q:Q x i [] [])(d:∀rest st R,i<=X.N->Real rest->Okst st i->En X rest i st R->En X (fs++rest) i st R):Sim X fs a i 0 Q:=by intro s b;rw[h s b];refine⟨i,[],[],b,AB _,AB _,(AE _).symm,q,fun rest st R e f c=>d rest st R b.le e f ?_⟩;rw[Ah1]at c;exact c
theorem Sim.ret (q:Q x i [] []):Sim X [] (pure x) i 0 Q:=Sim.ok (fun _ _=>rfl) q fun _ _ _ _ _ _ h=>h
theorem Sim.congr (h:∀s,At X s i->a s=a' s)(c:Sim X fs a' i k Q):Sim X fs a i k Q:=by intro s b;rw[h s b];exact c s b
theorem Sim.conv (m:Sim X gs a i k Q)(l:∀rest st R,i<=X.N->Real rest->Okst st i->En X (gs++rest) i st R->En X (fs++rest) i st R):Sim X fs a i k Q:=by
 intro s d;have h:=m s d;cases e:a s with
 |ok x=>rw[e]at h;obtain⟨j,n,o,f,g,q,r,t,u⟩:=h;exact⟨j,n,o,f,g,q,r,t,fun rest st R b c v=>l rest st R d.le b c (u rest st R b c v)⟩
 |error w=>rw[e]at h;obtain⟨p,f,g⟩:=h;exact⟨p,f,fun rest st b c=>l rest st _ d.le b c (g rest st b c)⟩
theorem Sim.mono (b:Sim X fs a i k Q)(o:k1<=k)(c:∀x j ns ps,Q x j ns ps->Q' x j ns ps):Sim X fs a i k1 Q':=by
 intro s d;have h:=b s d;cases e:a s with
 |ok x=>rw[e]at h;obtain⟨j,ns,ps,f,p,g,l,m,n⟩:=h;exact⟨j,ns,ps,f,by omega,g,l,c _ _ _ _ m,n⟩
 |error q=>rw[e]at h;exact h
theorem Sim.bind (l:Sim X fs a i k1 Q)(m:∀x j ns ps,Q x j ns ps->i+k1<=j->j<=X.N->Sim X gs (b x) j (k-k1) fun y o d f=>Qb y o (ns++d) (ps++f)):Sim X (fs++gs) (a>>=b) i k Qb:=by
 intro s B;have l:=l s B;cases e:a s with
 |error C=>rw[e]at l;rw[P0 e];obtain⟨p,n,q⟩:=l;exact⟨p,n,fun c t g h=>by rw[AF];exact q _ _ g.app h⟩
 |ok x=>
  obtain⟨x,u⟩:=x;rw[e]at l;obtain⟨j,ns,ps,n,q,v,D,E,w⟩:=l;have m:=m x j ns ps E q n.le u n;rw[A5 e];cases z:b x u with
  |error C=>rw[z]at m;obtain⟨p,r,A⟩:=m;exact⟨p,r,fun c t g h=>by rw[AF];exact w _ _ _ g.app h (A _ _ g (h.push v))⟩
  |ok y=>obtain⟨y,J⟩:=y;rw[z]at m;obtain⟨o,d,f,r,A,K,F,G,H⟩:=m;refine⟨o,ns++d,ps++f,r,by omega,by rw[AO];omega,by rw[F,D,AF],G,fun c t R g h I=>?_⟩;rw[AF];refine w _ _ _ g.app h (H _ _ _ g (h.push v) ?_);rw[AT2];exact I
theorem Sim.part (h:Sim X fs (c ()) i k fun y j ns ps=>Qb y j ns (⟨w,p,X.en i-p⟩::ps)):Sim X fs (Sw.part w p>>=c) i k Qb:=by
 intro s a;have e:Sw.part w p s=.ok ((),{s with parts:=s.parts++[⟨w,p,X.en i-p⟩]}):=by rw[←a.l];rfl
 have h:=h {s with parts:=s.parts++[⟨w,p,X.en i-p⟩]} ⟨a.le,a.t,a.n,a.h,a.l⟩;rw[A5 e];cases b:c () {s with parts:=s.parts++[⟨w,p,X.en i-p⟩]}with
 |ok x=>rw[b]at h;obtain⟨j,ns,ps,d,f,g,m,o,q⟩:=h;exact⟨j,ns,_,d,f,g,by rw[m];show _++[_]++_=_;rw[AF];rfl,o,q⟩
 |error r=>rw[b]at h;exact h
theorem Sim.here (h:Sim X fs (c (X.bg i)) i k Qb):Sim X fs (Sw.here>>=c) i k Qb:=Sim.congr (fun s a=>A5 a.here) h
theorem Sim.peek (h:Sim X fs (c X.A[i]?) i k Qb):Sim X fs (Sw.peek>>=c) i k Qb:=Sim.congr (fun s a=>A5 a.peek) h
theorem Sim.adv (l:X.cy i=y)(m:A55 y)(w:1<=r)(h:∀s,At X s i->a s=a' (adv s))(f:Sim X fs a' (i+1) (k-1) Q):Sim X (⟨.once,.t y,r,d⟩::fs) a i k Q:=by
 intro s g;obtain⟨t,B⟩:=V2 (X:=X) (i:=i) (by rw[l];exact m);have z:=g.adv B;have f:=f _ z.1;rw[h s g];cases e:a' (Rd.adv s)with
 |ok x=>rw[e]at f;obtain⟨j,C,D,n,A,J,E,F,G⟩:=f;exact⟨j,C,D,n,by omega,by omega,by rw[E,z.2],F,fun b q R c u H=>BD8 g.le l m.1 w (G b q R c (let ⟨o,r,v,I⟩:=u;⟨o,r,v,by omega⟩) H)⟩
 |error K=>rw[e]at f;obtain⟨p,n,A⟩:=f;exact⟨p,n,fun b q c u=>BD8 g.le l m.1 w (A b q c (let ⟨o,r,v,I⟩:=u;⟨o,r,v,by omega⟩))⟩
theorem Sim.stray (d:f.fm=.once)(e:B8 f.sb (X.cy i)=false)(h:∀s,At X s i->a s=Sw.stray s):Sim X (f::fs) a i k Q:=by intro s b;rw[h s b,b.stray];exact⟨i,rfl,fun c g _ _=>Ao0 b.le d e⟩
theorem Sim.err (h:∀s,At X s i->a s=.error e)(c:i<=X.N->Bad X fs i e):Sim X fs a i k Q:=by intro s b;rw[h s b];exact c b.le
theorem AF0 (h:P3 x y=some ps):A55 y:=by
 refine⟨fun q=>?_,fun q=>?_⟩
 ·have:P3 x y=none:=by rw[q];cases x<;>rfl
  rw[this]at h;cases h
 ·have:P3 x y=none:=by rw[q];cases x<;>rfl
  rw[this]at h;cases h
theorem Sim.exp (b:P3 x (X.cy i)=some ps)(g:V1 x=false)(c:c9 (.n x)=false)(h:1<=r)(j:Sim X (ps.map (fr d)++gs) a i k Q):Sim X (⟨.once,.n x,r,d⟩::gs) a i k Q:=by
 refine j.conv fun e o R l m p f=>BS1 l b (AF0 b).1 (by rw[c];simp) h ?_
 unfold V6 b9 dps;rw[g,c];rw[AF]at f;exact f
theorem Sim.node (v:P3 x (X.cy i)=some ps)(z:V1 x=true)(A:¬(c9 (.n x)=true/\128<d))(B:1<=r)(L:1<=k)(C:Sim X (ps.map (fr (dps x d))) a i k Q')
  (D:∀y j ns g,Q' y j ns g->i<j->∃n,fin X.cy X.N ⟨.n x,i,ns⟩ j=some n/\Q y j [n] g):Sim X [⟨.once,.n x,r,d⟩] a i k Q:=by
 have l:∀b c R,i<=X.N->En X (ps.map (fr (dps x d))++(⟨.fin,.n x,1,0⟩::b)) i (⟨.n x,i,[]⟩::c) R->En X (⟨.once,.n x,r,d⟩::b) i c R:=by intro b c R E q;refine BS1 E v (AF0 v).1 A B ?_;unfold V6 b9;rw[z];exact q
 intro s t;have h:=C s t;cases e:a s with
 |ok y=>rw[e]at h;obtain⟨j,ns,g,m,u,M,F,G,H⟩:=h;obtain⟨n,I,J⟩:=D _ j ns g G (by omega);refine⟨j,[n],g,m,u,by show i+1<=j;omega,F,J,fun b c R f w q=>l b c R t.le ?_⟩;obtain⟨o,r,rfl,K⟩:=w;refine H _ _ _ f.cons ⟨_,_,rfl,Ag _⟩ ?_;exact Bu1 m.le I (by have:=m.le;omega) q
 |error O=>rw[e]at h;obtain⟨p,m,u⟩:=h;refine⟨p,m,fun b c f w=>l b c _ t.le ?_⟩;exact u _ _ f.cons ⟨_,_,rfl,Ag _⟩
end
noncomputable abbrev O (x:Nt)(r d:Nat):Fr:=⟨.once,.n x,r,d⟩
noncomputable abbrev Tm (y:Sy)(d:Nat):Fr:=⟨.once,.t y,1,d⟩
noncomputable abbrev Mb (x:Nt)(d:Nat):Fr:=⟨.maybe,.n x,1,d⟩
section
variable {α β:Type} {X:Tx} {fs gs:List Fr} {i k d r:Nat} {Q:β->Nat->List Nd->List Part->Prop}
theorem Au9 (h:z≠y):B8 (.t y) z=false:=AX fun q=>h q.symm
theorem Sim.want (b:signNo x=m)(h:X.cy i=.sign m->Sim X fs (c ()) (i+1) (k-1) Q):Sim X (Tm (.sign m) d::fs) (wants x>>=c) i k Q:=by
 subst b;by_cases e:X.cy i=.sign (signNo x)
 ·exact Sim.adv e ⟨by simp,by simp⟩ (AB _) (fun s a=>A5 (X9 a e)) (h e)
 ·exact Sim.stray rfl (Au9 e) fun s a=>C2 a (Y7 a e)
theorem Sim.name (g:1<=r)(h:∀b,X.tk i=some (.name b)->Sim X fs (c b) (i+1) (k-1) Q):Sim X (⟨.once,.t .name,r,d⟩::fs) (wantsName>>=c) i k Q:=by
 by_cases e:X.cy i=.name
 ·obtain⟨b,f⟩:=BR4 e;exact Sim.adv e ⟨by simp,by simp⟩ g (fun s a=>A5 (A94 a f)) (h b f)
 ·exact Sim.stray rfl (Au9 e) fun s a=>C2 a (r4 a e)
theorem BI9 (h:18<=k/\k<26):P3 .CODE (.kept k)=some [k1 k]/\P3 .KIND (.kept k)=some [o1 .CODE,mb .INDEXES]:=by
 have a:∀k,k<26->18<=k->P3 .CODE (.kept k)=some [k1 k]/\P3 .KIND (.kept k)=some [o1 .CODE,mb .INDEXES]:=by decide
 exact a k h.2 h.1
theorem BQ6 (h:y∉l.map (·.1)):lk l y=none:=by
 induction l with
 |nil=>rfl
 |cons p r a=>rw[Ah,AK,not_or]at h;show(if p.1=y then _ else _)=_;rw[AD (fun q=>h.1 q.symm)];exact a h.2
theorem BT9 (h:y∈l.map (·.1)):(lk l y).isSome=true:=by
 induction l with
 |nil=>cases h
 |cons p r a=>
  show(if p.1=y then some p.2 else lk r y).isSome=true;by_cases q:p.1=y
  ·rw[AL q];rfl
  ·rw[AD q];rw[Ah,AK]at h;exact a (h.resolve_left fun z=>q z.symm)
theorem J6 (h:y∉keys x):B8 (.n x) y=false:=by show(lk (row x) y).isSome=false;rw[BQ6 h];rfl
theorem O8 (h:y∈keys x):B8 (.n x) y=true:=BT9 h
theorem X5:B8 (.n x) y=decide (y∈keys x):=by
 by_cases h:y∈keys x
 ·rw[O8 h,AR h]
 ·rw[J6 h,AX h]
theorem AQ3 (c:x=.CODE∨x=.KIND)(h:∀k,y=.kept k->¬(18<=k/\k<26)):y∉keys x:=by
 intro q;have:∃k∈fC,y=.kept k:=by
  rcases c with rfl |rfl
  ·have q:y∈(fC.map fun k=>(Sy.kept k,[k1 k])).map (·.1):=q;rw[Bk]at q;obtain⟨k,a,rfl⟩:=BN.mp q;exact⟨k,a,rfl⟩
  ·have q:y∈(fC.map fun k=>(Sy.kept k,[o1 .CODE,mb .INDEXES])).map (·.1):=q;rw[Bk]at q;obtain⟨k,a,rfl⟩:=BN.mp q;exact⟨k,a,rfl⟩
 obtain⟨k,a,rfl⟩:=this;have b:∀k∈fC,18<=k/\k<26:=by decide
 exact h k rfl (b k a)
theorem AH8 (X:Tx)(i:Nat):(∃k,X.cy i=.kept k/\(18<=k/\k<26))∨∀k,X.cy i=.kept k->¬(18<=k/\k<26):=by
 cases X.cy i with
 |kept k=>
  by_cases h:18<=k/\k<26
  ·exact .inl ⟨k,rfl,h⟩
  ·exact .inr fun a e=>by cases e;exact h
 |_=>exact .inr fun a e=>by cases e
theorem Sim.code (h:∀m,X.cy i=.kept (18+m)->m<8->Sim X fs (c m) (i+1) (k-1) Q):Sim X (O .CODE 1 d::fs) (wantsCode>>=c) i k Q:=by
 rcases AH8 X i with ⟨m,e,f⟩ |e
 ·have b:18+(m-18)=m:=by omega
  refine Sim.exp (ps:=[k1 m]) (by rw[e];exact(BI9 f).1) rfl rfl (AB _) ?_;exact Sim.adv e ⟨by simp,by simp⟩ (AB _) (fun s a=>A5 (A73 a f e)) (h (m-18) (by rw[b];exact e) (by omega))
 ·exact Sim.stray rfl (J6 (AQ3 (.inl rfl) e)) fun s a=>C2 a (As6 a e)
theorem Sim.opt (r:signNo x=m)(l:row Y=[(.sign m,s1 m::ps)])(t:V1 Y=false)(u:c9 (.n Y)=false)
  (f:X.cy i=.sign m->Sim X (ps.map (fr d)++gs) a (i+1) (k-1) Q) (v:X.cy i≠.sign m->Sim X gs b i k Q):Sim X (Mb Y d::gs) (takes x>>=fun c=>if c=true then a else b) i k Q:=by
 subst r;have o:keys Y=[.sign (signNo x)]:=by unfold keys;rw[l];rfl
 by_cases e:X.cy i=.sign (signNo x)
 ·have w:Sim X (O Y 1 d::gs) (takes x>>=fun c=>if c=true then a else b) i k Q:=by
   refine Sim.exp (ps:=s1 (signNo x)::ps) ?_ t u (AB _) ?_
   ·unfold P3;rw[l,e];exact AL rfl
   ·exact Sim.adv e ⟨by simp,by simp⟩ (AB _) (fun s f=>A5 (K1 f e)) (f e)
  exact w.conv fun g y R h p z j=>Ai3 h (by rw[e];simp) (O8 (by rw[o,e];exact AN.mpr rfl)) j
 ·refine Sim.conv (gs:=gs) (Sim.congr (fun s f=>A5 (J1 f e)) (v e)) fun g y R h p z j=>A31 h p.app (J6 ?_) j
  rw[o];exact fun q=>e (AN.mp q)
end
noncomputable def pNo (k:Kd)(w:Nat):Option Nat:=
 if k=.n .ATOM then(if w=1 then some 8 else some 7)
 else if k=.n .DECL then some 0 else if k=.n .PORT∨k=.n .END then some 1 else if k=.n .STATE then some 2 else if k=.n .DO then some 3 else if k=.n .WIRE then some 4
 else if k=.OPERATOR∨k=.CHOICE∨k=.SUM then some 5 else if k=.SIGNED then some 6 else if k=.POST then some 7 else none
noncomputable def own (X:Tx)(k:Kd)(i j:Nat):List Part:=match pNo k (j-i)with
 |some w=>[⟨w,X.bg i,X.en j-X.bg i⟩]
 |none=>[]
mutual
noncomputable def pt (X:Tx):Nd->List Part
 |.mk k i j _ _ _ c=>pts X c++own X k i j
noncomputable def pts (X:Tx):List Nd->List Part
 |[]=>[]
 |n::r=>pt X n++pts X r
end
theorem G9 (X:Tx)(n:Nd)(r:List Nd):pts X (n::r)=pt X n++pts X r:=by conv=>lhs;unfold pts
theorem F8 (X:Tx):pts X []=[]:=by unfold pts;rfl
theorem Z4 (X:Tx)(k:Kd)(i j:Nat)(p:Bool)(s l:Nat)(c:List Nd):pt X (.mk k i j p s l c)=pts X c++own X k i j:=by conv=>lhs;unfold pt
theorem E3 (X:Tx)(n:Nd):pts X [n]=pt X n:=by rw[G9,F8,AE]
theorem M4 (X:Tx):∀(a b:List Nd),pts X (a++b)=pts X a++pts X b
 |[],b=>by rw[F8];rfl
 |n::r,b=>by show pts X (n::(r++b))=_;rw[G9,G9,M4 X r b,AF]
theorem An8 (X:Tx)(n:Nd)(v:Nat):pt X (n.setLe v)=pt X n:=by obtain⟨k,i,j,p,s,l,c⟩:=n;show pt X (.mk k i j p s v c)=_;rw[Z4,Z4]
noncomputable def A38 (o:Sw.Op):Nat:=([8,7,19,3,5,6,20,4,15,16,14,1,2,9,10,11,12,13]:List Nat).getD o 33
noncomputable def a9 (o:OneOp):Nat:=([10,17,18]:List Nat).getD o 33
noncomputable def AF7 (o:Sw.Op):Nat:=levelOfOp o+2
noncomputable def lowL (s:Nat):Nat:=if s=4 then 5 else s
inductive Ob where
 |ex (x:Ex) |sz (x:Ex) |ar (l:List Ex)
noncomputable def two (k:Nat)(a b:Ex):Ex:=if k=11 then .round a b else if k=9 then .min a b else .max a b
noncomputable def hw (k:Nat)(c:Code)(a:Ex):Ex:=if k=6 then .held c a else .wrapped c a
noncomputable def ovr (k:Nat)(i:Bytes)(n a:Ex):Ex:=if k=15 then .sum i n a else .row i n a
noncomputable abbrev atm (i j:Nat)(p:Bool)(s:Nat)(c:List Nd):Nd:=.mk (.n .ATOM) i j p s 0 c
inductive Rp (X:Tx):Ob->List Nd->Nat->Nat->Prop where
 |num {i v:Nat}:X.tk i=some (.num v)->Rp X (.ex (.num v)) [atm i (i+1) false 13 []] i (i+1)
 |name {i:Nat} {b:Bytes}:X.tk i=some (.name b)->Rp X (.ex (.name b)) [atm i (i+1) false 13 []] i (i+1)
 |call {i j:Nat} {b:Bytes} {l:List Ex} {ns:List Nd}:X.tk i=some (.name b)->X.cy (i+1)=.sign 27->Rp X (.ar l) ns (i+2) j->X.cy j=.sign 28->Rp X (.ex (.call b l)) [atm i (j+1) false 12 ns] i (j+1)
 |par {i j:Nat} {x:Ex} {n:Nd}:X.cy i=.sign 27->Rp X (.ex x) [n] (i+1) j->X.cy j=.sign 28->Rp X (.ex x) [atm i (j+1) true n.st [n]] i (j+1)
 |hw {i j k m:Nat} {x:Ex} {n:Nd}:(k=6∨k=17)->m<8->X.cy i=.kept k->X.cy (i+1)=.kept (18+m)->X.cy (i+2)=.sign 27->Rp X (.ex x) [n] (i+3) j->X.cy j=.sign 28->Rp X (.ex (hw k m x)) [atm i (j+1) false 12 [n]] i (j+1)
 |abs {i j:Nat} {x:Ex} {n:Nd}:X.cy i=.kept 0->X.cy (i+1)=.sign 27->Rp X (.ex x) [n] (i+2) j->X.cy j=.sign 28->Rp X (.ex (.abs x)) [atm i (j+1) false 12 [n]] i (j+1)
 |two {i j m k:Nat} {x y:Ex} {n n':Nd}:(k=11∨k=9∨k=8)->X.cy i=.kept k->X.cy (i+1)=.sign 27->Rp X (.ex x) [n] (i+2) m->X.cy m=.sign 25->Rp X (.ex y) [n'] (m+1) j->X.cy j=.sign 28->Rp X (.ex (two k x y)) [atm i (j+1) false 12 [n,n']] i (j+1)
 |one {i j:Nat} {o:OneOp} {x:Ex} {n:Nd}:o<3->X.cy i=.sign (a9 o)->Rp X (.ex x) [n] (i+1) j->(n.pr=false->11<=n.st)->Rp X (.ex (.one o x)) [.mk .SIGNED i j false 11 0 [n.setLe 11]] i j
 |bin {i j m:Nat} {o:Sw.Op} {x y:Ex} {n n':Nd}:o<18->Rp X (.ex x) [n] i m->X.cy m=.sign (A38 o)->Rp X (.ex y) [n'] (m+1) j->(n.pr=false->lowL (AF7 o)<=n.st)->(n'.pr=false->AF7 o+1<=n'.st)->
   Rp X (.ex (.bin o x y)) [.mk .OPERATOR i j false (AF7 o) 0 [n.setLe (lowL (AF7 o)),n'.setLe (AF7 o+1)]] i j
 |choice {i j m m':Nat} {x y z:Ex} {n n' n'':Nd}:Rp X (.ex x) [n] i m->X.cy m=.sign 22->Rp X (.ex y) [n'] (m+1) m'->X.cy m'=.sign 23->Rp X (.ex z) [n''] (m'+1) j->(n.pr=false->2<=n.st)->
   Rp X (.ex (.choice x y z)) [.mk .CHOICE i j false 1 0 [n.setLe 2,n',n'']] i j
 |index {i j m:Nat} {x y:Ex} {n n':Nd}:Rp X (.ex x) [n] i m->X.cy m=.sign 29->Rp X (.ex y) [n'] (m+1) j->X.cy j=.sign 30->(n.pr=false->12<=n.st)->Rp X (.ex (.index x y)) [.mk .POST i (j+1) false 12 0 [n.setLe 12,n']] i (j+1)
 |index2 {i j m m':Nat} {x y z:Ex} {n n' n'':Nd}:Rp X (.ex x) [n] i m->X.cy m=.sign 29->Rp X (.ex y) [n'] (m+1) m'->X.cy m'=.sign 25->Rp X (.ex z) [n''] (m'+1) j->X.cy j=.sign 30->(n.pr=false->12<=n.st)->
   Rp X (.ex (.index2 x y z)) [.mk .POST i (j+1) false 12 0 [n.setLe 12,n',n'']] i (j+1)
 |past {i j m:Nat} {x y:Ex} {n n':Nd}:Rp X (.ex x) [n] i m->X.cy m=.sign 26->Rp X (.sz y) [n'] (m+1) j->(n.pr=false->12<=n.st)->Rp X (.ex (.past x y)) [.mk .POST i j false 12 0 [n.setLe 12,n']] i j
 |ovr {i j m k:Nat} {b:Bytes} {x y:Ex} {n n':Nd}:(k=15∨k=12)->X.cy i=.kept k->X.tk (i+1)=some (.name b)->X.cy (i+2)=.sign 19->Rp X (.sz x) [n] (i+3) m->X.cy m=.sign 23->Rp X (.ex y) [n'] (m+1) j->
   Rp X (.ex (ovr k b x y)) [.mk .SUM i j false 0 0 [n,n']] i j
 |sheet {i j m m':Nat} {b b':Bytes} {x y z:Ex} {n n' n'':Nd}:X.cy i=.kept 13->X.tk (i+1)=some (.name b)->X.cy (i+2)=.sign 25->X.tk (i+3)=some (.name b')->X.cy (i+4)=.sign 19->Rp X (.sz x) [n] (i+5) m->X.cy m=.sign 25->Rp X (.sz y) [n'] (m+1) m'->X.cy m'=.sign 23->Rp X (.ex z) [n''] (m'+1) j->
   Rp X (.ex (.sheet b b' x y z)) [.mk .SUM i j false 0 0 [n,n',n'']] i j
 |sznum {i v:Nat}:X.tk i=some (.num v)->Rp X (.sz (.num v)) [.mk (.n .SIZE) i (i+1) false 13 0 []] i (i+1)
 |szname {i:Nat} {b:Bytes}:X.tk i=some (.name b)->Rp X (.sz (.name b)) [.mk (.n .SIZE) i (i+1) false 13 0 []] i (i+1)
 |szpar {i j:Nat} {x:Ex} {n:Nd}:X.cy i=.sign 27->Rp X (.ex x) [n] (i+1) j->X.cy j=.sign 28->Rp X (.sz x) [.mk (.n .SIZE) i (j+1) true n.st 13 [n]] i (j+1)
 |arone {i j:Nat} {x:Ex} {n:Nd}:Rp X (.ex x) [n] i j->Rp X (.ar [x]) [n] i j
 |arcons {i j m:Nat} {x:Ex} {l:List Ex} {n:Nd} {ns:List Nd}:l≠[]->Rp X (.ex x) [n] i m->X.cy m=.sign 25->Rp X (.ar l) ns (m+1) j->Rp X (.ar (x::l)) (n::ns) i j
theorem AM6 (t:Nat):∀{O:List Nd} {S:List Nat},(∀s∈S,s<t)->red t O S=(O,S)
 |[],[],_=>rfl
 |[],_::_,_=>rfl
 |[_],[],_=>rfl
 |[_],_::_,_=>rfl
 |_::_::_,[],_=>rfl
 |r::l::O,s::S,h=>by show(if t<=s then _ else _)=_;exact AD (Nat.not_le.mpr (h s (AG ..)))
theorem AJ8 (h:t<=u):∀(S:List Nat) (O:List Nd),red t (red u O S).1 (red u O S).2=red t O S
 |[],[]=>rfl
 |[],[_]=>rfl
 |[],_::_::_=>rfl
 |s::S,[]=>rfl
 |s::S,[_]=>rfl
 |s::S,r::l::O=>by
  have a:red u (r::l::O) (s::S)=if u<=s then red u (mkOp s l r::O) S else(r::l::O,s::S):=rfl
  rw[a];by_cases q:u<=s
  ·rw[AL q,AJ8 h S];have b:red t (r::l::O) (s::S)=if t<=s then red t (mkOp s l r::O) S else(r::l::O,s::S):=rfl
   rw[b,AL (by omega)]
  ·rw[AD q]
noncomputable def BG2 (X:Tx)(x:List Nd×List Nat)(r:List Nd):List Nd×List Nat:=r.foldl (AP8 X.cy) x
def Seg (X:Tx)(a:Nat)(ns:List Nd)(M:Nd):Prop:=∃n r,ns=n::r/\r.all (BH7 X.cy X.N)=true/\∀O S,(∀s∈S,s<a)->red a (BG2 X (n::O,S) r).1 (BG2 X (n::O,S) r).2=(M::O,S)
section
variable {X:Tx} {lo lo':Nat} {ns ms:List Nd} {M M':Nd}
theorem Seg.one (n:Nd):Seg X lo [n] n:=⟨n,[],rfl,rfl,fun O S h=>AM6 lo h⟩
theorem Seg.mono (h:Seg X lo ns M)(a:lo'<=lo):Seg X lo' ns M:=by obtain⟨n,r,e,c,h⟩:=h;refine⟨n,r,e,c,fun O S b=>?_⟩;rw[←AJ8 a,h O S (fun s d=>Av (b s d) a)];exact AM6 lo' b
theorem Seg.app (h:Seg X lo ns M)(h':Seg X (lo+1) ms M')(g:∀n r,ms=n::r->1<=n.i/\n.i<=X.N/\stOf (X.cy (n.i-1))=lo)(o:2<=lo):Seg X lo (ns++ms) (mkOp lo M M'):=by
 obtain⟨n,r,rfl,j,h⟩:=h;obtain⟨a,b,rfl,c,h'⟩:=h';obtain⟨k,l,m⟩:=g a b rfl;refine⟨n,r++a::b,rfl,?_,fun O S d=>?_⟩
 ·rw[List.all_append,j,Bu,c];have:BH7 X.cy X.N a=true:=AR ⟨k,l,by omega⟩;rw[this];rfl
 ·have e:BG2 X (n::O,S) (r++a::b)=BG2 X (a::M::O,lo::S) b:=by unfold BG2;rw[Cq,CB];congr 1;show(a::(red (stOf (X.cy (a.i-1))) _ _).1,stOf (X.cy (a.i-1))::(red (stOf (X.cy (a.i-1))) _ _).2)=_;rw[m];have:=h O S d;unfold BG2 at this;rw[this]
  rw[e,←AJ8 (show lo<=lo+1 by omega),h' (M::O) (lo::S) (fun s f=>by
   rcases AK.mp f with rfl |f
   ·omega
   ·have:=d s f;omega)]
  show(if lo<=lo then red lo (mkOp lo M M'::O) S else _)=_;rw[AL (AB _)];exact AM6 lo d
theorem Seg.fin (h:Seg X 2 ns M):A50 X.cy X.N ns=some M:=by obtain⟨n,r,rfl,a,h⟩:=h;show(if r.all (BH7 X.cy X.N)=true then _ else _)=_;rw[AL a];have:=h [] [] (fun s b=>by cases b);show(red 0 (BG2 X ([n],[]) r).1 (BG2 X ([n],[]) r).2).1.head?=_;rw[←AJ8 (Ag 2),this];rfl
end
theorem tb {t:Tok}{u:Tok}:(t==u)=decide (t=u):=rfl
theorem BT3:t=.sign k↔F5 t=.sign k:=by cases t<;>simp[F5]
theorem A07:t=.kept k↔F5 t=.kept k:=by cases t<;>simp[F5]
theorem As4 (t:Tok):beginsAtom t=decide (F5 t∈keys .ATOM):=by
 have e:(begins.map keptNo)=[6,17,11,0,9,8]:=by decide
 have a:signNo "("=27:=by decide
 cases t with
 |kept k=>
  have c:(begins.any fun s=>k==keptNo s)=(begins.map keptNo).any fun m=>k==m:=by rw[List.any_map];rfl
  show(begins.any fun s=>k==keptNo s)=_;rw[c,e];rw[Bf];simp[keys,row,F5]
 |sign k=>show(k==signNo "(")=_;rw[a,Bf];simp[keys,row,F5]
 |name b=>exact(AR (by show Sy.name∈keys .ATOM;decide)).symm
 |num b=>exact(AR (by show Sy.number∈keys .ATOM;decide)).symm
theorem BO1 (t:Tok):beginsOne t=decide (F5 t∈keys .ONE):=by
 have a:signNo "-"=10:=by decide
 have b:signNo "~"=17:=by decide
 have c:signNo "!"=18:=by decide
 have d:keys .ONE=[.sign 10,.sign 17,.sign 18]++keys .ATOM:=by decide
 unfold beginsOne;rw[As4,a,b,c,d,Bf];simp only[Ck,BC,tb,AY,AK,BL,Bw,BT3];constructor
 ·rintro (h |h |h |h)
  ·exact .inr h
  ·exact .inl (.inl h)
  ·exact .inl (.inr (.inl h))
  ·exact .inl (.inr (.inr h))
 ·rintro ((h |h |h) |h)
  ·exact .inr (.inl h)
  ·exact .inr (.inr (.inl h))
  ·exact .inr (.inr (.inr h))
  ·exact .inl h
theorem b_e (t:Tok):beginsE t=decide (F5 t∈keys .E):=by
 have a:keptNo "sum"=15:=by decide
 have b:keptNo "row"=12:=by decide
 have c:keptNo "sheet"=13:=by decide
 have d:keys .E=[.kept 15,.kept 12,.kept 13]++keys .ONE:=by decide
 unfold beginsE;rw[BO1,a,b,c,d,Bf];simp only[Ck,BC,tb,AY,AK,BL,Bw,A07];constructor
 ·rintro (h |h |h |h)
  ·exact .inr h
  ·exact .inl (.inl h)
  ·exact .inl (.inr (.inl h))
  ·exact .inl (.inr (.inr h))
 ·rintro ((h |h |h) |h)
  ·exact .inr (.inl h)
  ·exact .inr (.inr (.inl h))
  ·exact .inr (.inr (.inr h))
  ·exact .inl h
theorem BG9 (t:Tok):beginsSize t=decide (F5 t∈keys .SIZE):=by
 have a:signNo "("=27:=by decide
 cases t with
 |kept k=>exact(AX (by show Sy.kept k∉keys .SIZE;simp[keys,row])).symm
 |sign k=>show(k==signNo "(")=_;rw[a,Bf];simp[keys,row,F5]
 |name b=>exact(AR (by show Sy.name∈keys .SIZE;decide)).symm
 |num b=>exact(AR (by show Sy.number∈keys .SIZE;decide)).symm
theorem BA0 (h:y∈keys .ATOM):y∈keys .ONE:=(by decide:∀y∈keys .ATOM,y∈keys .ONE) y h
theorem Bs2 (h:y∈keys .ONE):y∈keys .E:=(by decide:∀y∈keys .ONE,y∈keys .E) y h
theorem M3 (h:y∈keys x):A55 y:=by have:=O8 h;obtain⟨b,a⟩:=BU.mp (show(P3 x y).isSome=true from this);exact AF0 a
section
variable {X:Tx} {i:Nat}
theorem T9 (h:d<=128):notDeep d b s=.ok ((),s):=by unfold notDeep DEEP;rw[AL h];rfl
theorem Aa1 (c:At X s i)(f:∀t,b t=decide (F5 t∈keys Y))(h:¬d<=128)(a:X.cy i∈keys Y):notDeep d b s=.error ⟨3,X.plc i⟩:=by obtain⟨t,e⟩:=V2 (M3 a);unfold notDeep DEEP;rw[AD h,A5 c.peek,e];show(if b t.tok=true then bad 3 t.at_ else stray:P Unit) s=_;rw[f,←(F9 e).1,AL (AR a),(F9 e).2.1];rfl
theorem Q0 (a:At X s i)(c:∀t,b t=decide (F5 t∈keys Y))(h:¬d<=128)(f:X.cy i∉keys Y):notDeep d b s=stray s:=by
 unfold notDeep DEEP;rw[AD h,A5 a.peek];cases e:X.A[i]? with
 |none=>rfl
 |some t=>show(if b t.tok=true then bad 3 t.at_ else stray:P Unit) s=_;rw[c,←(F9 e).1,AD (fun q=>f (of_decide_eq_true q))]
theorem BE5 (a:signNo x=m)(h:y∉keys Y)(b:Sy.sign m∈keys Y):y≠.sign (signNo x):=fun q=>h (by rw[q,a];exact b)
theorem AN4 (a:keptNo x=m)(h:y∉keys Y)(b:Sy.kept m∈keys Y):y≠.kept (keptNo x):=fun q=>h (by rw[q,a];exact b)
theorem Bm5 (a:At X s i)(h:X.cy i≠.sign 27):∀(f d:Nat),inParens f d s=stray s
 |0,_=>by unfold inParens;rfl
 |f+1,d=>by unfold inParens;exact C2 a (Y7 a (by rw[show signNo "("=27 by decide];exact h))
theorem Ax6 (a:At X s i)(h:X.cy i∉keys .ATOM):∀(f d:Nat),atomAt f d s=stray s
 |0,_=>by unfold atomAt;rfl
 |f+1,d=>by
  unfold atomAt;by_cases g:d<=128
  ·rw[A5 (T9 g)];show(here>>=_:P Ex) s=_;rw[A5 a.here,A5 a.peek];cases e:X.A[i]? with
   |none=>rfl
   |some t=>
    have j:=(F9 e).1;obtain⟨p,l,k⟩:=t;have c:=h;rw[j]at c;cases k with
    |name x=>exact(c (by show Sy.name∈keys .ATOM;decide)).elim
    |num _=>exact(c (by show Sy.number∈keys .ATOM;decide)).elim
    |sign k=>show(inParens f (d+1)>>=_:P Ex) s=_;exact C2 a (Bm5 a (fun q=>h (by rw[q];decide)) _ _)
    |kept k=>
     have n:keptNo "held"=6:=by decide
     have o:keptNo "wrapped"=17:=by decide
     have r:keptNo "abs"=0:=by decide
     have u:keptNo "round"=11:=by decide
     have v:keptNo "min"=9:=by decide
     have w:keptNo "max"=8:=by decide
     have b:∀m,Sy.kept m∈keys .ATOM->k≠m:=fun m y q=>c (by rw[q];exact y);show(if k=keptNo "held"∨k=keptNo "wrapped" then _ else if k=keptNo "abs" then _ else if k=keptNo "round"∨k=keptNo "min"∨k=keptNo "max" then _ else stray:P Ex) s=_;rw[n,o,r,u,v,w,AD (fun q=>q.elim (b 6 (by decide)) (b 17 (by decide))),AD (b 0 (by decide)),AD (fun q=>q.elim (b 11 (by decide)) (fun q=>q.elim (b 9 (by decide)) (b 8 (by decide))))]
  ·exact C2 a (Q0 a As4 g h)
noncomputable def O7:P (Option OneOp):=do
 if(←takes "-")=true then return some 0
 else if(←takes "~")=true then return some 1
 else if(←takes "!")=true then return some 2
 else return none
theorem AI0 (a:At X s i)(b:X.cy i≠.sign 10)(c:X.cy i≠.sign 17)(d:X.cy i≠.sign 18):O7 s=.ok (none,s):=by unfold O7;rw[A5 (J1 a (by rw[show signNo "-"=10 by decide];exact b))];show(takes "~">>=_:P (Option OneOp)) s=_;rw[A5 (J1 a (by rw[show signNo "~"=17 by decide];exact c))];show(takes "!">>=_:P (Option OneOp)) s=_;rw[A5 (J1 a (by rw[show signNo "!"=18 by decide];exact d))];rfl
theorem Au2 (a:At X s i)(d:o<3)(h:X.cy i=.sign (a9 o)):O7 s=.ok (some o,adv s):=by
 have b:signNo "-"=10:=by decide
 have c:signNo "~"=17:=by decide
 have e:signNo "!"=18:=by decide
 unfold O7;have f:∀o:Nat,o<3->o=0∨o=1∨o=2:=by omega
 rcases f o d with rfl |rfl |rfl
 ·rw[A5 (K1 a (h.trans (by rw[b];rfl)))];rfl
 ·rw[A5 (J1 a (by rw[h,b];decide))];show(takes "~">>=_:P (Option OneOp)) s=_;rw[A5 (K1 a (h.trans (by rw[c];rfl)))];rfl
 ·rw[A5 (J1 a (by rw[h,b];decide))];show(takes "~">>=_:P (Option OneOp)) s=_;rw[A5 (J1 a (by rw[h,c];decide))];show(takes "!">>=_:P (Option OneOp)) s=_;rw[A5 (K1 a (h.trans (by rw[e];rfl)))];rfl
noncomputable def AL3 (f d:Nat):Unit->P Ex:=fun _=>here>>=fun p=>O7>>=fun o=>match o with
  |some o=>oneAt f (d+1)>>=fun a=>Sw.part 6 p>>=fun _=>pure (.one o a)
  |none=>atomAt f (d+1)>>=fun a=>postAt f d p a
theorem BJ6 (f d:Nat):oneAt (f+1) d=notDeep d beginsOne>>=AL3 f d:=by
 conv=>lhs;unfold oneAt
 unfold AL3 O7;congr 1
theorem BF6 (a:At X s i)(h:X.cy i∉keys .ONE):∀(f d:Nat),oneAt f d s=stray s
 |0,_=>by unfold oneAt;rfl
 |f+1,d=>by
  rw[BJ6];by_cases c:d<=128
  ·rw[A5 (T9 c)];unfold AL3;have b:∀y,y∈keys .ONE->X.cy i≠y:=fun m e q=>h (by rw[q];exact e);rw[A5 a.here,A5 (AI0 a (b _ (by decide)) (b _ (by decide)) (b _ (by decide)))];exact C2 a (Ax6 a (fun q=>h (BA0 q)) f (d+1))
  ·exact C2 a (Q0 a BO1 c h)
theorem z8 (f l d:Nat):levelAt (f+1) l d=if 9<=l then oneAt f (d+1)else here>>=fun p=>levelAt f (l+1) d>>=fun a=>moreAt f l d p a:=by
 conv=>lhs;unfold levelAt
theorem z6 (a:At X s i)(h:X.cy i∉keys .ONE):∀(f l d:Nat),levelAt f l d s=stray s
 |0,_,_=>by unfold levelAt;rfl
 |f+1,l,d=>by
  rw[z8];by_cases b:9<=l
  ·rw[AL b];exact BF6 a h f (d+1)
  ·rw[AD b,A5 a.here];exact C2 a (z6 a h f (l+1) d)
noncomputable def A93 (f d:Nat):Unit->P Ex:=fun _=>here>>=fun p=>takesWord "sum">>=fun c=>if c=true then overAt f (d+1)>>=fun x=>Sw.part 5 p>>=fun _=>pure (.sum x.1 x.2.1 x.2.2)
  else takesWord "row">>=fun c=>if c=true then overAt f (d+1)>>=fun x=>Sw.part 5 p>>=fun _=>pure (.row x.1 x.2.1 x.2.2)
  else takesWord "sheet">>=fun c=>if c=true then wantsName>>=fun i=>wants ",">>=fun _=>wantsName>>=fun j=>wants "<">>=fun _=>sizeAt f (d+1)>>=fun n=>wants ",">>=fun _=>sizeAt f (d+1)>>=fun m=>wants ":">>=fun _=>eAt f (d+1)>>=fun e=>Sw.part 5 p>>=fun _=>pure (.sheet i j n m e)
  else levelAt f 0 d>>=fun c=>takes "?">>=fun q=>if q=true then eAt f (d+1)>>=fun a=>wants ":">>=fun _=>eAt f (d+1)>>=fun b=>Sw.part 5 p>>=fun _=>pure (.choice c a b)else pure c
theorem Bx2 (f d:Nat):eAt (f+1) d=notDeep d beginsE>>=A93 f d:=by
 conv=>lhs;unfold eAt
 unfold A93;congr 1
theorem B02 (a:At X s i)(h:X.cy i∉keys .E):∀(f d:Nat),eAt f d s=stray s
 |0,_=>by unfold eAt;rfl
 |f+1,d=>by
  rw[Bx2];by_cases b:d<=128
  ·rw[A5 (T9 b)];unfold A93;rw[A5 a.here,A5 (R8 a (AN4 (show keptNo "sum"=15 by decide) h (by decide)))];show(takesWord "row">>=_:P Ex) s=_;rw[A5 (R8 a (AN4 (show keptNo "row"=12 by decide) h (by decide)))];show(takesWord "sheet">>=_:P Ex) s=_;rw[A5 (R8 a (AN4 (show keptNo "sheet"=13 by decide) h (by decide)))];exact C2 a (z6 a (fun q=>h (Bs2 q)) f 0 d)
  ·exact C2 a (Q0 a b_e b h)
theorem BV8 (a:At X s i)(h:X.cy i∉keys .SIZE):∀(f d:Nat),sizeAt f d s=stray s
 |0,_=>by unfold sizeAt;rfl
 |f+1,d=>by
  unfold sizeAt;by_cases c:d<=128
  ·rw[A5 (T9 c),A5 a.peek];have b:=Y7 a (BE5 (show signNo "("=27 by decide) h (by decide));cases e:X.A[i]? with
   |none=>exact C2 a b
   |some t=>
    have g:=(F9 e).1;obtain⟨p,l,k⟩:=t;rw[g]at h;cases k with
    |name x=>exact(h (by show Sy.name∈keys .SIZE;decide)).elim
    |num _=>exact(h (by show Sy.number∈keys .SIZE;decide)).elim
    |sign k=>exact C2 a b
    |kept k=>exact C2 a b
  ·exact C2 a (Q0 a BG9 c h)
theorem Y9 (l:a=notDeep d b>>=c)(o:c9 (.n Y)=true)(p:∀t,b t=decide (F5 t∈keys Y))(h:X.cy i∉keys Y->∀s,At X s i->a s=stray s)
  (q:X.cy i∈keys Y->d<=128->Sim X [O Y r d] (c ()) i k Q):Sim X [O Y r d] a i k Q:=by
 by_cases g:X.cy i∈keys Y
 ·by_cases j:d<=128
  ·exact Sim.congr (fun s m=>by rw[l];exact A5 (T9 j)) (q g j)
  ·refine Sim.err (fun s m=>by rw[l];exact P0 (Aa1 m p j g)) fun u=>⟨i,rfl,fun c v _ _=>?_⟩;have e:faultOf (O Y r d) (X.cy i)=3:=by unfold faultOf;rw[AD (by rw[O8 g];decide),AL ⟨o,by show 128<d;omega⟩]
   have:=Az9 (X:=X) (fs:=c) (st:=v) (f:=O Y r d) u rfl (M3 g).1 (by rw[e];decide);rw[e]at this;exact this
 ·exact Sim.stray rfl (J6 g) (h g)
end
theorem BY7 (h:33<=k):stOf (.sign k)=0:=by show stL.getD k 0=0;rw[Bz,CO (by show 21<=k;omega)];rfl
theorem T1 (h:stOf y≠0):∃k,k<33/\y=.sign k:=by
 cases y with
 |sign k=>
  by_cases a:k<33
  ·exact⟨k,a,rfl⟩
  ·exact(h (BY7 (by omega))).elim
 |_=>exact(h rfl).elim
theorem Bt6 (y:Sy):stOf y<=10:=by
 by_cases h:stOf y=0
 ·omega
 ·obtain⟨k,b,rfl⟩:=T1 h;have a:∀k,k<33->stOf (.sign k)<=10:=by decide
  exact a k b
theorem Ar9:∀l,l<9->∀x∈opsOf l,x.2<18/\A38 x.2=signNo x.1/\AF7 x.2=l+2/\stOf (.sign (signNo x.1))=l+2:=by decide
theorem BP1:∀k,k<33->∀l,l<9->stOf (.sign k)=l+2->k∈(opsOf l).map fun x=>signNo x.1:=by decide
theorem r6:y∈keys .OPERATED↔5<=stOf y:=by
 constructor
 ·exact(by decide:∀y∈keys .OPERATED,5<=stOf y) y
 ·intro h;obtain⟨k,a,rfl⟩:=T1 (y:=y) (by omega);exact(by decide:∀k,k<33->5<=stOf (.sign k)->Sy.sign k∈keys .OPERATED) k a h
theorem AN0:y∈keys .JOINED↔2<=stOf y/\stOf y<4:=by
 constructor
 ·exact(by decide:∀y∈keys .JOINED,2<=stOf y/\stOf y<4) y
 ·intro h;obtain⟨k,a,rfl⟩:=T1 (y:=y) (by omega);exact(by decide:∀k,k<33->2<=stOf (.sign k)/\stOf (.sign k)<4->Sy.sign k∈keys .JOINED) k a h
theorem t5:y∈keys .COMPARED↔stOf y=4:=by
 constructor
 ·exact(by decide:∀y∈keys .COMPARED,stOf y=4) y
 ·intro h;obtain⟨k,a,rfl⟩:=T1 (y:=y) (by omega);exact(by decide:∀k,k<33->stOf (.sign k)=4->Sy.sign k∈keys .COMPARED) k a h
theorem Am3 (h:Sy.sign k∈keys .OPERATED):P3 .OPERATED (.sign k)=some [s1 k,o1 .ONE]:=by
 have a:k<33:=by obtain⟨m,b,e⟩:=T1 (y:=.sign k) (by have:=r6.mp h;omega);cases e;exact b
 exact(by decide:∀k,k<33->Sy.sign k∈keys .OPERATED->P3 .OPERATED (.sign k)=some [s1 k,o1 .ONE]) k a h
theorem A89 (h:Sy.sign k∈keys .JOINED):P3 .JOINED (.sign k)=some [s1 k,o1 .COMPARISON]:=by
 have a:k<33:=by obtain⟨m,b,e⟩:=T1 (y:=.sign k) (by have:=AN0.mp h;omega);cases e;exact b
 exact(by decide:∀k,k<33->Sy.sign k∈keys .JOINED->P3 .JOINED (.sign k)=some [s1 k,o1 .COMPARISON]) k a h
theorem Ai9 (h:Sy.sign k∈keys .COMPARED):P3 .COMPARED (.sign k)=some [s1 k,o1 .FORMULA]:=by
 have a:k<33:=by obtain⟨m,b,e⟩:=T1 (y:=.sign k) (by have:=t5.mp h;omega);cases e;exact b
 exact(by decide:∀k,k<33->Sy.sign k∈keys .COMPARED->P3 .COMPARED (.sign k)=some [s1 k,o1 .FORMULA]) k a h
section
variable {X:Tx} {i:Nat}
theorem t6 (d:l<9)(h:stOf (X.cy i)=l+2):∃o:Nat,o<18/\X.cy i=.sign (A38 o)/\AF7 o=l+2/\∀s,At X s i->opHere l s=.ok (some o,adv s):=by
 obtain⟨k,f,b⟩:=T1 (y:=X.cy i) (by omega);rw[b]at h;have g:=BP1 k f l d h;obtain⟨x,j,c⟩:=BN.mp g;cases q:(opsOf l).find? (fun x=>signNo x.1==k)with
 |none=>exact absurd (List.find?_eq_none.mp q x j) (by simp[c])
 |some y=>
  have m:signNo y.1=k:=by simpa using EH q
  obtain⟨r,v,w,B⟩:=Ar9 l d y (DG q);refine⟨y.2,r,by rw[b,v,m],w,fun s z=>?_⟩;obtain⟨t,e⟩:=V2 (X:=X) (i:=i) (by rw[b];exact⟨by simp,by simp⟩);have a:=(F9 e).1;obtain⟨p,n,u⟩:=t;rw[b]at a;unfold opHere;rw[A5 z.peek,e];cases u with
  |sign A=>
   have:k=A:=by simpa [F5]using a
   subst this;show(match (opsOf l).find? (fun x=>signNo x.1==k)with |some x=>_ |none=>_:P (Option Sw.Op)) s=_;rw[q];show(next>>=fun _=>pure (some y.2):P (Option Sw.Op)) s=_;rw[A5 (P9 s)];rfl
  |name _=>cases a
  |num _=>cases a
  |kept _=>cases a
theorem AD8 (a:l<9)(h:stOf (X.cy i)≠l+2)(b:At X s i):opHere l s=.ok (none,s):=by
 unfold opHere;rw[A5 b.peek];cases e:X.A[i]? with
 |none=>rfl
 |some t=>
  have c:=(F9 e).1;obtain⟨p,n,k⟩:=t;rw[c]at h;cases k with
  |sign k=>
   show(match (opsOf l).find? (fun x=>signNo x.1==k)with |some x=>_ |none=>_:P (Option Sw.Op)) s=_;cases q:(opsOf l).find? (fun x=>signNo x.1==k)with
   |none=>rfl
   |some y=>
    have d:signNo y.1=k:=by simpa using EH q
    have:=(Ar9 l a y (DG q)).2.2.2;rw[d]at this;exact absurd this h
  |_=>rfl
end
noncomputable abbrev Mn (Y:Nt)(r d:Nat):Fr:=⟨.many,.n Y,r,d⟩
def Go (X:Tx)(fs:List Fr)(i:Nat)(gs:List Fr)(j:Nat)(ns:List Nd):Prop:=∀a b R,Real a->Okst b i->En X (gs++a) j (push ns b) R->En X (fs++a) i b R
def SimO {f:Type}(X:Tx)(Y:Nt)(d:Nat)(fs:List Fr)(a:P f)(i k:Nat)(Q:f->Nat->List Nd->List Part->Prop)(b:Nat->Prop):Prop:=∀s,At X s i->match a s with
 |.ok (x,g)=>∃j c h l,At X g j/\i+k<=j/\i+c.length<=j/\g.parts=s.parts++h/\Q x j c h/\b (stOf (X.cy j))/\X.N-j<l/\Go X fs i [Mn Y l d] j c
 |.error e=>Bad X fs i e
section
variable {α β:Type} {X:Tx} {Y:Nt} {d i k k1 r:Nat} {fs:List Fr} {a a':P α} {b:α->P β} {Q Q':α->Nat->List Nd->List Part->Prop} {Qb:β->Nat->List Nd->List Part->Prop} {stp stp':Nat->Prop}
theorem SimO.congr (h:∀s,At X s i->a s=a' s)(c:SimO X Y d fs a' i k Q stp):SimO X Y d fs a i k Q stp:=by intro s b;rw[h s b];exact c s b
theorem SimO.mono (c:SimO X Y d fs a i k Q stp)(u:k1<=k)(f:∀x j ns ps,Q x j ns ps->Q' x j ns ps)(g:∀x j ns ps,Q x j ns ps->stp (stOf (X.cy j))->stp' (stOf (X.cy j))):SimO X Y d fs a i k1 Q' stp':=by
 intro s l;have h:=c s l;cases e:a s with
 |ok x=>rw[e]at h;obtain⟨j,ns,ps,m,n,v,o,p,b,q,r,t⟩:=h;exact⟨j,ns,ps,m,n,by omega,o,p,f _ _ _ _ b,g _ _ _ _ b q,r,t⟩
 |error w=>rw[e]at h;exact h
theorem SimO.unit (h:Sim X gs a i k Q)(z:X.N-i<r):SimO X Y d (gs++[Mn Y r d]) a i k Q fun _=>True:=by
 intro s m;have h:=h s m;cases e:a s with
 |ok x=>rw[e]at h;obtain⟨j,n,o,f,g,q,t,u,v⟩:=h;refine⟨j,n,o,r,f,g,q,t,u,trivial,by have:=f.le;omega,fun c w R b l y=>?_⟩;rw[AF];exact v _ _ _ b.app l y
 |error A=>rw[e]at h;obtain⟨p,f,g⟩:=h;exact⟨p,f,fun c w b l=>by rw[AF];exact g _ _ b.app l⟩
theorem SimO.bind (g:SimO X Y d fs a i k1 Q stp)(h:∀x j ns ps o,Q x j ns ps->stp (stOf (X.cy j))->X.N-j<o->i+k1<=j->j<=X.N->SimO X Y d [Mn Y o d] (b x) j (k-k1) (fun y q c f=>Qb y q (ns++c) (ps++f)) stp'):SimO X Y d fs (a>>=b) i k Qb stp':=by
 intro s B;have g:=g s B;cases e:a s with
 |error C=>rw[e]at g;rw[P0 e];exact g
 |ok x=>
  obtain⟨x,t⟩:=x;rw[e]at g;obtain⟨j,ns,ps,o,u,D,v,E,F,G,H,w⟩:=g;have h:=h x j ns ps o F G H D u.le t u;rw[A5 e];cases z:b x t with
  |error C=>rw[z]at h;obtain⟨p,r,A⟩:=h;exact⟨p,r,fun l I m n=>w _ _ _ m n (A _ _ m (n.push v))⟩
  |ok y=>obtain⟨y,T⟩:=y;rw[z]at h;obtain⟨q,c,f,J,r,A,U,K,L,M,O,P⟩:=h;refine⟨q,ns++c,ps++f,J,r,by omega,by rw[AO];omega,by rw[K,E,AF],L,M,O,fun l I R m n S=>?_⟩;refine w _ _ _ m n (P _ _ _ m (n.push v) ?_);rw[AT2];exact S
theorem SimO.part (h:SimO X Y d fs (c ()) i k (fun y j ns ps=>Qb y j ns (⟨w,p,X.en i-p⟩::ps)) stp):SimO X Y d fs (Sw.part w p>>=c) i k Qb stp:=by
 intro s a;have e:Sw.part w p s=.ok ((),{s with parts:=s.parts++[⟨w,p,X.en i-p⟩]}):=by rw[←a.l];rfl
 have h:=h {s with parts:=s.parts++[⟨w,p,X.en i-p⟩]} ⟨a.le,a.t,a.n,a.h,a.l⟩;rw[A5 e];cases b:c () {s with parts:=s.parts++[⟨w,p,X.en i-p⟩]}with
 |ok x=>rw[b]at h;obtain⟨j,ns,ps,f,g,m,o,q,r,u⟩:=h;exact⟨j,ns,_,f,g,m,o,by rw[q];show _++[_]++_=_;rw[AF];rfl,r,u⟩
 |error v=>rw[b]at h;exact h
theorem SimO.rest (h:∀s,At X s i->a s=.ok (x,s))(q:Q x i [] [])(g:stp (stOf (X.cy i)))(b:X.N-i<r):SimO X Y d [Mn Y r d] a i 0 Q stp:=by intro s c;rw[h s c];exact⟨i,[],[],r,c,AB _,AB _,(AE _).symm,q,g,b,fun e j R b k f=>by rw[Ah1]at f;exact f⟩
theorem SimO.op (G:V1 Y=false)(B:c9 (.n Y)=false)(l:X.cy i=.sign m)(H:P3 Y (.sign m)=some [s1 m,o1 U])(Z:X.N-i<r)(h:∀s,At X s i->a s=a' (adv s))(g:SimO X Y d [O U 1 d,Mn Y (r-1) d] a' (i+1) (k-1) Q stp):SimO X Y d [Mn Y r d] a i k Q stp:=by
 intro s q;have v:A55 (.sign m):=⟨by simp,by simp⟩;obtain⟨t,C⟩:=V2 (X:=X) (i:=i) (by rw[l];exact v);have D:=q.adv C;have g:=g _ D.1;have I:=M5 C;have E:∀b c R,En X ([O U 1 d,Mn Y (r-1) d]++b) (i+1) c R->En X ([Mn Y r d]++b) i c R:=by
  intro b c R w;have u:P3 Y (X.cy i)=some [s1 m,o1 U]:=by rw[l];exact H
  refine W3 q.le (by rw[l];exact v.1) (by show(P3 Y (X.cy i)).isSome=true;rw[u];rfl) ?_;refine BS1 q.le u (by rw[l];exact v.1) (by rw[B];simp) (by omega) ?_;unfold V6 b9 dps;rw[G,B];exact BD8 q.le l v.1 (AB _) w
 rw[h s q];cases e:a' (adv s)with
 |ok x=>rw[e]at g;obtain⟨j,J,K,L,y,F,h3,M,P,S,T,V⟩:=g;exact⟨j,J,K,L,y,by omega,by omega,by rw[M,D.2],P,S,T,fun b c R f z w=>E _ _ _ (V b c R f (let ⟨o,r,A,W⟩:=z;⟨o,r,A,by omega⟩) w)⟩
 |error e'=>rw[e]at g;obtain⟨p,y,F⟩:=g;exact⟨p,y,fun b c f z=>E _ _ _ (F b c f (let ⟨o,r,A,W⟩:=z;⟨o,r,A,by omega⟩))⟩
theorem SimO.close (h:SimO X Y d fs a i k Q stp)(b:∀y,stp (stOf y)->y∉keys Y):Sim X fs a i k Q:=by
 intro s l;have h:=h s l;cases e:a s with
 |error z=>rw[e]at h;exact h
 |ok x=>rw[e]at h;obtain⟨j,m,n,A,c,o,p,q,r,t,B,u⟩:=h;exact⟨j,m,n,c,o,p,q,r,fun f C R g v w=>u _ _ _ g v (AR4 c.le g (J6 (b _ t)) w)⟩
end
section
variable {X:Tx}
theorem Rp.lt (h:Rp X o ns i j):i<j:=by
 induction h<;>omega
theorem Rp.at_ (h:Rp X (.ex x) [n] i j):n.i=i/\n.j=j/\n.le=0:=by cases h<;>exact⟨rfl,rfl,rfl⟩
theorem Bv9 (X:Tx)(i:Nat):own X (.n .ATOM) i (i+1)=[⟨8,X.bg i,X.en (i+1)-X.bg i⟩]:=by unfold own pNo;rw[AL rfl,AL (by omega)]
theorem Bw1 (X:Tx)(h:i+1<j):own X (.n .ATOM) i j=[⟨7,X.bg i,X.en j-X.bg i⟩]:=by unfold own pNo;rw[AL rfl,AD (by omega)]
end
noncomputable def QX (X:Tx)(i a d:Nat):Ex->Nat->List Nd->List Part->Prop:=fun x j b c=>∃n,b=[n]/\Rp X (.ex x) [n] i j/\c=pt X n/\(n.pr=false->a<=n.st)/\d<=128
noncomputable def QZ (X:Tx)(i:Nat):Ex->Nat->List Nd->List Part->Prop:=fun x j a b=>∃n,a=[n]/\Rp X (.sz x) [n] i j/\b=pt X n
noncomputable def QP (X:Tx)(i:Nat):Ex->Nat->List Nd->List Part->Prop:=fun x j a b=>∃n m,j=m+1/\a=[n]/\Rp X (.ex x) [n] (i+1) m/\b=pt X n/\X.cy i=.sign 27/\X.cy m=.sign 28
noncomputable def Q2 (X:Tx)(i:Nat):Ex×Ex->Nat->List Nd->List Part->Prop:=fun x j c d=>∃n a m b,j=b+1/\c=[n,a]/\Rp X (.ex x.1) [n] (i+1) m/\Rp X (.ex x.2) [a] (m+1) b/\d=pt X n++pt X a/\X.cy i=.sign 27/\X.cy m=.sign 25/\X.cy b=.sign 28
noncomputable def QV (X:Tx)(i:Nat):Bytes×Ex×Ex->Nat->List Nd->List Part->Prop:=fun x j b c=>∃n a m,b=[n,a]/\X.tk i=some (.name x.1)/\X.cy (i+1)=.sign 19/\Rp X (.sz x.2.1) [n] (i+2) m/\X.cy m=.sign 23/\Rp X (.ex x.2.2) [a] (m+1) j/\c=pt X n++pt X a
noncomputable def QL (X:Tx)(i a:Nat):Ex->Nat->List Nd->List Part->Prop:=fun x j b c=>∃M,Rp X (.ex x) [M] i j/\c=pt X M/\(M.pr=false->a<=M.st)/\Seg X a b M/\∀n r,b=n::r->n.i=i
structure Acc (X:Tx)(i0 i lo:Nat)(a:Ex)(ns:List Nd)(M:Nd):Prop where
 R:Rp X (.ex a) [M] i0 i
 l:M.pr=false->lo<=M.st
 s:Seg X lo ns M
 h:∀n r,ns=n::r->n.i=i0
noncomputable def QM (X:Tx)(b c:Nat)(a:List Nd)(d:Nd):Ex->Nat->List Nd->List Part->Prop:=fun x j e f=>∃M,Acc X b j c x (a++e) M/\pt X d++f=pt X M
noncomputable def QB (X:Tx)(d:Nat)(a:Nd):Ex->Nat->List Nd->List Part->Prop:=fun x j b e=>Rp X (.ex x) [b.foldl J3 a] d j/\pt X a++e=pt X (b.foldl J3 a)/\((b.foldl J3 a).pr=false->12<=(b.foldl J3 a).st)/\∀q∈b,q.c.length<=2
noncomputable def QR (X:Tx)(i:Nat):List Ex->Nat->List Nd->List Part->Prop:=fun l j a b=>∃m,j=m+1/\l≠[]/\Rp X (.ar l) a i m/\X.cy m=.sign 28/\b=pts X a
structure Ok (X:Tx)(f:Nat):Prop where
 e:∀d r i,1<=r->16*(X.N-i)+14<=f->Sim X [O .E r d] (eAt f d) i 1 (QX X i 0 d)
 over:∀d i,16*(X.N-i)+1<=f->Sim X [Tm .name d,Tm (.sign 19) d,O .SIZE 1 d,Tm (.sign 23) d,O .E 1 d] (overAt f d) i 1 (QV X i)
 level:∀l d r i,3<=l->l<=9->16*(X.N-i)+(13-l)<=f->X.N-i<r->SimO X .OPERATED (d+1) [O .ONE 1 (d+1),Mn .OPERATED r (d+1)] (levelAt f l d) i 1 (QL X i (l+2)) fun v=>¬l+2<=v
 more:∀l d a i0 i r ns M,3<=l->l<9->16*(X.N-i)+1<=f->X.N-i<r->¬l+3<=stOf (X.cy i)->Acc X i0 i (l+2) a ns M->SimO X .OPERATED (d+1) [Mn .OPERATED r (d+1)] (moreAt f l d (X.bg i0) a) i 0 (QM X i0 (l+2) ns M) fun v=>¬l+2<=v
 lev2:∀d r i,1<=r->16*(X.N-i)+11<=f->Sim X [O .COMPARISON r (d+1)] (levelAt f 2 d) i 1 (QL X i 4)
 more2:∀d a i0 i ns M,16*(X.N-i)+1<=f->Acc X i0 i 5 a ns M->Sim X [Mb .COMPARED (d+1)] (moreAt f 2 d (X.bg i0) a) i 0 (QM X i0 4 ns M)
 levJ:∀l d r i,l<=2->16*(X.N-i)+(13-l)<=f->X.N-i<r->SimO X .JOINED (d+1) [O .COMPARISON 1 (d+1),Mn .JOINED r (d+1)] (levelAt f l d) i 1 (QL X i (l+2)) fun v=>¬(l+2<=v/\v<4)
 moreJ:∀l d a i0 i r ns M,l<2->16*(X.N-i)+1<=f->X.N-i<r->¬(l+3<=stOf (X.cy i)/\stOf (X.cy i)<4)->Acc X i0 i (l+2) a ns M->SimO X .JOINED (d+1) [Mn .JOINED r (d+1)] (moreAt f l d (X.bg i0) a) i 0 (QM X i0 (l+2) ns M) fun v=>¬(l+2<=v/\v<4)
 one:∀d r i,1<=r->16*(X.N-i)+3<=f->Sim X [O .ONE r d] (oneAt f d) i 1 (QX X i 11 d)
 post:∀d a i0 i r M,X.N-i<r->16*(X.N-i)+1<=f->Rp X (.ex a) [M] i0 i->(M.pr=false->12<=M.st)->Sim X [Mn .BEHIND r (d+1)] (postAt f d (X.bg i0) a) i 0 (QB X i0 M)
 size:∀d r i,1<=r->16*(X.N-i)+1<=f->Sim X [O .SIZE r d] (sizeAt f d) i 1 (QZ X i)
 par:∀d i,16*(X.N-i)+1<=f->Sim X [Tm (.sign 27) d,O .E 1 d,Tm (.sign 28) d] (inParens f d) i 1 (QP X i)
 two:∀d i,16*(X.N-i)+1<=f->Sim X [Tm (.sign 27) d,O .E 1 d,Tm (.sign 25) d,O .E 1 d,Tm (.sign 28) d] (twoIn f d) i 1 (Q2 X i)
 atom:∀d r i,1<=r->16*(X.N-i)+2<=f->Sim X [O .ATOM r d] (atomAt f d) i 1 (QX X i 12 d)
 args:∀d had r i,(r=256-had∨(had=0/\1<=r))->(had≠0->d<=128)->16*(X.N-i)+15<=f->Sim X [O .E r d,⟨.more,.n .E,255-had,d⟩,Tm (.sign 28) d] (argsAt f d had) i 1 (QR X i)
theorem fu (h:16*(n-i)+c<=f+1)(a:i+1<=j)(b:i<n)(d:c'<=15+c:=by decide):16*(n-j)+c'<=f:=by omega
theorem sgo:signNo "("=27:=by decide
theorem sgc:signNo ")"=28:=by decide
theorem sgk:signNo ","=25:=by decide
theorem sgl:signNo "<"=19:=by decide
theorem sgd:signNo ":"=23:=by decide
theorem sbo:signNo "["=29:=by decide
theorem sbc:signNo "]"=30:=by decide
theorem sga:signNo "@"=26:=by decide
theorem sgq:signNo "?"=22:=by decide
theorem AY2 {X:Tx}(h:X.cy i=y)(a:A55 y:=by exact⟨by simp,by simp⟩):i<X.N:=by obtain⟨t,e⟩:=V2 (X:=X) (i:=i) (by rw[h];exact a);exact M5 e
theorem Bt7 {X:Tx}(h:X.tk i=some t):i<X.N:=let ⟨_,_,e,_⟩:=BA6 h;M5 e
section
variable {X:Tx} {f:Nat}
theorem Bb2 (h:Ok X f):∀d i,16*(X.N-i)+1<=f+1->Sim X [Tm (.sign 27) d,O .E 1 d,Tm (.sign 28) d] (inParens (f+1) d) i 1 (QP X i):=by intro d i b;unfold inParens;refine Sim.want sgo fun a=>?_;refine Sim.bind (fs:=[O .E 1 d]) (h.e d 1 (i+1) (AB _) (fu b (AB _) (AY2 a))) fun x j k l q m o=>?_;obtain⟨n,rfl,c,rfl,_⟩:=q;refine Sim.want sgc fun g=>?_;exact Sim.ret ⟨n,j,rfl,rfl,c,AE _,a,g⟩
theorem Bd3 (h:Ok X f):∀d i,16*(X.N-i)+1<=f+1->Sim X [Tm (.sign 27) d,O .E 1 d,Tm (.sign 25) d,O .E 1 d,Tm (.sign 28) d] (twoIn (f+1) d) i 1 (Q2 X i):=by intro d i b;unfold twoIn;refine Sim.want sgo fun c=>?_;have g:=AY2 c;refine Sim.bind (fs:=[O .E 1 d]) (h.e d 1 (i+1) (AB _) (fu b (AB _) g)) fun x j k l q u o=>?_;obtain⟨n,rfl,p,rfl,_⟩:=q;refine Sim.want sgk fun r=>?_;refine Sim.bind (fs:=[O .E 1 d]) (h.e d 1 (j+1) (AB _) (fu b (by omega) g)) fun y m k l q v o=>?_;obtain⟨s,rfl,a,rfl,_⟩:=q;refine Sim.want sgc fun t=>?_;exact Sim.ret ⟨n,s,j,m,rfl,rfl,p,a,by rw[AE],c,r,t⟩
theorem BV7 (h:Ok X f):∀d i,16*(X.N-i)+1<=f+1->Sim X [Tm .name d,Tm (.sign 19) d,O .SIZE 1 d,Tm (.sign 23) d,O .E 1 d] (overAt (f+1) d) i 1 (QV X i):=by intro d i c;unfold overAt;refine Sim.name (AB _) fun b g=>?_;have k:=Bt7 g;refine Sim.want sgl fun l=>?_;refine Sim.bind (fs:=[O .SIZE 1 d]) (h.size d 1 (i+2) (AB _) (fu c (by omega) k)) fun x j o p q v r=>?_;obtain⟨n,rfl,s,rfl⟩:=q;refine Sim.want sgd fun t=>?_;refine Sim.bind (fs:=[O .E 1 d]) (gs:=[]) (h.e d 1 (j+1) (AB _) (fu c (by omega) k)) fun y m o p q w r=>?_;obtain⟨u,rfl,a,rfl,_⟩:=q;exact Sim.ret ⟨n,u,j,rfl,g,l,s,t,a,by rw[AE]⟩
noncomputable def AO9 (f d:Nat):Unit->P Ex:=fun _=>peek>>=fun x=>match x with
  |some ⟨_,_,.num n⟩=>next>>=fun _=>pure (.num n)
  |some ⟨_,_,.name s⟩=>next>>=fun _=>pure (.name s)
  |_=>wants "(">>=fun _=>eAt f (d+1)>>=fun e=>wants ")">>=fun _=>pure e
theorem BX2 (f d:Nat):sizeAt (f+1) d=notDeep d beginsSize>>=AO9 f d:=by
 conv=>lhs;unfold sizeAt
 unfold AO9;rfl
theorem AR2 (h:X.cy i=.sign 27):AP4 X.cy ⟨k,i,n::r⟩ j l=some (.mk k i j true n.st l (n::r)):=by unfold AP4;rw[AL h]
theorem g0 (h:X.cy i≠.sign 27):AP4 X.cy ⟨k,i,c⟩ (i+1) l=some (.mk k i (i+1) false 13 0 c):=by unfold AP4;rw[AD h,AD (by show ¬1<i+1-i;omega)]
theorem Ao4 (h:X.cy i≠.sign 27)(a:i+1<j):AP4 X.cy ⟨k,i,c⟩ j l=some (.mk k i j false 12 0 c):=by unfold AP4;rw[AD h,AL (by show 1<j-i;omega)]
theorem BD3 (X:Tx)(i j:Nat):own X (.n .SIZE) i j=[]:=rfl
theorem BK0 (h:Ok X f):∀d r i,1<=r->16*(X.N-i)+1<=f+1->Sim X [O .SIZE r d] (sizeAt (f+1) d) i 1 (QZ X i):=by
 intro d r i u F;refine Y9 (Y:=.SIZE) (BX2 f d) rfl BG9 (fun q s w=>BV8 w q _ _) fun c J=>?_;have z:¬(c9 (.n .SIZE)=true/\128<d):=fun q=>by omega
 unfold AO9;refine Sim.peek ?_;obtain⟨t,e⟩:=V2 (M3 c);have G:=M5 e;obtain⟨g,_,C,_⟩:=F9 e;obtain⟨p,l,k⟩:=t;rw[e];cases k with
 |num v=>
  have a:X.cy i=.number:=g;refine Sim.node (Q':=fun x j b o=>x=.num v/\j=i+1/\b=[]/\o=[]) (ps:=[nb]) (by rw[a];rfl) rfl z u (AB _) ?_ ?_
  ·exact Sim.adv a ⟨by simp,by simp⟩ (AB _) (fun s w=>A5 (P9 s)) (Sim.ret ⟨rfl,rfl,rfl,rfl⟩)
  ·rintro y j b D ⟨rfl,rfl,rfl,rfl⟩ _;refine⟨_,g0 (l:=13) (by rw[a];simp),_,rfl,.sznum C,?_⟩;rw[Z4,F8];rfl
 |name v=>
  have a:X.cy i=.name:=g;refine Sim.node (Q':=fun x j b o=>x=.name v/\j=i+1/\b=[]/\o=[]) (ps:=[nm]) (by rw[a];rfl) rfl z u (AB _) ?_ ?_
  ·exact Sim.adv a ⟨by simp,by simp⟩ (AB _) (fun s w=>A5 (P9 s)) (Sim.ret ⟨rfl,rfl,rfl,rfl⟩)
  ·rintro y j b D ⟨rfl,rfl,rfl,rfl⟩ _;refine⟨_,g0 (l:=13) (by rw[a];simp),_,rfl,.szname C,?_⟩;rw[Z4,F8];rfl
 |kept k=>rw[g]at c;have:Sy.kept k∈keys .SIZE:=c;simp[keys,row]at this
 |sign k=>
  have H:k=27:=by rw[g]at c;have:Sy.sign k∈keys .SIZE:=c;simpa [keys,row]using this
  subst H;have a:X.cy i=.sign 27:=g;refine Sim.node (Q':=QP X i) (ps:=[s1 27,o1 .E,s1 28]) (by rw[a];rfl) rfl z u (AB _) ?_ ?_
  ·refine Sim.want sgo fun I=>?_;refine Sim.bind (fs:=[O .E 1 (d+1)]) (h.e (d+1) 1 (i+1) (AB _) (fu F (AB _) G)) fun x j b o q K L=>?_;obtain⟨n,rfl,A,rfl,_⟩:=q;refine Sim.want sgc fun B=>?_;exact Sim.ret ⟨n,j,rfl,rfl,A,AE _,I,B⟩
  ·rintro y j b D ⟨n,m,rfl,rfl,A,rfl,_,B⟩ _;refine⟨_,AR2 a,_,rfl,.szpar a A B,?_⟩;rw[Z4,E3,BD3,AE]
noncomputable def AO7 (f d:Nat)(had:Nat):P (List Ex):=eAt f d>>=fun a=>takes ",">>=fun c=>if c=true then argsAt f d (had+1)>>=fun l=>pure (a::l)else wants ")">>=fun _=>pure [a]
theorem BV6 (f d had:Nat):argsAt (f+1) d had=peek>>=fun x=>(match x with |some t=>if beginsE t.tok=true then oneMore had LIST else stray |none=>stray:P Unit)>>=fun _=>AO7 f d had:=by
 conv=>lhs;unfold argsAt
 unfold AO7;congr 1;funext x;cases x with
 |none=>rfl
 |some t=>
  show(if beginsE t.tok=true then _ else _)=((if beginsE t.tok=true then oneMore had LIST else stray:P Unit)>>=_);by_cases q:beginsE t.tok=true
  ·rw[AL q,AL q]
  ·rw[AD q,AD q]
theorem n8 {v:Type}{b:Sb}{fs:List Fr}{a:Tok->Bool}{had most r d k i:Nat}{c:P v}{Q:v->Nat->List Nd->List Part->Prop}(w:∀t,a t=B8 b (F5 t))(h:B8 b .nothing=false/\B8 b .finish=false)
  (p:1<=r↔had<most) (u:had<most∨¬(c9 b=true/\128<d)) (z:B8 b (X.cy i)=true->had<most->i<X.N->Sim X (⟨.once,b,r,d⟩::fs) c i k Q):
  Sim X (⟨.once,b,r,d⟩::fs) (peek>>=fun x=>(match x with |some t=>if a t.tok=true then oneMore had most else stray |none=>stray:P Unit)>>=fun _=>c) i k Q:=by
 refine Sim.peek ?_;cases g:B8 b (X.cy i)with
 |false=>
  refine Sim.stray rfl g fun s n=>C2 n ?_;cases e:X.A[i]? with
  |none=>rfl
  |some t=>show(if a t.tok=true then oneMore had most else stray:P Unit) s=_;rw[w,←(F9 e).1,g];rfl
 |true=>
  have j:A55 (X.cy i):=⟨fun q=>(by rw[q,h.1]at g;cases g),fun q=>(by rw[q,h.2]at g;cases g)⟩;obtain⟨t,e⟩:=V2 j;have l:a t.tok=true:=by rw[w,←(F9 e).1,g]
  by_cases o:had<most
  ·refine Sim.congr (a':=c) (fun s n=>?_) (z g o (M5 e));rw[e];refine A5 (x:=()) ?_;show(if a t.tok=true then oneMore had most else stray:P Unit) s=_;rw[AL l];unfold oneMore;rw[AL o];rfl
  ·refine Sim.err (e:=⟨4,X.plc i⟩) (fun s n=>?_) fun B=>⟨i,rfl,fun m C _ _=>?_⟩
   ·rw[e];refine P0 ?_;show(if a t.tok=true then oneMore had most else stray:P Unit) s=_;rw[AL l];unfold oneMore;rw[AD o,A5 n.peek,e,(F9 e).2.1];rfl
   ·have y:faultOf ⟨.once,b,r,d⟩ (X.cy i)=4:=by unfold faultOf;rw[AD (by rw[g];decide),AD (u.resolve_left o),AL (by show r<1;omega)]
    have:=Az9 (X:=X) (fs:=fs++m) (st:=C) (f:=⟨.once,b,r,d⟩) B rfl j.1 (by rw[y];decide);rw[y]at this;exact this
theorem AD4 (C:X.cy i=.sign 25->Sim X (⟨.once,b,m,d⟩::⟨.more,b,m-1,d⟩::fs) A (i+1) (k-1) Q)(D:X.cy i≠.sign 25->Sim X fs B i k Q):
  Sim X (⟨.more,b,m,d⟩::fs) (takes ",">>=fun c=>if c=true then A else B) i k Q:=by
 by_cases e:X.cy i=.sign 25
 ·have g:=C e;intro s f;obtain⟨t,E⟩:=V2 (X:=X) (i:=i) (by rw[e];exact⟨by simp,by simp⟩);have y:=f.adv E;have g:=g _ y.1;rw[A5 (K1 f (by rw[sgk];exact e))];show(match A (adv s)with |.ok (x,L)=>_ |.error e=>_);cases l:A (adv s)with
  |ok x=>rw[l]at g;obtain⟨j,F,G,u,z,M,H,I,J⟩:=g;exact⟨j,F,G,u,by omega,by omega,by rw[H,y.2],I,fun a n R h q v=>Ap9 f.le e (J a n R h (let ⟨o,r,w,l⟩:=q;⟨o,r,w,by omega⟩) v)⟩
  |error N=>rw[l]at g;obtain⟨p,u,z⟩:=g;exact⟨p,u,fun a n h q=>Ap9 f.le e (z a n h (let ⟨o,r,w,l⟩:=q;⟨o,r,w,by omega⟩))⟩
 ·refine Sim.conv (gs:=fs) (Sim.congr (fun s f=>A5 (J1 f (by rw[sgk];exact e))) (D e)) fun a n R K h q v=>Bl6 K h.app e v
theorem BM3 (h:Ok X f)(p:∀d r i,1<=r->16*(X.N-i)+14<=f->Sim X [O .E r d] (eAt f d) i 1 (QX X i 0 d)):∀d had r i,(r=256-had∨(had=0/\1<=r))->(had≠0->d<=128)->16*(X.N-i)+15<=f+1->Sim X [O .E r d,⟨.more,.n .E,255-had,d⟩,Tm (.sign 28) d] (argsAt (f+1) d had) i 1 (QR X i):=by
 intro d had r i C s D;rw[BV6];refine n8 (fs:=[⟨.more,.n .E,255-had,d⟩,Tm (.sign 28) d]) (had:=had) (most:=LIST) (fun t=>by rw[b_e,X5]) ⟨rfl,rfl⟩ (by show 1<=r↔had<256;omega) ?_ fun F u G=>?_
 ·by_cases q:had<LIST
  ·exact .inl q
  ·refine .inr fun z=>?_;have:¬had<256:=q;have:=s (by omega);omega
 ·unfold AO7;refine Sim.bind (fs:=[O .E r d]) (p d r i (by have:had<256:=u;omega) (by omega)) fun x j a v q H I=>?_;obtain⟨n,rfl,g,rfl,_,b⟩:=q;refine AD4 (fun k=>?_) (fun k=>?_)
  ·have w:255-had-1=255-(had+1):=by omega
   rw[w];refine Sim.bind (gs:=[]) (h.args d (had+1) (255-had) (j+1) (.inl (by omega)) (fun _=>b) (by omega)) fun l m a v q y A=>?_;obtain⟨o,rfl,B,c,e,rfl⟩:=q;refine Sim.ret ⟨o,rfl,by simp,(by show Rp X _ (n::(a++[])) i o;rw[AE];exact .arcons B g k c),e,?_⟩;show pt X n++(pts X a++[])=pts X (n::(a++[]));rw[AE,AE,G9]
  ·refine Sim.want sgc fun e=>?_;exact Sim.ret ⟨j,rfl,by simp,.arone g,e,by show pt X n++[]=pts X [n];rw[AE,E3]⟩
end
theorem A87:∀o,o<18->stOf (.sign (A38 o))=AF7 o:=by decide
section
variable {X:Tx} {f:Nat}
theorem AW2 (f l d p:Nat)(a:Ex):moreAt (f+1) l d p a=opHere l>>=fun x=>match x with
  |none=>pure a
  |some o=>levelAt f (l+1) d>>=fun b=>Sw.part 5 p>>=fun _=>if l=2 then pure (.bin o a b)else moreAt f l d p (.bin o a b):=by
 conv=>lhs;unfold moreAt
 congr 1
theorem Bt3:pt X (mkOp lo M M')=pt X M++(pt X M'++[⟨5,X.bg M.i,X.en M'.j-X.bg M.i⟩]):=by unfold mkOp;rw[Z4,G9,E3,An8,An8,AF];rfl
theorem Acc.op (f:o<18)(d:AF7 o=lo)(m:Rp X (.ex a) [M] i0 i)(w:M.pr=false->lowL lo<=M.st)(p:Seg X lo ns M)(x:∀n r,ns=n::r->n.i=i0)(s:X.cy i=.sign (A38 o))
  (c:Rp X (.ex b) [M'] (i+1) j) (g:M'.pr=false->lo+1<=M'.st) (h:Seg X (lo+1) ns' M') (k:∀n r,ns'=n::r->n.i=i+1) (A:j<=X.N):
  Acc X i0 j lo (.bin o a b) (ns++ns') (mkOp lo M M')/\pt X (mkOp lo M M')=pt X M++(pt X M'++[⟨5,X.bg i0,X.en j-X.bg i0⟩]):=by
 have t:=m.at_;have u:=c.at_;have B:=c.lt;have l:2<=lo:=by rw[←d];exact(by decide:∀o,o<18->2<=AF7 o) o f
 refine⟨⟨?_,fun _=>AB _,?_,?_⟩,?_⟩
 ·have e:mkOp lo M M'=.mk .OPERATOR i0 j false (AF7 o) 0 [M.setLe (lowL (AF7 o)),M'.setLe (AF7 o+1)]:=by unfold mkOp lowL;rw[t.1,u.2.1,d]
  rw[e];exact .bin f m s c (by rw[d];exact w) (by rw[d];exact g)
 ·refine p.app h (fun n r q=>?_) l;have:=k n r q;refine⟨by omega,by omega,?_⟩;rw[this];show stOf (X.cy i)=lo;rw[s,A87 o f,d]
 ·intro n r q;obtain⟨v,y,e,_⟩:=p;have z:v=n:=by rw[e]at q;exact(List.cons.inj q).1
  rw[←z];exact x v y e
 ·rw[Bt3,t.1,u.2.1]
theorem QL.acc (h:QL X i lo x j ns ps):∃M,Acc X i j lo x ns M/\ps=pt X M:=by obtain⟨M,a,b,c,d,e⟩:=h;exact⟨M,⟨a,c,d,e⟩,b⟩
theorem Acc.mono (h:Acc X i j lo x ns M)(a:lo'<=lo):Acc X i j lo' x ns M:=⟨h.R,fun q=>BV a (h.l q),h.s.mono a,h.h⟩
theorem QM.fin (h:QM X i lo ns M x j ns' ps):QL X i lo x j (ns++ns') (pt X M++ps):=by obtain⟨b,a,c⟩:=h;exact⟨b,a.R,c,a.l,a.s,a.h⟩
theorem QM.more (h:QM X i0 lo (ns++ns') M2 x j ns2 ps)(e:pt X M2=pt X M++(pt X M'++[p])):QM X i0 lo ns M x j (ns'++ns2) (pt X M'++(p::ps)):=by obtain⟨a,b,c⟩:=h;refine⟨a,by rw[←AF];exact b,?_⟩;rw[←c,e];simp only[AF,Bs,DA]
theorem BM9 (h:Ok X f):∀l d a c i r ns M,3<=l->l<9->16*(X.N-i)+1<=f+1->X.N-i<r->¬l+3<=stOf (X.cy i)->Acc X c i (l+2) a ns M->SimO X .OPERATED (d+1) [Mn .OPERATED r (d+1)] (moreAt (f+1) l d (X.bg c) a) i 0 (QM X c (l+2) ns M) fun v=>¬l+2<=v:=by
 intro l d a c i r ns M A m t u B e;rw[AW2];by_cases w:stOf (X.cy i)=l+2
 ·obtain⟨o,n,k,C,D⟩:=t6 m w;have y:=AY2 k;have E:Sy.sign (A38 o)∈keys .OPERATED:=r6.mpr (by rw[←k];omega);refine SimO.op (U:=.ONE) (a':=levelAt f (l+1) d>>=fun b=>Sw.part 5 (X.bg c)>>=fun _=>if l=2 then pure (.bin o a b)else moreAt f l d (X.bg c) (.bin o a b)) rfl rfl k (Am3 E) u (fun s g=>A5 (D s g)) ?_;refine SimO.bind (h.level (l+1) d (r-1) (i+1) (by omega) (by omega) (fu t (AB _) y (by omega)) (by omega)) fun b j F O G q g p P H=>?_;obtain⟨Q,I,rfl,J,K,L⟩:=q;have z:=Acc.op n C e.R (by unfold lowL;rw[AD (by omega)];exact e.l) e.s e.h k I J K L H;refine SimO.part ?_;rw[AD (by omega)];exact(h.more l d _ c j G _ _ A m (fu t (by omega) y) p g z.1).mono (Ag _) (fun _ _ _ _ q=>q.more z.2) fun _ _ _ _ _ q=>q
 ·refine SimO.rest (x:=a) (fun s g=>A5 (AD8 m w g)) ⟨M,by rw[AE];exact e,AE _⟩ (by omega) u
theorem A97 (h:Ok X f):∀l d r i,3<=l->l<=9->16*(X.N-i)+(13-l)<=f+1->X.N-i<r->SimO X .OPERATED (d+1) [O .ONE 1 (d+1),Mn .OPERATED r (d+1)] (levelAt (f+1) l d) i 1 (QL X i (l+2)) fun v=>¬l+2<=v:=by
 intro l d r i w A B m;rw[z8];by_cases o:9<=l
 ·rw[AL o];refine(SimO.unit (gs:=[O .ONE 1 (d+1)]) (h.one (d+1) 1 i (AB _) (by omega)) m).mono (AB _) (fun x j b p q=>?_) fun x j b p q _=>?_
  ·obtain⟨n,rfl,t,rfl,c,_⟩:=q;exact⟨n,t,rfl,fun z=>by have:=c z;omega,Seg.one n,fun C u e=>by cases e;exact t.at_.1⟩
  ·have:=Bt6 (X.cy j);omega
 ·rw[AD o];refine SimO.congr (fun s g=>A5 g.here) ?_;refine SimO.bind (h.level (l+1) d r i (by omega) (by omega) (by omega) m) fun a j b p u q g k D E=>?_;obtain⟨M,y,rfl⟩:=q.acc;exact(h.more l d a i j u b M w (by omega) (by omega) k g (y.mono (by omega))).mono (AB _) (fun _ _ _ _ q=>q.fin) fun _ _ _ _ _ q=>q
theorem Bo3 (h:y∈keys .ONE):P3 .OR y=some [o1 .COMPARISON,mn .JOINED AF8]/\P3 .COMPARISON y=some [o1 .FORMULA,mb .COMPARED]/\P3 .FORMULA y=some [o1 .ONE,mn .OPERATED AF8]/\P3 .E y=some [o1 .OR,mb .CHOICE]:=
 (by decide:∀y∈keys .ONE,P3 .OR y=some [o1 .COMPARISON,mn .JOINED AF8]/\P3 .COMPARISON y=some [o1 .FORMULA,mb .COMPARED]/\P3 .FORMULA y=some [o1 .ONE,mn .OPERATED AF8]/\P3 .E y=some [o1 .OR,mb .CHOICE]) y h
theorem Bx5:keys .OR=keys .ONE/\keys .COMPARISON=keys .ONE/\keys .FORMULA=keys .ONE:=by decide
theorem AD9 (h:Ok X f)(e:X.N<AF8)(b:1<=r)(g:16*(X.N-i)+10<=f):Sim X [O .FORMULA r (d+1)] (levelAt f 3 d) i 1 (QL X i 5):=by
 by_cases a:X.cy i∈keys .ONE
 ·refine Sim.exp (gs:=[]) (Bo3 a).2.2.1 rfl rfl b ?_;exact(h.level 3 d AF8 i (by omega) (by omega) (by omega) (by omega)).close fun y q z=>q (r6.mp z)
 ·exact Sim.stray rfl (J6 (by rw[Bx5.2.2];exact a)) fun s c=>z6 c a _ _ _
theorem A98 (h:Ok X f)(B:X.N<AF8):∀d a c i ns M,16*(X.N-i)+1<=f+1->Acc X c i 5 a ns M->Sim X [Mb .COMPARED (d+1)] (moreAt (f+1) 2 d (X.bg c) a) i 0 (QM X c 4 ns M):=by
 intro d a c i ns M C g;rw[AW2];by_cases m:stOf (X.cy i)=2+2
 ·obtain⟨o,n,e,D,E⟩:=t6 (by decide) m;have p:=AY2 e;have F:Sy.sign (A38 o)∈keys .COMPARED:=t5.mpr (by rw[←e];exact m);have w:P3 .COMPARED (X.cy i)=some [s1 (A38 o),o1 .FORMULA]:=by rw[e];exact Ai9 F
  have G:Sim X [O .COMPARED 1 (d+1)] (opHere 2>>=fun x=>match x with
    |none=>pure a
    |some o=>levelAt f (2+1) d>>=fun b=>Sw.part 5 (X.bg c)>>=fun _=>if 2=2 then pure (.bin o a b)else moreAt f 2 d (X.bg c) (.bin o a b)) i 0 (QM X c 4 ns M):=by
   refine Sim.exp (gs:=[]) w rfl rfl (AB _) ?_;refine Sim.adv (a':=levelAt f (2+1) d>>=fun b=>Sw.part 5 (X.bg c)>>=fun _=>if 2=2 then pure (.bin o a b)else moreAt f 2 d (X.bg c) (.bin o a b)) e ⟨by simp,by simp⟩ (AB _) (fun s r=>A5 (E s r)) ?_;refine Sim.bind (fs:=[O .FORMULA 1 (d+1)]) (gs:=[]) (AD9 h B (AB _) (fu C (AB _) p)) fun b j H T q U I=>?_;obtain⟨J,K,rfl,L,P,Q⟩:=q;have y:=Acc.op n D g.R (by intro z;exact g.l z) (g.s.mono (by omega)) g.h e K L P Q I;refine Sim.part ?_;rw[AL rfl];refine Sim.ret (QM.more (M2:=mkOp 4 M J) ⟨_,?_,AE _⟩ y.2);rw[AE];exact y.1
  exact G.conv fun k S R t A u v=>Ai3 t (by rw[e];simp) (by show(P3 .COMPARED (X.cy i)).isSome=true;rw[w];rfl) v
 ·refine Sim.ok (x:=a) (fun s r=>A5 (AD8 (by decide) m r)) ⟨M,by rw[AE];exact g.mono (by omega),AE _⟩ fun k S R p A u v=>A31 p A (J6 fun q=>m (t5.mp q)) v
theorem A28 (h:Ok X f)(c:X.N<AF8):∀d r i,1<=r->16*(X.N-i)+11<=f+1->Sim X [O .COMPARISON r (d+1)] (levelAt (f+1) 2 d) i 1 (QL X i 4):=by
 intro d r i e m;by_cases b:X.cy i∈keys .ONE
 ·rw[z8,AD (by decide)];refine Sim.exp (gs:=[]) (Bo3 b).2.1 rfl rfl e (Sim.here ?_);refine Sim.bind (fs:=[O .FORMULA 1 (d+1)]) (AD9 h c (AB _) (by omega)) fun a j g n q o p=>?_;obtain⟨M,k,rfl⟩:=q.acc;exact(h.more2 d a i j g M (by omega) k).mono (AB _) fun _ _ _ _ q=>q.fin
 ·exact Sim.stray rfl (J6 (by rw[Bx5.2.1];exact b)) fun s l=>z6 l b _ _ _
theorem BE4 (h:Ok X f):∀l d a c i r ns M,l<2->16*(X.N-i)+1<=f+1->X.N-i<r->¬(l+3<=stOf (X.cy i)/\stOf (X.cy i)<4)->Acc X c i (l+2) a ns M->SimO X .JOINED (d+1) [Mn .JOINED r (d+1)] (moreAt (f+1) l d (X.bg c) a) i 0 (QM X c (l+2) ns M) fun v=>¬(l+2<=v/\v<4):=by
 intro l d a c i r ns M z p t A e;rw[AW2];by_cases u:stOf (X.cy i)=l+2
 ·obtain⟨o,m,k,B,C⟩:=t6 (by omega) u;have w:=AY2 k;have D:Sy.sign (A38 o)∈keys .JOINED:=AN0.mpr (by rw[←k];omega);refine SimO.op (U:=.COMPARISON) (a':=levelAt f (l+1) d>>=fun b=>Sw.part 5 (X.bg c)>>=fun _=>if l=2 then pure (.bin o a b)else moreAt f l d (X.bg c) (.bin o a b)) rfl rfl k (A89 D) t (fun s g=>A5 (C s g)) ?_;refine SimO.bind (h.levJ (l+1) d (r-1) (i+1) (by omega) (fu p (AB _) w (by omega)) (by omega)) fun b j E L F q g n O G=>?_;obtain⟨P,H,rfl,I,J,K⟩:=q;have y:=Acc.op m B e.R (by unfold lowL;rw[AD (by omega)];exact e.l) e.s e.h k H I J K G;refine SimO.part ?_;rw[AD (by omega)];exact(h.moreJ l d _ c j F _ _ z (fu p (by omega) w) n g y.1).mono (Ag _) (fun _ _ _ _ q=>q.more y.2) fun _ _ _ _ _ q=>q
 ·refine SimO.rest (x:=a) (fun s g=>A5 (AD8 (by omega) u g)) ⟨M,by rw[AE];exact e,AE _⟩ (by omega) t
theorem BM1 (h:Ok X f)(b:∀d r i,1<=r->16*(X.N-i)+11<=f+1->Sim X [O .COMPARISON r (d+1)] (levelAt (f+1) 2 d) i 1 (QL X i 4)):∀l d r i,l<=2->16*(X.N-i)+(13-l)<=f+1->X.N-i<r->SimO X .JOINED (d+1) [O .COMPARISON 1 (d+1),Mn .JOINED r (d+1)] (levelAt (f+1) l d) i 1 (QL X i (l+2)) fun v=>¬(l+2<=v/\v<4):=by
 intro l d r i p t g;by_cases k:l=2
 ·subst k;exact(SimO.unit (gs:=[O .COMPARISON 1 (d+1)]) (b d 1 i (AB _) (by omega)) g).mono (AB _) (fun _ _ _ _ q=>q) fun _ _ _ _ _ _=>by omega
 ·rw[z8,AD (by omega)];refine SimO.congr (fun s c=>A5 c.here) ?_;refine SimO.bind (h.levJ (l+1) d r i (by omega) (by omega) g) fun a j m u n q c e w x=>?_;obtain⟨M,o,rfl⟩:=q.acc;exact(h.moreJ l d a i j n m M (by omega) (by omega) e c (o.mono (by omega))).mono (AB _) (fun _ _ _ _ q=>q.fin) fun _ _ _ _ _ q=>q
noncomputable def BY3 (f d:Nat):P (Ex×Option Ex):=eAt f (d+1)>>=fun i=>takes ",">>=fun c=>if c=true then eAt f (d+1)>>=fun j=>wants "]">>=fun _=>pure (i,some j)else wants "]">>=fun _=>pure (i,none)
noncomputable def BP8 (a:Ex):Ex×Option Ex->Ex
 |(i,none)=>.index a i
 |(i,some j)=>.index2 a i j
theorem BX4 (f d p:Nat)(a:Ex):postAt (f+1) d p a=takes "[">>=fun c=>if c=true then BY3 f d>>=fun x=>Sw.part 7 p>>=fun _=>postAt f d p (BP8 a x)
  else takes "@">>=fun c=>if c=true then sizeAt f (d+1)>>=fun k=>Sw.part 7 p>>=fun _=>postAt f d p (.past a k)else pure a:=by
 conv=>lhs;unfold postAt
 congr 1;funext c;cases c with
 |false=>rfl
 |true=>
  show(eAt f (d+1)>>=_:P Ex)=BY3 f d>>=_;unfold BY3;rw[bind_assoc];congr 1;funext i;rw[bind_assoc];congr 1;funext c;cases c with
  |true=>show(eAt f (d+1)>>=_:P Ex)=(eAt f (d+1)>>=fun j=>wants "]">>=fun _=>pure (i,some j))>>=_;rw[bind_assoc];congr 1;funext j;rw[bind_assoc];rfl
  |false=>show(wants "]">>=_:P Ex)=(wants "]">>=fun _=>pure (i,none))>>=_;rw[bind_assoc];rfl
noncomputable def QI (X:Tx)(i:Nat):Ex×Option Ex->Nat->List Nd->List Part->Prop:=fun x j a d=>∃m,j=m+1/\X.cy m=.sign 30/\d=pts X a/\match x with
 |(e,none)=>∃n,a=[n]/\Rp X (.ex e) [n] (i+1) m
 |(e,some f)=>∃n c b,a=[n,c]/\Rp X (.ex e) [n] (i+1) b/\X.cy b=.sign 25/\Rp X (.ex f) [c] (b+1) m
theorem BQ1 {d i:Nat}{gs:List Fr}(h:Ok X f)(g:i<X.N)(k:16*(X.N-i)+1<=f+1):Sim X [O .E 1 (d+1),Mb .SECOND (d+1),Tm (.sign 30) (d+1)] (BY3 f d) (i+1) 0 (QI X i):=by
 unfold BY3;refine Sim.bind (fs:=[O .E 1 (d+1)]) (h.e (d+1) 1 (i+1) (AB _) (fu k (AB _) g)) fun x j p r q t s=>?_;obtain⟨n,rfl,l,rfl,_⟩:=q;refine Sim.opt (ps:=[o1 .E]) sgk rfl rfl rfl (fun o=>?_) (fun o=>?_)
 ·refine Sim.bind (fs:=[O .E 1 (d+1)]) (gs:=[Tm (.sign 30) (d+1)]) (h.e (d+1) 1 (j+1) (AB _) (fu k (by omega) g)) fun y m p r q u s=>?_;obtain⟨a,rfl,b,rfl,_⟩:=q;refine Sim.want sbc fun c=>?_;refine Sim.ret ⟨m,rfl,c,?_,n,a,j,rfl,l,o,b⟩;show pt X n++(pt X a++[])=pts X [n,a];rw[G9,E3,AE]
 ·refine Sim.want sbc fun c=>?_;refine Sim.ret ⟨j,rfl,c,?_,n,rfl,l⟩;show pt X n++[]=pts X [n];rw[E3,AE]
theorem BU3:pt X (J3 M b)=pt X M++(pts X b.c++[⟨7,X.bg M.i,X.en b.j-X.bg M.i⟩]):=by unfold J3;rw[Z4,G9,An8,AF];rfl
theorem QB.step (d:M.i=i0)(f:b.j=j)(a:b.c.length<=2)(h:QB X i0 (J3 M b) x j' ns ps):QB X i0 M x j' ([b]++ns) (pts X b.c++(⟨7,X.bg i0,X.en j-X.bg i0⟩::ps)):=by obtain⟨g,k,l,m⟩:=h;refine⟨g,?_,l,fun q n=>(AK.mp n).elim (fun e=>by rw[e];exact a) (m q)⟩;show _=pt X (List.foldl J3 (J3 M b) ns);rw[←k,BU3,d,f];simp only[AF,Bs,DA]
theorem BW1 (h:Ok X f):∀d a i0 i r M,X.N-i<r->16*(X.N-i)+1<=f+1->Rp X (.ex a) [M] i0 i->(M.pr=false->12<=M.st)->Sim X [Mn .BEHIND r (d+1)] (postAt (f+1) d (X.bg i0) a) i 0 (QB X i0 M):=by
 intro d a i0 i r M hr hf hR hl;have hM:=hR.at_.1;rw[BX4];by_cases e1:X.cy i=.sign 29
 ·have hi:=AY2 e1;have h1:Sim X ([O .BEHIND r (d+1)]++[Mn .BEHIND (r-1) (d+1)]) ((wants "[">>=fun _=>BY3 f d)>>=fun x=>Sw.part 7 (X.bg i0)>>=fun _=>postAt f d (X.bg i0) (BP8 a x)) i 0 (QB X i0 M):=by
   refine Sim.bind (k1:=1) (Q:=fun x j ns ps=>∃b:Nd,ns=[b]/\b.j=j/\QI X i x j b.c ps) ?_ fun x j ns ps q hj hn=>?_
   ·refine Sim.node (Q':=QI X i) (ps:=[o1 .INDEXES]) (by rw[e1];rfl) rfl (fun q=>nomatch q.1) (by omega) (AB _) ?_ fun y j ns qs q _=>⟨_,rfl,_,rfl,rfl,q⟩;refine Sim.exp (gs:=[]) (ps:=[s1 29,o1 .E,mb .SECOND,s1 30]) (by rw[e1];rfl) rfl rfl (AB _) ?_;exact Sim.want sbo fun _=>BQ1 (gs:=[]) h hi hf
   ·obtain⟨b,rfl,hb,m,rfl,e2,rfl,hx⟩:=q;refine Sim.part ?_;have key:Rp X (.ex (BP8 a x)) [J3 M b] i0 (m+1):=by
     obtain⟨e,o⟩:=x;unfold J3;rw[hM,hb];cases o with
     |none=>obtain⟨n,hc,hn⟩:=hx;rw[hc];exact .index hR e1 hn e2 hl
     |some e'=>obtain⟨n,n',m',hc,hn,e3,hn'⟩:=hx;rw[hc];exact .index2 hR e1 hn e3 hn' e2 hl
    have hb2:b.c.length<=2:=by
     obtain⟨e,o⟩:=x;cases o with
     |none=>obtain⟨n,hc,_⟩:=hx;rw[hc];exact BX _
     |some e'=>obtain⟨n,n',m',hc,_⟩:=hx;rw[hc];exact AB _
    exact(h.post d _ i0 (m+1) (r-1) (J3 M b) (by omega) (fu hf hj hi) key fun _=>AB _).mono (Ag _) fun _ _ _ _ q=>q.step hM hb hb2
  refine Sim.conv (Sim.congr (fun s hA=>?_) h1) fun rest st R hi' hr' ho hE=>W3 hi' (by rw[e1];simp) (O8 (by rw[e1];decide)) hE
  have he:X.cy i=.sign (signNo "["):=by rw[sbo];exact e1
  rw[A5 (K1 hA he),bind_assoc,A5 (X9 hA he)];rfl
 ·refine Sim.congr (fun s hA=>A5 (J1 hA (by rw[sbo];exact e1))) ?_;show Sim X _ (takes "@">>=_) i 0 _;by_cases e2:X.cy i=.sign 26
  ·have hi:=AY2 e2;have h1:Sim X ([O .BEHIND r (d+1)]++[Mn .BEHIND (r-1) (d+1)]) ((wants "@">>=fun _=>sizeAt f (d+1))>>=fun k=>Sw.part 7 (X.bg i0)>>=fun _=>postAt f d (X.bg i0) (.past a k)) i 0 (QB X i0 M):=by
    refine Sim.bind (k1:=1) (Q:=fun x j ns ps=>∃b:Nd,ns=[b]/\b.j=j/\QZ X (i+1) x j b.c ps) ?_ fun x j ns ps q hj hn=>?_
    ·refine Sim.node (Q':=QZ X (i+1)) (ps:=[s1 26,o1 .SIZE]) (by rw[e2];rfl) rfl (fun q=>nomatch q.1) (by omega) (AB _) ?_ fun y j ns qs q _=>⟨_,rfl,_,rfl,rfl,q⟩;exact Sim.want sga fun _=>(h.size (d+1) 1 (i+1) (AB _) (fu hf (AB _) hi)).mono (Ag _) fun _ _ _ _ q=>q
    ·obtain⟨b,rfl,hb,n,hc,hn,rfl⟩:=q;refine Sim.part ?_;have key:Rp X (.ex (.past a x)) [J3 M b] i0 j:=by unfold J3;rw[hM,hb,hc];exact .past hR e2 hn hl
     have e3:pt X n=pts X b.c:=by rw[hc,E3]
     rw[e3];exact(h.post d _ i0 j (r-1) (J3 M b) (by omega) (fu hf hj hi) key fun _=>AB _).mono (Ag _) fun _ _ _ _ q=>q.step hM hb (by rw[hc];exact BX _)
   refine Sim.conv (Sim.congr (fun s hA=>?_) h1) fun rest st R hi' hr' ho hE=>W3 hi' (by rw[e2];simp) (O8 (by rw[e2];decide)) hE
   have he:X.cy i=.sign (signNo "@"):=by rw[sga];exact e2
   rw[A5 (K1 hA he),bind_assoc,A5 (X9 hA he)];rfl
  ·refine Sim.ok (x:=a) (fun s hA=>A5 (J1 hA (by rw[sga];exact e2))) ⟨hR,AE _,hl,fun q hq=>nomatch hq⟩ fun rest st R hi hr' ho hE=>AR4 hi hr' (J6 ?_) hE;intro q;have:X.cy i∈[Sy.sign 29,.sign 26]:=q;simp only[AK,BL,Bw]at this;exact this.elim e1 e2
theorem Bc6 (h:Ok X f)(G:X.N<AF8):∀d r i,1<=r->16*(X.N-i)+3<=f+1->Sim X [O .ONE r d] (oneAt (f+1) d) i 1 (QX X i 11 d):=by
 intro d r i B H;refine Y9 (Y:=.ONE) (BJ6 f d) rfl BO1 (fun q s m=>BF6 m q _ _) fun C D=>?_;have E:¬(c9 (.n .ONE)=true/\128<d):=fun q=>by omega
 obtain⟨t,I⟩:=V2 (M3 C);have J:=M5 I;unfold AL3;refine Sim.here ?_;have g:∀o:Nat,o<3->X.cy i=.sign (a9 o)->Sim X [O .ONE r d] (O7>>=fun o=>match o with
  |some o=>oneAt f (d+1)>>=fun a=>Sw.part 6 (X.bg i)>>=fun _=>pure (.one o a)
  |none=>atomAt f (d+1)>>=fun a=>postAt f d (X.bg i) a) i 1 (QX X i 11 d):=by
  intro o v p;have A:P3 .ONE (X.cy i)=some [s1 (a9 o),o1 .ONE]:=by rw[p];exact(by decide:∀o,o<3->P3 .ONE (.sign (a9 o))=some [s1 (a9 o),o1 .ONE]) o v
  refine Sim.node (Q':=fun x j b u=>∃a n,x=.one o a/\b=[n]/\Rp X (.ex a) [n] (i+1) j/\(n.pr=false->11<=n.st)/\u=pt X n++own X .SIGNED i j) A rfl E B (AB _) ?_ ?_
  ·refine Sim.adv (a':=oneAt f (d+1)>>=fun a=>Sw.part 6 (X.bg i)>>=fun _=>pure (.one o a)) p ⟨by simp,by simp⟩ (AB _) (fun s m=>A5 (Au2 m v p)) ?_;refine Sim.bind (fs:=[O .ONE 1 (d+1)]) (gs:=[]) (h.one (d+1) 1 (i+1) (AB _) (fu H (AB _) J)) fun a j b F q K L=>?_;obtain⟨n,rfl,k,rfl,l,_⟩:=q;exact Sim.part (Sim.ret ⟨a,n,rfl,rfl,k,l,rfl⟩)
  ·rintro y j b u ⟨a,n,rfl,rfl,k,l,rfl⟩ _;refine⟨_,?_,_,rfl,.one v p k l,?_,fun _=>AB _,D⟩
   ·show Ai4 X.cy ⟨.n .ONE,i,[n]⟩ j=_;refine AL ?_;show X.cy i=_∨X.cy i=_∨X.cy i=_;rw[p];exact(by decide:∀o,o<3->Sy.sign (a9 o)=.sign 10∨Sy.sign (a9 o)=.sign 17∨Sy.sign (a9 o)=.sign 18) o v
   ·rw[Z4,E3,An8]
 by_cases w:X.cy i=.sign 10
 ·exact g 0 (by decide) w
 by_cases e:X.cy i=.sign 17
 ·exact g 1 (by decide) e
 by_cases z:X.cy i=.sign 18
 ·exact g 2 (by decide) z
 refine Sim.congr (fun s m=>A5 (AI0 m w e z)) ?_;have M:X.cy i∈keys .ATOM:=by
  have:∀y∈keys .ONE,y∈keys .ATOM∨y=.sign 10∨y=.sign 17∨y=.sign 18:=by decide
  rcases this _ C with q |q |q |q
  ·exact q
  ·exact(w q).elim
  ·exact(e q).elim
  ·exact(z q).elim
 have A:P3 .ONE (X.cy i)=some [o1 .ATOM,mn .BEHIND AF8]:=(by decide:∀y∈keys .ATOM,P3 .ONE y=some [o1 .ATOM,mn .BEHIND AF8]) _ M;refine Sim.node (Q':=fun x j b u=>∃n r,b=n::r/\Rp X (.ex x) [r.foldl J3 n] i j/\u=pt X (r.foldl J3 n)/\((r.foldl J3 n).pr=false->12<=(r.foldl J3 n).st)/\∀q∈r,q.c.length<=2) A rfl E B (AB _) ?_ ?_
 ·refine Sim.bind (fs:=[O .ATOM 1 (d+1)]) (gs:=[Mn .BEHIND AF8 (d+1)]) (h.atom (d+1) 1 i (AB _) (by omega)) fun a j b F q K L=>?_;obtain⟨n,rfl,k,rfl,l,_⟩:=q;exact(h.post d a i j AF8 n (by omega) (by omega) k l).mono (AB _) fun x S b F q=>⟨n,b,rfl,q.1,q.2.1,q.2.2.1,q.2.2.2⟩
 ·rintro y j b u ⟨n,P,rfl,k,rfl,l,Q⟩ _;refine⟨_,?_,_,rfl,k,rfl,fun q=>?_,D⟩
  ·show Ai4 X.cy ⟨.n .ONE,i,n::P⟩ j=_;refine(AD (fun q=>q.elim w fun q=>q.elim e z)).trans (AL ?_);exact BO.mpr fun q R=>AR (Q q R)
  ·have:=l q;omega
noncomputable def AM5 (f d:Nat):Unit->P Ex:=fun _=>here>>=fun p=>peek>>=fun x=>match x with
  |some ⟨_,_,.num n⟩=>next>>=fun _=>Sw.part 8 p>>=fun _=>pure (.num n)
  |some ⟨_,_,.name s⟩=>next>>=fun _=>takes "(">>=fun c=>if c=true then argsAt f (d+1) 0>>=fun l=>Sw.part 7 p>>=fun _=>pure (.call s l)else Sw.part 8 p>>=fun _=>pure (.name s)
  |some ⟨_,_,.sign _⟩=>inParens f (d+1)>>=fun e=>Sw.part 7 p>>=fun _=>pure e
  |some ⟨_,_,.kept k⟩=>
   if k=keptNo "held"∨k=keptNo "wrapped" then next>>=fun _=>wantsCode>>=fun c=>inParens f (d+1)>>=fun e=>Sw.part 7 p>>=fun _=>pure (if k=keptNo "held" then .held c e else .wrapped c e)
   else if k=keptNo "abs" then next>>=fun _=>inParens f (d+1)>>=fun e=>Sw.part 7 p>>=fun _=>pure (.abs e)
   else if k=keptNo "round"∨k=keptNo "min"∨k=keptNo "max" then next>>=fun _=>twoIn f (d+1)>>=fun x=>Sw.part 7 p>>=fun _=>pure (if k=keptNo "round" then .round x.1 x.2 else if k=keptNo "min" then .min x.1 x.2 else .max x.1 x.2)
   else stray
  |none=>stray
theorem BP7 (f d:Nat):atomAt (f+1) d=notDeep d beginsAtom>>=AM5 f d:=by
 conv=>lhs;unfold atomAt
 unfold AM5;congr 1
noncomputable def QA (X:Tx)(i:Nat):Ex->Nat->List Nd->List Part->Prop:=fun x j c a=>∃n,fin X.cy X.N ⟨.n .ATOM,i,c⟩ j=some n/\Rp X (.ex x) [n] i j/\a=pt X n/\(n.pr=false->12<=n.st)
theorem BS0 (h:Ok X f):∀d r i,1<=r->16*(X.N-i)+2<=f+1->Sim X [O .ATOM r d] (atomAt (f+1) d) i 1 (QX X i 12 d):=by
 intro d r i W hf;refine Y9 (Y:=.ATOM) (BP7 f d) rfl As4 (fun q s D=>Ax6 D q _ _) fun F Z=>?_;have ND:¬(c9 (.n .ATOM)=true/\128<d):=fun q=>by omega
 obtain⟨t,e⟩:=V2 (M3 F);have hi:=M5 e;have H:16*(X.N-(i+1))+1<=f:=by omega
 obtain⟨z,o⟩:=BU.mp (show(P3 .ATOM (X.cy i)).isSome=true from O8 F);refine Sim.node (Q':=QA X i) o rfl ND W (AB _) ?_ fun y j G qs q _=>let ⟨n,q1,q2,q3,q4⟩:=q;⟨n,q1,n,rfl,q2,q3,q4,Z⟩;unfold AM5;refine Sim.here (Sim.peek ?_);obtain⟨I,_,R,_⟩:=F9 e;obtain⟨p0,l0,k⟩:=t;rw[e];have b:∀{j:Nat} {c:List Nd},X.cy i≠.sign 27->i+1<j->fin X.cy X.N ⟨.n .ATOM,i,c⟩ j=some (atm i j false 12 c)/\pt X (atm i j false 12 c)=pts X c++[⟨7,X.bg i,X.en j-X.bg i⟩]:=fun a A=>⟨Ao4 (l:=0) a A,by rw[Z4,Bw1 X A]⟩;cases k with
 |num v=>have a:X.cy i=.number:=I;rw[a]at o;cases o;refine Sim.adv (a':=Sw.part 8 (X.bg i)>>=fun _=>pure (Ex.num v)) a ⟨by simp,by simp⟩ (AB _) (fun s D=>A5 (P9 s)) (Sim.part (Sim.ret ⟨_,g0 (l:=0) (by rw[a];simp),.num R,?_,fun _=>(by show 12<=13;decide)⟩));rw[Z4,F8,Bv9];rfl
 |name v=>
  have a:X.cy i=.name:=I;rw[a]at o;cases o;refine Sim.adv (a':=takes "(">>=fun c=>if c=true then argsAt f (d+1) 0>>=fun l=>Sw.part 7 (X.bg i)>>=fun _=>pure (Ex.call v l)else Sw.part 8 (X.bg i)>>=fun _=>pure (Ex.name v)) a ⟨by simp,by simp⟩ (AB _) (fun s D=>A5 (P9 s)) ?_;refine Sim.opt (ps:=[o1 .E,mr .E 255,s1 28]) (gs:=[]) sgo rfl rfl rfl (fun J=>?_) (fun J=>?_)
  ·refine Sim.bind (gs:=[]) (h.args (d+1) 0 1 (i+2) (.inr ⟨rfl,AB _⟩) (fun q=>(q rfl).elim) (by omega)) fun l j G z q A P=>?_;obtain⟨m,rfl,_,g,u,rfl⟩:=q;have w:=g.lt;have p:=b (j:=m+1) (c:=G) (by rw[a];simp) (by omega);refine Sim.part (Sim.ret ⟨_,?_,.call R J g u,p.2.symm,fun _=>AB _⟩);rw[AE];exact p.1
  ·refine Sim.part (Sim.ret ⟨_,g0 (l:=0) (by rw[a];simp),.name R,?_,fun _=>(by show 12<=13;decide)⟩);rw[Z4,F8,Bv9];rfl
 |sign k=>
  have U:k=27:=by rw[I]at F;have:Sy.sign k∈keys .ATOM:=F;simpa [keys,row]using this
  subst U;have a:X.cy i=.sign 27:=I;rw[a]at o;cases o;refine Sim.bind (gs:=[]) (h.par (d+1) i (by omega)) fun x j G z q A P=>?_;obtain⟨n,m,rfl,rfl,g,rfl,J,u⟩:=q;have w:=g.lt;refine Sim.part (Sim.ret ⟨_,AR2 a,.par a g u,?_,fun q=>nomatch q⟩);show _=pt X (atm i (m+1) true n.st [n]);rw[Z4,E3,Bw1 X (by omega)]
 |kept k=>
  have a:X.cy i=.kept k:=I;have B:X.cy i≠.sign 27:=by rw[a];simp
  rw[a]at F o;have U:k=6∨k=17∨k=0∨k=11∨k=9∨k=8:=by have:Sy.kept k∈keys .ATOM:=F;simp[keys,row]at this;omega
  show Sim X _ (if k=keptNo "held"∨k=keptNo "wrapped" then _ else if k=keptNo "abs" then _ else if k=keptNo "round"∨k=keptNo "min"∨k=keptNo "max" then _ else stray) i 1 _;rw[show keptNo "held"=6 by decide,show keptNo "wrapped"=17 by decide,show keptNo "abs"=0 by decide,show keptNo "round"=11 by decide,show keptNo "min"=9 by decide,show keptNo "max"=8 by decide];by_cases Q:k=6∨k=17
  ·rw[AL Q];have C:z=[k1 k,o1 .CODE,s1 27,o1 .E,s1 28]:=by rcases Q with rfl |rfl<;>(cases o;rfl)
   subst C;refine Sim.adv (a':=wantsCode>>=fun c=>inParens f (d+1)>>=fun e=>Sw.part 7 (X.bg i)>>=fun _=>pure (if k=6 then Ex.held c e else .wrapped c e)) a ⟨by simp,by simp⟩ (AB _) (fun s D=>A5 (P9 s)) ?_;refine Sim.code fun m J hm=>?_;refine Sim.bind (gs:=[]) (h.par (d+1) (i+2) (by omega)) fun x j G z q A P=>?_;obtain⟨n,K,rfl,rfl,g,rfl,u,L⟩:=q;have w:=g.lt;have p:=b (j:=K+1) (c:=[n]) B (by omega);exact Sim.part (Sim.ret ⟨_,p.1,.hw Q hm a J u g L,by rw[p.2,E3],fun _=>AB _⟩)
  rw[AD Q];by_cases S:k=0
  ·rw[AL S];subst S;cases o;refine Sim.adv (a':=inParens f (d+1)>>=fun e=>Sw.part 7 (X.bg i)>>=fun _=>pure (Ex.abs e)) a ⟨by simp,by simp⟩ (AB _) (fun s D=>A5 (P9 s)) ?_;refine Sim.bind (gs:=[]) (h.par (d+1) (i+1) H) fun x j G z q A P=>?_;obtain⟨n,K,rfl,rfl,g,rfl,u,L⟩:=q;have w:=g.lt;have p:=b (j:=K+1) (c:=[n]) B (by omega);exact Sim.part (Sim.ret ⟨_,p.1,.abs a u g L,by rw[p.2,E3],fun _=>AB _⟩)
  rw[AD S];have T:k=11∨k=9∨k=8:=by omega
  rw[AL T];have C:z=[k1 k,s1 27,o1 .E,s1 25,o1 .E,s1 28]:=by rcases T with rfl |rfl |rfl<;>(cases o;rfl)
  subst C;refine Sim.adv (a':=twoIn f (d+1)>>=fun x=>Sw.part 7 (X.bg i)>>=fun _=>pure (two k x.1 x.2)) a ⟨by simp,by simp⟩ (AB _) (fun s D=>A5 (P9 s)) ?_;refine Sim.bind (gs:=[]) (h.two (d+1) (i+1) H) fun x j G z q A P=>?_;obtain⟨n,n',m,K,rfl,rfl,g,M,rfl,u,L,e4⟩:=q;have w:=g.lt;have V:=M.lt;have p:=b (j:=K+1) (c:=[n,n']) B (by omega);exact Sim.part (Sim.ret ⟨_,p.1,.two T a u g L M e4,by rw[p.2,G9,E3],fun _=>AB _⟩)
theorem Bc4 (h:Ok X f)(a:X.N<AF8)(b:X.cy i∈keys .ONE)(l:16*(X.N-i)+13<=f):Sim X [O .OR 1 (d+1)] (levelAt f 0 d) i 1 (QX X i 2 0):=by
 refine Sim.node (Q':=QL X i 2) (Bo3 b).1 rfl (fun q=>nomatch q.1) (AB _) (AB _) ?_ ?_
 ·exact(h.levJ 0 d AF8 i (by omega) (by omega) (by omega)).close fun y q z=>q (AN0.mp z)
 ·rintro y j m n ⟨M,c,e,g,k,o⟩ _;exact⟨M,k.fin,M,rfl,c,e,g,Ag _⟩
noncomputable def QU (X:Tx)(i:Nat):Ex->Nat->List Nd->List Part->Prop:=fun x j c a=>∃n,fin X.cy X.N ⟨.n .E,i,c⟩ j=some n/\Rp X (.ex x) [n] i j/\a=pt X n
theorem A00 (a:X.cy i=.kept k)(b:k=15∨k=12∨k=13):fin X.cy X.N ⟨.n .E,i,c⟩ j=some (.mk .SUM i j false 0 0 c):=by
 show Bn7 X.cy ⟨.n .E,i,c⟩ j=_;refine AL ?_;show X.cy i=_∨X.cy i=_∨X.cy i=_;rw[a];rcases b with rfl |rfl |rfl
 ·exact .inl rfl
 ·exact .inr (.inl rfl)
 ·exact .inr (.inr rfl)
theorem B01 (h:Ok X f)(M:X.N<AF8):∀d r i,1<=r->16*(X.N-i)+14<=f+1->Sim X [O .E r d] (eAt (f+1) d) i 1 (QX X i 0 d):=by
 intro d r i hr hf;refine Y9 (Y:=.E) (Bx2 f d) rfl b_e (fun q s o=>B02 o q _ _) fun Q hd=>?_;have ND:¬(c9 (.n .E)=true/\128<d):=fun q=>by omega
 obtain⟨t,et⟩:=V2 (M3 Q);have hi:=M5 et;obtain⟨p,u⟩:=BU.mp (show(P3 .E (X.cy i)).isSome=true from O8 Q);refine Sim.node (Q':=QU X i) u rfl ND hr (AB _) ?_ fun y j B qs q _=>let ⟨n,G,H,I⟩:=q;⟨n,G,n,rfl,H,I,fun _=>Ag _,hd⟩;unfold A93;refine Sim.here ?_;have w1:keptNo "sum"=15:=by decide
 have w2:keptNo "row"=12:=by decide
 have w3:keptNo "sheet"=13:=by decide
 have v:∀(k:Nat) (g:Bytes×Ex×Ex->Ex) (a:P Ex),(k=15∨k=12)->(∀x,g x=ovr k x.1 x.2.1 x.2.2)->X.cy i=.kept k->p=[k1 k,nm,s1 19,o1 .SIZE,s1 23,o1 .E]->(∀s,At X s i->a s=(overAt f (d+1)>>=fun x=>Sw.part 5 (X.bg i)>>=fun _=>pure (g x)) (adv s))->Sim X (p.map (fr (d+1))) a i 1 (QU X i):=by
  intro k g a hk hg R hp ha;subst hp;refine Sim.adv R ⟨by simp,by simp⟩ (AB _) ha ?_;refine Sim.bind (gs:=[]) (h.over (d+1) (i+1) (by omega)) fun x j B p q hj hn=>?_;obtain⟨n,J,m,rfl,G,H,I,S,T,rfl⟩:=q;refine Sim.part (Sim.ret ⟨_,A00 R (by omega),?_,?_⟩)
  ·rw[hg];exact .ovr hk R G H I S T
  ·show _=pt X (.mk .SUM i j false 0 0 [n,J]);rw[Z4,G9,E3];rfl
 by_cases D:X.cy i=.kept 15
 ·have l:p=[k1 15,nm,s1 19,o1 .SIZE,s1 23,o1 .E]:=by rw[D]at u;cases u;rfl
  exact v 15 _ _ (.inl rfl) (fun x=>rfl) D l fun s o=>A5 (U3 o (by rw[w1];exact D))
 refine Sim.congr (fun s o=>A5 (R8 o (by rw[w1];exact D))) ?_;show Sim X _ (takesWord "row">>=_) i 1 _;by_cases F:X.cy i=.kept 12
 ·have l:p=[k1 12,nm,s1 19,o1 .SIZE,s1 23,o1 .E]:=by rw[F]at u;cases u;rfl
  exact v 12 _ _ (.inr rfl) (fun x=>rfl) F l fun s o=>A5 (U3 o (by rw[w2];exact F))
 refine Sim.congr (fun s o=>A5 (R8 o (by rw[w2];exact F))) ?_;show Sim X _ (takesWord "sheet">>=_) i 1 _;by_cases w:X.cy i=.kept 13
 ·have l:p=[k1 13,nm,s1 25,nm,s1 19,o1 .SIZE,s1 25,o1 .SIZE,s1 23,o1 .E]:=by rw[w]at u;cases u;rfl
  subst l;refine Sim.adv w ⟨by simp,by simp⟩ (AB _) (fun s o=>A5 (U3 o (by rw[w3];exact w))) ?_;refine Sim.name (AB _) fun b G=>?_;refine Sim.want sgk fun H=>?_;refine Sim.name (AB _) fun b' I=>?_;refine Sim.want sgl fun S=>?_;refine Sim.bind (fs:=[O .SIZE 1 (d+1)]) (h.size (d+1) 1 (i+5) (AB _) (by omega)) fun x j B p q hj hn=>?_;obtain⟨n,rfl,L,rfl⟩:=q;refine Sim.want sgk fun T=>?_;refine Sim.bind (fs:=[O .SIZE 1 (d+1)]) (h.size (d+1) 1 (j+1) (AB _) (by omega)) fun y m B p q hm U=>?_;obtain⟨J,rfl,V,rfl⟩:=q;refine Sim.want sgd fun q6=>?_;refine Sim.bind (fs:=[O .E 1 (d+1)]) (gs:=[]) (h.e (d+1) 1 (m+1) (AB _) (by omega)) fun z W B p q Z K=>?_;obtain⟨C,rfl,r3,rfl,_⟩:=q;refine Sim.part (Sim.ret ⟨_,A00 w (by omega),.sheet w G H I S L T V q6 r3,?_⟩);show _=pt X (.mk .SUM i W false 0 0 [n,J,C]);rw[Z4,G9,G9,E3];simp only[AF];rfl
 refine Sim.congr (fun s o=>A5 (R8 o (by rw[w3];exact w))) ?_;have ho:X.cy i∈keys .ONE:=by
  have:∀y∈keys .E,y∈keys .ONE∨y=.kept 15∨y=.kept 12∨y=.kept 13:=by decide
  rcases this _ Q with q |q |q |q
  ·exact q
  ·exact(D q).elim
  ·exact(F q).elim
  ·exact(w q).elim
 have l:p=[o1 .OR,mb .CHOICE]:=by rw[(Bo3 ho).2.2.2]at u;cases u;rfl
 subst l;have A:¬(X.cy i=.kept 15∨X.cy i=.kept 12∨X.cy i=.kept 13):=fun q=>q.elim D fun q=>q.elim F w;refine Sim.bind (fs:=[O .OR 1 (d+1)]) (gs:=[Mb .CHOICE (d+1)]) (Bc4 h M ho (by omega)) fun c j B p q hj hn=>?_;obtain⟨n,rfl,L,rfl,hl,_⟩:=q;refine Sim.opt (ps:=[o1 .E,s1 23,o1 .E]) (gs:=[]) sgq rfl rfl rfl (fun e1=>?_) (fun e1=>?_)
 ·refine Sim.bind (fs:=[O .E 1 (d+1)]) (gs:=[Tm (.sign 23) (d+1),O .E 1 (d+1)]) (h.e (d+1) 1 (j+1) (AB _) (by omega)) fun x m B p q hm U=>?_;obtain⟨J,rfl,V,rfl,_⟩:=q;refine Sim.want sgd fun e2=>?_;refine Sim.bind (fs:=[O .E 1 (d+1)]) (gs:=[]) (h.e (d+1) 1 (m+1) (AB _) (by omega)) fun y W B p q Z K=>?_;obtain⟨C,rfl,r3,rfl,_⟩:=q;refine Sim.part (Sim.ret ⟨.mk .CHOICE i W false 1 0 [n.setLe 2,J,C],AD A,.choice L e1 V e2 r3 hl,?_⟩);rw[Z4,G9,G9,E3,An8];simp only[AF];rfl
 ·exact Sim.ret ⟨n,AD A,L,AE _⟩
theorem BQ3 (X:Tx):Ok X 0:=by refine⟨?_,?_,?_,?_,?_,?_,?_,?_,?_,?_,?_,?_,?_,?_,?_⟩<;>(intros;omega)
theorem Ab6 (a:X.N<AF8):∀f,Ok X f
 |0=>BQ3 X
 |f+1=>by have h:=Ab6 a f;exact⟨B01 h a,BV7 h,A97 h,BM9 h,A28 h a,A98 h a,BM1 h (A28 h a),BE4 h,Bc6 h a,BW1 h,BK0 h,Bb2 h,Bd3 h,BS0 h,BM3 h h.e⟩
end
inductive It where
 |nm (b:Bytes) |kw (k:Nat) |sg (k:Nat) |ob (o:Ob) |nd (x:Nt) (l:List It)
inductive SR (X:Tx):List It->List Nd->Nat->Nat->Prop where
 |nil {i:Nat}:SR X [] [] i i
 |nm {b:Bytes} {r:List It} {ns:List Nd} {i j:Nat}:X.tk i=some (.name b)->SR X r ns (i+1) j->SR X (.nm b::r) ns i j
 |kw {k:Nat} {r:List It} {ns:List Nd} {i j:Nat}:X.cy i=.kept k->SR X r ns (i+1) j->SR X (.kw k::r) ns i j
 |sg {k:Nat} {r:List It} {ns:List Nd} {i j:Nat}:X.cy i=.sign k->SR X r ns (i+1) j->SR X (.sg k::r) ns i j
 |ob {o:Ob} {r:List It} {ns ms:List Nd} {i m j:Nat}:Rp X o ns i m->SR X r ms m j->SR X (.ob o::r) (ns++ms) i j
 |nd {x:Nt} {l r:List It} {ns ms:List Nd} {i m j:Nat}:SR X l ns i m->i<m->SR X r ms m j->SR X (.nd x l::r) (.mk (.n x) i m false 13 0 ns::ms) i j
section
variable {X:Tx} {F:Nat}
theorem SR.app (h:SR X l ns i m)(h':SR X r ms m j):SR X (l++r) (ns++ms) i j:=by
 induction h with
 |nil=>exact h'
 |nm e _ a=>exact .nm e (a h')
 |kw e _ a=>exact .kw e (a h')
 |sg e _ a=>exact .sg e (a h')
 |ob e _ a=>rw[AF];exact .ob e (a h')
 |nd e b _ _ a=>exact .nd e b (a h')
theorem SR.one {o:Ob}{ns:List Nd}{i j:Nat}(h:Rp X o ns i j):SR X [.ob o] ns i j:=by have:=SR.ob h .nil;rw[AE]at this;exact this
noncomputable def u0 (k:KindEx):List It:=.kw (18+k.code)::(match k.w,k.h with
 |some w,some h=>[.sg 29,.ob (.ex w),.sg 25,.ob (.ex h),.sg 30]
 |some w,none=>[.sg 29,.ob (.ex w),.sg 30]
 |none,_=>[])
noncomputable def AZ6:Option Ex->List It
 |none=>[]
 |some e=>[.sg 12,.ob (.sz e)]
noncomputable def AH2 (p:Port):List It:=.nm p.name::.sg 23::(u0 p.kind++AZ6 p.per)
noncomputable def Aj1 (p:EndPort):List It:=.nm p.name::.sg 23::(u0 p.kind++(.kw 1::.ob (.sz p.num)::AZ6 p.den))
noncomputable def Z6:List (List It)->List It
 |[]=>[]
 |[x]=>x
 |x::y::l=>x++(.sg 25::Z6 (y::l))
noncomputable def R5 (l:List Bytes):List It:=Z6 (l.map fun b=>[.nm b])
noncomputable def U4 (s:StateDecl):List It:=.kw 14::.nm s.name::.sg 23::(u0 s.kind++[.sg 21,.ob (.ex s.init),.sg 24])
noncomputable def Aq8:Do->List It
 |.bind s e=>[.kw 7,.nm s,.sg 21,.ob (.ex e),.sg 24]
 |.put s none e=>[.nm s,.sg 21,.ob (.ex e),.sg 24]
 |.put s (some i) e=>[.nm s,.sg 29,.ob (.ex i),.sg 30,.sg 21,.ob (.ex e),.sg 24]
noncomputable def O3:Wire->List It
 |.node [] _ _=>[.sg 0,.ob (.ar [])]
 |.node (s::o) f i=>R5 (s::o)++(.sg 21::.nm f::.sg 27::(R5 i++[.sg 28,.sg 24]))
 |.delay s n v x=>[.nm s,.sg 21,.kw 3,.ob (.sz n),.sg 27,.ob (.ex v),.sg 28,.sg 27,.nm x,.sg 28,.sg 24]
 |.same s x=>[.nm s,.sg 21,.nm x,.sg 24]
noncomputable def AD0 (l:List Port):List It:=Z6 (l.map fun p=>[.nd .PORT (AH2 p)])
noncomputable def AQ8 (l:List EndPort):List It:=Z6 (l.map fun p=>[.nd .END (Aj1 p)])
noncomputable def J8:Decl->List It
 |.const s e=>[.kw 2,.nm s,.sg 21,.ob (.ex e),.sg 24]
 |.table s c l=>[.kw 16,.nm s,.sg 23,.kw (18+c),.sg 21,.sg 29,.ob (.ar l),.sg 30,.sg 24]
 |.fn s a e=>.kw 4::.nm s::.sg 27::(R5 a++[.sg 28,.sg 21,.ob (.ex e),.sg 24])
 |.node s i o b f=>.kw 10::.nm s::.sg 27::(AD0 i++(.sg 28::.sg 0::.sg 27::(AD0 o++(.sg 28::.sg 31::(b.map (fun s=>.nd .STATE (U4 s))++(f.map (fun d=>.nd .DO (Aq8 d))++[.sg 32]))))))
 |.graph s i o g=>.kw 5::.nm s::.sg 27::(AQ8 i++(.sg 28::.sg 0::.sg 27::(AQ8 o++(.sg 28::.sg 31::(g.map (fun w=>.nd .WIRE (O3 w))++[.sg 32])))))
noncomputable def l8 (P:Prog):List It:=P.map fun d=>.nd .DECL (J8 d)
noncomputable def QT {a:Type}(X:Tx)(c:a->List It)(i:Nat):a->Nat->List Nd->List Part->Prop:=fun y j b d=>SR X (c y) b i j/\d=pts X b
noncomputable def QW {a:Type}(X:Tx)(x:Nt)(c:a->List It)(i:Nat):a->Nat->List Nd->List Part->Prop:=fun y j b d=>SR X (c y) b i j/\d=pts X b++own X (.n x) i j
noncomputable def plain (x:Nt):Bool:=!decide (x=.E∨x=.OR∨x=.ONE∨x=.ATOM∨x=.SIZE)
theorem At4 (a:plain x=true):fin X.cy X.N ⟨.n x,i,ns⟩ j=some (.mk (.n x) i j false 13 0 ns):=by cases x<;>first |rfl |cases a
theorem Sim.nodeT (c:P3 x (X.cy i)=some ps)(b:plain x=true/\V1 x=true/\c9 (.n x)=false)(d:1<=r)(f:1<=k)(g:Sim X (ps.map (fr 0)) a i k (QW X x it i)):Sim X [O x r 0] a i k (QT X (fun y=>[.nd x (it y)]) i):=by
 have e:dps x 0=0:=by unfold dps;rw[b.2.2];rfl
 refine Sim.node (Q':=QW X x it i) c b.2.1 (by rw[b.2.2];simp) d f (by rw[e];exact g) fun y j l m q h=>⟨_,At4 b.1,.nd q.1 h .nil,?_⟩;rw[q.2,E3,Z4]
def Enf (X:Tx)(F i:Nat):Prop:=16*(X.N-i)+14<=F/\X.N<AF8
theorem Enf.less (h:Enf X F i)(a:i<=j):Enf X F j:=⟨by have:=h.1;omega,h.2⟩
theorem AK5 (h:Enf X F i)(a:1<=r):Sim X [O .E r d] (eAt F d) i 1 (QX X i 0 d):=(Ab6 h.2 F).e d r i a h.1
theorem AL4 (h:Enf X F i)(a:1<=r):Sim X [O .SIZE r d] (sizeAt F d) i 1 (QZ X i):=(Ab6 h.2 F).size d r i a (by have:=h.1;omega)
theorem sgs:signNo "/"=12:=by decide
theorem sge:signNo "="=21:=by decide
theorem sgm:signNo ";"=24:=by decide
theorem sgw:signNo "->"=0:=by decide
theorem sco:signNo "{"=31:=by decide
theorem scc:signNo "}"=32:=by decide
theorem Ax8 (h:Enf X F i):Sim X [Mb .DIVISOR 0] (optionSize F) i 0 (QT X AZ6 i):=by unfold optionSize;refine Sim.opt (ps:=[o1 .SIZE]) (gs:=[]) sgs rfl rfl rfl (fun a=>?_) (fun _=>Sim.ret ⟨.nil,(F8 X).symm⟩);refine Sim.bind (fs:=[O .SIZE 1 0]) (gs:=[]) (AL4 (h.less (BX _)) (AB _)) fun x j c d q e f=>?_;obtain⟨n,rfl,b,rfl⟩:=q;exact Sim.ret ⟨.sg a (.one b),by show pt X n++[]=pts X [n];rw[E3,AE]⟩
theorem AO0 (h:Enf X F i):Sim X [O .KIND 1 0] (kindAt F) i 1 (QT X u0 i):=by
 unfold kindAt;rcases AH8 X i with ⟨m,e,hm⟩ |e
 ·refine Sim.exp (gs:=[]) (ps:=[o1 .CODE,mb .INDEXES]) (by rw[e];exact(BI9 hm).2) rfl rfl (AB _) ?_;refine Sim.code fun c e0 hc=>?_;refine Sim.opt (ps:=[o1 .E,mb .SECOND,s1 30]) (gs:=[]) sbo rfl rfl rfl (fun e1=>?_) (fun _=>Sim.ret ⟨.kw e0 .nil,(F8 X).symm⟩);refine Sim.bind (fs:=[O .E 1 0]) (gs:=[Mb .SECOND 0,Tm (.sign 30) 0]) (AK5 (h.less (j:=i+1+1) (by omega)) (AB _)) fun w j ns ps q hj hn=>?_;obtain⟨n,rfl,hR,rfl,_⟩:=q;refine Sim.opt (ps:=[o1 .E]) (gs:=[Tm (.sign 30) 0]) sgk rfl rfl rfl (fun e2=>?_) (fun e2=>?_)
  ·refine Sim.bind (fs:=[O .E 1 0]) (gs:=[Tm (.sign 30) 0]) (AK5 (h.less (j:=j+1) (by omega)) (AB _)) fun hh m' ns ps q hm' hn'=>?_;obtain⟨n',rfl,hR',rfl,_⟩:=q;refine Sim.want sbc fun e3=>Sim.ret ⟨.kw e0 (.sg e1 (.ob hR (.sg e2 (.ob hR' (.sg e3 .nil))))),?_⟩;show pt X n++(pt X n'++[])=pts X [n,n'];rw[G9,E3,AE]
  ·refine Sim.want sbc fun e3=>Sim.ret ⟨.kw e0 (.sg e1 (.ob hR (.sg e3 .nil))),?_⟩;show pt X n++[]=pts X [n];rw[E3,AE]
 ·exact Sim.stray rfl (J6 (AQ3 (.inr rfl) e)) fun s hA=>C2 hA (As6 hA e)
theorem U0 (a:x=.PORT∨x=.END∨x=.WIRE)(h:y≠.name):B8 (.n x) y=false:=by refine J6 fun q=>h ?_;rcases a with rfl |rfl |rfl<;>exact AN.mp q
theorem A66 (c:1<=r)(h:Enf X F i):Sim X [O .PORT r 0] (portAt F) i 1 (QT X (fun y=>[.nd .PORT (AH2 y)]) i):=by
 unfold portAt;by_cases e:X.cy i=.name
 ·refine Sim.nodeT (ps:=[nm,s1 23,o1 .KIND,mb .DIVISOR]) (by rw[e];rfl) ⟨rfl,rfl,rfl⟩ c (AB _) (Sim.here ?_);refine Sim.name (AB _) fun b d=>Sim.want sgd fun f=>?_;refine Sim.bind (fs:=[O .KIND 1 0]) (AO0 (h.less (j:=i+1+1) (by omega))) fun k j u g q v w=>?_;obtain⟨l,rfl⟩:=q;refine Sim.bind (fs:=[Mb .DIVISOR 0]) (gs:=[]) (Ax8 (h.less (j:=j) (by omega))) fun n x m g q o p=>?_;obtain⟨t,rfl⟩:=q;refine Sim.part (Sim.ret ⟨?_,?_⟩)
  ·rw[AE];exact .nm d (.sg f (l.app t))
  ·rw[AE,M4,AF];rfl
 ·exact Sim.stray rfl (U0 (.inl rfl) e) fun s a=>by rw[A5 a.here];exact C2 a (r4 a e)
theorem Bh2 (h:X.cy i=.kept 1->Sim X fs (c ()) (i+1) (k-1) Q):Sim X (Tm (.kept 1) 0::fs) ((takesWord "at">>=fun c=>if c=true then pure ()else stray:P Unit)>>=c) i k Q:=by
 have b:keptNo "at"=1:=by decide
 by_cases e:X.cy i=.kept 1
 ·refine Sim.adv e ⟨by simp,by simp⟩ (AB _) (fun s a=>?_) (h e);refine A5 ?_;rw[A5 (U3 a (by rw[b];exact e))];rfl
 ·refine Sim.stray rfl (Au9 e) fun s a=>C2 a ?_;rw[A5 (R8 a (by rw[b];exact e))];rfl
theorem Be2:endAt F=here>>=fun p=>wantsName>>=fun x=>wants ":">>=fun _=>kindAt F>>=fun k=>(takesWord "at">>=fun c=>if c=true then pure ()else stray:P Unit)>>=fun _=>sizeAt F 0>>=fun n=>optionSize F>>=fun d=>Sw.part 1 p>>=fun _=>pure ⟨x,k,n,d⟩:=by unfold endAt;congr 1;funext p;congr 1;funext x;congr 1;funext _;congr 1;funext k;rw[bind_assoc];congr 1;funext c;cases c<;>rfl
theorem BQ9 (d:1<=r)(h:Enf X F i):Sim X [O .END r 0] (endAt F) i 1 (QT X (fun y=>[.nd .END (Aj1 y)]) i):=by
 rw[Be2];by_cases e:X.cy i=.name
 ·refine Sim.nodeT (ps:=[nm,s1 23,o1 .KIND,k1 1,o1 .SIZE,mb .DIVISOR]) (by rw[e];rfl) ⟨rfl,rfl,rfl⟩ d (AB _) (Sim.here ?_);refine Sim.name (AB _) fun b f=>Sim.want sgd fun g=>?_;refine Sim.bind (fs:=[O .KIND 1 0]) (AO0 (h.less (j:=i+1+1) (by omega))) fun k j C c q D E=>?_;obtain⟨l,rfl⟩:=q;refine Bh2 fun m=>?_;refine Sim.bind (fs:=[O .SIZE 1 0]) (AL4 (h.less (j:=j+1) (by omega)) (AB _)) fun z o p c q t u=>?_;obtain⟨n,rfl,v,rfl⟩:=q;refine Sim.bind (fs:=[Mb .DIVISOR 0]) (gs:=[]) (Ax8 (h.less (j:=o) (by omega))) fun n G w c q x A=>?_;obtain⟨B,rfl⟩:=q;refine Sim.part (Sim.ret ⟨?_,?_⟩)
  ·rw[AE];exact .nm f (.sg g (l.app (.kw m (.ob v B))))
  ·rw[AE,M4,M4,E3];simp only[AF];rfl
 ·exact Sim.stray rfl (U0 (.inr (.inl rfl)) e) fun s a=>by rw[A5 a.here];exact C2 a (r4 a e)
theorem Ap0 (a:X.cy i=.kept 14)(h:Enf X F i):Sim X [Tm .name 0,Tm (.sign 23) 0,O .KIND 1 0,Tm (.sign 21) 0,O .E 1 0,Tm (.sign 24) 0] (stateAt F (X.bg i)) (i+1) 0 (QW X .STATE U4 i):=by
 unfold stateAt;refine Sim.name (AB _) fun b c=>Sim.want sgd fun d=>?_;refine Sim.bind (fs:=[O .KIND 1 0]) (AO0 (h.less (j:=i+1+1+1) (by omega))) fun k j e f q t u=>?_;obtain⟨g,rfl⟩:=q;refine Sim.want sge fun l=>?_;refine Sim.bind (fs:=[O .E 1 0]) (AK5 (h.less (j:=j+1) (by omega)) (AB _)) fun z v m f q o p=>?_;obtain⟨n,rfl,r,rfl,_⟩:=q;refine Sim.want sgm fun s=>Sim.part (Sim.ret ⟨?_,?_⟩)
 ·exact .kw a (.nm c (.sg d (g.app (.sg l (.ob r (.sg s .nil))))))
 ·rw[M4,AF];show _=pts X e++(pts X [n]++_);rw[E3];rfl
noncomputable def QK {a:Type}(X:Tx)(g:a->List It)(y:Sy)(i:Nat):List a->Nat->List Nd->List Part->Prop:=fun l j b c=>∃m,j=m+1/\l≠[]/\X.cy m=y/\SR X (Z6 (l.map g)) b i m/\c=pts X b
theorem BU4 {g:Type}(d:String)(most:Nat)(b:Tok->Bool)(e:P g)(f had:Nat):listAt d most b e (f+1) had=peek>>=fun x=>(match x with |some t=>if b t.tok=true then oneMore had most else stray |none=>stray:P Unit)>>=fun _=>e>>=fun a=>takes ",">>=fun c=>if c=true then listAt d most b e f (had+1)>>=fun l=>pure (a::l)else wants d>>=fun _=>pure [a]:=by
 conv=>lhs;unfold listAt
 congr 1;funext x;cases x with
 |none=>rfl
 |some t=>
  show(if b t.tok=true then _ else _)=((if b t.tok=true then oneMore had most else stray:P Unit)>>=_);by_cases q:b t.tok=true
  ·rw[AL q,AL q]
  ·rw[AD q,AD q]
theorem AC2 {s:Type}{d:String}{most m:Nat}{c:Tok->Bool}{h:P s}{b:Sb}{g:s->List It}(u:signNo d=m)(v:∀t,c t=B8 b (F5 t))(k:B8 b .nothing=false/\B8 b .finish=false)
  (e:∀r i,1<=r->Enf X F i->Sim X [⟨.once,b,r,0⟩] h i 1 (QT X g i)):∀(f had r i:Nat),(1<=r↔had<most)->X.N-i+1<=f->Enf X F i->
  Sim X [⟨.once,b,r,0⟩,⟨.more,b,most-1-had,0⟩,Tm (.sign m) 0] (listAt d most c h f had) i 1 (QK X g (.sign m) i)
 |0,had,r,i,n,z,o=>by omega
 |f+1,had,r,i,n,z,o=>by
  rw[BU4];refine n8 (fs:=[⟨.more,b,most-1-had,0⟩,Tm (.sign m) 0]) v k n (.inr fun q=>absurd q.2 (by decide)) fun K A L=>?_;refine Sim.bind (fs:=[⟨.once,b,r,0⟩]) (e r i (n.mpr A) o) fun a j M B q O Q=>?_;obtain⟨w,rfl⟩:=q;refine AD4 (fun y=>?_) (fun y=>?_)
  ·have C:most-1-had-1=most-1-(had+1):=by omega
   rw[C];refine Sim.bind (gs:=[]) (AC2 u v k e f (had+1) (most-1-had) (j+1) ⟨fun _=>by omega,fun _=>by omega⟩ (by omega) (o.less (by omega))) fun l R D B q E G=>?_;obtain⟨H,rfl,I,p,J,rfl⟩:=q;refine Sim.ret ⟨H,rfl,by simp,p,?_,?_⟩
   ·rw[AE];cases l with
    |nil=>exact(I rfl).elim
    |cons x l=>exact w.app (.sg y J)
   ·rw[AE,AE,M4]
  ·refine Sim.want u fun p=>Sim.ret ⟨j,rfl,by simp,p,?_,by rw[AE,AE]⟩;rw[AE];exact w
theorem Bz5 (t:Tok):isNameTok t=B8 (.t .name) (F5 t):=by cases t<;>rfl
theorem Bu6 (hx:x=.PORT∨x=.END∨x=.WIRE)(t:Tok):isNameTok t=B8 (.n x) (F5 t):=by
 cases t with
 |name _=>rcases hx with rfl |rfl |rfl<;>rfl
 |num _=>exact(U0 hx (by simp[F5])).symm
 |kept _=>exact(U0 hx (by simp[F5])).symm
 |sign _=>exact(U0 hx (by simp[F5])).symm
theorem Ay8 (hr:1<=r):Sim X [⟨.once,.t .name,r,0⟩] wantsName i 1 (QT X (fun b=>[.nm b]) i):=by have e:(wantsName:P Bytes)=wantsName>>=fun b=>pure b:=(bind_pure _).symm;rw[e];exact Sim.name hr fun b e0=>Sim.ret ⟨.nm e0 .nil,(F8 X).symm⟩
theorem b6 (c:signNo close=m)(a:1<=r↔had<256)(h:Enf X F i):Sim X [⟨.once,.t .name,r,0⟩,⟨.more,.t .name,255-had,0⟩,Tm (.sign m) 0] (listAt close LIST isNameTok wantsName F had) i 1 (QK X (fun b=>[.nm b]) (.sign m) i):=
 AC2 (most:=256) c Bz5 ⟨rfl,rfl⟩ (fun r i a _=>Ay8 a) F had r i a (by have:=h.1;omega) h
theorem Bn6:keptNo "let"=7:=by decide
noncomputable def Ba0 (F:Nat):P (Option Ex):=takes "[">>=fun c=>if c=true then eAt F 0>>=fun i=>wants "]">>=fun _=>pure (some i)else pure none
noncomputable def Bq4:Option Ex->List It
 |none=>[]
 |some i=>[.sg 29,.ob (.ex i),.sg 30]
theorem Au1 (h:Enf X F i):Sim X [Mb .INDEX 0] (Ba0 F) i 0 (QT X Bq4 i):=by refine Sim.opt (ps:=[o1 .E,s1 30]) (gs:=[]) sbo rfl rfl rfl (fun a=>?_) (fun _=>Sim.ret ⟨.nil,(F8 X).symm⟩);refine Sim.bind (fs:=[O .E 1 0]) (gs:=[Tm (.sign 30) 0]) (AK5 (h.less (BX _)) (AB _)) fun x j d e q f g=>?_;obtain⟨n,rfl,b,rfl,_⟩:=q;refine Sim.want sbc fun c=>Sim.ret ⟨.sg a (.ob b (.sg c .nil)),?_⟩;show pt X n++[]=pts X [n];rw[E3,AE]
theorem Bp6:doAt F=here>>=fun p=>takesWord "let">>=fun c=>if c=true then wantsName>>=fun x=>wants "=">>=fun _=>eAt F 0>>=fun e=>wants ";">>=fun _=>Sw.part 3 p>>=fun _=>pure (Do.bind x e)
  else wantsName>>=fun x=>Ba0 F>>=fun i=>wants "=">>=fun _=>eAt F 0>>=fun e=>wants ";">>=fun _=>Sw.part 3 p>>=fun _=>pure (Do.put x i e):=rfl
theorem Bb8 (l:1<=r)(h:Enf X F i):Sim X [O .DO r 0] (doAt F) i 1 (QT X (fun y=>[.nd .DO (Aq8 y)]) i):=by
 rw[Bp6];by_cases e:X.cy i=.kept 7
 ·refine Sim.nodeT (ps:=[k1 7,nm,s1 21,o1 .E,s1 24]) (by rw[e];rfl) ⟨rfl,rfl,rfl⟩ l (AB _) (Sim.here ?_);refine Sim.adv e ⟨by simp,by simp⟩ (AB _) (fun s a=>A5 (U3 a (by rw[Bn6];exact e))) ?_;refine Sim.name (AB _) fun b c=>Sim.want sge fun d=>?_;refine Sim.bind (fs:=[O .E 1 0]) (AK5 (h.less (j:=i+1+1+1) (by omega)) (AB _)) fun z j m p q t u=>?_;obtain⟨n,rfl,f,rfl,_⟩:=q;refine Sim.want sgm fun g=>Sim.part (Sim.ret ⟨.kw e (.nm c (.sg d (.ob f (.sg g .nil)))),?_⟩);show _=pts X [n]++_;rw[E3];rfl
 by_cases k:X.cy i=.name
 ·refine Sim.nodeT (ps:=[nm,mb .INDEX,s1 21,o1 .E,s1 24]) (by rw[k];rfl) ⟨rfl,rfl,rfl⟩ l (AB _) (Sim.here ?_);refine Sim.congr (fun s a=>A5 (R8 a (by rw[Bn6];exact e))) ?_;refine Sim.name (AB _) fun b c=>?_;refine Sim.bind (fs:=[Mb .INDEX 0]) (Au1 (h.less (j:=i+1) (by omega))) fun o j m p q t u=>?_;obtain⟨v,rfl⟩:=q;refine Sim.want sge fun d=>?_;refine Sim.bind (fs:=[O .E 1 0]) (AK5 (h.less (j:=j+1) (by omega)) (AB _)) fun z B w p q x A=>?_;obtain⟨n,rfl,f,rfl,_⟩:=q;refine Sim.want sgm fun g=>Sim.part (Sim.ret ⟨?_,?_⟩)
  ·have:=SR.nm c (v.app (.sg d (.ob f (.sg g .nil))));cases o<;>exact this
  ·rw[M4,AF];show _=pts X m++(pts X [n]++_);rw[E3];rfl
 ·refine Sim.stray rfl (J6 fun q=>?_) fun s a=>?_
  ·have:X.cy i∈[Sy.kept 7,.name]:=q;simp only[AK,BL,Bw]at this;exact this.elim e k
  ·rw[A5 a.here,A5 (R8 a (by rw[Bn6];exact e))];exact C2 a (r4 a k)
theorem B11 (t:Tok):(isNameTok t||t==.kept (keptNo "let"))=B8 (.n .DO) (F5 t):=by
 rw[Bn6,X5,tb,Bf];have a:∀y,y∈keys .DO↔y=.kept 7∨y=.name:=fun y=>by show y∈[Sy.kept 7,.name]↔_;simp
 simp only[Ck,BC,a];cases t<;>simp[isNameTok,F5]
theorem A60 {e:Type}{b:Tok->Bool}{d:P e}(f had:Nat):untilBrace b d (f+1) had=takes "}">>=fun c=>if c=true then pure []else peek>>=fun x=>(match x with |some t=>if b t.tok=true then oneMore had LIST else stray |none=>stray:P Unit)>>=fun _=>d>>=fun a=>untilBrace b d f (had+1)>>=fun l=>pure (a::l):=by
 conv=>lhs;unfold untilBrace
 congr 1;funext c;cases c with
 |true=>rfl
 |false=>
  show(peek>>=_:P (List e))=(peek>>=_:P (List e));congr 1;funext x;cases x with
  |none=>rfl
  |some t=>
   show(if b t.tok=true then _ else _)=((if b t.tok=true then oneMore had LIST else stray:P Unit)>>=_);by_cases q:b t.tok=true
   ·rw[AL q,AL q]
   ·rw[AD q,AD q]
noncomputable def QY {a:Type}(X:Tx)(x:Nt)(c:a->List It)(i:Nat):List a->Nat->List Nd->List Part->Prop:=fun l j b d=>∃m,j=m+1/\X.cy m=.sign 32/\SR X (l.map fun y=>.nd x (c y)) b i m/\d=pts X b
theorem AO8 {L:Type}{Y:Nt}{b:Tok->Bool}{d:P L}{w:L->List It}(W:c9 (.n Y)=false)(E:∀t,b t=B8 (.n Y) (F5 t))(z:B8 (.n Y) (.sign 32)=false)(o:∀r i,1<=r->Enf X F i->Sim X [O Y r 0] d i 1 (QT X (fun y=>[.nd Y (w y)]) i)):∀(f had i:Nat),had<=256->X.N-i+1<=f->Enf X F i->
  Sim X [Mn Y (256-had) 0,Tm (.sign 32) 0] (untilBrace b d f had) i 1 (QY X Y w i)
 |0,had,i,Z,hf,G=>by omega
 |f+1,had,i,Z,hf,G=>by
  rw[A60];by_cases e:X.cy i=.sign 32
  ·have H:Sim X [Tm (.sign 32) 0] (takes "}">>=fun c=>if c=true then pure []else peek>>=fun x=>(match x with |some t=>if b t.tok=true then oneMore had LIST else stray |none=>stray:P Unit)>>=fun _=>d>>=fun a=>untilBrace b d f (had+1)>>=fun l=>pure (a::l)) i 1 (QY X Y w i):=
    Sim.adv (a':=pure []) e ⟨by simp,by simp⟩ (AB _) (fun s u=>A5 (K1 u (by rw[scc];exact e))) (Sim.ret ⟨i,rfl,e,.nil,(F8 X).symm⟩)
   exact H.conv fun p M R v D S g=>AR4 v D.cons (by rw[e];exact z) g
  ·refine Sim.congr (fun s u=>A5 (J1 u (by rw[scc];exact e))) ?_;show Sim X _ (peek>>=_) i 1 _;cases h:B8 (.n Y) (X.cy i)with
   |false=>
    refine Sim.conv (gs:=[Tm (.sign 32) 0]) (Sim.stray rfl (Au9 e) fun s u=>?_) fun p M R v D S g=>AR4 v D.cons h g
    rw[A5 u.peek];refine C2 u ?_;cases et:X.A[i]? with
    |none=>rfl
    |some t=>show(if b t.tok=true then oneMore had LIST else stray:P Unit) s=_;rw[E,←(F9 et).1,h];rfl
   |true=>
    have I:A55 (X.cy i):=by rw[X5]at h;exact M3 (of_decide_eq_true h)
    have J:B8 (.n Y) .nothing=false/\B8 (.n Y) .finish=false:=by
     constructor<;>(rw[X5];refine AX fun q=>?_)
     ·exact(M3 q).1 rfl
     ·exact(M3 q).2 rfl
    have H:Sim X [O Y (256-had) 0,Mn Y (256-had-1) 0,Tm (.sign 32) 0] (peek>>=fun x=>(match x with |some t=>if b t.tok=true then oneMore had LIST else stray |none=>stray:P Unit)>>=fun _=>d>>=fun a=>untilBrace b d f (had+1)>>=fun l=>pure (a::l)) i 1 (QY X Y w i):=by
     refine n8 (fs:=[Mn Y (256-had-1) 0,Tm (.sign 32) 0]) (most:=256) E J (by omega) (.inr fun q=>absurd q.2 (by decide)) fun _ hm v=>?_;refine Sim.bind (fs:=[O Y (256-had) 0]) (o _ i (by omega) G) fun a j T ps q hj hn=>?_;obtain⟨q1,rfl⟩:=q;have em:256-(had+1)=256-had-1:=by omega
     have U:=AO8 W E z o f (had+1) j (by omega) (by omega) (G.less (by omega));rw[em]at U;refine Sim.bind (gs:=[]) U fun l V B ps q aa ab=>?_;obtain⟨m,rfl,e2,q2,rfl⟩:=q;refine Sim.mono (k:=0) (Sim.ret (Q:=fun y V C K=>QY X Y w i y V (T++(B++C)) (pts X T++(pts X B++K))) ⟨m,rfl,e2,?_,?_⟩) (by omega) fun _ _ _ _ q=>q
     ·rw[AE];exact q1.app q2
     ·rw[AE,AE,M4]
    exact H.conv fun p M R v D S g=>W3 v I.1 h g
theorem BF3:keptNo "state"=14:=by decide
theorem AS7:∀(g had i:Nat),had<=256->X.N-i+1<=g->Enf X F i->Sim X [Mn .STATE (256-had) 0] (statesAt F g had) i 0 (QT X (fun l=>l.map fun s=>.nd .STATE (U4 s)) i)
 |0,had,i,B,C,p=>by omega
 |g+1,had,i,B,C,p=>by
  have D:∀s,At X s i->statesAt F (g+1) had s=(match X.A[i]? with
   |some t=>if t.tok=.kept (keptNo "state")then oneMore had LIST>>=fun _=>next>>=fun _=>stateAt F t.at_>>=fun a=>statesAt F g (had+1)>>=fun l=>pure (a::l)else pure []
   |none=>pure []:P (List StateDecl)) s:=by
   intro s h
   conv=>lhs;unfold statesAt
   rw[A5 h.peek];cases X.A[i]?<;>rfl
  refine Sim.congr D ?_;by_cases e:X.cy i=.kept 14
  ·obtain⟨_,t,k,r⟩:=BA6 (AK2.mpr e);have m:B8 (.n .STATE) (X.cy i)=true:=by rw[e];rfl
   rw[k];have G:Sim X [O .STATE (256-had) 0,Mn .STATE (256-had-1) 0] (if t.tok=.kept (keptNo "state")then oneMore had LIST>>=fun _=>next>>=fun _=>stateAt F t.at_>>=fun a=>statesAt F g (had+1)>>=fun l=>pure (a::l)else pure []) i 0 (QT X (fun l=>l.map fun s=>.nd .STATE (U4 s)) i):=by
    rw[AL (by rw[BF3];exact r)];by_cases c:had<256
    ·have H:Sim X [O .STATE (256-had) 0] (next>>=fun _=>stateAt F t.at_) i 1 (QT X (fun y=>[.nd .STATE (U4 y)]) i):=by refine Sim.nodeT (ps:=[k1 14,nm,s1 23,o1 .KIND,s1 21,o1 .E,s1 24]) (by rw[e];rfl) ⟨rfl,rfl,rfl⟩ (by omega) (AB _) ?_;refine Sim.adv e ⟨by simp,by simp⟩ (AB _) (fun s h=>A5 (P9 s)) ?_;rw[←(F9 k).2.2.2];exact Ap0 e p
     have I:256-(had+1)=256-had-1:=by omega
     refine Sim.congr (a':=(next>>=fun _=>stateAt F t.at_)>>=fun a=>statesAt F g (had+1)>>=fun l=>pure (a::l)) (fun s h=>?_) ?_
     ·rw[A5 (x:=()) (s1:=s) (by unfold oneMore LIST;rw[AL c];rfl),bind_assoc]
     ·refine Sim.bind (fs:=[O .STATE (256-had) 0]) H fun a j U J q V W=>?_;obtain⟨K,rfl⟩:=q;have v:=AS7 g (had+1) j (by omega) (by omega) (p.less (by omega));rw[I]at v;refine Sim.bind (gs:=[]) v fun l Y L J q M Q=>?_;obtain⟨S,rfl⟩:=q;refine Sim.ret ⟨?_,?_⟩
      ·rw[AE];exact K.app S
      ·rw[AE,AE,M4]
    ·refine Sim.err (e:=⟨4,X.plc i⟩) (fun s h=>?_) fun o=>⟨i,rfl,fun b u _ _=>?_⟩
     ·refine P0 ?_;unfold oneMore LIST;rw[AD c,A5 h.peek,k,(F9 k).2.1];rfl
     ·have w:faultOf (O .STATE (256-had) 0) (X.cy i)=4:=by unfold faultOf;rw[AD (by rw[m];decide),AD (fun q=>nomatch q.1),AL (by show 256-had<1;omega)]
      have:=Az9 (X:=X) (fs:=[Mn .STATE (256-had-1) 0]++b) (st:=u) (f:=O .STATE (256-had) 0) o rfl (by rw[e];simp) (by rw[w];decide);rw[w]at this;exact this
   exact G.conv fun b u R o z T d=>W3 o (by rw[e];simp) m d
  ·refine Sim.ok (x:=[]) (fun s h=>?_) ⟨.nil,(F8 X).symm⟩ fun b u R o z T d=>AR4 o z (J6 fun q=>e (AN.mp q)) d;cases k:X.A[i]? with
   |none=>rfl
   |some t=>
    show(if t.tok=.kept (keptNo "state")then _ else _:P (List StateDecl)) s=_;rw[AD]
    ·rfl
    ·intro q;apply e;rw[(F9 k).1,q,BF3];rfl
noncomputable def Aj6 (f:Nat):P (List Bytes):=takes ",">>=fun c=>if c=true then listAt "=" LIST isNameTok wantsName f 1 else wants "=">>=fun _=>pure []
noncomputable def BE1 (f p:Nat)(x:Bytes):P Wire:=takesWord "delay">>=fun c=>if c=true then sizeAt f 0>>=fun n=>inParens f 0>>=fun v=>wants "(">>=fun _=>wantsName>>=fun y=>wants ")">>=fun _=>wants ";">>=fun _=>Sw.part 4 p>>=fun _=>pure (.delay x n v y)
  else wantsName>>=fun g=>takes "(">>=fun c=>if c=true then listAt ")" LIST isNameTok wantsName f 0>>=fun l=>wants ";">>=fun _=>Sw.part 4 p>>=fun _=>pure (.node [x] g l)else wants ";">>=fun _=>Sw.part 4 p>>=fun _=>pure (.same x g)
noncomputable def BK9 (f p:Nat)(x:Bytes)(a:List Bytes):P Wire:=if a=[]then BE1 f p x else wantsName>>=fun g=>wants "(">>=fun _=>listAt ")" LIST isNameTok wantsName f 0>>=fun l=>wants ";">>=fun _=>Sw.part 4 p>>=fun _=>pure (.node (x::a) g l)
theorem BO7 (f:Nat):wireAt f=here>>=fun p=>wantsName>>=fun x=>Aj6 f>>=fun a=>BK9 f p x a:=rfl
theorem BI5:keptNo "delay"=3:=by decide
noncomputable def QWi (X:Tx)(i m:Nat)(pre:List It):Wire->Nat->List Nd->List Part->Prop:=fun y j a b=>∃l,O3 y=pre++l/\SR X l a m j/\b=pts X a++own X (.n .WIRE) i j
theorem Br4 (i j:Nat):own X (.n .WIRE) i j=[⟨4,X.bg i,X.en j-X.bg i⟩]:=rfl
theorem AI2 {g:List Bytes->Wire}(b:∀l,O3 (g l)=pre++(.sg 27::(R5 l++[.sg 28,.sg 24])))(h:Enf X F m):Sim X [O .WIRE_INPUTS 1 0] (wants "(">>=fun _=>listAt ")" LIST isNameTok wantsName F 0>>=fun l=>wants ";">>=fun _=>Sw.part 4 (X.bg i)>>=fun _=>pure (g l)) m 0 (QWi X i m pre):=by
 by_cases e:X.cy m=.sign 27
 ·refine Sim.exp (gs:=[]) (ps:=[s1 27,nm,mrn 255,s1 28,s1 24]) (by rw[e];rfl) rfl rfl (AB _) ?_;refine Sim.want sgo fun c=>?_;refine Sim.bind (gs:=[Tm (.sign 24) 0]) (b6 (had:=0) (r:=1) sgc (by omega) (h.less (j:=m+1) (by omega))) fun l j n o q p t=>?_;obtain⟨u,rfl,_,d,f,rfl⟩:=q;refine Sim.want sgm fun k=>Sim.part (Sim.ret ⟨_,b l,?_,?_⟩)
  ·exact .sg c (f.app (.sg d (.sg k .nil)))
  ·rw[AE,Br4]
 ·exact Sim.stray rfl (J6 fun q=>e (AN.mp q)) fun s a=>C2 a (Y7 a (by rw[sgo];exact e))
theorem Ar2 (h:Enf X F m):Sim X [O .WIRE_SOURCE 1 0] (BE1 F (X.bg i) x) m 0 (QWi X i m [.nm x,.sg 21]):=by
 unfold BE1;by_cases e:X.cy m=.kept 3
 ·refine Sim.exp (gs:=[]) (ps:=[k1 3,o1 .SIZE,s1 27,o1 .E,s1 28,s1 27,nm,s1 28,s1 24]) (by rw[e];rfl) rfl rfl (AB _) ?_;refine Sim.adv e ⟨by simp,by simp⟩ (AB _) (fun s a=>A5 (U3 a (by rw[BI5];exact e))) ?_;refine Sim.bind (fs:=[O .SIZE 1 0]) (AL4 (h.less (j:=m+1) (by omega)) (AB _)) fun z j o t q P Q=>?_;obtain⟨n,rfl,u,rfl⟩:=q;refine Sim.bind (fs:=[Tm (.sign 27) 0,O .E 1 0,Tm (.sign 28) 0]) ((Ab6 h.2 F).par 0 j (by have:=h.1;omega)) fun v R o t q w A=>?_;obtain⟨B,S,rfl,rfl,C,rfl,D,d⟩:=q;refine Sim.want sgo fun G=>Sim.name (AB _) fun b H=>Sim.want sgc fun I=>Sim.want sgm fun J=>Sim.part (Sim.ret ⟨_,rfl,?_,?_⟩)
  ·exact .kw e (.ob u (.sg D (.ob C (.sg d (.sg G (.nm H (.sg I (.sg J .nil))))))))
  ·show _=pts X [n,B]++_;rw[G9,E3,Br4,AF]
 ·refine Sim.congr (fun s a=>A5 (R8 a (by rw[BI5];exact e))) ?_;show Sim X _ (wantsName>>=_) m 0 _;by_cases f:X.cy m=.name
  ·refine Sim.exp (gs:=[]) (ps:=[nm,o1 .WIRE_TAKEN]) (by rw[f];rfl) rfl rfl (AB _) ?_;refine Sim.name (AB _) fun g p=>?_;have K:=h.less (j:=m+1) (by omega);by_cases c:X.cy (m+1)=.sign 27
   ·refine Sim.exp (gs:=[]) (ps:=[o1 .WIRE_INPUTS]) (by rw[c];rfl) rfl rfl (AB _) ?_;refine Sim.congr (a':=wants "(">>=fun _=>listAt ")" LIST isNameTok wantsName F 0>>=fun l=>wants ";">>=fun _=>Sw.part 4 (X.bg i)>>=fun _=>pure (Wire.node [x] g l)) (fun s a=>?_) ?_
    ·have r:X.cy (m+1)=.sign (signNo "("):=by rw[sgo];exact c
     rw[A5 (K1 a r),A5 (X9 a r)];rfl
    ·refine(AI2 (g:=fun l=>Wire.node [x] g l) (pre:=[.nm x,.sg 21,.nm g]) (fun l=>rfl) K).mono (AB _) fun y j o T q=>?_;obtain⟨l,L,M,N⟩:=q;exact⟨.nm g::l,L,.nm p M,N⟩
   ·refine Sim.congr (a':=wants ";">>=fun _=>Sw.part 4 (X.bg i)>>=fun _=>pure (Wire.same x g)) (fun s a=>?_) ?_
    ·rw[A5 (J1 a (by rw[sgo];exact c))];rfl
    ·by_cases k:X.cy (m+1)=.sign 24
     ·refine Sim.exp (gs:=[]) (ps:=[s1 24]) (by rw[k];rfl) rfl rfl (AB _) ?_;refine Sim.want sgm fun d=>Sim.part (Sim.ret ⟨_,rfl,.nm p (.sg d .nil),?_⟩);rw[F8,Br4];rfl
     ·refine Sim.stray rfl (J6 fun q=>?_) fun s a=>C2 a (Y7 a (by rw[sgm];exact k));have:X.cy (m+1)∈[Sy.sign 27,.sign 24]:=q;simp only[AK,BL,Bw]at this;exact this.elim c k
  ·refine Sim.stray rfl (J6 fun q=>?_) fun s a=>C2 a (r4 a f);have:X.cy m∈[Sy.kept 3,.name]:=q;simp only[AK,BL,Bw]at this;exact this.elim e f
theorem AQ7 (h:l≠[]):R5 (x::l)=.nm x::.sg 25::R5 l:=by
 cases l with
 |nil=>exact(h rfl).elim
 |cons y l=>rfl
theorem BC9 (t:1<=r)(h:Enf X F i):Sim X [O .WIRE r 0] (wireAt F) i 1 (QT X (fun y=>[.nd .WIRE (O3 y)]) i):=by
 rw[BO7];by_cases e:X.cy i=.name
 ·refine Sim.nodeT (ps:=[nm,o1 .WIRE_NAMED]) (by rw[e];rfl) ⟨rfl,rfl,rfl⟩ t (AB _) (Sim.here ?_);refine Sim.name (AB _) fun x o=>?_;have f:=h.less (j:=i+1) (by omega);by_cases c:X.cy (i+1)=.sign 25
  ·refine Sim.exp (gs:=[]) (ps:=[s1 25,nm,mrn 254,s1 21,nm,o1 .WIRE_INPUTS]) (by rw[c];rfl) rfl rfl (AB _) ?_;refine Sim.adv (a':=listAt "=" LIST isNameTok wantsName F 1>>=fun a=>BK9 F (X.bg i) x a) c ⟨by simp,by simp⟩ (AB _) (fun s b=>?_) ?_
   ·have:Aj6 F s=listAt "=" LIST isNameTok wantsName F 1 (adv s):=by unfold Aj6;rw[A5 (K1 b (by rw[sgk];exact c))];rfl
    show Except.bind (Aj6 F s) _=Except.bind (listAt "=" LIST isNameTok wantsName F 1 (adv s)) _;rw[this]
   ·refine Sim.bind (gs:=[Tm .name 0,O .WIRE_INPUTS 1 0]) (b6 (had:=1) (r:=1) sge (by omega) (f.less (j:=i+1+1) (by omega))) fun a j u D q E G=>?_;obtain⟨v,rfl,p,w,z,rfl⟩:=q;unfold BK9;rw[AD p];refine Sim.name (AB _) fun g A=>?_;have:=AI2 (X:=X) (F:=F) (i:=i) (m:=v+1+1) (g:=fun l=>Wire.node (x::a) g l) (pre:=R5 (x::a)++[.sg 21,.nm g]) (fun l=>by show _++_=_++_++_;rw[AF];rfl) (f.less (by omega));refine this.mono (by omega) fun y j B C q=>?_;obtain⟨l,k,n,rfl⟩:=q;refine⟨?_,by rw[M4,AF]⟩;rw[k,AQ7 p,AF];exact .nm o (.sg c (z.app (.sg w (.nm A n))))
  ·by_cases d:X.cy (i+1)=.sign 21
   ·refine Sim.exp (gs:=[]) (ps:=[s1 21,o1 .WIRE_SOURCE]) (by rw[d];rfl) rfl rfl (AB _) ?_;refine Sim.adv (a':=BE1 F (X.bg i) x) d ⟨by simp,by simp⟩ (AB _) (fun s b=>?_) ?_
    ·refine A5 (x:=[]) ?_;unfold Aj6;rw[A5 (J1 b (by rw[sgk];exact c))];show(wants "=">>=fun _=>pure []:P (List Bytes)) s=_;rw[A5 (X9 b (by rw[sge];exact d))];rfl
    ·refine(Ar2 (f.less (j:=i+1+1) (by omega))).mono (AB _) fun y j u C q=>?_;obtain⟨l,k,n,rfl⟩:=q;exact⟨by rw[k];exact .nm o (.sg d n),rfl⟩
   ·refine Sim.stray rfl (J6 fun q=>?_) fun s b=>C2 b ?_
    ·have:X.cy (i+1)∈[Sy.sign 25,.sign 21]:=q;simp only[AK,BL,Bw]at this;exact this.elim c d
    ·unfold Aj6;rw[A5 (J1 b (by rw[sgk];exact c))];exact C2 b (Y7 b (by rw[sge];exact d))
 ·exact Sim.stray rfl (U0 (.inr (.inr rfl)) e) fun s b=>by rw[A5 b.here];exact C2 b (r4 b e)
theorem AB0 (h:Enf X F i):Sim X [O .PORT 1 0,⟨.more,.n .PORT,255,0⟩,Tm (.sign 28) 0] (listAt ")" LIST isNameTok (portAt F) F 0) i 1 (QK X (fun p=>[.nd .PORT (AH2 p)]) (.sign 28) i):=
 AC2 (most:=256) sgc (Bu6 (.inl rfl)) ⟨rfl,rfl⟩ (fun r s a b=>A66 a b) F 0 1 i (by omega) (by have:=h.1;omega) h
theorem AI9 (h:Enf X F i):Sim X [O .END 1 0,⟨.more,.n .END,255,0⟩,Tm (.sign 28) 0] (listAt ")" LIST isNameTok (endAt F) F 0) i 1 (QK X (fun p=>[.nd .END (Aj1 p)]) (.sign 28) i):=
 AC2 (most:=256) sgc (Bu6 (.inr (.inl rfl))) ⟨rfl,rfl⟩ (fun r s a b=>BQ9 a b) F 0 1 i (by omega) (by have:=h.1;omega) h
theorem AX8 (h:Enf X F i):Sim X [O .E 1 0,⟨.more,.n .E,65535,0⟩,Tm (.sign 30) 0] (listAt "]" ELEMENTS beginsE (eAt F 0) F 0) i 1 (QK X (fun x=>[.ob (.ex x)]) (.sign 30) i):=
 AC2 (most:=65536) sbc (fun t=>by rw[b_e,X5]) ⟨rfl,rfl⟩ (fun r s a b=>(AK5 b a).mono (AB _) fun x j d e q=>by
  obtain⟨n,rfl,c,rfl,_⟩:=q;exact⟨.one c,(E3 X n).symm⟩) F 0 1 i (by omega) (by have:=h.1;omega) h
theorem Rp.one1 (h:Rp X (.ex x) ns i j):∃n,ns=[n]:=by cases h<;>exact⟨_,rfl⟩
theorem Bk4:∀{l:List Ex} {ns:List Nd} {i j:Nat},l≠[]->SR X (Z6 (l.map fun x=>[.ob (.ex x)])) ns i j->Rp X (.ar l) ns i j
 |[],_,_,_,h,_=>(h rfl).elim
 |[x],ns,i,j,_,h=>by
  have h:SR X [.ob (.ex x)] ns i j:=h;cases h with
  |ob a b=>cases b;obtain⟨n,rfl⟩:=a.one1;exact .arone a
 |x::y::l,ns,i,j,_,h=>by
  have h:SR X (.ob (.ex x)::.sg 25::Z6 ((y::l).map fun x=>[.ob (.ex x)])) ns i j:=h;cases h with
  |ob a b=>
   cases b with
   |sg e c=>obtain⟨n,rfl⟩:=a.one1;exact .arcons (by simp) a e (Bk4 (by simp) c)
noncomputable def Ah7 (f:Nat):P Decl:=wantsName>>=fun x=>wants "=">>=fun _=>eAt f 0>>=fun e=>wants ";">>=fun _=>pure (.const x e)
noncomputable def Ag2 (f:Nat):P Decl:=wantsName>>=fun x=>wants ":">>=fun _=>wantsCode>>=fun c=>wants "=">>=fun _=>wants "[">>=fun _=>listAt "]" ELEMENTS beginsE (eAt f 0) f 0>>=fun l=>wants ";">>=fun _=>pure (.table x c l)
noncomputable def dFn (f:Nat):P Decl:=wantsName>>=fun x=>wants "(">>=fun _=>listAt ")" LIST isNameTok wantsName f 0>>=fun a=>wants "=">>=fun _=>eAt f 0>>=fun e=>wants ";">>=fun _=>pure (.fn x a e)
noncomputable def A86 (f:Nat):P Decl:=wantsName>>=fun x=>wants "(">>=fun _=>listAt ")" LIST isNameTok (portAt f) f 0>>=fun i=>wants "->">>=fun _=>wants "(">>=fun _=>listAt ")" LIST isNameTok (portAt f) f 0>>=fun o=>wants "{">>=fun _=>statesAt f f 0>>=fun a=>
 untilBrace (fun(t:Tok)=>isNameTok t||t==.kept (keptNo "let")) (doAt f) f 0>>=fun b=>pure (.node x i o a b)
noncomputable def Ae4 (f:Nat):P Decl:=wantsName>>=fun x=>wants "(">>=fun _=>listAt ")" LIST isNameTok (endAt f) f 0>>=fun i=>wants "->">>=fun _=>wants "(">>=fun _=>listAt ")" LIST isNameTok (endAt f) f 0>>=fun o=>wants "{">>=fun _=>untilBrace isNameTok (wireAt f) f 0>>=fun a=>pure (.graph x i o a)
noncomputable def Bf8 (f:Nat):P Decl:=takesWord "const">>=fun c=>if c=true then Ah7 f else takesWord "table">>=fun c=>if c=true then Ag2 f else takesWord "fn">>=fun c=>if c=true then dFn f else takesWord "node">>=fun c=>if c=true then A86 f else takesWord "graph">>=fun c=>if c=true then Ae4 f else stray
theorem BO8 (f:Nat):declAt f=here>>=fun p=>Bf8 f>>=fun d=>Sw.part 0 p>>=fun _=>pure d:=rfl
theorem kws:keptNo "const"=2/\keptNo "table"=16/\keptNo "fn"=4/\keptNo "node"=10/\keptNo "graph"=5:=by decide
noncomputable def dOf (f:Nat):Nat->P Decl
 |2=>Ah7 f
 |16=>Ag2 f
 |4=>dFn f
 |10=>A86 f
 |_=>Ae4 f
theorem BN2 (l:k=2∨k=16∨k=4∨k=10∨k=5)(g:X.cy i=.kept k)(h:At X s i):Bf8 F s=dOf F k (adv s):=by
 have b:∀{w:String} {m:Nat},keptNo w=m->k≠m->takesWord w s=.ok (false,s):=fun e n=>R8 h (by rw[g,e];exact fun q=>n (Sy.kept.inj q));have a:∀{w:String},keptNo w=k->takesWord w s=.ok (true,adv s):=fun e=>U3 h (by rw[g,e]);obtain⟨c,d,f,j,o⟩:=kws;unfold Bf8;rcases l with rfl |rfl |rfl |rfl |rfl
 ·rw[A5 (a c)];rfl
 ·rw[A5 (b c (by decide))];show(takesWord "table">>=_:P Decl) s=_;rw[A5 (a d)];rfl
 ·rw[A5 (b c (by decide))];show(takesWord "table">>=_:P Decl) s=_;rw[A5 (b d (by decide))];show(takesWord "fn">>=_:P Decl) s=_;rw[A5 (a f)];rfl
 ·rw[A5 (b c (by decide))];show(takesWord "table">>=_:P Decl) s=_;rw[A5 (b d (by decide))];show(takesWord "fn">>=_:P Decl) s=_;rw[A5 (b f (by decide))];show(takesWord "node">>=_:P Decl) s=_;rw[A5 (a j)];rfl
 ·rw[A5 (b c (by decide))];show(takesWord "table">>=_:P Decl) s=_;rw[A5 (b d (by decide))];show(takesWord "fn">>=_:P Decl) s=_;rw[A5 (b f (by decide))];show(takesWord "node">>=_:P Decl) s=_;rw[A5 (b j (by decide))];show(takesWord "graph">>=_:P Decl) s=_;rw[A5 (a o)];rfl
theorem Aq1 (a:X.cy i=.kept 2)(h:Enf X F (i+1)):Sim X [Tm .name 0,Tm (.sign 21) 0,O .E 1 0,Tm (.sign 24) 0] (Ah7 F) (i+1) 0 (QT X J8 i):=by unfold Ah7;refine Sim.name (AB _) fun b c=>Sim.want sge fun d=>?_;refine Sim.bind (fs:=[O .E 1 0]) (AK5 (h.less (j:=i+1+1+1) (by omega)) (AB _)) fun z j g k q l m=>?_;obtain⟨n,rfl,e,rfl,_⟩:=q;refine Sim.want sgm fun f=>Sim.ret ⟨.kw a (.nm c (.sg d (.ob e (.sg f .nil)))),?_⟩;show _=pts X [n];rw[E3,AE]
theorem Av5 (a:X.cy i=.kept 16)(h:Enf X F (i+1)):Sim X [Tm .name 0,Tm (.sign 23) 0,O .CODE 1 0,Tm (.sign 21) 0,Tm (.sign 29) 0,O .E 1 0,⟨.more,.n .E,65535,0⟩,Tm (.sign 30) 0,Tm (.sign 24) 0] (Ag2 F) (i+1) 0 (QT X J8 i):=by unfold Ag2;refine Sim.name (AB _) fun b d=>Sim.want sgd fun e=>Sim.code fun c f g=>Sim.want sge fun k=>Sim.want sbo fun o=>?_;refine Sim.bind (gs:=[Tm (.sign 24) 0]) (AX8 (h.less (by omega))) fun l j u v q w x=>?_;obtain⟨m,rfl,p,r,s,rfl⟩:=q;refine Sim.want sgm fun t=>Sim.ret ⟨?_,by rw[AE,AE]⟩;exact .kw a (.nm d (.sg e (.kw f (.sg k (.sg o (.ob (Bk4 p s) (.sg r (.sg t .nil))))))))
theorem Ba3 (a:X.cy i=.kept 4)(h:Enf X F (i+1)):Sim X [Tm .name 0,Tm (.sign 27) 0,Tm .name 0,⟨.more,.t .name,255,0⟩,Tm (.sign 28) 0,Tm (.sign 21) 0,O .E 1 0,Tm (.sign 24) 0] (dFn F) (i+1) 0 (QT X J8 i):=by unfold dFn;refine Sim.name (AB _) fun b c=>Sim.want sgo fun d=>?_;refine Sim.bind (gs:=[Tm (.sign 21) 0,O .E 1 0,Tm (.sign 24) 0]) (b6 (had:=0) (r:=1) sgc (by omega) (h.less (j:=i+1+1+1) (by omega))) fun l j w e q x y=>?_;obtain⟨m,rfl,A,f,g,rfl⟩:=q;refine Sim.want sge fun k=>?_;refine Sim.bind (fs:=[O .E 1 0]) (AK5 (h.less (j:=m+1+1) (by omega)) (AB _)) fun z B o e q p s=>?_;obtain⟨n,rfl,u,rfl,_⟩:=q;refine Sim.want sgm fun v=>Sim.ret ⟨.kw a (.nm c (.sg d (g.app (.sg f (.sg k (.ob u (.sg v .nil))))))),?_⟩;rw[AE,M4];show _=_++pts X [n];rw[E3]
theorem Av3 (x:X.cy i=.kept 10)(h:Enf X F (i+1)):Sim X [Tm .name 0,Tm (.sign 27) 0,O .PORT 1 0,⟨.more,.n .PORT,255,0⟩,Tm (.sign 28) 0,Tm (.sign 0) 0,Tm (.sign 27) 0,O .PORT 1 0,⟨.more,.n .PORT,255,0⟩,Tm (.sign 28) 0,Tm (.sign 31) 0,Mn .STATE 256 0,Mn .DO 256 0,Tm (.sign 32) 0] (A86 F) (i+1) 0 (QT X J8 i):=by
 unfold A86;refine Sim.name (AB _) fun b z=>Sim.want sgo fun A=>?_;refine Sim.bind (fs:=[O .PORT 1 0,⟨.more,.n .PORT,255,0⟩,Tm (.sign 28) 0]) (AB0 (h.less (by omega))) fun l j t g q hj hn=>?_;obtain⟨m,rfl,hl,B,C,rfl⟩:=q;refine Sim.want sgw fun D=>Sim.want sgo fun E=>?_;refine Sim.bind (fs:=[O .PORT 1 0,⟨.more,.n .PORT,255,0⟩,Tm (.sign 28) 0]) (AB0 (h.less (by omega))) fun l' u c g q G H=>?_;obtain⟨v,rfl,I,J,K,rfl⟩:=q;refine Sim.want sco fun L=>?_;have o:=h.less (j:=v+1+1) (by omega);refine Sim.bind (fs:=[Mn .STATE 256 0]) (AS7 F 0 (v+1+1) (by omega) (by have:=o.1;omega) o) fun st p e g q M N=>?_;obtain⟨P,rfl⟩:=q;have w:=o.less (j:=p) (by omega);refine Sim.bind (fs:=[Mn .DO 256 0,Tm (.sign 32) 0]) (gs:=[]) (AO8 rfl B11 rfl (fun r i R S=>Bb8 R S) F 0 p (by omega) (by have:=w.1;omega) w) fun T j3 a g q U V=>?_;obtain⟨W,rfl,Y,Z,rfl⟩:=q;refine Sim.mono (k:=0) (Sim.ret (Q:=fun y u f s=>QT X J8 i y u (t++(c++(e++(a++f)))) (pts X t++(pts X c++(pts X e++(pts X a++s))))) ⟨?_,?_⟩) (by omega) fun _ _ _ _ q=>q
 ·have t4:SR X ((T.map fun d=>It.nd .DO (Aq8 d))++[.sg 32]) (a++[]) p (W+1):=Z.app (.sg Y .nil);exact .kw x (.nm z (.sg A (C.app (.sg B (.sg D (.sg E (K.app (.sg J (.sg L (P.app t4))))))))))
 ·simp only[M4,F8,AE]
theorem Aq0 (u:X.cy i=.kept 5)(h:Enf X F (i+1)):Sim X [Tm .name 0,Tm (.sign 27) 0,O .END 1 0,⟨.more,.n .END,255,0⟩,Tm (.sign 28) 0,Tm (.sign 0) 0,Tm (.sign 27) 0,O .END 1 0,⟨.more,.n .END,255,0⟩,Tm (.sign 28) 0,Tm (.sign 31) 0,Mn .WIRE 256 0,Tm (.sign 32) 0] (Ae4 F) (i+1) 0 (QT X J8 i):=by
 unfold Ae4;refine Sim.name (AB _) fun b v=>Sim.want sgo fun w=>?_;refine Sim.bind (fs:=[O .END 1 0,⟨.more,.n .END,255,0⟩,Tm (.sign 28) 0]) (AI9 (h.less (by omega))) fun l j o p q U V=>?_;obtain⟨m,rfl,W,x,z,rfl⟩:=q;refine Sim.want sgw fun A=>Sim.want sgo fun B=>?_;refine Sim.bind (fs:=[O .END 1 0,⟨.more,.n .END,255,0⟩,Tm (.sign 28) 0]) (AI9 (h.less (by omega))) fun Y s c p q C D=>?_;obtain⟨f,rfl,E,G,H,rfl⟩:=q;refine Sim.want sco fun I=>?_;have t:=h.less (j:=f+1+1) (by omega);refine Sim.bind (fs:=[Mn .WIRE 256 0,Tm (.sign 32) 0]) (gs:=[]) (AO8 rfl (Bu6 (.inr (.inr rfl))) rfl (fun r i J K=>BC9 J K) F 0 (f+1+1) (by omega) (by have:=t.1;omega) t) fun L Z a p q M N=>?_;obtain⟨P,rfl,R,S,rfl⟩:=q;refine Sim.mono (k:=0) (Sim.ret (Q:=fun y s e g=>QT X J8 i y s (o++(c++(a++e))) (pts X o++(pts X c++(pts X a++g)))) ⟨?_,?_⟩) (by omega) fun _ _ _ _ q=>q
 ·have T:SR X ((L.map fun d=>It.nd .WIRE (O3 d))++[.sg 32]) (a++[]) (f+1+1) (P+1):=S.app (.sg R .nil);exact .kw u (.nm v (.sg w (z.app (.sg x (.sg A (.sg B (H.app (.sg G (.sg I T)))))))))
 ·simp only[M4,F8,AE]
theorem BC2 (h:y∈keys .DECL):∃k,y=.kept k/\(k=2∨k=16∨k=4∨k=10∨k=5):=by
 have:y∈[Sy.kept 2,.kept 16,.kept 4,.kept 10,.kept 5]:=h;simp only[AK,BL,Bw]at this;rcases this with rfl |rfl |rfl |rfl |rfl
 ·exact⟨_,rfl,.inl rfl⟩
 ·exact⟨_,rfl,.inr (.inl rfl)⟩
 ·exact⟨_,rfl,.inr (.inr (.inl rfl))⟩
 ·exact⟨_,rfl,.inr (.inr (.inr (.inl rfl)))⟩
 ·exact⟨_,rfl,.inr (.inr (.inr (.inr rfl)))⟩
theorem BC7 (p:1<=r)(h:Enf X F i)(o:X.cy i∈keys .DECL):Sim X [O .DECL r 0] (declAt F) i 1 (QT X (fun y=>[.nd .DECL (J8 y)]) i):=by
 obtain⟨k,c,e⟩:=BC2 o;obtain⟨l,m⟩:=BU.mp (show(P3 .DECL (X.cy i)).isSome=true from O8 o);rw[BO8];refine Sim.nodeT m ⟨rfl,rfl,rfl⟩ p (AB _) (Sim.here ?_);have f:∀(a:P Decl) (n:List Fr),l.map (fr 0)=Tm (.kept k) 0::n->dOf F k=a->Sim X n a (i+1) 0 (QT X J8 i)->Sim X (l.map (fr 0)) (Bf8 F>>=fun d=>Sw.part 0 (X.bg i)>>=fun _=>pure d) i 1 (QW X .DECL J8 i):=by
  intro a n t u v;rw[t];refine Sim.adv (a':=a>>=fun d=>Sw.part 0 (X.bg i)>>=fun _=>pure d) c ⟨by simp,by simp⟩ (AB _) (fun s w=>?_) ?_
  ·show Except.bind (Bf8 F s) _=Except.bind (a (adv s)) _;rw[BN2 e c w,u]
  ·have:=Sim.bind (gs:=[]) (k:=0) (b:=fun d=>Sw.part 0 (X.bg i)>>=fun _=>pure d) (Qb:=QW X .DECL J8 i) v fun d j x l q z A=>?_
   ·rw[AE]at this;exact this
   ·refine Sim.part (Sim.ret ⟨by rw[AE];exact q.1,?_⟩);rw[AE,q.2];rfl
 have g:=h.less (j:=i+1) (by omega);rw[c]at m;rcases e with rfl |rfl |rfl |rfl |rfl<;>cases m
 ·exact f _ _ rfl rfl (Aq1 c g)
 ·exact f _ _ rfl rfl (Av5 c g)
 ·exact f _ _ rfl rfl (Ba3 c g)
 ·exact f _ _ rfl rfl (Av3 c g)
 ·exact f _ _ rfl rfl (Aq0 c g)
theorem Ak0 (t:Tok):isDeclWord t=decide (F5 t∈keys .DECL):=by
 obtain⟨a,b,c,d,e⟩:=kws;unfold isDeclWord;simp only[Ci,List.any_nil,Bool.or_false,a,b,c,d,e,tb];rw[Bf];have f:∀y,y∈keys .DECL↔y=.kept 2∨y=.kept 16∨y=.kept 4∨y=.kept 10∨y=.kept 5:=fun y=>by show y∈[Sy.kept 2,.kept 16,.kept 4,.kept 10,.kept 5]↔_;simp
 simp only[Ck,BC,f,A07]
theorem AV6 (h:En X fs i st (.fault k p)):0<k:=by
 generalize hR:Fin.fault k p=R at h
 induction h with
 |done=>cases hR
 | @bad f fs i k' o e=>
  cases hR;unfold step at e;split at e
  ·cases e
  ·split at e
   ·unfold AC9 at e;split at e
    ·split at e
     ·split at e<;>cases e
     ·cases e
    ·cases e
   ·split at e
    ·cases e;decide
    ·split at e
     ·split at e
      ·rename_i h0;cases e;exact Nat.pos_of_ne_zero h0
      ·split at e<;>cases e
     ·split at e<;>cases e
     ·split at e<;>cases e
     ·split at e<;>cases e
 |go _ _ ih=>exact ih hR
noncomputable def By1 (X:Tx)(i:Nat)(o:Op)(r:List Op)(s:PS):Except Fault (Prog×PS)->Fin->Prop
 |.error e,R=>∃p,e.at_=X.plc p/\0<e.kind/\R=.fault e.kind p
 |.ok (P,b),R=>∃a,R=.done (⟨o.k,o.i,o.c++a⟩::r)/\SR X (l8 P) a i X.N/\b.parts=s.parts++pts X a/\X.nn=none
theorem Ab5:∀(g had i:Nat) (o:Op) (r:List Op) (s:PS),had<=4096->X.N-i+1<=g->Enf X F i->At X s i->o.c.length<=i->∃R,En X [Mn .DECL (4096-had) 0,Tm .finish 0] i (o::r) R/\By1 X i o r s (declsAt F g had s) R
 |0,had,i,o,r,s,V,W,E,a,G=>by omega
 |g+1,had,i,o,r,s,V,W,E,a,G=>by
  have Y:declsAt F (g+1) had s=(match X.A[i]? with
   |none=>(match X.nn with |none=>pure [] |some p=>bad 1 p)
   |some t=>(if isDeclWord t.tok=true then oneMore had DECLS else stray:P Unit)>>=fun _=>declAt F>>=fun d=>declsAt F g (had+1)>>=fun l=>pure (d::l):P Prog) s:=by
   conv=>lhs;unfold declsAt
   show(match s.toks,s.none_ with |[],none=>_ |[],some p=>_ |t::_,_=>_:P Prog) s=_;rw[a.n];cases e:X.A[i]? with
   |none=>
    have:s.toks=[]:=by rw[a.t];exact BS (Bn.mp e)
    rw[this];cases X.nn<;>rfl
   |some t=>
    rw[a.cons e];show(if isDeclWord t.tok=true then _ else _:P Prog) s=((if isDeclWord t.tok=true then oneMore had DECLS else stray:P Unit)>>=_:P Prog) s;by_cases q:isDeclWord t.tok=true
    ·rw[AL q,AL q]
    ·rw[AD q,AD q]
  rw[Y];cases e:X.A[i]? with
  |none=>
   have Z:X.N<=i:=Bn.mp e;have H:i=X.N:=Nat.le_antisymm a.le Z;cases w:X.nn with
   |none=>
    have u:X.cy i=.finish:=by unfold Tx.cy;rw[e,w];rfl
    refine⟨.done (o::r),AZ0 a.le (by rw[u];simp) (by rw[u];rfl) (BD8 a.le u (by simp) (AB _) .done),[],?_,?_,?_,w⟩
    ·rw[AE]
    ·rw[H];exact .nil
    ·rw[F8,AE]
   |some p=>
    have u:X.cy i=.nothing:=by unfold Tx.cy;rw[e,w];rfl
    exact⟨_,Y1 a.le (fun q=>nomatch q) u,i,by unfold Tx.plc;rw[e,w];rfl,(by show 0<1;decide),rfl⟩
  |some t=>
   obtain⟨L,ep,_,_⟩:=F9 e;have b:A55 (X.cy i):=by rw[L];cases t.tok<;>exact⟨by simp[F5],by simp[F5]⟩
   show ∃R,_/\By1 X i o r s (((if isDeclWord t.tok=true then oneMore had DECLS else stray:P Unit)>>=fun _=>declAt F>>=fun d=>declsAt F g (had+1)>>=fun l=>pure (d::l):P Prog) s) R;have m:=Ak0 t.tok;rw[←L]at m;by_cases q:X.cy i∈keys .DECL
   ·rw[AR q]at m;rw[AL m];have h:B8 (.n .DECL) (X.cy i)=true:=O8 q;by_cases v:had<4096
    ·have I:oneMore had DECLS s=.ok ((),s):=by unfold oneMore DECLS;rw[AL v];rfl
     rw[A5 I];have x:=BC7 (r:=4096-had) (by omega) E q s a;cases B:declAt F s with
     |error e'=>rw[B]at x;rw[P0 B];obtain⟨p,h1,h2⟩:=x;have J:=h2 [Mn .DECL (4096-had-1) 0,Tm .finish 0] (o::r) ⟨Mn .DECL (4096-had-1) 0,AG ..,fun q=>nomatch q⟩ ⟨o,r,rfl,G⟩;have v:=W3 a.le b.1 h J;refine⟨_,v,p,h1,?_,rfl⟩;exact AV6 v
     |ok y=>
      obtain⟨y,M⟩:=y;rw[B]at x;rw[A5 B];obtain⟨j,Q,ps,S,g2,g3,g4,⟨q1,rfl⟩,g6⟩:=x;have em:4096-(had+1)=4096-had-1:=by omega
      obtain⟨R,T,C⟩:=Ab5 g (had+1) j ⟨o.k,o.i,o.c++Q⟩ r M (by omega) (by have:=S.le;omega) (E.less (by omega)) S (by rw[AO];omega);rw[em]at T;have J:=g6 [Mn .DECL (4096-had-1) 0,Tm .finish 0] (o::r) R ⟨Mn .DECL (4096-had-1) 0,AG ..,fun q=>nomatch q⟩ ⟨o,r,rfl,G⟩ T;refine⟨R,W3 a.le b.1 h J,?_⟩;cases D:declsAt F g (had+1) M with
      |error e'=>rw[D]at C;rw[P0 D];exact C
      |ok z=>
       obtain⟨z,s2⟩:=z;rw[D]at C;rw[A5 D];obtain⟨K,k1,k2,k3,k4⟩:=C;refine⟨Q++K,?_,q1.app k2,?_,k4⟩
       ·rw[k1,AF]
       ·rw[k3,g4,AF,M4]
    ·have I:oneMore had DECLS s=.error ⟨4,X.plc i⟩:=by unfold oneMore DECLS;rw[AD v,A5 a.peek,e,ep];rfl
     rw[P0 I];have U:faultOf (O .DECL (4096-had) 0) (X.cy i)=4:=by unfold faultOf;rw[AD (by rw[h];decide),AD (fun q=>nomatch q.1),AL (by show 4096-had<1;omega)]
     have:=Az9 (X:=X) (fs:=[Mn .DECL (4096-had-1) 0,Tm .finish 0]) (st:=o::r) (f:=O .DECL (4096-had) 0) a.le rfl b.1 (by rw[U];decide);rw[U]at this;exact⟨_,W3 a.le b.1 h this,i,rfl,(by show 0<4;decide),rfl⟩
   ·rw[AX q]at m;rw[AD (by rw[m];decide),P0 a.stray,AD b.1];have h:B8 (.n .DECL) (X.cy i)=false:=J6 q;have:=Ao0 (X:=X) (fs:=[]) (st:=o::r) (f:=Tm .finish 0) a.le rfl (Au9 b.2);rw[AD b.1]at this;exact⟨_,AZ0 a.le b.1 h this,i,rfl,(by show 0<2;decide),rfl⟩
theorem Ah9:∀(f p:Nat) (l:Bytes),(tokensFrom f p l).1.length<=l.length:=by
 intro f
 induction f with
 |zero=>intro p l;exact Ag _
 |succ f b=>
  intro p l;cases l with
  |nil=>exact Ag _
  |cons c r=>
   unfold tokensFrom;split
   ·have:=b (p+1) r;simp only[AZ];omega
   ·split
    ·rename_i j e;obtain⟨rfl,_⟩:=e;have d:=My.noteLen_pos r;have:=b (p+noteLen (47::r)) ((47::r).drop (noteLen (47::r)));rw[BF]at this;show(tokensFrom f (p+noteLen (47::r)) ((47::r).drop (noteLen (47::r)))).1.length<=_;omega
    ·split
     ·rename_i g;have d:=My.word_pos r g;have:=b (p+((c::r).takeWhile isWordByte).length) ((c::r).drop ((c::r).takeWhile isWordByte).length);rw[BF]at this;have h:=(Bj isWordByte (l:=c::r)).length_le;cases a:wordTok ((c::r).takeWhile isWordByte)with
      |some t=>simp only[a];generalize ((c::r).takeWhile isWordByte).length=m at *;simp only[AZ]at *;omega
      |none=>simp only[a];exact Ag _
     ·split
      ·rename_i k m i;have d:=(My.signAt_pos i).1;have:=b (p+m) ((c::r).drop m);rw[BF]at this;simp only[AZ]at *;omega
      ·exact Ag _
noncomputable def O5 (b:Bytes):Tx:=⟨(tokens b).1,(tokens b).2,b.length⟩
noncomputable def Bm9:List Fr:=[Mn .DECL 4096 0,Tm .finish 0]
noncomputable def op0:Op:=⟨.PROGRAM,0,[]⟩
def Ab8 (b:Bytes)(R:Fin):Prop:=match readAll b with
 |.error e=>∃p,e.at_=(O5 b).plc p/\0<e.kind/\R=.fault e.kind p
 |.ok (P,l)=>∃a,R=.done [⟨.PROGRAM,0,a⟩]/\SR (O5 b) (l8 P) a 0 (O5 b).N/\l=pts (O5 b) a/\(O5 b).nn=none
theorem BU6 (l:b.length<=100000):∃R,En (O5 b) Bm9 0 [op0] R/\Ab8 b R:=by
 have m:(tokens b).1.length<=b.length:=Ah9 (b.length+1) 0 b;have n:(O5 b).N=(tokens b).1.length:=rfl;have c:Enf (O5 b) (stepsFor b) 0:=by
  refine⟨?_,?_⟩
  ·show 16*((tokens b).1.length-0)+14<=32*(b.length+32);omega
  ·show(tokens b).1.length<1048576;omega
 obtain⟨R,d,a⟩:=Ab5 (X:=O5 b) (F:=stepsFor b) (b.length+2) 0 0 op0 [] ⟨(tokens b).1,(tokens b).2,b.length,0,[]⟩ (by omega) (by omega) c ⟨Ag _,rfl,rfl,rfl,rfl⟩ (Ag _);refine⟨R,d,?_⟩;have f:readAll b=(declsAt (stepsFor b) (b.length+2) 0 ⟨(tokens b).1,(tokens b).2,b.length,0,[]⟩).map fun(y:Prog×PS)=>(y.1,y.2.parts):=rfl;unfold Ab8;rw[f];cases e:declsAt (stepsFor b) (b.length+2) 0 ⟨(tokens b).1,(tokens b).2,b.length,0,[]⟩with
 |error o=>rw[e]at a;exact a
 |ok y=>obtain⟨y,p⟩:=y;rw[e]at a;obtain⟨g,h,i,j,k⟩:=a;exact⟨g,h,i,j,k⟩
end
noncomputable def Ai6:List Nt:=[.DECL,.CODE,.KIND,.PORT,.END,.DIVISOR,.STATE,.DO,.WIRE,.WIRE_NAMED,.WIRE_SOURCE,.WIRE_TAKEN,.WIRE_INPUTS,.SIZE,.E,.CHOICE,.OR,.JOINED,.COMPARISON,.COMPARED,.FORMULA,.OPERATED,.ONE,.BEHIND,.INDEX,.INDEXES,.SECOND,.ATOM,.CALLED]
theorem P4 (x:Nt):x∈Ai6:=by cases x<;>decide
noncomputable def J5:List Sy:=[.name,.number,.nothing,.finish]++(List.range 26).map .kept++(List.range 33).map .sign
noncomputable def Vb:Sb->Prop
 |.t y=>y∈J5
 |.n _=>True
noncomputable instance (b:Sb):Decidable (Vb b):=by cases b<;>(unfold Vb;infer_instance)
noncomputable def lv:Nt->Nat
 |.DECL=>7 |.CODE=>1 |.KIND=>4 |.PORT=>5 |.END=>5 |.DIVISOR=>1 |.STATE=>5 |.DO=>5 |.WIRE=>6 |.WIRE_NAMED=>5 |.WIRE_SOURCE=>4 |.WIRE_TAKEN=>3 |.WIRE_INPUTS=>2 |.SIZE=>0 |.E=>0 |.CHOICE=>1 |.OR=>7 |.JOINED=>6 |.COMPARISON=>5 |.COMPARED=>4 |.FORMULA=>3 |.OPERATED=>2 |.ONE=>1 |.BEHIND=>3 |.INDEX=>1 |.INDEXES=>2 |.SECOND=>1 |.ATOM=>0 |.CALLED=>1
noncomputable def A37 (x:Nt)(d:Nat):Nat:=(130-d)*8+lv x
noncomputable def M1 (b:Sb)(d:Nat):Nat:=match b with
 |.t _=>1
 |.n x=>17*(A37 x d+1)
noncomputable def MM (f:Fr):Nat:=if f.fm=.fin then 1 else if f.fm=.once then M1 f.sb f.dp else 1+M1 f.sb f.dp
noncomputable def BB:Nat:=20000
noncomputable def Stk:List Fr->Prop
 |[]=>True
 |f::r=>r.length+MM f<=BB/\Stk r
theorem Aq5 (b:Sb)(d:Nat):1<=M1 b d:=by
 cases b with
 |t _=>exact AB _
 |n x=>show 1<=17*(A37 x d+1);omega
theorem BZ1 (f:Fr):1<=MM f:=by
 have:=Aq5 f.sb f.dp;unfold MM;split
 ·omega
 ·split<;>omega
theorem Stk.len (h:Stk l):l.length<=BB:=by
 cases l with
 |nil=>exact Ag _
 |cons f r=>have:=h.1;have:=BZ1 f;rw[AZ];omega
noncomputable def Am5:Sb->Nat
 |.t _=>0
 |.n x=>lv x+1
noncomputable def AX5 (x:Nt)(ps:List Pt):Bool:=decide (ps.length<=15)&&ps.all fun p=>decide (p.fm≠.fin)&&(decide (Vb p.sb)&&((c9 (.n x)||decide (Am5 p.sb<=lv x))&&decide (Am5 p.sb<=8)))
theorem A76:∀x∈Ai6,(row x).all (fun q=>AX5 x q.2)=true:=by decide+kernel
theorem Bb6 (h:lk l y=some ps):(y,ps)∈l:=by
 induction l with
 |nil=>cases h
 |cons p r a=>
  have h:(if p.1=y then some p.2 else lk r y)=some ps:=h;by_cases q:p.1=y
  ·rw[AL q]at h;cases h;rw[←q];exact AG ..
  ·rw[AD q]at h;exact AC _ (a h)
theorem Az7 (h:P3 x y=some ps):ps.length<=15/\∀p∈ps,p.fm≠.fin/\Vb p.sb/\(c9 (.n x)=true∨Am5 p.sb<=lv x)/\Am5 p.sb<=8:=by have:=BO.mp (A76 x (P4 x)) _ (Bb6 h);have a:AX5 x ps=true:=this;unfold AX5 at a;simp only[Ar,BC,BO,Ck]at a;exact⟨a.1,fun p b=>a.2 p b⟩
theorem Ac5 (a:(c9 (.n x)=true/\d'=d+1/\d<=128)∨(c9 (.n x)=false/\d'=d/\d<=129))(c:r.length<=B+1)(f:B+17*(A37 x d+1)<=BB):∀(ps:List Pt),(∀p∈ps,(c9 (.n x)=true∨Am5 p.sb<=lv x)/\Am5 p.sb<=8)->ps.length<=15->Stk r->Stk (ps.map (fr d')++r)
 |[],_,_,h=>h
 |p::ps,hp,hl,h=>by
  rw[AZ]at hl;refine⟨?_,Ac5 a c f ps (fun q g=>hp q (AC _ g)) (by omega) h⟩;have b:=hp p (AG ..);show(ps.map (fr d')++r).length+MM (fr d' p)<=BB;rw[AO,AJ];have k:MM (fr d' p)<=1+M1 p.sb d':=by
   have:=Aq5 p.sb d';unfold MM;show(if p.fm=.fin then 1 else if p.fm=.once then M1 p.sb d' else 1+M1 p.sb d')<=1+M1 p.sb d';split
   ·omega
   ·split<;>omega
  have i:M1 p.sb d'<=17*A37 x d:=by
   cases e:p.sb with
   |t y=>show 1<=17*A37 x d;unfold A37;omega
   |n z=>
    rw[e]at b;have l:lv z+1<=8:=b.2;show 17*(A37 z d'+1)<=17*A37 x d;unfold A37;rcases a with ⟨_,rfl,a⟩ |⟨j,rfl,a⟩
    ·omega
    ·rcases b.1 with q |q
     ·rw[j]at q;cases q
     ·have q:lv z+1<=lv x:=q;omega
  omega
structure Fine (fs:List Fr)(o:List Op):Prop where
 vb:∀f∈fs,Vb f.sb/\f.dp<=129
 st:Stk fs
 op:o.length=(fs.filter fun f=>decide (f.fm=.fin)).length+1
theorem Fine.len (h:Fine fs o):fs.length<=20000/\o.length<=20001:=by have a:=h.st.len;have b:=List.length_filter_le (fun f:Fr=>decide (f.fm=.fin)) fs;have:=h.op;unfold BB at a;exact⟨a,by omega⟩
theorem Ak6 {ps:List Pt}(h:∀p∈ps,p.fm≠.fin):(ps.map (fr d)).filter (fun f=>decide (f.fm=.fin))=[]:=by rw[List.filter_eq_nil_iff];intro f a;obtain⟨p,b,rfl⟩:=BN.mp a;intro q;exact h p b (of_decide_eq_true q)
section
variable {cy:Nat->Sy} {N:Nat}
theorem Ar5 {c:Cf}(h:Fine (f::fs) o)(e:step cy N f fs i o=.go c):Fine c.frs c.opn:=by
 obtain⟨hv,hs,ho⟩:=h;have hvf:=hv f (AG ..);have hvr:∀g∈fs,Vb g.sb/\g.dp<=129:=fun g hg=>hv g (AC _ hg);obtain⟨hs1,hs2⟩:=hs;unfold step at e;split at e
 ·cases e
 split at e
 ·rename_i hf;rw[List.filter_cons_of_pos (by simpa using hf),AZ]at ho;unfold AC9 at e;split at e
  ·split at e
   ·split at e
    ·cases e;refine⟨hvr,hs2,?_⟩;simp only[AZ]at ho ⊢;omega
    ·cases e
   ·cases e
  ·cases e
 rename_i hnf;rw[Cn (by simpa using hnf)]at ho;split at e
 ·cases e
 obtain⟨fm,sb,room,dp⟩:=f;have one:∀{fm':Fm} {room':Nat},fm'≠.fin->fm≠.once->Fine (⟨.once,sb,room,dp⟩::⟨fm',sb,room',dp⟩::fs) o/\Fine (⟨.once,sb,room,dp⟩::fs) o:=by
  intro fm' room' h1 h2;have hM:MM ⟨fm,sb,room,dp⟩=1+M1 sb dp:=by unfold MM;rw[AD hnf,AD h2]
  have hM':MM ⟨fm',sb,room',dp⟩<=1+M1 sb dp:=by have:=Aq5 sb dp;show(if fm'=.fin then 1 else if fm'=.once then M1 sb dp else 1+M1 sb dp)<=_;rw[AD h1];split<;>omega
  rw[hM]at hs1;have hO:MM ⟨.once,sb,room,dp⟩=M1 sb dp:=rfl;refine⟨⟨?_,⟨?_,?_,hs2⟩,?_⟩,⟨?_,⟨?_,hs2⟩,?_⟩⟩
  ·intro g hg;rcases AK.mp hg with rfl |hg
   ·exact hvf
   ·rcases AK.mp hg with rfl |hg
    ·exact hvf
    ·exact hvr g hg
  ·rw[hO,AZ];omega
  ·omega
  ·rw[Cn (by simp),Cn (by simpa using h1)];exact ho
  ·intro g hg;rcases AK.mp hg with rfl |hg
   ·exact hvf
   ·exact hvr g hg
  ·rw[hO];omega
  ·rw[Cn (by simp)];exact ho
 have rest:Fine fs o:=⟨hvr,hs2,ho⟩;cases fm with
 |once=>
  dsimp only at e;split at e
  ·cases e
  rename_i hnb;cases sb with
  |t y=>cases e;exact rest
  |n x=>
   cases e;have hw:∃ps,P3 x (cy i)=some ps:=by
    cases q:P3 x (cy i)with
    |some ps=>exact⟨ps,rfl⟩
    |none=>refine(hnb ?_).elim;unfold faultOf B8;simp[q]
   obtain⟨ps,hw⟩:=hw;have hdp:c9 (.n x)=true->dp<=128:=fun q=>by
    by_cases z:dp<=128
    ·exact z
    ·refine(hnb ?_).elim;unfold faultOf B8;simp only[hw];rw[AD (by simp),AL ⟨q,by omega⟩];decide
   have hfit:=Az7 hw;have hd:(c9 (.n x)=true/\dps x dp=dp+1/\dp<=128)∨(c9 (.n x)=false/\dps x dp=dp/\dp<=129):=by
    unfold dps;cases q:c9 (.n x)with
    |true=>exact .inl ⟨rfl,AL rfl,hdp q⟩
    |false=>exact .inr ⟨rfl,AD (by decide),hvf.2⟩
   have hM:MM ⟨.once,.n x,room,dp⟩=17*(A37 x dp+1):=rfl;rw[hM]at hs1;rw[hw];show Fine (ps.map (fr (dps x dp))++(V6 x++fs)) (b9 x i++o);have hrest:∀f∈V6 x++fs,Vb f.sb/\f.dp<=129:=by
    intro g hg;rcases AY.mp hg with hg |hg
    ·unfold V6 at hg;split at hg
     ·rw[AN]at hg;subst hg;exact⟨trivial,Ag _⟩
     ·cases hg
    ·exact hvr g hg
   have hlen:(V6 x++fs).length<=fs.length+1:=by rw[AO];unfold V6;split<;>simp;omega
   have hst:Stk (V6 x++fs):=by
    unfold V6;split
    ·refine⟨?_,hs2⟩;show fs.length+1<=BB;omega
    ·exact hs2
   refine⟨?_,Ac5 hd hlen hs1 ps (fun p hp=>(hfit.2 p hp).2.2) hfit.1 hst,?_⟩
   ·intro g hg;rcases AY.mp hg with hg |hg
    ·obtain⟨p,hp,rfl⟩:=BN.mp hg;refine⟨(hfit.2 p hp).2.1,?_⟩;show dps x dp<=129;rcases hd with q |q<;>omega
    ·exact hrest g hg
   ·rw[List.filter_append,Ak6 (fun p hp=>(hfit.2 p hp).1),DA,List.filter_append,AO,AO];unfold b9 V6;split
    ·simp only[Cu,List.filter_cons,List.filter_nil];rw[AL (by decide)];simp only[Cu];omega
    ·simp only[Bt,List.filter_nil];omega
 |maybe=>
  dsimp only at e;split at e
  ·cases e;exact(one (fm':=.once) (room':=0) (by decide) (by decide)).2
  ·cases e;exact rest
 |many=>
  dsimp only at e;split at e
  ·cases e;exact(one (by decide) (by decide)).1
  ·cases e;exact rest
 |more=>
  dsimp only at e;split at e
  ·cases e;exact(one (by decide) (by decide)).1
  ·cases e;exact rest
 |fin=>exact(hnf rfl).elim
inductive EnN (cy:Nat->Sy) (N:Nat):Nat->List Fr->Nat->List Op->Fin->Prop where
 |done {n i:Nat} {o:List Op}:EnN cy N n [] i o (.done o)
 |bad {n:Nat} {f:Fr} {fs:List Fr} {i k:Nat} {o:List Op}:step cy N f fs i o=.bad k->EnN cy N n (f::fs) i o (.fault k i)
 |go {n:Nat} {f:Fr} {fs:List Fr} {i:Nat} {o:List Op} {c:Cf} {R:Fin}:step cy N f fs i o=.go c->EnN cy N n c.frs c.pos c.opn R->EnN cy N (n+1) (f::fs) i o R
theorem Ends.count (h:Ends cy N fs i o R):∃n,EnN cy N n fs i o R:=by
 induction h with
 |done=>exact⟨0,.done⟩
 |bad e=>exact⟨0,.bad e⟩
 |go e _ a=>obtain⟨n,b⟩:=a;exact⟨n+1,.go e b⟩
end
theorem Bs7:Fine Bm9 [op0]:=by
 refine⟨?_,?_,rfl⟩
 ·intro f a;have a:f∈[(Mn .DECL 4096 0),Tm .finish 0]:=a;rcases AK.mp a with rfl |a
  ·exact⟨trivial,Ag _⟩
  ·rw[AN]at a;subst a;exact⟨by show Sy.finish∈J5;decide+kernel,Ag _⟩
 ·show 1+MM (Mn .DECL 4096 0)<=BB/\(0+MM (Tm .finish 0)<=BB/\True);exact⟨by decide+kernel,by decide+kernel,trivial⟩
theorem A99 (h:k<26):Sy.kept k∈J5:=by unfold J5;exact AU _ (AQ _ (BN.mpr ⟨k,EL.mpr h,rfl⟩))
theorem A82 (h:k<33):Sy.sign k∈J5:=by unfold J5;exact AQ _ (BN.mpr ⟨k,EL.mpr h,rfl⟩)
theorem BU1 (h:wordTok w=some t):F5 t∈J5:=by
 unfold wordTok at h;cases w with
 |nil=>cases h
 |cons c r=>
  dsimp only at h;split at h
  ·obtain⟨n,_,rfl⟩:=Ay.mp h;show Sy.number∈J5;decide
  ·split at h
   ·cases h
   ·split at h
    ·rename_i k a;cases h;have:=(BG.mp a).1;exact A99 this
    ·cases h;show Sy.name∈J5;decide
theorem BM0 (h:signAt b=some (k,n)):k<33:=by
 unfold signAt at h;split at h
 ·rename_i j a;cases h;exact(BG.mp a).1
 ·cases h
theorem AI1:∀(f p:Nat) (l:Bytes),∀t∈(tokensFrom f p l).1,F5 t.tok∈J5:=by
 intro f
 induction f with
 |zero=>intro p l t ht;cases ht
 |succ f ih=>
  intro p l;cases l with
  |nil=>intro t ht;cases ht
  |cons c r=>
   unfold tokensFrom;split
   ·exact ih _ _
   ·split
    ·exact ih _ _
    ·split
     ·cases hwt:wordTok ((c::r).takeWhile isWordByte)with
      |some tk=>
       intro t ht;simp only[hwt]at ht;rcases AK.mp ht with rfl |ht
       ·exact BU1 hwt
       ·exact ih _ _ t ht
      |none=>intro t ht;simp only[hwt]at ht;cases ht
     ·split
      ·rename_i k m hs;intro t ht;rcases AK.mp ht with rfl |ht
       ·exact A82 (BM0 hs)
       ·exact ih _ _ t ht
      ·intro t ht;cases ht
theorem BJ1 (b:Bytes)(i:Nat):(O5 b).cy i∈J5:=by
 unfold Tx.cy;cases e:(O5 b).A[i]? with
 |some t=>exact AI1 _ _ _ t (Az e)
 |none=>show(if(O5 b).nn.isSome=true then Sy.nothing else .finish)∈J5;split<;>decide
def Fit (N:Nat)(o:List Op):Prop:=∀p∈o,p.c.length<=N+1/\p.i<=N
theorem BA3 {cy:Nat->Sy}{c:Cf}(h:Fit N o)(e:step cy N f fs i o=.go c):Fit N c.opn:=by
 unfold step at e;split at e
 ·cases e
 rename_i hNi;split at e
 ·unfold AC9 at e;split at e
  ·split at e
   ·split at e
    ·rename_i hl;cases e;intro p hp;rcases AK.mp hp with rfl |hp
     ·refine⟨?_,(h _ (AC _ (AG ..))).2⟩;show(_++[_]).length<=N+1;rw[AO,Cu];omega
     ·exact h p (AC _ (AC _ hp))
    ·cases e
   ·cases e
  ·cases e
 split at e
 ·cases e
 obtain⟨fm,sb,room,dp⟩:=f;cases fm with
 |once=>
  dsimp only at e;split at e
  ·cases e
  cases sb with
  |t y=>cases e;exact h
  |n x=>
   cases e;intro p hp;rcases AY.mp hp with hp |hp
   ·unfold b9 at hp;split at hp
    ·rw[AN]at hp;subst hp;exact⟨Ag _,Nat.le_of_not_lt hNi⟩
    ·cases hp
   ·exact h p hp
 |maybe=>dsimp only at e;split at e<;>(cases e;exact h)
 |many=>dsimp only at e;split at e<;>(cases e;exact h)
 |more=>dsimp only at e;split at e<;>(cases e;exact h)
 |fin=>dsimp only at e;split at e<;>(cases e;exact h)
theorem B16:Fit N [op0]:=fun p a=>by rw[AN]at a;subst a;exact⟨Ag _,Ag _⟩
open My
theorem BB5 (h:Ab8 b (.fault k i)):∃e,readAll b=.error e/\e.kind=k/\e.at_=(O5 b).plc i:=by
 unfold Ab8 at h;split at h
 ·rename_i e a;obtain⟨p,c,_,d⟩:=h;cases d;exact⟨e,a,rfl,c⟩
 ·obtain⟨f,e,_⟩:=h;cases e
theorem BN6 (h:Ab8 b (.done [⟨.PROGRAM,0,nd⟩])):∃P,readAll b=.ok (P,pts (O5 b) nd)/\SR (O5 b) (l8 P) nd 0 (O5 b).N:=by
 unfold Ab8 at h;split at h
 ·obtain⟨p,_,_,e⟩:=h;cases e
 ·rename_i P l a;obtain⟨c,e,d,f,_⟩:=h;cases e;subst f;exact⟨P,a,d⟩
theorem BR2 (h:Ab8 b (.done [⟨.PROGRAM,0,nd⟩])):(tokens b).2=none:=by
 unfold Ab8 at h;split at h
 ·obtain⟨p,_,_,e⟩:=h;cases e
 ·obtain⟨a,e,d,f,c⟩:=h;exact c
def Bl3 (l:Bytes)(t:Token):Prop:=(wordTok (l.takeWhile isWordByte)=some t.tok/\t.len=(l.takeWhile isWordByte).length)∨∃k,signAt l=some (k,t.len)/\t.tok=.sign k
def Ba1 (a b:Token):Prop:=a.at_+a.len<=b.at_
structure TkF (p:Nat)(l:Bytes)(A:List Token):Prop where
 pw:A.Pairwise Ba1
 ok:∀t∈A,p<=t.at_/\1<=t.len/\t.at_+t.len<=p+l.length/\Bl3 (l.drop (t.at_-p)) t
theorem TkF.skip (h:TkF (p+n) (l.drop n) A)(e:n<=l.length):TkF p l A:=by
 refine⟨h.pw,fun t b=>?_⟩;obtain⟨f,c,d,a⟩:=h.ok t b;rw[BF]at d;refine⟨by omega,c,by omega,?_⟩;rw[Da]at a;have:n+(t.at_-(p+n))=t.at_-p:=by omega
 rw[this]at a;exact a
theorem TkF.cons (d:t.at_=p)(e:1<=t.len)(f:t.len<=l.length)(g:Bl3 l t)(h:TkF (p+t.len) (l.drop t.len) A):TkF p l (t::A):=by
 have c:=h.skip f;refine⟨List.pairwise_cons.mpr ⟨fun b a=>?_,c.pw⟩,fun b a=>?_⟩
 ·have:=(h.ok b a).1;unfold Ba1;omega
 ·rcases AK.mp a with rfl |a
  ·refine⟨by omega,e,by omega,?_⟩;rw[d,Ds];exact g
  ·exact c.ok b a
theorem BU7 (h:signAt b=some (k,n)):n<=b.length:=by
 unfold signAt at h;split at h
 ·rename_i j a;cases h;obtain⟨c,d,_⟩:=BG.mp a;have e:=(EN.mp d).length_le;have:signs.getD k []=signs[k]:=by rw[Bz,Aj c];rfl
  rw[this];exact e
 ·cases h
theorem tkF:∀(f p:Nat) (l:Bytes),TkF p l (tokensFrom f p l).1
 |0,p,l=>⟨List.Pairwise.nil,fun t a=>nomatch a⟩
 |f+1,p,[]=>⟨List.Pairwise.nil,fun t a=>nomatch a⟩
 |f+1,p,c::r=>by
  unfold tokensFrom;split
  ·exact TkF.skip (n:=1) (tkF f (p+1) r) (by simp)
  ·split
   ·refine TkF.skip (tkF f (p+noteLen (c::r)) ((c::r).drop (noteLen (c::r)))) ?_;unfold noteLen;exact(Bj _).length_le
   ·split
    ·rename_i g;have h:((c::r).takeWhile isWordByte).length<=(c::r).length:=(Bj _).length_le;have d:1<=((c::r).takeWhile isWordByte).length:=by rw[BZ,AL g];simp
     cases b:wordTok ((c::r).takeWhile isWordByte)with
     |some i=>simp only[b];exact TkF.cons (t:=⟨p,_,i⟩) rfl d h (.inl ⟨b,rfl⟩) (tkF f _ _)
     |none=>simp only[b];exact⟨List.Pairwise.nil,fun t a=>nomatch a⟩
    ·split
     ·rename_i k n e;have d:=(My.signAt_pos e).1;exact TkF.cons (t:=⟨p,n,.sign k⟩) rfl d (BU7 e) (.inr ⟨k,e,rfl⟩) (tkF f _ _)
     ·exact⟨List.Pairwise.nil,fun t a=>nomatch a⟩
theorem BH3 (b:Bytes):TkF 0 b (tokens b).1:=tkF _ _ _
theorem w9 (h:wordTok w=some (.name s)):s=w:=by
 unfold wordTok at h;cases w with
 |nil=>cases h
 |cons c r=>
  dsimp only at h;split at h
  ·obtain⟨n,_,e⟩:=Ay.mp h;cases e
  ·split at h
   ·cases h
   ·split at h
    ·cases h
    ·cases h;rfl
theorem Az0 {b:Type}(p:b->Bool):∀(l:List b),l.take (l.takeWhile p).length=l.takeWhile p
 |[]=>rfl
 |a::r=>by
  by_cases h:p a=true
  ·rw[BZ,AL h,AZ,List.take_succ_cons,Az0 p r]
  ·rw[BZ,AD h];rfl
section
variable {ns:List Int}
theorem Ae2 (l:List Int)(n:Nat):(toB l).take n=toB (l.take n):=by unfold toB;rw[List.map_take]
end
theorem SR.le (h:SR X l ns i j):i<=j:=by
 induction h with
 |nil=>exact AB _
 |nm _ _ a=>omega
 |kw _ _ a=>omega
 |sg _ _ a=>omega
 |ob h _ a=>have:=h.lt;omega
 |nd _ h _ _ a=>omega
mutual
noncomputable def Wn:Nd->Prop
 |.mk k i j _ _ _ c=>i<j/\Wl i j c/\(∀m∈c,i<m.i∨m.j<j)/\k≠.n .CHOICE
noncomputable def Wl:Nat->Nat->List Nd->Prop
 |a,b,[]=>a<=b
 |a,b,n::r=>a<=n.i/\Wn n/\Wl n.j b r
end
theorem AT5:Wn (.mk k i j p s l c)↔i<j/\Wl i j c/\(∀m∈c,i<m.i∨m.j<j)/\k≠.n .CHOICE:=by unfold Wn;exact Iff.rfl
theorem V3:Wl a b []↔a<=b:=by unfold Wl;exact Iff.rfl
theorem W7:Wl a b (n::r)↔a<=n.i/\Wn n/\Wl n.j b r:=by conv=>lhs;unfold Wl
theorem Wn.lt (h:Wn n):n.i<n.j:=by obtain⟨k,i,j,p,s,l,c⟩:=n;exact(AT5.mp h).1
theorem Wn.set (h:Wn n)(v:Nat):Wn (n.setLe v):=by obtain⟨k,i,j,p,s,l,c⟩:=n;exact AT5.mpr (AT5.mp h)
theorem BJ3 (n:Nd)(v:Nat):(n.setLe v).i=n.i/\(n.setLe v).j=n.j:=by obtain⟨k,i,j,p,s,l,c⟩:=n;exact⟨rfl,rfl⟩
theorem Wl.le:∀{l:List Nd} {a b:Nat},Wl a b l->a<=b
 |[],a,b,h=>V3.mp h
 |n::r,a,b,h=>by obtain⟨e,c,d⟩:=W7.mp h;have:=c.lt;have:=Wl.le d;omega
theorem Wl.mem:∀{l:List Nd} {a b:Nat},Wl a b l->∀n∈l,a<=n.i/\n.j<=b/\Wn n
 |[],a,b,h,n,c=>by cases c
 |m::r,a,b,h,n,c=>by
  obtain⟨f,d,e⟩:=W7.mp h;rcases AK.mp c with rfl |q
  ·exact⟨f,e.le,d⟩
  ·have q:=Wl.mem e n q;have:=d.lt;exact⟨by omega,by omega,q.2.2⟩
theorem Wl.app:∀{l r:List Nd} {a b c:Nat},Wl a b l->Wl b c r->Wl a c (l++r)
 |[],r,a,b,c,h,d=>by
  have:=V3.mp h;cases r with
  |nil=>exact V3.mpr (BV this (V3.mp d))
  |cons n r=>obtain⟨g,e,f⟩:=W7.mp d;exact W7.mpr ⟨by omega,e,f⟩
 |n::l,r,a,b,c,h,d=>by obtain⟨g,e,f⟩:=W7.mp h;exact W7.mpr ⟨g,e,Wl.app f d⟩
theorem Wl.up (h:Wl a b l)(c:a'<=a)(d:b<=b'):Wl a' b' l:=by have:=Wl.app (V3.mpr c) (Wl.app h (V3.mpr d));rw[AE]at this;exact this
theorem Wl.one {n:Nd}{a b:Nat}:Wl a b [n]↔a<=n.i/\Wn n/\n.j<=b:=by rw[W7,V3]
theorem Wl.set (h:Wl a b [n]):Wl a b [n.setLe v]:=by obtain⟨c,d,e⟩:=Wl.one.mp h;exact Wl.one.mpr ⟨by rw[(BJ3 n v).1];exact c,d.set v,by rw[(BJ3 n v).2];exact e⟩
theorem W1 (h:Wl a b c)(d:i<j)(e:i<=a)(f:b<=j)(q:i<a∨b<j)(g:k≠.n .CHOICE:=by intro z;cases z):Wl i j [.mk k i j p s l c]:=
 Wl.one.mpr ⟨AB _,AT5.mpr ⟨d,h.up e f,fun m o=>by have:=h.mem m o;omega,g⟩,AB _⟩
theorem W2 (h:Wl i j c)(a:i<j)(b:∀m∈c,i<m.i∨m.j<j)(d:k≠.n .CHOICE:=by intro z;cases z):Wl i j [.mk k i j p s l c]:=Wl.one.mpr ⟨AB _,AT5.mpr ⟨a,h,b,d⟩,AB _⟩
section
variable {X:Tx}
theorem Rp.w (h:Rp X o ns i j):Wl i j ns:=by
 induction h with
 | @num i _ e=>exact W1 (a:=i+1) (V3.mpr (AB _)) (by omega) (by omega) (by omega) (by omega)
 | @name i _ e=>exact W1 (a:=i+1) (V3.mpr (AB _)) (by omega) (by omega) (by omega) (by omega)
 |call _ _ h _ ih=>have:=h.lt;exact W1 ih (by omega) (by omega) (by omega) (by omega)
 |par _ h _ ih=>have:=h.lt;exact W1 ih (by omega) (by omega) (by omega) (by omega)
 |hw _ _ _ _ _ h _ ih=>have:=h.lt;exact W1 ih (by omega) (by omega) (by omega) (by omega)
 |abs _ _ h _ ih=>have:=h.lt;exact W1 ih (by omega) (by omega) (by omega) (by omega)
 |two _ _ _ h _ h' _ ih ih'=>have:=h.lt;have:=h'.lt;exact W1 (ih.app (ih'.up (BX _) (AB _))) (by omega) (by omega) (by omega) (by omega)
 |one _ _ h _ ih=>have:=h.lt;exact W1 ih.set (by omega) (by omega) (by omega) (by omega)
 | @bin i j m o x y n n' _ h _ h' _ _ ih ih'=>
  have:=h.lt;have:=h'.lt;have q:=(Wl.set ih (v:=lowL (AF7 o))).app ((Wl.set ih' (v:=AF7 o+1)).up (BX _) (AB _));refine W2 q (by omega) fun m hm=>?_;rcases AK.mp hm with rfl |hm
  ·have:=(Wl.mem (Wl.set (v:=lowL (AF7 o)) ih) _ (AN.mpr rfl)).2.1;omega
  ·have:=(Wl.mem (Wl.set (v:=AF7 o+1) ih') _ hm).1;omega
 |choice h _ h' _ h'' _ ih ih' ih''=>
  have:=h.lt;have:=h'.lt;have:=h''.lt;have q:=(Wl.set ih (v:=2)).app ((ih'.up (BX _) (AB _)).app (ih''.up (BX _) (AB _)));refine W2 q (by omega) fun m hm=>?_;rcases AK.mp hm with rfl |hm
  ·have:=(Wl.mem (Wl.set (v:=2) ih) _ (AN.mpr rfl)).2.1;omega
  ·rcases AK.mp hm with rfl |hm
   ·have:=(Wl.mem ih' _ (AN.mpr rfl)).1;omega
   ·have:=(Wl.mem ih'' _ hm).1;omega
 |index h _ h' _ _ ih ih'=>have:=h.lt;have:=h'.lt;exact W1 ((Wl.set ih (v:=12)).app (ih'.up (BX _) (AB _))) (by omega) (by omega) (by omega) (by omega)
 |index2 h _ h' _ h'' _ _ ih ih' ih''=>have:=h.lt;have:=h'.lt;have:=h''.lt;exact W1 ((Wl.set ih (v:=12)).app ((ih'.up (BX _) (AB _)).app (ih''.up (BX _) (AB _)))) (by omega) (by omega) (by omega) (by omega)
 |past h _ h' _ ih ih'=>
  have:=h.lt;have:=h'.lt;have q:=(Wl.set ih (v:=12)).app (ih'.up (BX _) (AB _));refine W2 q (by omega) fun m hm=>?_;rcases AK.mp hm with rfl |hm
  ·have:=(Wl.mem (Wl.set (v:=12) ih) _ (AN.mpr rfl)).2.1;omega
  ·have:=(Wl.mem ih' _ hm).1;omega
 |ovr _ _ _ _ h _ h' ih ih'=>have:=h.lt;have:=h'.lt;exact W1 (ih.app (ih'.up (BX _) (AB _))) (by omega) (by omega) (by omega) (by omega)
 |sheet _ _ _ _ _ h _ h' _ h'' ih ih' ih''=>have:=h.lt;have:=h'.lt;have:=h''.lt;exact W1 (ih.app ((ih'.up (BX _) (AB _)).app (ih''.up (BX _) (AB _)))) (by omega) (by omega) (by omega) (by omega)
 | @sznum i _ e=>exact W1 (a:=i+1) (V3.mpr (AB _)) (by omega) (by omega) (by omega) (by omega)
 | @szname i _ e=>exact W1 (a:=i+1) (V3.mpr (AB _)) (by omega) (by omega) (by omega) (by omega)
 |szpar _ h _ ih=>have:=h.lt;exact W1 ih (by omega) (by omega) (by omega) (by omega)
 |arone _ ih=>exact ih
 |arcons _ h _ h' ih ih'=>exact ih.app (ih'.up (BX _) (AB _))
noncomputable def ldB:List It->Bool
 |.nm _::_=>true
 |.kw _::_=>true
 |.sg _::_=>true
 |_=>false
mutual
noncomputable def gd:It->Bool
 |.nd x l=>ldB l&&gds l&&decide (x≠.CHOICE)
 |.nm _=>true
 |.kw _=>true
 |.sg _=>true
 |.ob _=>true
noncomputable def gds:List It->Bool
 |[]=>true
 |x::r=>gd x&&gds r
end
theorem G8:gds []=true:=by unfold gds;rfl
theorem G0:gds (x::r)=(gd x&&gds r):=by conv=>lhs;unfold gds
theorem Be7:gd (.nd x l)=(ldB l&&gds l&&decide (x≠.CHOICE)):=by conv=>lhs;unfold gd
theorem AB7:∀{l:List It},gds l=true↔∀x∈l,gd x=true
 |[]=>by rw[G8];simp
 |x::r=>by rw[G0,Ar,AB7 (l:=r)];simp
theorem L8 (h:gds l=true)(h':gds r=true):gds (l++r)=true:=AB7.mpr fun x a=>(AY.mp a).elim (AB7.mp h x) (AB7.mp h' x)
theorem J4 (h:gd x=true)(h':gds r=true):gds (x::r)=true:=by rw[G0,h,h'];rfl
theorem y9:∀{l:List (List It)},(∀x∈l,gds x=true)->gds (Z6 l)=true
 |[],_=>G8
 |[x],h=>h x (AN.mpr rfl)
 |x::y::l,h=>L8 (h x (AG ..)) (J4 (by unfold gd;rfl) (y9 (l:=y::l) fun z a=>h z (AC _ a)))
theorem i7:gd (.nm b)=true:=by unfold gd;rfl
theorem AC4:gd (.kw b)=true:=by unfold gd;rfl
theorem L3:gd (.sg b)=true:=by unfold gd;rfl
theorem AF6:gd (.ob b)=true:=by unfold gd;rfl
theorem BY1 (h:ldB l=true)(h':gds l=true)(a:decide (x≠.CHOICE)=true:=by rfl):gd (.nd x l)=true:=by rw[Be7,h,h',a];rfl
theorem AW9 (l:List Bytes):gds (R5 l)=true:=y9 fun x a=>by obtain⟨b,_,rfl⟩:=BN.mp a;exact J4 i7 G8
theorem An6 (k:KindEx):gds (u0 k)=true:=by unfold u0;refine J4 AC4 ?_;split<;>simp[G0,G8,L3,AF6]
theorem Bm4 (o:Option Ex):gds (AZ6 o)=true:=by cases o<;>simp[AZ6,G0,G8,L3,AF6]
theorem Bm2 (p:Port):gds (AH2 p)=true:=J4 i7 (J4 L3 (L8 (An6 _) (Bm4 _)))
theorem Bp8 (p:EndPort):gds (Aj1 p)=true:=J4 i7 (J4 L3 (L8 (An6 _) (J4 AC4 (J4 AF6 (Bm4 _)))))
theorem BW2 (s:StateDecl):gds (U4 s)=true:=J4 AC4 (J4 i7 (J4 L3 (L8 (An6 _) (by simp[G0,G8,L3,AF6]))))
theorem Bx8 (d:Do):gds (Aq8 d)=true/\ldB (Aq8 d)=true:=by
 cases d with
 |bind s e=>exact⟨by simp[Aq8,G0,G8,L3,AF6,i7,AC4],rfl⟩
 |put s o e=>cases o<;>exact⟨by simp[Aq8,G0,G8,L3,AF6,i7,AC4],rfl⟩
theorem BB1 (l:List Bytes)(r:List It)(h:ldB r=true):ldB (R5 l++r)=true:=by
 cases l with
 |nil=>exact h
 |cons b l=>cases l<;>rfl
theorem BH6 (d:Wire):gds (O3 d)=true/\ldB (O3 d)=true:=by
 cases d with
 |node o f i=>
  cases o with
  |nil=>exact⟨by simp[O3,G0,G8,AF6,L3],rfl⟩
  |cons s o=>exact⟨L8 (AW9 _) (J4 L3 (J4 i7 (J4 L3 (L8 (AW9 _) (by simp[G0,G8,L3]))))),BB1 _ _ rfl⟩
 |delay s n v x=>exact⟨by simp[O3,G0,G8,L3,AF6,i7,AC4],rfl⟩
 |same s x=>exact⟨by simp[O3,G0,G8,L3,i7],rfl⟩
theorem BB8 {b:Type}{f:b->It}(h:∀a,gd (f a)=true)(l:List b):gds (l.map f)=true:=AB7.mpr fun x c=>by obtain⟨a,_,rfl⟩:=BN.mp c;exact h a
theorem Ap8 (l:List Port):gds (AD0 l)=true:=y9 fun x a=>by obtain⟨b,_,rfl⟩:=BN.mp a;exact J4 (BY1 rfl (Bm2 b)) G8
theorem BI2 (l:List EndPort):gds (AQ8 l)=true:=y9 fun x a=>by obtain⟨b,_,rfl⟩:=BN.mp a;exact J4 (BY1 rfl (Bp8 b)) G8
theorem Bh3 (d:Decl):gd (.nd .DECL (J8 d))=true:=by
 refine BY1 (by cases d<;>rfl) ?_;cases d with
 |const s e=>simp[J8,G0,G8,L3,AF6,i7,AC4]
 |table s c l=>simp[J8,G0,G8,L3,AF6,i7,AC4]
 |fn s a e=>exact J4 AC4 (J4 i7 (J4 L3 (L8 (AW9 _) (by simp[G0,G8,L3,AF6]))))
 |node s i o b f=>exact J4 AC4 (J4 i7 (J4 L3 (L8 (Ap8 _) (J4 L3 (J4 L3 (J4 L3 (L8 (Ap8 _) (J4 L3 (J4 L3 (L8 (BB8 (fun s=>BY1 rfl (BW2 s)) _) (L8 (BB8 (fun d=>BY1 (Bx8 d).2 (Bx8 d).1) _) (J4 L3 G8))))))))))))
 |graph s i o g=>exact J4 AC4 (J4 i7 (J4 L3 (L8 (BI2 _) (J4 L3 (J4 L3 (J4 L3 (L8 (BI2 _) (J4 L3 (J4 L3 (L8 (BB8 (fun d=>BY1 (BH6 d).2 (BH6 d).1) _) (J4 L3 G8)))))))))))
theorem Bf3 (P:Prog):gds (l8 P)=true:=BB8 Bh3 P
theorem SR.w2 (h:SR X l ns i j):gds l=true->Wl i j ns/\(ldB l=true->∀m∈ns,i<m.i):=by
 have tok:∀{x:It} {r:List It} {ns:List Nd} {i j:Nat},(gds r=true->Wl (i+1) j ns/\(ldB r=true->∀m∈ns,i+1<m.i))->gds (x::r)=true->Wl i j ns/\(ldB (x::r)=true->∀m∈ns,i<m.i):=by intro x r ns i j ih g;rw[G0,Ar]at g;have q:=(ih g.2).1;exact⟨q.up (BX _) (AB _),fun _ m hm=>(q.mem m hm).1⟩
 induction h with
 |nil=>intro _;exact⟨V3.mpr (AB _),fun _ m hm=>by cases hm⟩
 |nm _ _ ih=>exact tok ih
 |kw _ _ ih=>exact tok ih
 |sg _ _ ih=>exact tok ih
 |ob h _ ih=>intro g;rw[G0,Ar]at g;exact⟨h.w.app (ih g.2).1,fun z=>by cases z⟩
 | @nd x l r ns ms i m j h hlt _ ih1 ih2=>intro g;rw[G0,Be7,Ar,Ar,Ar,BC]at g;have w1:=ih1 g.1.1.2;exact⟨Wl.app (W2 (k:=.n x) (p:=false) (s:=13) (l:=0) w1.1 hlt (fun m hm=>.inl (w1.2 g.1.1.1 m hm)) (fun z=>g.1.2 (by injection z))) (ih2 g.2).1,fun z=>by cases z⟩
theorem BZ4 {P:Prog}{ns:List Nd}{i j:Nat}(h:SR X (l8 P) ns i j):Wl i j ns:=(h.w2 (Bf3 P)).1
end
end Rd
namespace Wr
open Sw
inductive OT where
 |nm (s:Bytes) |num (n:Nat) |kept (k:Nat) |sgn (k:Nat) |one (k:Nat) |col
 deriving DecidableEq
noncomputable def OT.txt:OT->Bytes
 |.nm s=>s
 |.num n=>decimal n
 |.kept k=>Sw.kept.getD k []
 |.sgn k=>signs.getD k []
 |.one k=>signs.getD k []
 |.col=>signs.getD 23 []
noncomputable def P7:OT->Bool
 |.sgn k=>k==24||k==25||k==28||k==30||k==26||k==23
 |_=>false
noncomputable def G6:OT->Bool
 |.sgn k=>k==27||k==29||k==26
 |.one _=>true
 |_=>false
noncomputable def A39:OT->Bool
 |.nm _=>true
 |.num _=>true
 |.kept k=>decide (18<=k)||k==11||k==0||k==9||k==8
 |.sgn k=>k==28
 |_=>false
noncomputable def lineEnd:OT->Bool
 |.sgn k=>k==31||k==24||k==32
 |_=>false
noncomputable def apart (b l:OT):Bool:=
 if P7 l||G6 b then false
 else if l=.sgn 27 then !A39 b
 else if l=.sgn 29 then decide (b=.sgn 21)
 else true
noncomputable def blanks (b l:OT)(a:Bool):Nat:=
 if lineEnd b then(if a&&decide (l≠.sgn 32)then 2 else 0)else if apart b l then 1 else 0
noncomputable def K9:OT->Bool->List OT->Bytes
 |_,_,[]=>[]
 |b,i,l::r=>List.replicate (blanks b l i) BLANK++(l.txt++((if lineEnd l then [LF]else [])++K9 l (decide (l=.sgn 31)||(i&&decide (l≠.sgn 32))) r))
noncomputable def hd (ts:List OT):OT:=ts.headD .col
noncomputable def lst (ts:List OT):OT:=ts.getLast?.getD .col
structure Txt (ts:List OT)(t:Bytes):Prop where
 ne:ts≠[]
 no:lineEnd (lst ts)=false
 em:∀b i r,K9 b i (ts++r)=List.replicate (blanks b (hd ts) i) BLANK++(t++K9 (lst ts) i r)
noncomputable def gap (b l:OT):Bytes:=if apart b l then [BLANK]else []
theorem B9 (h:us≠[]):lst (ts++us)=lst us:=by
 unfold lst;rw[List.getLast?_append];cases e:us.getLast? with
 |none=>exact(h (List.getLast?_eq_none_iff.mp e)).elim
 |some x=>rfl
theorem D3 (h:ts≠[]):hd (ts++us)=hd ts:=by
 cases ts with
 |nil=>exact(h rfl).elim
 |cons a r=>rfl
theorem Txt.one {x:OT}(h:lineEnd x=false):Txt [x] x.txt:=by
 refine⟨by simp,h,fun b i r=>?_⟩;have a:¬x=.sgn 31:=fun q=>by rw[q]at h;cases h
 have c:x≠.sgn 32:=fun q=>by rw[q]at h;cases h
 show List.replicate (blanks b x i) BLANK++(x.txt++((if lineEnd x=true then [LF]else [])++K9 x (decide (x=.sgn 31)||(i&&decide (x≠.sgn 32))) r))=_;rw[h,AX a,AR c];simp[hd,lst]
theorem Txt.app (a:Txt ts t)(c:Txt us u):Txt (ts++us) (t++(gap (lst ts) (hd us)++u)):=by
 refine⟨by simp[a.ne],by rw[B9 c.ne];exact c.no,fun b i r=>?_⟩;rw[AF,a.em,c.em,D3 a.ne,B9 c.ne];have:List.replicate (blanks (lst ts) (hd us) i) BLANK=gap (lst ts) (hd us):=by unfold blanks gap;rw[a.no];cases apart (lst ts) (hd us)<;>rfl
 rw[this];simp only[AF]
theorem Txt.app' (a:Txt ts t)(b:Txt us u)(c:gap (lst ts) (hd us)=g)(d:v=t++(g++u)):Txt (ts++us) v:=by subst d;rw[←c];exact a.app b
noncomputable def O7 (o:OneOp):Nat:=if o=0 then 10 else if o=1 then 17 else if o=2 then 18 else 33
noncomputable def S3 (o:Op):Nat:=([8,7,19,3,5,6,20,4,15,16,14,1,2,9,10,11,12,13]:List Nat).getD o 33
noncomputable def inP (l:List OT):List OT:=.sgn 27::(l++[.sgn 28])
noncomputable def parIf (c:Prop)[Decidable c](l:List OT):List OT:=if c then inP l else l
noncomputable def Y2:Ex->Bool
 |.num _=>true
 |.name _=>true
 |_=>false
mutual
noncomputable def oE:Ex->List OT
 |.num n=>[.num n]
 |.name s=>[.nm s]
 |.call f l=>.nm f::inP (b4 l)
 |.one o a=>.one (O7 o)::parIf (a.level<10) (oE a)
 |.bin o a b=>parIf (a.level<(if 1+levelOfOp o=3 then 4 else 1+levelOfOp o)) (oE a)++(.sgn (S3 o)::parIf (b.level<1+levelOfOp o+1) (oE b))
 |.choice c a b=>parIf (c.level<1) (oE c)++(.sgn 22::(oE a++(.col::oE b)))
 |.index a i=>parIf (a.level<11) (oE a)++(.sgn 29::(oE i++[.sgn 30]))
 |.index2 a i j=>parIf (a.level<11) (oE a)++(.sgn 29::(oE i++(.sgn 25::(oE j++[.sgn 30]))))
 |.past a k=>parIf (a.level<11) (oE a)++(.sgn 26::parIf (Y2 k=false) (oE k))
 |.held c a=>.kept 6::.kept (18+c)::inP (oE a)
 |.wrapped c a=>.kept 17::.kept (18+c)::inP (oE a)
 |.round a k=>.kept 11::inP (oE a++(.sgn 25::oE k))
 |.abs a=>.kept 0::inP (oE a)
 |.min a b=>.kept 9::inP (oE a++(.sgn 25::oE b))
 |.max a b=>.kept 8::inP (oE a++(.sgn 25::oE b))
 |.sum i n a=>.kept 15::.nm i::.sgn 19::(parIf (Y2 n=false) (oE n)++(.sgn 23::oE a))
 |.row i n a=>.kept 12::.nm i::.sgn 19::(parIf (Y2 n=false) (oE n)++(.sgn 23::oE a))
 |.sheet i j n m a=>.kept 13::.nm i::.sgn 25::.nm j::.sgn 19::(parIf (Y2 n=false) (oE n)++(.sgn 25::(parIf (Y2 m=false) (oE m)++(.sgn 23::oE a))))
noncomputable def b4:List Ex->List OT
 |[]=>[]
 |[a]=>oE a
 |a::b::l=>oE a++(.sgn 25::b4 (b::l))
end
noncomputable def oS (e:Ex):List OT:=parIf (Y2 e=false) (oE e)
noncomputable def BG4:OT->Prop
 |.nm _=>True
 |.num _=>True
 |.one _=>True
 |.sgn k=>k=27
 |.kept _=>True
 |.col=>False
noncomputable def LsOk:OT->Prop
 |.nm _=>True
 |.num _=>True
 |.sgn k=>k=28∨k=30
 |_=>False
noncomputable def sep (b:OT):Bool:=!G6 b&&(!A39 b&&!lineEnd b)
theorem E1 (a:sep b=true)(d:BG4 x):gap b x=[BLANK]:=by
 unfold sep at a;simp only[Ar,Bool.not_eq_true']at a;unfold gap apart;have e:P7 x=false:=by cases x<;>simp_all[BG4,P7]
 rw[e,a.1,a.2.1];have c:¬x=.sgn 29:=fun q=>by rw[q]at d;cases d
 rw[AD c];simp
theorem R6 (a:G6 b=true):gap b x=[]:=by unfold gap apart;rw[a];simp
theorem E2 (a:P7 x=true):gap b x=[]:=by unfold gap apart;rw[a];simp
theorem LsOk.no (h:LsOk x):lineEnd x=false/\G6 x=false/\x≠.sgn 21:=by
 cases x with
 |sgn k=>rcases h with rfl |rfl<;>decide
 |nm _=>simp[lineEnd,G6]
 |num _=>simp[lineEnd,G6]
 |_=>cases h
theorem Ae7 (h:LsOk x)(c:P7 (.sgn k)=false)(a:k≠27)(b:k≠29):gap x (.sgn k)=[BLANK]:=by
 have e:apart x (.sgn k)=true:=by unfold apart;rw[c,h.no.2.1,AD (by simp),AD (by simp[a]),AD (by simp[b])]
 unfold gap;rw[e];rfl
theorem BM2 (h:LsOk x):gap x .col=[BLANK]:=by unfold gap apart;rw[h.no.2.1];simp[P7]
theorem AW8 (h:LsOk x):gap x (.sgn 29)=[]:=by
 have e:apart x (.sgn 29)=false:=by unfold apart;rw[h.no.2.1,AD (by simp[P7]),AD (by simp),AL rfl,AX h.no.2.2]
 unfold gap;rw[e];rfl
structure ETxt (ts:List OT)(t:Bytes):Prop where
 T:Txt ts t
 H:BG4 (hd ts)
 L:LsOk (lst ts)
theorem ETxt.inP (h:ETxt ts t):ETxt (inP ts) (inPar t):=by
 have e:Wr.inP ts=[.sgn 27]++(ts++[.sgn 28]):=rfl;refine⟨?_,rfl,?_⟩
 ·rw[e];refine Txt.app' (Txt.one (x:=.sgn 27) rfl) (Txt.app' h.T (Txt.one (x:=.sgn 28) rfl) (g:=[]) (E2 rfl) rfl) (g:=[]) (R6 rfl) ?_;rfl
 ·rw[e,B9 (by simp),B9 (by simp)];exact .inl rfl
theorem ETxt.parIf [Decidable c](h:ETxt ts t):ETxt (parIf c ts) (if c then inPar t else t):=by
 unfold Wr.parIf;by_cases q:c
 ·rw[AL q,AL q];exact h.inP
 ·rw[AD q,AD q];exact h
theorem AY8 {a:Type}{l:List a}{i:Nat}{d:a}(h:l.length<=i):l.getD i d=d:=by rw[Bz,CO h];rfl
theorem Am0:∀o,o<18->P7 (.sgn (S3 o))=false/\S3 o≠27/\S3 o≠29/\sep (.sgn (S3 o))=true/\opText o=signs.getD (S3 o) []:=by decide
theorem Ao9 {o:Nat}(h:18<=o):opText o=[]:=by
 have:(((List.range 9).flatMap opsOf).find? fun(x:String×Op)=>x.2==o)=none:=by
  rw[List.find?_eq_none];intro x c;have a:∀x∈(List.range 9).flatMap opsOf,x.2<18:=by decide
  have b:x.2<18:=a x c;have d:¬x.2=o:=fun q=>by rw[q]at b;exact absurd b (Bx.mpr h)
  simpa using d
 unfold opText;rw[this];rfl
theorem Ao2 (o:Nat):P7 (.sgn (S3 o))=false/\S3 o≠27/\S3 o≠29/\sep (.sgn (S3 o))=true/\opText o=signs.getD (S3 o) []:=by
 by_cases h:o<18
 ·exact Am0 o h
 ·have e:S3 o=33:=AY8 (by show 18<=o;omega);rw[e,Ao9 (by omega)];decide
theorem Bc7 (o:Nat):oneText o=signs.getD (O7 o) []:=by
 unfold oneText O7;by_cases a:o=0
 ·subst a;decide
 by_cases b:o=1
 ·subst b;decide
 by_cases c:o=2
 ·subst c;decide
 rw[AD a,AD b,AD c];rw[AY8 (by show 3<=o;omega),AY8 (by decide)]
theorem AL1 (c:Code):codeText c=(OT.kept (18+c)).txt:=by
 unfold codeText OT.txt;have:keptNo "u8"=18:=by decide
 rw[this]
theorem Txt.cons (a:lineEnd x=false)(h:Txt ts t)(b:gap x (hd ts)=g)(c:v=x.txt++(g++t)):Txt (x::ts) v:=
 Txt.app' (Txt.one a) h b c
theorem C6 (h:ts≠[]):lst (x::ts)=lst ts:=B9 (ts:=[x]) h
theorem Txt.mid (a:Txt ts t)(b:lineEnd x=false)(c:Txt us u)(d:gap (lst ts) x=g1)(e:gap x (hd us)=g2)(f:v=t++(g1++(x.txt++(g2++u)))):Txt (ts++(x::us)) v:=
 Txt.app' a (Txt.cons b c e rfl) (show gap (lst ts) (hd (x::us))=g1 from d) f
theorem AX7 (e:Ex):e.sizeText=if Y2 e=false then inPar e.text else e.text:=by cases e<;>(first |rfl |(unfold Ex.sizeText Ex.text;rfl))
theorem v9 (h:ETxt (oE e) e.text):ETxt (oS e) e.sizeText:=by rw[AX7];exact h.parIf
theorem As7:Txt (inP []) (inPar []):=Txt.cons (x:=.sgn 27) rfl (Txt.one (x:=.sgn 28) rfl) (g:=[]) rfl rfl
theorem m8 (h:A39 x=true)(a:G6 x=false):gap x (.sgn 27)=[]:=by unfold gap apart;rw[a,h];simp[P7]
theorem V0 (a:lineEnd x=false)(b:A39 x=true)(c:G6 x=false)(d:BG4 x)(h:Txt (inP ts) (inPar t))(f:v=x.txt++inPar t):ETxt (x::inP ts) v:=by refine⟨Txt.cons a h (g:=[]) (m8 b c) f,d,?_⟩;rw[C6 (by simp[inP])];have e:inP ts=[.sgn 27]++(ts++[.sgn 28]):=rfl;rw[e,B9 (by simp),B9 (by simp)];exact .inl rfl
theorem m3 (b:ETxt ts t)(a:ETxt us u):ETxt (ts++(.sgn 25::us)) (t++(COMMA++u)):=by
 refine⟨Txt.mid b.T (x:=.sgn 25) rfl a.T (g1:=[]) (E2 rfl) (E1 (by decide) a.H) rfl,?_,?_⟩
 ·rw[D3 b.T.ne];exact b.H
 ·rw[B9 (by simp),C6 a.T.ne];exact a.L
theorem Ag0 (d:lineEnd x=false)(e:sep x=true)(f:BG4 x)(c:ETxt us n)(b:ETxt vs a)(h:w=x.txt++([BLANK]++(i++(ascii " < "++(n++(ascii ": "++a)))))):ETxt (x::.nm i::.sgn 19::(us++(.sgn 23::vs))) w:=by
 refine⟨?_,f,?_⟩
 ·refine Txt.cons d (Txt.cons (x:=.nm i) rfl (Txt.cons (x:=.sgn 19) rfl (Txt.mid c.T (x:=.sgn 23) rfl b.T (g1:=[]) (E2 rfl) (E1 (by decide) b.H) rfl) (g:=[BLANK]) ?_ rfl) (g:=[BLANK]) ?_ rfl) (g:=[BLANK]) ?_ ?_
  ·rw[D3 c.T.ne];exact E1 (by decide) c.H
  ·exact Ae7 (x:=.nm i) trivial rfl (by decide) (by decide)
  ·exact E1 e trivial
  ·exact h
 ·rw[C6 (by simp),C6 (by simp),C6 (by simp),B9 (by simp),C6 b.T.ne];exact b.L
theorem Aa7 (a:ETxt us u):lst (ts++(x::us))=lst us:=by rw[B9 (by simp),C6 a.T.ne]
mutual
theorem T3:(e:Ex)->ETxt (oE e) e.text
 |.num n=>by unfold oE Ex.text;exact⟨Txt.one (x:=.num n) rfl,trivial,trivial⟩
 |.name s=>by unfold oE Ex.text;exact⟨Txt.one (x:=.nm s) rfl,trivial,trivial⟩
 |.call f l=>by
  unfold oE Ex.text;refine V0 (x:=.nm f) rfl rfl rfl trivial ?_ rfl;cases l with
  |nil=>unfold b4 argsText;exact As7
  |cons a r=>exact(Bp1 (a::r) (by simp)).inP.T
 |.one o a=>by have h:=(T3 a).parIf (c:=a.level<10);unfold oE Ex.text;refine⟨Txt.cons (x:=.one (O7 o)) rfl h.T (g:=[]) (R6 rfl) (by rw[Bc7];rfl),trivial,?_⟩;rw[C6 h.T.ne];exact h.L
 |.bin o a b=>by
  have d:=(T3 a).parIf (c:=a.level<(if 1+levelOfOp o=3 then 4 else 1+levelOfOp o));have p:=(T3 b).parIf (c:=b.level<1+levelOfOp o+1);obtain⟨w,y,z,v,A⟩:=Ao2 o;unfold oE Ex.text;refine⟨Txt.mid d.T (x:=.sgn (S3 o)) ?_ p.T (Ae7 d.L w y z) (E1 v p.H) ?_,?_,?_⟩
  ·unfold sep at v;simp only[Ar,Bool.not_eq_true']at v;exact v.2.2
  ·rw[A];rfl
  ·rw[D3 d.T.ne];exact d.H
  ·rw[Aa7 p];exact p.L
 |.choice c a b=>by
  have d:=(T3 c).parIf (c:=c.level<1);have p:=T3 a;have q:=T3 b;unfold oE Ex.text;have t:Txt (oE a++(.col::oE b)) (a.text++(ascii " : "++b.text)):=Txt.mid p.T (x:=.col) rfl q.T (BM2 p.L) (E1 (by decide) q.H) rfl;refine⟨Txt.mid d.T (x:=.sgn 22) rfl t (g2:=[BLANK]) (Ae7 d.L rfl (by decide) (by decide)) ?_ rfl,?_,?_⟩
  ·rw[D3 p.T.ne];exact E1 (by decide) p.H
  ·rw[D3 d.T.ne];exact d.H
  ·rw[B9 (by simp),C6 (by simp),Aa7 q];exact q.L
 |.index a i=>by
  have d:=(T3 a).parIf (c:=a.level<11);have p:=T3 i;unfold oE Ex.text;have t:Txt (oE i++[.sgn 30]) (i.text++[93]):=Txt.app' p.T (Txt.one (x:=.sgn 30) rfl) (g:=[]) (E2 rfl) rfl;refine⟨Txt.mid d.T (x:=.sgn 29) rfl t (g1:=[]) (g2:=[]) (AW8 d.L) (R6 rfl) rfl,?_,?_⟩
  ·rw[D3 d.T.ne];exact d.H
  ·rw[B9 (by simp),C6 (by simp),B9 (by simp)];exact .inr rfl
 |.index2 a i j=>by
  have d:=(T3 a).parIf (c:=a.level<11);have p:=T3 i;have q:=T3 j;unfold oE Ex.text;have B:Txt (oE j++[.sgn 30]) (j.text++[93]):=Txt.app' q.T (Txt.one (x:=.sgn 30) rfl) (g:=[]) (E2 rfl) rfl;have t:Txt (oE i++(.sgn 25::(oE j++[.sgn 30]))) (i.text++(COMMA++(j.text++[93]))):=Txt.mid p.T (x:=.sgn 25) rfl B (g1:=[]) (g2:=[BLANK]) (E2 rfl) (by rw[D3 q.T.ne];exact E1 (by decide) q.H) rfl;refine⟨Txt.mid d.T (x:=.sgn 29) rfl t (g1:=[]) (g2:=[]) (AW8 d.L) (R6 rfl) rfl,?_,?_⟩
  ·rw[D3 d.T.ne];exact d.H
  ·rw[B9 (by simp),C6 (by simp),B9 (by simp),C6 (by simp),B9 (by simp)];exact .inr rfl
 |.past a k=>by
  have d:=(T3 a).parIf (c:=a.level<11);have p:=v9 (T3 k);unfold oE Ex.text;refine⟨Txt.mid d.T (x:=.sgn 26) rfl p.T (g1:=[]) (g2:=[]) (E2 rfl) (R6 rfl) rfl,?_,?_⟩
  ·rw[D3 d.T.ne];exact d.H
  ·show LsOk (lst (_++(_::oS k)));rw[Aa7 p];exact p.L
 |.held c a=>by have h:=(T3 a).inP;have u:=V0 (x:=.kept (18+c)) rfl (by simp[A39]) rfl trivial h.T rfl;unfold oE Ex.text;refine⟨Txt.cons (x:=.kept 6) rfl u.T (g:=[BLANK]) (E1 (by decide) trivial) (by rw[AL1];rfl),trivial,?_⟩;rw[C6 (by simp)];exact u.L
 |.wrapped c a=>by have h:=(T3 a).inP;have u:=V0 (x:=.kept (18+c)) rfl (by simp[A39]) rfl trivial h.T rfl;unfold oE Ex.text;refine⟨Txt.cons (x:=.kept 17) rfl u.T (g:=[BLANK]) (E1 (by decide) trivial) (by rw[AL1];rfl),trivial,?_⟩;rw[C6 (by simp)];exact u.L
 |.round a k=>by unfold oE Ex.text;exact V0 (x:=.kept 11) rfl rfl rfl trivial (m3 (T3 a) (T3 k)).inP.T rfl
 |.abs a=>by unfold oE Ex.text;exact V0 (x:=.kept 0) rfl rfl rfl trivial (T3 a).inP.T rfl
 |.min a b=>by unfold oE Ex.text;exact V0 (x:=.kept 9) rfl rfl rfl trivial (m3 (T3 a) (T3 b)).inP.T rfl
 |.max a b=>by unfold oE Ex.text;exact V0 (x:=.kept 8) rfl rfl rfl trivial (m3 (T3 a) (T3 b)).inP.T rfl
 |.sum i n a=>by unfold oE Ex.text;exact Ag0 (x:=.kept 15) rfl (by decide) trivial (v9 (T3 n)) (T3 a) rfl
 |.row i n a=>by unfold oE Ex.text;exact Ag0 (x:=.kept 12) rfl (by decide) trivial (v9 (T3 n)) (T3 a) rfl
 |.sheet i j n m a=>by
  have d:=v9 (T3 n);have p:=v9 (T3 m);have q:=T3 a;unfold oE Ex.text;refine⟨?_,trivial,?_⟩
  ·have w:Txt (oS m++(.sgn 23::oE a)) (m.sizeText++(ascii ": "++a.text)):=Txt.mid p.T (x:=.sgn 23) rfl q.T (g1:=[]) (E2 rfl) (E1 (by decide) q.H) rfl;have y:Txt (oS n++(.sgn 25::(oS m++(.sgn 23::oE a)))) (n.sizeText++(COMMA++(m.sizeText++(ascii ": "++a.text)))):=Txt.mid d.T (x:=.sgn 25) rfl w (g1:=[]) (g2:=[BLANK]) (E2 rfl) (by rw[D3 p.T.ne];exact E1 (by decide) p.H) rfl;exact Txt.cons (x:=.kept 13) rfl (Txt.cons (x:=.nm i) rfl (Txt.cons (x:=.sgn 25) rfl (Txt.cons (x:=.nm j) rfl (Txt.cons (x:=.sgn 19) rfl y (g:=[BLANK]) (by show gap _ (hd (oS n++_))=_;rw[D3 d.T.ne];exact E1 (by decide) d.H) rfl) (g:=[BLANK]) (Ae7 (x:=.nm j) trivial rfl (by decide) (by decide)) rfl) (g:=[BLANK]) (E1 (by decide) trivial) rfl) (g:=[]) (E2 rfl) rfl) (g:=[BLANK]) (E1 (by decide) trivial) rfl
  ·show LsOk (lst (.kept 13::.nm i::.sgn 25::.nm j::.sgn 19::(oS n++(.sgn 25::(oS m++(.sgn 23::oE a))))));rw[C6 (by simp),C6 (by simp),C6 (by simp),C6 (by simp),C6 (by simp),B9 (by simp),C6 (by simp),Aa7 q];exact q.L
theorem Bp1:(l:List Ex)->l≠[]->ETxt (b4 l) (argsText l)
 |[],h=>(h rfl).elim
 |[a],_=>by unfold b4 argsText;exact T3 a
 |a::b::l,_=>by unfold b4 argsText;exact m3 (T3 a) (Bp1 (b::l) (by simp))
end
noncomputable def k8 (k:KindEx):List OT:=.kept (18+k.code)::(match k.w,k.h with
 |some w,some h=>.sgn 29::(oE w++(.sgn 25::(oE h++[.sgn 30])))
 |some w,none=>.sgn 29::(oE w++[.sgn 30])
 |none,_=>[])
noncomputable def BS5:Option Ex->List OT
 |none=>[]
 |some e=>.sgn 12::oS e
noncomputable def y2 (p:Port):List OT:=.nm p.name::.sgn 23::(k8 p.kind++BS5 p.per)
noncomputable def Am8 (p:EndPort):List OT:=.nm p.name::.sgn 23::(k8 p.kind++(.kept 1::(oS p.num++BS5 p.den)))
noncomputable def T7:List (List OT)->List OT
 |[]=>[]
 |[x]=>x
 |x::y::l=>x++(.sgn 25::T7 (y::l))
noncomputable def P5 (l:List Bytes):List OT:=T7 (l.map fun s=>[.nm s])
noncomputable def Z5 (s:StateDecl):List OT:=.kept 14::.nm s.name::.sgn 23::(k8 s.kind++(.sgn 21::(oE s.init++[.sgn 24])))
noncomputable def oDo:Do->List OT
 |.bind s e=>.kept 7::.nm s::.sgn 21::(oE e++[.sgn 24])
 |.put s none e=>.nm s::.sgn 21::(oE e++[.sgn 24])
 |.put s (some i) e=>.nm s::.sgn 29::(oE i++(.sgn 30::.sgn 21::(oE e++[.sgn 24])))
noncomputable def t3:Wire->List OT
 |.node o f i=>P5 o++(.sgn 21::.nm f::(inP (P5 i)++[.sgn 24]))
 |.delay s n v x=>.nm s::.sgn 21::.kept 3::(oS n++(inP (oE v)++(inP [.nm x]++[.sgn 24])))
 |.same s x=>[.nm s,.sgn 21,.nm x,.sgn 24]
noncomputable def a4:Decl->List OT
 |.const s e=>.kept 2::.nm s::.sgn 21::(oE e++[.sgn 24])
 |.table s c l=>.kept 16::.nm s::.sgn 23::.kept (18+c)::.sgn 21::.sgn 29::(b4 l++[.sgn 30,.sgn 24])
 |.fn s a e=>.kept 4::.nm s::(inP (P5 a)++(.sgn 21::(oE e++[.sgn 24])))
 |.node s i o b d=>.kept 10::.nm s::(inP (T7 (i.map y2))++(.sgn 0::(inP (T7 (o.map y2))++(.sgn 31::(b.flatMap Z5++(d.flatMap oDo++[.sgn 32]))))))
 |.graph s i o f=>.kept 5::.nm s::(inP (T7 (i.map Am8))++(.sgn 0::(inP (T7 (o.map Am8))++(.sgn 31::(f.flatMap t3++[.sgn 32])))))
noncomputable def Ao7 (P:Prog):List OT:=P.flatMap a4
structure KTxt (ts:List OT)(t:Bytes):Prop where
 T:Txt ts t
 H:BG4 (hd ts)
 B:G6 (lst ts)=false
theorem AZ8 (h:G6 x=false)(c:P7 (.sgn k)=false)(a:k≠27)(b:k≠29):gap x (.sgn k)=[BLANK]:=by
 have e:apart x (.sgn k)=true:=by unfold apart;rw[c,h,AD (by simp),AD (by simp[a]),AD (by simp[b])]
 unfold gap;rw[e];rfl
theorem Bg6 (h:G6 x=false):gap x (.kept k)=[BLANK]:=by
 have e:apart x (.kept k)=true:=by unfold apart;rw[h,AD (by simp[P7]),AD (by simp),AD (by simp)]
 unfold gap;rw[e];rfl
theorem AO6 (k:KindEx):KTxt (k8 k) k.text/\(∀x∈[lst (k8 k)],lineEnd x=false):=by
 have b:KTxt (k8 k) k.text:=by
  unfold k8 KindEx.text;have a:Txt [OT.kept (18+k.code)] (codeText k.code):=by rw[AL1];exact Txt.one (x:=.kept (18+k.code)) rfl
  have c:gap (OT.kept (18+k.code)) (.sgn 29)=[]:=by unfold gap apart;simp[P7,G6]
  cases k.w with
  |none=>refine⟨?_,trivial,rfl⟩;show Txt [OT.kept (18+k.code)] (codeText k.code++[]);rw[AE];exact a
  |some w=>
   cases k.h with
   |none=>have d:Txt (oE w++[.sgn 30]) (w.text++[93]):=Txt.app' (T3 w).T (Txt.one (x:=.sgn 30) rfl) (g:=[]) (E2 rfl) rfl;have e:Txt (.sgn 29::(oE w++[.sgn 30])) (91::(w.text++[93])):=Txt.cons (x:=.sgn 29) rfl d (g:=[]) (R6 rfl) rfl;refine⟨Txt.app' a e (g:=[]) c rfl,trivial,?_⟩;show G6 (lst ([OT.kept (18+k.code)]++([.sgn 29]++(oE w++[.sgn 30]))))=false;rw[B9 (by simp),B9 (by simp),B9 (by simp)];rfl
   |some h=>have i:Txt (oE h++[.sgn 30]) (h.text++[93]):=Txt.app' (T3 h).T (Txt.one (x:=.sgn 30) rfl) (g:=[]) (E2 rfl) rfl;have d:Txt (oE w++(.sgn 25::(oE h++[.sgn 30]))) (w.text++(COMMA++(h.text++[93]))):=Txt.mid (T3 w).T (x:=.sgn 25) rfl i (g1:=[]) (g2:=[BLANK]) (E2 rfl) (by rw[D3 (T3 h).T.ne];exact E1 (by decide) (T3 h).H) rfl;have e:Txt (.sgn 29::(oE w++(.sgn 25::(oE h++[.sgn 30])))) (91::(w.text++(COMMA++(h.text++[93])))):=Txt.cons (x:=.sgn 29) rfl d (g:=[]) (R6 rfl) rfl;refine⟨Txt.app' a e (g:=[]) c rfl,trivial,?_⟩;show G6 (lst ([OT.kept (18+k.code)]++([.sgn 29]++(oE w++([.sgn 25]++(oE h++[.sgn 30]))))))=false;rw[B9 (by simp),B9 (by simp),B9 (by simp),B9 (by simp),B9 (by simp)];rfl
 exact⟨b,fun x f=>by rw[AN]at f;subst f;exact b.T.no⟩
theorem Az5 (h:KTxt ts t)(e:Option Ex):KTxt (ts++BS5 e) (t++perText e):=by
 cases e with
 |none=>show KTxt (ts++[]) (t++[]);rw[AE,AE];exact h
 |some e=>
  have a:=v9 (T3 e);refine⟨Txt.mid h.T (x:=.sgn 12) rfl a.T (AZ8 h.B rfl (by decide) (by decide)) (E1 (by decide) a.H) rfl,?_,?_⟩
  ·rw[D3 h.T.ne];exact h.H
  ·show G6 (lst (ts++(.sgn 12::oS e)))=false;rw[Aa7 a];exact a.L.no.2.1
theorem i5 (h:KTxt ts t):KTxt (.nm s::.sgn 23::ts) (s++(ascii ": "++t)):=by refine⟨Txt.cons (x:=.nm s) rfl (Txt.cons (x:=.sgn 23) rfl h.T (g:=[BLANK]) (E1 (by decide) h.H) rfl) (g:=[]) (E2 rfl) rfl,trivial,?_⟩;rw[C6 (by simp),C6 h.T.ne];exact h.B
theorem Ae3 (p:Port):KTxt (y2 p) p.text:=i5 (Az5 (AO6 p.kind).1 p.per)
theorem Ay2 (p:EndPort):KTxt (Am8 p) p.text:=by
 have a:=(AO6 p.kind).1;have b:=v9 (T3 p.num);have c:KTxt (k8 p.kind++(.kept 1::oS p.num)) (p.kind.text++(ascii " at "++p.num.sizeText)):=by
  refine⟨Txt.mid a.T (x:=.kept 1) rfl b.T (Bg6 a.B) (E1 (by decide) b.H) rfl,?_,?_⟩
  ·rw[D3 a.T.ne];exact a.H
  ·rw[Aa7 b];exact b.L.no.2.1
 have d:=i5 (s:=p.name) (Az5 c p.den);unfold Am8 EndPort.text;have e:k8 p.kind++(.kept 1::(oS p.num++BS5 p.den))=(k8 p.kind++(.kept 1::oS p.num))++BS5 p.den:=by simp
 have f:p.kind.text++(ascii " at "++(p.num.sizeText++perText p.den))=(p.kind.text++(ascii " at "++p.num.sizeText))++perText p.den:=by simp only[AF]
 rw[e,f];exact d
theorem Bh1 (b:KTxt ts t)(a:KTxt us u):KTxt (ts++(.sgn 25::us)) (t++(COMMA++u)):=by
 refine⟨Txt.mid b.T (x:=.sgn 25) rfl a.T (g1:=[]) (E2 rfl) (E1 (by decide) a.H) rfl,?_,?_⟩
 ·rw[D3 b.T.ne];exact b.H
 ·rw[B9 (by simp),C6 a.T.ne];exact a.B
theorem AJ9 {c:Type}(f:c->List OT)(g:c->Bytes)(h:∀a,KTxt (f a) (g a)):∀l:List c,l≠[]->KTxt (T7 (l.map f)) (joined COMMA (l.map g))
 |[],q=>(q rfl).elim
 |[a],_=>h a
 |a::b::l,_=>Bh1 (h a) (AJ9 f g h (b::l) (by simp))
theorem KTxt.inP (h:KTxt ts t):ETxt (inP ts) (inPar t):=by
 have e:Wr.inP ts=[.sgn 27]++(ts++[.sgn 28]):=rfl;refine⟨?_,rfl,?_⟩
 ·rw[e];exact Txt.app' (Txt.one (x:=.sgn 27) rfl) (Txt.app' h.T (Txt.one (x:=.sgn 28) rfl) (g:=[]) (E2 rfl) rfl) (g:=[]) (R6 rfl) rfl
 ·rw[e,B9 (by simp),B9 (by simp)];exact .inl rfl
theorem AC5 {b:Type}(f:b->List OT)(g:b->Bytes)(h:∀a,KTxt (f a) (g a))(l:List b):ETxt (inP (T7 (l.map f))) (inPar (joined COMMA (l.map g))):=by
 cases l with
 |nil=>exact⟨As7,rfl,.inl rfl⟩
 |cons a r=>exact(AJ9 f g h (a::r) (by simp)).inP
theorem x3 (s:Bytes):KTxt [.nm s] s:=⟨Txt.one (x:=.nm s) rfl,trivial,rfl⟩
theorem A12 (h:l≠[]):KTxt (P5 l) (joined COMMA l):=by have:=AJ9 (fun s=>[.nm s]) id x3 l h;rw[List.map_id]at this;exact this
theorem Ag6 (l:List Bytes):ETxt (inP (P5 l)) (inPar (joined COMMA l)):=by have:=AC5 (fun s=>[.nm s]) id x3 l;rw[List.map_id]at this;exact this
theorem Bx6 (h:Txt ts t)(b:OT)(i:Bool)(r:List OT):K9 b i (ts++.sgn 24::r)=List.replicate (blanks b (hd ts) i) BLANK++(t++(59::LF::K9 (.sgn 24) i r)):=by
 rw[h.em];congr 2;show List.replicate (blanks (lst ts) (.sgn 24) i) BLANK++(signs.getD 24 []++((if lineEnd (.sgn 24)=true then [LF]else [])++K9 (.sgn 24) (decide (OT.sgn 24=.sgn 31)||(i&&decide (OT.sgn 24≠.sgn 32))) r))=_;have:blanks (lst ts) (.sgn 24) i=0:=by
  unfold blanks;rw[h.no];have:apart (lst ts) (.sgn 24)=false:=by unfold apart;simp[P7]
  rw[this];rfl
 rw[this];have e:(decide (OT.sgn 24=.sgn 31)||(i&&decide (OT.sgn 24≠.sgn 32)))=i:=by cases i<;>decide
 rw[e];rfl
theorem Br2 (h:Txt ts t)(a:G6 (lst ts)=false)(b:OT)(i:Bool)(r:List OT):K9 b i (ts++.sgn 31::r)=List.replicate (blanks b (hd ts) i) BLANK++(t++(32::123::LF::K9 (.sgn 31) true r)):=by
 rw[h.em];congr 2;show List.replicate (blanks (lst ts) (.sgn 31) i) BLANK++(signs.getD 31 []++((if lineEnd (.sgn 31)=true then [LF]else [])++K9 (.sgn 31) (decide (OT.sgn 31=.sgn 31)||(i&&decide (OT.sgn 31≠.sgn 32))) r))=_;have:blanks (lst ts) (.sgn 31) i=1:=by
  unfold blanks;rw[h.no];have:apart (lst ts) (.sgn 31)=true:=by unfold apart;rw[a];simp[P7]
  rw[this];rfl
 rw[this];rfl
theorem BW3 (b:OT)(a:lineEnd b=true)(r:List OT):K9 b true (.sgn 32::r)=125::LF::K9 (.sgn 32) false r:=by
 show List.replicate (blanks b (.sgn 32) true) BLANK++(signs.getD 32 []++((if lineEnd (.sgn 32)=true then [LF]else [])++K9 (.sgn 32) (decide (OT.sgn 32=.sgn 31)||(true&&decide (OT.sgn 32≠.sgn 32))) r))=_;have:blanks b (.sgn 32) true=0:=by unfold blanks;rw[a];rfl
 rw[this];rfl
def A03 (ts:List OT)(t:Bytes):Prop:=∀b r,lineEnd b=true->K9 b true (ts++r)=t++K9 (.sgn 24) true r
theorem S9 (h:Txt ts t)(a:hd ts≠.sgn 32):A03 (ts++[.sgn 24]) (line true (t++ascii ";")):=by
 intro b r c;rw[AF];show K9 b true (ts++.sgn 24::r)=_;rw[Bx6 h];have:blanks b (hd ts) true=2:=by unfold blanks;rw[c,AL rfl,AR a];rfl
 rw[this];unfold line;simp only[AF];rfl
theorem BZ8 (h:BG4 x):x≠.sgn 32:=fun q=>by rw[q]at h;cases h
theorem r0 (h:KTxt ts t)(e:Ex):Txt (ts++(.sgn 21::oE e)) (t++(ascii " = "++e.text))/\BG4 (hd (ts++(.sgn 21::oE e))):=by refine⟨Txt.mid h.T (x:=.sgn 21) rfl (T3 e).T (AZ8 h.B rfl (by decide) (by decide)) (E1 (by decide) (T3 e).H) rfl,?_⟩;rw[D3 h.T.ne];exact h.H
theorem m6 (a:sep (.kept k)=true)(h:KTxt ts t):KTxt (.kept k::ts) ((OT.kept k).txt++([BLANK]++t)):=by refine⟨Txt.cons (x:=.kept k) rfl h.T (g:=[BLANK]) (E1 a h.H) rfl,trivial,?_⟩;rw[C6 h.T.ne];exact h.B
theorem At3 (s:StateDecl):A03 (Z5 s) s.text:=by
 have h:=r0 (m6 (k:=14) (by decide) (i5 (s:=s.name) (AO6 s.kind).1)) s.init;have:=S9 h.1 (BZ8 h.2);unfold Z5 StateDecl.text;have a:(.kept 14::.nm s.name::.sgn 23::k8 s.kind)++(.sgn 21::oE s.init)++[.sgn 24]=.kept 14::.nm s.name::.sgn 23::(k8 s.kind++(.sgn 21::(oE s.init++[.sgn 24]))):=by simp
 rw[a]at this;have b:(OT.kept 14).txt++([BLANK]++(s.name++(ascii ": "++s.kind.text)))++(ascii " = "++s.init.text)++ascii ";"=ascii "state "++(s.name++(ascii ": "++(s.kind.text++(ascii " = "++(s.init.text++ascii ";"))))):=by
  have:ascii "state "=(OT.kept 14).txt++[BLANK]:=by decide
  rw[this];simp only[AF]
 rw[b]at this;exact this
theorem Bf1 (d:Do):A03 (oDo d) d.text:=by
 cases d with
 |bind s e=>
  have h:=r0 (m6 (k:=7) (by decide) (x3 s)) e;have:=S9 h.1 (BZ8 h.2);unfold oDo Do.text;have a:(OT.kept 7).txt++([BLANK]++s)++(ascii " = "++e.text)++ascii ";"=ascii "let "++(s++(ascii " = "++(e.text++ascii ";"))):=by
   have:ascii "let "=(OT.kept 7).txt++[BLANK]:=by decide
   rw[this];simp only[AF]
  rw[a]at this;exact this
 |put s i e=>
  cases i with
  |none=>
   have h:=r0 (x3 s) e;have:=S9 h.1 (BZ8 h.2);unfold oDo Do.text;have a:s++(ascii " = "++e.text)++ascii ";"=s++((Option.map (fun x:Ex=>91::(x.text++[93])) none).getD []++(ascii " = "++(e.text++ascii ";"))):=by simp only[AF];rfl
   rw[a]at this;exact this
  |some i=>
   have b:Txt (oE i++[.sgn 30]) (i.text++[93]):=Txt.app' (T3 i).T (Txt.one (x:=.sgn 30) rfl) (g:=[]) (E2 rfl) rfl;have c:Txt (.sgn 29::(oE i++[.sgn 30])) (91::(i.text++[93])):=Txt.cons (x:=.sgn 29) rfl b (g:=[]) (R6 rfl) rfl;have f:KTxt (.nm s::.sgn 29::(oE i++[.sgn 30])) (s++(91::(i.text++[93]))):=by refine⟨Txt.cons (x:=.nm s) rfl c (g:=[]) (AW8 (x:=.nm s) trivial) rfl,trivial,?_⟩;rw[C6 (by simp),C6 (by simp),B9 (by simp)];rfl
   have h:=r0 f e;have:=S9 h.1 (BZ8 h.2);unfold oDo Do.text;have j:(.nm s::.sgn 29::(oE i++[.sgn 30]))++(.sgn 21::oE e)++[.sgn 24]=.nm s::.sgn 29::(oE i++(.sgn 30::.sgn 21::(oE e++[.sgn 24]))):=by simp
   rw[j]at this;have a:s++(91::(i.text++[93]))++(ascii " = "++e.text)++ascii ";"=s++((Option.map (fun x:Ex=>91::(x.text++[93])) (some i)).getD []++(ascii " = "++(e.text++ascii ";"))):=by simp only[AF];rfl
   rw[a]at this;exact this
noncomputable def Ai0:Wire->Prop
 |.node o _ _=>o≠[]
 |_=>True
theorem BA2 (w:Wire)(m:Ai0 w):A03 (t3 w) w.text:=by
 cases w with
 |node o f i=>
  have a:=A12 (l:=o) m;have b:=Ag6 i;have e:Txt (.nm f::inP (P5 i)) (f++inPar (joined COMMA i)):=Txt.cons (x:=.nm f) rfl b.T (g:=[]) (m8 (x:=.nm f) rfl rfl) rfl;have c:Txt (P5 o++(.sgn 21::.nm f::inP (P5 i))) (joined COMMA o++(ascii " = "++(f++inPar (joined COMMA i)))):=Txt.mid a.T (x:=.sgn 21) rfl e (g2:=[BLANK]) (AZ8 a.B rfl (by decide) (by decide)) (E1 (by decide) trivial) rfl;have:=S9 c (by rw[D3 a.T.ne];exact BZ8 a.H);unfold t3 Wire.text;have h:P5 o++(.sgn 21::.nm f::inP (P5 i))++[.sgn 24]=P5 o++(.sgn 21::.nm f::(inP (P5 i)++[.sgn 24])):=by simp
  have d:joined COMMA o++(ascii " = "++(f++inPar (joined COMMA i)))++ascii ";"=joined COMMA o++(ascii " = "++(f++(inPar (joined COMMA i)++ascii ";"))):=by simp only[AF]
  rw[h,d]at this;exact this
 |delay s n v x=>
  have a:=v9 (T3 n);have b:=(T3 v).inP;have e:=(x3 x).inP;have p:A39 (lst (oS n))=true:=by
   unfold oS parIf;by_cases q:Y2 n=false
   ·rw[AL q];unfold inP;rw[C6 (by simp),B9 (by simp)];rfl
   ·rw[AD q];cases n with
    |num k=>unfold oE;rfl
    |name k=>unfold oE;rfl
    |_=>exact(q rfl).elim
  have j:A39 (lst (inP (oE v)))=true:=by unfold inP;rw[C6 (by simp),B9 (by simp)];rfl
  have c:Txt (inP (oE v)++inP [.nm x]) (inPar v.text++inPar x):=Txt.app' b.T e.T (g:=[]) (m8 j b.L.no.2.1) rfl;have r:Txt (oS n++(inP (oE v)++inP [.nm x])) (n.sizeText++(inPar v.text++inPar x)):=Txt.app' a.T c (g:=[]) (by rw[D3 b.T.ne];exact m8 p a.L.no.2.1) rfl;have t:Txt (.nm s::.sgn 21::.kept 3::(oS n++(inP (oE v)++inP [.nm x]))) (s++(ascii " = delay "++(n.sizeText++(inPar v.text++inPar x)))):=by
   refine Txt.cons (x:=.nm s) rfl (Txt.cons (x:=.sgn 21) rfl (Txt.cons (x:=.kept 3) rfl r (g:=[BLANK]) ?_ rfl) (g:=[BLANK]) (E1 (by decide) trivial) rfl) (g:=[BLANK]) (AZ8 (x:=.nm s) rfl rfl (by decide) (by decide)) ?_
   ·rw[D3 a.T.ne];exact E1 (by decide) a.H
   ·have:ascii " = delay "=[BLANK]++((OT.sgn 21).txt++([BLANK]++((OT.kept 3).txt++[BLANK]))):=by decide
    rw[this];simp only[AF];rfl
  have:=S9 t (by intro q;cases q);unfold t3 Wire.text;have h:(.nm s::.sgn 21::.kept 3::(oS n++(inP (oE v)++inP [.nm x])))++[.sgn 24]=.nm s::.sgn 21::.kept 3::(oS n++(inP (oE v)++(inP [.nm x]++[.sgn 24]))):=by simp
  have d:s++(ascii " = delay "++(n.sizeText++(inPar v.text++inPar x)))++ascii ";"=s++(ascii " = delay "++(n.sizeText++(inPar v.text++(inPar x++ascii ";")))):=by simp only[AF]
  rw[h,d]at this;exact this
 |same s x=>
  have c:Txt [.nm s,.sgn 21,.nm x] (s++(ascii " = "++x)):=Txt.mid (x3 s).T (x:=.sgn 21) rfl (x3 x).T (AZ8 (x:=.nm s) rfl rfl (by decide) (by decide)) (E1 (by decide) trivial) rfl;have:=S9 c (by intro q;cases q);unfold t3 Wire.text;have d:s++(ascii " = "++x)++ascii ";"=s++(ascii " = "++(x++ascii ";")):=by simp only[AF]
  rw[d]at this;exact this
theorem l6 {d:Type}(f:d->List OT)(g:d->Bytes):∀(l:List d),(∀a∈l,A03 (f a) (g a))->∀b r,lineEnd b=true->∃c,lineEnd c=true/\K9 b true (l.flatMap f++r)=l.flatMap g++K9 c true r
 |[],_,b,r,i=>⟨b,i,rfl⟩
 |a::l,h,b,r,i=>by obtain⟨c,j,e⟩:=l6 f g l (fun x k=>h x (AC _ k)) (.sgn 24) r rfl;refine⟨c,j,?_⟩;rw[DL,AF,h a (AG ..) b _ i,e,DL,AF]
def BT6 (ts:List OT)(t:Bytes):Prop:=∀b r,lineEnd b=true->∃a,lineEnd a=true/\K9 b false (ts++r)=t++K9 a false r
theorem AO4 (h:Txt ts t):BT6 (ts++[.sgn 24]) (line false (t++ascii ";")):=by
 intro b r a;refine⟨.sgn 24,rfl,?_⟩;rw[AF];show K9 b false (ts++.sgn 24::r)=_;rw[Bx6 h];have:blanks b (hd ts) false=0:=by unfold blanks;rw[a];rfl
 rw[this];unfold line;simp only[AF];rfl
theorem Ag3 (c:sep (.kept k)=true)(b:ETxt (inP ts) (inPar t))(a:ETxt (inP us) (inPar u))(d:v=(OT.kept k).txt++([BLANK]++(s++(inPar t++(ascii " -> "++inPar u))))):Txt (.kept k::.nm s::(inP ts++(.sgn 0::inP us))) v/\G6 (lst (.kept k::.nm s::(inP ts++(.sgn 0::inP us))))=false:=by
 refine⟨?_,?_⟩
 ·have e:Txt (inP ts++(.sgn 0::inP us)) (inPar t++(ascii " -> "++inPar u)):=Txt.mid b.T (x:=.sgn 0) rfl a.T (AZ8 b.L.no.2.1 rfl (by decide) (by decide)) (E1 (by decide) a.H) rfl;exact Txt.cons (x:=.kept k) rfl (Txt.cons (x:=.nm s) rfl e (g:=[]) (by rw[D3 b.T.ne];exact m8 (x:=.nm s) rfl rfl) rfl) (g:=[BLANK]) (E1 c trivial) d
 ·rw[C6 (by simp),C6 (by simp),Aa7 a];exact a.L.no.2.1
noncomputable def declOk:Decl->Prop
 |.graph _ _ _ a=>∀w∈a,Ai0 w
 |_=>True
theorem Af3 (h:Txt ts t)(g:G6 (lst ts)=false)(a:∀b r,lineEnd b=true->∃c,lineEnd c=true/\K9 b true (body++r)=u++K9 c true r):BT6 (ts++(.sgn 31::(body++[.sgn 32]))) (line false (t++ascii " {")++(u++line false (ascii "}"))):=by
 intro b r d;refine⟨.sgn 32,rfl,?_⟩;have i:ts++(.sgn 31::(body++[.sgn 32]))++r=ts++(.sgn 31::(body++(.sgn 32::r))):=by simp
 rw[i,Br2 h g];obtain⟨c,f,e⟩:=a (.sgn 31) (.sgn 32::r) rfl;rw[e,BW3 c f];have:blanks b (hd ts) false=0:=by unfold blanks;rw[d];rfl
 rw[this];unfold line;simp only[AF];rfl
theorem BB3 (d:Decl)(C:declOk d):BT6 (a4 d) d.text:=by
 cases d with
 |const s e=>
  have h:=r0 (m6 (k:=2) (by decide) (x3 s)) e;have:=AO4 h.1;unfold a4 Decl.text;have f:(OT.kept 2).txt++([BLANK]++s)++(ascii " = "++e.text)++ascii ";"=ascii "const "++(s++(ascii " = "++(e.text++ascii ";"))):=by
   have:ascii "const "=(OT.kept 2).txt++[BLANK]:=by decide
   rw[this];simp only[AF]
  rw[f]at this;exact this
 |table s c l=>
  have D:Txt (.sgn 29::(b4 l++[.sgn 30])) (91::(argsText l++[93])):=by
   cases l with
   |nil=>unfold b4 argsText;exact Txt.cons (x:=.sgn 29) rfl (Txt.one (x:=.sgn 30) rfl) (g:=[]) (R6 rfl) rfl
   |cons a r=>exact Txt.cons (x:=.sgn 29) rfl (Txt.app' (Bp1 (a::r) (by simp)).T (Txt.one (x:=.sgn 30) rfl) (g:=[]) (E2 rfl) rfl) (g:=[]) (R6 rfl) rfl
  have j:KTxt [.kept (18+c)] (codeText c):=⟨by rw[AL1];exact Txt.one (x:=.kept (18+c)) rfl,trivial,rfl⟩;have n:=m6 (k:=16) (by decide) (i5 (s:=s) j);have E:Txt ((.kept 16::.nm s::.sgn 23::[.kept (18+c)])++(.sgn 21::.sgn 29::(b4 l++[.sgn 30]))) _:=Txt.mid n.T (x:=.sgn 21) rfl D (g2:=[BLANK]) (AZ8 n.B rfl (by decide) (by decide)) (show gap (.sgn 21) (.sgn 29)=[BLANK] by decide) rfl;have:=AO4 E;unfold a4 Decl.text;have m:(.kept 16::.nm s::.sgn 23::[.kept (18+c)])++(.sgn 21::.sgn 29::(b4 l++[.sgn 30]))++[.sgn 24]=.kept 16::.nm s::.sgn 23::.kept (18+c)::.sgn 21::.sgn 29::(b4 l++[.sgn 30,.sgn 24]):=by simp
  rw[m]at this;have f:(OT.kept 16).txt++([BLANK]++(s++(ascii ": "++codeText c)))++([BLANK]++((OT.sgn 21).txt++([BLANK]++(91::(argsText l++[93])))))++ascii ";"=ascii "table "++(s++(ascii ": "++(codeText c++(ascii " = ["++(argsText l++ascii "];"))))):=by
   have F:ascii "table "=(OT.kept 16).txt++[BLANK]:=by decide
   have G:ascii " = ["=[BLANK]++((OT.sgn 21).txt++([BLANK]++[91])):=by decide
   have H:ascii "];"=[93]++ascii ";":=by decide
   rw[F,G,H];simp only[AF,Bs,DA]
  rw[f]at this;exact this
 |fn s q e=>
  have j:=Ag6 q;have n:KTxt (.nm s::inP (P5 q)) (s++inPar (joined COMMA q)):=by refine⟨Txt.cons (x:=.nm s) rfl j.T (g:=[]) (m8 (x:=.nm s) rfl rfl) rfl,trivial,?_⟩;rw[C6 j.T.ne];exact j.L.no.2.1
  have h:=r0 (m6 (k:=4) (by decide) n) e;have:=AO4 h.1;unfold a4 Decl.text;have m:(.kept 4::.nm s::inP (P5 q))++(.sgn 21::oE e)++[.sgn 24]=.kept 4::.nm s::(inP (P5 q)++(.sgn 21::(oE e++[.sgn 24]))):=by simp
  rw[m]at this;have f:(OT.kept 4).txt++([BLANK]++(s++inPar (joined COMMA q)))++(ascii " = "++e.text)++ascii ";"=ascii "fn "++(s++(inPar (joined COMMA q)++(ascii " = "++(e.text++ascii ";")))):=by
   have:ascii "fn "=(OT.kept 4).txt++[BLANK]:=by decide
   rw[this];simp only[AF]
  rw[f]at this;exact this
 |node s i o t p=>
  obtain⟨j,n⟩:=Ag3 (k:=10) (s:=s) (by decide) (AC5 y2 Port.text Ae3 i) (AC5 y2 Port.text Ae3 o) rfl;have v:∀b r,lineEnd b=true->∃A,lineEnd A=true/\K9 b true ((t.flatMap Z5++p.flatMap oDo)++r)=(t.flatMap StateDecl.text++p.flatMap Do.text)++K9 A true r:=by intro b r v;obtain⟨I,y,m⟩:=l6 Z5 StateDecl.text t (fun a _=>At3 a) b (p.flatMap oDo++r) v;obtain⟨J,z,f⟩:=l6 oDo Do.text p (fun a _=>Bf1 a) I r y;refine⟨J,z,?_⟩;rw[AF,m,f,AF]
  have:=Af3 j n v;unfold a4 Decl.text;have m:(.kept 10::.nm s::(inP (T7 (i.map y2))++(.sgn 0::inP (T7 (o.map y2)))))++(.sgn 31::((t.flatMap Z5++p.flatMap oDo)++[.sgn 32]))=.kept 10::.nm s::(inP (T7 (i.map y2))++(.sgn 0::(inP (T7 (o.map y2))++(.sgn 31::(t.flatMap Z5++(p.flatMap oDo++[.sgn 32])))))):=by simp
  rw[m]at this;have f:line false ((OT.kept 10).txt++([BLANK]++(s++(inPar (joined COMMA (i.map Port.text))++(ascii " -> "++inPar (joined COMMA (o.map Port.text))))))++ascii " {")++((t.flatMap StateDecl.text++p.flatMap Do.text)++line false (ascii "}"))=line false (ascii "node "++(s++(inPar (joined COMMA (i.map Port.text))++(ascii " -> "++(inPar (joined COMMA (o.map Port.text))++ascii " {")))))++(t.flatMap StateDecl.text++(p.flatMap Do.text++line false (ascii "}"))):=by
   have:ascii "node "=(OT.kept 10).txt++[BLANK]:=by decide
   rw[this];simp only[AF]
  rw[f]at this;exact this
 |graph s i o u=>
  obtain⟨j,n⟩:=Ag3 (k:=5) (s:=s) (by decide) (AC5 Am8 EndPort.text Ay2 i) (AC5 Am8 EndPort.text Ay2 o) rfl;have:=Af3 j n (l6 t3 Wire.text u fun w K=>BA2 w (C w K));unfold a4 Decl.text;have m:(.kept 5::.nm s::(inP (T7 (i.map Am8))++(.sgn 0::inP (T7 (o.map Am8)))))++(.sgn 31::(u.flatMap t3++[.sgn 32]))=.kept 5::.nm s::(inP (T7 (i.map Am8))++(.sgn 0::(inP (T7 (o.map Am8))++(.sgn 31::(u.flatMap t3++[.sgn 32]))))):=by simp
  rw[m]at this;have f:line false ((OT.kept 5).txt++([BLANK]++(s++(inPar (joined COMMA (i.map EndPort.text))++(ascii " -> "++inPar (joined COMMA (o.map EndPort.text))))))++ascii " {")++(u.flatMap Wire.text++line false (ascii "}"))=line false (ascii "graph "++(s++(inPar (joined COMMA (i.map EndPort.text))++(ascii " -> "++(inPar (joined COMMA (o.map EndPort.text))++ascii " {")))))++(u.flatMap Wire.text++line false (ascii "}")):=by
   have:ascii "graph "=(OT.kept 5).txt++[BLANK]:=by decide
   rw[this];simp only[AF]
  rw[f]at this;exact this
theorem Ad7:∀(P:Prog),(∀d∈P,declOk d)->∀b,lineEnd b=true->K9 b false (Ao7 P)=progText P
 |[],_,b,_=>rfl
 |d::P,h,b,hb=>by obtain⟨c,a,e⟩:=BB3 d (h d (AG ..)) b (Ao7 P) hb;have f:=Ad7 P (fun x g=>h x (AC _ g)) c a;show K9 b false (a4 d++Ao7 P)=d.text++progText P;rw[e,f]
open Rd
noncomputable def om (X:Tx)(M:List Nat)(i:Nat):List OT:=match X.tk i with
 |some (.name b)=>[.nm b]
 |some (.num v)=>[.num v]
 |some (.kept k)=>[.kept k]
 |some (.sign k)=>if i∈M then(if k=27∨k=28 then []else if k=23 then [.col]else [.one k])else [.sgn k]
 |none=>[]
noncomputable def ou (X:Tx)(M:List Nat):Nat->Nat->List OT
 |_,0=>[]
 |i,n+1=>om X M i++ou X M (i+1) n
noncomputable abbrev oo (X:Tx)(M:List Nat)(i j:Nat):List OT:=ou X M i (j-i)
section
variable {X:Tx} {M:List Nat}
theorem Ay1:∀(a b i:Nat),ou X M i (a+b)=ou X M i a++ou X M (i+a) b
 |0,b,i=>by rw[Dr];rfl
 |a+1,b,i=>by rw[show a+1+b=(a+b)+1 by omega];show om X M i++ou X M (i+1) (a+b)=om X M i++ou X M (i+1) a++_;rw[Ay1 a b (i+1),AF,show i+1+a=i+(a+1) by omega]
theorem u4 (a:i<=m)(b:m<=j):oo X M i j=oo X M i m++oo X M m j:=by show ou X M i (j-i)=_;rw[show j-i=(m-i)+(j-m) by omega,Ay1,show i+(m-i)=m by omega]
theorem c6 (h:i<j):oo X M i j=om X M i++oo X M (i+1) j:=by show ou X M i (j-i)=_;rw[show j-i=(j-(i+1))+1 by omega];rfl
theorem m5:oo X M i i=[]:=by show ou X M i (i-i)=[];rw[Ds];rfl
theorem Ac7:∀(n i:Nat),(∀k,i<=k->k<i+n->(k∈M↔k∈M'))->ou X M i n=ou X M' i n
 |0,i,_=>rfl
 |n+1,i,h=>by show om X M i++_=om X M' i++_;rw[Ac7 n (i+1) fun k a b=>h k (by omega) (by omega)];have:=h i (AB _) (by omega);unfold om;simp only[this]
theorem BD7 (h:∀k,i<=k->k<j->(k∈M↔k∈M')):oo X M i j=oo X M' i j:=Ac7 _ _ fun k a b=>h k a (by omega)
theorem BB0 (h:X.cy i=.sign k):X.tk i=some (.sign k):=by
 unfold Tx.cy at h;unfold Tx.tk;split at h
 ·rename_i t e;rw[e];cases q:t.tok<;>rw[q]at h<;>first |(cases h;done) |(injection h with h;subst h;rw[Cj,q])
 ·split at h<;>cases h
theorem Bv1 (h:X.cy i=.kept k):X.tk i=some (.kept k):=by
 unfold Tx.cy at h;unfold Tx.tk;split at h
 ·rename_i t e;rw[e];cases q:t.tok<;>rw[q]at h<;>first |(cases h;done) |(injection h with h;subst h;rw[Cj,q])
 ·split at h<;>cases h
theorem BQ2 (h:X.tk i=some (.name b))(a:i<j):oo X M i j=.nm b::oo X M (i+1) j:=by rw[c6 a];unfold om;rw[h];rfl
theorem Bc8 (h:X.tk i=some (.num v))(a:i<j):oo X M i j=.num v::oo X M (i+1) j:=by rw[c6 a];unfold om;rw[h];rfl
theorem BC6 (h:X.cy i=.kept k)(a:i<j):oo X M i j=.kept k::oo X M (i+1) j:=by rw[c6 a];unfold om;rw[Bv1 h];rfl
theorem A64 (h:X.cy i=.sign k)(a:i<j)(b:i∉M):oo X M i j=.sgn k::oo X M (i+1) j:=by rw[c6 a];unfold om;rw[BB0 h];simp only[AD b];rfl
theorem Bm8 (h:X.cy i=.sign k)(a:k=27∨k=28)(b:i<j)(c:i∈M):oo X M i j=oo X M (i+1) j:=by rw[c6 b];unfold om;rw[BB0 h];simp only[AL c,AL a];rfl
theorem B29 (h:X.cy i=.sign 23)(a:i<j)(b:i∈M):oo X M i j=.col::oo X M (i+1) j:=by rw[c6 a];unfold om;rw[BB0 h];simp only[AL b];rfl
theorem Bq3 (h:X.cy i=.sign k)(a:¬(k=27∨k=28)/\k≠23)(b:i<j)(c:i∈M):oo X M i j=.one k::oo X M (i+1) j:=by rw[c6 b];unfold om;rw[BB0 h];simp only[AL c,AD a.1,AD a.2];rfl
end
mutual
noncomputable def mks:Nd->List Nat
 |.mk k i j p s l c=>(if p=true/\l<=s then [i,j-1]else if k=.SIGNED then [i]else if k=.CHOICE then(match c with |_::n::_=>[n.j] |_=>[])else [])++N0 c
noncomputable def N0:List Nd->List Nat
 |[]=>[]
 |n::r=>mks n++N0 r
end
theorem i6 (k:Kd)(i j:Nat)(p:Bool)(s l:Nat)(c:List Nd):mks (.mk k i j p s l c)=(if p=true/\l<=s then [i,j-1]else if k=.SIGNED then [i]else if k=.CHOICE then(match c with |_::n::_=>[n.j] |_=>[])else [])++N0 c:=by conv=>lhs;unfold mks
theorem O9:N0 []=[]:=by unfold N0;rfl
theorem D7 (n:Nd)(r:List Nd):N0 (n::r)=mks n++N0 r:=by conv=>lhs;unfold N0
theorem E7 (n:Nd):N0 [n]=mks n:=by rw[D7,O9,AE]
theorem Ad3:∀(a b:List Nd),N0 (a++b)=N0 a++N0 b
 |[],b=>by rw[O9];rfl
 |n::r,b=>by rw[Bs,D7,D7,Ad3 r b,AF]
def In (M:List Nat)(i j:Nat):Prop:=∀k∈M,i<=k/\k<j
theorem In.no (h:In M i j)(a:k<i∨j<=k):k∉M:=fun q=>by have:=h k q;omega
section
variable {X:Tx}
theorem Bn2 (h:∀k,k∈A->k∈M)(h':∀k,k∈M->k∉A->k<i∨j<=k):oo X M i j=oo X A i j:=BD7 fun k a b=>⟨fun q=>Classical.byContradiction fun z=>by have:=h' k q z;omega,h k⟩
def SL (x:Ex)(s:Nat):Prop:=(Y2 x=true/\s=13)∨(Y2 x=false/\(s=x.level+1∨(x.level=0/\s=0)))
theorem SL.le (h:SL x s)(v:Nat)(a:v<=11/\1<=v):s<v+1↔x.level<v:=by
 rcases h with ⟨h,rfl⟩ |⟨h,b⟩
 ·have:x.level=11:=by cases x<;>first |rfl |cases h
  omega
 ·omega
theorem Bj6 (x:Ex):x.level<=11:=by
 cases x<;>first |(show(0:Nat)<=11;omega) |(show(10:Nat)<=11;omega) |(show(11:Nat)<=11;omega) |skip
 rename_i o a b;show 1+levelOfOp o<=11;have:levelOfOp o<=(List.range 9).length:=List.findIdx_le_length;rw[List.length_range]at this;omega
theorem SL.sz (h:SL x s):s<13↔Y2 x=false:=by
 rcases h with ⟨h,rfl⟩ |⟨h,a⟩
 ·rw[h];simp
 ·have:=Bj6 x;rw[h];simp;omega
def WE (X:Tx)(x:Ex)(n:Nd)(i j:Nat):Prop:=SL x n.st/\n.j=j/\∀v,In (mks (n.setLe v)) i j/\oo X (mks (n.setLe v)) i j=if n.pr=true/\n.st<v then inP (oE x)else oE x
noncomputable def WO (X:Tx):Ob->List Nd->Nat->Nat->Prop
 |.ex x,a,i,j=>∃n,a=[n]/\n.le=0/\WE X x n i j
 |.sz x,a,i,j=>In (N0 a) i j/\oo X (N0 a) i j=oS x
 |.ar l,a,i,j=>In (N0 a) i j/\oo X (N0 a) i j=b4 l
theorem B27 {n:Nd}(h:n.le=0):n.setLe 0=n:=by obtain⟨k,i,j,p,s,l,c⟩:=n;have h:l=0:=h;rw[h];rfl
theorem WE.par (h:WE X x n i j)(v:Nat)(d:v<=11/\1<=v)(e:n.pr=false->v+1<=n.st):In (mks (n.setLe (v+1))) i j/\oo X (mks (n.setLe (v+1))) i j=parIf (x.level<v) (oE x):=by
 obtain⟨f,_,a⟩:=h;refine⟨(a (v+1)).1,?_⟩;rw[(a (v+1)).2];unfold parIf;have b:=f.le v d;cases q:n.pr with
 |false=>have:=e q;rw[AD (by simp),AD (by omega)]
 |true=>
  by_cases c:n.st<v+1
  ·rw[AL ⟨rfl,c⟩,AL (b.mp c)]
  ·rw[AD (fun z=>c z.2),AD (fun z=>c (b.mpr z))]
theorem WE.self {n:Nd}(h:WE X x n i j)(a:n.le=0):In (mks n) i j/\oo X (mks n) i j=oE x:=by have:=h.2.2 0;rw[B27 a]at this;exact⟨this.1,by rw[this.2,AD (fun z=>Nat.not_lt_zero _ z.2)]⟩
theorem o_l (h:In B a b)(c:b<=i∨j<=a):oo X (A++B) i j=oo X A i j:=Bn2 (fun k q=>AU _ q) fun k q z=>(AY.mp q).elim (fun y=>absurd y z) fun y=>by have:=h k y;omega
theorem o_r (h:In A a b)(c:b<=i∨j<=a):oo X (A++B) i j=oo X B i j:=Bn2 (fun k q=>AQ _ q) fun k q z=>(AY.mp q).elim (fun y=>by have:=h k y;omega) fun y=>absurd y z
theorem In.app (h:In A a b)(h':In B c d)(e:i<=a)(f:b<=j)(g:i<=c)(l:d<=j):In (A++B) i j:=fun k q=>(AY.mp q).elim (fun y=>by have:=h k y;omega) fun y=>by have:=h' k y;omega
theorem In.up (h:In A a b)(c:i<=a)(d:b<=j):In A i j:=fun k q=>by have:=h k q;omega
theorem In.nil:In [] i j:=fun k q=>by cases q
theorem In.one {k i j:Nat}(h:i<=k/\k<j):In [k] i j:=fun m q=>by rw[AN]at q;rw[q];exact h
theorem a8 (a:SL x s)(b:mks (.mk k i j false s 0 c)=M)(d:In M i j)(h:oo X M i j=oE x):WO X (.ex x) [.mk k i j false s 0 c] i j:=by
 refine⟨_,rfl,rfl,a,rfl,fun v=>?_⟩;have e:mks ((Nd.mk k i j false s 0 c).setLe v)=M:=by rw[←b];show mks (.mk k i j false s v c)=_;rw[i6,i6];simp
 rw[e];exact⟨d,by rw[h,AD (by simp[Nd.pr])]⟩
theorem AZ5:mks (.mk (.n .ATOM) i j false s 0 c)=N0 c:=by rw[i6,AD (by simp),AD (by intro z;cases z),AD (by intro z;cases z)];rfl
theorem A65 (a:k≠.SIGNED)(b:k≠.CHOICE):mks (.mk k i j false s 0 c)=N0 c:=by rw[i6,AD (by simp),AD a,AD b];rfl
theorem na {k:Nat}{A B:List Nat}(h:k∉A)(h':k∉B):k∉A++B:=fun q=>(AY.mp q).elim h h'
theorem AY3 (b:X.cy i=.sign 27)(c:X.cy j=.sign 28)(a:In M (i+1) j)(d:i<j)(h:oo X M (i+1) j=l):oo X M i (j+1)=inP l:=by rw[A64 b (by omega) (a.no (.inl (by omega))),u4 (m:=j) (by omega) (by omega),h,A64 c (by omega) (a.no (.inr (by omega))),m5];rfl
theorem opS (o:Nat):A38 o=S3 o:=rfl
theorem Bv7 {o:Nat}(h:o<3):a9 o=O7 o/\¬(a9 o=27∨a9 o=28)/\a9 o≠23:=by
 have:o=0∨o=1∨o=2:=by omega
 rcases this with rfl |rfl |rfl<;>decide
theorem lv (o:Nat):levelOfOp o<=9:=by have:levelOfOp o<=(List.range 9).length:=List.findIdx_le_length;rw[List.length_range]at this;exact this
theorem AG5 {A B:List Nat}{i m j k:Nat}{l r:List OT}(a:In A i m)(b:In B (m+1) j)(h:X.cy m=.sign k)(c:i<=m)(d:m<j)(e:oo X A i m=l)(f:oo X B (m+1) j=r):In (A++B) i j/\oo X (A++B) i j=l++(.sgn k::r):=by refine⟨a.app b (by omega) (by omega) (by omega) (by omega),?_⟩;rw[u4 (m:=m) c (by omega),o_l b (.inr (by omega)),e,A64 h d (na (a.no (.inr (by omega))) (b.no (.inl (by omega)))),o_r a (.inl (by omega)),f]
theorem BZ7 (b:In A i j)(h:X.cy j=.sign k)(a:i<=j)(e:oo X A i j=l):In A i (j+1)/\oo X A i (j+1)=l++[.sgn k]:=by refine⟨b.up (by omega) (by omega),?_⟩;rw[u4 (m:=j) a (by omega),e,A64 h (by omega) (b.no (.inr (by omega))),m5]
theorem Rp.wr (h:Rp X o ns i j):WO X o ns i j:=by
 induction h with
 |num e=>exact a8 (.inl ⟨rfl,rfl⟩) (AZ5.trans O9) .nil (by rw[Bc8 e (by omega),m5];rfl)
 |name e=>exact a8 (.inl ⟨rfl,rfl⟩) (AZ5.trans O9) .nil (by rw[BQ2 e (by omega),m5];rfl)
 |call e e1 h e2 ih=>have:=h.lt;refine a8 (.inr ⟨rfl,.inl rfl⟩) AZ5 (ih.1.up (by omega) (by omega)) ?_;rw[BQ2 e (by omega),AY3 e1 e2 ih.1 (by omega) ih.2];rfl
 | @par i j x n e1 h e2 ih=>
  have:=h.lt;obtain⟨_,hh,h0,W⟩:=ih;cases hh;have q:=W.self h0;refine⟨_,rfl,rfl,W.1,rfl,fun v=>?_⟩;show In (mks (.mk (.n .ATOM) i (j+1) true n.st v [n])) i (j+1)/\oo X (mks (.mk (.n .ATOM) i (j+1) true n.st v [n])) i (j+1)=if true=true/\n.st<v then _ else _
  rw[i6,E7];by_cases c:v<=n.st
  ·rw[AL ⟨rfl,c⟩,AD (fun z=>by have:=z.2;omega)];have hI:In [i,j+1-1] i (j+1):=fun k z=>by
    rcases AK.mp z with rfl |z
    ·omega
    ·rw[AN]at z;omega
   refine⟨hI.app q.1 (by omega) (by omega) (by omega) (by omega),?_⟩;rw[Bm8 e1 (.inl rfl) (by omega) (by simp),u4 (m:=j) (by omega) (by omega),Bm8 e2 (.inr rfl) (by omega) (by simp),m5,AE,←q.2];refine Bn2 (fun k z=>AQ _ z) fun k z z'=>(AY.mp z).elim (fun y=>?_) fun y=>absurd y z';rcases AK.mp y with rfl |y
   ·omega
   ·rw[AN]at y;omega
  ·rw[AD (fun z=>c z.2),AD (by intro z;cases z),AD (by intro z;cases z),AL ⟨rfl,by omega⟩];exact⟨q.1.up (by omega) (by omega),AY3 e1 e2 q.1 (by omega) q.2⟩
 |hw hk hm e0 e1 e2 h e3 ih=>
  have:=h.lt;obtain⟨n,hh,h0,W⟩:=ih;cases hh;have q:=W.self h0;rcases hk with rfl |rfl
  ·refine a8 (.inr ⟨rfl,.inl rfl⟩) (AZ5.trans (E7 _)) (q.1.up (by omega) (by omega)) ?_;rw[BC6 e0 (by omega),BC6 e1 (by omega),AY3 e2 e3 q.1 (by omega) q.2];rfl
  ·refine a8 (.inr ⟨rfl,.inl rfl⟩) (AZ5.trans (E7 _)) (q.1.up (by omega) (by omega)) ?_;rw[BC6 e0 (by omega),BC6 e1 (by omega),AY3 e2 e3 q.1 (by omega) q.2];rfl
 |abs e0 e1 h e2 ih=>have:=h.lt;obtain⟨n,hh,h0,W⟩:=ih;cases hh;have q:=W.self h0;refine a8 (.inr ⟨rfl,.inl rfl⟩) (AZ5.trans (E7 _)) (q.1.up (by omega) (by omega)) ?_;rw[BC6 e0 (by omega),AY3 e1 e2 q.1 (by omega) q.2];rfl
 | @two i j m k x y n n' hk e0 e1 h e2 h' e3 ih ih'=>
  have:=h.lt;have:=h'.lt;obtain⟨_,hh,h0,W⟩:=ih;cases hh;obtain⟨_,hh,h0',W'⟩:=ih';cases hh;have q:=W.self h0;have q':=W'.self h0';have qq:=AG5 q.1 q'.1 e2 (by omega) (by omega) q.2 q'.2;have hM:N0 [n,n']=mks n++mks n':=by rw[D7,E7]
  rcases hk with rfl |rfl |rfl
  all_goals
   refine a8 (.inr ⟨rfl,.inl rfl⟩) (AZ5.trans hM) (qq.1.up (by omega) (by omega)) ?_;rw[BC6 e0 (by omega),AY3 e1 e3 qq.1 (by omega) qq.2];rfl
 | @one i j o x n ho e0 h hp ih=>
  have:=h.lt;obtain⟨_,hh,h0,W⟩:=ih;cases hh;have q:=W.par 10 (by omega) hp;have hM:mks (.mk .SIGNED i j false 11 0 [n.setLe 11])=[i]++mks (n.setLe (10+1)):=by rw[i6,AD (by simp),AL rfl,E7]
  refine a8 (.inr ⟨rfl,.inl rfl⟩) hM ((In.one (i:=i) (j:=i+1) (by omega)).app q.1 (AB _) (by omega) (by omega) (by omega)) ?_;rw[Bq3 e0 (Bv7 ho).2 (by omega) (by simp),o_r (In.one (i:=i) (j:=i+1) (by omega)) (.inl (by omega)),q.2,(Bv7 ho).1]
  conv=>rhs;unfold oE
 | @bin i j m o x y n n' ho h e h' hp hp' ih ih'=>
  have:=h.lt;have:=h'.lt;obtain⟨_,hh,h0,W⟩:=ih;cases hh;obtain⟨_,hh,h0',W'⟩:=ih';cases hh;have hlv:=lv o;have el:lowL (AF7 o)=(if 1+levelOfOp o=3 then 4 else 1+levelOfOp o)+1:=by
   unfold lowL AF7;by_cases c:levelOfOp o+2=4
   ·rw[AL c,AL (by omega)]
   ·rw[AD c,AD (by omega)];omega
  have er:AF7 o+1=(1+levelOfOp o+1)+1:=by unfold AF7;omega
  have q:=W.par (if 1+levelOfOp o=3 then 4 else 1+levelOfOp o) (by split<;>omega) (fun z=>by rw[←el];exact hp z);have q':=W'.par (1+levelOfOp o+1) (by omega) (fun z=>by rw[←er];exact hp' z);rw[←el]at q;rw[←er]at q';have qq:=AG5 q.1 q'.1 e (by omega) (by omega) q.2 q'.2;refine a8 (.inr ⟨rfl,.inl (by unfold AF7;show levelOfOp o+2=1+levelOfOp o+1;omega)⟩) ((A65 (by intro z;cases z) (by intro z;cases z)).trans (by rw[D7,E7])) qq.1 ?_;rw[qq.2,opS]
  conv=>rhs;unfold oE
 | @choice i j m m' x y z n n' n'' h e h' e' h'' hp ih ih' ih''=>
  have:=h.lt;have:=h'.lt;have:=h''.lt;obtain⟨_,hh,h0,W⟩:=ih;cases hh;obtain⟨_,hh,h0',W'⟩:=ih';cases hh;obtain⟨_,hh,h0'',W''⟩:=ih'';cases hh;have q:=W.par 1 (by omega) hp;have q':=W'.self h0';have q'':=W''.self h0'';have hj:n'.j=m':=W'.2.1;have hM:mks (.mk .CHOICE i j false 1 0 [n.setLe 2,n',n''])=[m']++(mks (n.setLe (1+1))++(mks n'++mks n'')):=by rw[i6,AD (by simp),AD (by intro z;cases z),AL rfl,D7,D7,E7,←hj]
  have i3:In (mks n'++mks n'') (m+1) j:=q'.1.app q''.1 (by omega) (by omega) (by omega) (by omega);have i2:In (mks (n.setLe (1+1))++(mks n'++mks n'')) i j:=q.1.app i3 (by omega) (by omega) (by omega) (by omega);have i1:In [m'] m' (m'+1):=In.one (by omega);refine a8 (.inr ⟨rfl,.inl rfl⟩) hM (i1.app i2 (by omega) (by omega) (by omega) (by omega)) ?_;rw[u4 (m:=m) (by omega) (by omega),o_r i1 (.inr (by omega)),o_l i3 (.inr (by omega)),q.2];rw[A64 e (by omega) (na (i1.no (by omega)) (na (q.1.no (by omega)) (i3.no (by omega))))];rw[u4 (m:=m') (by omega) (by omega),o_r i1 (.inr (by omega)),o_r q.1 (.inl (by omega)),o_l q''.1 (.inr (by omega)),q'.2];rw[B29 e' (by omega) (by simp),o_r i1 (.inl (by omega)),o_r q.1 (.inl (by omega)),o_r q'.1 (.inl (by omega)),q''.2]
  conv=>rhs;unfold oE
 | @index i j m x y n n' h e h' e' hp ih ih'=>
  have:=h.lt;have:=h'.lt;obtain⟨_,hh,h0,W⟩:=ih;cases hh;obtain⟨_,hh,h0',W'⟩:=ih';cases hh;have q:=W.par 11 (by omega) hp;have q':=W'.self h0';have q2:=BZ7 q'.1 e' (by omega) q'.2;have qq:=AG5 q.1 q2.1 e (by omega) (by omega) q.2 q2.2;refine a8 (.inr ⟨rfl,.inl rfl⟩) ((A65 (by intro z;cases z) (by intro z;cases z)).trans (by rw[D7,E7])) qq.1 ?_;rw[qq.2]
  conv=>rhs;unfold oE
 | @index2 i j m m' x y z n n' n'' h e h' e' h'' e'' hp ih ih' ih''=>
  have:=h.lt;have:=h'.lt;have:=h''.lt;obtain⟨_,hh,h0,W⟩:=ih;cases hh;obtain⟨_,hh,h0',W'⟩:=ih';cases hh;obtain⟨_,hh,h0'',W''⟩:=ih'';cases hh;have q:=W.par 11 (by omega) hp;have q':=W'.self h0';have q'':=W''.self h0'';have q2:=BZ7 q''.1 e'' (by omega) q''.2;have q3:=AG5 q'.1 q2.1 e' (by omega) (by omega) q'.2 q2.2;have qq:=AG5 q.1 q3.1 e (by omega) (by omega) q.2 q3.2;refine a8 (.inr ⟨rfl,.inl rfl⟩) ((A65 (by intro z;cases z) (by intro z;cases z)).trans (by rw[D7,D7,E7])) qq.1 ?_;rw[qq.2]
  conv=>rhs;unfold oE
 | @past i j m x y n n' h e h' hp ih ih'=>
  have:=h.lt;have:=h'.lt;obtain⟨_,hh,h0,W⟩:=ih;cases hh;have q:=W.par 11 (by omega) hp;have ih':In (N0 [n']) (m+1) j/\oo X (N0 [n']) (m+1) j=oS y:=ih';have qq:=AG5 q.1 ih'.1 e (by omega) (by omega) q.2 ih'.2;refine a8 (.inr ⟨rfl,.inl rfl⟩) ((A65 (by intro z;cases z) (by intro z;cases z)).trans (D7 _ _)) qq.1 ?_;rw[qq.2]
  conv=>rhs;unfold oE
  rfl
 | @ovr i j m k b x y n n' hk e0 e1 e2 h e3 h' ih ih'=>
  have:=h.lt;have:=h'.lt;have ih:In (N0 [n]) (i+3) m/\oo X (N0 [n]) (i+3) m=oS x:=ih;obtain⟨_,hh,h0',W'⟩:=ih';cases hh;have q':=W'.self h0';have qq:=AG5 ih.1 q'.1 e3 (by omega) (by omega) ih.2 q'.2;have hM:N0 [n,n']=N0 [n]++mks n':=by rw[D7,E7,E7]
  rcases hk with rfl |rfl
  all_goals
   refine a8 (.inr ⟨rfl,.inr ⟨rfl,rfl⟩⟩) ((A65 (by intro z;cases z) (by intro z;cases z)).trans hM) (qq.1.up (by omega) (by omega)) ?_;rw[BC6 e0 (by omega),BQ2 e1 (by omega),A64 e2 (by omega) (qq.1.no (by omega)),qq.2];rfl
 | @sheet i j m m' b b' x y z n n' n'' e0 e1 e2 e3 e4 h e5 h' e6 h'' ih ih' ih''=>
  have:=h.lt;have:=h'.lt;have:=h''.lt;have ih:In (N0 [n]) (i+5) m/\oo X (N0 [n]) (i+5) m=oS x:=ih;have ih':In (N0 [n']) (m+1) m'/\oo X (N0 [n']) (m+1) m'=oS y:=ih';obtain⟨_,hh,h0'',W''⟩:=ih'';cases hh;have q'':=W''.self h0'';have q3:=AG5 ih'.1 q''.1 e6 (by omega) (by omega) ih'.2 q''.2;have qq:=AG5 ih.1 q3.1 e5 (by omega) (by omega) ih.2 q3.2;have hM:N0 [n,n',n'']=N0 [n]++(N0 [n']++mks n''):=by rw[D7,D7,E7,E7,E7]
  refine a8 (.inr ⟨rfl,.inr ⟨rfl,rfl⟩⟩) ((A65 (by intro z;cases z) (by intro z;cases z)).trans hM) (qq.1.up (by omega) (by omega)) ?_;rw[BC6 e0 (by omega),BQ2 e1 (by omega),A64 e2 (by omega) (qq.1.no (by omega)),BQ2 e3 (by omega),A64 e4 (by omega) (qq.1.no (by omega)),qq.2];rfl
 |sznum e=>show In (N0 [_]) _ _/\_;rw[E7,A65 (by intro z;cases z) (by intro z;cases z),O9];exact⟨.nil,by rw[Bc8 e (by omega),m5];rfl⟩
 |szname e=>show In (N0 [_]) _ _/\_;rw[E7,A65 (by intro z;cases z) (by intro z;cases z),O9];exact⟨.nil,by rw[BQ2 e (by omega),m5];rfl⟩
 | @szpar i j x n e1 h e2 ih=>
  have:=h.lt;obtain⟨_,hh,h0,W⟩:=ih;cases hh;have q:=W.self h0;have hz:=W.1.sz;show In (N0 [.mk (.n .SIZE) i (j+1) true n.st 13 [n]]) i (j+1)/\oo X (N0 [.mk (.n .SIZE) i (j+1) true n.st 13 [n]]) i (j+1)=oS x;rw[E7,i6,E7];unfold oS parIf;by_cases c:13<=n.st
  ·rw[AL ⟨rfl,c⟩,AD (fun z=>by have:=hz.mpr z;omega)];have hI:In [i,j+1-1] i (j+1):=fun k z=>by
    rcases AK.mp z with rfl |z
    ·omega
    ·rw[AN]at z;omega
   refine⟨hI.app q.1 (by omega) (by omega) (by omega) (by omega),?_⟩;rw[Bm8 e1 (.inl rfl) (by omega) (by simp),u4 (m:=j) (by omega) (by omega),Bm8 e2 (.inr rfl) (by omega) (by simp),m5,AE,←q.2];refine Bn2 (fun k z=>AQ _ z) fun k z z'=>(AY.mp z).elim (fun y=>?_) fun y=>absurd y z';rcases AK.mp y with rfl |y
   ·omega
   ·rw[AN]at y;omega
  ·rw[AD (fun z=>c z.2),AD (by intro z;cases z),AD (by intro z;cases z),AL (hz.mp (by omega))];exact⟨q.1.up (by omega) (by omega),AY3 e1 e2 q.1 (by omega) q.2⟩
 |arone _ ih=>obtain⟨n,hh,h0,W⟩:=ih;cases hh;have q:=W.self h0;show In (N0 [_]) _ _/\_;rw[E7];exact⟨q.1,by rw[q.2];rfl⟩
 | @arcons i j m x l n ns hl h e h' ih ih'=>
  have:=h.lt;have:=h'.lt;obtain⟨_,hh,h0,W⟩:=ih;cases hh;have q:=W.self h0;have ih':In (N0 ns) (m+1) j/\oo X (N0 ns) (m+1) j=b4 l:=ih';have qq:=AG5 q.1 ih'.1 e (by omega) (by omega) q.2 ih'.2;show In (N0 (n::ns)) _ _/\_;rw[D7];refine⟨qq.1,?_⟩;rw[qq.2];cases l with
  |nil=>exact absurd rfl hl
  |cons a l=>rfl
end
noncomputable def oOb:Ob->List OT
 |.ex x=>oE x
 |.sz x=>oS x
 |.ar l=>b4 l
mutual
noncomputable def oIt:It->List OT
 |.nm b=>[.nm b]
 |.kw k=>[.kept k]
 |.sg k=>[.sgn k]
 |.ob o=>oOb o
 |.nd _ l=>Z0 l
noncomputable def Z0:List It->List OT
 |[]=>[]
 |x::r=>oIt x++Z0 r
end
theorem E6:Z0 []=[]:=by unfold Z0;rfl
theorem F0 (x:It)(r:List It):Z0 (x::r)=oIt x++Z0 r:=by conv=>lhs;unfold Z0
theorem i8 (b:Bytes):oIt (.nm b)=[.nm b]:=by unfold oIt;rfl
theorem AE0 (b:Nat):oIt (.kw b)=[.kept b]:=by unfold oIt;rfl
theorem Y3 (b:Nat):oIt (.sg b)=[.sgn b]:=by unfold oIt;rfl
theorem AB9 (b:Ob):oIt (.ob b)=oOb b:=by unfold oIt;rfl
theorem AX9 (x:Nt)(l:List It):oIt (.nd x l)=Z0 l:=by conv=>lhs;unfold oIt
theorem Q3:∀(l r:List It),Z0 (l++r)=Z0 l++Z0 r
 |[],r=>by rw[E6];rfl
 |x::l,r=>by rw[Bs,F0,F0,Q3 l r,AF]
theorem h8:∀(l:List (List It)),Z0 (Z6 l)=T7 (l.map Z0)
 |[]=>E6
 |[x]=>rfl
 |x::y::l=>by show Z0 (x++(.sg 25::Z6 (y::l)))=Z0 x++(.sgn 25::T7 ((y::l).map Z0));rw[Q3,F0,Y3,h8 (y::l)];rfl
theorem AL2 {b:Type}(f:b->It)(g:b->List OT)(h:∀a,oIt (f a)=g a):∀l:List b,Z0 (l.map f)=l.flatMap g
 |[]=>E6
 |a::l=>by rw[Ah,F0,h,AL2 f g h l,DL]
section
variable {X:Tx}
theorem WO.all (h:WO X o ns i j):In (N0 ns) i j/\oo X (N0 ns) i j=oOb o:=by
 cases o with
 |ex x=>obtain⟨n,rfl,a,W⟩:=h;rw[E7];exact W.self a
 |sz x=>exact h
 |ar l=>exact h
theorem Bf0 (a:In A i m/\oo X A i m=l)(b:In B m j/\oo X B m j=r)(c:i<=m)(d:m<=j):In (A++B) i j/\oo X (A++B) i j=l++r:=by refine⟨a.1.app b.1 (by omega) (by omega) (by omega) (by omega),?_⟩;rw[u4 (m:=m) c d,o_l b.1 (.inr (by omega)),o_r a.1 (.inl (by omega)),a.2,b.2]
theorem SR.wr (h:SR X l ns i j):In (N0 ns) i j/\oo X (N0 ns) i j=Z0 l:=by
 induction h with
 |nil=>rw[O9,E6];exact⟨.nil,m5⟩
 |nm e h a=>have:=h.le;rw[F0,i8];exact⟨a.1.up (by omega) (by omega),by rw[BQ2 e (by omega),a.2];rfl⟩
 |kw e h a=>have:=h.le;rw[F0,AE0];exact⟨a.1.up (by omega) (by omega),by rw[BC6 e (by omega),a.2];rfl⟩
 |sg e h a=>have:=h.le;rw[F0,Y3];exact⟨a.1.up (by omega) (by omega),by rw[A64 e (by omega) (a.1.no (by omega)),a.2];rfl⟩
 |ob e h a=>have:=h.le;have:=e.lt;rw[F0,AB9,Ad3];exact Bf0 (Rp.wr e).all a (by omega) (by omega)
 |nd h c d a b=>have:=d.le;rw[F0,AX9,D7,A65 (by intro z;cases z) (by intro z;cases z)];exact Bf0 a b (by omega) (by omega)
theorem SR.has (h:SR X l ns i j):∀x a,.nd x a∈l->∃ns i j,SR X a ns i j:=by
 induction h with
 |nil=>intro x a q;cases q
 |nm _ _ b=>intro x a q;exact(AK.mp q).elim (fun z=>by cases z) (b x a)
 |kw _ _ b=>intro x a q;exact(AK.mp q).elim (fun z=>by cases z) (b x a)
 |sg _ _ b=>intro x a q;exact(AK.mp q).elim (fun z=>by cases z) (b x a)
 |ob _ _ b=>intro x a q;exact(AK.mp q).elim (fun z=>by cases z) (b x a)
 |nd h _ _ _ b=>
  intro x a q;rcases AK.mp q with q |q
  ·cases q;exact⟨_,_,_,h⟩
  ·exact b x a q
theorem A01 {P:Prog}{ns:List Nd}{i j:Nat}(h:SR X (l8 P) ns i j):∀d∈P,declOk d:=fun d hd=>by
 obtain⟨_,_,_,h⟩:=SR.has h .DECL (J8 d) (BN.mpr ⟨d,hd,rfl⟩);cases d with
 |graph s i o ws=>
  intro w hw;obtain⟨_,_,_,h⟩:=SR.has h .WIRE (O3 w) (by
   unfold J8;have:It.nd .WIRE (O3 w)∈ws.map fun w=>It.nd .WIRE (O3 w):=BN.mpr ⟨w,hw,rfl⟩;simp[this])
  cases w with
  |node o f i=>
   cases o with
   |nil=>
    cases h with
    |sg _ h=>cases h with |ob h _=>cases h
   |cons s o=>intro z;cases z
  |_=>trivial
 |_=>trivial
end
theorem Aw2 (l:List Bytes):Z0 (R5 l)=P5 l:=by unfold R5 P5;rw[h8,Bk];congr 1
theorem At9 (k:KindEx):Z0 (u0 k)=k8 k:=by unfold u0 k8;rw[F0,AE0];cases k.w<;>cases k.h<;>simp[F0,Y3,AB9,oOb,E6]
theorem Bd0 (o:Option Ex):Z0 (AZ6 o)=BS5 o:=by cases o<;>simp[AZ6,BS5,F0,Y3,AB9,oOb,E6]
theorem Bh5 (p:Port):Z0 (AH2 p)=y2 p:=by unfold AH2 y2;rw[F0,F0,Q3,i8,Y3,At9,Bd0];rfl
theorem Bo7 (p:EndPort):Z0 (Aj1 p)=Am8 p:=by unfold Aj1 Am8;rw[F0,F0,Q3,F0,F0,i8,Y3,AE0,AB9,At9,Bd0];rfl
theorem BK8 (l:List Port):Z0 (AD0 l)=T7 (l.map y2):=by unfold AD0;rw[h8,Bk];congr 1;exact Dd fun p _=>by show Z0 [_]=_;rw[F0,AX9,E6,AE,Bh5]
theorem Bg3 (l:List EndPort):Z0 (AQ8 l)=T7 (l.map Am8):=by unfold AQ8;rw[h8,Bk];congr 1;exact Dd fun p _=>by show Z0 [_]=_;rw[F0,AX9,E6,AE,Bo7]
theorem BR6 (s:StateDecl):Z0 (U4 s)=Z5 s:=by unfold U4 Z5;simp[F0,Y3,AB9,oOb,E6,i8,AE0,Q3,At9]
theorem B28 (d:Do):Z0 (Aq8 d)=oDo d:=by
 cases d with
 |bind s e=>simp[Aq8,oDo,F0,Y3,AB9,oOb,E6,i8,AE0]
 |put s i e=>cases i<;>simp[Aq8,oDo,F0,Y3,AB9,oOb,E6,i8]
theorem Bd4 (h:Ai0 w):Z0 (O3 w)=t3 w:=by
 cases w with
 |node o f i=>
  cases o with
  |nil=>exact absurd rfl h
  |cons s o=>simp[O3,t3,F0,Y3,E6,i8,Q3,Aw2,inP]
 |delay s n v x=>simp[O3,t3,F0,Y3,AB9,oOb,E6,i8,AE0,inP]
 |same s x=>simp[O3,t3,F0,Y3,E6,i8]
theorem Ba8 (h:declOk d):Z0 (J8 d)=a4 d:=by
 cases d with
 |const s e=>simp[J8,a4,F0,Y3,AB9,oOb,E6,i8,AE0]
 |table s c l=>simp[J8,a4,F0,Y3,AB9,oOb,E6,i8,AE0]
 |fn s j e=>simp[J8,a4,F0,Y3,AB9,oOb,E6,i8,AE0,Q3,Aw2,inP]
 |node s i o k m=>simp[J8,a4,F0,Y3,E6,i8,AE0,Q3,BK8,inP,AL2 (fun s=>It.nd .STATE (U4 s)) Z5 (fun s=>by rw[AX9,BR6]),AL2 (fun d=>It.nd .DO (Aq8 d)) oDo (fun s=>by rw[AX9,B28])]
 |graph s i o b=>
  have:∀l:List Wire,(∀w∈l,Ai0 w)->Z0 (l.map fun w=>It.nd .WIRE (O3 w))=l.flatMap t3:=by
   intro l
   induction l with
   |nil=>intro _;exact E6
   |cons a l f=>intro q;rw[Ah,F0,AX9,Bd4 (q a (AG ..)),f fun w g=>q w (AC _ g),DL]
  simp[J8,a4,F0,Y3,E6,i8,AE0,Q3,Bg3,inP,this b h]
theorem BH2:∀{P:Prog},(∀d∈P,declOk d)->Z0 (l8 P)=Ao7 P
 |[],_=>E6
 |d::P,h=>by show Z0 (.nd .DECL (J8 d)::l8 P)=a4 d++Ao7 P;rw[F0,AX9,Ba8 (h d (AG ..)),BH2 fun x a=>h x (AC _ a)]
theorem written {X:Tx}{P:Prog}{a:List Nd}(h:SR X (l8 P) a 0 X.N):K9 (.sgn 24) false (oo X (N0 a) 0 X.N)=progText P:=by rw[(SR.wr h).2,BH2 (A01 h)];exact Ad7 P (A01 h) _ rfl
open My
theorem num_val (f:Byt w)(h:numberOf (toB w)=some v):(if 1<w.length/\w[0]?=some 48/\w[1]?=some 120 then t9 16 (w.drop 2) 0 else t9 10 w 0)=(v:Int)/\v<=MOST:=by
 have g:∀{o:Option Nat},(o.bind fun(x:Nat)=>if x<=MOST then some x else none)=some v->o=some v/\v<=MOST:=by
  intro o q;cases o with
  |none=>cases q
  |some x=>
   have q:(if x<=MOST then some x else none)=some v:=q;split at q
   ·cases q;exact⟨rfl,by assumption⟩
   ·cases q
 split
 ·rename_i c;obtain⟨_,j,k⟩:=c
  match w,j,k with
  |a::b::d,j,k=>
   have p:a=48:=Aa j;have s:b=120:=Aa k;subst p s;have i:Byt d:=fun z t=>f z (AC _ (AC _ t));have h:numberOf (48::120::toB d)=some v:=h;rw[w6]at h;obtain⟨h,l⟩:=g h;refine⟨?_,l⟩;unfold Bn9 at h;split at h
   ·cases h
   ·rw[AM3 i]at h;split at h
    ·have h:=Aa h;rw[←h];exact(AZ7 i 0).symm
    ·cases h
 ·rename_i c;rw[u7]at h
  ·obtain⟨h,l⟩:=g h;refine⟨?_,l⟩;unfold Bo2 at h;split at h
   ·rename_i q;have h:=Aa h;rw[h7 f]at q;rw[←h];exact(AY9 f q.1 0).symm
   ·cases h
  ·rintro ⟨d,e⟩
   match w,e with
   |[a],e=>injection e with _ e2;cases e2
   |a::b::r,e=>have m:=f a AG;have n:=f b (AC _ AG);injection e with e1 e2;injection e2 with e2 e3;exact c ⟨by simp,by rw[show a=48 from(A54 48 (by decide) m.1 m.2).mp e1];rfl,by rw[show b=120 from(A54 120 (by decide) n.1 n.2).mp e2];rfl⟩
theorem BT4 (h:wordTok w=some (.kept k)):kept.getD k []=w:=by
 unfold wordTok at h;cases w with
 |nil=>cases h
 |cons c r=>
  dsimp only at h;split at h
  ·obtain⟨n,_,e⟩:=Ay.mp h;cases e
  ·split at h
   ·cases h
   ·split at h
    ·rename_i q;cases h;obtain⟨a,b,_⟩:=BG.mp q;rw[Bz,Aj a];exact eq_of_beq b
    ·cases h
theorem Bh9 (h:wordTok w=some (.num v)):numberOf w=some v:=by
 unfold wordTok at h;cases w with
 |nil=>cases h
 |cons c r=>
  dsimp only at h;split at h
  ·obtain⟨n,e,q⟩:=Ay.mp h;cases q;exact e
  ·split at h
   ·cases h
   ·split at h<;>cases h
theorem own_txt {b:Bytes}{i:Nat}{t:Token}(e:(tokens b).1[i]?=some t):match t.tok with
  |.name s=>s=(b.drop t.at_).take t.len
  |.kept k=>kept.getD k []=(b.drop t.at_).take t.len
  |.sign k=>signs.getD k []=(b.drop t.at_).take t.len
  |.num v=>numberOf ((b.drop t.at_).take t.len)=some v:=by
 obtain⟨h1,h2,h3,h4⟩:=(BH3 b).ok t (Az e);rw[Nat.sub_zero]at h4;rcases h4 with ⟨h5,h6⟩ |⟨k,h5,h6⟩
 ·rw[h6,Az0];cases q:t.tok with
  |name s=>rw[q]at h5;exact w9 h5
  |num v=>rw[q]at h5;exact Bh9 h5
  |kept k=>rw[q]at h5;exact BT4 h5
  |sign k=>
   rw[q]at h5;unfold wordTok at h5;split at h5
   ·cases h5
   ·split at h5
    ·obtain⟨n,_,e⟩:=Ay.mp h5;cases e
    ·split at h5
     ·cases h5
     ·split at h5<;>cases h5
 ·rw[h6];unfold signAt at h5;split at h5
  ·rename_i k' q;have h5:=Aa h5;injection h5 with e1 e2;subst e1;obtain⟨g1,g2,_⟩:=BG.mp q;show signs.getD k' []=_;have e3:signs.getD k' []=signs[k']:=by rw[Bz,Aj g1];rfl
   rw[e3]at e2 ⊢;rw[←e2];exact List.prefix_iff_eq_take.mp (EN.mp g2)
  ·cases h5
noncomputable def r2 (n:Nd):List Nat:=if n.pr=true/\n.le<=n.st then [n.i,n.j-1]else if n.k=.SIGNED then [n.i]else if n.k=.CHOICE then(match n.c with |_::m::_=>[m.j] |_=>[])else []
theorem mks_own (n:Nd):mks n=r2 n++N0 n.c:=by obtain⟨k,i,j,p,s,l,c⟩:=n;rw[i6];rfl
mutual
noncomputable def nc:Nd->Nat
 |.mk _ _ _ _ _ _ c=>1+ncs c
noncomputable def ncs:List Nd->Nat
 |[]=>0
 |n::r=>nc n+ncs r
end
theorem nc_mk (n:Nd):nc n=1+ncs n.c:=by
 obtain⟨k,i,j,p,s,l,c⟩:=n
 conv=>lhs;unfold nc
 rfl
theorem U7:ncs []=0:=by unfold ncs;rfl
theorem Q6 (n:Nd)(r:List Nd):ncs (n::r)=nc n+ncs r:=by conv=>lhs;unfold ncs
mutual
theorem Bk8:∀n:Nd,Wn n->nc n+1<=2*(n.j-n.i)
 |.mk k i j p s l c,h=>by
  obtain⟨e,a,b,_⟩:=AT5.mp h;have q:=ncs_le c i j a;rw[nc_mk];show 1+ncs c+1<=2*(j-i)
  match c,a,b,q with
  |[],_,_,q=>rw[U7];omega
  |[n],a,b,q=>obtain⟨f,d,g⟩:=Wl.one.mp a;have w:=Bk8 n d;have:=b n (AN.mpr rfl);have:=d.lt;rw[Q6,U7];omega
  |n::m::r,a,b,q=>rw[AZ,AZ]at q;omega
theorem ncs_le:∀(c:List Nd) (a b:Nat),Wl a b c->ncs c+c.length<=2*(b-a)
 |[],a,b,h=>by rw[U7];exact Ag _
 |n::r,a,b,h=>by obtain⟨f,d,e⟩:=W7.mp h;have g:=Bk8 n d;have i:=ncs_le r n.j b e;have:=d.lt;have:=e.le;rw[Q6,AZ];omega
end
section
variable {X:Tx}
def H1 (X:Tx)(k:Kd)(i j:Nat)(p:Bool)(c:List Nd):Prop:=(p=true->X.cy i=.sign 27/\X.cy (j-1)=.sign 28)/\(k=.SIGNED->∃o,o<3/\X.cy i=.sign (a9 o))/\(k=.CHOICE->∃a b d,c=a::b::d/\X.cy b.j=.sign 23)
mutual
noncomputable def Hn (X:Tx):Nd->Prop
 |.mk k i j p _ _ c=>H1 X k i j p c/\Hl X c
noncomputable def Hl (X:Tx):List Nd->Prop
 |[]=>True
 |n::r=>Hn X n/\Hl X r
end
theorem r8:Hn X (.mk k i j p s l c)↔H1 X k i j p c/\Hl X c:=by conv=>lhs;unfold Hn
theorem L6:Hl X (n::r)↔Hn X n/\Hl X r:=by conv=>lhs;unfold Hl
theorem AH4:Hl X []:=by unfold Hl;trivial
theorem S4:Hl X [n]↔Hn X n:=by rw[L6];exact⟨fun h=>h.1,fun h=>⟨h,AH4⟩⟩
theorem k5:∀{a b:List Nd},Hl X a->Hl X b->Hl X (a++b)
 |[],b,_,h=>h
 |n::a,b,h,h'=>L6.mpr ⟨(L6.mp h).1,k5 (L6.mp h).2 h'⟩
theorem Hn.set (h:Hn X n)(v:Nat):Hn X (n.setLe v):=by obtain⟨k,i,j,p,s,l,c⟩:=n;exact r8.mpr (r8.mp h)
theorem H0 (a:k≠.SIGNED)(b:k≠.CHOICE):H1 X k i j false c:=⟨fun z=>(by cases z),fun z=>absurd z a,fun z=>absurd z b⟩
theorem hk (h:Hl X c)(a:k≠.SIGNED:=by intro z;cases z)(b:k≠.CHOICE:=by intro z;cases z):Hl X [.mk k i j false s l c]:=S4.mpr (r8.mpr ⟨H0 a b,h⟩)
theorem Rp.h {o:Ob}{ns:List Nd}{i j:Nat}(h:Rp X o ns i j):Hl X ns:=by
 induction h with
 |num e=>exact hk AH4
 |name e=>exact hk AH4
 |call _ _ _ _ b=>exact hk b
 |par d h f b=>exact S4.mpr (r8.mpr ⟨⟨fun _=>⟨d,f⟩,fun z=>(by cases z),fun z=>(by cases z)⟩,b⟩)
 |hw _ _ _ _ _ _ _ b=>exact hk b
 |abs _ _ _ _ b=>exact hk b
 |two _ _ _ _ _ _ _ b a=>exact hk (k5 b a)
 |one g e h _ b=>exact S4.mpr (r8.mpr ⟨⟨fun z=>(by cases z),fun _=>⟨_,g,e⟩,fun z=>(by cases z)⟩,S4.mpr ((S4.mp b).set _)⟩)
 |bin _ _ _ _ _ _ b a=>exact hk (L6.mpr ⟨(S4.mp b).set _,S4.mpr ((S4.mp a).set _)⟩)
 |choice h e k l m _ b a c=>obtain⟨_,n,_,W⟩:=Rp.wr k;cases n;exact S4.mpr (r8.mpr ⟨⟨fun z=>(by cases z),fun z=>(by cases z),fun _=>⟨_,_,_,rfl,by rw[W.2.1];exact l⟩⟩,L6.mpr ⟨(S4.mp b).set _,k5 a c⟩⟩)
 |index _ _ _ _ _ b a=>exact hk (L6.mpr ⟨(S4.mp b).set _,a⟩)
 |index2 _ _ _ _ _ _ _ b a c=>exact hk (L6.mpr ⟨(S4.mp b).set _,k5 a c⟩)
 |past _ _ _ _ b a=>exact hk (L6.mpr ⟨(S4.mp b).set _,a⟩)
 |ovr _ _ _ _ _ _ _ b a=>exact hk (k5 b a)
 |sheet _ _ _ _ _ _ _ _ _ _ b a c=>exact hk (k5 b (k5 a c))
 |sznum e=>exact hk AH4
 |szname e=>exact hk AH4
 |szpar d h f b=>exact S4.mpr (r8.mpr ⟨⟨fun _=>⟨d,f⟩,fun z=>(by cases z),fun z=>(by cases z)⟩,b⟩)
 |arone _ b=>exact b
 |arcons _ _ _ _ b a=>exact k5 b a
theorem SR.h {l:List It}{ns:List Nd}{i j:Nat}(h:SR X l ns i j):Hl X ns:=by
 induction h with
 |nil=>exact AH4
 |nm _ _ a=>exact a
 |kw _ _ a=>exact a
 |sg _ _ a=>exact a
 |ob e _ a=>exact k5 (Rp.h e) a
 |nd _ _ _ a b=>exact L6.mpr ⟨r8.mpr ⟨H0 (by intro z;cases z) (by intro z;cases z),a⟩,b⟩
noncomputable def stB:OT->List OT->OT
 |b,[]=>b
 |_,l::r=>stB l r
noncomputable def stI:Bool->List OT->Bool
 |i,[]=>i
 |i,l::r=>stI (decide (l=.sgn 31)||(i&&decide (l≠.sgn 32))) r
theorem AP5:∀(ts us:List OT) (b:OT) (i:Bool),K9 b i (ts++us)=K9 b i ts++K9 (stB b ts) (stI i ts) us
 |[],us,b,i=>rfl
 |l::r,us,b,i=>by show List.replicate _ _++(l.txt++(_++K9 l _ (r++us)))=List.replicate _ _++(l.txt++(_++K9 l _ r))++_;rw[AP5 r us];simp only[AF];rfl
theorem BZ3 (h:Hn X n)(f:q∈r2 n):∃m,X.cy q=.sign m:=by
 obtain⟨k,i,j,p,s,l,c⟩:=n;obtain⟨⟨v,w,x⟩,_⟩:=r8.mp h;have e:r2 (.mk k i j p s l c)=if p=true/\l<=s then [i,j-1]else if k=.SIGNED then [i]else if k=.CHOICE then(Nd.mk k i j p s l c).c.tail.head?.elim [] (fun m=>[m.j])else []:=by
  unfold r2;show(if p=true/\l<=s then [i,j-1]else if k=.SIGNED then [i]else if k=.CHOICE then _ else [])=_;congr 1;congr 1;congr 1;show _=c.tail.head?.elim [] (fun m=>[m.j]);cases c with
  |nil=>rfl
  |cons a c=>cases c<;>rfl
 rw[e]at f;by_cases r:p=true/\l<=s
 ·rw[AL r]at f;obtain⟨y,z⟩:=v r.1;rcases AK.mp f with rfl |f
  ·exact⟨_,y⟩
  ·rw[AN]at f;subst f;exact⟨_,z⟩
 ·rw[AD r]at f;by_cases t:k=.SIGNED
  ·rw[AL t,AN]at f;subst f;obtain⟨o,_,g⟩:=w t;exact⟨_,g⟩
  ·rw[AD t]at f;by_cases u:k=.CHOICE
   ·rw[AL u]at f;obtain⟨a,b,d,rfl,g⟩:=x u;have f:q∈[b.j]:=f;rw[AN]at f;subst f;exact⟨_,g⟩
   ·rw[AD u]at f;cases f
mutual
theorem Bj9:∀(n:Nd),Hn X n->∀q∈mks n,∃m,X.cy q=.sign m
 |.mk k i j p s l c,h,q,a=>by
  rw[mks_own]at a;rcases AY.mp a with z |z
  ·exact BZ3 h z
  ·exact mkss_sg c (r8.mp h).2 q z
theorem mkss_sg:∀(c:List Nd),Hl X c->∀q∈N0 c,∃m,X.cy q=.sign m
 |[],_,q,a=>by rw[O9]at a;cases a
 |n::c,h,q,a=>by
  rw[D7]at a;rcases AY.mp a with z |z
  ·exact Bj9 n (L6.mp h).1 q z
  ·exact mkss_sg c (L6.mp h).2 q z
end
noncomputable def odN (X:Tx)(M:List Nat)(i:Nat):Option OT:=(om X M i).head?
theorem BN4 (M:List Nat)(i:Nat):(odN X M i).toList=om X M i:=by
 unfold odN om;split
 ·rfl
 ·rfl
 ·rfl
 ·repeat' split
  all_goals rfl
 ·rfl
theorem row_oo (M:List Nat):∀n,((List.range n).flatMap fun i=>(odN X M i).toList)=ou X M 0 n
 |0=>rfl
 |n+1=>by rw[List.range_succ,DC,row_oo M n,Ay1 n 1,Dr];show _++((odN X M n).toList++[])=_++(om X M n++[]);rw[BN4]
end
theorem Bk9 (h:wordTok w=some (.name s)):w.length<=32:=by
 unfold wordTok at h;cases w with
 |nil=>cases h
 |cons c r=>
  dsimp only at h;split at h
  ·obtain⟨n,_,e⟩:=Ay.mp h;cases e
  ·split at h
   ·cases h
   ·rename_i q;exact Nat.le_of_not_lt q
theorem name_len {b:Bytes}{i:Nat}{t:Token}(e:(tokens b).1[i]?=some t){s:Bytes}(q:t.tok=.name s):s.length<=32:=by
 obtain⟨f,g,h,d⟩:=(BH3 b).ok t (Az e);rcases d with ⟨a,c⟩ |⟨k,a,c⟩
 ·rw[q]at a;have:=w9 a;rw[this];exact Bk9 a
 ·rw[q]at c;cases c
section
variable {ns ss:List Int}
theorem AE1 (a:Byt ns)(b:Byt ss)(c:ns.length<=100000)(d:ss.length<=100000):PyWqaibx.same ns ss=TextNeutral.told (.same (toB ns) (toB ss)) (match Sw.read (toB ns),Sw.read (toB ss)with
  |.ok P,.ok Q=>says (if progText P=progText Q then 1 else 0)
  |_,_=>says (-2)):=by
 unfold PyWqaibx.same TextNeutral.step;have:TextNeutral.callOf [[4],ns,ss]=some (.same (toB ns) (toB ss)):=by show(do return SwE.Call.same (←SwRows.text? ns) (←SwRows.text? ss):Option SwE.Call)=_;rw[A10 a,A10 b];rfl
 rw[this];show TextNeutral.told (.same (toB ns) (toB ss)) (SwE.answer (.same (toB ns) (toB ss)))=_;congr 1;show(if SwE.large (toB ns)=true∨SwE.large (toB ss)=true then _ else _)=_;rw[AD (fun q=>q.elim (Af6 c) (Af6 d))];cases Sw.read (toB ns)<;>cases Sw.read (toB ss)<;>rfl
theorem same_err1 (a:Byt ns)(b:Byt ss)(c:ns.length<=100000)(d:ss.length<=100000)(h:readAll (toB ns)=.error e):PyWqaibx.same ns ss=[-2]:=by rw[AE1 a b c d];unfold Sw.read;rw[h];rfl
theorem same_err2 (a:Byt ns)(b:Byt ss)(c:ns.length<=100000)(d:ss.length<=100000)(h:readAll (toB ns)=.ok p)(h':readAll (toB ss)=.error e):PyWqaibx.same ns ss=[-2]:=by rw[AE1 a b c d];unfold Sw.read;rw[h,h'];rfl
theorem same_ok (a:Byt ns)(b:Byt ss)(c:ns.length<=100000)(d:ss.length<=100000){P Q:Prog}{l m:List Part}(h:readAll (toB ns)=.ok (P,l))(h':readAll (toB ss)=.ok (Q,m)):PyWqaibx.same ns ss=[if progText P=progText Q then 1 else 0]:=by rw[AE1 a b c d];unfold Sw.read;rw[h,h'];show TextNeutral.told _ (says (if progText P=progText Q then 1 else 0))=_;split<;>rfl
end
end Wr
namespace Tk
open PySem PySem.Spec PyProof.Rows L2
noncomputable def top (i:Nat):Stmt:=PySem.Challenge.pw_rilltexts_s04_same.main.body.getD i (.Pass ⟨0,0,0,0⟩)
noncomputable abbrev A69:Stmt:=AO2 (top 20) 0
noncomputable abbrev K3:Stmt:=top 21
noncomputable abbrev T8:Stmt:=top 22
noncomputable abbrev l3:Stmt:=top 23
noncomputable abbrev AE7:Stmt:=top 24
noncomputable abbrev Aw6:Stmt:=top 25
noncomputable abbrev h9:Stmt:=top 26
noncomputable abbrev AN5:Stmt:=top 27
noncomputable abbrev AL0:Stmt:=top 28
noncomputable abbrev T0:Stmt:=top 29
noncomputable abbrev i9:Stmt:=top 30
noncomputable abbrev Bj3:Stmt:=top 31
noncomputable abbrev x6:Stmt:=top 32
noncomputable abbrev Ab0:Stmt:=top 33
noncomputable abbrev AE2:Stmt:=top 34
noncomputable abbrev AN3:Stmt:=top 35
noncomputable abbrev X8:Stmt:=top 36
noncomputable abbrev AA6:Stmt:=top 37
noncomputable abbrev As5:Stmt:=top 38
noncomputable abbrev AI8:Stmt:=top 41
noncomputable abbrev Ak4:Stmt:=top 42
noncomputable abbrev Ax7:Stmt:=top 43
noncomputable abbrev Ay0:Stmt:=AO2 (top 54) 0
noncomputable abbrev K2:Stmt:=top 55
noncomputable abbrev X6:Stmt:=top 56
noncomputable abbrev L4:Stmt:=top 57
noncomputable abbrev R3:Stmt:=top 58
noncomputable abbrev Z1:Stmt:=top 59
noncomputable abbrev S8:Stmt:=top 60
noncomputable abbrev J2:Stmt:=top 61
noncomputable abbrev W0:Stmt:=top 62
noncomputable abbrev P6:Stmt:=top 63
noncomputable abbrev Y4:Stmt:=top 64
noncomputable abbrev Aq6:Stmt:=AO2 (top 74) 0
noncomputable abbrev AD6:Stmt:=top 75
noncomputable abbrev z7:Stmt:=AO2 (top 76) 0
noncomputable abbrev Bk6:Stmt:=top 77
noncomputable abbrev Ac9:Stmt:=top 78
noncomputable abbrev U1:Stmt:=top 79
noncomputable abbrev AA5:Stmt:=top 80
noncomputable abbrev z3:Stmt:=top 81
noncomputable abbrev z9:Stmt:=top 82
noncomputable abbrev BB7:Stmt:=top 83
noncomputable abbrev BE3:Stmt:=top 84
noncomputable abbrev V8:Stmt:=top 85
noncomputable abbrev z5:Stmt:=top 91
noncomputable abbrev R4:Stmt:=top 92
noncomputable abbrev S7:Stmt:=top 93
noncomputable abbrev Q5:Stmt:=top 94
noncomputable abbrev L1:Stmt:=top 95
noncomputable abbrev S5:Stmt:=top 96
noncomputable abbrev BS3:Stmt:=top 99
open My (m7 BI4 BH4 wordB V5 V4 An1 t9 AZ4 Byt endOf notLF K6 Au6 AS4 T A36)
structure Fn (K:AA)(mg:Str->Option AH)(x:Str)(st:Stmt)(ps:List Str)(f:AI)(fd:BK):Prop where
 F:Fun K x x st f fd
 g:mg x=some (.ref f)
 b:Binds K fd ps []
def FN (K:AA)(a:Str->Option AH)(x:Str)(st:Stmt)(ps:List Str):Prop:=∃f b,Fn K a x st ps f b
def GI (a:Str->Option AH)(x:Str)(i:Int):Prop:=∃t,a x=some (.int i t)
section
variable {X:Cx}
theorem F2 (h:GI X.mg x i)(a:Gl X x:=by rfl)(hd:(x==("__debug__":Str))=false:=by decide):PE X (.Name x pos) (tC (.int i)):=by obtain⟨t,h⟩:=h;exact Aa0 a h ⟨t,rfl⟩ hd
theorem Bq0 (h:X.mg x=some (.str y t))(a:Gl X x:=by rfl)(hd:(x==("__debug__":Str))=false:=by decide):PE X (.Name x pos) (tC (.str y)):=Aa0 a h ⟨t,rfl⟩ hd
theorem R0 (h:X.mg x=some (.ref a))(b:Gl X x:=by rfl)(hd:(x==("__debug__":Str))=false:=by decide):PE X (.Name x pos) (tC (.ref a)):=Aa0 b h rfl hd
theorem D5 {k:Nat}{x:Str}{st:Stmt}{ps:List Str}{f:AI}{i:BK}{sp:Sp}{e:Expr}{es:List Expr}{t:TA}{a c:Pos}(N:Fn X.K X.mg x st ps f i)(G:D6 X.prog X.w X.K X.mg X.base CX0 k f i ps sp)(j:Room k X.A)(l:PA X (e::es) t)
  (m:Gl X x:=by rfl) (d:(x==("__debug__":Str))=false:=by decide) (n:starEach (e::es) X.env=(false,eval e X.env)::starEach es X.env:=by rfl) (h:(backTo c (starEach es X.env)).any (·.1)=false:=by rfl):
  PE X (.Call (.Name x a) (e::es) [] c) (Am2 sp [] E0 t):=BU5 G j m N.g N.F.kp N.b .nil Ak2 l d n h
end
theorem AA3 {i:Nat}{a:L2.St}{H:Hp}{Q:VK}{z b d:Int}(hz:a[i]?=some (some (.int z)))(h:Q (.bl (decide (b<=z)&&decide (z<=d))) H):
  As0 (rI0 fun i j=>.bl (decide (i<=j))) (rI0 fun i j=>.bl (decide (i<=j))) (tC (.int b)) (Q8 i) (tC (.int d)) a H Q:=by
 refine⟨_,hz,_,_,rfl,rfl,_,rfl,?_⟩;refine G5 (fun c=>⟨_,_,rfl,rfl,?_⟩) (fun c=>?_)
 ·rw[c,DP]at h;exact h
 ·rw[Ab.mpr c,ER]at h;exact h
theorem y8 {K:AA}{b:L2.St}{H:Hp}{Q:VK}{i j:Nat}{a:AI}{ns:List Int}{p:Nat}{z:Int}(c:b[i]?=some (some (.ref a)))(d:b[j]?=some (some (.int (p:Int))))(e:SqL K H a (ns.map V.int))(hz:ns[p]?=some z)(h:Q (.int z) H):
  tOp (Bl5 K) (Q8 i) (Q8 j) b H Q:=⟨_,c,_,d,a,_,_,_,rfl,rfl,e,E9 (by rw[Aq,hz];rfl),h⟩
theorem Af2 {K:AA}{b:L2.St}{H:Hp}{Q:VK}{i:Nat}{a:AI}{ns:List Int}{p:Nat}{z:Int}(c:b[i]?=some (some (.ref a)))(d:SqL K H a (ns.map V.int))(hz:ns[p]?=some z)(h:Q (.int z) H):
  tOp (Bl5 K) (Q8 i) (tC (.int (p:Int))) b H Q:=⟨_,c,a,_,_,_,rfl,rfl,d,E9 (by rw[Aq,hz];rfl),h⟩
theorem Ad1 {K:AA}{b:L2.St}{H:Hp}{Q:VK}{i j:Nat}{a:AI}{ns:List Int}{p:Nat}{z:Int}(c:b[i]?=some (some (.ref a)))(d:b[j]?=some (some (.int (p:Int))))(f:SqL K H a (ns.map V.int))(hz:ns[p+1]?=some z)(h:Q (.int z) H):
  tOp (Bl5 K) (Q8 i) (tOp (rI0 fun i j=>.int (i+j)) (Q8 j) (tC (.int 1))) b H Q:=
 ⟨_,c,_,d,_,_,rfl,rfl,a,_,_,_,rfl,rfl,f,by
  have e:(p:Int)+1=((p+1:Nat):Int):=by omega
  rw[e];exact E9 (by rw[Aq,hz];rfl),h⟩
theorem O4 {K:AA}{b:L2.St}{H:Hp}{Q:VK}{i:Nat}{a:AI}{ns:List Int}(c:b[i]?=some (some (.ref a)))(d:SqL K H a (ns.map V.int))(h:Q (.int (ns.length:Nat)) H):
  tCB (fun xs H Q=>∃p ys,xs=[.ref p]/\(SqL K H p ys∨SqT K H p ys)/\Q (.int ys.length) H) (M9 (Q8 i) AW1) b H Q:=
 ⟨_,c,a,_,rfl,.inl d,by rw[AJ];exact h⟩
theorem Al4 (h:c σ H fun b a=>if b=true then t {D with nx:=v D} σ a else u {D with nx:=v D} σ a):An3 (Bc0 c t u) v D σ H:=h
theorem BJ9 (h:t σ H fun c a=>if c=true then Q true a else u σ a Q):tOr t u σ H Q:=h
theorem Ba2 (h:t σ H fun c a=>if c=true then u σ a Q else Q false a):Bw7 t u σ H Q:=h
theorem Z7 (h:ta σ H fun x a=>tb σ a fun y b=>r x y b fun z c=>Ax9 Q z c):Al9 (tOp r ta tb) σ H Q:=h
inductive W4 (vs:List V) (H:Hp) (Q:VK) (E:XK):Prop
 |mk:∀(z:Int),vs=[.int z]->Q (.bl (m7 z)) H->W4 vs H Q E
inductive p3 (vs:List V) (H:Hp) (Q:VK) (E:XK):Prop
 |mk:∀(z:Int),vs=[.int z]->Q (.bl (A36 z)) H->p3 vs H Q E
inductive AD5 (vs:List V) (H:Hp) (Q:VK) (E:XK):Prop
 |mk:∀(z:Int),vs=[.int z]->Q (.bl (V5 z)) H->AD5 vs H Q E
section
variable {P:Af} {w:Ap} {K:AA} {mg:Str->Option AH} {base:BR}
theorem Av8:B7 ["byte"] ["byte"] (A8 K3):=fsc
theorem n6 (F:Fun K "is_digit" "is_digit" K3 f fd):D6 P w K mg base CX0 1 f fd ["byte"] W4:=by refine F.oK Av8 fun b A a s H c Q E d h=>?_;obtain⟨z,rfl,h⟩:=h;refine⟨_,A3 (B6 (AL8 AN6 AN6 B0 (pv 0) B0)),?_⟩;exact AA3 rfl h
theorem Ak9:B7 ["byte"] ["byte"] (A8 T8):=fsc
theorem Aa6 {f:AI}{d:BK}(F:Fun K "is_letter" "is_letter" T8 f d):D6 P w K mg base CX0 1 f d ["byte"] p3:=by
 refine F.oK Ak9 fun g A a s H i Q E j h=>?_;obtain⟨z,rfl,h⟩:=h;refine⟨_,A3 (B6 (Ak8 (AL8 AN6 AN6 B0 (pv 0) B0) (Ak8 (AL8 AN6 AN6 B0 (pv 0) B0) (m2 (K7 J0 (pv 0) B0 (C1 _)))))),?_⟩;refine AA3 rfl ⟨_,rfl,G5 (fun c=>?_) (fun c=>?_)⟩
 ·have e:A36 z=true:=by unfold A36 BI4;rw[c];rfl
  rw[e]at h;exact h
 refine AA3 rfl ⟨_,rfl,G5 (fun b=>?_) (fun b=>?_)⟩
 ·have e:A36 z=true:=by unfold A36 BH4;rw[b];simp
  rw[e]at h;exact h
 refine⟨_,rfl,rfl,?_⟩;have e:A36 z=decide (V.int z=V.int 95):=by unfold A36 BI4 BH4;rw[Ab.mpr c,Ab.mpr b];simp
 rw[e]at h;exact h
theorem Ay4:B7 ["byte"] ["byte"] (A8 l3):=fsc
theorem Ak5 (F:Fun K "is_blank" "is_blank" l3 f fd)(b:GI mg "BLANK" 32)(d:GI mg "LINE_END" 10):D6 P w K mg base CX0 1 f fd ["byte"] AD5:=by
 refine F.oK Ay4 fun g A a s H i Q E j h=>?_;obtain⟨z,rfl,h⟩:=h;refine⟨_,A3 (B6 (Ak8 (K7 J0 (pv 0) (F2 b) (C1 _)) (m2 (K7 J0 (pv 0) (F2 d) (C1 _))))),?_⟩;refine⟨_,rfl,rfl,_,rfl,G5 (fun c=>?_) (fun c=>?_)⟩
 ·have e:z=32:=by simpa using c
  have e:V5 z=true:=by unfold V5;rw[e];rfl
  rw[e]at h;exact h
 ·have n:¬z=32:=by intro q;apply c;simpa using q
  refine⟨_,rfl,rfl,?_⟩;have e:V5 z=decide (V.int z=V.int 10):=by unfold V5;simp[n]
  rw[e]at h;exact h
theorem J9 {a:Type}{l:List a}{i:Nat}{x:a}(h:l[i]?=some x):l.take (i+1)=l.take i++[x]:=by rw[List.take_succ,h];rfl
theorem AA9 {a:Type}{f:a->V}{l:List a}{i:Nat}{y:V}(h:(l.map f)[i]?=some y):∃x,l[i]?=some x/\y=f x:=by
 rw[Aq]at h;cases e:l[i]? with
 |none=>rw[e]at h;cases h
 |some z=>rw[e]at h;exact⟨z,rfl,(Aa h).symm⟩
end
inductive AA4 (vs:List V) (H:Hp) (Q:VK) (E:XK):Prop
 |mk:∀(z:Int),vs=[.int z]->Q (.bl (wordB z)) H->AA4 vs H Q E
noncomputable def k9 (ns:List Int)(p:Nat):Bool:=decide (ns[p]?=some 47)&&decide (ns[p+1]?=some 47)
inductive Ao8 (K:AA) (vs:List V) (H:Hp) (Q:VK) (E:XK):Prop
 |mk:∀(a:AI) (ns:List Int) (p:Nat) (z:Int),vs=[.ref a,.int p]->SqL K H a (ns.map V.int)->ns[p]?=some z->Q (.bl (k9 ns p)) H->Ao8 K vs H Q E
inductive AE9 (K:AA) (vs:List V) (H:Hp) (Q:VK) (E:XK):Prop
 |mk:∀(a:AI) (ns:List Int) (p:Nat),vs=[.ref a,.int p]->SqL K H a (ns.map V.int)->p<=ns.length->Q (.int (endOf notLF ns p:Nat)) H->AE9 K vs H Q E
inductive AO5 (K:AA) (vs:List V) (H:Hp) (Q:VK) (E:XK):Prop
 |mk:∀(a:AI) (ns:List Int) (p:Nat),vs=[.ref a,.int p]->SqL K H a (ns.map V.int)->p<=ns.length->Q (.int (endOf wordB ns p:Nat)) H->AO5 K vs H Q E
inductive AL7 (K:AA) (vs:List V) (H:Hp) (Q:VK) (E:XK):Prop
 |mk:∀(a:AI) (ns:List Int) (p:Nat),vs=[.ref a,.int p]->SqL K H a (ns.map V.int)->Byt ns->p<=ns.length->(∀q:Nat,p<=q->q<=ns.length->T ns q=T ns p->AS4 ns q->Q (.int (q:Nat)) H)->AL7 K vs H Q E
inductive l5 (vs:List V) (H:Hp) (Q:VK) (E:XK):Prop
 |mk:∀(z:Int),vs=[.int z]->Q (.int (V4 z)) H->l5 vs H Q E
inductive BN9 (K:AA) (vs:List V) (H:Hp) (Q:VK) (E:XK):Prop
 |mk:∀(a:AI) (ds:List Int) (base:Int) (most:Nat),vs=[.ref a,.int base,.int (most:Nat)]->SqL K H a (ds.map V.int)->(0<=base/\base<=100)->Q (.bl (An1 ds base most)) H->BN9 K vs H Q E
inductive Aa4 (K:AA) (vs:List V) (H:Hp) (Q:VK) (E:XK):Prop
 |mk:∀(a:AI) (w:List Int),vs=[.ref a]->SqL K H a (w.map V.int)->(∀H':Hp,Same H H'->Q (.bl (AZ4 w)) H')->Aa4 K vs H Q E
structure Txt (mg:Str->Option AH):Prop where
 len:mg "len"=none
 slash:GI mg "SLASH" 47
 lineEnd:GI mg "LINE_END" 10
 blank:GI mg "BLANK" 32
 zero:GI mg "ZERO" 48
 smallX:GI mg "SMALL_X" 120
 mostD:GI mg "MOST_DIGITS" 19
 mostH:GI mg "MOST_HEX_DIGITS" 16
 largest:GI mg "LARGEST_NUMBER" 9223372036854775807
section
variable {P:Af} {w:Ap} {K:AA} {mg:Str->Option AH} {base:BR}
theorem A52:B7 ["byte"] ["byte"] (A8 AE7):=fsc
theorem A96 (z:Int):wordB z=(A36 z||m7 z):=by unfold wordB A36;generalize BI4 z=a;generalize BH4 z=b;generalize m7 z=c;generalize decide (z=95)=d;cases a<;>cases b<;>cases c<;>cases d<;>rfl
theorem AU7 (F:Fun K "is_word_byte" "is_word_byte" AE7 f fd)(L:Fn K mg "is_letter" T8 ["byte"] fL fdL)(D:Fn K mg "is_digit" K3 ["byte"] fD fdD):D6 P w K mg base CX0 2 f fd ["byte"] AA4:=by
 have d:D6 P w K mg base CX0 1 fL fdL ["byte"] p3:=Aa6 L.F;have e:D6 P w K mg base CX0 1 fD fdD ["byte"] W4:=n6 D.F;refine F.oK A52 fun g A a s H i Q E b h=>?_;obtain⟨z,rfl,h⟩:=h;rw[A96]at h;refine⟨_,A3 (B6 (Ak8 (D5 L d b (A0 (pv 0) A6)) (m2 (D5 D e b (A0 (pv 0) A6))))),?_⟩;refine⟨_,rfl,z,rfl,_,rfl,G5 (fun c=>?_) (fun c=>?_)⟩
 ·rw[c,Bool.true_or]at h;exact h
 ·rw[Ab.mpr c,Cw]at h;exact⟨_,rfl,z,rfl,h⟩
theorem Bg2:B7 ["t","at"] ["t","at"] (A8 Aw6):=fsc
theorem BX5 {f:AI}{m:BK}(F:Fun K "begins_note" "begins_note" Aw6 f m)(T:Txt mg):D6 P w K mg base CX0 1 f m ["t","at"] (Ao8 K):=by
 refine F.oK Bg2 fun o A d s H r Q E t h=>?_;obtain⟨a,b,p,z,rfl,g,i,h⟩:=h;refine⟨_,A3 (B6 (AH0 (K7 J0 (G7 D4 (pv 0) (pv 1) (fun _ _=>rfl)) (F2 T.slash) (C1 _))
  (AH0 (K7 AX6 (R9 V7 (pv 1) B0) (F1 C5 (by rfl) T.len BP (A0 (pv 0) A6)) (C1 _))
   (m2 (K7 J0 (G7 D4 (pv 0) (R9 V7 (pv 1) B0) (fun _ _=>rfl)) (F2 T.slash) (C1 _)))))),?_⟩
 refine y8 rfl rfl g i ⟨rfl,_,rfl,G5 (fun c=>?_) (fun c=>?_)⟩
 ·have e:z=47:=by simpa using c
  subst e;refine⟨_,rfl,_,_,rfl,rfl,O4 rfl g ⟨_,_,rfl,rfl,_,rfl,G5 (fun j=>?_) (fun j=>?_)⟩⟩
  ·have k:p+1<b.length:=by have:=of_decide_eq_true j;omega
   have n:b[p+1]?=some b[p+1]:=Aj k;refine Ad1 rfl rfl g n ⟨rfl,?_⟩;have e:k9 b p=decide (V.int b[p+1]=V.int 47):=by unfold k9;rw[i,n];simp
   rw[e]at h;exact h
  ·have l:b.length<=p+1:=by have:=Al (Ab.mpr j);omega
   have e:k9 b p=false:=by unfold k9;rw[CO l];simp
   rw[e]at h;exact h
 ·have e:k9 b p=false:=by
   unfold k9;rw[i];have:¬z=47:=by intro q;apply c;simpa using q
   simp[this]
  rw[e]at h;exact h
theorem AR5:B7 ["t","at"] ["t","at"] (A8 h9):=fsc
theorem Aj4 {f:AI}{o:BK}(F:Fun K "note_end" "note_end" h9 f o)(T:Txt mg):D6 P w K mg base CX0 1 f o ["t","at"] (AE9 K):=by
 refine F.oK AR5 fun v A g s H z Q E B h=>?_;obtain⟨a,b,p,rfl,r,y,h⟩:=h;refine⟨_,A2 (Q7 BJ (PW.pt (w4 (B4 AX6 (pv 1) (F1 C5 (by rfl) T.len BP (A0 (pv 0) A6)) (C1 _))
   (X4 (B4 A85 (G7 D4 (pv 0) (pv 1) (fun _ _=>rfl)) (F2 T.lineEnd) (C1 _)))))
  (A3 (Ag5 (i:=1) AR5.nd rfl (Or.inl rfl) B0 AJ5))) (A3 (B6 (pv 1))),?_⟩
 refine⟨fun m t u=>∃q:Nat,t=[some (.ref a),some (.int q)]/\u=H/\q<=b.length/\endOf notLF b q=endOf notLF b p/\m=b.length-q,⟨_,p,rfl,rfl,y,rfl,rfl⟩,?_⟩;rintro m t u ⟨q,rfl,rfl,C,j,rfl⟩;refine⟨_,rfl,O4 rfl r ⟨_,_,rfl,rfl,_,rfl,G5 (fun c=>?_) (fun c=>?_)⟩⟩
 ·have e:q<b.length:=by have:=of_decide_eq_true c;omega
  have k:b[q]?=some b[q]:=Aj e;refine y8 rfl rfl r k ⟨rfl,_,rfl,G5 (fun l=>?_) (fun l=>?_)⟩
  ·have d:notLF b[q]=true:=by unfold notLF;simpa using l
   refine⟨_,fun _ _ x=>x,_,rfl,_,_,rfl,rfl,?_⟩;refine⟨b.length-(q+1),by omega,q+1,?_,rfl,e,by rw[←j,My.endOf_step k d],rfl⟩;show [some (V.ref a),some (V.int ((q:Int)+1))]=_;rfl
  ·have d:notLF b[q]=false:=by unfold notLF;simpa using l
   refine⟨_,rfl,?_⟩;rw[←j,My.endOf_stop k d]at h;exact h
 ·have n:b.length<=q:=by have:=Al (Ab.mpr c);omega
  refine⟨_,rfl,?_⟩;rw[←j,My.endOf_end n]at h;exact h
theorem AN9:B7 ["t","at"] ["t","at"] (A8 AN5):=fsc
theorem Aq4 (F:Fun K "behind_blanks" "behind_blanks" AN5 f fd)(X:Txt mg)(B:Fn K mg "is_blank" l3 ["byte"] fK fdK)(N:Fn K mg "begins_note" Aw6 ["t","at"] fN fdN)(E:Fn K mg "note_end" h9 ["t","at"] fE fdE):
  D6 P w K mg base CX0 2 f fd ["t","at"] (AL7 K):=by
 have R:D6 P w K mg base CX0 1 fK fdK ["byte"] AD5:=Ak5 B.F X.blank X.lineEnd;have S:D6 P w K mg base CX0 1 fN fdN ["t","at"] (Ao8 K):=BX5 N.F X;have U:D6 P w K mg base CX0 1 fE fdE ["t","at"] (AE9 K):=Aj4 E.F X;refine F.oK AN9 fun W A C s H vs Q E' D h=>?_;obtain⟨a,b,p,rfl,u,M,Y,h⟩:=h;refine⟨_,A2 (Q7 BJ (B4 AX6 (pv 1) (F1 C5 (by rfl) X.len BP (A0 (pv 0) A6)) (C1 _))
  (A3 (D9 (R7 (D5 B R D (A0 (G7 D4 (pv 0) (pv 1) (fun _ _=>rfl)) A6)))
   (A3 (Ag5 (i:=1) AN9.nd rfl (Or.inl rfl) B0 AJ5))
   (A3 (D9 (R7 (D5 N S D (A0 (pv 0) (A0 (pv 1) A6))))
    (A3 (C9 (i:=1) AN9.nd rfl (Or.inl rfl) (D5 E U D (A0 (pv 0) (A0 (pv 1) A6)))))
    (A3 (B6 (pv 1)))))))) (A3 (B6 (pv 1))),?_⟩
 refine⟨fun m O v=>∃q:Nat,O=[some (.ref a),some (.int q)]/\H=v/\p<=q/\q<=b.length/\T b q=T b p/\m=b.length-q,⟨_,p,rfl,rfl,AB _,Y,rfl,rfl⟩,?_⟩;rintro m O v ⟨q,rfl,rfl,g,G,y,rfl⟩;refine⟨_,rfl,O4 rfl u ⟨_,_,rfl,rfl,_,rfl,G5 (fun c=>?_) (fun c=>?_)⟩⟩
 ·have d:q<b.length:=by have:=of_decide_eq_true c;omega
  have e:b[q]?=some b[q]:=Aj d;refine⟨fun I v=>∃j,j<b.length-q/\∃q:Nat,I=[some (.ref a),some (.int q)]/\H=v/\p<=q/\q<=b.length/\T b q=T b p/\j=b.length-q,fun _ _ x=>x,?_⟩;have k:V5 b[q]=true->∃j,j<b.length-q/\∃l:Nat,[some (V.ref a),some (V.int ((q:Int)+1))]=[some (V.ref a),some (V.int l)]/\H=H/\p<=l/\l<=b.length/\T b l=T b p/\j=b.length-l:=fun Z=>
   ⟨b.length-(q+1),by omega,q+1,rfl,rfl,by omega,d,by rw[←y];exact(My.T_blank M e Z).symm,rfl⟩
  refine y8 rfl rfl u e ⟨_,rfl,_,rfl,G5 (fun J=>?_) (fun J=>?_)⟩
  ·exact⟨_,rfl,_,_,rfl,rfl,k J⟩
  ·have nb:V5 b[q]=false:=Ab.mpr J;refine⟨_,rfl,_,rfl,a,b,q,_,rfl,u,e,_,rfl,G5 (fun n=>?_) (fun n=>?_)⟩
   ·have o:Au6 b q:=by unfold k9 at n;simp only[Ar,BC]at n;exact n
    refine⟨_,rfl,_,rfl,a,b,q,rfl,u,G,?_⟩;have L:b[q]=47:=by have:=o.1;rw[e]at this;exact Aa this
    have aa:=My.endOf_le (P:=notLF) (ns:=b) (p:=q+1) d;have ab:=My.endOf_step (P:=notLF) e (by unfold notLF;rw[L];rfl);have r:=My.endOf_ge (P:=notLF) (ns:=b) (p:=q+1);exact⟨b.length-endOf notLF b q,by omega,endOf notLF b q,rfl,rfl,by omega,by omega,by rw[←y];exact(My.T_note M o).symm,rfl⟩
   ·refine⟨_,rfl,?_⟩;refine h q g G y fun z t=>?_;rw[e]at t;cases t;refine⟨nb,fun o=>n ?_⟩;unfold k9;rw[AR o.1,AR o.2];rfl
 ·have r:b.length<=q:=by have:=Al (Ab.mpr c);omega
  refine⟨_,rfl,?_⟩;refine h q g G y fun z t=>?_;rw[CO r]at t;cases t
theorem Ab2:B7 ["t","at"] ["t","at"] (A8 AL0):=fsc
theorem At6 (F:Fun K "run_end" "run_end" AL0 f fd)(X:Txt mg)(W:Fn K mg "is_word_byte" AE7 ["byte"] fW fdW)(L:Fn K mg "is_letter" T8 ["byte"] fL fdL)(D:Fn K mg "is_digit" K3 ["byte"] fD fdD):
  D6 P w K mg base CX0 3 f fd ["t","at"] (AO5 K):=by
 have t:D6 P w K mg base CX0 2 fW fdW ["byte"] AA4:=AU7 W.F L D;refine F.oK Ab2 fun u A e s H z Q E v h=>?_;obtain⟨a,b,p,rfl,n,y,h⟩:=h;refine⟨_,A2 (Q7 BJ (PW.pt (w4 (B4 AX6 (pv 1) (F1 C5 (by rfl) X.len BP (A0 (pv 0) A6)) (C1 _))
   (X4 (R7 (D5 W t v (A0 (G7 D4 (pv 0) (pv 1) (fun _ _=>rfl)) A6))))))
  (A3 (Ag5 (i:=1) Ab2.nd rfl (Or.inl rfl) B0 AJ5))) (A3 (B6 (pv 1))),?_⟩
 refine⟨fun m o r=>∃q:Nat,o=[some (.ref a),some (.int q)]/\r=H/\q<=b.length/\endOf wordB b q=endOf wordB b p/\m=b.length-q,⟨_,p,rfl,rfl,y,rfl,rfl⟩,?_⟩;rintro m o r ⟨q,rfl,rfl,B,g,rfl⟩;refine⟨_,rfl,O4 rfl n ⟨_,_,rfl,rfl,_,rfl,G5 (fun c=>?_) (fun c=>?_)⟩⟩
 ·have d:q<b.length:=by have:=of_decide_eq_true c;omega
  have j:b[q]?=some b[q]:=Aj d;refine y8 rfl rfl n j ⟨_,rfl,_,rfl,G5 (fun k=>?_) (fun k=>?_)⟩
  ·refine⟨_,fun _ _ x=>x,_,rfl,_,_,rfl,rfl,?_⟩;exact⟨b.length-(q+1),by omega,q+1,rfl,rfl,d,by rw[←g,My.endOf_step j k],rfl⟩
  ·refine⟨_,rfl,?_⟩;rw[←g,My.endOf_stop j (Ab.mpr k)]at h;exact h
 ·have l:b.length<=q:=by have:=Al (Ab.mpr c);omega
  refine⟨_,rfl,?_⟩;rw[←g,My.endOf_end l]at h;exact h
theorem A68:B7 ["byte"] ["byte"] (A8 T0):=fsc
theorem AV0 (F:Fun K "digit_value" "digit_value" T0 f fd)(D:Fn K mg "is_digit" K3 ["byte"] fD fdD):D6 P w K mg base CX0 2 f fd ["byte"] l5:=by
 have d:D6 P w K mg base CX0 1 fD fdD ["byte"] W4:=n6 D.F;refine F.oK A68 fun g A b s H j Q E i h=>?_;obtain⟨z,rfl,h⟩:=h;refine⟨_,A2 (D9 (R7 (D5 D d i (A0 (pv 0) A6))) (A3 (B6 (R9 AF1 (pv 0) B0))) C4)
  (A2 (D9 (A58 AN6 AN6 B0 (pv 0) B0) (A3 (B6 (R9 AF1 (pv 0) B0))) C4) (A3 (B6 B0))),?_⟩
 refine⟨_,rfl,z,rfl,_,rfl,G5 (fun c=>?_) (fun c=>?_)⟩
 ·refine⟨_,rfl,_,_,rfl,rfl,?_⟩;have e:V4 z=z-48:=by unfold V4;rw[AL c]
  rw[e]at h;exact h
 ·refine AA3 rfl ⟨_,rfl,G5 (fun a=>?_) (fun a=>?_)⟩
  ·refine⟨_,rfl,_,_,rfl,rfl,?_⟩;rw[Ar,BC,BC]at a;have e:V4 z=z-55:=by unfold V4;rw[AD c,AL a]
   rw[e]at h;exact h
  ·rw[Ar,BC,BC]at a;have e:V4 z=16:=by unfold V4;rw[AD c,AD a]
   rw[e]at h;exact h
theorem AK6:B7 ["digits","base","number","digit"] ["digits","base"] (A8 i9):=fsc
inductive AC8 (K:AA) (vs:List V) (H:Hp) (Q:VK) (E:XK):Prop
 |mk:∀(a:AI) (ds:List Int) (base:Int),vs=[.ref a,.int base]->SqL K H a (ds.map V.int)->(0<=base/\base<=100)->Q (.int (t9 base ds 0)) H->AC8 K vs H Q E
theorem Af8 (F:Fun K "value_of_digits" "value_of_digits" i9 f fd)(k:Fn K mg "digit_value" T0 ["byte"] fV fdV)(D:Fn K mg "is_digit" K3 ["byte"] fD fdD):
  D6 P w K mg base CX0 3 f fd ["digits","base"] (AC8 K):=by
 have m:D6 P w K mg base CX0 2 fV fdV ["byte"] l5:=AV0 k.F D;refine F.oK AK6 fun n A g s H r Q E o h=>?_;obtain⟨a,j,b,rfl,l,t,h⟩:=h;refine⟨_,A2 (C9 (i:=2) AK6.nd rfl (Or.inl rfl) B0)
  (A2 (Z8 BJ rfl (X3 (pv 0)) (K8 (i:=3) AK6.nd rfl (Or.inl rfl))
   (A3 (C9 (i:=2) AK6.nd rfl (Or.inl rfl) (R9 V7 (R9 Ba9 (pv 2) (pv 1)) (D5 k m o (A0 (pv 3) A6))))))
  (A3 (B6 (pv 2)))),?_⟩
 refine⟨_,rfl,a,rfl,⟨_,l⟩,Y5 (K:=K) (a:=a) (xs:=j.map V.int) (fun i c d=>d=H/\∃v:Option V,c=[some (.ref a),some (.int b),some (.int (t9 b (j.take i) 0)),v])
  ⟨rfl,none,rfl⟩ (fun i c d _ ⟨e,_⟩=>by rw[e];exact l) ?_ ?_⟩
 ·rintro i y c d p ⟨rfl,v,rfl⟩;obtain⟨z,q,rfl⟩:=AA9 p;refine⟨_,rfl,_,rfl,_,_,rfl,rfl,.inr ⟨by omega,by omega⟩,_,rfl,z,rfl,_,_,rfl,rfl,rfl,some (V.int z),?_⟩;show [some (V.ref a),some (V.int b),some (V.int (t9 b (j.take i) 0*b+V4 z)),some (V.int z)]=_;rw[J9 q];unfold t9;rw[Cq];rfl
 ·rintro c d ⟨rfl,v,rfl⟩;rw[AJ,Be];exact⟨_,rfl,h⟩
theorem BY9:B7 ["digits","base","most","digit"] ["digits","base","most"] (A8 Bj3):=fsc
theorem Bj0 (F:Fun K "are_digits" "are_digits" Bj3 f fd)(X:Txt mg)(U:Fn K mg "value_of_digits" i9 ["digits","base"] fU fdU)(u:Fn K mg "digit_value" T0 ["byte"] fV fdV)(D:Fn K mg "is_digit" K3 ["byte"] fD fdD):
  D6 P w K mg base CX0 4 f fd ["digits","base","most"] (BN9 K):=by
 have S:D6 P w K mg base CX0 2 fV fdV ["byte"] l5:=AV0 u.F D;have T:D6 P w K mg base CX0 3 fU fdU ["digits","base"] (AC8 K):=Af8 U.F u D;refine F.oK BY9 fun W A x s H vs Q E M h=>?_;obtain⟨a,d,b,m,rfl,l,Y,h⟩:=h;have B:Room 2 _:=M.mono (by decide);refine⟨_,A2 (D9 (PW.pt (A43 (B4 J0 (F1 C5 (by rfl) X.len BP (A0 (pv 0) A6)) B0 (C1 _))
   (Aa9 (B4 AG2 (F1 C5 (by rfl) X.len BP (A0 (pv 0) A6)) (pv 2) (C1 _))))) (A3 (B6 AP9)) C4)
  (A2 (D9 (PW.pt (w4 (B4 J0 (G7 D4 (pv 0) B0 (fun _ _=>rfl)) (F2 X.zero) (C1 _))
   (X4 (B4 AG2 (F1 C5 (by rfl) X.len BP (A0 (pv 0) A6)) B0 (C1 _))))) (A3 (B6 AP9)) C4)
  (A2 (Z8 BJ rfl (X3 (pv 0)) (K8 (i:=3) BY9.nd rfl (Or.inl rfl))
   (A3 (D9 (B4 BX6 (D5 u S B (A0 (pv 3) A6)) (pv 1) (C1 _)) (A3 (B6 AP9)) C4)))
  (A3 (B6 (K7 AN6 (D5 U T M (A0 (pv 0) (A0 (pv 1) A6))) (F2 X.largest) (C1 _)))))),?_⟩
 have r:An1 d b m=false->Q (.bl false) H:=fun e=>by rw[e]at h;exact h
 refine Al4 (BJ9 (Z7 (O4 rfl l ⟨rfl,_,rfl,G5 (fun c=>?_) (fun c=>?_)⟩)))
 ·have e:d.length=0:=by simpa using c
  exact r (My.areD_false (.inl (.inl e)))
 have n0:¬d.length=0:=by intro e;apply c;simp[e]
 refine Z7 (O4 rfl l ⟨_,rfl,_,_,rfl,rfl,_,rfl,G5 (fun C=>?_) (fun C=>?_)⟩)
 ·have e:m<d.length:=by have:=of_decide_eq_true C;omega
  exact r (My.areD_false (.inl (.inr e)))
 have n1:¬m<d.length:=by intro e;apply C;exact AR (by omega)
 have N:d[0]?=some d[0]:=Aj (by omega);have O:d.head?=some d[0]:=by rw[List.head?_eq_getElem?];exact N
 have k:¬(d.head?=some 48/\1<d.length)->An3 (Bn3 (Bb3 K (Q8 0)) (AT9 3) (Bc0 (Al9 (tOp (rI0 fun i j=>V.bl (decide (j<=i))) (Am2 l5 [] E0 (M9 (Q8 3) AW1)) (Q8 1))) (BT8 (tC (V.bl false))) BC8)) (BT8 (tOp (rI0 fun i j=>V.bl (decide (i<=j))) (Am2 (AC8 K) [] E0 (M9 (Q8 0) (M9 (Q8 1) AW1))) (tC (V.int 9223372036854775807)))) {nx:=fun _ o=>Q .non o,rt:=Q} [some (.ref a),some (.int b),some (.int m),none] H:=by
  intro Z;refine⟨_,rfl,a,rfl,⟨_,l⟩,Y5 (K:=K) (a:=a) (xs:=d.map V.int) (fun i t o=>o=H/\∃v:Option V,t=[some (.ref a),some (.int b),some (.int m),v]/\((d.take i).all fun z=>decide (V4 z<b))=true)
   ⟨rfl,none,rfl,rfl⟩ (fun i t o _ ⟨e,_⟩=>by rw[e];exact l) ?_ ?_⟩
  ·rintro i y t o hi ⟨rfl,v,rfl,g⟩;obtain⟨z,R,rfl⟩:=AA9 hi;refine⟨_,rfl,z,rfl,_,rfl,_,_,rfl,rfl,_,rfl,G5 (fun n=>?_) (fun n=>?_)⟩
   ·refine r (My.areD_false (.inr (.inr (.inl ?_))));have:b<=V4 z:=of_decide_eq_true n;rw[Ab];intro q;have q2:=BO.mp q z (Az R);have:=of_decide_eq_true q2;omega
   ·have lt:V4 z<b:=by have:=Al (Ab.mpr n);omega
    refine⟨rfl,some (V.int z),rfl,?_⟩;rw[J9 R,List.all_append,g];simp[lt]
  ·rintro t o ⟨rfl,v,rfl,g⟩;rw[AJ,Be]at g;refine⟨_,rfl,_,rfl,a,d,b,rfl,l,Y,_,_,rfl,rfl,?_⟩;rw[My.areD_val (by omega) Z g]at h;exact h
 refine Al4 (Ba2 (Z7 (Af2 (p:=0) rfl l N ⟨rfl,_,rfl,G5 (fun n=>?_) (fun n=>?_)⟩)))
 ·have G:d[0]=48:=by simpa using n
  refine Z7 (O4 rfl l ⟨_,_,rfl,rfl,_,rfl,G5 (fun I=>?_) (fun I=>?_)⟩)
  ·have J:1<d.length:=by have:=of_decide_eq_true I;omega
   exact r (My.areD_false (.inr (.inl ⟨by rw[O,G],J⟩)))
  ·have J:¬1<d.length:=by have:=Al (Ab.mpr I);omega
   exact k fun q=>J q.2
 ·have L:¬d[0]=48:=by intro z;apply n;simpa using z
  exact k fun q=>L (by rw[O]at q;exact Aa q.1)
def BD6 (w:List Int):Prop:=1<w.length/\w[0]?=some 48/\w[1]?=some 120
noncomputable instance (w:List Int):Decidable (BD6 w):=by unfold BD6;infer_instance
inductive AP6 (K:AA) (vs:List V) (H:Hp) (Q:VK) (E:XK):Prop
 |mk:∀(a:AI) (w:List Int),vs=[.ref a]->SqL K H a (w.map V.int)->Q (.bl (decide (BD6 w))) H->AP6 K vs H Q E
theorem Aw9 (h:ta σ H fun x a=>tb σ a fun y b=>r x y b fun z c=>Ap2 tc σ D.rt z c):BT8 (Be3 (tOp r ta tb) tc) D σ H:=h
theorem BL7:B7 ["run"] ["run"] (A8 x6):=fsc
theorem Ab1 (F:Fun K "is_hexadecimal" "is_hexadecimal" x6 f fd)(X:Txt mg):D6 P w K mg base CX0 1 f fd ["run"] (AP6 K):=by
 refine F.oK BL7 fun t A d s H u Q E v h=>?_;obtain⟨a,b,rfl,g,h⟩:=h;refine⟨_,A3 (B6 (AH0 (K7 AG2 (F1 C5 (by rfl) X.len BP (A0 (pv 0) A6)) B0 (C1 _))
   (AH0 (K7 J0 (G7 D4 (pv 0) B0 (fun _ _=>rfl)) (F2 X.zero) (C1 _)) (m2 (K7 J0 (G7 D4 (pv 0) B0 (fun _ _=>rfl)) (F2 X.smallX) (C1 _)))))),?_⟩
 have o:¬BD6 b->Q (.bl false) H:=fun n=>by rw[AX n]at h;exact h
 refine Aw9 (O4 rfl g ⟨_,_,rfl,rfl,_,rfl,G5 (fun c=>?_) (fun c=>?_)⟩);rotate_left
 ·exact o fun q=>by have:=Al (Ab.mpr c);have:=q.1;omega
 have r:1<b.length:=by have:=of_decide_eq_true c;omega
 have i:b[0]?=some b[0]:=Aj (by omega);have j:b[1]?=some b[1]:=Aj r;refine Af2 (p:=0) rfl g i ⟨rfl,_,rfl,G5 (fun k=>?_) (fun k=>?_)⟩;rotate_left
 ·have l:¬b[0]=48:=by intro z;apply k;simpa using z
  exact o fun q=>l (by have:=q.2.1;rw[i]at this;exact Aa this)
 have m:b[0]=48:=by simpa using k
 refine Af2 (p:=1) rfl g j ⟨rfl,?_⟩;have e:decide (BD6 b)=decide (V.int b[1]=V.int 120):=CH.mpr ⟨fun q=>by have:=q.2.2;rw[j]at this;rw[Aa this],fun q=>⟨r,by rw[i,m],by rw[j];injection q with q;rw[q]⟩⟩;rw[e]at h;exact h
theorem BL0:B7 ["run"] ["run"] (A8 Ab0):=fsc
theorem z4 (ns:List Int)(i:Nat)(e:Option Nat):AU2 (ns.map V.int) (some (i:Int)) (e.map fun j=>((j:Nat):Int))=((ns.drop i).take (e.getD ns.length-i)).map V.int:=by
 unfold AU2;rw[AJ,HT.sIx_nat];cases e with
 |none=>
  show((ns.map V.int).drop (min i ns.length)).take (HT.sIx ns.length ns.length none-min i ns.length)=_;rw[HT.sIx_none,←List.map_drop,←List.map_take];congr 1;by_cases h:i<=ns.length
  ·rw[Cz h];rfl
  ·rw[Dz (show ns.length<=i by omega),BS (AB _),BS (show ns.length<=i by omega)];simp
 |some j=>
  show((ns.map V.int).drop (min i ns.length)).take (HT.sIx ns.length ns.length (some ((j:Nat):Int))-min i ns.length)=_;rw[HT.sIx_nat,←List.map_drop,←List.map_take];congr 1;by_cases h:i<=ns.length
  ·rw[Cz h];show List.take (min j ns.length-i) (List.drop i ns)=List.take (j-i) (List.drop i ns);by_cases a:j<=ns.length
   ·rw[Cz a]
   ·rw[Dz (by omega),Bd (by rw[BF];omega),Bd (by rw[BF];omega)]
  ·rw[Dz (show ns.length<=i by omega),BS (AB _),BS (show ns.length<=i by omega)];simp
theorem B5 (h:H p=none):Same H (upd H p o):=fun b u e=>by rw[A4 (A7 e h)];exact e
theorem BC4 (F:Fun K "is_number" "is_number" Ab0 f fd)(X:Txt mg)(l:Fn K mg "is_hexadecimal" x6 ["run"] fX fdX)(R:Fn K mg "are_digits" Bj3 ["digits","base","most"] fA fdA)(U:Fn K mg "value_of_digits" i9 ["digits","base"] fU fdU)(n:Fn K mg "digit_value" T0 ["byte"] fV fdV)(D:Fn K mg "is_digit" K3 ["byte"] fD fdD):
  D6 P w K mg base CX0 5 f fd ["run"] (Aa4 K):=by
 have q:D6 P w K mg base CX0 1 fX fdX ["run"] (AP6 K):=Ab1 l.F X;have m:D6 P w K mg base CX0 4 fA fdA ["digits","base","most"] (BN9 K):=Bj0 R.F X U n D;refine F.oK BL0 fun r A e s H v Q E g h=>?_;obtain⟨a,b,rfl,i,h⟩:=h;have j:Room 1 _:=g.mono (by decide);refine⟨_,A2 (D9 (R7 (D5 l q j (A0 (pv 0) A6)))
  (A3 (B6 (D5 R m g (A0 (Y6 p7 (pv 0) (W9 B0) AN7) (A0 B0 (A0 (F2 X.mostH) A6)))))) C4)
  (A3 (B6 (D5 R m g (A0 (pv 0) (A0 B0 (A0 (F2 X.mostD) A6)))))),?_⟩
 refine⟨_,rfl,a,b,rfl,i,_,rfl,G5 (fun c=>?_) (fun c=>?_)⟩
 ·have k:BD6 b:=of_decide_eq_true c;refine⟨_,rfl,_,rfl,a,_,rfl,i,fun p t=>?_⟩;have u:AU2 (b.map V.int) (some 2) none=(b.drop 2).map V.int:=by have:=z4 b 2 none;rw[DR,Bd (by rw[BF];omega)]at this;exact this
  refine⟨p,b.drop 2,16,16,rfl,SqL.of (by rw[A1,u]),by decide,?_⟩;have:=h _ (B5 (o:=.lst (AU2 (b.map V.int) (some 2) none)) t);unfold AZ4 at this;have d:1<b.length/\b[0]?=some 48/\b[1]?=some 120:=k;rw[AL d]at this;exact this
 ·have k:¬BD6 b:=Al (Ab.mpr c);refine⟨_,rfl,a,b,10,19,rfl,i,by decide,?_⟩;have:=h H (Same.refl H);unfold AZ4 at this;have d:¬(1<b.length/\b[0]?=some 48/\b[1]?=some 120):=k;rw[AD d]at this;exact this
end
open My (qOf n9)
noncomputable def tf (f l a b:Int):List (Str×V):=C3 "which" (.int b) (C3 "what" (.int a) (C3 "length" (.int l) (C3 "first" (.int f) [])))
theorem Af4 (f l a b:Int):(tf f l a b).lookup ("first":Str)=some (.int f):=by unfold tf;rw[D8,AD (by decide),D8,AD (by decide),D8,AD (by decide),D8,AL rfl]
theorem AB6 (f l a b:Int):(tf f l a b).lookup ("length":Str)=some (.int l):=by unfold tf;rw[D8,AD (by decide),D8,AD (by decide),D8,AL rfl]
theorem b5 (f l a b:Int):(tf f l a b).lookup ("what":Str)=some (.int a):=by unfold tf;rw[D8,AD (by decide),D8,AL rfl]
theorem Ad8 (f l b a:Int):(tf f l b a).lookup ("which":Str)=some (.int a):=by unfold tf;rw[D8,AL rfl]
def TokAt (C:AI)(H:Hp)(a:AI)(f l b c:Int):Prop:=∃d,H a=some (.ins C d (tf f l b c))
theorem TokAt.same (h:TokAt C H a f l wh wi)(s:Same H H'):TokAt C H' a f l wh wi:=let ⟨b,e⟩:=h;⟨b,s _ _ e⟩
inductive Ac6 (C:AI) (vs:List V) (H:Hp) (Q:VK) (E:XK):Prop
 |mk:∀(p dx:AI) (f l wh wi:Int),vs=[.ref p,.int f,.int l,.int wh,.int wi]->H p=some (.ins C dx [])->(∀H':Hp,TokAt C H' p f l wh wi->(∀b o,H b=some o->b≠p->H' b=some o)->Q .non H')->Ac6 C vs H Q E
noncomputable def j9 (w:List Int):Str:=⟨(w.map Int.toNat).toArray⟩
noncomputable def m9:List Str:=n9.map j9
noncomputable def A29:Str:="0123456789:;<=>?@ABCDEFGHIJKLMNOPQRSTUVWXYZ[\\]^_`abcdefghijklmnopqrstuvwxyz"
noncomputable def AT0:List (List Key×V):=[([45,62],0),([60,60],1),([62,62],2),([60,61],3),([62,61],4),([61,61],5),([33,61],6),([38,38],7),([124,124],8)].map fun(p:List Int×Int)=>(p.1.map Sum.inl,V.int p.2)
noncomputable def AE4:List (Key×V):=[(43,9),(45,10),(42,11),(47,12),(37,13),(38,14),(124,15),(94,16),(126,17),(33,18),(60,19),(62,20),(61,21),(63,22),(58,23),(59,24),(44,25),(64,26),(40,27),(41,28),(91,29),(93,30),(123,31),(125,32)].map fun(p:Int×Int)=>(Sum.inl p.1,V.int p.2)
theorem AY5 {a:Type}[DecidableEq a]{b:Type}(f:b->a)(k:a):∀(l:List b) (n:Nat),S6 ((l.zipIdx n).map fun p=>(f p.1,V.int ((p.2:Nat):Int))) k=(l.findIdx? fun x=>decide (f x=k)).map fun(j:Nat)=>V.int ((j+n:Nat):Int)
 |[],n=>rfl
 |x::r,n=>by
  rw[List.zipIdx_cons,Ah,Cm];by_cases h:f x=k
  ·rw[J7 h,AR h,AL rfl];show some (V.int (n:Int))=some (V.int ((0+n:Nat):Int));rw[Dr]
  ·rw[K4 h,AY5 f k r (n+1),AX h,AD (by decide),Option.map_map];congr 1;funext j;show V.int ((j+(n+1):Nat):Int)=V.int ((j+1+n:Nat):Int);rw[show j+(n+1)=j+1+n by omega]
theorem A59:AT0=(My.two.zipIdx 0).map fun p=>([Sum.inl p.1.1,Sum.inl p.1.2],V.int ((p.2:Nat):Int)):=rfl
theorem A57:AE4=(My.one.zipIdx 9).map fun p=>(Sum.inl p.1,V.int ((p.2:Nat):Int)):=rfl
theorem AQ6 (c d:Int):S6 AT0 [Sum.inl c,Sum.inl d]=(My.pyTwo c d).map fun(k:Nat)=>V.int (k:Int):=by
 rw[A59,AY5 (fun q:Int×Int=>([Sum.inl q.1,Sum.inl q.2]:List Key))];unfold My.pyTwo;rw[My.findIdx_congr (R:=fun q:Int×Int=>decide (q.1=c/\q.2=d)) fun q _=>?_]
 ·rfl
 ·exact CH.mpr (by simp)
theorem m4 (c:Int):S6 AE4 (Sum.inl c)=(My.pyOne c).map fun(k:Nat)=>V.int ((k+9:Nat):Int):=by rw[A57,AY5 (fun q:Int=>(Sum.inl q:Key))];unfold My.pyOne;rw[My.findIdx_congr (R:=fun q:Int=>decide (q=c)) fun q _=>?_];exact CH.mpr (by simp)
theorem Ab4 (d:Byt v)(hw:Byt w):(j9 v==j9 w)=decide (v=w):=by
 by_cases h:v=w
 ·rw[AR h,h];exact Dx _
 ·rw[AX h];refine BW.mpr fun e=>h ?_;have f:(v.map Int.toNat).toArray=(w.map Int.toNat).toArray:=Bh Str.cps e;have g:v.map Int.toNat=w.map Int.toNat:=by simpa using Bh Array.toList f
  have b:∀{l:List Int},Byt l->(l.map Int.toNat).map (fun(n:Nat)=>(n:Int))=l:=by
   intro l
   induction l with
   |nil=>intro _;rfl
   |cons a r i=>intro c;rw[Ah,Ah,i fun z j=>c z (AC _ j)];have:=(c a AG).1;congr 1;omega
  rw[←b d,←b hw,g]
theorem AQ1:(m9.map V.str).all T5=true:=by rw[BO];intro x a;obtain⟨y,_,rfl⟩:=BN.mp a;rfl
theorem AD1 {a:Type}(P:a->Bool):∀l:List a,l.any P=(l.findIdx? P).isSome
 |[]=>rfl
 |x::r=>by
  rw[Ci,Cm,AD1 P r];cases P x with
  |true=>rfl
  |false=>rw[AD (by decide),Co];rfl
theorem Az1 (a:Byt w):inV (.str (j9 w)) (m9.map V.str)=(n9.findIdx? fun k=>decide (k=w)).isSome:=by unfold inV m9;rw[List.any_map,List.any_map,AD1,My.findIdx_congr (R:=fun k=>decide (k=w)) fun k b=>?_];show(j9 k==j9 w)=_;exact Ab4 (fun z c=>My.keptZ_byt k b z c) a
theorem BX3 (d:Byt w)(h:(n9.findIdx? fun k=>decide (k=w))=some j):(m9.map V.str)[j]?=some (.str (j9 w))/\∀(m:Nat) (c:V),m<j->(m9.map V.str)[m]?=some c->eqV c (.str (j9 w))=false:=by
 rw[BG]at h;obtain⟨e,f,g⟩:=h;have i:n9[j]=w:=of_decide_eq_true f;refine⟨?_,fun m c l a=>?_⟩
 ·unfold m9;rw[Aq,Aq,Aj e,i];rfl
 ·unfold m9 at a;have b:m<n9.length:=by omega
  rw[Aq,Aq,Aj b]at a;cases a;show(j9 n9[m]==j9 w)=false;rw[Ab4 (fun z a=>My.keptZ_byt _ (List.getElem_mem b) z a) d];have:=g m l;simpa using this
structure BA1 (P:Af)(w:Ap)(K:AA)(mg:Str->Option AH)(C:AI):Prop where
 tx:Txt mg
 cl:Cls K C
 nF:NoAttr K C "first"
 nL:NoAttr K C "length"
 nW:NoAttr K C "what"
 nI:NoAttr K C "which"
 mgC:mg "Token"=some (.ref C)
 name:GI mg "NAME" 0
 number:GI mg "NUMBER" 1
 kept:GI mg "KEPT" 2
 sign:GI mg "SIGN" 3
 noTok:GI mg "NO_TOKEN" 4
 longW:GI mg "LONGEST_WORD" 32
 notTok:GI mg "NOT_A_TOKEN" 1
 longT:GI mg "LONGEST_TEXT" 1048576
 fz:∃t,mg "FROM_0_TO_Z"=some (.str A29 t)
 kw:∃a,mg "KEPT_WORDS"=some (.ref a)/\(∃o,K.lookup a=some o/\o.cls=.type "tuple"/\o.dict=none)/\∀H,SqT K H a (m9.map V.str)
 s2:∃a,mg "SIGNS_OF_TWO"=some (.ref a)/\As3 P w K a AT0
 s1:∃a,mg "SIGNS_OF_ONE"=some (.ref a)/\Aj8 P w K a AE4
section
variable {P:Af} {w:Ap} {K:AA} {mg:Str->Option AH} {base:BR}
theorem Be4:B7 ["self","first","length","what","which"] ["self","first","length","what","which"] (A8 A69):=fsc
theorem BW9 (F:Fun K "__init__" "Token.__init__" A69 f fd)(X:BA1 P w K mg C):D6 P w K mg base CX0 1 f fd ["self","first","length","what","which"] (Ac6 C):=by refine F.oK Be4 fun g A d s H j Q E m h=>?_;obtain⟨p,a,f,l,n,q,rfl,i,k⟩:=h;refine⟨_,A2 (D0 (pv 0) (pv 1) rfl) (A2 (D0 (pv 0) (pv 2) rfl) (A2 (D0 (pv 0) (pv 3) rfl) (A3 (D0 (pv 0) (pv 4) rfl)))),?_⟩;refine⟨_,rfl,_,rfl,p,C,a,[],rfl,i,X.cl,X.nF,(by show 0<1000;decide),?_⟩;refine⟨_,rfl,_,rfl,p,C,a,_,rfl,A1,X.cl,X.nL,(by show 1<1000;decide),?_⟩;refine⟨_,rfl,_,rfl,p,C,a,_,rfl,A1,X.cl,X.nW,(by show 2<1000;decide),?_⟩;refine⟨_,rfl,_,rfl,p,C,a,_,rfl,A1,X.cl,X.nI,(by show 3<1000;decide),?_⟩;refine k _ ⟨a,A1⟩ fun b o e c=>?_;rw[A4 c,A4 c,A4 c,A4 c];exact e
structure Bn5 (P:Af)(w:Ap)(K:AA)(mg:Str->Option AH)(C fI:AI)(fdI:BK):Prop where
 X:BA1 P w K mg C
 M:Mk K C fI
 F:Fun K "__init__" "Token.__init__" A69 fI fdI
 b:Binds K fdI ["self","first","length","what","which"] []
theorem pmk (O:Bn5 X.prog X.w X.K X.mg C fI fdI)(c:Room 2 X.A)(d:PA X (e::es) t)(f:Gl X "Token":=by rfl)
  (g:starEach (e::es) X.env=(false,eval e X.env)::starEach es X.env:=by rfl) (a:(backTo pos (starEach es X.env)).any (·.1)=false:=by rfl):PE X (.Call (.Name "Token" npos) (e::es) [] pos) (Am9 C (Ac6 C) [] E0 t):=
 AL5 O.M (BW9 O.F O.X) c f O.X.mgC O.b .nil Ak2 d (by decide) g a
def Bq6 (C:AI)(H:Hp)(f l c d:Int)(Q:VK):Prop:=∀(b:Hp) (a:AI),Same H b->TokAt C b a f l c d->Q (.ref a) b
theorem AG3 (h:Bq6 C H f l wh wi Q)(s:Same H H1)(b:f'=f)(c:l'=l)(d:wh'=wh)(e:wi'=wi):
  ∀x a,H1 x=none->H1 a=none->a≠x->Ac6 C (.ref x::([.int f',.int l',.int wh',.int wi']++[])) (upd (upd H1 a (.own x)) x (.ins C a [])) (fun v g=>v=.non/\Q (.ref x) g) E0:=by
 subst b c d e;intro x a i j _;exact⟨x,a,_,_,_,_,rfl,A1,fun k m n=>⟨rfl,h k x (s.trans (Same.made i j n)) m⟩⟩
inductive AM4 (K:AA) (C:AI) (vs:List V) (H:Hp) (Q:VK) (E:XK):Prop
 |mk:∀(a:AI) (ns:List Int) (p:Nat) (z:Int),vs=[.ref a,.int p]->SqL K H a (ns.map V.int)->Byt ns->ns.length<=100000->ns[p]?=some z->wordB z=true->Bq6 C H p (K6 ns p).length (qOf (Sw.wordTok (My.toB (K6 ns p)))).1 (qOf (Sw.wordTok (My.toB (K6 ns p)))).2 Q->AM4 K C vs H Q E
noncomputable def sq (x:Option (Nat×Nat)):Nat×Nat×Nat:=match x with
 |some (k,n)=>(n,3,k)
 |none=>(1,4,0)
inductive AB1 (K:AA) (C:AI) (vs:List V) (H:Hp) (Q:VK) (E:XK):Prop
 |mk:∀(a:AI) (ns:List Int) (p:Nat) (z:Int),vs=[.ref a,.int p]->SqL K H a (ns.map V.int)->ns[p]?=some z->Bq6 C H p (sq (My.signB z ns[p+1]?)).1 (sq (My.signB z ns[p+1]?)).2.1 (sq (My.signB z ns[p+1]?)).2.2 Q->AB1 K C vs H Q E
theorem BA8 (h:wordB z=true):atI A29.cps.toList (z-48)=some z.toNat:=by
 have c:48<=z/\z<=122:=by unfold wordB BI4 BH4 m7 at h;simp at h;omega
 obtain⟨n,rfl⟩:∃n:Nat,z=((n+48:Nat):Int):=⟨(z-48).toNat,by omega⟩;have b:n<=74:=by omega
 have a:∀n,n<=74->A29.cps.toList[n]?=some (n+48):=by decide+kernel
 rw[show((n+48:Nat):Int)-48=(n:Int) by omega];rw[E9 (a n b)];congr 1
theorem m1:B7 ["t","at","run","word","byte"] ["t","at"] (A8 AN3):=fsc
structure Sc (P:Af)(w:Ap)(K:AA)(mg:Str->Option AH)(C:AI):Prop where
 X:BA1 P w K mg C
 O:∃fI fdI,Bn5 P w K mg C fI fdI
 D:FN K mg "is_digit" K3 ["byte"]
 L:FN K mg "is_letter" T8 ["byte"]
 Bl:FN K mg "is_blank" l3 ["byte"]
 W:FN K mg "is_word_byte" AE7 ["byte"]
 E:FN K mg "run_end" AL0 ["t","at"]
 V:FN K mg "digit_value" T0 ["byte"]
 U:FN K mg "value_of_digits" i9 ["digits","base"]
 A:FN K mg "are_digits" Bj3 ["digits","base","most"]
 Hx:FN K mg "is_hexadecimal" x6 ["run"]
 N:FN K mg "is_number" Ab0 ["run"]
 B:FN K mg "behind_blanks" AN5 ["t","at"]
 T:FN K mg "run_token" AN3 ["t","at"]
 S:FN K mg "sign_token" AA6 ["t","at"]
 Nt:FN K mg "begins_note" Aw6 ["t","at"]
 Ne:FN K mg "note_end" h9 ["t","at"]
 Z:FN K mg "scan" As5 ["t"]
theorem AM2:∀(w:List Int),Txt.join (Str.ofString "") (w.map fun z=>(⟨#[z.toNat]⟩:Str))=j9 w:=by
 intro w;rw[TL.join_eq];apply TL.ext_tl;rw[TL.tl_join];have:∀l:List Int,TL.joinL (TL.tl (Str.ofString "")) ((l.map fun z=>(⟨#[z.toNat]⟩:Str)).map TL.tl)=l.map Int.toNat:=by
  intro l;have d:TL.tl (Str.ofString "")=[]:=rfl;rw[d]
  induction l with
  |nil=>rfl
  |cons a r e=>
   cases r with
   |nil=>rfl
   |cons b c=>show [a.toNat]++([]++TL.joinL [] (((b::c).map fun z=>(⟨#[z.toNat]⟩:Str)).map TL.tl))=a.toNat::(b::c).map Int.toNat;rw[e];rfl
 rw[this];rfl
theorem AV9:∀l:List Int,(l.map ((fun x=>x.length)∘fun z=>(⟨#[z.toNat]⟩:Str))).sum=l.length
 |[]=>rfl
 |a::r=>by rw[Ah,List.sum_cons,AV9 r,AZ];show 1+r.length=_;omega
theorem A13 (F:Fun K "run_token" "run_token" AN3 f fd)(R:Sc P w K mg C):
  D6 P w K mg base CX0 6 f fd ["t","at"] (AM4 K C):=by
 obtain⟨X,⟨fI,fdI,O⟩,⟨fD,fdD,D⟩,⟨fL,fdL,L⟩,_,⟨fW,fdW,W⟩,⟨fE,fdE,E⟩,⟨fV,fdV,DV⟩,⟨fU,fdU,U⟩,⟨fA,fdA,A⟩,⟨fX,fdX,Hx⟩,⟨fN,fdN,N⟩,_⟩:=R;have GE:D6 P w K mg base CX0 3 fE fdE ["t","at"] (AO5 K):=At6 E.F X.tx W L D;have GD:D6 P w K mg base CX0 1 fD fdD ["byte"] W4:=n6 D.F;have GN:D6 P w K mg base CX0 5 fN fdN ["run"] (Aa4 K):=BC4 N.F X.tx Hx A U DV D;obtain⟨tz,hfz⟩:=X.fz;obtain⟨aK,hkw,hkt,hkS⟩:=X.kw;refine F.ok m1 (fun vs H Q E' h=>?_) (fun cdv A' outer s H vs Q E' hr h=>?_)
 ·obtain⟨a,ns,p,z,rfl,_⟩:=h;rfl
 ·obtain⟨a,ns,p,z,rfl,hs,hB,hlen,hz,hwz,h⟩:=h;have hr3:Room 3 _:=hr.mono (by decide);have hr2:Room 2 _:=hr.mono (by decide);have hr1:Room 1 _:=hr.mono (by decide);refine⟨_,A2 (C9 (i:=2) m1.nd rfl (Or.inl rfl) (Y6 p7 (pv 0) (W9 (pv 1)) (W9 (D5 E GE hr3 (A0 (pv 0) (A0 (pv 1) A6))))))
   (A2 (D9 (R7 (D5 D GD hr1 (A0 (G7 D4 (pv 2) B0 (fun _ _=>rfl)) A6)))
    (A3 (B6 (pmk O hr2 (A0 (pv 1) (A0 (F1 C5 (by rfl) X.tx.len BP (A0 (pv 2) A6)) (A0 (U9 (R7 (D5 N GN hr (A0 (pv 2) A6))) (F2 X.number) (F2 X.noTok)) (A0 B0 A6))))))) C4)
   (A2 (D9 (B4 AG2 (F1 C5 (by rfl) X.tx.len BP (A0 (pv 2) A6)) (F2 X.longW) (C1 _))
    (A3 (B6 (pmk O hr2 (A0 (pv 1) (A0 (F1 C5 (by rfl) X.tx.len BP (A0 (pv 2) A6)) (A0 (F2 X.noTok) (A0 B0 A6))))))) C4)
   (A2 (C9 (i:=3) m1.nd rfl (Or.inl rfl) (BS7 C7 (Ar7 (own:=[("byte",4)]) rfl m1.nd (X3 (pv 2)) (k7 (by kernel_rfl)) (fun _ _ _ _ _=>K8 (i:=4) m1.nd rfl (Or.inl rfl)) (fun _ _ _ _ _=>F8)
    (fun _ _ _ _ _=>G7 Bf2 (Bq0 hfz) (R9 AF1 (pv 4) B0) (fun _ _=>rfl)))))
   (A2 (D9 (B4 L9 (pv 3) (R0 hkw) rfl)
    (A3 (B6 (pmk O hr2 (A0 (pv 1) (A0 (F1 C5 (by rfl) X.tx.len BP (A0 (pv 2) A6)) (A0 (F2 X.kept) (A0 (U2 PySem.F.plainAttrs_tuple PySem.F.slot_tuple_index PySem.F.type_tuple_index Aq2 (R0 hkw) (A0 (pv 3) A6)) A6))))))) C4)
   (A3 (B6 (pmk O hr2 (A0 (pv 1) (A0 (F1 C5 (by rfl) X.tx.len BP (A0 (pv 2) A6)) (A0 (F2 X.name) (A0 B0 A6))))))))))),?_⟩
  have hp:p<=ns.length:=DX (Ad.mp hz).1;refine⟨_,rfl,_,rfl,_,rfl,_,rfl,_,rfl,a,ns,p,rfl,hs,hp,_,rfl,a,_,rfl,hs,fun r hrN=>?_⟩;have ec:AU2 (ns.map V.int) (some (p:Int)) (some ((endOf wordB ns p:Nat):Int))=(K6 ns p).map V.int:=by have:=z4 ns p (some (endOf wordB ns p));rw[Option.getD_some,←My.runAt_cut]at this;exact this
  rw[ec];have hwB:=My.runAt_byt hB p;have hhd:=My.runAt_head hz hwz;have hw0:(K6 ns p)[0]?=some z:=by rw[←List.head?_eq_getElem?];exact hhd
  have hww:=My.runAt_word (ns:=ns) (p:=p);have hwl:(K6 ns p).length<=ns.length:=by unfold K6;exact BV (Bj _).length_le (by rw[BF];omega)
  generalize hwe:K6 ns p=w' at *;have s1:Same H (upd H r (.lst (w'.map V.int))):=B5 hrN;have hsR:SqL K (upd H r (.lst (w'.map V.int))) r (w'.map V.int):=SqL.of A1;generalize (upd H r (.lst (w'.map V.int)))=H1 at s1 hsR ⊢;refine Af2 (p:=0) rfl hsR hw0 ⟨z,rfl,_,rfl,G5 (fun c=>?_) (fun c=>?_)⟩
  ·have hq:=My.wordTok_dig hwB hhd c;refine⟨_,rfl,O4 rfl hsR ⟨_,rfl,r,w',rfl,hsR,fun H2 s2=>⟨_,rfl,G5 (fun c2=>?_) (fun c2=>?_)⟩⟩⟩
   ·exact AG3 h (s1.trans s2) rfl rfl (by rw[hq,AL c2];rfl) (by rw[hq];rfl)
   ·exact AG3 h (s1.trans s2) rfl rfl (by rw[hq,AD c2];rfl) (by rw[hq];rfl)
  ·have hd:m7 z=false:=Ab.mpr c;refine Al4 (Z7 (O4 rfl hsR ⟨_,_,rfl,rfl,_,rfl,G5 (fun c2=>?_) (fun c2=>?_)⟩))
   ·have hl:32<w'.length:=by have:=of_decide_eq_true c2;omega
    have hq:=My.wordTok_long hwB hhd hd hl;exact⟨_,rfl,O4 rfl hsR (AG3 h s1 rfl rfl (by rw[hq];rfl) (by rw[hq];rfl))⟩
   ·have hl:¬32<w'.length:=by have:=Al (Ab.mpr c2);omega
    have hq:=My.wordTok_word hwB hhd hd hl;refine⟨⟨_,rfl⟩,_,rfl,r,rfl,⟨_,hsR⟩,fun D hD=>Ap4 (K:=K) (a:=r) (xs:=w'.map V.int) (fun i H'=>Same H1 H'/\H' D=some (.lst (((w'.take i).map fun z=>(⟨#[z.toNat]⟩:Str)).map V.str)))
     ⟨B5 hD,A1⟩ (fun i H' _ x=>x.1.seq hsR) ?_ ?_⟩
    ·rintro i y H' hi ⟨sm,hDl⟩;obtain⟨z',hz',rfl⟩:∃z',w'[i]?=some z'/\y=V.int z':=by
      rw[Aq]at hi;cases e:w'[i]? with
      |none=>rw[e]at hi;cases hi
      |some z=>rw[e]at hi;exact⟨z,rfl,(Aa hi).symm⟩
     refine⟨rfl,_,rfl,_,_,rfl,rfl,A29,_,_,rfl,rfl,(by decide+kernel),BA8 (hww z' (Az hz')),_,hDl,?_,?_,?_⟩
     ·rw[AJ,AJ,Br];have:=BA;omega
     ·exact fun b o e=>by rw[A4 (A7 e hD)];exact sm b o e
     ·rw[A1,J9 hz',AV,AV];rfl
    ·rintro H' ⟨sm,hDl⟩;rw[AJ,Be]at hDl;refine⟨_,D,_,rfl,rfl,.inl (SqL.of hDl),?_,?_⟩
     ·rw[Bk];rw[AV9,AJ];show w'.length+w'.length*0<=16777216;omega
     ·rw[AM2];have sR:=sm.seq hsR;have s2:=s1.trans sm;refine⟨_,rfl,aK,_,rfl,.inr (hkS _),rfl,AQ1,_,rfl,G5 (fun c3=>?_) (fun c3=>?_)⟩
      ·have c3:inV (.str (j9 w')) (m9.map V.str)=true:=c3;rw[Az1 hwB]at c3;obtain⟨j,hj⟩:=BU.mp c3;obtain⟨k1,k2⟩:=BX3 hwB hj;rw[hj]at hq;refine⟨_,rfl,O4 rfl sR ⟨.inr (.inl ⟨rfl,hkt⟩),_,rfl,aK,_,_,j,_,rfl,rfl,hkS _,rfl,AQ1,k1,Dx (j9 w'),k2,?_⟩⟩;exact AG3 h s2 rfl rfl (by rw[hq];rfl) (by rw[hq])
      ·have c3:¬inV (.str (j9 w')) (m9.map V.str)=true:=c3;rw[Az1 hwB]at c3;have hj:(n9.findIdx? fun k=>decide (k=w'))=none:=Option.not_isSome_iff_eq_none.mp c3;rw[hj]at hq;exact⟨_,rfl,O4 rfl sR (AG3 h s2 rfl rfl (by rw[hq];rfl) (by rw[hq];rfl))⟩
theorem Aq3:B7 ["t","at"] ["t","at"] (A8 AA6):=fsc
theorem Am1 (F:Fun K "sign_token" "sign_token" AA6 f fd)(O:Bn5 P w K mg C fI fdI):D6 P w K mg base CX0 3 f fd ["t","at"] (AB1 K C):=by
 have X:=O.X;obtain⟨J,S,L⟩:=X.s2;obtain⟨B,T,D⟩:=X.s1;refine F.oK Aq3 fun U A M s H Z Q E G h=>?_;obtain⟨a,b,p,z,rfl,i,n,h⟩:=h;have I:=Aj5 G;refine⟨_,A2 (D9 (PW.pt (w4 (B4 AX6 (R9 V7 (pv 1) B0) (F1 C5 (by rfl) X.tx.len BP (A0 (pv 0) A6)) (C1 _))
   (X4 (A15 (Ar1 I (AJ1 (A0 (G7 D4 (pv 0) (pv 1) (fun _ _=>rfl)) (A0 (G7 D4 (pv 0) (R9 V7 (pv 1) B0) (fun _ _=>rfl)) A6))) (R0 S))))))
  (A3 (B6 (pmk O G (A0 (pv 1) (A0 B0 (A0 (F2 X.sign) (A0 (AC7 I (R0 S) (AJ1 (A0 (G7 D4 (pv 0) (pv 1) (fun _ _=>rfl)) (A0 (G7 D4 (pv 0) (R9 V7 (pv 1) B0) (fun _ _=>rfl)) A6))) (fun _ _=>rfl)) A6))))))) C4)
  (A2 (D9 (A15 (Ar1 I (G7 D4 (pv 0) (pv 1) (fun _ _=>rfl)) (R0 T)))
  (A3 (B6 (pmk O G (A0 (pv 1) (A0 B0 (A0 (F2 X.sign) (A0 (AC7 I (R0 T) (G7 D4 (pv 0) (pv 1) (fun _ _=>rfl)) (fun _ _=>rfl)) A6))))))) C4)
  (A3 (B6 (pmk O G (A0 (pv 1) (A0 B0 (A0 (F2 X.noTok) (A0 B0 A6)))))))),?_⟩
 cases r:b[p+1]?.bind (My.pyTwo z)with
 |some k=>
  obtain⟨y,l,W⟩:=Option.bind_eq_some_iff.mp r;have t:p+1<b.length:=(Ad.mp l).1;have N:sq (My.signB z b[p+1]?)=(2,3,k):=by unfold My.signB;rw[r];rfl
  rw[N]at h;have d:S6 AT0 [Sum.inl z,Sum.inl y]=some (V.int (k:Int)):=by rw[AQ6,W];rfl
  refine⟨_,rfl,_,_,rfl,rfl,O4 rfl i ⟨_,_,rfl,rfl,_,rfl,G5 (fun c=>?_) (fun c=>?_)⟩⟩
  ·refine y8 rfl rfl i n (Ad1 rfl rfl i l ⟨(by show 2<=sizeLine;decide),fun u q=>?_⟩);have e:=(B5 (o:=.tup [V.int z,V.int y]) q);refine⟨J,_,rfl,.inr ⟨AT0,[Sum.inl z,Sum.inl y],u,L,rfl,A1,rfl⟩,_,rfl,?_⟩;rw[d];refine AS0 ⟨_,rfl,?_⟩;refine y8 rfl rfl (e.seq i) n (Ad1 rfl rfl (e.seq i) l ⟨(by show 2<=sizeLine;decide),fun Y R=>?_⟩);refine⟨J,_,rfl,.inr ⟨AT0,[Sum.inl z,Sum.inl y],Y,L,rfl,A1,d.symm⟩,?_⟩;exact AG3 h (e.trans (B5 R)) rfl rfl rfl rfl
  ·exact absurd (AR (by omega)) c
 |none=>
  have v:∀y,b[p+1]?=some y->S6 AT0 [Sum.inl z,Sum.inl y]=none:=fun y l=>by rw[l]at r;have:My.pyTwo z y=none:=r;rw[AQ6,this];rfl
  refine⟨_,rfl,_,_,rfl,rfl,O4 rfl i ⟨_,_,rfl,rfl,_,rfl,G5 (fun c=>?_) (fun c=>?_)⟩⟩
  ·have t:p+1<b.length:=by have:=of_decide_eq_true c;omega
   have l:b[p+1]?=some b[p+1]:=Aj t;refine y8 rfl rfl i n (Ad1 rfl rfl i l ⟨(by show 2<=sizeLine;decide),fun u q=>?_⟩);have e:=(B5 (o:=.tup [V.int z,V.int b[p+1]]) q);refine⟨J,_,rfl,.inr ⟨AT0,[Sum.inl z,Sum.inl b[p+1]],u,L,rfl,A1,rfl⟩,_,rfl,?_⟩;rw[v _ l];refine AG9 ?_;have m:Same H (upd H u (.tup [V.int z,V.int b[p+1]])):=e;generalize (upd H u (.tup [V.int z,V.int b[p+1]]))=H1 at m ⊢;have g:=m.seq i;have x:My.signB z b[p+1]?=(My.pyOne z).map fun k=>(k+9,1):=by unfold My.signB;rw[r];cases My.pyOne z<;>rfl
   refine y8 rfl rfl g n ⟨B,_,rfl,.inl ⟨AE4,Sum.inl z,D,rfl,rfl⟩,_,rfl,?_⟩;cases j:My.pyOne z with
   |some k=>
    have d:S6 AE4 (Sum.inl z)=some (V.int ((k+9:Nat):Int)):=by rw[m4,j];rfl
    rw[d];rw[x,j]at h;refine AS0 ⟨_,rfl,y8 rfl rfl g n ⟨B,_,rfl,.inl ⟨AE4,Sum.inl z,D,rfl,d.symm⟩,?_⟩⟩;exact AG3 h m rfl rfl rfl rfl
   |none=>
    have d:S6 AE4 (Sum.inl z)=none:=by rw[m4,j];rfl
    rw[d];rw[x,j]at h;exact AG9 ⟨_,rfl,AG3 h m rfl rfl rfl rfl⟩
  ·have m:Same H H:=Same.refl H;have g:=m.seq i;have x:My.signB z b[p+1]?=(My.pyOne z).map fun k=>(k+9,1):=by unfold My.signB;rw[r];cases My.pyOne z<;>rfl
   refine y8 rfl rfl g n ⟨B,_,rfl,.inl ⟨AE4,Sum.inl z,D,rfl,rfl⟩,_,rfl,?_⟩;cases j:My.pyOne z with
   |some k=>
    have d:S6 AE4 (Sum.inl z)=some (V.int ((k+9:Nat):Int)):=by rw[m4,j];rfl
    rw[d];rw[x,j]at h;refine AS0 ⟨_,rfl,y8 rfl rfl g n ⟨B,_,rfl,.inl ⟨AE4,Sum.inl z,D,rfl,d.symm⟩,?_⟩⟩;exact AG3 h m rfl rfl rfl rfl
   |none=>
    have d:S6 AE4 (Sum.inl z)=none:=by rw[m4,j];rfl
    rw[d];rw[x,j]at h;exact AG9 ⟨_,rfl,AG3 h m rfl rfl rfl rfl⟩
end
structure Q4 where
 f:Nat
 l:Nat
 wh:Nat
 wi:Nat
noncomputable def q4 (t:Sw.Token):Q4:=⟨t.at_,t.len,(qOf (some t.tok)).1,(qOf (some t.tok)).2⟩
def Toks (C:AI)(H:Hp)(as:List AI)(b:List Q4):Prop:=as.length=b.length/\∀(i:Nat) (a:AI),as[i]?=some a->∃q,b[i]?=some q/\TokAt C H a q.f q.l q.wh q.wi
theorem Toks.nil:Toks C H [] []:=⟨rfl,fun i a h=>by simp at h⟩
theorem Toks.keep {C:AI}{H H':Hp}{as:List AI}{d:List Q4}(t:Toks C H as d)(k:∀(b:AI) (c:AI) (fs:List (Str×V)),H b=some (.ins C c fs)->H' b=some (.ins C c fs)):Toks C H' as d:=
 ⟨t.1,fun i a h=>let ⟨q,e,c,f⟩:=t.2 i a h;⟨q,e,c,k _ _ _ f⟩⟩
theorem Toks.snoc (t:Toks C H as qs)(h:TokAt C H a q.f q.l q.wh q.wi):Toks C H (as++[a]) (qs++[q]):=by
 refine⟨by rw[AO,AO,t.1];rfl,fun i b d=>?_⟩;by_cases c:i<as.length
 ·rw[Ca c]at d;obtain⟨j,e,x⟩:=t.2 i b d;exact⟨j,by rw[Ca (by rw[←t.1];exact c)];exact e,x⟩
 ·rw[CW (by omega)]at d;have g:i-as.length=0:=by have:=(Ad.mp d).1;simp at this;omega
  rw[g]at d;cases d;refine⟨q,?_,h⟩;rw[CW (by rw[←t.1];omega),←t.1,g];rfl
def AL9 (ns:List Int)(a:List Q4):Prop:=
 (∃A,Sw.tokens (My.toB ns)=(A,none)/\a=A.map q4)∨∃A p n,Sw.tokens (My.toB ns)=(A,some p)/\a=A.map q4++[⟨p,n,4,0⟩]
inductive A14 (K:AA) (C:AI) (vs:List V) (H:Hp) (Q:VK) (E:XK):Prop
 |mk:∀(a:AI) (ns:List Int),vs=[.ref a]->SqL K H a (ns.map V.int)->Byt ns->ns.length<=100000->(∀(H':Hp) (l:AI) (as:List AI) (qs:List Q4),Same H H'->H' l=some (.lst (as.map V.ref))->Toks C H' as qs->as.length<=100000->AL9 ns qs->Q (.ref l) H')->A14 K C vs H Q E
def Bw5 (ns:List Int)(q n b c:Nat):Prop:=(b=4/\c=0/\T ns q=([],some q))∨
 ∃a,qOf (some a)=(b,c)/\T ns q=(⟨q,n,a⟩::(T ns (q+n)).1,(T ns (q+n)).2)/\1<=n/\q+n<=ns.length/\b≠4
theorem BV9 (t:Sw.Tok):(qOf (some t)).1≠4:=by cases t<;>simp[qOf]
theorem A25 (f:Byt ns)(e:ns[q]?=some z)(g:AS4 ns q)(hw:wordB z=true):Bw5 ns q (K6 ns q).length (qOf (Sw.wordTok (My.toB (K6 ns q)))).1 (qOf (Sw.wordTok (My.toB (K6 ns q)))).2:=by
 have c:=My.T_word f e g hw;have k:q<ns.length:=(Ad.mp e).1;have h:1<=(K6 ns q).length:=by
  have:=My.runAt_head e hw;cases i:K6 ns q with
  |nil=>rw[i]at this;cases this
  |cons a r=>simp
 have j:q+(K6 ns q).length<=ns.length:=by have:=(Bj wordB (l:=ns.drop q)).length_le;rw[BF]at this;unfold K6;omega
 cases d:Sw.wordTok (My.toB (K6 ns q))with
 |none=>rw[d]at c;exact .inl ⟨rfl,rfl,c⟩
 |some b=>rw[d]at c;exact .inr ⟨b,rfl,c,h,j,BV9 b⟩
theorem Aw3 (c:Byt ns)(e:ns[q]?=some z)(d:AS4 ns q)(hw:wordB z=false):Bw5 ns q (sq (My.signB z ns[q+1]?)).1 (sq (My.signB z ns[q+1]?)).2.1 (sq (My.signB z ns[q+1]?)).2.2:=by
 have b:=My.T_sign c e d hw;have h:q<ns.length:=(Ad.mp e).1;rw[My.signAt_ok c e]at b;cases a:My.signB z ns[q+1]? with
 |none=>rw[a]at b;exact .inl ⟨rfl,rfl,b⟩
 |some x=>
  obtain⟨k,n⟩:=x;rw[a]at b;refine .inr ⟨.sign k,rfl,b,?_,?_,by show 3≠4;decide⟩
  ·show 1<=n;unfold My.signB at a;split at a
   ·cases a;decide
   ·split at a
    ·cases a;decide
    ·cases a
  ·show q+n<=ns.length;unfold My.signB at a;split at a
   ·rename_i j f;cases a;obtain⟨y,g,_⟩:=Option.bind_eq_some_iff.mp f;have:=(Ad.mp g).1;omega
   ·split at a
    ·cases a;omega
    ·cases a
section
variable {P:Af} {w:Ap} {K:AA} {mg:Str->Option AH} {base:BR}
theorem AR8:B7 ["t","found","at","token"] ["t"] (A8 As5):=fsc
theorem BX0 (F:Fun K "scan" "scan" As5 f fd)(Z:Sc P w K mg C):D6 P w K mg base CX0 7 f fd ["t"] (A14 K C):=by
 have X:=Z.X;obtain⟨fI,ax,O⟩:=Z.O;obtain⟨fB,aj,B⟩:=Z.B;obtain⟨fK,ay,Bl⟩:=Z.Bl;obtain⟨fO,az,Nt⟩:=Z.Nt;obtain⟨fX,ba,Ne⟩:=Z.Ne;obtain⟨fR,ak,Tt⟩:=Z.T;obtain⟨fS,al,St⟩:=Z.S;obtain⟨fW,am,W⟩:=Z.W;obtain⟨fL,bb,L⟩:=Z.L;obtain⟨fD,bc,D⟩:=Z.D;have GB:D6 P w K mg base CX0 2 fB aj ["t","at"] (AL7 K):=Aq4 B.F X.tx Bl Nt Ne;have GT:D6 P w K mg base CX0 6 fR ak ["t","at"] (AM4 K C):=A13 Tt.F Z;have GS:D6 P w K mg base CX0 3 fS al ["t","at"] (AB1 K C):=Am1 St.F O;have GW:D6 P w K mg base CX0 2 fW am ["byte"] AA4:=AU7 W.F L D;refine F.oK AR8 fun bd A an s H vs Q E hr h=>?_;obtain⟨a,d,rfl,hs,hB,af,h⟩:=h;have ao:Room 3 _:=hr.mono (by decide);have aa:Room 2 _:=hr.mono (by decide);refine⟨_,A2 (C9 (i:=1) AR8.nd rfl (Or.inl rfl) (M7 A6))
  (A2 (C9 (i:=2) AR8.nd rfl (Or.inl rfl) (D5 B GB aa (A0 (pv 0) (A0 B0 A6))))
  (A2 (Q7 BJ (B4 AX6 (pv 2) (F1 C5 (by rfl) X.tx.len BP (A0 (pv 0) A6)) (C1 _))
   (A2 (C9 (i:=3) AR8.nd rfl (Or.inl rfl) (U9 (R7 (D5 W GW aa (A0 (G7 D4 (pv 0) (pv 2) (fun _ _=>rfl)) A6))) (D5 Tt GT hr (A0 (pv 0) (A0 (pv 2) A6))) (D5 St GS ao (A0 (pv 0) (A0 (pv 2) A6)))))
   (A2 (E4 (U2 Ac Ax Aw G2 (pv 1) (A0 (pv 3) A6)))
   (A2 (D9 (B4 J0 (A9 (pv 3) rfl) (F2 X.noTok) (C1 _)) (A3 (B6 (pv 1))) C4)
   (A3 (C9 (i:=2) AR8.nd rfl (Or.inl rfl) (D5 B GB aa (A0 (pv 0) (A0 (R9 V7 (pv 2) (A9 (pv 3) rfl)) A6)))))))))
  (A3 (B6 (pv 1))))),?_⟩
 refine⟨Ag _,fun l hl=>?_⟩;have s0:Same H (upd H l (.lst [])):=B5 hl;refine⟨_,rfl,a,d,0,rfl,s0.seq hs,hB,Ag _,fun q0 _ ap aq ag=>?_⟩;refine⟨fun m σ J=>∃(q:Nat) (g:List AI) (A:List Sw.Token) (v:Option V),σ=[some (.ref a),some (.ref l),some (.int q),v]/\Same H J/\J l=some (.lst (g.map V.ref))/\Toks C J g (A.map q4)/\
  Sw.tokens (My.toB d)=(A++(T d q).1,(T d q).2)/\AS4 d q/\q<=d.length/\g.length<=q/\m=d.length-q,⟨_,q0,[],[],none,rfl,s0,A1,Toks.nil,?_,ag,ap,Ag _,rfl⟩,?_⟩
 ·rw[aq,My.T_zero];rfl
 rintro m σ J ⟨q,g,A',v,rfl,sm,ab,tk,hT,ah,hq,be,rfl⟩;have M:=sm.seq hs;have sz:=BA;refine⟨_,rfl,O4 rfl M ⟨_,_,rfl,rfl,_,rfl,G5 (fun c=>?_) (fun c=>?_)⟩⟩
 ·have ar:q<d.length:=by have:=of_decide_eq_true c;omega
  have hy:d[q]?=some d[q]:=Aj ar;refine⟨fun au J=>∃m',m'<d.length-q/\∃(q:Nat) (g:List AI) (A:List Sw.Token) (v:Option V),au=[some (.ref a),some (.ref l),some (.int q),v]/\Same H J/\J l=some (.lst (g.map V.ref))/\Toks C J g (A.map q4)/\
   Sw.tokens (My.toB d)=(A++(T d q).1,(T d q).2)/\AS4 d q/\q<=d.length/\g.length<=q/\m'=d.length-q,fun _ _ x=>x,?_⟩
  refine y8 rfl rfl M hy ⟨_,rfl,_,rfl,G5 (fun cw=>?_) (fun cw=>?_)⟩
  ·have t:=A25 hB hy ah cw;refine⟨_,rfl,_,rfl,a,d,q,d[q],rfl,M,hB,af,hy,cw,fun N b s2 R=>?_⟩;generalize (K6 d q).length=n at t R;generalize (qOf (Sw.wordTok (My.toB (K6 d q)))).1=u at t R;generalize (qOf (Sw.wordTok (My.toB (K6 d q)))).2=wi at t R;have j:=s2 _ _ ab;obtain⟨U,y⟩:=R;have ac:b≠l:=E8 y j (by intro z;cases z);refine⟨_,rfl,.inl ⟨rfl,_,SqL.of j⟩,_,rfl,l,_,_,rfl,rfl,j,(by rw[AJ];omega),?_⟩;have k:(upd N l (.lst (g.map V.ref++[V.ref b]))) b=some (.ins C U (tf q n u wi)):=by rw[A4 ac];exact y
   have s3:Same H (upd N l (.lst (g.map V.ref++[V.ref b]))):=fun x o e=>by rw[A4 (A7 e hl)];exact s2 _ _ (sm _ _ e)
   have G:Toks C (upd N l (.lst (g.map V.ref++[V.ref b]))) (g++[b]) (A'.map q4++[⟨q,n,u,wi⟩]):=
    (tk.keep fun x dy fs e=>by
     have e2:=s2 _ _ e;rw[A4 (E8 e2 j (by intro z;cases z))];exact e2).snoc ⟨U,k⟩
   have I:(upd N l (.lst (g.map V.ref++[V.ref b]))) l=some (.lst ((g++[b]).map V.ref)):=by rw[A1,AV];rfl
   have ai:(g++[b]).length=g.length+1:=by simp
   refine⟨_,rfl,b,C,U,_,_,rfl,k,X.cl,X.nW,b5 _ _ _ _,rfl,_,rfl,G5 (fun c4=>?_) (fun c4=>?_)⟩
   ·have Y:u=4:=by have:((u:Nat):Int)=4:=(by simpa using c4);omega
    rcases t with ⟨_,e0,p⟩ |⟨r,_,_,_,_,n4⟩
    ·refine⟨_,rfl,?_⟩;subst Y e0;refine h _ l (g++[b]) _ s3 I G (by omega) (.inr ⟨A',q,n,?_,rfl⟩);rw[hT,p,AE]
    ·exact(n4 Y).elim
   ·rcases t with ⟨Y,_⟩ |⟨r,ad,p,av,ae,_⟩
    ·exact absurd (by rw[Y];rfl) c4
    ·refine⟨_,rfl,_,rfl,_,rfl,b,C,U,_,_,rfl,k,X.cl,X.nL,AB6 _ _ _ _,_,_,rfl,rfl,a,d,q+n,rfl,s3.seq hs,hB,ae,fun q' h1 h2 h3 h4=>?_⟩;refine⟨d.length-q',by omega,q',g++[b],A'++[⟨q,n,r⟩],some (.ref b),rfl,s3,I,?_,?_,h4,h2,by omega,rfl⟩
     ·have e:q4 ⟨q,n,r⟩=⟨q,n,u,wi⟩:=by unfold q4;rw[ad]
      rw[AV,Ah,CZ,e];exact G
     ·rw[h3,hT,p,AF];rfl
  ·have t:=Aw3 hB hy ah (Ab.mpr cw);refine⟨_,rfl,_,rfl,a,d,q,d[q],rfl,M,hy,fun N b s2 R=>?_⟩;generalize (sq (My.signB d[q] d[q+1]?)).1=n at t R;generalize (sq (My.signB d[q] d[q+1]?)).2.1=u at t R;generalize (sq (My.signB d[q] d[q+1]?)).2.2=wi at t R;have j:=s2 _ _ ab;obtain⟨U,y⟩:=R;have ac:b≠l:=E8 y j (by intro z;cases z);refine⟨_,rfl,.inl ⟨rfl,_,SqL.of j⟩,_,rfl,l,_,_,rfl,rfl,j,(by rw[AJ];omega),?_⟩;have k:(upd N l (.lst (g.map V.ref++[V.ref b]))) b=some (.ins C U (tf q n u wi)):=by rw[A4 ac];exact y
   have s3:Same H (upd N l (.lst (g.map V.ref++[V.ref b]))):=fun x o e=>by rw[A4 (A7 e hl)];exact s2 _ _ (sm _ _ e)
   have G:Toks C (upd N l (.lst (g.map V.ref++[V.ref b]))) (g++[b]) (A'.map q4++[⟨q,n,u,wi⟩]):=
    (tk.keep fun x dy fs e=>by
     have e2:=s2 _ _ e;rw[A4 (E8 e2 j (by intro z;cases z))];exact e2).snoc ⟨U,k⟩
   have I:(upd N l (.lst (g.map V.ref++[V.ref b]))) l=some (.lst ((g++[b]).map V.ref)):=by rw[A1,AV];rfl
   have ai:(g++[b]).length=g.length+1:=by simp
   refine⟨_,rfl,b,C,U,_,_,rfl,k,X.cl,X.nW,b5 _ _ _ _,rfl,_,rfl,G5 (fun c4=>?_) (fun c4=>?_)⟩
   ·have Y:u=4:=by have:((u:Nat):Int)=4:=(by simpa using c4);omega
    rcases t with ⟨_,e0,p⟩ |⟨r,_,_,_,_,n4⟩
    ·refine⟨_,rfl,?_⟩;subst Y e0;refine h _ l (g++[b]) _ s3 I G (by omega) (.inr ⟨A',q,n,?_,rfl⟩);rw[hT,p,AE]
    ·exact(n4 Y).elim
   ·rcases t with ⟨Y,_⟩ |⟨r,ad,p,av,ae,_⟩
    ·exact absurd (by rw[Y];rfl) c4
    ·refine⟨_,rfl,_,rfl,_,rfl,b,C,U,_,_,rfl,k,X.cl,X.nL,AB6 _ _ _ _,_,_,rfl,rfl,a,d,q+n,rfl,s3.seq hs,hB,ae,fun q' h1 h2 h3 h4=>?_⟩;refine⟨d.length-q',by omega,q',g++[b],A'++[⟨q,n,r⟩],some (.ref b),rfl,s3,I,?_,?_,h4,h2,by omega,rfl⟩
     ·have e:q4 ⟨q,n,r⟩=⟨q,n,u,wi⟩:=by unfold q4;rw[ad]
      rw[AV,Ah,CZ,e];exact G
     ·rw[h3,hT,p,AF];rfl
 ·have aw:d.length<=q:=by have:=Al (Ab.mpr c);omega
  refine⟨_,rfl,?_⟩;rw[My.T_end aw,AE]at hT;exact h J l g _ sm ab tk (by omega) (.inl ⟨A',hT,rfl⟩)
end
end Tk
namespace Rk
open PySem PySem.Spec PyProof.Rows L2 Tk
inductive RP where
 |s (x:Str)
 |t (f x:Str) (n:Int)
 deriving DecidableEq
noncomputable abbrev PS3:=Str×Str×Int
noncomputable def RP.full:RP->PS3
 |.s x=>("once",x,1)
 |.t f x n=>(f,x,n)
noncomputable abbrev AH1:=List (Str×List (List RP))
noncomputable def v7:List RP->Str
 |.s x::_=>x
 |_=>""
noncomputable def AQ2 (o:Obj):Option (List AH):=match o with
 |⟨.type n,none,.seq a _,_⟩=>if n="tuple"/\a.size<=1000 then some a.toList else none
 |_=>none
noncomputable def Bn0 (K:AA):AH->Option RP
 |.str x _=>some (.s x)
 |.ref d=>match (K.lookup d).bind AQ2 with
  |some [.str f _,.str x _,.int n _]=>some (.t f x n)
  |_=>none
 |_=>none
noncomputable def AY4 {a:Type}(f:AH->Option a):List AH->Option (List a)
 |[]=>some []
 |u::r=>match f u,AY4 f r with
  |some x,some l=>some (x::l)
  |_,_=>none
noncomputable def A62 (K:AA):AH->Option (List RP)
 |.ref c=>((K.lookup c).bind AQ2).bind (AY4 (Bn0 K))
 |_=>none
noncomputable def AS6 (K:AA):AH->Option (List (List RP))
 |.ref c=>((K.lookup c).bind AQ2).bind (AY4 (A62 K))
 |_=>none
noncomputable def Av1 (K:AA):List Bg->Option AH1
 |[]=>some []
 |⟨_,.str x _,a⟩::r=>match AS6 K a,Av1 K r with
  |some w,some l=>some ((x,w)::l)
  |_,_=>none
 |_::_=>none
noncomputable def Br7 (K:AA)(v:V):RP->Prop
 |.s x=>v=.str x
 |.t f x n=>∃d,v=.ref d/\∀H,SqT K H d [.str f,.str x,.int n]
def Bf5 (K:AA)(v:V)(b:List RP):Prop:=∃c a,v=.ref c/\(∀H,SqT K H c a)/\Paired (Br7 K) a b
def AH7 (K:AA)(v:V)(c:List (List RP)):Prop:=∃b a,v=.ref b/\(∀H,SqT K H b a)/\Paired (Bf5 K) a c
theorem AP3 {K:AA}(h:(K.lookup a).bind AQ2=some us)(r:Vals vs us):∀H,SqT K H a vs:=by
 intro H;cases e:K.lookup a with
 |none=>rw[e]at h;cases h
 |some o=>
  rw[e]at h;have h:AQ2 o=some us:=h;unfold AQ2 at h;split at h
  ·rename_i n b m d;split at h
   ·rename_i c;obtain⟨rfl,f⟩:=c;cases h;exact .inr ⟨_,_,_,e,rfl,rfl,by have:=BA;omega,r⟩
   ·cases h
  ·cases h
theorem AM9 {a:Type}{f:AH->Option a}{R:V->a->Prop}(b:∀u x,f u=some x->∃v,RelV v u/\R v x):∀{us:List AH} {xs:List a},AY4 f us=some xs->∃vs,Vals vs us/\Paired R vs xs
 |[],xs,h=>by cases h;exact⟨[],.nil,.nil⟩
 |u::r,xs,h=>by
  unfold AY4 at h;split at h
  ·rename_i x l c d;cases h;obtain⟨v,e,g⟩:=b u x c;obtain⟨vs,i,j⟩:=AM9 b d;exact⟨v::vs,.cons e i,.cons g j⟩
  ·cases h
theorem BP0 {K:AA}(u:AH)(x:RP)(h:Bn0 K u=some x):∃v,RelV v u/\Br7 K v x:=by
 unfold Bn0 at h;split at h
 ·rename_i y t;cases h;exact⟨.str y,⟨t,rfl⟩,rfl⟩
 ·rename_i d;split at h
  ·rename_i f a y b n c e;cases h;exact⟨.ref d,rfl,d,rfl,AP3 e (.cons ⟨_,rfl⟩ (.cons ⟨_,rfl⟩ (.cons ⟨_,rfl⟩ .nil)))⟩
  ·cases h
 ·cases h
theorem A74 {K:AA}(u:AH)(x:List RP)(h:A62 K u=some x):∃v,RelV v u/\Bf5 K v x:=by
 unfold A62 at h;split at h
 ·rename_i c;cases e:(K.lookup c).bind AQ2 with
  |none=>rw[e]at h;cases h
  |some a=>rw[e]at h;obtain⟨b,d,f⟩:=AM9 BP0 (show AY4 (Bn0 K) a=some x from h);exact⟨.ref c,rfl,c,b,rfl,AP3 e d,f⟩
 ·cases h
theorem A22 {K:AA}(u:AH)(x:List (List RP))(h:AS6 K u=some x):∃v,RelV v u/\AH7 K v x:=by
 unfold AS6 at h;split at h
 ·rename_i c;cases e:(K.lookup c).bind AQ2 with
  |none=>rw[e]at h;cases h
  |some a=>rw[e]at h;obtain⟨b,d,f⟩:=AM9 A74 (show AY4 (A62 K) a=some x from h);exact⟨.ref c,rfl,c,b,rfl,AP3 e d,f⟩
 ·cases h
def BF7 (P:Af)(w:Ap)(K:AA)(a:AI)(g:AH1):Prop:=∃b:List (Str×V),MDk P w K a (b.map fun p=>(Sum.inr p.1,p.2))/\Paired (fun(p:Str×V) (q:Str×List (List RP))=>p.1=q.1/\AH7 K p.2 q.2) b g
theorem Al5 {K:AA}{u:AH}{x:List (List RP)}(h:AS6 K u=some x):∃c,u=.ref c:=by
 unfold AS6 at h;split at h
 ·exact⟨_,rfl⟩
 ·cases h
theorem Ad9 {K:AA}:∀{es:List Bg} {g:AH1},Av1 K es=some g->∃a:List (Str×V),AR6 es=some a/\Paired (fun(p:Str×V) (q:Str×List (List RP))=>p.1=q.1/\AH7 K p.2 q.2) a g
 |[],g,h=>by cases h;exact⟨[],rfl,.nil⟩
 |⟨f,m,d⟩::r,g,h=>by
  unfold Av1 at h;split at h
  ·cases h;rename_i e;cases e
  ·rename_i n x t i A e;cases e;split at h
   ·rename_i w l j o;cases h;obtain⟨a,s,u⟩:=Ad9 o;obtain⟨v,y,k⟩:=A22 d w j;obtain⟨c,rfl⟩:=Al5 j;obtain⟨b,B,rfl,C⟩:=id k;have z:Bt4 ⟨f,.str x t,.ref c⟩=some (x,V.ref b):=by cases y;rfl
    refine⟨(x,.ref b)::a,?_,.cons ⟨rfl,k⟩ u⟩;show(match Bt4 ⟨f,.str x t,.ref c⟩,AR6 r with |some x,some l=>some (x::l) |_,_=>none)=_;rw[z,s]
   ·cases h
  ·cases h
theorem BM5 {P:Af}{w:Ap}{K:AA}{a:AI}{es:Array Bg}{n:Nat}{g:AH1}(i:K.lookup a=some ⟨.type "dict",none,.dict es n,#[]⟩)(j:KeysLit w.params es.toList)(h:Av1 K es.toList=some g)
  (c:(g.map (·.1)).Nodup) (k:(a==sysModules)=false):BF7 P w K a g:=by
 obtain⟨b,d,f⟩:=Ad9 h;refine⟨b,Bp3 i j d ?_ k,f⟩;have e:b.map (·.1)=g.map (·.1):=by
  clear d h c
  induction f with
  |nil=>rfl
  |cons h _ l=>rw[Ah,Ah,l,h.1]
 rw[Bk];have m:((fun(x:Key×V)=>x.1)∘fun(p:Str×V)=>((Sum.inr p.1,p.2):Key×V))=fun p=>Sum.inr p.1:=rfl;rw[m];have o:(b.map fun p=>(Sum.inr p.1:Key))=(b.map (·.1)).map Sum.inr:=by rw[Bk];rfl
 rw[o,e];refine(List.pairwise_map.mpr ?_);exact c.imp fun h q=>h (DI q)
noncomputable def look (g:AH1)(x:Str):Option (List (List RP)):=(g.find? fun p=>decide (p.1=x)).map (·.2)
theorem BE2 {K:AA}{a:List (Str×V)}{g:AH1}(h:Paired (fun(p:Str×V) (q:Str×List (List RP))=>p.1=q.1/\AH7 K p.2 q.2) a g)(x:Str):
  (look g x=none/\S6 (a.map fun p=>((Sum.inr p.1,p.2):Key×V)) (Sum.inr x)=none)∨∃d v,look g x=some d/\S6 (a.map fun p=>((Sum.inr p.1,p.2):Key×V)) (Sum.inr x)=some v/\AH7 K v d:=by
 induction h with
 |nil=>exact .inl ⟨rfl,rfl⟩
 | @cons p q e f b _ i=>
  by_cases c:q.1=x
  ·refine .inr ⟨q.2,p.2,?_,?_,b.2⟩
   ·unfold look;rw[Bm,AR c];rfl
   ·rw[Ah];exact J7 (by rw[b.1,c])
  ·have j:look (q::f) x=look f x:=by unfold look;rw[Bm,AX c]
   have k:S6 ((p::e).map fun p=>((Sum.inr p.1,p.2):Key×V)) (Sum.inr x)=S6 (e.map fun p=>((Sum.inr p.1,p.2):Key×V)) (Sum.inr x):=by rw[Ah];unfold S6;rw[Bm,AX (fun z=>c (by rw[←b.1];exact DI z))]
   rw[j,k];exact i
structure TxG (P:Af)(w:Ap)(K:AA)(mg:Str->Option AH)(g:AH1):Prop where
 isi:mg "isinstance"=none
 str:mg "str"=none
 tup:mg "tuple"=none
 kt:PySem.W.kitOne K (.type "tuple") (.type "str")=some false
 gr:∃a,mg "GRAMMAR"=some (.ref a)/\BF7 P w K a g
theorem Aa5:bootBuiltins "tuple"=some (.type "tuple"):=by decide+kernel
theorem Same.tup {K:AA}{H H':Hp}{a:AI}{xs:List V}(e:Same H H')(h:SqT K H a xs):SqT K H' a xs:=by
 rcases h with (h |⟨o,h⟩) |h
 ·exact .inl (.inl (e _ _ h))
 ·exact .inl (.inr ⟨o,e _ _ h⟩)
 ·exact .inr h
def BZ5 (K:AA)(H:Hp)(q:AI)(p:PS3):Prop:=SqT K H q [.str p.1,.str p.2.1,.int p.2.2]
def PtsAt (K:AA)(H:Hp)(a:AI)(ps:List PS3):Prop:=∃b:List AI,SqT K H a (b.map V.ref)/\Paired (BZ5 K H) b ps
theorem PtsAt.keep {K:AA}{H H':Hp}{a:AI}{ps:List PS3}(h:PtsAt K H a ps)(e:∀a xs,SqT K H a xs->SqT K H' a xs):PtsAt K H' a ps:=by
 obtain⟨qs,h1,h2⟩:=h;refine⟨qs,e _ _ h1,?_⟩;clear h1
 induction h2 with
 |nil=>exact .nil
 |cons h _ ih=>exact .cons (e _ _ h) ih
inductive A11 (K:AA) (vs:List V) (H:Hp) (Q:VK) (E:XK):Prop
 |mk:∀(v:V) (r:RP),vs=[v]->Br7 K v r->(∀(H':Hp) (q:AI),Same H H'->BZ5 K H' q r.full->Q (.ref q) H')->A11 K vs H Q E
section
variable {P:Af} {w:Ap} {K:AA} {mg:Str->Option AH} {base:BR} {g:AH1}
theorem Bm1:B7 ["part"] ["part"] (A8 Ak4):=fsc
theorem BP2 (F:Fun K "full_part" "full_part" Ak4 f fd)(T:TxG P w K mg g):D6 P w K mg base CX0 1 f fd ["part"] (A11 K):=by
 refine F.oK Bm1 fun i A a s H k Q E l h=>?_;obtain⟨v,r,rfl,b,h⟩:=h;refine⟨_,A2 (D9 (R7 (A41 (pv 0) (by rfl) T.isi (by rfl) T.str T.kt)) (A3 (B6 (AJ1 (A0 C7 (A0 (pv 0) (A0 B0 A6)))))) C4) (A3 (B6 (pv 0))),?_⟩;have m:=BA;cases r with
 |s x=>have e:v=.str x:=b;subst e;exact⟨_,rfl,.inl ⟨x,rfl,_,rfl,AS0 ⟨_,rfl,(by show 3<=sizeLine;omega),fun t j=>h _ t (B5 j) (SqT.of A1)⟩⟩⟩
 |t y x n=>obtain⟨d,rfl,c⟩:=b;exact⟨_,rfl,.inr ⟨d,_,rfl,c _,_,rfl,AG9 ⟨_,rfl,h _ d (Same.refl _) (c _)⟩⟩⟩
noncomputable def ft (g:AH1):Nat->List Str->List Str->Option (List Str)
 |0,_,_=>none
 |n+1,a,b=>match a.getLast? with
  |none=>some b
  |some x=>match look g x with
   |some c=>if a.length+c.length<=1000 then ft g n (a.dropLast++c.map v7) b else none
   |none=>if b.length<1000 then ft g n a.dropLast (b++[x])else none
def AM8 (g:AH1):Prop:=∀p∈g,∀a∈p.2,a.length<=1000/\∃x r,a=RP.s x::r
inductive AY0 (g:AH1) (vs:List V) (H:Hp) (Q:VK) (E:XK):Prop
 |mk:∀(x:Str) (n:Nat) (L:List Str),vs=[.str x]->ft g n [x] []=some L->(∀(H':Hp) (l:AI),Same H H'->H' l=some (.lst (L.map V.str))->Q (.ref l) H')->AY0 g vs H Q E
theorem A44 (h:look g x=some ws):(x,ws)∈g:=by
 unfold look at h;obtain⟨p,a,rfl⟩:=Ay.mp h;have:=EH a;have e:p.1=x:=by simpa using this
 have:=DG a;rw[←e];exact this
theorem Paired.get {a b:Type}{R:a->b->Prop}{l:List a}{m:List b}(h:Paired R l m):∀{i:Nat} {x:a},l[i]?=some x->∃y,m[i]?=some y/\R x y:=by
 induction h with
 |nil=>intro i x e;simp at e
 |cons c _ d=>
  intro i x e;cases i with
  |zero=>cases e;exact⟨_,rfl,c⟩
  |succ i=>exact d (by simpa using e)
theorem Bf4 {c:Type}(l:List c):l=[]∨∃d b,l=d++[b]:=by
 rcases CP l with h |⟨a,b,h⟩
 ·exact .inl h
 ·exact .inr ⟨a,b,by rw[h,CA]⟩
theorem q7:B7 ["symbol","found","waiting","way"] ["symbol"] (A8 AI8):=fsc
theorem A67 {f:AI}{fd:BK}(F:Fun K "first_tokens" "first_tokens" AI8 f fd)(T:TxG P w K mg g)(hH:AM8 g):D6 P w K mg base CX0 1 f fd ["symbol"] (AY0 g):=by
 obtain⟨aG,S,aj,M,aa⟩:=T.gr;refine F.oK q7 fun ak A ab s H vs Q E hr h=>?_;obtain⟨x0,n0,L,rfl,ac,h⟩:=h;have hu:=Aj5 hr;refine⟨_,A2 (C9 (i:=1) q7.nd rfl (Or.inl rfl) (M7 A6))
  (A2 (C9 (i:=2) q7.nd rfl (Or.inl rfl) (M7 (A0 (pv 0) A6)))
  (A2 (Q7 BJ (l4 (pv 2) (fun _=>rfl))
   (A2 (C9 (i:=0) q7.nd rfl (Or.inl rfl) (AE8 Ac Bq Bp AD2 (pv 2)))
   (A3 (D9 (A15 (Ar1 hu (pv 0) (R0 S)))
    (A3 (E4 (U2 Ac Ch Cg j7 (pv 2)
     (A0 (Ar7 (own:=[("way",3)]) rfl q7.nd (A09 (AC7 hu (R0 S) (pv 0) (fun _ _=>rfl))) (k7 (by kernel_rfl)) (fun _ _ _ _ _=>K8 (i:=3) q7.nd rfl (Or.inl rfl)) (fun _ _ _ _ _=>F8)
      (fun _ _ _ _ _=>G7 (show IxR _ (BG7 K)from AB4) (pv 3) B0 (fun _ _=>rfl))) A6))))
    (A3 (E4 (U2 Ac Ax Aw G2 (pv 1) (A0 (pv 0) A6))))))))
  (A3 (B6 (pv 1))))),?_⟩
 have sz:=BA;refine⟨Ag _,fun l hl=>⟨_,rfl,(by show 1<=sizeLine;omega),fun p r=>?_⟩⟩;have u:p≠l:=fun q=>by rw[q,A1]at r;cases r
 have s0:Same H (upd (upd H l (.lst [])) p (.lst [V.str x0])):=(B5 hl).trans (B5 r);refine⟨fun m σ B=>∃(x:Str) (R C:List Str) (v:Option V),σ=[some (.str x),some (.ref l),some (.ref p),v]/\Same H B/\B l=some (.lst (C.map V.str))/\B p=some (.lst (R.map V.str))/\ft g m R C=some L,
  ⟨n0,x0,[x0],[],none,rfl,s0,by rw[A4 (BD u),A1];rfl,A1,ac⟩,?_⟩
 rintro m σ B ⟨x,R,C,v,rfl,sm,U,N,k⟩;cases m with
 |zero=>cases k
 |succ m=>
  refine⟨_,rfl,!R.isEmpty,?_,?_⟩
  ·exact .inl ⟨_,SqL.of N,by cases R<;>rfl⟩
  ·rcases Bf4 R with rfl |⟨d,y,rfl⟩
   ·refine⟨_,rfl,h B l sm ?_⟩;unfold ft at k;cases k;exact U
   ·have ad:(d++[y]).getLast?=some y:=by simp
    have ae:(d++[y]).dropLast=d:=by simp
    unfold ft at k;rw[ad,ae]at k;dsimp only at k;have e1:((d++[y]).map V.str)[((d++[y]).map V.str).length-1]?=some (V.str y):=by rw[AV];simp
    have e2:((d++[y]).map V.str).dropLast=d.map V.str:=by rw[AV];simp
    rw[show(!(d++[y]).isEmpty)=true by simp];refine⟨_,fun _ _ z=>z,_,rfl,.inl ⟨rfl,_,SqL.of N⟩,p,_,_,rfl,rfl,N,e1,?_⟩;rw[e2];have sW:Same H (upd B p (.lst (d.map V.str))):=fun b o e=>by rw[A4 (A7 (B5 hl _ _ e) r)];exact sm _ _ e
    have G:(upd B p (.lst (d.map V.str))) l=some (.lst (C.map V.str)):=by rw[A4 (BD u)];exact U
    have I:(upd B p (.lst (d.map V.str))) p=some (.lst (d.map V.str)):=A1;generalize (upd B p (.lst (d.map V.str)))=H1 at sW G I ⊢;rcases BE2 aa y with ⟨g1,g2⟩ |⟨n,vv,g1,g2,g3⟩
    ·rw[g1]at k;dsimp only at k;by_cases c:C.length<1000
     ·have k:ft g m d (C++[y])=some L:=by rw[AL c]at k;exact k
      refine⟨_,rfl,aG,none,rfl,.inl ⟨_,Sum.inr y,M.mdict,rfl,g2.symm⟩,_,rfl,AG9 ?_⟩;refine⟨_,rfl,.inl ⟨rfl,_,SqL.of G⟩,_,rfl,l,_,_,rfl,rfl,G,(by rw[AJ];omega),?_⟩;refine⟨m,CY _,y,d,C++[y],v,rfl,fun b o e=>?_,?_,?_,k⟩
      ·rw[A4 (A7 e hl)];exact sW _ _ e
      ·rw[A1,AV];rfl
      ·rw[A4 u];exact I
     ·rw[AD c]at k;cases k
    ·rw[g1]at k;dsimp only at k;by_cases c:(d++[y]).length+n.length<=1000
     ·have k:ft g m (d++n.map v7) C=some L:=by rw[AL c]at k;exact k
      have c':d.length+n.length<=1000:=by rw[AO]at c;omega
      obtain⟨b,O,rfl,W,X⟩:=g3;have af:O.length=n.length:=BQ X;refine⟨_,rfl,aG,_,rfl,.inl ⟨_,Sum.inr y,M.mdict,rfl,g2.symm⟩,_,rfl,AS0 ?_⟩;refine⟨_,rfl,.inl ⟨rfl,_,SqL.of I⟩,?_⟩;refine⟨_,rfl,aG,_,rfl,.inl ⟨_,Sum.inr y,M.mdict,rfl,g2.symm⟩,b,rfl,⟨_,W _⟩,fun D hD=>BJ5 (K:=K) (a:=b) (xs:=O) (fun i Y=>Same H1 Y/\Y D=some (.lst (((n.take i).map v7).map V.str)))
       ⟨B5 hD,A1⟩ (fun i Y _ _=>W _) ?_ ?_⟩
      ·rintro i wv Y hi ⟨t,J⟩;obtain⟨rs,Z,c2,al,rfl,ag,ah⟩:=Paired.get X hi;obtain⟨_,x1,r1,e3⟩:=hH _ (A44 g1) rs (Az Z);subst e3;cases ah with
       | @cons v0 _ vr _ h0 _=>
        have h0:v0=.str x1:=h0;subst h0;refine⟨rfl,_,rfl,c2,_,_,_,rfl,rfl,ag _,E9 (j:=0) (show(V.str x1::vr)[0]?=some (V.str x1)from rfl),_,J,(by rw[AJ,AJ,Br];omega),fun b' o e=>?_,?_⟩
        ·rw[A4 (A7 e hD)];exact t _ _ e
        ·rw[A1,J9 Z,AV,AV];rfl
      ·rintro Y ⟨t,J⟩;have e4:n.take O.length=n:=Bd (by omega);rw[e4]at J;have ai:=t _ _ I;refine⟨p,D,_,_,rfl,rfl,ai,J,(by simp only[AJ];omega),?_⟩;refine⟨m,CY _,y,d++n.map v7,C,v,rfl,fun b' o e=>?_,?_,?_,k⟩
       ·rw[A4 (A7 (B5 hl _ _ e) r)];exact t _ _ (sW _ _ e)
       ·rw[A4 (BD u)];exact t _ _ G
       ·rw[A1,AV]
     ·rw[AD c]at k;cases k
end
noncomputable abbrev Put:=Str×Str×List PS3
noncomputable def Ap1 (g:AH1)(a:Str)(b:List RP):List Put:=((ft g 1000 [v7 b] []).getD []).map fun y=>(a,y,b.map RP.full)
noncomputable def x8 (g:AH1)(a:Str)(b:List (List RP)):List Put:=b.flatMap (Ap1 g a)
noncomputable def y1 (g:AH1)(l:AH1):List Put:=l.flatMap fun p=>x8 g p.1 p.2
noncomputable def Al8 (b:List Put)(x y:Str):Option (List PS3):=b.foldl (fun a q=>if q.1=x/\q.2.1=y then some q.2.2 else a) none
theorem Az8 (a:List Put)(q:Put)(x y:Str):Al8 (a++[q]) x y=if q.1=x/\q.2.1=y then some q.2.2 else Al8 a x y:=by unfold Al8;rw[Cq];rfl
def WT (K:AA)(H:Hp)(b:List (List Key×V))(a:List Put):Prop:=b.length<=a.length/\∀x y:Str,match Al8 a x y with
 |none=>S6 b [Sum.inr x,Sum.inr y]=none
 |some c=>∃p,S6 b [Sum.inr x,Sum.inr y]=some (.ref p)/\PtsAt K H p c
theorem WT.nil {K:AA}{H:Hp}:WT K H [] []:=⟨AB _,fun _ _=>rfl⟩
theorem WT.keep {K:AA}{H H':Hp}{kvs:List (List Key×V)}{puts:List Put}(h:WT K H kvs puts)(e:∀a xs,SqT K H a xs->SqT K H' a xs):WT K H' kvs puts:=by
 refine⟨h.1,fun x y=>?_⟩;have h2:=h.2 x y;cases q:Al8 puts x y with
 |none=>rw[q]at h2;exact h2
 |some ps=>rw[q]at h2;obtain⟨p,h3,h4⟩:=h2;exact⟨p,h3,h4.keep e⟩
theorem A88 {b:Type}[DecidableEq b](a:List (b×V))(k:b)(v:V):(AQ4 a k v).length<=a.length+1:=by
 unfold AQ4;split
 ·rw[AJ];omega
 ·rw[AO];simp
theorem WT.put {K:AA}{H:Hp}{b:List (List Key×V)}{a:List Put}{x y:Str}{p:AI}{ps:List PS3}(h:WT K H b a)(f:PtsAt K H p ps):WT K H (AQ4 b [Sum.inr x,Sum.inr y] (.ref p)) (a++[(x,y,ps)]):=by
 refine⟨?_,fun d e=>?_⟩
 ·have:=A88 b [Sum.inr x,Sum.inr y] (.ref p);have:=h.1;rw[AO];simp only[AZ,Bt];omega
 ·rw[Az8,BA9];by_cases c:x=d/\y=e
  ·obtain⟨rfl,rfl⟩:=c;rw[AL ⟨rfl,rfl⟩,AL rfl];exact⟨p,rfl,f⟩
  ·rw[AD c,AD (fun q=>c (by
    injection q with q1 q2;injection q2 with q3 _;exact⟨(DI q1).symm,(DI q3).symm⟩))]
   exact h.2 d e
theorem Ax1 {K:AA}{H:Hp}{d:AI}{u o:HO}(hd:H d=some u)(b:∀xs,u≠.tup xs)(c:∀o xs,u≠.frz o (.tup xs)):∀a xs,SqT K H a xs->SqT K (upd H d o) a xs:=by
 intro a xs h;rcases h with (h |⟨e,h⟩) |h
 ·exact .inl (.inl (by rw[A4 (E8 h hd (fun z=>b _ z.symm))];exact h))
 ·exact .inl (.inr ⟨e,by rw[A4 (E8 h hd (fun z=>c _ _ z.symm))];exact h⟩)
 ·exact .inr h
theorem BE9 {K:AA}{H:Hp}{d:AI}{b:List (List Key×V)}{o:HO}(hd:H d=some (.dT b)):∀a xs,SqT K H a xs->SqT K (upd H d o) a xs:=Ax1 hd (fun _ z=>by cases z) (fun _ _ z=>by cases z)
theorem Bd6 {K:AA}{H:Hp}{d:AI}{xs:List V}{o:HO}(hd:H d=some (.lst xs)):∀a xs,SqT K H a xs->SqT K (upd H d o) a xs:=Ax1 hd (fun _ z=>by cases z) (fun _ _ z=>by cases z)
theorem AI6 {K:AA}{H H':Hp}(h:Same H H'):∀a xs,SqT K H a xs->SqT K H' a xs:=fun _ _ x=>Same.tup h x
theorem AN2 {K:AA}{H H':Hp}{b:List AI}{ps:List PS3}(h:Paired (BZ5 K H) b ps)(e:∀a xs,SqT K H a xs->SqT K H' a xs):Paired (BZ5 K H') b ps:=by
 induction h with
 |nil=>exact .nil
 |cons h _ c=>exact .cons (e _ _ h) c
theorem AY6 (h:Paired R l m)(c:R a b):Paired R (l++[a]) (m++[b]):=by
 induction h with
 |nil=>exact .cons c .nil
 |cons h _ d=>exact .cons h d
theorem Be0:(kvs.map (·.1)).Nodup->∀{i:Nat} {k:Key} {v:V},kvs[i]?=some (k,v)->S6 kvs k=some v:=by
 induction kvs with
 |nil=>intro _ i k v h;simp at h
 |cons p r b=>
  intro a i k v h;rw[Ah,Am]at a;cases i with
  |zero=>
   have h:p=(k,v):=by simpa using h
   subst h;exact J7 rfl
  |succ i=>
   have h:r[i]?=some (k,v):=by simpa using h
   have c:k∈r.map (·.1):=BN.mpr ⟨(k,v),Az h,rfl⟩;rw[K4 (fun q=>a.1 (by rw[q];exact c))];exact b a.2 h
theorem j8 {a b:Type}(f:a->List b){l:List a}{i:Nat}{x:a}(h:l[i]?=some x):(l.take (i+1)).flatMap f=(l.take i).flatMap f++f x:=by rw[J9 h,DC];simp
theorem A30 {a b:Type}(f:a->List b)(l:List a)(i:Nat):((l.take i).flatMap f).length<=(l.flatMap f).length:=by
 have:l.flatMap f=(l.take i).flatMap f++(l.drop i).flatMap f:=by rw[←DC,List.take_append_drop]
 rw[this,AO];omega
theorem BL4 {K:AA}{a:List (Str×V)}{g:AH1}(h:Paired (fun(p:Str×V) (q:Str×List (List RP))=>p.1=q.1/\AH7 K p.2 q.2) a g):a.map (·.1)=g.map (·.1):=by
 induction h with
 |nil=>rfl
 |cons h _ b=>rw[Ah,Ah,b,h.1]
def Bp7 (g:AH1):Prop:=∀p∈g,∀a∈p.2,(ft g 1000 [v7 a] []).isSome=true
def BE6 (K:AA)(g:AH1):Sp:=fun c H Q _=>c=[]/\∀(b:Hp) (d:AI) (a:List (List Key×V)),Same H b->H d=none->b d=some (.dT a)->WT K b a (y1 g g)->Q (.ref d) b
section
variable {P:Af} {w:Ap} {K:AA} {mg:Str->Option AH} {base:BR} {g:AH1}
theorem w8:B7 ["ways","rule","way","parts","token","part"] [] (A8 Ax7):=fsc
theorem BM4 {f fU fT:AI}{fd an ao:BK}(F:Fun K "ways_by_token" "ways_by_token" Ax7 f fd)(T:TxG P w K mg g)(hH:AM8 g)(hF:Bp7 g)(hN:(g.map (·.1)).Nodup)(hL:(y1 g g).length<=1000)
  (U:Fn K mg "full_part" Ak4 ["part"] fU an) (N:Fn K mg "first_tokens" AI8 ["symbol"] fT ao):D6 P w K mg base CX0 2 f fd [] (BE6 K g):=by
 have GU:D6 P w K mg base CX0 1 fU an ["part"] (A11 K):=BP2 U.F T;have GN:D6 P w K mg base CX0 1 fT ao ["symbol"] (AY0 g):=A67 N.F T hH;obtain⟨aG,ap,u,aq,ac⟩:=T.gr;refine F.oK w8 fun bs A bf s H vs Q E hr h=>?_;obtain⟨rfl,h⟩:=h;have hu:=Aj5 hr;refine⟨_,A2 (C9 (i:=0) w8.nd rfl (Or.inl rfl) A63)
  (A2 (Z8 BJ rfl (Al3 (R0 ap)) (K8 (i:=1) w8.nd rfl (Or.inl rfl))
   (A3 (Z8 BJ rfl (A09 (AC7 hu (R0 ap) (pv 1) (fun _ _=>rfl))) (K8 (i:=2) w8.nd rfl (Or.inl rfl))
    (A2 (C9 (i:=3) w8.nd rfl (Or.inl rfl) (AC1 AP1 (by rfl) T.tup Aa5 (A0 (Ar7 (own:=[("part",5)]) rfl w8.nd (A09 (pv 2)) (k7 (by kernel_rfl)) (fun _ _ _ _ _=>K8 (i:=5) w8.nd rfl (Or.inl rfl)) (fun _ _ _ _ _=>F8)
      (fun _ _ _ _ _=>D5 U GU hr (A0 (pv 5) A6))) A6)))
    (A3 (Z8 BJ rfl (X3 (D5 N GN hr (A0 (G7 AB4 (pv 2) B0 (fun _ _=>rfl)) A6))) (K8 (i:=4) w8.nd rfl (Or.inl rfl))
     (A3 (BW4 hu (pv 0) (AJ1 (A0 (pv 1) (A0 (pv 4) A6))) (pv 3) rfl))))))))
  (A3 (B6 (pv 0)))),?_⟩
 have sz:=BA;have ar:u.length=g.length:=BQ ac;have bg:((u.map fun p=>((Sum.inr p.1,p.2):Key×V)).map (·.1)).Nodup:=by
  have e:=BL4 ac;rw[Bk];have e3:u.map ((fun(x:Key×V)=>x.1)∘fun p=>((Sum.inr p.1,p.2):Key×V))=(u.map (·.1)).map Sum.inr:=by rw[Bk];rfl
  rw[e3,e];exact List.pairwise_map.mpr (hN.imp fun h q=>h (DI q))
 refine fun d hd=>⟨aG,_,rfl,aq,Az2 (fun i O B=>∃(v1 v2 v3 C G:Option V) (r:List (List Key×V)),O=[some (.ref d),v1,v2,v3,C,G]/\Same H B/\B d=some (.dT r)/\WT K B r (y1 g (g.take i)))
  ⟨none,none,none,none,none,[],rfl,B5 hd,A1,WT.nil⟩ ?_ ?_⟩
 ·rintro i k v O H1 hi ⟨v1,v2,v3,C,G,r,rfl,s1,ad,X⟩;obtain⟨⟨n,v'⟩,au,bh⟩:∃p,u[i]?=some p/\(k,v)=((Sum.inr p.1,p.2):Key×V):=by
   rw[Aq]at hi;cases e:u[i]? with
   |none=>rw[e]at hi;cases hi
   |some z=>rw[e]at hi;exact⟨z,rfl,(Aa hi).symm⟩
  cases bh;obtain⟨⟨ae,I⟩,af,he,bi⟩:=Paired.get ac au;have he:n=ae:=he;subst he;have av:S6 (u.map fun p=>((Sum.inr p.1,p.2):Key×V)) (Sum.inr n)=some v':=by refine Be0 bg (i:=i) ?_;rw[Aq,au];rfl
  obtain⟨b,aw,e0,ax,ay⟩:=bi;have e0:v'=.ref b:=e0;subst e0;have bj:aw.length=I.length:=BQ ay;refine⟨_,rfl,aG,_,rfl,.inl ⟨_,Sum.inr n,aq.mdict,rfl,av.symm⟩,b,rfl,⟨_,ax _⟩,BU2 (K:=K) (a:=b) (xs:=aw) (fun j O B=>∃(v2 v3 C G:Option V) (r:List (List Key×V)),O=[some (.ref d),some (.str n),v2,v3,C,G]/\Same H B/\B d=some (.dT r)/\WT K B r (y1 g (g.take i)++x8 g n (I.take j)))
   ⟨v2,v3,C,G,r,rfl,s1,ad,by rw[show x8 g n (I.take 0)=[]from rfl,AE];exact X⟩ (fun _ _ _ _ _=>ax _) ?_ ?_⟩
  ·rintro j wv O H2 hj ⟨v2,v3,C,G,r,rfl,s2,ag,Y⟩;obtain⟨J,ah,c,ai,rfl,aj,ak⟩:=Paired.get ay hj;have ab:J∈I:=Az ah;have az:(n,I)∈g:=Az af;obtain⟨be,x1,r1,e3⟩:=hH _ az J ab;have bk:ai.length=J.length:=BQ ak;refine⟨_,rfl,c,rfl,⟨_,aj _⟩,fun D hD=>BJ5 (K:=K) (a:=c) (xs:=ai) (fun m H3=>Same H2 H3/\∃Z:List AI,H3 D=some (.lst (Z.map V.ref))/\Paired (BZ5 K H3) Z ((J.take m).map RP.full))
    ⟨B5 hD,[],A1,.nil⟩ (fun _ _ _ _=>aj _) ?_ ?_⟩
   ·rintro m bl H3 hm ⟨s3,Z,aa,R⟩;obtain⟨rp,bm,bn⟩:=Paired.get ak hm;refine⟨rfl,_,rfl,bl,rp,rfl,bn,fun H4 q s4 hq=>⟨_,s4 _ _ aa,?_,?_,Z++[q],?_,?_⟩⟩
    ·have:=BQ R;rw[AJ,Br]at this;rw[AJ];omega
    ·exact fun b' o e=>by rw[A4 (A7 e hD)];exact s4 _ _ (s3 _ _ e)
    ·rw[A1,AV];rfl
    ·rw[J9 bm,AV];exact AN2 (AY6 (AN2 R (AI6 s4)) hq) (Bd6 (s4 _ _ aa))
   ·rintro H3 ⟨s3,Z,aa,R⟩;refine⟨D,_,rfl,.inl ⟨SqL.of aa,fun p hp=>?_⟩⟩;rw[bk,Be]at R;have s4:Same H2 (upd H3 p (.tup (Z.map V.ref))):=s3.trans (B5 hp);have ba:PtsAt K (upd H3 p (.tup (Z.map V.ref))) p (J.map RP.full):=⟨Z,SqT.of A1,AN2 R (AI6 (B5 hp))⟩;generalize (upd H3 p (.tup (Z.map V.ref)))=H4 at s4 ba ⊢;obtain⟨L,al⟩:=BU.mp (hF _ az J ab);have ef:v7 J=x1:=by rw[e3];rfl
    have eW:Ap1 g n J=L.map fun y=>(n,y,J.map RP.full):=by unfold Ap1;rw[al];rfl
    have bo:ai[0]?=some (.str x1):=by
     subst e3;cases ak with
     | @cons v0 _ vr _ h0 _=>have h0:v0=.str x1:=h0;rw[h0];rfl
    rw[ef]at al;have bt:(y1 g (g.take i)).length+(x8 g n (I.take j)).length+L.length<=1000:=by have a1:=A30 (fun p:Str×List (List RP)=>x8 g p.1 p.2) g (i+1);rw[j8 _ af,AO]at a1;have a2:=A30 (Ap1 g n) I (j+1);rw[j8 _ ah,AO,eW,AJ]at a2;have a1:(y1 g (g.take i)).length+(x8 g n I).length<=(y1 g g).length:=a1;have a2:(x8 g n (I.take j)).length+L.length<=(x8 g n I).length:=a2;omega
    refine⟨_,rfl,c,_,_,_,rfl,rfl,aj _,E9 (j:=0) bo,x1,1000,L,rfl,al,fun H5 l s5 bb=>⟨l,rfl,⟨_,SqL.of bb⟩,Y5 (K:=K) (a:=l) (xs:=L.map V.str)
     (fun m O B=>∃(C G:Option V) (r:List (List Key×V)),O=[some (.ref d),some (.str n),some (.ref c),some (.ref p),C,G]/\Same H B/\B l=some (.lst (L.map V.str))/\PtsAt K B p (J.map RP.full)/\B d=some (.dT r)/\WT K B r (y1 g (g.take i)++x8 g n (I.take j)++(L.take m).map fun y=>(n,y,J.map RP.full)))
     ⟨C,G,r,rfl,s2.trans (s4.trans s5),bb,ba.keep (AI6 s5),s5 _ _ (s4 _ _ ag),?_⟩ ?_ ?_ ?_⟩⟩
    ·rw[show(L.take 0).map (fun y=>((n,y,J.map RP.full):Put))=[]from rfl,AE];exact Y.keep (AI6 (s4.trans s5))
    ·rintro m O B _ ⟨C,G,r,rfl,s6,M,_⟩;exact SqL.of M
    ·rintro m y O H6 hm ⟨C,G,r,rfl,s6,M,bc,S,W⟩;obtain⟨tk,bp,rfl⟩:=AA9 hm;refine⟨_,rfl,_,rfl,_,rfl,_,rfl,(by show 2<=sizeLine;omega),fun t ht=>?_⟩;have nd:d≠t:=A7 S ht;have nl:l≠t:=A7 M ht;have bq:l≠d:=E8 M S (by intro z;cases z);have br:=W.keep (AI6 (B5 (o:=.tup [V.str n,V.str tk]) ht));have bd:=bc.keep (AI6 (B5 (o:=.tup [V.str n,V.str tk]) ht));have am:(upd H6 t (.tup [V.str n,V.str tk])) d=some (.dT r):=by rw[A4 nd];exact S
     refine⟨d,_,rfl,DPut.t (k:=[Sum.inr n,Sum.inr tk]) am A1 ?_,?_⟩
     ·have:=W.1;have e9:(L.take m).length<=L.length:=by rw[Br];omega
      simp only[AO,AJ]at this;omega
     ·refine⟨_,_,_,rfl,fun b' o e=>?_,?_,bd.keep (BE9 am),A1,?_⟩
      ·rw[A4 (A7 e hd)];exact B5 ht _ _ (s6 _ _ e)
      ·rw[A4 bq,A4 nl];exact M
      ·have:=(br.put (x:=n) (y:=tk) bd).keep (BE9 (o:=.dT (AQ4 r [Sum.inr n,Sum.inr tk] (.ref p))) am);rw[J9 bp,AV,←AF];exact this
    ·rintro O H6 ⟨C,G,r,rfl,s6,M,bc,S,W⟩;refine⟨_,_,_,_,r,rfl,s6,S,?_⟩;rw[AJ,Be]at W;rw[show x8 g n (I.take (j+1))=x8 g n (I.take j)++Ap1 g n J from j8 _ ah,eW,←AF];exact W
  ·rintro O H2 ⟨v2,v3,C,G,r,rfl,s2,ag,Y⟩;refine⟨_,_,_,_,_,r,rfl,s2,ag,?_⟩;rw[show y1 g (g.take (i+1))=y1 g (g.take i)++x8 g n I from j8 _ af];rw[bj,Be]at Y;exact Y
 ·rintro O H1 ⟨v1,v2,v3,C,G,r,rfl,s1,ad,X⟩;refine⟨_,rfl,h H1 d r s1 hd ad ?_⟩;rw[AJ,ar,Be]at X;exact X
end
noncomputable def gr:AH1:=[
 ("DECL",[[.s "const",.s "name",.s "=",.s "E",.s ";"],[.s "table",.s "name",.s ":",.s "CODE",.s "=",.s "[",.s "E",.t "more" "E" 65535,.s "]",.s ";"],[.s "fn",.s "name",.s "(",.s "name",.t "more" "name" 255,.s ")",.s "=",.s "E",.s ";"],[.s "node",.s "name",.s "(",.s "PORT",.t "more" "PORT" 255,.s ")",.s "->",.s "(",.s "PORT",.t "more" "PORT" 255,.s ")",.s "{",.t "many" "STATE" 256,.t "many" "DO" 256,.s "}"],[.s "graph",.s "name",.s "(",.s "END",.t "more" "END" 255,.s ")",.s "->",.s "(",.s "END",.t "more" "END" 255,.s ")",.s "{",.t "many" "WIRE" 256,.s "}"]]),
 ("CODE",[[.s "u8"],[.s "s8"],[.s "u16"],[.s "s16"],[.s "u32"],[.s "s32"],[.s "u64"],[.s "s64"]]),
 ("KIND",[[.s "CODE",.t "maybe" "INDEXES" 1]]),
 ("PORT",[[.s "name",.s ":",.s "KIND",.t "maybe" "DIVISOR" 1]]),
 ("END",[[.s "name",.s ":",.s "KIND",.s "at",.s "SIZE",.t "maybe" "DIVISOR" 1]]),
 ("DIVISOR",[[.s "/",.s "SIZE"]]),
 ("STATE",[[.s "state",.s "name",.s ":",.s "KIND",.s "=",.s "E",.s ";"]]),
 ("DO",[[.s "let",.s "name",.s "=",.s "E",.s ";"],[.s "name",.t "maybe" "INDEX" 1,.s "=",.s "E",.s ";"]]),
 ("WIRE",[[.s "name",.s "WIRE_NAMED"]]),
 ("WIRE_NAMED",[[.s ",",.s "name",.t "more" "name" 254,.s "=",.s "name",.s "WIRE_INPUTS"],[.s "=",.s "WIRE_SOURCE"]]),
 ("WIRE_SOURCE",[[.s "delay",.s "SIZE",.s "(",.s "E",.s ")",.s "(",.s "name",.s ")",.s ";"],[.s "name",.s "WIRE_TAKEN"]]),
 ("WIRE_TAKEN",[[.s "WIRE_INPUTS"],[.s ";"]]),
 ("WIRE_INPUTS",[[.s "(",.s "name",.t "more" "name" 255,.s ")",.s ";"]]),
 ("SIZE",[[.s "number"],[.s "name"],[.s "(",.s "E",.s ")"]]),
 ("E",[[.s "OR",.t "maybe" "CHOICE" 1],[.s "sum",.s "name",.s "<",.s "SIZE",.s ":",.s "E"],[.s "row",.s "name",.s "<",.s "SIZE",.s ":",.s "E"],[.s "sheet",.s "name",.s ",",.s "name",.s "<",.s "SIZE",.s ",",.s "SIZE",.s ":",.s "E"]]),
 ("CHOICE",[[.s "?",.s "E",.s ":",.s "E"]]),
 ("OR",[[.s "COMPARISON",.t "many" "JOINED" 1048576]]),
 ("JOINED",[[.s "||",.s "COMPARISON"],[.s "&&",.s "COMPARISON"]]),
 ("COMPARISON",[[.s "FORMULA",.t "maybe" "COMPARED" 1]]),
 ("COMPARED",[[.s "<",.s "FORMULA"],[.s "<=",.s "FORMULA"],[.s "==",.s "FORMULA"],[.s "!=",.s "FORMULA"],[.s ">",.s "FORMULA"],[.s ">=",.s "FORMULA"]]),
 ("FORMULA",[[.s "ONE",.t "many" "OPERATED" 1048576]]),
 ("OPERATED",[[.s "|",.s "ONE"],[.s "^",.s "ONE"],[.s "&",.s "ONE"],[.s "<<",.s "ONE"],[.s ">>",.s "ONE"],[.s "+",.s "ONE"],[.s "-",.s "ONE"],[.s "*",.s "ONE"],[.s "/",.s "ONE"],[.s "mod",.s "ONE"]]),
 ("ONE",[[.s "-",.s "ONE"],[.s "~",.s "ONE"],[.s "!",.s "ONE"],[.s "ATOM",.t "many" "BEHIND" 1048576]]),
 ("BEHIND",[[.s "INDEXES"],[.s "@",.s "SIZE"]]),
 ("INDEX",[[.s "[",.s "E",.s "]"]]),
 ("INDEXES",[[.s "[",.s "E",.t "maybe" "SECOND" 1,.s "]"]]),
 ("SECOND",[[.s ",",.s "E"]]),
 ("ATOM",[[.s "number"],[.s "name",.t "maybe" "CALLED" 1],[.s "(",.s "E",.s ")"],[.s "held",.s "CODE",.s "(",.s "E",.s ")"],[.s "wrapped",.s "CODE",.s "(",.s "E",.s ")"],[.s "round",.s "(",.s "E",.s ",",.s "E",.s ")"],[.s "abs",.s "(",.s "E",.s ")"],[.s "min",.s "(",.s "E",.s ",",.s "E",.s ")"],[.s "max",.s "(",.s "E",.s ",",.s "E",.s ")"]]),
 ("CALLED",[[.s "(",.s "E",.t "more" "E" 255,.s ")"]])
]
noncomputable def BL5:List (String×String×List (String×String×Int)):=[
 ("DECL","const",[("once","const",1),("once","name",1),("once","=",1),("once","E",1),("once",";",1)]),
 ("DECL","table",[("once","table",1),("once","name",1),("once",":",1),("once","CODE",1),("once","=",1),("once","[",1),("once","E",1),("more","E",65535),("once","]",1),("once",";",1)]),
 ("DECL","fn",[("once","fn",1),("once","name",1),("once","(",1),("once","name",1),("more","name",255),("once",")",1),("once","=",1),("once","E",1),("once",";",1)]),
 ("DECL","node",[("once","node",1),("once","name",1),("once","(",1),("once","PORT",1),("more","PORT",255),("once",")",1),("once","->",1),("once","(",1),("once","PORT",1),("more","PORT",255),("once",")",1),("once","{",1),("many","STATE",256),("many","DO",256),("once","}",1)]),
 ("DECL","graph",[("once","graph",1),("once","name",1),("once","(",1),("once","END",1),("more","END",255),("once",")",1),("once","->",1),("once","(",1),("once","END",1),("more","END",255),("once",")",1),("once","{",1),("many","WIRE",256),("once","}",1)]),
 ("CODE","u8",[("once","u8",1)]),
 ("CODE","s8",[("once","s8",1)]),
 ("CODE","u16",[("once","u16",1)]),
 ("CODE","s16",[("once","s16",1)]),
 ("CODE","u32",[("once","u32",1)]),
 ("CODE","s32",[("once","s32",1)]),
 ("CODE","u64",[("once","u64",1)]),
 ("CODE","s64",[("once","s64",1)]),
 ("KIND","s64",[("once","CODE",1),("maybe","INDEXES",1)]),
 ("KIND","u64",[("once","CODE",1),("maybe","INDEXES",1)]),
 ("KIND","s32",[("once","CODE",1),("maybe","INDEXES",1)]),
 ("KIND","u32",[("once","CODE",1),("maybe","INDEXES",1)]),
 ("KIND","s16",[("once","CODE",1),("maybe","INDEXES",1)]),
 ("KIND","u16",[("once","CODE",1),("maybe","INDEXES",1)]),
 ("KIND","s8",[("once","CODE",1),("maybe","INDEXES",1)]),
 ("KIND","u8",[("once","CODE",1),("maybe","INDEXES",1)]),
 ("PORT","name",[("once","name",1),("once",":",1),("once","KIND",1),("maybe","DIVISOR",1)]),
 ("END","name",[("once","name",1),("once",":",1),("once","KIND",1),("once","at",1),("once","SIZE",1),("maybe","DIVISOR",1)]),
 ("DIVISOR","/",[("once","/",1),("once","SIZE",1)]),
 ("STATE","state",[("once","state",1),("once","name",1),("once",":",1),("once","KIND",1),("once","=",1),("once","E",1),("once",";",1)]),
 ("DO","let",[("once","let",1),("once","name",1),("once","=",1),("once","E",1),("once",";",1)]),
 ("DO","name",[("once","name",1),("maybe","INDEX",1),("once","=",1),("once","E",1),("once",";",1)]),
 ("WIRE","name",[("once","name",1),("once","WIRE_NAMED",1)]),
 ("WIRE_NAMED",",",[("once",",",1),("once","name",1),("more","name",254),("once","=",1),("once","name",1),("once","WIRE_INPUTS",1)]),
 ("WIRE_NAMED","=",[("once","=",1),("once","WIRE_SOURCE",1)]),
 ("WIRE_SOURCE","delay",[("once","delay",1),("once","SIZE",1),("once","(",1),("once","E",1),("once",")",1),("once","(",1),("once","name",1),("once",")",1),("once",";",1)]),
 ("WIRE_SOURCE","name",[("once","name",1),("once","WIRE_TAKEN",1)]),
 ("WIRE_TAKEN","(",[("once","WIRE_INPUTS",1)]),
 ("WIRE_TAKEN",";",[("once",";",1)]),
 ("WIRE_INPUTS","(",[("once","(",1),("once","name",1),("more","name",255),("once",")",1),("once",";",1)]),
 ("SIZE","number",[("once","number",1)]),
 ("SIZE","name",[("once","name",1)]),
 ("SIZE","(",[("once","(",1),("once","E",1),("once",")",1)]),
 ("E","max",[("once","OR",1),("maybe","CHOICE",1)]),
 ("E","min",[("once","OR",1),("maybe","CHOICE",1)]),
 ("E","abs",[("once","OR",1),("maybe","CHOICE",1)]),
 ("E","round",[("once","OR",1),("maybe","CHOICE",1)]),
 ("E","wrapped",[("once","OR",1),("maybe","CHOICE",1)]),
 ("E","held",[("once","OR",1),("maybe","CHOICE",1)]),
 ("E","(",[("once","OR",1),("maybe","CHOICE",1)]),
 ("E","name",[("once","OR",1),("maybe","CHOICE",1)]),
 ("E","number",[("once","OR",1),("maybe","CHOICE",1)]),
 ("E","!",[("once","OR",1),("maybe","CHOICE",1)]),
 ("E","~",[("once","OR",1),("maybe","CHOICE",1)]),
 ("E","-",[("once","OR",1),("maybe","CHOICE",1)]),
 ("E","sum",[("once","sum",1),("once","name",1),("once","<",1),("once","SIZE",1),("once",":",1),("once","E",1)]),
 ("E","row",[("once","row",1),("once","name",1),("once","<",1),("once","SIZE",1),("once",":",1),("once","E",1)]),
 ("E","sheet",[("once","sheet",1),("once","name",1),("once",",",1),("once","name",1),("once","<",1),("once","SIZE",1),("once",",",1),("once","SIZE",1),("once",":",1),("once","E",1)]),
 ("CHOICE","?",[("once","?",1),("once","E",1),("once",":",1),("once","E",1)]),
 ("OR","max",[("once","COMPARISON",1),("many","JOINED",1048576)]),
 ("OR","min",[("once","COMPARISON",1),("many","JOINED",1048576)]),
 ("OR","abs",[("once","COMPARISON",1),("many","JOINED",1048576)]),
 ("OR","round",[("once","COMPARISON",1),("many","JOINED",1048576)]),
 ("OR","wrapped",[("once","COMPARISON",1),("many","JOINED",1048576)]),
 ("OR","held",[("once","COMPARISON",1),("many","JOINED",1048576)]),
 ("OR","(",[("once","COMPARISON",1),("many","JOINED",1048576)]),
 ("OR","name",[("once","COMPARISON",1),("many","JOINED",1048576)]),
 ("OR","number",[("once","COMPARISON",1),("many","JOINED",1048576)]),
 ("OR","!",[("once","COMPARISON",1),("many","JOINED",1048576)]),
 ("OR","~",[("once","COMPARISON",1),("many","JOINED",1048576)]),
 ("OR","-",[("once","COMPARISON",1),("many","JOINED",1048576)]),
 ("JOINED","||",[("once","||",1),("once","COMPARISON",1)]),
 ("JOINED","&&",[("once","&&",1),("once","COMPARISON",1)]),
 ("COMPARISON","max",[("once","FORMULA",1),("maybe","COMPARED",1)]),
 ("COMPARISON","min",[("once","FORMULA",1),("maybe","COMPARED",1)]),
 ("COMPARISON","abs",[("once","FORMULA",1),("maybe","COMPARED",1)]),
 ("COMPARISON","round",[("once","FORMULA",1),("maybe","COMPARED",1)]),
 ("COMPARISON","wrapped",[("once","FORMULA",1),("maybe","COMPARED",1)]),
 ("COMPARISON","held",[("once","FORMULA",1),("maybe","COMPARED",1)]),
 ("COMPARISON","(",[("once","FORMULA",1),("maybe","COMPARED",1)]),
 ("COMPARISON","name",[("once","FORMULA",1),("maybe","COMPARED",1)]),
 ("COMPARISON","number",[("once","FORMULA",1),("maybe","COMPARED",1)]),
 ("COMPARISON","!",[("once","FORMULA",1),("maybe","COMPARED",1)]),
 ("COMPARISON","~",[("once","FORMULA",1),("maybe","COMPARED",1)]),
 ("COMPARISON","-",[("once","FORMULA",1),("maybe","COMPARED",1)]),
 ("COMPARED","<",[("once","<",1),("once","FORMULA",1)]),
 ("COMPARED","<=",[("once","<=",1),("once","FORMULA",1)]),
 ("COMPARED","==",[("once","==",1),("once","FORMULA",1)]),
 ("COMPARED","!=",[("once","!=",1),("once","FORMULA",1)]),
 ("COMPARED",">",[("once",">",1),("once","FORMULA",1)]),
 ("COMPARED",">=",[("once",">=",1),("once","FORMULA",1)]),
 ("FORMULA","max",[("once","ONE",1),("many","OPERATED",1048576)]),
 ("FORMULA","min",[("once","ONE",1),("many","OPERATED",1048576)]),
 ("FORMULA","abs",[("once","ONE",1),("many","OPERATED",1048576)]),
 ("FORMULA","round",[("once","ONE",1),("many","OPERATED",1048576)]),
 ("FORMULA","wrapped",[("once","ONE",1),("many","OPERATED",1048576)]),
 ("FORMULA","held",[("once","ONE",1),("many","OPERATED",1048576)]),
 ("FORMULA","(",[("once","ONE",1),("many","OPERATED",1048576)]),
 ("FORMULA","name",[("once","ONE",1),("many","OPERATED",1048576)]),
 ("FORMULA","number",[("once","ONE",1),("many","OPERATED",1048576)]),
 ("FORMULA","!",[("once","ONE",1),("many","OPERATED",1048576)]),
 ("FORMULA","~",[("once","ONE",1),("many","OPERATED",1048576)]),
 ("FORMULA","-",[("once","ONE",1),("many","OPERATED",1048576)]),
 ("OPERATED","|",[("once","|",1),("once","ONE",1)]),
 ("OPERATED","^",[("once","^",1),("once","ONE",1)]),
 ("OPERATED","&",[("once","&",1),("once","ONE",1)]),
 ("OPERATED","<<",[("once","<<",1),("once","ONE",1)]),
 ("OPERATED",">>",[("once",">>",1),("once","ONE",1)]),
 ("OPERATED","+",[("once","+",1),("once","ONE",1)]),
 ("OPERATED","-",[("once","-",1),("once","ONE",1)]),
 ("OPERATED","*",[("once","*",1),("once","ONE",1)]),
 ("OPERATED","/",[("once","/",1),("once","ONE",1)]),
 ("OPERATED","mod",[("once","mod",1),("once","ONE",1)]),
 ("ONE","-",[("once","-",1),("once","ONE",1)]),
 ("ONE","~",[("once","~",1),("once","ONE",1)]),
 ("ONE","!",[("once","!",1),("once","ONE",1)]),
 ("ONE","max",[("once","ATOM",1),("many","BEHIND",1048576)]),
 ("ONE","min",[("once","ATOM",1),("many","BEHIND",1048576)]),
 ("ONE","abs",[("once","ATOM",1),("many","BEHIND",1048576)]),
 ("ONE","round",[("once","ATOM",1),("many","BEHIND",1048576)]),
 ("ONE","wrapped",[("once","ATOM",1),("many","BEHIND",1048576)]),
 ("ONE","held",[("once","ATOM",1),("many","BEHIND",1048576)]),
 ("ONE","(",[("once","ATOM",1),("many","BEHIND",1048576)]),
 ("ONE","name",[("once","ATOM",1),("many","BEHIND",1048576)]),
 ("ONE","number",[("once","ATOM",1),("many","BEHIND",1048576)]),
 ("BEHIND","[",[("once","INDEXES",1)]),
 ("BEHIND","@",[("once","@",1),("once","SIZE",1)]),
 ("INDEX","[",[("once","[",1),("once","E",1),("once","]",1)]),
 ("INDEXES","[",[("once","[",1),("once","E",1),("maybe","SECOND",1),("once","]",1)]),
 ("SECOND",",",[("once",",",1),("once","E",1)]),
 ("ATOM","number",[("once","number",1)]),
 ("ATOM","name",[("once","name",1),("maybe","CALLED",1)]),
 ("ATOM","(",[("once","(",1),("once","E",1),("once",")",1)]),
 ("ATOM","held",[("once","held",1),("once","CODE",1),("once","(",1),("once","E",1),("once",")",1)]),
 ("ATOM","wrapped",[("once","wrapped",1),("once","CODE",1),("once","(",1),("once","E",1),("once",")",1)]),
 ("ATOM","round",[("once","round",1),("once","(",1),("once","E",1),("once",",",1),("once","E",1),("once",")",1)]),
 ("ATOM","abs",[("once","abs",1),("once","(",1),("once","E",1),("once",")",1)]),
 ("ATOM","min",[("once","min",1),("once","(",1),("once","E",1),("once",",",1),("once","E",1),("once",")",1)]),
 ("ATOM","max",[("once","max",1),("once","(",1),("once","E",1),("once",",",1),("once","E",1),("once",")",1)]),
 ("CALLED","(",[("once","(",1),("once","E",1),("more","E",255),("once",")",1)])
]
noncomputable def AK3:List Put:=BL5.map fun q=>(Str.ofString q.1,Str.ofString q.2.1,q.2.2.map fun p=>(Str.ofString p.1,Str.ofString p.2.1,p.2.2))
noncomputable def Bt8:List Str:=(["abs","at","const","delay","fn","graph","held","let","max","min","node","round","row","sheet","state","sum","table","wrapped","u8","s8","u16","s16","u32","s32","u64","s64"]:List String).map Str.ofString
noncomputable def AX3:List Str:=(["->","<<",">>","<=",">=","==","!=","&&","||","+","-","*","/","mod","&","|","^","~","!","<",">","=","?",":",";",",","@","(",")","[","]","{","}"]:List String).map Str.ofString
open Rd
noncomputable def nameNt:Nt->Str
 |.DECL=>"DECL" |.CODE=>"CODE" |.KIND=>"KIND" |.PORT=>"PORT" |.END=>"END" |.DIVISOR=>"DIVISOR" |.STATE=>"STATE" |.DO=>"DO" |.WIRE=>"WIRE" |.WIRE_NAMED=>"WIRE_NAMED" |.WIRE_SOURCE=>"WIRE_SOURCE" |.WIRE_TAKEN=>"WIRE_TAKEN" |.WIRE_INPUTS=>"WIRE_INPUTS" |.SIZE=>"SIZE" |.E=>"E" |.CHOICE=>"CHOICE" |.OR=>"OR" |.JOINED=>"JOINED" |.COMPARISON=>"COMPARISON" |.COMPARED=>"COMPARED" |.FORMULA=>"FORMULA" |.OPERATED=>"OPERATED" |.ONE=>"ONE" |.BEHIND=>"BEHIND" |.INDEX=>"INDEX" |.INDEXES=>"INDEXES" |.SECOND=>"SECOND" |.ATOM=>"ATOM" |.CALLED=>"CALLED"
noncomputable def B1:Sy->Str
 |.name=>"name"
 |.number=>"number"
 |.kept k=>Bt8.getD k ""
 |.sign k=>AX3.getD k ""
 |.nothing=>"nothing"
 |.finish=>"finish"
noncomputable def K5:Sb->Str
 |.t y=>B1 y
 |.n x=>nameNt x
noncomputable def A35:Fm->Str
 |.once=>"once"
 |.maybe=>"maybe"
 |.many=>"many"
 |.more=>"more"
 |.fin=>"end"
noncomputable def BE7 (p:Pt):PS3:=(A35 p.fm,K5 p.sb,(p.room:Int))
theorem At1:y1 gr gr=AK3:=by decide+kernel
theorem Bf6:∀x∈Ai6,∀y∈J5,Al8 AK3 (nameNt x) (B1 y)=(P3 x y).map (·.map BE7):=by decide+kernel
theorem Bp4:∀q∈AK3,∀z∈J5,q.1≠B1 z:=by decide+kernel
theorem Aw7 (h:∀q∈puts,q.1≠x):Al8 puts x y=none:=by
 unfold Al8;have:∀a:Option (List PS3),puts.foldl (fun a q=>if q.1=x/\q.2.1=y then some q.2.2 else a) a=a:=by
  induction puts with
  |nil=>intro a;rfl
  |cons q r b=>intro a;rw[CB,AD (fun z=>h q (AG ..) z.1)];exact b (fun c d=>h c (AC _ d)) a
 exact this none
theorem Bu0 (hz:z∈J5):Al8 AK3 (B1 z) (B1 y)=none:=Aw7 fun q a=>Bp4 q a z hz
theorem BI3:∀z∈J5,∀y∈J5,decide (B1 z=B1 y)=decide (z=y):=by decide+kernel
theorem Bg7:∀x∈Ai6,∀y∈J5,nameNt x≠B1 y:=by decide+kernel
theorem Bd5 (c:Vb b)(a:y∈J5):(decide (K5 b=B1 y)||(Al8 AK3 (K5 b) (B1 y)).isSome)=B8 b y:=by
 cases b with
 |t z=>show(decide (B1 z=B1 y)||(Al8 AK3 (B1 z) (B1 y)).isSome)=decide (z=y);rw[BI3 z c y a,Bu0 c];simp
 |n x=>show(decide (nameNt x=B1 y)||(Al8 AK3 (nameNt x) (B1 y)).isSome)=(P3 x y).isSome;rw[AX (Bg7 x (P4 x) y a),Bf6 x (P4 x) y a,Co];rfl
noncomputable def AG0:List Str:=(["E","ONE","ATOM","SIZE"]:List String).map Str.ofString
theorem BI0:∀x∈Ai6,inV (.str (nameNt x)) (AG0.map V.str)=c9 (.n x):=by decide+kernel
theorem Bi7:∀y∈J5,inV (.str (B1 y)) (AG0.map V.str)=false:=by decide+kernel
theorem BV0 (a:Vb b):inV (.str (K5 b)) (AG0.map V.str)=c9 b:=by
 cases b with
 |t y=>exact Bi7 y a
 |n x=>exact BI0 x (P4 x)
noncomputable def Am4:List Str:=(["DECL","PORT","END","STATE","DO","WIRE","SIZE","E","OR","ONE","ATOM","BEHIND"]:List String).map Str.ofString
theorem Bh0:∀x∈Ai6,inV (.str (nameNt x)) (Am4.map V.str)=V1 x:=by decide+kernel
theorem BE0:AM8 gr:=by
 unfold AM8;have h:(gr.all fun p=>p.2.all fun a=>decide (a.length<=1000)&&(match a with |RP.s _::_=>true |_=>false))=true:=by decide+kernel
 intro p e a b;have c:=BO.mp (BO.mp h p e) a b;rw[Ar,BC]at c;refine⟨c.1,?_⟩;have d:=c.2;split at d
 ·rename_i x r;exact⟨x,r,rfl⟩
 ·cases d
theorem Bu4:Bp7 gr:=by
 unfold Bp7;have h:(gr.all fun p=>p.2.all fun a=>(ft gr 1000 [v7 a] []).isSome)=true:=by decide+kernel
 exact fun p c a b=>BO.mp (BO.mp h p c) a b
theorem Bi9:(gr.map (·.1)).Nodup:=by decide+kernel
theorem Bm3:(y1 gr gr).length<=1000:=by rw[At1];decide+kernel
noncomputable def L7:Kd->Str
 |.PROGRAM=>"PROGRAM" |.n x=>nameNt x |.OPERATOR=>"OPERATOR" |.POST=>"POST" |.SUM=>"SUM" |.CHOICE=>"CHOICE" |.SIGNED=>"SIGNED"
structure NRc where
 il:AI
 k:Str
 i:Int
 j:Int
 p:Bool
 s:Int
 l:Int
structure NF (fs:List (Str×V))(r:NRc):Prop where
 n:fs.length<=100
 k:fs.lookup ("kind":Str)=some (.str r.k)
 i:fs.lookup ("first":Str)=some (.int r.i)
 j:fs.lookup ("behind":Str)=some (.int r.j)
 il:fs.lookup ("inner":Str)=some (.ref r.il)
 p:fs.lookup ("is_pair":Str)=some (.bl r.p)
 s:fs.lookup ("strength":Str)=some (.int r.s)
 l:fs.lookup ("least":Str)=some (.int r.l)
def NO (C:AI)(H:Hp)(a:AI)(r:NRc):Prop:=∃c b,H a=some (.ins C c b)/\NF b r
theorem NO.keep {C:AI}{H H':Hp}{a:AI}{r:NRc}(h:NO C H a r)(k:∀o,H a=some o->H' a=some o):NO C H' a r:=let ⟨b,c,e,q⟩:=h;⟨b,c,k _ e,q⟩
theorem Q1:∀{fs:List (Str×V)},(fs.lookup f).isSome=true->(C3 f v fs).length=fs.length
 |[],h=>by cases h
 |(g,x)::r,h=>by
  unfold C3;by_cases c:g=f
  ·rw[AL c];rfl
  ·rw[AD c,AZ,AZ];rw[Q1];rw[Bv]at h;have:(f==g)=false:=BW.mpr fun q=>c q.symm;rw[this]at h;exact h
theorem C0 (n:¬f=g)(h:fs.lookup f=o):(C3 g v fs).lookup f=o:=by rw[D8,AD n];exact h
theorem O0:(C3 f v fs).lookup f=some v:=by rw[D8,AL rfl]
section
variable {fs:List (Str×V)} {r:NRc}
theorem NF.setK (h:NF fs r)(v:Str):NF (C3 "kind" (.str v) fs) {r with k:=v}:=⟨by rw[Q1 (by rw[h.k];rfl)];exact h.n,O0,C0 (by decide) h.i,C0 (by decide) h.j,C0 (by decide) h.il,C0 (by decide) h.p,C0 (by decide) h.s,C0 (by decide) h.l⟩
theorem NF.setJ (h:NF fs r)(v:Int):NF (C3 "behind" (.int v) fs) {r with j:=v}:=⟨by rw[Q1 (by rw[h.j];rfl)];exact h.n,C0 (by decide) h.k,C0 (by decide) h.i,O0,C0 (by decide) h.il,C0 (by decide) h.p,C0 (by decide) h.s,C0 (by decide) h.l⟩
theorem NF.setI (h:NF fs r)(v:AI):NF (C3 "inner" (.ref v) fs) {r with il:=v}:=⟨by rw[Q1 (by rw[h.il];rfl)];exact h.n,C0 (by decide) h.k,C0 (by decide) h.i,C0 (by decide) h.j,O0,C0 (by decide) h.p,C0 (by decide) h.s,C0 (by decide) h.l⟩
theorem NF.setP (h:NF fs r)(v:Bool):NF (C3 "is_pair" (.bl v) fs) {r with p:=v}:=⟨by rw[Q1 (by rw[h.p];rfl)];exact h.n,C0 (by decide) h.k,C0 (by decide) h.i,C0 (by decide) h.j,C0 (by decide) h.il,O0,C0 (by decide) h.s,C0 (by decide) h.l⟩
theorem NF.setS (h:NF fs r)(v:Int):NF (C3 "strength" (.int v) fs) {r with s:=v}:=⟨by rw[Q1 (by rw[h.s];rfl)];exact h.n,C0 (by decide) h.k,C0 (by decide) h.i,C0 (by decide) h.j,C0 (by decide) h.il,C0 (by decide) h.p,O0,C0 (by decide) h.l⟩
theorem NF.setL (h:NF fs r)(v:Int):NF (C3 "least" (.int v) fs) {r with l:=v}:=⟨by rw[Q1 (by rw[h.l];rfl)];exact h.n,C0 (by decide) h.k,C0 (by decide) h.i,C0 (by decide) h.j,C0 (by decide) h.il,C0 (by decide) h.p,C0 (by decide) h.s,O0⟩
end
structure NdC (K:AA)(mg:Str->Option AH)(C:AI):Prop where
 F:∃fI fdI,Mk K C fI/\Fun K "__init__" "Node.__init__" Ay0 fI fdI/\Binds K fdI ["self","kind","first"] []
 cl:Cls K C
 nk:NoAttr K C "kind"
 ni:NoAttr K C "first"
 nj:NoAttr K C "behind"
 nc:NoAttr K C "inner"
 np:NoAttr K C "is_pair"
 ns:NoAttr K C "strength"
 nl:NoAttr K C "least"
 mgC:mg "Node"=some (.ref C)
 sumS:GI mg "SUM_STRENGTH" 0
 choS:GI mg "CHOICE_STRENGTH" 1
 cmpS:GI mg "COMPARISON_STRENGTH" 4
 sgnS:GI mg "SIGNED_STRENGTH" 11
 pstS:GI mg "POST_STRENGTH" 12
 wrdS:GI mg "WORD_STRENGTH" 13
inductive A21 (C:AI) (vs:List V) (H:Hp) (Q:VK) (E:XK):Prop
 |mk:∀(p dx:AI) (k:Str) (i:Int),vs=[.ref p,.str k,.int i]->H p=some (.ins C dx [])->(∀(H':Hp) (il:AI),NO C H' p ⟨il,k,i,i,false,13,0⟩->H' il=some (.lst [])->H il=none->(∀b o,H b=some o->b≠p->H' b=some o)->Q .non H')->A21 C vs H Q E
section
variable {P:Af} {w:Ap} {K:AA} {mg:Str->Option AH} {base:BR}
theorem BZ0:B7 ["self","kind","first"] ["self","kind","first"] (A8 Ay0):=fsc
theorem BU8 (X:NdC K mg C)(F:Fun K "__init__" "Node.__init__" Ay0 fI fdI):D6 P w K mg base CX0 1 fI fdI ["self","kind","first"] (A21 C):=by
 refine F.oK BZ0 fun m A j s H t Q E u h=>?_;obtain⟨p,c,k,i,rfl,n,h⟩:=h;refine⟨_,A2 (D0 (pv 0) (pv 1) rfl) (A2 (D0 (pv 0) (pv 2) rfl) (A2 (D0 (pv 0) (pv 2) rfl) (A2 (D0 (pv 0) (M7 A6) rfl) (A2 (D0 (pv 0) AP9 rfl) (A2 (D0 (pv 0) (F2 X.wrdS) rfl) (A3 (D0 (pv 0) (F2 X.sumS) rfl))))))),?_⟩;refine⟨_,rfl,_,rfl,p,C,c,[],rfl,n,X.cl,X.nk,(by show 0<1000;decide),?_⟩;refine⟨_,rfl,_,rfl,p,C,c,_,rfl,A1,X.cl,X.ni,(by show 1<1000;decide),?_⟩;refine⟨_,rfl,_,rfl,p,C,c,_,rfl,A1,X.cl,X.nj,(by show 2<1000;decide),?_⟩;rw[L5,L5];refine⟨Ag _,fun g a=>?_⟩;have d:p≠g:=fun q=>by rw[q,A1]at a;cases a
 have f:H g=none:=by rw[A4 (BD d)]at a;exact a
 refine⟨_,rfl,p,C,c,_,rfl,(by rw[A4 d,A1]),X.cl,X.nc,(by show 3<1000;decide),?_⟩;refine⟨_,rfl,p,C,c,_,rfl,A1,X.cl,X.np,(by show 4<1000;decide),?_⟩;refine⟨_,rfl,p,C,c,_,rfl,A1,X.cl,X.ns,(by show 5<1000;decide),?_⟩;refine⟨_,rfl,p,C,c,_,rfl,A1,X.cl,X.nl,(by show 6<1000;decide),?_⟩;rw[L5,L5,L5];refine h _ g ⟨c,_,A1,⟨by show 7<=100;decide,?_,?_,?_,?_,?_,?_,O0⟩⟩ ?_ f fun b o e l=>?_
 ·exact C0 (by decide) (C0 (by decide) (C0 (by decide) (C0 (by decide) (C0 (by decide) (C0 (by decide) O0)))))
 ·exact C0 (by decide) (C0 (by decide) (C0 (by decide) (C0 (by decide) (C0 (by decide) O0))))
 ·exact C0 (by decide) (C0 (by decide) (C0 (by decide) (C0 (by decide) O0)))
 ·exact C0 (by decide) (C0 (by decide) (C0 (by decide) O0))
 ·exact C0 (by decide) (C0 (by decide) O0)
 ·exact C0 (by decide) O0
 ·rw[A4 (BD d),A1]
 ·have r:b≠g:=fun q=>by rw[q,f]at e;cases e
  rw[A4 l,A4 r,A4 l];exact e
theorem Bs6 (O:NdC X.K X.mg C)(M:Mk X.K C fI)(F:Fun X.K "__init__" "Node.__init__" Ay0 fI fdI)(b:Binds X.K fdI ["self","kind","first"] [])(c:Room 2 X.A)(d:PA X (e::es) t)(f:Gl X "Node":=by rfl)
  (g:starEach (e::es) X.env=(false,eval e X.env)::starEach es X.env:=by rfl) (a:(backTo pos (starEach es X.env)).any (·.1)=false:=by rfl):PE X (.Call (.Name "Node" npos) (e::es) [] pos) (Am9 C (A21 C) [] E0 t):=
 AL5 M (BU8 O F) c f O.mgC b .nil Ak2 d (by decide) g a
end
inductive LT where
 |mk (a il:AI) (k:Kd) (i j:Nat) (p:Bool) (s l:Nat) (c:List LT)
namespace LT
noncomputable def a:LT->AI |mk a _ _ _ _ _ _ _ _=>a
noncomputable def il:LT->AI |mk _ il _ _ _ _ _ _ _=>il
noncomputable def k:LT->Kd |mk _ _ k _ _ _ _ _ _=>k
noncomputable def i:LT->Nat |mk _ _ _ i _ _ _ _ _=>i
noncomputable def j:LT->Nat |mk _ _ _ _ j _ _ _ _=>j
noncomputable def s:LT->Nat |mk _ _ _ _ _ _ s _ _=>s
noncomputable def c:LT->List LT |mk _ _ _ _ _ _ _ _ c=>c
noncomputable def rc:LT->NRc |mk _ a k i j p s l _=>⟨a,L7 k,i,j,p,s,l⟩
noncomputable def setLe:LT->Nat->LT |mk a b k i j p s _ c,l=>mk a b k i j p s l c
end LT
mutual
noncomputable def er:LT->Nd
 |.mk _ _ k i j p s l c=>.mk k i j p s l (ers c)
noncomputable def ers:List LT->List Nd
 |[]=>[]
 |t::r=>er t::ers r
end
mutual
noncomputable def fp:LT->List AI
 |.mk a b _ _ _ _ _ _ c=>a::b::fps c
noncomputable def fps:List LT->List AI
 |[]=>[]
 |t::r=>fp t++fps r
end
noncomputable def B2 (c:List LT):List V:=c.map fun t=>.ref t.a
mutual
noncomputable def AtT (C:AI)(H:Hp):LT->Prop
 |.mk a b k i j p s l c=>NO C H a ⟨b,L7 k,i,j,p,s,l⟩/\H b=some (.lst (B2 c))/\AtL C H c
noncomputable def AtL (C:AI)(H:Hp):List LT->Prop
 |[]=>True
 |t::r=>AtT C H t/\AtL C H r
end
theorem A27:∀c:List LT,ers c=c.map er
 |[]=>by unfold ers;rfl
 |t::r=>by unfold ers;rw[A27 r];rfl
theorem V9:er (.mk a il k i j p s l c)=.mk k i j p s l (c.map er):=by
 conv=>lhs;unfold er
 rw[A27]
theorem F6:fp (.mk a il k i j p s l c)=a::il::fps c:=by conv=>lhs;unfold fp
theorem B3:fps (t::r)=fp t++fps r:=by conv=>lhs;unfold fps
theorem F4:fps []=[]:=by unfold fps;rfl
theorem T4:∀(l m:List LT),fps (l++m)=fps l++fps m
 |[],m=>by rw[F4];rfl
 |t::r,m=>by show fps (t::(r++m))=_;rw[B3,B3,T4 r m,AF]
theorem W6:∀{c:List LT} {b:AI},b∈fps c↔∃t∈c,b∈fp t
 |[],b=>by rw[F4];simp
 |t::r,b=>by rw[B3,AY,W6 (c:=r)];simp
theorem L0:AtT C H (.mk a il k i j p s l c)↔NO C H a ⟨il,L7 k,i,j,p,s,l⟩/\H il=some (.lst (B2 c))/\AtL C H c:=by conv=>lhs;unfold AtT
theorem E5:∀{c:List LT},AtL C H c↔∀t∈c,AtT C H t
 |[]=>by unfold AtL;simp
 |t::r=>by
  have:AtL C H (t::r)↔AtT C H t/\AtL C H r:=by conv=>lhs;unfold AtL
  rw[this,E5 (c:=r)];simp
mutual
theorem AtT.keep {C:AI}{H H':Hp}:∀(t:LT),AtT C H t->(∀b∈fp t,∀o,H b=some o->H' b=some o)->AtT C H' t
 |.mk a d k i j p s l c,h,q=>by rw[L0]at h ⊢;rw[F6]at q;exact⟨h.1.keep (q a (by simp)),q d (by simp) _ h.2.1,AtL.keep c h.2.2 fun b e=>q b (by simp[e])⟩
theorem AtL.keep {C:AI}{H H':Hp}:∀(c:List LT),AtL C H c->(∀b∈fps c,∀o,H b=some o->H' b=some o)->AtL C H' c
 |[],_,_=>by unfold AtL;trivial
 |t::r,h,q=>by unfold AtL at h ⊢;rw[B3]at q;exact⟨AtT.keep t h.1 fun b a=>q b (AU _ a),AtL.keep r h.2 fun b a=>q b (AQ _ a)⟩
end
mutual
theorem AtT.ex:∀(t:LT),AtT C H t->∀b∈fp t,∃o,H b=some o
 |.mk a f k i j p s l c,h,b,d=>by
  rw[L0]at h;rw[F6]at d;rcases AK.mp d with rfl |d
  ·obtain⟨g,m,e,_⟩:=h.1;exact⟨_,e⟩
  ·rcases AK.mp d with rfl |d
   ·exact⟨_,h.2.1⟩
   ·exact AtL.ex c h.2.2 b d
theorem AtL.ex:∀(c:List LT),AtL C H c->∀b∈fps c,∃o,H b=some o
 |[],_,b,a=>by rw[F4]at a;cases a
 |t::r,h,b,a=>by
  unfold AtL at h;rw[B3]at a;rcases AY.mp a with a |a
  ·exact AtT.ex t h.1 b a
  ·exact AtL.ex r h.2 b a
end
theorem A95 (t:LT):(er t).k=t.k/\(er t).i=t.i/\(er t).j=t.j/\(er t).st=t.s:=by obtain⟨a,b,k,i,j,p,s,l,c⟩:=t;rw[V9];exact⟨rfl,rfl,rfl,rfl⟩
theorem BC5 (t:LT)(v:Nat):er (t.setLe v)=(er t).setLe v:=by obtain⟨a,b,k,i,j,p,s,l,c⟩:=t;show er (.mk a b k i j p s v c)=_;rw[V9,V9];rfl
theorem AS3 (t:LT)(v:Nat):fp (t.setLe v)=fp t:=by obtain⟨a,b,k,i,j,p,s,l,c⟩:=t;show fp (.mk a b k i j p s v c)=_;rw[F6,F6]
theorem BH8 (t:LT)(v:Nat):(t.setLe v).a=t.a:=by obtain⟨a,b,k,i,j,p,s,l,c⟩:=t;rfl
theorem AK9 (t:LT):t.rc.i=(t.i:Nat)/\t.rc.j=(t.j:Nat)/\t.rc.s=(t.s:Nat)/\t.rc.k=L7 t.k/\t.rc.il=t.il:=by obtain⟨a,b,k,i,j,p,s,l,c⟩:=t;exact⟨rfl,rfl,rfl,rfl,rfl⟩
theorem BX1 (t:LT)(v:Nat):(t.setLe v).i=t.i/\(t.setLe v).j=t.j/\(t.setLe v).s=t.s/\(t.setLe v).c=t.c:=by obtain⟨a,b,k,i,j,p,s,l,c⟩:=t;exact⟨rfl,rfl,rfl,rfl⟩
theorem F7 (t:LT):t.a∈fp t:=by obtain⟨a,b,k,i,j,p,s,l,c⟩:=t;rw[F6];exact AG ..
theorem AtT.no (h:AtT C H t):NO C H t.a t.rc:=by obtain⟨a,b,k,i,j,p,s,l,c⟩:=t;exact(L0.mp h).1
theorem AtT.setLe (h:AtT C H t)(d:(fp t).Nodup)(n:H t.a=some (.ins C dx fs))(g:NF fs t.rc)(v:Nat):AtT C (upd H t.a (.ins C dx (C3 "least" (.int (v:Nat)) fs))) (t.setLe v):=by
 obtain⟨a,f,k,i,j,p,s,l,c⟩:=t;rw[L0]at h;rw[F6,Am]at d;show AtT C _ (.mk a f k i j p s v c);refine L0.mpr ⟨⟨dx,_,A1,g.setL _⟩,?_,AtL.keep c h.2.2 fun b m o e=>?_⟩
 ·have:f≠a:=fun q=>d.1 (by rw[q];exact AG ..);show(upd H a _) f=_;rw[A4 this];exact h.2.1
 ·have:b≠a:=fun q=>d.1 (by rw[←q];exact AC _ m);show(upd H a _) b=_;rw[A4 this];exact e
inductive l9 (C:AI) (vs:List V) (H:Hp) (Q:VK) (E:XK):Prop
 |mk:∀(k:Str) (b:AI) (j s:Int) (x:AI) (xs:List V) (r:NRc),vs=[.str k,.ref b,.int j,.int s]->H b=some (.lst (.ref x::xs))->NO C H x r->(∀(H':Hp) (a:AI),H a=none->NO C H' a ⟨b,k,r.i,j,false,s,0⟩->Same H H'->Q (.ref a) H')->l9 C vs H Q E
inductive Au3 (C:AI) (vs:List V) (H:Hp) (Q:VK) (E:XK):Prop
 |mk:∀(ol tl:AI) (O:List LT) (l r:LT) (S:List Nat) (s:Nat),vs=[.ref ol,.ref tl]->H ol=some (.lst (B2 (O++[l,r])))->H tl=some (.lst ((S++[s]).map fun n=>.int (n:Nat)))->AtT C H l->AtT C H r->(fp l++fp r).Nodup->ol∉fp l++fp r->tl∉fp l++fp r->ol≠tl->O.length<=200000->s<=100->(∀(H':Hp) (n:LT) (a b:AI),H' ol=some (.lst (B2 (O++[n])))->H' tl=some (.lst (S.map fun n=>.int (n:Nat)))->AtT C H' n->er n=mkOp s (er l) (er r)->fp n=a::b::(fp l++fp r)->H a=none->H b=none->a≠b->(∀c o,c≠ol->c≠tl->c∉fp l++fp r->H c=some o->H' c=some o)->Q .non H')->Au3 C vs H Q E
section
variable {P:Af} {w:Ap} {K:AA} {mg:Str->Option AH} {base:BR}
theorem Ae8:B7 ["kind","inner","behind","strength","node"] ["kind","inner","behind","strength"] (A8 K2):=fsc
theorem AS5 (F:Fun K "node_around" "node_around" K2 f fd)(X:NdC K mg C):D6 P w K mg base CX0 3 f fd ["kind","inner","behind","strength"] (l9 C):=by
 obtain⟨Y,y,M,z,B⟩:=X.F;refine F.oK Ae8 fun D A p s H Z Q E G h=>?_;obtain⟨k,b,j,s,x,xs,r,rfl,I,⟨J,L,N,O⟩,h⟩:=h;refine⟨_,A2 (C9 (i:=4) Ae8.nd rfl (Or.inl rfl) (Bs6 X M z B G (A0 (pv 0) (A0 (A9 (G7 D4 (pv 1) B0 (fun _ _=>rfl)) rfl) A6))))
  (A2 (D0 (pv 4) (pv 2) rfl) (A2 (D0 (pv 4) (pv 1) rfl) (A2 (D0 (pv 4) (pv 3) rfl) (A3 (B6 (pv 4)))))),?_⟩
 refine⟨_,rfl,_,rfl,b,_,_,_,rfl,rfl,SqL.of I,E9 (j:=0) rfl,x,C,J,L,_,rfl,N,X.cl,X.ni,O.i,fun a q t R _=>⟨a,q,_,_,rfl,A1,fun H1 il S T nil U=>⟨rfl,?_⟩⟩⟩;have V:=Same.made t R U;obtain⟨d,u,W,g⟩:=S;refine⟨_,rfl,_,rfl,a,C,d,u,rfl,W,X.cl,X.nj,(by have:=g.n;omega),?_⟩;have l:=g.setJ j;refine⟨_,rfl,_,rfl,a,C,d,_,rfl,A1,X.cl,X.nc,(by have:=l.n;omega),?_⟩;have m:=l.setI b;refine⟨_,rfl,_,rfl,a,C,d,_,rfl,A1,X.cl,X.ns,(by have:=m.n;omega),?_⟩;have v:=m.setS s;rw[L5,L5];refine⟨_,rfl,h _ a t ⟨d,_,A1,v⟩ fun c o e=>?_⟩;rw[A4 (A7 e t)];exact V _ _ e
theorem Ad4:B7 ["operands","strengths","strength","right","left"] ["operands","strengths"] (A8 X6):=fsc
theorem K0 (l m:List LT):B2 (l++m)=B2 l++B2 m:=AV ..
theorem AP0 {a:Type}(l:List a)(x:a):(l++[x])[(l++[x]).length-1]?=some x:=by simp
theorem BO3 {C f fA:AI}{fd fdA:BK}(F:Fun K "join_last" "join_last" X6 f fd)(X:NdC K mg C)(N:Fn K mg "node_around" K2 ["kind","inner","behind","strength"] fA fdA):D6 P w K mg base CX0 4 f fd ["operands","strengths"] (Au3 C):=by
 have GA:D6 P w K mg base CX0 3 fA fdA ["kind","inner","behind","strength"] (l9 C):=AS5 N.F X;refine F.oK Ad4 fun cdv A outer s H vs Q E hr h=>?_;obtain⟨ol,tl,O,l,r,S,s,rfl,hol,htl,hl,hrr,nd,nol,ntl,not_,hO,hs,h⟩:=h;refine⟨_,A2 (C9 (i:=2) Ad4.nd rfl (Or.inl rfl) (AE8 Ac Bq Bp AD2 (pv 1)))
  (A2 (C9 (i:=3) Ad4.nd rfl (Or.inl rfl) (AE8 Ac Bq Bp AD2 (pv 0)))
  (A2 (C9 (i:=4) Ad4.nd rfl (Or.inl rfl) (AE8 Ac Bq Bp AD2 (pv 0)))
  (A2 (D0 (pv 4) (U9 (B4 J0 (pv 2) (F2 X.cmpS) (C1 _)) (R9 V7 (pv 2) B0) (pv 2)) rfl)
  (A2 (D0 (pv 3) (R9 V7 (pv 2) B0) rfl)
  (A3 (E4 (U2 Ac Ax Aw G2 (pv 0) (A0 (D5 N GA hr (A0 C7 (A0 (M7 (A0 (pv 4) (A0 (pv 3) A6))) (A0 (A9 (pv 3) rfl) (A0 (pv 2) A6))))) A6)))))))),?_⟩
 have sz:=BA;have hla:=hl.no;obtain⟨dl,fl,hl0,nfl⟩:=hla;obtain⟨dr,frr,hr0,nfr⟩:=hrr.no;have nal:l.a∈fp l++fp r:=AU _ (F7 l);have nar:r.a∈fp l++fp r:=AQ _ (F7 r);have e1:((S++[s]).map fun n=>V.int ((n:Nat):Int))=(S.map fun n=>V.int ((n:Nat):Int))++[V.int (s:Nat)]:=by rw[AV];rfl
 rw[e1]at htl;refine⟨_,rfl,.inl ⟨rfl,_,SqL.of htl⟩,tl,_,_,rfl,rfl,htl,AP0 _ _,?_⟩;rw[Cy];have e2:B2 (O++[l,r])=B2 (O++[l])++[V.ref r.a]:=by rw[K0,K0];simp[B2]
 have hol1:(upd H tl (.lst (S.map fun n=>V.int ((n:Nat):Int)))) ol=some (.lst (B2 (O++[l])++[V.ref r.a])):=by rw[A4 not_,hol,e2]
 refine⟨_,rfl,.inl ⟨rfl,_,SqL.of hol1⟩,ol,_,_,rfl,rfl,hol1,AP0 _ _,?_⟩;rw[Cy];have e3:B2 (O++[l])=B2 O++[V.ref l.a]:=K0 _ _;rw[e3];refine⟨_,rfl,.inl ⟨rfl,_,SqL.of A1⟩,ol,_,_,rfl,rfl,A1,AP0 _ _,?_⟩;rw[Cy,L5];have kp0:∀c o,c≠ol->c≠tl->H c=some o->(upd (upd H tl (.lst (S.map fun n=>V.int ((n:Nat):Int)))) ol (.lst (B2 O))) c=some o:=fun c o n1 n2 e=>by rw[A4 n1,A4 n2];exact e
 have t0:(upd (upd H tl (.lst (S.map fun n=>V.int ((n:Nat):Int)))) ol (.lst (B2 O))) tl=some (.lst (S.map fun n=>V.int ((n:Nat):Int))):=by rw[A4 (BD not_),A1]
 have o0:(upd (upd H tl (.lst (S.map fun n=>V.int ((n:Nat):Int)))) ol (.lst (B2 O))) ol=some (.lst (B2 O)):=A1;have n0:∀c,(upd (upd H tl (.lst (S.map fun n=>V.int ((n:Nat):Int)))) ol (.lst (B2 O))) c=none->H c=none:=fun c e=>by
  have c1:c≠ol:=fun q=>by rw[q,A1]at e;cases e
  have c2:c≠tl:=fun q=>by rw[q,A4 (BD not_),A1]at e;cases e
  rw[A4 c1,A4 c2]at e;exact e
 generalize (upd (upd H tl (.lst (S.map fun n=>V.int ((n:Nat):Int)))) ol (.lst (B2 O)))=H1 at kp0 t0 o0 n0 ⊢;have ndl:=(BE.mp nd).1;have ndr:=(BE.mp nd).2.1;have dis:=(BE.mp nd).2.2;have hl1:AtT C H1 l:=hl.keep l (fun b hb o e=>kp0 b o (fun q=>nol (by rw[←q];exact AU _ hb)) (fun q=>ntl (by rw[←q];exact AU _ hb)) e);have hr1:AtT C H1 r:=hrr.keep r (fun b hb o e=>kp0 b o (fun q=>nol (by rw[←q];exact AQ _ hb)) (fun q=>ntl (by rw[←q];exact AQ _ hb)) e);have la1:H1 l.a=some (.ins C dl fl):=kp0 _ _ (fun q=>nol (by rw[←q];exact nal)) (fun q=>ntl (by rw[←q];exact nal)) hl0;have ra1:H1 r.a=some (.ins C dr frr):=kp0 _ _ (fun q=>nol (by rw[←q];exact nar)) (fun q=>ntl (by rw[←q];exact nar)) hr0;have nlr:l.a≠r.a:=fun q=>dis _ (F7 l) _ (F7 r) q;have main:∀v:Int,v=((lowL s:Nat):Int)->An3 (BY6 K (Q8 4) (tC (V.int v)) "least") (An3 (BY6 K (Q8 3) (tOp (rI0 fun i j=>V.int (i+j)) (Q8 2) (tC (V.int 1))) "least") (BA5 (tBM K "list" AK1 (Q8 0) (M9 (Am2 (l9 C) [] E0 (M9 (tC (V.str "OPERATOR")) (M9 (Bx3 (M9 (Q8 4) (M9 (Q8 3) AW1))) (M9 (Ak1 K (Q8 3) "behind") (M9 (Q8 2) AW1))))) AW1)))) {nx:=fun _ H'=>Q .non H',rt:=Q} [some (.ref ol),some (.ref tl),some (.int (s:Nat)),some (.ref r.a),some (.ref l.a)] H1:=by
  intro v hv;subst hv;refine⟨_,rfl,l.a,C,dl,fl,rfl,la1,X.cl,X.nl,(by have:=nfl.n;omega),?_⟩;have hl2:=hl1.setLe ndl la1 nfl (lowL s);have ra2:(upd H1 l.a (.ins C dl (C3 "least" (.int ((lowL s:Nat):Int)) fl))) r.a=some (.ins C dr frr):=by rw[A4 (BD nlr)];exact ra1
  have hr2:AtT C (upd H1 l.a (.ins C dl (C3 "least" (.int ((lowL s:Nat):Int)) fl))) r:=hr1.keep r (fun b hb o e=>by rw[A4 (fun q=>dis _ (F7 l) _ hb q.symm)];exact e);have kp1:∀c o,c≠l.a->H1 c=some o->(upd H1 l.a (.ins C dl (C3 "least" (.int ((lowL s:Nat):Int)) fl))) c=some o:=fun c o n e=>by rw[A4 n];exact e
  have n1:∀c,(upd H1 l.a (.ins C dl (C3 "least" (.int ((lowL s:Nat):Int)) fl))) c=none->H1 c=none:=fun c e=>by
   have c1:c≠l.a:=fun q=>by rw[q,A1]at e;cases e
   rw[A4 c1]at e;exact e
  generalize (upd H1 l.a (.ins C dl (C3 "least" (.int ((lowL s:Nat):Int)) fl)))=H2 at hl2 ra2 hr2 kp1 n1 ⊢;refine⟨_,rfl,_,_,rfl,rfl,_,rfl,r.a,C,dr,frr,rfl,ra2,X.cl,X.nl,(by have:=nfr.n;omega),?_⟩;have hr3:=hr2.setLe ndr ra2 nfr (s+1);have hl3:AtT C (upd H2 r.a (.ins C dr (C3 "least" (.int ((s+1:Nat):Int)) frr))) (l.setLe (lowL s)):=hl2.keep _ (fun b hb o e=>by
   rw[AS3]at hb;rw[A4 (fun q=>dis _ hb _ (F7 r) q)];exact e)
  have kp2:∀c o,c≠r.a->H2 c=some o->(upd H2 r.a (.ins C dr (C3 "least" (.int ((s+1:Nat):Int)) frr))) c=some o:=fun c o n e=>by rw[A4 n];exact e
  have n2:∀c,(upd H2 r.a (.ins C dr (C3 "least" (.int ((s+1:Nat):Int)) frr))) c=none->H2 c=none:=fun c e=>by
   have c1:c≠r.a:=fun q=>by rw[q,A1]at e;cases e
   rw[A4 c1]at e;exact e
  rw[show V.int ((s:Int)+1)=V.int ((s+1:Nat):Int)from rfl];generalize (upd H2 r.a (.ins C dr (C3 "least" (.int ((s+1:Nat):Int)) frr)))=H3 at hl3 hr3 kp2 n2 ⊢;have kp3:∀c o,c≠l.a->c≠r.a->H1 c=some o->H3 c=some o:=fun c o a b e=>kp2 c o b (kp1 c o a e);have ol3:H3 ol=some (.lst (B2 O)):=kp3 _ _ (fun q=>nol (by rw[q];exact nal)) (fun q=>nol (by rw[q];exact nar)) o0;have tl3:H3 tl=some (.lst (S.map fun n=>V.int ((n:Nat):Int))):=kp3 _ _ (fun q=>ntl (by rw[q];exact nal)) (fun q=>ntl (by rw[q];exact nar)) t0;have nH:∀c,H3 c=none->H c=none:=fun c e=>n0 c (n1 c (n2 c e));obtain⟨dr4,fr4,ra4,nf4⟩:=hr3.no;rw[BH8]at ra4;refine⟨_,rfl,.inl ⟨rfl,_,SqL.of ol3⟩,?_⟩;refine⟨_,rfl,_,rfl,(by show 2<=sizeLine;omega),fun b hb=>?_⟩;have s4:Same H3 (upd H3 b (.lst [V.ref l.a,V.ref r.a])):=B5 hb;have hb4:(upd H3 b (.lst [V.ref l.a,V.ref r.a])) b=some (.lst [V.ref l.a,V.ref r.a]):=A1;generalize (upd H3 b (.lst [V.ref l.a,V.ref r.a]))=H4 at s4 hb4 ⊢;have hl4:=hl3.no;rw[BH8]at hl4;refine⟨_,rfl,r.a,C,dr4,fr4,_,rfl,s4 _ _ ra4,X.cl,X.nj,nf4.j,_,rfl,_,b,_,_,l.a,[V.ref r.a],_,rfl,hb4,hl4.keep (fun o e=>s4 _ _ e),fun H5 a na hN s5=>?_⟩;have ol5:=s5 _ _ (s4 _ _ ol3);refine⟨ol,_,_,rfl,rfl,ol5,(by unfold B2;rw[AJ];omega),?_⟩;have hna3:H3 a=none:=s4.free na;have ab:a≠b:=fun q=>by rw[q,hb4]at na;cases na
  have oa:ol≠a:=fun q=>by rw[←q,ol3]at hna3;cases hna3
  have ob:ol≠b:=fun q=>by rw[←q,ol3]at hb;cases hb
  have ta:tl≠a:=fun q=>by rw[←q,tl3]at hna3;cases hna3
  have tb:tl≠b:=fun q=>by rw[←q,tl3]at hb;cases hb
  have s35:Same H3 H5:=s4.trans s5;refine h _ (.mk a b .OPERATOR l.i r.j false s 0 [l.setLe (lowL s),r.setLe (s+1)]) a b ?_ ?_ ?_ ?_ ?_ (nH a hna3) (nH b hb) ab ?_
  ·rw[A1,K0];rfl
  ·rw[A4 (BD not_)];exact s35 _ _ tl3
  ·have keep:∀x∈fp l++fp r,∀o,H3 x=some o->(upd H5 ol (.lst (B2 O++[V.ref a]))) x=some o:=fun x hx o e=>by rw[A4 (fun q=>nol (by rw[←q];exact hx))];exact s35 _ _ e
   refine L0.mpr ⟨?_,?_,E5.mpr fun t ht=>?_⟩
   ·rw[(AK9 _).1,(BX1 l _).1,(AK9 _).2.1,(BX1 r _).2.1]at hN;have q:NO C (upd H5 ol (.lst (B2 O++[V.ref a]))) a ⟨b,"OPERATOR",(l.i:Nat),(r.j:Nat),false,(s:Nat),0⟩:=NO.keep hN fun o e=>by rw[A4 (BD oa)];exact e
    exact q
   ·rw[A4 (BD ob),s5 _ _ hb4];show some (HO.lst [V.ref l.a,V.ref r.a])=some (HO.lst [V.ref (l.setLe (lowL s)).a,V.ref (r.setLe (s+1)).a]);rw[BH8,BH8]
   ·rcases AK.mp ht with rfl |ht
    ·exact hl3.keep _ fun x hx o e=>keep x (by rw[AS3]at hx;exact AU _ hx) o e
    ·rw[AN]at ht;subst ht;exact hr3.keep _ fun x hx o e=>keep x (by rw[AS3]at hx;exact AQ _ hx) o e
  ·rw[V9];unfold mkOp;rw[(A95 l).2.1,(A95 r).2.2.1];simp only[Ah,CZ,BC5];rfl
  ·rw[F6,B3,B3,F4,AS3,AS3,AE]
  ·intro c o c1 c2 c3 e;have nl:c≠l.a:=fun q=>c3 (by rw[q];exact nal);have nr:c≠r.a:=fun q=>c3 (by rw[q];exact nar);rw[A4 c1];exact s35 _ _ (kp3 c o nl nr (kp0 c o c1 c2 e))
 refine⟨_,rfl,rfl,_,rfl,G5 (fun c=>?_) (fun c=>?_)⟩
 ·have c:s=4:=by have:V.int ((s:Nat):Int)=V.int 4:=of_decide_eq_true c;injection this with this;omega
  refine⟨_,rfl,_,_,rfl,rfl,?_⟩;exact main _ (by unfold lowL;rw[AL c];subst c;rfl)
 ·have c:¬s=4:=fun q=>c (AR (by rw[q];rfl));refine⟨_,rfl,?_⟩;exact main _ (by unfold lowL;rw[AD c])
end
def SyAt (H:Hp)(b:AI)(c:Nat->Sy)(N:Nat):Prop:=∃a:List Str,H b=some (.lst (a.map V.str))/\∀i,i<=N->a[i]?=some (B1 (c i))
theorem SyAt.at {H:Hp}{b:AI}{c:Nat->Sy}{N i:Nat}(h:∃a:List Str,H b=some (.lst (a.map V.str))/\∀i,i<=N->a[i]?=some (B1 (c i)))(d:i<=N):∃xs:List V,H b=some (.lst xs)/\xs[i]?=some (.str (B1 (c i))):=by obtain⟨a,e,f⟩:=h;exact⟨_,e,by rw[Aq,f i d];rfl⟩
theorem SyAt.keep {H H':Hp}{a:AI}{b:Nat->Sy}{N:Nat}(h:SyAt H a b N)(k:∀o,H a=some o->H' a=some o):SyAt H' a b N:=let ⟨s,c,d⟩:=h;⟨s,k _ c,d⟩
structure A33 (C:AI)(H H':Hp)(t t':LT)(n:Nd):Prop where
 at_:AtT C H' t'
 er:er t'=n
 nd:(fp t').Nodup
 sub:∀b∈fp t',b∈fp t∨H b=none
 kp:∀b o,b∉fp t->H b=some o->H' b=some o
inductive Y0 (C:AI) (mf:(Nat->Sy)->Nat->Op->Nat->Option Nd) (vs:List V) (H:Hp) (Q:VK) (E:XK):Prop
 |mk:∀(t:LT) (sl:AI) (cy:Nat->Sy) (N:Nat) (n:Nd) (k0:Kd),vs=[.ref t.a,.ref sl]->AtT C H t->(fp t).Nodup->sl∉fp t->SyAt H sl cy N->((∀i,cy i∈J5))->t.i<=N->t.c.length<=100001->er t=.mk k0 t.i t.j false 13 0 (t.c.map er)->mf cy N ⟨k0,t.i,t.c.map er⟩ t.j=some n->(∀(H':Hp) (t':LT),A33 C H H' t t' n->Q (.ref t'.a) H')->Y0 C mf vs H Q E
structure OI (C:AI)(H0:Hp)(c0:List LT)(Z:List AI)(ol tl:AI)(rem:List LT)(H:Hp)(O:List LT)(S:List Nat):Prop where
 o:H ol=some (.lst (B2 O))
 t:H tl=some (.lst (S.map fun n=>V.int ((n:Nat):Int)))
 ao:AtL C H O
 ar:AtL C H rem
 nd:(fps O++fps rem).Nodup
 sub:∀b∈fps O++fps rem,b∈fps c0∨H0 b=none
 no:∀z∈Z,z∉fps O++fps rem
 kp:∀b o,b∉fps c0->H0 b=some o->H b=some o
 kz:∀z∈Z,z=ol∨z=tl∨∃xs,H z=some (.lst xs)
 len:O.length=S.length+1
 le:∀s∈S,s<=10
theorem A06 (h:(x++y++z).Nodup)(d:a∉x++y++z)(e:b∉x++y++z)(c:a≠b):(x++(a::b::y)++z).Nodup:=by
 have p:List.Perm (x++(a::b::y)++z) (a::b::(x++y++z)):=by have f:List.Perm (x++a::b::(y++z)) (a::(x++b::(y++z))):=List.perm_middle;have g:List.Perm (x++b::(y++z)) (b::(x++(y++z))):=List.perm_middle;rw[AF,AF];exact f.trans (g.cons a)
 refine p.nodup_iff.mpr (Am.mpr ⟨?_,Am.mpr ⟨e,h⟩⟩);intro q;rcases AK.mp q with q |q
 ·exact c q
 ·exact d q
theorem OI.join {C h i:AI}{u H H':Hp}{B f O:List LT}{Z:List AI}{S:List Nat}{l r n:LT}{s:Nat}{a b:AI}(I:OI C u B Z h i f H (O++[l,r]) (S++[s]))(K:h∈Z/\i∈Z)(T:u h=none)(U:u i=none)
  (W:H' h=some (.lst (B2 (O++[n])))) (X:H' i=some (.lst (S.map fun n=>V.int ((n:Nat):Int)))) (Y:AtT C H' n) (h5:fp n=a::b::(fp l++fp r)) (D:H a=none) (E:H b=none) (F:a≠b)
  (G:∀c o,c≠h->c≠i->c∉fp l++fp r->H c=some o->H' c=some o):OI C u B Z h i f H' (O++[n]) S:=by
 have L:fps (O++[l,r])=fps O++(fp l++fp r):=by rw[T4,B3,B3,F4,AE]
 have J:fps (O++[n])=fps O++(a::b::(fp l++fp r)):=by rw[T4,B3,F4,AE,h5]
 have v:=I.nd;have j:=I.sub;have w:=I.no;rw[L]at v j w;have k:∀x∈fps O++(fp l++fp r)++fps f,∃o,H x=some o:=by
  intro x d;rcases AY.mp d with d |d
  ·exact AtL.ex _ I.ao x (by rw[L];exact d)
  ·exact AtL.ex _ I.ar x d
 have g:∀c,H c=none->c∉fps O++(fp l++fp r)++fps f:=fun c e q=>by obtain⟨o,m⟩:=k c q;rw[e]at m;cases m
 have M:∀c,H c=none->u c=none∨c∈fps B:=fun c e=>by
  by_cases q:c∈fps B
  ·exact .inr q
  ·cases e0:u c with
   |none=>exact .inl rfl
   |some o=>rw[I.kp c o q e0]at e;cases e
 have y:∀x,x∈fps O∨x∈fps f->∀o,H x=some o->H' x=some o:=by
  intro x d o e;have N:x∈fps O++(fp l++fp r)++fps f:=by
   rcases d with d |d
   ·exact AU _ (AU _ d)
   ·exact AQ _ d
  refine G x o (fun q=>w h K.1 (by rw[←q];exact N)) (fun q=>w i K.2 (by rw[←q];exact N)) (fun q=>?_) e;rw[BE]at v;rcases d with d |d
  ·have:=(BE.mp v.1).2.2;exact this x d x q rfl
  ·exact v.2.2 x (AQ _ q) x d rfl
 refine⟨W,X,?_,AtL.keep f I.ar fun x d=>y x (.inr d),?_,?_,?_,?_,?_,?_,fun x d=>I.le x (AU _ d)⟩
 ·rw[E5];intro t p;rcases AY.mp p with p |p
  ·exact(E5.mp I.ao t (AU _ p)).keep t fun x d=>y x (.inl (W6.mpr ⟨t,p,d⟩))
  ·rw[AN]at p;subst p;exact Y
 ·rw[J];exact A06 v (g a D) (g b E) F
 ·rw[J];intro x d;have d:x=a∨x=b∨x∈fps O++(fp l++fp r)++fps f:=by
   simp only[AY,AK]at d ⊢;rcases d with (q |q |q |q) |q
   ·exact .inr (.inr (.inl (.inl q)))
   ·exact .inl q
   ·exact .inr (.inl q)
   ·exact .inr (.inr (.inl (.inr q)))
   ·exact .inr (.inr (.inr q))
  rcases d with rfl |rfl |d
  ·exact(M _ D).symm
  ·exact(M _ E).symm
  ·exact j x d
 ·intro z A q;rw[J]at q;have q:z=a∨z=b∨z∈fps O++(fp l++fp r)++fps f:=by
   simp only[AY,AK]at q ⊢;rcases q with (q |q |q |q) |q
   ·exact .inr (.inr (.inl (.inl q)))
   ·exact .inl q
   ·exact .inr (.inl q)
   ·exact .inr (.inr (.inl (.inr q)))
   ·exact .inr (.inr (.inr q))
  have hs:∃o,H z=some o:=by
   rcases I.kz z A with rfl |rfl |⟨P,e⟩
   ·exact⟨_,I.o⟩
   ·exact⟨_,I.t⟩
   ·exact⟨_,e⟩
  obtain⟨o,m⟩:=hs;rcases q with rfl |rfl |q
  ·rw[D]at m;cases m
  ·rw[E]at m;cases m
  ·exact w z A q
 ·intro x o d e;refine G x o (fun q=>by rw[q,T]at e;cases e) (fun q=>by rw[q,U]at e;cases e) (fun q=>?_) (I.kp x o d e);have:=j x (AU _ (AQ _ q));rcases this with q |q
  ·exact d q
  ·rw[q]at e;cases e
 ·intro z A;rcases I.kz z A with q |q |⟨P,e⟩
  ·exact .inl q
  ·exact .inr (.inl q)
  ·by_cases Q:z=h
   ·exact .inl Q
   by_cases R:z=i
   ·exact .inr (.inl R)
   exact .inr (.inr ⟨P,G z _ Q R (fun q=>w z A (AU _ (AQ _ q))) e⟩)
 ·have:=I.len;simp only[AO,AZ,Bt]at this ⊢;omega
theorem OI.push {C b c:AI}{j H:Hp}{p d O:List LT}{Z:List AI}{S:List Nat}{n:LT}{s:Nat}(I:OI C j p Z b c (n::d) H O S)(r:b∈Z/\c∈Z)(u:j b=none)(v:j c=none)(i:b≠c)(D:s<=10):
  OI C j p Z b c d (upd (upd H c (.lst ((S++[s]).map fun n=>V.int ((n:Nat):Int)))) b (.lst (B2 (O++[n])))) (O++[n]) (S++[s]):=by
 have k:fps (O++[n])++fps d=fps O++fps (n::d):=by rw[T4,B3,F4,B3,AE,AF]
 have f:∀x,x≠b->x≠c->∀o,H x=some o->(upd (upd H c (.lst ((S++[s]).map fun n=>V.int ((n:Nat):Int)))) b (.lst (B2 (O++[n])))) x=some o:=fun x w y o e=>by rw[A4 w,A4 y];exact e
 have h:∀x∈fps O++fps (n::d),∀o,H x=some o->(upd (upd H c (.lst ((S++[s]).map fun n=>V.int ((n:Nat):Int)))) b (.lst (B2 (O++[n])))) x=some o:=fun x a=>f x (fun q=>I.no b r.1 (by rw[←q];exact a)) (fun q=>I.no c r.2 (by rw[←q];exact a));refine⟨A1,by rw[A4 (BD i),A1],?_,?_,by rw[k];exact I.nd,by rw[k];exact I.sub,by rw[k];exact I.no,?_,?_,?_,?_⟩
 ·rw[E5];intro t g;rcases AY.mp g with g |g
  ·exact(E5.mp I.ao t g).keep t fun x a=>h x (AU _ (W6.mpr ⟨t,g,a⟩))
  ·rw[AN]at g;subst g;exact(E5.mp I.ar t (AG ..)).keep t fun x a=>h x (AQ _ (W6.mpr ⟨t,AG ..,a⟩))
 ·rw[E5];intro t g;exact(E5.mp I.ar t (AC _ g)).keep t fun x a=>h x (AQ _ (W6.mpr ⟨t,AC _ g,a⟩))
 ·intro x o a e;exact f x (fun q=>by rw[q,u]at e;cases e) (fun q=>by rw[q,v]at e;cases e) o (I.kp x o a e)
 ·intro z A;by_cases l:z=b
  ·exact .inl l
  by_cases m:z=c
  ·exact .inr (.inl m)
  rcases I.kz z A with q |q |⟨B,e⟩
  ·exact(l q).elim
  ·exact(m q).elim
  ·exact .inr (.inr ⟨B,f z l m _ e⟩)
 ·have:=I.len;simp only[AO,AZ,Bt]at this ⊢;omega
 ·intro x a;rcases AY.mp a with a |a
  ·exact I.le x a
  ·rw[AN]at a;omega
noncomputable def mir (O:List LT)(S:List Nat):List Nd×List Nat:=((O.map er).reverse,S.reverse)
theorem Ac1 {O:List LT}{S:List Nat}{l r n:LT}{s t:Nat}(e:er n=mkOp s (er l) (er r))(h:t<=s):red t (mir (O++[l,r]) (S++[s])).1 (mir (O++[l,r]) (S++[s])).2=red t (mir (O++[n]) S).1 (mir (O++[n]) S).2:=by unfold mir;rw[AV,BI,BI,AV,BI];show(if t<=s then red t (mkOp s (er l) (er r)::(O.map er).reverse) S.reverse else _)=red t (er n::(O.map er).reverse) S.reverse;rw[AL h,e]
theorem A47 {O:List LT}(b:O.length=(S++[s]).length+1)(h:s<t):red t (mir O (S++[s])).1 (mir O (S++[s])).2=mir O (S++[s]):=by
 have:∃r l q,(O.map er).reverse=r::l::q:=by
  have a:(O.map er).reverse.length=S.length+2:=by simp at b ⊢;omega
  cases e:(O.map er).reverse with
  |nil=>rw[e]at a;cases a
  |cons r q=>
   cases q with
   |nil=>rw[e]at a;simp at a
   |cons l q=>exact⟨r,l,q,rfl⟩
 obtain⟨r,l,q,e⟩:=this;unfold mir;rw[e,BI];show(if t<=s then _ else _)=_;exact AD (by omega)
theorem Ao6 {O:List LT}{t:Nat}:red t (mir O []).1 (mir O []).2=mir O []:=AM6 t (fun s a=>by cases a)
noncomputable def Bo0:List (Str×V):=([("||",2),("&&",3),("<",4),("<=",4),("==",4),("!=",4),(">",4),(">=",4),("|",5),("^",6),("&",7),("<<",8),(">>",8),("+",9),("-",9),("*",10),("/",10),("mod",10)]:List (String×Int)).map fun p=>(Str.ofString p.1,V.int p.2)
theorem BK7:∀k,k<33->2<=stOf (.sign k)->S6 (Bo0.map fun p=>((Sum.inr p.1,p.2):Key×V)) (Sum.inr (B1 (.sign k)))=some (.int (stOf (.sign k):Nat)):=by decide+kernel
theorem BT7 (h:2<=stOf y):S6 (Bo0.map fun p=>((Sum.inr p.1,p.2):Key×V)) (Sum.inr (B1 y))=some (.int (stOf y:Nat)):=by obtain⟨k,hk,rfl⟩:=T1 (y:=y) (by omega);exact BK7 k hk h
theorem Av4:∀k,k<33->stOf (.sign k)<=10:=by decide+kernel
theorem BS6 (y:Sy):stOf y<=10:=by
 by_cases h:stOf y=0
 ·omega
 ·obtain⟨k,a,rfl⟩:=T1 (y:=y) (by omega);exact Av4 k a
noncomputable def BY5:List Str:=["sum","row","sheet"]
noncomputable def BY2:List Str:=["-","~","!"]
structure TxO (P:Af)(w:Ap)(K:AA)(mg:Str->Option AH):Prop where
 st:∃a,mg "OPERATOR_STRENGTHS"=some (.ref a)/\Aj8 P w K a (Bo0.map fun p=>(Sum.inr p.1,p.2))
 sums:∃a,mg "BEGINNINGS_OF_A_SUM"=some (.ref a)/\∀H,SqT K H a (BY5.map V.str)
 ones:∃a,mg "SIGNS_OF_A_ONE"=some (.ref a)/\∀H,SqT K H a (BY2.map V.str)
 len:mg "len"=none
noncomputable def Bx4 (a:Nat->Sy)(N:Nat)(o:Op)(_:Nat):Option Nd:=A50 a N o.c
section
variable {P:Af} {w:Ap} {K:AA} {mg:Str->Option AH} {base:BR}
theorem i4:B7 ["node","symbols","operands","strengths","operand","strength"] ["node","symbols"] (A8 L4):=fsc
theorem A75 (h:l.length=m+1):∃c x,l=c++[x]/\c.length=m:=by
 rcases CP l with e |⟨a,b,e⟩
 ·rw[e]at h;cases h
 ·refine⟨a,b,by rw[e,CA],?_⟩;rw[e,CA,AO]at h;simpa using h
theorem Au7 {C f fA fJ:AI}{fd fdA fdJ:BK}(F:Fun K "folded_operators" "folded_operators" L4 f fd)(X:NdC K mg C)(T:TxO P w K mg)(NA:Fn K mg "node_around" K2 ["kind","inner","behind","strength"] fA fdA)(NJ:Fn K mg "join_last" X6 ["operands","strengths"] fJ fdJ):
  D6 P w K mg base CX0 5 f fd ["node","symbols"] (Y0 C Bx4):=by
 have GJ:D6 P w K mg base CX0 4 fJ fdJ ["operands","strengths"] (Au3 C):=BO3 NJ.F X NA;obtain⟨aO,hO,hmd⟩:=T.st;refine F.oK i4 fun cdv A outer s H vs Q E hr h=>?_;obtain⟨t,sl,cy,N,n,k0,rfl,hT,ndT,nsl,hS,hcy,hiN,hcl,_,hfin,h⟩:=h;have hu:=Aj5 hr;refine⟨_,A2 (C9 (i:=2) i4.nd rfl (Or.inl rfl) (M7 (A0 (G7 D4 (A9 (pv 0) rfl) B0 (fun _ _=>rfl)) A6)))
  (A2 (C9 (i:=3) i4.nd rfl (Or.inl rfl) (M7 A6))
  (A2 (Z8 BJ rfl (X3 (Y6 p7 (A9 (pv 0) rfl) (W9 B0) AN7)) (K8 (i:=4) i4.nd rfl (Or.inl rfl))
   (A2 (C9 (i:=5) i4.nd rfl (Or.inl rfl) (AC7 hu (R0 hO) (G7 D4 (pv 1) (R9 AF1 (A9 (pv 4) rfl) B0) (fun _ _=>rfl)) (fun _ _=>rfl)))
   (A2 (Q7 BJ (PW.pt (w4 (l4 (pv 3) (fun _=>rfl)) (X4 (B4 BX6 (G7 D4 (pv 3) (Az6 AU0 B0) (fun _ _=>rfl)) (pv 5) (C1 _)))))
    (A3 (E4 (D5 NJ GJ hr (A0 (pv 2) (A0 (pv 3) A6))))))
   (A2 (E4 (U2 Ac Ax Aw G2 (pv 3) (A0 (pv 5) A6)))
   (A3 (E4 (U2 Ac Ax Aw G2 (pv 2) (A0 (pv 4) A6))))))))
  (A2 (Q7 BJ (l4 (pv 3) (fun _=>rfl)) (A3 (E4 (D5 NJ GJ hr (A0 (pv 2) (A0 (pv 3) A6))))))
  (A3 (B6 (G7 D4 (pv 2) B0 (fun _ _=>rfl))))))),?_⟩
 have sz:=BA;obtain⟨a,il,k,i,j,p,st,le,c⟩:=t;obtain⟨⟨dx,fs,ha,nf⟩,hil,hc⟩:=L0.mp hT;rw[F6,Am,Am]at ndT;obtain⟨nda,ndi,ndc⟩:=ndT;have hcl:c.length<=100001:=hcl;have hfin:A50 cy N (c.map er)=some n:=hfin;cases c with
 |nil=>cases hfin
 |cons t0 rest=>
 have hfin:(if(rest.map er).all (BH7 cy N)=true then(let x:=(rest.map er).foldl (AP8 cy) ([er t0],[]);(red 0 x.1 x.2).1.head?)else none)=some n:=hfin;have hop:(rest.map er).all (BH7 cy N)=true:=by
  by_cases q:(rest.map er).all (BH7 cy N)=true
  ·exact q
  ·rw[AD q]at hfin;cases hfin
 rw[AL hop]at hfin;have hfin:(red 0 ((rest.map er).foldl (AP8 cy) ([er t0],[])).1 ((rest.map er).foldl (AP8 cy) ([er t0],[])).2).1.head?=some n:=hfin;refine⟨_,rfl,a,C,dx,fs,_,rfl,ha,X.cl,X.nc,nf.il,il,_,_,_,rfl,rfl,SqL.of hil,E9 (j:=0) rfl,(by show 1<=sizeLine;omega),fun ol hol=>?_⟩;have s1:Same H (upd H ol (.lst [V.ref t0.a])):=B5 hol;have o1:(upd H ol (.lst [V.ref t0.a])) ol=some (.lst [V.ref t0.a]):=A1;generalize (upd H ol (.lst [V.ref t0.a]))=H1 at s1 o1 ⊢;refine⟨Ag _,fun tl htl=>?_⟩;have s2:Same H1 (upd H1 tl (.lst [])):=B5 htl;have t2:(upd H1 tl (.lst [])) tl=some (.lst []):=A1;generalize (upd H1 tl (.lst []))=H2 at s2 t2 ⊢;have not_:ol≠tl:=fun q=>by rw[←q,o1]at htl;cases htl
 have s02:=s1.trans s2;refine⟨_,rfl,a,C,dx,fs,_,rfl,s02 _ _ ha,X.cl,X.nc,nf.il,_,rfl,il,_,rfl,SqL.of (s02 _ _ hil),fun D hD=>?_⟩;have eD:AU2 (B2 (t0::rest)) (some 1) none=B2 rest:=by
  unfold AU2;rw[HT.sIx_none,show(some (1:Int))=some ((1:Nat):Int)from rfl,HT.sIx_nat];have:(B2 (t0::rest)).length=rest.length+1:=by simp[B2]
  rw[this,Cz (by omega)];show(B2 rest).take (rest.length+1-1)=B2 rest;exact Bd (by simp[B2])
 rw[eD];have s3:Same H2 (upd H2 D (.lst (B2 rest))):=B5 hD;have d3:(upd H2 D (.lst (B2 rest))) D=some (.lst (B2 rest)):=A1;generalize (upd H2 D (.lst (B2 rest)))=H3 at s3 d3 ⊢;have nDo:D≠ol:=fun q=>by rw[q,s2 _ _ o1]at hD;cases hD
 have nDt:D≠tl:=fun q=>by rw[q,t2]at hD;cases hD
 have s03:=s02.trans s3;have zo:H ol=none:=hol;have zt:H tl=none:=s1.free htl;have zD:H D=none:=s02.free hD;have hc':AtT C H t0/\AtL C H rest:=by unfold AtL at hc;exact hc
 have n0:∀z,H z=none->z∉fps [t0]++fps rest:=fun z e q=>by
  have q:z∈fps (t0::rest):=by rw[B3];rw[B3,F4,AE]at q;exact q
  obtain⟨o,ho⟩:=AtL.ex _ hc z q;rw[e]at ho;cases ho
 have I0:OI C H (t0::rest) [ol,tl,D] ol tl rest H3 [t0] []:=by
  refine⟨s3 _ _ (s2 _ _ o1),s3 _ _ t2,?_,AtL.keep rest hc'.2 (fun b _ o e=>s03 _ _ e),?_,?_,?_,fun b o _ e=>s03 _ _ e,?_,rfl,fun s hs=>by cases hs⟩
  ·rw[E5];intro t ht;rw[AN]at ht;subst ht;exact hc'.1.keep _ fun b _ o e=>s03 _ _ e
  ·rw[B3,F4,AE,←B3];exact ndc
  ·intro b hb;rw[B3,F4,AE,←B3]at hb;exact .inl hb
  ·intro z hz;simp only[AK,BL,Bw]at hz;rcases hz with rfl |rfl |rfl
   ·exact n0 _ zo
   ·exact n0 _ zt
   ·exact n0 _ zD
  ·intro z hz;simp only[AK,BL,Bw]at hz;rcases hz with rfl |rfl |rfl
   ·exact .inl rfl
   ·exact .inr (.inl rfl)
   ·exact .inr (.inr ⟨_,d3⟩)
 have hZ:ol∈[ol,tl,D]/\tl∈[ol,tl,D]:=⟨by simp,by simp⟩;have keepD:∀{rem O:List LT} {S:List Nat} {Hx Hy:Hp} {l r:LT},OI C H (t0::rest) [ol,tl,D] ol tl rem Hx (O++[l,r]) S->Hx D=some (.lst (B2 rest))->(∀c o,c≠ol->c≠tl->c∉fp l++fp r->Hx c=some o->Hy c=some o)->Hy D=some (.lst (B2 rest)):=by intro rem O S Hx Hy l r I e k;refine k D _ nDo nDt (fun q=>I.no D (by simp) (AU _ ?_)) e;rw[T4,B3,B3,F4,AE];exact AQ _ q
 have joinS:∀{rem O:List LT} {S:List Nat} {l r:LT} {s:Nat} {Hx:Hp},OI C H (t0::rest) [ol,tl,D] ol tl rem Hx (O++[l,r]) (S++[s])->
   AtT C Hx l/\AtT C Hx r/\(fp l++fp r).Nodup/\ol∉fp l++fp r/\tl∉fp l++fp r/\s<=100:=by
  intro rem O S l r s Hx I;have hl:=E5.mp I.ao l (by simp);have hrr:=E5.mp I.ao r (by simp);have eO:fps (O++[l,r])=fps O++(fp l++fp r):=by rw[T4,B3,B3,F4,AE]
  have nd:=I.nd;rw[eO]at nd;have nlr:(fp l++fp r).Nodup:=(BE.mp (BE.mp nd).1).2.1;have out:∀z,z∈[ol,tl,D]->z∉fp l++fp r:=fun z hz q=>I.no z hz (by rw[eO];exact AU _ (AQ _ q));exact⟨hl,hrr,nlr,out ol (by simp),out tl (by simp),by have:=I.le s (by simp);omega⟩
 have lastTwo:∀{O:List LT} {S:List Nat} {s:Nat},O.length=(S++[s]).length+1->∃O' l r,O=O'++[l,r]/\O'.length=S.length:=by
  intro O S s hl;obtain⟨O1,r,rfl,h1⟩:=A75 hl;have h1:O1.length=S.length+1:=by rw[h1];simp
  obtain⟨O2,l,rfl,h2⟩:=A75 h1;exact⟨O2,l,r,by simp,h2⟩
 refine⟨D,rfl,⟨_,SqL.of d3⟩,Y5 (K:=K) (a:=D) (xs:=B2 rest) (fun m σ H'=>∃(v4 v5:Option V) (O:List LT) (S:List Nat),σ=[some (.ref a),some (.ref sl),some (.ref ol),some (.ref tl),v4,v5]/\OI C H (t0::rest) [ol,tl,D] ol tl (rest.drop m) H' O S/\H' D=some (.lst (B2 rest))/\mir O S=((rest.take m).map er).foldl (AP8 cy) ([er t0],[])/\O.length<=m+1)
  ⟨none,none,[t0],[],rfl,I0,d3,rfl,AB _⟩ (fun m σ H' _ hx=>by obtain⟨v4,v5,O,S,_,_,e,_⟩:=hx;exact SqL.of e) ?_ ?_⟩
 ·rintro m y σ Hx hy ⟨v4,v5,O,S,rfl,I,hDx,hmir,hlen⟩;obtain⟨tm,htm,rfl⟩:=AA9 (f:=fun t:LT=>V.ref t.a) hy;have hml:m<rest.length:=(Ad.mp htm).1;have edr:rest.drop m=tm::rest.drop (m+1):=by rw[Cb hml];congr 1;exact(Ad.mp htm).2
  rw[edr]at I;have htk:=J9 htm;have hopm:BH7 cy N (er tm)=true:=BO.mp hop _ (BN.mpr ⟨tm,Az htm,rfl⟩);obtain⟨k1,k2,k3⟩:1<=(er tm).i/\(er tm).i<=N/\2<=stOf (cy ((er tm).i-1)):=of_decide_eq_true hopm;rw[(A95 tm).2.1]at k1 k2 k3;obtain⟨dm,fm,hm0,nfm⟩:=(E5.mp I.ar tm (AG ..)).no;have hSx:SyAt Hx sl cy N:=hS.keep fun o e=>I.kp sl o (fun q=>nsl (by rw[F6];exact AC _ (AC _ q))) e;obtain⟨xs,hxs,hxi⟩:=SyAt.at hSx (i:=tm.i-1) (by omega);have ei:tm.rc.i-1=((tm.i-1:Nat):Int):=by rw[(AK9 tm).1];omega
  refine⟨_,rfl,_,rfl,tm.a,C,dm,fm,_,rfl,hm0,X.cl,X.ni,nfm.i,_,_,rfl,rfl,?_⟩;rw[show V.int (tm.rc.i-1)=V.int ((tm.i-1:Nat):Int)from by rw[ei]];refine⟨sl,_,_,_,rfl,rfl,SqL.of hxs,E9 hxi,aO,_,rfl,.inl ⟨_,Sum.inr (B1 (cy (tm.i-1))),hmd,rfl,(BT7 k3).symm⟩,?_⟩;have hsl:=BS6 (cy (tm.i-1));have nxt:∀{Hy:Hp} {O':List LT} {S':List Nat},OI C H (t0::rest) [ol,tl,D] ol tl (tm::rest.drop (m+1)) Hy O' S'->Hy D=some (.lst (B2 rest))->red (stOf (cy (tm.i-1))) (mir O S).1 (mir O S).2=mir O' S'->O'.length<=m+1->
    ∃(v4 v5:Option V) (O1:List LT) (S1:List Nat),[some (V.ref a),some (.ref sl),some (.ref ol),some (.ref tl),some (.ref tm.a),some (.int ((stOf (cy (tm.i-1)):Nat):Int))]=[some (V.ref a),some (.ref sl),some (.ref ol),some (.ref tl),v4,v5]/\OI C H (t0::rest) [ol,tl,D] ol tl (rest.drop (m+1)) (upd (upd Hy tl (.lst ((S'.map fun n=>V.int ((n:Nat):Int))++[V.int ((stOf (cy (tm.i-1)):Nat):Int)]))) ol (.lst (B2 O'++[V.ref tm.a]))) O1 S1/\
     (upd (upd Hy tl (.lst ((S'.map fun n=>V.int ((n:Nat):Int))++[V.int ((stOf (cy (tm.i-1)):Nat):Int)]))) ol (.lst (B2 O'++[V.ref tm.a]))) D=some (.lst (B2 rest))/\mir O1 S1=((rest.take (m+1)).map er).foldl (AP8 cy) ([er t0],[])/\O1.length<=m+1+1:=by
   intro Hy O' S' I' hD' hr' hl';have q:=I'.push hZ zo zt not_ hsl;rw[K0,AV]at q;refine⟨_,_,O'++[tm],S'++[stOf (cy (tm.i-1))],rfl,q,?_,?_,?_⟩
   ·rw[A4 nDo,A4 nDt];exact hD'
   ·rw[htk,AV,Cq,←hmir];show _=AP8 cy (mir O S) (er tm);unfold AP8;rw[(A95 tm).2.1];show _=(er tm::(red (stOf (cy (tm.i-1))) (mir O S).1 (mir O S).2).1,stOf (cy (tm.i-1))::(red (stOf (cy (tm.i-1))) (mir O S).1 (mir O S).2).2);rw[hr'];unfold mir;simp
   ·rw[AO];simp;omega
  refine⟨fun q σ Hy=>∃(O':List LT) (S':List Nat),σ=[some (V.ref a),some (.ref sl),some (.ref ol),some (.ref tl),some (.ref tm.a),some (.int ((stOf (cy (tm.i-1)):Nat):Int))]/\OI C H (t0::rest) [ol,tl,D] ol tl (tm::rest.drop (m+1)) Hy O' S'/\Hy D=some (.lst (B2 rest))/\
    red (stOf (cy (tm.i-1))) (mir O S).1 (mir O S).2=red (stOf (cy (tm.i-1))) (mir O' S').1 (mir O' S').2/\O'.length<=m+1/\q=S'.length,⟨_,O,S,rfl,I,hDx,rfl,hlen,rfl⟩,?_⟩
  rintro q σ Hy ⟨O',S',rfl,I',hD',hr',hl',rfl⟩;have hrl:(B2 O').length=O'.length:=by simp[B2]
  have hil:rest.length<=100000:=by simpa using hcl
  have hlen':=I'.len;refine⟨_,rfl,!S'.isEmpty,.inl ⟨_,SqL.of I'.t,by cases S'<;>rfl⟩,?_⟩;rcases CP S' with rfl |⟨S1,s,e⟩
  ·rw[Ao6]at hr';refine AG9 (AG9 ⟨_,rfl,.inl ⟨rfl,_,SqL.of I'.t⟩,_,rfl,tl,_,_,rfl,rfl,I'.t,(by show 0<sizeLine;omega),?_⟩);refine⟨_,rfl,.inl ⟨rfl,_,SqL.of (by rw[A4 not_];exact I'.o)⟩,_,rfl,ol,_,_,rfl,rfl,(by rw[A4 not_];exact I'.o),(by rw[hrl];omega),?_⟩;exact nxt I' hD' hr' hl'
  ·rw[CA]at e;subst e;rw[show(!(S1++[s]).isEmpty)=true by simp];have hs:=I'.le s (by simp);have et:(S1++[s]).map (fun n=>V.int ((n:Nat):Int))=S1.map (fun n=>V.int ((n:Nat):Int))++[V.int ((s:Nat):Int)]:=by rw[AV];rfl
   have it:=I'.t;rw[et]at it;refine AS0 ⟨_,rfl,1,rfl,tl,_,_,_,rfl,rfl,SqL.of it,Ah8 _ _,_,rfl,_,_,rfl,rfl,_,rfl,G5 (fun c=>?_) (fun c=>?_)⟩
   ·have c:stOf (cy (tm.i-1))<=s:=by have:=of_decide_eq_true c;omega
    obtain⟨O2,l,r,rfl,e2⟩:=lastTwo hlen';have l2:O2.length<=200000:=by simp at hl';omega
    obtain⟨j1,j2,j3,j4,j5,j6⟩:=joinS I';refine⟨_,fun _ _ z=>z,_,rfl,_,rfl,ol,tl,O2,l,r,S1,s,rfl,I'.o,I'.t,j1,j2,j3,j4,j5,not_,l2,j6,fun Hz n a' b' g1 g2 g3 g4 g5 g6 g7 g8 g9=>⟨S1.length,by simp,O2++[n],S1,rfl,I'.join hZ zo zt g1 g2 g3 g5 g6 g7 g8 g9,keepD I' hD' g9,?_,?_,rfl⟩⟩
    ·rw[hr',Ac1 g4 c]
    ·simp at hl' ⊢;omega
   ·have c:s<stOf (cy (tm.i-1)):=by have:¬(((stOf (cy (tm.i-1)):Nat):Int)<=(s:Nat)):=fun q=>c (AR q);omega
    rw[A47 hlen' c]at hr';refine⟨_,rfl,.inl ⟨rfl,_,SqL.of I'.t⟩,_,rfl,tl,_,_,rfl,rfl,I'.t,(by rw[AJ];omega),?_⟩;refine⟨_,rfl,.inl ⟨rfl,_,SqL.of (by rw[A4 not_];exact I'.o)⟩,_,rfl,ol,_,_,rfl,rfl,(by rw[A4 not_];exact I'.o),(by rw[hrl];omega),?_⟩;exact nxt I' hD' hr' hl'
 ·rintro σ Hx ⟨v4,v5,O,S,rfl,I,hDx,hmir,hlen⟩;have er0:(B2 rest).length=rest.length:=by simp[B2]
  rw[er0,EA]at I;rw[er0,Be]at hmir;rw[er0]at hlen;rw[←hmir]at hfin;refine⟨fun q σ Hy=>∃(O':List LT) (S':List Nat),σ=[some (V.ref a),some (.ref sl),some (.ref ol),some (.ref tl),v4,v5]/\OI C H (t0::rest) [ol,tl,D] ol tl [] Hy O' S'/\Hy D=some (.lst (B2 rest))/\
    red 0 (mir O S).1 (mir O S).2=red 0 (mir O' S').1 (mir O' S').2/\O'.length<=rest.length+1/\q=S'.length,⟨_,O,S,rfl,I,hDx,rfl,hlen,rfl⟩,?_⟩
  rintro q σ Hy ⟨O',S',rfl,I',hD',hr',hl',rfl⟩;have hil:rest.length<=100000:=by simpa using hcl
  have hlen':=I'.len;refine⟨_,rfl,!S'.isEmpty,.inl ⟨_,SqL.of I'.t,by cases S'<;>rfl⟩,?_⟩;rcases CP S' with rfl |⟨S1,s,e⟩
  ·rw[hr',Ao6]at hfin;obtain⟨x,rfl⟩:∃x,O'=[x]:=by
    cases O' with
    |nil=>cases hlen'
    |cons x r=>cases r with
     |nil=>exact⟨x,rfl⟩
     |cons y r=>simp at hlen'
   have ex:er x=n:=by injection hfin
   refine AG9 ⟨_,rfl,ol,_,0,_,rfl,rfl,SqL.of I'.o,E9 (j:=0) rfl,?_⟩;have nd:=I'.nd;have sub:=I'.sub;rw[B3,F4,AE,AE]at nd sub;refine h Hy x ⟨E5.mp I'.ao x (AN.mpr rfl),ex,nd,fun b hb=>?_,fun b o hb e=>I'.kp b o (fun q=>hb ?_) e⟩
   ·rcases sub b hb with q |q
    ·exact .inl (by rw[F6];exact AC _ (AC _ q))
    ·exact .inr q
   ·rw[F6];exact AC _ (AC _ q)
  ·rw[CA]at e;subst e;rw[show(!(S1++[s]).isEmpty)=true by simp];obtain⟨O2,l,r,rfl,e2⟩:=lastTwo hlen';have l2:O2.length<=200000:=by simp at hl';omega
   obtain⟨j1,j2,j3,j4,j5,j6⟩:=joinS I';refine AS0 ⟨_,fun _ _ z=>z,_,rfl,_,rfl,ol,tl,O2,l,r,S1,s,rfl,I'.o,I'.t,j1,j2,j3,j4,j5,not_,l2,j6,fun Hz n a' b' g1 g2 g3 g4 g5 g6 g7 g8 g9=>⟨S1.length,by simp,O2++[n],S1,rfl,I'.join hZ zo zt g1 g2 g3 g5 g6 g7 g8 g9,keepD I' hD' g9,?_,?_,rfl⟩⟩
   ·rw[hr',Ac1 g4 (Ag _)]
   ·simp at hl' ⊢;omega
end
structure PI (C:AI)(H0:Hp)(c0:List LT)(D:AI)(dl:List V)(rem:List LT)(H:Hp)(p:LT):Prop where
 d:H D=some (.lst dl)
 ap:AtT C H p
 ar:AtL C H rem
 nd:(fp p++fps rem).Nodup
 sub:∀b∈fp p++fps rem,b∈fps c0∨H0 b=none
 no:D∉fp p++fps rem
 kp:∀b o,b∉fps c0->H0 b=some o->H b=some o
inductive An5 (C:AI) (vs:List V) (H:Hp) (Q:VK) (E:XK):Prop
 |mk:∀(t t0:LT) (rest:List LT),vs=[.ref t.a]->AtT C H t->(fp t).Nodup->t.c=t0::rest->rest.length<=100001->((∀q∈rest,q.c.length<=2))->(∀(H':Hp) (t':LT),A33 C H H' t t' ((rest.map er).foldl J3 (er t0))->Q (.ref t'.a) H')->An5 C vs H Q E
theorem By9:AU2 (x::xs) (some 1) none=xs:=by unfold AU2;rw[HT.sIx_none,show(some (1:Int))=some ((1:Nat):Int)from rfl,HT.sIx_nat];rw[AZ,Cz (by omega)];show xs.take (xs.length+1-1)=xs;exact Bd (by simp)
theorem PI.post {C:AI}{u H H':Hp}{v g:List LT}{D:AI}{J:List V}{p q:LT}{a b:AI}(I:PI C u v D J (q::g) H p)(w:H a=none)(A:H b=none)(B:a≠b)
  (M:AtT C H' (.mk a b .POST p.i q.j false 12 0 (p.setLe 12::q.c))) (E:∀c o,c≠p.a->H c=some o->H' c=some o):PI C u v D J g H' (.mk a b .POST p.i q.j false 12 0 (p.setLe 12::q.c)):=by
 have r:fps (q::g)=q.a::q.il::(fps q.c++fps g):=by obtain⟨R,S,k,i,j,p,s,l,c⟩:=q;rw[B3,F6];rfl
 have F:fp (.mk a b .POST p.i q.j false 12 0 (p.setLe 12::q.c))++fps g=a::b::(fp p++(fps q.c++fps g)):=by rw[F6,B3,AS3,Bs,Bs,AF]
 have m:∀x,x∈fp p++(fps q.c++fps g)->x∈fp p++fps (q::g):=fun x f=>by
  rw[r];rcases AY.mp f with f |f
  ·exact AU _ f
  ·exact AQ _ (AC _ (AC _ f))
 have G:∀x,x∈fp p++fps (q::g)->∃o,H x=some o:=fun x f=>by
  rcases AY.mp f with f |f
  ·exact AtT.ex _ I.ap x f
  ·exact AtL.ex _ I.ar x f
 have h:∀x,H x=none->x∉fp p++(fps q.c++fps g):=fun x e f=>by obtain⟨o,K⟩:=G x (m x f);rw[e]at K;cases K
 have L:∀x,H x=none->x∈fps v∨u x=none:=fun x e=>by
  by_cases z:x∈fps v
  ·exact .inl z
  ·cases N:u x with
   |none=>exact .inr rfl
   |some o=>rw[I.kp x o z N]at e;cases e
 have t:=I.nd;rw[r]at t;have n:(fp p++(fps q.c++fps g)).Nodup:=by rw[BE]at t ⊢;refine⟨t.1,(Am.mp (Am.mp t.2.1).2).2,fun x f y O=>t.2.2 x f y (AC _ (AC _ O))⟩
 have P:D≠p.a:=fun z=>I.no (by rw[z];exact AU _ (F7 p));refine⟨E D _ P I.d,M,?_,?_,?_,?_,?_⟩
 ·have Q:AtL C H g:=by have:=I.ar;unfold AtL at this;exact this.2
  refine AtL.keep g Q fun x f o e=>E x o (fun z=>?_) e;rw[BE]at n;exact n.2.2 p.a (F7 p) x (AQ _ f) z.symm
 ·rw[F];refine Am.mpr ⟨fun z=>?_,Am.mpr ⟨h b A,n⟩⟩;rcases AK.mp z with z |z
  ·exact B z
  ·exact h a w z
 ·rw[F];intro x f;rcases AK.mp f with rfl |f
  ·exact L _ w
  rcases AK.mp f with rfl |f
  ·exact L _ A
  exact I.sub x (m x f)
 ·rw[F];intro f;rcases AK.mp f with f |f
  ·have:=I.d;rw[f,w]at this;cases this
  rcases AK.mp f with f |f
  ·have:=I.d;rw[f,A]at this;cases this
  exact I.no (m D f)
 ·intro x o f e;refine E x o (fun z=>?_) (I.kp x o f e);rcases I.sub p.a (AU _ (F7 p))with y |y
  ·exact f (by rw[z];exact y)
  ·rw[z,y]at e;cases e
section
variable {P:Af} {w:Ap} {K:AA} {mg:Str->Option AH} {base:BR}
theorem Ag1:B7 ["node","post","part"] ["node"] (A8 R3):=fsc
theorem AN8 {C f fA:AI}{fd N:BK}(F:Fun K "folded_post" "folded_post" R3 f fd)(X:NdC K mg C)(NA:Fn K mg "node_around" K2 ["kind","inner","behind","strength"] fA N):
  D6 P w K mg base CX0 4 f fd ["node"] (An5 C):=by
 have GA:D6 P w K mg base CX0 3 fA N ["kind","inner","behind","strength"] (l9 C):=AS5 NA.F X;refine F.oK Ag1 fun bf A al s H vs Q E hr h=>?_;obtain⟨t,B,g,rfl,hT,O,ec,bg,am,h⟩:=h;refine⟨_,A2 (C9 (i:=1) Ag1.nd rfl (Or.inl rfl) (G7 D4 (A9 (pv 0) rfl) B0 (fun _ _=>rfl)))
  (A2 (Z8 BJ rfl (X3 (Y6 p7 (A9 (pv 0) rfl) (W9 B0) AN7)) (K8 (i:=2) Ag1.nd rfl (Or.inl rfl))
   (A2 (D0 (pv 1) (F2 X.pstS) rfl)
   (A3 (C9 (i:=1) Ag1.nd rfl (Or.inl rfl) (D5 NA GA hr (A0 C7 (A0 (R9 BJ7 (M7 (A0 (pv 1) A6)) (A9 (pv 2) rfl)) (A0 (A9 (pv 2) rfl) (A0 (F2 X.pstS) A6)))))))))
  (A3 (B6 (pv 1)))),?_⟩
 have sz:=BA;obtain⟨a,il,k,i,j,p,st,le,c⟩:=t;obtain⟨⟨dx,fs,ha,nf⟩,R,hc⟩:=L0.mp hT;rw[F6,Am,Am]at O;obtain⟨bh,bi,an⟩:=O;have ec:c=B::g:=ec;subst ec;refine⟨_,rfl,a,C,dx,fs,_,rfl,ha,X.cl,X.nc,nf.il,il,_,_,_,rfl,rfl,SqL.of R,E9 (j:=0) rfl,?_⟩;refine⟨_,rfl,a,C,dx,fs,_,rfl,ha,X.cl,X.nc,nf.il,_,rfl,il,_,rfl,SqL.of R,fun D hD=>?_⟩;rw[show AU2 (B2 (B::g)) (some 1) none=B2 g from By9];have s3:Same H (upd H D (.lst (B2 g))):=B5 hD;have d3:(upd H D (.lst (B2 g))) D=some (.lst (B2 g)):=A1;generalize (upd H D (.lst (B2 g)))=H3 at s3 d3 ⊢;have S:AtT C H B/\AtL C H g:=by unfold AtL at hc;exact hc
 have I0:PI C H (B::g) D (B2 g) g H3 B:=by refine⟨d3,S.1.keep _ fun b _ o e=>s3 _ _ e,AtL.keep g S.2 fun b _ o e=>s3 _ _ e,by rw[←B3];exact an,fun b G=>.inl (by rw[B3];exact G),fun q=>?_,fun b o _ e=>s3 _ _ e⟩;obtain⟨o,ho⟩:=AtL.ex _ hc D (by rw[B3];exact q);rw[hD]at ho;cases ho
 refine⟨D,rfl,⟨_,SqL.of d3⟩,Y5 (K:=K) (a:=D) (xs:=B2 g) (fun m σ H'=>∃(v2:Option V) (p:LT),σ=[some (.ref a),some (.ref p.a),v2]/\PI C H (B::g) D (B2 g) (g.drop m) H' p/\er p=((g.take m).map er).foldl J3 (er B))
  ⟨none,B,rfl,I0,rfl⟩ (fun m σ H' _ T=>by obtain⟨v2,p,_,I,_⟩:=T;exact SqL.of I.d) ?_ ?_⟩
 ·rintro m y σ u hy ⟨v2,p,rfl,I,hp⟩;obtain⟨q,hq,rfl⟩:=AA9 (f:=fun t:LT=>V.ref t.a) hy;have ao:m<g.length:=(Ad.mp hq).1;have au:g.drop m=q::g.drop (m+1):=by rw[Cb ao];congr 1;exact(Ad.mp hq).2
  rw[au]at I;have av:=J9 hq;have q2:=am q (Az hq);obtain⟨U,l,W,Y⟩:=I.ap.no;have aw:(fp p).Nodup:=(BE.mp I.nd).1;have ax:=(BE.mp I.nd).2.2;have aq:AtT C u q:=E5.mp I.ar q (AG ..);have fq:∀x,x∈fp q->x∈fps (q::g.drop (m+1)):=fun x T=>by rw[B3];exact AU _ T
  have J:=I.ap.setLe aw W Y 12;have Z:AtT C (upd u p.a (.ins C U (C3 "least" (.int ((12:Nat):Int)) l))) q:=aq.keep q fun x T o e=>by rw[A4 (fun z=>ax p.a (F7 p) x (fq x T) z.symm)];exact e
  have aa:∀c o,c≠p.a->u c=some o->(upd u p.a (.ins C U (C3 "least" (.int ((12:Nat):Int)) l))) c=some o:=fun c o n e=>by rw[A4 n];exact e
  have n1:∀c,(upd u p.a (.ins C U (C3 "least" (.int ((12:Nat):Int)) l))) c=none->u c=none:=fun c e=>by
   have c1:c≠p.a:=fun q=>by rw[q,A1]at e;cases e
   rw[A4 c1]at e;exact e
  refine⟨_,rfl,p.a,C,U,l,rfl,W,X.cl,X.nl,(by have:=Y.n;omega),?_⟩;rw[show(12:Int)=((12:Nat):Int)from rfl];generalize (upd u p.a (.ins C U (C3 "least" (.int ((12:Nat):Int)) l)))=H1 at J Z aa n1 ⊢;have ab:=Z;obtain⟨qa,qi,qk,ac,qj,qp,qs,ql,r⟩:=q;obtain⟨⟨dq,ad,ae,af⟩,ay,az⟩:=L0.mp ab;obtain⟨ba,bb,ag,ah⟩:=J.no;rw[BH8]at ag;have q2:r.length<=2:=q2;refine⟨_,rfl,(by show 1<=sizeLine;omega),fun l0 bc=>?_⟩;have s2:Same H1 (upd H1 l0 (.lst [V.ref p.a])):=B5 bc;have e2:(upd H1 l0 (.lst [V.ref p.a])) l0=some (.lst [V.ref p.a]):=A1;generalize (upd H1 l0 (.lst [V.ref p.a]))=H2 at s2 e2 ⊢;refine⟨_,rfl,qa,C,dq,ad,_,rfl,s2 _ _ ae,X.cl,X.nc,af.il,l0,qi,_,_,rfl,rfl,e2,s2 _ _ ay,(by simp[B2];omega),fun b G=>?_⟩;have s4:Same H2 (upd H2 b (.lst ([V.ref p.a]++B2 r))):=B5 G;have e4:(upd H2 b (.lst ([V.ref p.a]++B2 r))) b=some (.lst (V.ref p.a::B2 r)):=A1;generalize (upd H2 b (.lst ([V.ref p.a]++B2 r)))=H4 at s4 e4 ⊢;have v:=s2.trans s4;refine⟨_,rfl,qa,C,dq,ad,_,rfl,v _ _ ae,X.cl,X.nj,af.j,"POST",b,_,_,p.a,B2 r,_,rfl,e4,⟨ba,bb,v _ _ ag,ah⟩,fun H5 a5 L ai s5=>?_⟩;have M:=v.trans s5;have bd:a5≠b:=fun z=>by rw[z,e4]at L;cases L
  have be:(p.setLe 12).rc.i=(p.i:Nat):=by rw[(AK9 _).1,(BX1 p _).1]
  rw[be]at ai;refine⟨_,.mk a5 b .POST p.i qj false 12 0 (p.setLe 12::r),rfl,I.post (q:=.mk qa qi qk ac qj qp qs ql r) (n1 _ (v.free L)) (n1 _ (s2.free G)) bd ?_ fun c o n e=>M _ _ (aa c o n e),?_⟩
  ·refine L0.mpr ⟨ai,?_,E5.mpr fun t ht=>?_⟩
   ·rw[s5 _ _ e4];show some (HO.lst (V.ref p.a::B2 r))=some (HO.lst (V.ref (p.setLe 12).a::B2 r));rw[BH8]
   ·rcases AK.mp ht with rfl |ht
    ·exact J.keep _ fun x _ o e=>M _ _ e
    ·exact(E5.mp az t ht).keep _ fun x _ o e=>M _ _ e
  ·rw[av,AV,Cq,←hp];show _=J3 (er p) (er (.mk qa qi qk ac qj qp qs ql r));unfold J3;rw[V9,V9,Ah,BC5,(A95 p).2.1];rfl
 ·rintro σ u ⟨v2,p,rfl,I,hp⟩;have aj:(B2 g).length=g.length:=by simp[B2]
  rw[aj,EA]at I;rw[aj,Be]at hp;have nd:=I.nd;have ak:=I.sub;rw[F4,AE]at nd ak;refine⟨_,rfl,h u p ⟨I.ap,hp,nd,fun b G=>?_,fun b o G e=>I.kp b o (fun q=>G ?_) e⟩⟩
  ·rcases ak b G with q |q
   ·exact .inl (by rw[F6];exact AC _ (AC _ q))
   ·exact .inr q
  ·rw[F6];exact AC _ (AC _ q)
end
noncomputable def Bw3 (y:Sy):Bool:=decide (y=.kept 15∨y=.kept 12∨y=.kept 13)
noncomputable def Bn4 (y:Sy):Bool:=decide (y=.sign 10∨y=.sign 17∨y=.sign 18)
theorem BV2:∀y∈J5,inV (.str (B1 y)) (BY5.map V.str)=Bw3 y:=by decide+kernel
theorem BR0:∀y∈J5,inV (.str (B1 y)) (BY2.map V.str)=Bn4 y:=by decide+kernel
theorem BP3:∀y∈J5,decide (V.str (B1 y)=V.str "(")=decide (y=.sign 27):=by decide+kernel
theorem A45:(BY5.map V.str).all T5=true:=by decide+kernel
theorem A81:(BY2.map V.str).all T5=true:=by decide+kernel
theorem Aq9 (k:Kd):decide (V.str (L7 k)=V.str "SIZE")=decide (k=.n .SIZE):=by
 cases k with
 |n x=>cases x<;>decide+kernel
 |_=>decide+kernel
theorem Bz0 (k:Kd):decide (V.str (L7 k)=V.str "E")=decide (k=.n .E):=by
 cases k with
 |n x=>cases x<;>decide+kernel
 |_=>decide+kernel
theorem Br9 (k:Kd):decide (V.str (L7 k)=V.str "OR")=decide (k=.n .OR):=by
 cases k with
 |n x=>cases x<;>decide+kernel
 |_=>decide+kernel
theorem Bj8 (k:Kd):decide (V.str (L7 k)=V.str "ONE")=decide (k=.n .ONE):=by
 cases k with
 |n x=>cases x<;>decide+kernel
 |_=>decide+kernel
theorem BS9 (k:Kd):decide (V.str (L7 k)=V.str "ATOM")=decide (k=.n .ATOM):=by
 cases k with
 |n x=>cases x<;>decide+kernel
 |_=>decide+kernel
theorem AtT.root {C a f h:AI}{H:Hp}{k:Kd}{i j:Nat}{p:Bool}{s l:Nat}{c:List LT}{fs:List (Str×V)}(g:H f=some (.lst (B2 c)))(m:AtL C H c)(d:a∉f::fps c)(n:NF fs ⟨f,L7 k,i,j,p,s,l⟩):AtT C (upd H a (.ins C h fs)) (.mk a f k i j p s l c):=by
 refine L0.mpr ⟨⟨h,_,A1,n⟩,?_,AtL.keep c m fun b r o e=>?_⟩
 ·rw[A4 (fun q=>d (by rw[q];exact AG ..))];exact g
 ·rw[A4 (fun q=>d (by rw[←q];exact AC _ r))];exact e
theorem AV5 (e:er t=.mk k0 i j false 13 0 x):∃a b,t=.mk a b k0 i j false 13 0 t.c:=by obtain⟨a,b,k,d,f,p,s,l,c⟩:=t;rw[V9]at e;injection e with e1 e2 e3 e4 e5 e6 e7;subst e1 e2 e3 e4 e5 e6;exact⟨a,b,rfl⟩
theorem Z3 (h:AtT C H' (.mk a il k i j p s l c'))(d:fps c'=fps c)(f:(fp (.mk a il k0 i0 j0 p0 s0 l0 c)).Nodup)(e:Nd.mk k i j p s l (c'.map er)=n)(m:∀b o,b∉fp (.mk a il k0 i0 j0 p0 s0 l0 c)->H b=some o->H' b=some o):A33 C H H' (.mk a il k0 i0 j0 p0 s0 l0 c) (.mk a il k i j p s l c') n:=by
 refine⟨h,by rw[V9];exact e,?_,fun b g=>.inl ?_,m⟩
 ·rw[F6,d];rw[F6]at f;exact f
 ·rw[F6,d]at g;rw[F6];exact g
noncomputable def mfE (a:Nat->Sy)(_:Nat)(o:Op)(j:Nat):Option Nd:=Bn7 a o j
noncomputable def Bl8 (a:Nat->Sy)(_:Nat)(o:Op)(j:Nat):Option Nd:=Ai4 a o j
noncomputable def Bw8 (a:Nat->Sy)(_:Nat)(o:Op)(j:Nat):Option Nd:=AP4 a o j (if o.k=.n .SIZE then 13 else 0)
section
variable {P:Af} {w:Ap} {K:AA} {mg:Str->Option AH} {base:BR}
theorem BH9:B7 ["node","symbols","condition"] ["node","symbols"] (A8 Z1):=fsc
theorem BQ5 (F:Fun K "finished_e" "finished_e" Z1 f fd)(X:NdC K mg C)(T:TxO P w K mg):D6 P w K mg base CX0 1 f fd ["node","symbols"] (Y0 C mfE):=by
 obtain⟨aS,aa,ab⟩:=T.sums;refine F.oK BH9 fun an A ac s H vs Q E hr h=>?_;obtain⟨t,sl,r,N,n,k0,rfl,hT,I,ao,hS,ad,S,ae,af,d,h⟩:=h;refine⟨_,A2 (D9 (B4 L9 (G7 D4 (pv 1) (A9 (pv 0) rfl) (fun _ _=>rfl)) (R0 aa) rfl)
   (A2 (D0 (pv 0) C7 rfl) (A2 (D0 (pv 0) (F2 X.sumS) rfl) (A3 (B6 (pv 0))))) C4)
  (A2 (D9 (B4 J0 (F1 C5 (by rfl) T.len BP (A0 (A9 (pv 0) rfl) A6)) B0 (C1 _)) (A3 (B6 (G7 D4 (A9 (pv 0) rfl) B0 (fun _ _=>rfl)))) C4)
  (A2 (C9 (i:=2) BH9.nd rfl (Or.inl rfl) (G7 D4 (A9 (pv 0) rfl) B0 (fun _ _=>rfl)))
  (A2 (D0 (pv 2) (R9 V7 (F2 X.choS) B0) rfl)
  (A2 (D0 (pv 0) C7 rfl) (A2 (D0 (pv 0) (F2 X.choS) rfl) (A3 (B6 (pv 0)))))))),?_⟩
 have sz:=BA;obtain⟨a,J,Z⟩:=AV5 af;generalize t.c=c at Z ae d;generalize t.i=i at Z S d;generalize t.j=j at Z d;subst Z;obtain⟨⟨B,O,R,D⟩,l,hc⟩:=L0.mp hT;have U:=I;rw[F6,Am,Am]at I;obtain⟨L,ag,u⟩:=I;obtain⟨xs,ah,ai⟩:=SyAt.at hS S;have d:Bn7 r ⟨k0,i,c.map er⟩ j=some n:=d;refine⟨_,rfl,_,rfl,a,C,B,O,_,rfl,R,X.cl,X.ni,D.i,sl,_,_,_,rfl,rfl,SqL.of ah,E9 ai,aS,_,rfl,.inr (ab _),rfl,A45,_,rfl,?_⟩;rw[show(if false=true then !inV (V.str (B1 (r i))) (BY5.map V.str)else inV (V.str (B1 (r i))) (BY5.map V.str))=Bw3 (r i)from BV2 _ (ad i)];refine G5 (fun q=>?_) (fun q=>?_)
 ·have q:r i=.kept 15∨r i=.kept 12∨r i=.kept 13:=of_decide_eq_true q;have d:some (Nd.mk .SUM i j false 0 0 (c.map er))=some n:=by rw[←d];exact(AL q).symm
  injection d with d;refine⟨_,rfl,a,C,B,O,rfl,R,X.cl,X.nk,(by have:=D.n;omega),?_⟩;have m:=D.setK "SUM";refine⟨_,rfl,a,C,B,_,rfl,A1,X.cl,X.ns,(by have:=m.n;omega),?_⟩;have M:=m.setS 0;rw[L5];refine⟨_,rfl,h _ (.mk a J .SUM i j false 0 0 c) (Z3 (AtT.root l hc L M) rfl U d fun b o G e=>?_)⟩;rw[A4 (fun q=>G (by rw[q,F6];exact AG ..))];exact e
 ·have q:¬(r i=.kept 15∨r i=.kept 12∨r i=.kept 13):=fun z=>q (AR z);cases c with
  |nil=>exact absurd (d.symm.trans (AD q)) (fun z=>by cases z)
  |cons k g=>
  have d:(if(g.map er).isEmpty=true then some (er k)else some (Nd.mk .CHOICE i j false 1 0 ((er k).setLe 2::g.map er)))=some n:=by rw[←d];exact(AD q).symm
  have v:AtT C H k/\AtL C H g:=by unfold AtL at hc;exact hc
  rw[B3,BE]at u;refine⟨_,rfl,a,C,B,O,_,rfl,R,X.cl,X.nc,D.il,J,_,rfl,.inl (SqL.of l),rfl,_,rfl,G5 (fun z=>?_) (fun z=>?_)⟩
  ·have z:g=[]:=by
    have z:V.int ((B2 (k::g)).length:Nat)=V.int 1:=of_decide_eq_true z;injection z with z;have:(B2 (k::g)).length=g.length+1:=by simp[B2]
    rw[this]at z;exact DT.mp (by omega)
   subst z;have d:some (er k)=some n:=d;injection d with d;refine⟨_,rfl,a,C,B,O,_,rfl,R,X.cl,X.nc,D.il,J,_,_,_,rfl,rfl,SqL.of l,E9 (j:=0) rfl,h H k ⟨v.1,d,u.1,fun b G=>.inl ?_,fun b o _ e=>e⟩⟩;rw[F6,B3];exact AC _ (AC _ (AU _ G))
  ·have z:g≠[]:=fun y=>z (by subst y;rfl);have d:Nd.mk .CHOICE i j false 1 0 ((er k).setLe 2::g.map er)=n:=by rw[AD (by cases g with |nil=>exact(z rfl).elim |cons x y=>simp)]at d;injection d
   refine⟨_,rfl,a,C,B,O,_,rfl,R,X.cl,X.nc,D.il,J,_,_,_,rfl,rfl,SqL.of l,E9 (j:=0) rfl,?_⟩;obtain⟨d0,f0,h0,W⟩:=v.1.no;refine⟨_,_,rfl,rfl,_,rfl,k.a,C,d0,f0,rfl,h0,X.cl,X.nl,(by have:=W.n;omega),?_⟩;rw[show V.int ((1:Int)+1)=V.int ((2:Nat):Int)from rfl];have Y:=v.1.setLe u.1 h0 W 2;have aj:a≠k.a:=fun y=>L (by rw[y,B3];exact AC _ (AU _ (F7 k)));have ak:J≠k.a:=fun y=>ag (by rw[y,B3];exact AU _ (F7 k));have p:∀c o,c≠k.a->H c=some o->(upd H k.a (.ins C d0 (C3 "least" (.int ((2:Nat):Int)) f0))) c=some o:=fun c o n e=>by rw[A4 n];exact e
   generalize (upd H k.a (.ins C d0 (C3 "least" (.int ((2:Nat):Int)) f0)))=H1 at Y p ⊢;refine⟨_,rfl,a,C,B,O,rfl,p _ _ aj R,X.cl,X.nk,(by have:=D.n;omega),?_⟩;have m:=D.setK "CHOICE";refine⟨_,rfl,a,C,B,_,rfl,A1,X.cl,X.ns,(by have:=m.n;omega),?_⟩;have M:=m.setS 1;rw[L5];have ef:fps (k.setLe 2::g)=fps (k::g):=by rw[B3,B3,AS3]
   have al:H1 J=some (.lst (B2 (k.setLe 2::g))):=by rw[p _ _ ak l];show some (HO.lst (V.ref k.a::B2 g))=some (HO.lst (V.ref (k.setLe 2).a::B2 g));rw[BH8]
   have am:AtL C H1 (k.setLe 2::g):=by unfold AtL;exact⟨Y,AtL.keep g v.2 fun b G o e=>p b o (fun y=>u.2.2 _ (F7 k) b G y.symm) e⟩
   refine⟨_,rfl,h _ (.mk a J .CHOICE i j false 1 0 (k.setLe 2::g)) (Z3 (AtT.root al am (by rw[ef];exact L) M) ef U ?_ fun b o G e=>?_)⟩
   ·rw[Ah,BC5];exact d
   ·have n1:b≠a:=fun y=>G (by rw[y,F6];exact AG ..);have n2:b≠k.a:=fun y=>G (by rw[y,F6,B3];exact AC _ (AC _ (AU _ (F7 k))));rw[A4 n1];exact p b o n2 e
theorem Ac8:B7 ["node","symbols","operand"] ["node","symbols"] (A8 S8):=fsc
theorem Ao5 {C f fA fP:AI}{fd aa I:BK}(F:Fun K "finished_one" "finished_one" S8 f fd)(X:NdC K mg C)(T:TxO P w K mg)(NA:Fn K mg "node_around" K2 ["kind","inner","behind","strength"] fA aa)(NP:Fn K mg "folded_post" R3 ["node"] fP I):
  D6 P w K mg base CX0 5 f fd ["node","symbols"] (Y0 C Bl8):=by
 have GP:D6 P w K mg base CX0 4 fP I ["node"] (An5 C):=AN8 NP.F X NA;obtain⟨aS,ab,ac⟩:=T.ones;refine F.oK Ac8 fun ao A ad s H vs Q E hr h=>?_;obtain⟨t,sl,r,N,n,k0,rfl,hT,v,ap,hS,ae,J,B,af,d,h⟩:=h;refine⟨_,A2 (D9 (B4 x5 (G7 D4 (pv 1) (A9 (pv 0) rfl) (fun _ _=>rfl)) (R0 ab) rfl)
   (A3 (B6 (D5 NP GP hr (A0 (pv 0) A6)))) C4)
  (A2 (C9 (i:=2) Ac8.nd rfl (Or.inl rfl) (G7 D4 (A9 (pv 0) rfl) B0 (fun _ _=>rfl)))
  (A2 (D0 (pv 2) (F2 X.sgnS) rfl)
  (A2 (D0 (pv 0) C7 rfl) (A2 (D0 (pv 0) (F2 X.sgnS) rfl) (A3 (B6 (pv 0))))))),?_⟩
 have sz:=BA;obtain⟨a,W,Y⟩:=AV5 af;generalize t.c=c at Y B d;generalize t.i=i at Y J d;generalize t.j=j at Y d;subst Y;obtain⟨⟨Z,fs,ha,nf⟩,L,hc⟩:=L0.mp hT;have M:=v;rw[F6,Am,Am]at v;obtain⟨O,ag,D⟩:=v;obtain⟨xs,ah,ai⟩:=SyAt.at hS J;cases c with
 |nil=>cases d
 |cons m g=>
 have d:(if r i=.sign 10∨r i=.sign 17∨r i=.sign 18 then some (Nd.mk .SIGNED i j false 11 0 ((er m).setLe 11::g.map er))else if(g.map er).all (fun q=>decide (q.c.length<=2))=true then some ((g.map er).foldl J3 (er m))else none)=some n:=d;have G:AtT C H m/\AtL C H g:=by unfold AtL at hc;exact hc
 rw[B3,BE]at D;refine⟨_,rfl,_,rfl,a,C,Z,fs,_,rfl,ha,X.cl,X.ni,nf.i,sl,_,_,_,rfl,rfl,SqL.of ah,E9 ai,aS,_,rfl,.inr (ac _),rfl,A81,_,rfl,?_⟩;rw[show(if true=true then !inV (V.str (B1 (r i))) (BY2.map V.str)else inV (V.str (B1 (r i))) (BY2.map V.str))= !Bn4 (r i)from Bh (fun z=>!z) (BR0 _ (ae i))];refine G5 (fun q=>?_) (fun q=>?_)
 ·have q:¬(r i=.sign 10∨r i=.sign 17∨r i=.sign 18):=fun z=>by rw[show Bn4 (r i)=true from AR z]at q;cases q
  rw[AD q]at d;by_cases q2:(g.map er).all (fun q=>decide (q.c.length<=2))=true
  ·rw[AL q2]at d;injection d with d;subst d;have h2:∀x∈g,x.c.length<=2:=fun x hx=>by have:=of_decide_eq_true (BO.mp q2 (er x) (BN.mpr ⟨x,hx,rfl⟩));obtain⟨xa,xi,k,i',j',p,s,l,c⟩:=x;rw[V9]at this;show c.length<=2;have this:(c.map er).length<=2:=this;rw[AJ]at this;exact this
   have B:g.length+1<=100001:=B;exact⟨_,rfl,_,m,g,rfl,hT,M,rfl,(by omega),h2,fun H' t' o=>h H' t' o⟩
  ·rw[AD q2]at d;cases d
 ·have q:r i=.sign 10∨r i=.sign 17∨r i=.sign 18:=by
   cases e:Bn4 (r i)with
   |true=>exact of_decide_eq_true e
   |false=>rw[e]at q;exact(q rfl).elim
  rw[AL q]at d;injection d with d;refine⟨_,rfl,a,C,Z,fs,_,rfl,ha,X.cl,X.nc,nf.il,W,_,_,_,rfl,rfl,SqL.of L,E9 (j:=0) rfl,?_⟩;obtain⟨d0,f0,h0,R⟩:=G.1.no;refine⟨_,rfl,m.a,C,d0,f0,rfl,h0,X.cl,X.nl,(by have:=R.n;omega),?_⟩;rw[show(11:Int)=((11:Nat):Int)from rfl];have S:=G.1.setLe D.1 h0 R 11;have aj:a≠m.a:=fun y=>O (by rw[y,B3];exact AC _ (AU _ (F7 m)));have ak:W≠m.a:=fun y=>ag (by rw[y,B3];exact AU _ (F7 m));have u:∀c o,c≠m.a->H c=some o->(upd H m.a (.ins C d0 (C3 "least" (.int ((11:Nat):Int)) f0))) c=some o:=fun c o n e=>by rw[A4 n];exact e
  generalize (upd H m.a (.ins C d0 (C3 "least" (.int ((11:Nat):Int)) f0)))=H1 at S u ⊢;refine⟨_,rfl,a,C,Z,fs,rfl,u _ _ aj ha,X.cl,X.nk,(by have:=nf.n;omega),?_⟩;have U:=nf.setK "SIGNED";refine⟨_,rfl,a,C,Z,_,rfl,A1,X.cl,X.ns,(by have:=U.n;omega),?_⟩;have al:=U.setS ((11:Nat):Int);rw[L5];have ef:fps (m.setLe 11::g)=fps (m::g):=by rw[B3,B3,AS3]
  have am:H1 W=some (.lst (B2 (m.setLe 11::g))):=by rw[u _ _ ak L];show some (HO.lst (V.ref m.a::B2 g))=some (HO.lst (V.ref (m.setLe 11).a::B2 g));rw[BH8]
  have an:AtL C H1 (m.setLe 11::g):=by unfold AtL;exact⟨S,AtL.keep g G.2 fun b hb o e=>u b o (fun y=>D.2.2 _ (F7 m) b hb y.symm) e⟩
  refine⟨_,rfl,h _ (.mk a W .SIGNED i j false 11 0 (m.setLe 11::g)) (Z3 (AtT.root am an (by rw[ef];exact O) al) ef M ?_ fun b o hb e=>?_)⟩
  ·rw[Ah,BC5];exact d
  ·have n1:b≠a:=fun y=>hb (by rw[y,F6];exact AG ..);have n2:b≠m.a:=fun y=>hb (by rw[y,F6,B3];exact AC _ (AC _ (AU _ (F7 m))));rw[A4 n1];exact u b o n2 e
theorem BX9:B7 ["node","symbols"] ["node","symbols"] (A8 J2):=fsc
theorem A71 (F:Fun K "finished_atom_or_size" "finished_atom_or_size" J2 f fd)(X:NdC K mg C):D6 P w K mg base CX0 1 f fd ["node","symbols"] (Y0 C Bw8):=by
 refine F.oK BX9 fun aj A Z s H vs Q E hr h=>?_;obtain⟨t,sl,T,N,n,m,rfl,hT,D,ak,hS,aa,O,ab,ac,d,h⟩:=h;refine⟨_,A2 (D9 (B4 J0 (G7 D4 (pv 1) (A9 (pv 0) rfl) (fun _ _=>rfl)) C7 (C1 _))
   (A2 (D0 (pv 0) (U9 (B4 J0 (A9 (pv 0) rfl) C7 (C1 _)) (F2 X.wrdS) (F2 X.sumS)) rfl)
   (A2 (D0 (pv 0) AP9 rfl)
   (A3 (D0 (pv 0) (A9 (G7 D4 (A9 (pv 0) rfl) B0 (fun _ _=>rfl)) rfl) rfl))))
   (A3 (D9 (B4 AG2 (R9 AF1 (A9 (pv 0) rfl) (A9 (pv 0) rfl)) B0 (C1 _)) (A3 (D0 (pv 0) (F2 X.pstS) rfl)) C4)))
  (A3 (B6 (pv 0))),?_⟩
 have sz:=BA;obtain⟨a,R,U⟩:=AV5 ac;generalize t.c=c at U ab d;generalize t.i=i at U O d;generalize t.j=j at U d;subst U;obtain⟨⟨p,L,M,x⟩,G,W⟩:=L0.mp hT;have I:=D;rw[F6,Am,Am]at D;obtain⟨r,al,am⟩:=D;obtain⟨xs,ad,ae⟩:=SyAt.at hS O;refine⟨_,rfl,_,rfl,a,C,p,L,_,rfl,M,X.cl,X.ni,x.i,sl,_,_,_,rfl,rfl,SqL.of ad,E9 ae,rfl,_,rfl,?_⟩;rw[show decide (V.str (B1 (T i))=V.str "(")=decide (T i=.sign 27)from BP3 _ (aa i)];refine G5 (fun q=>?_) (fun q=>?_)
 ·have q:T i=.sign 27:=of_decide_eq_true q;cases c with
  |nil=>exact absurd (d.symm.trans (AL q)) (fun z=>by cases z)
  |cons g l=>
  have d:some (Nd.mk m i j true (er g).st (if m=.n .SIZE then 13 else 0) (er g::l.map er))=some n:=by rw[←d];exact(AL q).symm
  injection d with d;rw[(A95 g).2.2.2]at d;have af:AtT C H g/\AtL C H l:=by unfold AtL at W;exact W
  obtain⟨d0,f0,h0,ag⟩:=af.1.no;have ah:g.a≠a:=fun y=>r (by rw[←y,B3];exact AC _ (AU _ (F7 g)));have ai:R≠a:=fun y=>r (by rw[y];exact AG ..);have B:∀v:Nat,v=(if m=.n .SIZE then 13 else 0)->An3 (BY6 K (Q8 0) (tC (V.int (v:Nat))) "least") (An3 (BY6 K (Q8 0) (tC (V.bl true)) "is_pair") (BY6 K (Q8 0) (Ak1 K (tOp (Bl5 K) (Ak1 K (Q8 0) "inner") (tC (V.int 0))) "strength") "strength")) {nx:=BT8 (Q8 0) {nx:=fun _ H'=>Q .non H',rt:=Q},rt:=Q} [some (.ref a),some (.ref sl)] H:=by
   intro v hv;refine⟨_,rfl,a,C,p,L,rfl,M,X.cl,X.nl,(by have:=x.n;omega),?_⟩;have u:=x.setL ((v:Nat):Int);refine⟨_,rfl,a,C,p,_,rfl,A1,X.cl,X.np,(by have:=u.n;omega),?_⟩;have J:=u.setP true;rw[L5];refine⟨_,rfl,a,C,p,_,_,rfl,A1,X.cl,X.nc,J.il,R,_,_,_,rfl,rfl,SqL.of (by rw[A4 ai];exact G),E9 (j:=0) rfl,g.a,C,d0,f0,_,rfl,(by rw[A4 ah];exact h0),X.cl,X.ns,ag.s,?_⟩;refine⟨_,rfl,a,C,p,_,rfl,A1,X.cl,X.ns,(by have:=J.n;omega),?_⟩;have S:=J.setS g.rc.s;rw[L5];rw[(AK9 g).2.2.1]at S ⊢;refine⟨_,rfl,h _ (.mk a R m i j true g.s v (g::l)) (Z3 (AtT.root G W r S) rfl I ?_ fun b o Y e=>?_)⟩
   ·rw[hv];exact d
   ·rw[A4 (fun q=>Y (by rw[q,F6];exact AG ..))];exact e
  refine⟨_,rfl,a,C,p,L,_,rfl,M,X.cl,X.nk,x.k,rfl,_,rfl,?_⟩;rw[show decide (V.str (L7 m)=V.str "SIZE")=decide (m=.n .SIZE)from Aq9 m];refine G5 (fun z=>?_) (fun z=>?_)
  ·exact B 13 (AL (of_decide_eq_true z)).symm
  ·exact B 0 (AD (fun y=>z (AR y))).symm
 ·have q:¬T i=.sign 27:=fun z=>q (AR z);have d:some (Nd.mk m i j false (if 1<j-i then 12 else 13) 0 (c.map er))=some n:=by rw[←d];exact(AD q).symm
  injection d with d;refine⟨_,rfl,a,C,p,L,_,rfl,M,X.cl,X.nj,x.j,_,rfl,a,C,p,L,_,rfl,M,X.cl,X.ni,x.i,_,_,rfl,rfl,_,_,rfl,rfl,_,rfl,G5 (fun z=>?_) (fun z=>?_)⟩
  ·have z:(1:Int)<(j:Nat)-(i:Nat):=of_decide_eq_true z;rw[AL (by omega)]at d;refine⟨_,rfl,a,C,p,L,rfl,M,X.cl,X.ns,(by have:=x.n;omega),?_⟩;have u:=x.setS ((12:Nat):Int);refine⟨_,rfl,h _ (.mk a R m i j false 12 0 c) (Z3 (AtT.root G W r u) rfl I d fun b o Y e=>?_)⟩;rw[A4 (fun q=>Y (by rw[q,F6];exact AG ..))];exact e
  ·have z:¬(1:Int)<(j:Nat)-(i:Nat):=fun y=>z (AR y);rw[AD (by omega)]at d;exact⟨_,rfl,h _ (.mk a R m i j false 13 0 c) (Z3 hT rfl I d fun b o Y e=>e)⟩
end
noncomputable def Bi1 (a:Nat->Sy)(N:Nat)(o:Op)(j:Nat):Option Nd:=fin a N o j
structure TrF (K:AA)(mg:Str->Option AH):Prop where
 ar:∃f fd,Fn K mg "node_around" K2 ["kind","inner","behind","strength"] f fd
 jl:∃f fd,Fn K mg "join_last" X6 ["operands","strengths"] f fd
 fo:∃f fd,Fn K mg "folded_operators" L4 ["node","symbols"] f fd
 po:∃f fd,Fn K mg "folded_post" R3 ["node"] f fd
 e:∃f fd,Fn K mg "finished_e" Z1 ["node","symbols"] f fd
 one:∃f fd,Fn K mg "finished_one" S8 ["node","symbols"] f fd
 at_:∃f fd,Fn K mg "finished_atom_or_size" J2 ["node","symbols"] f fd
section
variable {P:Af} {w:Ap} {K:AA} {mg:Str->Option AH} {base:BR}
theorem Aj3:B7 ["node","symbols"] ["node","symbols"] (A8 W0):=fsc
theorem AY7 (F:Fun K "finished" "finished" W0 f fd)(X:NdC K mg C)(T:TxO P w K mg)(W:TrF K mg):D6 P w K mg base CX0 6 f fd ["node","symbols"] (Y0 C Bi1):=by
 obtain⟨fA,dA,S⟩:=W.ar;obtain⟨fJ,dJ,NJ⟩:=W.jl;obtain⟨fO,dO,U⟩:=W.fo;obtain⟨fP,dP,NP⟩:=W.po;obtain⟨fE,dE,Y⟩:=W.e;obtain⟨f1,d1,Z⟩:=W.one;obtain⟨fT,dT,NT⟩:=W.at_;have GO:D6 P w K mg base CX0 5 fO dO ["node","symbols"] (Y0 C Bx4):=Au7 U.F X T S NJ;have GE:D6 P w K mg base CX0 1 fE dE ["node","symbols"] (Y0 C mfE):=BQ5 Y.F X T;have G1:D6 P w K mg base CX0 5 f1 d1 ["node","symbols"] (Y0 C Bl8):=Ao5 Z.F X T S NP;have GT:D6 P w K mg base CX0 1 fT dT ["node","symbols"] (Y0 C Bw8):=A71 NT.F X;refine F.oK Aj3 fun ab A O s H vs Q E R h=>?_;obtain⟨t,D,y,N,n,g,rfl,x,m,p,G,r,u,v,l,d,h⟩:=h;have I:Room 1 _:=R.mono (by decide);refine⟨_,A2 (D9 (B4 J0 (A9 (pv 0) rfl) C7 (C1 _)) (A3 (B6 (D5 Y GE I (A0 (pv 0) (A0 (pv 1) A6))))) C4)
  (A2 (D9 (B4 J0 (A9 (pv 0) rfl) C7 (C1 _)) (A3 (B6 (D5 U GO R (A0 (pv 0) (A0 (pv 1) A6))))) C4)
  (A2 (D9 (B4 J0 (A9 (pv 0) rfl) C7 (C1 _)) (A3 (B6 (D5 Z G1 R (A0 (pv 0) (A0 (pv 1) A6))))) C4)
  (A2 (D9 (PW.pt (A43 (B4 J0 (A9 (pv 0) rfl) C7 (C1 _)) (Aa9 (B4 J0 (A9 (pv 0) rfl) C7 (C1 _))))) (A3 (B6 (D5 NT GT I (A0 (pv 0) (A0 (pv 1) A6))))) C4)
  (A3 (B6 (pv 0)))))),?_⟩
 have ac:=x;have aa:=l;obtain⟨a,il,et⟩:=AV5 l;have ec:t.c=t.c:=rfl;obtain⟨J,L,M,nf⟩:=x.no;have ek:t.rc.k=L7 g:=by rw[et];rfl
 have B:=nf.k;rw[ek]at B;have d:fin y N ⟨g,t.i,t.c.map er⟩ t.j=some n:=d;unfold fin at d;dsimp only at d;refine⟨_,rfl,t.a,C,J,L,_,rfl,M,X.cl,X.nk,B,rfl,_,rfl,?_⟩;rw[show decide (V.str (L7 g)=V.str "E")=decide (g=.n .E)from Bz0 g];refine G5 (fun q=>?_) (fun q=>?_)
 ·rw[AL (of_decide_eq_true q)]at d;exact⟨_,rfl,_,rfl,t,D,y,N,n,g,rfl,x,m,p,G,r,u,v,l,d,h⟩
 rw[AD (fun z=>q (AR z))]at d;refine⟨_,rfl,t.a,C,J,L,_,rfl,M,X.cl,X.nk,B,rfl,_,rfl,?_⟩;rw[show decide (V.str (L7 g)=V.str "OR")=decide (g=.n .OR)from Br9 g];refine G5 (fun q=>?_) (fun q=>?_)
 ·rw[AL (of_decide_eq_true q)]at d;exact⟨_,rfl,_,rfl,t,D,y,N,n,g,rfl,x,m,p,G,r,u,v,l,d,h⟩
 rw[AD (fun z=>q (AR z))]at d;refine⟨_,rfl,t.a,C,J,L,_,rfl,M,X.cl,X.nk,B,rfl,_,rfl,?_⟩;rw[show decide (V.str (L7 g)=V.str "ONE")=decide (g=.n .ONE)from Bj8 g];refine G5 (fun q=>?_) (fun q=>?_)
 ·rw[AL (of_decide_eq_true q)]at d;exact⟨_,rfl,_,rfl,t,D,y,N,n,g,rfl,x,m,p,G,r,u,v,l,d,h⟩
 rw[AD (fun z=>q (AR z))]at d;refine⟨_,rfl,t.a,C,J,L,_,rfl,M,X.cl,X.nk,B,rfl,_,rfl,?_⟩;rw[show decide (V.str (L7 g)=V.str "ATOM")=decide (g=.n .ATOM)from BS9 g];refine G5 (fun q=>?_) (fun q=>?_)
 ·have q:=of_decide_eq_true q;rw[AL q]at d;refine AS0 ⟨_,rfl,_,rfl,t,D,y,N,n,g,rfl,x,m,p,G,r,u,v,l,?_,h⟩;subst q;exact d
 rw[AD (fun z=>q (AR z))]at d;refine⟨_,rfl,t.a,C,J,L,_,rfl,M,X.cl,X.nk,B,rfl,_,rfl,?_⟩;rw[show decide (V.str (L7 g)=V.str "SIZE")=decide (g=.n .SIZE)from Aq9 g];refine G5 (fun q=>?_) (fun q=>?_)
 ·have q:=of_decide_eq_true q;rw[AL q]at d;refine⟨_,rfl,_,rfl,t,D,y,N,n,g,rfl,x,m,p,G,r,u,v,l,?_,h⟩;subst q;exact d
 rw[AD (fun z=>q (AR z))]at d;injection d with d;exact⟨_,rfl,h H t ⟨x,by rw[l];exact d,m,fun b hb=>.inl hb,fun b o _ e=>e⟩⟩
end
def FR (C:AI)(H:Hp)(a:AI)(x y:Str)(n d:Int):Prop:=∃c b,H a=some (.ins C c b)/\b.lookup ("form":Str)=some (.str x)/\b.lookup ("symbol":Str)=some (.str y)/\b.lookup ("room":Str)=some (.int n)/\b.lookup ("depth":Str)=some (.int d)
inductive AB2 (C:AI) (vs:List V) (H:Hp) (Q:VK) (E:XK):Prop
 |mk:∀(p dx:AI) (x y:Str) (n d:Int),vs=[.ref p,.str x,.str y,.int n,.int d]->H p=some (.ins C dx [])->(∀H':Hp,FR C H' p x y n d->(∀b o,H b=some o->b≠p->H' b=some o)->Q .non H')->AB2 C vs H Q E
structure FrC (K:AA)(mg:Str->Option AH)(C fI:AI)(fdI:BK):Prop where
 M:Mk K C fI
 cl:Cls K C
 n1:NoAttr K C "form"
 n2:NoAttr K C "symbol"
 n3:NoAttr K C "room"
 n4:NoAttr K C "depth"
 mgC:mg "Frame"=some (.ref C)
 F:Fun K "__init__" "Frame.__init__" Aq6 fI fdI
 b:Binds K fdI ["self","form","symbol","room","depth"] []
section
variable {P:Af} {w:Ap} {K:AA} {mg:Str->Option AH} {base:BR}
theorem BM8:B7 ["self","form","symbol","room","depth"] ["self","form","symbol","room","depth"] (A8 Aq6):=fsc
theorem A80 (X:FrC K mg C fI fdI):D6 P w K mg base CX0 1 fI fdI ["self","form","symbol","room","depth"] (AB2 C):=by
 refine X.F.ok BM8 (fun g H Q E h=>?_) (fun i A f s H g Q E l h=>?_)
 ·obtain⟨p,a,x,y,n,d,rfl,_⟩:=h;rfl
 ·obtain⟨p,a,x,y,n,d,rfl,j,k⟩:=h;refine⟨_,A2 (D0 (pv 0) (pv 1) rfl) (A2 (D0 (pv 0) (pv 2) rfl) (A2 (D0 (pv 0) (pv 3) rfl) (A3 (D0 (pv 0) (pv 4) rfl)))),?_⟩;refine⟨_,rfl,_,rfl,p,C,a,[],rfl,j,X.cl,X.n1,(by show 0<1000;decide),?_⟩;refine⟨_,rfl,_,rfl,p,C,a,_,rfl,A1,X.cl,X.n2,(by show 1<1000;decide),?_⟩;refine⟨_,rfl,_,rfl,p,C,a,_,rfl,A1,X.cl,X.n3,(by show 2<1000;decide),?_⟩;refine⟨_,rfl,_,rfl,p,C,a,_,rfl,A1,X.cl,X.n4,(by show 3<1000;decide),?_⟩;refine k _ ⟨a,_,A1,?_,?_,?_,?_⟩ fun b o e c=>?_
  ·exact C0 (by decide) (C0 (by decide) (C0 (by decide) O0))
  ·exact C0 (by decide) (C0 (by decide) O0)
  ·exact C0 (by decide) O0
  ·exact O0
  ·rw[A4 c,A4 c,A4 c,A4 c];exact e
theorem BN8 (O:FrC X.K X.mg C fI fdI)(c:Room 2 X.A)(d:PA X (e::es) t)(f:Gl X "Frame":=by rfl)
  (g:starEach (e::es) X.env=(false,eval e X.env)::starEach es X.env:=by rfl) (a:(backTo pos (starEach es X.env)).any (·.1)=false:=by rfl):PE X (.Call (.Name "Frame" npos) (e::es) [] pos) (Am9 C (AB2 C) [] E0 t):=
 AL5 O.M (A80 O) c f O.mgC O.b .nil Ak2 d (by decide) g a
end
structure RR where
 fo:AI
 sl:AI
 d:AI
 pg:AI
 bl:AI
 fl:AI
structure RFl (fs:List (Str×V))(R:RR)(a f:Int):Prop where
 n:fs.length<=100
 fo:fs.lookup ("found":Str)=some (.ref R.fo)
 sl:fs.lookup ("symbols":Str)=some (.ref R.sl)
 d:fs.lookup ("ways":Str)=some (.ref R.d)
 a:fs.lookup ("at":Str)=some (.int a)
 f:fs.lookup ("fault":Str)=some (.int f)
 pg:fs.lookup ("program":Str)=some (.ref R.pg)
 bl:fs.lookup ("begun":Str)=some (.ref R.bl)
 fl:fs.lookup ("frames":Str)=some (.ref R.fl)
def RD (C:AI)(H:Hp)(r:AI)(R:RR)(a f:Int):Prop:=∃c b,H r=some (.ins C c b)/\RFl b R a f
theorem RFl.setF {fs:List (Str×V)}{R:RR}{a f:Int}(h:RFl fs R a f)(v:Int):RFl (C3 "fault" (.int v) fs) R a v:=⟨by rw[Q1 (by rw[h.f];rfl)];exact h.n,C0 (by decide) h.fo,C0 (by decide) h.sl,C0 (by decide) h.d,C0 (by decide) h.a,O0,C0 (by decide) h.pg,C0 (by decide) h.bl,C0 (by decide) h.fl⟩
theorem RFl.setA {fs:List (Str×V)}{R:RR}{a f:Int}(h:RFl fs R a f)(v:Int):RFl (C3 "at" (.int v) fs) R v f:=⟨by rw[Q1 (by rw[h.a];rfl)];exact h.n,C0 (by decide) h.fo,C0 (by decide) h.sl,C0 (by decide) h.d,O0,C0 (by decide) h.f,C0 (by decide) h.pg,C0 (by decide) h.bl,C0 (by decide) h.fl⟩
theorem RD.keep {C:AI}{H H':Hp}{r:AI}{R:RR}{a f:Int}(h:RD C H r R a f)(k:∀o,H r=some o->H' r=some o):RD C H' r R a f:=let ⟨b,c,e,q⟩:=h;⟨b,c,k _ e,q⟩
def FM (C:AI)(H:Hp)(a:AI)(f:Fr):Prop:=∃n:Int,n.toNat=f.room/\FR C H a (A35 f.fm) (K5 f.sb) n (f.dp:Nat)
theorem FR.keep {C:AI}{H H':Hp}{a:AI}{x y:Str}{n d:Int}(h:FR C H a x y n d)(k:∀b fs,H a=some (.ins C b fs)->H' a=some (.ins C b fs)):FR C H' a x y n d:=let ⟨b,fs,e,q⟩:=h;⟨b,fs,k _ _ e,q⟩
theorem FM.keep {C:AI}{H H':Hp}{a:AI}{f:Fr}(h:FM C H a f)(k:∀b fs,H a=some (.ins C b fs)->H' a=some (.ins C b fs)):FM C H' a f:=let ⟨n,e,q⟩:=h;⟨n,e,q.keep k⟩
theorem FMs.keep {C:AI}{H H':Hp}{as:List AI}{fs:List Fr}(h:Paired (FM C H) as fs)(k:∀a b fs,H a=some (.ins C b fs)->H' a=some (.ins C b fs)):Paired (FM C H') as fs:=by
 induction h with
 |nil=>exact .nil
 |cons h _ c=>exact .cons (h.keep (k _)) c
def WY (K:AA)(H:Hp)(d:AI):Prop:=∃a,H d=some (.dT a)/\WT K H a AK3
theorem SqT.same {K:AA}{H H':Hp}{a:AI}{ys:List V}(s:Same H H')(q:SqT K H a ys):SqT K H' a ys:=by
 rcases q with (q |⟨b,q⟩) |q
 ·exact .inl (.inl (s _ _ q))
 ·exact .inl (.inr ⟨b,s _ _ q⟩)
 ·exact .inr q
theorem WY.same {K:AA}{H H':Hp}{d:AI}(h:WY K H d)(s:Same H H'):WY K H' d:=by obtain⟨b,c,e⟩:=h;exact⟨b,s _ _ c,e.keep fun a f q=>SqT.same s q⟩
structure TxR (P:Af)(w:Ap)(K:AA)(mg:Str->Option AH)(CR CF CN:AI):Prop where
 cl:Cls K CR
 nfo:NoAttr K CR "found"
 nsl:NoAttr K CR "symbols"
 nd:NoAttr K CR "ways"
 na:NoAttr K CR "at"
 nf:NoAttr K CR "fault"
 npg:NoAttr K CR "program"
 nbl:NoAttr K CR "begun"
 nfl:NoAttr K CR "frames"
 fr:CF≠CR
 nr:CN≠CR
 fn:CF≠CN
 cant:GI mg "CANT_STAND" 2
 dp:GI mg "TOO_DEEP" 3
 many:GI mg "TOO_MANY" 4
 nott:GI mg "NOT_A_TOKEN" 1
 most:GI mg "MOST_DECLARATIONS" 4096
 deepest:GI mg "DEEPEST" 128
 rules:∃a,mg "RULES_THAT_COUNT_AS_DEEP"=some (.ref a)/\∀H,SqT K H a (AG0.map V.str)
 tree:∃a,mg "RULES_IN_THE_TREE"=some (.ref a)/\∀H,SqT K H a (Am4.map V.str)
 rev:mg "reversed"=none
inductive A51 (K:AA) (CR:AI) (vs:List V) (H:Hp) (Q:VK) (E:XK):Prop
 |mk:∀(r:AI) (R:RR) (a f:Int) (b:Sb) (y:Sy),vs=[.ref r,.str (K5 b),.str (B1 y)]->RD CR H r R a f->WY K H R.d->Vb b->y∈J5->(∀H',Same H H'->Q (.bl (B8 b y)) H')->A51 K CR vs H Q E
section
variable {P:Af} {w:Ap} {K:AA} {mg:Str->Option AH} {base:BR}
theorem Bo5:B7 ["reading","symbol","token"] ["reading","symbol","token"] (A8 Bk6):=fsc
theorem BG6 {f CR n u:AI}{m:BK}(F:Fun K "can_begin" "can_begin" Bk6 f m)(X:TxR P w K mg CR n u):D6 P w K mg base CX0 1 f m ["reading","symbol","token"] (A51 K CR):=by
 refine F.oK Bo5 fun v A j s H O Q E x h=>?_;obtain⟨r,R,a,f,b,y,rfl,⟨z,B,l,C⟩,⟨D,G,I⟩,J,L,h⟩:=h;have M:=Aj5 x;refine⟨_,A3 (B6 (Ak8 (K7 J0 (pv 1) (pv 2) (C1 _)) (m2 (Bc3 (Bi6 M (AJ1 (A0 (pv 1) (A0 (pv 2) A6))) (A9 (pv 0) rfl)))))),?_⟩;have S:=BA;have e:=Bd5 J L;refine⟨_,rfl,_,rfl,rfl,_,rfl,G5 (fun c=>?_) (fun c=>?_)⟩
 ·have c:K5 b=B1 y:=by simpa using c
  rw[AR c,Bool.true_or]at e;rw[←e]at h;exact h _ (Same.refl _)
 ·have c:¬K5 b=B1 y:=by intro q;apply c;simpa using q
  rw[AX c,Cw]at e;refine⟨_,rfl,_,rfl,(by show 2<=sizeLine;omega),fun t N=>?_⟩;have i:=B5 (o:=.tup [V.str (K5 b),V.str (B1 y)]) N;refine⟨_,rfl,r,CR,z,B,_,rfl,i _ _ l,X.cl,X.nd,C.d,R.d,_,rfl,DGet.t (k:=[Sum.inr (K5 b),Sum.inr (B1 y)]) (i _ _ G) A1,?_⟩;have g:=I.2 (K5 b) (B1 y);cases q:Al8 AK3 (K5 b) (B1 y)with
  |none=>rw[q]at g e;rw[g];rw[←e]at h;exact h _ i
  |some T=>rw[q]at g e;obtain⟨p,g,_⟩:=g;rw[g];rw[←e]at h;exact h _ i
end
inductive AX0 (K:AA) (CR CF:AI) (vs:List V) (H:Hp) (Q:VK) (E:XK):Prop
 |mk:∀(r:AI) (R:RR) (a f:Int) (p:AI) (g:Fr) (y:Sy),vs=[.ref r,.ref p,.str (B1 y)]->RD CR H r R a f->WY K H R.d->FM CF H p g->Vb g.sb->y∈J5->(∀H',Same H H'->Q (.int (faultOf g y:Nat)) H')->AX0 K CR CF vs H Q E
theorem AS2:(AG0.map V.str).all T5=true:=by decide+kernel
theorem An7:(Am4.map V.str).all T5=true:=by decide+kernel
section
variable {P:Af} {w:Ap} {K:AA} {mg:Str->Option AH} {base:BR}
theorem BR8:B7 ["reading","frame","token"] ["reading","frame","token"] (A8 Ac9):=fsc
theorem BD2 {f z CR d L M:AI}{B l t:BK}(F:Fun K "fault_of" "fault_of" Ac9 f B)(X:TxR P w K mg CR d L)(O:FrC K mg d M t)(N:Fn K mg "can_begin" Bk6 ["reading","symbol","token"] z l):D6 P w K mg base CX0 2 f B ["reading","frame","token"] (AX0 K CR d):=by
 have S:D6 P w K mg base CX0 1 z l ["reading","symbol","token"] (A51 K CR):=BG6 N.F X;obtain⟨T,u,v⟩:=X.rules;refine F.oK BR8 fun U A x s H vs Q E W h=>?_;obtain⟨r,R,a,f,p,g,y,rfl,Y,Z,hF,C,hy,h⟩:=h;refine⟨_,A2 (D9 (Bg4 (R7 (D5 N S W (A0 (pv 0) (A0 (A9 (pv 1) rfl) (A0 (pv 2) A6)))))) (A3 (B6 (F2 X.cant))) C4)
  (A2 (D9 (PW.pt (w4 (B4 L9 (A9 (pv 1) rfl) (R0 u) rfl) (X4 (B4 AG2 (A9 (pv 1) rfl) (F2 X.deepest) (C1 _))))) (A3 (B6 (F2 X.dp))) C4)
  (A2 (D9 (B4 AX6 (A9 (pv 1) rfl) B0 (C1 _)) (A3 (B6 (F2 X.many))) C4)
  (A3 (B6 B0)))),?_⟩
 obtain⟨D,aa,n,o,G,k1,I,k3,k4⟩:=hF;refine⟨_,rfl,_,rfl,p,d,n,o,_,rfl,G,O.cl,O.n2,I,_,rfl,r,R,a,f,g.sb,y,rfl,Y,Z,C,hy,fun H1 m=>⟨_,rfl,?_⟩⟩;unfold faultOf at h;cases J:B8 g.sb y with
 |false=>rw[J,AL rfl]at h;exact AS0 (h _ m)
 |true=>
  rw[J,AD (by decide)]at h;refine AG9 ?_;have e:=m _ _ G;have b:¬(c9 g.sb=true/\128<g.dp)->An3 (Bc0 (Al9 (tOp (rI0 fun i j=>V.bl (decide (i<j))) (Ak1 K (Q8 1) "room") (tC (V.int 1)))) (BT8 (tC (V.int 4))) BC8) (BT8 (tC (V.int 0))) {nx:=fun _ H'=>Q .non H',rt:=Q} [some (.ref r),some (.ref p),some (.str (B1 y))] H1:=by
   intro hd;rw[AD hd]at h;refine⟨_,rfl,p,d,n,o,_,rfl,e,O.cl,O.n3,k3,_,_,rfl,rfl,_,rfl,G5 (fun c=>?_) (fun c=>?_)⟩
   ·have c:D<1:=of_decide_eq_true c;rw[AL (by omega)]at h;exact h _ m
   ·have c:¬D<1:=Al (Ab.mpr c);rw[AD (by omega)]at h;exact h _ m
  refine⟨_,rfl,p,d,n,o,_,rfl,e,O.cl,O.n2,I,T,_,rfl,.inr (v _),rfl,AS2,_,rfl,?_⟩;rw[show(if false=true then !inV (V.str (K5 g.sb)) (AG0.map V.str)else inV (V.str (K5 g.sb)) (AG0.map V.str))=c9 g.sb from BV0 C];refine G5 (fun c=>?_) (fun c=>?_)
  ·refine⟨_,rfl,p,d,n,o,_,rfl,e,O.cl,O.n4,k4,_,_,rfl,rfl,_,rfl,G5 (fun k=>?_) (fun k=>?_)⟩
   ·have k:(128:Int)<(g.dp:Nat):=of_decide_eq_true k;rw[AL ⟨c,by omega⟩]at h;exact h _ m
   ·have k:¬(128:Int)<(g.dp:Nat):=Al (Ab.mpr k);exact b fun q=>k (by omega)
  ·exact b fun q=>c q.1
end
structure Psh (fl:AI)(H H':Hp)(as new:List AI):Prop where
 l:H' fl=some (.lst ((as++new).map V.ref))
 k:∀b o,b≠fl->H b=some o->H' b=some o
theorem FR.psh (h:FR C H a x y n d)(k:∀b o,b≠fl->H b=some o->H' b=some o)(g:H fl=some (.lst xs)):FR C H' a x y n d:=by obtain⟨c,e,f,i⟩:=h;exact⟨c,e,k _ _ (E8 f g (by intro z;cases z)) f,i⟩
theorem FM.psh (h:FM C H a f)(k:∀b o,b≠fl->H b=some o->H' b=some o)(c:H fl=some (.lst xs)):FM C H' a f:=let ⟨n,e,q⟩:=h;⟨n,e,q.psh k c⟩
theorem FMs.psh (h:Paired (FM C H) as fs)(k:∀b o,b≠fl->H b=some o->H' b=some o)(a:H fl=some (.lst xs)):Paired (FM C H') as fs:=by
 induction h with
 |nil=>exact .nil
 |cons h _ c=>exact .cons (h.psh k a) c
theorem SqT.psh {K:AA}{H H':Hp}{c a:AI}{xs ys:List V}(q:SqT K H a ys)(k:∀b o,b≠c->H b=some o->H' b=some o)(d:H c=some (.lst xs)):SqT K H' a ys:=by
 rcases q with (q |⟨e,q⟩) |q
 ·exact .inl (.inl (k _ _ (E8 q d (by intro z;cases z)) q))
 ·exact .inl (.inr ⟨e,k _ _ (E8 q d (by intro z;cases z)) q⟩)
 ·exact .inr q
inductive AF3 (CR CF:AI) (vs:List V) (H:Hp) (Q:VK) (E:XK):Prop
 |mk:∀(r:AI) (R:RR) (a f:Int) (p:AI) (g:Fr) (as:List AI),vs=[.ref r,.ref p]->RD CR H r R a f->FM CF H p g->H R.fl=some (.lst (as.map V.ref))->as.length<=30000->(∀H' a1 a2,Psh R.fl H H' as [a1,a2]->FM CF H' a1 ⟨g.fm,g.sb,g.room-1,g.dp⟩->FM CF H' a2 ⟨.once,g.sb,g.room,g.dp⟩->Q .non H')->AF3 CR CF vs H Q E
section
variable {P:Af} {w:Ap} {K:AA} {mg:Str->Option AH} {base:BR}
theorem Ay6:B7 ["reading","frame"] ["reading","frame"] (A8 z9):=fsc
theorem Aj0 {f CR c CN fI:AI}{fd T:BK}(F:Fun K "push_one_and_others" "push_one_and_others" z9 f fd)(X:TxR P w K mg CR c CN)(O:FrC K mg c fI T):D6 P w K mg base CX0 3 f fd ["reading","frame"] (AF3 CR c):=by
 refine F.oK Ay6 fun am A U s H vs Q E hr h=>?_;obtain⟨r,R,a,f,p,g,q,rfl,⟨W,Y,t,nf⟩,⟨J,Z,l,m,x,k1,k2,k3,k4⟩,L,an,h⟩:=h;refine⟨_,A2 (E4 (U2 Ac Ax Aw G2 (A9 (pv 0) rfl) (A0 (BN8 O hr (A0 (A9 (pv 1) rfl) (A0 (A9 (pv 1) rfl) (A0 (R9 AF1 (A9 (pv 1) rfl) B0) (A0 (A9 (pv 1) rfl) A6))))) A6)))
  (A3 (E4 (U2 Ac Ax Aw G2 (A9 (pv 0) rfl) (A0 (BN8 O hr (A0 C7 (A0 (A9 (pv 1) rfl) (A0 (A9 (pv 1) rfl) (A0 (A9 (pv 1) rfl) A6))))) A6)))),?_⟩
 have sz:=BA;refine⟨_,rfl,r,CR,W,Y,_,rfl,t,X.cl,X.nfl,nf.fl,.inl ⟨rfl,_,SqL.of L⟩,?_⟩;refine⟨_,rfl,p,c,l,m,_,rfl,x,O.cl,O.n1,k1,_,rfl,p,c,l,m,_,rfl,x,O.cl,O.n2,k2,_,rfl,p,c,l,m,_,rfl,x,O.cl,O.n3,k3,_,_,rfl,rfl,_,rfl,p,c,l,m,_,rfl,x,O.cl,O.n4,k4,fun j aa ab ac _=>⟨j,aa,_,_,_,_,rfl,A1,fun y ad ae=>⟨rfl,?_⟩⟩⟩;have M:=Same.made ab ac ae;have B:=M _ _ L;refine⟨R.fl,_,_,rfl,rfl,B,(by rw[AJ];omega),?_⟩;have af:p≠R.fl:=E8 x L (by intro z;cases z);have ag:r≠R.fl:=E8 t L (by intro z;cases z);have k:(upd y R.fl (.lst (q.map V.ref++[V.ref j]))) p=some (.ins c l m):=by rw[A4 af];exact M _ _ x
 have C:(upd y R.fl (.lst (q.map V.ref++[V.ref j]))) r=some (.ins CR W Y):=by rw[A4 ag];exact M _ _ t
 have u:(upd y R.fl (.lst (q.map V.ref++[V.ref j]))) R.fl=some (.lst ((q++[j]).map V.ref)):=by rw[A1,AV];rfl
 have D:∀b o,b≠R.fl->H b=some o->(upd y R.fl (.lst (q.map V.ref++[V.ref j]))) b=some o:=fun b o N e=>by rw[A4 N];exact M _ _ e
 have G:FR c (upd y R.fl (.lst (q.map V.ref++[V.ref j]))) j (A35 g.fm) (K5 g.sb) (J-1) (g.dp:Nat):=by obtain⟨d,i,n,I⟩:=ad;exact⟨d,i,by rw[A4 (E8 n B (by intro z;cases z))];exact n,I⟩
 generalize (upd y R.fl (.lst (q.map V.ref++[V.ref j])))=H2 at k C u D G ⊢;refine⟨_,rfl,r,CR,W,Y,_,rfl,C,X.cl,X.nfl,nf.fl,.inl ⟨rfl,_,SqL.of u⟩,?_⟩;refine⟨_,rfl,p,c,l,m,_,rfl,k,O.cl,O.n2,k2,_,rfl,p,c,l,m,_,rfl,k,O.cl,O.n3,k3,_,rfl,p,c,l,m,_,rfl,k,O.cl,O.n4,k4,fun a2 ah ai aj _=>⟨a2,ah,_,_,_,_,rfl,A1,fun H3 ak al=>⟨rfl,?_⟩⟩⟩;have S:=Same.made ai aj al;have v:=S _ _ u;refine⟨R.fl,_,_,rfl,rfl,v,(by simp only[AJ,AO,AZ,Bt];omega),?_⟩;refine h _ j a2 ⟨?_,fun b o N e=>?_⟩ ⟨J-1,by show(J-1).toNat=g.room-1;omega,?_⟩ ⟨J,Z,?_⟩
 ·rw[A1,AV,AV,AF];rfl
 ·rw[A4 N];exact S _ _ (D b o N e)
 ·obtain⟨d,i,n,I⟩:=G;exact⟨d,i,by rw[A4 (E8 (S _ _ n) v (by intro z;cases z))];exact S _ _ n,I⟩
 ·obtain⟨d,i,n,I⟩:=ak;exact⟨d,i,by rw[A4 (E8 n v (by intro z;cases z))];exact n,I⟩
end
structure BY8 (CF CN:AI)(R:RR)(H H':Hp)(x:Nt)(i:Int)(as:List AI)(bs:List V):Prop where
 ex:∃p n il,H' R.fl=some (.lst ((as++[p]).map V.ref))/\H' R.bl=some (.lst (bs++[V.ref n]))/\FM CF H' p ⟨.fin,.n x,1,0⟩/\NO CN H' n ⟨il,nameNt x,i,i,false,13,0⟩/\H' il=some (.lst [])/\H n=none/\H il=none/\n≠il
 k:∀b o,b≠R.fl->b≠R.bl->H b=some o->H' b=some o
inductive AZ1 (CR CF CN:AI) (vs:List V) (H:Hp) (Q:VK) (E:XK):Prop
 |mk:∀(r:AI) (R:RR) (i f:Int) (x:Nt) (as:List AI) (bs:List V),vs=[.ref r,.str (nameNt x)]->RD CR H r R i f->H R.fl=some (.lst (as.map V.ref))->H R.bl=some (.lst bs)->R.fl≠R.bl->as.length<=30000->bs.length<=30000->(∀H',BY8 CF CN R H H' x i as bs->Q .non H')->AZ1 CR CF CN vs H Q E
section
variable {P:Af} {w:Ap} {K:AA} {mg:Str->Option AH} {base:BR}
theorem BL9:B7 ["reading","rule"] ["reading","rule"] (A8 U1):=fsc
theorem A70 {f CR Z S fI:AI}{fd aa:BK}(F:Fun K "begin_node" "begin_node" U1 f fd)(X:TxR P w K mg CR Z S)(O:FrC K mg Z fI aa)(Y:NdC K mg S):D6 P w K mg base CX0 3 f fd ["reading","rule"] (AZ1 CR Z S):=by
 obtain⟨fN,dN,M,FN,bN⟩:=Y.F;refine F.oK BL9 fun an A ab s H vs Q E hr h=>?_;obtain⟨r,R,i,f,x,as,j,rfl,⟨T,U,d,nf⟩,hl,v,y,ao,ap,h⟩:=h;refine⟨_,A2 (E4 (U2 Ac Ax Aw G2 (A9 (pv 0) rfl) (A0 (Bs6 Y M FN bN hr (A0 (pv 1) (A0 (A9 (pv 0) rfl) A6))) A6)))
  (A3 (E4 (U2 Ac Ax Aw G2 (A9 (pv 0) rfl) (A0 (BN8 O hr (A0 C7 (A0 (pv 1) (A0 B0 (A0 B0 A6))))) A6)))),?_⟩
 have sz:=BA;refine⟨_,rfl,r,CR,T,U,_,rfl,d,X.cl,X.nbl,nf.bl,.inl ⟨rfl,_,SqL.of v⟩,?_⟩;refine⟨_,rfl,_,rfl,r,CR,T,U,_,rfl,d,X.cl,X.na,nf.a,fun n B g ac _=>⟨n,B,_,_,rfl,A1,fun l u ad C c ae=>⟨rfl,?_⟩⟩⟩;have W:=Same.made g ac ae;have af:=W _ _ v;have m:n≠u:=fun q=>by rw[←q,A1]at c;cases c
 have ag:u≠B:=fun q=>by rw[q,A4 (fun z=>m (by rw[q];exact z.symm))]at c;rw[A1]at c;cases c
 have nil:H u=none:=by rw[A4 (BD m),A4 ag]at c;exact c
 refine⟨R.bl,_,_,rfl,rfl,af,(by omega),?_⟩;have ah:r≠R.bl:=E8 d v (by intro z;cases z);have D:(upd l R.bl (.lst (j++[V.ref n]))) r=some (.ins CR T U):=by rw[A4 ah];exact W _ _ d
 have G:(upd l R.bl (.lst (j++[V.ref n]))) R.bl=some (.lst (j++[V.ref n])):=A1;have t:(upd l R.bl (.lst (j++[V.ref n]))) R.fl=some (.lst (as.map V.ref)):=by rw[A4 y];exact W _ _ hl
 have I:∀b o,b≠R.bl->H b=some o->(upd l R.bl (.lst (j++[V.ref n]))) b=some o:=fun b o nb e=>by rw[A4 nb];exact W _ _ e
 have J:NO S (upd l R.bl (.lst (j++[V.ref n]))) n ⟨u,nameNt x,i,i,false,13,0⟩:=ad.keep fun o e=>by rw[A4 (A7 v g).symm];exact e
 have k:(upd l R.bl (.lst (j++[V.ref n]))) u=some (.lst []):=by rw[A4 (A7 v nil).symm];exact C
 generalize (upd l R.bl (.lst (j++[V.ref n])))=H2 at D G t I J k ⊢;refine⟨_,rfl,r,CR,T,U,_,rfl,D,X.cl,X.nfl,nf.fl,.inl ⟨rfl,_,SqL.of t⟩,?_⟩;refine⟨_,rfl,fun p ai aj ak _=>⟨p,ai,_,_,_,_,rfl,A1,fun H3 al am=>⟨rfl,?_⟩⟩⟩;have L:=Same.made aj ak am;have N:=L _ _ t;refine⟨R.fl,_,_,rfl,rfl,N,(by simp only[AJ];omega),?_⟩;refine h _ ⟨⟨p,n,u,by rw[A1,AV];rfl,by rw[A4 (BD y)];exact L _ _ G,⟨1,rfl,al.keep fun dx fs e=>by rw[A4 (E8 e N (by intro z;cases z))];exact e⟩,?_,?_,g,nil,m⟩,fun b o n1 n2 e=>by rw[A4 n1];exact L _ _ (I b o n2 e)⟩
 ·exact J.keep fun o e=>by rw[A4 (A7 hl g).symm];exact L _ _ e
 ·rw[A4 (A7 hl nil).symm];exact L _ _ k
end
theorem p9 (h:Paired R l m)(h':Paired R l' m'):Paired R (l++l') (m++m'):=by
 induction h with
 |nil=>exact h'
 |cons h _ a=>exact .cons h a
structure Bi2 (CF CN:AI)(R:RR)(H H':Hp)(x:Nt)(ps:List Pt)(i:Int)(d:Nat)(as:List AI)(bs:List V):Prop where
 fr:∃new,H' R.fl=some (.lst ((as++new).map V.ref))/\Paired (FM CF H') new.reverse (ps.map (fr (dps x d))++V6 x)
 nd:(V1 x=false/\H' R.bl=some (.lst bs))∨(V1 x=true/\∃n il,H' R.bl=some (.lst (bs++[V.ref n]))/\NO CN H' n ⟨il,nameNt x,i,i,false,13,0⟩/\H' il=some (.lst [])/\H n=none/\H il=none/\n≠il)
 k:∀b o,b≠R.fl->b≠R.bl->H b=some o->H' b=some o
inductive AF5 (K:AA) (CR CF CN:AI) (vs:List V) (H:Hp) (Q:VK) (E:XK):Prop
 |mk:∀(r:AI) (R:RR) (i f:Int) (p:AI) (g:Fr) (x:Nt) (y:Sy) (ps:List Pt) (as:List AI) (bs:List V),vs=[.ref r,.ref p,.str (B1 y)]->RD CR H r R i f->WY K H R.d->FM CF H p g->g.sb=.n x->y∈J5->P3 x y=some ps->H R.fl=some (.lst (as.map V.ref))->H R.bl=some (.lst bs)->R.fl≠R.bl->as.length<=20001->bs.length<=20001->(∀H',Bi2 CF CN R H H' x ps i g.dp as bs->Q .non H')->AF5 K CR CF CN vs H Q E
section
variable {P:Af} {w:Ap} {K:AA} {mg:Str->Option AH} {base:BR}
theorem W5:B7 ["reading","frame","token","depth","way","part"] ["reading","frame","token"] (A8 z3):=fsc
theorem Al7 {f CR J CN fI fB:AI}{fd an ad:BK}(F:Fun K "push_way" "push_way" z3 f fd)(X:TxR P w K mg CR J CN)(O:FrC K mg J fI an)(Y:NdC K mg CN)(B:Fn K mg "begin_node" U1 ["reading","rule"] fB ad):D6 P w K mg base CX0 4 f fd ["reading","frame","token"] (AF5 K CR J CN):=by
 have GB:D6 P w K mg base CX0 3 fB ad ["reading","rule"] (AZ1 CR J CN):=A70 B.F X O Y;obtain⟨aR,ao,ap⟩:=X.rules;obtain⟨aT,aq,ar⟩:=X.tree;refine F.oK W5 fun bo A au s H vs Q E hr h=>?_;obtain⟨r,R,i,f,p,g,x,y,N,as,bs,rfl,hR,hW,hF,ae,hy,hw,W,L,ac,bp,bq,h⟩:=h;have hu:=Aj5 hr;have av:Room 2 _:=hr.mono (by decide);refine⟨_,A2 (D9 (B4 L9 (A9 (pv 1) rfl) (R0 aq) rfl) (A3 (E4 (D5 B GB hr (A0 (pv 0) (A0 (A9 (pv 1) rfl) A6))))) C4)
  (A2 (C9 (i:=3) W5.nd rfl (Or.inl rfl) (A9 (pv 1) rfl))
  (A2 (D9 (B4 L9 (A9 (pv 1) rfl) (R0 ao) rfl) (A3 (Ag5 (i:=3) W5.nd rfl (Or.inl rfl) B0 AJ5)) C4)
  (A2 (C9 (i:=4) W5.nd rfl (Or.inl rfl) (BU9 hu (A9 (pv 0) rfl) (AJ1 (A0 (A9 (pv 1) rfl) (A0 (pv 2) A6))) (fun _ _=>rfl)))
  (A3 (Z8 BJ rfl (AQ9 (by rfl) X.rev (A0 (pv 4) A6)) (K8 (i:=5) W5.nd rfl (Or.inl rfl))
   (A3 (E4 (U2 Ac Ax Aw G2 (A9 (pv 0) rfl) (A0 (BN8 O av (A0 (G7 AB4 (pv 5) B0 (fun _ _=>rfl)) (A0 (G7 AB4 (pv 5) B0 (fun _ _=>rfl)) (A0 (G7 AB4 (pv 5) B0 (fun _ _=>rfl)) (A0 (pv 3) A6))))) A6))))))))),?_⟩
 have sz:=BA;have br:N.length<=15:=(Az7 hw).1
 -- what comes behind the node
 have aa:∀(T:Hp) (M:List AI),RD CR T r R i f->WY K T R.d->FM J T p g->T R.fl=some (.lst (M.map V.ref))->M.length<=20002->
   (∀C m,Psh R.fl T C M m->Paired (FM J C) m.reverse (N.map (fr (dps x g.dp)))->Q .non C)->
   An3 (Bi5 (Ak1 K (Q8 1) "depth") (AT9 3)) (An3 (Bc0 (Al9 (tOp (rIn K false) (Ak1 K (Q8 1) "symbol") (tC (V.ref aR)))) (Bx9 3 (tC (V.int 1)) (ipI fun i j=>i+j)) BC8) (An3 (Bi5 (BV4 (Ak1 K (Q8 0) "ways") (Bp5 (M9 (Ak1 K (Q8 1) "symbol") (M9 (Q8 2) AW1)))) (AT9 4)) (Bn3 (BR1 K (M9 (Q8 4) AW1)) (AT9 5) (BA5 (tBM K "list" AK1 (Ak1 K (Q8 0) "frames") (M9 (Am9 J (AB2 J) [] E0 (M9 (tOp (BG7 K) (Q8 5) (tC (V.int 0))) (M9 (tOp (BG7 K) (Q8 5) (tC (V.int 1))) (M9 (tOp (BG7 K) (Q8 5) (tC (V.int 2))) (M9 (Q8 3) AW1))))) AW1)))))) {nx:=fun _ C=>Q .non C,rt:=Q} [some (.ref r),some (.ref p),some (.str (B1 y)),none,none,none] T:=by
  rintro T M ⟨dr,rs,S,nf⟩ ⟨af,hd,aw⟩ ⟨nr,ax,dx,fs,hp,k1,k2,k3,k4⟩ Z bn ag;rw[ae]at k2;have hv:=aw.2 (nameNt x) (B1 y);rw[Bf6 x (P4 x) y hy,hw]at hv;obtain⟨pw,hv,qs,ah,ai⟩:=hv;have ay:qs.length=N.length:=by have:=BQ ai;rw[AJ]at this;exact this
  have az:r≠R.fl:=E8 S Z (by intro z;cases z);have ab:∀D:Nat,D=dps x g.dp->An3 (Bi5 (BV4 (Ak1 K (Q8 0) "ways") (Bp5 (M9 (Ak1 K (Q8 1) "symbol") (M9 (Q8 2) AW1)))) (AT9 4)) (Bn3 (BR1 K (M9 (Q8 4) AW1)) (AT9 5) (BA5 (tBM K "list" AK1 (Ak1 K (Q8 0) "frames") (M9 (Am9 J (AB2 J) [] E0 (M9 (tOp (BG7 K) (Q8 5) (tC (V.int 0))) (M9 (tOp (BG7 K) (Q8 5) (tC (V.int 1))) (M9 (tOp (BG7 K) (Q8 5) (tC (V.int 2))) (M9 (Q8 3) AW1))))) AW1)))) {nx:=fun _ C=>Q .non C,rt:=Q} [some (.ref r),some (.ref p),some (.str (B1 y)),some (.int (D:Nat)),none,none] T:=by
   intro D hD;refine⟨_,rfl,r,CR,dr,rs,_,rfl,S,X.cl,X.nd,nf.d,_,rfl,p,J,dx,fs,_,rfl,hp,O.cl,O.n2,k2,_,rfl,(by show 2<=sizeLine;omega),fun t ht=>?_⟩;have s1:=B5 (o:=.tup [V.str (nameNt x),V.str (B1 y)]) ht;refine⟨R.d,.ref pw,rfl,by rw[←hv];exact DGet.t (k:=[Sum.inr (nameNt x),Sum.inr (B1 y)]) (s1 _ _ hd) A1,?_⟩;refine⟨_,rfl,pw,_,rfl,Same.tup s1 ah,BD5 (K:=K) (a:=pw) (xs:=qs.map V.ref) (fun i σ C=>∃(v:Option V) (m:List AI),σ=[some (.ref r),some (.ref p),some (.str (B1 y)),some (.int (D:Nat)),some (.ref pw),v]/\Psh R.fl T C M m/\m.length=i/\Paired (FM J C) m.reverse ((N.drop (N.length-i)).map (fr D)))
    ⟨none,[],rfl,⟨by rw[AE];exact s1 _ _ Z,fun b o _ e=>s1 _ _ e⟩,rfl,by rw[Nat.sub_zero,EA];exact .nil⟩ ?_ ?_ ?_⟩
   ·rintro i σ C _ ⟨v,m,rfl,u,_,_⟩;exact SqT.psh ah u.k Z
   ·rintro i z σ C hi hz ⟨v,m,rfl,u,aj,G⟩;rw[AJ]at hi hz;obtain⟨q,ba,rfl⟩:=AA9 hz;obtain⟨bb,I,bc⟩:=Paired.get ai ba;rw[Aq]at I;obtain⟨pt,ak,rfl⟩:∃pt,N[qs.length-1-i]?=some pt/\bb=BE7 pt:=by
     cases e:N[qs.length-1-i]? with
     |none=>rw[e]at I;cases I
     |some z=>rw[e]at I;exact⟨z,rfl,(Aa I).symm⟩
    have U:SqT K C q [.str (A35 pt.fm),.str (K5 pt.sb),.int (pt.room:Nat)]:=SqT.psh bc u.k Z;have bd:=u.k _ _ az S;refine⟨_,rfl,r,CR,dr,rs,_,rfl,bd,X.cl,X.nfl,nf.fl,.inl ⟨rfl,_,SqL.of u.l⟩,?_⟩;refine⟨_,rfl,q,_,_,_,rfl,rfl,U,E9 (j:=0) rfl,_,rfl,q,_,_,_,rfl,rfl,U,E9 (j:=1) rfl,_,rfl,q,_,_,_,rfl,rfl,U,E9 (j:=2) rfl,_,rfl,fun a1 be bf bg _=>⟨a1,be,_,_,_,_,rfl,A1,fun H2 bh bi=>⟨rfl,?_⟩⟩⟩;have s2:=Same.made bf bg bi;have al:=s2 _ _ u.l;refine⟨R.fl,_,_,rfl,rfl,al,(by simp only[AJ,AO];omega),?_⟩;refine⟨_,m++[a1],rfl,⟨?_,fun b o nb e=>?_⟩,by rw[AO,aj];rfl,?_⟩
    ·rw[A1,←AF,AV (l₁:=M++m)];rfl
    ·rw[A4 nb];exact s2 _ _ (u.k b o nb e)
    ·have e1:N.drop (N.length-(i+1))=pt::N.drop (N.length-i):=by
      have am:N.length-(i+1)<N.length:=by omega
      rw[Cb am];have e2:qs.length-1-i=N.length-(i+1):=by omega
      rw[e2,Aj am]at ak;rw[Aa ak];congr 2;omega
     rw[e1,BI,Ah];have kk:∀b o,b≠R.fl->C b=some o->(upd H2 R.fl (.lst ((M++m).map V.ref++[V.ref a1]))) b=some o:=fun b o nb e=>by rw[A4 nb];exact s2 _ _ e
     refine .cons ⟨(pt.room:Nat),rfl,?_⟩ (FMs.psh G kk u.l);exact bh.psh (fun b o nb e=>by rw[A4 nb];exact e) al
   ·rintro σ C ⟨v,m,rfl,u,aj,G⟩;rw[AJ,ay,Ds,List.drop_zero]at G;rw[hD]at G;exact ag C m u G
  refine⟨_,rfl,p,J,dx,fs,_,rfl,hp,O.cl,O.n4,k4,?_⟩;refine⟨_,rfl,p,J,dx,fs,_,rfl,hp,O.cl,O.n2,k2,aR,_,rfl,.inr (ap _),rfl,AS2,_,rfl,?_⟩;rw[show(if false=true then !inV (V.str (K5 (.n x))) (AG0.map V.str)else inV (V.str (K5 (.n x))) (AG0.map V.str))=c9 (.n x)from BI0 x (P4 x)];refine G5 (fun c=>?_) (fun c=>?_)
  ·refine⟨_,rfl,_,_,rfl,rfl,?_⟩;exact ab (g.dp+1) (by unfold dps;rw[AL c])
  ·exact ab g.dp (by unfold dps;rw[AD c])
 obtain⟨nr,ax,dx,fs,hp,k1,k2,k3,k4⟩:=id hF;rw[ae]at k2;refine⟨_,rfl,p,J,dx,fs,_,rfl,hp,O.cl,O.n2,k2,aT,_,rfl,.inr (ar _),rfl,An7,_,rfl,?_⟩;rw[show(if false=true then !inV (V.str (K5 (.n x))) (Am4.map V.str)else inV (V.str (K5 (.n x))) (Am4.map V.str))=V1 x from Bh0 x (P4 x)];refine G5 (fun c=>?_) (fun c=>?_)
 ·refine⟨_,rfl,_,rfl,p,J,dx,fs,_,rfl,hp,O.cl,O.n2,k2,r,R,i,f,x,as,bs,rfl,hR,W,L,ac,(by omega),(by omega),fun T o1=>?_⟩;obtain⟨q,n,il,g1,g2,g3,g4,g5,g6,g7,g8⟩:=o1.ex;obtain⟨dr,rs,S,nf⟩:=id hR;have bj:r≠R.fl:=E8 S W (by intro z;cases z);have bk:r≠R.bl:=E8 S L (by intro z;cases z);have bm:WY K T R.d:=by
   obtain⟨af,w1,w2⟩:=hW;refine⟨af,o1.k _ _ (E8 w1 W (by intro z;cases z)) (E8 w1 L (by intro z;cases z)) w1,w2.keep fun a ys q=>?_⟩;rcases q with (q |⟨o',q⟩) |q
   ·exact .inl (.inl (o1.k _ _ (E8 q W (by intro z;cases z)) (E8 q L (by intro z;cases z)) q))
   ·exact .inl (.inr ⟨o',o1.k _ _ (E8 q W (by intro z;cases z)) (E8 q L (by intro z;cases z)) q⟩)
   ·exact .inr q
  refine aa T (as++[q]) (hR.keep fun o e=>o1.k _ _ bj bk e) bm (hF.keep fun dx fs e=>o1.k _ _ (E8 e W (by intro z;cases z)) (E8 e L (by intro z;cases z)) e) g1 (by rw[AO];show _+1<=_;omega) fun C m u G=>?_;refine h C ⟨⟨[q]++m,by rw[←AF];exact u.l,?_⟩,.inr ⟨c,n,il,u.k _ _ (BD ac) g2,?_,?_,g6,g7,g8⟩,fun b o n1 n2 e=>u.k b o n1 (o1.k b o n1 n2 e)⟩
  ·rw[BI];refine p9 G ?_;unfold V6;rw[AL c];exact .cons (g3.psh u.k g1) .nil
  ·exact g4.keep fun o e=>u.k _ _ (fun z=>by rw[z,W]at g6;cases g6) e
  ·exact u.k _ _ (fun z=>by rw[z,W]at g7;cases g7) g5
 ·have c:V1 x=false:=Ab.mpr c;refine aa H as hR hW hF W (by omega) fun C m u G=>?_;refine h C ⟨⟨m,u.l,?_⟩,.inl ⟨c,u.k _ _ (BD ac) L⟩,fun b o n1 n2 e=>u.k b o n1 e⟩;unfold V6;rw[c,AD (by decide),AE];exact G
end
namespace LT
noncomputable def setJ:LT->Nat->LT |mk a b k i _ p s l c,j=>mk a b k i j p s l c
noncomputable def addC:LT->LT->LT |mk a b k i j p s l c,t=>mk a b k i j p s l (c++[t])
end LT
theorem Ax0 (t:LT)(v:Nat):fp (t.setJ v)=fp t:=by obtain⟨a,b,k,i,j,p,s,l,c⟩:=t;show fp (.mk a b k i v p s l c)=_;rw[F6,F6]
theorem AtT.setJ (h:AtT C H t)(b:(fp t).Nodup)(e:H t.a=some (.ins C dx fs))(d:NF fs t.rc)(v:Nat):AtT C (upd H t.a (.ins C dx (C3 "behind" (.int (v:Nat)) fs))) (t.setJ v):=by obtain⟨a,f,k,i,j,p,s,l,c⟩:=t;rw[L0]at h;rw[F6,Am]at b;exact AtT.root h.2.1 h.2.2 b.1 (d.setJ _)
theorem Bf9 (u t:LT):er (u.addC t)=.mk (er u).k (er u).i (er u).j (er u).pr (er u).st (er u).le ((er u).c++[er t]):=by obtain⟨a,b,k,i,j,p,s,l,c⟩:=u;show er (.mk a b k i j p s l (c++[t]))=_;rw[V9,V9,AV];rfl
theorem Bj7 (u t:LT):fp (u.addC t)=fp u++fp t:=by obtain⟨a,b,k,i,j,p,s,l,c⟩:=u;show fp (.mk a b k i j p s l (c++[t]))=_;rw[F6,F6,T4,B3,F4,AE];rfl
theorem Bq5 (u t:LT):(u.addC t).a=u.a:=by obtain⟨a,b,k,i,j,p,s,l,c⟩:=u;rfl
structure BG8 (C bl:AI)(H H':Hp)(ts:List LT)(u t t':LT)(n:Nd):Prop where
 l:H' bl=some (.lst (B2 (ts++[u.addC t'])))
 at_:AtL C H' (ts++[u.addC t'])
 nd:(fps (ts++[u.addC t'])).Nodup
 er:er t'=n
 sub:∀b∈fps (ts++[u.addC t']),b∈fps (ts++[u,t])∨H b=none
 kp:∀b o,b≠bl->b∉fps (ts++[u,t])->H b=some o->H' b=some o
inductive BK5 (CR CN:AI) (vs:List V) (H:Hp) (Q:VK) (E:XK):Prop
 |mk:∀(r:AI) (R:RR) (i:Nat) (f:Int) (cy:Nat->Sy) (N:Nat) (ts:List LT) (u t:LT) (k:Kd) (n:Nd),vs=[.ref r]->RD CR H r R (i:Nat) f->SyAt H R.sl cy N->((∀i,cy i∈J5))->H R.bl=some (.lst (B2 (ts++[u,t])))->AtL CN H (ts++[u,t])->(fps (ts++[u,t])).Nodup->R.sl∉fps (ts++[u,t])->R.bl∉fps (ts++[u,t])->R.sl≠R.bl->CN≠CR->er t=.mk k t.i t.i false 13 0 (t.c.map er)->t.i<=N->t.c.length<=100001->u.c.length<=100001->fin cy N ⟨k,t.i,t.c.map er⟩ i=some n->(∀(H':Hp) (t':LT),BG8 CN R.bl H H' ts u t t' n->Q .non H')->BK5 CR CN vs H Q E
section
variable {P:Af} {w:Ap} {K:AA} {mg:Str->Option AH} {base:BR}
theorem BN3:B7 ["reading","node","around"] ["reading"] (A8 AA5):=fsc
theorem Bk7 {f CR CF J fN:AI}{fd ao:BK}(F:Fun K "end_node" "end_node" AA5 f fd)(X:TxR P w K mg CR CF J)(Y:NdC K mg J)(T:TxO P w K mg)(W:TrF K mg)(N:Fn K mg "finished" W0 ["node","symbols"] fN ao):D6 P w K mg base CX0 7 f fd ["reading"] (BK5 CR J):=by
 have GN:D6 P w K mg base CX0 6 fN ao ["node","symbols"] (Y0 J Bi1):=AY7 N.F Y T W;refine F.oK BN3 fun bw A bd s H vs Q E hr h=>?_;obtain⟨r,R,i,f,cy,N',j,u,t,k,n,rfl,⟨dr,rs,ab,nf⟩,hS,be,U,ap,bf,aq,ac,bg,bh,bi,bj,bk,ar,au,h⟩:=h;refine⟨_,A2 (C9 (i:=1) BN3.nd rfl (Or.inl rfl) (AE8 Ac Bq Bp AD2 (A9 (pv 0) rfl)))
  (A2 (D0 (pv 1) (A9 (pv 0) rfl) rfl)
  (A2 (C9 (i:=2) BN3.nd rfl (Or.inl rfl) (G7 D4 (A9 (pv 0) rfl) (Az6 AU0 B0) (fun _ _=>rfl)))
  (A3 (E4 (U2 Ac Ax Aw G2 (A9 (pv 2) rfl) (A0 (D5 N GN hr (A0 (pv 1) (A0 (A9 (pv 0) rfl) A6))) A6)))))),?_⟩
 have sz:=BA;have e0:B2 (j++[u,t])=B2 (j++[u])++[V.ref t.a]:=by rw[K0,K0];simp[B2]
 have e1:B2 (j++[u])=B2 j++[V.ref u.a]:=K0 _ _;have ef:fps (j++[u,t])=fps j++(fp u++fp t):=by rw[T4,B3,B3,F4,AE]
 rw[e0]at U;have L:=E5.mp ap;have hu:=L u (by simp);have ht:=L t (by simp);have bm:r≠R.bl:=E8 ab U (by intro z;cases z);have nd:=bf;rw[ef]at nd;have C:=BE.mp nd;have m:=BE.mp C.2.1;have D:∀x,x∈fp t->x∈fps (j++[u,t]):=fun x g=>by rw[ef];exact AQ _ (AQ _ g)
 have G:∀x,x∈fp u->x∈fps (j++[u,t]):=fun x g=>by rw[ef];exact AQ _ (AU _ g)
 have ad:∀x,x∈fps j->x∈fps (j++[u,t]):=fun x g=>by rw[ef];exact AU _ g
 refine⟨_,rfl,r,CR,dr,rs,_,rfl,ab,X.cl,X.nbl,nf.bl,.inl ⟨rfl,_,SqL.of U⟩,R.bl,_,_,rfl,rfl,U,AP0 _ _,?_⟩;rw[Cy];have p:∀b o,b≠R.bl->H b=some o->(upd H R.bl (.lst (B2 (j++[u])))) b=some o:=fun b o n e=>by rw[A4 n];exact e
 have b1:(upd H R.bl (.lst (B2 (j++[u])))) R.bl=some (.lst (B2 (j++[u]))):=A1;have f1:∀b,(upd H R.bl (.lst (B2 (j++[u])))) b=none->H b=none:=fun b e=>by
  have c1:b≠R.bl:=fun q=>by rw[q,A1]at e;cases e
  rw[A4 c1]at e;exact e
 generalize (upd H R.bl (.lst (B2 (j++[u]))))=H1 at p b1 f1 ⊢;have ae:=p _ _ bm ab;have nb:∀x,x∈fps (j++[u,t])->x≠R.bl:=fun x g q=>ac (by rw[←q];exact g);have av:AtT J H1 t:=ht.keep t fun b l o e=>p b o (nb b (D b l)) e;obtain⟨dt,ft,af,aw⟩:=av.no;refine⟨_,rfl,r,CR,dr,rs,_,rfl,ae,X.cl,X.na,nf.a,_,rfl,t.a,J,dt,ft,rfl,af,Y.cl,Y.nj,(by have:=aw.n;omega),?_⟩;have ax:=av.setJ m.2.1 af aw i;have v:∀b o,b≠t.a->H1 b=some o->(upd H1 t.a (.ins J dt (C3 "behind" (.int (i:Nat)) ft))) b=some o:=fun b o n e=>by rw[A4 n];exact e
 have f2:∀b,(upd H1 t.a (.ins J dt (C3 "behind" (.int (i:Nat)) ft))) b=none->H1 b=none:=fun b e=>by
  have c1:b≠t.a:=fun q=>by rw[q,A1]at e;cases e
  rw[A4 c1]at e;exact e
 generalize (upd H1 t.a (.ins J dt (C3 "behind" (.int (i:Nat)) ft)))=H2 at ax v f2 ⊢;have ag:t.a∈fps (j++[u,t]):=D _ (F7 t);have ay:=v _ _ (E8 ae af (by intro z;injection z with z;exact bh z.symm)) ae;have b2:=v _ _ (BD (nb _ ag)) b1;rw[e1]at b2;refine⟨_,rfl,r,CR,dr,rs,_,rfl,ay,X.cl,X.nbl,nf.bl,1,rfl,R.bl,_,_,_,rfl,rfl,SqL.of b2,Ah8 _ _,?_⟩;have ah:∀b,b∈fp u->∀o,H b=some o->H2 b=some o:=fun b l o e=>v b o (fun q=>m.2.2 b l t.a (F7 t) q) (p b o (nb b (G b l)) e);have ai:∀b,b∈fps j->∀o,H b=some o->H2 b=some o:=fun b l o e=>v b o (fun q=>C.2.2 b l t.a (AQ _ (F7 t)) q) (p b o (nb b (ad b l)) e);have bn:AtT J H2 u:=hu.keep u ah;have bo:SyAt H2 R.sl cy N':=hS.keep fun o e=>v _ _ (fun q=>aq (by rw[q];exact ag)) (p _ _ bg e);obtain⟨ta,bp,et⟩:=AV5 bi;have M:t.setJ i=.mk ta bp k t.i i false 13 0 t.c:=by
  conv=>lhs;rw[et]
  rfl
 have bq:(t.setJ i).a=t.a:=by rw[M,et];rfl
 obtain⟨ua,d,uk,ui,uj,up,us,ul,Z⟩:=u;obtain⟨⟨du,fu,az,ba⟩,aa,br⟩:=L0.mp bn;refine⟨_,rfl,ua,J,du,fu,_,rfl,az,Y.cl,Y.nc,ba.il,.inl ⟨rfl,_,SqL.of aa⟩,?_⟩;refine⟨_,rfl,_,rfl,r,CR,dr,rs,_,rfl,ay,X.cl,X.nsl,nf.sl,t.setJ i,R.sl,cy,N',n,k,by rw[bq];rfl,ax,by rw[Ax0];exact m.2.1,by rw[Ax0];exact fun q=>aq (D _ q),bo,be,?_,?_,?_,?_,fun H3 t' O=>?_⟩
 ·rw[M];exact bj
 ·rw[M];exact bk
 ·rw[M,V9];rfl
 ·rw[M];exact au
 have S:d∉fp (t.setJ i):=fun q=>by rw[Ax0]at q;exact m.2.2 d (by rw[F6];exact AC _ (AG ..)) d q rfl
 have aj:=O.kp _ _ S aa;have ar:Z.length<=100001:=ar;refine⟨d,_,_,rfl,rfl,aj,(by simp only[B2,AJ];omega),?_⟩;have ak:=m.1;rw[F6,Am,Am]at ak;have al:∀x,x∈fps (j++[.mk ua d uk ui uj up us ul Z,t])->x∉fp t->x∉fp t':=fun x g h1 h2=>by
  rcases O.sub x h2 with q |q
  ·rw[Ax0]at q;exact h1 q
  ·obtain⟨o,ho⟩:=AtL.ex _ ap x g;rw[f1 _ (f2 _ q)]at ho;cases ho
 have am:∀x,x∈fp (.mk ua d uk ui uj up us ul Z)->x∉fp t:=fun x g q=>m.2.2 x g x q rfl;have bb:∀x,x∈fps j->x∉fp t:=fun x g q=>C.2.2 x g x (AQ _ q) rfl;have I:∀b o,b≠d->H3 b=some o->(upd H3 d (.lst (B2 Z++[V.ref t'.a]))) b=some o:=fun b o n e=>by rw[A4 n];exact e
 have bs:∀x,x∈fp t'->x≠d:=fun x g q=>al d (G d (by rw[F6];exact AC _ (AG ..))) (by rw[Ax0]at S;exact S) (by rw[←q];exact g);have en:fps (j++[LT.addC (.mk ua d uk ui uj up us ul Z) t'])=fps j++(fp (.mk ua d uk ui uj up us ul Z)++fp t'):=by rw[T4,B3,F4,AE,Bj7]
 have bt:∀b,H2 b=none->H b=none:=fun b e=>f1 _ (f2 _ e);refine h _ t' ⟨?_,?_,?_,O.er,?_,?_⟩
 ·rw[K0];have b3:=O.kp _ _ (fun q=>ac (D _ (by rw[Ax0]at q;exact q))) b2;have bu:R.bl≠d:=fun q=>ac (G _ (by rw[q,F6];exact AC _ (AG ..)));exact I _ _ bu b3
 ·rw[E5];intro x g;rcases AY.mp g with g |g
  ·refine(L x (AU _ g)).keep x fun b l o e=>?_;have an:b∈fps j:=W6.mpr ⟨x,g,l⟩;refine I b o (fun q=>C.2.2 b an d (AU _ (by rw[F6];exact AC _ (AG ..))) q) (O.kp b o (by rw[Ax0];exact bb b an) (ai b an o e))
  ·rw[AN]at g;subst g;show AtT J _ (.mk ua d uk ui uj up us ul (Z++[t']));have bv:ua≠d:=fun q=>ak.1 (by rw[q];exact AG ..);refine L0.mpr ⟨⟨du,fu,I _ _ bv (O.kp _ _ (by rw[Ax0];exact am _ (by rw[F6];exact AG ..)) az),ba⟩,by rw[A1,K0];rfl,E5.mpr fun y B=>?_⟩;rcases AY.mp B with B |B
   ·refine(E5.mp br y B).keep y fun b l o e=>?_;have bc:b∈fps Z:=W6.mpr ⟨y,B,l⟩;exact I b o (fun q=>ak.2.1 (by rw[←q];exact bc)) (O.kp b o (by rw[Ax0];exact am b (by rw[F6];exact AC _ (AC _ bc))) e)
   ·rw[AN]at B;subst B;exact O.at_.keep _ fun b l o e=>I b o (bs b l) e
 ·rw[en,BE,BE];refine⟨C.1,⟨m.1,O.nd,fun x g y B q=>al x (G x g) (am x g) (by rw[q];exact B)⟩,fun x g y B q=>?_⟩;rcases AY.mp B with B |B
  ·exact C.2.2 x g y (AU _ B) q
  ·exact al x (ad x g) (bb x g) (by rw[q];exact B)
 ·rw[en];intro b l;rcases AY.mp l with l |l
  ·exact .inl (ad b l)
  rcases AY.mp l with l |l
  ·exact .inl (G b l)
  rcases O.sub b l with q |q
  ·exact .inl (D b (by rw[Ax0]at q;exact q))
  ·exact .inr (bt b q)
 ·intro b o n1 n2 e;have h2:=v b o (fun q=>n2 (by rw[q];exact ag)) (p b o n1 e);exact I b o (fun q=>n2 (by rw[q];exact G _ (by rw[F6];exact AC _ (AG ..)))) (O.kp b o (fun q=>n2 (D b (by rw[Ax0]at q;exact q))) h2)
end
structure BT1 (CR CF CN:AI)(H:Hp)(r:AI)(R:RR)(i:Int)(as:List AI)(bs:List V)(g:Fr)(y:Sy)(H':Hp):Prop where
 k:∀b o,b≠r->b≠R.fl->b≠R.bl->H b=some o->H' b=some o
 bad:faultOf g y≠0->RD CR H' r R i (faultOf g y:Nat)
 tok:faultOf g y=0->∀z,g.sb=.t z->RD CR H' r R (i+1) 0/\H' R.fl=some (.lst (as.map V.ref))/\H' R.bl=some (.lst bs)
 exp:faultOf g y=0->∀x,g.sb=.n x->RD CR H' r R i 0/\∃Hm,(∀b,Hm b=none->H b=none)/\Bi2 CF CN R Hm H' x ((P3 x y).getD []) i g.dp as bs
inductive Aq7 (K:AA) (CR CF CN:AI) (vs:List V) (H:Hp) (Q:VK) (E:XK):Prop
 |mk:∀(r:AI) (R:RR) (i f:Int) (p:AI) (g:Fr) (y:Sy) (as:List AI) (bs:List V),vs=[.ref r,.ref p,.str (B1 y)]->RD CR H r R i f->WY K H R.d->FM CF H p g->Vb g.sb->y∈J5->H R.fl=some (.lst (as.map V.ref))->H R.bl=some (.lst bs)->R.fl≠R.bl->as.length<=20001->bs.length<=20001->(∀H',BT1 CR CF CN H r R i as bs g y H'->Q .non H')->Aq7 K CR CF CN vs H Q E
theorem WY.keepR {K:AA}{H H':Hp}{d r C g:AI}{fs:List (Str×V)}(h:WY K H d)(k:∀b o,b≠r->H b=some o->H' b=some o)(c:H r=some (.ins C g fs)):WY K H' d:=by
 obtain⟨e,f,i⟩:=h;refine⟨e,k _ _ (E8 f c (by intro z;cases z)) f,i.keep fun a l q=>?_⟩;rcases q with (q |⟨j,q⟩) |q
 ·exact .inl (.inl (k _ _ (E8 q c (by intro z;cases z)) q))
 ·exact .inl (.inr ⟨j,k _ _ (E8 q c (by intro z;cases z)) q⟩)
 ·exact .inr q
section
variable {P:Af} {w:Ap} {K:AA} {mg:Str->Option AH} {base:BR}
structure RdF (P:Af)(w:Ap)(K:AA)(mg:Str->Option AH)(CR CF CN:AI):Prop where
 X:TxR P w K mg CR CF CN
 O:∃f fd,FrC K mg CF f fd
 Y:NdC K mg CN
 T:TxO P w K mg
 W:TrF K mg
 can:∃f fd,Fn K mg "can_begin" Bk6 ["reading","symbol","token"] f fd
 flt:∃f fd,Fn K mg "fault_of" Ac9 ["reading","frame","token"] f fd
 beg:∃f fd,Fn K mg "begin_node" U1 ["reading","rule"] f fd
 enn:∃f fd,Fn K mg "end_node" AA5 ["reading"] f fd
 fin:∃f fd,Fn K mg "finished" W0 ["node","symbols"] f fd
 way:∃f fd,Fn K mg "push_way" z3 ["reading","frame","token"] f fd
 one:∃f fd,Fn K mg "push_one_and_others" z9 ["reading","frame"] f fd
 onc:∃f fd,Fn K mg "read_once" BB7 ["reading","frame","token"] f fd
theorem Ba7:B7 ["reading","frame","token"] ["reading","frame","token"] (A8 BB7):=fsc
theorem BS4 {f CR CF CN:AI}{fd:BK}(F:Fun K "read_once" "read_once" BB7 f fd)(Z:RdF P w K mg CR CF CN):D6 P w K mg base CX0 5 f fd ["reading","frame","token"] (Aq7 K CR CF CN):=by
 have X:=Z.X;obtain⟨fI,dI,O⟩:=Z.O;obtain⟨fC,dC,N⟩:=Z.can;obtain⟨fT,dT,T⟩:=Z.flt;obtain⟨fB,dB,B⟩:=Z.beg;obtain⟨fW,dW,W⟩:=Z.way;have GT:D6 P w K mg base CX0 2 fT dT ["reading","frame","token"] (AX0 K CR CF):=BD2 T.F X O N;have GW:D6 P w K mg base CX0 4 fW dW ["reading","frame","token"] (AF5 K CR CF CN):=Al7 W.F X O Z.Y B;refine F.oK Ba7 fun cdv A outer s H vs Q E hr h=>?_;obtain⟨r,R,i,f,p,g,y,as,bs,rfl,hR,hW,hF,hb,hy,hl,hbl,nfb,has,hbs,h⟩:=h;have hr2:Room 2 _:=hr.mono (by decide);refine⟨_,A2 (D0 (pv 0) (D5 T GT hr2 (A0 (pv 0) (A0 (pv 1) (A0 (pv 2) A6)))) rfl)
  (A2 (D9 (B4 AG2 (A9 (pv 0) rfl) B0 (C1 _)) (A3 BK1) C4)
  (A3 (D9 (B4 J0 (A9 (pv 1) rfl) (pv 2) (C1 _)) (A3 (AV2 (pv 0) B0 AJ5)) (A3 (E4 (D5 W GW hr (A0 (pv 0) (A0 (pv 1) (A0 (pv 2) A6))))))))),?_⟩
 obtain⟨nr,hnr,dx,fs,hp,k1,k2,k3,k4⟩:=id hF;obtain⟨dr,rs,hr0,nf⟩:=id hR;have nrl:r≠R.fl:=E8 hr0 hl (by intro z;cases z);have nrb:r≠R.bl:=E8 hr0 hbl (by intro z;cases z);have npr:p≠r:=E8 hp hr0 (by intro z;injection z with z;exact X.fr z);refine⟨_,rfl,_,rfl,_,rfl,r,R,i,f,p,g,y,rfl,hR,hW,hF,hb,hy,fun H1 s1=>?_⟩;refine⟨_,rfl,r,CR,dr,rs,rfl,s1 _ _ hr0,X.cl,X.nf,(by have:=nf.n;omega),?_⟩;have nf2:=nf.setF (faultOf g y:Nat);have hr2:(upd H1 r (.ins CR dr (C3 "fault" (.int (faultOf g y:Nat)) rs))) r=some (.ins CR dr (C3 "fault" (.int (faultOf g y:Nat)) rs)):=A1;have kp2:∀b o,b≠r->H b=some o->(upd H1 r (.ins CR dr (C3 "fault" (.int (faultOf g y:Nat)) rs))) b=some o:=fun b o n e=>by rw[A4 n];exact s1 _ _ e
 have fr2:∀b,(upd H1 r (.ins CR dr (C3 "fault" (.int (faultOf g y:Nat)) rs))) b=none->H b=none:=fun b e=>by
  have n:b≠r:=fun q=>by rw[q,A1]at e;cases e
  rw[A4 n]at e;exact s1.free e
 generalize (upd H1 r (.ins CR dr (C3 "fault" (.int (faultOf g y:Nat)) rs)))=H2 at hr2 kp2 fr2 ⊢;generalize (C3 "fault" (.int (faultOf g y:Nat)) rs)=rs2 at hr2 nf2 ⊢;have hl2:=kp2 _ _ (BD nrl) hl;have hb2:=kp2 _ _ (BD nrb) hbl;have hW2:WY K H2 R.d:=hW.keepR kp2 hr0;have hF2:FM CF H2 p g:=hF.keep fun dx fs e=>kp2 _ _ npr e;have hp2:=kp2 _ _ npr hp;refine⟨_,rfl,r,CR,dr,rs2,_,rfl,hr2,X.cl,X.nf,nf2.f,_,_,rfl,rfl,_,rfl,G5 (fun c=>?_) (fun c=>?_)⟩
 ·have c:(0:Int)<(faultOf g y:Nat):=of_decide_eq_true c;have c:faultOf g y≠0:=by omega
  exact h H2 ⟨fun b o n1 _ _ e=>kp2 b o n1 e,fun _=>⟨dr,rs2,hr2,nf2⟩,fun q=>(c q).elim,fun q=>(c q).elim⟩
 ·have c:¬(0:Int)<(faultOf g y:Nat):=Al (Ab.mpr c);have c0:faultOf g y=0:=by omega
  rw[c0]at nf2;have hcb:B8 g.sb y=true:=by
   cases q:B8 g.sb y with
   |true=>rfl
   |false=>unfold faultOf at c0;rw[AL q]at c0;cases c0
  refine⟨_,rfl,p,CF,dx,fs,_,rfl,hp2,O.cl,O.n2,k2,_,rfl,rfl,_,rfl,G5 (fun e=>?_) (fun e=>?_)⟩
  ·have e:K5 g.sb=B1 y:=by simpa using e
   refine⟨_,rfl,r,CR,dr,rs2,_,rfl,hr2,X.cl,X.na,nf2.a,_,_,rfl,rfl,dr,rs2,hr2,(by have:=nf2.n;omega),?_⟩;refine h _ ⟨fun b o n1 _ _ e=>(by rw[A4 n1];exact kp2 b o n1 e),fun q=>(q c0).elim,fun _ z hz=>?_,fun _ x hx=>?_⟩
   ·exact⟨⟨dr,_,A1,nf2.setA _⟩,by rw[A4 (BD nrl)];exact hl2,by rw[A4 (BD nrb)];exact hb2⟩
   ·rw[hx]at e;exact(Bg7 x (P4 x) y hy e).elim
  ·have e:¬K5 g.sb=B1 y:=by intro z;apply e;simpa using z
   cases hsb:g.sb with
   |t z=>
    rw[hsb]at hcb e;have:z=y:=by simpa [B8]using hcb
    exact(e (by rw[this];rfl)).elim
   |n x=>rw[hsb]at hcb;obtain⟨ps,hw⟩:=BU.mp (show(P3 x y).isSome=true from hcb);refine⟨_,rfl,_,rfl,_,rfl,r,R,i,0,p,g,x,y,ps,as,bs,rfl,⟨dr,rs2,hr2,nf2⟩,hW2,hF2,hsb,hy,hw,hl2,hb2,nfb,has,hbs,fun H4 o4=>?_⟩;refine h H4 ⟨fun b o n1 n2 n3 e=>o4.k b o n2 n3 (kp2 b o n1 e),fun q=>(q c0).elim,fun _ z hz=>(by rw[hsb]at hz;cases hz),fun _ x' hx'=>?_⟩;rw[hsb]at hx';cases hx';refine⟨⟨dr,rs2,o4.k _ _ nrl nrb hr2,nf2⟩,H2,fr2,?_⟩;rw[hw];exact o4
end
structure CS (K:AA)(H0:Hp)(r:AI)(R:RR)(cy:Nat->Sy)(N:Nat):Prop where
 sy:SyAt H0 R.sl cy N
 wy:WY K H0 R.d
 cy:∀i,cy i∈J5
 nr:H0 r=none
 nf:H0 R.fl=none
 nb:H0 R.bl=none
 ne:R.fl≠R.bl
 N:N<=100000
def BO9 (t:LT)(o:Op):Prop:=er t=.mk o.k o.i o.i false 13 0 o.c
structure NDs (CN:AI)(H0 H:Hp)(R:RR)(ts:List LT)(opn:List Op):Prop where
 l:H R.bl=some (.lst (B2 ts))
 at_:AtL CN H ts
 nd:(fps ts).Nodup
 op:Paired BO9 ts.reverse opn
 h0:∀b∈fps ts,H0 b=none
 nb:R.bl∉fps ts
 nf:R.fl∉fps ts
 pg:∃t0 tr,ts=t0::tr/\t0.a=R.pg
structure MC (CF CR CN:AI)(H0 H:Hp)(r:AI)(R:RR)(frs:List Fr)(pos:Nat)(opn:List Op):Prop where
 rd:RD CR H r R (pos:Nat) 0
 bs:Same H0 H
 fr:∃as:List AI,H R.fl=some (.lst (as.map V.ref))/\Paired (FM CF H) as.reverse frs
 nd:∃ts,NDs CN H0 H R ts opn
mutual
theorem AtT.kind:∀(t:LT),AtT C H t->∀b∈fp t,(∃f fs,H b=some (.ins C f fs))∨∃xs,H b=some (.lst xs)
 |.mk a g k i j p s l c,h,b,d=>by
  rw[L0]at h;rw[F6]at d;rcases AK.mp d with rfl |d
  ·obtain⟨f,fs,e,_⟩:=h.1;exact .inl ⟨_,_,e⟩
  ·rcases AK.mp d with rfl |d
   ·exact .inr ⟨_,h.2.1⟩
   ·exact AtL.kind c h.2.2 b d
theorem AtL.kind:∀(c:List LT),AtL C H c->∀b∈fps c,(∃d fs,H b=some (.ins C d fs))∨∃xs,H b=some (.lst xs)
 |[],_,b,a=>by rw[F4]at a;cases a
 |t::r,h,b,a=>by
  unfold AtL at h;rw[B3]at a;rcases AY.mp a with a |a
  ·exact AtT.kind t h.1 b a
  ·exact AtL.kind r h.2 b a
end
theorem AtL.notin (h:AtL C H c)(a:H b=some (.ins C' dx fs))(n:C'≠C):b∉fps c:=fun q=>by
 rcases AtL.kind c h b q with ⟨d,f,e⟩ |⟨g,e⟩
 ·rw[a]at e;injection e with e;injection e with e;exact n e
 ·rw[a]at e;cases e
theorem NDs.keep {f CR r:AI}{g H H':Hp}{R:RR}{ts:List LT}{a:List Op}(h:NDs f g H R ts a)(j:r∉fps ts)(c:R.bl≠r)(d:R.fl≠R.bl)(k:∀b o,b≠r->b≠R.fl->H b=some o->H' b=some o):NDs f g H' R ts a:=
 ⟨k _ _ c (BD d) h.l,AtL.keep ts h.at_ fun b i o e=>k b o (fun q=>j (by rw[←q];exact i)) (fun q=>h.nf (by rw[←q];exact i)) e,h.nd,h.op,h.h0,h.nb,h.nf,h.pg⟩
theorem NDs.push (h:NDs CN H0 H R ts opn)(s:Same H0 H)(y:r∉fps ts)(p:∃o,H R.fl=some o)(k:∀b o,b≠r->b≠R.fl->b≠R.bl->H b=some o->H' b=some o)
  (g1:H' R.bl=some (.lst (B2 ts++[V.ref n]))) (g2:NO CN H' n ⟨il,nameNt x,(i:Nat),(i:Nat),false,13,0⟩) (z:H' il=some (.lst [])) (g:H n=none) (j:H il=none) (A:n≠il):NDs CN H0 H' R (ts++[.mk n il (.n x) i i false 13 0 []]) (⟨.n x,i,[]⟩::opn):=by
 have m:fps (ts++[.mk n il (.n x) i i false 13 0 []])=fps ts++[n,il]:=by rw[T4,B3,F4,F6,F4];rfl
 have u:∀b,H b=none->b∉fps ts:=fun b e q=>by obtain⟨o,v⟩:=AtL.ex ts h.at_ b q;rw[e]at v;cases v
 obtain⟨B,d⟩:=p;refine⟨by rw[K0];exact g1,?_,?_,?_,?_,?_,?_,?_⟩
 ·rw[E5];intro t f;rcases AY.mp f with f |f
  ·refine(E5.mp h.at_ t f).keep t fun b c o e=>?_;have c:b∈fps ts:=W6.mpr ⟨t,f,c⟩;exact k b o (fun q=>y (by rw[←q];exact c)) (fun q=>h.nf (by rw[←q];exact c)) (fun q=>h.nb (by rw[←q];exact c)) e
  ·rw[AN]at f;subst f;exact L0.mpr ⟨g2,z,by unfold AtL;trivial⟩
 ·rw[m,BE];refine⟨h.nd,Am.mpr ⟨by simpa using A,by simp⟩,fun a w b c q=>?_⟩;simp only[AK,BL,Bw]at c;rcases c with rfl |rfl
  ·exact u _ g (by rw[←q];exact w)
  ·exact u _ j (by rw[←q];exact w)
 ·rw[BI];refine .cons ?_ h.op;show er _=_;rw[V9];rfl
 ·rw[m];intro b c;rcases AY.mp c with c |c
  ·exact h.h0 b c
  simp only[AK,BL,Bw]at c;rcases c with rfl |rfl
  ·exact s.free g
  ·exact s.free j
 ·rw[m];intro c;rcases AY.mp c with c |c
  ·exact h.nb c
  simp only[AK,BL,Bw]at c;have:=h.l;rcases c with q |q
  ·rw[q,g]at this;cases this
  ·rw[q,j]at this;cases this
 ·rw[m];intro c;rcases AY.mp c with c |c
  ·exact h.nf c
  simp only[AK,BL,Bw]at c;rcases c with q |q
  ·rw[q,g]at d;cases d
  ·rw[q,j]at d;cases d
 ·obtain⟨C,D,e,q⟩:=h.pg;exact⟨C,D++[.mk n il (.n x) i i false 13 0 []],by rw[e];rfl,q⟩
theorem NDs.close {g r:AI}{j H H':Hp}{R:RR}{ts:List LT}{u t t':LT}{d:List Op}{o p:Op}{n:Nd}(h:NDs g j H R (ts++[u,t]) (o::p::d))(z:Same j H)(m:∃o,H R.fl=some o)(E:BG8 g R.bl H H' ts u t t' n):NDs g j H' R (ts++[u.addC t']) (⟨p.k,p.i,p.c++[n]⟩::d):=by
 have a:=h.op;rw[BI]at a;have a:Paired BO9 (t::u::ts.reverse) (o::p::d):=a;have v:∀{b:AI},(∃o,H b=some o)->b∉fps (ts++[u,t])->b∉fps (ts++[u.addC t']):=fun {b} s w f=>by
  obtain⟨o,y⟩:=s;rcases E.sub b f with q |q
  ·exact w q
  ·rw[q]at y;cases y
 refine⟨E.l,E.at_,E.nd,?_,?_,v ⟨_,h.l⟩ h.nb,v m h.nf,?_⟩
 ·cases a with
  |cons w f=>
   cases f with
   |cons f A=>rw[BI];refine .cons ?_ A;show er (u.addC t')=_;have f:er u=.mk p.k p.i p.i false 13 0 p.c:=f;rw[Bf9,f,E.er];rfl
 ·intro b s;rcases E.sub b s with q |q
  ·exact h.h0 b q
  ·exact z.free q
 ·obtain⟨B,C,e,q⟩:=h.pg;cases ts with
  |nil=>injection e with e1 e2;refine⟨_,[],rfl,?_⟩;rw[Bq5,e1];exact q
  |cons x r=>injection e with e1 e2;exact⟨x,r++[u.addC t'],rfl,by rw[e1];exact q⟩
theorem BJ4 (a:y∈J5)(hz:z∈J5):decide (V.str (B1 y)=V.str (B1 z))=decide (y=z):=by rw[←BI3 y a z hz];exact CH.mpr (by simp)
theorem Ad2 (f g:Fm):decide (V.str (A35 f)=V.str (A35 g))=decide (f=g):=by cases f<;>cases g<;>decide+kernel
inductive A34 (K:AA) (CR CF CN:AI) (vs:List V) (H:Hp) (Q:VK) (E:XK):Prop
 |mk:∀(r:AI) (R:RR) (H0:Hp) (cy:Nat->Sy) (N:Nat) (g:Fr) (gs:List Fr) (i:Nat) (opn:List Op),vs=[.ref r]->CS K H0 r R cy N->MC CF CR CN H0 H r R (g::gs) i opn->Fine (g::gs) opn->Fit N opn->(((∃c,step cy N g gs i opn=.go c/\∀H',MC CF CR CN H0 H' r R c.frs c.pos c.opn->Q .non H')∨(∃k,step cy N g gs i opn=.bad k/\∀H',RD CR H' r R (i:Nat) (k:Nat)->Same H0 H'->Q .non H')))->A34 K CR CF CN vs H Q E
theorem A04 (h:step cy N g gs i opn≠.stuck):i<=N:=by
 by_cases q:N<i
 ·exact(h (by unfold Rd.step;rw[AL q])).elim
 ·omega
theorem Br0 {c:Type}(l:List c):l=[]∨∃d x,l=d++[x]:=by
 rcases CP l with h |⟨a,b,h⟩
 ·exact .inl h
 ·exact .inr ⟨a,b,by rw[h,CA]⟩
section
variable {P:Af} {w:Ap} {K:AA} {mg:Str->Option AH} {base:BR}
theorem An9:B7 ["reading","frame","token"] ["reading"] (A8 BE3):=fsc
theorem BT0 {f CR CF CN:AI}{fd:BK}(F:Fun K "step" "step" BE3 f fd)(Z:RdF P w K mg CR CF CN):D6 P w K mg base CX0 8 f fd ["reading"] (A34 K CR CF CN):=by
 have X:=Z.X;obtain⟨fI,dI,O⟩:=Z.O;obtain⟨fC,dC,NC⟩:=Z.can;obtain⟨fE,dE,NE⟩:=Z.enn;obtain⟨fN,dN,NN⟩:=Z.fin;obtain⟨fP,dP,P1⟩:=Z.one;obtain⟨fO,dO,R1⟩:=Z.onc;have GC:D6 P w K mg base CX0 1 fC dC ["reading","symbol","token"] (A51 K CR):=BG6 NC.F X;have GO:D6 P w K mg base CX0 5 fO dO ["reading","frame","token"] (Aq7 K CR CF CN):=BS4 R1.F Z;have GP:D6 P w K mg base CX0 3 fP dP ["reading","frame"] (AF3 CR CF):=Aj0 P1.F X O;have GE:D6 P w K mg base CX0 7 fE dE ["reading"] (BK5 CR CN):=Bk7 NE.F X Z.Y Z.T Z.W NN;refine F.oK An9 fun cdv A outer s H vs Q E hr h=>?_;obtain⟨r,R,H0,cy,N,g,gs,i,opn,rfl,S0,M,hFi,hFt,h⟩:=h;have hr5:Room 5 _:=hr.mono (by decide);have hr3:Room 3 _:=hr.mono (by decide);have hr2:Room 2 _:=hr.mono (by decide);have hr1:Room 1 _:=hr.mono (by decide);refine⟨_,A2 (C9 (i:=1) An9.nd rfl (Or.inl rfl) (AE8 Ac Bq Bp AD2 (A9 (pv 0) rfl)))
  (A2 (C9 (i:=2) An9.nd rfl (Or.inl rfl) (G7 D4 (A9 (pv 0) rfl) (A9 (pv 0) rfl) (fun _ _=>rfl)))
  (A3 (D9 (B4 J0 (A9 (pv 1) rfl) C7 (C1 _)) (A3 (E4 (D5 NE GE hr (A0 (pv 0) A6))))
   (A3 (D9 (B4 J0 (pv 2) C7 (C1 _)) (A3 (D0 (pv 0) (F2 X.nott) rfl))
   (A3 (D9 (B4 J0 (A9 (pv 1) rfl) C7 (C1 _)) (A3 (E4 (D5 R1 GO hr5 (A0 (pv 0) (A0 (pv 1) (A0 (pv 2) A6))))))
    (A3 (D9 (B4 J0 (A9 (pv 1) rfl) C7 (C1 _))
     (A3 (D9 (B4 J0 (pv 2) C7 (C1 _)) (A2 (AV2 (pv 0) B0 AJ5) (A3 (E4 (D5 P1 GP hr3 (A0 (pv 0) (A0 (pv 1) A6)))))) C4))
     (A3 (D9 (R7 (D5 NC GC hr1 (A0 (pv 0) (A0 (A9 (pv 1) rfl) (A0 (pv 2) A6)))))
      (A3 (D9 (B4 J0 (A9 (pv 1) rfl) C7 (C1 _)) (A3 (E4 (D5 P1 GP hr3 (A0 (pv 0) (A0 (pv 1) A6)))))
       (A3 (E4 (U2 Ac Ax Aw G2 (A9 (pv 0) rfl) (A0 (BN8 O hr2 (A0 C7 (A0 (A9 (pv 1) rfl) (A0 (A9 (pv 1) rfl) (A0 (A9 (pv 1) rfl) A6))))) A6))))))
      C4))))))))))),?_⟩
 have sz:=BA;have hns:step cy N g gs i opn≠.stuck:=by rcases h with ⟨c,e,_⟩ |⟨k,e,_⟩<;>(rw[e];intro q;cases q)
 have hi:=A04 hns;obtain⟨dr,rs,hr0,nf⟩:=id M.rd;obtain⟨as,hl,hfr⟩:=M.fr;obtain⟨ts,D⟩:=M.nd;have hlen:=hFi.len;have hal:as.length<=20000:=by have e1:=BQ hfr;rw[Cd]at e1;omega
 have htl:ts.length<=20001:=by have e1:=BQ D.op;rw[Cd]at e1;omega
 have hvb:=(hFi.vb g (AG ..)).1;rcases Br0 as with rfl |⟨as',p,rfl⟩
 ·cases hfr
 rw[BI]at hfr;have hfr:Paired (FM CF H) (p::as'.reverse) (g::gs):=hfr;cases hfr with
 |cons hF hgs=>
 rw[AO]at hal;have has:as'.length<=20000:=by omega
 have nrl:r≠R.fl:=E8 hr0 hl (by intro z;cases z);have nrb:r≠R.bl:=E8 hr0 D.l (by intro z;cases z);have nrt:r∉fps ts:=AtL.notin D.at_ hr0 (BD X.nr);have e1:((as'++[p]).map V.ref)[((as'++[p]).map V.ref).length-1]?=some (V.ref p):=by rw[AV];simp
 have e2:((as'++[p]).map V.ref).dropLast=as'.map V.ref:=by rw[AV];simp
 -- an end
 have fin:∀(H':Hp) (c:Cf) (as2:List AI) (ts2:List LT),step cy N g gs i opn=.go c->RD CR H' r R (c.pos:Nat) 0->Same H0 H'->H' R.fl=some (.lst (as2.map V.ref))->Paired (FM CF H') as2.reverse c.frs->NDs CN H0 H' R ts2 c.opn->Q .non H':=by
  intro H' c as2 ts2 hst hR' hs' hl' hf' hn';rcases h with ⟨c',e,h⟩ |⟨k,e,_⟩
  ·rw[hst]at e;cases e;exact h H' ⟨hR',hs',⟨as2,hl',hf'⟩,⟨ts2,hn'⟩⟩
  ·rw[hst]at e;cases e
 have bad:∀(H':Hp) (k:Nat),step cy N g gs i opn=.bad k->RD CR H' r R (i:Nat) (k:Nat)->Same H0 H'->Q .non H':=by
  intro H' k hst hR' hs';rcases h with ⟨c',e,_⟩ |⟨k',e,h⟩
  ·rw[hst]at e;cases e
  ·rw[hst]at e;cases e;exact h H' hR' hs'
 refine⟨_,rfl,r,CR,dr,rs,_,rfl,hr0,X.cl,X.nfl,nf.fl,.inl ⟨rfl,_,SqL.of hl⟩,R.fl,_,_,rfl,rfl,hl,e1,?_⟩;rw[e2];have kk1:∀b o,b≠R.fl->H b=some o->(upd H R.fl (.lst (as'.map V.ref))) b=some o:=fun b o nb e=>by rw[A4 nb];exact e
 have hl1:(upd H R.fl (.lst (as'.map V.ref))) R.fl=some (.lst (as'.map V.ref)):=A1;generalize (upd H R.fl (.lst (as'.map V.ref)))=H1 at kk1 hl1 ⊢;have hR1:RD CR H1 r R (i:Nat) 0:=M.rd.keep fun o e=>kk1 _ _ nrl e;have hF1:=hF.psh kk1 hl;have hgs1:=FMs.psh hgs kk1 hl;have S1:Same H0 H1:=fun b o e=>kk1 _ _ (fun q=>by rw[q,S0.nf]at e;cases e) (M.bs _ _ e);have D1:NDs CN H0 H1 R ts opn:=D.keep (CR:=CR) nrt (BD nrb) S0.ne fun b o _ n e=>kk1 b o n e;have hW1:WY K H1 R.d:=S0.wy.same S1;have hr1':=kk1 _ _ nrl hr0;have hS1:SyAt H1 R.sl cy N:=S0.sy.keep fun o e=>S1 _ _ e;obtain⟨xs,hxs,hxi⟩:=SyAt.at hS1 hi;obtain⟨nr,hnr,dx,fs,hp1,k1,k2,k3,k4⟩:=id hF1;refine⟨_,rfl,r,CR,dr,rs,_,rfl,hr1',X.cl,X.nsl,nf.sl,_,rfl,r,CR,dr,rs,_,rfl,hr1',X.cl,X.na,nf.a,R.sl,_,_,_,rfl,rfl,SqL.of hxs,E9 hxi,?_⟩;have hcur:=S0.cy i;have q0:decide (V.str (B1 (cy i))=V.str "nothing")=decide (cy i=.nothing):=BJ4 (z:=.nothing) hcur (by decide+kernel);have q1:decide (V.str (A35 g.fm)=V.str "once")=decide (g.fm=.once):=Ad2 g.fm .once;have q2:decide (V.str (A35 g.fm)=V.str "more")=decide (g.fm=.more):=Ad2 g.fm .more;have q3:decide (V.str (A35 g.fm)=V.str "many")=decide (g.fm=.many):=Ad2 g.fm .many;have q5:decide (V.str (A35 g.fm)=V.str "end")=decide (g.fm=.fin):=Ad2 g.fm .fin;have q4:decide (V.str (B1 (cy i))=V.str ",")=decide (cy i=.sign 25):=BJ4 (z:=.sign 25) hcur (by decide+kernel);have hst0:=Eq.refl (Rd.step cy N g gs i opn)
 conv at hst0=>
  rhs
  unfold Rd.step;rw[AD (Bx.mpr hi)]
 have nrt1:r∉fps ts:=nrt;refine⟨_,rfl,p,CF,dx,fs,_,rfl,hp1,O.cl,O.n1,k1,rfl,_,rfl,?_⟩;rw[q5];refine G5 (fun e=>?_) (fun e=>?_)
 ·-- the end of a node
  have hm:g.fm=.fin:=of_decide_eq_true e;rw[AL hm]at hst0;have hop:=D1.op;cases opn with
  |nil=>exact(hns hst0).elim
  |cons o op1=>
  cases op1 with
  |nil=>exact(hns hst0).elim
  |cons p' opr=>
  have hst1:step cy N g gs i (o::p'::opr)=match Rd.fin cy N o i with
   |some n=>if p'.c.length<=N then .go ⟨gs,i,⟨p'.k,p'.i,p'.c++[n]⟩::opr⟩else .stuck
   |none=>.stuck:=hst0
  cases hn:Rd.fin cy N o i with
  |none=>rw[hn]at hst1;exact(hns hst1).elim
  |some n=>
  rw[hn]at hst1;have hst1:step cy N g gs i (o::p'::opr)=if p'.c.length<=N then .go ⟨gs,i,⟨p'.k,p'.i,p'.c++[n]⟩::opr⟩else .stuck:=hst1
  by_cases hpl:p'.c.length<=N
  ·rw[AL hpl]at hst1
   -- the two last nodes
   obtain⟨ts',u,t,rfl⟩:∃ts' u t,ts=ts'++[u,t]:=by have hl2:=BQ hop;rw[Cd]at hl2;simp only[AZ]at hl2;obtain⟨t1,t,rfl,h1⟩:=A75 hl2;obtain⟨t2,u,rfl,h2⟩:=A75 h1;exact⟨t2,u,t,by simp⟩
   rw[BI]at hop;have hop:Paired BO9 (t::u::ts'.reverse) (o::p'::opr):=hop;cases hop with
   |cons ho hop=>
   cases hop with
   |cons hpp hop=>
   have ho:er t=.mk o.k o.i o.i false 13 0 o.c:=ho;have hpp:er u=.mk p'.k p'.i p'.i false 13 0 p'.c:=hpp;have ek:t.i=o.i:=by have:=(A95 t).2.1;rw[ho]at this;exact this.symm
   have ecc:∀{t:LT} {o:Op},er t=.mk o.k o.i o.i false 13 0 o.c->t.c.map er=o.c:=by intro t o e;obtain⟨a,il,k,i,j,p,s,l,c⟩:=t;rw[V9]at e;injection e
   have ec:=ecc ho;have ecu:=ecc hpp;have hfo:=hFt o (AG ..);have hfp:=hFt p' (AC _ (AG ..));have lc:t.c.length<=100001:=by have:=Bh List.length ec;rw[AJ]at this;have:=S0.N;omega
   have lu:u.c.length<=100001:=by have:=Bh List.length ecu;rw[AJ]at this;have:=S0.N;omega
   have nsl:R.sl∉fps (ts'++[u,t]):=fun q=>by obtain⟨syms,z,_⟩:=S0.sy;rw[D1.h0 _ q]at z;cases z
   have slb:R.sl≠R.bl:=fun q=>by obtain⟨syms,z,_⟩:=S0.sy;rw[q,S0.nb]at z;cases z
   refine⟨_,rfl,r,R,i,0,cy,N,ts',u,t,o.k,n,rfl,hR1,hS1,S0.cy,D1.l,D1.at_,D1.nd,nsl,D1.nb,slb,X.nr,?_,?_,lc,lu,?_,fun H' t' EO=>?_⟩
   ·rw[ec,ek];exact ho
   ·rw[ek];exact hfo.2
   ·rw[ec,ek];exact hn
   refine fin H' _ as' _ hst1 (hR1.keep fun o e=>EO.kp _ _ nrb nrt e) (fun b o' e=>EO.kp b o' (fun q=>by rw[q,S0.nb]at e;cases e) (fun q=>by rw[D1.h0 b q]at e;cases e) (S1 _ _ e)) (EO.kp _ _ S0.ne D1.nf hl1) (FMs.keep hgs1 fun a dx fs e=>EO.kp _ _ (E8 e D1.l (by intro z;cases z)) (AtL.notin D1.at_ e X.fn) e) (D1.close (r:=r) S1 ⟨_,hl1⟩ EO)
  ·rw[AD hpl]at hst1;exact(hns hst1).elim
 have hnf:g.fm≠.fin:=Al (Ab.mpr e);rw[AD hnf]at hst0;refine⟨_,rfl,rfl,_,rfl,?_⟩;rw[q0];refine G5 (fun e=>?_) (fun e=>?_)
 ·have e:cy i=.nothing:=of_decide_eq_true e;rw[AL e]at hst0;refine⟨_,rfl,r,CR,dr,rs,rfl,hr1',X.cl,X.nf,(by have:=nf.n;omega),?_⟩;exact bad _ 1 hst0 ⟨dr,_,A1,nf.setF 1⟩ fun b o e=>by rw[A4 (fun q=>by rw[q,S0.nr]at e;cases e)];exact S1 _ _ e
 have hnn:cy i≠.nothing:=Al (Ab.mpr e);rw[AD hnn]at hst0;obtain⟨gfm,gsb,groom,gdp⟩:=g;refine⟨_,rfl,p,CF,dx,fs,_,rfl,hp1,O.cl,O.n1,k1,rfl,_,rfl,?_⟩;rw[q1];refine G5 (fun e1=>?_) (fun e1=>?_)
 ·have hm:gfm=.once:=of_decide_eq_true e1;subst hm;refine⟨_,rfl,_,rfl,_,rfl,r,R,_,0,p,_,cy i,as',B2 ts,rfl,hR1,hW1,hF1,hvb,hcur,hl1,D1.l,S0.ne,(by omega),(by simp only[B2,AJ];omega),fun H' out=>?_⟩;have sH:Same H0 H':=fun b o e=>out.k b o (fun q=>by rw[q,S0.nr]at e;cases e) (fun q=>by rw[q,S0.nf]at e;cases e) (fun q=>by rw[q,S0.nb]at e;cases e) (S1 _ _ e);have fmH:Paired (FM CF H') as'.reverse gs:=FMs.keep hgs1 fun a dx fs e=>out.k _ _ (E8 e hr1' (by intro z;injection z with z;exact X.fr z)) (E8 e hl1 (by intro z;cases z)) (E8 e D1.l (by intro z;cases z)) e;by_cases hb:faultOf ⟨.once,gsb,groom,gdp⟩ (cy i)=0
  ·cases gsb with
   |t z=>
    have hst1:step cy N ⟨.once,.t z,groom,gdp⟩ gs i opn=.go ⟨gs,i+1,opn⟩:=by rw[hst0];exact AD (show ¬(faultOf ⟨.once,.t z,groom,gdp⟩ (cy i)≠0)from fun q=>q hb)
    obtain⟨o1,o2,o3⟩:=out.tok hb z rfl;refine fin H' _ as' ts hst1 ?_ sH o2 fmH ⟨o3,AtL.keep ts D1.at_ fun b hb o e=>out.k b o (fun q=>nrt (by rw[←q];exact hb)) (fun q=>D1.nf (by rw[←q];exact hb)) (fun q=>D1.nb (by rw[←q];exact hb)) e,D1.nd,D1.op,D1.h0,D1.nb,D1.nf,D1.pg⟩;have:((i+1:Nat):Int)=(i:Int)+1:=by omega
    show RD CR H' r R ((i+1:Nat):Int) 0;rw[this];exact o1
   |n x=>
    have hst1:step cy N ⟨.once,.n x,groom,gdp⟩ gs i opn=.go ⟨((P3 x (cy i)).getD []).map (fr (dps x gdp))++(V6 x++gs),i,b9 x i++opn⟩:=by rw[hst0];exact AD (show ¬(faultOf ⟨.once,.n x,groom,gdp⟩ (cy i)≠0)from fun q=>q hb)
    obtain⟨o1,Hm,hm0,o2⟩:=out.exp hb x rfl;obtain⟨new,o3,o4⟩:=o2.fr;have fr':Paired (FM CF H') (as'++new).reverse (((P3 x (cy i)).getD []).map (fr (dps x gdp))++(V6 x++gs)):=by rw[BI,←AF];exact p9 o4 fmH
    rcases o2.nd with ⟨c,o5⟩ |⟨c,n,il,o5,o6,o7,o8,o9,o10⟩
    ·refine fin H' _ (as'++new) ts hst1 o1 sH o3 fr' ?_;have:b9 x i++opn=opn:=by unfold b9;rw[c];rfl
     show NDs CN H0 H' R ts (b9 x i++opn);rw[this];exact⟨o5,AtL.keep ts D1.at_ fun b hb o e=>out.k b o (fun q=>nrt (by rw[←q];exact hb)) (fun q=>D1.nf (by rw[←q];exact hb)) (fun q=>D1.nb (by rw[←q];exact hb)) e,D1.nd,D1.op,D1.h0,D1.nb,D1.nf,D1.pg⟩
    ·refine fin H' _ (as'++new) (ts++[.mk n il (.n x) i i false 13 0 []]) hst1 o1 sH o3 fr' ?_;have:b9 x i++opn=⟨.n x,i,[]⟩::opn:=by unfold b9;rw[c];rfl
     show NDs CN H0 H' R _ (b9 x i++opn);rw[this];exact D1.push S1 nrt ⟨_,hl1⟩ out.k o5 o6 o7 (hm0 _ o8) (hm0 _ o9) o10
  ·have hst1:step cy N ⟨.once,gsb,groom,gdp⟩ gs i opn=.bad (faultOf ⟨.once,gsb,groom,gdp⟩ (cy i)):=by rw[hst0];exact AL hb
   exact bad H' _ hst1 (out.bad hb) sH
 have hm1:gfm≠.once:=Al (Ab.mpr e1);refine⟨_,rfl,p,CF,dx,fs,_,rfl,hp1,O.cl,O.n1,k1,rfl,_,rfl,?_⟩;rw[q2];refine G5 (fun e2=>?_) (fun e2=>?_)
 ·have hm:gfm=.more:=of_decide_eq_true e2;subst hm;refine⟨_,rfl,rfl,_,rfl,?_⟩;rw[q4];refine G5 (fun e3=>?_) (fun e3=>?_)
  ·have hc:cy i=.sign 25:=of_decide_eq_true e3;have hst1:step cy N ⟨.more,gsb,groom,gdp⟩ gs i opn=.go ⟨⟨.once,gsb,groom,gdp⟩::⟨.more,gsb,groom-1,gdp⟩::gs,i+1,opn⟩:=by rw[hst0];exact AL hc
   refine⟨_,rfl,r,CR,dr,rs,_,rfl,hr1',X.cl,X.na,nf.a,_,_,rfl,rfl,dr,rs,hr1',(by have:=nf.n;omega),?_⟩;have nf2:=nf.setA ((i:Int)+1);have hr2:(upd H1 r (.ins CR dr (C3 "at" (.int ((i:Int)+1)) rs))) r=some (.ins CR dr (C3 "at" (.int ((i:Int)+1)) rs)):=A1;have kp2:∀b o,b≠r->H1 b=some o->(upd H1 r (.ins CR dr (C3 "at" (.int ((i:Int)+1)) rs))) b=some o:=fun b o n e=>by rw[A4 n];exact e
   generalize (upd H1 r (.ins CR dr (C3 "at" (.int ((i:Int)+1)) rs)))=H2 at hr2 kp2 ⊢;have hF2:FM CF H2 p ⟨.more,gsb,groom,gdp⟩:=hF1.keep fun dx fs e=>kp2 _ _ (E8 e hr1' (by intro z;injection z with z;exact X.fr z)) e;have hgs2:Paired (FM CF H2) as'.reverse gs:=FMs.keep hgs1 fun a dx fs e=>kp2 _ _ (E8 e hr1' (by intro z;injection z with z;exact X.fr z)) e;have hl2:=kp2 _ _ (BD nrl) hl1;refine⟨_,rfl,_,rfl,r,R,_,0,p,_,as',rfl,⟨dr,_,hr2,nf2⟩,hF2,hl2,(by omega),fun H' a1 a2 hP hA hB=>?_⟩;refine fin H' _ (as'++[a1,a2]) ts hst1 ?_ (fun b o e=>hP.k b o (fun q=>by rw[q,S0.nf]at e;cases e) (kp2 b o (fun q=>by rw[q,S0.nr]at e;cases e) (S1 _ _ e))) hP.l ?_ (D1.keep (CR:=CR) nrt (BD nrb) S0.ne fun b o n1 n2 e=>hP.k b o n2 (kp2 b o n1 e))
   ·have:((i+1:Nat):Int)=(i:Int)+1:=by omega
    show RD CR H' r R ((i+1:Nat):Int) 0;rw[this];exact⟨dr,_,hP.k _ _ nrl hr2,nf2⟩
   ·rw[BI];exact .cons hB (.cons hA (FMs.psh hgs2 hP.k hl2))
  ·have hc:cy i≠.sign 25:=Al (Ab.mpr e3);have hst1:step cy N ⟨.more,gsb,groom,gdp⟩ gs i opn=.go ⟨gs,i,opn⟩:=by rw[hst0];exact AD hc
   exact fin H1 _ as' ts hst1 hR1 S1 hl1 hgs1 D1
 have hm2:gfm≠.more:=Al (Ab.mpr e2);refine⟨_,rfl,_,rfl,p,CF,dx,fs,_,rfl,hp1,O.cl,O.n2,k2,_,rfl,r,R,_,0,gsb,cy i,rfl,hR1,hW1,hvb,hcur,fun H2 s2=>⟨_,rfl,?_⟩⟩;have hR2:=hR1.keep fun o e=>s2 _ _ e;have hl2:=s2 _ _ hl1;have hF2:FM CF H2 p ⟨gfm,gsb,groom,gdp⟩:=hF1.keep fun dx fs e=>s2 _ _ e;have hgs2:Paired (FM CF H2) as'.reverse gs:=FMs.keep hgs1 fun a dx fs e=>s2 _ _ e;have hp2:=s2 _ _ hp1;have D2:NDs CN H0 H2 R ts opn:=D1.keep (CR:=CR) nrt (BD nrb) S0.ne fun b o _ n e=>s2 b o e;have S2:=S1.trans s2;refine G5 (fun e3=>?_) (fun e3=>?_)
 ·refine⟨_,rfl,p,CF,dx,fs,_,rfl,hp2,O.cl,O.n1,k1,rfl,_,rfl,?_⟩;rw[q3];refine G5 (fun e4=>?_) (fun e4=>?_)
  ·have hm:gfm=.many:=of_decide_eq_true e4;subst hm;have hst1:step cy N ⟨.many,gsb,groom,gdp⟩ gs i opn=.go ⟨⟨.once,gsb,groom,gdp⟩::⟨.many,gsb,groom-1,gdp⟩::gs,i,opn⟩:=by rw[hst0];exact AL e3
   refine⟨_,rfl,_,rfl,r,R,_,0,p,_,as',rfl,hR2,hF2,hl2,(by omega),fun H' a1 a2 hP hA hB=>?_⟩;refine fin H' _ (as'++[a1,a2]) ts hst1 (hR2.keep fun o e=>hP.k _ _ nrl e) (fun b o e=>hP.k b o (fun q=>by rw[q,S0.nf]at e;cases e) (S2 _ _ e)) hP.l ?_ (D2.keep (CR:=CR) nrt (BD nrb) S0.ne fun b o n1 n2 e=>hP.k b o n2 e);rw[BI];exact .cons hB (.cons hA (FMs.psh hgs2 hP.k hl2))
  ·have hm:gfm=.maybe:=by
    have hm3:gfm≠.many:=Al (Ab.mpr e4);cases gfm with
    |once=>exact(hm1 rfl).elim
    |more=>exact(hm2 rfl).elim
    |many=>exact(hm3 rfl).elim
    |fin=>exact(hnf rfl).elim
    |maybe=>rfl
   subst hm;have hst1:step cy N ⟨.maybe,gsb,groom,gdp⟩ gs i opn=.go ⟨⟨.once,gsb,groom,gdp⟩::gs,i,opn⟩:=by rw[hst0];exact AL e3
   have hr2':=s2 _ _ hr1';refine⟨_,rfl,r,CR,dr,rs,_,rfl,hr2',X.cl,X.nfl,nf.fl,.inl ⟨rfl,_,SqL.of hl2⟩,?_⟩;refine⟨_,rfl,p,CF,dx,fs,_,rfl,hp2,O.cl,O.n2,k2,_,rfl,p,CF,dx,fs,_,rfl,hp2,O.cl,O.n3,k3,_,rfl,p,CF,dx,fs,_,rfl,hp2,O.cl,O.n4,k4,fun a1 dx1 na1 nd1 _=>⟨a1,dx1,_,_,_,_,rfl,A1,fun H3 hF3 kp3=>⟨rfl,?_⟩⟩⟩;have s3:=Same.made na1 nd1 kp3;have hl3:=s3 _ _ hl2;refine⟨R.fl,_,_,rfl,rfl,hl3,(by rw[AJ];omega),?_⟩;have kk:∀b o,b≠R.fl->H2 b=some o->(upd H3 R.fl (.lst (as'.map V.ref++[V.ref a1]))) b=some o:=fun b o nb e=>by rw[A4 nb];exact s3 _ _ e
   refine fin _ _ (as'++[a1]) ts hst1 (hR2.keep fun o e=>kk _ _ nrl e) (fun b o e=>kk b o (fun q=>by rw[q,S0.nf]at e;cases e) (S2 _ _ e)) ?_ ?_ (D2.keep (CR:=CR) nrt (BD nrb) S0.ne fun b o n1 n2 e=>kk b o n2 e)
   ·rw[A1,AV];rfl
   ·rw[BI];refine .cons ⟨nr,hnr,?_⟩ (FMs.psh hgs2 kk hl2);exact hF3.psh (fun b o nb e=>by rw[A4 nb];exact e) hl3
 ·have hcb:¬B8 gsb (cy i)=true:=e3;have hst1:step cy N ⟨gfm,gsb,groom,gdp⟩ gs i opn=.go ⟨gs,i,opn⟩:=by
   cases gfm with
   |once=>exact(hm1 rfl).elim
   |more=>exact(hm2 rfl).elim
   |many=>rw[hst0];exact AD hcb
   |fin=>exact(hnf rfl).elim
   |maybe=>rw[hst0];exact AD hcb
  exact fin H2 _ as' ts hst1 hR2 S2 hl2 hgs2 D2
end
def SyQ (q:Q4)(y:Sy):Prop:=(q.wh=0/\y=.name)∨(q.wh=1/\y=.number)∨(q.wh=2/\q.wi<26/\y=.kept q.wi)∨(q.wh=3/\q.wi<33/\y=.sign q.wi)∨(q.wh=4/\y=.nothing)
inductive AK0 (C:AI) (vs:List V) (H:Hp) (Q:VK) (E:XK):Prop
 |mk:∀(a:AI) (q:Q4) (y:Sy),vs=[.ref a]->TokAt C H a q.f q.l q.wh q.wi->SyQ q y->Q (.str (B1 y)) H->AK0 C vs H Q E
theorem BT2 (h:k<26):(m9.map V.str)[k]?=some (V.str (B1 (.kept k))):=by
 have a:∀k,k<26->(m9.map V.str)[k]?=some (V.str (B1 (.kept k))):=by decide+kernel
 exact a k h
theorem BV1 (h:k<33):(AX3.map V.str)[k]?=some (V.str (B1 (.sign k))):=by
 have a:∀k,k<33->(AX3.map V.str)[k]?=some (V.str (B1 (.sign k))):=by decide+kernel
 exact a k h
section
variable {P:Af} {w:Ap} {K:AA} {mg:Str->Option AH} {base:BR}
theorem BC1:B7 ["token"] ["token"] (A8 AD6):=fsc
theorem Aw0 (F:Fun K "symbol_of" "symbol_of" AD6 f fd)(X:BA1 P w K mg C)(d:∃a,mg "SIGNS"=some (.ref a)/\∀H,SqT K H a (AX3.map V.str)):D6 P w K mg base CX0 1 f fd ["token"] (AK0 C):=by
 obtain⟨r,k,t,l⟩:=X.kw;obtain⟨u,d,m⟩:=d;refine F.oK BC1 fun v A o s H I Q E J h=>?_;obtain⟨a,q,y,rfl,⟨g,i⟩,j,h⟩:=h;refine⟨_,A2 (D9 (B4 J0 (A9 (pv 0) rfl) (F2 X.name) (C1 _)) (A3 (B6 C7)) C4)
  (A2 (D9 (B4 J0 (A9 (pv 0) rfl) (F2 X.number) (C1 _)) (A3 (B6 C7)) C4)
  (A2 (D9 (B4 J0 (A9 (pv 0) rfl) (F2 X.kept) (C1 _)) (A3 (B6 (G7 AB4 (R0 k) (A9 (pv 0) rfl) (fun _ _=>rfl)))) C4)
  (A2 (D9 (B4 J0 (A9 (pv 0) rfl) (F2 X.sign) (C1 _)) (A3 (B6 (G7 AB4 (R0 d) (A9 (pv 0) rfl) (fun _ _=>rfl)))) C4)
  (A3 (B6 C7))))),?_⟩
 have b:∀n:Nat,decide (V.int ((q.wh:Nat):Int)=V.int (n:Int))=decide (q.wh=n):=fun n=>CH.mpr ⟨fun z=>by injection z with z;omega,fun z=>by rw[z]⟩;have x:decide (V.int ((q.wh:Nat):Int)=V.int 0)=decide (q.wh=0):=b 0;have B:decide (V.int ((q.wh:Nat):Int)=V.int 1)=decide (q.wh=1):=b 1;have D:decide (V.int ((q.wh:Nat):Int)=V.int 2)=decide (q.wh=2):=b 2;have G:decide (V.int ((q.wh:Nat):Int)=V.int 3)=decide (q.wh=3):=b 3;refine⟨_,rfl,a,C,g,_,_,rfl,i,X.cl,X.nW,b5 _ _ _ _,rfl,_,rfl,?_⟩;rw[x];refine G5 (fun c=>?_) (fun c=>?_)
 ·have c:q.wh=0:=of_decide_eq_true c;rcases j with ⟨e,rfl⟩ |⟨e,_⟩ |⟨e,_⟩ |⟨e,_⟩ |⟨e,_⟩
  ·exact h
  all_goals omega
 have L:q.wh≠0:=Al (Ab.mpr c);refine⟨_,rfl,a,C,g,_,_,rfl,i,X.cl,X.nW,b5 _ _ _ _,rfl,_,rfl,?_⟩;rw[B];refine G5 (fun c=>?_) (fun c=>?_)
 ·have c:q.wh=1:=of_decide_eq_true c;rcases j with ⟨e,_⟩ |⟨e,rfl⟩ |⟨e,_⟩ |⟨e,_⟩ |⟨e,_⟩
  ·omega
  ·exact h
  all_goals omega
 have M:q.wh≠1:=Al (Ab.mpr c);refine⟨_,rfl,a,C,g,_,_,rfl,i,X.cl,X.nW,b5 _ _ _ _,rfl,_,rfl,?_⟩;rw[D];refine G5 (fun c=>?_) (fun c=>?_)
 ·have c:q.wh=2:=of_decide_eq_true c;rcases j with ⟨e,_⟩ |⟨e,_⟩ |⟨e,p,rfl⟩ |⟨e,_⟩ |⟨e,_⟩
  ·omega
  ·omega
  ·exact⟨_,rfl,a,C,g,_,_,rfl,i,X.cl,X.nI,Ad8 _ _ _ _,r,_,_,_,rfl,rfl,l _,E9 (BT2 p),h⟩
  all_goals omega
 have N:q.wh≠2:=Al (Ab.mpr c);refine⟨_,rfl,a,C,g,_,_,rfl,i,X.cl,X.nW,b5 _ _ _ _,rfl,_,rfl,?_⟩;rw[G];refine G5 (fun c=>?_) (fun c=>?_)
 ·have c:q.wh=3:=of_decide_eq_true c;rcases j with ⟨e,_⟩ |⟨e,_⟩ |⟨e,_⟩ |⟨e,p,rfl⟩ |⟨e,_⟩
  ·omega
  ·omega
  ·omega
  ·exact⟨_,rfl,a,C,g,_,_,rfl,i,X.cl,X.nI,Ad8 _ _ _ _,u,_,_,_,rfl,rfl,m _,E9 (BV1 p),h⟩
  ·omega
 have O:q.wh≠3:=Al (Ab.mpr c);rcases j with ⟨e,_⟩ |⟨e,_⟩ |⟨e,_⟩ |⟨e,_⟩ |⟨e,rfl⟩
 ·omega
 ·omega
 ·omega
 ·omega
 ·exact h
end
structure RdC (K:AA)(mg:Str->Option AH)(C:AI):Prop where
 mgC:mg "Reading"=some (.ref C)
 F:∃fI fdI,Mk K C fI/\Fun K "__init__" "Reading.__init__" z7 fI fdI/\Binds K fdI ["self","found"] []
structure Bv2 (K:AA)(CF CR CN:AI)(H:Hp)(p l:AI)(ys:List Sy)(H':Hp)(R:RR)(H0:Hp):Prop where
 fo:R.fo=l
 s0:∀b o,b≠p->H b=some o->H0 b=some o
 sy:H0 R.sl=some (.lst ((ys.map B1++(["finish"]:List Str)).map V.str))
 wy:WY K H0 R.d
 np:H0 p=none
 nf:H0 R.fl=none
 nb:H0 R.bl=none
 ne:R.fl≠R.bl
 mc:MC CF CR CN H0 H' p R Bm9 0 [op0]
inductive AB3 (K:AA) (C CR CF CN:AI) (vs:List V) (H:Hp) (Q:VK) (E:XK):Prop
 |mk:∀(p dx l:AI) (as:List AI) (qs:List Q4) (ys:List Sy),vs=[.ref p,.ref l]->H p=some (.ins CR dx [])->H l=some (.lst (as.map V.ref))->Toks C H as qs->Paired SyQ qs ys->as.length<=100000->C≠CR->(∀(H':Hp) (R:RR) (H0:Hp),Bv2 K CF CR CN H p l ys H' R H0->Q .non H')->AB3 K C CR CF CN vs H Q E
section
variable {P:Af} {w:Ap} {K:AA} {mg:Str->Option AH} {base:BR}
theorem AF2:B7 ["self","found","token"] ["self","found"] (A8 z7):=fsc
theorem Am7 {C CR CF CN fI:AI}{aj:BK}(F:Fun K "__init__" "Reading.__init__" z7 fI aj)(Z:RdF P w K mg CR CF CN)(X2:BA1 P w K mg C)(ax:∃a,mg "SIGNS"=some (.ref a)/\∀H,SqT K H a (AX3.map V.str))(G:TxG P w K mg gr)(Wy:∃f W,Fn K mg "ways_by_token" Ax7 [] f W)
  (U:∃f W,Fn K mg "full_part" Ak4 ["part"] f W) (N:∃f W,Fn K mg "first_tokens" AI8 ["symbol"] f W) (Sb:∃f W,Fn K mg "symbol_of" AD6 ["token"] f W):D6 P w K mg base CX0 3 fI aj ["self","found"] (AB3 K C CR CF CN):=by
 have X:=Z.X;have Y:=Z.Y;obtain⟨fF,dF,O⟩:=Z.O;obtain⟨fN,dN,M,FN,bN⟩:=Y.F;obtain⟨fW,dW,Wy⟩:=Wy;obtain⟨fU,dU,U⟩:=U;obtain⟨fT,dT,N⟩:=N;obtain⟨fY,dY,Sb⟩:=Sb;have GY:D6 P w K mg base CX0 1 fY dY ["token"] (AK0 C):=Aw0 Sb.F X2 ax;have GW:D6 P w K mg base CX0 2 fW dW [] (BE6 K gr):=BM4 Wy.F G BE0 Bu4 Bi9 Bm3 U N;refine F.oK AF2 fun cf A ay s H vs Q E hr h=>?_;obtain⟨p,c,l,as,qs,ys,rfl,hp,hl,ak,al,cg,az,h⟩:=h;have ba:Room 1 _:=hr.mono (by decide);refine⟨_,A2 (D0 (pv 0) (pv 1) rfl)
  (A2 (D0 (pv 0) (R9 BJ7 (Ar7 (own:=[("token",2)]) rfl AF2.nd (X3 (pv 1)) (k7 (by kernel_rfl)) (fun _ _ _ _ _=>K8 (i:=2) AF2.nd rfl (Or.inl rfl)) (fun _ _ _ _ _=>F8) (fun _ _ _ _ _=>D5 Sb GY ba (A0 (pv 2) A6))) (M7 (A0 C7 A6))) rfl)
  (A2 (D0 (pv 0) (BD0 GW hr (by rfl) Wy.g Wy.F.kp Wy.b .nil Ak2) rfl) (A2 (D0 (pv 0) B0 rfl) (A2 (D0 (pv 0) B0 rfl)
  (A2 (D0 (pv 0) (Bs6 Y M FN bN hr (A0 C7 (A0 B0 A6))) rfl)
  (A2 (D0 (pv 0) (M7 (A0 (A9 (pv 0) rfl) A6)) rfl)
  (A3 (D0 (pv 0) (M7 (A0 (BN8 O hr (A0 C7 (A0 C7 (A0 B0 (A0 B0 A6))))) (A0 (BN8 O hr (A0 C7 (A0 C7 (A0 (F2 X.most) (A0 B0 A6))))) A6))) rfl)))))))),?_⟩
 have sz:=BA;have bb:ys.length=as.length:=by rw[ak.1,BQ al]
 have bc:l≠p:=E8 hl hp (by intro z;cases z);refine⟨_,rfl,_,rfl,p,CR,c,[],rfl,hp,X.cl,X.nfo,(by show 0<1000;decide),?_⟩
 -- the symbols
 have kA:∀b o,b≠p->H b=some o->(upd H p (.ins CR c (C3 "found" (.ref l) []))) b=some o:=fun b o n e=>by rw[A4 n];exact e
 have pA:(upd H p (.ins CR c (C3 "found" (.ref l) []))) p=some (.ins CR c (C3 "found" (.ref l) [])):=A1;generalize (upd H p (.ins CR c (C3 "found" (.ref l) [])))=HA at kA pA ⊢;have am:=kA _ _ bc hl;have an:Toks C HA as qs:=ak.keep fun b c fs e=>kA _ _ (E8 e hp (by intro z;injection z with z;exact az z)) e;refine⟨_,rfl,l,rfl,⟨_,SqL.of am⟩,fun D hD=>Ap4 (K:=K) (a:=l) (xs:=as.map V.ref) (fun i H'=>Same HA H'/\H' D=some (.lst (((ys.take i).map B1).map V.str)))
  ⟨B5 hD,A1⟩ (fun i H' _ x=>SqL.of (x.1 _ _ am)) ?_ ?_⟩
 ·rintro i y H' hi ⟨sm,bd⟩;obtain⟨b,L,rfl⟩:=AA9 hi;obtain⟨q,hq,be⟩:=an.2 i b L;obtain⟨y,hy,bf⟩:=Paired.get al hq;refine⟨rfl,_,rfl,b,q,y,rfl,be.same sm,bf,_,bd,?_,?_,?_⟩
  ·have:i<as.length:=(Ad.mp L).1;simp only[AJ,Br];omega
  ·exact fun b' o e=>by rw[A4 (A7 e hD)];exact sm _ _ e
  ·rw[A1,J9 hy,AV,AV];rfl
 rintro HB ⟨sB,ao⟩;rw[AJ,←bb,Be]at ao;refine⟨(by show 1<=sizeLine;omega),fun f1 bg=>?_⟩;have sC:Same HB (upd HB f1 (.lst [V.str "finish"])):=B5 bg;have fC:(upd HB f1 (.lst [V.str "finish"])) f1=some (.lst [V.str "finish"]):=A1;generalize (upd HB f1 (.lst [V.str "finish"]))=HC at sC fC ⊢;refine⟨D,f1,_,_,rfl,rfl,sC _ _ ao,fC,(by simp only[AJ,AZ,Bt];omega),fun j bh=>?_⟩;have sD:Same HC (upd HC j (.lst ((ys.map B1).map V.str++[V.str "finish"]))):=B5 bh;have aa:(upd HC j (.lst ((ys.map B1).map V.str++[V.str "finish"]))) j=some (.lst ((ys.map B1++(["finish"]:List Str)).map V.str)):=by rw[A1,AV];rfl
 generalize (upd HC j (.lst ((ys.map B1).map V.str++[V.str "finish"])))=HD at sD aa ⊢;have ap:Same HA HD:=(sB.trans sC).trans sD;have pD:=ap _ _ pA;have ab:j≠p:=E8 aa pD (by intro z;cases z);refine⟨_,rfl,p,CR,c,_,rfl,pD,X.cl,X.nsl,(by show 1<1000;decide),?_⟩
 -- the P3
 have kE:∀b o,b≠p->HD b=some o->(upd HD p (.ins CR c (C3 "symbols" (.ref j) (C3 "found" (.ref l) [])))) b=some o:=fun b o n e=>by rw[A4 n];exact e
 have pE:(upd HD p (.ins CR c (C3 "symbols" (.ref j) (C3 "found" (.ref l) [])))) p=some (.ins CR c (C3 "symbols" (.ref j) (C3 "found" (.ref l) []))):=A1;generalize (upd HD p (.ins CR c (C3 "symbols" (.ref j) (C3 "found" (.ref l) []))))=HE at kE pE ⊢;refine⟨rfl,fun HF d aq sF nd hd hw=>?_⟩;rw[At1]at hw;have pF:=sF _ _ pE;have ar:d≠p:=E8 hd pF (by intro z;cases z);refine⟨_,rfl,p,CR,c,_,rfl,pF,X.cl,X.nd,(by show 2<1000;decide),?_⟩;refine⟨_,rfl,p,CR,c,_,rfl,A1,X.cl,X.na,(by show 3<1000;decide),?_⟩;rw[L5];refine⟨_,rfl,p,CR,c,_,rfl,A1,X.cl,X.nf,(by show 4<1000;decide),?_⟩;rw[L5]
 -- the constant heap
 have kG:∀b o,b≠p->HF b=some o->(upd HF p (.ins CR c (C3 "fault" (.int 0) (C3 "at" (.int 0) (C3 "ways" (.ref d) (C3 "symbols" (.ref j) (C3 "found" (.ref l) []))))))) b=some o:=fun b o n e=>by rw[A4 n];exact e
 have pG:(upd HF p (.ins CR c (C3 "fault" (.int 0) (C3 "at" (.int 0) (C3 "ways" (.ref d) (C3 "symbols" (.ref j) (C3 "found" (.ref l) []))))))) p=some (.ins CR c (C3 "fault" (.int 0) (C3 "at" (.int 0) (C3 "ways" (.ref d) (C3 "symbols" (.ref j) (C3 "found" (.ref l) [])))))):=A1;have nG:∀b,(upd HF p (.ins CR c (C3 "fault" (.int 0) (C3 "at" (.int 0) (C3 "ways" (.ref d) (C3 "symbols" (.ref j) (C3 "found" (.ref l) []))))))) b=none->HF b=none:=fun b e=>by
  have n:b≠p:=fun q=>by rw[q,A1]at e;cases e
  rw[A4 n]at e;exact e
 have lg:(C3 "fault" (.int 0) (C3 "at" (.int 0) (C3 "ways" (.ref d) (C3 "symbols" (.ref j) (C3 "found" (.ref l) []))))).length=5:=rfl;generalize (upd HF p (.ins CR c (C3 "fault" (.int 0) (C3 "at" (.int 0) (C3 "ways" (.ref d) (C3 "symbols" (.ref j) (C3 "found" (.ref l) [])))))))=u at kG pG nG ⊢;refine fun n au na bi _=>⟨n,au,_,_,rfl,A1,fun HH r hN av k kp=>⟨rfl,?_⟩⟩;have sH:Same u HH:=Same.made na bi kp;have ac:n≠r:=fun q=>by rw[←q,A1]at k;cases k
 have bj:r≠au:=fun q=>by rw[q,A4 (fun z=>ac (by rw[q];exact z.symm))]at k;rw[A1]at k;cases k
 have S:u r=none:=by rw[A4 (BD ac),A4 bj]at k;exact k
 have pH:=sH _ _ pG;have ad:p≠n:=A7 pG na;have ae:p≠r:=A7 pG S;refine⟨_,rfl,p,CR,c,_,rfl,pH,X.cl,X.npg,(by show 5<1000;decide),?_⟩;have kI:∀b o,b≠p->HH b=some o->(upd HH p (.ins CR c (C3 "program" (.ref n) (C3 "fault" (.int 0) (C3 "at" (.int 0) (C3 "ways" (.ref d) (C3 "symbols" (.ref j) (C3 "found" (.ref l) [])))))))) b=some o:=fun b o n e=>by rw[A4 n];exact e
 have pI:(upd HH p (.ins CR c (C3 "program" (.ref n) (C3 "fault" (.int 0) (C3 "at" (.int 0) (C3 "ways" (.ref d) (C3 "symbols" (.ref j) (C3 "found" (.ref l) [])))))))) p=some (.ins CR c (C3 "program" (.ref n) (C3 "fault" (.int 0) (C3 "at" (.int 0) (C3 "ways" (.ref d) (C3 "symbols" (.ref j) (C3 "found" (.ref l) []))))))):=A1;generalize (upd HH p (.ins CR c (C3 "program" (.ref n) (C3 "fault" (.int 0) (C3 "at" (.int 0) (C3 "ways" (.ref d) (C3 "symbols" (.ref j) (C3 "found" (.ref l) []))))))))=HI at kI pI ⊢;have nI:=hN.keep fun o e=>kI _ _ (BD ad) e;have iI:=kI _ _ (BD ae) av;have af:∀b o,b≠p->u b=some o->HI b=some o:=fun b o n e=>kI b o n (sH _ _ e);refine⟨_,rfl,p,CR,c,_,_,rfl,pI,X.cl,X.npg,O0,(by show 1<=sizeLine;omega),fun m v=>?_⟩;have sJ:Same HI (upd HI m (.lst [V.ref n])):=B5 v;have bJ:(upd HI m (.lst [V.ref n])) m=some (.lst [V.ref n]):=A1;generalize (upd HI m (.lst [V.ref n]))=HJ at sJ bJ ⊢;have ag:p≠m:=A7 pI v;refine⟨_,rfl,p,CR,c,_,rfl,sJ _ _ pI,X.cl,X.nbl,(by show 6<1000;decide),?_⟩;have kK:∀b o,b≠p->HJ b=some o->(upd HJ p (.ins CR c (C3 "begun" (.ref m) (C3 "program" (.ref n) (C3 "fault" (.int 0) (C3 "at" (.int 0) (C3 "ways" (.ref d) (C3 "symbols" (.ref j) (C3 "found" (.ref l) []))))))))) b=some o:=fun b o n e=>by rw[A4 n];exact e
 have pK:(upd HJ p (.ins CR c (C3 "begun" (.ref m) (C3 "program" (.ref n) (C3 "fault" (.int 0) (C3 "at" (.int 0) (C3 "ways" (.ref d) (C3 "symbols" (.ref j) (C3 "found" (.ref l) []))))))))) p=some (.ins CR c (C3 "begun" (.ref m) (C3 "program" (.ref n) (C3 "fault" (.int 0) (C3 "at" (.int 0) (C3 "ways" (.ref d) (C3 "symbols" (.ref j) (C3 "found" (.ref l) [])))))))):=A1;generalize (upd HJ p (.ins CR c (C3 "begun" (.ref m) (C3 "program" (.ref n) (C3 "fault" (.int 0) (C3 "at" (.int 0) (C3 "ways" (.ref d) (C3 "symbols" (.ref j) (C3 "found" (.ref l) [])))))))))=HK at kK pK ⊢;have bK:=kK _ _ (BD ag) bJ;refine fun a1 bk bm bn _=>⟨a1,bk,_,_,_,_,rfl,A1,fun HL bo bp=>⟨rfl,?_⟩⟩;have sL:Same HK HL:=Same.made bm bn bp;refine fun a2 bq br bs _=>⟨a2,bq,_,_,_,_,rfl,A1,fun HM bt bu=>⟨rfl,?_⟩⟩;have sM:Same HL HM:=Same.made br bs bu;refine⟨(by show 2<=sizeLine;omega),fun B I=>?_⟩;have J:=sL.trans sM;have pM:=J _ _ pK;have bv:p≠B:=A7 pM I;have sN:Same HM (upd HM B (.lst [V.ref a1,V.ref a2])):=B5 I;have fN:(upd HM B (.lst [V.ref a1,V.ref a2])) B=some (.lst [V.ref a1,V.ref a2]):=A1;generalize (upd HM B (.lst [V.ref a1,V.ref a2]))=HN at sN fN ⊢;refine⟨_,rfl,p,CR,c,_,rfl,sN _ _ pM,X.cl,X.nfl,(by show 7<1000;decide),?_⟩;have nf:RFl (C3 "frames" (.ref B) (C3 "begun" (.ref m) (C3 "program" (.ref n) (C3 "fault" (.int 0) (C3 "at" (.int 0) (C3 "ways" (.ref d) (C3 "symbols" (.ref j) (C3 "found" (.ref l) [])))))))) ⟨l,j,d,n,m,B⟩ 0 0:=by
  refine⟨by show 8<=100;decide,?_,?_,?_,?_,?_,?_,?_,O0⟩
  ·exact C0 (by decide) (C0 (by decide) (C0 (by decide) (C0 (by decide) (C0 (by decide) (C0 (by decide) (C0 (by decide) O0))))))
  ·exact C0 (by decide) (C0 (by decide) (C0 (by decide) (C0 (by decide) (C0 (by decide) (C0 (by decide) O0)))))
  ·exact C0 (by decide) (C0 (by decide) (C0 (by decide) (C0 (by decide) (C0 (by decide) O0))))
  ·exact C0 (by decide) (C0 (by decide) (C0 (by decide) (C0 (by decide) O0)))
  ·exact C0 (by decide) (C0 (by decide) (C0 (by decide) O0))
  ·exact C0 (by decide) (C0 (by decide) O0)
  ·exact C0 (by decide) O0
 have kO:∀b o,b≠p->HN b=some o->(upd HN p (.ins CR c (C3 "frames" (.ref B) (C3 "begun" (.ref m) (C3 "program" (.ref n) (C3 "fault" (.int 0) (C3 "at" (.int 0) (C3 "ways" (.ref d) (C3 "symbols" (.ref j) (C3 "found" (.ref l) [])))))))))) b=some o:=fun b o n e=>by rw[A4 n];exact e
 have pO:(upd HN p (.ins CR c (C3 "frames" (.ref B) (C3 "begun" (.ref m) (C3 "program" (.ref n) (C3 "fault" (.int 0) (C3 "at" (.int 0) (C3 "ways" (.ref d) (C3 "symbols" (.ref j) (C3 "found" (.ref l) [])))))))))) p=some (.ins CR c (C3 "frames" (.ref B) (C3 "begun" (.ref m) (C3 "program" (.ref n) (C3 "fault" (.int 0) (C3 "at" (.int 0) (C3 "ways" (.ref d) (C3 "symbols" (.ref j) (C3 "found" (.ref l) []))))))))):=A1;generalize (upd HN p (.ins CR c (C3 "frames" (.ref B) (C3 "begun" (.ref m) (C3 "program" (.ref n) (C3 "fault" (.int 0) (C3 "at" (.int 0) (C3 "ways" (.ref d) (C3 "symbols" (.ref j) (C3 "found" (.ref l) []))))))))))=R at kO pO ⊢;have ah:∀b o,b≠p->HI b=some o->R b=some o:=fun b o n e=>kO b o n (sN _ _ (J _ _ (kK b o n (sJ _ _ e))));have bw:∀b o,b≠p->u b=some o->R b=some o:=fun b o n e=>ah b o n (af b o n e);have bx:∀b o,b≠p->HK b=some o->R b=some o:=fun b o n e=>kO b o n (sN _ _ (J _ _ e));have bz:u d=some (.dT aq):=kG _ _ ar hd;have h0:∀b o,b≠p->u b=some o->(fun b=>if b=p then none else u b) b=some o:=fun b o n e=>by show(if b=p then none else u b)=some o;rw[AD n];exact e
 have z0:∀b,u b=none->(fun b=>if b=p then none else u b) b=none:=fun b e=>by
  show(if b=p then none else u b)=none;by_cases q:b=p
  ·rw[AL q]
  ·rw[AD q];exact e
 have up:∀b,HK b=none->u b=none:=fun b e=>by
  cases q:u b with
  |none=>rfl
  |some o=>
   by_cases z:b=p
   ·rw[z,pK]at e;cases e
   ·rw[kK b o z (sJ _ _ (af b o z q))]at e;cases e
 have ca:u m=none:=by
  cases q:u m with
  |none=>rfl
  |some o=>rw[af m o (BD ag) q]at v;cases v
 have cb:u B=none:=up B (J.free I);have cc:B≠m:=fun q=>by rw[q,J _ _ bK]at I;cases I
 have nO:=nI.keep fun o e=>ah _ _ (BD ad) e;have iO:=ah _ _ (BD ae) iI;have cd:m≠n:=fun q=>by rw[q]at v;obtain⟨_,_,e,_⟩:=nI;rw[v]at e;cases e
 have ce:m≠r:=fun q=>by rw[q,iI]at v;cases v
 have T:∀b,(∃o,HI b=some o)->b≠p->B≠b:=fun b ⟨o,e⟩ n q=>by have:=J _ _ (kK b o n (sJ _ _ e));rw[←q,I]at this;cases this
 have eF:fps [LT.mk n r .PROGRAM 0 0 false 13 0 []]=[n,r]:=by rw[B3,F4,F6,F4];rfl
 refine h R ⟨l,j,d,n,m,B⟩ (fun b=>if b=p then none else u b) ⟨rfl,fun b o nb e=>?_,?_,?_,AL rfl,z0 _ cb,z0 _ ca,cc,⟨⟨c,_,pO,nf⟩,fun b o e=>?_,⟨[a1,a2],kO _ _ (BD bv) fN,?_⟩,⟨[.mk n r .PROGRAM 0 0 false 13 0 []],?_⟩⟩⟩
 ·exact h0 b o nb (kG b o nb (sF _ _ (kE b o nb (ap _ _ (kA b o nb e)))))
 ·exact h0 _ _ ab (kG _ _ ab (sF _ _ (kE _ _ ab aa)))
 ·refine⟨aq,h0 _ _ ar bz,hw.keep fun a ys q=>?_⟩;rcases q with (q |⟨o',q⟩) |q
  ·have z:=E8 q pF (by intro z;cases z);exact .inl (.inl (h0 _ _ z (kG _ _ z q)))
  ·have z:=E8 q pF (by intro z;cases z);exact .inl (.inr ⟨o',h0 _ _ z (kG _ _ z q)⟩)
  ·exact .inr q
 ·have e:(if b=p then none else u b)=some o:=e;by_cases q:b=p
  ·rw[AL q]at e;cases e
  ·rw[AD q]at e;exact bw b o q e
 ·have aw:∀{a:AI} {ai:AI} {fs:List (Str×V)},HM a=some (.ins CF ai fs)->R a=some (.ins CF ai fs):=fun {a ai fs} e=>kO _ _ (E8 e pM (by intro z;injection z with z;exact X.fr z)) (sN _ _ e);exact .cons ⟨4096,rfl,bt.keep fun c fs e=>aw e⟩ (.cons ⟨1,rfl,bo.keep fun c fs e=>aw (sM _ _ e)⟩ .nil)
 ·refine⟨bx _ _ (BD ag) bK,?_,?_,?_,?_,?_,?_,⟨_,[],rfl,rfl⟩⟩
  ·rw[E5];intro t ht;rw[AN]at ht;subst ht;exact L0.mpr ⟨nO,iO,by unfold AtL;trivial⟩
  ·rw[eF];exact Am.mpr ⟨by simpa using ac,by simp⟩
  ·refine .cons ?_ .nil;show er _=_;rw[V9];rfl
  ·rw[eF];intro b L;simp only[AK,BL,Bw]at L;rcases L with rfl |rfl
   ·exact z0 _ na
   ·exact z0 _ S
  ·rw[eF];intro L;simp only[AK,BL,Bw]at L;exact L.elim cd ce
  ·rw[eF];intro L;simp only[AK,BL,Bw]at L;obtain⟨_,_,e,_⟩:=nI;exact L.elim (T n ⟨_,e⟩ (BD ad)) (T r ⟨_,iI⟩ (BD ae))
end
open My (Byt)
noncomputable def A77 (A:List Sw.Token)(a:Option Nat):List Sy:=A.map (fun t=>F5 t.tok)++(match a with |none=>[] |some _=>[.nothing])
theorem Be8 (h:F5 t.tok∈J5):SyQ (q4 t) (F5 t.tok):=by
 obtain⟨p,n,k⟩:=t;cases k with
 |name s=>exact .inl ⟨rfl,rfl⟩
 |num v=>exact .inr (.inl ⟨rfl,rfl⟩)
 |kept k=>
  have a:k<26:=by
   by_cases q:k<26
   ·exact q
   ·refine absurd h ?_;unfold J5;simp[F5];omega
  exact .inr (.inr (.inl ⟨rfl,a,rfl⟩))
 |sign k=>
  have a:k<33:=by
   by_cases q:k<33
   ·exact q
   ·refine absurd h ?_;unfold J5;simp[F5];omega
  exact .inr (.inr (.inr (.inl ⟨rfl,a,rfl⟩)))
theorem Q9 {b c d:Type}{R:c->d->Prop}{f:b->c}{g:b->d}:∀{l:List b},(∀a∈l,R (f a) (g a))->Paired R (l.map f) (l.map g)
 |[],_=>.nil
 |a::l,h=>.cons (h a (AG ..)) (Q9 fun x e=>h x (AC _ e))
theorem Bu7 (h:AL9 ns qs):Paired SyQ qs (A77 (Sw.tokens (My.toB ns)).1 (Sw.tokens (My.toB ns)).2):=by
 have hv:∀t∈(Sw.tokens (My.toB ns)).1,F5 t.tok∈J5:=fun t ht=>AI1 _ _ _ t ht;unfold A77;rcases h with ⟨A,e,rfl⟩ |⟨A,p,n,e,rfl⟩
 ·rw[e]at hv ⊢;dsimp only;rw[AE];exact Q9 fun t ht=>Be8 (hv t ht)
 ·rw[e]at hv ⊢;dsimp only;exact p9 (Q9 fun t ht=>Be8 (hv t ht)) (.cons (.inr (.inr (.inr (.inr ⟨rfl,rfl⟩)))) .nil)
theorem BZ6 (b:Sw.Bytes)(c:i<=(O5 b).N):((A77 (Sw.tokens b).1 (Sw.tokens b).2).map B1++(["finish"]:List Str))[i]?=some (B1 ((O5 b).cy i)):=by
 have d:(O5 b).N=(Sw.tokens b).1.length:=rfl;rw[d]at c;unfold A77 Tx.cy;show _=some (B1 (match (Sw.tokens b).1[i]? with
  |some t=>F5 t.tok
  |none=>if(Sw.tokens b).2.isSome=true then .nothing else .finish))
 cases e:(Sw.tokens b).1[i]? with
 |some t=>have a:=(Ad.mp e).1;rw[AV,AF,Ca (by simpa using a),Aq,Aq,e];rfl
 |none=>have a:i=(Sw.tokens b).1.length:=Nat.le_antisymm c (Bn.mp e);rw[AV,AF,CW (by simp[a])];simp only[AJ,a,Ds];cases(Sw.tokens b).2<;>rfl
structure BJ8 (C CR CN:AI)(ns:List Int)(H':Hp)(r:AI)(R:RR)(as:List AI)(qs:List Q4):Prop where
 fo:H' R.fo=some (.lst (as.map V.ref))
 tk:Toks C H' as qs
 al:as.length<=100000
 se:AL9 ns qs
 sy:H' R.sl=some (.lst (((A77 (Sw.tokens (My.toB ns)).1 (Sw.tokens (My.toB ns)).2).map B1++(["finish"]:List Str)).map V.str))
 out:(∃k i:Nat,0<k/\RD CR H' r R (i:Nat) (k:Nat)/\Ab8 (My.toB ns) (.fault k i)/\i<=(O5 (My.toB ns)).N)∨∃(i:Nat) (nd:List Nd) (t0:LT),RD CR H' r R (i:Nat) 0/\Ab8 (My.toB ns) (.done [⟨.PROGRAM,0,nd⟩])/\AtT CN H' t0/\(fp t0).Nodup/\t0.a=R.pg/\BO9 t0 ⟨.PROGRAM,0,nd⟩
inductive AW5 (K:AA) (C CR CN:AI) (vs:List V) (H:Hp) (Q:VK) (E:XK):Prop
 |mk:∀(a:AI) (ns:List Int),vs=[.ref a]->SqL K H a (ns.map V.int)->Byt ns->ns.length<=100000->(∀(H':Hp) (r:AI) (R:RR) (as:List AI) (qs:List Q4),Same H H'->BJ8 C CR CN ns H' r R as qs->Q (.ref r) H')->AW5 K C CR CN vs H Q E
theorem Ay9 (h:Ab8 b (.done o)):∃a,o=[⟨.PROGRAM,0,a⟩]:=by
 unfold Ab8 at h;split at h
 ·obtain⟨p,_,_,e⟩:=h;cases e
 ·obtain⟨a,e,_⟩:=h;cases e;exact⟨a,rfl⟩
section
variable {P:Af} {w:Ap} {K:AA} {mg:Str->Option AH} {base:BR}
structure RtF (P:Af)(w:Ap)(K:AA)(mg:Str->Option AH)(C CR CF CN:AI):Prop where
 Z:RdF P w K mg CR CF CN
 S:Sc P w K mg C
 ne:C≠CR
 Y:RdC K mg CR
 sg:∃a,mg "SIGNS"=some (.ref a)/\∀H,SqT K H a (AX3.map V.str)
 G:TxG P w K mg gr
 Wy:∃f fd,Fn K mg "ways_by_token" Ax7 [] f fd
 U:∃f fd,Fn K mg "full_part" Ak4 ["part"] f fd
 N:∃f fd,Fn K mg "first_tokens" AI8 ["symbol"] f fd
 Sb:∃f fd,Fn K mg "symbol_of" AD6 ["token"] f fd
 sc:∃f fd,Fn K mg "scan" As5 ["t"] f fd
 st:∃f fd,Fn K mg "step" BE3 ["reading"] f fd
theorem Au8:B7 ["t","reading"] ["t"] (A8 V8):=fsc
theorem A91 {f C CR CF CN:AI}{fd:BK}(F:Fun K "read_text" "read_text" V8 f fd)(W:RtF P w K mg C CR CF CN):D6 P w K mg base CX0 9 f fd ["t"] (AW5 K C CR CN):=by
 have Z:=W.Z;have X:=Z.X;obtain⟨fI,dI,M,FI,bI⟩:=W.Y.F;obtain⟨fZ,dZ,NZ⟩:=W.sc;obtain⟨fS,dS,NS⟩:=W.st;have GZ:D6 P w K mg base CX0 7 fZ dZ ["t"] (A14 K C):=BX0 NZ.F W.S;have GS:D6 P w K mg base CX0 8 fS dS ["reading"] (A34 K CR CF CN):=BT0 NS.F Z;have GR:D6 P w K mg base CX0 3 fI dI ["self","found"] (AB3 K C CR CF CN):=Am7 FI Z W.S.X W.sg W.G W.Wy W.U W.N W.Sb;refine F.oK Au8 fun cdv A' outer s H vs Q E hr h=>?_;obtain⟨a,ns,rfl,hs,hB,hlen,h⟩:=h;have hr7:Room 7 _:=hr.mono (by decide);have hr4:Room 4 _:=hr.mono (by decide);refine⟨_,A2 (C9 (i:=1) Au8.nd rfl (Or.inl rfl) (AL5 M GR hr4 (by rfl) W.Y.mgC bI .nil Ak2 (A0 (D5 NZ GZ hr7 (A0 (pv 0) A6)) A6)))
  (A2 (Q7 BJ (PW.pt (w4 (B4 J0 (A9 (pv 1) rfl) B0 (C1 _)) (X4 (l4 (A9 (pv 1) rfl) (fun _=>rfl)))))
   (A3 (E4 (D5 NS GS hr (A0 (pv 1) A6)))))
  (A3 (B6 (pv 1)))),?_⟩
 have sz:=BA;refine⟨_,rfl,a,ns,rfl,hs,hB,hlen,fun H1 l as qs s1 hl tk hal he=>?_⟩;refine fun r dr nr ndr _=>⟨r,dr,l,as,qs,_,rfl,A1,?_,?_,Bu7 he,hal,W.ne,fun H2 R H0 O=>⟨rfl,?_⟩⟩
 ·rw[A4 (A7 hl nr),A4 (A7 hl ndr)];exact hl
 ·exact tk.keep fun b dx fs e=>by rw[A4 (A7 e nr),A4 (A7 e ndr)];exact e
 have s10:Same H1 H0:=fun b o e=>O.s0 b o (A7 e nr) (by rw[A4 (A7 e nr),A4 (A7 e ndr)];exact e);obtain⟨Rf,hEn,hRest⟩:=BU6 (b:=My.toB ns) (by rw[My.toB_length];exact hlen);have hpos:∀k p,Rf=.fault k p->0<k:=fun k p e=>by rw[e]at hEn;exact AV6 hEn
 obtain⟨n0,hN0⟩:=Ends.count hEn;have hNl:(O5 (My.toB ns)).N<=100000:=by have h1:(O5 (My.toB ns)).N<=(My.toB ns).length:=Ah9 _ 0 _;rw[My.toB_length]at h1;omega
 have S0:CS K H0 r R (O5 (My.toB ns)).cy (O5 (My.toB ns)).N:=⟨⟨_,O.sy,fun i hi=>BZ6 _ hi⟩,O.wy,BJ1 _,O.np,O.nf,O.nb,O.ne,hNl⟩;have out:∀{Hx:Hp},Same H0 Hx->((∃k i:Nat,0<k/\RD CR Hx r R (i:Nat) (k:Nat)/\Ab8 (My.toB ns) (.fault k i)/\i<=(O5 (My.toB ns)).N)∨∃(i:Nat) (nd:List Nd) (t0:LT),RD CR Hx r R (i:Nat) 0/\Ab8 (My.toB ns) (.done [⟨.PROGRAM,0,nd⟩])/\AtT CN Hx t0/\(fp t0).Nodup/\t0.a=R.pg/\BO9 t0 ⟨.PROGRAM,0,nd⟩)->Q (.ref r) Hx:=fun {Hx} sx o=>
  h Hx r R as qs (fun b o e=>sx _ _ (s10 _ _ (s1 _ _ e))) ⟨by rw[O.fo];exact sx _ _ (s10 _ _ hl),tk.keep fun b dx fs e=>sx _ _ (s10 _ _ e),hal,he,sx _ _ O.sy,o⟩
 refine⟨fun m σ Hx=>σ=[some (.ref a),some (.ref r)]/\((∃n frs pos opn,m=n+1/\MC CF CR CN H0 Hx r R frs pos opn/\Fine frs opn/\Fit (O5 (My.toB ns)).N opn/\EnN (O5 (My.toB ns)).cy (O5 (My.toB ns)).N n frs pos opn Rf)∨
   ∃k i:Nat,Rf=.fault k i/\RD CR Hx r R (i:Nat) (k:Nat)/\Same H0 Hx/\i<=(O5 (My.toB ns)).N),
  ⟨n0+1,rfl,.inl ⟨n0,Bm9,0,[op0],rfl,O.mc,Bs7,B16,hN0⟩⟩,?_⟩
 rintro m σ Hx ⟨rfl,hx⟩;rcases hx with ⟨n,frs,pos,opn,rfl,hM,hFi,hFt,hE⟩ |⟨k,i,hk,hRx,sx,hile⟩
 ·obtain⟨dx,fs,hr0,nf⟩:=id hM.rd;obtain⟨fas,hfx,hfp⟩:=hM.fr;refine⟨_,rfl,r,CR,dx,fs,_,rfl,hr0,X.cl,X.nf,nf.f,rfl,_,rfl,AS0 ?_⟩;refine⟨_,rfl,r,CR,dx,fs,_,rfl,hr0,X.cl,X.nfl,nf.fl,!fas.isEmpty,.inl ⟨_,SqL.of hfx,by cases fas<;>rfl⟩,?_⟩;cases hE with
  |done=>
   have hfe:fas=[]:=by have:=BQ hfp;rw[Cd]at this;exact ED this
   subst hfe;obtain⟨nd,rfl⟩:=Ay9 hRest;obtain⟨ts,D⟩:=hM.nd;obtain⟨t0,tr,rfl,hpg⟩:=D.pg;have htr:tr=[]:=by have:=BQ D.op;rw[Cd]at this;simp only[AZ,Bt]at this;exact ED (by omega)
   subst htr;have hop:Paired BO9 [t0] [⟨.PROGRAM,0,nd⟩]:=D.op;cases hop with
   |cons h1 _=>
   have ndf:=D.nd;rw[B3,F4,AE]at ndf;exact⟨_,rfl,out hM.bs (.inr ⟨pos,nd,t0,hM.rd,hRest,E5.mp D.at_ t0 (AN.mpr rfl),ndf,hpg,h1⟩)⟩
  | @bad n g gs i k o e=>
   have hee:(!fas.isEmpty)=true:=by
    cases fas with
    |nil=>cases hfp
    |cons _ _=>rfl
   rw[hee];exact⟨_,fun _ _ z=>z,_,rfl,r,R,H0,_,_,g,gs,pos,opn,rfl,S0,hM,hFi,hFt,.inr ⟨k,e,fun H' hR' s'=>⟨0,Nat.succ_pos _,rfl,.inr ⟨k,pos,rfl,hR',s',A04 (by rw[e];intro z;cases z)⟩⟩⟩⟩
  | @go n g gs i o c R' e hE=>
   have hee:(!fas.isEmpty)=true:=by
    cases fas with
    |nil=>cases hfp
    |cons _ _=>rfl
   rw[hee];exact⟨_,fun _ _ z=>z,_,rfl,r,R,H0,_,_,g,gs,pos,opn,rfl,S0,hM,hFi,hFt,.inl ⟨c,e,fun H' hM'=>⟨n+1,CY _,rfl,.inl ⟨n,c.frs,c.pos,c.opn,rfl,hM',Ar5 hFi e,BA3 hFt e,hE⟩⟩⟩⟩
 ·obtain⟨dx,fs,hr0,nf⟩:=id hRx;have hkp:=hpos k i hk;refine⟨_,rfl,r,CR,dx,fs,_,rfl,hr0,X.cl,X.nf,nf.f,rfl,_,rfl,?_⟩;have e0:decide (V.int ((k:Nat):Int)=V.int 0)=false:=AX (fun z=>by injection z with z;omega);rw[e0];refine AG9 ?_;rw[hk]at hRest;exact⟨_,rfl,out sx (.inl ⟨k,i,hkp,hRx,hRest,hile⟩)⟩
end
open My (t9)
inductive Bq9 (K:AA) (vs:List V) (H:Hp) (Q:VK) (E:XK):Prop
 |mk:∀(a:AI) (w:List Int),vs=[.ref a]->SqL K H a (w.map V.int)->Byt w->w.length<=100000->(∀H':Hp,Same H H'->Q (.int (if 1<w.length/\w[0]?=some 48/\w[1]?=some 120 then t9 16 (w.drop 2) 0 else t9 10 w 0)) H')->Bq9 K vs H Q E
inductive Bs8 (CN:AI) (vs:List V) (H:Hp) (Q:VK) (E:XK):Prop
 |mk:∀(n:AI) (rc:NRc),vs=[.ref n]->NO CN H n rc->Q (.bl (rc.p&&decide (rc.l<=rc.s))) H->Bs8 CN vs H Q E
section
variable {P:Af} {w:Ap} {K:AA} {mg:Str->Option AH} {base:BR}
theorem By7:B7 ["node"] ["node"] (A8 P6):=fsc
theorem AG4 (F:Fun K "are_needless" "are_needless" P6 f fd)(Y:NdC K mg CN):D6 P w K mg base CX0 1 f fd ["node"] (Bs8 CN):=by
 refine F.oK By7 fun j A b s H k Q E m h=>?_;obtain⟨n,g,rfl,⟨c,d,e,a⟩,h⟩:=h;refine⟨_,A3 (B6 (AH0 (A9 (pv 0) rfl) (m2 (K7 BX6 (A9 (pv 0) rfl) (A9 (pv 0) rfl) (C1 _))))),?_⟩;refine⟨_,rfl,n,CN,c,d,_,rfl,e,Y.cl,Y.np,a.p,g.p,rfl,?_⟩;cases i:g.p with
 |true=>exact AS0 ⟨_,rfl,n,CN,c,d,_,rfl,e,Y.cl,Y.ns,a.s,_,rfl,n,CN,c,d,_,rfl,e,Y.cl,Y.nl,a.l,_,_,rfl,rfl,by rw[i]at h;exact h⟩
 |false=>exact AG9 (by rw[i]at h;exact h)
theorem By4:B7 ["run"] ["run"] (A8 AE2):=fsc
theorem AF9 (F:Fun K "number_value" "number_value" AE2 f fd)(X:Txt mg)(Hx:Fn K mg "is_hexadecimal" x6 ["run"] fX fdX)(U:Fn K mg "value_of_digits" i9 ["digits","base"] fU fdU)(DV:Fn K mg "digit_value" T0 ["byte"] fV fdV)(D:Fn K mg "is_digit" K3 ["byte"] fD fdD):D6 P w K mg base CX0 4 f fd ["run"] (Bq9 K):=by
 have GX:D6 P w K mg base CX0 1 fX fdX ["run"] (AP6 K):=Ab1 Hx.F X;have GU:D6 P w K mg base CX0 3 fU fdU ["digits","base"] (AC8 K):=Af8 U.F DV D;refine F.oK By4 fun cdv A outer s H vs Q E hr h=>?_;obtain⟨a,ns,rfl,hs,hB,hl,h⟩:=h;have hr1:Room 1 _:=hr.mono (by decide);refine⟨_,A2 (D9 (R7 (D5 Hx GX hr1 (A0 (pv 0) A6)))
  (A3 (B6 (D5 U GU hr (A0 (Y6 p7 (pv 0) (W9 B0) AN7) (A0 B0 A6))))) C4)
  (A3 (B6 (D5 U GU hr (A0 (pv 0) (A0 B0 A6))))),?_⟩
 refine⟨_,rfl,a,ns,rfl,hs,_,rfl,G5 (fun c=>?_) (fun c=>?_)⟩
 ·have hx:1<ns.length/\ns[0]?=some 48/\ns[1]?=some 120:=(of_decide_eq_true c:BD6 ns);have ec:AU2 (ns.map V.int) (some 2) none=(ns.drop 2).map V.int:=by have:=z4 ns 2 none;rw[DR,Bd (by rw[BF];omega)]at this;exact this
  refine⟨_,rfl,_,rfl,a,_,rfl,hs,fun p hp=>?_⟩;have:=h _ (B5 (o:=.lst (AU2 (ns.map V.int) (some 2) none)) hp);rw[AL hx]at this;refine⟨p,ns.drop 2,16,rfl,SqL.of (by rw[←ec];exact A1),by omega,this⟩
 ·have hx:¬(1<ns.length/\ns[0]?=some 48/\ns[1]?=some 120):=fun z=>c (AR (show BD6 ns from z));have:=h _ (Same.refl _);rw[AD hx]at this;exact⟨_,rfl,a,ns,10,rfl,hs,by omega,this⟩
end
open Wr (OT P7 G6 A39 lineEnd apart blanks)
noncomputable def naN:List Str:=[";",",",")","]","@",":"]
noncomputable def nbN:List Str:=["(","[","@","one's sign"]
noncomputable def npN:List Str:=["name","number","u8","s8","u16","s16","u32","s32","u64","s64",")","round","abs","min","max"]
noncomputable def leN:List Str:=["{",";","}"]
noncomputable def lkS:OT->Str
 |.nm _=>"name"
 |.num _=>"number"
 |.kept k=>B1 (.kept k)
 |.sgn k=>B1 (.sign k)
 |.one _=>"one's sign"
 |.col=>"choice's colon"
noncomputable def okO:OT->Prop
 |.kept k=>k<26
 |.sgn k=>k<33
 |_=>True
theorem Ah0 {p q:OT->Bool}{f:Str->Bool}(h:∀o,p o=f (lkS o))(b:∀k,k<26->f (B1 (.kept k))=q (.kept k))(c:∀k,k<33->f (B1 (.sign k))=q (.sgn k))(d:∀s,f "name"=q (.nm s))(e:∀s,f "number"=q (.num s))(g:∀s,f "one's sign"=q (.one s))(i:f "choice's colon"=q .col)(a:okO o):p o=q o:=by
 rw[h];cases o with
 |nm s=>exact d s
 |num s=>exact e s
 |kept k=>exact b k a
 |sgn k=>exact c k a
 |one s=>exact g s
 |col=>exact i
theorem Be6 (a:okO o):inV (.str (lkS o)) (naN.map V.str)=P7 o:=Ah0 (p:=fun o=>inV (.str (lkS o)) (naN.map V.str)) (f:=fun s=>inV (.str s) (naN.map V.str)) (fun _=>rfl) (by decide+kernel) (by decide+kernel) (fun _=>by show inV (.str "name") (naN.map V.str)=false;decide+kernel) (fun _=>by show inV (.str "number") (naN.map V.str)=false;decide+kernel) (fun _=>by show inV (.str "one's sign") (naN.map V.str)=false;decide+kernel) (by decide+kernel) a
theorem Bb5 (a:okO o):inV (.str (lkS o)) (nbN.map V.str)=G6 o:=Ah0 (p:=fun o=>inV (.str (lkS o)) (nbN.map V.str)) (f:=fun s=>inV (.str s) (nbN.map V.str)) (fun _=>rfl) (by decide+kernel) (by decide+kernel) (fun _=>by show inV (.str "name") (nbN.map V.str)=false;decide+kernel) (fun _=>by show inV (.str "number") (nbN.map V.str)=false;decide+kernel) (fun _=>by show inV (.str "one's sign") (nbN.map V.str)=true;decide+kernel) (by decide+kernel) a
theorem Bq7 (a:okO o):inV (.str (lkS o)) (npN.map V.str)=A39 o:=Ah0 (p:=fun o=>inV (.str (lkS o)) (npN.map V.str)) (f:=fun s=>inV (.str s) (npN.map V.str)) (fun _=>rfl) (by decide+kernel) (by decide+kernel) (fun _=>by show inV (.str "name") (npN.map V.str)=true;decide+kernel) (fun _=>by show inV (.str "number") (npN.map V.str)=true;decide+kernel) (fun _=>by show inV (.str "one's sign") (npN.map V.str)=false;decide+kernel) (by decide+kernel) a
theorem BC3 (a:okO o):inV (.str (lkS o)) (leN.map V.str)=lineEnd o:=Ah0 (p:=fun o=>inV (.str (lkS o)) (leN.map V.str)) (f:=fun s=>inV (.str s) (leN.map V.str)) (fun _=>rfl) (by decide+kernel) (by decide+kernel) (fun _=>by show inV (.str "name") (leN.map V.str)=false;decide+kernel) (fun _=>by show inV (.str "number") (leN.map V.str)=false;decide+kernel) (fun _=>by show inV (.str "one's sign") (leN.map V.str)=false;decide+kernel) (by decide+kernel) a
theorem y4:∀m∈[27,29,21,31,32],∀{o:OT},okO o->decide (V.str (lkS o)=V.str (B1 (.sign m)))=decide (o=.sgn m):=by
 intro m a o d;have e:∀m∈[27,29,21,31,32],∀k,k<26->¬V.str (B1 (.kept k))=V.str (B1 (.sign m)):=by decide+kernel
 have f:∀m∈[27,29,21,31,32],∀k,k<33->(V.str (B1 (.sign k))=V.str (B1 (.sign m))↔k=m):=by decide+kernel
 have b:∀m∈[27,29,21,31,32],¬V.str "name"=V.str (B1 (.sign m))/\¬V.str "number"=V.str (B1 (.sign m))/\¬V.str "one's sign"=V.str (B1 (.sign m))/\¬V.str "choice's colon"=V.str (B1 (.sign m)):=by decide+kernel
 cases o with
 |nm s=>rw[AX (show ¬V.str (lkS (.nm s))=_ from(b m a).1),AX (by intro z;cases z)]
 |num s=>rw[AX (show ¬V.str (lkS (.num s))=_ from(b m a).2.1),AX (by intro z;cases z)]
 |kept k=>rw[AX (show ¬V.str (lkS (.kept k))=_ from e m a k d),AX (by intro z;cases z)]
 |sgn k=>
  have:=f m a k d;by_cases c:k=m
  ·rw[AR (show V.str (lkS (.sgn k))=_ from this.mpr c),AR (by rw[c])]
  ·rw[AX (show ¬V.str (lkS (.sgn k))=_ from fun z=>c (this.mp z)),AX (fun z=>c (by injection z))]
 |one s=>rw[AX (show ¬V.str (lkS (.one s))=_ from(b m a).2.2.1),AX (by intro z;cases z)]
 |col=>rw[AX (show ¬V.str (lkS .col)=_ from(b m a).2.2.2),AX (by intro z;cases z)]
inductive Br5 (vs:List V) (H:Hp) (Q:VK) (E:XK):Prop
 |mk:∀(b l:OT),vs=[.str (lkS b),.str (lkS l)]->okO b->okO l->Q (.bl (apart b l)) H->Br5 vs H Q E
inductive Bu9 (vs:List V) (H:Hp) (Q:VK) (E:XK):Prop
 |mk:∀(b l:OT) (i:Bool),vs=[.str (lkS b),.str (lkS l),.bl i]->okO b->okO l->Q (.int (blanks b l i:Nat)) H->Bu9 vs H Q E
structure LkF (K:AA)(mg:Str->Option AH):Prop where
 na:∃a,mg "NONE_AHEAD"=some (.ref a)/\∀H,SqT K H a (naN.map V.str)
 nb:∃a,mg "NONE_BEHIND"=some (.ref a)/\∀H,SqT K H a (nbN.map V.str)
 np:∃a,mg "NONE_AHEAD_OF_PARENTHESIS"=some (.ref a)/\∀H,SqT K H a (npN.map V.str)
 le:∃a,mg "LINE_ENDS"=some (.ref a)/\∀H,SqT K H a (leN.map V.str)
theorem BW0:(naN.map V.str).all T5=true:=by decide+kernel
theorem BV3:(nbN.map V.str).all T5=true:=by decide+kernel
theorem BL6:(npN.map V.str).all T5=true:=by decide+kernel
theorem As2:(leN.map V.str).all T5=true:=by decide+kernel
section
variable {P:Af} {w:Ap} {K:AA} {mg:Str->Option AH} {base:BR}
theorem Bz3:B7 ["before","look"] ["before","look"] (A8 R4):=fsc
theorem AN1 (F:Fun K "stand_apart" "stand_apart" R4 f fd)(L:LkF K mg):D6 P w K mg base CX0 1 f fd ["before","look"] Br5:=by
 obtain⟨k,m,n⟩:=L.na;obtain⟨o,p,q⟩:=L.nb;obtain⟨r,t,u⟩:=L.np;refine F.oK Bz3 fun v A j s H x Q E y h=>?_;obtain⟨b,l,rfl,i,g,h⟩:=h;refine⟨_,A2 (D9 (PW.pt (A43 (B4 L9 (pv 1) (R0 m) rfl) (Aa9 (B4 L9 (pv 0) (R0 p) rfl)))) (A3 (B6 AP9)) C4)
  (A2 (D9 (B4 J0 (pv 1) C7 (C1 _)) (A3 (B6 (K7 x5 (pv 0) (R0 t) rfl))) C4)
  (A2 (D9 (B4 J0 (pv 1) C7 (C1 _)) (A3 (B6 (K7 J0 (pv 0) C7 (C1 _)))) C4)
  (A3 (B6 AP9)))),?_⟩
 unfold apart at h;refine Al4 (BJ9 (Z7 ⟨_,rfl,k,_,rfl,.inr (n _),rfl,BW0,_,rfl,G5 (fun c=>?_) (fun c=>?_)⟩))
 ·have c:inV (.str (lkS l)) (naN.map V.str)=true:=c;rw[Be6 g]at c;rw[c]at h;exact h
 have c:¬inV (.str (lkS l)) (naN.map V.str)=true:=c;rw[Be6 g,DW]at c;refine Z7 ⟨_,rfl,o,_,rfl,.inr (q _),rfl,BV3,_,rfl,G5 (fun a=>?_) (fun a=>?_)⟩
 ·have a:inV (.str (lkS b)) (nbN.map V.str)=true:=a;rw[Bb5 i]at a;rw[c,a]at h;exact h
 have a:¬inV (.str (lkS b)) (nbN.map V.str)=true:=a;rw[Bb5 i,DW]at a;rw[c,a,Cw,AD (by simp)]at h;refine⟨_,rfl,rfl,_,rfl,G5 (fun d=>?_) (fun d=>?_)⟩
 ·have d:decide (V.str (lkS l)=V.str (B1 (.sign 27)))=true:=d;rw[y4 27 (by simp) g]at d;rw[AL (of_decide_eq_true d)]at h;refine⟨_,rfl,r,_,rfl,.inr (u _),rfl,BL6,?_⟩;show Q (.bl (!inV (.str (lkS b)) (npN.map V.str))) H;rw[Bq7 i];exact h
 have d:¬decide (V.str (lkS l)=V.str (B1 (.sign 27)))=true:=d;rw[y4 27 (by simp) g]at d;rw[AD (fun z=>d (AR z))]at h;refine⟨_,rfl,rfl,_,rfl,G5 (fun e=>?_) (fun e=>?_)⟩
 ·have e:decide (V.str (lkS l)=V.str (B1 (.sign 29)))=true:=e;rw[y4 29 (by simp) g]at e;rw[AL (of_decide_eq_true e),←y4 21 (by simp) i]at h;exact⟨_,rfl,rfl,h⟩
 have e:¬decide (V.str (lkS l)=V.str (B1 (.sign 29)))=true:=e;rw[y4 29 (by simp) g]at e;rw[AD (fun z=>e (AR z))]at h;exact h
theorem Bz7:B7 ["before","look","in_braces"] ["before","look","in_braces"] (A8 S7):=fsc
theorem AG1 (F:Fun K "blanks_ahead" "blanks_ahead" S7 f fd)(L:LkF K mg)(S:Fn K mg "stand_apart" R4 ["before","look"] fS fdS):D6 P w K mg base CX0 2 f fd ["before","look","in_braces"] Bu9:=by
 obtain⟨k,m,n⟩:=L.le;have o:D6 P w K mg base CX0 1 fS fdS ["before","look"] Br5:=AN1 S.F L;refine F.oK Bz7 fun p A d s H r Q E q h=>?_;obtain⟨b,l,i,rfl,g,j,h⟩:=h;refine⟨_,A2 (D9 (B4 L9 (pv 0) (R0 m) rfl) (A3 (B6 (U9 (PW.pt (w4 (R7 (pv 2)) (X4 (B4 A85 (pv 1) C7 (C1 _))))) B0 B0))) C4)
  (A3 (B6 (U9 (R7 (D5 S o q (A0 (pv 0) (A0 (pv 1) A6)))) B0 B0))),?_⟩
 unfold blanks at h;refine Al4 (Z7 ⟨_,rfl,k,_,rfl,.inr (n _),rfl,As2,_,rfl,G5 (fun c=>?_) (fun c=>?_)⟩)
 ·have c:inV (.str (lkS b)) (leN.map V.str)=true:=c;rw[BC3 g]at c;rw[AL c]at h;refine⟨_,rfl,i,rfl,?_⟩;cases i with
  |false=>exact AG9 (AG9 (by rw[ER,AD (by simp)]at h;exact h))
  |true=>
   rw[DP]at h;have e:(!decide (V.str (lkS l)=V.str "}"))=decide (l≠.sgn 32):=by rw[show decide (V.str (lkS l)=V.str "}")=decide (l=.sgn 32)from y4 32 (by simp) j];simp
   refine AS0 ⟨_,rfl,rfl,_,rfl,G5 (fun a=>?_) (fun a=>?_)⟩
   ·rw[e]at a;rw[AL a]at h;exact h
   ·rw[e]at a;rw[AD a]at h;exact h
 have c:¬inV (.str (lkS b)) (leN.map V.str)=true:=c;rw[BC3 g]at c;rw[AD c]at h;refine⟨_,rfl,_,rfl,b,l,rfl,g,j,_,rfl,?_⟩;cases e:apart b l with
 |true=>rw[e]at h;exact AS0 h
 |false=>rw[e]at h;exact AG9 h
end
open Wr (r2 mks N0 nc ncs mks_own nc_mk U7 Q6 D7 O9)
inductive Sb:LT->LT->Prop
 |refl (t:LT):Sb t t
 |sub {u c t:LT}:Sb u t->c∈u.c->Sb c t
theorem Bq1 (h:AtT C H t):H t.rc.il=some (.lst (B2 t.c))/\AtL C H t.c:=by obtain⟨a,b,k,i,j,p,s,l,c⟩:=t;exact(L0.mp h).2
theorem Sb.at (h:Sb u t)(a:AtT C H t):AtT C H u:=by
 induction h with
 |refl t=>exact a
 |sub _ b c=>exact E5.mp (Bq1 (c a)).2 _ b
theorem BV5 (t:LT):(er t).c=t.c.map er:=by obtain⟨a,b,k,i,j,p,s,l,c⟩:=t;rw[V9];rfl
theorem AA8:∀(a b:List Nd),ncs (a++b)=ncs a+ncs b
 |[],b=>by rw[U7,Dr];rfl
 |n::a,b=>by rw[Bs,Q6,Q6,AA8 a b];omega
theorem AX1:∀(a:List Nd),a.length<=ncs a
 |[]=>Ag _
 |n::a=>by have:=AX1 a;have:=nc_mk n;rw[Q6,AZ];omega
theorem Ah6:∀{l:List Nd},k∈N0 l↔∃n∈l,k∈mks n
 |[]=>by rw[O9];simp
 |n::l=>by rw[D7,AY,Ah6 (l:=l)];simp
inductive BP9 (CN:AI) (vs:List V) (H:Hp) (Q:VK) (E:XK):Prop
 |mk:∀(t:LT),vs=[.ref t.a]->AtT CN H t->nc (er t)<=300000->(∀(H':Hp) (l:AI) (L:List LT),Same H H'->H l=none->H' l=some (.lst (B2 L))->L.length<=300000->(∀u∈L,Sb u t)->(∀k,(∃u∈L,k∈r2 (er u))↔k∈mks (er t))->Q (.ref l) H')->BP9 CN vs H Q E
section
variable {P:Af} {w:Ap} {K:AA} {mg:Str->Option AH} {base:BR}
theorem A48:B7 ["node","found","waiting"] ["node"] (A8 Y4):=fsc
theorem Aa8 (F:Fun K "all_nodes" "all_nodes" Y4 f fd)(Y:NdC K mg CN):D6 P w K mg base CX0 1 f fd ["node"] (BP9 CN):=by
 refine F.oK A48 fun aa A T s H vs Q E hr h=>?_;obtain⟨t,rfl,hT,R,h⟩:=h;refine⟨_,A2 (C9 (i:=1) A48.nd rfl (Or.inl rfl) (M7 A6))
  (A2 (C9 (i:=2) A48.nd rfl (Or.inl rfl) (M7 (A0 (pv 0) A6)))
  (A2 (Q7 BJ (l4 (pv 2) (fun _=>rfl))
   (A2 (C9 (i:=0) A48.nd rfl (Or.inl rfl) (AE8 Ac Bq Bp AD2 (pv 2)))
   (A2 (E4 (U2 Ac Ax Aw G2 (pv 1) (A0 (pv 0) A6)))
   (A3 (E4 (U2 Ac Ch Cg j7 (pv 2) (A0 (A9 (pv 0) rfl) A6)))))))
  (A3 (B6 (pv 1))))),?_⟩
 have sz:=BA;refine⟨Ag _,fun l J=>⟨_,rfl,(by show 1<=sizeLine;omega),fun j p=>?_⟩⟩;have r:j≠l:=fun q=>by rw[q,A1]at p;cases p
 have s0:Same H (upd (upd H l (.lst [])) j (.lst [V.ref t.a])):=(B5 J).trans (B5 p);refine⟨fun m σ v=>∃(x:LT) (d B:List LT),σ=[some (.ref x.a),some (.ref l),some (.ref j)]/\Same H v/\v l=some (.lst (B2 d))/\v j=some (.lst (B2 B))/\(∀u∈d,Sb u t)/\(∀u∈B,Sb u t)/\(∀k,((∃u∈d,k∈r2 (er u))∨∃u∈B,k∈mks (er u))↔k∈mks (er t))/\d.length+ncs (B.map er)=nc (er t)/\m=ncs (B.map er),
  ⟨_,t,[],[t],rfl,s0,(by rw[A4 (BD r),A1];rfl),A1,(fun u q=>by cases q),(fun u q=>by rw[AN]at q;rw[q];exact .refl t),(fun k=>by simp),(by rw[Ah,CZ,Q6,U7,Bt];omega),rfl⟩,?_⟩
 rintro m σ v ⟨x,d,B,rfl,sm,L,C,hF,hW,hk,hc,rfl⟩;refine⟨_,rfl,!B.isEmpty,.inl ⟨_,SqL.of C,by cases B<;>rfl⟩,?_⟩;rcases Bf4 B with rfl |⟨g,y,rfl⟩
 ·refine⟨_,rfl,h v l d sm J L ?_ hF (fun k=>by have:=hk k;simpa using this)⟩;rw[CZ,U7]at hc;omega
 ·rw[show(!(g++[y]).isEmpty)=true by simp];have e1:(B2 (g++[y]))[(B2 (g++[y])).length-1]?=some (V.ref y.a):=by unfold B2;rw[AV];simp
  have e2:(B2 (g++[y])).dropLast=B2 g:=by unfold B2;rw[AV];simp
  refine⟨_,fun _ _ z=>z,_,rfl,.inl ⟨rfl,_,SqL.of C⟩,j,_,_,rfl,rfl,C,e1,?_⟩;rw[e2];have U:=hW y (AQ _ (AN.mpr rfl));have sW:Same H (upd v j (.lst (B2 g))):=fun b o e=>by rw[A4 (A7 (B5 J _ _ e) p)];exact sm _ _ e
  have D:(upd v j (.lst (B2 g))) l=some (.lst (B2 d)):=by rw[A4 (BD r)];exact L
  have M:(upd v j (.lst (B2 g))) j=some (.lst (B2 g)):=A1;generalize (upd v j (.lst (B2 g)))=S at sW D M ⊢;rw[AV,AA8,Ah,CZ,Q6,U7,nc_mk,BV5]at hc;have l1:=AX1 (g.map er);have l2:=AX1 (y.c.map er);rw[AJ]at l1 l2;refine⟨_,rfl,.inl ⟨rfl,_,SqL.of D⟩,_,rfl,l,_,_,rfl,rfl,D,(by unfold B2;rw[AJ];omega),?_⟩;have W:Same H (upd S l (.lst (B2 d++[V.ref y.a]))):=fun b o e=>by rw[A4 (A7 e J)];exact sW _ _ e
  have N:(upd S l (.lst (B2 d++[V.ref y.a]))) l=some (.lst (B2 (d++[y]))):=by rw[A1];unfold B2;rw[AV];rfl
  have G:(upd S l (.lst (B2 d++[V.ref y.a]))) j=some (.lst (B2 g)):=by rw[A4 r];exact M
  generalize (upd S l (.lst (B2 d++[V.ref y.a])))=H2 at W N G ⊢;have O:=(U.at hT).keep (H':=H2) y fun b _ o e=>W _ _ e;obtain⟨X,_⟩:=Bq1 O;obtain⟨dn,fn,R,Z⟩:=O.no;refine⟨_,rfl,.inl ⟨rfl,_,SqL.of G⟩,_,rfl,y.a,CN,dn,fn,_,rfl,R,Y.cl,Y.nc,Z.il,j,y.rc.il,_,_,rfl,rfl,G,X,(by unfold B2;rw[AJ,AJ];omega),?_⟩;refine⟨_,?_,y,d++[y],g++y.c,rfl,fun b o e=>?_,?_,?_,?_,?_,fun k=>?_,?_,rfl⟩
  ·rw[AV,AA8,AV,AA8,Ah,CZ,Q6,U7,nc_mk,BV5];omega
  ·rw[A4 (A7 (B5 J _ _ e) p)];exact W _ _ e
  ·rw[A4 (BD r)];exact N
  ·rw[A1];unfold B2;rw[AV]
  ·intro u I;rcases AY.mp I with q |q
   ·exact hF u q
   ·rw[AN]at q;rw[q];exact U
  ·intro u I;rcases AY.mp I with q |q
   ·exact hW u (AU _ q)
   ·exact .sub U q
  ·rw[←hk k];have e:k∈mks (er y)↔k∈r2 (er y)∨∃u∈y.c,k∈mks (er u):=by rw[mks_own,AY,BV5,Ah6];exact or_congr Iff.rfl ⟨fun⟨n,R,q⟩=>by obtain⟨u,I,rfl⟩:=BN.mp R;exact⟨u,I,q⟩,fun⟨u,I,q⟩=>⟨er u,BN.mpr ⟨u,I,rfl⟩,q⟩⟩
   simp only[AY,AN,or_and_right,exists_or,exists_eq_left,e]
   grind
  ·rw[AO,AV,AA8];show d.length+1+_=_;rw[nc_mk (er t),BV5 t]at *;omega
end
theorem Ai7:bootBuiltins "list"=some (.type "list"):=by decide+kernel
noncomputable def mS (n:Nd):Str:=if n.pr=true/\n.le<=n.st then "needless" else if n.k=.SIGNED then "one's sign" else "choice's colon"
def Bn8 (n:Nat)(g:Nat->Str)(d:Nd):Prop:=(∀k∈r2 d,k<n/\mS d=g k)/\(d.pr=true->d.i<d.j)/\(d.k=.CHOICE->∃a b c,d.c=a::b::c)/\d.k≠.n .CHOICE
def Zs (n:Nat)(g:Nat->Str)(ys a:List Str)(S:Nat->Prop):Prop:=a.length=n/\∀i,i<n->(S i->a[i]?=some (g i))/\(¬S i->a[i]?=ys[i]?)
theorem Zs.set (h:Zs n g ys zs S)(c:k<n)(d:v=g k)(a:∀i,S' i↔S i∨i=k):Zs n g ys (zs.set k v) S':=by
 refine⟨by rw[EG];exact h.1,fun i b=>⟨fun q=>?_,fun q=>?_⟩⟩
 ·by_cases e:k=i
  ·subst e;rw[Cp (by rw[h.1];exact c),d]
  ·rw[CV e];exact(h.2 i b).1 (((a i).mp q).resolve_right fun z=>e z.symm)
 ·have:¬k=i:=fun z=>q ((a i).mpr (.inr z.symm));rw[CV this];exact(h.2 i b).2 fun z=>q ((a i).mpr (.inl z))
theorem Zs.iff (h:Zs n g ys zs S)(a:∀i,S' i↔S i):Zs n g ys zs S':=⟨h.1,fun i b=>⟨fun q=>(h.2 i b).1 ((a i).mp q),fun q=>(h.2 i b).2 fun z=>q ((a i).mpr z)⟩⟩
theorem Af1 (h:k<n):ixN n (k:Int)=some k:=by unfold ixN;simp;omega
inductive Bq2 (CR CN:AI) (vs:List V) (H:Hp) (Q:VK) (E:XK):Prop
 |mk:∀(r:AI) (R:RR) (a f:Int) (ys:List Str) (t:LT) (g:Nat->Str),vs=[.ref r]->RD CR H r R a f->H R.sl=some (.lst (ys.map V.str))->AtT CN H t->t.a=R.pg->nc (er t)<=300000->(∀u,Sb u t->Bn8 ys.length g (er u))->(∀(H':Hp) (l:AI) (zs:List Str),Same H H'->H l=none->H' l=some (.lst (zs.map V.str))->Zs ys.length g ys zs (fun i=>i∈mks (er t))->Q (.ref l) H')->Bq2 CR CN vs H Q E
theorem AH9 (t:LT):t.rc.p=(er t).pr/\t.rc.s=((er t).st:Nat)/\t.rc.l=((er t).le:Nat):=by obtain⟨a,b,k,i,j,p,s,l,c⟩:=t;rw[V9];exact⟨rfl,rfl,rfl⟩
theorem AS9 (k:Kd):decide (V.str (L7 k)=V.str "SIGNED")=decide (k=.SIGNED):=by
 cases k with
 |n x=>cases x<;>decide+kernel
 |_=>decide+kernel
theorem AR1 (k:Kd)(h:k≠.n .CHOICE):decide (V.str (L7 k)=V.str "CHOICE")=decide (k=.CHOICE):=by
 cases k with
 |n x=>cases x<;>first |exact absurd rfl h |decide+kernel
 |_=>decide+kernel
section
variable {P:Af} {w:Ap} {K:AA} {mg:Str->Option AH} {base:BR}
theorem Bs4:B7 ["reading","looks","node"] ["reading"] (A8 z5):=fsc
theorem Ak3 {f CR CF CN fA fN:AI}{fd fdA fdN:BK}(F:Fun K "looks_of" "looks_of" z5 f fd)(XR:TxR P w K mg CR CF CN)(Y:NdC K mg CN)(NA:Fn K mg "all_nodes" Y4 ["node"] fA fdA)(NN:Fn K mg "are_needless" P6 ["node"] fN fdN)(hl:mg "list"=none):D6 P w K mg base CX0 2 f fd ["reading"] (Bq2 CR CN):=by
 have GA:D6 P w K mg base CX0 1 fA fdA ["node"] (BP9 CN):=Aa8 NA.F Y;have GN:D6 P w K mg base CX0 1 fN fdN ["node"] (Bs8 CN):=AG4 NN.F Y;refine F.oK Bs4 fun cdv A outer s H vs Q E hr h=>?_;obtain⟨r,R,a,f,ys,t,g,rfl,hR,hsl,hT,hpg,hn,hok,h⟩:=h;refine⟨_,A2 (C9 (i:=1) Bs4.nd rfl (Or.inl rfl) (AC1 AU1 (by rfl) hl Ai7 (A0 (A9 (pv 0) rfl) A6)))
  (A2 (Z8 BJ rfl (X3 (D5 NA GA hr (A0 (A9 (pv 0) rfl) A6))) (K8 (i:=2) Bs4.nd rfl (Or.inl rfl))
   (A3 (D9 (R7 (D5 NN GN hr (A0 (pv 2) A6)))
    (A2 (Ai1 C7 (Ad0 (pv 1) (A9 (pv 2) rfl) AA1)) (A3 (Ai1 C7 (Ad0 (pv 1) (R9 AF1 (A9 (pv 2) rfl) B0) AA1))))
    (A3 (D9 (B4 J0 (A9 (pv 2) rfl) C7 (C1 _))
     (A3 (Ai1 C7 (Ad0 (pv 1) (A9 (pv 2) rfl) AA1)))
     (A3 (D9 (B4 J0 (A9 (pv 2) rfl) C7 (C1 _))
      (A3 (Ai1 C7 (Ad0 (pv 1) (A9 (G7 D4 (A9 (pv 2) rfl) B0 (fun _ _=>rfl)) rfl) AA1))) C4)))))))
  (A3 (B6 (pv 1)))),?_⟩
 obtain⟨dr,rs,hr0,nf⟩:=id hR;refine⟨_,rfl,r,CR,dr,rs,_,rfl,hr0,XR.cl,XR.nsl,nf.sl,R.sl,_,rfl,.inl (SqL.of hsl),fun lk hlk=>?_⟩;have s1:Same H (upd H lk (.lst (ys.map V.str))):=B5 hlk;have hk1:(upd H lk (.lst (ys.map V.str))) lk=some (.lst (ys.map V.str)):=A1;generalize (upd H lk (.lst (ys.map V.str)))=H1 at s1 hk1 ⊢;refine⟨_,rfl,r,CR,dr,rs,_,rfl,s1 _ _ hr0,XR.cl,XR.npg,nf.pg,t,(by rw[hpg];rfl),AtT.keep t hT fun b _ o e=>s1 _ _ e,hn,fun H2 l L s2 nl hl2 hL hsb hmk=>?_⟩;have nkl:lk≠l:=fun q=>by rw[q,nl]at hk1;cases hk1
 refine⟨l,rfl,⟨_,SqL.of hl2⟩,Y5 (K:=K) (a:=l) (xs:=B2 L) (fun m σ H'=>∃(v:Option V) (zs:List Str),σ=[some (.ref r),some (.ref lk),v]/\Same H H'/\H' l=some (.lst (B2 L))/\H' lk=some (.lst (zs.map V.str))/\Zs ys.length g ys zs (fun i=>∃u∈L.take m,i∈r2 (er u)))
  ⟨none,ys,rfl,s1.trans s2,hl2,s2 _ _ hk1,rfl,fun i hi=>⟨fun⟨u,q,_⟩=>(by rw[List.take_zero]at q;cases q),fun _=>rfl⟩⟩ (fun i σ H' _ hp=>by obtain⟨v,zs,_,_,q,_⟩:=hp;exact SqL.of q) (fun m x σ H' hx hp=>?_) (fun σ H' hp=>?_)⟩
 ·obtain⟨v,zs,rfl,s3,h3,hk3,hz⟩:=hp;unfold B2 at hx;rw[Aq]at hx;obtain⟨u,hu,rfl⟩:=Ay.mp hx;have hum:=Az hu;have hub:=hsb u hum;have hU:AtT CN H' u:=AtT.keep u (hub.at hT) fun b _ o e=>s3 _ _ e;obtain⟨o1,o2,o3,o4⟩:=hok u hub;have tk:∀i,(∃x∈L.take (m+1),i∈r2 (er x))↔(∃x∈L.take m,i∈r2 (er x))∨i∈r2 (er u):=fun i=>by rw[List.take_add_one,hu];simp only[Option.toList_some,AY,AN,or_and_right,exists_or,exists_eq_left]
  obtain⟨dn,fn,hn0,nfn⟩:=id hU.no;have ek:=A95 u;have hi:fn.lookup ("first":Str)=some (.int ((er u).i:Nat)):=by rw[nfn.i,(AK9 u).1,ek.2.1]
  have hj:fn.lookup ("behind":Str)=some (.int ((er u).j:Nat)):=by rw[nfn.j,(AK9 u).2.1,ek.2.2.1]
  have hkd:fn.lookup ("kind":Str)=some (.str (L7 (er u).k)):=by rw[nfn.k,(AK9 u).2.2.2.1,ek.1]
  have up:∀{H4:Hp} {zs4:List Str},(∀b o,H' b=some o->b≠lk->H4 b=some o)->Same H H4/\H4 l=some (.lst (B2 L)):=fun {H4 zs4} k=>⟨fun b o e=>k b o (s3 _ _ e) (A7 e hlk),k _ _ h3 (BD nkl)⟩;refine⟨_,rfl,u.a,u.rc,rfl,hU.no,_,rfl,G5 (fun c=>?_) (fun c=>?_)⟩
  ·rw[(AH9 u).1,(AH9 u).2.1,(AH9 u).2.2,Ar,BC]at c;have c:(er u).pr=true/\(er u).le<=(er u).st:=⟨c.1,by omega⟩;have o2:=o2 c.1;have ho:r2 (er u)=[(er u).i,(er u).j-1]:=by unfold r2;rw[AL c]
   have hm:mS (er u)="needless":=by unfold mS;rw[AL c]
   have k1:=o1 (er u).i (by rw[ho];simp);have k2:=o1 ((er u).j-1) (by rw[ho];simp);rw[hm]at k1 k2;refine⟨_,rfl,_,rfl,u.a,CN,dn,fn,_,rfl,hn0,Y.cl,Y.ni,hi,lk,_,_,_,rfl,rfl,hk3,Af1 (by rw[AJ,hz.1];exact k1.1),?_⟩;rw[←Dv];have hk4:(upd H' lk (.lst ((zs.set (er u).i "needless").map V.str))) lk=some (.lst ((zs.set (er u).i "needless").map V.str)):=A1;have k4:∀b o,H' b=some o->b≠lk->(upd H' lk (.lst ((zs.set (er u).i "needless").map V.str))) b=some o:=fun b o e nb=>by rw[A4 nb];exact e
   generalize (upd H' lk (.lst ((zs.set (er u).i "needless").map V.str)))=H4 at hk4 k4 ⊢;have nu:u.a≠lk:=fun q=>by rw[q,hk3]at hn0;cases hn0
   have hz1:=hz.set (S':=fun i=>(∃x∈L.take m,i∈r2 (er x))∨i=(er u).i) k1.1 k1.2 (fun _=>Iff.rfl);refine⟨_,rfl,_,rfl,u.a,CN,dn,fn,_,rfl,k4 _ _ hn0 nu,Y.cl,Y.nj,hj,_,_,rfl,rfl,lk,_,_,(er u).j-1,rfl,rfl,hk4,?_,?_⟩
   ·rw[show(((er u).j:Nat):Int)-1=(((er u).j-1:Nat):Int) by omega];exact Af1 (by rw[AJ,hz1.1];exact k2.1)
   rw[←Dv];have u5:=up (zs4:=[]) (H4:=upd H4 lk (.lst (((zs.set (er u).i "needless").set ((er u).j-1) "needless").map V.str))) fun b o e nb=>by rw[A4 nb];exact k4 b o e nb
   refine⟨_,_,rfl,u5.1,u5.2,A1,hz1.set k2.1 k2.2 fun i=>?_⟩;rw[tk i,ho];simp[or_assoc]
  ·rw[(AH9 u).1,(AH9 u).2.1,(AH9 u).2.2,Ar,BC]at c;have c:¬((er u).pr=true/\(er u).le<=(er u).st):=fun z=>c ⟨z.1,by have:=z.2;omega⟩;refine⟨_,rfl,u.a,CN,dn,fn,_,rfl,hn0,Y.cl,Y.nk,hkd,rfl,_,rfl,G5 (fun c2=>?_) (fun c2=>?_)⟩
   ·rw[AS9]at c2;have c2:=of_decide_eq_true c2;have ho:r2 (er u)=[(er u).i]:=by unfold r2;rw[AD c,AL c2]
    have hm:mS (er u)="one's sign":=by unfold mS;rw[AD c,AL c2]
    have k1:=o1 (er u).i (by rw[ho];simp);rw[hm]at k1;refine⟨_,rfl,_,rfl,u.a,CN,dn,fn,_,rfl,hn0,Y.cl,Y.ni,hi,lk,_,_,_,rfl,rfl,hk3,Af1 (by rw[AJ,hz.1];exact k1.1),?_⟩;rw[←Dv];have u5:=up (zs4:=[]) (H4:=upd H' lk (.lst ((zs.set (er u).i "one's sign").map V.str))) fun b o e nb=>by rw[A4 nb];exact e
    refine⟨_,_,rfl,u5.1,u5.2,A1,hz.set k1.1 k1.2 fun i=>?_⟩;rw[tk i,ho];simp
   ·rw[AS9]at c2;have c2:¬(er u).k=.SIGNED:=fun z=>c2 (AR z);refine⟨_,rfl,u.a,CN,dn,fn,_,rfl,hn0,Y.cl,Y.nk,hkd,rfl,_,rfl,G5 (fun c3=>?_) (fun c3=>?_)⟩
    ·rw[AR1 _ o4]at c3;have c3:=of_decide_eq_true c3;obtain⟨a0,b0,cr,hc⟩:=o3 c3;have ho:r2 (er u)=[b0.j]:=by unfold r2;rw[AD c,AD c2,AL c3,hc]
     have hm:mS (er u)="choice's colon":=by unfold mS;rw[AD c,AD c2]
     have k1:=o1 b0.j (by rw[ho];simp);rw[hm]at k1;rw[BV5]at hc;obtain⟨hil,hac⟩:=Bq1 hU;obtain⟨d0,d1,dr',hd⟩:∃d0 d1 dr',u.c=d0::d1::dr'/\er d1=b0:=by
      match q:u.c,hc with
      |d0::d1::dr',hc=>injection hc with _ hc;injection hc with hc _;exact⟨d0,d1,dr',rfl,hc⟩
     have hd1:AtT CN H' d1:=E5.mp hac d1 (by rw[hd.1];simp);obtain⟨dn1,fn1,hn1,nfn1⟩:=hd1.no;have hj1:fn1.lookup ("behind":Str)=some (.int (b0.j:Nat)):=by rw[nfn1.j,(AK9 d1).2.1,←(A95 d1).2.2.1,hd.2]
     have hx1:(B2 u.c)[1]?=some (V.ref d1.a):=by rw[hd.1];rfl
     refine⟨_,rfl,_,rfl,u.a,CN,dn,fn,_,rfl,hn0,Y.cl,Y.nc,nfn.il,u.rc.il,_,_,_,rfl,rfl,SqL.of hil,E9 (j:=1) hx1,d1.a,CN,dn1,fn1,_,rfl,hn1,Y.cl,Y.nj,hj1,lk,_,_,_,rfl,rfl,hk3,Af1 (by rw[AJ,hz.1];exact k1.1),?_⟩;rw[←Dv];have u5:=up (zs4:=[]) (H4:=upd H' lk (.lst ((zs.set b0.j "choice's colon").map V.str))) fun b o e nb=>by rw[A4 nb];exact e
     refine⟨_,_,rfl,u5.1,u5.2,A1,hz.set k1.1 k1.2 fun i=>?_⟩;rw[tk i,ho];simp
    ·rw[AR1 _ o4]at c3;have c3:¬(er u).k=.CHOICE:=fun z=>c3 (AR z);have ho:r2 (er u)=[]:=by unfold r2;rw[AD c,AD c2,AD c3]
     refine⟨_,zs,rfl,s3,h3,hk3,hz.iff fun i=>?_⟩;rw[tk i,ho];simp
 ·obtain⟨v,zs,rfl,s3,h3,hk3,hz⟩:=hp;refine⟨_,rfl,h H' lk zs s3 hlk hk3 (hz.iff fun i=>?_)⟩;rw[←hmk i,Bd (by unfold B2;rw[AJ];exact AB _)]
end
inductive Bs9 (K:AA) (C:AI) (vs:List V) (H:Hp) (Q:VK) (E:XK):Prop
 |mk:∀(a b dx:AI) (ns:List Int) (q:Q4),vs=[.ref a,.ref b]->SqL K H a (ns.map V.int)->H b=some (.ins C dx (tf q.f q.l q.wh q.wi))->(∀(H':Hp) (p:AI),Same H H'->H' p=some (.lst (((ns.drop q.f).take q.l).map V.int))->Q (.ref p) H')->Bs9 K C vs H Q E
section
variable {P:Af} {w:Ap} {K:AA} {mg:Str->Option AH} {base:BR}
theorem B10:B7 ["t","token"] ["t","token"] (A8 X8):=fsc
theorem AZ3 (F:Fun K "own_bytes" "own_bytes" X8 f fd)(X:BA1 P w K mg C):D6 P w K mg base CX0 1 f fd ["t","token"] (Bs9 K C):=by
 refine F.oK B10 fun i A c s H n Q E o h=>?_;obtain⟨a,b,d,e,q,rfl,j,g,h⟩:=h;refine⟨_,A3 (B6 (Y6 p7 (pv 0) (W9 (A9 (pv 1) rfl)) (W9 (R9 V7 (A9 (pv 1) rfl) (A9 (pv 1) rfl))))),?_⟩;refine⟨_,rfl,_,rfl,b,C,d,_,_,rfl,g,X.cl,X.nF,Af4 _ _ _ _,_,rfl,_,rfl,b,C,d,_,_,rfl,g,X.cl,X.nF,Af4 _ _ _ _,_,rfl,b,C,d,_,_,rfl,g,X.cl,X.nL,AB6 _ _ _ _,_,_,rfl,rfl,_,rfl,a,_,rfl,j,fun p k=>?_⟩;have m:AU2 (e.map V.int) (some ((q.f:Nat):Int)) (some (((q.f:Nat):Int)+((q.l:Nat):Int)))=((e.drop q.f).take q.l).map V.int:=by have:=z4 e q.f (some (q.f+q.l));rw[Option.getD_some,Nat.add_sub_cancel_left]at this;exact this
 exact h _ p (B5 k) (by rw[←m];exact A1)
end
end Rk
namespace L2
open PySem PySem.Spec PyProof.Rows
theorem Bf7 {x:Str}{g:TG}{n:TT}{o:TE}{vs:List Nat}{j:St}{r:Hp}{D:AI}{s:Hp->Prop}(d:Nat->Hp->Prop)(u:d 0 (upd r D (.lst [])))
  (v:∀i c H,x.cps[i]?=some c->d i H->g (.str ⟨#[c]⟩) (c5 j vs) H fun a k=>c5 a vs=c5 j vs/\n a k fun b f=>
   if b=true then o a f fun y H4=>∃acc,H4 D=some (.lst acc)/\acc.length<sizeLine/\d (i+1) (upd H4 D (.lst (acc++[y])))else d (i+1) f) (hd:∀H,d x.cps.size H->s H):
  ∃W:Nat->Nat->Hp->Prop,(∃m,W 0 m (upd r D (.lst [])))/\∀i m H,W i m H->
   ((Its x).stop i H/\s H)∨((Its x).go i H/\∃l:Hp->Prop,(∀H',l H'->∃t,t<m/\W (i+1) t H')/\∀y H',(Its x).yld i H y H'->g y (c5 j vs) H' fun a k=>c5 a vs=c5 j vs/\n a k fun b f=>
    if b=true then o a f fun y H4=>∃acc,H4 D=some (.lst acc)/\acc.length<sizeLine/\l (upd H4 D (.lst (acc++[y])))else l f):=by
 refine⟨fun i m H=>m=x.cps.size-i/\i<=x.cps.size/\d i H,⟨x.cps.size,by simp,Ag _,u⟩,?_⟩;rintro i m H ⟨rfl,B,p⟩;by_cases h:i<x.cps.size
 ·refine .inr ⟨h,d (i+1),fun H' w=>⟨x.cps.size-(i+1),by omega,rfl,h,w⟩,fun y H' q=>?_⟩;obtain⟨e,c,z,A⟩:=q;subst e A;exact v i c _ z p
 ·have e:i=x.cps.size:=by omega
  subst e;exact .inl ⟨AB _,hd H p⟩
end L2
namespace Rk
open PySem PySem.Spec PyProof.Rows L2 Tk Rd
open My (Byt toB)
theorem A18:bootBuiltins "str"=some (.type "str"):=by decide+kernel
theorem Ay7:bootBuiltins "ord"=some (.builtin "ord"):=by decide+kernel
theorem BY0 (v:Nat):(Str.ofString (toString ((v:Nat):Int))).cps.toList=(Nat.toDigits 10 v).map fun c=>c.toNat:=by rw[show toString ((v:Nat):Int)=String.ofList (Nat.toDigits 10 v) by show Int.repr (Int.ofNat v)=_;simp[Int.repr,Nat.repr]];show(cpsOfBytes 0 0 _).toArray.toList=_;rw[Dc,cpsOfBytes_string];simp
theorem Av9 (h:v<=Sw.MOST):(Nat.toDigits 10 v).length<=19:=(Nat.length_toDigits_le_iff (by decide) (by decide)).mpr (Dl h (by decide))
theorem BW8 (h:v<=Sw.MOST):(((v:Nat):Int)).natAbs.log2<1920:=by
 rw[Int.natAbs_natCast];by_cases e:v=0
 ·rw[e];decide
 ·exact(Nat.log2_lt e).mpr (Dl h (Av (by decide:Sw.MOST<2 ^ 64) (Nat.pow_le_pow_right (by decide) (by decide))))
noncomputable def Ar6 (v:Nat):List Int:=(Nat.toDigits 10 v).map fun c=>(c.toNat:Int)
inductive Br8 (K:AA) (C:AI) (vs:List V) (H:Hp) (Q:VK) (E:XK):Prop
 |mk:∀(a b dx:AI) (ns:List Int) (q:Q4) (v:Nat),vs=[.ref a,.ref b]->SqL K H a (ns.map V.int)->Byt ns->ns.length<=100000->H b=some (.ins C dx (tf q.f q.l q.wh q.wi))->(q.wh=1->Sw.numberOf (toB ((ns.drop q.f).take q.l))=some v)->
  (∀(H':Hp) (p:AI),Same H H'->H' p=some (.lst ((if q.wh=1 then Ar6 v else(ns.drop q.f).take q.l).map V.int))->Q (.ref p) H')->Br8 K C vs H Q E
section
variable {P:Af} {w:Ap} {K:AA} {mg:Str->Option AH} {base:BR}
theorem Bn1:B7 ["t","token","run","digit"] ["t","token"] (A8 Q5):=fsc
theorem AC3 {f C S T fX fU fV fD:AI}{W j k t u x y:BK}(F:Fun K "written_bytes" "written_bytes" Q5 f W)(X:BA1 P w K mg C)(Y:Fn K mg "own_bytes" X8 ["t","token"] S j)(Z:Fn K mg "number_value" AE2 ["run"] T k)(Hx:Fn K mg "is_hexadecimal" x6 ["run"] fX t)(U:Fn K mg "value_of_digits" i9 ["digits","base"] fU u)(DV:Fn K mg "digit_value" T0 ["byte"] fV x)(D:Fn K mg "is_digit" K3 ["byte"] fD y)(B:mg "str"=none)(G:mg "ord"=none):D6 P w K mg base CX0 5 f W ["t","token"] (Br8 K C):=by
 have GO:D6 P w K mg base CX0 1 S j ["t","token"] (Bs9 K C):=AZ3 Y.F X;have GV:D6 P w K mg base CX0 4 T k ["run"] (Bq9 K):=AF9 Z.F X.tx Hx U DV D;refine F.oK Bn1 fun ab A I s H vs Q E hr h=>?_;obtain⟨a,b,dx,ns,q,v,rfl,hs,hB,aa,hb,hv,h⟩:=h;have J:Room 1 _:=hr.mono (by decide);refine⟨_,A2 (C9 (i:=2) Bn1.nd rfl (Or.inl rfl) (D5 Y GO J (A0 (pv 0) (A0 (pv 1) A6))))
  (A2 (D9 (B4 J0 (A9 (pv 1) rfl) (F2 X.number) (C1 _))
   (A3 (B6 (Ar7 (own:=[("digit",3)]) rfl Bn1.nd (Bg1 (AC1 AV7 (by rfl) B A18 (A0 (D5 Z GV hr (A0 (pv 2) A6)) A6))) (k7 (by kernel_rfl)) (fun _ _ _ _ _=>K8 (i:=3) Bn1.nd rfl (Or.inl rfl)) (fun _ _ _ _ _=>F8)
    (fun _ _ _ _ _=>F1 A78 (by rfl) G Ay7 (A0 (pv 3) A6))))) C4)
  (A3 (B6 (pv 2)))),?_⟩
 refine⟨_,rfl,_,rfl,a,b,dx,ns,q,rfl,hs,hb,fun H1 p L hp=>?_⟩;refine⟨_,rfl,b,C,dx,_,_,rfl,L _ _ hb,X.cl,X.nW,b5 _ _ _ _,rfl,_,rfl,G5 (fun c=>?_) (fun c=>?_)⟩
 ·have c:V.int ((q.wh:Nat):Int)=V.int 1:=of_decide_eq_true c;injection c with c;have e:q.wh=1:=by omega
  have m:Byt ((ns.drop q.f).take q.l):=fun z hz=>hB z (CU (DZ hz));have M:=Wr.num_val m (hv e);refine⟨_,rfl,p,_,rfl,SqL.of hp,m,(by rw[Br,BF];omega),fun H2 s2=>?_⟩;rw[M.1];have n:=L.trans s2;have hx:=BY0 v;have N:(Str.ofString (toString ((v:Nat):Int))).cps.size=(Ar6 v).length:=by rw[←Ce,hx];unfold Ar6;simp
  refine⟨_,rfl,BW8 M.2,_,rfl,fun D hD=>Bf7 (fun i r=>Same H r/\r D=some (.lst (((Ar6 v).take i).map V.int))) ⟨n.trans (B5 hD),A1⟩ (fun i c r hc g=>?_) (fun r g=>?_)⟩
  ·obtain⟨O,d⟩:=g;have R:(Ar6 v)[i]?=some (c:Int):=by
    have:(Str.ofString (toString ((v:Nat):Int))).cps.toList[i]?=some c:=by rw[Array.getElem?_toList];exact hc
    rw[hx,Aq]at this;obtain⟨ch,h1,h2⟩:=Ay.mp this;unfold Ar6;rw[Aq,h1,←h2];rfl
   refine⟨rfl,_,rfl,_,rfl,rfl,_,d,?_,?_,?_⟩
   ·have:=Av9 M.2;have sz:=BA;rw[AJ,Br];unfold Ar6;rw[AJ];omega
   ·exact fun b o e=>by rw[A4 (A7 (n _ _ e) hD)];exact O b o e
   ·rw[A1,J9 R,AV];rfl
  ·obtain⟨O,d⟩:=g;rw[N,Be]at d;exact h r D O (by rw[AL e];exact d)
 ·have c:¬V.int ((q.wh:Nat):Int)=V.int 1:=fun z=>c (AR z);have e:¬q.wh=1:=fun z=>c (by rw[z];rfl);exact⟨_,rfl,h H1 p L (by rw[AD e];exact hp)⟩
end
end Rk
namespace L2
open PySem PySem.Spec PyProof.Rows
theorem BS8 {K:AA}{a b:AI}{xs ys:List V}{g:TG}{l:TS}{D:Ends}{c:St}{H:Hp}(r:xs.length<=ys.length)(d:Nat->St->Hp->Prop)(s:d 0 c H)(t:∀i c H,i<=xs.length->d i c H->SqL K H a xs/\SqL K H b ys)
  (u:∀i x y T c H,xs[i]?=some x->ys[i]?=some y->d i c H->H T=none->g (.ref T) c (upd H T (.tup [x,y])) fun f k=>l {D with nx:=d (i+1),ct:=d (i+1),bk:=D.nx} f k) (hd:∀c H,d xs.length c H->D.nx c H):
  ∃W:Nat->Nat->St->Hp->Prop,(∃m,W 0 m c H)/\∀i m c H,W i m c H->
   ((Itz K a b).stop i H/\D.nx c H)∨((Itz K a b).go i H/\∃N:St->Hp->Prop,(∀h H',N h H'->∃o,o<m/\W (i+1) o h H')/\∀x H',(Itz K a b).yld i H x H'->g x c H' fun f k=>l {D with nx:=N,ct:=N,bk:=D.nx} f k):=by
 refine⟨fun i m c H=>m=xs.length-i/\i<=xs.length/\d i c H,⟨xs.length,by simp,Ag _,s⟩,?_⟩;rintro i m c H ⟨rfl,v,p⟩;have q:=t i c H v p;by_cases j:i<xs.length
 ·refine .inr ⟨⟨xs,ys,xs[i],ys[i],q.1,q.2,by simp[j],by simp[show i<ys.length by omega]⟩,d (i+1),fun h H' w=>⟨xs.length-(i+1),by omega,rfl,j,w⟩,fun x H' y=>?_⟩;obtain⟨T,z,A,e,n,B,C,E⟩:=y;subst e B;exact u i z A T c _ (C xs q.1) (E ys q.2) p n
 ·have e:i=xs.length:=by omega
  subst e;exact .inl ⟨⟨xs,ys,q.1,q.2,.inl (AB _)⟩,hd c H p⟩
end L2
namespace Rk
open PySem PySem.Spec PyProof.Rows L2 Tk Rd
open My (Byt toB)
open Wr (OT mks nc K9 AP5 stB stI blanks lineEnd)
noncomputable def bJ (b:Sw.Bytes):List Int:=b.map fun x=>(x.toNat:Int)
theorem AT3 (a b:Sw.Bytes):bJ (a++b)=bJ a++bJ b:=AV
noncomputable def M0 (od:Nat->Option OT)(m:Nat):List OT:=(List.range m).flatMap fun i=>(od i).toList
theorem BI7 (od:Nat->Option OT)(m:Nat):M0 od (m+1)=M0 od m++(od m).toList:=by unfold M0;rw[List.range_succ,DC];simp
theorem Bv3 (b:OT)(ts:List OT)(o:OT):stB b (ts++[o])=o:=by
 induction ts generalizing b with
 |nil=>rfl
 |cons l r a=>exact a l
theorem Am6 (i:Bool)(ts:List OT)(o:OT):stI i (ts++[o])=(decide (o=.sgn 31)||(stI i ts&&decide (o≠.sgn 32))):=by
 induction ts generalizing i with
 |nil=>rfl
 |cons l r a=>exact a _
theorem BB6 (b:OT)(i:Bool)(o:OT):K9 b i [o]=List.replicate (blanks b o i) Sw.BLANK++(o.txt++(if lineEnd o then [Sw.LF]else [])):=by show _++(o.txt++(_++[]))=_;rw[AE]
theorem Bp0 (b l:OT)(i:Bool):blanks b l i<=2:=by
 unfold blanks
 repeat' split
 all_goals omega
structure Bi3 (ns:List Int)(M:List Nat)(g:Nat->Str)(ys:List Str)(vv:Nat)(i:Nat)(q:Q4)(o:Option OT):Prop where
 nv:q.wh=1->Sw.numberOf (toB ((ns.drop q.f).take q.l))=some vv
 no:o=none->i∈M/\g i="needless"
 lk:∀l,o=some l->(if i∈M then some (g i)else ys[i]?)=some (lkS l)/\okO l/\lkS l≠"needless"/\bJ l.txt=(if q.wh=1 then Ar6 vv else(ns.drop q.f).take q.l)/\l.txt.length<=40
structure Fd (C CR:AI)(H:Hp)(r:AI)(R:RR)(as:List AI)(qs:List Q4):Prop where
 rd:∃a f,RD CR H r R a f
 fo:H R.fo=some (.lst (as.map V.ref))
 tk:Toks C H as qs
inductive Bs1 (K:AA) (C CR CN:AI) (vs:List V) (H:Hp) (Q:VK) (E:XK):Prop
 |mk:∀(a r:AI) (R:RR) (as:List AI) (qs:List Q4) (ns:List Int) (ys:List Str) (t:LT) (g:Nat->Str) (vv:Nat->Nat) (od:Nat->Option OT),vs=[.ref a,.ref r]->SqL K H a (ns.map V.int)->Byt ns->ns.length<=100000->Fd C CR H r R as qs->as.length<=100000->H R.sl=some (.lst (ys.map V.str))->as.length<=ys.length->AtT CN H t->t.a=R.pg->nc (er t)<=300000->(∀u,Sb u t->Bn8 ys.length g (er u))->
  (∀i q,qs[i]?=some q->Bi3 ns (mks (er t)) g ys (vv i) i q (od i))->(∀(H':Hp) (p:AI),Same H H'->H' p=some (.lst ((bJ (K9 (.sgn 24) false (M0 od as.length))).map V.int))->(K9 (.sgn 24) false (M0 od as.length)).length<=43*as.length->Q (.ref p) H')->Bs1 K C CR CN vs H Q E
structure WbF (K:AA)(mg:Str->Option AH):Prop where
 lo:∃f fd,Fn K mg "looks_of" z5 ["reading"] f fd
 an:∃f fd,Fn K mg "all_nodes" Y4 ["node"] f fd
 nn:∃f fd,Fn K mg "are_needless" P6 ["node"] f fd
 ba:∃f fd,Fn K mg "blanks_ahead" S7 ["before","look","in_braces"] f fd
 sa:∃f fd,Fn K mg "stand_apart" R4 ["before","look"] f fd
 wb:∃f fd,Fn K mg "written_bytes" Q5 ["t","token"] f fd
 ob:∃f fd,Fn K mg "own_bytes" X8 ["t","token"] f fd
 nv:∃f fd,Fn K mg "number_value" AE2 ["run"] f fd
 hx:∃f fd,Fn K mg "is_hexadecimal" x6 ["run"] f fd
 vd:∃f fd,Fn K mg "value_of_digits" i9 ["digits","base"] f fd
 dv:∃f fd,Fn K mg "digit_value" T0 ["byte"] f fd
 dg:∃f fd,Fn K mg "is_digit" K3 ["byte"] f fd
 lk:LkF K mg
 ls:mg "list"=none
 st:mg "str"=none
 od:mg "ord"=none
 zp:mg "zip"=none
section
variable {P:Af} {w:Ap} {K:AA} {mg:Str->Option AH} {base:BR}
theorem BF8:B7 ["t","reading","answer","before","in_braces","token","look"] ["t","reading"] (A8 L1):=fsc
theorem y3 {f C CR CF CN:AI}{fd:BK}(F:Fun K "written_tokens" "written_tokens" L1 f fd)(X:BA1 P w K mg C)(XR:TxR P w K mg CR CF CN)(Y:NdC K mg CN)(Z:WbF K mg):D6 P w K mg base CX0 6 f fd ["t","reading"] (Bs1 K C CR CN):=by
 obtain⟨f1,d1,N1⟩:=Z.lo;obtain⟨f2,d2,N2⟩:=Z.an;obtain⟨f3,d3,N3⟩:=Z.nn;obtain⟨f4,d4,N4⟩:=Z.ba;obtain⟨f5,d5,N5⟩:=Z.sa;obtain⟨f6,d6,N6⟩:=Z.wb;obtain⟨f7,d7,N7⟩:=Z.ob;obtain⟨f8,d8,N8⟩:=Z.nv;obtain⟨f9,d9,N9⟩:=Z.hx;obtain⟨fa,da,Na⟩:=Z.vd;obtain⟨fb,db,Nb⟩:=Z.dv;obtain⟨fc,dc,Nc⟩:=Z.dg;obtain⟨aL,gL,qL⟩:=Z.lk.le;have GL:D6 P w K mg base CX0 2 f1 d1 ["reading"] (Bq2 CR CN):=Ak3 N1.F XR Y N2 N3 Z.ls;have GB:D6 P w K mg base CX0 2 f4 d4 ["before","look","in_braces"] Bu9:=AG1 N4.F Z.lk N5;have GW:D6 P w K mg base CX0 5 f6 d6 ["t","token"] (Br8 K C):=AC3 N6.F X N7 N8 N9 Na Nb Nc Z.st Z.od;refine F.oK BF8 fun bs A ay s H vs Q E hr h=>?_;obtain⟨a,r,R,as,qs,ns,ys,t,g,vv,d,rfl,hs,hB,ao,hF,bt,az,bc,hT,bd,hn,be,bf,h⟩:=h;have ap:Room 2 _:=hr.mono (by decide);refine⟨_,A2 (C9 (i:=2) BF8.nd rfl (Or.inl rfl) (M7 A6))
  (A2 (C9 (i:=3) BF8.nd rfl (Or.inl rfl) C7)
  (A2 (C9 (i:=4) BF8.nd rfl (Or.inl rfl) AP9)
  (A2 (Z8 BJ rfl (Bm0 (by rfl) Z.zp (A0 (A9 (pv 1) rfl) (A0 (D5 N1 GL ap (A0 (pv 1) A6)) A6))) (Bk0 rfl (Ac2 (K8 (i:=5) BF8.nd rfl (Or.inl rfl)) (Ac2 (K8 (i:=6) BF8.nd rfl (Or.inl rfl)) BM6)))
   (A3 (D9 (B4 A85 (pv 6) C7 (C1 _))
    (A2 (E4 (U2 Ac Ch Cg j7 (pv 2) (A0 (R9 Bd9 (M7 (A0 (F2 X.tx.blank) A6)) (D5 N4 GB ap (A0 (pv 3) (A0 (pv 6) (A0 (pv 4) A6))))) A6)))
    (A2 (E4 (U2 Ac Ch Cg j7 (pv 2) (A0 (D5 N6 GW hr (A0 (pv 0) (A0 (pv 5) A6))) A6)))
    (A2 (D9 (B4 L9 (pv 6) (R0 gL) rfl) (A3 (E4 (U2 Ac Ax Aw G2 (pv 2) (A0 (F2 X.tx.lineEnd) A6)))) C4)
    (A2 (C9 (i:=4) BF8.nd rfl (Or.inl rfl) (Ak8 (K7 J0 (pv 6) C7 (C1 _)) (m2 (AH0 (pv 4) (m2 (K7 A85 (pv 6) C7 (C1 _)))))))
    (A3 (C9 (i:=3) BF8.nd rfl (Or.inl rfl) (pv 6))))))) C4)))
  (A3 (B6 (pv 2)))))),?_⟩
 have sz:=BA;refine⟨Ag _,fun j I=>?_⟩;have s1:Same H (upd H j (.lst [])):=B5 I;have W:(upd H j (.lst [])) j=some (.lst []):=A1;generalize (upd H j (.lst []))=H1 at s1 W ⊢;obtain⟨_,_,dr,rs,aq,nf⟩:=id hF.rd;refine⟨_,rfl,r,CR,dr,rs,_,rfl,s1 _ _ aq,XR.cl,XR.nfo,nf.fo,_,rfl,r,R,_,_,ys,t,g,rfl,⟨dr,rs,s1 _ _ aq,nf⟩,s1 _ _ az,AtT.keep t hT fun b _ o e=>s1 _ _ e,bd,hn,be,fun H2 l J s2 nl ar hz=>?_⟩;have au:=s1.trans s2;have bg:=hz.1;have aa:l≠j:=fun z=>by rw[z,W]at nl;cases nl
 refine⟨R.fo,l,as.map V.ref,J.map V.str,rfl,SqL.of (au _ _ hF.fo),SqL.of ar,BS8 (K:=K) (a:=R.fo) (b:=l) (xs:=as.map V.ref) (ys:=J.map V.str) (by rw[AJ,AJ,bg];exact bc)
  (fun m σ L=>∃v5 v6:Option V,σ=[some (.ref a),some (.ref r),some (.ref j),some (.str (lkS (stB (.sgn 24) (M0 d m)))),some (.bl (stI false (M0 d m))),v5,v6]/\okO (stB (.sgn 24) (M0 d m))/\Same H L/\L l=some (.lst (J.map V.str))/\L j=some (.lst ((bJ (K9 (.sgn 24) false (M0 d m))).map V.int))/\(K9 (.sgn 24) false (M0 d m)).length<=43*m)
  ⟨none,none,rfl,(by show 24<33;decide),au,ar,s2 _ _ W,Ag _⟩ (fun i σ L _ hp=>by obtain⟨_,_,_,_,q1,q2,_⟩:=hp;exact⟨SqL.of (q1 _ _ hF.fo),SqL.of q2⟩) (fun m x y T σ L hx hy hp ab=>?_) (fun σ L hp=>?_)⟩
 ·obtain⟨v5,v6,rfl,ac,s3,av,M,ad⟩:=hp;rw[Aq]at hx hy;obtain⟨b,hb,rfl⟩:=Ay.mp hx;obtain⟨z,ae,rfl⟩:=Ay.mp hy;obtain⟨q,hq,dx,bh⟩:=hF.tk.2 m _ hb;have TL:=bf m q hq;have hm:m<as.length:=(Ad.mp hb).1;have s4:=s3.trans (B5 (o:=.tup [V.ref b,.str z]) ab);have aw:(upd L T (.tup [V.ref b,.str z])) T=some (.tup [V.ref b,.str z]):=A1;have af:=B5 (o:=.tup [V.ref b,.str z]) ab _ _ av;have N:=B5 (o:=.tup [V.ref b,.str z]) ab _ _ M;generalize (upd L T (.tup [V.ref b,.str z]))=H4 at s4 aw af N ⊢;refine⟨T,_,rfl,SqT.of aw,rfl,_,_,rfl,_,_,rfl,rfl,?_⟩;have ag:=hz.2 m (by omega);cases ho:d m with
  |none=>
   obtain⟨n1,D⟩:=TL.no ho;have:J[m]?=some (g m):=ag.1 n1;rw[ae,D]at this;cases this;have k:M0 d (m+1)=M0 d m:=by rw[BI7,ho];simp
   refine⟨_,rfl,rfl,_,rfl,AG9 ?_⟩;exact⟨_,_,(by rw[k];rfl),by rw[k];exact ac,s4,af,by rw[k];exact N,by rw[k];omega⟩
  |some o=>
   obtain⟨n1,D,n3,n4,n5⟩:=TL.lk o ho;have bi:z=lkS o:=by
    by_cases c:m∈mks (er t)
    ·rw[AL c]at n1;have:=ag.1 c;rw[ae,n1]at this;exact Aa this
    ·rw[AD c]at n1;have:=ag.2 c;rw[ae,n1]at this;exact Aa this
   subst bi;have k:M0 d (m+1)=M0 d m++[o]:=by rw[BI7,ho];rfl
   refine⟨_,rfl,rfl,_,rfl,G5 (fun c=>?_) (fun c=>?_)⟩
   ·have bj:=Bp0 (stB (.sgn 24) (M0 d m)) o (stI false (M0 d m));have lE:((bJ (K9 (.sgn 24) false (M0 d m))).map V.int).length=(K9 (.sgn 24) false (M0 d m)).length:=by unfold bJ;rw[AJ,AJ]
    have em:K9 (.sgn 24) false (M0 d (m+1))=K9 (.sgn 24) false (M0 d m)++(List.replicate (blanks (stB (.sgn 24) (M0 d m)) o (stI false (M0 d m))) Sw.BLANK++(o.txt++(if lineEnd o then [Sw.LF]else []))):=by rw[k,AP5,BB6]
    have bk:(K9 (.sgn 24) false (M0 d (m+1))).length<=43*(m+1):=by
     rw[em,AO,AO,AO,CK];have:(if lineEnd o=true then [Sw.LF]else([]:List UInt8)).length<=1:=by split<;>simp
     omega
    generalize bm:blanks (stB (.sgn 24) (M0 d m)) o (stI false (M0 d m))=n at bj em;refine⟨_,rfl,.inl ⟨rfl,_,SqL.of N⟩,(by show 1<=sizeLine;omega),fun l1 bn=>?_⟩;have t1:=B5 (o:=.lst [V.int 32]) bn;have e1:(upd H4 l1 (.lst [V.int 32])) l1=some (.lst [V.int 32]):=A1;generalize (upd H4 l1 (.lst [V.int 32]))=H5 at t1 e1 ⊢;refine⟨_,rfl,_,rfl,_,rfl,stB (.sgn 24) (M0 d m),o,stI false (M0 d m),rfl,ac,D,?_⟩;rw[bm];refine⟨l1,_,_,rfl,rfl,e1,(by omega),(by omega),(by show 1*n<=sizeLine;omega),fun p1 bo=>?_⟩;have t2:=B5 (o:=.lst (List.replicate ((n:Nat):Int).toNat [V.int 32]).flatten) bo;have e2:(upd H5 p1 (.lst (List.replicate ((n:Nat):Int).toNat [V.int 32]).flatten)) p1=some (.lst ((List.replicate n (32:Int)).map V.int)):=by rw[A1];simp
    generalize (upd H5 p1 (.lst (List.replicate ((n:Nat):Int).toNat [V.int 32]).flatten))=H6 at t2 e2 ⊢;have s6:=(s4.trans t1).trans t2;have bp:=t2 _ _ (t1 _ _ N);have bq:=t2 _ _ (t1 _ _ af);refine⟨j,p1,_,_,rfl,rfl,bp,e2,(by rw[lE,AJ,CK];omega),?_⟩;rw[←AV];have B:∀{u:Hp} {bb:Bool} {ah ai:Option V},bb=stI false (M0 d (m+1))->Same H u->u l=some (.lst (J.map V.str))->u j=some (.lst ((bJ (K9 (.sgn 24) false (M0 d (m+1)))).map V.int))->∃v5 v6:Option V,[some (.ref a),some (.ref r),some (.ref j),some (.str (lkS o)),some (.bl bb),ah,ai]=[some (.ref a),some (.ref r),some (.ref j),some (.str (lkS (stB (.sgn 24) (M0 d (m+1))))),some (.bl (stI false (M0 d (m+1)))),v5,v6]/\okO (stB (.sgn 24) (M0 d (m+1)))/\Same H u/\u l=some (.lst (J.map V.str))/\u j=some (.lst ((bJ (K9 (.sgn 24) false (M0 d (m+1)))).map V.int))/\(K9 (.sgn 24) false (M0 d (m+1))).length<=43*(m+1):=fun {u bb ah ai} br h1 h2 h3=>by
     have eB:stB (.sgn 24) (M0 d (m+1))=o:=by rw[k,Bv3]
     exact⟨ah,ai,by rw[eB,br],by rw[eB];exact D,h1,h2,h3,bk⟩
    have s7:Same H (upd H6 j (.lst ((bJ (K9 (.sgn 24) false (M0 d m))++List.replicate n (32:Int)).map V.int))):=fun b o e=>by rw[A4 (A7 e I)];exact s6 _ _ e
    have ax:(upd H6 j (.lst ((bJ (K9 (.sgn 24) false (M0 d m))++List.replicate n (32:Int)).map V.int))) l=some (.lst (J.map V.str)):=by rw[A4 aa];exact bq
    have aj:(upd H6 j (.lst ((bJ (K9 (.sgn 24) false (M0 d m))++List.replicate n (32:Int)).map V.int))) j=some (.lst ((bJ (K9 (.sgn 24) false (M0 d m))++List.replicate n (32:Int)).map V.int)):=A1;generalize (upd H6 j (.lst ((bJ (K9 (.sgn 24) false (M0 d m))++List.replicate n (32:Int)).map V.int)))=H7 at s7 ax aj ⊢;refine⟨_,rfl,.inl ⟨rfl,_,SqL.of aj⟩,_,rfl,_,rfl,a,b,dx,ns,q,vv m,rfl,s7.seq hs,hB,ao,s7 _ _ bh,TL.nv,fun H8 p8 s8 e8=>?_⟩;rw[←n4]at e8;have lT:((bJ o.txt).map V.int).length=o.txt.length:=by unfold bJ;rw[AJ,AJ]
    have lA:((bJ (K9 (.sgn 24) false (M0 d m))++List.replicate n (32:Int)).map V.int).length=(K9 (.sgn 24) false (M0 d m)).length+n:=by unfold bJ;rw[AJ,AO,AJ,CK]
    refine⟨j,p8,_,_,rfl,rfl,s8 _ _ aj,e8,(by rw[lA,lT];omega),?_⟩;rw[←AV];have s9:Same H (upd H8 j (.lst ((bJ (K9 (.sgn 24) false (M0 d m))++List.replicate n (32:Int)++bJ o.txt).map V.int))):=fun b o e=>by rw[A4 (A7 e I)];exact(s7.trans s8) _ _ e
    have G:(upd H8 j (.lst ((bJ (K9 (.sgn 24) false (M0 d m))++List.replicate n (32:Int)++bJ o.txt).map V.int))) l=some (.lst (J.map V.str)):=by rw[A4 aa];exact s8 _ _ ax
    have O:(upd H8 j (.lst ((bJ (K9 (.sgn 24) false (M0 d m))++List.replicate n (32:Int)++bJ o.txt).map V.int))) j=some (.lst ((bJ (K9 (.sgn 24) false (M0 d m))++List.replicate n (32:Int)++bJ o.txt).map V.int)):=A1;generalize (upd H8 j (.lst ((bJ (K9 (.sgn 24) false (M0 d m))++List.replicate n (32:Int)++bJ o.txt).map V.int)))=H9 at s9 G O ⊢;have U:bJ (List.replicate n Sw.BLANK)=List.replicate n (32:Int):=by unfold bJ;rw[List.map_replicate];rfl
    refine⟨_,rfl,aL,_,rfl,.inr (qL _),rfl,As2,_,rfl,G5 (fun S=>?_) (fun S=>?_)⟩
    ·have S:inV (.str (lkS o)) (leN.map V.str)=true:=S;rw[BC3 D]at S;rw[AL S]at em;have lB:((bJ (K9 (.sgn 24) false (M0 d m))++List.replicate n (32:Int)++bJ o.txt).map V.int).length=(K9 (.sgn 24) false (M0 d m)).length+n+o.txt.length:=by unfold bJ;rw[AJ,AO,AO,AJ,CK,AJ]
     refine⟨_,rfl,.inl ⟨rfl,_,SqL.of O⟩,j,_,_,rfl,rfl,O,(by rw[lB];omega),?_⟩;have v:(upd H9 j (.lst ((bJ (K9 (.sgn 24) false (M0 d m))++List.replicate n (32:Int)++bJ o.txt).map V.int++[V.int 10]))) j=some (.lst ((bJ (K9 (.sgn 24) false (M0 d (m+1)))).map V.int)):=by rw[A1,em,AT3,AT3,AT3,U];simp[bJ,Sw.LF]
     have ak:Same H (upd H9 j (.lst ((bJ (K9 (.sgn 24) false (M0 d m))++List.replicate n (32:Int)++bJ o.txt).map V.int++[V.int 10]))):=fun b o e=>by rw[A4 (A7 e I)];exact s9 _ _ e
     have al:(upd H9 j (.lst ((bJ (K9 (.sgn 24) false (M0 d m))++List.replicate n (32:Int)++bJ o.txt).map V.int++[V.int 10]))) l=some (.lst (J.map V.str)):=by rw[A4 aa];exact G
     refine⟨_,rfl,rfl,_,rfl,G5 (fun p=>?_) (fun p=>?_)⟩
     ·have p:decide (V.str (lkS o)=V.str (B1 (.sign 31)))=true:=p;rw[y4 31 (by simp) D]at p;exact⟨_,rfl,B (by rw[k,Am6,p];rfl) ak al v⟩
     ·have p:¬decide (V.str (lkS o)=V.str (B1 (.sign 31)))=true:=p;rw[y4 31 (by simp) D,DW]at p;refine⟨_,rfl,stI false (M0 d m),rfl,?_⟩;have am:(!decide (V.str (lkS o)=V.str "}"))=decide (o≠.sgn 32):=by rw[show decide (V.str (lkS o)=V.str "}")=decide (o=.sgn 32)from y4 32 (by simp) D];simp
      cases hI:stI false (M0 d m)with
      |true=>exact AS0 ⟨_,rfl,rfl,_,rfl,B (by rw[k,Am6,p,hI,Cw,DP];exact am) ak al v⟩
      |false=>exact AG9 ⟨_,rfl,B (by rw[k,Am6,p,hI];rfl) ak al v⟩
    ·have S:¬inV (.str (lkS o)) (leN.map V.str)=true:=S;rw[BC3 D]at S;rw[AD S,AE]at em;have v:H9 j=some (.lst ((bJ (K9 (.sgn 24) false (M0 d (m+1)))).map V.int)):=by rw[O,em,AT3,AT3,U,AF]
     refine⟨_,rfl,rfl,_,rfl,G5 (fun p=>?_) (fun p=>?_)⟩
     ·have p:decide (V.str (lkS o)=V.str (B1 (.sign 31)))=true:=p;rw[y4 31 (by simp) D]at p;exact⟨_,rfl,B (by rw[k,Am6,p];rfl) s9 G v⟩
     ·have p:¬decide (V.str (lkS o)=V.str (B1 (.sign 31)))=true:=p;rw[y4 31 (by simp) D,DW]at p;refine⟨_,rfl,stI false (M0 d m),rfl,?_⟩;have am:(!decide (V.str (lkS o)=V.str "}"))=decide (o≠.sgn 32):=by rw[show decide (V.str (lkS o)=V.str "}")=decide (o=.sgn 32)from y4 32 (by simp) D];simp
      cases hI:stI false (M0 d m)with
      |true=>exact AS0 ⟨_,rfl,rfl,_,rfl,B (by rw[k,Am6,p,hI,Cw,DP];exact am) s9 G v⟩
      |false=>exact AG9 ⟨_,rfl,B (by rw[k,Am6,p,hI];rfl) s9 G v⟩
   ·exact absurd (show(!decide (V.str (lkS o)=V.str "needless"))=true by simp;exact n3) c
 ·obtain⟨v5,v6,rfl,ac,s3,av,M,ad⟩:=hp;rw[AJ]at M ad;exact⟨_,rfl,h L j s3 M ad⟩
end
open Wr (r2 Hn Hl H1 r8 L6)
noncomputable def gOf (y:Sy):Str:=if y=.sign 27∨y=.sign 28 then "needless" else if y=.sign 23 then "choice's colon" else "one's sign"
theorem BR7 {o:Nat}(h:o<3):gOf (.sign (a9 o))="one's sign":=by
 have:o=0∨o=1∨o=2:=by omega
 rcases this with rfl |rfl |rfl<;>rfl
theorem A05 (k:Kd)(i j:Nat)(p:Bool)(s l:Nat)(c:List Nd):r2 (.mk k i j p s l c)=if p=true/\l<=s then [i,j-1]else if k=.SIGNED then [i]else if k=.CHOICE then(match c with |_::m::_=>[m.j] |_=>[])else []:=rfl
theorem Bv5 (w:Wn n)(h:Hn X n)(u:n.j<=X.N):Bn8 (X.N+1) (fun k=>gOf (X.cy k)) n:=by
 obtain⟨k,i,j,p,s,l,c⟩:=n;obtain⟨x,y,F,A⟩:=AT5.mp w;obtain⟨⟨B,C,v⟩,_⟩:=r8.mp h;have u:j<=X.N:=u;refine⟨fun q f=>?_,fun _=>x,fun z=>?_,A⟩
 ·rw[A05]at f;unfold mS;by_cases g:p=true/\l<=s
  ·rw[AL g]at f;have e:(if p=true/\l<=s then("needless":Str)else if k=.SIGNED then "one's sign" else "choice's colon")="needless":=AL g;obtain⟨m,D⟩:=B g.1;rcases AK.mp f with rfl |f
   ·exact⟨by omega,e.trans (by show _=gOf (X.cy q);rw[m];rfl)⟩
   ·rw[AN]at f;subst f;exact⟨by omega,e.trans (by show _=gOf (X.cy (j-1));rw[D];rfl)⟩
  ·rw[AD g]at f;have e:(if p=true/\l<=s then("needless":Str)else if k=.SIGNED then "one's sign" else "choice's colon")=(if k=.SIGNED then("one's sign":Str)else "choice's colon"):=AD g;by_cases r:k=.SIGNED
   ·rw[AL r]at f;have e:=e.trans (AL r);rw[AN]at f;subst f;obtain⟨o,E,m⟩:=C r;exact⟨by omega,e.trans (by show _=gOf (X.cy q);rw[m,BR7 E])⟩
   ·rw[AD r]at f;have e:=e.trans (AD r);by_cases t:k=.CHOICE
    ·rw[AL t]at f;obtain⟨a,b,d,rfl,m⟩:=v t;have f:q∈[b.j]:=f;rw[AN]at f;subst f;have:=(y.mem b (by simp)).2.1;exact⟨by omega,e.trans (by show _=gOf (X.cy b.j);rw[m];rfl)⟩
    ·rw[AD t]at f;cases f
 ·obtain⟨a,b,d,e,_⟩:=v z;exact⟨a,b,d,e⟩
theorem Ar8:∀{c:List Nd},Hl X c->∀n∈c,Hn X n
 |[],_,n,q=>by cases q
 |m::c,h,n,q=>(AK.mp q).elim (fun z=>z▸(L6.mp h).1) fun z=>Ar8 (L6.mp h).2 n z
theorem Br1 (m:Sb u t)(hw:Wl a b (t.c.map er))(x:b<=X.N)(g:Hl X (t.c.map er)):u=t∨(Wn (er u)/\Hn X (er u)/\(er u).j<=X.N):=by
 induction m with
 |refl t=>exact .inl rfl
 |sub y o q=>
  right;rename_i u c t;have f:er c∈u.c.map er:=BN.mpr ⟨c,o,rfl⟩;rcases q hw g with rfl |⟨r,v,h⟩
  ·have:=hw.mem _ f;exact⟨this.2.2,Ar8 g _ f,by omega⟩
  ·have e:=BV5 u;generalize er u=n at *;obtain⟨k,i,j,p,s,l,d⟩:=n;have e:d=u.c.map er:=e;subst e;obtain⟨z,w,A,B⟩:=AT5.mp r;have:=w.mem _ f;have h:j<=X.N:=h;exact⟨this.2.2,Ar8 (r8.mp v).2 _ f,by omega⟩
open Wr (N0 ncs oo om odN)
theorem BI8:∀{l:List Int},Byt l->bJ (toB l)=l
 |[],_=>rfl
 |z::l,h=>by have a:=h z (AG ..);show((My.u z).toNat:Int)::bJ (toB l)=_;rw[My.u_cast a.1 a.2,BI8 fun y b=>h y (AC _ b)]
theorem Be9 (v:Nat):bJ (Sw.decimal v)=Ar6 v:=by unfold bJ Sw.decimal Ar6;rw[Bk];refine Dd fun c a=>?_;have h:=Nat.isDigit_of_mem_toDigits (by decide) (by decide) a;unfold Char.isDigit at h;rw[Ar,BC,BC]at h;have b:c.toNat<=57:=h.2;show(((UInt8.ofNat c.toNat).toNat:Nat):Int)=_;rw[DF];congr 1;omega
noncomputable def Bg5 (b:Sw.Bytes)(i:Nat):Nat:=match (Sw.tokens b).1[i]? with
 |some ⟨_,_,.num v⟩=>v
 |_=>0
theorem A16 (a:Byt ns)(p n:Nat):bJ (((toB ns).drop p).take n)=(ns.drop p).take n:=by rw[My.toB_drop,Ae2];exact BI8 fun z b=>a z (CU (DZ b))
theorem Bh6 (w:Byt ns)(I:Hl (O5 (toB ns)) nd)(e:(Sw.tokens (toB ns)).1[i]?=some t):Bi3 ns (N0 nd) (fun k=>gOf ((O5 (toB ns)).cy k)) ((A77 (Sw.tokens (toB ns)).1 (Sw.tokens (toB ns)).2).map B1++(["finish"]:List Str)) (Bg5 (toB ns) i) i (q4 t) (odN (O5 (toB ns)) (N0 nd) i):=by
 have J:i<=(O5 (toB ns)).N:=DX (Ad.mp e).1;have j:=BZ6 (toB ns) J;have H:(O5 (toB ns)).A[i]?=some t:=e;have g:(O5 (toB ns)).cy i=F5 t.tok:=by unfold Tx.cy;rw[H]
 have h:(O5 (toB ns)).tk i=some t.tok:=by unfold Tx.tk;rw[H];rfl
 have a:=Wr.own_txt e;have x:=Wr.mkss_sg nd I i;have o:=BJ1 (toB ns) i;obtain⟨p,n,k⟩:=t;have B:∀v,k=.num v->Bg5 (toB ns) i=v:=fun v q=>by unfold Bg5;rw[e,q]
 rw[g]at j o;generalize (A77 (Sw.tokens (toB ns)).1 (Sw.tokens (toB ns)).2).map B1++(["finish"]:List Str)=P at j ⊢;generalize Q:N0 nd=M at x ⊢;generalize Bg5 (toB ns) i=r at B ⊢;cases k with
 |name s=>
  have c:odN (O5 (toB ns)) M i=some (.nm s):=by unfold odN om;rw[h];rfl
  have b:i∉M:=fun z=>by obtain⟨m,q⟩:=x z;rw[g]at q;cases q
  have K:=Wr.name_len e rfl;have a:s=((toB ns).drop p).take n:=a;rw[c];refine⟨fun z=>(by cases z),fun z=>(by cases z),fun l z=>?_⟩;cases z;refine⟨by rw[AD b,j];rfl,trivial,(by show("name":Str)≠"needless";decide+kernel),?_,(by show s.length<=40;omega)⟩;rw[AD (by intro z;cases z)];show bJ s=(ns.drop p).take n;rw[a,A16 w]
 |num v=>
  have c:odN (O5 (toB ns)) M i=some (.num v):=by unfold odN om;rw[h];rfl
  have b:i∉M:=fun z=>by obtain⟨m,q⟩:=x z;rw[g]at q;cases q
  have a:Sw.numberOf (((toB ns).drop p).take n)=some v:=a;rw[My.toB_drop,Ae2]at a;have B:r=v:=B v rfl;subst B;have K:=Av9 (Wr.num_val (fun z L=>w z (CU (DZ L))) a).2;rw[c];refine⟨fun _=>a,fun z=>(by cases z),fun l z=>?_⟩;cases z;refine⟨by rw[AD b,j];rfl,trivial,(by show("number":Str)≠"needless";decide+kernel),?_,?_⟩
  ·rw[AL (show(q4 ⟨p,n,.num r⟩).wh=1 from rfl)];exact Be9 r
  ·show(Sw.decimal r).length<=40;unfold Sw.decimal;rw[AJ];omega
 |kept k=>
  have c:odN (O5 (toB ns)) M i=some (.kept k):=by unfold odN om;rw[h];rfl
  have b:i∉M:=fun z=>by obtain⟨m,q⟩:=x z;rw[g]at q;cases q
  have a:Sw.kept.getD k []=((toB ns).drop p).take n:=a;have d:k<26:=by unfold J5 at o;simp[F5]at o;omega
  have D:∀k,k<26->B1 (.kept k)≠"needless":=by decide+kernel
  have u:∀k,k<26->(Sw.kept.getD k []).length<=40:=by decide+kernel
  rw[c];refine⟨fun z=>(by cases z),fun z=>(by cases z),fun l z=>?_⟩;cases z;refine⟨by rw[AD b,j];rfl,d,D k d,?_,u k d⟩;rw[AD (by intro z;cases z)];show bJ (Sw.kept.getD k [])=(ns.drop p).take n;rw[a,A16 w]
 |sign k=>
  have a:Sw.signs.getD k []=((toB ns).drop p).take n:=a;have d:k<33:=by unfold J5 at o;simp[F5]at o;omega
  have D:∀k,k<33->B1 (.sign k)≠"needless":=by decide+kernel
  have u:∀k,k<33->(Sw.signs.getD k []).length<=40:=by decide+kernel
  have E:bJ (Sw.signs.getD k [])=(if(q4 ⟨p,n,.sign k⟩).wh=1 then Ar6 r else(ns.drop (q4 ⟨p,n,.sign k⟩).f).take (q4 ⟨p,n,.sign k⟩).l):=by rw[AD (by intro z;cases z)];show bJ (Sw.signs.getD k [])=(ns.drop p).take n;rw[a,A16 w]
  have g:(O5 (toB ns)).cy i=.sign k:=g;have F:∀{s:Str},gOf (.sign k)=s->gOf ((O5 (toB ns)).cy i)=s:=fun z=>by rw[g];exact z
  by_cases b:i∈M
  ·by_cases C:k=27∨k=28
   ·have c:odN (O5 (toB ns)) M i=none:=by unfold odN om;rw[h];simp[b,C]
    rw[c];refine⟨fun z=>(by cases z),fun _=>⟨b,F ?_⟩,fun l z=>(by cases z)⟩;rcases C with rfl |rfl<;>rfl
   ·by_cases G:k=23
    ·subst G;have c:odN (O5 (toB ns)) M i=some .col:=by unfold odN om;rw[h];simp[b]
     rw[c];refine⟨fun z=>(by cases z),fun z=>(by cases z),fun l z=>?_⟩;cases z;exact⟨by rw[AL b];exact Bh some (F rfl),trivial,(by show("choice's colon":Str)≠"needless";decide+kernel),E,u 23 d⟩
    ·have c:odN (O5 (toB ns)) M i=some (.one k):=by unfold odN om;rw[h];simp[b,C,G]
     rw[c];refine⟨fun z=>(by cases z),fun z=>(by cases z),fun l z=>?_⟩;cases z;have O:gOf (.sign k)="one's sign":=by unfold gOf;rw[AD (fun z=>C (z.imp (fun y=>by injection y) fun y=>by injection y)),AD (fun y=>G (by injection y))]
     exact⟨by rw[AL b];exact Bh some (F O),trivial,(by show("one's sign":Str)≠"needless";decide+kernel),E,u k d⟩
  ·have c:odN (O5 (toB ns)) M i=some (.sgn k):=by unfold odN om;rw[h];simp[b]
   rw[c];refine⟨fun z=>(by cases z),fun z=>(by cases z),fun l z=>?_⟩;cases z;exact⟨by rw[AD b,j];rfl,d,D k d,E,u k d⟩
inductive Bu8 (K:AA) (vs:List V) (H:Hp) (Q:VK) (E:XK):Prop
 |mk:∀(a:AI) (ns:List Int),vs=[.ref a]->SqL K H a (ns.map V.int)->Byt ns->ns.length<=100000->(∀(H':Hp) (e:Sw.Fault),Same H H'->Sw.readAll (toB ns)=.error e->Q .non H')->(∀(H':Hp) (p:AI) (Pg:Sw.Prog) (l:List Sw.Part),Same H H'->Sw.readAll (toB ns)=.ok (Pg,l)->H' p=some (.lst ((bJ (Sw.progText Pg)).map V.int))->(Sw.progText Pg).length<=4300000->Q (.ref p) H')->Bu8 K vs H Q E
theorem Bt1 (h:BO9 t ⟨.PROGRAM,0,nd⟩)(n:Nat)(g:Nat->Str):r2 (er t)=[]/\(er t).c=nd/\Bn8 n g (er t):=by
 have h:er t=.mk _ 0 0 false 13 0 nd:=h;rw[h];have e:r2 (.mk Kd.PROGRAM 0 0 false 13 0 nd)=[]:=by rw[A05,AD (fun z=>by cases z.1),AD (by intro z;cases z),AD (by intro z;cases z)]
 exact⟨e,rfl,fun k a=>(by rw[show r2 _=[]from e]at a;cases a),fun z=>(by cases z),fun z=>(by cases z),fun z=>(by cases z)⟩
theorem A79 (h:AL9 ns qs)(a:(Sw.tokens (toB ns)).2=none):qs=(Sw.tokens (toB ns)).1.map q4:=by
 rcases h with ⟨A,e,rfl⟩ |⟨A,p,n,e,rfl⟩
 ·rw[e]
 ·rw[e]at a;cases a
section
variable {P:Af} {w:Ap} {K:AA} {mg:Str->Option AH} {base:BR}
theorem By0:B7 ["t","reading"] ["t"] (A8 S5):=fsc
theorem AG8 {f C CR CF O fR fT:AI}{fd x y:BK}(F:Fun K "written_form" "written_form" S5 f fd)(W:RtF P w K mg C CR CF O)(N:Fn K mg "read_text" V8 ["t"] fR x)(T:Fn K mg "written_tokens" L1 ["t","reading"] fT y)(Z:WbF K mg):D6 P w K mg base CX0 10 f fd ["t"] (Bu8 K):=by
 have A:=W.Z.X;have GR:D6 P w K mg base CX0 9 fR x ["t"] (AW5 K C CR O):=A91 N.F W;have GT:D6 P w K mg base CX0 6 fT y ["t","reading"] (Bs1 K C CR O):=y3 T.F W.S.X A W.Z.Y Z;refine F.oK By0 fun ah A' U s H vs Q E hr h=>?_;obtain⟨a,d,rfl,hs,V,n,h1,h2⟩:=h;have aa:Room 6 _:=hr.mono (by decide);refine⟨_,A2 (C9 (i:=1) By0.nd rfl (Or.inl rfl) (D5 N GR hr (A0 (pv 0) A6)))
  (A2 (D9 (B4 AG2 (A9 (pv 1) rfl) B0 (C1 _)) (A3 (B6 At0)) C4)
  (A3 (B6 (D5 T GT aa (A0 (pv 0) (A0 (pv 1) A6)))))),?_⟩
 refine⟨_,rfl,a,d,rfl,hs,V,n,fun H2 r R as qs s2 l=>?_⟩;rcases l.out with ⟨k,j,hk,⟨I,J,m,L⟩,b,ai⟩ |⟨j,v,M,⟨I,J,m,L⟩,b,ab,aj,ac,ad⟩
 ·obtain⟨e,he,rfl,hp⟩:=BB5 b;refine⟨_,rfl,r,CR,I,J,_,rfl,m,A.cl,A.nf,L.f,_,_,rfl,rfl,_,rfl,G5 (fun c=>?_) (fun c=>?_)⟩
  ·exact h1 _ e s2 he
  ·have c:¬(0:Int)<(e.kind:Nat):=fun z=>c (AR z);omega
 ·obtain⟨Pg,he,o⟩:=BN6 b;have nn:=BR2 b;have B:=A79 l.se nn;have hN:(O5 (toB d)).N=(Sw.tokens (toB d)).1.length:=rfl;have D:as.length=(O5 (toB d)).N:=by rw[l.tk.1,B,AJ,hN]
  have hh:=Wr.SR.h o;have hw:=BZ4 o;have g:=Bt1 ad ((O5 (toB d)).N+1) (fun k=>gOf ((O5 (toB d)).cy k));have ae:mks (er M)=N0 v:=by rw[Wr.mks_own,g.1,g.2.1];rfl
  have af:nc (er M)<=300000:=by rw[Wr.nc_mk,g.2.1];have:=Wr.ncs_le v _ _ hw;have:=l.al;omega
  have hc:M.c.map er=v:=by rw[←BV5];exact g.2.1
  have G:((A77 (Sw.tokens (toB d)).1 (Sw.tokens (toB d)).2).map B1++(["finish"]:List Str)).length=(O5 (toB d)).N+1:=by rw[nn];unfold A77;rw[AO,AJ,AO,AJ];rfl
  have ag:M0 (odN (O5 (toB d)) (N0 v)) as.length=oo (O5 (toB d)) (N0 v) 0 (O5 (toB d)).N:=by rw[D];exact Wr.row_oo _ _
  refine⟨_,rfl,r,CR,I,J,_,rfl,m,A.cl,A.nf,L.f,_,_,rfl,rfl,_,rfl,AG9 ?_⟩;refine⟨_,rfl,_,rfl,a,r,R,as,qs,d,_,M,fun k=>gOf ((O5 (toB d)).cy k),Bg5 (toB d),odN (O5 (toB d)) (N0 v),rfl,s2.seq hs,V,n,⟨⟨_,_,I,J,m,L⟩,l.fo,l.tk⟩,l.al,l.sy,(by rw[G,D];omega),ab,ac,af,fun u hu=>?_,fun i q hq=>?_,fun H3 p s3 hp hl=>?_⟩
  ·rw[G];rcases Br1 hu (by rw[hc];exact hw) (AB _) (by rw[hc];exact hh)with rfl |⟨u1,u2,u3⟩
   ·exact g.2.2
   ·exact Bv5 u1 u2 u3
  ·rw[B,Aq]at hq;obtain⟨t,ht,rfl⟩:=Ay.mp hq;rw[ae];exact Bh6 V hh ht
  ·rw[ag,Wr.written o]at hp hl;have:=l.al;exact h2 H3 p Pg _ (s2.trans s3) he hp (by omega)
end
end Rk
namespace L2
open PySem PySem.Spec PyProof.Rows
theorem AW7 {K:AA}{H:Hp}:∀l:List Int,AX2 K H (l.map V.int) (l.map PyData.int)
 |[]=>.nil
 |i::r=>.cons (.int i) (AW7 r)
theorem Ab9:∀l m:List Int,PyData.eqvAll (l.map PyData.int) (m.map PyData.int)=decide (l=m)
 |[],[]=>by simp[PyData.eqvAll]
 |[],b::m=>by simp[PyData.eqvAll]
 |a::l,[]=>by simp[PyData.eqvAll]
 |a::l,b::m=>by have:=Ab9 l m;simp[PyData.eqvAll,PyData.eqv,this];rfl
theorem Ah4 (l m:List Int):PyData.eqv (.list (l.map PyData.int)) (.list (m.map PyData.int))=decide (l=m):=by rw[←Ab9];simp[PyData.eqv]
theorem Ae5:∀l:List Int,PyData.canLayAll0 (l.map PyData.int)=true
 |[]=>by simp[PyData.canLayAll0]
 |a::l=>by have:=Ae5 l;simp[PyData.canLayAll0,PyData.canLay0,this]
theorem Ae9:∀l:List Int,PyData.depthAll (l.map PyData.int)<=1
 |[]=>by simp[PyData.depthAll]
 |a::l=>by have:=Ae9 l;simp[PyData.depthAll,PyData.depth];omega
theorem AE6 (l:List Int):SeqAt.shaped (.list (l.map PyData.int))=true:=by have:=Ae9 l;simp[SeqAt.shaped,PyData.canLay0,PyData.depth,Ae5 l];omega
end L2
namespace Rk
open PySem PySem.Spec PyProof.Rows L2 Tk Rd
open My (Byt toB)
theorem Bj5 {a b:Sw.Bytes}:bJ a=bJ b↔a=b:=by refine⟨fun h=>?_,fun h=>by rw[h]⟩;unfold bJ at h;exact List.map_inj_right (fun x y e=>UInt8.toNat_inj.mp (Int.ofNat_inj.mp e)) |>.mp h
inductive spSame (K:AA) (vs:List V) (H:Hp) (Q:VK) (E:XK):Prop
 |mk:∀(a b:AI) (ns ss:List Int),vs=[.ref a,.ref b]->SqL K H a (ns.map V.int)->Byt ns->ns.length<=100000->SqL K H b (ss.map V.int)->Byt ss->ss.length<=100000->(∀(H':Hp) (p:AI),H' p=some (.lst ((PyWqaibx.same ns ss).map V.int))->Q (.ref p) H')->spSame K vs H Q E
section
variable {P:Af} {w:Ap} {K:AA} {mg:Str->Option AH} {base:BR}
theorem Bo8:B7 ["t","s","form","other"] ["t","s"] (A8 BS3):=fsc
theorem BQ7 {f C CR CF CN fR fT fW:AI}{fd fdR fdT fdW:BK}(F:Fun K "same" "same" BS3 f fd)(W:RtF P w K mg C CR CF CN)(N:Fn K mg "read_text" V8 ["t"] fR fdR)(T:Fn K mg "written_tokens" L1 ["t","reading"] fT fdT)(D:Fn K mg "written_form" S5 ["t"] fW fdW)(Z:WbF K mg):D6 P w K mg base CX0 11 f fd ["t","s"] (spSame K):=by
 have X:=W.S.X;have GD:D6 P w K mg base CX0 10 fW fdW ["t"] (Bu8 K):=AG8 D.F W N T Z;refine F.oK Bo8 fun cdv A' outer s H vs Q E hr h=>?_;obtain⟨a,b,ns,ss,rfl,hs,hB,hlen,hss,hS,hsl,h⟩:=h;refine⟨_,A2 (D9 (PW.pt (A43 (B4 AG2 (F1 C5 (by rfl) X.tx.len BP (A0 (pv 0) A6)) (F2 X.longT) (C1 _)) (Aa9 (B4 AG2 (F1 C5 (by rfl) X.tx.len BP (A0 (pv 1) A6)) (F2 X.longT) (C1 _))))) (A3 (B6 (M7 (A0 (Az6 AU0 B0) A6)))) C4)
  (A2 (C9 (i:=2) Bo8.nd rfl (Or.inl rfl) (D5 D GD hr (A0 (pv 0) A6)))
  (A2 (D9 (B4 BI1 (pv 2) At0 (C1 _)) (A3 (B6 (M7 (A0 (Az6 AU0 B0) A6)))) C4)
  (A2 (C9 (i:=3) Bo8.nd rfl (Or.inl rfl) (D5 D GD hr (A0 (pv 1) A6)))
  (A2 (D9 (B4 BI1 (pv 3) At0 (C1 _)) (A3 (B6 (M7 (A0 (Az6 AU0 B0) A6)))) C4)
  (A3 (B6 (M7 (A0 (U9 (B4 (Bg0 hr.units) (pv 2) (pv 3) (C1 _)) B0 B0) A6)))))))),?_⟩
 have sz:=BA;refine Al4 (BJ9 (Z7 (O4 rfl hs ⟨_,_,rfl,rfl,_,rfl,G5 (fun c=>?_) (fun c=>?_)⟩)))
 ·have:=of_decide_eq_true c;omega
 refine Z7 (O4 rfl hss ⟨_,_,rfl,rfl,_,rfl,G5 (fun c=>?_) (fun c=>?_)⟩)
 ·have:=of_decide_eq_true c;omega
 refine⟨_,rfl,a,ns,rfl,hs,hB,hlen,fun H2 e s2 he=>?_,fun H2 p Pg l s2 he hp hl=>?_⟩
 ·rw[Wr.same_err1 hB hS hlen hsl he]at h;exact⟨_,rfl,rfl,_,rfl,AS0 ⟨_,rfl,(by show 1<=sizeLine;omega),fun p hp'=>h _ p A1⟩⟩
 refine⟨_,rfl,rfl,_,rfl,AG9 ⟨_,rfl,b,ss,rfl,s2.seq hss,hS,hsl,fun H3 e s3 he3=>?_,fun H3 q Qg m s3 he3 hq hm=>?_⟩⟩
 ·rw[Wr.same_err2 hB hS hlen hsl he he3]at h;exact⟨_,rfl,rfl,_,rfl,AS0 ⟨_,rfl,(by show 1<=sizeLine;omega),fun p hp'=>h _ p A1⟩⟩
 refine⟨_,rfl,rfl,_,rfl,AG9 ?_⟩;rw[Wr.same_ok hB hS hlen hsl he he3]at h;refine⟨_,rfl,_,rfl,_,_,.lst (SqL.of (s3 _ _ hp)) (AW7 _),.lst (SqL.of hq) (AW7 _),AE6 _,AE6 _,_,rfl,G5 (fun c=>?_) (fun c=>?_)⟩
 ·rw[Ah4]at c;have c:=Bj5.mp (of_decide_eq_true c);rw[AL c]at h;exact⟨(by show 1<=sizeLine;omega),fun p hp'=>h _ p A1⟩
 ·rw[Ah4]at c;have c:¬Sw.progText Pg=Sw.progText Qg:=fun z=>c (AR (by rw[z]));rw[AD c]at h;exact⟨(by show 1<=sizeLine;omega),fun p hp'=>h _ p A1⟩
end
end Rk
namespace Tk
open PySem PySem.Spec PyProof.Rows L2
theorem Ap6 {K:AA}{h:BR}{o:Str->Option AH}{x:Str}{st:Stmt}{ps:List Str}{f:AI}{p g e i d j:AH}{od m:Option AI}{n:Array (Option AH)}(X:K.In h)(G:h.Ns mainGlobals o)
  (a:nsIn K mainGlobals x=some (some (.ref f))) (l:K.lookup f=some ⟨p,od,.func (fnOf x x (P8 st) (M6 st) (A8 st) .none g e i m d j),n⟩) (c:codeIn K d x=true) (k:keepIn K (.ref f)=true)
  (b:∀(g e i:AH) (m:Option AI) (d j:AH) (us:List AH),us.length=ps.length->bindArgs (fnOf x x (P8 st) (M6 st) (A8 st) .none g e i m d j) ⟨us,[]⟩=pure (ps.zip us)):
  Fn K o x st ps f (fnOf x x (P8 st) (M6 st) (A8 st) .none g e i m d j):=
 ⟨Ab7 l c k,BM X G a,(Ab7 (st:=st) l c k).binds b⟩
theorem M8 {K:AA}{h:BR}{b:Str->Option AH}(X:K.In h)(G:h.Ns mainGlobals b)(a:nsIn K mainGlobals x=some (some (.int i t))):GI b x i:=⟨t,BM X G a⟩
noncomputable def B05:List (Int×V):=[(43,V.int 9),(45,V.int 10),(42,V.int 11),(47,V.int 12),(37,V.int 13),(38,V.int 14),(124,V.int 15),(94,V.int 16),(126,V.int 17),(33,V.int 18),(60,V.int 19),(62,V.int 20),(61,V.int 21),(63,V.int 22),(58,V.int 23),(59,V.int 24),(44,V.int 25),(64,V.int 26),(40,V.int 27),(41,V.int 28),(91,V.int 29),(93,V.int 30),(123,V.int 31),(125,V.int 32)]
noncomputable def An4 (o:Obj):Option (List Str):=match o with
 |⟨.type n,none,.seq a _,_⟩=>if n="tuple"/\a.size<=1000 then a.toList.mapM fun u=>(match u with |.str x _=>some x |_=>none)else none
 |_=>none
theorem Ad6:∀{us:List AH} {xs:List Str},(us.mapM fun u=>(match u with |.str x _=>some x |_=>none:Option Str))=some xs->Vals (xs.map V.str) us
 |[],xs,h=>by cases h;exact .nil
 |u::r,xs,h=>by
  rw[EM]at h;cases u with
  |str x t=>
   cases e:(r.mapM fun u=>(match u with |.str x _=>some x |_=>none:Option Str))with
   |none=>rw[e]at h;cases h
   |some l=>rw[e]at h;cases h;exact .cons ⟨t,rfl⟩ (Ad6 e)
  |_=>cases h
theorem T2 {K:AA}{o:Obj}{xs:List Str}(l:K.lookup a=some o)(h:An4 o=some xs):(∃o,K.lookup a=some o/\o.cls=.type "tuple"/\o.dict=none)/\∀H,SqT K H a (xs.map V.str):=by
 unfold An4 at h;split at h
 ·rename_i n b m d;split at h
  ·rename_i c;obtain⟨rfl,e⟩:=c;refine⟨⟨_,l,rfl,rfl⟩,fun H=>.inr ⟨_,b,m,l,rfl,rfl,?_,Ad6 h⟩⟩;have:=BA;omega
  ·cases h
 ·cases h
noncomputable def B19:List (List Int×V):=[([45,62],V.int 0),([60,60],V.int 1),([62,62],V.int 2),([60,61],V.int 3),([62,61],V.int 4),([61,61],V.int 5),([33,61],V.int 6),([38,38],V.int 7),([124,124],V.int 8)]
def TopIs (K:AA)(x:Str)(st:Stmt):Prop:=∃(f:AI) (b c:Option AI) (d:Array (Option AH)) (e g h i a j:AH),nsIn K mainGlobals x=some (some (.ref f))/\K.lookup f=some ⟨e,b,.func (fnOf x x (P8 st) (M6 st) (A8 st) .none g h i c a j),d⟩/\codeIn K a x=true/\keepIn K (.ref f)=true
theorem top_mk {K:AA}{x:Str}{st:Stmt}{f:AI}{od d:Option AI}{e:Array (Option AH)}{g h i j b m:AH}(a:nsIn K mainGlobals x=some (some (.ref f)))(l:K.lookup f=some ⟨g,od,.func (fnOf x x (P8 st) (M6 st) (A8 st) .none h i j d b m),e⟩)(c:codeIn K b x=true)(k:keepIn K (.ref f)=true):TopIs K x st:=⟨f,od,d,e,g,h,i,j,b,m,a,l,c,k⟩
theorem TopIs.fn {K:AA}{h:BR}{g:Str->Option AH}{x:Str}{st:Stmt}(t:TopIs K x st)(X:K.In h)(G:h.Ns mainGlobals g)(ps:List Str)
  (b:∀(i d j:AH) (m:Option AI) (e n:AH) (us:List AH),us.length=ps.length->bindArgs (fnOf x x (P8 st) (M6 st) (A8 st) .none i d j m e n) ⟨us,[]⟩=pure (ps.zip us):=by intro _ _ _ _ _ _ us p;rcases us with _ |⟨_,_ |⟨_,_ |⟨_,_ |⟨_,_ |⟨_,_⟩⟩⟩⟩⟩<;>first |rfl |nomatch p):
  ∃f o,Fn K g x st ps f o/\∀(s:AW) (us:List AH),us.length=ps.length->BindsTo s o ⟨us,[]⟩ (ps.zip us):=by
 obtain⟨f,r,m,u,v,i,w,j,y,n,a,l,c,k⟩:=t;exact⟨f,_,Ap6 X G a l c k b,fun s us q=>.of_eq (b _ _ _ _ _ _ us q)⟩
structure A08 (K:AA)(x q:Str)(st:Stmt)(ps:List Str)(C:AI):Prop where
 aC:nsIn K mainGlobals x=some (some (.ref C))
 cl:Cls K C
 F:∃f fd,Mk K C f/\Fun K "__init__" q st f fd/\Binds K fd ps []
theorem cls_mk {K:AA}{x q:Str}{st:Stmt}{ps:List Str}{C f:AI}{od d:Option AI}{o:Array (Option AH)}{p e r g n h:AH}(aC:nsIn K mainGlobals x=some (some (.ref C)))(a:findIn K (.ref C) "__init__"=some (some (.ref f)))(i:isFn K (.ref f)=true)(l:K.lookup f=some ⟨p,od,.func (fnOf "__init__" q (P8 st) (M6 st) (A8 st) .none e r g d n h),o⟩)(c:codeIn K n q=true)(k:keepIn K (.ref f)=true)
  (pg:plainGet K C Str.empty=true) (hd:hasDictIn K C=true) (po:plainOver K C=true) (sa:findIn K (.ref C) "__setattr__"=some (some (.builtin "object.__setattr__"))) (mk:makesIn K C=true) (kc:keepIn K (.ref C)=true)
  (b:∀(e j g:AH) (d:Option AI) (m h:AH) (us:List AH),us.length=ps.length->bindArgs (fnOf "__init__" q (P8 st) (M6 st) (A8 st) .none e j g d m h) ⟨us,[]⟩=pure (ps.zip us)):A08 K x q st ps C:=
 ⟨aC,⟨pg,hd,po,sa⟩,f,_,⟨mk,a,i,kc⟩,Ab7 l c k,(Ab7 (st:=st) l c k).binds b⟩
end Tk
namespace Jh
open PySem PySem.Spec PyProof.Rows L2 Tk Rk
theorem all_mk {w:Ap}{K:AA}{h:BR}{a:Str->Option AH}(X:K.In h)(G:h.Ns mainGlobals a)(m:a "same"=some (.ref fa))
  {es n:Array Bg}
  (d1:TopIs K "is_digit" K3)
  (d2:TopIs K "is_letter" T8)
  (d3:TopIs K "is_blank" l3)
  (d4:TopIs K "is_word_byte" AE7)
  (d5:TopIs K "begins_note" Aw6)
  (d6:TopIs K "note_end" h9)
  (d7:TopIs K "behind_blanks" AN5)
  (d8:TopIs K "run_end" AL0)
  (d9:TopIs K "digit_value" T0)
  (d10:TopIs K "value_of_digits" i9)
  (d11:TopIs K "are_digits" Bj3)
  (d12:TopIs K "is_hexadecimal" x6)
  (d13:TopIs K "is_number" Ab0)
  (d14:TopIs K "run_token" AN3)
  (d15:TopIs K "sign_token" AA6)
  (d16:TopIs K "scan" As5)
  (d17:TopIs K "first_tokens" AI8)
  (d18:TopIs K "full_part" Ak4)
  (d19:TopIs K "ways_by_token" Ax7)
  (d20:TopIs K "node_around" K2)
  (d21:TopIs K "join_last" X6)
  (d22:TopIs K "folded_operators" L4)
  (d23:TopIs K "folded_post" R3)
  (d24:TopIs K "finished_e" Z1)
  (d25:TopIs K "finished_one" S8)
  (d26:TopIs K "finished_atom_or_size" J2)
  (d27:TopIs K "finished" W0)
  (d28:TopIs K "symbol_of" AD6)
  (d29:TopIs K "can_begin" Bk6)
  (d30:TopIs K "fault_of" Ac9)
  (d31:TopIs K "begin_node" U1)
  (d32:TopIs K "end_node" AA5)
  (d33:TopIs K "push_way" z3)
  (d34:TopIs K "push_one_and_others" z9)
  (d35:TopIs K "read_once" BB7)
  (d36:TopIs K "step" BE3)
  (d37:TopIs K "read_text" V8)
  (d38:TopIs K "number_value" AE2)
  (d39:TopIs K "own_bytes" X8)
  (d40:TopIs K "are_needless" P6)
  (d41:TopIs K "all_nodes" Y4)
  (d42:TopIs K "looks_of" z5)
  (d43:TopIs K "stand_apart" R4)
  (d44:TopIs K "blanks_ahead" S7)
  (o:TopIs K "written_bytes" Q5)
  (p:TopIs K "written_tokens" L1)
  (q:TopIs K "written_form" S5)
  (r:TopIs K "same" BS3)
  (cI:A08 K "Token" "Token.__init__" A69 ["self","first","length","what","which"] CI)
  (nIfirst:findIn K (.ref CI) "first"=some none)
  (nIlength:findIn K (.ref CI) "length"=some none)
  (nIwhat:findIn K (.ref CI) "what"=some none)
  (nIwhich:findIn K (.ref CI) "which"=some none)
  (cJ:A08 K "Frame" "Frame.__init__" Aq6 ["self","form","symbol","room","depth"] CJ)
  (nJform:findIn K (.ref CJ) "form"=some none)
  (nJsymbol:findIn K (.ref CJ) "symbol"=some none)
  (nJroom:findIn K (.ref CJ) "room"=some none)
  (nJdepth:findIn K (.ref CJ) "depth"=some none)
  (cL:A08 K "Reading" "Reading.__init__" z7 ["self","found"] CL)
  (nLfound:findIn K (.ref CL) "found"=some none)
  (nLsymbols:findIn K (.ref CL) "symbols"=some none)
  (nLways:findIn K (.ref CL) "ways"=some none)
  (nLat:findIn K (.ref CL) "at"=some none)
  (nLfault:findIn K (.ref CL) "fault"=some none)
  (nLprogram:findIn K (.ref CL) "program"=some none)
  (nLbegun:findIn K (.ref CL) "begun"=some none)
  (nLframes:findIn K (.ref CL) "frames"=some none)
  (cM:A08 K "Node" "Node.__init__" Ay0 ["self","kind","first"] CM)
  (nMkind:findIn K (.ref CM) "kind"=some none)
  (nMfirst:findIn K (.ref CM) "first"=some none)
  (nMbehind:findIn K (.ref CM) "behind"=some none)
  (nMinner:findIn K (.ref CM) "inner"=some none)
  (nMis_pair:findIn K (.ref CM) "is_pair"=some none)
  (nMstrength:findIn K (.ref CM) "strength"=some none)
  (nMleast:findIn K (.ref CM) "least"=some none)
  (z_len:nsIn K mainGlobals "len"=some none)
  (z_isinstance:nsIn K mainGlobals "isinstance"=some none)
  (z_str:nsIn K mainGlobals "str"=some none)
  (z_tuple:nsIn K mainGlobals "tuple"=some none)
  (z_reversed:nsIn K mainGlobals "reversed"=some none)
  (c:nsIn K mainGlobals "list"=some none)
  (d:nsIn K mainGlobals "ord"=some none)
  (e:nsIn K mainGlobals "zip"=some none)
  (gSLASH:nsIn K mainGlobals "SLASH"=some (some (.int 47 tSLASH)))
  (gLINE_END:nsIn K mainGlobals "LINE_END"=some (some (.int 10 tLINE_END)))
  (gBLANK:nsIn K mainGlobals "BLANK"=some (some (.int 32 tBLANK)))
  (gZERO:nsIn K mainGlobals "ZERO"=some (some (.int 48 tZERO)))
  (gSMALL_X:nsIn K mainGlobals "SMALL_X"=some (some (.int 120 tSMALL_X)))
  (gMOST_DIGITS:nsIn K mainGlobals "MOST_DIGITS"=some (some (.int 19 tMOST_DIGITS)))
  (gMOST_HEX_DIGITS:nsIn K mainGlobals "MOST_HEX_DIGITS"=some (some (.int 16 tMOST_HEX_DIGITS)))
  (gLARGEST_NUMBER:nsIn K mainGlobals "LARGEST_NUMBER"=some (some (.int 9223372036854775807 tLARGEST_NUMBER)))
  (gNAME:nsIn K mainGlobals "NAME"=some (some (.int 0 tNAME)))
  (gNUMBER:nsIn K mainGlobals "NUMBER"=some (some (.int 1 tNUMBER)))
  (gKEPT:nsIn K mainGlobals "KEPT"=some (some (.int 2 tKEPT)))
  (gSIGN:nsIn K mainGlobals "SIGN"=some (some (.int 3 tSIGN)))
  (gNO_TOKEN:nsIn K mainGlobals "NO_TOKEN"=some (some (.int 4 tNO_TOKEN)))
  (gLONGEST_WORD:nsIn K mainGlobals "LONGEST_WORD"=some (some (.int 32 tLONGEST_WORD)))
  (gNOT_A_TOKEN:nsIn K mainGlobals "NOT_A_TOKEN"=some (some (.int 1 tNOT_A_TOKEN)))
  (gLONGEST_TEXT:nsIn K mainGlobals "LONGEST_TEXT"=some (some (.int 1048576 tLONGEST_TEXT)))
  (gCANT_STAND:nsIn K mainGlobals "CANT_STAND"=some (some (.int 2 tCANT_STAND)))
  (gTOO_DEEP:nsIn K mainGlobals "TOO_DEEP"=some (some (.int 3 tTOO_DEEP)))
  (gTOO_MANY:nsIn K mainGlobals "TOO_MANY"=some (some (.int 4 tTOO_MANY)))
  (gMOST_DECLARATIONS:nsIn K mainGlobals "MOST_DECLARATIONS"=some (some (.int 4096 tMOST_DECLARATIONS)))
  (gDEEPEST:nsIn K mainGlobals "DEEPEST"=some (some (.int 128 tDEEPEST)))
  (gSUM_STRENGTH:nsIn K mainGlobals "SUM_STRENGTH"=some (some (.int 0 tSUM_STRENGTH)))
  (gCHOICE_STRENGTH:nsIn K mainGlobals "CHOICE_STRENGTH"=some (some (.int 1 tCHOICE_STRENGTH)))
  (gCOMPARISON_STRENGTH:nsIn K mainGlobals "COMPARISON_STRENGTH"=some (some (.int 4 tCOMPARISON_STRENGTH)))
  (gSIGNED_STRENGTH:nsIn K mainGlobals "SIGNED_STRENGTH"=some (some (.int 11 tSIGNED_STRENGTH)))
  (gPOST_STRENGTH:nsIn K mainGlobals "POST_STRENGTH"=some (some (.int 12 tPOST_STRENGTH)))
  (gWORD_STRENGTH:nsIn K mainGlobals "WORD_STRENGTH"=some (some (.int 13 tWORD_STRENGTH)))
  (gFZ:nsIn K mainGlobals "FROM_0_TO_Z"=some (some (.str A29 tFZ))) (gKW:nsIn K mainGlobals "KEPT_WORDS"=some (some (.ref aKW))) (lKW:K.lookup aKW=some oKW) (gS2:nsIn K mainGlobals "SIGNS_OF_TWO"=some (some (.ref aS2))) (gS1:nsIn K mainGlobals "SIGNS_OF_ONE"=some (some (.ref aS1)))
  (xKW:An4 oKW=some m9) (xS2:BW5 P w K aS2=some B19) (xS1:BL2 K aS1=some B05) (yS2:(aS2==sysModules)=false) (yS1:(aS1==sysModules)=false)
  (gSG:nsIn K mainGlobals "SIGNS"=some (some (.ref aSG))) (lSG:K.lookup aSG=some oSG) (xSG:An4 oSG=some AX3)
  (gRU:nsIn K mainGlobals "RULES_THAT_COUNT_AS_DEEP"=some (some (.ref aRU))) (lRU:K.lookup aRU=some oRU) (xRU:An4 oRU=some AG0)
  (gTR:nsIn K mainGlobals "RULES_IN_THE_TREE"=some (some (.ref aTR))) (lTR:K.lookup aTR=some oTR) (xTR:An4 oTR=some Am4)
  (gSU:nsIn K mainGlobals "BEGINNINGS_OF_A_SUM"=some (some (.ref aSU))) (lSU:K.lookup aSU=some oSU) (xSU:An4 oSU=some BY5)
  (gON:nsIn K mainGlobals "SIGNS_OF_A_ONE"=some (some (.ref aON))) (lON:K.lookup aON=some oON) (xON:An4 oON=some BY2)
  (gGR:nsIn K mainGlobals "GRAMMAR"=some (some (.ref aGR))) (lGR:K.lookup aGR=some ⟨.type "dict",none,.dict es en,#[]⟩) (hKL:KeysLit w.params es.toList) (xGR:Av1 K es.toList=some gr) (kit:PySem.W.kitOne K (.type "tuple") (.type "str")=some false) (yGR:(aGR==sysModules)=false)
  (gOS:nsIn K mainGlobals "OPERATOR_STRENGTHS"=some (some (.ref aOS))) (lOS:K.lookup aOS=some ⟨.type "dict",none,.dict n eon,#[]⟩) (hOS:KeysLit w.params n.toList) (xOS:AR6 n.toList=some Bo0) (yOS:(aOS==sysModules)=false)
  (yJL:CJ≠CL) (yML:CM≠CL) (yJM:CJ≠CM) (yIL:CI≠CL)
  (t:nsIn K mainGlobals "NONE_AHEAD"=some (some (.ref aNA))) (u:K.lookup aNA=some oNA) (v:An4 oNA=some naN)
  (x:nsIn K mainGlobals "NONE_BEHIND"=some (some (.ref aNB))) (y:K.lookup aNB=some oNB) (z:An4 oNB=some nbN)
  (A:nsIn K mainGlobals "NONE_AHEAD_OF_PARENTHESIS"=some (some (.ref aNP))) (B:K.lookup aNP=some oNP) (C:An4 oNP=some npN)
  (D:nsIn K mainGlobals "LINE_ENDS"=some (some (.ref aLE))) (E:K.lookup aLE=some oLE) (H:An4 oLE=some leN):
  ∃fd:BK,(∀(s:AW) (us:List AH),us.length=(["t","s"]:List Str).length->BindsTo s fd ⟨us,[]⟩ ((["t","s"]:List Str).zip us))/\∀b:BR,K.In b->b.Ns mainGlobals a->D6 P w K a b CX0 11 fa fd ["t","s"] (Rk.spSame K):=by
 obtain⟨_,_,N1,_⟩:=d1.fn X G ["byte"];obtain⟨_,_,N2,_⟩:=d2.fn X G ["byte"];obtain⟨_,_,N3,_⟩:=d3.fn X G ["byte"];obtain⟨_,_,N4,_⟩:=d4.fn X G ["byte"];obtain⟨_,_,N5,_⟩:=d5.fn X G ["t","at"];obtain⟨_,_,N6,_⟩:=d6.fn X G ["t","at"];obtain⟨_,_,N7,_⟩:=d7.fn X G ["t","at"];obtain⟨_,_,N8,_⟩:=d8.fn X G ["t","at"];obtain⟨_,_,N9,_⟩:=d9.fn X G ["byte"];obtain⟨_,_,f,_⟩:=d10.fn X G ["digits","base"];obtain⟨_,_,I,_⟩:=d11.fn X G ["digits","base","most"];obtain⟨_,_,i,_⟩:=d12.fn X G ["run"];obtain⟨_,_,J,_⟩:=d13.fn X G ["run"];obtain⟨_,_,L,_⟩:=d14.fn X G ["t","at"];obtain⟨_,_,M,_⟩:=d15.fn X G ["t","at"];obtain⟨_,_,j,_⟩:=d16.fn X G ["t"];obtain⟨_,_,N,_⟩:=d17.fn X G ["symbol"];obtain⟨_,_,Q,_⟩:=d18.fn X G ["part"];obtain⟨_,_,R,_⟩:=d19.fn X G [];obtain⟨_,_,S,_⟩:=d20.fn X G ["kind","inner","behind","strength"];obtain⟨_,_,T,_⟩:=d21.fn X G ["operands","strengths"];obtain⟨_,_,U,_⟩:=d22.fn X G ["node","symbols"];obtain⟨_,_,V,_⟩:=d23.fn X G ["node"];obtain⟨_,_,Y,_⟩:=d24.fn X G ["node","symbols"];obtain⟨_,_,aa,_⟩:=d25.fn X G ["node","symbols"];obtain⟨_,_,ab,_⟩:=d26.fn X G ["node","symbols"];obtain⟨_,_,ac,_⟩:=d27.fn X G ["node","symbols"];obtain⟨_,_,ad,_⟩:=d28.fn X G ["token"];obtain⟨_,_,ae,_⟩:=d29.fn X G ["reading","symbol","token"];obtain⟨_,_,af,_⟩:=d30.fn X G ["reading","frame","token"];obtain⟨_,_,ag,_⟩:=d31.fn X G ["reading","rule"];obtain⟨_,_,ah,_⟩:=d32.fn X G ["reading"];obtain⟨_,_,ai,_⟩:=d33.fn X G ["reading","frame","token"];obtain⟨_,_,aj,_⟩:=d34.fn X G ["reading","frame"];obtain⟨_,_,ak,_⟩:=d35.fn X G ["reading","frame","token"];obtain⟨_,_,al,_⟩:=d36.fn X G ["reading"];obtain⟨_,_,am,_⟩:=d37.fn X G ["t"];obtain⟨_,_,an,_⟩:=d38.fn X G ["run"];obtain⟨_,_,ao,_⟩:=d39.fn X G ["t","token"];obtain⟨_,_,ap,_⟩:=d40.fn X G ["node"];obtain⟨_,_,aq,_⟩:=d41.fn X G ["node"];obtain⟨_,_,ar,_⟩:=d42.fn X G ["reading"];obtain⟨_,_,au,_⟩:=d43.fn X G ["before","look"];obtain⟨_,_,av,_⟩:=d44.fn X G ["before","look","in_braces"];obtain⟨_,_,aw,_⟩:=o.fn X G ["t","token"];obtain⟨_,_,ax,_⟩:=p.fn X G ["t","reading"];obtain⟨_,_,ay,_⟩:=q.fn X G ["t"];obtain⟨_,_,k,bb⟩:=r.fn X G ["t","s"];cases m.symm.trans k.g;have tx:Tk.Txt a:=⟨Bb X G z_len,M8 X G gSLASH,M8 X G gLINE_END,M8 X G gBLANK,M8 X G gZERO,M8 X G gSMALL_X,M8 X G gMOST_DIGITS,M8 X G gMOST_HEX_DIGITS,M8 X G gLARGEST_NUMBER⟩;have l:BA1 P w K a CI:=⟨tx,cI.cl,nIfirst,nIlength,nIwhat,nIwhich,BM X G cI.aC,M8 X G gNAME,M8 X G gNUMBER,M8 X G gKEPT,M8 X G gSIGN,M8 X G gNO_TOKEN,M8 X G gLONGEST_WORD,M8 X G gNOT_A_TOKEN,M8 X G gLONGEST_TEXT,⟨_,BM X G gFZ⟩,⟨_,BM X G gKW,T2 lKW xKW⟩,⟨_,BM X G gS2,BL1 xS2 (by decide+kernel) yS2⟩,⟨_,BM X G gS1,BN7 xS1 (by decide+kernel) yS1⟩⟩;obtain⟨fI,dI,az,FI,bI⟩:=cI.F;have O:Bn5 P w K a CI fI dI:=⟨l,az,FI,bI⟩;have Z:Sc P w K a CI:=⟨l,⟨_,_,O⟩,⟨_,_,N1⟩,⟨_,_,N2⟩,⟨_,_,N3⟩,⟨_,_,N4⟩,⟨_,_,N8⟩,⟨_,_,N9⟩,⟨_,_,f⟩,⟨_,_,I⟩,⟨_,_,i⟩,⟨_,_,J⟩,⟨_,_,N7⟩,⟨_,_,L⟩,⟨_,_,M⟩,⟨_,_,N5⟩,⟨_,_,N6⟩,⟨_,_,j⟩⟩;obtain⟨fJ,dJ,ba,FJ,bJ⟩:=cJ.F;have OJ:FrC K a CJ fJ dJ:=⟨ba,cJ.cl,nJform,nJsymbol,nJroom,nJdepth,BM X G cJ.aC,FJ,bJ⟩;have OM:NdC K a CM:=⟨cM.F,cM.cl,nMkind,nMfirst,nMbehind,nMinner,nMis_pair,nMstrength,nMleast,BM X G cM.aC,M8 X G gSUM_STRENGTH,M8 X G gCHOICE_STRENGTH,M8 X G gCOMPARISON_STRENGTH,M8 X G gSIGNED_STRENGTH,M8 X G gPOST_STRENGTH,M8 X G gWORD_STRENGTH⟩;have OL:RdC K a CL:=⟨BM X G cL.aC,cL.F⟩;have XR:TxR P w K a CL CJ CM:=⟨cL.cl,nLfound,nLsymbols,nLways,nLat,nLfault,nLprogram,nLbegun,nLframes,yJL,yML,yJM,M8 X G gCANT_STAND,M8 X G gTOO_DEEP,M8 X G gTOO_MANY,M8 X G gNOT_A_TOKEN,M8 X G gMOST_DECLARATIONS,M8 X G gDEEPEST,⟨_,BM X G gRU,(T2 lRU xRU).2⟩,⟨_,BM X G gTR,(T2 lTR xTR).2⟩,Bb X G z_reversed⟩;have XG:TxG P w K a gr:=⟨Bb X G z_isinstance,Bb X G z_str,Bb X G z_tuple,kit,⟨_,BM X G gGR,BM5 lGR hKL xGR Bi9 yGR⟩⟩;have XO:TxO P w K a:=⟨⟨_,BM X G gOS,BU0 lOS hOS xOS (by decide+kernel) yOS⟩,⟨_,BM X G gSU,(T2 lSU xSU).2⟩,⟨_,BM X G gON,(T2 lON xON).2⟩,Bb X G z_len⟩;have XT:TrF K a:=⟨⟨_,_,S⟩,⟨_,_,T⟩,⟨_,_,U⟩,⟨_,_,V⟩,⟨_,_,Y⟩,⟨_,_,aa⟩,⟨_,_,ab⟩⟩;have XF:RdF P w K a CL CJ CM:=⟨XR,⟨_,_,OJ⟩,OM,XO,XT,⟨_,_,ae⟩,⟨_,_,af⟩,⟨_,_,ag⟩,⟨_,_,ah⟩,⟨_,_,ac⟩,⟨_,_,ai⟩,⟨_,_,aj⟩,⟨_,_,ak⟩⟩;have XW:RtF P w K a CI CL CJ CM:=⟨XF,Z,yIL,OL,⟨_,BM X G gSG,(T2 lSG xSG).2⟩,XG,⟨_,_,R⟩,⟨_,_,Q⟩,⟨_,_,N⟩,⟨_,_,ad⟩,⟨_,_,j⟩,⟨_,_,al⟩⟩;exact⟨_,bb,fun b _ _=>BQ7 k.F XW am ax ay ⟨⟨_,_,ar⟩,⟨_,_,aq⟩,⟨_,_,ap⟩,⟨_,_,av⟩,⟨_,_,au⟩,⟨_,_,aw⟩,⟨_,_,ao⟩,⟨_,_,an⟩,⟨_,_,i⟩,⟨_,_,f⟩,⟨_,_,N9⟩,⟨_,_,N1⟩,⟨⟨_,BM X G t,(T2 u v).2⟩,⟨_,BM X G x,(T2 y z).2⟩,⟨_,BM X G A,(T2 B C).2⟩,⟨_,BM X G D,(T2 E H).2⟩⟩,Bb X G c,Bb X G z_str,Bb X G d,Bb X G e⟩⟩
end Jh
open PySem PySem.W PyProof.Rows
namespace PySem.W.Fast
def tw444152941504506927:=0
def tw13672680626695823871:=0
def tw3922817783071541156:=0
def tw13259729095393816581:=0
def tw10263094534070389310:=0
def tw14382415188513315581:=0
def tw15025051240114232093:=0
def tw1604760652051527658:=0
def tw17637736655374996871:=0
def tw5275354414283332882:=0
def tw1348683193485126189:=0
def tw13203120527921555268:=0
def tw5711096620892810829:=0
def tw14196896163124931773:=0
def tw17545395046459466828:=0
def tw5841608354462200373:=0
def tw217614965057803346:=0
def tw10748604284458004537:=0
def tw9833811829392221414:=0
def tw2444749354460550296:=0
def tw4967343371462564555:=0
def tw7888613615340113782:=0
def tw11566694274710863881:=0
def tw5044448990958383543:=0
def tw6571577497470787537:=0
def tw17163063306697371781:=0
def tw12857775572998121217:=0
def tw12956884596414132379:=0
def tw8927935722406134013:=0
def tw2614478419212163668:=0
def tw15831125432884513346:=0
def tw6422390829590427812:=0
def tw13400296003239966387:=0
def tw5059441254287568118:=0
def tw9239703066981462376:=0
def tw12083539312890918055:=0
def tw16526351797582168060:=0
def tw15096147929838803181:=0
def tw12685360763443542318:=0
def tw7026143219773251272:=0
def tw18287477137136976854:=0
def tw15235463574540905202:=0
def tw9738375625540002267:=0
def tw16606473971294746862:=0
def tw17154302023895566396:=0
def tw2979897809494192175:=0
def tw11594617524003233095:=0
def tw8677867051002537484:=0
def tw15342940876996699378:=0
def tw7170096580832219018:=0
def tw16964427699325961623:=0
def tw13657103905491964453:=0
def tw7680075727910325266:=0
def tw3712497670957406995:=0
def tw17274692356515996300:=0
def tw4921187588592534197:=0
def tw12504338349868384785:=0
def tw10954440345950670508:=0
def tw3121069795107416376:=0
def tw8851579964895588432:=0
def tw12474668405876890958:=0
def tw10622189316494657589:=0
def tw13690392631739986003:=0
def tw16961111252161368987:=0
def tw377598249478280829:=0
def tw2331728836187968889:=0
def tw3933173107157489220:=0
def tw6455713556279381596:=0
def tw6099067702261252075:=0
def tw11553821462270162031:=0
def tw9859532208072333684:=0
def tw15537868629678207054:=0
def tw16522971968466467735:=0
def tw18002900196640425090:=0
def tw14725411858543338113:=0
def tw2615241302021030830:=0
def tw9121777980077340769:=0
def tw10958256276321877507:=0
def tw14143814877949116264:=0
def tw1596866374837163542:=0
def tw6013031341497265725:=0
def tw14948765867883688496:=0
def tw17639879274377822116:=0
def tw10687189154852370832:=0
def tw9677840063338913369:=0
def tw9411090105692313702:=0
def tw16978847109999686479:=0
def tw3491396492570044759:=0
def tw1812453259893870623:=0
def tw3477097459431222315:=0
def tw4371829617862670202:=0
def tw5535557976969780554:=0
def tw13715765962917520215:=0
def tw3726684685942637285:=0
def tw4960680352467290275:=0
def tw6567501173867785824:=0
def tw1962663847090952960:=0
def tw11160302586126188221:=0
def tw173044848762592388:=0
def tw2665177672793866431:=0
def tw7897678314572936306:=0
def tw10644111231114845154:=0
def tw7139153507980294878:=0
def tw409969100030389144:=0
def tw8748453802877642820:=0
def tw17274524809890843315:=0
def tw11204150373584242484:=0
def tw11305246665541149259:=0
def tw10546831886287859770:=0
def tw13293394365487163044:=0
def tw3804261859560085722:=0
def tw8844039294454686003:=0
def tw1259330671576615583:=0
def tw220093245995413174:=0
def tw16238926594759690121:=0
def tw6990028891583529142:=0
def tw9679558918628229208:=0
def tw16604328995202587273:=0
def tw8739778610154178531:=0
def tw10514296747445535000:=0
def tw2904571848340142172:=0
def tw2137422773601405711:=0
def tw6586934991182739566:=0
def tw6045242571283477217:=0
def tw16918262425764854472:=0
def tw15032308297718953952:=0
def tw9588692959574700914:=0
def tw9170427338052559290:=0
def tw8012017036991002508:=0
def tw7419008714738258094:=0
def tw5609463230070260525:=0
def tw1819459560924870430:=0
def tw8928843044158279179:=0
def tw7318540536827048723:=0
def tw7450722743490690116:=0
def tw13082844591114455909:=0
def tw13546756576353351037:=0
def tw9334715406280488933:=0
def tw2564711462474143974:=0
def tw3216104443148113600:=0
def tw17452058509013098025:=0
def tw5446343197423646912:=0
def tw7970614556766687545:=0
def tw10757177899511521110:=0
def tw11432557493700026603:=0
def tw5536162775333970571:=0
def tw15004836715911158776:=0
def tw4711204964745816884:=0
def tw16670841422715917772:=0
def tw8267560723347789541:=0
def tw10503510549724018396:=0
def tw16066671680890288190:=0
def tw6136326735269825748:=0
def tw541508437042614940:=0
def tw1027044812855316168:=0
def tw11345780237758416128:=0
def tw7777436964157077835:=0
def tw5715612433815074310:=0
def tw2616872938815334311:=0
def tw10944904584413785243:=0
def tw16085370760673081843:=0
end PySem.W.Fast
set_option maxRecDepth 100000 in
set_option maxHeartbeats 0 in
theorem PySem.Challenge.cw_rilltexts_s04_same_holds : PySem.Challenge.rw_rilltexts_s04_same.Holds := by
 w_on;k_headS;(case hw=>exact⟨[.list [],.list []],by decide+kernel,by decide+kernel⟩)
 k_fillS
 refine L2.walk_specK (r:=PySem.Challenge.rw_rilltexts_s04_same) (k:=11) (CX:=L2.CX0) (ps:=["t","s"]) (sp:=Rk.spSame) (by decide+kernel) rfl rfl ⟨rfl,by decide,by decide⟩ (fun w h Y=>PySem.W.kIn_of Y) ?F ?S (fun _ _ _ _ z=>z)
 case F=>
  intro w mg fa h Y KX G hmg
  refine' Jh.all_mk KX G hmg ?d1 ?d2 ?d3 ?d4 ?d5 ?d6 ?d7 ?d8 ?d9 ?d10 ?d11 ?d12 ?d13 ?d14 ?d15 ?d16 ?d17 ?d18 ?d19 ?d20 ?d21 ?d22 ?d23 ?d24 ?d25 ?d26 ?d27 ?d28 ?d29 ?d30 ?d31 ?d32 ?d33 ?d34 ?d35 ?d36 ?d37 ?d38 ?d39 ?d40 ?d41 ?d42 ?d43 ?d44 ?d45 ?d46 ?d47 ?d48 ?cI ?nIfirst ?nIlength ?nIwhat ?nIwhich ?cJ ?nJform ?nJsymbol ?nJroom ?nJdepth ?cL ?nLfound ?nLsymbols ?nLways ?nLat ?nLfault ?nLprogram ?nLbegun ?nLframes ?cM ?nMkind ?nMfirst ?nMbehind ?nMinner ?nMis_pair ?nMstrength ?nMleast ?z_len ?z_isinstance ?z_str ?z_tuple ?z_reversed ?z_list ?z_ord ?z_zip ?gSLASH ?gLINE_END ?gBLANK ?gZERO ?gSMALL_X ?gMOST_DIGITS ?gMOST_HEX_DIGITS ?gLARGEST_NUMBER ?gNAME ?gNUMBER ?gKEPT ?gSIGN ?gNO_TOKEN ?gLONGEST_WORD ?gNOT_A_TOKEN ?gLONGEST_TEXT ?gCANT_STAND ?gTOO_DEEP ?gTOO_MANY ?gMOST_DECLARATIONS ?gDEEPEST ?gSUM_STRENGTH ?gCHOICE_STRENGTH ?gCOMPARISON_STRENGTH ?gSIGNED_STRENGTH ?gPOST_STRENGTH ?gWORD_STRENGTH ?gFZ ?gKW ?lKW ?gS2 ?gS1 ?xKW ?xS2 ?xS1 ?yS2 ?yS1 ?gSG ?lSG ?xSG ?gRU ?lRU ?xRU ?gTR ?lTR ?xTR ?gSU ?lSU ?xSU ?gON ?lON ?xON ?gGR ?lGR ?hKL ?xGR ?kit ?yGR ?gOS ?lOS ?hOS ?xOS ?yOS ?yJL ?yML ?yJM ?yIL ?gNA ?lNA ?xNA ?gNB ?lNB ?xNB ?gNP ?lNP ?xNP ?gLE ?lLE ?xLE
  case d1|d2|d3|d4|d5|d6|d7|d8|d9|d10|d11|d12|d13|d14|d15|d16|d17|d18|d19|d20|d21|d22|d23|d24|d25|d26|d27|d28|d29|d30|d31|d32|d33|d34|d35|d36|d37|d38|d39|d40|d41|d42|d43|d44|d45|d46|d47|d48=>refine' Tk.top_mk ?a ?l ?c ?k;case a|l|c|k=>k_is
  case cI=>refine' Tk.cls_mk ?aC ?a ?i ?l ?c ?k ?pg ?hd ?po ?sa ?mk ?kc (fun _ _ _ _ _ _ us hl=>match us,hl with |[_,_,_,_,_],_=>rfl);case aC|a|i|l|c|k|pg|hd|po|sa|mk|kc=>k_is
  case nIfirst|nIlength|nIwhat|nIwhich=>k_is
  case cJ=>refine' Tk.cls_mk ?aC ?a ?i ?l ?c ?k ?pg ?hd ?po ?sa ?mk ?kc (fun _ _ _ _ _ _ us hl=>match us,hl with |[_,_,_,_,_],_=>rfl);case aC|a|i|l|c|k|pg|hd|po|sa|mk|kc=>k_is
  case nJform|nJsymbol|nJroom|nJdepth=>k_is
  case cL=>refine' Tk.cls_mk ?aC ?a ?i ?l ?c ?k ?pg ?hd ?po ?sa ?mk ?kc (fun _ _ _ _ _ _ us hl=>match us,hl with |[_,_],_=>rfl);case aC|a|i|l|c|k|pg|hd|po|sa|mk|kc=>k_is
  case nLfound|nLsymbols|nLways|nLat|nLfault|nLprogram|nLbegun|nLframes=>k_is
  case cM=>refine' Tk.cls_mk ?aC ?a ?i ?l ?c ?k ?pg ?hd ?po ?sa ?mk ?kc (fun _ _ _ _ _ _ us hl=>match us,hl with |[_,_,_],_=>rfl);case aC|a|i|l|c|k|pg|hd|po|sa|mk|kc=>k_is
  case nMkind|nMfirst|nMbehind|nMinner|nMis_pair|nMstrength|nMleast|z_len|z_isinstance|z_str|z_tuple|z_reversed|z_list|z_ord|z_zip|gSLASH|gLINE_END|gBLANK|gZERO|gSMALL_X|gMOST_DIGITS|gMOST_HEX_DIGITS|gLARGEST_NUMBER|gNAME|gNUMBER|gKEPT|gSIGN|gNO_TOKEN|gLONGEST_WORD|gNOT_A_TOKEN|gLONGEST_TEXT|gCANT_STAND|gTOO_DEEP|gTOO_MANY|gMOST_DECLARATIONS|gDEEPEST|gSUM_STRENGTH|gCHOICE_STRENGTH|gCOMPARISON_STRENGTH|gSIGNED_STRENGTH|gPOST_STRENGTH|gWORD_STRENGTH|gFZ|gKW|lKW|gS2|gS1=>k_is
  case xKW|xS2|xS1=>kernel_rfl
  case yS2|yS1=>decide+kernel
  case gSG|lSG=>k_is
  case xSG=>kernel_rfl
  case gRU|lRU=>k_is
  case xRU=>kernel_rfl
  case gTR|lTR=>k_is
  case xTR=>kernel_rfl
  case gSU|lSU=>k_is
  case xSU=>kernel_rfl
  case gON|lON=>k_is
  case xON=>kernel_rfl
  case gGR|lGR=>k_is
  case hKL=>k_keys
  case xGR|kit=>kernel_rfl
  case yGR=>decide+kernel
  case gOS|lOS=>k_is
  case hOS=>k_keys
  case xOS=>kernel_rfl
  case yOS|yJL|yML|yJM|yIL=>decide+kernel
  case gNA|lNA=>k_is
  case xNA=>kernel_rfl
  case gNB|lNB=>k_is
  case xNB=>kernel_rfl
  case gNP|lNP=>k_is
  case xNP=>kernel_rfl
  case gLE|lLE=>k_is
  case xLE=>kernel_rfl
 case S=>
  intro K H xs a hO hwi hask hx
  cases hx with
  |cons h0 h2=>
  cases h2 with
  |cons h1 h3=>
  cases h3
  cases h0 with
  |lst hs ha=>
  cases h1 with
  |lst hs' ha'=>
   have e:=L2.ints_dw a.1 _ ha
   subst e
   have e:=L2.ints_dw a.2.1 _ ha'
   subst e
   have q:((Codec.inLen 0 100000 a.1&&a.1.all (Codec.inInt 0 255))&&((Codec.inLen 0 100000 a.2.1&&a.2.1.all (Codec.inInt 0 255))&&true))=true:=hwi
   rw[Bool.and_eq_true,Bool.and_eq_true,Bool.and_eq_true,Bool.and_eq_true]at q
   refine⟨_,_,a.1,a.2.1,rfl,hs,fun z hz=>?_,(Codec.inNat_iff.mp q.1.1).2,hs',fun z hz=>?_,(Codec.inNat_iff.mp q.2.1.1).2,fun H' p hp=>.lst (L2.SqL.of hp) (L2.dw_ints _)⟩
   ·exact Codec.inInt_iff.mp (List.all_eq_true.mp q.1.2 z hz)
   ·exact Codec.inInt_iff.mp (List.all_eq_true.mp q.2.1.2 z hz)
#print axioms PySem.Challenge.cw_rilltexts_s04_same_holds
