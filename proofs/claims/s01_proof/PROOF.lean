import PyProof.Rows.All
import Wide.All
import OpenK.AllK
import Wide.FinOn
import PyProof.EqAt
import PyProof.EqKinds
import PyProof.TupleCall
import KE.BitLaws
import PyProof.ExcArgsOwn
import PyProof.ExcInit
import PyProof.InstLoad
import PyProof.InstStoreFacts
import PyProof.ExcBaseAll.Exception
import PyProof.StationsW
import PyProof.PassesOwn
import PyProof.NoPylong
import PyProof.Rows.FactsT3
import PyProof.Rows.FactsN_abs
import KE.KMinKey
import PyProof.Rows.CallKwBuiltin
import PySem.Challenge.RW_ringsheet_s01_answers
import KE.OsGo
import Sg07Spec
import PySg07
import PyProof.Rows.ReprOcc
import KE.KEqSeq
import Open.SpecLaws
set_option linter.all false
set_option maxRecDepth 100000
set_option maxHeartbeats 4000000
def zAa:=@List.length_append
def zAb:=@List.length_cons
def zAc:=@Bool.false_ne_true
def zAd:=@List.mem_cons_of_mem
theorem zAe{α:Type _}{a b:α}{l:List α}(h:a∈b::l):a=b\/a∈l:=List.mem_cons.mp h
def zAf:=@of_decide_eq_true
theorem zAg{α:Type _}{a b:α}(h:a∈[b]):a=b:=List.mem_singleton.mp h
def zAh:=@PySem.F.plainAttrs_list
def zAi:=@Nat.le_refl
def zAj:=@List.mem_append_left
def zAk:=@List.append_assoc
def zAl:=@List.mem_append_right
theorem zAm{b:Bool}(h:¬b=true):b=false:=Bool.eq_false_iff.mpr h
def zAn:=@List.size_toArray
def zAo:=@List.mem_cons_self
def zAp:=@List.length_map
def zAq:=@Nat.lt_of_lt_of_le
def zAr:=@PySem.F.type_list_append
def zAs:=@PySem.F.slot_list_append
def zAt:=@List.length_singleton
def zAu:=@List.take_add_one
def zAv:=@of_decide_eq_false
theorem zAw{α:Type _}{a:α}{s t:List α}(h:a∈s++t):a∈s\/a∈t:=List.mem_append.mp h
def zAx:=@Nat.zero_le
def zAy:=@List.getElem?_eq_getElem
def zAz:=@List.map_cons
def zBa:=@List.length_take
def zBb:=@List.takeWhile_cons
def zBc:=@List.flatMap_append
def zBd:=@Option.some.inj
def zBe:=@Nat.ne_of_lt
def zBf:=@List.take_length
def zBg:=@List.reverse_cons
def zBh:=@decide_eq_true
def zBi:=@List.length_drop
def zBj:=@List.eq_nil_of_length_eq_zero
def zBk:=@List.take_of_length_le
def zBl:=@List.getElem?_map
def zBm:=@PySem.F.type_list_pop
def zBn:=@PySem.F.slot_list_pop
def zBo:=@List.drop_eq_getElem_cons
def zBp:=@Nat.le_trans
def zBq:=@decide_eq_false
def zBr:=@List.map_append
def zBs:=@List.mem_of_getElem?
def zBt:=@List.take_append_drop
def zBu:=@Int.toNat_natCast
def zBv:=@List.getElem?_append_left
def zBw:=@List.cons_append
def zBx:=@Bool.and_eq_true
def zBy:=@Sum.inl.inj
def zBz:=@List.append_nil
def zCa:=@List.lookup_cons
def zCb:=@PySem.F.plain_min_loop
def zCc:=@PySem.F.plain_max_loop
def zCd:=@List.find?_cons
def zCe:=@Nat.lt_irrefl
def zCf:=@List.length_reverse
def zCg:=@Bool.eq_iff_iff
def zCh:=@List.getElem?_append_right
def zCi:=@PySem.F.slot_dict_get
def zCj:=@List.nodup_nil
def zCk:=@List.map_congr_left
def zCl:=@List.drop_eq_nil_of_le
def zCm:=@List.map_map
def zCn:=@List.flatMap_cons
def zCo:=@Nat.lt_succ_self
def zCp:=@List.mem_map_of_mem
def zCq:=@List.drop_succ_cons
def zCr:=@PySem.F.type_list_extend
def zCs:=@PySem.F.slot_list_extend
def zCt:=@List.sum_cons
def zCu:=@List.length_nil
def zCv:=@List.getElem?_cons_zero
def zCw:=@Bool.false_eq_true
def zCx:=@PySem.F.entry_dict_get
def zCy:=@List.drop_drop
def zCz:=@List.takeWhile_prefix
def zDa:=@Option.map_some
def zDb:=@List.take_succ_cons
def zDc:=@List.nil_append
def zDd:=@List.foldl_cons
def zDe:=@List.filterMap_cons
def zDf:=@Nat.le_of_eq
def zDg:=@List.mem_of_find?_eq_some
def zDh:=@Nat.lt_succ_of_lt
def zDi:=@Nat.le_of_succ_le
def zDj:=@List.find?_append
def zDk:=@PySem.F.plainAttrs_dict
def zDl:=@Nat.le_succ
def zDm:=@List.getElem?_cons_succ
def zDn:=@List.any_cons
def zDo:=@PySem.F.entry_min_loop
def zDp:=@PySem.F.entry_max_loop
def zDq:=@List.getElem?_set_self
def zDr:=@PySem.F.slot_dict_pop
def zDs:=@Nat.one_ne_zero
def zDt:=@List.length_replicate
def zDu:=@List.length_filter_le
def zDv:=@List.eq_nil_or_concat
def zDw:=@List.concat_eq_append
def zDx:=@List.mem_of_mem_take
def zDy:=@List.getLast?_concat
def zDz:=@List.getElem?_set_ne
def zEa:=@List.getElem?_of_mem
def zEb:=@List.drop_zero
def zEc:=@List.zip_cons_cons
def zEd:=@List.mem_cons
def zEe:=@List.filter_append
def zEf:=@Option.some.injEq
def zEg:=@Option.isSome_map
def zEh:=@List.take_sublist
def zEi:=@List.length_range
set_option Elab.async false
namespace L2
open PySem PySem.Spec PyProof.Rows
abbrev Key:=Sum Int Str
def ze3:Key->Value->Bool
 | .inl k,v=>Value.isInt k v
 | .inr x,v=>Value.isStrOf x v
def zgr(w:World):Key->Int
 | .inl k=>hashInt k
 | .inr x=>hashStr w x
theorem za6:∀ {k:Key}{v:Value},ze3 k v=true->(∃i t,k=Sum.inl i/\v=Value.int i t)\/(∃x t,k=Sum.inr x/\v=Value.str x t)
 | .inl i,v,h=>by
  obtain⟨t,e⟩:=Value.isInt_shape (k:=i) (v:=v) h;exact .inl ⟨i,t,rfl,e⟩
 | .inr x,v,h=>by
  obtain⟨t,e⟩:=Value.isStrOf_shape (x:=x) (v:=v) h;exact .inr ⟨x,t,rfl,e⟩
theorem zl6(i:Int)(t:Tok):ze3 (.inl i) (.int i t)=true:=by simp[ze3,Value.isInt]
theorem zl5(x:Str)(t:Tok):ze3 (.inr x) (.str x t)=true:=by simp[ze3,Value.isStrOf]
theorem zqb(a b:Int):decide ((Sum.inl a:Key)=Sum.inl b)=(a == b):=by
 by_cases e:a=b
 ·subst e;simp
 ·have h:¬(Sum.inl a:Key)=Sum.inl b:=fun q=>e (zBy q);rw[zBq h];exact(beq_eq_false_iff_ne.mpr e).symm
theorem zp9(a b:Str):decide ((Sum.inr a:Key)=Sum.inr b)=decide (a=b):=by
 by_cases e:a=b
 ·subst e;simp
 ·have h:¬(Sum.inr a:Key)=Sum.inr b:=fun q=>e (Sum.inr.inj q);rw[zBq h,zBq e]
theorem zqa(a:Int)(b:Str):decide ((Sum.inl a:Key)=Sum.inr b)=false:=zBq (fun q=>nomatch q)
theorem zp_(a:Str)(b:Int):decide ((Sum.inr a:Key)=Sum.inl b)=false:=zBq (fun q=>nomatch q)
def zaS(prog:Program)(w:World):PySem.KeyKind prog w Key where
 is:=ze3
 hash:=zgr w
 inj:=fun v a b ha hb=>by
  rcases za6 ha with⟨i,t,rfl,rfl⟩|⟨x,t,rfl,rfl⟩
  ·rcases za6 hb with⟨j,u,rfl,e⟩|⟨y,u,rfl,e⟩
   ·injection e with e1 _;rw[e1]
   ·exact nomatch e
  ·rcases za6 hb with⟨j,u,rfl,e⟩|⟨y,u,rfl,e⟩
   ·exact nomatch e
   ·injection e with e1 _;rw[e1]
 byValue:=fun k v h=>by
  rcases za6 h with⟨i,t,rfl,rfl⟩|⟨x,t,rfl,rfl⟩<;>rfl
 pyHash:=fun hv h=>by
  rcases za6 hv with⟨i,t,rfl,rfl⟩|⟨x,t,rfl,rfl⟩
  ·exact wpAny_pyHash_int h
  ·exact wpAny_pyHash_str h
 eqBool:=fun hu hv h=>by
  rcases za6 hu with⟨i,t,rfl,rfl⟩|⟨x,t,rfl,rfl⟩
  ·rcases za6 hv with⟨j,u,rfl,rfl⟩|⟨y,u,rfl,rfl⟩
   ·rw[zqb] at h;exact wpAny_eqBool_int h
   ·rw[zqa] at h;exact SeqAt.EqAt.int_str i t y u _ _ _ _ h
  ·rcases za6 hv with⟨j,u,rfl,rfl⟩|⟨y,u,rfl,rfl⟩
   ·rw[zp_] at h;exact SeqAt.EqAt.str_int x t j u _ _ _ _ h
   ·rw[zp9] at h;exact wpAny_eqBool_str h
 «strs»:=fun k x t v h=>by
  rcases za6 h with⟨i,u,rfl,e⟩|⟨y,u,rfl,e⟩
  ·exact nomatch e
  ·injection e with e1 _;subst e1;cases v<;>rfl
theorem zjR(prog:Program)(w:World)(i:Int)(t:Tok):(zaS prog w).is (.inl i) (.int i t)=true:=zl6 i t
theorem zdH(prog:Program)(w:World)(x:Str)(t:Tok):(zaS prog w).is (.inr x) (.str x t)=true:=zl5 x t
end L2
namespace L2
open PySem PySem.Spec PyProof.Rows
inductive V where
 | non | bl (b:Bool) | int (i:Int) | str (x:Str) | byt (b:Array UInt8) | flt (b:UInt64) | ref (a:Addr) | ty (n:String)
 deriving DecidableEq
def RelV:V->Value->Prop
 | .non,u=>u=Value.none
 | .bl b,u=>u=Value.bool b
 | .int i,u=>∃t,u=Value.int i t
 | .str x,u=>∃t,u=Value.str x t
 | .byt b,u=>∃t,u=Value.bytes b t
 | .flt b,u=>∃t,u=Value.float b t
 | .ref a,u=>u=Value.ref a
 | .ty n,u=>u=Value.type n
abbrev Vals:List V->List Value->Prop:=Paired RelV
theorem Vals.length{xs:List V}{us:List Value}(r:Vals xs us):xs.length=us.length:=Paired.length r
theorem Vals.get:∀ {xs:List V}{us:List Value}{i:Nat}{x:V},Vals xs us->xs[i]?=some x->∃u,us[i]?=some u/\RelV x u
 | _,_,_,_,.nil,e=>by simp at e
 | _,_,0,_,.cons r _,e=>by simp at e;subst e;exact⟨_,rfl,r⟩
 | _,_,i+1,x,.cons _ t,e=>by
  obtain⟨u,h1,h2⟩:=Vals.get (i:=i) (x:=x) t (by simpa using e);exact⟨u,by simpa using h1,h2⟩
theorem Vals.set{x:V}{u:Value}(r:RelV x u):∀ {xs:List V}{us:List Value} (i:Nat),Vals xs us->Vals (xs.set i x) (us.set i u)
 | _,_,_,.nil=>.nil
 | _,_,0,.cons _ t=>.cons r t
 | _,_,i+1,.cons q t=>.cons q (Vals.set r i t)
theorem Vals.append:∀ {xs ys:List V}{us ws:List Value},Vals xs us->Vals ys ws->Vals (xs++ys) (us++ws)
 | _,_,_,_,.nil,s=>s
 | _,_,_,_,.cons r t,s=>.cons r (Vals.append t s)
theorem Vals.take:∀ {xs:List V}{us:List Value} (n:Nat),Vals xs us->Vals (xs.take n) (us.take n)
 | _,_,0,_=>.nil
 | _,_,_+1,.nil=>.nil
 | _,_,n+1,.cons r t=>.cons r (Vals.take n t)
theorem Vals.drop:∀ {xs:List V}{us:List Value} (n:Nat),Vals xs us->Vals (xs.drop n) (us.drop n)
 | _,_,0,r=>r
 | _,_,_+1,.nil=>.nil
 | _,_,n+1,.cons _ t=>Vals.drop n t
def RelO:Option V->Option Value->Prop
 | some v,some u=>RelV v u
 | none,none=>True
 | _,_=>False
def KV{κ:Type}:List (κ×V)->List (κ×Value)->Prop:=Paired fun(p:κ×V) (q:κ×Value)=>p.1=q.1/\RelV p.2 q.2
def kV:Key->V
 | .inl i=>.int i
 | .inr x=>.str x
inductive HO where
 | lst (xs:List V)
 | tup (xs:List V)
 | dK (kvs:List (Key×V)) | dT (kvs:List (List Key×V))
 | set (S:Int->Bool) (n:Nat)
 | ins (C dx:Addr) (fs:List (Str×V))
 | own (x:Addr)
 | xd (fs:List (Str×V))
 | met (f x:Addr)
 | rng (lo hi:Int)
 | frz (o:Obj) (u:HO)
 | tbl (ps:Array Value)
 | ext (φ:Heap->Prop)
abbrev Hp:=Addr->Option HO
def upd(H:Hp)(a:Addr)(o:HO):Hp:=fun b=>if b=a then some o else H b
theorem upd_same{H:Hp}{a:Addr}{o:HO}:upd H a o a=some o:=by unfold upd;rw[if_pos rfl]
theorem zae{H:Hp}{a b:Addr}{o:HO}(h:b≠a):upd H a o b=H b:=by unfold upd;rw[if_neg h]
theorem upd_upd{H:Hp}{a:Addr}{o u:HO}:upd (upd H a o) a u=upd H a u:=by
 funext b;unfold upd;split<;>rfl
theorem zri{H:Hp}{a b:Addr}{o u:HO}(h:H a=some o)(h':H b=some u)(d:o≠u):a≠b:=by
 intro e;subst e;rw[h] at h';exact d (zBd h')
theorem zaf{H:Hp}{a b:Addr}{o:HO}(h:H a=some o)(h':H b=none):a≠b:=by
 intro e;subst e;rw[h] at h';cases h'
section
variable(P:Program)(w:World)
def ObjOk(H:Hp)(h:Heap)(a:Addr):HO->Prop
 | .lst xs=>xs.length<=sizeLine/\∃(its:List Value) (n:Nat),Vals xs its/\h.get? a=some {cls:=.type "list",data:=.seq its.toArray n}
 | .tup xs=>xs.length<=sizeLine/\∃its:List Value,Vals xs its/\IsTup h a its.toArray
 | .dK kvs=>kvs.length<=sizeLine/\(a == sysModules)=false/\∃vs,KV kvs vs/\h.DictOf (zaS P w) a vs
 | .dT kvs=>kvs.length<=sizeLine/\(a == sysModules)=false/\∃xs:List (List Key×Addr×Value),
   Paired (fun(p:List Key×V) (q:List Key×Addr×Value)=>p.1=q.1/\H q.2.1=some (.tup (p.1.map kV))/\RelV p.2 q.2.2) kvs xs /\
   ∃o es ep,h.get? a=some o/\o.ExactDict/\o.data=.dict es ep/\es.toList=xs.map (entryOfKey (tupleKind (zaS P w)))/\(xs.map (·.1)).Nodup
 | .set S n=>h.SetOf (intKind P w) a S n
 | .ins C dx fs=>H dx=some (.own a)/\fs.length<=1000/\dx≠a/\h.get? a=some (PySem.W.instObj C dx) /\
   ∃mA,h.Ns1 dx mA/\(∀f,RelO (fs.lookup f) (mA f))/\PySem.Within mA (fs.map (·.1))
 | .own _=>∃o,h.get? a=some o
 | .xd fs=>∃mA,h.Ns1 a mA/\∀f,RelO (fs.lookup f) (mA f)
 | .rng lo hi=>∃t u v,h.get? a=some {cls:=.type "range",data:=.fields #[.int lo t,.int hi u,.int 1 v]}
 | .frz o u=>h.get? a=some o/\ObjOk H h a u
 | .tbl ps=>h.get? a=some {cls:=.none,data:=.fields ps}
 | .met f x=>h.get? a=some (PySem.W.methodObj (.ref f) (.ref x))
 | .ext φ=>φ h/\(∃o,h.get? a=some o)/\∀h1 h2:Heap,φ h1->(∀o,h1.get? a=some o->h2.get? a=some o)->φ h2
def HOk(H:Hp)(h:Heap):Prop:=∀a o,H a=some o->ObjOk P w H h a o
end
section
variable{P:Program}{w:World}{H H':Hp}{h h':Heap}{a:Addr}{o:HO}
theorem ObjOk.lt(x:ObjOk P w H h a o):a<h.objs.size:=by
 cases o with
 | lst xs=>obtain⟨_,_,_,_,e⟩:=x;exact Heap.lt_size e
 | tup xs=>obtain⟨_,_,_,p⟩:=x;exact p.lt
 | dK kvs=>obtain⟨_,_,_,_,o,_,_,e,_⟩:=x;exact Heap.lt_size e
 | dT kvs=>obtain⟨_,_,_,_,o,_,_,e,_⟩:=x;exact Heap.lt_size e
 | set S n=>obtain⟨o,_,_,_,e,_⟩:=x;exact Heap.lt_size e
 | ins C dx fs=>obtain⟨_,_,_,e,_⟩:=x;exact Heap.lt_size e
 | own y=>obtain⟨_,e⟩:=x;exact Heap.lt_size e
 | xd fs=>obtain⟨_,⟨_,_,_,e,_⟩,_⟩:=x;exact Heap.lt_size e
 | rng lo hi=>obtain⟨_,_,_,e⟩:=x;exact Heap.lt_size e
 | frz ob u=>obtain⟨e,_⟩:=x;exact Heap.lt_size e
 | tbl ps=>exact Heap.lt_size (show h.get? a=some _ from x)
 | met f y=>exact Heap.lt_size (show h.get? a=some _ from x)
 | ext φ=>obtain⟨_,⟨_,e⟩,_⟩:=x;exact Heap.lt_size e
theorem Paired.mapP{α β:Type}{F G:α->β->Prop}:∀ {l₁:List α}{l₂:List β},Paired F l₁ l₂->(∀a b,F a b->G a b)->Paired G l₁ l₂
 | _,_,.nil,_=>.nil
 | _,_,.cons r t,f=>.cons (f _ _ r) (Paired.mapP t f)
theorem ObjOk.stay(x:ObjOk P w H h a o)(k:∀b u,(b=a\/H b=some (.own a))->h.get? b=some u->h'.get? b=some u)
  (ho:∀b,H b=some (.own a)->H' b=some (.own a)) (ht:∀b xs,H b=some (.tup xs)->H' b=some (.tup xs)):ObjOk P w H' h' a o:=by
 induction o with
 | lst xs=>obtain⟨z,its,n,r,e⟩:=x;exact⟨z,its,n,r,k _ _ (.inl rfl) e⟩
 | tup xs=>obtain⟨z,its,r,ob,e,c⟩:=x;exact⟨z,its,r,ob,k _ _ (.inl rfl) e,c⟩
 | dK kvs=>obtain⟨z,y,vs,r,ob,es,ep,e,c⟩:=x;exact⟨z,y,vs,r,ob,es,ep,k _ _ (.inl rfl) e,c⟩
 | dT kvs =>
  obtain⟨z,y,xs,r,ob,es,ep,e,c⟩:=x;exact⟨z,y,xs,Paired.mapP r fun p q z=>⟨z.1,ht _ _ z.2.1,z.2.2⟩,ob,es,ep,k _ _ (.inl rfl) e,c⟩
 | set S n=>obtain⟨ob,es,ep,t,e,c⟩:=x;exact⟨ob,es,ep,t,k _ _ (.inl rfl) e,c⟩
 | ins C dx fs =>
  obtain⟨d,z,ne,e,mA,⟨od,es,ep,e2,c⟩,r⟩:=x;exact⟨ho _ d,z,ne,k _ _ (.inl rfl) e,mA,⟨od,es,ep,k _ _ (.inr d) e2,c⟩,r⟩
 | own y=>obtain⟨ob,e⟩:=x;exact⟨ob,k _ _ (.inl rfl) e⟩
 | xd fs=>obtain⟨mA,⟨od,es,ep,e,c⟩,r⟩:=x;exact⟨mA,⟨od,es,ep,k _ _ (.inl rfl) e,c⟩,r⟩
 | rng lo hi=>obtain⟨t,u,v,e⟩:=x;exact⟨t,u,v,k _ _ (.inl rfl) e⟩
 | frz ob u ih=>obtain⟨e,q⟩:=x;exact⟨k _ _ (.inl rfl) e,ih q⟩
 | tbl ps =>
  have e:h.get? a=some {cls:=.none,data:=.fields ps}:=x;show h'.get? a=some {cls:=.none,data:=.fields ps};exact k a _ (.inl rfl) e
 | met f y =>
  have e:h.get? a=some (PySem.W.methodObj (.ref f) (.ref y)):=x;show h'.get? a=some (PySem.W.methodObj (.ref f) (.ref y));exact k a _ (.inl rfl) e
 | ext φ=>obtain⟨p,⟨o,e⟩,st⟩:=x;exact⟨st _ _ p fun o q=>k _ _ (.inl rfl) q,⟨o,k _ _ (.inl rfl) e⟩,st⟩
theorem HOk.lt(x:HOk P w H h)(e:H a=some o):a<h.objs.size:=(x a o e).lt
theorem HOk.fresh(x:HOk P w H h)(e:h.objs.size<=a):H a=none:=by
 cases q:H a with
 | none=>rfl
 | some u=>exact absurd (zAq (x.lt q) e) (zCe _)
theorem HOk.kept(x:HOk P w H h)(k:∀b u,h.get? b=some u->h'.get? b=some u):HOk P w H h':=fun a o e =>
 (x a o e).stay (fun b u _ q=>k b u q) (fun _ q=>q) fun _ _ q=>q
theorem HOk.laid(x:HOk P w H h)(k:∀b u,h.get? b=some u->h'.get? b=some u)(hp:h.objs.size<=a)(new:ObjOk P w (upd H a o) h' a o):HOk P w (upd H a o) h':=fun b u e=>by
 have hn:=x.fresh hp;by_cases hb:b=a
 ·subst hb;rw[upd_same] at e;cases e;exact new
 ·rw[zae hb] at e;exact(x b u e).stay (fun c v _ q=>k c v q) (fun c q=>by rw[zae (zaf q hn)];exact q) fun c xs q=>by rw[zae (zaf q hn)];exact q
end
def Rd(H:Hp)(a:Addr)(u:HO):Prop:=H a=some u\/∃o,H a=some (.frz o u)
theorem Rd.ok{P:Program}{w:World}{H:Hp}{h:Heap}{a:Addr}{u:HO}(r:Rd H a u)(x:HOk P w H h):ObjOk P w H h a u:=by
 rcases r with r|⟨o,r⟩
 ·exact x a u r
 ·obtain⟨_,q⟩:=x a _ r;exact q
def Mut:Option HO->Prop
 | some (.lst _)=>True
 | some (.dK _)=>True
 | some (.dT _)=>True
 | some (.set _ _)=>True
 | some (.ins _ _ _)=>True
 | some (.ext _)=>True
 | _=>False
section
variable{P:Program}{w:World}{H:Hp}{h h':Heap}{x e:Addr}{o':HO}
theorem HOk.write(ok:HOk P w H h)(mu:Mut (H x))(he:e=x\/H e=some (.own x))(k:∀b u,b≠e->h.get? b=some u->h'.get? b=some u)(heo:∃u,h'.get? e=some u)
  (new:ObjOk P w (upd H x o') h' x o'):HOk P w (upd H x o') h':=fun b u q=>by
 have nown:∀c y,H c=some (.own y)->c≠x:=fun c y r z=>by subst z;rw[r] at mu;exact mu
 have ntup:∀c xs,H c=some (.tup xs)->c≠x:=fun c xs r z=>by subst z;rw[r] at mu;exact mu
 by_cases hb:b=x
 ·subst hb;rw[upd_same] at q;cases q;exact new
 ·rw[zae hb] at q;by_cases hbe:b=e
  ·have q':H b=some (.own x):=by
    rcases he with z | z
    ·exact absurd (hbe.trans z) hb
    ·rw[hbe];exact z
   rw[q] at q';cases q';obtain⟨v,hv⟩:=heo;exact⟨v,by rw[hbe];exact hv⟩
  ·refine(ok b u q).stay (fun c v hc r=>k c v ?_ r) (fun c r=>by rw[zae (nown c b r)];exact r) fun c xs r=>by rw[zae (ntup c xs r)];exact r
   rcases hc with rfl | hc
   ·exact hbe
   ·rintro rfl;rcases he with z | z
    ·exact nown c b hc z
    ·rw[hc] at z;cases z;exact hb rfl
end
structure Un(fs ex:List Addr)(H H':Hp)(h h':Heap):Prop where
 keep:∀b o,h.get? b=some o->H b=none->b∉fs->b∉ex->h'.get? b=some o
 slot:∀b o,h.get? b=some o->H b=none->b∈fs->b∉ex->∃sl,h'.get? b=some {o with slots:=sl}
 free:∀b o,h.get? b=some o->H b=none->b∉ex->H' b=none
 there:∀b o,h.get? b=some o->b∉ex->∃o',h'.get? b=some o'
 tups:∀b xs,H b=some (.tup xs)->H' b=some (.tup xs)
 frzs:∀b o u,H b=some (.frz o u)->H' b=some (.frz o u)
 tbls:∀b ps,H b=some (.tbl ps)->∃more,H' b=some (.tbl (ps++more))
section
variable{fs fs' ex ex':List Addr}{H H1 H2:Hp}{h h1 h2 h':Heap}{a x e:Addr}{o:HO}
theorem Un.any(u:Un fs ex H H1 h h1){b:Addr}{ob:Obj}(q:h.get? b=some ob)(n:H b=none)(hx:b∉ex):∃sl,h1.get? b=some {ob with slots:=sl}:=by
 by_cases hb:b∈fs
 ·exact u.slot b ob q n hb hx
 ·exact⟨ob.slots,u.keep b ob q n hb hx⟩
theorem Un.kept(k:∀b u,h.get? b=some u->h'.get? b=some u):Un fs ex H H h h':=
 ⟨fun b ob q _ _ _=>k b ob q,fun b ob q _ _ _=>⟨ob.slots,k b ob q⟩,fun _ _ _ n _=>n,fun b ob q _=>⟨ob,k b ob q⟩,fun _ _ q=>q,fun _ _ _ q=>q,fun _ ps q=>⟨#[],by rw[q];simp⟩⟩
theorem Un.refl:Un fs ex H H h h:=Un.kept fun _ _ q=>q
theorem Un.laid(k:∀b u,h.get? b=some u->h'.get? b=some u)(hp:h.objs.size<=a)(hn:H a=none):Un fs ex H (upd H a o) h h' where
 keep:=fun b u q _ _ _=>k b u q
 slot:=fun b u q _ _ _=>⟨u.slots,k b u q⟩
 free:=fun b u q n _=>by rw[zae (zBe (zAq (Heap.lt_size q) hp))];exact n
 there:=fun b u q _=>⟨u,k b u q⟩
 tups:=fun b xs q=>by rw[zae (zaf q hn)];exact q
 frzs:=fun b u xs q=>by rw[zae (zaf q hn)];exact q
 tbls:=fun b ps q=>⟨#[],by rw[zae (zaf q hn),q];simp⟩
theorem Un.write(mu:Mut (H x))(he:e=x\/H e=some (.own x))(k:∀b u,b≠e->h.get? b=some u->h'.get? b=some u)(heo:∃u,h'.get? e=some u):Un fs ex H (upd H x o) h h':=by
 have hx:∀b,H b=none->b≠x:=fun b n z=>by subst z;rw[n] at mu;exact mu
 have hb:∀b,H b=none->b≠e:=fun b n z=>by
  subst z;rcases he with r | r
  ·exact hx b n r
  ·rw[n] at r;cases r
 have hm:∀b u,H b=some u->¬Mut (some u)->b≠x:=fun b u q nm z=>by subst z;rw[q] at mu;exact nm mu
 refine⟨fun b u q n _ _=>k b u (hb b n) q,fun b u q n _ _=>⟨u.slots,k b u (hb b n) q⟩,fun b u q n _=>by rw[zae (hx b n)];exact n,fun b u q _=>?_,
  fun b xs q=>by rw[zae (hm b _ q fun z=>z)];exact q,fun b u xs q=>by rw[zae (hm b _ q fun z=>z)];exact q,fun b ps q=>⟨#[],by rw[zae (hm b _ q fun z=>z),q];simp⟩⟩
 by_cases hbe:b=e
 ·subst hbe;exact heo
 ·exact⟨u,k b u hbe q⟩
end
def trk(h:Heap)(H:Hp):List Addr:=(List.range h.objs.size).filter fun a=>(H a).isSome
def zi3(h:Heap)(H:Hp):Heap:=PySem.W.hideAll h (trk h H)
theorem zl9(h:Heap)(H:Hp):(zi3 h H).objs.size=h.objs.size:=PySem.W.hideAll_size _ _
theorem znE{h:Heap}{H:Hp}{b:Addr}{o:Obj}(e:h.get? b=some o)(n:H b=none):(zi3 h H).get? b=some o:=
 PySem.W.hideAll_get _ e fun hm=>by
  have q:(H b).isSome=true:=(List.mem_filter.mp hm).2;rw[n] at q;simp at q
theorem zoA{h:Heap}{H:Hp}{b:Addr}{o:Obj}(e:(zi3 h H).get? b=some o):h.get? b=some o/\H b=none:=by
 have e':h.get? b=some o:=PySem.W.of_hideAll (trk h H) e;refine⟨e',?_⟩;cases q:H b with
 | none=>rfl
 | some x =>
  have hm:b∈trk h H:=List.mem_filter.mpr ⟨List.mem_range.mpr (Heap.lt_size e'),by simp[q]⟩;have z:(zi3 h H).get? b=none:=PySem.W.hideAll_none (trk h H) hm;rw[z] at e;cases e
end L2
namespace L2
open PySem PySem.Spec PyProof.Rows
structure Mod(K:PySem.W.Frag)(mg:Str->Option Value)(base:Heap):Prop where
 kin:K.In base
 glob:base.Ns mainGlobals mg
 blt:∃mb,base.Ns builtinsNs mb/\∀x:Str,x ≠ "__name__" -> mb x=bootBuiltins x
 nolimit:base.NoLimit
structure Cx where
 prog:Program
 w:World
 K:PySem.W.Frag
 mg:Str->Option Value
 base:Heap
 A:Around
 N:List Str
 s_0:Shared
 H_0:Hp
 env:Env
 outer:List Env
 stack:List Env
 ex:List Addr
 fn:Str->Bool
 calm:Bool
 pn:List (Addr×Obj)
 xe:Value->Shared->Prop
def frs(l:List Env):List Addr:=l.filterMap (·.frame)
abbrev Cx.fs(X:Cx):List Addr:=frs X.outer
def Vis(sc:Scope)(x:Str):Prop:=sc.names.lookup x=some .local\/sc.names.lookup x=some .cell\/sc.names.lookup x=some .free
def Loc(sc:Scope)(x:Str):Prop:=sc.names.lookup x=some .local\/sc.names.lookup x=some .cell
def zsq(env:Env)(h:Heap)(m:Str->Option Value)(x:Str)(u:Value):Prop:=
 (env.kindOf x=some .local/\m x=some u)\/((env.kindOf x=some .cell\/env.kindOf x=some .free)/\∃c,env.cells.lookup x=some c/\h.IsCell c (some u))
structure Cx.Ok(X:Cx):Prop where
 mod:Mod X.K X.mg X.base
 kind:X.env.scope.kind=.function
 glob:X.env.globals=mainGlobals
 blt:X.env.builtins=builtinsNs
 above:X.s_0.heap.objs.size<=X.env.locals
 inj:∀x y c,X.env.cells.lookup x=some c->X.env.cells.lookup y=some c->x=y
 has:∀x,(X.env.kindOf x=some .cell\/X.env.kindOf x=some .free)->∃c,X.env.cells.lookup x=some c
 cab:∀x c,X.fn x=true->X.env.cells.lookup x=some c->X.s_0.heap.objs.size<=c
 hd:X.calm=true->X.A.handled=none
 frames:X.A.frames=some X.stack
 stk:X.stack=X.outer\/(X.stack=X.env::X.outer/\X.env.frame=some X.env.locals)
 exf:∀b∈X.ex,b≠X.env.locals/\∀x c,X.env.cells.lookup x=some c->c≠b
 bs:∀b o,X.base.get? b=some o->X.s_0.heap.get? b=some o/\X.H_0 b=none
 bsz:X.base.objs.size<=X.s_0.heap.objs.size
 noex:∀b o,X.base.get? b=some o->b∉X.ex
 exfs:∀b∈X.ex,b∉X.fs
 funs:X.s_0.heap.FunFrames X.base X.outer
 frf:∀b∈X.fs,X.H_0 b=none
structure Inv(X:Cx)(pins:List (Addr×Obj))(σ:List (Option V))(H:Hp)(s:Shared):Prop where
 ok:X.Ok
 os:s.os=X.s_0.os
 bare:AllBare s.gens
 base:Un X.fs X.ex X.H_0 H X.s_0.heap s.heap
 loc:∃m,s.heap.Ns X.env.locals m/\∀(i:Nat) (x:Str) (v:V),X.N[i]?=some x->σ[i]?=some (some v)->Vis X.env.scope x->∃u,RelV v u/\zsq X.env s.heap m x u
 cell:∀x c,X.env.cells.lookup x=some c->∃v,s.heap.IsCell c v
 free:H X.env.locals=none
 freeC:∀x c,X.env.cells.lookup x=some c->H c=none
 pin:∀p∈X.pn++pins,s.heap.get? p.1=some p.2/\H p.1=none/\p.1≠X.env.locals/\p.1∉X.fs/\∀v,p.2.data≠.cell v
 hok:HOk X.prog X.w H s.heap
 len:σ.length=X.N.length
section
variable{X:Cx}{pins:List (Addr×Obj)}{σ:List (Option V)}{H H':Hp}{s:Shared}{h':Heap}
theorem Cx.Ok.nofr(ok:X.Ok){b:Addr}{o:Obj}(e:X.base.get? b=some o):b∉X.fs:=fun hb=>by
 have:=(ok.funs.mem hb).1;rw[e] at this;cases this
theorem Inv.bs(I:Inv X pins σ H s):∀b o,X.base.get? b=some o->s.heap.get? b=some o/\H b=none:=fun b o e =>
 ⟨I.base.keep b o (I.ok.bs b o e).1 (I.ok.bs b o e).2 (I.ok.nofr e) (I.ok.noex b o e),I.base.free b o (I.ok.bs b o e).1 (I.ok.bs b o e).2 (I.ok.noex b o e)⟩
theorem Inv.bk(I:Inv X pins σ H s):∀b o,X.base.get? b=some o->s.heap.get? b=some o:=fun b o e=>(I.bs b o e).1
theorem Inv.mod(I:Inv X pins σ H s):Mod X.K X.mg X.base:=I.ok.mod
theorem Inv.kIn(I:Inv X pins σ H s):X.K.In s.heap:=I.ok.mod.kin.keeps I.bk
theorem Inv.lt(I:Inv X pins σ H s):X.env.locals<s.heap.objs.size:=let ⟨_,hn,_⟩:=I.loc;hn.lt
theorem Inv.sz(I:Inv X pins σ H s):X.s_0.heap.objs.size<=s.heap.objs.size:=zBp I.ok.above (Nat.le_of_lt I.lt)
theorem Inv.nofs(I:Inv X pins σ H s){a:Addr}(h:s.heap.objs.size<=a):a∉X.fs:=fun hb=>by
 obtain⟨_,o,ho,_⟩:=I.ok.funs.mem hb;exact absurd (zAq (Heap.lt_size ho) (zBp I.sz h)) (zCe _)
theorem Inv.cne(I:Inv X pins σ H s):∀x c,X.env.cells.lookup x=some c->c≠X.env.locals:=fun x c e z=>by
 obtain⟨v,o,ho,hd⟩:=I.cell x c e;obtain⟨m,⟨o',es,ep,ho',hd',_⟩,_⟩:=I.loc;rw[z,ho'] at ho;cases ho;rw[hd'] at hd;cases hd
theorem Inv.funs(I:Inv X pins σ H s):s.heap.FunFrames X.base X.outer:=by
 have all:∀(l:List Env),(∀b∈frs l,b∈X.fs)->X.s_0.heap.FunFrames X.base l->s.heap.FunFrames X.base l:=by
  intro l;induction l with
  | nil=>intro _ _;trivial
  | cons env r ih =>
   intro hs hl;obtain⟨hk,⟨L,o,hf,hn,ho,hd⟩,hr⟩:=hl;have hL:L∈X.fs:=hs L (by unfold frs;rw[zDe,hf];exact zAo);obtain⟨sl,e⟩:=I.base.slot L o ho (I.ok.frf L hL) hL fun z=>I.ok.exfs L z hL;exact⟨hk,⟨L,_,hf,hn,e,hd⟩,ih (fun b hb=>hs b (by unfold frs;rw[zDe,hf];exact zAd _ hb)) hr⟩
 exact all X.outer (fun _ hb=>hb) I.ok.funs
theorem Inv.stack(I:Inv X pins σ H s):s.heap.FunFrames X.base X.stack:=by
 rcases I.ok.stk with e|⟨e,hf⟩
 ·rw[e];exact I.funs
 ·rw[e];obtain⟨m,hn,_⟩:=I.loc;refine .cons (by rw[I.ok.kind];decide) hf hn ?_ I.funs;exact Heap.get?_none_of_le (zBp I.ok.bsz I.ok.above)
theorem Inv.stkSub(I:Inv X pins σ H s):∀b∈frs X.stack,b∈X.env.locals::X.fs:=fun b hb=>by
 rcases I.ok.stk with e|⟨e,hf⟩
 ·rw[e] at hb;exact zAd _ hb
 ·rw[e] at hb;unfold frs at hb;rw[zDe,hf] at hb;exact hb
theorem Inv.stkFree(I:Inv X pins σ H s):∀b∈frs X.stack,H b=none:=fun b hb=>by
 rcases zAe (I.stkSub b hb) with e | hb
 ·rw[e];exact I.free
 ·obtain⟨_,o,ho,_⟩:=I.ok.funs.mem hb;exact I.base.free b o ho (I.ok.frf b hb) fun z=>I.ok.exfs b z hb
theorem Inv.step{g':Array GenState}{t':Nat}{d':Drawn}{ch:List Addr}(I:Inv X pins σ H s)
  (hch:∀b∈ch,(b∈X.ex\/X.s_0.heap.objs.size<=b)/\b≠X.env.locals/\(∀x c,X.env.cells.lookup x=some c->c≠b)/\∀p∈X.pn++pins,p.1≠b)
  (keep:∀b o,b≠X.env.locals->b∉X.fs->b∉ch->s.heap.get? b=some o->H b=none->h'.get? b=some o)
  (slot:∀b o,b≠X.env.locals->b∈X.fs->b∉ch->s.heap.get? b=some o->H b=none->∃sl,h'.get? b=some {o with slots:=sl}) (free:∀b o,b∉ch->s.heap.get? b=some o->H b=none->H' b=none)
  (there:∀b o,b∉ch->s.heap.get? b=some o->∃o',h'.get? b=some o')
  (tups:∀b xs,H b=some (.tup xs)->H' b=some (.tup xs)) (frzs:∀b o u,H b=some (.frz o u)->H' b=some (.frz o u)) (tbls:∀b ps,H b=some (.tbl ps)->∃more,H' b=some (.tbl (ps++more)))
  (ns:∀m,s.heap.Ns X.env.locals m->h'.Ns X.env.locals m) (hok:HOk X.prog X.w H' h') (hg:AllBare g') :
  Inv X pins σ H' {s with heap:=h',gens:=g',drawn:=d',toks:=t'}:=by
 have neL:∀b o,X.s_0.heap.get? b=some o->b≠X.env.locals:=fun b o e=>zBe (zAq (Heap.lt_size e) I.ok.above);have neC:∀b o,X.s_0.heap.get? b=some o->b∉X.ex->b∉ch:=fun b o e hx hb=>by
  rcases (hch b hb).1 with z | z
  ·exact hx z
  ·exact absurd (zAq (Heap.lt_size e) z) (zCe _)
 have cellK:∀x c,X.env.cells.lookup x=some c->∀v,s.heap.IsCell c v->h'.IsCell c v:=fun x c e v ⟨o,ho,hd⟩=>by
  have nch:c∉ch:=fun z=>(hch c z).2.2.1 x c e rfl;by_cases hc:c∈X.fs
  ·obtain⟨sl,q⟩:=slot c o (I.cne x c e) hc nch ho (I.freeC x c e);exact⟨_,q,hd⟩
  ·exact⟨o,keep c o (I.cne x c e) hc nch ho (I.freeC x c e),hd⟩
 refine⟨I.ok,I.os,hg,⟨fun b o e n hb hx=>?_,fun b o e n hb hx=>?_,fun b o e n hx=>?_,fun b o e hx=>?_,fun b xs e=>tups b xs (I.base.tups b xs e),fun b o xs e=>frzs b o xs (I.base.frzs b o xs e),fun b ps e=>?_⟩,?_,fun x c e=>?_,?_,fun x c e=>?_,fun p hp=>?_,hok,I.len⟩
 ·exact keep b o (neL b o e) hb (neC b o e hx) (I.base.keep b o e n hb hx) (I.base.free b o e n hx)
 ·obtain⟨sl,e1⟩:=I.base.slot b o e n hb hx;obtain⟨sl',e2⟩:=slot b _ (neL b o e) hb (neC b o e hx) e1 (I.base.free b o e n hx);exact⟨sl',e2⟩
 ·obtain⟨o',e1⟩:=I.base.there b o e hx;exact free b o' (neC b o e hx) e1 (I.base.free b o e n hx)
 ·obtain⟨o',e1⟩:=I.base.there b o e hx;exact there b o' (neC b o e hx) e1
 ·obtain⟨m1,e1⟩:=I.base.tbls b ps e;obtain⟨m2,e2⟩:=tbls b _ e1;exact⟨m1++m2,by rw[e2,Array.append_assoc]⟩
 ·obtain⟨m,hn,hl⟩:=I.loc;refine⟨m,ns m hn,fun i x v e1 e2 e3=>?_⟩;obtain⟨u,r,l⟩:=hl i x v e1 e2 e3;refine⟨u,r,?_⟩;rcases l with l|⟨k,c,e,z⟩
  ·exact .inl l
  ·exact .inr ⟨k,c,e,cellK x c e _ z⟩
 ·obtain⟨v,z⟩:=I.cell x c e;exact⟨v,cellK x c e v z⟩
 ·obtain⟨m,⟨o,_,_,ho,_⟩,_⟩:=I.loc;exact free _ o (fun z=>(hch _ z).2.1 rfl) ho I.free
 ·obtain⟨v,o,ho,hd⟩:=I.cell x c e;exact free c o (fun z=>(hch c z).2.2.1 x c e rfl) ho (I.freeC x c e)
 ·obtain⟨e,n,ne,nf,d⟩:=I.pin p hp;have nch:p.1∉ch:=fun z=>(hch p.1 z).2.2.2 p hp rfl;exact⟨keep p.1 p.2 ne nf nch e n,free p.1 p.2 nch e n,ne,nf,d⟩
theorem Inv.un{t':Nat}(I:Inv X pins σ H s)(u:Un X.fs [] H H' s.heap h')(hok:HOk X.prog X.w H' h'):Inv X pins σ H' {s with heap:=h',toks:=t'}:=by
 obtain⟨m,⟨o,es,ep,ho,r⟩,_⟩:=id I.loc;obtain⟨sl,hL⟩:=u.any ho I.free (by simp);exact I.step (g':=s.gens) (d':=s.drawn) (ch:=[]) (fun _ z=>nomatch z) (fun b o _ hb _ e n=>u.keep b o e n hb (by simp)) (fun b o _ hb _ e n=>u.slot b o e n hb (by simp)) (fun b o _ e n=>u.free b o e n (by simp)) (fun b o _ e=>u.there b o e (by simp)) u.tups u.frzs u.tbls (fun m' hm=>by
  obtain⟨o',es',ep',ho',r'⟩:=hm;rw[ho] at ho';cases ho';exact⟨_,es',ep',hL,r'⟩) hok I.bare
theorem Inv.call{g':Array GenState}{t':Nat}{d':Drawn}{ch:List Addr}(I:Inv X pins σ H s)(u:Un (frs X.stack) ch H H' s.heap h')(hok:HOk X.prog X.w H' h')(hg:AllBare g')
  (hch:∀b∈ch,(b∈X.ex\/X.s_0.heap.objs.size<=b)/\b≠X.env.locals/\(∀x c,X.env.cells.lookup x=some c->c≠b)/\∀p∈X.pn++pins,p.1≠b) :
  Inv X pins σ H' {s with heap:=h',gens:=g',drawn:=d',toks:=t'}:=by
 obtain⟨m,⟨o,es,ep,ho,r⟩,_⟩:=id I.loc;obtain⟨sl,hL⟩:=u.any ho I.free fun z=>(hch _ z).2.1 rfl;exact I.step (ch:=ch) hch (fun b o hL hb hc e n=>u.keep b o e n (fun z=>(zAe (I.stkSub b z)).elim hL hb) hc) (fun b o _ _ hc e n=>u.any e n hc) (fun b o hc e n=>u.free b o e n hc) (fun b o hc e=>u.there b o e hc) u.tups u.frzs u.tbls (fun m' hm=>by
  obtain⟨o',es',ep',ho',r'⟩:=hm;rw[ho] at ho';cases ho';exact⟨_,es',ep',hL,r'⟩) hok hg
theorem Inv.turned{t':Nat}{it:Addr}(I:Inv X pins σ H s)(k:∀b o,b≠it->s.heap.get? b=some o->h'.get? b=some o)(hn:H it=none)(hL:it≠X.env.locals)
  (h1:it∈X.ex\/X.s_0.heap.objs.size<=it) (h2:∀x c,X.env.cells.lookup x=some c->c≠it) (h3:∀p∈X.pn++pins,p.1≠it):Inv X pins σ H {s with heap:=h',toks:=t'}:=by
 have nit:∀b u,H b=some u->b≠it:=fun b u e z=>by rw[z,hn] at e;cases e
 refine I.step (g':=s.gens) (d':=s.drawn) (ch:=[it]) (fun b hb=>?_) (fun b o _ _ hc e _=>k b o (fun z=>hc (by simp[z])) e) (fun b o _ _ hc e _=>⟨o.slots,k b o (fun z=>hc (by simp[z])) e⟩) (fun _ _ _ _ n=>n)
  (fun b o hc e=>⟨o,k b o (fun z=>hc (by simp[z])) e⟩) (fun _ _ e=>e) (fun _ _ _ e=>e) (fun b ps e=>⟨#[],by rw[e];simp⟩) (fun m hm=>?_) (fun b u e=>?_) I.bare
 ·have e:b=it:=by simpa using hb
  subst e;exact⟨h1,hL,h2,h3⟩
 ·obtain⟨o,es,ep,ho,r⟩:=hm;exact⟨o,es,ep,k _ o (Ne.symm hL) ho,r⟩
 ·refine(I.hok b u e).stay (fun c v hc q=>k c v ?_ q) (fun _ q=>q) fun _ _ q=>q;rcases hc with z | z
  ·rw[z];exact nit b u e
  ·exact nit c _ z
theorem Inv.tok(I:Inv X pins σ H s)(t:Nat):Inv X pins σ H {s with toks:=t}:=I.un (h':=s.heap) (t':=t) Un.refl I.hok
theorem Inv.kept{t':Nat}(I:Inv X pins σ H s)(k:∀b u,s.heap.get? b=some u->h'.get? b=some u):Inv X pins σ H {s with heap:=h',toks:=t'}:=I.un (Un.kept k) (I.hok.kept k)
theorem Inv.laid{a:Addr}{o:HO}{t':Nat}(I:Inv X pins σ H s)(k:∀b u,s.heap.get? b=some u->h'.get? b=some u)(hp:s.heap.objs.size<=a)(new:ObjOk X.prog X.w (upd H a o) h' a o) :
  Inv X pins σ (upd H a o) {s with heap:=h',toks:=t'}:=I.un (Un.laid k hp (I.hok.fresh hp)) (I.hok.laid k hp new)
theorem Inv.write{x e:Addr}{o:HO}{t':Nat}(I:Inv X pins σ H s)(mu:Mut (H x))(he:e=x\/H e=some (.own x))(k:∀b u,b≠e->s.heap.get? b=some u->h'.get? b=some u)(heo:∃u,h'.get? e=some u)
  (new:ObjOk X.prog X.w (upd H x o) h' x o):Inv X pins σ (upd H x o) {s with heap:=h',toks:=t'}:=I.un (Un.write mu he k heo) (I.hok.write mu he k heo new)
theorem Inv.weak{σ':List (Option V)}(I:Inv X pins σ H s)(hl:σ'.length=σ.length)(w:∀(i:Nat) v,σ'[i]?=some (some v)->σ[i]?=some (some v)):Inv X pins σ' H s:=
 ⟨I.ok,I.os,I.bare,I.base,let ⟨m,hn,hl'⟩:=I.loc;⟨m,hn,fun i x v e1 e2 e3=>hl' i x v e1 (w i v e2) e3⟩,I.cell,I.free,I.freeC,I.pin,I.hok,hl.trans I.len⟩
theorem Inv.pins_of{pins':List (Addr×Obj)}(I:Inv X pins σ H s)(h:∀p∈pins',s.heap.get? p.1=some p.2/\H p.1=none/\p.1≠X.env.locals/\p.1∉X.fs/\∀v,p.2.data≠.cell v):Inv X pins' σ H s:=
 ⟨I.ok,I.os,I.bare,I.base,I.loc,I.cell,I.free,I.freeC,fun p hp=>(zAw hp).elim (fun z=>I.pin p (zAj _ z)) (h p),I.hok,I.len⟩
theorem zhi{N:List Str}(hN:N.Nodup){i j:Nat}{x:Str}(a:N[i]?=some x)(b:N[j]?=some x):i=j:=by
 obtain⟨h1,e1⟩:=List.getElem?_eq_some_iff.mp a;obtain⟨h2,e2⟩:=List.getElem?_eq_some_iff.mp b;exact(List.getElem_inj hN).mp (e1.trans e2.symm)
theorem zh3{M:Model}{A:Around}{E:Value->Shared->Prop}{i:Nat}{x:Str}{v:V}{u:Value}{Q:Unit->Shared->Prop}(I:Inv X pins σ H s)(hN:X.N.Nodup)(hi:X.N[i]?=some x)(hx:Loc X.env.scope x)(r:RelV v u)
  (h:∀s',Inv X pins (σ.set i (some v)) H s'->(∃a,Heap.SameBut a s.heap s'.heap/\(a=X.env.locals\/X.env.cells.lookup x=some a))->Q () s') (hf:X.fn x=true\/X.env.scope.names.lookup x=some .local:=by first | exact .inl rfl | exact .inr rfl | assumption):wpAny M A (storeName X.env x u) Q E s:=by
 obtain⟨m,hn,hl⟩:=id I.loc;have hcls:(X.env.scope.kind == .class||(X.env.scope.kind == .module&&X.env.locals != X.env.globals))=false:=by rw[I.ok.kind];rfl
 have hiσ:i<σ.length:=by rw[I.len];exact(List.getElem?_eq_some_iff.mp hi).1
 have cne:=I.cne;have tracked:∀ {a:Addr}{h':Heap},(∃o,s.heap.get? a=some o/\H a=none)->Heap.SameBut a s.heap h'->HOk X.prog X.w H h':=fun{a h'} ha hs b ob e=>by
  obtain⟨_,_,hfree⟩:=ha;refine(I.hok b ob e).stay (fun c w' hc q=>(hs.2 c ?_).trans q) (fun _ q=>q) fun _ _ q=>q;rintro rfl;rcases hc with rfl | hc
  ·rw[hfree] at e;cases e
  ·rw[hfree] at hc;cases hc
 rcases hx with hk | hk
 ·refine wpAny_storeName_local hk hn (fun h' hn' hs=>?_) hcls;obtain⟨oL,_,_,hoL,_⟩:=id hn;refine h _ ⟨I.ok,I.os,I.bare,⟨fun b o e n hb hx=>?_,fun b o e n hb hx=>?_,I.base.free,fun b o e hx=>?_,I.base.tups,I.base.frzs,I.base.tbls⟩,⟨_,hn',fun j y v' e1 e2 e3=>?_⟩,fun y c e=>?_,I.free,I.freeC,fun p hp=>?_,tracked ⟨oL,hoL,I.free⟩ hs,by simpa using I.len⟩ ⟨_,hs,.inl rfl⟩
  ·exact(hs.2 b (zBe (zAq (Heap.lt_size e) I.ok.above))).trans (I.base.keep b o e n hb hx)
  ·obtain⟨sl,e1⟩:=I.base.slot b o e n hb hx;exact⟨sl,(hs.2 b (zBe (zAq (Heap.lt_size e) I.ok.above))).trans e1⟩
  ·obtain⟨o',e1⟩:=I.base.there b o e hx;exact⟨o',(hs.2 b (zBe (zAq (Heap.lt_size e) I.ok.above))).trans e1⟩
  ·by_cases hj:j=i
   ·subst hj;rw[hi] at e1;cases e1;rw[zDq hiσ] at e2;cases e2
    exact⟨u,r,.inl ⟨hk,by simp⟩⟩
   ·rw[zDz (Ne.symm hj)] at e2;obtain⟨u',r',q⟩:=hl j y v' e1 e2 e3;refine⟨u',r',?_⟩;rcases q with⟨k,e⟩|⟨k,c,e,z⟩
    ·refine .inl ⟨k,?_⟩;have:y≠x:=fun e=>hj (zhi hN e1 (e ▸ hi));simp[this,e]
    ·exact .inr ⟨k,c,e,z.sameBut hs (cne y c e)⟩
  ·obtain⟨w',z⟩:=I.cell y c e;exact⟨w',z.sameBut hs (cne y c e)⟩
  ·obtain⟨e,n,ne,nf,d⟩:=I.pin p hp;exact⟨(hs.2 p.1 ne).trans e,n,ne,nf,d⟩
 ·have hfn:X.fn x=true:=by
   rcases hf with z | z
   ·exact z
   ·rw[z] at hk;cases hk
  obtain⟨c,hc⟩:=I.ok.has x (.inl hk);obtain⟨w',z⟩:=I.cell x c hc;refine wpAny_storeName_cell I.ok.kind hk hc z (fun h' hc' hs=>?_);obtain⟨oc,hoc,hocd⟩:=id z;refine h {s with heap:=h'} ⟨I.ok,I.os,I.bare,⟨fun b o e n hb hx=>?_,fun b o e n hb hx=>?_,I.base.free,fun b o e hx=>?_,I.base.tups,I.base.frzs,I.base.tbls⟩,⟨m,hn.sameBut hs (Ne.symm (cne x c hc)),fun j y v' e1 e2 e3=>?_⟩,fun y c' e=>?_,I.free,I.freeC,fun p hp=>?_,tracked ⟨oc,hoc,I.freeC x c hc⟩ hs,by simpa using I.len⟩ ⟨c,hs,.inr hc⟩
  ·exact(hs.2 b (zBe (zAq (Heap.lt_size e) (I.ok.cab x c hfn hc)))).trans (I.base.keep b o e n hb hx)
  ·obtain⟨sl,e1⟩:=I.base.slot b o e n hb hx;exact⟨sl,(hs.2 b (zBe (zAq (Heap.lt_size e) (I.ok.cab x c hfn hc)))).trans e1⟩
  ·obtain⟨o',e1⟩:=I.base.there b o e hx;exact⟨o',(hs.2 b (zBe (zAq (Heap.lt_size e) (I.ok.cab x c hfn hc)))).trans e1⟩
  ·by_cases hj:j=i
   ·subst hj;rw[hi] at e1;cases e1;rw[zDq hiσ] at e2;cases e2
    exact⟨u,r,.inr ⟨.inl hk,c,hc,hc'⟩⟩
   ·rw[zDz (Ne.symm hj)] at e2;obtain⟨u',r',q⟩:=hl j y v' e1 e2 e3;refine⟨u',r',?_⟩;rcases q with q|⟨k,c',e,z'⟩
    ·exact .inl q
    ·refine .inr ⟨k,c',e,z'.sameBut hs ?_⟩;rintro rfl;exact hj (zhi hN e1 (I.ok.inj _ _ _ e hc ▸ hi))
  ·by_cases hcc:c'=c
   ·subst hcc;exact⟨_,hc'⟩
   ·obtain⟨w2,z2⟩:=I.cell y c' e;exact⟨w2,z2.sameBut hs hcc⟩
  ·obtain⟨e,n,ne,nf,d⟩:=I.pin p hp;refine⟨(hs.2 p.1 ?_).trans e,n,ne,nf,d⟩;intro q;rw[q,hoc] at e;have q':oc=p.2:=zBd e;exact d w' (by rw[<-q'];exact hocd)
theorem zeI{M:Model}{A:Around}{E:Value->Shared->Prop}{i:Nat}{x:Str}{v:V}{u:Value}{Q:Unit->Shared->Prop}(I:Inv X pins σ H s)(hN:X.N.Nodup)(hi:X.N[i]?=some x)(hx:Loc X.env.scope x)(r:RelV v u)
  (h:∀s',Inv X pins (σ.set i (some v)) H s'->Q () s') (hf:X.fn x=true\/X.env.scope.names.lookup x=some .local:=by first | exact .inl rfl | exact .inr rfl | assumption):wpAny M A (storeName X.env x u) Q E s:=
 zh3 I hN hi hx r (fun s' I' _=>h s' I') hf
theorem Inv.call'{s':Shared}{ch:List Addr}(I:Inv X pins σ H s)(ho:s'.os=s.os)(u:Un (frs X.stack) ch H H' s.heap s'.heap)(hok:HOk X.prog X.w H' s'.heap)(hg:AllBare s'.gens)
  (hch:∀b∈ch,(b∈X.ex\/X.s_0.heap.objs.size<=b)/\b≠X.env.locals/\(∀x c,X.env.cells.lookup x=some c->c≠b)/\∀p∈X.pn++pins,p.1≠b):Inv X pins σ H' s':=by
 obtain⟨h',g',d',t',o'⟩:=s';have e:o'=s.os:=ho;subst e;exact I.call (g':=g') (t':=t') (d':=d') u hok hg hch
end
abbrev XK:=Value->Option Addr->Hp->Prop
abbrev St:=List (Option V)
abbrev VK:=V->Hp->Prop
abbrev TE:=St->Hp->VK->Prop
abbrev TT:=St->Hp->(Bool->Hp->Prop)->Prop
abbrev TA:=St->Hp->(List V->Hp->Prop)->Prop
structure zdc where
 nx:St->Hp->Prop
 rt:VK
 bk:St->Hp->Prop:=fun _ _=>False
 ct:St->Hp->Prop:=fun _ _=>False
abbrev TS:=zdc->St->Hp->Prop
def EP(X:Cx)(pins:List (Addr×Obj))(σ:St)(Q:VK)(u:Value)(s':Shared):Prop:=∃v H',Inv X pins σ H' s'/\RelV v u/\Q v H'
def TP(X:Cx)(pins:List (Addr×Obj))(σ:St)(Q:Bool->Hp->Prop)(b:Bool)(s':Shared):Prop:=∃H',Inv X pins σ H' s'/\Q b H'
def AP(X:Cx)(pins:List (Addr×Obj))(σ:St)(Q:List V->Hp->Prop)(us:List Value)(s':Shared):Prop:=∃vs H',Inv X pins σ H' s'/\Vals vs us/\Q vs H'
def SP(X:Cx)(pins:List (Addr×Obj))(D:zdc)(f:Flow)(s':Shared):Prop:=
 match f with
 | .next=>∃σ' H',Inv X pins σ' H' s'/\D.nx σ' H'
 | .brk=>∃σ' H',Inv X pins σ' H' s'/\D.bk σ' H'
 | .cont=>∃σ' H',Inv X pins σ' H' s'/\D.ct σ' H'
 | .ret u=>∃v σ' H',Inv X pins σ' H' s'/\RelV v u/\D.rt v H'
def PE(X:Cx)(e:Expr)(t:TE):Prop:=
 ∀(pins:List (Addr×Obj)) (s:Shared) (σ:St) (H:Hp) (Q:VK),Inv X pins σ H s->t σ H Q->wpAny (model X.prog X.w) X.A (eval e X.env) (EP X pins σ Q) X.xe s
def PT(X:Cx)(e:Expr)(t:TT):Prop:=
 ∀(pins:List (Addr×Obj)) (s:Shared) (σ:St) (H:Hp) (Q:Bool->Hp->Prop),Inv X pins σ H s->t σ H Q->wpAny (model X.prog X.w) X.A (isTrue e X.env (eval e X.env)) (TP X pins σ Q) X.xe s
def PW(X:Cx)(e:Expr)(t:TT):Prop:=
 ∀(whole:Sem Value) (pins:List (Addr×Obj)) (s:Shared) (σ:St) (H:Hp) (Q:Bool->Hp->Prop),Inv X pins σ H s->t σ H Q->wpAny (model X.prog X.w) X.A (isTrue e X.env whole) (TP X pins σ Q) X.xe s
theorem PW.pt{X:Cx}{e:Expr}{t:TT}(h:PW X e t):PT X e t:=h _
def PA(X:Cx)(es:List Expr)(t:TA):Prop:=
 ∀(pos:Pos) (pins:List (Addr×Obj)) (s:Shared) (σ:St) (H:Hp) (Q:List V->Hp->Prop),Inv X pins σ H s->t σ H Q->wpAny (model X.prog X.w) X.A (spliced (backTo pos (starEach es X.env))) (AP X pins σ Q) X.xe s
def PS(X:Cx)(st:Stmt)(t:TS):Prop:=
 ∀(pins:List (Addr×Obj)) (s:Shared) (σ:St) (H:Hp) (D:zdc),Inv X pins σ H s->t D σ H->wpAny (model X.prog X.w) X.A (exec st X.env) (SP X pins D) X.xe s
def PSs(X:Cx)(st:List Stmt)(t:TS):Prop:=
 ∀(pins:List (Addr×Obj)) (s:Shared) (σ:St) (H:Hp) (D:zdc),Inv X pins σ H s->t D σ H->wpAny (model X.prog X.w) X.A (execs st X.env) (SP X pins D) X.xe s
theorem thn{α:Type}{t:Sem α}{Q Q':α->Shared->Prop}{M:Model}{A:Around}{E:Value->Shared->Prop}{s:Shared}(h:wpAny M A t Q E s)(hQ:∀a s,Q a s->Q' a s):wpAny M A t Q' E s:=wpAny_mono h hQ fun _ _ x=>x
end L2
namespace L2
open PySem PySem.Spec PyProof.Rows
section
variable{X:Cx}
def zaX(i:Nat):TE:=fun σ H Q=>∃v,σ[i]?=some (some v)/\Q v H
def tC(v:V):TE:=fun _ H Q=>Q v H
theorem zp1{i:Nat}{x:Str}{pos:Pos}(hN:X.N[i]?=some x)(hv:Vis X.env.scope x)(hd:(x == ("__debug__" : Str))=false:=by decide)(hcd:(x == ("__classdict__" : Str))=false:=by decide):PE X (.Name x pos) (zaX i):=by
 intro pins s σ H Q I h;obtain⟨v,e,h⟩:=h;obtain⟨m,hn,hl⟩:=I.loc;obtain⟨u,r,l⟩:=hl i x v hN e hv;have fin:EP X pins σ Q u s:=⟨v,H,I,r,h⟩;rcases l with⟨hk,hm⟩|⟨hk,c,hc,hcell⟩
 ·exact wpAny_Name (wpAny_loadName_local I.ok.kind hk hn hm fin) hd
 ·rcases hk with hk | hk
  ·exact wpAny_Name (wpAny_loadName_cell I.ok.kind hk hc hcell fin) hd
  ·exact wpAny_Name (wpAny_loadName_free I.ok.kind hk hc hcell fin hcd) hd
theorem zah{i j pos}:PE X (.Constant (.int i) j pos) (tC (.int i)):=fun _ _ _ H _ I h=>wpAny_Constant_int ⟨.int i,H,I.tok _,⟨_,rfl⟩,h⟩
theorem zbS{b j pos}:PE X (.Constant (.bool b) j pos) (tC (.bl b)):=fun _ _ _ H _ I h=>Constant_bool ⟨.bl b,H,I,rfl,h⟩
theorem zkv{j pos}:PE X (.Constant .none j pos) (tC .non):=fun _ _ _ H _ I h=>Constant_none ⟨.non,H,I,rfl,h⟩
theorem zaB{x j pos}:PE X (.Constant (.str x) j pos) (tC (.str x)):=fun _ _ _ H _ I h=>Calls.Constant_str ⟨.str x,H,I.tok _,⟨_,rfl⟩,h⟩
def Gl(X:Cx)(x:Str):Prop:=X.env.kindOf x=some .globalImplicit
theorem zcE{E:Value->Shared->Prop}{pins:List (Addr×Obj)}{s:Shared}{σ:St}{H:Hp}{x:Str}{u:Value}{pos:Pos}{Q:Value->Shared->Prop}(I:Inv X pins σ H s)(hg:Gl X x)(hm:X.mg x=some u)(h:Q u s)
  (hd:(x == ("__debug__" : Str))=false:=by decide):wpAny (model X.prog X.w) X.A (eval (.Name x pos) X.env) Q E s:=
 Calls.Name_function_global I.ok.kind hg (Calls.loadGlobal_global (by rw[I.ok.glob];exact I.mod.glob.keeps I.bk) hm h) hd
theorem zey{E:Value->Shared->Prop}{pins:List (Addr×Obj)}{s:Shared}{σ:St}{H:Hp}{x:Str}{u:Value}{pos:Pos}{Q:Value->Shared->Prop}(I:Inv X pins σ H s)(hg:Gl X x)(hm:X.mg x=none)(hv:bootBuiltins x=some u)(h:Q u s)
  (hn:x ≠ "__name__" := by decide) (hd:(x == ("__debug__" : Str))=false:=by decide):wpAny (model X.prog X.w) X.A (eval (.Name x pos) X.env) Q E s:=by
 obtain⟨mb,h1,h2⟩:=I.mod.blt;exact Calls.Name_function_global I.ok.kind hg (Calls.loadGlobal_builtin (by rw[I.ok.glob];exact I.mod.glob.keeps I.bk) hm (by rw[I.ok.blt];exact h1.keeps I.bk) ((h2 x hn).trans hv) h) hd
theorem zlf{x:Str}{v:V}{u:Value}{pos:Pos}(hg:Gl X x)(hm:X.mg x=some u)(r:RelV v u)(hd:(x == ("__debug__" : Str))=false:=by decide):PE X (.Name x pos) (tC v):=
 fun _ _ _ H _ I h=>zcE I hg hm ⟨v,H,I,r,h⟩ hd
theorem zox{x:Str}{v:V}{u:Value}{pos:Pos}(hg:Gl X x)(hm:X.mg x=none)(hv:bootBuiltins x=some u)(r:RelV v u)(hn:x ≠ "__name__" := by decide)(hd:(x == ("__debug__" : Str))=false:=by decide):PE X (.Name x pos) (tC v):=
 fun _ _ _ H _ I h=>zey I hg hm hv ⟨v,H,I,r,h⟩ hn hd
variable{a b:Expr}{ta tb:TE}{pos:Pos}
def PC(X:Cx)(op:CmpOp)(a b:Expr)(t:TE):Prop:=
 ∀(pins:List (Addr×Obj)) (s:Shared) (σ:St) (H:Hp) (Q:VK),Inv X pins σ H s->t σ H Q ->
  wpAny (model X.prog X.w) X.A (eval a X.env) (fun v s₁=>wpAny (model X.prog X.w) X.A (eval b X.env) (fun u s₂=>wpAny (model X.prog X.w) X.A (compareOp op v u) (EP X pins σ Q) X.xe s₂) X.xe s₁) X.xe s
theorem zne(b:Expr){op:CmpOp}(h:op≠.In)(h2:op≠.NotIn):behindInMarks op b=false:=by
 have e1:(op == CmpOp.In)=false:=by cases op<;>first | rfl | exact absurd rfl h
 have e2:(op == CmpOp.NotIn)=false:=by cases op<;>first | rfl | exact absurd rfl h2
 cases b<;>simp[behindInMarks,e1,e2]
def zq0(ta:TE):TE:=fun σ H Q=>ta σ H fun x H1=>Q (.bl (decide (x=.non))) H1
theorem RelV.none_iff{x:V}{v:Value}(r:RelV x v):(v == Value.none)=decide (x=.non):=by
 cases x with
 | non=>cases r;rfl
 | bl _=>cases r;rfl
 | int _=>obtain⟨t,rfl⟩:=r;rfl
 | str _=>obtain⟨t,rfl⟩:=r;rfl
 | byt _=>obtain⟨t,rfl⟩:=r;rfl
 | flt _=>obtain⟨t,rfl⟩:=r;rfl
 | ref _=>cases r;rfl
 | ty _=>cases r;rfl
theorem zkw{j pos'}(ha:PE X a ta):PC X .Is a (.Constant .none j pos') (zq0 ta):=by
 intro pins s σ H Q I h;refine thn (ha pins s σ H _ I h) fun v s1 ⟨x,H1,I1,r1,q1⟩=>?_;exact Constant_none (is_none_gen ⟨.bl _,H1,I1,by rw[r1.none_iff];rfl,q1⟩)
def tB(t:TE):TT:=fun σ H Q=>t σ H fun x H1=>∃c,x=.bl c/\Q c H1
theorem zbJ{op:CmpOp}{t:TE}(h:PC X op a b t)(h1:behindInMarks op b=false:=by first | exact zne _ (by decide) (by decide) | rfl):PT X (.Compare a [op] [b] pos) (tB t):=by
 intro pins s σ H Q I hw;refine wpAny_isTrue_Compare1 (thn (h pins s σ H _ I hw) fun v s1 h1=>thn h1 fun u s2 h2=>thn h2 fun c s3 ⟨x,H1,I1,r1,q1⟩=>?_) h1;obtain⟨d,rfl,q⟩:=q1;cases r1
 exact wpAny_truthy_bool ⟨H1,I1,q⟩
theorem za0{e:Expr}{t:TE}(h:PE X e t)(he:∀whole,isTrue e X.env whole=(do let v <-whole;standAt e.pos;holding [v] (truthy v)):=by intro _;rfl):PT X e (tB t):=by
 intro pins s σ H Q I hw;refine isTrue_plain (thn (h pins s σ H _ I hw) fun v s1 ⟨x,H1,I1,r1,q1⟩=>?_) (he _);obtain⟨d,rfl,q⟩:=q1;cases r1
 exact wpAny_truthy_bool ⟨H1,I1,q⟩
variable{tA tB':TT}{rest:List Expr}
def zpM(t u:TT):TT:=fun σ H Q=>t σ H fun c H1=>if c=true then u σ H1 Q else Q false H1
def tOr(t u:TT):TT:=fun σ H Q=>t σ H fun c H1=>if c=true then Q true H1 else u σ H1 Q
def zqZ(t:TT):TT:=fun σ H Q=>t σ H fun c H1=>Q (!c) H1
theorem zcf(ha:PT X a tA):PW X (.BoolOp .And [a] pos) tA:=by
 intro wh pins s σ H Q I h;refine isTrue_and (thn (ha pins s σ H Q I h) fun c s1 e=>?_);cases c with
 | true=>exact isTrue_and_nil e
 | false=>exact e
theorem zbV(ha:PT X a tA):PW X (.BoolOp .Or [a] pos) tA:=by
 intro wh pins s σ H Q I h;refine isTrue_or (thn (ha pins s σ H Q I h) fun c s1 e=>?_);cases c with
 | false=>exact isTrue_or_nil e
 | true=>exact e
theorem zcK(ha:PT X a tA)(hb:PW X (.BoolOp .And (b::rest) pos) tB'):PW X (.BoolOp .And (a::b::rest) pos) (zpM tA tB'):=by
 intro wh pins s σ H Q I h;refine isTrue_and (thn (ha pins s σ H _ I h) fun c s1 ⟨H1,I1,q1⟩=>?_);cases c with
 | true=>exact hb wh pins s1 σ H1 Q I1 q1
 | false=>exact⟨H1,I1,q1⟩
theorem zcz(ha:PT X a tA)(hb:PW X (.BoolOp .Or (b::rest) pos) tB'):PW X (.BoolOp .Or (a::b::rest) pos) (tOr tA tB'):=by
 intro wh pins s σ H Q I h;refine isTrue_or (thn (ha pins s σ H _ I h) fun c s1 ⟨H1,I1,q1⟩=>?_);cases c with
 | true=>exact⟨H1,I1,q1⟩
 | false=>exact hb wh pins s1 σ H1 Q I1 q1
theorem zbD(ha:PT X a tA):PT X (.UnaryOp .Not a pos) (zqZ tA):=by
 intro pins s σ H Q I h;exact isTrue_not (ha pins s σ H (fun c H1=>Q (!c) H1) I h)
def tIf(t:TT)(ta tb:TE):TE:=fun σ H Q=>t σ H fun c H1=>if c=true then ta σ H1 Q else tb σ H1 Q
theorem zbL{c:Expr}(hc:PT X c tA)(ha:PE X a ta)(hb:PE X b tb):PE X (.IfExp c a b pos) (tIf tA ta tb):=by
 intro pins s σ H Q I h;refine wpAny_IfExp (thn (hc pins s σ H _ I h) fun d s1 ⟨H1,I1,q1⟩=>?_);cases d with
 | true=>exact ha pins s1 σ H1 Q I1 q1
 | false=>exact hb pins s1 σ H1 Q I1 q1
end
end L2
namespace L2
open PySem PySem.Spec PyProof.Rows
def SqL(K:PySem.W.Frag)(H:Hp)(a:Addr)(xs:List V):Prop:=
 Rd H a (.lst xs) \/
  ∃(o:Obj) (its:Array Value) (n:Nat),K.lookup a=some o/\o.cls=.type "list" /\ o.dict=none/\o.data=.seq its n/\its.size<=sizeLine/\Vals xs its.toList
def SqT(K:PySem.W.Frag)(H:Hp)(a:Addr)(xs:List V):Prop:=
 Rd H a (.tup xs) \/
  ∃(o:Obj) (its:Array Value) (n:Nat),K.lookup a=some o/\o.cls=.type "tuple" /\ o.data=.seq its n/\its.size<=sizeLine/\Vals xs its.toList
def zsn:Value->Option V
 | .none=>some .non
 | .bool b=>some (.bl b)
 | .int i _=>some (.int i)
 | .str x _=>some (.str x)
 | .bytes b _=>some (.byt b)
 | .float b _=>some (.flt b)
 | .ref a=>some (.ref a)
 | .type n=>some (.ty n)
 | _=>none
theorem RelV.abs{x:V}{u:Value}(r:RelV x u):zsn u=some x:=by
 cases x with
 | non=>cases r;rfl
 | bl _=>cases r;rfl
 | int _=>obtain⟨t,rfl⟩:=r;rfl
 | str _=>obtain⟨t,rfl⟩:=r;rfl
 | byt _=>obtain⟨t,rfl⟩:=r;rfl
 | flt _=>obtain⟨t,rfl⟩:=r;rfl
 | ref _=>cases r;rfl
 | ty _=>cases r;rfl
theorem RelV.inj{x y:V}{u:Value}(r:RelV x u)(q:RelV y u):x=y:=zBd (r.abs.symm.trans q.abs)
theorem Vals.inj:∀ {xs ys:List V}{us:List Value},Vals xs us->Vals ys us->xs=ys
 | _,_,_,.nil,.nil=>rfl
 | _,_,_,.cons r t,.cons r' t'=>by rw[r.inj r',Vals.inj t t']
section
variable{X:Cx}{pins:List (Addr×Obj)}{σ:St}{H:Hp}{s:Shared}{a:Addr}{xs ys:List V}
theorem SqL.of{K:PySem.W.Frag}(h:H a=some (.lst xs)):SqL K H a xs:=.inl (.inl h)
theorem SqT.of{K:PySem.W.Frag}(h:H a=some (.tup xs)):SqT K H a xs:=.inl (.inl h)
theorem Inv.list(I:Inv X pins σ H s)(h:SqL X.K H a xs):∃its:List Value,Vals xs its/\PlainL s.heap a its.toArray/\xs.length<=sizeLine:=by
 rcases h with h|⟨o,its,n,hk,hc,hd,hs,hz,r⟩
 ·obtain⟨z,its,n,r,e⟩:=h.ok I.hok;exact⟨its,r,⟨_,n,e,rfl,rfl,rfl⟩,z⟩
 ·refine⟨its.toList,r,⟨o,n,I.kIn a o hk,hc,hd,by simpa using hs⟩,?_⟩;have e:=r.length;simp only[Array.length_toList] at e;omega
theorem Inv.tuple(I:Inv X pins σ H s)(h:SqT X.K H a xs):∃its:List Value,Vals xs its/\IsTup s.heap a its.toArray/\xs.length<=sizeLine:=by
 rcases h with h|⟨o,its,n,hk,hc,hs,hz,r⟩
 ·obtain⟨z,its,r,p⟩:=h.ok I.hok;exact⟨its,r,p,z⟩
 ·refine⟨its.toList,r,⟨o,I.kIn a o hk,hc,n,by simpa using hs⟩,?_⟩;have e:=r.length;simp only[Array.length_toList] at e;omega
theorem Inv.list_inj(I:Inv X pins σ H s)(h:SqL X.K H a xs)(h':SqL X.K H a ys):xs=ys:=by
 obtain⟨its,r,⟨o,n,e,_,_,d⟩,_⟩:=I.list h;obtain⟨its',r',⟨o',n',e',_,_,d'⟩,_⟩:=I.list h';rw[e] at e';cases e';rw[d] at d';injection d' with d1 _;have:its=its':=by simpa using congrArg Array.toList d1
 subst this;exact r.inj r'
theorem Inv.tuple_inj(I:Inv X pins σ H s)(h:SqT X.K H a xs)(h':SqT X.K H a ys):xs=ys:=by
 obtain⟨its,r,⟨o,e,_,n,d⟩,_⟩:=I.tuple h;obtain⟨its',r',⟨o',e',_,n',d'⟩,_⟩:=I.tuple h';rw[e] at e';cases e';rw[d] at d';injection d' with d1 _;have:its=its':=by simpa using congrArg Array.toList d1
 subst this;exact r.inj r'
end
abbrev Cx.wish(X:Cx)(E:Value->Shared->Prop):Cx:={X with xe:=E}
abbrev Cx.nox(X:Cx):Cx:=X.wish fun _ _=>False
theorem Cx.Ok.wish{X:Cx}(ok:X.Ok)(E:Value->Shared->Prop):(X.wish E).Ok:=
 ⟨ok.mod,ok.kind,ok.glob,ok.blt,ok.above,ok.inj,ok.has,ok.cab,ok.hd,ok.frames,ok.stk,ok.exf,ok.bs,ok.bsz,ok.noex,ok.exfs,ok.funs,ok.frf⟩
theorem Cx.Ok.unwish{X:Cx}{E:Value->Shared->Prop}(ok:(X.wish E).Ok):X.Ok:=
 ⟨ok.mod,ok.kind,ok.glob,ok.blt,ok.above,ok.inj,ok.has,ok.cab,ok.hd,ok.frames,ok.stk,ok.exf,ok.bs,ok.bsz,ok.noex,ok.exfs,ok.funs,ok.frf⟩
section
variable{X:Cx}{pins:List (Addr×Obj)}{σ:St}{H:Hp}{s:Shared}{E:Value->Shared->Prop}
theorem Inv.wish(I:Inv X pins σ H s)(E:Value->Shared->Prop):Inv (X.wish E) pins σ H s:=⟨I.ok.wish E,I.os,I.bare,I.base,I.loc,I.cell,I.free,I.freeC,I.pin,I.hok,I.len⟩
theorem Inv.unwish(I:Inv (X.wish E) pins σ H s):Inv X pins σ H s:=⟨I.ok.unwish,I.os,I.bare,I.base,I.loc,I.cell,I.free,I.freeC,I.pin,I.hok,I.len⟩
theorem SP.unwish{D:zdc}{f:Flow}{s':Shared}(h:SP (X.wish E) pins D f s'):SP X pins D f s':=by
 cases f with
 | next=>obtain⟨σ',H',I,q⟩:=h;exact⟨σ',H',I.unwish,q⟩
 | brk=>obtain⟨σ',H',I,q⟩:=h;exact⟨σ',H',I.unwish,q⟩
 | cont=>obtain⟨σ',H',I,q⟩:=h;exact⟨σ',H',I.unwish,q⟩
 | ret u=>obtain⟨v,σ',H',I,r,q⟩:=h;exact⟨v,σ',H',I.unwish,r,q⟩
theorem PSs.nox{st:List Stmt}{t:TS}(h:PSs X.nox st t):PSs X st t:=fun pins s σ H D I hw =>
 wpAny_mono (h pins s σ H D (I.wish _) hw) (fun _ _ q=>q.unwish) fun _ _ z=>False.elim z
end
section
variable{X:Cx}{st:Stmt}{rest:List Stmt}{t u:TS}{e:Expr}{te:TE}{pos:Pos}
def zmy:TS:=fun D σ H=>D.nx σ H
def zgL(t u:TS):TS:=fun D σ H=>t {D with nx:=u D} σ H
theorem zal:PSs X [] zmy:=fun _ _ σ H _ I h=>wpAny_execs_nil ⟨σ,H,I,h⟩
theorem zab(h1:PS X st t)(h2:PSs X rest u):PSs X (st::rest) (zgL t u):=by
 intro pins s σ H D I h;refine wpAny_execs_cons (thn (h1 pins s σ H {D with nx:=u D} I h) fun f s1 q=>?_);cases f with
 | next =>
  obtain⟨σ',H',I',q⟩:=q;exact h2 pins s1 σ' H' D I' q
 | ret v=>exact q
 | brk=>exact q
 | cont=>exact q
theorem zac(h1:PS X st t):PSs X [st] t:=by
 intro pins s σ H D I h;refine wpAny_execs_cons (thn (h1 pins s σ H D I h) fun f s1 q=>?_);cases f with
 | next=>exact wpAny_execs_nil q
 | ret v=>exact q
 | brk=>exact q
 | cont=>exact q
def zmG:TS:=fun D σ H=>D.bk σ H
def zpi:TS:=fun D σ H=>D.ct σ H
theorem zm2:PS X (.Break pos) zmG:=fun _ _ σ H _ I h=>wpAny_Break ⟨σ,H,I,h⟩
theorem zfV:PS X (.Continue pos) zpi:=fun _ _ σ H _ I h=>wpAny_Continue ⟨σ,H,I,h⟩
theorem Inv.quiet{pins:List (Addr×Obj)}{σ:St}{H:Hp}{s:Shared}(I:Inv X pins σ H s):interactive X.env=false:=by simp[interactive,I.ok.kind]
def zgM(te:TE):TS:=fun D σ H=>te σ H fun _ H1=>D.nx σ H1
theorem zaE(he:PE X e te)(hs:swapsWith e none pos.line X.env=pure false:=by rfl):PS X (.Expr e pos) (zgM te):=by
 intro pins s σ H D I h;exact wpAny_Expr_any (thn (he pins s σ H _ I h) fun v s1 ⟨x,H1,I1,r1,q1⟩=>⟨σ,H1,I1,q1⟩) I.quiet hs
def zjl(te:TE):TS:=fun D σ H=>te σ H D.rt
theorem zai(he:PE X e te):PS X (.Return (some e) pos) (zjl te):=by
 intro pins s σ H D I h;exact wpAny_Return_some (thn (he pins s σ H _ I h) fun v s1 ⟨x,H1,I1,r1,q1⟩=>⟨x,σ,H1,I1,r1,q1⟩)
def zmx:TS:=fun D _ H=>D.rt .non H
theorem zon:PS X (.Return none pos) zmx:=fun _ _ σ H _ I h=>wpAny_Return_none ⟨.non,σ,H,I,rfl,h⟩
def zpK(c:TT)(t u:TS):TS:=fun D σ H=>c σ H fun b H1=>if b=true then t D σ H1 else u D σ H1
theorem zaw{c:Expr}{a b:List Stmt}{tc:TT}(hc:PT X c tc)(ha:PSs X a t)(hb:PSs X b u):PS X (.If c a b pos) (zpK tc t u):=by
 intro pins s σ H D I h;refine wpAny_If (thn (hc pins s σ H _ I h) fun d s1 ⟨H1,I1,q1⟩=>?_);cases d with
 | true=>exact ha pins s1 σ H1 D I1 q1
 | false=>exact hb pins s1 σ H1 D I1 q1
end
abbrev TG:=V->St->Hp->(St->Hp->Prop)->Prop
abbrev TGs:=List V->St->Hp->(St->Hp->Prop)->Prop
def PG(X:Cx)(target:Expr)(t:TG):Prop:=
 ∀(pins:List (Addr×Obj)) (s:Shared) (σ:St) (H:Hp) (v:V) (u:Value) (Q:St->Hp->Prop),Inv X pins σ H s->RelV v u->t v σ H Q ->
  wpAny (model X.prog X.w) X.A (assign target X.env u) (fun _ s'=>∃σ' H',Inv X pins σ' H' s'/\Q σ' H') X.xe s
def PGs(X:Cx)(ts:List Expr)(t:TGs):Prop:=
 ∀(pins:List (Addr×Obj)) (s:Shared) (σ:St) (H:Hp) (vs:List V) (us:List Value) (Q:St->Hp->Prop),Inv X pins σ H s->Vals vs us->t vs σ H Q ->
  wpAny (model X.prog X.w) X.A (assignInOrder ((assignEach ts X.env).map (·.2)) us) (fun _ s'=>∃σ' H',Inv X pins σ' H' s'/\Q σ' H') X.xe s
abbrev zpa:=V->V->V->Hp->(Hp->Prop)->Prop
def zr0(X:Cx)(t:zpa):Prop:=
 ∀(pins:List (Addr×Obj)) (s:Shared) (σ:St) (H:Hp) (o i v:V) (ov iv u:Value) (Q:Hp->Prop),Inv X pins σ H s->RelV o ov->RelV i iv->RelV v u->t o i v H Q ->
  wpAny (model X.prog X.w) X.A (setItem ov iv u) (fun _ s'=>∃H',Inv X pins σ H' s'/\Q H') X.xe s
abbrev TIp:=V->V->Hp->VK->Prop
def PIp(X:Cx)(op:Operator)(t:TIp):Prop:=
 ∀(pins:List (Addr×Obj)) (s:Shared) (σ:St) (H:Hp) (x y:V) (v u:Value) (Q:VK),Inv X pins σ H s->RelV x v->RelV y u->t x y H Q ->
  wpAny (model X.prog X.w) X.A (inplaceOp op v u) (EP X pins σ Q) X.xe s
section
variable{X:Cx}{pos:Pos}
def zf2(i:Nat):TG:=fun v σ H Q=>Q (σ.set i (some v)) H
theorem za3{i:Nat}{x:Str}(hN:X.N.Nodup)(hi:X.N[i]?=some x)(hx:Loc X.env.scope x)(hf:X.fn x=true\/X.env.scope.names.lookup x=some .local:=by first | exact .inl rfl | exact .inr rfl | assumption):PG X (.Name x pos) (zf2 i):=by
 intro pins s σ H v u Q I r h;exact wpAny_assign_Name (zeI I hN hi hx r (fun s' I'=>⟨_,H,I',h⟩) hf)
def zsj:TGs:=fun vs σ H Q=>vs=[]/\Q σ H
def zrW(t:TG)(u:TGs):TGs:=fun vs σ H Q=>∃v r,vs=v::r/\t v σ H fun σ' H'=>u r σ' H' Q
theorem zop:PGs X [] zsj:=by
 intro pins s σ H vs us Q I r h;obtain⟨e,h⟩:=h;subst e;cases r
 exact assignInOrder_nil ⟨σ,H,I,h⟩
theorem zjJ{e:Expr}{es:List Expr}{t:TG}{u:TGs}(h1:PG X e t)(h2:PGs X es u)
  (hs:(assignEach (e::es) X.env).map (·.2)=assign e X.env::(assignEach es X.env).map (·.2):=by rfl):PGs X (e::es) (zrW t u):=by
 intro pins s σ H vs us Q I r h;obtain⟨v,vr,e1,h⟩:=h;subst e1;cases r with
 | cons r rr =>
  rw[hs];refine assignInOrder_cons (thn (h1 pins s σ H _ _ _ I r h) fun _ s1 ⟨σ1,H1,I1,q1⟩=>?_);exact h2 pins s1 σ1 H1 _ _ Q I1 rr q1
def zsi(K:PySem.W.Frag)(n:Nat)(t:TGs):TG:=fun v σ H Q=>∃a xs,v=.ref a/\SqT K H a xs/\xs.length=n/\t xs σ H Q
theorem zpZ{es:List Expr}{k:Nat}{t:TGs}{n:Nat}(hc:X.calm=true)(h:PGs X es t)
  (hn:(assignEach es X.env).length=n:=by rfl) (hst:(assignEach es X.env).findIdx? (·.1)=none:=by rfl):PG X (.Tuple es k pos) (zsi X.K n t):=by
 intro pins s σ H v u Q I r hw;obtain⟨a,xs,e1,hq,hl,hw⟩:=hw;subst e1;cases r
 obtain⟨its,rv,ht,hz⟩:=I.tuple hq;refine assign_Tuple_tuple (I.ok.hd hc) ht (by simp[hn,<-hl,rv.length]) hst fun h' hx=>?_;have I1:Inv X pins σ H {s with heap:=h'}:=I.kept (t':=s.toks) fun b o e=>hx b o (zBe (Heap.lt_size e)) e;exact h pins _ σ H xs _ Q I1 (by simpa using rv) hw
def zqz(to ti:TE)(t:zpa):TG:=fun v σ H Q=>to σ H fun o H1=>ti σ H1 fun i H2=>t o i v H2 fun H3=>Q σ H3
theorem zp0{o i:Expr}{to ti:TE}{t:zpa}(ho:PE X o to)(hi:PE X i ti)(hs:zr0 X t)
  (ha:∀v,assign (.Subscript o i pos) X.env v=(do
   let ov <-holding [v] (eval o X.env);let iv <-holding [v,ov] (eval i X.env)
   standAt pos
   holding [v,ov,iv] (setItem ov iv v)
   release [v,ov,iv] []):=by intro _;rfl):PG X (.Subscript o i pos) (zqz to ti t):=by
 intro pins s σ H v u Q I r h;rw[ha];refine wpAny_bind (wpAny_holding (thn (ho pins s σ H _ I h) fun ov s1 ⟨x,H1,I1,r1,q1⟩=>?_));refine wpAny_bind (wpAny_holding (thn (hi pins s1 σ H1 _ I1 q1) fun iv s2 ⟨y,H2,I2,r2,q2⟩=>?_));refine wpAny_bind (wpAny_standAt (wpAny_bind (wpAny_holding (thn (hs pins s2 σ H2 x y v ov iv u _ I2 r1 r2 r q2) fun _ s3 ⟨H3,I3,q3⟩=>?_))));exact wpAny_release ⟨σ,H3,I3,q3⟩
def zkg(te:TE)(g:TG):TS:=fun D σ H=>te σ H fun x H1=>g x σ H1 D.nx
theorem zpW{tg e:Expr}{te:TE}{g:TG}(he:PE X e te)(hg:PG X tg g)(hs:swapsWithSole [tg] e pos.line X.env=pure false:=by rfl)(hw:swappedStores [tg] e X.env=pure none:=by rfl)
  (h1:(assignEach [tg] X.env).map (·.2)=[assign tg X.env]:=by rfl):PS X (.Assign [tg] e pos) (zkg te g):=by
 intro pins s σ H D I h;refine wpAny_Assign_stores (thn (he pins s σ H _ I h) fun v s1 ⟨x,H1,I1,r1,q1⟩=>?_) hs hw;rw[h1];exact thn (hg pins s1 σ H1 x v _ I1 r1 q1) fun _ s2 q=>q
theorem zas{i:Nat}{x:Str}{e:Expr}{te:TE}{pos':Pos}(hN:X.N.Nodup)(hi:X.N[i]?=some x)(hx:Loc X.env.scope x)(he:PE X e te)(hs:swapsWith e (some (.Name x pos')) pos.line X.env=pure false:=by rfl)(hf:X.fn x=true\/X.env.scope.names.lookup x=some .local:=by first | exact .inl rfl | exact .inr rfl | assumption) :
  PS X (.Assign [.Name x pos'] e pos) (zkg te (zf2 i)):=by
 intro pins s σ H D I h;refine wpAny_Assign_Name (thn (he pins s σ H _ I h) fun v s1 ⟨y,H1,I1,r1,q1⟩=>?_) hs;exact zeI I1 hN hi hx r1 (fun s2 I2=>⟨_,H1,I2,q1⟩) hf
def zq4(i:Nat)(te:TE)(ti:TIp):TS:=fun D σ H=>∃x,σ[i]?=some (some x)/\te σ H fun y H1=>ti x y H1 fun z H2=>D.nx (σ.set i (some z)) H2
theorem zpV{i:Nat}{x:Str}{e:Expr}{te:TE}{op:Operator}{ti:TIp}{pos':Pos}(hN:X.N.Nodup)(hi:X.N[i]?=some x)(hx:Loc X.env.scope x)(he:PE X e te)(ho:PIp X op ti)(hf:X.fn x=true\/X.env.scope.names.lookup x=some .local:=by first | exact .inl rfl | exact .inr rfl | assumption) :
  PS X (.AugAssign (.Name x pos') op e pos) (zq4 i te ti):=by
 intro pins s σ H D I h;obtain⟨v,e1,h⟩:=h;obtain⟨m,hn,hl⟩:=I.loc;have vis:Vis X.env.scope x:=by rcases hx with k | k;exact .inl k;exact .inr (.inl k)
 obtain⟨u,r,l⟩:=hl i x v hi e1 vis;refine wpAny_AugAssign_Name ?_;have go:wpAny (model X.prog X.w) X.A (eval e X.env) (fun w s₂=>wpAny (model X.prog X.w) X.A (inplaceOp op u w) (fun r s₃=>wpAny (model X.prog X.w) X.A (storeName X.env x r) (fun _=>SP X pins D .next) X.xe s₃) X.xe s₂) X.xe s:=by
  refine thn (he pins s σ H _ I h) fun w s1 ⟨y,H1,I1,r1,q1⟩=>?_;refine thn (ho pins s1 σ H1 v y u w _ I1 r r1 q1) fun z s2 ⟨zv,H2,I2,r2,q2⟩=>?_;exact zeI I2 hN hi hx r2 (fun s3 I3=>⟨_,H2,I3,q2⟩) hf
 rcases l with⟨hk,hm⟩|⟨hk,c,hc,hcell⟩
 ·exact wpAny_loadName_local I.ok.kind hk hn hm go
 ·rcases hk with hk | hk
  ·exact wpAny_loadName_cell I.ok.kind hk hc hcell go
  ·rcases hx with k | k
   ·have:X.env.scope.names.lookup x=some .free:=hk;rw[k] at this;cases this
   ·have:X.env.scope.names.lookup x=some .free:=hk;rw[k] at this;cases this
def ipI(f:Int->Int->Int):TIp:=fun x y H Q=>∃i j,x=.int i/\y=.int j/\Q (.int (f i j)) H
theorem zqd:PIp X .Add (ipI fun i j=>i+j):=by
 intro pins s σ H x y v u Q I r1 r2 h;obtain⟨i,j,e1,e2,q⟩:=h;subst e1;subst e2;obtain⟨t,rfl⟩:=r1;obtain⟨t',rfl⟩:=r2;exact iadd_int ⟨.int _,H,I.tok _,⟨_,rfl⟩,q⟩
end
section
variable{X:Cx}{pos:Pos}
def zmw(c:TT)(tb:TS):TS:=fun D σ H=>∃W:Nat->St->Hp->Prop,(∃m,W m σ H)/\∀m σ H,W m σ H ->
 c σ H fun b H1=>if b=true then ∃N:St->Hp->Prop,(∀σ' H',N σ' H'->∃m',m'<m/\W m' σ' H')/\tb {D with nx:=N,ct:=N,bk:=D.nx} σ H1 else D.nx σ H1
theorem zcp{c:Expr}{body:List Stmt}{tc:TT}{tb:TS}(hp:PassesOwn (model X.prog X.w) X.A X.env X.xe)(hc:PT X c tc)(hb:PSs X body tb):PS X (.While c body [] pos) (zmw tc tb):=by
 intro pins s σ H D I h;obtain⟨W,⟨m0,w0⟩,turn⟩:=h;refine wpAny_While (codeAny_whileLoop (fun n s'=>∃σ' H',Inv X pins σ' H' s'/\W n σ' H') ?_ m0 ⟨σ,H,I,w0⟩);rintro n s1 ⟨σ1,H1,I1,w1⟩;refine wpAny_passesOwn hp (thn (hc pins s1 σ1 H1 _ I1 (turn n σ1 H1 w1)) fun b s2 ⟨H2,I2,q2⟩=>?_);cases b with
 | true =>
  obtain⟨N,hN,q2⟩:=q2;rw[if_pos rfl];refine wpAny_passesOwn hp (thn (hb pins s2 σ1 H2 _ I2 q2) fun f s3 q3=>?_);cases f with
  | next =>
   obtain⟨σ3,H3,I3,n3⟩:=q3;obtain⟨m',hm,w3⟩:=hN σ3 H3 n3;exact⟨m',hm,σ3,H3,I3,w3⟩
  | cont =>
   obtain⟨σ3,H3,I3,n3⟩:=q3;obtain⟨m',hm,w3⟩:=hN σ3 H3 n3;exact⟨m',hm,σ3,H3,I3,w3⟩
  | brk=>exact q3
  | ret v=>exact q3
 | false =>
  rw[if_neg zAc];exact wpAny_execs_nil ⟨σ1,H2,I2,q2⟩
end
structure It where
 go:Nat->Hp->Prop
 yld:Nat->Hp->V->Hp->Prop
 stop:Nat->Hp->Prop
def zff(X:Cx)(pins:List (Addr×Obj))(H:Hp)(b:Addr):Prop:=
 H b=none/\b≠X.env.locals/\b∉X.fs/\(b∈X.ex\/X.s_0.heap.objs.size<=b)/\(∀x c,X.env.cells.lookup x=some c->c≠b)/\∀p∈X.pn++pins,p.1≠b
theorem Inv.fpOk{X:Cx}{pins:List (Addr×Obj)}{σ:St}{H H':Hp}{s:Shared}{b:Addr}(I:Inv X pins σ H s)(hb:s.heap.objs.size<=b)(hn:H' b=none):zff X pins H' b:=by
 refine⟨hn,Nat.ne_of_gt (zAq I.lt hb),I.nofs hb,.inr (zBp I.sz hb),fun x c e z=>?_,fun p hp z=>?_⟩
 ·obtain⟨v,q⟩:=I.cell x c e;exact absurd (zAq q.lt (by rw[z];exact hb)) (zCe _)
 ·exact absurd (zAq (Heap.lt_size (I.pin p hp).1) (by rw[z];exact hb)) (zCe _)
structure zh0(P:Program)(w:World)(K:PySem.W.Frag)(tg:Expr)(J:It)(fp:List Addr)(it:Addr)(tn:Nat->Heap->Prop):Prop where
 mem:it∈fp
 obj:∀i h,tn i h->∀b∈fp,∃o,h.get? b=some o/\∀v,o.data≠.cell v
 keep:∀i h h',tn i h->(∀b∈fp,∀o,h.get? b=some o->h'.get? b=some o)->tn i h'
 item:∀(X:Cx),X.prog=P->X.w=w->X.K=K->X.calm=true->∀(i:Nat) (pins:List (Addr×Obj)) (s:Shared) (σ:St) (H:Hp) (E:Value->Shared->Prop),Inv X pins σ H s->(∀b∈fp,zff X pins H b)->tn i s.heap->J.go i H ->
  wpAny (model P w) X.A (pyNext (.ref it)) (fun r s1=>∃u,r=some u /\
   wpAny (model P w) X.A (letOwnedTupleGo tg (.ref it) u) (fun _ s2=>∃x H',Inv X pins σ H' s2/\RelV x u/\J.yld i H x H'/\tn (i+1) s2.heap/\∀b∈fp,H' b=none) E s1) E s
 done:∀(X:Cx),X.prog=P->X.w=w->X.K=K->X.calm=true->∀(i:Nat) (pins:List (Addr×Obj)) (s:Shared) (σ:St) (H:Hp) (E:Value->Shared->Prop),Inv X pins σ H s->(∀b∈fp,zff X pins H b)->tn i s.heap->J.stop i H ->
  wpAny (model P w) X.A (pyNext (.ref it)) (fun r s1=>r=none/\Inv X pins σ H s1) E s
 self:∀(A:Around) (i:Nat) (s:Shared) (Q:Value->Shared->Prop) (E:Value->Shared->Prop),tn i s.heap->Q (.ref it) s->wpAny (model P w) A (pyIter (.ref it)) Q E s
abbrev TI:=St->Hp->(It->Hp->Prop)->Prop
def PIE(X:Cx)(pins:List (Addr×Obj))(σ:St)(tg:Expr)(R:It->Hp->Prop)(itv:Value)(s2:Shared):Prop:=
 ∃(it:Addr) (fp:List Addr) (tn:Nat->Heap->Prop) (J:It) (H':Hp),itv=.ref it/\Inv X pins σ H' s2/\zh0 X.prog X.w X.K tg J fp it tn/\tn 0 s2.heap/\(∀b∈fp,zff X pins H' b)/\R J H'
def PI(X:Cx)(tg iter:Expr)(wi:TI):Prop:=
 ∀(pins:List (Addr×Obj)) (s:Shared) (σ:St) (H:Hp) (R:It->Hp->Prop),Inv X pins σ H s->wi σ H R ->
  wpAny (model X.prog X.w) X.A (eval iter X.env) (fun v s1=>wpAny (model X.prog X.w) X.A (pyIter v) (PIE X pins σ tg R) X.xe s1) X.xe s
theorem zht{M:Model}{A:Around}{E:Value->Shared->Prop}{s:Shared}{tg:Expr}{it:Addr}{u:Value}{o:Obj}{n:String}{vs:Array Value}{Q:Unit->Shared->Prop}(ho:s.heap.get? it=some o)(hc:o.cls=.type n)(hd:o.data=.fields vs)
    (hn:["enumerate", "zip", "dict_itemiterator", "dict_reverseitemiterator", "odict_iterator", "itertools.zip_longest", "itertools.pairwise"].contains n=false) (hQ:Q () s):wpAny M A (letOwnedTupleGo tg (.ref it) u) Q E s:=by
  unfold letOwnedTupleGo;cases tg<;>first
    | exact wpAny_pure hQ
    | (cases u<;>first
        | exact wpAny_pure hQ
        | (refine wpAny_bind (wpAny_load ho ?_)
           rw[hc,hd];show wpAny M A (if (["enumerate", "zip", "dict_itemiterator", "dict_reverseitemiterator", "odict_iterator", "itertools.zip_longest", "itertools.pairwise"].contains n&&vs[0]? == some (rawInt _))=true then _ else _) Q E s;rw[if_neg (by intro h;rw[hn,Bool.false_and] at h;cases h)];exact wpAny_pure hQ))
def Itl(K:PySem.W.Frag)(a:Addr):It:=
 ⟨fun i H=>∃xs x,SqL K H a xs/\xs[i]?=some x,fun i H x H'=>H'=H/\∀xs,SqL K H a xs->xs[i]?=some x,fun i H=>∃xs,SqL K H a xs/\xs.length<=i⟩
def Itt(K:PySem.W.Frag)(a:Addr):It:=
 ⟨fun i H=>∃xs x,SqT K H a xs/\xs[i]?=some x,fun i H x H'=>H'=H/\∀xs,SqT K H a xs->xs[i]?=some x,fun i H=>∃xs,SqT K H a xs/\xs.length<=i⟩
def Itr(lo:Int)(n:Nat):It:=⟨fun i _=>i<n,fun i H x H'=>H'=H/\x=.int (lo+i),fun i _=>n<=i⟩
theorem zlG{P:Program}{w:World}{K:PySem.W.Frag}{tg:Expr}(a it:Addr):zh0 P w K tg (Itl K a) [it] it (fun i h=>h.IsListIter it a i) where
 mem:=by simp
 obj:=fun i h st b hb=>by
  have e:b=it:=by simpa using hb
  subst e;obtain⟨o,e,c,d⟩:=st;exact⟨o,e,fun v z=>by rw[d] at z;cases z⟩
 keep:=fun i h h' st k=>st.at fun o e=>k it (by simp) o e
 item:=by
  intro X hP hw hK hc i pins s σ H E I hf st hg;subst hP hw hK;obtain⟨xs,x,hq,hx⟩:=hg;obtain⟨its,rv,p,hz⟩:=I.list hq;obtain⟨u,hu,ru⟩:=rv.get hx;obtain⟨f0,f1,f2,f3,f4,f5⟩:=hf it (by simp);refine wpAny_pyNext_list_item st p.isList (x:=u) (by simpa using hu) fun h' st' sb=>?_;have I1:Inv X pins σ H {s with heap:=h'}:=I.turned (t':=s.toks) (fun b o hb e=>(sb.2 b hb).trans e) f0 f1 f3 f4 f5;obtain⟨o,e,c,d⟩:=id st';exact⟨u,rfl,zht (s:={s with heap:=h'}) e c d (by decide) ⟨x,H,I1,ru,⟨rfl,fun ys hy=>by rw[I.list_inj hy hq];exact hx⟩,st',fun b hb=>(hf b hb).1⟩⟩
 done:=by
  intro X hP hw hK hc i pins s σ H E I hf st hg;subst hP hw hK;obtain⟨xs,hq,hx⟩:=hg;obtain⟨its,rv,p,hz⟩:=I.list hq;obtain⟨f0,f1,f2,f3,f4,f5⟩:=hf it (by simp);have hl:=rv.length;exact wpAny_pyNext_list_end (I.ok.hd hc) st p.isList (by simp;omega) fun h' eb=>⟨rfl,I.turned (t':=s.toks) (fun b o hb e=>eb b o hb e) f0 f1 f3 f4 f5⟩
 self:=fun _ _ _ _ _ st h=>wpAny_pyIter_listiter st h
theorem zkb{P:Program}{w:World}{K:PySem.W.Frag}{tg:Expr}(a it:Addr):zh0 P w K tg (Itt K a) [it] it (fun i h=>h.IsTupleIter it a i) where
 mem:=by simp
 obj:=fun i h st b hb=>by
  have e:b=it:=by simpa using hb
  subst e;obtain⟨o,e,c,d⟩:=st;exact⟨o,e,fun v z=>by rw[d] at z;cases z⟩
 keep:=fun i h h' st k=>st.at fun o e=>k it (by simp) o e
 item:=by
  intro X hP hw hK hc i pins s σ H E I hf st hg;subst hP hw hK;obtain⟨xs,x,hq,hx⟩:=hg;obtain⟨its,rv,p,hz⟩:=I.tuple hq;obtain⟨u,hu,ru⟩:=rv.get hx;obtain⟨f0,f1,f2,f3,f4,f5⟩:=hf it (by simp);refine wpAny_pyNext_tuple_item st (show s.heap.IsTuple a its.toArray from p) (x:=u) (by simpa using hu) fun h' st' sb=>?_;have I1:Inv X pins σ H {s with heap:=h'}:=I.turned (t':=s.toks) (fun b o hb e=>(sb.2 b hb).trans e) f0 f1 f3 f4 f5;obtain⟨o,e,c,d⟩:=id st';exact⟨u,rfl,zht (s:={s with heap:=h'}) e c d (by decide) ⟨x,H,I1,ru,⟨rfl,fun ys hy=>by rw[I.tuple_inj hy hq];exact hx⟩,st',fun b hb=>(hf b hb).1⟩⟩
 done:=by
  intro X hP hw hK hc i pins s σ H E I hf st hg;subst hP hw hK;obtain⟨xs,hq,hx⟩:=hg;obtain⟨its,rv,p,hz⟩:=I.tuple hq;obtain⟨f0,f1,f2,f3,f4,f5⟩:=hf it (by simp);have hl:=rv.length;exact wpAny_pyNext_tuple_end (I.ok.hd hc) st (show s.heap.IsTuple a its.toArray from p) (by simp;omega) fun h' eb=>⟨rfl,I.turned (t':=s.toks) (fun b o hb e=>eb b o hb e) f0 f1 f3 f4 f5⟩
 self:=fun _ _ _ _ _ st h=>wpAny_pyIter_tupleiter st h
theorem zkc{P:Program}{w:World}{K:PySem.W.Frag}{tg:Expr}(it:Addr)(lo:Int)(n:Nat):zh0 P w K tg (Itr lo n) [it] it (fun i h=>IsRangeIter h it (lo+(i:Nat)*1) ((n:Int) - (i:Nat)) 1) where
 mem:=by simp
 obj:=fun i h st b hb=>by
  have e:b=it:=by simpa using hb
  subst e;exact⟨_,st,fun v z=>by
   have z':Data.fields _=Data.cell v:=z;cases z'⟩
 keep:=fun i h h' st k=>k it (by simp) _ st
 item:=by
  intro X hP hw hK hc i pins s σ H E I hf st hg;subst hP hw hK;obtain⟨f0,f1,f2,f3,f4,f5⟩:=hf it (by simp);have W:=Walks.range (prog:=X.prog) (w:=X.w) (I.ok.hd hc) it lo 1 n;refine W.item i s _ _ hg st fun v h' tk hv st' kk=>?_;obtain⟨t,rfl⟩:=hv;have I1:Inv X pins σ H {s with heap:=h',toks:=tk}:=I.turned (fun b o hb e=>kk b o (by simpa using hb) e) f0 f1 f3 f4 f5;refine⟨_,rfl,zht (s:={s with heap:=h',toks:=tk}) (n:="range_iterator") st' rfl rfl (by decide) ⟨.int (lo+i),H,I1,⟨t,?_⟩,⟨rfl,rfl⟩,st',fun b hb=>(hf b hb).1⟩⟩;rw[Int.mul_one]
 done:=by
  intro X hP hw hK hc i pins s σ H E I hf st hg;subst hP hw hK;obtain⟨f0,f1,f2,f3,f4,f5⟩:=hf it (by simp);exact wpAny_pyNext_range_end (I.ok.hd hc) st (by have:n<=i:=hg;omega) fun h' eb=>⟨rfl,I.turned (t':=s.toks) (fun b o hb e=>eb b o hb e) f0 f1 f3 f4 f5⟩
 self:=fun _ _ _ _ _ st h=>wpAny_pyIter_rangeiter st h
end L2
namespace L2
open PySem PySem.Spec PyProof.Rows
section
variable{X:Cx}{tg:Expr}
def zls(K:PySem.W.Frag)(tl:TE):TI:=fun σ H R=>tl σ H fun x H1=>∃a,x=.ref a/\(∃xs,SqL K H1 a xs)/\R (Itl K a) H1
def zrT(K:PySem.W.Frag)(tl:TE):TI:=fun σ H R=>tl σ H fun x H1=>∃a,x=.ref a/\(∃xs,SqT K H1 a xs)/\R (Itt K a) H1
theorem zbA{l:Expr}{tl:TE}(hl:PE X l tl):PI X tg l (zls X.K tl):=by
 intro pins s σ H R I h;refine thn (hl pins s σ H _ I h) fun v s1 ⟨x,H1,I1,r1,q1⟩=>?_;obtain⟨a,e,⟨xs,hq⟩,q⟩:=q1;subst e;cases r1
 obtain⟨its,rv,p,hz⟩:=I1.list hq;refine wpAny_pyIter_list p.isList ?_;refine⟨s1.heap.objs.size,[s1.heap.objs.size],_,_,H1,rfl,I1.kept (t':=s1.toks) fun b o e=>Heap.get?_push_of_some _ e,zlG a _,⟨_,Heap.get?_push_size _ rfl,rfl,rfl⟩,fun b hb=>?_,q⟩;have e:b=s1.heap.objs.size:=by simpa using hb
 subst e;exact I1.fpOk (zAi _) (I1.hok.fresh (zAi _))
theorem zpX{l:Expr}{tl:TE}(hl:PE X l tl):PI X tg l (zrT X.K tl):=by
 intro pins s σ H R I h;refine thn (hl pins s σ H _ I h) fun v s1 ⟨x,H1,I1,r1,q1⟩=>?_;obtain⟨a,e,⟨xs,hq⟩,q⟩:=q1;subst e;cases r1
 obtain⟨its,rv,p,hz⟩:=I1.tuple hq;refine wpAny_pyIter_tuple (show s1.heap.IsTuple a its.toArray from p) ?_;refine⟨s1.heap.objs.size,[s1.heap.objs.size],_,_,H1,rfl,I1.kept (t':=s1.toks) fun b o e=>Heap.get?_push_of_some _ e,zkb a _,⟨_,Heap.get?_push_size _ rfl,rfl,rfl⟩,fun b hb=>?_,q⟩;have e:b=s1.heap.objs.size:=by simpa using hb
 subst e;exact I1.fpOk (zAi _) (I1.hok.fresh (zAi _))
theorem zmZ{pins:List (Addr×Obj)}{σ:St}{H:Hp}{s:Shared}{R:It->Hp->Prop}{E:Value->Shared->Prop}{lo hi:Int}{t u v:Tok}{tk:Nat}(I:Inv X pins σ H s)(h1:-(2 ^ 62)<=lo)(h2:lo<2 ^ 62)(h3:-(2 ^ 62)<=hi)(h4:hi<2 ^ 62)
  (q:R (Itr lo (hi - lo).toNat) H):wpAny (model X.prog X.w) X.A (pyIter (.ref s.heap.objs.size)) (PIE X pins σ tg R) E {s with heap:=s.heap.push {cls:=.type "range",data:=.fields #[.int lo t,.int hi u,.int 1 v]},toks:=tk}:=by
 refine wpAny_pyIter_range (IsRange.new ..) (small_one h1 h2 h3 h4) ?_;have I1:Inv X pins σ H {s with heap:=s.heap.push {cls:=.type "range",data:=.fields #[.int lo t,.int hi u,.int 1 v]},toks:=tk}:=I.kept fun b o e=>Heap.get?_push_of_some _ e;refine⟨(s.heap.push {cls:=.type "range",data:=.fields #[.int lo t,.int hi u,.int 1 v]}).objs.size,[(s.heap.push {cls:=.type "range",data:=.fields #[.int lo t,.int hi u,.int 1 v]}).objs.size],_,_,H,rfl,
  I1.kept (t':=tk) fun b o e=>Heap.get?_push_of_some _ e,zkc _ lo (hi - lo).toNat,?_,fun b hb=>?_,q⟩
 ·have e1:lo+((0:Nat):Int)*1=lo:=by simp
  have e2:(((hi - lo).toNat:Nat):Int) - ((0:Nat):Int)=Builtin.Range.rangeSize lo hi 1:=by rw[rangeSize_one];split<;>omega
  show IsRangeIter _ _ (lo+((0:Nat):Int)*1) ((((hi - lo).toNat:Nat):Int) - ((0:Nat):Int)) 1;rw[e1,e2];exact Heap.get?_push_size _ rfl
 ·have e:b=(s.heap.push {cls:=.type "range",data:=.fields #[.int lo t,.int hi u,.int 1 v]}).objs.size:=by simpa using hb
  subst e;exact I1.fpOk (zAi _) (I1.hok.fresh (zAi _))
def znD(ta:TA):TI:=fun σ H R=>ta σ H fun vs H1=>∃i j:Int,vs=[.int i,.int j]/\(-(2 ^ 62)<=i/\i<2 ^ 62/\-(2 ^ 62)<=j/\j<2 ^ 62)/\R (Itr i (j - i).toNat) H1
theorem zie{a b:Expr}{ta:TA}{p pos:Pos}(hg:Gl X "range")(hm:X.mg "range" = none)(ha:PA X [a,b] ta)(hs:starEach [a,b] X.env=[(false,eval a X.env),(false,eval b X.env)]:=by rfl)(hs2:starEach [b] X.env=[(false,eval b X.env)]:=by rfl) :
  PI X tg (.Call (.Name "range" p) [a,b] [] pos) (znD ta):=by
 intro pins s σ H R I h;refine Call_ (zey I hg hm boot_range (PyProof.Rows.callWith_type1 (thn (ha pos pins s σ H _ I h) fun us s1 ⟨vs,H1,I1,r1,q1⟩=>?_) (by rw[hs,hs2]) (by rw[hs2];rfl)));obtain⟨i,j,e,⟨q1,q2,q3,q4⟩,q⟩:=q1;subst e;cases r1 with
 | cons r rr =>
  cases rr with
  | cons r' rr =>
   cases rr
   obtain⟨t,rfl⟩:=r;obtain⟨t',rfl⟩:=r';exact call_range_2 (zmZ I1 q1 q2 q3 q4 q)
def zkf(wi:TI)(g:TG)(tb:TS):TS:=fun D σ H=>wi σ H fun J H1=>∃W:Nat->Nat->St->Hp->Prop,(∃m,W 0 m σ H1)/\∀i m σ H,W i m σ H ->
 (J.stop i H/\D.nx σ H)\/(J.go i H/\∃N:St->Hp->Prop,(∀σ' H',N σ' H'->∃m',m'<m/\W (i+1) m' σ' H')/\∀x H',J.yld i H x H'->g x σ H' fun σ2 H2=>tb {D with nx:=N,ct:=N,bk:=D.nx} σ2 H2)
def zc0(fp:List Addr)(h:Heap):List (Addr×Obj):=fp.filterMap fun b=>(h.get? b).map fun o=>(b,o)
theorem zc7{fp:List Addr}{h:Heap}{b:Addr}{o:Obj}(hb:b∈fp)(e:h.get? b=some o):(b,o)∈zc0 fp h:=List.mem_filterMap.mpr ⟨b,hb,by rw[e];rfl⟩
theorem zl0{fp:List Addr}{h:Heap}{p:Addr×Obj}(hp:p∈zc0 fp h):p.1∈fp/\h.get? p.1=some p.2:=by
 obtain⟨b,hb,e⟩:=List.mem_filterMap.mp hp;cases q:h.get? b with
 | none=>rw[q] at e;cases e
 | some o =>
  rw[q] at e;have e':(b,o)=p:=zBd e;subst e';exact⟨hb,q⟩
theorem Inv.pinned{pins:List (Addr×Obj)}{σ:St}{H:Hp}{s:Shared}{fp:List Addr}(I:Inv X pins σ H s)(hf:∀b∈fp,zff X pins H b)(ho:∀b∈fp,∃o,s.heap.get? b=some o/\∀v,o.data≠.cell v):Inv X (pins++zc0 fp s.heap) σ H s:=
 I.pins_of fun p hp=>(zAw hp).elim (fun z=>I.pin p (zAl _ z)) fun z=>by
  obtain⟨hb,e⟩:=zl0 z;obtain⟨f0,f1,f2,_⟩:=hf p.1 hb;obtain⟨o,e',d⟩:=ho p.1 hb;rw[e] at e';cases e';exact⟨e,f0,f1,f2,d⟩
theorem Inv.unpinned{pins pl:List (Addr×Obj)}{σ:St}{H:Hp}{s:Shared}(I:Inv X (pins++pl) σ H s):Inv X pins σ H s:=I.pins_of fun p hp=>I.pin p (zAl _ (zAj _ hp))
theorem zbX{iter:Expr}{body:List Stmt}{wi:TI}{g:TG}{tb:TS}{pos:Pos}(hp:PassesOwn (model X.prog X.w) X.A X.env X.xe)(hc:X.calm=true)(hi:PI X tg iter wi)(hg:PG X tg g)(hb:PSs X body tb)
  (hs:∀x,foldedSetIterable iter X.env x=pure x:=by intro _;rfl):PS X (.For tg iter body [] pos) (zkf wi g tb):=by
 intro pins s σ H D I h;refine wpAny_For (thn (hi pins s σ H _ I h) fun v s1 h1=>thn h1 fun itv s2 h2=>?_) hs;obtain⟨it,fp,tn,J,H2,e,I2,T,st2,f2,W,⟨m0,w0⟩,turn⟩:=h2;subst e;have stat:∀ {H':Hp},(∀b∈fp,H' b=none)->∀b∈fp,zff X pins H' b:=fun hn b hb=>⟨hn b hb,(f2 b hb).2⟩;refine codeAny_forLoop_any (fun n s'=>∃i σ' H',Inv X pins σ' H' s'/\tn i s'.heap/\(∀b∈fp,H' b=none)/\W i n σ' H') ?_ m0 ⟨0,σ,H2,I2,st2,fun b hb=>(f2 b hb).1,w0⟩;rintro n s3 ⟨i,σ3,H3,I3,st3,fr3,w3⟩;rcases turn i n σ3 H3 w3 with⟨stop,qn⟩|⟨go,N,hN,step⟩
 ·refine wpAny_passesOwn hp (thn (T.done X rfl rfl rfl hc i pins s3 σ3 H3 X.xe I3 (stat fr3) st3 stop) fun r s4 ⟨hr,I4⟩=>?_);subst hr;exact wpAny_execs_nil ⟨σ3,H3,I4,qn⟩
 ·refine wpAny_passesOwn hp (thn (T.item X rfl rfl rfl hc i pins s3 σ3 H3 X.xe I3 (stat fr3) st3 go) fun r s4 ⟨u,hr,h4⟩=>?_);subst hr;refine wpAny_passesOwn hp (thn h4 fun _ s5 ⟨x,H5,I5,r5,y5,st5,fr5⟩=>?_);have I5':=I5.pinned (stat fr5) (T.obj _ _ st5);refine wpAny_passesOwn hp (thn (hg _ s5 σ3 H5 x u _ I5' r5 (step x H5 y5)) fun _ s6 ⟨σ6,H6,I6,q6⟩=>?_);refine wpAny_passesOwn hp (thn (hb _ s6 σ6 H6 _ I6 q6) fun f s7 q7=>?_);have again:∀ {σ7:St}{H7:Hp},Inv X (pins++zc0 fp s5.heap) σ7 H7 s7->N σ7 H7->∃m,m<n/\∃i σ' H',Inv X pins σ' H' s7/\tn i s7.heap/\(∀b∈fp,H' b=none)/\W i m σ' H':=fun{σ7 H7} I7 n7=>by
   obtain⟨m',hm,w7⟩:=hN σ7 H7 n7;refine⟨m',hm,i+1,σ7,H7,I7.unpinned,T.keep _ _ _ st5 fun b hb o e=>(I7.pin (b,o) (zAl _ (zAl _ (zc7 hb e)))).1,fun b hb=>?_,w7⟩;obtain⟨o,e,d⟩:=T.obj _ _ st5 b hb;exact(I7.pin (b,o) (zAl _ (zAl _ (zc7 hb e)))).2.1
  cases f with
  | next=>obtain⟨σ7,H7,I7,n7⟩:=q7;exact again I7 n7
  | cont=>obtain⟨σ7,H7,I7,n7⟩:=q7;exact again I7 n7
  | brk=>obtain⟨σ7,H7,I7,q7⟩:=q7;exact⟨σ7,H7,I7.unpinned,q7⟩
  | ret v=>obtain⟨x7,σ7,H7,I7,r7,q7⟩:=q7;exact⟨x7,σ7,H7,I7.unpinned,r7,q7⟩
end
theorem zbP{K:PySem.W.Frag}{a:Addr}{xs:List V}{g:TG}{tb:TS}{D:zdc}{σ:St}{H:Hp}(Pv:Nat->St->Hp->Prop)(h0:Pv 0 σ H)(hl:∀i σ H,i<=xs.length->Pv i σ H->SqL K H a xs)
  (hs:∀i x σ H,xs[i]?=some x->Pv i σ H->g x σ H fun σ2 H2=>tb {D with nx:=Pv (i+1),ct:=Pv (i+1),bk:=D.nx} σ2 H2) (hd:∀σ H,Pv xs.length σ H->D.nx σ H) :
  ∃W:Nat->Nat->St->Hp->Prop,(∃m,W 0 m σ H)/\∀i m σ H,W i m σ H ->
   ((Itl K a).stop i H/\D.nx σ H)\/((Itl K a).go i H/\∃N:St->Hp->Prop,(∀σ' H',N σ' H'->∃m',m'<m/\W (i+1) m' σ' H')/\∀x H',(Itl K a).yld i H x H'->g x σ H' fun σ2 H2=>tb {D with nx:=N,ct:=N,bk:=D.nx} σ2 H2):=by
 refine⟨fun i m σ H=>m=xs.length - i/\i<=xs.length/\Pv i σ H,⟨xs.length,by simp,zAx _,h0⟩,?_⟩;rintro i m σ H ⟨rfl,hi,p⟩;have q:=hl i σ H hi p;by_cases hlt:i<xs.length
 ·refine .inr ⟨⟨xs,xs[i],q,by simp[hlt]⟩,Pv (i+1),fun σ' H' p'=>⟨xs.length - (i+1),by omega,rfl,hlt,p'⟩,fun x H' y=>?_⟩;obtain⟨e,y⟩:=y;subst e;exact hs i x σ _ (y xs q) p
 ·have e:i=xs.length:=by omega
  subst e;exact .inl ⟨⟨xs,q,zAi _⟩,hd σ H p⟩
theorem zoZ{K:PySem.W.Frag}{a:Addr}{xs:List V}{g:TG}{tb:TS}{D:zdc}{σ:St}{H:Hp}(Pv:Nat->St->Hp->Prop)(h0:Pv 0 σ H)(hl:∀i σ H,i<=xs.length->Pv i σ H->SqT K H a xs)
  (hs:∀i x σ H,xs[i]?=some x->Pv i σ H->g x σ H fun σ2 H2=>tb {D with nx:=Pv (i+1),ct:=Pv (i+1),bk:=D.nx} σ2 H2) (hd:∀σ H,Pv xs.length σ H->D.nx σ H) :
  ∃W:Nat->Nat->St->Hp->Prop,(∃m,W 0 m σ H)/\∀i m σ H,W i m σ H ->
   ((Itt K a).stop i H/\D.nx σ H)\/((Itt K a).go i H/\∃N:St->Hp->Prop,(∀σ' H',N σ' H'->∃m',m'<m/\W (i+1) m' σ' H')/\∀x H',(Itt K a).yld i H x H'->g x σ H' fun σ2 H2=>tb {D with nx:=N,ct:=N,bk:=D.nx} σ2 H2):=by
 refine⟨fun i m σ H=>m=xs.length - i/\i<=xs.length/\Pv i σ H,⟨xs.length,by simp,zAx _,h0⟩,?_⟩;rintro i m σ H ⟨rfl,hi,p⟩;have q:=hl i σ H hi p;by_cases hlt:i<xs.length
 ·refine .inr ⟨⟨xs,xs[i],q,by simp[hlt]⟩,Pv (i+1),fun σ' H' p'=>⟨xs.length - (i+1),by omega,rfl,hlt,p'⟩,fun x H' y=>?_⟩;obtain⟨e,y⟩:=y;subst e;exact hs i x σ _ (y xs q) p
 ·have e:i=xs.length:=by omega
  subst e;exact .inl ⟨⟨xs,q,zAi _⟩,hd σ H p⟩
theorem zma{lo:Int}{n:Nat}{g:TG}{tb:TS}{D:zdc}{σ:St}{H:Hp}(Pv:Nat->St->Hp->Prop)(h0:Pv 0 σ H)
  (hs:∀i σ H,i<n->Pv i σ H->g (.int (lo+i)) σ H fun σ2 H2=>tb {D with nx:=Pv (i+1),ct:=Pv (i+1),bk:=D.nx} σ2 H2) (hd:∀σ H,Pv n σ H->D.nx σ H) :
  ∃W:Nat->Nat->St->Hp->Prop,(∃m,W 0 m σ H)/\∀i m σ H,W i m σ H ->
   ((Itr lo n).stop i H/\D.nx σ H)\/((Itr lo n).go i H/\∃N:St->Hp->Prop,(∀σ' H',N σ' H'->∃m',m'<m/\W (i+1) m' σ' H')/\∀x H',(Itr lo n).yld i H x H'->g x σ H' fun σ2 H2=>tb {D with nx:=N,ct:=N,bk:=D.nx} σ2 H2):=by
 refine⟨fun i m σ H=>m=n - i/\i<=n/\Pv i σ H,⟨n,by simp,zAx _,h0⟩,?_⟩;rintro i m σ H ⟨rfl,hi,p⟩;by_cases hlt:i<n
 ·refine .inr ⟨hlt,Pv (i+1),fun σ' H' p'=>⟨n - (i+1),by omega,rfl,hlt,p'⟩,fun x H' y=>?_⟩;obtain⟨e,y⟩:=y;subst e y;exact hs i σ _ hlt p
 ·have e:i=n:=by omega
  subst e;exact .inl ⟨zAi _,hd σ H p⟩
end L2
namespace L2
open PySem PySem.Spec PyProof.Rows
abbrev R2:=V->V->Hp->VK->Prop
def OpR(X:Cx)(f:Value->Value->Sem Value)(r:R2):Prop:=
 ∀(pins:List (Addr×Obj)) (s:Shared) (σ:St) (H:Hp) (x y:V) (v u:Value) (Q:VK),Inv X pins σ H s->RelV x v->RelV y u->r x y H Q ->
  wpAny (model X.prog X.w) X.A (f v u) (EP X pins σ Q) X.xe s
def UnR(X:Cx)(f:Value->Sem Value)(r:V->Hp->VK->Prop):Prop:=
 ∀(pins:List (Addr×Obj)) (s:Shared) (σ:St) (H:Hp) (x:V) (v:Value) (Q:VK),Inv X pins σ H s->RelV x v->r x H Q ->
  wpAny (model X.prog X.w) X.A (f v) (EP X pins σ Q) X.xe s
def zdl(X:Cx)(f:Value)(r:List V->Hp->VK->Prop):Prop:=
 ∀(pins:List (Addr×Obj)) (s:Shared) (σ:St) (H:Hp) (xs:List V) (us:List Value) (Q:VK),Inv X pins σ H s->Vals xs us->r xs H Q ->
  wpAny (model X.prog X.w) X.A (call f us) (EP X pins σ Q) X.xe s
def zsp(X:Cx)(r:V->Hp->(Bool->Hp->Prop)->Prop):Prop:=
 ∀(pins:List (Addr×Obj)) (s:Shared) (σ:St) (H:Hp) (x:V) (v:Value) (Q:Bool->Hp->Prop),Inv X pins σ H s->RelV x v->r x H Q ->
  wpAny (model X.prog X.w) X.A (truthy v) (TP X pins σ Q) X.xe s
def tOp(r:R2)(ta tb:TE):TE:=fun σ H Q=>ta σ H fun x H1=>tb σ H1 fun y H2=>r x y H2 Q
def tUn(r:V->Hp->VK->Prop)(ta:TE):TE:=fun σ H Q=>ta σ H fun x H1=>r x H1 Q
def rI(C:Int->Int->Prop)(g:Int->Int->V):R2:=fun x y H Q=>∃i j,x=.int i/\y=.int j/\C i j/\Q (g i j) H
def rI0(g:Int->Int->V):R2:=fun x y H Q=>∃i j,x=.int i/\y=.int j/\Q (g i j) H
def rU(g:Int->V):V->Hp->VK->Prop:=fun x H Q=>∃i,x=.int i/\Q (g i) H
section
variable{X:Cx}{a b c:Expr}{ta tb tc:TE}{pos:Pos}
theorem zqR(ha:PE X a ta)(hb:PE X b tb){pins:List (Addr×Obj)}{s:Shared}{σ:St}{H:Hp}{R:V->V->Hp->Prop}(I:Inv X pins σ H s)
  (h:ta σ H fun x H1=>tb σ H1 fun y H2=>R x y H2) {Q:Value->Shared->Prop}{f:Value->Value->Sem Value}
  (hf:∀v u s2 x y H2,Inv X pins σ H2 s2->RelV x v->RelV y u->R x y H2->wpAny (model X.prog X.w) X.A (f v u) Q X.xe s2) :
  wpAny (model X.prog X.w) X.A (eval a X.env) (fun v s₁=>wpAny (model X.prog X.w) X.A (eval b X.env) (fun u s₂=>wpAny (model X.prog X.w) X.A (f v u) Q X.xe s₂) X.xe s₁) X.xe s:=by
 refine thn (ha pins s σ H _ I h) fun v s1 ⟨x,H1,I1,r1,q1⟩=>?_;refine thn (hb pins s1 σ H1 _ I1 q1) fun u s2 ⟨y,H2,I2,r2,q2⟩=>?_;exact hf v u s2 x y H2 I2 r1 r2 q2
theorem zaD{op:Operator}{r:R2}(ho:OpR X (binaryOp op) r)(ha:PE X a ta)(hb:PE X b tb):PE X (.BinOp a op b pos) (tOp r ta tb):=by
 intro pins s σ H Q I h;exact wpAny_BinOp (zqR ha hb I h fun v u s2 x y H2 I2 rx ry q=>ho pins s2 σ H2 x y v u Q I2 rx ry q)
theorem zcc{op:UnaryOp}{r:V->Hp->VK->Prop}(ho:UnR X (unaryOp op) r)(ha:PE X a ta):PE X (.UnaryOp op a pos) (tUn r ta):=by
 intro pins s σ H Q I h;exact UnaryOp_ (thn (ha pins s σ H _ I h) fun v s1 ⟨x,H1,I1,r1,q1⟩=>ho pins s1 σ H1 x v Q I1 r1 q1)
theorem opI{f:Value->Value->Sem Value}{C:Int->Int->Prop}{g:Int->Int->Int}
  (rule:∀(i j:Int) (t u:Tok) (s:Shared) (Q:Value->Shared->Prop) (E:Value->Shared->Prop),C i j->Q (.int (g i j) s.toks) {s with toks:=s.toks+1}->wpAny (model X.prog X.w) X.A (f (.int i t) (.int j u)) Q E s) :
  OpR X f (rI C fun i j=>.int (g i j)):=by
 intro pins s σ H x y v u Q I rx ry h;obtain⟨i,j,rfl,rfl,hc,q⟩:=h;obtain⟨t,rfl⟩:=rx;obtain⟨t',rfl⟩:=ry;exact rule i j t t' s _ _ hc ⟨.int (g i j),H,I.tok _,⟨_,rfl⟩,q⟩
theorem zrg{f:Value->Value->Sem Value}{g:Int->Int->Int}
  (rule:∀(i j:Int) (t u:Tok) (s:Shared) (Q:Value->Shared->Prop) (E:Value->Shared->Prop),Q (.int (g i j) s.toks) {s with toks:=s.toks+1}->wpAny (model X.prog X.w) X.A (f (.int i t) (.int j u)) Q E s) :
  OpR X f (rI0 fun i j=>.int (g i j)):=by
 intro pins s σ H x y v u Q I rx ry h;obtain⟨i,j,rfl,rfl,q⟩:=h;obtain⟨t,rfl⟩:=rx;obtain⟨t',rfl⟩:=ry;exact rule i j t t' s _ _ ⟨.int (g i j),H,I.tok _,⟨_,rfl⟩,q⟩
theorem zoy{f:Value->Value->Sem Value}{g:Int->Int->Bool}
  (rule:∀(i j:Int) (t u:Tok) (s:Shared) (Q:Value->Shared->Prop) (E:Value->Shared->Prop),Q (.bool (g i j)) s->wpAny (model X.prog X.w) X.A (f (.int i t) (.int j u)) Q E s) :
  OpR X f (rI0 fun i j=>.bl (g i j)):=by
 intro pins s σ H x y v u Q I rx ry h;obtain⟨i,j,rfl,rfl,q⟩:=h;obtain⟨t,rfl⟩:=rx;obtain⟨t',rfl⟩:=ry;exact rule i j t t' s _ _ ⟨.bl (g i j),H,I,rfl,q⟩
def zsr(i j:Int):Prop:=0<j/\j<1073741824
def CMul(i j:Int):Prop:=(-(2 ^ 64)<i/\i<2 ^ 64)\/(-(2 ^ 64)<j/\j<2 ^ 64)
theorem CMul.ok{i j:Int}(h:CMul i j):IntMulOk i j:=by
 rcases h with⟨h1,h2⟩|⟨h1,h2⟩
 ·exact .of_left (intBits_le_64 h1 h2)
 ·exact .of_right (intBits_le_64 h1 h2)
theorem zbf:OpR X (binaryOp .Add) (rI0 fun i j=>.int (i+j)):=zrg fun _ _ _ _ _ _ _ q=>add_int q
theorem zca:OpR X (binaryOp .Sub) (rI0 fun i j=>.int (i - j)):=zrg fun _ _ _ _ _ _ _ q=>sub_int q
theorem zfw:OpR X (binaryOp .Mult) (rI CMul fun i j=>.int (i*j)):=opI fun _ _ _ _ _ _ _ hc q=>mul_int q hc.ok
theorem zlh:OpR X (binaryOp .FloorDiv) (rI zsr fun i j=>.int (i / j)):=opI fun i j _ _ _ _ _ hc q=>by
 have h1:(0:Int)<j:=hc.1;have h2:j<1073741824:=hc.2;exact floordiv_int (by omega) (by rw[Int.fdiv_eq_ediv_of_nonneg i (by omega)];exact q) (.inl (PyProof.noPylong_small (by omega)))
theorem zm_:OpR X (binaryOp .Mod) (rI (fun _ j=>0<j) fun i j=>.int (i % j)):=opI fun i j _ _ _ _ _ hc q=>by
 have h1:(0:Int)<j:=hc;exact mod_int' (by omega) (by rw[Int.fmod_eq_emod_of_nonneg i (by omega)];exact q)
theorem unI{f:Value->Sem Value}{g:Int->Int}
  (rule:∀(i:Int) (t:Tok) (s:Shared) (Q:Value->Shared->Prop) (E:Value->Shared->Prop),Q (.int (g i) s.toks) {s with toks:=s.toks+1}->wpAny (model X.prog X.w) X.A (f (.int i t)) Q E s) :
  UnR X f (rU fun i=>.int (g i)):=by
 intro pins s σ H x v Q I rx h;obtain⟨i,rfl,q⟩:=h;obtain⟨t,rfl⟩:=rx;exact rule i t s _ _ ⟨.int (g i),H,I.tok _,⟨_,rfl⟩,q⟩
theorem zbz:UnR X (unaryOp .USub) (rU fun i=>.int (-i)):=unI fun _ _ _ _ _ q=>neg_int q
end
def zog:V->V->Bool
 | .non,.non=>true|.non,.int _=>true|.int _,.non=>true|.non,.bl _=>true|.bl _,.non=>true|.non,.str _=>true|.str _,.non=>true
 | .int _,.int _=>true|.bl _,.bl _=>true|.str _,.str _=>true|.byt _,.byt _=>true
 | .int _,.str _=>true|.str _,.int _=>true|.bl _,.str _=>true|.str _,.bl _=>true
 | _,_=>false
def rEq:R2:=fun x y H Q=>zog x y=true/\Q (.bl (decide (x=y))) H
def rNe:R2:=fun x y H Q=>zog x y=true/\Q (.bl (!decide (x=y))) H
theorem zly{i j:Int}:decide (V.int i=V.int j)=(i == j):=by
 rw[zCg];simp
theorem znO{i j:Bool}:decide (V.bl i=V.bl j)=(i == j):=by
 rw[zCg];simp
theorem zlx{i j:Str}:decide (V.str i=V.str j)=(i == j):=by
 rw[zCg];simp
theorem zlz{i j:Array UInt8}:decide (V.byt i=V.byt j)=(i.toList == j.toList):=by
 rw[zCg];cases i
 cases j
 simp
section
variable{X:Cx}{a b c:Expr}{ta tb tc:TE}{pos:Pos}
theorem zaZ{pins:List (Addr×Obj)}{σ:St}{H:Hp}{s:Shared}{Q:VK}{k k':Bool}(I:Inv X pins σ H s)(q:Q (.bl k) H)(e:k=k'):EP X pins σ Q (.bool k') s:=by
 subst e;exact⟨.bl k,H,I,rfl,q⟩
theorem zaK:OpR X (compareOp .Eq) rEq:=by
 intro pins s σ H x y v u Q I rx ry h;obtain⟨hs,q⟩:=h;cases x with
 | non =>
  cases rx
  cases y with
  | non=>cases ry;exact PySem.EqNone.eq_none_none (zaZ I q (by simp))
  | bl j=>cases ry;exact PySem.EqNone.eq_none_bool (zaZ I q (by simp))
  | int j=>obtain⟨t',rfl⟩:=ry;exact PySem.EqNone.eq_none_int (zaZ I q (by simp))
  | str j=>obtain⟨t',rfl⟩:=ry;exact PySem.EqNone.eq_none_str (zaZ I q (by simp))
  | _=>exact absurd (show false=true from hs) zAc
 | bl i =>
  cases rx
  cases y with
  | non=>cases ry;exact PySem.EqNone.eq_bool_none (zaZ I q (by simp))
  | bl j=>cases ry;exact eq_bool (zaZ I q znO)
  | str j=>obtain⟨t',rfl⟩:=ry;exact PySem.EqMixed.eq_bool_str (zaZ I q (by simp))
  | _=>exact absurd (show false=true from hs) zAc
 | int i =>
  obtain⟨t,rfl⟩:=rx;cases y with
  | non=>cases ry;exact PySem.EqNone.eq_int_none (zaZ I q (by simp))
  | int j=>obtain⟨t',rfl⟩:=ry;exact eq_int (zaZ I q zly)
  | str j=>obtain⟨t',rfl⟩:=ry;exact PySem.EqMixed.eq_int_str (zaZ I q (by simp))
  | _=>exact absurd (show false=true from hs) zAc
 | str i =>
  obtain⟨t,rfl⟩:=rx;cases y with
  | non=>cases ry;exact PySem.EqNone.eq_str_none (zaZ I q (by simp))
  | bl j=>cases ry;exact PySem.EqMixed.eq_str_bool (zaZ I q (by simp))
  | int j=>obtain⟨t',rfl⟩:=ry;exact PySem.EqMixed.eq_str_int (zaZ I q (by simp))
  | str j=>obtain⟨t',rfl⟩:=ry;exact eq_str (zaZ I q zlx)
  | _=>exact absurd (show false=true from hs) zAc
 | byt i =>
  obtain⟨t,rfl⟩:=rx;cases y with
  | byt j=>obtain⟨t',rfl⟩:=ry;exact PySem.W.eq_bytes (zaZ I q zlz)
  | _=>exact absurd (show false=true from hs) zAc
 | _=>cases y<;>exact absurd (show false=true from hs) zAc
theorem zei:OpR X (compareOp .NotEq) rNe:=by
 intro pins s σ H x y v u Q I rx ry h;obtain⟨hs,q⟩:=h;cases x with
 | non =>
  cases rx
  cases y with
  | non=>cases ry;exact PySem.EqNone.ne_none_none (zaZ I q (by simp))
  | bl j=>cases ry;exact PySem.EqNone.ne_none_bool (zaZ I q (by simp))
  | int j=>obtain⟨t',rfl⟩:=ry;exact PySem.EqNone.ne_none_int (zaZ I q (by simp))
  | str j=>obtain⟨t',rfl⟩:=ry;exact PySem.EqNone.ne_none_str (zaZ I q (by simp))
  | _=>exact absurd (show false=true from hs) zAc
 | bl i =>
  cases rx
  cases y with
  | non=>cases ry;exact PySem.EqNone.ne_bool_none (zaZ I q (by simp))
  | bl j=>cases ry;exact ne_bool (zaZ I q (congrArg not znO))
  | str j=>obtain⟨t',rfl⟩:=ry;exact PySem.EqMixed.ne_bool_str (zaZ I q (by simp))
  | _=>exact absurd (show false=true from hs) zAc
 | int i =>
  obtain⟨t,rfl⟩:=rx;cases y with
  | non=>cases ry;exact PySem.EqNone.ne_int_none (zaZ I q (by simp))
  | int j=>obtain⟨t',rfl⟩:=ry;exact ne_int (zaZ I q (congrArg not zly))
  | str j=>obtain⟨t',rfl⟩:=ry;exact PySem.EqMixed.ne_int_str (zaZ I q (by simp))
  | _=>exact absurd (show false=true from hs) zAc
 | str i =>
  obtain⟨t,rfl⟩:=rx;cases y with
  | non=>cases ry;exact PySem.EqNone.ne_str_none (zaZ I q (by simp))
  | bl j=>cases ry;exact PySem.EqMixed.ne_str_bool (zaZ I q (by simp))
  | int j=>obtain⟨t',rfl⟩:=ry;exact PySem.EqMixed.ne_str_int (zaZ I q (by simp))
  | str j=>obtain⟨t',rfl⟩:=ry;exact ne_str (zaZ I q (congrArg not zlx))
  | _=>exact absurd (show false=true from hs) zAc
 | byt i =>
  obtain⟨t,rfl⟩:=rx;cases y with
  | byt j=>obtain⟨t',rfl⟩:=ry;exact PySem.W.ne_bytes (zaZ I q (congrArg not zlz))
  | _=>exact absurd (show false=true from hs) zAc
 | _=>cases y<;>exact absurd (show false=true from hs) zAc
theorem zcd:OpR X (compareOp .Lt) (rI0 fun i j=>.bl (decide (i<j))):=zoy fun _ _ _ _ _ _ _ q=>lt_int q
theorem zjM:OpR X (compareOp .LtE) (rI0 fun i j=>.bl (decide (i<=j))):=zoy fun _ _ _ _ _ _ _ q=>le_int q
theorem zeZ:OpR X (compareOp .Gt) (rI0 fun i j=>.bl (decide (j<i))):=zoy fun _ _ _ _ _ _ _ q=>gt_int q
theorem zna:OpR X (compareOp .GtE) (rI0 fun i j=>.bl (decide (j<=i))):=zoy fun _ _ _ _ _ _ _ q=>ge_int q
theorem zao(b:Expr){op:CmpOp}(h:op≠.In:=by decide)(h2:op≠.NotIn:=by decide):behindInMarks op b=false:=by
 have e1:(op == CmpOp.In)=false:=by cases op<;>first | rfl | exact absurd rfl h
 have e2:(op == CmpOp.NotIn)=false:=by cases op<;>first | rfl | exact absurd rfl h2
 cases b<;>simp[behindInMarks,e1,e2]
theorem zcg{op:CmpOp}{r:R2}(ho:OpR X (compareOp op) r)(ha:PE X a ta)(hb:PE X b tb)(hm:behindInMarks op b=false):PE X (.Compare a [op] [b] pos) (tOp r ta tb):=by
 intro pins s σ H Q I h;exact wpAny_Compare1 (zqR ha hb I h fun v u s2 x y H2 I2 rx ry q=>ho pins s2 σ H2 x y v u Q I2 rx ry q) hm
def zkX(t:TE):TT:=fun σ H Q=>t σ H fun x H'=>∃k,x=.bl k/\Q k H'
theorem zak{op:CmpOp}{r:R2}(ho:OpR X (compareOp op) r)(ha:PE X a ta)(hb:PE X b tb)(hm:behindInMarks op b=false):PT X (.Compare a [op] [b] pos) (zkX (tOp r ta tb)):=by
 intro pins s σ H Q I h;refine wpAny_isTrue_Compare1 (thn (ha pins s σ H _ I h) fun v s1 ⟨x,H1,I1,r1,q1⟩=>thn (hb pins s1 σ H1 _ I1 q1) fun u s2 ⟨y,H2,I2,r2,q2⟩ =>
  thn (ho pins s2 σ H2 x y v u _ I2 r1 r2 q2) fun c s3 ⟨z,H3,I3,r3,k,e,q3⟩=>?_) hm
 subst e;cases r3
 exact wpAny_truthy_bool ⟨H3,I3,q3⟩
def zmF(r r':R2)(ta tb tc:TE):TE:=fun σ H Q=>ta σ H fun x H1=>tb σ H1 fun y H2=>r x y H2 fun z H3=>∃k,z=.bl k /\
 (if k=true then tc σ H3 fun w' H4=>r' y w' H4 Q else Q (.bl false) H3)
theorem zhf{op op':CmpOp}{r r':R2}(ho:OpR X (compareOp op) r)(ho':OpR X (compareOp op') r')(ha:PE X a ta)(hb:PE X b tb)(hc:PE X c tc)
  (hm:lastMarks [op,op'] [b,c]=false:=by with_unfolding_all rfl):PE X (.Compare a [op,op'] [b,c] pos) (zmF r r' ta tb tc):=by
 intro pins s σ H Q I h;refine Compare_chain (thn (ha pins s σ H _ I h) fun v s1 ⟨x,H1,I1,r1,q1⟩=>chain_link (thn (hb pins s1 σ H1 _ I1 q1) fun u s2 ⟨y,H2,I2,r2,q2⟩ =>
  thn (ho pins s2 σ H2 x y v u _ I2 r1 r2 q2) fun d s3 ⟨z,H3,I3,r3,k,e,q3⟩=>?_)) hm
 subst e;cases r3
 refine wpAny_truthy_bool ?_;cases k with
 | false=>exact ite_ff ⟨.bl false,H3,I3,rfl,q3⟩
 | true=>exact ite_tt (chain_last (thn (hc pins s3 σ H3 _ I3 q3) fun w' s4 ⟨z',H4,I4,r4,q4⟩=>ho' pins s4 σ H4 y z' u w' Q I4 r2 r4 q4))
def zo_(K:PySem.W.Frag)(x:V)(H:Hp)(k:Bool):Prop:=
 match x with
 | .non=>k=false
 | .bl b=>k=b
 | .int i=>k=(i != 0)
 | .str y=>y.length<=sizeLine/\k=((y.length:Int) != 0)
 | .byt y=>y.size<=sizeLine/\k=((y.size:Int) != 0)
 | .ref p=>(∃xs,SqL K H p xs/\k=!xs.isEmpty)\/(∃xs,SqT K H p xs/\k=!xs.isEmpty)\/∃kvs,H p=some (.dK kvs)/\k=!kvs.isEmpty
 | _=>False
theorem zkG{κ:Type}{kvs:List (κ×V)}{vs:List (κ×Value)}(r:KV kvs vs):(!vs.isEmpty)=!kvs.isEmpty:=by
 cases r<;>rfl
theorem zhn{xs:List V}{its:List Value}(r:Vals xs its):(!its.toArray.isEmpty)=!xs.isEmpty:=by
 cases r<;>simp
theorem zfz:(sizeLine:Nat)<2 ^ 63:=by rw[sizeLine_eq];decide
theorem zpE:zsp X (fun x H Q=>∃k,zo_ X.K x H k/\Q k H):=by
 intro pins s σ H x v Q I rx h;obtain⟨k,e,q⟩:=h;have hl:=zfz;have hs:sizeLine=16777216:=sizeLine_eq;cases x with
 | non =>
  cases rx
  have e':k=false:=e;subst e';exact truthy_none ⟨H,I,q⟩
 | bl b =>
  cases rx
  have e':k=b:=e;subst e';exact wpAny_truthy_bool ⟨H,I,q⟩
 | int i =>
  obtain⟨t,rfl⟩:=rx;have e':k=(i != 0):=e;subst e';exact PySem.P.truthy_int ⟨H,I,q⟩
 | str y =>
  obtain⟨t,rfl⟩:=rx;obtain⟨hy,e'⟩:y.length<=sizeLine/\k=((y.length:Int) != 0):=e;subst e';exact PySem.P.truthy_str (by omega) ⟨H,I.tok _,q⟩
 | byt y =>
  obtain⟨t,rfl⟩:=rx;obtain⟨hy,e'⟩:y.size<=sizeLine/\k=((y.size:Int) != 0):=e;subst e';exact PySem.W.truthy_bytes (by omega) ⟨H,I.tok _,q⟩
 | ref p =>
  cases rx
  have e':(∃xs,SqL X.K H p xs/\k=!xs.isEmpty)\/(∃xs,SqT X.K H p xs/\k=!xs.isEmpty)\/∃kvs,H p=some (.dK kvs)/\k=!kvs.isEmpty:=e;rcases e' with⟨xs,hx,e'⟩|⟨xs,hx,e'⟩|⟨kvs,hx,e'⟩
  ·subst e';obtain⟨its,r,pl,hz⟩:=I.list hx;have hlen:=r.length;exact wpAny_truthy_list pl.isList (by simp only[zAn];omega) ⟨H,I.tok _,by rw[zhn r];exact q⟩
  ·subst e';obtain⟨its,r,pl,hz⟩:=I.tuple hx;have hlen:=r.length;exact truthy_tuple pl (by simp only[zAn];omega) ⟨H,I.tok _,by rw[zhn r];exact q⟩
  ·subst e';obtain⟨hz,hS,vs,r,m⟩:kvs.length<=sizeLine/\(p == sysModules)=false/\∃vs,KV kvs vs/\s.heap.DictOf (zaS X.prog X.w) p vs:=I.hok p _ hx;have hlen:kvs.length=vs.length:=Paired.length r;exact wpAny_truthy_dict hS m (by omega) ⟨H,I.tok _,by rw[zkG r];exact q⟩
 | _=>exact(show False from e).elim
theorem zm1(ha:PE X a ta)(he:∀whole,isTrue a X.env whole=(do let v <-whole;standAt a.pos;holding [v] (truthy v))) :
  PT X a (fun σ H Q=>ta σ H fun x H'=>∃k,zo_ X.K x H' k/\Q k H'):=by
 intro pins s σ H Q I h;exact isTrue_plain (thn (ha pins s σ H _ I h) fun v s1 ⟨x,H1,I1,r1,q1⟩=>zpE pins s1 σ H1 x v Q I1 r1 q1) (he _)
theorem zky:OpR X (binaryOp .Add) (fun x y H Q=>∃i j,x=.str i/\y=.str j/\i.length+j.length<=sizeLine/\Q (.str (i++j)) H):=by
 intro pins s σ H x y v u Q I rx ry h;obtain⟨i,j,rfl,rfl,hz,q⟩:=h;obtain⟨t,rfl⟩:=rx;obtain⟨t',rfl⟩:=ry;exact add_str (fun t' tk=>⟨.str (i++j),H,I.tok _,⟨_,rfl⟩,q⟩) hz
theorem zgJ{x:V}{us:List Value}(r:Vals [x] us):∃u,us=[u]/\RelV x u:=by
 cases r with
 | cons r1 r2=>cases r2;exact⟨_,rfl,r1⟩
theorem zms{x y:V}{us:List Value}(r:Vals [x,y] us):∃u w',us=[u,w']/\RelV x u/\RelV y w':=by
 cases r with
 | cons r1 r2 =>
  cases r2 with
  | cons r3 r4=>cases r4;exact⟨_,_,rfl,r1,r3⟩
theorem zj1:zdl X (.builtin "abs") (fun xs H Q=>∃i,xs=[.int i]/\Q (.int (if i<0 then -i else i)) H):=by
 intro pins s σ H xs us Q I r h;obtain⟨i,rfl,q⟩:=h;obtain⟨u,rfl,t,rfl⟩:=zgJ r;exact call_abs_int fun u tk=>⟨.int (if i<0 then -i else i),H,I.tok _,⟨_,rfl⟩,q⟩
theorem zcV(hc:X.calm=true):zdl X (.builtin "max") (fun xs H Q=>∃i j,xs=[.int i,.int j]/\Q (.int (if j > i then j else i)) H):=by
 intro pins s σ H xs us Q I r h;obtain⟨i,j,rfl,q⟩:=h;obtain⟨u,w',rfl,⟨t,rfl⟩,⟨t',rfl⟩⟩:=zms r;refine max_two_ints (I.ok.hd hc) fun h' tk k=>⟨_,H,I.kept k,?_,q⟩;by_cases hj:j > i
 ·rw[if_pos hj,if_pos hj];exact⟨_,rfl⟩
 ·rw[if_neg hj,if_neg hj];exact⟨_,rfl⟩
theorem zir(hc:X.calm=true):zdl X (.builtin "min") (fun xs H Q=>∃i j,xs=[.int i,.int j]/\Q (.int (if j<i then j else i)) H):=by
 intro pins s σ H xs us Q I r h;obtain⟨i,j,rfl,q⟩:=h;obtain⟨u,w',rfl,⟨t,rfl⟩,⟨t',rfl⟩⟩:=zms r;refine min_two_ints (I.ok.hd hc) fun h' tk k=>⟨_,H,I.kept k,?_,q⟩;by_cases hj:j<i
 ·rw[if_pos hj,if_pos hj];exact⟨_,rfl⟩
 ·rw[if_neg hj,if_neg hj];exact⟨_,rfl⟩
theorem zda:zdl X (.type "str") (fun xs H Q=>∃i,xs=[.int i]/\i.natAbs.log2<1920/\Q (.str (toString i)) H):=by
 intro pins s σ H xs us Q I r h;obtain⟨i,rfl,hz,q⟩:=h;obtain⟨u,rfl,t,rfl⟩:=zgJ r;exact PySem.P.str_of_int hz ⟨.str _,H,I.tok _,⟨_,rfl⟩,q⟩
theorem znW:zdl X (.builtin "ord") (fun xs H Q=>∃x,xs=[.str x]/\x.length=1/\Q (.int (x.cps.getD 0 0:Nat)) H):=by
 intro pins s σ H xs us Q I r h;obtain⟨x,rfl,hz,q⟩:=h;obtain⟨u,rfl,t,rfl⟩:=zgJ r;exact ord_of_one hz ⟨.int _,H,I.tok _,⟨_,rfl⟩,q⟩
end
end L2
namespace L2
open PySem PySem.Spec PyProof.Rows
structure ObjM(h:Heap)(x dx C:Addr)(mA:Str->Option Value):Prop where
 obj:h.get? x=some (PySem.W.instObj C dx)
 ns:h.Ns1 dx mA
 ne:dx≠x
theorem zl3{h:Heap}{dx:Addr}{mA:Str->Option Value}(n:h.Ns1 dx mA):∃od,h.get? dx=some od/\∀name,PySem.W.lookIn name od=some (mA name):=by
 obtain⟨o,es,ep,ho,hd,hk,_,hm⟩:=n;refine⟨o,ho,fun name=>?_⟩;have e:=hm name;unfold nsFind findBy at e;rw[<-Array.find?_toList] at e;unfold PySem.W.lookIn;rw[hd];dsimp only;split
 ·rename_i y q;rw[q] at e;exact congrArg some e
 ·rename_i q;rw[q] at e;have a:es.toList.any (·.refKey)=false:=by
   rw[List.any_eq_false];intro y hy;obtain⟨z,t,hkey⟩:=hk y (Array.mem_toList_iff.mp hy);simp[DictEntry.refKey,hkey]
  have a':¬es.toList.any (·.refKey)=true:=by rw[a];exact zAc
  rw[if_neg a'];exact congrArg some e
theorem ObjM.look{h:Heap}{x dx C:Addr}{mA:Str->Option Value}(I:ObjM h x dx C mA):∃od,PySem.W.InstAt h x (PySem.W.instObj C dx) C (some od)/\∀name,PySem.W.lookIn name od=some (mA name):=
 let ⟨od,ho,hl⟩:=zl3 I.ns
 ⟨od,⟨I.obj,rfl,rfl,ho⟩,hl⟩
section
variable{prog:Program}{w:World}{A:Around}{E:Value->Shared->Prop}{s:Shared}{K:PySem.W.Frag}{x dx C f:Addr}{mA:Str->Option Value}{name:Str}{v:Value}
theorem zoW{expr:Bool}{Q:Value->Shared->Prop}(X:K.In s.heap)(I:ObjM s.heap x dx C mA)(hg:PySem.W.plainGet K C name=true)(hh:PySem.W.hasDictIn K C=true)
  (ha:PySem.W.findIn K (.ref C) name=some none) (hv:mA name=some v) (hv':PySem.W.handedIn v=true) (h:Q v {s with toks:=s.toks+1}) :
  wpAny (model prog w) A (getAttr (.ref x) name expr) Q E s:=by
 obtain⟨od,J,hl⟩:=I.look;exact PySem.W.get_value X J (PySem.W.plainGet_of hg).1 (PySem.W.findObj_own hh ha rfl (by rw[hl,hv])) hv' h
theorem znF{pl:Sem Bool}{Q:Value×List Value->Shared->Prop}(X:K.In s.heap)(I:ObjM s.heap x dx C mA)(hg:PySem.W.plainGet K C name=true)
  (hf:PySem.W.findIn K (.ref C) name=some (some (.ref f))) (ht:PySem.W.isFn K (.ref f)=true) (hv:mA name=none) (h:Q (.ref f,[.ref x]) s) :
  wpAny (model prog w) A (getMethod (.ref x) name pl) Q E s:=by
 obtain⟨od,J,hl⟩:=I.look;exact PySem.W.method_fn X J (PySem.W.plainGet_of hg).1 (PySem.W.plainGet_of hg).2 hf (beq_iff_eq.mp ht) (by show(PySem.W.lookIn name od).map (·.isSome)=some false;rw[hl,hv];rfl) h
theorem zof{ns:List Str}{Q:Unit->Shared->Prop}(X:K.In s.heap)(I:ObjM s.heap x dx C mA)
  (hs:PySem.W.findIn K (.ref C) "__setattr__" = some (some (.builtin "object.__setattr__"))) (hp:PySem.W.plainOver K C=true) (ht:PySem.W.takerIn K C name=some none) (hh:PySem.W.hasDictIn K C=true)
  (hw:PySem.Within mA ns) (hsz:ns.length<=sizeLine)
  (h:∀h',ObjM h' x dx C (fun y=>if y=name then some v else mA y)->Heap.SameBut dx s.heap h'->Q () {s with heap:=h',toks:=s.toks+2}) :
  wpAny (model prog w) A (setAttr (.ref x) name v) Q E s:=by
 obtain⟨od,J,hl⟩:=I.look;refine PySem.W.set_plain X J hs (PySem.W.osa_open (s:={s with toks:=s.toks+1}) (r:=none) X J hp ht fun b=>?_);obtain⟨cd,hc,hd'⟩:=PySem.W.any_some hh;have hx:s.heap.get? x=some ⟨.ref C,some dx,.plain,#[]⟩:=I.obj;refine wpAny_bind (wpAny_pure (wpAny_bind (wpAny_bind (wpAny_loadPart hx (wpAny_bind (PySem.W.Looks.here (s:={s with toks:=s.toks+1}) (PySem.W.looks_clsIn X hc) ?_))))));rw[hd'];refine wpAny_pure (a:=some dx) (wpAny_bind (wpAny_pure (wpAny_bind ?_)));refine wpAny_nsSet1 (s:={s with toks:=s.toks+1}) I.ns fun h' hn2 hs2=>?_;obtain⟨oD,esD,epD,hoD,hdD,hcD⟩:=hn2.count (PySem.Within.cons name v hw);refine wpAny_bind (wpAny_lookBehind hoD (by rw[hdD];exact pastItsLine_dict (zBp hcD (by rw[zAb];omega))) ?_);exact wpAny_pure (h _ ⟨(hs2.2 _ (Ne.symm I.ne)).trans I.obj,hn2,I.ne⟩ hs2)
theorem zni{R:Result->Shared->Prop}{vs:List Value}{kw:List (Str×Value)}(X:K.In s.heap)(hm:PySem.W.makesIn K C=true)
  (hi:PySem.W.findIn K (.ref C) "__init__" = some (some (.ref f))) (hf:PySem.W.typeIn K (.ref f)=some (.type "function"))
  (h:codeAny (model prog w) (A.under (.builtin "type.__call__" ⟨.ref C::vs,kw⟩)) (.call (.ref f) ⟨.ref (s.heap.objs.size+1)::vs,kw⟩) (PySem.W.InitBack (s.heap.objs.size+1) R)
   {s with heap:=(s.heap.push PySem.W.emptyDict).push (PySem.W.instObj C s.heap.objs.size)}) :
  codeAny (model prog w) A (.call (.ref C) ⟨vs,kw⟩) R s:=by
 obtain⟨hh,g,d,t,os⟩:=s;exact PySem.W.make_core (PySem.W.makes_of X hm) (PySem.W.looks_findIn X hi) (fun self=>PySem.W.bind_fn X self hf) (.inl rfl) h
end
def zbW(f:Str)(v:V):List (Str×V)->List (Str×V)
 | []=>[(f,v)]
 | (g,x)::r=>if g=f then(g,v)::r else(g,x)::zbW f v r
theorem zfX(f g:Str)(v:V):∀fs:List (Str×V),(zbW f v fs).lookup g=if g=f then some v else fs.lookup g
 | []=>by
  show List.lookup g [(f,v)]=_;by_cases h:g=f
  ·have hb:(g == f)=true:=beq_iff_eq.mpr h;simp only[List.lookup,hb,if_pos h]
  ·have hb:(g == f)=false:=beq_eq_false_iff_ne.mpr h;simp only[List.lookup,hb,if_neg h]
 | (k,x)::r=>by
  have ih:=zfX f g v r;rw[show zbW f v ((k,x)::r)=(if k=f then(k,v)::r else(k,x)::zbW f v r) from rfl];by_cases hk:k=f
  ·rw[if_pos hk];by_cases h:g=k
   ·have hb:(g == k)=true:=beq_iff_eq.mpr h;simp only[List.lookup,hb,if_pos (h.trans hk)]
   ·have hb:(g == k)=false:=beq_eq_false_iff_ne.mpr h;simp only[List.lookup,hb,if_neg (fun e:g=f=>h (e.trans hk.symm))]
  ·rw[if_neg hk];by_cases h:g=k
   ·have hb:(g == k)=true:=beq_iff_eq.mpr h;simp only[List.lookup,hb,if_neg (fun e:g=f=>hk (h.symm.trans e))]
   ·have hb:(g == k)=false:=beq_eq_false_iff_ne.mpr h;simp only[List.lookup,hb];exact ih
theorem zfA(f:Str)(v:V):∀fs:List (Str×V),f∈(zbW f v fs).map (·.1)/\∀g,g∈fs.map (·.1)->g∈(zbW f v fs).map (·.1)
 | []=>⟨by simp[zbW],fun g h=>by simp at h⟩
 | (k,x)::r=>by
  obtain⟨i1,i2⟩:=zfA f v r;rw[show zbW f v ((k,x)::r)=(if k=f then(k,v)::r else(k,x)::zbW f v r) from rfl];by_cases hk:k=f
  ·rw[if_pos hk];subst hk;exact⟨by simp,fun g h=>by simpa using h⟩
  ·rw[if_neg hk];refine⟨?_,fun g h=>?_⟩
   ·rw[zAz];exact zAd _ i1
   ·rw[zAz] at h ⊢;rcases zAe h with e | e
    ·exact List.mem_cons.mpr (.inl e)
    ·exact zAd _ (i2 g e)
theorem zfY(f:Str)(v:V):∀fs:List (Str×V),(zbW f v fs).length<=fs.length+1
 | []=>by simp[zbW]
 | (k,x)::r=>by
  have ih:=zfY f v r;rw[show zbW f v ((k,x)::r)=(if k=f then(k,v)::r else(k,x)::zbW f v r) from rfl];by_cases hk:k=f
  ·rw[if_pos hk,zAb,zAb];omega
  ·rw[if_neg hk,zAb,zAb];omega
theorem RelO.some_of{v:V}{o:Option Value}(r:RelO (some v) o):∃u,o=some u/\RelV v u:=by
 cases o with
 | none=>exact(show False from r).elim
 | some u=>exact⟨u,rfl,r⟩
theorem RelO.none_of{o:Option Value}(r:RelO none o):o=none:=by
 cases o with
 | none=>rfl
 | some u=>exact(show False from r).elim
theorem zin{v:V}{u:Value}(r:RelV v u):PySem.W.handedIn u=true:=by
 cases v with
 | non=>cases (show u=Value.none from r);rfl
 | bl b=>cases (show u=Value.bool b from r);rfl
 | int i=>obtain⟨t,e⟩:=(show ∃t,u=Value.int i t from r);cases e;rfl
 | str x=>obtain⟨t,e⟩:=(show ∃t,u=Value.str x t from r);cases e;rfl
 | byt b=>obtain⟨t,e⟩:=(show ∃t,u=Value.bytes b t from r);cases e;rfl
 | flt b=>obtain⟨t,e⟩:=(show ∃t,u=Value.float b t from r);cases e;rfl
 | ref a=>cases (show u=Value.ref a from r);rfl
 | ty n=>cases (show u=Value.type n from r);rfl
section
variable{P:Program}{w:World}{H H':Hp}{h h':Heap}{a C dx:Addr}{fs fs':List (Str×V)}
theorem zgD(hok:HOk P w H h)(e:H a=some (.ins C dx fs)):∃mA,ObjM h a dx C mA/\(∀f,RelO (fs.lookup f) (mA f))/\PySem.Within mA (fs.map (·.1))/\fs.length<=1000/\H dx=some (.own a):=by
 obtain⟨d,z,ne,ob,mA,n,r,q⟩:=(show ObjOk P w H h a (.ins C dx fs) from hok a _ e);exact⟨mA,⟨ob,n,ne⟩,r,q,z,d⟩
end
structure Cls(K:PySem.W.Frag)(C:Addr):Prop where
 pg:PySem.W.plainGet K C Str.empty=true
 hd:PySem.W.hasDictIn K C=true
 po:PySem.W.plainOver K C=true
 sa:PySem.W.findIn K (.ref C) "__setattr__" = some (some (.builtin "object.__setattr__"))
theorem Cls.get{K:PySem.W.Frag}{C:Addr}(c:Cls K C)(f:Str):PySem.W.plainGet K C f=true:=c.pg
def NoAttr(K:PySem.W.Frag)(C:Addr)(f:Str):Prop:=PySem.W.findIn K (.ref C) f=some none
theorem NoAttr.taker{K:PySem.W.Frag}{C:Addr}{f:Str}(n:NoAttr K C f):PySem.W.takerIn K C f=some none:=by
 unfold PySem.W.takerIn;rw[show PySem.W.findIn K (.ref C) f=some none from n];rfl
structure zn3(K:PySem.W.Frag)(C:Addr)(m:Str)(f:Addr):Prop where
 at_:PySem.W.findIn K (.ref C) m=some (some (.ref f))
 fn:PySem.W.isFn K (.ref f)=true
 kp:PySem.W.keepIn K (.ref f)=true
section
variable{X:Cx}{pins:List (Addr×Obj)}{σ:St}{H:Hp}{s:Shared}{a C dx:Addr}{fs:List (Str×V)}{f:Str}{v:V}{A:Around}{E:Value->Shared->Prop}
theorem zhv{b:Bool}{Q:Value->Shared->Prop}(I:Inv X pins σ H s)(e:H a=some (.ins C dx fs))(c:Cls X.K C)(n:NoAttr X.K C f)(l:fs.lookup f=some v)
  (h:∀u s',Inv X pins σ H s'->RelV v u->Q u s'):wpAny (model X.prog X.w) A (getAttr (.ref a) f b) Q E s:=by
 obtain⟨mA,O,r,_,_,_⟩:=zgD I.hok e;obtain⟨u,hu,ru⟩:=RelO.some_of (v:=v) (o:=mA f) (by rw[<-l];exact r f);exact zoW I.kIn O (c.get f) c.hd n hu (zin ru) (h u _ (I.tok _) ru)
theorem zhu{m:Str}{g:Addr}{pl:Sem Bool}{Q:Value×List Value->Shared->Prop}(I:Inv X pins σ H s)(e:H a=some (.ins C dx fs))(c:Cls X.K C)(k:zn3 X.K C m g)(l:fs.lookup m=none)
  (h:Q (.ref g,[.ref a]) s):wpAny (model X.prog X.w) A (getMethod (.ref a) m pl) Q E s:=by
 obtain⟨mA,O,r,_,_,_⟩:=zgD I.hok e;have hn:mA m=none:=RelO.none_of (by rw[<-l];exact r m);exact znF I.kIn O (c.get m) k.at_ k.fn hn h
theorem zgZ{y:V}{u:Value}{Q:Unit->Shared->Prop}(I:Inv X pins σ H s)(e:H a=some (.ins C dx fs))(c:Cls X.K C)(n:NoAttr X.K C f)(hl:fs.length<1000)(ry:RelV y u)
  (h:∀s',Inv X pins σ (upd H a (.ins C dx (zbW f y fs))) s'->Q () s'):wpAny (model X.prog X.w) A (setAttr (.ref a) f u) Q E s:=by
 obtain⟨mA,O,r,wi,_,ho⟩:=zgD I.hok e;have hz:(fs.map (·.1)).length<=sizeLine:=by rw[zAp,sizeLine_eq];omega
 refine zof I.kIn O c.sa c.po n.taker c.hd wi hz fun h' O' sb=>h _ ?_;have hd:∃o,h'.get? dx=some o:=let ⟨o,_,_,e',_⟩:=O'.ns;⟨o,e'⟩;refine I.write (x:=a) (e:=dx) (by rw[e];exact True.intro) (.inr ho) (fun b q hb z=>(sb.2 b hb).trans z) hd ?_;refine⟨by rw[zae O.ne];exact ho,?_,O.ne,O'.obj,_,O'.ns,fun g=>?_,fun g hg=>?_⟩
 ·have:=zfY f y fs;omega
 ·show RelO ((zbW f y fs).lookup g) (if g=f then some u else mA g);rw[zfX];by_cases q:g=f
  ·rw[if_pos q,if_pos q];exact ry
  ·rw[if_neg q,if_neg q];exact r g
 ·by_cases q:g=f
  ·rw[q];exact(zfA f y fs).1
  ·refine(zfA f y fs).2 g (wi g fun z=>hg ?_);show(if g=f then some u else mA g)=none;rw[if_neg q];exact z
theorem Inv.made(I:Inv X pins σ H s):Inv X pins σ (upd (upd H s.heap.objs.size (.own (s.heap.objs.size+1))) (s.heap.objs.size+1) (.ins C s.heap.objs.size []))
  {s with heap:=(s.heap.push PySem.W.emptyDict).push (PySem.W.instObj C s.heap.objs.size)}:=by
 have e1:(s.heap.push PySem.W.emptyDict).get? s.heap.objs.size=some PySem.W.emptyDict:=Heap.get?_push_size s.heap rfl;have e2:((s.heap.push PySem.W.emptyDict).push (PySem.W.instObj C s.heap.objs.size)).get? (s.heap.objs.size+1)=some (PySem.W.instObj C s.heap.objs.size):=by
  have:=Heap.get?_push_size (s.heap.push PySem.W.emptyDict) (o:=PySem.W.instObj C s.heap.objs.size) rfl
  rwa [Heap.size_push] at this
 have e3:(s.heap.push PySem.W.emptyDict).Ns s.heap.objs.size (fun _=>none):=⟨PySem.W.emptyDict,#[],_,e1,rfl,(fun e he=>absurd he (by simp)),fun _=>rfl⟩;have I1:=I.laid (a:=s.heap.objs.size) (o:=.own (s.heap.objs.size+1)) (h':=s.heap.push PySem.W.emptyDict) (t':=s.toks) (fun b u q=>Heap.get?_push_of_some _ q) (zAi _) ⟨_,e1⟩;refine I1.laid (a:=s.heap.objs.size+1) (o:=.ins C s.heap.objs.size []) (t':=s.toks) (fun b u q=>Heap.get?_push_of_some _ q) (zDf (Heap.size_push _ _)) ?_;have ne:s.heap.objs.size≠s.heap.objs.size+1:=zBe (zCo _);refine⟨by rw[zae ne,upd_same],zAx _,ne,e2,fun _=>none,(Heap.Ns1.of_empty e3).at fun o q=>Heap.get?_push_of_some _ q,fun _=>True.intro,fun y hy=>absurd rfl hy⟩
theorem zlD{prog:Program}{w:World}{env:Env}{e:Expr}{f:Str}{pos:Pos}{s:Shared}{Q:Value->Shared->Prop}(hb:attributeBase e f env (eval e env)=eval e env)
  (h:wpAny (model prog w) A (eval e env) (fun o s₁=>wpAny (model prog w) A (getAttr o f true) Q E s₁) E s):wpAny (model prog w) A (eval (.Attribute e f pos) env) Q E s:=
 Attribute_any_ h (by rw[arm_eval_Attribute,hb])
end
def zcJ(K:PySem.W.Frag)(ta:TE)(f:Str):TE:=fun σ H Q=>ta σ H fun x H1=>∃a C dx fs v,x=.ref a/\H1 a=some (.ins C dx fs)/\Cls K C/\NoAttr K C f/\fs.lookup f=some v/\Q v H1
def zpQ(K:PySem.W.Frag)(ta tv:TE)(f:Str):TS:=fun D σ H=>tv σ H fun y H1=>ta σ H1 fun x H2=>∃a C dx fs,x=.ref a/\H2 a=some (.ins C dx fs)/\Cls K C/\NoAttr K C f/\fs.length<1000 /\
 D.nx σ (upd H2 a (.ins C dx (zbW f y fs)))
def zr1(X:Cx)(op:Operator)(rd:V->V->Hp->VK->Prop):Prop:=
 ∀(pins:List (Addr×Obj)) (s:Shared) (σ:St) (H:Hp) (x y:V) (u v:Value) (Q:VK),Inv X pins σ H s->RelV x u->RelV y v->rd x y H Q->wpAny (model X.prog X.w) X.A (inplaceOp op u v) (EP X pins σ Q) X.xe s
def zeV(K:PySem.W.Frag)(ta tv:TE)(rd:V->V->Hp->VK->Prop)(f:Str):TS:=fun D σ H=>ta σ H fun x H1=>∃a C dx fs v,x=.ref a/\H1 a=some (.ins C dx fs)/\Cls K C/\NoAttr K C f/\fs.lookup f=some v /\
 tv σ H1 fun y H2=>rd v y H2 fun z H3=>∃dx' fs',H3 a=some (.ins C dx' fs')/\fs'.length<1000/\D.nx σ (upd H3 a (.ins C dx' (zbW f z fs')))
section
variable{X:Cx}{o e value:Expr}{f:Str}{pos pos' tpos:Pos}{ta tv:TE}
theorem zaj(he:PE X e ta)(hb:attributeBase e f X.env (eval e X.env)=eval e X.env):PE X (.Attribute e f pos) (zcJ X.K ta f):=by
 intro pins s σ H Q I h;refine zlD hb (thn (he pins s σ H _ I h) fun u s1 ⟨x,H1,I1,rx,a,C,dx,fs,v,ex,ea,c,n,l,q⟩=>?_);subst ex;obtain rfl:u=Value.ref a:=rx;exact zhv I1 ea c n l fun u' s2 I2 ru=>⟨v,H1,I2,ru,q⟩
theorem zbE(ha:PE X o ta)(hv:PE X value tv)(hs:swapsWith value (some (.Attribute o f pos')) pos.line X.env=pure false):PS X (.Assign [.Attribute o f pos'] value pos) (zpQ X.K ta tv f):=by
 intro pins s σ H D I h;refine plainObj_wpAny_Assign_Attribute (thn (hv pins s σ H _ I h) fun u s1 ⟨y,H1,I1,ry,q⟩=>thn (ha pins s1 σ H1 _ I1 q) fun ov s2 ⟨x,H2,I2,rx,a,C,dx,fs,ex,ea,c,n,l,q2⟩=>?_) hs;subst ex;obtain rfl:ov=Value.ref a:=rx;exact zgZ I2 ea c n l ry fun s3 I3=>⟨σ,_,I3,q2⟩
theorem zbs{op:Operator}{rd:V->V->Hp->VK->Prop}(ha:PE X o ta)(hv:PE X value tv)(hop:zr1 X op rd):PS X (.AugAssign (.Attribute o f tpos) op value pos) (zeV X.K ta tv rd f):=by
 intro pins s σ H D I h;refine wpAny_AugAssign_AttributeAny (thn (ha pins s σ H _ I h) fun ov s1 ⟨x,H1,I1,rx,a,C,dx,fs,v,ex,ea,c,n,l,q⟩=>?_);subst ex;obtain rfl:ov=Value.ref a:=rx;refine zhv I1 ea c n l fun u s2 I2 ru=>thn (hv pins s2 σ H1 _ I2 q) fun w3 s3 ⟨y,H2,I3,ry,q3⟩=>thn (hop pins s3 σ H2 v y u w3 _ I3 ru ry q3) fun w4 s4 ⟨z,H3,I4,rz,dx',fs',ea',l',q4⟩=>?_;exact zgZ I4 ea' c n l' rz fun s5 I5=>⟨σ,_,I5,q4⟩
def zm0:V->V->Hp->VK->Prop:=fun x y H Q=>∃i j,x=.int i/\y=.int j/\Q (.int (i+j)) H
theorem zc8:zr1 X .Add zm0:=by
 rintro pins s σ H x y u v Q I rx ry ⟨i,j,rfl,rfl,q⟩;obtain⟨t,rfl⟩:=(show ∃t,u=Value.int i t from rx);obtain⟨t',rfl⟩:=(show ∃t',v=Value.int j t' from ry);exact PyProof.Rows.iadd_int ⟨.int (i+j),H,I.tok _,⟨_,rfl⟩,q⟩
end
section
variable{X:Cx}{pins:List (Addr×Obj)}{σ:St}{H:Hp}{s:Shared}{A:Around}{E:Value->Shared->Prop}{Q:Value->Shared->Prop}{c:Value}{b:Bool}
inductive zfI(K:PySem.W.Frag)(H:Hp):V->Value->Prop where
 | non:zfI K H .non (.type "NoneType")
 | bl (x:Bool):zfI K H (.bl x) (.type "bool")
 | int (i:Int):zfI K H (.int i) (.type "int")
 | str (x:Str):zfI K H (.str x) (.type "str")
 | flt (x:UInt64):zfI K H (.flt x) (.type "float")
 | lst {a:Addr}{xs:List V} (e:H a=some (.lst xs)):zfI K H (.ref a) (.type "list")
 | frz {a:Addr}{o:Obj}{xs:List V} (e:H a=some (.frz o (.lst xs))):zfI K H (.ref a) (.type "list")
 | tup {a:Addr}{xs:List V} (e:H a=some (.tup xs)):zfI K H (.ref a) (.type "tuple")
 | dK {a:Addr}{kvs:List (Key×V)} (e:H a=some (.dK kvs)):zfI K H (.ref a) (.type "dict")
 | dT {a:Addr}{kvs:List (List Key×V)} (e:H a=some (.dT kvs)):zfI K H (.ref a) (.type "dict")
 | ins {a C dx:Addr}{fs:List (Str×V)} (e:H a=some (.ins C dx fs)) (cl:Cls K C) (ha:PySem.W.findIn K (.ref C) "__class__" = some (some (.builtin "object.__class__")))
   (hn:PySem.W.specialIn K (.builtin "object.__class__") "__get__" = some (some (.builtin "getset_descriptor.__get__"))) (htk:PySem.W.takesIn K (.builtin "object.__class__")=some true)
   (hm:PySem.W.mroIn K C (.type "object")=some true):zfI K H (.ref a) (.ref C)
theorem zl7{x:V}{u t:Value}(I:Inv X pins σ H s)(rx:RelV x u)(ty:zfI X.K H x t)(e:PySem.W.kitOne X.K t c=some b)(h:∀tk,Q (.bool b) {s with toks:=tk}) :
  wpAny (model X.prog X.w) A (call (.builtin "isinstance") [u,c]) Q E s:=by
 cases ty with
 | non=>cases (show u=Value.none from rx);exact PySem.W.kia_one PySem.W.kitx_none I.kIn True.intro e (fun z=>nomatch z) h
 | bl y=>cases (show u=Value.bool y from rx);exact PySem.W.kia_one PySem.W.kitx_bool I.kIn True.intro e (fun z=>nomatch z) h
 | int i=>obtain⟨t,q⟩:=(show ∃t,u=Value.int i t from rx);cases q;exact PySem.W.kia_one PySem.W.kitx_int I.kIn True.intro e (fun z=>nomatch z) h
 | str y=>obtain⟨t,q⟩:=(show ∃t,u=Value.str y t from rx);cases q;exact PySem.W.kia_one PySem.W.kitx_str I.kIn True.intro e (fun z=>nomatch z) h
 | flt y=>obtain⟨t,q⟩:=(show ∃t,u=Value.float y t from rx);cases q;exact PySem.W.kia_one PySem.W.kitx_float I.kIn True.intro e (fun z=>nomatch z) h
 | @lst a xs ea =>
  cases (show u=Value.ref a from rx)
  obtain⟨_,_,n,_,h1⟩:=(show ObjOk X.prog X.w H s.heap a (.lst xs) from I.hok a _ ea);exact PySem.W.kia_one PySem.W.kitx_list I.kIn ⟨_,h1,rfl⟩ e (fun z=>nomatch z) h
 | @frz a ob xs ea =>
  cases (show u=Value.ref a from rx)
  obtain⟨_,_,_,n,_,h1⟩:=(show ObjOk X.prog X.w H s.heap a (.frz ob (.lst xs)) from I.hok a _ ea);exact PySem.W.kia_one PySem.W.kitx_list I.kIn ⟨_,h1,rfl⟩ e (fun z=>nomatch z) h
 | @tup a xs ea =>
  cases (show u=Value.ref a from rx)
  obtain⟨_,_,_,p⟩:=(show ObjOk X.prog X.w H s.heap a (.tup xs) from I.hok a _ ea);obtain⟨o,h1,h2,_⟩:=p;exact PySem.W.kia_one PySem.W.kitx_tuple I.kIn ⟨o,h1,h2⟩ e (fun z=>nomatch z) h
 | @dK a kvs ea =>
  cases (show u=Value.ref a from rx)
  obtain⟨_,_,vs,_,p⟩:=(show ObjOk X.prog X.w H s.heap a (.dK kvs) from I.hok a _ ea);obtain⟨o,es,ep,h1,h2,_⟩:=p;exact PySem.W.kia_one PySem.W.kitx_dict I.kIn ⟨o,h1,h2.1⟩ e (fun z=>nomatch z) h
 | @dT a kvs ea =>
  cases (show u=Value.ref a from rx)
  obtain⟨_,_,xs,_,o,es,ep,h1,h2,_⟩:=(show ObjOk X.prog X.w H s.heap a (.dT kvs) from I.hok a _ ea);exact PySem.W.kia_one PySem.W.kitx_dict I.kIn ⟨o,h1,h2.1⟩ e (fun z=>nomatch z) h
 | @ins a C dx fs ea cl ha hn htk hm =>
  cases (show u=Value.ref a from rx)
  obtain⟨mA,O,_⟩:=zgD I.hok ea;obtain⟨od,J,_⟩:=O.look;exact PySem.W.kia_one (PySem.W.kitx_own (cl.get _) cl.hd ha hn htk hm) I.kIn J e (fun z=>nomatch z) h
end
end L2
namespace L2
open PySem PySem.Spec PyProof.Rows
structure Room(k:Nat)(A:Around):Prop where
 hd:A.handled=none
 dp:A.depth+3*k+5<recursionLimit
 un:A.units+16*k+200<cLine
theorem Room.mono{j k:Nat}{A:Around}(r:Room k A)(h:j<=k):Room j A:=⟨r.hd,by have:=r.dp;omega,by have:=r.un;omega⟩
theorem Room.deeper{k:Nat}{A:Around}(r:Room (k+1) A)(env:Env):Room k (A.deeper env):=
 ⟨r.hd,by have:=r.dp;show A.depth+1+3*k+5<_;omega,by have:=r.un;show A.units+3+16*k+200<_;omega⟩
theorem zkF{A:Around}{C:Addr}{us:List Value}{kw:List (Str×Value)}:(A.under (.builtin "type.__call__" ⟨.ref C::us,kw⟩)).depth=A.depth+1:=by
 first | rfl | simp[Around.under,Code.weight,Code.isCreation,Code.isGuard,Code.isCaller,Code.frames,Code.isFrame,guardIds]
theorem zkE{A:Around}{C:Addr}{us:List Value}{kw:List (Str×Value)}:(A.under (.builtin "type.__call__" ⟨.ref C::us,kw⟩)).units=A.units+1:=by
 first | rfl | simp[Around.under,Code.cUnits,Code.frames,Code.isFrame]
theorem Room.make{k:Nat}{A:Around}(r:Room (k+1) A)(C:Addr)(us:List Value)(kw:List (Str×Value)):Room k (A.under (.builtin "type.__call__" ⟨.ref C::us,kw⟩)):=
 ⟨r.hd,by have:=r.dp;rw[zkF];omega,by have:=r.un;rw[zkE];omega⟩
theorem Room.depth{k:Nat}{A:Around}(r:Room k A):A.depth<recursionLimit:=by have:=r.dp;omega
theorem Room.units{k:Nat}{A:Around}(r:Room k A):A.units+64<cLine:=by have:=r.un;omega
def zbT:TA:=fun _ H Q=>Q [] H
def za2(ta:TE)(tr:TA):TA:=fun σ H Q=>ta σ H fun x H1=>tr σ H1 fun xs H2=>Q (x::xs) H2
section
variable{X:Cx}{e:Expr}{es:List Expr}{te:TE}{t:TA}{pos:Pos}
theorem zad:PA X [] zbT:=fun _ _ _ _ H Q I h=>Calls.spliced_nil ⟨[],H,I,.nil,h⟩
theorem zaa(ha:PE X e te)(hr:PA X es t)(hs:starEach (e::es) X.env=(false,eval e X.env)::starEach es X.env:=by rfl):PA X (e::es) (za2 te t):=by
 intro pos pins s σ H Q I h;rw[hs];show wpAny _ _ (spliced ((false,eval e X.env)::backTo pos (starEach es X.env))) _ _ s;refine Calls.spliced_cons (thn (ha pins s σ H _ I h) fun u s1 ⟨x,H1,I1,r1,q1⟩=>?_);exact thn (hr pos pins s1 σ H1 _ I1 q1) fun us s2 ⟨xs,H2,I2,r2,q2⟩=>⟨x::xs,H2,I2,.cons r1 r2,q2⟩
def zlJ(t:TA):TE:=fun σ H Q=>t σ H fun xs H1=>xs.length<=sizeLine/\∀p,H1 p=none->Q (.ref p) (upd H1 p (.tup xs))
def zlL(t:TA):TE:=fun σ H Q=>t σ H fun xs H1=>xs.length<=sizeLine/\∀p,H1 p=none->Q (.ref p) (upd H1 p (.lst xs))
theorem zaY{x1}(h:PA X es t):PE X (.Tuple es x1 pos) (zlJ t):=by
 intro pins s σ H Q I hq;refine wpAny_Tuple_spliced (thn (h pos pins s σ H _ I hq) fun us s1 ⟨xs,H1,I1,r,z,q⟩=>⟨by rw[<-r.length];exact z,?_⟩);have hf:H1 s1.heap.objs.size=none:=I1.hok.fresh (zAi _);refine⟨.ref s1.heap.objs.size,upd H1 s1.heap.objs.size (.tup xs),I1.laid (t':=s1.toks) (fun b u e=>Heap.get?_push_of_some _ e) (zAi _) ?_,rfl,q _ hf⟩;exact⟨z,us,r,⟨_,Heap.get?_push_size _ rfl,rfl,_,rfl⟩⟩
theorem zaJ(h:PA X es t):PE X (.List es pos) (zlL t):=by
 intro pins s σ H Q I hq;refine wpAny_List_spliced (thn (h pos pins s σ H _ I hq) fun us s1 ⟨xs,H1,I1,r,z,q⟩=>⟨by rw[<-r.length];exact z,?_⟩);have hf:H1 s1.heap.objs.size=none:=I1.hok.fresh (zAi _);refine⟨.ref s1.heap.objs.size,upd H1 s1.heap.objs.size (.lst xs),I1.laid (t':=s1.toks) (fun b u e=>Heap.get?_push_of_some _ e) (zAi _) ?_,rfl,q _ hf⟩;exact⟨z,us,0,r,Heap.get?_push_size _ rfl⟩
end
abbrev Sp:=List V->Hp->VK->XK->Prop
abbrev CXT:=List Env->Hp->Shared->XK->Value->Shared->Prop
structure Env0(P:Program)(w:World)(K:PySem.W.Frag)(mg:Str->Option Value)(base:Heap)(A:Around)(outer:List Env)(s:Shared)(H:Hp):Prop where
 frames:A.frames=some outer
 mod:Mod K mg base
 bs:∀b o,base.get? b=some o->s.heap.get? b=some o/\H b=none
 bsz:base.objs.size<=s.heap.objs.size
 funs:s.heap.FunFrames base outer
 frf:∀b∈frs outer,H b=none
 hok:HOk P w H s.heap
 bare:AllBare s.gens
def CE(outer:List Env)(P:Program)(w:World)(H:Hp)(s:Shared)(Q:VK)(u:Value)(s':Shared):Prop:=
 ∃v H',s'.os=s.os/\AllBare s'.gens/\Un (frs outer) [] H H' s.heap s'.heap/\HOk P w H' s'.heap/\RelV v u/\Q v H'
def CR(CX:CXT)(outer:List Env)(P:Program)(w:World)(H:Hp)(s:Shared)(Q:VK)(E:XK)(r:Result)(s':Shared):Prop:=
 match r with
 | .ok (.ret u)=>CE outer P w H s Q u s'
 | .ok _=>False
 | .error e=>CX outer H s E e s'
structure zdR(P:Program)(w:World)(K:PySem.W.Frag)(mg:Str->Option Value)(base:Heap)(CX:CXT)(k:Nat)(f:Addr)(fd:FuncData)(ps:List Str)(sp:Sp):Prop where
 len:∀vs H Q E,sp vs H Q E->vs.length=ps.length
 run:∀(A:Around) (outer:List Env) (s:Shared) (H:Hp) (args:Args) (us:List Value) (vs:List V) (Q:VK) (E:XK),Room k A->Env0 P w K mg base A outer s H->BindsTo s fd args (ps.zip us)->Vals vs us->sp vs H Q E ->
  codeAny (model P w) A (.call (.ref f) args) (CR CX outer P w H s Q E) s
theorem Env0.make{P:Program}{w:World}{K:PySem.W.Frag}{mg:Str->Option Value}{base:Heap}{A:Around}{outer:List Env}{s:Shared}{H:Hp}(e:Env0 P w K mg base A outer s H)(C:Addr)(us:List Value)(kw:List (Str×Value)) :
  Env0 P w K mg base (A.under (.builtin "type.__call__" ⟨.ref C::us,kw⟩)) outer s H:=⟨by first | exact e.frames|(simpa[Around.under,Code.envs,Code.isFrame,pushEnvs] using e.frames),e.mod,e.bs,e.bsz,e.funs,e.frf,e.hok,e.bare⟩
section
variable{X:Cx}{pins:List (Addr×Obj)}{σ:St}{H:Hp}{s s':Shared}
theorem Inv.env0(I:Inv X pins σ H s):Env0 X.prog X.w X.K X.mg X.base X.A X.stack s H:=
 ⟨I.ok.frames,I.ok.mod,I.bs,zBp I.ok.bsz I.sz,I.stack,I.stkFree,I.hok,I.bare⟩
theorem Inv.after{Q:VK}{u:Value}(I:Inv X pins σ H s)(h:CE X.stack X.prog X.w H s Q u s'):EP X pins σ Q u s':=by
 obtain⟨v,H',os,bare,un,hok,r,q⟩:=h;obtain⟨hh,g,d,t,os'⟩:=s';obtain rfl:os'=s.os:=os;exact⟨v,H',I.call (h':=hh) (g':=g) (d':=d) (t':=t) (ch:=[]) un hok bare (fun b z=>absurd z (by simp)),r,q⟩
end
def zq3(sp:Sp)(dvs:List V)(E:XK)(t:TA):TE:=fun σ H Q=>t σ H fun vs H1=>sp (vs++dvs) H1 Q E
def zpg(C:Addr)(m:Str)(sp:Sp)(dvs:List V)(E:XK)(ta:TE)(t:TA):TE:=fun σ H Q=>ta σ H fun x H1=>∃a dx fs,x=.ref a/\H1 a=some (.ins C dx fs)/\fs.lookup m=none /\
 t σ H1 fun vs H2=>sp (x::(vs++dvs)) H2 Q E
def zph(C:Addr)(sp:Sp)(dvs:List V)(E:XK)(t:TA):TE:=fun σ H Q=>t σ H fun vs H1=>∀x dx,H1 x=none->H1 dx=none->dx≠x ->
 sp (.ref x::(vs++dvs)) (upd (upd H1 dx (.own x)) x (.ins C dx [])) (fun v H2=>v=.non/\Q (.ref x) H2) E
def Binds(K:PySem.W.Frag)(fd:FuncData)(ps:List Str)(ds:List Value):Prop:=
 ∀(s:Shared) (us:List Value),K.In s.heap->(us++ds).length=ps.length->BindsTo s fd ⟨us,[]⟩ (ps.zip (us++ds))
theorem Binds.all{K:PySem.W.Frag}{fd:FuncData}{ps:List Str}(h:∀us:List Value,us.length=ps.length->bindArgs fd ⟨us,[]⟩=pure (ps.zip us)):Binds K fd ps []:=fun s us _ hl=>by
 rw[zBz] at hl ⊢;exact .of_eq (h us hl)
def zbl(CX:CXT)(X:Cx)(E:XK):Prop:=∀(pins:List (Addr×Obj)) (σ:St) (H:Hp) (s:Shared) (e:Value) (s':Shared),Inv X pins σ H s->CX X.stack H s E e s'->X.xe e s'
section
variable{X:Cx}{CX:CXT}{k:Nat}{f C:Addr}{fd:FuncData}{ps:List Str}{sp:Sp}{dvs:List V}{ds:List Value}{E:XK}{x m:Str}{p pos apos:Pos}{e o:Expr}{es:List Expr}{ta:TE}{t:TA}
theorem zkt{pins:List (Addr×Obj)}{σ:St}{H:Hp}{s:Shared}{Q:VK}{us:List Value}{vs:List V}(F:zdR X.prog X.w X.K X.mg X.base CX k f fd ps sp)(hr:Room k X.A)(hb:Binds X.K fd ps ds)(hd:Vals dvs ds)(hx:zbl CX X E)
  (I:Inv X pins σ H s) (r:Vals vs us) (h:sp (vs++dvs) H Q E):wpAny (model X.prog X.w) X.A (call (.ref f) us) (EP X pins σ Q) X.xe s:=by
 have r2:Vals (vs++dvs) (us++ds):=r.append hd;have hl:(us++ds).length=ps.length:=by rw[<-r2.length];exact F.len _ _ _ _ h
 refine wpAny_call (codeAny_mono (F.run X.A X.stack s H ⟨us,[]⟩ (us++ds) (vs++dvs) Q E hr I.env0 (hb s us I.kIn hl) r2 h) fun r s' hq=>?_);cases r with
 | error e=>exact hx pins σ H s e s' I hq
 | ok fl =>
  cases fl with
  | ret u=>exact I.after hq
  | next=>exact False.elim hq
  | brk=>exact False.elim hq
  | cont=>exact False.elim hq
theorem zow(F:zdR X.prog X.w X.K X.mg X.base CX k f fd ps sp)(hr:Room k X.A)(hg:Gl X x)(hm:X.mg x=some (.ref f))(hk:PySem.W.keepIn X.K (.ref f)=true)(hb:Binds X.K fd ps ds)(hd:Vals dvs ds)(hx:zbl CX X E)
  (ha:PA X (e::es) t) (hdb:(x == ("__debug__" : Str))=false:=by decide) (he:starEach (e::es) X.env=(false,eval e X.env)::starEach es X.env:=by rfl) (hpl:(backTo pos (starEach es X.env)).any (·.1)=false:=by rfl) :
  PE X (.Call (.Name x p) (e::es) [] pos) (zq3 sp dvs E t):=by
 intro pins s σ H Q I h;refine wpAny_Call_Name_kw (zcE I hg hm ?_ hdb);refine PySem.W.callWith_K (h₀:=X.base) I.ok.mod.kin hk (thn (ha pos pins s σ H _ I h) fun us s1 ⟨vs,H1,I1,r,q⟩=>⟨I1.kIn,?_⟩) he hpl;exact zkt F hr hb hd hx I1 r q
theorem zos{pl:Sem Bool}(he:PE X o ta)(c:Cls X.K C)(hm:zn3 X.K C m f)(F:zdR X.prog X.w X.K X.mg X.base CX k f fd ps sp)(hr:Room k X.A)(hb:Binds X.K fd ps ds)(hd:Vals dvs ds)(hx:zbl CX X E)(ha:PA X (e::es) t)
  (hst:starEach (e::es) X.env=(false,eval e X.env)::starEach es X.env:=by rfl) (hpl:(backTo pos (starEach es X.env)).any (·.1)=false:=by rfl)
  (ht:eval (.Call (.Attribute o m apos) (e::es) [] pos) X.env=(do
   let ov <-eval o X.env
   standAt apos.atName
   let (f,first) <-holding [ov] (getMethod ov m pl)
   callWith pos f first (backTo pos (starEach (e::es) X.env)) (backToKw pos (keywordEach [] X.env))):=by rfl) :
  PE X (.Call (.Attribute o m apos) (e::es) [] pos) (zpg C m sp dvs E ta t):=by
 intro pins s σ H Q I h;refine PySem.W.methodCall_KW (pl:=pl) (thn (he pins s σ H _ I h) fun u s1 ⟨x,H1,I1,rx,a,dx,fs,ex,ea,l,q⟩=>?_) ht;subst ex;obtain rfl:u=Value.ref a:=rx;refine zhu I1 ea c hm l ?_;refine PySem.W.callWith_K (first:=[.ref a]) (h₀:=X.base) I.ok.mod.kin hm.kp (thn (ha pos pins s1 σ H1 _ I1 q) fun us s2 ⟨vs,H2,I2,r,q2⟩=>⟨I2.kIn,?_⟩) hst hpl;exact zkt (us:=.ref a::us) (vs:=.ref a::vs) F hr hb hd hx I2 (.cons rfl r) q2
theorem zm3{pl:Sem Bool}(he:PE X o ta)(c:Cls X.K C)(hm:zn3 X.K C m f)(F:zdR X.prog X.w X.K X.mg X.base CX k f fd ps sp)(hr:Room k X.A)(hb:Binds X.K fd ps ds)(hd:Vals dvs ds)(hx:zbl CX X E)
  (ht:eval (.Call (.Attribute o m apos) [] [] pos) X.env=(do
   let ov <-eval o X.env
   standAt apos.atName
   let (f,first) <-holding [ov] (getMethod ov m pl)
   callWith pos f first (backTo pos (starEach [] X.env)) (backToKw pos (keywordEach [] X.env))):=by rfl) :
  PE X (.Call (.Attribute o m apos) [] [] pos) (zpg C m sp dvs E ta zbT):=by
 intro pins s σ H Q I h;refine PySem.W.methodCall_KW (pl:=pl) (thn (he pins s σ H _ I h) fun u s1 ⟨x,H1,I1,rx,a,dx,fs,ex,ea,l,q⟩=>?_) ht;subst ex;obtain rfl:u=Value.ref a:=rx;refine zhu I1 ea c hm l ?_;exact PySem.W.callWith_K0 (first:=[.ref a]) I1.kIn hm.kp (zkt (us:=[.ref a]) (vs:=[.ref a]) F hr hb hd hx I1 (.cons rfl .nil) q)
structure Mk(K:PySem.W.Frag)(C f:Addr):Prop where
 makes:PySem.W.makesIn K C=true
 init:PySem.W.findIn K (.ref C) "__init__" = some (some (.ref f))
 fn:PySem.W.isFn K (.ref f)=true
 kp:PySem.W.keepIn K (.ref C)=true
theorem zjz{pins:List (Addr×Obj)}{σ:St}{H:Hp}{s:Shared}{Q:VK}{us:List Value}{vs:List V}(M:Mk X.K C f)(F:zdR X.prog X.w X.K X.mg X.base CX k f fd ps sp)(hr:Room (k+1) X.A)(hb:Binds X.K fd ps ds)(hd:Vals dvs ds)
  (hx:zbl CX X E) (I:Inv X pins σ H s) (r:Vals vs us)
  (h:∀x dx,H x=none->H dx=none->dx≠x->sp (.ref x::(vs++dvs)) (upd (upd H dx (.own x)) x (.ins C dx [])) (fun v H2=>v=.non/\Q (.ref x) H2) E) :
  wpAny (model X.prog X.w) X.A (call (.ref C) us) (EP X pins σ Q) X.xe s:=by
 have hq:=h (s.heap.objs.size+1) s.heap.objs.size (I.hok.fresh (zDl _)) (I.hok.fresh (zAi _)) (zBe (zCo _));have I2:=Inv.made (C:=C) I;have r2:Vals (V.ref (s.heap.objs.size+1)::(vs++dvs)) (Value.ref (s.heap.objs.size+1)::(us++ds)):=.cons rfl (r.append hd);have hl:(Value.ref (s.heap.objs.size+1)::us++ds).length=ps.length:=by
  have e:=r2.length;rw[F.len _ _ _ _ hq] at e;exact e.symm
 refine wpAny_call (zni (f:=f) I.kIn M.makes M.init (beq_iff_eq.mp M.fn) (codeAny_mono (F.run _ X.stack _ _ ⟨Value.ref (s.heap.objs.size+1)::us,[]⟩ (Value.ref (s.heap.objs.size+1)::(us++ds)) _ _ E (hr.make C us [])
  (I2.env0.make C us []) (hb _ (Value.ref (s.heap.objs.size+1)::us) I2.kIn hl) r2 hq) fun r s' hq'=>?_))
 cases r with
 | error e=>exact hx pins σ _ _ e s' I2 hq'
 | ok fl =>
  cases fl with
  | ret u =>
   obtain⟨v,H',I3,rv,ev,q3⟩:=I2.after hq';subst ev;exact⟨rv,⟨V.ref (s.heap.objs.size+1),H',I3,rfl,q3⟩⟩
  | next=>exact False.elim hq'
  | brk=>exact False.elim hq'
  | cont=>exact False.elim hq'
theorem zou(M:Mk X.K C f)(F:zdR X.prog X.w X.K X.mg X.base CX k f fd ps sp)(hr:Room (k+1) X.A)(hg:Gl X x)(hm:X.mg x=some (.ref C))(hb:Binds X.K fd ps ds)(hd:Vals dvs ds)(hx:zbl CX X E)
  (ha:PA X (e::es) t) (hdb:(x == ("__debug__" : Str))=false:=by decide) (he:starEach (e::es) X.env=(false,eval e X.env)::starEach es X.env:=by rfl) (hpl:(backTo pos (starEach es X.env)).any (·.1)=false:=by rfl) :
  PE X (.Call (.Name x p) (e::es) [] pos) (zph C sp dvs E t):=by
 intro pins s σ H Q I h;refine wpAny_Call_Name_kw (zcE I hg hm ?_ hdb);refine PySem.W.callWith_K (h₀:=X.base) I.ok.mod.kin M.kp (thn (ha pos pins s σ H _ I h) fun us s1 ⟨vs,H1,I1,r,q⟩=>⟨I1.kIn,?_⟩) he hpl;exact zjz M F hr hb hd hx I1 r q
theorem zm4(M:Mk X.K C f)(F:zdR X.prog X.w X.K X.mg X.base CX k f fd ps sp)(hr:Room (k+1) X.A)(hg:Gl X x)(hm:X.mg x=some (.ref C))(hb:Binds X.K fd ps ds)(hd:Vals dvs ds)(hx:zbl CX X E)
  (hdb:(x == ("__debug__" : Str))=false:=by decide):PE X (.Call (.Name x p) [] [] pos) (zph C sp dvs E zbT):=by
 intro pins s σ H Q I h;refine wpAny_Call_Name_kw (zcE I hg hm ?_ hdb);exact PySem.W.callWith_K0 I.kIn M.kp (zjz (us:=[]) M F hr hb hd hx I .nil h)
end
section
variable{X:Cx}{CX:CXT}{k:Nat}{f C:Addr}{fd:FuncData}{ps ks:List Str}{sp:Sp}{E:XK}{x m:Str}{p pos apos kpos:Pos}{e o:Expr}{es:List Expr}{kws:List Keyword}{te ta:TE}{t tk:TA}{nm:Option Str}
variable{g:List Value->List Value->List Value}{gV:List V->List V->List V}
end
structure zam(N P:List Str)(sc:Scope):Prop where
 kind:sc.kind=.function
 co:sc.isCoroutine=false
 gen:sc.isGenerator=false
 nd:N.Nodup
 pre:N.take P.length=P
 par:∀x∈P,sc.names.lookup x=some .local\/sc.names.lookup x=some .cell
 nofree:∀y∈sc.names,y.2≠.free
theorem zit{kindOf:Str->Option NameKind}{x:Str}:∀ {binds:List (Str×Value)}{m:Str->Option Value},(∀v,(x,v)∉binds)->bindL kindOf binds m x=m x
 | [],_,_=>rfl
 | (n,v)::r,m,h=>by
  unfold bindL;rw[zit fun w hw=>h w (zAd _ hw)];split
  ·have:x≠n:=by rintro rfl;exact h v zAo
   simp[this]
  ·rfl
theorem ziv{kindOf:Str->Option NameKind}{x:Str}:∀ {binds:List (Str×Value)}{m:Str->Option Value},(∀v,(x,v)∉binds)->bindC kindOf binds m x=m x
 | [],_,_=>rfl
 | (n,v)::r,m,h=>by
  unfold bindC;rw[ziv fun w hw=>h w (zAd _ hw)];split
  ·rfl
  ·have:x≠n:=by rintro rfl;exact h v zAo
   simp[this]
theorem ziu{kindOf:Str->Option NameKind}{x:Str}{v:Value}:∀ {P:List Str}{vs:List Value}{i:Nat}{m:Str->Option Value},P.Nodup->P[i]?=some x->vs[i]?=some v->kindOf x=some .local ->
  bindL kindOf (P.zip vs) m x=some v
 | [],_,_,_,_,h,_,_=>by simp at h
 | _::_,[],_,_,_,_,h,_=>by simp at h
 | p::P,w::vs,0,m,nd,h1,h2,hk=>by
  simp at h1 h2;subst h1;subst h2;show bindL kindOf ((p,w)::P.zip vs) m p=_;unfold bindL;rw[zit fun v hv=>(List.nodup_cons.mp nd).1 (List.of_mem_zip hv).1,if_pos hk];simp
 | p::P,w::vs,i+1,m,nd,h1,h2,hk=>by
  show bindL kindOf ((p,w)::P.zip vs) m x=_;unfold bindL;exact ziu (i:=i) (List.nodup_cons.mp nd).2 (by simpa using h1) (by simpa using h2) hk
theorem ziw{kindOf:Str->Option NameKind}{x:Str}{v:Value}:∀ {P:List Str}{vs:List Value}{i:Nat}{m:Str->Option Value},P.Nodup->P[i]?=some x->vs[i]?=some v->kindOf x≠some .local ->
  bindC kindOf (P.zip vs) m x=some v
 | [],_,_,_,_,h,_,_=>by simp at h
 | _::_,[],_,_,_,_,h,_=>by simp at h
 | p::P,w::vs,0,m,nd,h1,h2,hk=>by
  simp at h1 h2;subst h1;subst h2;show bindC kindOf ((p,w)::P.zip vs) m p=_;unfold bindC;rw[ziv fun v hv=>(List.nodup_cons.mp nd).1 (List.of_mem_zip hv).1,if_neg hk];simp
 | p::P,w::vs,i+1,m,nd,h1,h2,hk=>by
  show bindC kindOf ((p,w)::P.zip vs) m x=_;unfold bindC;exact ziw (i:=i) (List.nodup_cons.mp nd).2 (by simpa using h1) (by simpa using h2) hk
def start(N:List Str)(vs:List V):St:=vs.map some++List.replicate (N.length - vs.length) none
def zaI(CX:CXT)(P:Program)(w:World)(K:PySem.W.Frag)(mg:Str->Option Value)(base:Heap)(N:List Str)(qual:Str)(scope:Scope)(f:Addr)(cd:Value)(A:Around)(outer:List Env)(s:Shared)(H:Hp)(E:XK):Cx where
 prog:=P
 w:=w
 K:=K
 mg:=mg
 base:=base
 A:=A.deeper (envOfC qual scope s.heap.objs.size f cd)
 N:=N
 s_0:=s
 H_0:=H
 env:=envOfC qual scope s.heap.objs.size f cd
 outer:=outer
 stack:=envOfC qual scope s.heap.objs.size f cd::outer
 ex:=[]
 calm:=true
 fn:=fun _=>true
 pn:=[]
 xe:=fun e s'=>wpAny (model P w) (A.deeper (envOfC qual scope s.heap.objs.size f cd)) (leaving (envOfC qual scope s.heap.objs.size f cd) e) (fun _ s''=>CX outer H s E e s'') (fun e' s''=>CX outer H s E e' s'') s'
theorem zjZ{sc:Scope}{n:Nat}{x:Str}(h:sc.names.lookup x=some .cell):∃c,(cellsFrom n sc.names []).lookup x=some c:=by
 have q:=PySem.W.cellsFrom_some sc.names n [] (.inl h);exact Option.isSome_iff_exists.mp q
theorem zl8{CX:CXT}{P:Program}{w:World}{K:PySem.W.Frag}{mg:Str->Option Value}{base:Heap}{N ps:List Str}{qual:Str}{scope:Scope}{f:Addr}{cd:Value}{A:Around}{outer:List Env}{s s1:Shared}{H:Hp}{E:XK}{us:List Value}{vs:List V}
  (S:zam N ps scope) (hd:A.handled=none) (e0:Env0 P w K mg base A outer s H) (hl:vs.length=ps.length) (r:Vals vs us)
  (x:InCallC s s.heap.objs.size (bindL (envOfC qual scope s.heap.objs.size f cd).kindOf (ps.zip us) fun _=>none) (cellsFrom (s.heap.objs.size+1) scope.names []) (bindC (envOfC qual scope s.heap.objs.size f cd).kindOf (ps.zip us) fun _=>none) s1) :
  Inv (zaI CX P w K mg base N qual scope f cd A outer s H E) [] (start N vs) H s1:=by
 have hpl:ps.length<=N.length:=by have:=congrArg List.length S.pre;rw[zBa] at this;omega
 obtain⟨h1,tk,rfl,hk⟩:=x.done;have noA:∀b:Addr,b∉(zaI CX P w K mg base N qual scope f cd A outer s H E).ex:=fun b z=>absurd (show b∈([]:List Addr) from z) (by simp);refine⟨⟨e0.mod,S.kind,rfl,rfl,zAi _,fun y z c h1 h2=>?_,fun y hy=>?_,fun y c _ h=>?_,fun _=>hd,Around.frames_deeper e0.frames,.inr ⟨rfl,rfl⟩,fun b z=>absurd z (noA b),e0.bs,e0.bsz,fun b _ _=>noA b,fun b z=>absurd z (noA b),e0.funs,e0.frf⟩,
  rfl,e0.bare,Un.kept hk,⟨_,x.toInCall.ns,fun i y v h1 h2 h3=>?_⟩,fun y c h=>⟨_,x.cell y c h⟩,e0.hok.fresh (zAi _),fun y c h=>?_,fun p hp=>absurd (show p∈([]:List (Addr×Obj)) from hp) (by simp),e0.hok.kept hk,?_⟩
 ·exact name_of_addr x.apart (PySem.mem_of_lookup h1) (PySem.mem_of_lookup h2)
 ·have hy:scope.names.lookup y=some .cell\/scope.names.lookup y=some .free:=hy;rcases hy with hy | hy
  ·exact zjZ hy
  ·exact absurd rfl (S.nofree _ (PySem.mem_of_lookup hy))
 ·exact Nat.le_of_lt (x.above y c (PySem.mem_of_lookup h))
 ·have hi:i<vs.length:=by
   unfold start at h2;by_cases hi:i<vs.length
   ·exact hi
   ·rw[zCh (by simpa using hi)] at h2;rw[List.getElem?_replicate] at h2;split at h2<;>cases h2
  have ha:vs[i]?=some v:=by
   unfold start at h2;rw[zBv (by simpa using hi),zBl] at h2;cases e:vs[i]? with
   | none=>rw[e] at h2;cases h2
   | some a=>rw[e] at h2;cases h2;rfl
  obtain⟨u,hu,rv⟩:=r.get ha;have hp:ps[i]?=some y:=by
   rw[<-S.pre,List.getElem?_take_of_lt (by omega)];exact h1
  have ndP:ps.Nodup:=by rw[<-S.pre];exact S.nd.sublist (zEh _ _)
  refine⟨u,rv,?_⟩;rcases S.par y (zBs hp) with k | k
  ·exact .inl ⟨k,ziu ndP hp hu k⟩
  ·obtain⟨c,e⟩:=zjZ (n:=s.heap.objs.size+1) k;refine .inr ⟨.inl k,c,e,?_⟩;have q:=x.cell y c e;rw[ziw ndP hp hu (by show scope.names.lookup y≠_;rw[k];decide)] at q;exact q
 ·exact e0.hok.fresh (Nat.le_of_lt (x.above y c (PySem.mem_of_lookup h)))
 ·unfold start;show _=N.length;rw[zAa,zAp,zDt];omega
theorem zpw{CX:CXT}{P:Program}{w:World}{K:PySem.W.Frag}{mg:Str->Option Value}{base:Heap}{k:Nat}{f:Addr}{name qual:Str}{params:Arguments}{body:List Stmt}{scope:Scope}{dV kV doc pm cdv ct oc:Value}{an od:Option Addr}
  {osl:Array (Option Value)}{N ps:List Str}{sp:Sp} (lk:K.lookup f=some ⟨oc,od,.func (PySem.W.fnOf name qual params body scope dV kV doc pm an cdv ct),osl⟩) (hcd:PySem.W.codeIn K cdv qual=true) (S:zam N ps scope)
  (len:∀vs H Q E,sp vs H Q E->vs.length=ps.length)
  (hbody:∀(A:Around) (outer:List Env) (s:Shared) (H:Hp) (vs:List V) (Q:VK) (E:XK),Room k (A.deeper (envOfC qual scope s.heap.objs.size f cdv))->sp vs H Q E ->
   ∃t,PSs (zaI CX P w K mg base N qual scope f cdv A outer s H E) body t/\t {nx:=fun _ H'=>Q .non H',rt:=Q} (start N vs) H) :
  zdR P w K mg base CX (k+1) f (PySem.W.fnOf name qual params body scope dV kV doc pm an cdv ct) ps sp:=by
 refine⟨len,fun A outer s H args us vs Q E hr e0 hb r hsp=>?_⟩;have hl:=len _ _ _ _ hsp;have KX:K.In s.heap:=e0.mod.kin.keeps fun b o e=>(e0.bs b o e).1;have lim:s.heap.NoLimit:=e0.mod.nolimit.keeps fun b o e=>(e0.bs b o e).1;have hkind:∀y∈ps.zip us,scope.names.lookup y.1=some .local\/(scope.names.lookup y.1=some .cell/\((cellsFrom (s.heap.objs.size+1) scope.names []).lookup y.1).isSome=true):=fun⟨n,v⟩ hy=>by
  rcases S.par n (List.of_mem_zip hy).1 with q | q
  ·exact .inl q
  ·exact .inr ⟨q,PySem.W.cellsFrom_some _ _ _ (.inl q)⟩
 refine codeAny_call_function hr.depth (KX _ _ lk) rfl S.co S.gen rfl (PySem.W.codeRec_of KX hcd) (hb _ _ _ _ ?_);refine wpAny_newFunctionEnv_cells S.kind hkind fun env he s1 x=>?_;subst he;refine⟨lim.keeps x.toInCall.keep,codeAny_func ?_⟩;obtain⟨t,ht,hq⟩:=hbody A outer s H vs Q E (hr.deeper _) hsp;have I:Inv (zaI CX P w K mg base N qual scope f cdv A outer s H E) [] (start N vs) H s1:=zl8 S hr.hd e0 hl r x;refine wpAny_mono (ht [] s1 (start N vs) H _ I hq) (fun fl s' hs=>?_) fun e s' hs=>hs;have fin:∀ {σ':St}{H':Hp}{v:V}{u:Value},Inv (zaI CX P w K mg base N qual scope f cdv A outer s H E) [] σ' H' s'->RelV v u->Q v H'->CE outer P w H s Q u s':=
  fun{σ' H' v u} J rv q=>⟨v,H',J.os,J.bare,J.base,J.hok,rv,q⟩
 cases fl with
 | ret u =>
  obtain⟨v,σ',H',J,rv,q⟩:=hs;exact fin J rv q
 | next =>
  obtain⟨σ',H',J,q⟩:=hs;exact fin (v:=V.non) (u:=Value.none) J rfl q
 | brk =>
  obtain⟨_,_,_,q⟩:=hs;exact False.elim q
 | cont =>
  obtain⟨_,_,_,q⟩:=hs;exact False.elim q
end L2
namespace L2
open PySem PySem.Spec PyProof.Rows
section
variable{X:Cx}{x:Str}{p pos:Pos}{e:Expr}{es:List Expr}{t:TA}{id T:String}{r:List V->Hp->VK->Prop}
def tCB(r:List V->Hp->VK->Prop)(t:TA):TE:=fun σ H Q=>t σ H fun vs H1=>r vs H1 Q
theorem zaF(hc:zdl X (.builtin id) r)(hg:Gl X x)(hm:X.mg x=none)(hv:bootBuiltins x=some (.builtin id))(ha:PA X (e::es) t)(hn:x ≠ "__name__" := by decide)(hdb:(x == ("__debug__" : Str))=false:=by decide)
  (he:starEach (e::es) X.env=(false,eval e X.env)::starEach es X.env:=by rfl) (hpl:(backTo pos (starEach es X.env)).any (·.1)=false:=by rfl):PE X (.Call (.Name x p) (e::es) [] pos) (tCB r t):=by
 intro pins s σ H Q I h;refine wpAny_Call_Name_kw (zey I hg hm hv ?_ hn hdb);exact PyProof.Rows.callWith_builtin1 (thn (ha pos pins s σ H _ I h) fun us s1 ⟨vs,H1,I1,r1,q1⟩=>hc pins s1 σ H1 vs us Q I1 r1 q1) he hpl
theorem zdW(hc:zdl X (.type T) r)(hg:Gl X x)(hm:X.mg x=none)(hv:bootBuiltins x=some (.type T))(ha:PA X (e::es) t)(hn:x ≠ "__name__" := by decide)(hdb:(x == ("__debug__" : Str))=false:=by decide)
  (he:starEach (e::es) X.env=(false,eval e X.env)::starEach es X.env:=by rfl) (hpl:(backTo pos (starEach es X.env)).any (·.1)=false:=by rfl):PE X (.Call (.Name x p) (e::es) [] pos) (tCB r t):=by
 intro pins s σ H Q I h;refine wpAny_Call_Name_kw (zey I hg hm hv ?_ hn hdb);exact PyProof.Rows.callWith_type1 (thn (ha pos pins s σ H _ I h) fun us s1 ⟨vs,H1,I1,r1,q1⟩=>hc pins s1 σ H1 vs us Q I1 r1 q1) he hpl
end
end L2
namespace HT
open PySem PyProof.Rows
section
open PySem.SeqAt
open PySem.AutoSeq1 (wpAny_loadPart')
open PySem.MeetsSeq PySem.MeetsSeq2 PySem.MeetsSeq3
end
section
variable{prog:Program}{w:World}{A:Around}{E:Value->Shared->Prop}{s:Shared}
def sIx(n d:Nat):Option Int->Nat
 | none=>d
 | some v=>if v<0 then(v+(n:Int)).toNat else min v.toNat n
theorem sIx_none(n d:Nat):sIx n d none=d:=rfl
theorem sIx_nat(n d k:Nat):sIx n d (some (k:Int))=min k n:=by
 show(if (k:Int)<0 then((k:Int)+(n:Int)).toNat else min (k:Int).toNat n)=min k n;rw[if_neg (by omega),zBu]
end
end HT
namespace L2
open PySem PySem.Spec PyProof.Rows
abbrev TO:=St->Hp->(Option Int->Hp->Prop)->Prop
def PO(X:Cx)(e:Option Expr)(t:TO):Prop:=
 ∀(pins:List (Addr×Obj)) (s:Shared) (σ:St) (H:Hp) (Q:Option Int->Hp->Prop),Inv X pins σ H s->t σ H Q ->
  wpAny (model X.prog X.w) X.A (evalPart e X.env) (fun u s'=>∃o H',Inv X pins σ H' s'/\IsPart u o/\Q o H') X.xe s
def zkY:TO:=fun _ H Q=>Q none H
def zpf(t:TE):TO:=fun σ H Q=>t σ H fun x H1=>∃i,x=.int i/\Q (some i) H1
section
variable{X:Cx}{e:Expr}{te:TE}{lo hi:Option Expr}{tl th:TO}{pos p2:Pos}
theorem zeX:PO X none zkY:=by
 intro pins s σ H Q I h;rw[evalPart_none];exact wpAny_pure ⟨none,H,I,.none,h⟩
theorem zbK(h:PE X e te):PO X (some e) (zpf te):=by
 intro pins s σ H Q I hw;rw[evalPart_some];refine thn (h pins s σ H _ I hw) fun u s1 ⟨x,H1,I1,r1,q1⟩=>?_;obtain⟨i,rfl,q⟩:=q1;obtain⟨t,rfl⟩:=r1;exact⟨some i,H1,I1,.int i t,q⟩
def SlR(X:Cx)(r:V->Option Int->Option Int->Hp->VK->Prop):Prop:=
 ∀(pins:List (Addr×Obj)) (s:Shared) (σ:St) (H:Hp) (x:V) (v vl vu:Value) (lo hi:Option Int) (sl:Addr) (Q:VK),Inv X pins σ H s->RelV x v->s.heap.IsSliceOf sl vl vu .none->IsPart vl lo->IsPart vu hi->r x lo hi H Q ->
  ∃T id,typeLookup (.type T) "__getitem__" = pure (some (.builtin id))/\s.TypeIs v T/\wpAny (model X.prog X.w) X.A (getItem v (.ref sl)) (EP X pins σ Q) X.xe s
def tSl(r:V->Option Int->Option Int->Hp->VK->Prop)(te:TE)(tl th:TO):TE:=fun σ H Q=>te σ H fun x H1=>tl σ H1 fun l H2=>th σ H2 fun u H3=>r x l u H3 Q
theorem zb3{r:V->Option Int->Option Int->Hp->VK->Prop}(hr:SlR X r)(he:PE X e te)(hl:PO X lo tl)(hu:PO X hi th):PE X (.Subscript e (.Slice lo hi none p2) pos) (tSl r te tl th):=by
 intro pins s σ H Q I h;refine Subscript_ (thn (he pins s σ H _ I h) fun v s1 ⟨x,H1,I1,r1,q1⟩=>?_);refine wpAny_Slice (thn (hl pins s1 σ H1 _ I1 q1) fun vl s2 ⟨l,H2,I2,pl,q2⟩=>thn (hu pins s2 σ H2 _ I2 q2) fun vu s3 ⟨u,H3,I3,pu,q3⟩=>?_);rw[evalPart_none];refine wpAny_pure ?_;have I4:Inv X pins σ H3 {s3 with heap:=s3.heap.push {cls:=.type "slice",data:=.fields #[vl,vu,.none]}}:=I3.kept (t':=s3.toks) fun b ob q=>Heap.get?_push_of_some _ q;obtain⟨T,id,hT,ht,hg⟩:=hr pins {s3 with heap:=s3.heap.push {cls:=.type "slice",data:=.fields #[vl,vu,.none]}} σ H3 x v vl vu l u s3.heap.objs.size Q I4 r1 (Heap.IsSliceOf.new ..) pl pu q3;show wpAny (model X.prog X.w) X.A (subscriptTail e (.Slice lo hi none p2) v (.ref s3.heap.objs.size)) (EP X pins σ Q) X.xe {s3 with heap:=s3.heap.push {cls:=.type "slice",data:=.fields #[vl,vu,.none]}};exact tail_any (ops:=[.ref s3.heap.objs.size,v]) ht hT hg (by with_unfolding_all rfl)
def zeB(xs:List V)(lo hi:Option Int):List V:=(xs.drop (HT.sIx xs.length 0 lo)).take (HT.sIx xs.length xs.length hi - HT.sIx xs.length 0 lo)
theorem zjX(xs:List V)(lo hi:Option Int):(zeB xs lo hi).length<=xs.length:=by
 unfold zeB;rw[zBa,zBi];omega
end
end L2
namespace L2
open PySem PySem.Spec PyProof.Rows
def ixN(n:Nat)(i:Int):Option Nat:=if 0<=i then(if i<n then some i.toNat else none) else if -(n:Int)<=i then some (i+n).toNat else none
def atI{α:Type}(xs:List α)(i:Int):Option α:=(ixN xs.length i).bind fun j=>xs[j]?
theorem zlp{n:Nat}{i:Int}{j:Nat}(h:ixN n i=some j):seqIndex? i n=some j/\j<n/\-(n:Int)<=i/\i<n:=by
 unfold ixN at h;by_cases h0:0<=i
 ·rw[if_pos h0] at h;by_cases h1:i<n
  ·rw[if_pos h1] at h;have e:i.toNat=j:=zBd h;exact⟨by rw[seqIndex_of h0 h1,e],by omega,by omega,h1⟩
  ·rw[if_neg h1] at h;cases h
 ·rw[if_neg h0] at h;by_cases h1:-(n:Int)<=i
  ·rw[if_pos h1] at h;have e:(i+n).toNat=j:=zBd h;exact⟨by rw[seqIndex_neg (by omega) h1,e],by omega,h1,by omega⟩
  ·rw[if_neg h1] at h;cases h
theorem zlE{α:Type}{xs:List α}{i:Int}{v:α}(h:atI xs i=some v):∃j,seqIndex? i xs.length=some j/\xs[j]?=some v/\j<xs.length/\-(xs.length:Int)<=i/\i<xs.length:=by
 unfold atI at h;cases e:ixN xs.length i with
 | none=>rw[e] at h;cases h
 | some j =>
  rw[e] at h;obtain⟨h1,h2,h3,h4⟩:=zlp e;exact⟨j,h1,h,h2,h3,h4⟩
theorem zdb{α:Type}{xs:List α}{j:Nat}{v:α}(h:xs[j]?=some v):atI xs (j:Int)=some v:=by
 have hj:j<xs.length:=(List.getElem?_eq_some_iff.mp h).1;have e:ixN xs.length (j:Int)=some j:=by
  unfold ixN;rw[if_pos (by omega),if_pos (by omega)];simp
 unfold atI;rw[e];exact h
theorem zbq{α:Type}(xs:List α)(v:α):atI (xs++[v]) (-1)=some v:=by
 have hl:(xs++[v]).length=xs.length+1:=by simp
 have e:ixN (xs++[v]).length (-1)=some xs.length:=by
  unfold ixN;rw[hl,if_neg (by decide),if_pos (by omega)];congr 1;omega
 unfold atI;rw[e];show(xs++[v])[xs.length]?=some v;simp
def zpb(b:Expr):Prop:=∀o i,subscripted b false o i=operate [o,i] (getItem o i)
def IxR(X:Cx)(r:R2):Prop:=
 ∀(value slice:Expr) (pins:List (Addr×Obj)) (s:Shared) (σ:St) (H:Hp) (x y:V) (v u:Value) (Q:VK),Inv X pins σ H s->RelV x v->RelV y u->r x y H Q ->
  subscripted slice false v u=operate [v,u] (getItem v u)->wpAny (model X.prog X.w) X.A (subscriptTail value slice v u) (EP X pins σ Q) X.xe s
def MtR(X:Cx)(id:String)(r:V->List V->Hp->VK->Prop):Prop:=
 ∀(pins:List (Addr×Obj)) (s:Shared) (σ:St) (H:Hp) (x:V) (xs:List V) (v:Value) (us:List Value) (Q:VK),Inv X pins σ H s->RelV x v->Vals xs us->r x xs H Q ->
  wpAny (model X.prog X.w) X.A (call (.builtin id) (v::us)) (EP X pins σ Q) X.xe s
section
variable{X:Cx}{a b:Expr}{ta tb:TE}{pos:Pos}
theorem zau{r:R2}(hr:IxR X r)(ha:PE X a ta)(hb:PE X b tb)(hs:zpb b):PE X (.Subscript a b pos) (tOp r ta tb):=by
 intro pins s σ H Q I h;exact Subscript_ (zqR ha hb I h fun v u s2 x y H2 I2 rx ry q=>hr a b pins s2 σ H2 x y v u Q I2 rx ry q (hs _ _))
def zrd(K:PySem.W.Frag):R2:=fun x y H Q=>∃p xs i v,x=.ref p/\y=.int i/\SqL K H p xs/\atI xs i=some v/\Q v H
def zlX(K:PySem.W.Frag):R2:=fun x y H Q=>∃p xs i v,x=.ref p/\y=.int i/\SqT K H p xs/\atI xs i=some v/\Q v H
theorem zaG:IxR X (zrd X.K):=by
 intro value slice pins s σ H x y v u Q I rx ry h hs;obtain⟨p,xs,i,z,rfl,rfl,hq,he,q⟩:=h;cases rx
 obtain⟨t,rfl⟩:=ry;obtain⟨its,r,pl,hz⟩:=I.list hq;obtain⟨j,h1,h2,h3,h4,h5⟩:=zlE he;obtain⟨w,ew,rw'⟩:=r.get h2;have hl:=r.length;have hn:=zfz;have fin:EP X pins σ Q w s:=⟨z,H,I,rw',q⟩;by_cases h0:0<=i
 ·have hj:i.toNat=j:=by
   rw[seqIndex_of h0 h5] at h1;exact zBd h1
  exact item_listR pl.isList h0 (by omega) (by rw[hj];simpa using ew) fin hs
 ·have hj:(i+(its.toArray.size:Int)).toNat=j:=by
   rw[seqIndex_neg (by omega) h4] at h1;rw[zAn,<-hl];exact zBd h1
  exact subscriptTail_builtinR (x:=w) pl.isList.typeIs slot_list_getitem.lookup
   (wpAny_getItem_list_neg (Q:=fun r s'=>r=w/\EP X pins σ Q r s') pl.isList (by omega) (by rw[zAn]<;>omega) (by omega) (by rw[hj];simpa using ew) ⟨rfl,fin⟩) hs
theorem zax:IxR X (zlX X.K):=by
 intro value slice pins s σ H x y v u Q I rx ry h hs;obtain⟨p,xs,i,z,rfl,rfl,hq,he,q⟩:=h;cases rx
 obtain⟨t,rfl⟩:=ry;obtain⟨its,r,pl,hz⟩:=I.tuple hq;obtain⟨j,h1,h2,h3,h4,h5⟩:=zlE he;obtain⟨w,ew,rw'⟩:=r.get h2;have hl:=r.length;have hn:=zfz;have fin:EP X pins σ Q w s:=⟨z,H,I,rw',q⟩;exact subscriptTail_builtinR (x:=w) pl.typeIs slot_tuple_getitem.lookup
  (getItem_tuple (j:=j) (Q:=fun r s'=>r=w/\EP X pins σ Q r s') pl (by omega) (by omega) (by rw[zAn,<-hl];exact h1) (by simpa using ew) ⟨rfl,fin⟩) hs
theorem zkD(its:List Value)(n j:Nat)(u:Value):Obj.mapSeq (·.setIfInBounds j u) {cls:=.type "list",data:=.seq its.toArray n}={cls:=.type "list",data:=.seq (its.set j u).toArray n}:=by
 simp[Obj.mapSeq]
theorem Inv.lst{pins:List (Addr×Obj)}{σ:St}{H:Hp}{s:Shared}{p:Addr}{xs:List V}(I:Inv X pins σ H s)(h:H p=some (.lst xs)) :
  ∃(its:List Value) (n:Nat),Vals xs its/\s.heap.get? p=some {cls:=.type "list",data:=.seq its.toArray n}/\xs.length<=sizeLine:=by
 obtain⟨z,its,n,r,e⟩:=I.hok p _ h;exact⟨its,n,r,e,z⟩
theorem Inv.lstUpd{pins:List (Addr×Obj)}{σ:St}{H:Hp}{s:Shared}{p:Addr}{xs ys:List V}{its its':List Value}{n n':Nat}{f:Obj->Obj}(I:Inv X pins σ H s)(h:H p=some (.lst xs))
  (ho:s.heap.get? p=some {cls:=.type "list",data:=.seq its.toArray n}) (hf:f {cls:=.type "list",data:=.seq its.toArray n}={cls:=.type "list",data:=.seq its'.toArray n'}) (r:Vals ys its') (hz:ys.length<=sizeLine) (t:Nat) :
  Inv X pins σ (upd H p (.lst ys)) {s with heap:=s.heap.update p f,toks:=t}:=by
 have e:(s.heap.update p f).get? p=some {cls:=.type "list",data:=.seq its'.toArray n'}:=by
  rw[Heap.get?_update_self f ho (by rw[hf]<;>rfl),hf]
 refine I.write (x:=p) (e:=p) (by rw[h];trivial) (.inl rfl) (fun b u hb q=>(Heap.get?_update_other _ _ (Ne.symm hb)).trans q) ⟨_,e⟩ ?_;exact⟨hz,its',n',r,e⟩
def zpn:V->V->V->Hp->(Hp->Prop)->Prop:=fun o i v H Q=>∃p xs k j,o=.ref p/\i=.int k/\H p=some (.lst xs)/\ixN xs.length k=some j/\Q (upd H p (.lst (xs.set j v)))
theorem zmS:zr0 X zpn:=by
 intro pins s σ H o i v ov iv u Q I ro ri rv h;obtain⟨p,xs,k,j,rfl,rfl,hp,hj,q⟩:=h;cases ro
 obtain⟨t,rfl⟩:=ri;obtain⟨its,n,r,ho,hz⟩:=I.lst hp;obtain⟨h1,h2,h3,h4⟩:=zlp hj;have hl:=r.length;have hn:=zfz;have I':Inv X pins σ (upd H p (.lst (xs.set j v))) {s with heap:=s.heap.update p (Obj.mapSeq (·.setIfInBounds j u))}:=
  I.lstUpd hp ho (zkD its n j u) (r.set rv j) (by rw[List.length_set];exact hz) s.toks
 by_cases h0:0<=k
 ·have hk:k.toNat=j:=by
   rw[seqIndex_of h0 h4] at h1;exact zBd h1
  exact PySem.W.ki_setAt ho h0 (by omega) (by rw[zAn,<-hl];exact h4) (by rw[hk];exact⟨_,I',q⟩)
 ·have hk:(k+(its.toArray.size:Int)).toNat=j:=by
   rw[seqIndex_neg (by omega) h3] at h1;rw[zAn,<-hl];exact zBd h1
  exact PySem.W.ki_setBack ho (by omega) (by rw[zAn,<-hl];exact h3) (by omega) (by rw[hk];exact⟨_,I',q⟩)
theorem ziK(lo hi:Option Int)(n:Nat):(sliceBounds lo hi none n).1=((HT.sIx n 0 lo:Nat):Int)/\(sliceBounds lo hi none n).2.1=((HT.sIx n n hi:Nat):Int)/\(sliceBounds lo hi none n).2.2=1:=by
 refine⟨?_,?_,rfl⟩
 ·cases lo with
  | none=>simp[sliceBounds,HT.sIx]
  | some i =>
   simp only[sliceBounds,HT.sIx,Option.getD_none,show(1:Int) > 0 by decide,if_true];by_cases h:i<0
   ·simp only[h,if_true]<;>omega
   ·simp only[h,if_false]<;>omega
 ·cases hi with
  | none=>simp[sliceBounds,HT.sIx]
  | some i =>
   simp only[sliceBounds,HT.sIx,Option.getD_none,show(1:Int) > 0 by decide,if_true];by_cases h:i<0
   ·simp only[h,if_true]<;>omega
   ·simp only[h,if_false]<;>omega
theorem zhT(its:List Value)(lo hi:Option Int):slicePick its.toArray lo hi none=((its.drop (HT.sIx its.length 0 lo)).take (HT.sIx its.length its.length hi - HT.sIx its.length 0 lo)).toArray:=by
 obtain⟨h1,h2,h3⟩:=ziK lo hi its.toArray.size;unfold slicePick;rw[h1,h2,h3];simp only[sliceRange_one,pick_run,zAn]<;>rfl
def zrb(K:PySem.W.Frag):V->Option Int->Option Int->Hp->VK->Prop:=fun x lo hi H Q=>∃a xs,x=.ref a/\SqL K H a xs/\∀p,H p=none->Q (.ref p) (upd H p (.lst (zeB xs lo hi)))
theorem zcw:SlR X (zrb X.K):=by
 intro pins s σ H x v vl vu lo hi sl Q I rx hs pl pu h;obtain⟨a,xs,rfl,hx,q⟩:=h;cases rx
 obtain⟨its,r,ht,hz⟩:=I.list hx;have hlen:=r.length;refine⟨"list",_,slot_list_getitem.lookup,ht.isList.typeIs,?_⟩;refine wpAny_getItem_list_slice ht.isList hs pl pu .none (by simp) ?_ (by rw[zAn]<;>omega);rw[zhT,<-hlen];refine⟨.ref s.heap.objs.size,_,I.laid (t':=s.toks) (o:=.lst (zeB xs lo hi)) (fun b ob q=>Heap.get?_push_of_some _ q) (zAi _) ?_,rfl,q _ (I.hok.fresh (zAi _))⟩;exact⟨zBp (zjX xs lo hi) hz,_,0,(r.drop (HT.sIx xs.length 0 lo)).take (HT.sIx xs.length xs.length hi - HT.sIx xs.length 0 lo),Heap.get?_push_size _ rfl⟩
def zen:V->Bool
 | .non=>true
 | .bl _=>true
 | .int _=>true
 | .str _=>true
 | _=>false
def eqV:V->V->Bool
 | .non,.non=>true
 | .bl a,.bl b=>a == b
 | .bl a,.int b=>(if a then 1 else 0) == b
 | .int a,.bl b=>a == (if b then 1 else 0)
 | .int a,.int b=>a == b
 | .str a,.str b=>a == b
 | _,_=>false
theorem zqG{A:Around}{s:Shared}{y x:V}{u v:Value}(ry:RelV y u)(rx:RelV x v)(fy:zen y=true)(fx:zen x=true):SeqAt.EqAt A s u v (eqV y x):=by
 cases y with
 | non =>
  cases ry
  cases x with
  | non=>cases rx;exact SeqAt.EqAt.same _
  | bl b=>cases rx;exact SeqAt.EqAt.none_bool b
  | int b=>obtain⟨t,rfl⟩:=rx;exact SeqAt.EqAt.none_int b t
  | str b=>obtain⟨t,rfl⟩:=rx;exact SeqAt.EqAt.none_str b t
  | _=>exact absurd (show false=true from fx) zAc
 | bl a =>
  cases ry
  cases x with
  | non=>cases rx;exact SeqAt.EqAt.bool_none a
  | bl b=>cases rx;exact SeqAt.EqAt.bool_bool a b
  | int b=>obtain⟨t,rfl⟩:=rx;exact SeqAt.EqAt.bool_int a b t
  | str b=>obtain⟨t,rfl⟩:=rx;exact SeqAt.EqAt.bool_str a b t
  | _=>exact absurd (show false=true from fx) zAc
 | int a =>
  obtain⟨t',rfl⟩:=ry;cases x with
  | non=>cases rx;exact SeqAt.EqAt.int_none a t'
  | bl b=>cases rx;exact SeqAt.EqAt.int_bool a t' b
  | int b=>obtain⟨t,rfl⟩:=rx;exact SeqAt.EqAt.int_int a t' b t
  | str b=>obtain⟨t,rfl⟩:=rx;exact SeqAt.EqAt.int_str a t' b t
  | _=>exact absurd (show false=true from fx) zAc
 | str a =>
  obtain⟨t',rfl⟩:=ry;cases x with
  | non=>cases rx;exact SeqAt.EqAt.str_none a t'
  | bl b=>cases rx;exact SeqAt.EqAt.str_bool a t' b
  | int b=>obtain⟨t,rfl⟩:=rx;exact SeqAt.EqAt.str_int a t' b t
  | str b=>obtain⟨t,rfl⟩:=rx;exact SeqAt.EqAt.str_str a t' b t
  | _=>exact absurd (show false=true from fx) zAc
 | _=>exact absurd (show false=true from fy) zAc
def eqU(x:V)(u:Value):Bool:=match u with
 | .none=>eqV .non x
 | .bool b=>eqV (.bl b) x
 | .int i _=>eqV (.int i) x
 | .str z _=>eqV (.str z) x
 | _=>false
theorem znI{x y:V}{u:Value}(r:RelV y u)(f:zen y=true):eqU x u=eqV y x:=by
 cases y with
 | non=>cases r;rfl
 | bl b=>cases r;rfl
 | int i=>obtain⟨t,rfl⟩:=r;rfl
 | str z=>obtain⟨t,rfl⟩:=r;rfl
 | _=>exact absurd (show false=true from f) zAc
theorem zfe{x:V}:∀ {xs:List V}{us:List Value},Vals xs us->xs.all zen=true->us.any (eqU x)=xs.any fun y=>eqV y x
 | _,_,.nil,_=>rfl
 | y::xs,u::us,.cons r t,f=>by
  rw[List.all_cons,zBx] at f;rw[zDn,zDn,znI r f.1,zfe t f.2]
theorem zdI{A:Around}{s:Shared}{x:V}{v:Value}(rx:RelV x v)(fx:zen x=true):∀ {xs:List V}{us:List Value},Vals xs us->xs.all zen=true->∀u∈us,SeqAt.EqAt A s u v (eqU x u)
 | _,_,.nil,_=>fun u hu=>by cases hu
 | y::xs,u::us,.cons r t,f=>fun u' hu=>by
  rw[List.all_cons,zBx] at f;rcases zAe hu with rfl | hu
  ·rw[znI r f.1];exact zqG r rx f.1 fx
  ·exact zdI rx fx t f.2 u' hu
def inV(x:V)(xs:List V):Bool:=xs.any fun y=>eqV y x
def rIn(K:PySem.W.Frag)(neg:Bool):R2:=fun x y H Q=>∃p xs,y=.ref p/\(SqL K H p xs\/SqT K H p xs)/\zen x=true/\xs.all zen=true/\Q (.bl (if neg then !inV x xs else inV x xs)) H
theorem zif:OpR X (compareOp .In) (rIn X.K false):=by
 intro pins s σ H x y v u Q I rx ry h;obtain⟨p,xs,rfl,hq,fx,fs,q⟩:=h;cases ry
 rcases hq with hq | hq
 ·obtain⟨its,r,pl,hz⟩:=I.list hq;refine SeqAt.in_listAt (eqU x) pl.isList (fun w hw=>zdI rx fx r fs w (by simpa using hw)) ⟨.bl _,H,I,rfl,?_⟩;rw[show its.toArray.any (eqU x)=its.any (eqU x) by simp,zfe r fs];exact q
 ·obtain⟨its,r,pl,hz⟩:=I.tuple hq;refine SeqAt.in_tupleAt (eqU x) pl (fun w hw=>zdI rx fx r fs w (by simpa using hw)) ⟨.bl _,H,I,rfl,?_⟩;rw[show its.toArray.any (eqU x)=its.any (eqU x) by simp,zfe r fs];exact q
theorem ziT:OpR X (compareOp .NotIn) (rIn X.K true):=by
 intro pins s σ H x y v u Q I rx ry h;obtain⟨p,xs,rfl,hq,fx,fs,q⟩:=h;cases ry
 rcases hq with hq | hq
 ·obtain⟨its,r,pl,hz⟩:=I.list hq;refine SeqAt.notIn_listAt (eqU x) pl.isList (fun w hw=>zdI rx fx r fs w (by simpa using hw)) ⟨.bl _,H,I,rfl,?_⟩;rw[show its.toArray.any (eqU x)=its.any (eqU x) by simp,zfe r fs];exact q
 ·obtain⟨its,r,pl,hz⟩:=I.tuple hq;refine SeqAt.notIn_tupleAt (eqU x) pl (fun w hw=>zdI rx fx r fs w (by simpa using hw)) ⟨.bl _,H,I,rfl,?_⟩;rw[show its.toArray.any (eqU x)=its.any (eqU x) by simp,zfe r fs];exact q
theorem zaL:zdl X (.builtin "len") (fun xs H Q=>∃p ys,xs=[.ref p]/\(SqL X.K H p ys\/SqT X.K H p ys)/\Q (.int ys.length) H):=by
 intro pins s σ H xs us Q I r h;obtain⟨p,ys,rfl,hq,q⟩:=h;obtain⟨u,rfl,rx⟩:=zgJ r;cases rx
 have hn:=zfz;rcases hq with hq | hq
 ·obtain⟨its,r',pl,hz⟩:=I.list hq;have hlen:=r'.length;exact Calls.call_len_list pl.isList (by simp only[zAn]<;>omega) ⟨.int ys.length,H,I.tok _,⟨s.toks+1,by rw[zAn,hlen]⟩,q⟩
 ·obtain⟨its,r',pl,hz⟩:=I.tuple hq;have hlen:=r'.length;exact len_tuple pl (by simp only[zAn]<;>omega) ⟨.int ys.length,H,I.tok _,⟨s.toks+1,by rw[zAn,hlen]⟩,q⟩
theorem zjb:zdl X (.builtin "len") (fun xs H Q=>∃z,xs=[.str z]/\z.length<=sizeLine/\Q (.int z.length) H):=by
 intro pins s σ H xs us Q I r h;obtain⟨z,rfl,hz,q⟩:=h;obtain⟨u,rfl,t,rfl⟩:=zgJ r;have hn:=zfz;exact len_str (by omega) ⟨.int z.length,H,I.tok _,⟨_,rfl⟩,q⟩
theorem zja:zdl X (.type "list") (fun xs H Q=>∃p ys,xs=[.ref p]/\(SqL X.K H p ys\/SqT X.K H p ys)/\∀l,H l=none->Q (.ref l) (upd H l (.lst ys))):=by
 intro pins s σ H xs us Q I r h;obtain⟨p,ys,rfl,hq,q⟩:=h;obtain⟨u,rfl,rx⟩:=zgJ r;cases rx
 have fin:∀(its:List Value),Vals ys its->ys.length<=sizeLine->∀(h':Heap) (c':Nat),(∀b o',s.heap.get? b=some o'->h'.get? b=some o') ->
   h'.get? s.heap.objs.size=some {cls:=.type "list",dict:=none,data:=.seq its.toArray c',slots:=#[]}->EP X pins σ Q (.ref s.heap.objs.size) {s with heap:=h'}:=fun its r' hz h' c' kp e =>
  ⟨.ref s.heap.objs.size,_,I.laid (t':=s.toks) kp (zAi _) (show ObjOk X.prog X.w _ h' _ (.lst ys) from⟨hz,its,c',r',e⟩),rfl,q _ (I.hok.fresh (zAi _))⟩
 rcases hq with hq | hq
 ·obtain⟨its,r',pl,hz⟩:=I.list hq;have hlen:=r'.length;obtain⟨o,ho,hc,n,hd⟩:=pl.isList;exact call_list_seq p (.inl rfl) ho hc hd (fun h' c' kp e=>fin its r' hz h' c' kp e) (by simp only[zAn]<;>omega)
 ·obtain⟨its,r',pl,hz⟩:=I.tuple hq;have hlen:=r'.length;obtain⟨o,ho,hc,n,hd⟩:=pl;exact call_list_seq p (.inr rfl) ho hc hd (fun h' c' kp e=>fin its r' hz h' c' kp e) (by simp only[zAn]<;>omega)
def tyV(K:PySem.W.Frag)(T:String)(x:V)(H:Hp):Prop:=match x with
 | .str _=>T = "str"
 | .int _=>T = "int"
 | .ref p=>(T = "list" /\ ∃xs,SqL K H p xs)\/(T = "tuple" /\ ∃o,K.lookup p=some o/\o.cls=.type "tuple" /\ o.dict=none) \/
   (T = "dict" /\ ((∃kvs,H p=some (.dK kvs))\/∃kvs,H p=some (.dT kvs)))\/(T = "set" /\ ∃S n,H p=some (.set S n))
 | _=>False
theorem zmv{pins:List (Addr×Obj)}{σ:St}{H:Hp}{s:Shared}{T:String}{x:V}{v:Value}(I:Inv X pins σ H s)(r:RelV x v)(ty:tyV X.K T x H) :
  s.TypeIs v T/\∀a,v=.ref a->∃ob,s.heap.get? a=some ob/\ob.dict=none:=by
 cases x with
 | str z =>
  obtain⟨t,rfl⟩:=r;cases (show T = "str" from ty)
  exact⟨typeIs_str s z t,fun _ e=>nomatch e⟩
 | int i =>
  obtain⟨t,rfl⟩:=r;cases (show T = "int" from ty)
  exact⟨typeIs_int s i t,fun _ e=>nomatch e⟩
 | ref p =>
  cases r
  rcases ty with⟨rfl,xs,hq⟩|⟨rfl,o,hk,hc,hd⟩|⟨rfl,hk⟩|⟨rfl,S,n,hk⟩
  ·obtain⟨its,_,pl,_⟩:=I.list hq;refine⟨pl.isList.typeIs,fun a e=>?_⟩;cases e
   obtain⟨o,n,e,c,hd,_⟩:=pl;exact⟨o,e,hd⟩
  ·refine⟨⟨o,I.kIn p o hk,hc⟩,fun a e=>?_⟩;cases e
   exact⟨o,I.kIn _ o hk,hd⟩
  ·have z:∃o,s.heap.get? p=some o/\o.ExactDict:=by
    rcases hk with⟨kvs,hk⟩|⟨kvs,hk⟩
    ·obtain⟨_,_,_,_,o,_,_,e,ex,_⟩:=I.hok p _ hk;exact⟨o,e,ex⟩
    ·obtain⟨_,_,_,_,o,_,_,e,ex,_⟩:=I.hok p _ hk;exact⟨o,e,ex⟩
   obtain⟨o,e,ex⟩:=z;refine⟨⟨o,e,ex.1⟩,fun a e2=>?_⟩;cases e2
   exact⟨o,e,ex.2.1⟩
  ·obtain⟨o,_,_,_,e,ex,_⟩:=I.hok p _ hk;refine⟨⟨o,e,ex.1⟩,fun a e2=>?_⟩;cases e2
   exact⟨o,e,ex.2.1⟩
 | _=>exact False.elim ty
def zpL(K:PySem.W.Frag)(T:String)(r:V->List V->Hp->VK->Prop)(to:TE):TE:=fun σ H Q=>to σ H fun x H1=>tyV K T x H1/\r x [] H1 Q
def tBM(K:PySem.W.Frag)(T:String)(r:V->List V->Hp->VK->Prop)(to:TE)(t:TA):TE:=fun σ H Q=>to σ H fun x H1=>tyV K T x H1/\t σ H1 fun xs H2=>r x xs H2 Q
variable{o e:Expr}{es:List Expr}{to:TE}{t:TA}{name:Str}{apos cpos:Pos}{T id:String}{r:V->List V->Hp->VK->Prop}
theorem zcq(pa:PlainAttrs T)(slot:Slot T name id)(hty:typeOf (.builtin id)=pure (.type "method_descriptor"))(hm:MtR X id r)(ho:PE X o to)
  (hbase:attributeBase o name X.env (eval o X.env)=eval o X.env:=by rfl) (hline:(apos.endLine == cpos.line)=true:=by rfl):PE X (.Call (.Attribute o name apos) [] [] cpos) (zpL X.K T r to):=by
 intro pins s σ H Q I h;refine wpAny_Call_method0_late hbase hline (thn (ho pins s σ H _ I h) fun v s1 ⟨x,H1,I1,r1,ty,q1⟩=>?_);obtain⟨h1,h2⟩:=zmv I1 r1 ty;exact⟨T,id,pa,slot,hty,h1,h2,Calls.callWith_builtin rfl (PySem.evalArgs_none (hm pins s1 σ H1 x [] v [] Q I1 r1 .nil q1))⟩
theorem zbx(pa:PlainAttrs T)(slot:Slot T name id)(hty:typeOf (.builtin id)=pure (.type "method_descriptor"))(hm:MtR X id r)(ho:PE X o to)(ha:PA X (e::es) t)
  (hbase:attributeBase o name X.env (eval o X.env)=eval o X.env:=by rfl)
  (hfew:((backTo cpos (starEach (e::es) X.env)).all (fun x=>!x.1)&&(backToKw cpos (keywordEach [] X.env)).all (fun x=>x.1.isSome)
   && decide ((e::es).length+([]:List Keyword).length+(if ([]:List Keyword).isEmpty then 0 else 1)<30))=true:=by rfl)
  (hline:(apos.endLine == cpos.line)=true:=by rfl) (hs:starEach (e::es) X.env=(false,eval e X.env)::starEach es X.env:=by rfl) (hplain:(backTo cpos (starEach es X.env)).any (·.1)=false:=by rfl) :
  PE X (.Call (.Attribute o name apos) (e::es) [] cpos) (tBM X.K T r to t):=by
 intro pins s σ H Q I h;refine wpAny_Call_method_late hbase hfew hline rfl (thn (ho pins s σ H _ I h) fun v s1 ⟨x,H1,I1,r1,ty,q1⟩=>?_);obtain⟨h1,h2⟩:=zmv I1 r1 ty;refine⟨T,id,pa,slot,hty,h1,h2,?_⟩;have hA:=ha cpos pins s1 σ H1 _ I1 q1;rw[hs] at hA ⊢;refine Calls.callWith_builtin (by show(false||(backTo cpos (starEach es X.env)).any (·.1))=false;rw[hplain]<;>rfl) (Calls.evalArgs_plain ?_);exact thn hA fun us s2 ⟨vs,H2,I2,r2,q2⟩=>hm pins s2 σ H2 x vs v us Q I2 r1 r2 q2
end
end L2
namespace L2
open PySem PySem.Spec PyProof.Rows
def MtM(X:Cx)(id:String)(r:V->List V->Hp->VK->Prop):Prop:=
 ∀(pins:List (Addr×Obj)) (s:Shared) (σ:St) (H:Hp) (x:V) (xs:List V) (v:Value) (us:List Value) (Q:VK),Inv X pins σ H s->RelV x v->Vals xs us->r x xs H Q ->
  wpAny (model X.prog X.w) X.A (call (.builtin id) (v::us)) (EP X pins σ Q) X.xe s
theorem Vals.one:∀ {x:V}{us:List Value},Vals [x] us->∃u,us=[u]/\RelV x u
 | _,_,.cons r .nil=>⟨_,rfl,r⟩
theorem Vals.zero:∀ {us:List Value},Vals [] us->us=[]
 | _,.nil=>rfl
theorem Vals.dropLast{xs:List V}{us:List Value}(h:Vals xs us):Vals xs.dropLast us.dropLast:=by
 induction h with
 | nil=>exact .nil
 | cons r t ih =>
  cases t with
  | nil=>exact .nil
  | cons q t'=>exact .cons r ih
theorem zkN{α:Type}(l:List α):l.eraseIdx (l.length - 1)=l.dropLast:=by
 induction l with
 | nil=>rfl
 | cons a r ih =>
  cases r with
  | nil=>rfl
  | cons b r =>
   have e:(a::b::r).length - 1=((b::r).length - 1)+1:=by
    have h1:(a::b::r).length=r.length+2:=rfl;have h2:(b::r).length=r.length+1:=rfl;omega
   rw[e,List.eraseIdx_cons_succ,ih]
   all_goals rfl
section
variable{X:Cx}{pins:List (Addr×Obj)}{σ:St}{H:Hp}{s:Shared}{l b:Addr}{xs ys zs:List V}
theorem Inv.lset{its its':List Value}{n:Nat}{f:Array Value->Array Value}{t':Nat}(I:Inv X pins σ H s)(hH:H l=some (.lst xs))
  (e:s.heap.get? l=some {cls:=.type "list",data:=.seq its.toArray n}) (hf:f its.toArray=its'.toArray) (hv:Vals ys its') (hz:ys.length<=sizeLine) :
  Inv X pins σ (upd H l (.lst ys)) {s with heap:=s.heap.update l (Obj.mapSeq f),toks:=t'}:=by
 have q:=PySem.IsL.update e f;rw[hf] at q;refine I.write (x:=l) (e:=l) (by rw[hH];exact trivial) (.inl rfl) (fun b' u hb hu=>(Heap.get?_update_other s.heap (Obj.mapSeq f) (Ne.symm hb)).trans hu) ⟨_,q⟩ ?_;exact⟨hz,its',_,hv,q⟩
theorem Inv.lnew{its:List Value}{t':Nat}(I:Inv X pins σ H s)(hv:Vals ys its)(hz:ys.length<=sizeLine) :
  Inv X pins σ (upd H s.heap.objs.size (.lst ys)) {s with heap:=s.heap.push {cls:=.type "list",data:=.seq its.toArray},toks:=t'}:=
 I.laid (fun _ _ q=>Heap.get?_push_of_some _ q) (zAi _) ⟨hz,its,0,hv,Heap.get?_push_size _ rfl⟩
theorem Inv.fresh(I:Inv X pins σ H s):H s.heap.objs.size=none:=I.hok.fresh (zAi _)
theorem Inv.lstM(I:Inv X pins σ H s)(hH:H l=some (.lst xs)):xs.length<=sizeLine/\∃(its:List Value) (n:Nat),Vals xs its/\xs.length=its.length/\s.heap.get? l=some {cls:=.type "list",data:=.seq its.toArray n}:=by
 obtain⟨z,its,n,r,e⟩:=I.hok l _ hH;exact⟨z,its,n,r,r.length,e⟩
theorem zjN{n:Nat}(h:n<=sizeLine):Builtin.List.listTooLong n=false:=by
 unfold Builtin.List.listTooLong;exact zBq (by omega)
end
section
variable{X:Cx}
def zgz:V->List V->Hp->VK->Prop:=fun x vs H Q=>∃l xs y,x=.ref l/\vs=[y]/\H l=some (.lst xs)/\xs.length<sizeLine/\Q .non (upd H l (.lst (xs++[y])))
theorem zaU:MtM X "list.append" zgz:=by
 intro pins s σ H x vs v us Q I rx rv h;obtain⟨l,xs,y,rfl,rfl,hH,hz,q⟩:=h;cases rx
 obtain⟨u,rfl,ru⟩:=rv.one;obtain⟨z,its,n,r,hl,e⟩:=I.lstM hH;refine call_meets F.slot_list_append ⟨_,e,rfl⟩ F.entry_list_append (F.args_list_append_2 _ _) (PySem.list_append l its.toArray n u (by rw[zAn];omega)) ⟨e,?_⟩;refine⟨.non,_,I.lset (its':=its++[u]) hH e (by simp) (r.append (.cons ru .nil)) ?_,rfl,q⟩;rw[zAa,zAt];omega
def zk_:V->List V->Hp->VK->Prop:=fun x vs H Q=>∃l b xs zs,x=.ref l/\vs=[.ref b]/\H l=some (.lst xs)/\H b=some (.lst zs)/\xs.length+zs.length<=sizeLine/\Q .non (upd H l (.lst (xs++zs)))
theorem zfy:MtM X "list.extend" zk_:=by
 intro pins s σ H x vs v us Q I rx rv h;obtain⟨l,b,xs,zs,rfl,rfl,hH,hB,hz,q⟩:=h;cases rx
 obtain⟨u,rfl,ru⟩:=rv.one;cases ru
 obtain⟨z,its,n,r,hl,e⟩:=I.lstM hH;obtain⟨z2,its2,n2,r2,hl2,e2⟩:=I.lstM hB;have hsz:its.toArray.size+its2.toArray.size<=sizeLine:=by rw[zAn,zAn];omega
 have hlong:¬(!its.toArray.isEmpty&&Builtin.List.listTooLong (its.toArray.size+its2.toArray.size))=true:=by
  rw[zjN hsz,Bool.and_false];exact zAc
 refine call_meets F.slot_list_extend ⟨_,e,rfl⟩ F.entry_list_extend (F.args_list_extend_2 _ _)
  (AutoSeq1.list_extend_list_list_0 l its.toArray n b its2.toArray n2 hlong (by rw[zAn];omega) (by omega)) ⟨e,e2,?_⟩
 refine⟨.non,_,I.lset (its':=its++its2) hH e (by simp) (r.append r2) ?_,rfl,q⟩;rw[zAa];omega
def zpT:V->List V->Hp->VK->Prop:=fun x vs H Q=>∃l xs y,x=.ref l/\vs=[]/\H l=some (.lst xs)/\xs[xs.length - 1]?=some y/\Q y (upd H l (.lst xs.dropLast))
theorem zcs:MtM X "list.pop" zpT:=by
 intro pins s σ H x vs v us Q I rx rv h;obtain⟨l,xs,y,rfl,rfl,hH,hy,q⟩:=h;cases rx
 have hus:=rv.zero;subst hus;obtain⟨z,its,n,r,hl,e⟩:=I.lstM hH;obtain⟨u,hu,ru⟩:=r.get hy;have hy':its.toArray[its.toArray.size - 1]?=some u:=by
  show its.toArray[its.length - 1]?=some u;rw[<-Array.getElem?_toList,<-hl];exact hu
 refine call_meets F.slot_list_pop ⟨_,e,rfl⟩ F.entry_list_pop (F.args_list_pop_1 _) (MeetsSeq.list_pop_last l its.toArray n u hy' (by rw[zAn];omega)) ⟨e,?_⟩;refine⟨y,_,I.lset (its':=its.dropLast) hH e ?_ r.dropLast ?_,ru,q⟩
 ·show its.toArray.eraseIdxIfInBounds (its.toArray.size - 1)=its.dropLast.toArray;rw[zAn,List.eraseIdxIfInBounds_toArray,zkN]
 ·rw[List.length_dropLast];omega
def zre:R2:=fun x y H Q=>∃l b xs zs,x=.ref l/\y=.ref b/\H l=some (.lst xs)/\H b=some (.lst zs)/\xs.length+zs.length<=sizeLine/\∀p,H p=none->Q (.ref p) (upd H p (.lst (xs++zs)))
theorem zbo:OpR X (binaryOp .Add) zre:=by
 intro pins s σ H x y v u Q I rx ry h;obtain⟨l,b,xs,zs,rfl,rfl,hH,hB,hz,q⟩:=h;cases rx
 cases ry
 obtain⟨z,its,n,r,hl,e⟩:=I.lstM hH;obtain⟨z2,its2,n2,r2,hl2,e2⟩:=I.lstM hB;refine PySem.P.add_list e e2 ?_ (by rw[zAn,zAn];omega);have ea:its.toArray++its2.toArray=(its++its2).toArray:=by simp
 rw[ea];exact⟨.ref _,_,I.lnew (t':=s.toks) (r.append r2) (by rw[zAa];omega),rfl,q _ I.fresh⟩
end
section
variable{prog:Program}{w:World}{A:Around}{E:Value->Shared->Prop}{s:Shared}
end
section
variable{X:Cx}
end
end L2
namespace L2
open PySem PySem.Spec PyProof.Rows
theorem Vals.ints:∀ {ns:List Int}{us:List Value},Vals (ns.map V.int) us->IntsAre us ns
 | [],us,h=>by
  rw[List.map_nil] at h;cases h
  exact IntsAre.nil
 | n::ns,us,h=>by
  rw[zAz] at h;cases h with
  | cons r t =>
   obtain⟨k,rfl⟩:=r;exact IntsAre.cons n k (Vals.ints t)
theorem Vals.ref1{a:Addr}{us:List Value}(r:Vals [V.ref a] us):us=[Value.ref a]:=by
 cases r with
 | cons r t =>
  cases t
  cases r
  rfl
section
variable{prog:Program}{w:World}{A:Around}{E:Value->Shared->Prop}{s:Shared}{l:Addr}{its:List Value}{ns:List Int}{Q:Value->Shared->Prop}
theorem zoe(hh:A.handled=none)(hl:s.heap.IsList l its.toArray)(hi:IntsAre its ns)
  (h:∀h' tk t',(∀b o,s.heap.get? b=some o->h'.get? b=some o)->Q (.int ns.sum t') {s with heap:=h',toks:=tk}):wpAny (model prog w) A (call (.builtin "sum") [.ref l]) Q E s:=by
 obtain⟨xs,e⟩:=hi.allInts.items;have hn:numsOf (intItems xs).toList=ns:=by rw[<-e];exact hi.numsOf
 rw[nums_intItems] at hn;rw[e] at hl;refine PySem.sum_intListG hh hl fun h' tk t' hk=>?_;have:=h h' tk t' hk;rw[preSum_eq,zBk (by simp),hn];exact this
end
section
variable{X:Cx}
def zr4(K:PySem.W.Frag):List V->Hp->VK->Prop:=fun vs H Q=>∃(a:Addr) (ns:List Int),vs=[V.ref a]/\SqL K H a (ns.map V.int)/\Q (.int ns.sum) H
theorem zqN(hc:X.calm=true):zdl X (.builtin "sum") (zr4 X.K):=by
 intro pins s σ H vs us Q I r h;obtain⟨a,ns,rfl,hs,q⟩:=h;obtain⟨its,rv,hl,_⟩:=I.list hs;rw[Vals.ref1 r];exact zoe (I.ok.hd hc) hl.isList rv.ints fun h' tk t' hk=>⟨.int _,H,I.kept hk,⟨_,rfl⟩,q⟩
end
section
variable{X:Cx}
end
section
variable{X:Cx}
end
section
variable{X:Cx}
end
mutual
inductive Dp(K:PySem.W.Frag)(H:Hp):V->PyData->Prop
 | non:Dp K H .non .none
 | bl (b:Bool):Dp K H (.bl b) (.bool b)
 | int (i:Int):Dp K H (.int i) (.int i)
 | str (x:Str):Dp K H (.str x) (.str x)
 | lst {a:Addr}{xs:List V}{ds:List PyData}:SqL K H a xs->zhN K H xs ds->Dp K H (.ref a) (.list ds)
 | tup {a:Addr}{xs:List V}{ds:List PyData}:SqT K H a xs->zhN K H xs ds->Dp K H (.ref a) (.tuple ds)
inductive zhN(K:PySem.W.Frag)(H:Hp):List V->List PyData->Prop
 | nil:zhN K H [] []
 | cons {v:V}{vs:List V}{d:PyData}{ds:List PyData}:Dp K H v d->zhN K H vs ds->zhN K H (v::vs) (d::ds)
end
section
variable{X:Cx}{pins:List (Addr×Obj)}{σ:St}{H:Hp}{s:Shared}
mutual
theorem Dp.reads(I:Inv X pins σ H s):∀(d:PyData) (v:V) (u:Value),Dp X.K H v d->RelV v u->∃as,Reads s.heap u d as
 | .none,_,_,h,r=>by
  cases h
  cases r
  exact⟨_,Reads.none⟩
 | .bool b,_,_,h,r=>by
  cases h
  cases r
  exact⟨_,Reads.bool b⟩
 | .int i,_,_,h,r=>by
  cases h
  obtain⟨t,rfl⟩:=r;exact⟨_,Reads.int i t⟩
 | .str x,_,_,h,r=>by
  cases h
  obtain⟨t,rfl⟩:=r;exact⟨_,Reads.str x t⟩
 | .list ds,_,_,h,r=>by
  cases h with
  | lst hs ha =>
   cases r
   obtain⟨its,rv,⟨o,n,ho,hc,_,hd⟩,_⟩:=I.list hs;obtain⟨as,hr⟩:=Dp.readsAll I ds _ its ha rv;exact⟨_,Reads.list ho hc hd hr⟩
 | .tuple ds,_,_,h,r=>by
  cases h with
  | tup hs ha =>
   cases r
   obtain⟨its,rv,⟨o,ho,hc,n,hd⟩,_⟩:=I.tuple hs;obtain⟨as,hr⟩:=Dp.readsAll I ds _ its ha rv;exact⟨_,Reads.tuple ho hc hd hr⟩
 | .dict _,_,_,h,_=>by cases h
theorem Dp.readsAll(I:Inv X pins σ H s):∀(ds:List PyData) (vs:List V) (us:List Value),zhN X.K H vs ds->Vals vs us->∃as,ReadsAll s.heap us ds as
 | [],_,_,h,r=>by
  cases h
  cases r
  exact⟨_,ReadsAll.nil⟩
 | d::ds,_,_,h,r=>by
  cases h with
  | cons h1 h2 =>
   cases r with
   | cons r1 r2 =>
    obtain⟨as,q1⟩:=Dp.reads I d _ _ h1 r1;obtain⟨bs,q2⟩:=Dp.readsAll I ds _ _ h2 r2;exact⟨_,ReadsAll.cons q1 q2⟩
end
end
section
variable{X:Cx}
def zpU(K:PySem.W.Frag):R2:=fun x y H Q=>∃d e,Dp K H x d/\Dp K H y e/\SeqAt.shaped d=true/\SeqAt.shaped e=true/\Q (.bl (PyData.eqv d e)) H
def zrc(K:PySem.W.Frag):R2:=fun x y H Q=>∃d e,Dp K H x d/\Dp K H y e/\SeqAt.shaped d=true/\SeqAt.shaped e=true/\Q (.bl (!PyData.eqv d e)) H
theorem znc(hu:X.A.units+64<cLine):OpR X (compareOp .Eq) (zpU X.K):=by
 intro pins s σ H x y v u Q I rx ry h;obtain⟨d,e,hd,he,sd,se,q⟩:=h;obtain⟨as,r1⟩:=Dp.reads I d x v hd rx;obtain⟨bs,r2⟩:=Dp.reads I e y u he ry;exact SeqAt.compareEq_shaped r1 r2 sd se hu ⟨.bl _,H,I,rfl,q⟩
theorem zp3(hu:X.A.units+64<cLine):OpR X (compareOp .NotEq) (zrc X.K):=by
 intro pins s σ H x y v u Q I rx ry h;obtain⟨d,e,hd,he,sd,se,q⟩:=h;obtain⟨as,r1⟩:=Dp.reads I d x v hd rx;obtain⟨bs,r2⟩:=Dp.reads I e y u he ry;exact SeqAt.compareNe_shaped r1 r2 sd se hu ⟨.bl _,H,I,rfl,q⟩
end
end L2
namespace L2
open PySem PySem.Spec PyProof.Rows
abbrev zn7(h:Heap)(c:Addr)(v:Option Value):Prop:=h.IsCell c v
def zr3(scope sc:Scope):Scope:=
 {scope with names:=scope.names.map fun(n,k)=>if (k == .free&&sc.kind == .function&&sc.names.lookup n == some .cell) then(n,.cell) else(n,k)}
def zaT(cells:List (Str×Addr)):List (Str×NameKind)->List (Str×Addr)->List (Str×Addr)
 | [],acc=>acc
 | (n,k)::r,acc=>if k == .free then zaT cells r ((n,(cells.lookup n).getD 0)::acc) else zaT cells r acc
theorem zfa(env:Env)(f:Str×NameKind->List (Str×Addr)->Sem (ForInStep (List (Str×Addr))))
  (hf:∀n k c,f (n,k) c=if k == .free then(do let a <-cellOf env n;pure (.yield ((n,a)::c))) else pure (.yield c)) :
  ∀(names:List (Str×NameKind)) (acc:List (Str×Addr)),(∀y∈names,y.2=.free->∃c,env.cells.lookup y.1=some c)->forIn names acc f=pure (zaT env.cells names acc)
 | [],acc,_=>by rw[List.forIn_nil];rfl
 | (n,k)::r,acc,h=>by
  rw[List.forIn_cons,hf];have ih:=fun acc=>zfa env f hf r acc fun y hy=>h y (zAd _ hy);unfold zaT;by_cases hk:(k == NameKind.free)=true
  ·rw[if_pos hk,if_pos hk];obtain⟨c,hc⟩:=h (n,k) zAo (by simpa using hk);have e:cellOf env n=pure c:=by unfold cellOf;rw[hc]
   rw[e];have e2:(env.cells.lookup n).getD 0=c:=by rw[hc];rfl
   rw[e2];exact ih _
  ·rw[if_neg hk,if_neg hk];exact ih _
theorem zhE{scope:Scope}{env:Env}(h:∀y∈scope.names,y.2=.free->∃c,env.cells.lookup y.1=some c):closureFor scope env=pure (zaT env.cells scope.names []):=by
 simp only[closureFor];rw[zfa env _ (fun n k c=>rfl) scope.names [] h];rfl
theorem zew{α:Type}:∀ {l:List (Str×α)}{n:Str}{c:α},(n,c)∈l->∃c',l.lookup n=some c'
 | (k,v)::r,n,c,h=>by
  rw[zCa];cases hb:n == k with
  | true=>exact⟨_,rfl⟩
  | false =>
   rcases zAe h with e | h
   ·cases e;simp at hb
   ·exact zew h
theorem zcG{cells:List (Str×Addr)}:∀ {names:List (Str×NameKind)}{acc:List (Str×Addr)}{n:Str}{c:Addr},(n,c)∈zaT cells names acc->(n,c)∈acc\/((n,.free)∈names/\c=(cells.lookup n).getD 0)
 | [],_,_,_,h=>.inl h
 | (m,k)::r,acc,n,c,h=>by
  unfold zaT at h;split at h
  ·rename_i hk;have hk:k=.free:=by simpa using hk
   rcases zcG h with h|⟨h1,h2⟩
   ·rcases zAe h with e | h
    ·cases e;exact .inr ⟨hk ▸ zAo,rfl⟩
    ·exact .inl h
   ·exact .inr ⟨zAd _ h1,h2⟩
  ·rcases zcG h with h|⟨h1,h2⟩
   ·exact .inl h
   ·exact .inr ⟨zAd _ h1,h2⟩
theorem zdO{cells:List (Str×Addr)}:∀ {names:List (Str×NameKind)}{acc:List (Str×Addr)}{p:Str×Addr},p∈acc->p∈zaT cells names acc
 | [],_,_,h=>h
 | (m,k)::r,acc,p,h=>by
  unfold zaT;split
  ·exact zdO (zAd _ h)
  ·exact zdO h
theorem zdN{cells:List (Str×Addr)}:∀ {names:List (Str×NameKind)}{acc:List (Str×Addr)}{n:Str},(n,.free)∈names->(n,(cells.lookup n).getD 0)∈zaT cells names acc
 | (m,k)::r,acc,n,h=>by
  unfold zaT;rcases zAe h with e | h
  ·cases e
   exact zdO zAo
  ·split
   ·exact zdN h
   ·exact zdN h
theorem zcU:∀ {names:List (Str×NameKind)}{h:Heap}{acc:List (Str×Addr)}{x:Str}{c:Addr},(x,c)∈cellsFrom h.objs.size names acc ->
  (x,c)∈acc\/((x,.cell)∈names/\h.objs.size<=c/\zn7 (pushCells h names) c none)
 | [],_,_,_,_,h=>.inl h
 | (n,k)::r,h,acc,x,c,hm=>by
  unfold cellsFrom at hm;unfold pushCells;split at hm
  ·rename_i hk;rw[if_pos hk];have hk:k=.cell:=by simpa using hk
   rw[<-Heap.size_push h {cls:=.type "cell",data:=.cell none}] at hm;rcases zcU hm with hm|⟨h1,h2,h3⟩
   ·rcases zAe hm with e | hm
    ·cases e
     exact .inr ⟨hk ▸ zAo,zAi _,_,pushCells_keeps r _ _ _ (Heap.get?_push_size _ rfl),rfl⟩
    ·exact .inl hm
   ·rw[Heap.size_push] at h2;exact .inr ⟨zAd _ h1,zDi h2,h3⟩
  ·rename_i hk;rw[if_neg hk];rcases zcU hm with hm|⟨h1,h2,h3⟩
   ·exact .inl hm
   ·exact .inr ⟨zAd _ h1,h2,h3⟩
theorem zdZ:∀ {names:List (Str×NameKind)}{n:Nat}{acc:List (Str×Addr)}{p:Str×Addr},p∈acc->p∈cellsFrom n names acc
 | [],_,_,_,h=>h
 | (m,k)::r,n,acc,p,h=>by
  unfold cellsFrom;split
  ·exact zdZ (zAd _ h)
  ·exact zdZ h
theorem zfG:∀ {names:List (Str×NameKind)}{n:Nat}{acc:List (Str×Addr)}{x:Str},(x,.cell)∈names->∃c,(x,c)∈cellsFrom n names acc
 | (m,k)::r,n,acc,x,h=>by
  unfold cellsFrom;rcases zAe h with e | h
  ·cases e
   exact⟨n,zdZ zAo⟩
  ·split
   ·exact zfG h
   ·exact zfG h
theorem zfF:∀ {names:List (Str×NameKind)}{h:Heap}{acc:List (Str×Addr)}{x y:Str}{c:Addr},(∀p∈acc,p.2<h.objs.size)->(∀x y c,(x,c)∈acc->(y,c)∈acc->x=y) ->
  (x,c)∈cellsFrom h.objs.size names acc->(y,c)∈cellsFrom h.objs.size names acc->x=y
 | [],_,_,_,_,_,_,hi,h1,h2=>hi _ _ _ h1 h2
 | (n,k)::r,h,acc,x,y,c,hl,hi,h1,h2=>by
  unfold cellsFrom at h1 h2;split at h1
  ·rename_i hk;rw[if_pos hk] at h2;rw[<-Heap.size_push h {cls:=.type "cell",data:=.cell none}] at h1 h2;refine zfF (h:=h.push _) (fun p hp=>?_) (fun x y c a b=>?_) h1 h2
   ·rw[Heap.size_push];rcases zAe hp with rfl | hp
    ·exact zCo _
    ·exact zDh (hl p hp)
   ·rcases zAe a with e | a<;>rcases zAe b with e' | b
    ·cases e;cases e';rfl
    ·cases e;exact absurd (hl _ b) (zCe _)
    ·cases e';exact absurd (hl _ a) (zCe _)
    ·exact hi _ _ _ a b
  ·rename_i hk;rw[if_neg hk] at h2;exact zfF hl hi h1 h2
theorem zfW{M:Model}{A:Around}{E:Value->Shared->Prop}{s:Shared}{scope:Scope}{globals:Addr}{closure:List (Str×Addr)}{qual:Str}{func:Option Addr}{code:Value}{around:Env}{builtins:Addr}{Q:Env->Shared->Prop}
  (h:Q (newEnv scope s.heap.objs.size globals (cellsFrom (s.heap.objs.size+1) scope.names closure) qual func code (some around) builtins)
   {s with heap:=pushCells (s.heap.push {cls:=.type "dict",data:=.dict #[]}) scope.names}) :
  wpAny M A (newFunctionEnv scope globals closure [] qual func code (some around) builtins) Q E s:=by
 simp only[newFunctionEnv,Option.isSome_some,if_true];refine wpAny_bind (wpAny_alloc ?_);refine wpAny_bind (wpAny_layCells _ (fun n k c=>rfl) scope.names closure _ _ ?_);rw[show({s with heap:=s.heap.push {cls:=.type "dict",data:=.dict #[]}}:Shared).heap.objs.size=s.heap.objs.size+1 from Heap.size_push ..];rw[List.forIn_nil];exact wpAny_bind (wpAny_pure (wpAny_pure h))
theorem zdJ{sc:Scope}:∀ {names:List (Str×NameKind)}{x:Str}{k:NameKind},
  (names.map fun(n,k)=>if (k == NameKind.free&&sc.kind == .function&&sc.names.lookup n == some .cell) then(n,NameKind.cell) else(n,k)).lookup x=some k ->
  ∃k',names.lookup x=some k'/\(k=k'\/(k'=.free/\k=.cell))
 | [],_,_,h=>by simp at h
 | (n,k₀)::r,x,k,h=>by
  have ih:=@zdJ sc r x k;have h':List.lookup x ((if (k₀ == NameKind.free&&sc.kind == .function&&sc.names.lookup n == some .cell)=true then(n,NameKind.cell) else(n,k₀))::(r.map _))=some k:=h;cases hx:x == n with
  | true =>
   simp only[zCa,hx];by_cases hc:(k₀ == NameKind.free&&sc.kind == .function&&sc.names.lookup n == some .cell)=true
   ·rw[if_pos hc] at h';simp only[zCa,hx] at h';cases h'
    simp only[zBx,beq_iff_eq] at hc;exact⟨k₀,rfl,.inr ⟨hc.1.1,rfl⟩⟩
   ·rw[if_neg hc] at h';simp only[zCa,hx] at h';cases h'
    exact⟨_,rfl,.inl rfl⟩
  | false =>
   simp only[zCa,hx];by_cases hc:(k₀ == NameKind.free&&sc.kind == .function&&sc.names.lookup n == some .cell)=true
   ·rw[if_pos hc] at h';simp only[zCa,hx] at h';exact ih h'
   ·rw[if_neg hc] at h';simp only[zCa,hx] at h';exact ih h'
structure zhO(N:List Str)(sc scope:Scope)(own:List (Str×Nat)):Prop where
 kind:scope.kind=.function
 uniq:∀y∈scope.names,scope.names.lookup y.1=some y.2
 ix:∀p∈own,N[p.2]?=some p.1
 free:∀y∈scope.names,y.2=.free->sc.names.lookup y.1=some .cell\/sc.names.lookup y.1=some .free
 own:∀y∈scope.names,y.2=.local\/y.2=.cell->y.1∈own.map (·.1)\/y.1∉N
def zbe(σ:St):List Nat->St
 | []=>σ
 | v::vs=>(zbe σ vs).set v none
theorem zcv(σ:St):∀vs:List Nat,(zbe σ vs).length=σ.length
 | []=>rfl
 | v::vs=>by unfold zbe;rw[List.length_set,zcv σ vs]
theorem zdT{σ:St}{i:Nat}{x:V}:∀ {vs:List Nat},(zbe σ vs)[i]?=some (some x)->σ[i]?=some (some x)/\i∉vs
 | [],h=>⟨h,by simp⟩
 | v::vs,h=>by
  unfold zbe at h;by_cases hi:v=i
  ·subst hi;by_cases hv:v<(zbe σ vs).length
   ·rw[zDq hv] at h;cases h
   ·rw[List.getElem?_eq_none (by simpa using hv)] at h;cases h
  ·rw[zDz hi] at h;obtain⟨h1,h2⟩:=zdT h;exact⟨h1,by simp only[zEd,not_or];exact⟨fun e=>hi e.symm,h2⟩⟩
abbrev Cx.blk(X:Cx)(s:Shared)(H:Hp)(scope:Scope)(cenv:Env)(fp:List Addr):Cx:={X with s_0:=s,H_0:=H,env:=cenv,outer:=X.stack,ex:=fp,fn:=fun x=>scope.names.lookup x == some .cell,pn:=[],xe:=fun _ _=>False}
section
variable{X:Cx}{pins:List (Addr×Obj)}{σ:St}{H:Hp}{s:Shared}
theorem zf9{scope:Scope}{own:List (Str×Nat)}{fp:List Addr}(I:Inv X pins σ H s)(ok:zhO X.N X.env.scope scope own)(hN:X.N.Nodup)(hfp:∀b∈fp,zff X pins H b/\b<s.heap.objs.size) :
  Inv (X.blk s H scope (compEnvC scope (cellsFrom (s.heap.objs.size+1) scope.names (zaT X.env.cells scope.names [])) s.heap.objs.size X.env) fp) [] (zbe σ (own.map (·.2))) H {s with heap:=pushCells (s.heap.push {cls:=.type "dict",data:=.dict #[]}) scope.names}:=by
 have hfree:∀y∈scope.names,y.2=.free->∃c,X.env.cells.lookup y.1=some c:=fun y hy e=>by
  rcases ok.free y hy e with k | k
  ·exact I.ok.has _ (.inl k)
  ·exact I.ok.has _ (.inr k)
 generalize hcenv:compEnvC scope (cellsFrom (s.heap.objs.size+1) scope.names (zaT X.env.cells scope.names [])) s.heap.objs.size X.env=cenv;have kp:∀b o,s.heap.get? b=some o->(pushCells (s.heap.push {cls:=.type "dict",data:=.dict #[]}) scope.names).get? b=some o:=fun b o e=>pushCells_keeps _ _ _ _ (Heap.get?_push_of_some _ e);have hL:cenv.locals=s.heap.objs.size:=by rw[<-hcenv];rfl
 have hcl:cenv.cells=cellsFrom (s.heap.objs.size+1) scope.names (zaT X.env.cells scope.names []):=by rw[<-hcenv];rfl
 have hsc:cenv.scope=zr3 scope X.env.scope:=by rw[<-hcenv];rfl
 rw[<-Heap.size_push s.heap {cls:=.type "dict",data:=.dict #[]}] at hcl;have cm:∀ {y c},(y,c)∈zaT X.env.cells scope.names []->X.env.cells.lookup y=some c/\c<s.heap.objs.size:=fun{y c} hm=>by
  rcases zcG hm with hm|⟨h1,rfl⟩
  ·cases hm
  ·obtain⟨c,hc⟩:=hfree _ h1 rfl;rw[hc];obtain⟨w,z⟩:=I.cell _ _ hc;exact⟨rfl,z.lt⟩
 have mem:∀ {y c},cenv.cells.lookup y=some c->(X.env.cells.lookup y=some c/\c<s.heap.objs.size)\/(s.heap.objs.size+1<=c/\zn7 (pushCells (s.heap.push {cls:=.type "dict",data:=.dict #[]}) scope.names) c none):=fun{y c} e=>by
  rw[hcl] at e;rcases zcU (PySem.mem_of_lookup e) with hm|⟨_,h2,h3⟩
  ·exact .inl (cm hm)
  ·rw[Heap.size_push] at h2;exact .inr ⟨h2,h3⟩
 have look:∀ {y},scope.names.lookup y=some .free->∃c,cenv.cells.lookup y=some c/\X.env.cells.lookup y=some c:=fun{y} hl=>by
  have hy:(y,NameKind.free)∈scope.names:=PySem.mem_of_lookup hl;obtain⟨c',e'⟩:=zew (zdZ (names:=scope.names) (n:=(s.heap.push {cls:=.type "dict",data:=.dict #[]}).objs.size) (zdN (cells:=X.env.cells) (acc:=[]) hy));rw[<-hcl] at e';refine⟨c',e',?_⟩;rw[hcl] at e';rcases zcU (PySem.mem_of_lookup e') with hm|⟨h1,_,_⟩
  ·exact(cm hm).1
  ·have:=ok.uniq _ h1;rw[hl] at this;cases this
 have okB:(X.blk s H scope cenv fp).Ok:=by
  refine⟨I.ok.mod,by show cenv.scope.kind=_;rw[hsc];exact ok.kind,by show cenv.globals=_;rw[<-hcenv];exact I.ok.glob,by show cenv.builtins=_;rw[<-hcenv];exact I.ok.blt,by show s.heap.objs.size<=cenv.locals;rw[hL];exact zAi _,
   fun y z c e1 e2=>?_,fun y hy=>?_,fun y c z e=>?_,I.ok.hd,I.ok.frames,.inl rfl,fun b hb=>⟨?_,fun y c e z=>?_⟩,I.bs,zBp I.ok.bsz I.sz,fun b o e hb=>?_,fun b hb z=>?_,I.stack,I.stkFree⟩
  ·have e1:cenv.cells.lookup y=some c:=e1;have e2:cenv.cells.lookup z=some c:=e2;rw[hcl] at e1 e2;refine zfF (fun p hp=>?_) (fun y z c a b=>I.ok.inj y z c (cm a).1 (cm b).1) (PySem.mem_of_lookup e1) (PySem.mem_of_lookup e2);rw[Heap.size_push];exact zDh (cm (y:=p.1) (c:=p.2) hp).2
  ·show ∃c,cenv.cells.lookup y=some c;have key:∀k,cenv.kindOf y=some k->(k=.cell\/k=.free)->∃c,cenv.cells.lookup y=some c:=fun k hk hk'=>by
    unfold Env.kindOf at hk;rw[hsc] at hk;obtain⟨k',e,r⟩:=zdJ hk;have:k'=.cell\/k'=.free:=by
     rcases r with rfl|⟨rfl,_⟩
     ·exact hk'
     ·exact .inr rfl
    rcases this with rfl | rfl
    ·obtain⟨c,hm⟩:=zfG (n:=(s.heap.push {cls:=.type "dict",data:=.dict #[]}).objs.size) (acc:=zaT X.env.cells scope.names []) (PySem.mem_of_lookup e);obtain⟨c',e'⟩:=zew hm;exact⟨c',by rw[hcl];exact e'⟩
    ·obtain⟨c,h1,_⟩:=look e;exact⟨c,h1⟩
   rcases hy with hy | hy
   ·exact key _ hy (.inl rfl)
   ·exact key _ hy (.inr rfl)
  ·have z:(scope.names.lookup y == some NameKind.cell)=true:=z;have z:scope.names.lookup y=some .cell:=by simpa using z
   have e:cenv.cells.lookup y=some c:=e;rw[hcl] at e;rcases zcU (PySem.mem_of_lookup e) with hm|⟨_,h2,_⟩
   ·rcases zcG hm with hm|⟨h1,_⟩
    ·cases hm
    ·have q:=ok.uniq _ h1;rw[z] at q;cases q
   ·rw[Heap.size_push] at h2;exact zDi h2
  ·show b≠cenv.locals;rw[hL];exact zBe (hfp b hb).2
  ·have e:cenv.cells.lookup y=some c:=e;rcases mem e with⟨h1,_⟩|⟨h1,_⟩
   ·exact(hfp b hb).1.2.2.2.2.1 y c h1 z
   ·have h2:s.heap.objs.size+1<=b:=by rw[<-z];exact h1
    exact absurd (zAq (hfp b hb).2 (zDi h2)) (zCe _)
  ·rcases (hfp b hb).1.2.2.2.1 with z | z
   ·exact I.ok.noex b o e z
   ·exact absurd (zAq (Heap.lt_size e) (zBp I.ok.bsz z)) (zCe _)
  ·rcases zAe (I.stkSub b z) with z | z
   ·exact(hfp b hb).1.2.1 z
   ·exact(hfp b hb).1.2.2.1 z
 refine⟨okB,rfl,I.bare,Un.kept kp,⟨fun _=>none,?_,fun i y av e1 e2 e3=>?_⟩,fun y c e=>?_,?_,fun y c e=>?_,fun p hp=>?_,I.hok.kept kp,by rw[zcv];exact I.len⟩
 ·show Heap.Ns _ cenv.locals _;rw[hL];exact Heap.Ns.keeps (Heap.Ns.new ..) fun b o e=>pushCells_keeps _ _ _ _ e
 ·obtain⟨e2,hne⟩:=zdT e2;have hfr:scope.names.lookup y=some .free/\(cenv.kindOf y=some .cell\/cenv.kindOf y=some .free):=by
   have key:∀k,cenv.scope.names.lookup y=some k->k=.local\/k=.cell\/k=.free->scope.names.lookup y=some .free/\(cenv.kindOf y=some .cell\/cenv.kindOf y=some .free):=fun k hk hk'=>by
    have hk0:=hk;rw[hsc] at hk;obtain⟨k',e,r⟩:=zdJ hk;have no:¬(k'=.local\/k'=.cell):=fun hh=>by
     rcases ok.own _ (PySem.mem_of_lookup e) hh with e' | e'
     ·obtain⟨p,hp,hpy⟩:=List.mem_map.mp e';have e3:=ok.ix p hp;have:p.1=y:=hpy;rw[this] at e3;exact hne (List.mem_map.mpr ⟨p,hp,zhi hN e3 e1⟩)
     ·exact e' (zBs e1)
    rcases r with rfl|⟨rfl,rfl⟩
    ·rcases hk' with rfl | rfl | rfl
     ·exact absurd (.inl rfl) no
     ·exact absurd (.inr rfl) no
     ·exact⟨e,.inr hk0⟩
    ·exact⟨e,.inl hk0⟩
   have e3:Vis cenv.scope y:=e3;rcases e3 with e3 | e3 | e3
   ·exact key _ e3 (.inl rfl)
   ·exact key _ e3 (.inr (.inl rfl))
   ·exact key _ e3 (.inr (.inr rfl))
  obtain⟨m,hn,hl⟩:=I.loc;have hvis:Vis X.env.scope y:=(ok.free _ (PySem.mem_of_lookup hfr.1) rfl).elim (fun k=>.inr (.inl k)) (fun k=>.inr (.inr k));obtain⟨w,r,q⟩:=hl i y av e1 e2 hvis;refine⟨w,r,.inr ⟨hfr.2,?_⟩⟩;obtain⟨c,h1,h2⟩:=look hfr.1;rcases q with⟨k,_⟩|⟨_,c',e',z⟩
  ·have k:X.env.scope.names.lookup y=some .local:=k;rcases ok.free _ (PySem.mem_of_lookup hfr.1) rfl with k' | k'<;>rw[show X.env.scope.names.lookup y=_ from k'] at k<;>cases k
  ·rw[h2] at e';cases e';exact⟨c,h1,z.keeps kp⟩
 ·have e:cenv.cells.lookup y=some c:=e;rcases mem e with⟨h1,_⟩|⟨_,z⟩
  ·obtain⟨w,z⟩:=I.cell y c h1;exact⟨w,z.keeps kp⟩
  ·exact⟨_,z⟩
 ·show H cenv.locals=none;rw[hL];exact I.hok.fresh (zAi _)
 ·have e:cenv.cells.lookup y=some c:=e;rcases mem e with⟨h1,_⟩|⟨h1,_⟩
  ·exact I.freeC y c h1
  ·exact I.hok.fresh (zDi h1)
 ·exact absurd (show p∈([]:List (Addr×Obj))++[] from hp) (by simp)
theorem zn0{E:Value->Shared->Prop}{D:Addr}{xs:List V}{y:V}{v:Value}{Q:Value->Shared->Prop}(I:Inv X pins σ H s)(hD:H D=some (.lst xs))(hz:xs.length<sizeLine)(r:RelV y v)
  (h:∀s',Inv X pins σ (upd H D (.lst (xs++[y]))) s'->Q .none s'):wpAny (model X.prog X.w) X.A (call (.builtin "list.append") [.ref D,v]) Q E s:=by
 obtain⟨hz',its,n,ri,e⟩:=I.hok D _ hD;have hl:=ri.length;refine append_at (hsz:=by rw[zAn];omega) e fun h' sb ho'=>?_;refine h {s with heap:=h'} (I.write (t':=s.toks) (by rw[hD];trivial) (.inl rfl) (fun b u hb q=>(sb.2 b hb).trans q) ⟨_,ho'⟩ ⟨by rw[zAa];exact hz,its++[v],n+1,ri.append (.cons r .nil),?_⟩);rw[ho'];simp
def PTs(X:Cx)(ifs:List Expr)(t:TT):Prop:=
 ∀(pins:List (Addr×Obj)) (s:Shared) (σ:St) (H:Hp) (Q:Bool->Hp->Prop),Inv X pins σ H s->t σ H Q ->
  wpAny (model X.prog X.w) X.A (forIn ifs true fun c r=>if r=true then do let ok <-isTrue c X.env (eval c X.env);pure (ForInStep.yield ok) else pure (ForInStep.yield r)) (TP X pins σ Q) X.xe s
def zpH:TT:=fun _ H Q=>Q true H
theorem zgA:PTs X [] zpH:=fun _ _ _ H _ I h=>wpAny_tests_nil ⟨H,I,h⟩
theorem ziQ{c:Expr}{t:TT}(h:PT X c t):PTs X [c] t:=fun pins s σ H Q I hw=>wpAny_tests_one (h pins s σ H Q I hw)
end
theorem zgK{α:Type}{t:Sem α}{Q Q':α->Shared->Prop}{M:Model}{A:Around}{E:Value->Shared->Prop}{s:Shared}(h:wpAny M A t Q (fun _ _=>False) s)(hQ:∀a s,Q a s->Q' a s):wpAny M A t Q' E s:=wpAny_mono h hQ fun _ _ z=>False.elim z
theorem ze9{prog:Program}{w:World}{A:Around}{R:Result->Shared->Prop}{s:Shared}{elt target iter:Expr}{ifs:List Expr}{scope:Scope}{pos:Pos}{it acc:Value}{env:Env}(I:Nat->Shared->Prop)
  (turn:∀n s,I n s->wpAny (model prog w) A (pyNext it) (fun r s₁=>match r with
   | none=>R (.ok .next) s₁
   | some v=>wpAny (model prog w) A (letOwnedTupleGo target it v) (fun _ s₁'=>wpAny (model prog w) A (assign target env v) (fun _ s₂ =>
     wpAny (model prog w) A (forIn ifs true fun c r=>if r=true then do let ok <-isTrue c env (eval c env);pure (ForInStep.yield ok) else pure (ForInStep.yield r)) (fun ok s₃ =>
      if ok=true then wpAny (model prog w) A (eval elt env) (fun x s₄ =>
       wpAny (model prog w) A (call (.builtin "list.append") [acc,x]) (fun _ s₅=>∃m,m<n/\I m s₅) (notedBy (model prog w) A env fun e s'=>R (.error e) s') s₄) (notedBy (model prog w) A env fun e s'=>R (.error e) s') s₃
      else ∃m,m<n/\I m s₃) (notedBy (model prog w) A env fun e s'=>R (.error e) s') s₂) (notedBy (model prog w) A env fun e s'=>R (.error e) s') s₁') (notedBy (model prog w) A env fun e s'=>R (.error e) s') s₁) (notedBy (model prog w) A env fun e s'=>R (.error e) s') s)
  (n:Nat) (h:I n s) :
  codeAny (model prog w) A (.compLoop (.ListComp elt [⟨target,iter,ifs,0⟩] scope pos) 0 it acc env) R s:=by
 refine codeAny_loop rfl I (fun n s hI=>?_) n h;show wpAny _ A ((compTurn (.ListComp elt [⟨target,iter,ifs,0⟩] scope pos) 0 it acc env).onRaise (fun x=>do noteFrame x env;theTreesLotGoes x)) _ _ s;refine wpAny_noted ?_;rw[compTurn_list];refine wpAny_bind (wpAny_standAt (wpAny_bind (wpAny_mono (turn n s hI) (fun r s₁ h₁=>?_) fun _ _ h'=>h')));cases r with
 | none=>exact wpAny_pure h₁
 | some v =>
  refine wpAny_bind (wpAny_mono h₁ (fun _ s₁' h₁'=>?_) fun _ _ h'=>h');refine wpAny_bind (wpAny_mono h₁' (fun _ s₂ h₂=>wpAny_bind (wpAny_mono h₂ (fun ok s₃ h₃=>?_) fun _ _ h'=>h')) fun _ _ h'=>h');cases ok with
  | false=>exact wpAny_pure ⟨rfl,h₃⟩
  | true =>
   exact wpAny_bind (wpAny_bind (wpAny_mono h₃ (fun x s₄ h₄=>wpAny_bind (wpAny_mono h₄ (fun _ s₅ h₅=>wpAny_pure (wpAny_pure ⟨rfl,h₅⟩)) fun _ _ h'=>h')) fun _ _ h'=>h'))
section
variable{X:Cx}
def tLc(wi:TI)(g:TG)(tt:TT)(te:TE)(vs:List Nat):TE:=fun σ H Q=>wi σ H fun J H1=>∀D,H1 D=none->∃W:Nat->Nat->Hp->Prop,(∃m,W 0 m (upd H1 D (.lst [])))/\∀i m H,W i m H ->
 (J.stop i H/\Q (.ref D) H)\/(J.go i H/\∃Nx:Hp->Prop,(∀H',Nx H'->∃m',m'<m/\W (i+1) m' H')/\∀x H',J.yld i H x H'->g x (zbe σ vs) H' fun σ2 H2=>zbe σ2 vs=zbe σ vs/\tt σ2 H2 fun b H3 =>
  if b=true then te σ2 H3 fun y H4=>∃acc,H4 D=some (.lst acc)/\acc.length<sizeLine/\Nx (upd H4 D (.lst (acc++[y]))) else Nx H3)
theorem zln{pins:List (Addr×Obj)}{s:Shared}{σ:St}{H:Hp}{Q:VK}{elt tg iter:Expr}{ifs:List Expr}{scope:Scope}{own:List (Str×Nat)}{pos pos':Pos}{wi:TI}{g:TG}{tt:TT}{te:TE}{use:Option (Value->Sem Unit)}{Qf:Value->Shared->Prop}
  (hc:X.calm=true) (hN:X.N.Nodup) (I:Inv X pins σ H s) (hi:PI X tg iter wi) (ok:zhO X.N X.env.scope scope own)
  (hg:∀(s:Shared) (H:Hp) (C:Addr) (cl:List (Str×Addr)) (fp:List Addr),PG (X.blk s H scope (compEnvC scope cl C X.env) fp) tg g) (ht:∀(s:Shared) (H:Hp) (C:Addr) (cl:List (Str×Addr)) (fp:List Addr),PTs (X.blk s H scope (compEnvC scope cl C X.env) fp) ifs tt)
  (he:∀(s:Shared) (H:Hp) (C:Addr) (cl:List (Str×Addr)) (fp:List Addr),PE (X.blk s H scope (compEnvC scope cl C X.env) fp) elt te) (hs:∀x,foldedSetIterable iter X.env x=pure x)
  (h:tLc wi g tt te (own.map (·.2)) σ H Q)
  (hRR:∀D C s' m H',Inv X pins σ H' s'->Q (.ref D) H'->s'.heap.Ns C m->zff X pins H' C->compPost (model X.prog X.w) X.A X.xe use Qf (.ref D) C (.ok .next) s') :
  wpAny (model X.prog X.w) X.A (comprehension (.ListComp elt [⟨tg,iter,ifs,0⟩] scope pos) scope X.env pos' (newList []) false (eval iter X.env) use) Qf X.xe s:=by
 have hfree:∀y∈scope.names,y.2=.free->∃c,X.env.cells.lookup y.1=some c:=fun y hy e=>by
  rcases ok.free y hy e with k | k
  ·exact I.ok.has _ (.inl k)
  ·exact I.ok.has _ (.inr k)
 refine wpAny_comprehension_free (use:=use) rfl hs (zhE hfree) ok.kind (fun y hy e=>by rw[ok.uniq y hy,e])
  (thn (hi pins s σ H _ I h) fun xv s1 hx=>thn hx fun itv s2 h2=>?_)
 obtain⟨it,fp,tn,J,H2,e,I2,T,st2,f2,q⟩:=h2;subst e;refine wpAny_newObj_type (zfW ?_) (by show 0<=sizeLine;decide);generalize hD:s2.heap.objs.size=D;have hDn:H2 D=none:=I2.hok.fresh (zDf hD);obtain⟨W,⟨m0,w0⟩,turn⟩:=q D hDn;generalize hs3:({s2 with heap:=s2.heap.push {cls:=.type "list",data:=.seq ([]:List Value).toArray}}:Shared)=s3;have I3:Inv X pins σ (upd H2 D (.lst [])) s3:=by
  rw[<-hs3];refine I2.laid (t':=s2.toks) (fun b o e=>Heap.get?_push_of_some _ e) (zDf hD) ⟨zAx _,[],0,.nil,?_⟩;rw[<-hD];exact Heap.get?_push_size _ rfl
 have h3:s3.heap=s2.heap.push {cls:=.type "list",data:=.seq ([]:List Value).toArray}:=by rw[<-hs3]
 have sz:∀b∈fp,b<s2.heap.objs.size:=fun b hb=>by
  obtain⟨o,e,_⟩:=T.obj _ _ st2 b hb;exact Heap.lt_size e
 have f3:∀b∈fp,zff X pins (upd H2 D (.lst [])) b/\b<s3.heap.objs.size:=fun b hb=>by
  have hlt:=sz b hb;refine⟨⟨?_,(f2 b hb).2⟩,by rw[h3,Heap.size_push];exact zDh hlt⟩;rw[zae (by rw[<-hD];exact zBe hlt)];exact(f2 b hb).1
 have st3:tn 0 s3.heap:=T.keep _ _ _ st2 fun b _ o e=>by rw[h3];exact Heap.get?_push_of_some _ e
 have I4:=zf9 I3 ok hN f3;have pg:=hg s3 (upd H2 D (.lst [])) s3.heap.objs.size (cellsFrom (s3.heap.objs.size+1) scope.names (zaT X.env.cells scope.names [])) fp;have pt:=ht s3 (upd H2 D (.lst [])) s3.heap.objs.size (cellsFrom (s3.heap.objs.size+1) scope.names (zaT X.env.cells scope.names [])) fp;have pe:=he s3 (upd H2 D (.lst [])) s3.heap.objs.size (cellsFrom (s3.heap.objs.size+1) scope.names (zaT X.env.cells scope.names [])) fp;show codeAny _ _ (.compStart (.ListComp elt [⟨tg,iter,ifs,0⟩] scope pos) 0 (.ref it) (.ref D) (compEnvC scope (cellsFrom (s3.heap.objs.size+1) scope.names (zaT X.env.cells scope.names [])) s3.heap.objs.size X.env)) (compPost (model X.prog X.w) X.A X.xe use Qf (.ref D) s3.heap.objs.size) {s3 with heap:=pushCells (s3.heap.push {cls:=.type "dict",data:=.dict #[]}) scope.names};have nfp:∀b∈fp,(upd H2 D (.lst [])) b=none:=fun b hb=>(f3 b hb).1.1;generalize hce:compEnvC scope (cellsFrom (s3.heap.objs.size+1) scope.names (zaT X.env.cells scope.names [])) s3.heap.objs.size X.env=ce at I4 pg pt pe ⊢;have cL:ce.locals=s3.heap.objs.size:=by subst hce;rfl
 generalize hH3:upd H2 D (.lst [])=H3 at I3 I4 pg pt pe w0 nfp f3;generalize hs4:({s3 with heap:=pushCells (s3.heap.push {cls:=.type "dict",data:=.dict #[]}) scope.names}:Shared)=s4 at I4 ⊢;have st4:tn 0 s4.heap:=T.keep _ _ _ st3 fun b _ o e=>by rw[<-hs4];exact pushCells_keeps _ _ _ _ (Heap.get?_push_of_some _ e)
 have stat:∀ {σ':St}{H':Hp}{s':Shared},Inv (X.blk s3 H3 scope ce fp) [] σ' H' s'->(∀b∈fp,H' b=none)->∀b∈fp,zff (X.blk s3 H3 scope ce fp) [] H' b:=fun{σ' H' s'} I' hn b hb =>
  ⟨hn b hb,(I'.ok.exf b hb).1,I'.ok.exfs b hb,.inl hb,fun x c e=>(I'.ok.exf b hb).2 x c e,fun p hp=>absurd (show p∈([]:List (Addr×Obj))++[] from hp) (by simp)⟩
 have loop:codeAny (model X.prog X.w) X.A (.compLoop (.ListComp elt [⟨tg,iter,ifs,0⟩] scope pos) 0 (.ref it) (.ref D) ce) (compPost (model X.prog X.w) X.A X.xe use Qf (.ref D) s3.heap.objs.size) s4:=by
  refine ze9 (fun n s'=>∃i H',Inv (X.blk s3 H3 scope ce fp) [] (zbe σ (own.map (·.2))) H' s'/\tn i s'.heap/\(∀b∈fp,H' b=none)/\W i n H') ?_ m0 ⟨0,H3,I4,st4,nfp,w0⟩;rintro n s5 ⟨i,H5,I5,st5,n5,w5⟩;rcases turn i n H5 w5 with⟨stop,qq⟩|⟨go,Nx,hNx,step⟩
  ·have td:=T.done (X.blk s3 H3 scope ce fp) rfl rfl rfl hc i [] s5 _ H5 (fun _ _=>False) I5 (stat I5 n5) st5 stop;refine zgK td fun r s6 ⟨hr,I6⟩=>?_;subst hr;have I7:Inv X pins σ H5 s6:=I3.call' (ch:=fp) I6.os I6.base I6.hok I6.bare fun b hb=>⟨(f3 b hb).1.2.2.2.1,(f3 b hb).1.2.1,(f3 b hb).1.2.2.2.2.1,(f3 b hb).1.2.2.2.2.2⟩;have nC:H5 s3.heap.objs.size=none:=by
    have z:H5 ce.locals=none:=I6.free;rw[cL] at z;exact z
   obtain⟨m,hn,_⟩:=I6.loc;have hn:s6.heap.Ns ce.locals m:=hn;rw[cL] at hn;exact hRR D s3.heap.objs.size s6 m H5 I7 qq hn (I3.fpOk (zAi _) nC)
  ·have ti:=T.item (X.blk s3 H3 scope ce fp) rfl rfl rfl hc i [] s5 _ H5 (fun _ _=>False) I5 (stat I5 n5) st5 go;refine zgK ti fun r s6 ⟨u,hr,h6⟩=>?_;subst hr;refine zgK h6 fun _ s7 ⟨x,H7,I7,r7,y7,st7,n7⟩=>?_;have I7':=I7.pinned (stat I7 n7) (T.obj _ _ st7);refine zgK (pg _ s7 _ H7 x u _ I7' r7 (step x H7 y7)) fun _ s8 ⟨σ8,H8,I8,hw8,q8⟩=>?_;refine zgK (pt _ s8 σ8 H8 _ I8 q8) fun b s9 ⟨H9,I9,q9⟩=>?_;have fin:∀ {s':Shared}{H':Hp},Inv (X.blk s3 H3 scope ce fp) ([]++zc0 fp s7.heap) σ8 H' s'->Nx H'->∃m,m<n/\∃i H',Inv (X.blk s3 H3 scope ce fp) [] (zbe σ (own.map (·.2))) H' s'/\tn i s'.heap/\(∀b∈fp,H' b=none)/\W i m H':=fun{s' H'} I' nx=>by
    obtain⟨m',hm,w'⟩:=hNx H' nx;have pin':∀b∈fp,∀o,s7.heap.get? b=some o->s'.heap.get? b=some o/\H' b=none:=fun b hb o e =>
     let z:=I'.pin (b,o) (zAl _ (zAl _ (zc7 hb e)))
     ⟨z.1,z.2.1⟩
    have hl:(zbe σ (own.map (·.2))).length=σ8.length:=by rw[<-hw8,zcv]
    refine⟨m',hm,i+1,H',(I'.unpinned (pins:=[])).weak hl (fun j v e=>?_),T.keep _ _ _ st7 fun b hb o e=>(pin' b hb o e).1,fun b hb=>?_,w'⟩
    ·rw[<-hw8] at e;exact(zdT e).1
    ·obtain⟨o,e,_⟩:=T.obj _ _ st7 b hb;exact(pin' b hb o e).2
   cases b with
   | false =>
    simp only[zCw,if_false] at q9 ⊢;exact fin I9 q9
   | true =>
    simp only[if_true] at q9 ⊢;refine zgK (pe _ s9 σ8 H9 _ I9 q9) fun z s10 ⟨yv,H10,I10,r10,acc,hD10,hz10,nx⟩=>?_;exact zn0 (X:=X.blk s3 H3 scope ce fp) I10 hD10 hz10 r10 fun s11 I11=>fin I11 nx
 exact codeAny_compStart_list loop (T.self X.A 0 _ _ _ st4 loop)
theorem zle{elt tg iter:Expr}{ifs:List Expr}{scope:Scope}{own:List (Str×Nat)}{pos:Pos}{wi:TI}{g:TG}{tt:TT}{te:TE}(hc:X.calm=true)(hN:X.N.Nodup)(hi:PI X tg iter wi)(ok:zhO X.N X.env.scope scope own)
  (hg:∀(s:Shared) (H:Hp) (C:Addr) (cl:List (Str×Addr)) (fp:List Addr),PG (X.blk s H scope (compEnvC scope cl C X.env) fp) tg g) (ht:∀(s:Shared) (H:Hp) (C:Addr) (cl:List (Str×Addr)) (fp:List Addr),PTs (X.blk s H scope (compEnvC scope cl C X.env) fp) ifs tt)
  (he:∀(s:Shared) (H:Hp) (C:Addr) (cl:List (Str×Addr)) (fp:List Addr),PE (X.blk s H scope (compEnvC scope cl C X.env) fp) elt te) (hs:∀x,foldedSetIterable iter X.env x=pure x:=by intro _;rfl) :
  PE X (.ListComp elt [⟨tg,iter,ifs,0⟩] scope pos) (tLc wi g tt te (own.map (·.2))):=by
 intro pins s σ H Q I h;rw[eval_ListComp];refine zln hc hN I hi ok hg ht he hs h fun D C s' m H' I' q hn f=>⟨m,hn,fun h'' sb=>?_⟩;obtain⟨f0,f1,f2,f3,f4,f5⟩:=f;exact⟨.ref D,H',I'.turned (t':=s'.toks) (fun b o hb e=>(sb.2 b hb).trans e) f0 f1 f3 f4 f5,rfl,q⟩
theorem zjG{i:Nat}{y:Str}{py:Pos}{elt tg iter:Expr}{ifs:List Expr}{scope:Scope}{own:List (Str×Nat)}{pos spos:Pos}{wi:TI}{g:TG}{tt:TT}{te:TE}(hc:X.calm=true)(hN:X.N.Nodup)(hy:X.N[i]?=some y)(hyl:X.env.scope.names.lookup y=some .local)
  (hsw:swapsWith (.ListComp elt [⟨tg,iter,ifs,0⟩] scope pos) (some (.Name y py)) spos.line X.env=pure true) (hi:PI X tg iter wi) (ok:zhO X.N X.env.scope scope own)
  (hg:∀(s:Shared) (H:Hp) (C:Addr) (cl:List (Str×Addr)) (fp:List Addr),PG (X.blk s H scope (compEnvC scope cl C X.env) fp) tg g) (ht:∀(s:Shared) (H:Hp) (C:Addr) (cl:List (Str×Addr)) (fp:List Addr),PTs (X.blk s H scope (compEnvC scope cl C X.env) fp) ifs tt)
  (he:∀(s:Shared) (H:Hp) (C:Addr) (cl:List (Str×Addr)) (fp:List Addr),PE (X.blk s H scope (compEnvC scope cl C X.env) fp) elt te) (hs:∀x,foldedSetIterable iter X.env x=pure x:=by intro _;rfl) :
  PS X (.Assign [.Name y py] (.ListComp elt [⟨tg,iter,ifs,0⟩] scope pos) spos) (zkg (tLc wi g tt te (own.map (·.2))) (zf2 i)):=by
 intro pins s σ H D I h;rw[exec_Assign_Name_used _ _ _ _ hsw];refine wpAny_bind (wpAny_standAt (wpAny_bind ?_));show wpAny _ X.A (do let _ <-comprehension (.ListComp elt [⟨tg,iter,ifs,0⟩] scope pos) scope X.env (firstIterPos [⟨tg,iter,ifs,0⟩] pos) (newList []) false (eval iter X.env) (some (assign (.Name y py) X.env))) _ _ s;have h:tLc wi g tt te (own.map (·.2)) σ H (fun x H1=>zf2 i x σ H1 D.nx):=h;refine wpAny_bind (thn (zln (Qf:=fun _ s'=>SP X pins D .next s') hc hN I hi ok hg ht he hs h fun L C s' m H' I' q hn f=>?_) fun _ s' hq=>wpAny_pure (wpAny_pure hq));show wpAny _ _ (assign (.Name y py) X.env (.ref L)) _ _ _;refine wpAny_assign_Name (zh3 (v:=V.ref L) I' hN hy (.inl hyl) rfl (fun s2 I2 ⟨a,sb,ha⟩=>?_) (.inr hyl));obtain⟨f0,f1,f2,f3,f4,f5⟩:=f;have haC:C≠a:=by
  rcases ha with z | z
  ·rw[z];exact f1
  ·exact fun e=>f4 y a z e.symm
 refine⟨m,hn.sameBut sb haC,fun h3 sb3=>?_⟩;exact⟨_,H',I2.turned (t':=s2.toks) (fun b o hb e=>(sb3.2 b hb).trans e) f0 f1 f3 f4 f5,q⟩
theorem zk0{elt:Expr}{gs:List Comprehension}{scope:Scope}{pos py:Pos}{y:Str}{l:Nat}{env:Env}(hk:env.scope.kind=.function)(hy:env.scope.names.lookup y=some .local)(hl:(py.line == pos.line)=true)
  (ha:(scope.names.any fun(n,k)=>n == y&&(k == .local||k == .cell))=false):swapsWith (.ListComp elt gs scope pos) (some (.Name y py)) l env=pure true:=by
 have ky:env.kindOf y=some .local:=hy;have hb:env.blockKind=.function:=by unfold Env.blockKind;rw[hk];rfl
 unfold swapsWith;simp only[hb,ky,ha,Expr.pos,hl];rfl
end
theorem zno{lo:Int}{n:Nat}{g:TG}{tt:TT}{te:TE}{vs:List Nat}{σ:St}{H1:Hp}{D:Addr}{Qd:Hp->Prop}(Pv:Nat->Hp->Prop)(h0:Pv 0 (upd H1 D (.lst [])))
  (hs:∀i H,i<n->Pv i H->g (.int (lo+i)) (zbe σ vs) H fun σ2 H2=>zbe σ2 vs=zbe σ vs/\tt σ2 H2 fun b H3 =>
   if b=true then te σ2 H3 fun y H4=>∃acc,H4 D=some (.lst acc)/\acc.length<sizeLine/\Pv (i+1) (upd H4 D (.lst (acc++[y]))) else Pv (i+1) H3) (hd:∀H,Pv n H->Qd H) :
  ∃W:Nat->Nat->Hp->Prop,(∃m,W 0 m (upd H1 D (.lst [])))/\∀i m H,W i m H ->
   ((Itr lo n).stop i H/\Qd H)\/((Itr lo n).go i H/\∃Nx:Hp->Prop,(∀H',Nx H'->∃m',m'<m/\W (i+1) m' H')/\∀x H',(Itr lo n).yld i H x H'->g x (zbe σ vs) H' fun σ2 H2=>zbe σ2 vs=zbe σ vs/\tt σ2 H2 fun b H3 =>
    if b=true then te σ2 H3 fun y H4=>∃acc,H4 D=some (.lst acc)/\acc.length<sizeLine/\Nx (upd H4 D (.lst (acc++[y]))) else Nx H3):=by
 refine⟨fun i m H=>m=n - i/\i<=n/\Pv i H,⟨n,by simp,zAx _,h0⟩,?_⟩;rintro i m H ⟨rfl,hi,p⟩;by_cases hlt:i<n
 ·refine .inr ⟨hlt,Pv (i+1),fun H' p'=>⟨n - (i+1),by omega,rfl,hlt,p'⟩,fun x H' y=>?_⟩;obtain⟨e,y⟩:=y;subst e y;exact hs i _ hlt p
 ·have e:i=n:=by omega
  subst e;exact .inl ⟨zAi _,hd H p⟩
theorem zi0{K:PySem.W.Frag}{a:Addr}{xs:List V}{g:TG}{tt:TT}{te:TE}{vs:List Nat}{σ:St}{H1:Hp}{D:Addr}{Qd:Hp->Prop}(Pv:Nat->Hp->Prop)(h0:Pv 0 (upd H1 D (.lst [])))(hl:∀i H,i<=xs.length->Pv i H->SqL K H a xs)
  (hs:∀i x H,xs[i]?=some x->Pv i H->g x (zbe σ vs) H fun σ2 H2=>zbe σ2 vs=zbe σ vs/\tt σ2 H2 fun b H3 =>
   if b=true then te σ2 H3 fun y H4=>∃acc,H4 D=some (.lst acc)/\acc.length<sizeLine/\Pv (i+1) (upd H4 D (.lst (acc++[y]))) else Pv (i+1) H3) (hd:∀H,Pv xs.length H->Qd H) :
  ∃W:Nat->Nat->Hp->Prop,(∃m,W 0 m (upd H1 D (.lst [])))/\∀i m H,W i m H ->
   ((Itl K a).stop i H/\Qd H)\/((Itl K a).go i H/\∃Nx:Hp->Prop,(∀H',Nx H'->∃m',m'<m/\W (i+1) m' H')/\∀x H',(Itl K a).yld i H x H'->g x (zbe σ vs) H' fun σ2 H2=>zbe σ2 vs=zbe σ vs/\tt σ2 H2 fun b H3 =>
    if b=true then te σ2 H3 fun y H4=>∃acc,H4 D=some (.lst acc)/\acc.length<sizeLine/\Nx (upd H4 D (.lst (acc++[y]))) else Nx H3):=by
 refine⟨fun i m H=>m=xs.length - i/\i<=xs.length/\Pv i H,⟨xs.length,by simp,zAx _,h0⟩,?_⟩;rintro i m H ⟨rfl,hi,p⟩;have q:=hl i H hi p;by_cases hlt:i<xs.length
 ·refine .inr ⟨⟨xs,xs[i],q,by simp[hlt]⟩,Pv (i+1),fun H' p'=>⟨xs.length - (i+1),by omega,rfl,hlt,p'⟩,fun x H' y=>?_⟩;obtain⟨e,y⟩:=y;subst e;exact hs i x _ (y xs q) p
 ·have e:i=xs.length:=by omega
  subst e;exact .inl ⟨⟨xs,q,zAi _⟩,hd H p⟩
def zrZ(N:List Str)(sc scope:Scope)(own:List (Str×Nat)):Bool:=
 (match scope.kind with|.function=>true | _=>false)&&(scope.names.all fun y=>decide (scope.names.lookup y.1=some y.2))&&(own.all fun p=>decide (N[p.2]?=some p.1)) &&
  (scope.names.all fun y=>match y.2 with
   | .free=>(match sc.names.lookup y.1 with | some .cell=>true | some .free=>true | _=>false)
   | .local=>decide (y.1∈own.map (·.1))||decide (y.1∉N)
   | .cell=>decide (y.1∈own.map (·.1))||decide (y.1∉N)
   | _=>true)
theorem zcu{N:List Str}{sc scope:Scope}{own:List (Str×Nat)}(h:zrZ N sc scope own=true):zhO N sc scope own:=by
 unfold zrZ at h;simp only[zBx,List.all_eq_true,decide_eq_true_eq] at h;obtain⟨⟨⟨h1,h2⟩,h3⟩,h4⟩:=h;refine⟨?_,h2,h3,fun y hy e=>?_,fun y hy e=>?_⟩
 ·split at h1
  ·assumption
  ·cases h1
 ·have q:=h4 y hy;simp only[e] at q;split at q<;>first | exact .inl (by assumption) | exact .inr (by assumption) | cases q
 ·have q:=h4 y hy;rcases e with e | e<;>(simp only[e,Bool.or_eq_true,decide_eq_true_eq] at q;exact q)
end L2
namespace L2
open PySem PySem.Spec PyProof.Rows
section
variable{prog:Program}{w:World}{A:Around}{R:Result->Shared->Prop}{s:Shared}{elt t0 i0 t1 i1:Expr}{ifs0 ifs1:List Expr}{scope:Scope}{pos:Pos}{it acc:Value}{env:Env}
end
section
variable{X:Cx}
end
end L2
namespace L2
open PySem PySem.Spec PyProof.Rows
section
variable{κ:Type}[DecidableEq κ]
def zaO(kvs:List (κ×V))(k:κ):Option V:=(kvs.find? fun kv=>decide (kv.1=k)).map (·.2)
def zbk(kvs:List (κ×V))(k:κ)(v:V):List (κ×V):=
 if (kvs.any fun kv=>decide (kv.1=k))=true then kvs.map (fun kv=>if kv.1=k then(kv.1,v) else kv) else kvs++[(k,v)]
def zdj(kvs:List (κ×V))(k:κ):List (κ×V):=kvs.filter fun kv=>decide (kv.1≠k)
theorem zbd{p:κ×V}{r:List (κ×V)}{k:κ}(e:p.1=k):zaO (p::r) k=some p.2:=by simp[zaO,zCd,e]
theorem za8{p:κ×V}{r:List (κ×V)}{k:κ}(e:¬p.1=k):zaO (p::r) k=zaO r k:=by simp[zaO,zCd,e]
theorem zcM(k:κ):∀kvs:List (κ×V),(kvs.any fun kv=>decide (kv.1=k))=(zaO kvs k).isSome
 | []=>rfl
 | p::r=>by
  rw[zDn];by_cases e:p.1=k
  ·simp only[zbd e,zBh e,Bool.true_or,Option.isSome_some]
  ·rw[za8 e,zBq e,Bool.false_or];exact zcM k r
theorem zjj(k j:κ)(y:V):∀kvs:List (κ×V),zaO (kvs.map fun kv=>if kv.1=k then(kv.1,y) else kv) j=(zaO kvs j).map fun x=>if j=k then y else x
 | []=>rfl
 | p::r=>by
  have ih:=zjj k j y r;rw[zAz];by_cases h:p.1=k
  ·rw[if_pos h];by_cases e:p.1=j
   ·rw[zbd (p:=(p.1,y)) e,zbd e,zDa,if_pos (e.symm.trans h)]
   ·rw[za8 (p:=(p.1,y)) e,za8 e,ih]
  ·rw[if_neg h];by_cases e:p.1=j
   ·rw[zbd (p:=p) e,zbd e,zDa,if_neg (fun z=>h (e.trans z))]
   ·rw[za8 (p:=p) e,za8 e,ih]
theorem zh2(k j:κ)(y:V):∀kvs:List (κ×V),zaO kvs k=none->zaO (kvs++[(k,y)]) j=if j=k then some y else zaO kvs j
 | [],_=>by
  by_cases e:k=j
  ·rw[if_pos e.symm];exact zbd (p:=(k,y)) e
  ·rw[if_neg (fun z=>e z.symm)];exact za8 (p:=(k,y)) e
 | p::r,hn=>by
  rw[zBw];have hk:¬p.1=k:=fun z=>by rw[zbd z] at hn;cases hn
  rw[za8 hk] at hn;have ih:=zh2 k j y r hn;by_cases e:p.1=j
  ·rw[zbd e,zbd e,if_neg (fun z=>hk (e.trans z))]
  ·rw[za8 e,za8 e,ih]
theorem zeG(kvs:List (κ×V))(k j:κ)(y:V):zaO (zbk kvs k y) j=if j=k then some y else zaO kvs j:=by
 unfold zbk;by_cases a:(kvs.any fun kv=>decide (kv.1=k))=true
 ·rw[if_pos a,zjj];rw[zcM] at a;by_cases e:j=k
  ·obtain⟨x,hx⟩:=Option.isSome_iff_exists.mp a;rw[if_pos e,e,hx,zDa,if_pos rfl]
  ·rw[if_neg e];cases zaO kvs j with
   | none=>rfl
   | some x=>rw[zDa,if_neg e]
 ·rw[if_neg a];refine zh2 k j y kvs ?_;rw[zcM] at a;cases q:zaO kvs k with
  | none=>rfl
  | some x=>rw[q] at a;exact(a rfl).elim
theorem zcD(kvs:List (κ×V))(k:κ)(v:V):(zbk kvs k v).length<=kvs.length+1:=by
 unfold zbk;split
 ·rw[zAp];omega
 ·rw[zAa,zAb,zCu];omega
theorem zjF{kvs:List (κ×V)}{k:κ}(v:V)(h:zaO kvs k=none):zbk kvs k v=kvs++[(k,v)]:=by
 unfold zbk;rw[zcM,h];exact if_neg (by decide)
theorem RelO.isSome_eq{o:Option V}{u:Option Value}(r:RelO o u):o.isSome=u.isSome:=by
 cases o with
 | none=>cases u with
  | none=>rfl
  | some _=>exact(show False from r).elim
 | some _=>cases u with
  | none=>exact(show False from r).elim
  | some _=>rfl
theorem RelO.getD{o:Option V}{u:Option Value}{d:V}{d':Value}(r:RelO o u)(rd:RelV d d'):RelV (o.getD d) (u.getD d'):=by
 cases o with
 | none=>cases u with
  | none=>exact rd
  | some _=>exact(show False from r).elim
 | some _=>cases u with
  | none=>exact(show False from r).elim
  | some _=>exact r
theorem KV.val{kvs:List (κ×V)}{vs:List (κ×Value)}(r:KV kvs vs)(k:κ):RelO (zaO kvs k) (valueAt vs k):=by
 unfold KV at r;induction r with
 | nil=>exact True.intro
 | @cons p q ps qs h t ih =>
  obtain⟨h1,h2⟩:=h;by_cases e:p.1=k
  ·have e':q.1=k:=h1.symm.trans e;have b:valueAt (q::qs) k=some q.2:=by simp[valueAt,zCd,e']
   rw[zbd e,b];exact h2
  ·have e':¬q.1=k:=fun z=>e (h1.trans z);have b:valueAt (q::qs) k=valueAt qs k:=by simp[valueAt,zCd,e']
   rw[za8 e,b];exact ih
theorem KV.any{kvs:List (κ×V)}{vs:List (κ×Value)}(r:KV kvs vs)(k:κ):(kvs.any fun kv=>decide (kv.1=k))=vs.any fun kv=>decide (kv.1=k):=by
 unfold KV at r;induction r with
 | nil=>rfl
 | cons h t ih=>rw[zDn,zDn,ih,h.1]
theorem KV.repl{kvs:List (κ×V)}{vs:List (κ×Value)}(r:KV kvs vs)(k:κ){y:V}{u:Value}(ry:RelV y u) :
  KV (kvs.map fun kv=>if kv.1=k then(kv.1,y) else kv) (vs.map fun kv=>if kv.1=k then(kv.1,u) else kv):=by
 unfold KV at r ⊢;induction r with
 | nil=>exact .nil
 | @cons p q ps qs h t ih =>
  rw[zAz,zAz];refine .cons ?_ ih;obtain⟨h1,h2⟩:=h;by_cases e:p.1=k
  ·rw[if_pos e,if_pos (h1.symm.trans e)];exact⟨h1,ry⟩
  ·rw[if_neg e,if_neg (fun z=>e (h1.trans z))];exact⟨h1,h2⟩
theorem KV.put{kvs:List (κ×V)}{vs:List (κ×Value)}(r:KV kvs vs)(k:κ){y:V}{u:Value}(ry:RelV y u):KV (zbk kvs k y) (stored vs k u):=by
 unfold zbk stored;rw[r.any k];by_cases e:(vs.any fun kv=>decide (kv.1=k))=true
 ·rw[if_pos e,if_pos e];exact r.repl k ry
 ·rw[if_neg e,if_neg e];exact Paired.snoc r ⟨rfl,ry⟩
theorem KV.drop{kvs:List (κ×V)}{vs:List (κ×Value)}(r:KV kvs vs)(k:κ):KV (zdj kvs k) (without vs k):=by
 unfold KV at r ⊢;unfold zdj without;induction r with
 | nil=>exact .nil
 | @cons p q ps qs h t ih =>
  obtain⟨h1,h2⟩:=h;rw[List.filter_cons,List.filter_cons];by_cases e:p.1=k
  ·have a:¬decide (p.1≠k)=true:=by simp[e]
   have b:¬decide (q.1≠k)=true:=by simp[h1.symm.trans e]
   rw[if_neg a,if_neg b];exact ih
  ·have e':¬q.1=k:=fun z=>e (h1.trans z);have a:decide (p.1≠k)=true:=by simp[e]
   have b:decide (q.1≠k)=true:=by simp[e']
   rw[if_pos a,if_pos b];exact .cons ⟨h1,h2⟩ ih
theorem KV.length{kvs:List (κ×V)}{vs:List (κ×Value)}(r:KV kvs vs):kvs.length=vs.length:=Paired.length r
theorem znM(kvs:List (κ×V))(k:κ):(zdj kvs k).length<=kvs.length:=zDu _ _
end
theorem zdK{P:Program}{w:World}{k:Key}{u:Value}(r:RelV (kV k) u):(zaS P w).is k u=true:=by
 cases k with
 | inl i=>obtain⟨t,e⟩:=(show ∃t,u=Value.int i t from r);subst e;exact zjR P w i t
 | inr x=>obtain⟨t,e⟩:=(show ∃t,u=Value.str x t from r);subst e;exact zdH P w x t
theorem zik{P:Program}{w:World}:∀ {ks:List Key}{us:List Value},Vals (ks.map kV) us->ItemsAre (zaS P w) ks us
 | [],_,r=>by rw[List.map_nil] at r;cases r;exact .nil
 | k::ks,_,r=>by
  rw[zAz] at r;cases r with
  | cons h t=>exact .cons (zdK h) (zik t)
abbrev KT(H:Hp):List (List Key×V)->List (List Key×Addr×Value)->Prop:=Paired fun p q=>p.1=q.1/\H q.2.1=some (.tup (p.1.map kV))/\RelV p.2 q.2.2
theorem KT.val{H:Hp}{kvs:List (List Key×V)}{xs:List (List Key×Addr×Value)}(r:KT H kvs xs)(k:List Key):RelO (zaO kvs k) ((atKey xs k).map (·.2)):=by
 induction r with
 | nil=>exact True.intro
 | @cons p q ps qs h t ih =>
  obtain⟨h1,_,h2⟩:=h;by_cases e:p.1=k
  ·have e':q.1=k:=h1.symm.trans e;have b:atKey (q::qs) k=some q.2:=by simp[atKey,zCd,e']
   rw[zbd e,b];exact h2
  ·have e':¬q.1=k:=fun z=>e (h1.trans z);have b:atKey (q::qs) k=atKey qs k:=by simp[atKey,zCd,e']
   rw[za8 e,b];exact ih
theorem KT.repl{H:Hp}{kvs:List (List Key×V)}{xs:List (List Key×Addr×Value)}(r:KT H kvs xs)(k:List Key){y:V}{u:Value}(ry:RelV y u) :
  KT H (kvs.map fun kv=>if kv.1=k then(kv.1,y) else kv) (xs.map (putAt k u)):=by
 induction r with
 | nil=>exact .nil
 | @cons p q ps qs h t ih =>
  rw[zAz,zAz];refine .cons ?_ ih;obtain⟨h1,h2,h3⟩:=h;unfold putAt;by_cases e:p.1=k
  ·rw[if_pos e,if_pos (h1.symm.trans e)];exact⟨h1,h2,ry⟩
  ·rw[if_neg e,if_neg (fun z=>e (h1.trans z))];exact⟨h1,h2,h3⟩
theorem KT.put{H:Hp}{kvs:List (List Key×V)}{xs:List (List Key×Addr×Value)}(r:KT H kvs xs)(k:List Key){b:Addr}{y:V}{u:Value}(hb:H b=some (.tup (k.map kV)))(ry:RelV y u) :
  KT H (zbk kvs k y) (storedH xs k b u):=by
 have e:(kvs.any fun kv=>decide (kv.1=k))=(atKey xs k).isSome:=by
  rw[zcM,(r.val k).isSome_eq,zEg]
 unfold zbk storedH;rw[e];by_cases q:(atKey xs k).isSome=true
 ·rw[if_pos q,if_pos q];exact r.repl k ry
 ·rw[if_neg q,if_neg q];exact Paired.snoc r ⟨rfl,hb,ry⟩
theorem KT.keeps{H H':Hp}{kvs:List (List Key×V)}{xs:List (List Key×Addr×Value)}(r:KT H kvs xs)(ht:∀b ys,H b=some (.tup ys)->H' b=some (.tup ys)):KT H' kvs xs:=
 Paired.mapP r fun _ _ z=>⟨z.1,ht _ _ z.2.1,z.2.2⟩
section
variable{P:Program}{w:World}{H:Hp}{h:Heap}{a:Addr}
theorem zpm{u:HO}(ok:HOk P w H h)(e:Rd H a u):ObjOk P w H h a u:=e.ok ok
theorem zf4{kvs:List (Key×V)}(ok:HOk P w H h)(e:Rd H a (.dK kvs)):kvs.length<=sizeLine/\(a == sysModules)=false/\∃vs,KV kvs vs/\h.DictOf (zaS P w) a vs:=
 show ObjOk P w H h a (.dK kvs) from zpm ok e
theorem zlw{kvs:List (Key×V)}(ok:HOk P w H h)(e:H a=some (.dK kvs)):kvs.length<=sizeLine/\(a == sysModules)=false/\∃vs,KV kvs vs/\h.DictOf (zaS P w) a vs:=zf4 ok (.inl e)
theorem zez{ks:List Key}(ok:HOk P w H h)(e:H a=some (.tup (ks.map kV))):(tupleKind (zaS P w)).is h ks a:=by
 obtain⟨_,its,r,o,h1,h2,n,h3⟩:=(show ObjOk P w H h a (.tup (ks.map kV)) from ok a _ e);exact⟨o,its.toArray,n,h1,h2,h3,by simpa using zik r⟩
theorem zf3{kvs:List (List Key×V)}(ok:HOk P w H h)(e:Rd H a (.dT kvs)):kvs.length<=sizeLine/\(a == sysModules)=false /\
  ∃xs,KT H kvs xs/\h.DictOfH (tupleKind (zaS P w)) a xs:=by
 obtain⟨z,y,xs,r,o,es,ep,h1,h2,h3,h4,h5⟩:=(show ObjOk P w H h a (.dT kvs) from zpm ok e);refine⟨z,y,xs,r,o,es,ep,h1,h2,h3,h4,fun x hx=>?_,h5⟩;have all:∀ {l:List (List Key×V)}{m:List (List Key×Addr×Value)},KT H l m->∀x∈m,(tupleKind (zaS P w)).is h x.1 x.2.1:=by
  intro l m q;induction q with
  | nil=>intro x hx;exact nomatch hx
  | @cons p q ps qs hq t ih =>
   intro x hx;rcases zAe hx with e | hx
   ·subst e;exact zez ok (by rw[<-hq.1];exact hq.2.1)
   ·exact ih x hx
 exact all r x hx
theorem zrX{kvs:List (List Key×V)}(ok:HOk P w H h)(e:H a=some (.dT kvs)):kvs.length<=sizeLine/\(a == sysModules)=false /\
  ∃xs,KT H kvs xs/\h.DictOfH (tupleKind (zaS P w)) a xs:=zf3 ok (.inl e)
end
def zdo(H:Hp)(a:Addr)(y:V)(r:Option V):Prop:=
 (∃kvs k,Rd H a (.dK kvs)/\y=kV k/\r=zaO kvs k)\/∃kvs k b,Rd H a (.dT kvs)/\y=.ref b/\H b=some (.tup (k.map kV))/\r=zaO kvs k
def zn5(H:Hp)(a:Addr)(y v:V)(H':Hp):Prop:=
 (∃kvs k,H a=some (.dK kvs)/\y=kV k/\kvs.length<sizeLine/\H'=upd H a (.dK (zbk kvs k v))) \/
 ∃kvs k b,H a=some (.dT kvs)/\y=.ref b/\H b=some (.tup (k.map kV))/\kvs.length<sizeLine/\H'=upd H a (.dT (zbk kvs k v))
section
variable{X:Cx}{pins:List (Addr×Obj)}{σ:St}{H:Hp}{s:Shared}{a:Addr}{y v:V}{u r:Value}{o:Option V}{A:Around}{E:Value->Shared->Prop}
theorem Inv.big(I:Inv X pins σ H s):sysModules<s.heap.objs.size:=by
 have h:mainGlobals<s.heap.objs.size:=(I.mod.glob.keeps I.bk).lt;exact Nat.lt_trans (by decide) h
theorem zmd{Q:Value->Shared->Prop}(hu:A.units+1<cLine)(I:Inv X pins σ H s)(g:zdo H a y (some v))(ry:RelV y u)(h:∀w' s',Inv X pins σ H s'->RelV v w'->Q w' s') :
  wpAny (model X.prog X.w) A (getItem (.ref a) u) Q E s:=by
 rcases g with⟨kvs,k,e,ey,l⟩|⟨kvs,k,b,e,ey,eb,l⟩
 ·subst ey;obtain⟨z,hd,vs,rel,dd⟩:=zf4 I.hok e;obtain⟨w',hw,rw'⟩:=RelO.some_of (v:=v) (o:=valueAt vs k) (by rw[l];exact rel.val k);exact wpAny_getItem_of (zdK ry) dd.mapOf hw (h w' _ (I.tok _) rw')
 ·subst ey;cases (show u=Value.ref b from ry)
  obtain⟨z,hd,xs,rel,dd⟩:=zf3 I.hok e;obtain⟨w',hw,rw'⟩:=RelO.some_of (v:=v) (o:=(atKey xs k).map (·.2)) (by rw[l];exact rel.val k);obtain⟨p,hp,hp2⟩:=Option.map_eq_some_iff.mp hw;refine wpAny_getItem_heap (tupleKind_room_in1 hu) (zez I.hok eb) dd hp ?_;rw[hp2];exact h w' _ (I.tok _) rw'
theorem zsl{Q:Value->Shared->Prop}(hu:A.units+1<cLine)(I:Inv X pins σ H s)(g:zdo H a y o)(ry:RelV y u)(h:∀s',Inv X pins σ H s'->Q (.bool o.isSome) s') :
  wpAny (model X.prog X.w) A (compareOp .In u (.ref a)) Q E s:=by
 rcases g with⟨kvs,k,e,ey,l⟩|⟨kvs,k,b,e,ey,eb,l⟩
 ·subst ey;obtain⟨z,hd,vs,rel,dd⟩:=zf4 I.hok e;refine wpAny_in_of (zdK ry) hd dd.mapOf ?_;rw[<-(rel.val k).isSome_eq,<-l];exact h _ (I.tok _)
 ·subst ey;cases (show u=Value.ref b from ry)
  obtain⟨z,hd,xs,rel,dd⟩:=zf3 I.hok e;refine wpAny_in_heap (tupleKind_room_in1 hu) (zez I.hok eb) hd dd ?_;have q:=(rel.val k).isSome_eq;rw[zEg] at q;rw[<-q,<-l];exact h _ (I.tok _)
theorem zo2{Q:Value->Shared->Prop}(hu:A.units+1<cLine)(I:Inv X pins σ H s)(g:zdo H a y o)(ry:RelV y u)(h:∀s',Inv X pins σ H s'->Q (.bool (!o.isSome)) s') :
  wpAny (model X.prog X.w) A (compareOp .NotIn u (.ref a)) Q E s:=by
 rcases g with⟨kvs,k,e,ey,l⟩|⟨kvs,k,b,e,ey,eb,l⟩
 ·subst ey;obtain⟨z,hd,vs,rel,dd⟩:=zf4 I.hok e;refine wpAny_notIn_of (zdK ry) hd dd.mapOf ?_;rw[<-(rel.val k).isSome_eq,<-l];exact h _ (I.tok _)
 ·subst ey;cases (show u=Value.ref b from ry)
  obtain⟨z,hd,xs,rel,dd⟩:=zf3 I.hok e;refine wpAny_notIn_heap (tupleKind_room_in1 hu) (zez I.hok eb) hd dd ?_;have q:=(rel.val k).isSome_eq;rw[zEg] at q;rw[<-q,<-l];exact h _ (I.tok _)
theorem zgG{h':Heap}{t':Nat}{ob:HO}(I:Inv X pins σ H s)(mu:Mut (H a))(hs:Heap.SameBut a s.heap h')(he:∃q,h'.get? a=some q)(new:ObjOk X.prog X.w (upd H a ob) h' a ob) :
  Inv X pins σ (upd H a ob) {s with heap:=h',toks:=t'}:=
 I.write (x:=a) (e:=a) mu (.inl rfl) (fun b q hb z=>(hs.2 b hb).trans z) he new
theorem zkO{P:Program}{w:World}{H':Hp}{h':Heap}{kvs:List (Key×V)}{vs:List (Key×Value)}(z:kvs.length<=sizeLine)(hd:(a == sysModules)=false)(rel:KV kvs vs)(dd:h'.DictOf (zaS P w) a vs) :
  ObjOk P w H' h' a (.dK kvs):=⟨z,hd,vs,rel,dd⟩
theorem zmc{H':Hp}{Q:Unit->Shared->Prop}(hu:A.units+1<cLine)(I:Inv X pins σ H s)(g:zn5 H a y v H')(ry:RelV y u)(rv:RelV v r)(h:∀s',Inv X pins σ H' s'->Q () s') :
  wpAny (model X.prog X.w) A (setItem (.ref a) u r) Q E s:=by
 rcases g with⟨kvs,k,e,ey,l,eH⟩|⟨kvs,k,b,e,ey,eb,l,eH⟩
 ·subst ey eH;obtain⟨z,hd,vs,rel,dd⟩:=zlw I.hok e;have hz:vs.length<=sizeLine:=by rw[<-rel.length];exact z
  have hl:(zbk kvs k v).length<=sizeLine:=by have:=zcD kvs k v;omega
  refine wpAny_setItem_pairs (hsz:=hz) (zdK ry) dd fun h' dd' hs=>h _ ?_;have he:∃q,h'.get? a=some q:=let ⟨q,_,_,hq,_⟩:=dd';⟨q,hq⟩;exact zgG I (by rw[e];exact True.intro) hs he (zkO hl hd (rel.put k rv) dd')
 ·subst ey eH;cases (show u=Value.ref b from ry)
  obtain⟨z,hd,xs,rel,dd⟩:=zrX I.hok e;have hz:xs.length<=sizeLine:=by rw[<-Paired.length rel];exact z
  have hl:(zbk kvs k v).length<=sizeLine:=by have:=zcD kvs k v;omega
  refine wpAny_setItem_heap (hsz:=hz) (tupleKind_room_in1 hu) (zez I.hok eb) dd fun h' dd' hs=>h _ ?_;obtain⟨q,es,ep,hq,h2,h3,h4,_,h5⟩:=dd';refine zgG I (by rw[e];exact True.intro) hs ⟨q,hq⟩ ⟨hl,hd,_,(rel.put k eb rv).keeps fun c ys ec=>?_,q,es,ep,hq,h2,h3,h4,h5⟩;rw[zae (zri ec e (fun z=>nomatch z))];exact ec
end
section
variable{X:Cx}{pins:List (Addr×Obj)}{σ:St}{H:Hp}{s:Shared}{a:Addr}{kvs:List (Key×V)}{k:Key}{u:Value}{A:Around}{E:Value->Shared->Prop}
theorem zrY{v:V}{more:List Value}{Q:Value->Shared->Prop}(I:Inv X pins σ H s)(e:H a=some (.dK kvs))(ry:RelV (kV k) u)(l:zaO kvs k=some v)(hm:more=[]\/∃x,more=[x])
  (h:∀w' s',Inv X pins σ (upd H a (.dK (zdj kvs k))) s'->RelV v w'->Q w' s'):wpAny (model X.prog X.w) A (call (.builtin "dict.pop") (.ref a::u::more)) Q E s:=by
 obtain⟨z,hd,vs,rel,dd⟩:=zlw I.hok e;obtain⟨w',hw,rw'⟩:=RelO.some_of (v:=v) (o:=valueAt vs k) (by rw[<-l];exact rel.val k);have hp:(keyPart u).isSome=true:=by
  cases k with
  | inl i=>obtain⟨t,q⟩:=(show ∃t,u=Value.int i t from ry);subst q;rfl
  | inr x=>obtain⟨t,q⟩:=(show ∃t,u=Value.str x t from ry);subst q;rfl
 have ha:argsOk "dict.pop" ⟨.ref a::u::more,[]⟩:=by
  rcases hm with q|⟨x,q⟩
  ·subst q;exact PySem.F.args_dict_pop_2 _ _
  ·subst q;exact PySem.F.args_dict_pop_3 _ _ _
 refine call_meetsIn zDr dd.typeIs PySem.F.entry_dict_pop ha (meets_dict_pop_there (zaS X.prog X.w) a (zdK ry) more hm hp)
  ⟨vs,w',dd,by rw[<-rel.length];exact z,hw,fun h' dd' hs=>h w' _ ?_ rw'⟩
 have he:∃q,h'.get? a=some q:=let ⟨q,_,_,hq,_⟩:=dd';⟨q,hq⟩;exact zgG I (by rw[e];exact True.intro) hs he (zkO (zBp (znM kvs k) z) hd (rel.drop k) dd')
theorem zqK{r:Value}{Q:Value->Shared->Prop}(I:Inv X pins σ H s)(e:H a=some (.dK kvs))(ry:RelV (kV k) u)(l:zaO kvs k=none)(h:∀s',Inv X pins σ H s'->Q r s') :
  wpAny (model X.prog X.w) A (call (.builtin "dict.pop") [.ref a,u,r]) Q E s:=by
 obtain⟨z,hd,vs,rel,dd⟩:=zlw I.hok e;have hn:valueAt vs k=none:=RelO.none_of (by rw[<-l];exact rel.val k);have hp:(keyPart u).isSome=true:=by
  cases k with
  | inl i=>obtain⟨t,q⟩:=(show ∃t,u=Value.int i t from ry);subst q;rfl
  | inr x=>obtain⟨t,q⟩:=(show ∃t,u=Value.str x t from ry);subst q;rfl
 exact call_meetsIn zDr dd.typeIs PySem.F.entry_dict_pop (PySem.F.args_dict_pop_3 _ _ _) (meets_dict_pop_default (zaS X.prog X.w) a (zdK ry) hd hp r) ⟨vs,dd,hn,h _ (I.tok _)⟩
end
def zqT(i:Expr):Prop:=∀ov iv,subscripted i false ov iv=operate [ov,iv] (getItem ov iv)
theorem zk2{prog:Program}{w:World}{A:Around}{E:Value->Shared->Prop}{s:Shared}{env:Env}{value slice:Expr}{pos:Pos}{T id:String}{Q:Value->Shared->Prop}
  (hl:typeLookup (.type T) "__getitem__" = pure (some (.builtin id))) (hs:zqT slice)
  (h:wpAny (model prog w) A (eval value env) (fun o s₁=>wpAny (model prog w) A (eval slice env) (fun i s₂=>s₂.TypeIs o T/\wpAny (model prog w) A (getItem o i) Q E s₂) E s₁) E s) :
  wpAny (model prog w) A (eval (.Subscript value slice pos) env) Q E s:=by
 refine Subscript_ (wpAny_mono h (fun o s₁ h₁=>wpAny_mono h₁ (fun i s₂ h₂=>?_) fun _ _ x=>x) fun _ _ x=>x);obtain⟨hT,h₂⟩:=h₂;unfold subscriptTail;refine wpAny_bind ?_;rw[getitemInPython_of_ne hT.not_modules];refine wpAny_bind (wpAny_specialOf hT hl ?_);have fin:wpAny (model prog w) A (subscripted slice false o i) (fun r s₃=>wpAny (model prog w) A (letTemporaryGo value o r >>= fun _=>pure r) Q E s₃) E s₂:=by
  rw[hs o i];exact wpAny_operating (wpAny_mono h₂ (fun r s₃ h₃=>wpAny_bind (wpAny_letTemporaryGo (wpAny_pure h₃))) fun _ _ x=>x)
 first
  | exact wpAny_pure (wpAny_bind fin)
  | exact wpAny_bind (wpAny_pure (wpAny_bind fin))
  | exact wpAny_bind fin
theorem zjV{X:Cx}{pins:List (Addr×Obj)}{σ:St}{H:Hp}{s:Shared}{a:Addr}{y:V}{o:Option V}(I:Inv X pins σ H s)(g:zdo H a y o):s.TypeIs (.ref a) "dict" := by
 rcases g with⟨kvs,k,e,_,_⟩|⟨kvs,k,b,e,_,_,_⟩
 ·obtain⟨_,_,vs,_,dd⟩:=zf4 I.hok e;exact dd.typeIs
 ·obtain⟨_,_,xs,_,dd⟩:=zf3 I.hok e;exact dd.typeIs
def zkZ(td ty:TE):TE:=fun σ H Q=>td σ H fun x H1=>ty σ H1 fun y H2=>∃a v,x=.ref a/\zdo H2 a y (some v)/\Q v H2
def zmC(ty td:TE):TE:=fun σ H Q=>ty σ H fun y H1=>td σ H1 fun x H2=>∃a o,x=.ref a/\zdo H2 a y o/\Q (.bl o.isSome) H2
def ziz(ty td:TE):TE:=fun σ H Q=>ty σ H fun y H1=>td σ H1 fun x H2=>∃a o,x=.ref a/\zdo H2 a y o/\Q (.bl (!o.isSome)) H2
def zmX(td ty tv:TE):TS:=fun D σ H=>tv σ H fun v H1=>td σ H1 fun x H2=>ty σ H2 fun y H3=>∃a H4,x=.ref a/\zn5 H3 a y v H4/\D.nx σ H4
section
variable{X:Cx}{o i e value:Expr}{pos pos' tpos:Pos}{td ty tv:TE}
theorem zcB(hu:X.A.units+1<cLine)(ho:PE X o td)(hi:PE X i ty)(hs:zqT i):PE X (.Subscript o i pos) (zkZ td ty):=by
 intro pins s σ H Q I h;refine zk2 PySem.F.slot_dict_getitem.lookup hs (thn (ho pins s σ H _ I h) fun u s1 ⟨x,H1,I1,rx,q1⟩=>thn (hi pins s1 σ H1 _ I1 q1) fun iv s2 ⟨y,H2,I2,ry,a,v,ex,g,q2⟩=>?_);subst ex;obtain rfl:u=Value.ref a:=rx;exact⟨zjV I2 g,zmd hu I2 g ry fun w' s3 I3 rw'=>⟨v,H2,I3,rw',q2⟩⟩
theorem ziS(hu:X.A.units+1<cLine)(hi:PE X i ty)(ho:PE X o td):PC X .In i o (zmC ty td):=by
 intro pins s σ H Q I h;refine thn (hi pins s σ H _ I h) fun iv s1 ⟨y,H1,I1,ry,q1⟩=>thn (ho pins s1 σ H1 _ I1 q1) fun u s2 ⟨x,H2,I2,rx,a,ov,ex,g,q2⟩=>?_;subst ex;obtain rfl:u=Value.ref a:=rx;exact zsl hu I2 g ry fun s3 I3=>⟨.bl ov.isSome,H2,I3,rfl,q2⟩
theorem zbY(hu:X.A.units+1<cLine)(hi:PE X i ty)(ho:PE X o td):PC X .NotIn i o (ziz ty td):=by
 intro pins s σ H Q I h;refine thn (hi pins s σ H _ I h) fun iv s1 ⟨y,H1,I1,ry,q1⟩=>thn (ho pins s1 σ H1 _ I1 q1) fun u s2 ⟨x,H2,I2,rx,a,ov,ex,g,q2⟩=>?_;subst ex;obtain rfl:u=Value.ref a:=rx;exact zo2 hu I2 g ry fun s3 I3=>⟨.bl (!ov.isSome),H2,I3,rfl,q2⟩
theorem zcA(hu:X.A.units+1<cLine)(ho:PE X o td)(hi:PE X i ty)(hv:PE X value tv)(hs:swapsWith value (some (.Subscript o i pos')) pos.line X.env=pure false) :
  PS X (.Assign [.Subscript o i pos'] value pos) (zmX td ty tv):=by
 intro pins s σ H D I h;refine wpAny_Assign_Subscript (thn (hv pins s σ H _ I h) fun r s1 ⟨v,H1,I1,rv,q1⟩=>thn (ho pins s1 σ H1 _ I1 q1) fun u s2 ⟨x,H2,I2,rx,q2⟩=>thn (hi pins s2 σ H2 _ I2 q2) fun iv s3 ⟨y,H3,I3,ry,a,H4,ex,g,q3⟩=>?_) hs;subst ex;obtain rfl:u=Value.ref a:=rx;exact zmc hu I3 g ry rv fun s4 I4=>⟨σ,H4,I4,q3⟩
end
theorem zjU{P:Program}{w:World}{H:Hp}(h:Heap)(hb:sysModules<h.objs.size):ObjOk P w H (h.push {cls:=.type "dict",data:=.dict #[]}) h.objs.size (.dK []):=
 ⟨zAx _,beq_eq_false_iff_ne.mpr (Ne.symm (zBe hb)),[],.nil,Heap.DictOf.new h⟩
theorem znL{P:Program}{w:World}{H:Hp}(h:Heap)(hb:sysModules<h.objs.size):ObjOk P w H (h.push {cls:=.type "dict",data:=.dict #[]}) h.objs.size (.dT []):=
 ⟨zAx _,beq_eq_false_iff_ne.mpr (Ne.symm (zBe hb)),[],.nil,_,#[],0,Heap.get?_push_size _ rfl,⟨rfl,rfl,rfl⟩,rfl,rfl,zCj⟩
def zmB:TE:=fun _ H Q=>∀p,H p=none->Q (.ref p) (upd H p (.dK []))
def zmA:TE:=fun _ H Q=>∀p,H p=none->Q (.ref p) (upd H p (.dT []))
section
variable{X:Cx}{pos:Pos}
theorem zhe:PE X (.Dict [] [] pos) zmB:=fun pins s σ H Q I h =>
 wpAny_Dict_empty ⟨.ref s.heap.objs.size,_,I.laid (a:=s.heap.objs.size) (o:=.dK []) (t':=s.toks) (fun _ _ q=>Heap.get?_push_of_some _ q) (zAi _) (zjU s.heap I.big),rfl,h _ (I.hok.fresh (zAi _))⟩
theorem zm7:PE X (.Dict [] [] pos) zmA:=fun pins s σ H Q I h =>
 wpAny_Dict_empty ⟨.ref s.heap.objs.size,_,I.laid (a:=s.heap.objs.size) (o:=.dT []) (t':=s.toks) (fun _ _ q=>Heap.get?_push_of_some _ q) (zAi _) (znL s.heap I.big),rfl,h _ (I.hok.fresh (zAi _))⟩
end
def zke:List (TE×TE)->St->Hp->(List (V×V)->Hp->Prop)->Prop
 | [],_,H,Q=>Q [] H
 | (tk,tv)::r,σ,H,Q=>tk σ H fun x H1=>tv σ H1 fun y H2=>zke r σ H2 fun ps H3=>Q ((x,y)::ps) H3
abbrev VV:List (V×V)->List (Value×Value)->Prop:=Paired fun p q=>RelV p.1 q.1/\RelV p.2 q.2
def PPs(X:Cx)(pos:Pos)(keys:List (Option Expr))(values:List Expr)(trs:List (TE×TE)):Prop:=
 ∀(pins:List (Addr×Obj)) (s:Shared) (σ:St) (H:Hp) (Q:List (V×V)->Hp->Prop),Inv X pins σ H s->zke trs σ H Q ->
  wpAny (model X.prog X.w) X.A (evalPairs (pairTrees keys values X.env pos)) (fun vs s'=>∃ps H',Inv X pins σ H' s'/\VV ps vs/\Q ps H') X.xe s
theorem zlb{X:Cx}{pos:Pos}:PPs X pos [] [] []:=fun pins s σ H Q I h=>pairTrees_nil_walk ⟨[],H,I,.nil,h⟩
theorem zjI{X:Cx}{pos:Pos}{k v:Expr}{ks:List (Option Expr)}{vs:List Expr}{tk tv:TE}{trs:List (TE×TE)}(hk:PE X k tk)(hv:PE X v tv)(hr:PPs X pos ks vs trs) :
  PPs X pos (some k::ks) (v::vs) ((tk,tv)::trs):=fun pins s σ H Q I h =>
 pairTrees_cons_walk (thn (hk pins s σ H _ I h) fun u s1 ⟨x,H1,I1,rx,q1⟩=>thn (hv pins s1 σ H1 _ I1 q1) fun w2 s2 ⟨y,H2,I2,ry,q2⟩ =>
  thn (hr pins s2 σ H2 _ I2 q2) fun ws s3 ⟨ps,H3,I3,rel,q3⟩=>⟨(x,y)::ps,H3,I3,.cons ⟨rx,ry⟩ rel,q3⟩)
def zev(kvs more:List (Key×V)):List (Key×V):=more.foldl (fun acc kv=>zbk acc kv.1 kv.2) kvs
theorem KV.merge:∀ {more:List (Key×V)}{rs:List (Key×Value)}{kvs:List (Key×V)}{vs:List (Key×Value)},KV more rs->KV kvs vs->KV (zev kvs more) (merged vs rs):=by
 intro more rs kvs vs r;unfold KV at r;induction r generalizing kvs vs with
 | nil=>intro q;exact q
 | @cons p q ps qs h t ih =>
  intro r0;have e:KV (zbk kvs p.1 p.2) (stored vs q.1 q.2):=by
   have:=r0.put p.1 h.2;rw[<-h.1];exact this
  exact ih e
theorem zej:∀(more kvs:List (Key×V)),(zev kvs more).length<=kvs.length+more.length
 | [],kvs=>by show kvs.length<=kvs.length+0;omega
 | p::r,kvs=>by
  have h1:=zej r (zbk kvs p.1 p.2);have h2:=zcD kvs p.1 p.2;show(zev (zbk kvs p.1 p.2) r).length<=_;rw[zAb];omega
theorem zhG{P:Program}{w:World}:∀ {kvs:List (Key×V)}{ws:List (Value×Value)},VV (kvs.map fun kv=>(kV kv.1,kv.2)) ws->∃rs,Carries (zaS P w) ws rs/\KV kvs rs
 | [],_,r=>by rw[List.map_nil] at r;cases r;exact⟨[],True.intro,.nil⟩
 | p::kvs,_,r=>by
  rw[zAz] at r;cases r with
  | @cons a b as bs h t =>
   obtain⟨rs,c,q⟩:=zhG (P:=P) (w:=w) t;obtain⟨b1,b2⟩:=b;exact⟨(p.1,b2)::rs,⟨zdK h.1,rfl,c⟩,.cons ⟨rfl,h.2⟩ q⟩
def zq2(trs:List (TE×TE)):TE:=fun σ H Q=>∀p,H p=none->zke trs σ (upd H p (.dK [])) fun ps H2=>H2 p=some (.dK [])/\∃kvs:List (Key×V),ps=kvs.map (fun kv=>(kV kv.1,kv.2))/\kvs.length<=15/\Q (.ref p) (upd H2 p (.dK (zev [] kvs)))
theorem zlg{X:Cx}{pos:Pos}{keys:List (Option Expr)}{values:List Expr}{trs:List (TE×TE)}(h:PPs X pos keys values trs)(hall:keys.all (·.isSome)=true)(hl:keys.length=values.length)(h0:keys≠[])
  (h15:keys.length<=15):PE X (.Dict keys values pos) (zq2 trs):=by
 intro pins s σ H Q I q;have hn:=I.hok.fresh (zAi s.heap.objs.size);have I1:=I.laid (a:=s.heap.objs.size) (o:=.dK []) (h':=s.heap.push {cls:=.type "dict",data:=.dict #[]}) (t':=s.toks) (fun _ _ q=>Heap.get?_push_of_some _ q) (zAi _) (zjU s.heap I.big);refine wpAny_Dict_walk (knd:=zaS X.prog X.w) hall hl h0 h15 (thn (h pins _ σ _ _ I1 (q _ hn)) fun ws s2 ⟨ps,H2,I2,rel,e,kvs,ep,lk,q2⟩=>?_);subst ep;obtain⟨rs,c,rk⟩:=zhG (P:=X.prog) (w:=X.w) rel;obtain⟨z,hd,vs0,r0,dd⟩:=zlw I2.hok e;cases r0
 refine⟨rs,c,dd,fun h' dd' hs=>⟨.ref s.heap.objs.size,_,?_,rfl,q2⟩⟩;have hz:(zev [] kvs).length<=sizeLine:=by
  have h1:=zej kvs [];rw[zCu] at h1;rw[sizeLine_eq];omega
 have he:∃q,h'.get? s.heap.objs.size=some q:=let ⟨q,_,_,hq,_⟩:=dd';⟨q,hq⟩;exact zgG I2 (by rw[e];exact True.intro) hs he (zkO hz hd (rk.merge .nil) dd')
structure M1(X:Cx)(o:Expr)(m:Str)(apos:Pos)(e:Expr)(cpos:Pos):Prop where
 base:attributeBase o m X.env (eval o X.env)=eval o X.env
 few:((backTo cpos (starEach [e] X.env)).all (fun x=>!x.1)&&(backToKw cpos (keywordEach [] X.env)).all (fun x=>x.1.isSome)
  && decide (([e]:List Expr).length+([]:List Keyword).length+(if ([]:List Keyword).isEmpty then 0 else 1)<30))=true
 line:(apos.endLine == cpos.line)=true
 trees:backTo cpos (starEach [e] X.env)=[(false,eval e X.env)]
structure M2(X:Cx)(o:Expr)(m:Str)(apos:Pos)(e f:Expr)(cpos:Pos):Prop where
 base:attributeBase o m X.env (eval o X.env)=eval o X.env
 few:((backTo cpos (starEach [e,f] X.env)).all (fun x=>!x.1)&&(backToKw cpos (keywordEach [] X.env)).all (fun x=>x.1.isSome)
  && decide (([e,f]:List Expr).length+([]:List Keyword).length+(if ([]:List Keyword).isEmpty then 0 else 1)<30))=true
 line:(apos.endLine == cpos.line)=true
 trees:backTo cpos (starEach [e,f] X.env)=[(false,eval e X.env),(false,eval f X.env)]
def IsD(H:Hp)(a:Addr):Prop:=(∃kvs,Rd H a (.dK kvs))\/∃kvs,Rd H a (.dT kvs)
theorem zkH{X:Cx}{pins:List (Addr×Obj)}{σ:St}{H:Hp}{s:Shared}{a:Addr}(I:Inv X pins σ H s)(d:IsD H a) :
  s.TypeIs (.ref a) "dict" /\ (∀b,Value.ref a=.ref b->∃ob,s.heap.get? b=some ob/\ob.dict=none)/\(a == sysModules)=false:=by
 rcases d with⟨kvs,e⟩|⟨kvs,e⟩
 ·obtain⟨_,hd,vs,_,dd⟩:=zf4 I.hok e;refine⟨dd.typeIs,fun b q=>?_,hd⟩;cases q
  obtain⟨ob,_,_,h1,h2,_⟩:=dd;exact⟨ob,h1,h2.2.1⟩
 ·obtain⟨_,hd,xs,_,dd⟩:=zf3 I.hok e;refine⟨dd.typeIs,fun b q=>?_,hd⟩;cases q
  obtain⟨ob,_,_,h1,h2,_⟩:=dd;exact⟨ob,h1,h2.2.1⟩
section
variable{X:Cx}{pins:List (Addr×Obj)}{σ:St}{H:Hp}{s:Shared}{a:Addr}{y d:V}{u r:Value}{o:Option V}{A:Around}{E:Value->Shared->Prop}
theorem zqM{Q:Value->Shared->Prop}(hu:A.units+1<cLine)(I:Inv X pins σ H s)(g:zdo H a y o)(ry:RelV y u)(h:∀w' s',Inv X pins σ H s'->RelV (o.getD .non) w'->Q w' s') :
  wpAny (model X.prog X.w) A (call (.builtin "dict.get") [.ref a,u]) Q E s:=by
 rcases g with⟨kvs,k,e,ey,l⟩|⟨kvs,k,b,e,ey,eb,l⟩
 ·subst ey;obtain⟨z,hd,vs,rel,dd⟩:=zf4 I.hok e;refine call_meetsIn zCi dd.typeIs zCx (PySem.F.args_dict_get_2 _ _) (meets_dict_get (zaS X.prog X.w) a (zdK ry) hd) ⟨_,dd.mapOf,h _ _ (I.tok _) ?_⟩;rw[l];exact(rel.val k).getD rfl
 ·subst ey;cases (show u=Value.ref b from ry)
  obtain⟨z,hd,xs,rel,dd⟩:=zf3 I.hok e;refine call_meetsIn zCi dd.typeIs zCx (PySem.F.args_dict_get_2 _ _) (meetsH_dict_get (tupleKind (zaS X.prog X.w)) a b hd) ⟨tupleKind_room_in1 hu,k,xs,zez I.hok eb,dd,h _ _ (I.tok _) ?_⟩;rw[l];exact(rel.val k).getD rfl
theorem zqL{Q:Value->Shared->Prop}(hu:A.units+1<cLine)(I:Inv X pins σ H s)(g:zdo H a y o)(ry:RelV y u)(rd:RelV d r)(h:∀w' s',Inv X pins σ H s'->RelV (o.getD d) w'->Q w' s') :
  wpAny (model X.prog X.w) A (call (.builtin "dict.get") [.ref a,u,r]) Q E s:=by
 rcases g with⟨kvs,k,e,ey,l⟩|⟨kvs,k,b,e,ey,eb,l⟩
 ·subst ey;obtain⟨z,hd,vs,rel,dd⟩:=zf4 I.hok e;refine call_meetsIn zCi dd.typeIs zCx (PySem.F.args_dict_get_3 _ _ _) (meets_dict_get_default (zaS X.prog X.w) a (zdK ry) hd r) ⟨_,dd.mapOf,h _ _ (I.tok _) ?_⟩;rw[l];exact(rel.val k).getD rd
 ·subst ey;cases (show u=Value.ref b from ry)
  obtain⟨z,hd,xs,rel,dd⟩:=zf3 I.hok e;refine call_meetsIn zCi dd.typeIs zCx (PySem.F.args_dict_get_3 _ _ _) (meetsH_dict_get_default (tupleKind (zaS X.prog X.w)) a b hd r) ⟨tupleKind_room_in1 hu,k,xs,zez I.hok eb,dd,h _ _ (I.tok _) ?_⟩;rw[l];exact(rel.val k).getD rd
end
def zmE(td ty:TE):TE:=fun σ H Q=>td σ H fun x H1=>∃a,x=.ref a/\IsD H1 a/\ty σ H1 fun y H2=>∃o,zdo H2 a y o/\Q (o.getD .non) H2
def zmD(td ty tx:TE):TE:=fun σ H Q=>td σ H fun x H1=>∃a,x=.ref a/\IsD H1 a/\ty σ H1 fun y H2=>tx σ H2 fun z H3=>∃o,zdo H3 a y o/\Q (o.getD z) H3
def zmz(td ty tx:TE):TE:=fun σ H Q=>td σ H fun x H1=>∃a,x=.ref a/\IsD H1 a/\ty σ H1 fun y H2=>tx σ H2 fun z H3=>∃kvs k,H3 a=some (.dK kvs)/\y=kV k /\
 (∀v,zaO kvs k=some v->Q v (upd H3 a (.dK (zdj kvs k))))/\(zaO kvs k=none->Q z H3)
section
variable{X:Cx}{o e f:Expr}{apos cpos:Pos}{td ty tx:TE}
theorem zjL(hu:X.A.units+1<cLine)(ho:PE X o td)(he:PE X e ty)(m:M1 X o "get" apos e cpos):PE X (.Call (.Attribute o "get" apos) [e] [] cpos) (zmE td ty):=by
 intro pins s σ H Q I h;refine wpAny_Call_method m.base m.few m.line zDk zCi PySem.F.type_dict_get (thn (ho pins s σ H _ I h) fun u s1 ⟨x,H1,I1,rx,a,ex,d,q1⟩=>?_);subst ex;obtain rfl:u=Value.ref a:=rx;obtain⟨t1,t2,_⟩:=zkH I1 d;refine⟨t1,t2,?_⟩;rw[m.trees];refine Calls.callWith_builtin rfl (Calls.evalArgs_plain (Calls.spliced_cons (thn (he pins s1 σ H1 _ I1 q1) fun iv s2 ⟨y,H2,I2,ry,ov,g,q2⟩=>Calls.spliced_nil ?_)));exact zqM hu I2 g ry fun w' s3 I3 rw'=>⟨_,H2,I3,rw',q2⟩
theorem zjK(hu:X.A.units+1<cLine)(ho:PE X o td)(he:PE X e ty)(hf:PE X f tx)(m:M2 X o "get" apos e f cpos):PE X (.Call (.Attribute o "get" apos) [e,f] [] cpos) (zmD td ty tx):=by
 intro pins s σ H Q I h;refine wpAny_Call_method m.base m.few m.line zDk zCi PySem.F.type_dict_get (thn (ho pins s σ H _ I h) fun u s1 ⟨x,H1,I1,rx,a,ex,d,q1⟩=>?_);subst ex;obtain rfl:u=Value.ref a:=rx;obtain⟨t1,t2,_⟩:=zkH I1 d;refine⟨t1,t2,?_⟩;rw[m.trees];refine Calls.callWith_builtin rfl (Calls.evalArgs_plain (Calls.spliced_cons (thn (he pins s1 σ H1 _ I1 q1) fun iv s2 ⟨y,H2,I2,ry,q2⟩ =>
  Calls.spliced_cons (thn (hf pins s2 σ H2 _ I2 q2) fun fv s3 ⟨z,H3,I3,rz,ov,g,q3⟩=>Calls.spliced_nil ?_))))
 exact zqL hu I3 g ry rz fun w' s4 I4 rw'=>⟨_,H3,I4,rw',q3⟩
theorem zm6(ho:PE X o td)(he:PE X e ty)(hf:PE X f tx)(m:M2 X o "pop" apos e f cpos):PE X (.Call (.Attribute o "pop" apos) [e,f] [] cpos) (zmz td ty tx):=by
 intro pins s σ H Q I h;refine wpAny_Call_method m.base m.few m.line zDk zDr PySem.F.type_dict_pop (thn (ho pins s σ H _ I h) fun u s1 ⟨x,H1,I1,rx,a,ex,d,q1⟩=>?_);subst ex;obtain rfl:u=Value.ref a:=rx;obtain⟨t1,t2,_⟩:=zkH I1 d;refine⟨t1,t2,?_⟩;rw[m.trees];refine Calls.callWith_builtin rfl (Calls.evalArgs_plain (Calls.spliced_cons (thn (he pins s1 σ H1 _ I1 q1) fun iv s2 ⟨y,H2,I2,ry,q2⟩ =>
  Calls.spliced_cons (thn (hf pins s2 σ H2 _ I2 q2) fun fv s3 ⟨z,H3,I3,rz,kvs,k,ea,ey,q3,q4⟩=>Calls.spliced_nil ?_))))
 subst ey;cases l:zaO kvs k with
 | some v=>exact zrY I3 ea ry l (.inr ⟨fv,rfl⟩) fun w' s4 I4 rw'=>⟨v,_,I4,rw',q3 v l⟩
 | none=>exact zqK I3 ea ry l fun s4 I4=>⟨z,H3,I4,rz,q4 l⟩
end
section
variable{X:Cx}{pins:List (Addr×Obj)}{σ:St}{H:Hp}{s:Shared}{a:Addr}{kvs:List (Key×V)}{A:Around}{E:Value->Shared->Prop}
end
section
variable{X:Cx}{pins:List (Addr×Obj)}{σ:St}{H:Hp}{s:Shared}{a:Addr}{y:V}{u:Value}{A:Around}{E:Value->Shared->Prop}
end
end L2
namespace L2
open PySem PySem.Spec PyProof.Rows
section
variable{prog:Program}{w:World}{A:Around}{E:Value->Shared->Prop}
end
section
variable{X:Cx}
end
end L2
namespace L2
open PySem PySem.Spec PyProof.Rows
section
variable{X:Cx}{pins:List (Addr×Obj)}{σ:St}{H:Hp}{s:Shared}{h':Heap}
theorem Inv.turnedNew{t':Nat}{ch:List Addr}{T:Addr}{ob:HO}(I:Inv X pins σ H s)(k:∀b o,b∉ch->s.heap.get? b=some o->h'.get? b=some o)(hf:∀b∈ch,zff X pins H b)(hT:s.heap.objs.size<=T)
  (new:ObjOk X.prog X.w (upd H T ob) h' T ob):Inv X pins σ (upd H T ob) {s with heap:=h',toks:=t'}:=by
 have hn:H T=none:=I.hok.fresh hT;have nit:∀b u,H b=some u->b∉ch:=fun b u e z=>by
  have q:=(hf b z).1;rw[q] at e;cases e
 refine I.step (g':=s.gens) (d':=s.drawn) (ch:=ch) (fun b hb=>⟨(hf b hb).2.2.2.1,(hf b hb).2.1,(hf b hb).2.2.2.2.1,(hf b hb).2.2.2.2.2⟩) (fun b o _ _ hc e _=>k b o hc e) (fun b o _ _ hc e _=>⟨o.slots,k b o hc e⟩)
  (fun b o _ e n=>?_) (fun b o hc e=>⟨o,k b o hc e⟩) (fun b xs e=>?_) (fun b o u e=>?_) (fun b ps e=>⟨#[],?_⟩) (fun m hm=>?_) (fun b u e=>?_) I.bare
 ·rw[zae (zBe (zAq (Heap.lt_size e) hT))];exact n
 ·rw[zae (zaf e hn)];exact e
 ·rw[zae (zaf e hn)];exact e
 ·rw[zae (zaf e hn),e];simp
 ·obtain⟨o,es,ep,ho,r⟩:=hm;exact⟨o,es,ep,k _ o (fun z=>(hf _ z).2.1 rfl) ho,r⟩
 ·by_cases hb:b=T
  ·subst hb;rw[upd_same] at e;cases e
   exact new
  ·rw[zae hb] at e;refine(I.hok b u e).stay (fun c v hc q=>k c v ?_ q) (fun c q=>by rw[zae (zaf q hn)];exact q) fun c xs q=>by rw[zae (zaf q hn)];exact q
   rcases hc with z | z
   ·rw[z];exact nit b u e
   ·exact nit c _ z
theorem Inv.lock{d:Addr}{u:HO}(I:Inv X pins σ H s)(h:H d=some u)(mu:Mut (some u)):∃od,Inv X pins σ (upd H d (.frz od u)) s:=by
 have x:=I.hok d u h;have ex:∃od,s.heap.get? d=some od:=by
  cases u with
  | lst xs=>obtain⟨_,_,_,_,e⟩:=x;exact⟨_,e⟩
  | dK kvs=>obtain⟨_,_,_,_,o,_,_,e,_⟩:=x;exact⟨o,e⟩
  | dT kvs=>obtain⟨_,_,_,_,o,_,_,e,_⟩:=x;exact⟨o,e⟩
  | set S n=>obtain⟨o,_,_,_,e,_⟩:=x;exact⟨o,e⟩
  | ins C dx fs=>obtain⟨_,_,_,e,_⟩:=x;exact⟨_,e⟩
  | ext φ=>obtain⟨_,⟨_,e⟩,_⟩:=x;exact⟨_,e⟩
  | _=>exact False.elim mu
 obtain⟨od,e⟩:=ex;have new:ObjOk X.prog X.w (upd H d (.frz od u)) s.heap d (.frz od u):=by
  refine⟨e,x.stay (fun b v _ q=>q) (fun b q=>?_) fun b xs q=>?_⟩
  ·rw[zae (fun z=>by rw[z,h] at q;cases q;exact mu)];exact q
  ·rw[zae (fun z=>by rw[z,h] at q;cases q;exact mu)];exact q
 exact⟨od,I.write (x:=d) (e:=d) (t':=s.toks) (h':=s.heap) (by rw[h];exact mu) (.inl rfl) (fun b v _ q=>q) ⟨od,e⟩ new⟩
end
section
variable{X:Cx}
theorem zhc{tg:Expr}{pins:List (Addr×Obj)}{σ:St}{H:Hp}{s:Shared}{R:It->Hp->Prop}{J:It}{tn:Nat->Heap->Prop}{tk:Nat}(I:Inv X pins σ H s)(o:Obj)
  (T:zh0 X.prog X.w X.K tg J [s.heap.objs.size] s.heap.objs.size tn) (st:tn 0 (s.heap.push o)) (q:R J H):PIE X pins σ tg R (.ref s.heap.objs.size) {s with heap:=s.heap.push o,toks:=tk}:=by
 refine⟨s.heap.objs.size,[s.heap.objs.size],tn,J,H,rfl,I.kept fun b ob e=>Heap.get?_push_of_some _ e,T,st,fun b hb=>?_,q⟩;have e:b=s.heap.objs.size:=by simpa using hb
 subst e;exact I.fpOk (zAi _) (I.hok.fresh (zAi _))
end
section
variable{X:Cx}{tg:Expr}
end
section
variable{X:Cx}{tg:Expr}
end
def Its(x:Str):It:=⟨fun i _=>i<x.cps.size,fun i H v H'=>H'=H/\∃c,x.cps[i]?=some c/\v=.str ⟨#[c]⟩,fun i _=>x.cps.size<=i⟩
theorem zjk{P:Program}{w:World}{K:PySem.W.Frag}{tg:Expr}(it:Addr)(x:Str)(t:Tok)(ty:String)(hty:ty = "str_ascii_iterator" \/ ty = "str_iterator") :
  zh0 P w K tg (Its x) [it] it (fun i h=>h.IsStrIter it ty x t i) where
 mem:=by simp
 obj:=fun i h st b hb=>by
  have e:b=it:=by simpa using hb
  subst e;obtain⟨o,e,c,d⟩:=st;exact⟨o,e,fun v z=>by rw[d] at z;cases z⟩
 keep:=fun i h h' st k=>let ⟨o,ho,r⟩:=st;⟨o,k it (by simp) o ho,r⟩
 item:=by
  intro X hP hw hK hc i pins s σ H E I hf st hg;subst hP hw hK;obtain⟨f0,f1,f2,f3,f4,f5⟩:=hf it (by simp);have W:Walks X.prog X.w X.A it [it] [it] x.cps.size (SignAt x) (fun i h=>h.IsStrIter it ty x t i):=by
   rcases hty with e | e
   ·rw[e];exact Walks.strAscii (I.ok.hd hc) it x t
   ·rw[e];exact Walks.strWide (I.ok.hd hc) it x t
  have hno:["enumerate", "zip", "dict_itemiterator", "dict_reverseitemiterator", "odict_iterator", "itertools.zip_longest", "itertools.pairwise"].contains ty=false:=by
   rcases hty with e | e
   ·rw[e];decide
   ·rw[e];decide
  refine W.item i s _ _ hg st fun v h' tk hv st' kk=>?_;obtain⟨c,u,hcx,rfl⟩:=hv;have I1:Inv X pins σ H {s with heap:=h',toks:=tk}:=I.turned (fun b o hb e=>kk b o (by simpa using hb) e) f0 f1 f3 f4 f5;obtain⟨oi,e,cc,dd⟩:=id st';exact⟨_,rfl,zht (s:={s with heap:=h',toks:=tk}) e cc dd hno ⟨.str ⟨#[c]⟩,H,I1,⟨u,rfl⟩,⟨rfl,c,hcx,rfl⟩,st',fun b hb=>(hf b hb).1⟩⟩
 done:=by
  intro X hP hw hK hc i pins s σ H E I hf st hg;subst hP hw hK;obtain⟨f0,f1,f2,f3,f4,f5⟩:=hf it (by simp);have hx:x.cps[i]?=none:=Array.getElem?_eq_none hg;rcases hty with e | e
  ·rw[e] at st;exact wpAny_pyNext_ascii_end (I.ok.hd hc) st hx fun h' eb=>⟨rfl,I.turned (t':=s.toks) (fun b o hb e=>eb b o hb e) f0 f1 f3 f4 f5⟩
  ·rw[e] at st;exact wpAny_pyNext_wide_end (I.ok.hd hc) st hx fun h' eb=>⟨rfl,I.turned (t':=s.toks) (fun b o hb e=>eb b o hb e) f0 f1 f3 f4 f5⟩
 self:=fun A i s Q E st h=>by
  rcases hty with e | e
  ·rw[e] at st;exact wpAny_pyIter_striter_ascii st h
  ·rw[e] at st;exact wpAny_pyIter_striter_wide st h
def zsh(te:TE):TI:=fun σ H R=>te σ H fun v H1=>∃x,v=.str x/\R (Its x) H1
theorem zpY{X:Cx}{tg e:Expr}{te:TE}(he:PE X e te):PI X tg e (zsh te):=by
 intro pins s σ H R I h;refine thn (he pins s σ H _ I h) fun v s1 ⟨y,H1,I1,r1,x,ex,q⟩=>?_;subst ex;obtain⟨t,rfl⟩:=r1;cases ha:x.cps.all (· < 128)
 ·exact wpAny_pyIter_wide ha (zhc (tk:=s1.toks) I1 _ (zjk _ x t "str_iterator" (.inr rfl)) ⟨_,Heap.get?_push_size _ rfl,rfl,rfl⟩ q)
 ·exact wpAny_pyIter_ascii ha (zhc (tk:=s1.toks) I1 _ (zjk _ x t "str_ascii_iterator" (.inl rfl)) ⟨_,Heap.get?_push_size _ rfl,rfl,rfl⟩ q)
section
variable{prog:Program}{w:World}{A:Around}{E:Value->Shared->Prop}{s:Shared}
theorem zfB{d:Addr}{o:Obj}{es:Array DictEntry}{ep:Nat}{Q:Value->Shared->Prop}(hd:(d == sysModules)=false)(ho:s.heap.get? d=some o)(hc:o.ExactDict)(hdat:o.data=.dict es ep)
  (hQ:Q (.ref s.heap.objs.size) {s with heap:=s.heap.push {cls:=.type "dict_keyiterator",data:=.fields #[.ref d,.int 0 0,.int es.size 0,.int ep 0]}}) :
  wpAny (model prog w) A (pyIter (.ref d)) Q E s:=by
 have hT:s.TypeIs (.ref d) "dict" := ⟨o,ho,hc.1⟩;refine wpAny_pyIter_slot hT F.slot_dict_iter (wpAny_call_entry F.slot_dict_iter hT F.entry_dict_iter ?_ (F.args_dict_iter_1 _));unfold Builtin.«dict.__iter__»;refine wpAny_bind ?_;unfold Builtin.Dict.dictSlotNone;refine wpAny_bind (wpAny_notOrdered_dict hT ?_);show wpAny _ _ (pure (Value.ref d)) _ _ s;refine wpAny_pure ?_;show wpAny _ _ (Builtin.Dict.showsAll d >>= _) _ _ s;unfold Builtin.Dict.showsAll;rw[if_neg (by rw[hd];exact zAc)];refine wpAny_bind (wpAny_pure ?_);refine wpAny_bind (wpAny_dictEntries ho hdat ?_);refine wpAny_bind (wpAny_dictEpoch ho hdat ?_);refine wpAny_bind (wpAny_newObj_type (wpAny_pure ⟨_,rfl, "dict_keyiterator",_,⟨_,Heap.get?_push_size _ rfl,rfl⟩,F.slot_dict_keyiterator_next.lookup,?_⟩));simpa[rawInt] using hQ
theorem zhX{it d:Addr}{i n ep:Nat}{od:Obj}{es:Array DictEntry}{en:DictEntry}{Q:Option Value->Shared->Prop}(hit:s.heap.IsKeyIter it d i n ep)(hod:s.heap.get? d=some od)(hdd:od.data=.dict es ep)
  (hsz:es.size=n) (hx:es[i]?=some en) (hQ:∀h',h'.IsKeyIter it d (i+1) n ep->Heap.SameBut it s.heap h'->Q (some en.key) {s with heap:=h'}):wpAny (model prog w) A (pyNext (.ref it)) Q E s:=by
 obtain⟨o,ho,hc,hd⟩:=id hit;unfold pyNext;refine wpAny_bind (wpAny_attempt (wpAny_callSpecial?_slot (name:=Str.ofString "__next__") hit.typeIs F.slot_dict_keyiterator_next
  (wpAny_call_entry F.slot_dict_keyiterator_next hit.typeIs F.entry_dict_keyiterator_next ?_ (F.args_dict_keyiterator_next_1 _))))
 refine wpAny_bind (wpAny_pure ?_);refine wpAny_bind ?_;refine wpAny_bind ?_
 first | refine wpAny_bind (wpAny_typeNameOfWhole_keyiter hit.typeIs (wpAny_pure ?_)) | refine wpAny_bind (wpAny_typeNameOf_keyiter hit.typeIs (wpAny_pure ?_))
 refine wpAny_bind (wpAny_fieldsOf ho hd ?_);have hown:Builtin.Dict_items.ownsTuple "dict_keyiterator" = false:=by decide
 simp only[hown,zCw,if_false];show wpAny _ _ (if (Value.ref d == Value.none)=true then _ else _) _ _ s;rw[if_neg (show¬((Value.ref d == Value.none)=true) from zAc)];refine wpAny_bind (wpAny_pure ?_);refine wpAny_bind (wpAny_dictEntries hod hdd ?_);rw[if_neg (by rw[hsz];simp)];refine wpAny_bind (wpAny_pure ?_);refine wpAny_bind (wpAny_dictEpoch hod hdd ?_);rw[if_neg (by simp)];refine wpAny_pure ?_;obtain⟨hlt',hen⟩:=Array.getElem?_eq_some_iff.mp hx;simp only[show¬((i:Int)<0) from by omega,if_false,zBu,Array.getElem?_eq_getElem hlt'];refine wpAny_bind ?_
 first | refine wpAny_bind (wpAny_typeNameOfWhole_keyiter hit.typeIs (wpAny_pure ?_)) | refine wpAny_bind (wpAny_typeNameOf_keyiter hit.typeIs (wpAny_pure ?_))
 refine wpAny_bind (wpAny_isOneOf_keyiter hit.typeIs ?_);show wpAny _ _ (setField (.ref it) 1 (rawInt ((i:Int)+1)) >>= _) _ _ s;refine wpAny_bind (wpAny_setField ho hd (by simp) ?_);have hit':(s.heap.update it (Obj.mapFields (·.setIfInBounds 1 (rawInt ((i:Int)+1))))).IsKeyIter it d (i+1) n ep:=
  ⟨_,Heap.get?_update_self _ ho (Obj.isFreed_of_fields (Obj.data_mapFields hd _)),(Obj.cls_mapFields ..).trans hc,by rw[Obj.data_mapFields hd];simp[rawInt]⟩
 refine wpAny_bind (wpAny_holding ?_);refine wpAny_bind (wpAny_isOneOf_keyiter (s:={s with heap:=s.heap.update it (Obj.mapFields (·.setIfInBounds 1 (rawInt ((i:Int)+1))))}) hit'.typeIs ?_);show wpAny _ _ (pure es[i].key) _ _ _;rw[hen];exact wpAny_pure (wpAny_pure ⟨_,rfl,wpAny_pure (hQ _ hit' (Heap.SameBut.update ..))⟩)
theorem zc3{it d:Addr}{i n ep:Nat}{od:Obj}{es:Array DictEntry}{Q:Option Value->Shared->Prop}(hh:A.handled=none)(hit:s.heap.IsKeyIter it d i n ep)(hod:s.heap.get? d=some od)(hdd:od.data=.dict es ep)
  (hsz:es.size=n) (hge:n<=i) (hQ:∀h',Heap.ExtBut it s.heap h'->Q none {s with heap:=h'}):wpAny (model prog w) A (pyNext (.ref it)) Q E s:=by
 obtain⟨o,ho,hc,hd⟩:=id hit;unfold pyNext;refine wpAny_bind (wpAny_attempt (wpAny_callSpecial?_slot (name:=Str.ofString "__next__") hit.typeIs F.slot_dict_keyiterator_next
  (wpAny_call_entry F.slot_dict_keyiterator_next hit.typeIs F.entry_dict_keyiterator_next ?_ (F.args_dict_keyiterator_next_1 _))))
 refine wpAny_bind (wpAny_pure ?_);refine wpAny_bind ?_;refine wpAny_bind ?_
 first | refine wpAny_bind (wpAny_typeNameOfWhole_keyiter hit.typeIs (wpAny_pure ?_)) | refine wpAny_bind (wpAny_typeNameOf_keyiter hit.typeIs (wpAny_pure ?_))
 refine wpAny_bind (wpAny_fieldsOf ho hd ?_);have hown:Builtin.Dict_items.ownsTuple "dict_keyiterator" = false:=by decide
 simp only[hown,zCw,if_false];show wpAny _ _ (if (Value.ref d == Value.none)=true then _ else _) _ _ s;rw[if_neg (show¬((Value.ref d == Value.none)=true) from zAc)];refine wpAny_bind (wpAny_pure ?_);refine wpAny_bind (wpAny_dictEntries hod hdd ?_);rw[if_neg (by rw[hsz];simp)];refine wpAny_bind (wpAny_pure ?_);refine wpAny_bind (wpAny_dictEpoch hod hdd ?_);rw[if_neg (by simp)];refine wpAny_pure ?_;have hge':es.size<=i:=by rw[hsz];exact hge
 simp only[show¬((i:Int)<0) from by omega,if_false,zBu,Array.getElem?_eq_none hge'];refine wpAny_bind ?_
 first | refine wpAny_bind (wpAny_typeNameOfWhole_keyiter hit.typeIs (wpAny_pure ?_)) | refine wpAny_bind (wpAny_typeNameOf_keyiter hit.typeIs (wpAny_pure ?_))
 show wpAny _ _ (setField (.ref it) 0 .none >>= _) _ _ s;refine wpAny_bind (wpAny_setField ho hd (by simp) ?_);show wpAny _ _ (newExc (.type "StopIteration") [] >>= _) _ _ _;refine wpAny_bind ?_;simp only[newExc,newTuple];refine wpAny_bind (wpAny_newObj_type ?_ (by size_fits));refine wpAny_bind (m:=firstArgMember _ _) (wpAny_of_eq (a:=Value.none) (by first | rfl|(simp only[firstArgMember];rfl)) ?_);refine wpAny_newObj_type ?_ (by size_fits);simp only[raiseNew];refine wpAny_bind (wpAny_handled ?_);rw[show A.in1.handled=none from hh];refine wpAny_bind (wpAny_pure (wpAny_throw ?_));refine wpAny_bind (wpAny_isInstance (T:="StopIteration") (b:=true) ⟨_,Heap.get?_push_size _ rfl,rfl⟩ isSubtype_stop ?_);exact wpAny_pure (hQ _ (((Heap.SameBut.update ..).extBut.push _).push _))
end
theorem znq{κ:Type}{kvs:List (κ×V)}{vs:List (κ×Value)}(h:KV kvs vs):∀ {i:Nat}{k:κ}{v:V},kvs[i]?=some (k,v)->∃u,vs[i]?=some (k,u)/\RelV v u:=by
 unfold KV at h;induction h with
 | nil=>intro i k v e;simp at e
 | @cons a b l₁ l₂ r t ih =>
  intro i k v e;cases i with
  | zero =>
   simp only[zCv,zEf] at e;subst e;refine⟨b.2,?_,r.2⟩;simp only[zCv];exact congrArg some (Prod.ext r.1.symm rfl)
  | succ j =>
   simp only[zDm] at e ⊢;exact ih e
theorem zkx{α β:Type}{G:α->β->Prop}{l₁:List α}{l₂:List β}(h:Paired G l₁ l₂):∀ {i:Nat}{a:α},l₁[i]?=some a->∃b,l₂[i]?=some b/\G a b:=by
 induction h with
 | nil=>intro i a e;simp at e
 | @cons a b l₁ l₂ r t ih =>
  intro i a' e;cases i with
  | zero =>
   simp only[zCv,zEf] at e;subst e;exact⟨b,rfl,r⟩
  | succ j =>
   simp only[zDm] at e ⊢;exact ih e
theorem zjE{k:Key}{u:Value}(h:ze3 k u=true):RelV (kV k) u:=by
 rcases za6 h with⟨i,t,rfl,rfl⟩|⟨x,t,rfl,rfl⟩
 ·exact⟨t,rfl⟩
 ·exact⟨t,rfl⟩
section
variable{X:Cx}{pins:List (Addr×Obj)}{σ:St}{H:Hp}{s:Shared}{d:Addr}{o:Obj}
theorem Inv.frzK{kvs:List (Key×V)}(I:Inv X pins σ H s)(h:H d=some (.frz o (.dK kvs))) :
  (d == sysModules)=false/\s.heap.get? d=some o/\o.ExactDict/\∃(es:Array DictEntry) (ep:Nat) (vs:List (Key×Value)),o.data=.dict es ep/\es.size=kvs.length/\KV kvs vs/\s.heap.DictAt (zaS X.prog X.w) d vs ep:=by
 obtain⟨hd,z,hs,vs,kv,o',es,ep,ho,hx,hdt,r⟩:=I.hok d _ h;rw[hd] at ho;cases ho
 refine⟨hs,hd,hx,es,ep,vs,hdt,?_,kv,o,es,hd,hx,hdt,r⟩;have l1:=r.2.1.length;have l2:kvs.length=vs.length:=Paired.length kv;rw[Array.length_toList] at l1;omega
theorem Inv.frzT{kvs:List (List Key×V)}(I:Inv X pins σ H s)(h:H d=some (.frz o (.dT kvs))) :
  (d == sysModules)=false/\s.heap.get? d=some o/\o.ExactDict/\∃(es:Array DictEntry) (ep:Nat),o.data=.dict es ep/\es.size=kvs.length /\
   ∀(i:Nat) (k:List Key) (v:V),kvs[i]?=some (k,v)->∃(en:DictEntry) (q:Addr),es[i]?=some en/\en.key=.ref q/\H q=some (.tup (k.map kV)):=by
 obtain⟨hd,z,hs,xs,pr,o',es,ep,ho,hx,hdt,he,_⟩:=I.hok d _ h;rw[hd] at ho;cases ho
 refine⟨hs,hd,hx,es,ep,hdt,?_,fun i k v e=>?_⟩
 ·have l1:es.size=xs.length:=size_of_entries he;have l2:kvs.length=xs.length:=Paired.length pr;omega
 ·obtain⟨b,hb,e1,e2,_⟩:=zkx pr e;have q:=entry_at he i;rw[hb] at q;exact⟨_,b.2.1,q,rfl,e2⟩
end
def Itk(d:Addr)(o:Obj)(kvs:List (Key×V)):It:=
 ⟨fun i H=>H d=some (.frz o (.dK kvs))/\i<kvs.length,fun i H x H'=>H'=H/\∃k v,kvs[i]?=some (k,v)/\x=kV k,fun i H=>H d=some (.frz o (.dK kvs))/\kvs.length<=i⟩
def zqU(d:Addr)(o:Obj)(kvs:List (List Key×V)):It:=
 ⟨fun i H=>H d=some (.frz o (.dT kvs))/\i<kvs.length,fun i H x H'=>H'=H/\∃(k:List Key) (v:V) (q:Addr),kvs[i]?=some (k,v)/\x=.ref q/\H q=some (.tup (k.map kV)),fun i H=>H d=some (.frz o (.dT kvs))/\kvs.length<=i⟩
theorem zdY{o:Obj}{es es':Array DictEntry}{ep ep':Nat}(h:o.data=.dict es ep)(h':o.data=.dict es' ep'):es'=es/\ep'=ep:=by
 rw[h] at h';cases h'
 exact⟨rfl,rfl⟩
section
variable{P:Program}{w:World}{K:PySem.W.Frag}{tg:Expr}{d:Addr}{o:Obj}{es:Array DictEntry}{ep:Nat}
theorem zlH{kvs:List (Key×V)}(it:Addr)(hod:o.data=.dict es ep):zh0 P w K tg (Itk d o kvs) [it] it (fun i h=>h.IsKeyIter it d i kvs.length ep) where
 mem:=by simp
 obj:=fun i h st b hb=>by
  have e:b=it:=by simpa using hb
  subst e;obtain⟨oi,e,c,dd⟩:=st;exact⟨oi,e,fun v z=>by rw[dd] at z;cases z⟩
 keep:=fun i h h' st k=>st.at fun oi e=>k it (by simp) oi e
 item:=by
  intro X hP hw hK hc i pins s σ H E I hf st hg;subst hP hw hK;obtain⟨hd,hi⟩:=hg;obtain⟨f0,f1,f2,f3,f4,f5⟩:=hf it (by simp);obtain⟨hs,hgd,hx,es',ep',vs,hdt,hsz,kv,hm⟩:=I.frzK hd;obtain⟨rfl,rfl⟩:=zdY hod hdt;obtain⟨⟨k,v⟩,hkv⟩:∃p,kvs[i]?=some p:=⟨kvs[i],zAy hi⟩;obtain⟨u,hu,ru⟩:=znq kv hkv;have hl:kvs.length=vs.length:=Paired.length kv;rw[hl] at st;refine wpAny_pyNext_dict_item st hm hu fun key h' hkey st' sb=>?_;have I1:Inv X pins σ H {s with heap:=h'}:=I.turned (t':=s.toks) (fun b ob hb e=>(sb.2 b hb).trans e) f0 f1 f3 f4 f5;obtain⟨oi,e,c,dd⟩:=id st';refine⟨key,rfl,zht (s:={s with heap:=h'}) e c dd (by decide) ⟨kV k,H,I1,zjE (show ze3 k key=true from hkey),⟨rfl,k,v,hkv,rfl⟩,?_,fun b hb=>(hf b hb).1⟩⟩;show h'.IsKeyIter it d (i+1) kvs.length _;rw[hl];exact st'
 done:=by
  intro X hP hw hK hc i pins s σ H E I hf st hg;subst hP hw hK;obtain⟨hd,hi⟩:=hg;obtain⟨f0,f1,f2,f3,f4,f5⟩:=hf it (by simp);obtain⟨hs,hgd,hx,es',ep',vs,hdt,hsz,kv,hm⟩:=I.frzK hd;obtain⟨rfl,rfl⟩:=zdY hod hdt;exact zc3 (I.ok.hd hc) st hgd hdt hsz hi fun h' eb=>⟨rfl,I.turned (t':=s.toks) (fun b ob hb e=>eb b ob hb e) f0 f1 f3 f4 f5⟩
 self:=fun A i s Q E st h=>wpAny_pyIter_keyiter st h
theorem zkd{kvs:List (List Key×V)}(it:Addr)(hod:o.data=.dict es ep):zh0 P w K tg (zqU d o kvs) [it] it (fun i h=>h.IsKeyIter it d i kvs.length ep) where
 mem:=by simp
 obj:=fun i h st b hb=>by
  have e:b=it:=by simpa using hb
  subst e;obtain⟨oi,e,c,dd⟩:=st;exact⟨oi,e,fun v z=>by rw[dd] at z;cases z⟩
 keep:=fun i h h' st k=>st.at fun oi e=>k it (by simp) oi e
 item:=by
  intro X hP hw hK hc i pins s σ H E I hf st hg;subst hP hw hK;obtain⟨hd,hi⟩:=hg;obtain⟨f0,f1,f2,f3,f4,f5⟩:=hf it (by simp);obtain⟨hs,hgd,hx,es',ep',hdt,hsz,ent⟩:=I.frzT hd;obtain⟨rfl,rfl⟩:=zdY hod hdt;obtain⟨⟨k,v⟩,hkv⟩:∃p,kvs[i]?=some p:=⟨kvs[i],zAy hi⟩;obtain⟨en,q,hen,hkey,hq⟩:=ent i k v hkv;refine zhX st hgd hdt hsz hen fun h' st' sb=>?_;have I1:Inv X pins σ H {s with heap:=h'}:=I.turned (t':=s.toks) (fun b ob hb e=>(sb.2 b hb).trans e) f0 f1 f3 f4 f5;obtain⟨oi,e,c,dd⟩:=id st';exact⟨en.key,rfl,zht (s:={s with heap:=h'}) e c dd (by decide) ⟨.ref q,H,I1,hkey,⟨rfl,k,v,q,hkv,rfl,hq⟩,st',fun b hb=>(hf b hb).1⟩⟩
 done:=by
  intro X hP hw hK hc i pins s σ H E I hf st hg;subst hP hw hK;obtain⟨hd,hi⟩:=hg;obtain⟨f0,f1,f2,f3,f4,f5⟩:=hf it (by simp);obtain⟨hs,hgd,hx,es',ep',hdt,hsz,ent⟩:=I.frzT hd;obtain⟨rfl,rfl⟩:=zdY hod hdt;exact zc3 (I.ok.hd hc) st hgd hdt hsz hi fun h' eb=>⟨rfl,I.turned (t':=s.toks) (fun b ob hb e=>eb b ob hb e) f0 f1 f3 f4 f5⟩
 self:=fun A i s Q E st h=>by
  refine wpAny_pyIter_slot st.typeIs F.slot_dict_keyiterator_iter (wpAny_call_entry F.slot_dict_keyiterator_iter st.typeIs F.entry_dict_keyiterator_iter ?_ (F.args_dict_keyiterator_iter_1 _));show wpAny _ _ (ret (.ref it)) _ _ s;exact wpAny_pure ⟨_,rfl, "dict_keyiterator",_,st.typeIs,F.slot_dict_keyiterator_next.lookup,h⟩
end
def zpu(td:TE):TI:=fun σ H R=>td σ H fun x H1=>∃d o,x=.ref d/\((∃kvs,H1 d=some (.frz o (.dK kvs))/\R (Itk d o kvs) H1)\/∃kvs,H1 d=some (.frz o (.dT kvs))/\R (zqU d o kvs) H1)
section
variable{X:Cx}{tg e:Expr}{td:TE}{apos cpos:Pos}
theorem zlc(he:PE X e td):PI X tg e (zpu td):=by
 intro pins s σ H R I h;refine thn (he pins s σ H _ I h) fun u s1 ⟨x,H1,I1,rx,d,o,ex,q⟩=>?_;subst ex;obtain rfl:u=Value.ref d:=rx;rcases q with⟨kvs,hd,q⟩|⟨kvs,hd,q⟩
 ·obtain⟨hs,hgd,hx,es,ep,vs,hdt,hsz,kv,hm⟩:=I1.frzK hd;refine zfB hs hgd hx hdt (zhc (tk:=s1.toks) I1 _ (zlH _ hdt) ⟨_,Heap.get?_push_size _ rfl,rfl,?_⟩ q);rw[hsz]<;>rfl
 ·obtain⟨hs,hgd,hx,es,ep,hdt,hsz,ent⟩:=I1.frzT hd;refine zfB hs hgd hx hdt (zhc (tk:=s1.toks) I1 _ (zkd _ hdt) ⟨_,Heap.get?_push_size _ rfl,rfl,?_⟩ q);rw[hsz]<;>rfl
end
def Ite(K:PySem.W.Frag)(a:Addr):It:=
 ⟨fun i H=>∃(xs:List V) (x:V),SqL K H a xs/\xs[i]?=some x,fun i H v H'=>∃T x,v=.ref T/\H T=none/\H'=upd H T (.tup [.int (i:Nat),x])/\∀xs,SqL K H a xs->xs[i]?=some x,fun i H=>∃xs:List V,SqL K H a xs/\xs.length<=i⟩
theorem zlI{P:Program}{w:World}{K:PySem.W.Frag}{elts:List Expr}{kk:Nat}{tpos:Pos}(a e it:Addr) :
  zh0 P w K (.Tuple elts kk tpos) (Ite K a) [e,it] e (fun i h=>(∃old,IsEnum h e it ((i:Nat):Int) old)/\h.IsListIter it a i/\e≠it) where
 mem:=by simp
 obj:=fun i h st b hb=>by
  obtain⟨⟨old,he⟩,⟨o,ho,hc,hd⟩,_⟩:=st;have e':b=e\/b=it:=by simpa using hb
  rcases e' with z | z
  ·rw[z];exact⟨_,he,fun v q=>nomatch q⟩
  ·rw[z];exact⟨o,ho,fun v q=>by rw[hd] at q;cases q⟩
 keep:=fun i h h' st k=>let ⟨⟨old,he⟩,hi,hne⟩:=st;⟨⟨old,k e (by simp) _ he⟩,hi.at fun o q=>k it (by simp) o q,hne⟩
 item:=by
  intro X hP hw hK hc i pins s σ H E I hf st hg;subst hP hw hK;obtain⟨⟨old,he⟩,hit,hne⟩:=st;obtain⟨xs,x,hq,hx⟩:=hg;obtain⟨its,rv,p,hz⟩:=I.list hq;obtain⟨u,hu,ru⟩:=rv.get hx;have hel:e<s.heap.objs.size:=Heap.lt_size he;have hil:it<s.heap.objs.size:=by obtain⟨_,q,_⟩:=hit;exact Heap.lt_size q
  refine wpAny_pyNext_enum_item he hit p.isList (x:=u) (by simpa using hu) hne fun h' ho hit' hT hsz hk=>?_;refine⟨_,rfl,wpAny_letOwnedTupleGo_enum (s:={s with heap:=h',toks:=s.toks+1}) ho fun h'' he' sb=>?_⟩;have hT2:h''.get? s.heap.objs.size=some {cls:=.type "tuple",data:=.seq #[.int i s.toks,u]}:=(sb.2 _ (Nat.ne_of_gt hel)).trans hT;have new:ObjOk X.prog X.w (upd H s.heap.objs.size (.tup [.int (i:Nat),x])) h'' s.heap.objs.size (.tup [.int (i:Nat),x]):=
   ⟨by show 2<=sizeLine;decide,[.int i s.toks,u],.cons ⟨_,rfl⟩ (.cons ru .nil),⟨_,hT2,rfl,_,rfl⟩⟩
  have I1:Inv X pins σ (upd H s.heap.objs.size (.tup [.int (i:Nat),x])) {s with heap:=h'',toks:=s.toks+1}:=
   I.turnedNew (ch:=[e,it]) (fun b ob hb q=>(sb.2 b (fun z=>hb (by simp[z]))).trans (hk b ob (fun z=>hb (by simp[z])) (fun z=>hb (by simp[z])) q)) hf (zAi _) new
  refine⟨.ref s.heap.objs.size,_,I1,rfl,⟨_,x,rfl,I.hok.fresh (zAi _),rfl,fun ys hy=>by rw[I.list_inj hy hq];exact hx⟩,⟨⟨u,?_⟩,hit'.at fun o q=>(sb.2 it (Ne.symm hne)).trans q,hne⟩,fun b hb=>?_⟩
  ·have e1:((i+1:Nat):Int)=(i:Int)+1:=by omega
   rw[e1];exact he'
  ·have hb':b<s.heap.objs.size:=by
    have e':b=e\/b=it:=by simpa using hb
    rcases e' with z | z
    ·rw[z];exact hel
    ·rw[z];exact hil
   rw[zae (zBe hb')];exact(hf b hb).1
 done:=by
  intro X hP hw hK hc i pins s σ H E I hf st hg;subst hP hw hK;obtain⟨⟨old,he⟩,hit,hne⟩:=st;obtain⟨xs,hq,hx⟩:=hg;obtain⟨its,rv,p,hz⟩:=I.list hq;obtain⟨f0,f1,f2,f3,f4,f5⟩:=hf it (by simp);have hl:=rv.length;exact wpAny_pyNext_enum_end (I.ok.hd hc) he hit p.isList (by simp;omega) fun h' eb=>⟨rfl,I.turned (t':=s.toks) (fun b o hb q=>eb b o hb q) f0 f1 f3 f4 f5⟩
 self:=fun A i s Q E st h=>let ⟨⟨_,he⟩,_⟩:=st;wpAny_pyIter_enum he h
def zpv(K:PySem.W.Frag)(ta:TA):TI:=fun σ H R=>ta σ H fun vs H1=>∃a xs,vs=[.ref a]/\SqL K H1 a xs/\R (Ite K a) H1
theorem zoo{X:Cx}{e:Expr}{ta:TA}{p pos tpos:Pos}{elts:List Expr}{kk:Nat}(hg:Gl X "enumerate")(hm:X.mg "enumerate" = none)(ha:PA X [e] ta)(hs:starEach [e] X.env=[(false,eval e X.env)]:=by rfl) :
  PI X (.Tuple elts kk tpos) (.Call (.Name "enumerate" p) [e] [] pos) (zpv X.K ta):=by
 intro pins s σ H R I h;refine Call_ (zey I hg hm boot_enumerate (PyProof.Rows.callWith_type1 (thn (ha pos pins s σ H _ I h) fun us s1 ⟨vs,H1,I1,r1,q1⟩=>?_) hs rfl));obtain⟨a,xs,ex,hq,q⟩:=q1;subst ex;cases r1 with
 | cons r rr =>
  cases rr
  cases r
  obtain⟨its,rv,p',hz⟩:=I1.list hq;refine call_enumerate_list p'.isList fun h' he hit hsz hk=>wpAny_pyIter_enum he ?_;have I2:Inv X pins σ H1 {s1 with heap:=h'}:=I1.kept (t':=s1.toks) hk;refine⟨s1.heap.objs.size+1,[s1.heap.objs.size+1,s1.heap.objs.size],_,_,H1,rfl,I2,zlI a (s1.heap.objs.size+1) s1.heap.objs.size,⟨⟨.none,he⟩,hit,Nat.succ_ne_self _⟩,fun b hb=>?_,q⟩;have e':b=s1.heap.objs.size+1\/b=s1.heap.objs.size:=by simpa using hb
  have hle:s1.heap.objs.size<=b:=by
   rcases e' with z | z
   ·rw[z];exact Nat.le_add_right _ _
   ·rw[z];exact zAi _
  exact I1.fpOk hle (I1.hok.fresh hle)
end L2
section
namespace Bits
open PySem PyProof.Rows
end Bits
end
section
namespace TL
open PySem PySem.Builtin PySem.Builtin.Str PySem.StrLaws
end TL
end
namespace L2
open PySem PySem.Spec PyProof.Rows
section
variable{X:Cx}{pins:List (Addr×Obj)}{σ:St}{H:Hp}{s:Shared}{Q:VK}
end
section
variable{X:Cx}
end
section
variable{X:Cx}{o e:Expr}{to te:TE}
end
end L2
namespace L2
open PySem PySem.Spec PyProof.Rows
section
variable{X:Cx}
end
end L2
namespace Att
open PySem PySem.W PySem.Calls PyProof.Rows
theorem ints_of_wellAll{P:Params}{h:Heap}:∀(ns:List Int) (vs:List Value),WellAll P h vs (ns.map WData.int)->IntsAre vs ns:=by
 intro ns;induction ns with
 | nil =>
  intro vs w;rw[List.map_nil] at w;cases w
  exact .nil
 | cons n ns ih =>
  intro vs w;rw[zAz] at w;cases w with
  | cons a b =>
   cases a
   exact .cons _ _ (ih _ b)
section
variable{prog:Program}{w:World}{A:Around}{E:Value->Shared->Prop}{s:Shared}{K:Frag}
end
end Att
namespace L2
open PySem PySem.Spec PyProof.Rows
theorem zh1:∀ {vs:List Value}{ns:List Int},IntsAre vs ns->Vals (ns.map V.int) vs
 | _,_,.nil=>.nil
 | _,_,.cons n t h=>.cons ⟨t,rfl⟩ (zh1 h)
end L2
namespace L2
open PySem PySem.Spec PyProof.Rows
end L2
namespace L2
open PySem PySem.Spec PyProof.Rows
def zaH(s:Stmt)(j:Nat):Stmt:=match s with
 | .ClassDef _ _ _ body _ _ _ _ _ _ _=>body.getD j (.Pass ⟨0,0,0,0⟩)
 | _=>.Pass ⟨0,0,0,0⟩
def zbB(s:Stmt):Arguments:=match s with
 | .FunctionDef _ a _ _ _ _ _ _ _ _=>a
 | _=>{posonlyargs:=[],args:=[],vararg:=none,kwonlyargs:=[],kw_defaults:=[],kwarg:=none,defaults:=[]}
def zbi(s:Stmt):List Stmt:=match s with
 | .FunctionDef _ _ b _ _ _ _ _ _ _=>b
 | _=>[]
def zag(s:Stmt):Scope:=match s with
 | .FunctionDef _ _ _ _ _ _ sc _ _ _=>sc
 | _=>{kind:=.function,names:=[],isGenerator:=false,isCoroutine:=false}
abbrev CX0:CXT:=fun _ _ _ _ _ _=>False
abbrev E0:XK:=fun _ _ _=>False
theorem zat{X:Cx}:zbl CX0 X E0:=fun _ _ _ _ _ _ _ h=>h.elim
structure Fun(K:PySem.W.Frag)(x qual:Str)(st:Stmt)(f:Addr)(fd:FuncData):Prop where
 ex:∃(oc:Value) (od:Option Addr) (kV doc pm:Value) (an:Option Addr) (cdv ct:Value) (osl:Array (Option Value)),
  fd=PySem.W.fnOf x qual (zbB st) (zbi st) (zag st) .none kV doc pm an cdv ct/\K.lookup f=some ⟨oc,od,.func fd,osl⟩/\PySem.W.codeIn K cdv qual=true
 kp:PySem.W.keepIn K (.ref f)=true
section
variable{P:Program}{w:World}{K:PySem.W.Frag}{mg:Str->Option Value}{base:Heap}
theorem Fun.ok{x qual:Str}{st:Stmt}{f:Addr}{fd:FuncData}{N ps:List Str}{k:Nat}{sp:Sp}(F:Fun K x qual st f fd)(S:zam N ps (zag st))(len:∀vs H Q E,sp vs H Q E->vs.length=ps.length)
  (hbody:∀(cdv:Value) (A:Around) (outer:List Env) (s:Shared) (H:Hp) (vs:List V) (Q:VK) (E:XK),Room k (A.deeper (envOfC qual (zag st) s.heap.objs.size f cdv))->sp vs H Q E ->
   ∃t,PSs (zaI CX0 P w K mg base N qual (zag st) f cdv A outer s H E).nox (zbi st) t/\t {nx:=fun _ H'=>Q .non H',rt:=Q} (start N vs) H):zdR P w K mg base CX0 (k+1) f fd ps sp:=by
 obtain⟨oc,od,kV,doc,pm,an,cdv,ct,osl,rfl,lk,hcd⟩:=F.ex;refine zpw lk hcd S len fun A outer s H vs Q E hr hsp=>?_;obtain⟨t,h,q⟩:=hbody cdv A outer s H vs Q E hr hsp;exact⟨t,h.nox,q⟩
theorem Fun.binds{x qual:Str}{st:Stmt}{f:Addr}{fd:FuncData}{ps:List Str}(F:Fun K x qual st f fd)
  (h:∀(kV doc pm:Value) (an:Option Addr) (cdv ct:Value) (us:List Value),us.length=ps.length->bindArgs (PySem.W.fnOf x qual (zbB st) (zbi st) (zag st) .none kV doc pm an cdv ct) ⟨us,[]⟩=pure (ps.zip us)):Binds K fd ps []:=by
 obtain⟨oc,od,kV,doc,pm,an,cdv,ct,osl,rfl,lk,hcd⟩:=F.ex;exact .all (h kV doc pm an cdv ct)
theorem zdM{x qual:Str}{st:Stmt}{f:Addr}{oc:Value}{od an:Option Addr}{osl:Array (Option Value)}{kV doc pm cdv ct:Value}(l:K.lookup f=some ⟨oc,od,.func (PySem.W.fnOf x qual (zbB st) (zbi st) (zag st) .none kV doc pm an cdv ct),osl⟩)
  (c:PySem.W.codeIn K cdv qual=true) (k:PySem.W.keepIn K (.ref f)=true):Fun K x qual st f (PySem.W.fnOf x qual (zbB st) (zbi st) (zag st) .none kV doc pm an cdv ct):=⟨⟨oc,od,kV,doc,pm,an,cdv,ct,osl,rfl,l,c⟩,k⟩
end
section
variable{X:Cx}
theorem pv(i:Nat){x:Str}{pos:Pos}(hN:X.N[i]?=some x:=by rfl)(hv:Vis X.env.scope x:=by first | exact Or.inl rfl | exact Or.inr (Or.inl rfl) | exact Or.inr (Or.inr rfl))(hd:(x == ("__debug__" : Str))=false:=by decide)
  (hcd:(x == ("__classdict__" : Str))=false:=by decide):PE X (.Name x pos) (zaX i):=zp1 hN hv hd hcd
end
theorem znt{A B:Prop}(h:B):if false=true then A else B:=by
 rw[if_neg zAc];exact h
theorem zhY{A B:Prop}(h:A):if true=true then A else B:=by
 rw[if_pos rfl];exact h
theorem zbg{c A B:Prop}[Decidable c](h1:c->A)(h2:¬c->B):if c then A else B:=by
 by_cases h:c
 ·rw[if_pos h];exact h1 h
 ·rw[if_neg h];exact h2 h
def Same(H H':Hp):Prop:=∀b o,H b=some o->H' b=some o
theorem Same.refl(H:Hp):Same H H:=fun _ _ h=>h
theorem Same.trans{H H1 H2:Hp}(a:Same H H1)(b:Same H1 H2):Same H H2:=fun c o h=>b c o (a c o h)
section
variable{κ:Type}[DecidableEq κ]
end
end L2
namespace L2
open PySem
abbrev bmX:List Value:=[.type "Exception",.type "BaseException",.type "object"]
section
variable{prog:Program}{w:World}{A:Around}{E:Value->Shared->Prop}{h:Heap}{g:Array GenState}{d:Drawn}{t:Nat}{os:OsState}
variable{nm q:Str}{C N x:Addr}{bs:List Value}{sn:List Str}{sub:List Value}{ab:Bool}{col:Option Bool}{dd:Option Addr}{k0 k1 k2 k3 k5:Option Value}{newId:String}
 {mN mA:Str->Option Value}{name:Str}{v:Value}
theorem zii:typeLookup (.type "Exception") "__getattribute__" = pure (some (.builtin "BaseException.__getattribute__")):=by rw[typeLookup_type,builtinLookup_eq_fast];kernel_rfl
theorem zl4:typeLookup (.type "Exception") "__getattr__" = pure none:=by rw[typeLookup_type,builtinLookup_eq_fast];kernel_rfl
theorem ziX:mroOf (.type "Exception")=pure bmX:=by kernel_rfl
theorem slot_exc_ga:Slot "Exception" "__getattribute__" "BaseException.__getattribute__" :=
 .of (owner:="BaseException") (n:="__getattribute__") zii (by decide +kernel) (by decide +kernel) (by decide +kernel)
  (by first | exact .inl (by decide +kernel) | exact .inr (by decide +kernel)) (by rw[isSubtype_type];kernel_rfl)
theorem zmm{tk:Tok}{Q:Fin->Shared->Prop}
  (hC:h.get? C=some (excClassObj nm q C N bs bmX true sn sub ab col dd k0 k1 k2 k3 k5 newId)) (hn:h.Ns N mN) (hna:mN name=none)
  (hB:typeLookup (.type "Exception") name=pure none) (I:h.Inst x C mA) (hv:mA name=some v) (hq:Q (.done (.ret v)) ⟨h,g,d,t,os⟩) :
  wpAny (model prog w) A (Builtin.«object.__getattribute__» ⟨[.ref x,.str name tk],[]⟩) Q E ⟨h,g,d,t,os⟩:=by
 obtain⟨o,hx,hc,hnc,hd⟩:=I;rcases hd with⟨_,hmA⟩|⟨dx,hdx,hne,hns⟩
 ·rw[hmA name] at hv;cases hv
 unfold Builtin.«object.__getattribute__»
 repeat (first|(with_reducible refine wpAny_loadPart_at hx ?_;rw[hc])|(with_reducible refine wpAny_typeLookup_exc hC hn ziX hB ?_;rw[hna]) | wp_step)
 split
 ·rename_i c hcd;exact absurd hcd (hnc c)
 unfold instanceDict
 repeat (first|(with_reducible refine wpAny_loadPart_at hx ?_;rw[hc]) | with_reducible refine wpAny_loadPart_at hC ?_ | wp_step)
 rw[hdx]
 repeat (first|(with_reducible refine wpAny_nsGet hns.ns ?_;rw[hv]) | wp_step)
 exact hq
theorem zmn{M:Model}{nameV:Value}{o:Obj}{Q:Unit->Shared->Prop}(hC:h.get? C=some (excClassObj nm q C N bs bmX true sn sub ab col dd k0 k1 k2 k3 k5 newId))
  (hx:h.get? x=some o) (hc:o.cls=.ref C) (hq:Q () ⟨h,g,d,t,os⟩):wpAny M A (checkBuiltinCall "BaseException.__getattribute__" ⟨[.ref x,nameV],[]⟩) Q E ⟨h,g,d,t,os⟩:=by
 have hk:builtinKind "BaseException.__getattribute__" = some .slot:=by decide +kernel
 have hsplit:splitId "BaseException.__getattribute__" = some ("BaseException", "__getattribute__"):=by decide +kernel
 have hcB:(Value.ref C::bmX).contains (.type "BaseException")=true:=by rw[List.contains_cons,show bmX.contains (.type "BaseException")=true from by decide +kernel,Bool.or_true]
 have ha:=F.args_bexc_ga (.ref x) nameV;simp only[checkBuiltinCall,hk,hsplit];refine wpAny_bind ?_;unfold isInstance
 repeat (first|(with_reducible refine wpAny_loadPart_at hx ?_;rw[hc])|(with_reducible refine wpAny_isSubtype_exc hC ?_;rw[hcB]) | wp_step)
 exact hq
theorem zn8{expr:Bool}{Q:Value->Shared->Prop}
  (hC:h.get? C=some (excClassObj nm q C N bs bmX true sn sub ab col dd k0 k1 k2 k3 k5 newId)) (hn:h.Ns N mN) (hng:mN "__getattribute__" = none) (hnh:mN "__getattr__" = none) (hna:mN name=none)
  (hB:typeLookup (.type "Exception") name=pure none) (I:h.Inst x C mA) (hv:mA name=some v) (hh:handedOut v=pure v) (hq:Q v ⟨h,g,d,t+1,os⟩) :
  wpAny (model prog w) A (getAttr (.ref x) name expr) Q E ⟨h,g,d,t,os⟩:=by
 obtain⟨o,hx,hc,_⟩:=id I;have f3:=slot_exc_ga.bind (.ref x);have hx0:(expr&&onTheHeap (Value.builtin "BaseException.__getattribute__"))=false:=by cases expr<;>rfl
 have hx2:(Value.builtin "BaseException.__getattribute__" == Value.builtin "object.__getattribute__")=false:=by decide +kernel
 have hx1:(onTheHeap (Value.ref C)&&Value.builtin "BaseException.__getattribute__" == Value.builtin "object.__getattribute__")=false:=by rw[hx2];rfl
 unfold getAttr
 repeat (any_goals (first | assumption|(with_reducible refine wpAny_loadPart_at hx ?_;rw[hc])|(with_reducible refine wpAny_typeLookup_exc hC hn ziX zii ?_;rw[hng])|(with_reducible refine wpAny_typeLookup_exc hC hn ziX zl4 ?_;rw[hnh]) | wp_step))
 refine codeAny_call_builtin slot_exc_ga.plain F.entry_bexc_ga (zmn hC hx hc (zmm hC hn hna hB I hv ?_));show wpAny (model prog w) A (handedOut v) Q E _;rw[hh];exact wpAny_pure hq
end
end L2
namespace L2
open PySem
def XAt(h:Heap)(e:Addr)(cls:Value)(od:Option Addr)(T:Option Addr):Prop:=
 ∃oe vs,h.get? e=some oe/\oe.cls=cls/\oe.dict=od/\oe.data=.fields vs/\1<vs.size /\
  ((T=none/\vs[1]?=some .none)\/∃t oT ts,T=some t/\t≠e/\vs[1]?=some (.ref t)/\h.get? t=some oT/\oT.data=.fields ts/\3<ts.size)
theorem zqO(o:Obj)(f:Array Value->Array Value):(o.mapFields f).cls=o.cls:=by
 obtain⟨c,d,dt,sl⟩:=o;cases dt<;>rfl
theorem zo1(o:Obj)(f:Array Value->Array Value):(o.mapFields f).dict=o.dict:=by
 obtain⟨c,d,dt,sl⟩:=o;cases dt<;>rfl
section
variable{M:Model}{A A':Around}{E E':Value->Shared->Prop}{s:Shared}
theorem zkV{base:Heap}{env:Env}{outer:List Env}{L e:Addr}{oe:Obj}{vs:Array Value}{head:Value}{hn:Bool}{Q:Unit->Shared->Prop}
  (hfr:A.frames=some (env::outer)) (hl:s.heap.FunFrames base (env::outer)) (hf:env.frame=some L)
  (he:s.heap.get? e=some oe) (hd:oe.data=.fields vs) (hz:1<vs.size)
  (h:∀h' T,s.heap.get? T=none->(∀b o,b≠e->b∉(env::outer).filterMap (·.frame)->s.heap.get? b=some o->h'.get? b=some o) ->
   (∀b o,b≠e->s.heap.get? b=some o->∃sl,h'.get? b=some {o with slots:=sl})->XAt h' e oe.cls oe.dict (some T)->Q () {s with heap:=h'}) :
  wpAny M A (do let fr <-frameOf env;let pl <-entryPlaceOf L hn;let tb <-EntryCells.newEntry head fr .none (rawInt L) .none pl;setField (.ref e) 1 tb) Q E s:=by
 have nfr:e∉(env::outer).filterMap (·.frame):=fun hm=>by
  obtain⟨_,o,ho,q⟩:=hl.mem hm;rw[he] at ho;cases ho
  exact q vs hd
 refine wpAny_bind (wpAny_frameOf_fun hfr hl hf fun g so=>?_);refine wpAny_bind (wpAny_entryPlaceOf fun pl hpl=>?_);unfold EntryCells.newEntry newFields;refine wpAny_bind (wpAny_newObj_type ?_ (hpl.sizeOk5 _ _ _ _ _));generalize hN:({cls:=.type "traceback",dict:=none,data:=.fields ([head,.ref L,.none,rawInt L,.none]++(if pl.isEmpty then List.replicate 6 Value.none else pl)).toArray}:Obj)=N;have Nd:N.data=.fields ([head,.ref L,.none,rawInt L,.none]++(if pl.isEmpty then List.replicate 6 Value.none else pl)).toArray:=by rw[<-hN]
 have N3:3<([head,.ref L,.none,rawInt L,.none]++(if pl.isEmpty then List.replicate 6 Value.none else pl)).toArray.size:=by
  simp only[zAn,zAa,zAb,zCu];omega
 have ge:g.get? e=some oe:=(so.2.1 e nfr).trans he;have pe:(g.push N).get? e=some oe:=Heap.get?_push_of_some _ ge;have Te:g.objs.size≠e:=Nat.ne_of_gt (Heap.lt_size ge);refine wpAny_setField pe hd hz (h _ g.objs.size (Heap.get?_none_of_le (by rw[so.1];exact zAi _)) ?_ ?_ ?_)
 ·intro b o hbe hbf hb;have gb:g.get? b=some o:=(so.2.1 b hbf).trans hb;rw[Heap.get?_update_other _ _ (Ne.symm hbe)];exact Heap.get?_push_of_some _ gb
 ·intro b o hbe hb;obtain⟨sl,gb⟩:=so.2.2 b o hb;refine⟨sl,?_⟩;rw[Heap.get?_update_other _ _ (Ne.symm hbe)];exact Heap.get?_push_of_some _ gb
 ·have d2:=Obj.data_mapFields hd (·.setIfInBounds 1 (Value.ref g.objs.size));have e2:=Heap.get?_update_self (Obj.mapFields (·.setIfInBounds 1 (Value.ref g.objs.size))) pe (Obj.isFreed_of_fields d2);have T2:((g.push N).update e (Obj.mapFields (·.setIfInBounds 1 (Value.ref g.objs.size)))).get? g.objs.size=some N:=
   (Heap.get?_update_other _ _ (Ne.symm Te)).trans (Heap.get?_push_size g (Obj.isFreed_of_fields Nd))
  have z:1<(vs.setIfInBounds 1 (Value.ref g.objs.size)).size:=by simpa using hz
  exact⟨_,_,e2,zqO _ _,zo1 _ _,d2,z,.inr ⟨g.objs.size,_,_,rfl,Te,by simp[hz],T2,Nd,N3⟩⟩
theorem zmq{base:Heap}{env:Env}{outer:List Env}{L e:Addr}{cls:Value}{od T:Option Addr}{Q:Unit->Shared->Prop}
  (hfr:A.frames=some (env::outer)) (hl:s.heap.FunFrames base (env::outer)) (hf:env.frame=some L) (x:XAt s.heap e cls od T)
  (h:∀h' T',(s.heap.get? T'=none\/T=some T')->(∀b o,b≠e->T≠some b->b∉(env::outer).filterMap (·.frame)->s.heap.get? b=some o->h'.get? b=some o) ->
   (∀b o,b≠e->T≠some b->s.heap.get? b=some o->∃sl,h'.get? b=some {o with slots:=sl})->XAt h' e cls od (some T')->Q () {s with heap:=h'}) :
  wpAny M A (noteFrame (.ref e) env) Q E s:=by
 obtain⟨oe,vs,he,rfl,rfl,hd,hz,h1⟩:=id x;unfold noteFrame;simp only[hf];rcases h1 with⟨rfl,h1⟩|⟨t,oT,ts,rfl,hte,h1,hT,hdT,h3⟩
 ·refine wpAny_bind (wpAny_field he hd h1 ?_);rw[if_neg (by decide)];exact zkV hfr hl hf he hd hz fun h' T' n k1 k2 x'=>h h' T' (.inl n) (fun b o z _=>k1 b o z) (fun b o z _=>k2 b o z) x'
 ·refine wpAny_bind (wpAny_field he hd h1 ?_);rw[if_pos (show(Value.ref t != Value.none)=true from by simp)];refine wpAny_bind (wpAny_field hT hdT (x:=ts[3]) (by simp[h3]) ?_);split
  ·exact wpAny_pure (h s.heap t (.inr rfl) (fun _ _ _ _ _ z=>z) (fun b o _ _ z=>⟨o.slots,z⟩) x)
  ·refine wpAny_bind (wpAny_setField hT hdT h3 ?_);have nfr:t∉(env::outer).filterMap (·.frame):=fun hm=>by
    obtain⟨_,o,ho,q⟩:=hl.mem hm;rw[hT] at ho;cases ho
    exact q ts hdT
   have oth:∀b,b≠t->(s.heap.update t (Obj.mapFields (·.setIfInBounds 3 Value.none))).get? b=s.heap.get? b:=fun b hb=>Heap.get?_update_other _ _ (Ne.symm hb);have hl':(s.heap.update t (Obj.mapFields (·.setIfInBounds 3 Value.none))).FunFrames base (env::outer):=hl.of_keeps fun b o hb hnf=>⟨o,(oth b fun z=>by rw[z,hT] at hb;cases hb;exact hnf ts hdT).trans hb,rfl⟩;refine zkV (s:={s with heap:=s.heap.update t (Obj.mapFields (·.setIfInBounds 3 Value.none))}) hfr hl' hf ((oth e (Ne.symm hte)).trans he) hd hz fun h' T' n k1 k2 x'=>?_;have n':s.heap.get? T'=none:=by
    cases q:s.heap.get? T' with
    | none=>rfl
    | some o =>
     by_cases z:T'=t
     ·subst z;have:=Heap.get?_update_self (Obj.mapFields (·.setIfInBounds 3 Value.none)) hT (Obj.isFreed_of_fields (Obj.data_mapFields hdT _));rw[show(s.heap.update T' (Obj.mapFields (·.setIfInBounds 3 Value.none))).get? T'=none from n] at this;cases this
     ·have:=(oth T' z).symm.trans n;rw[q] at this;cases this
   exact h h' T' (.inl n') (fun b o z1 z2 z3 z4=>k1 b o z1 z3 ((oth b fun w=>z2 (by rw[w])).trans z4)) (fun b o z1 z2 z4=>k2 b o z1 ((oth b fun w=>z2 (by rw[w])).trans z4)) x'
theorem zjh{e T:Addr}{cls:Value}{od:Option Addr}{fr:Option Addr}{Q:Unit->Shared->Prop}(x:XAt s.heap e cls od (some T))
  (h:∀h',(∀b,b≠T->h'.get? b=s.heap.get? b)->XAt h' e cls od (some T)->Q () {s with heap:=h'}):wpAny M A (setFlight (.ref e) fr) Q E s:=by
 obtain⟨oe,vs,he,hc,ho,hd,hz,h1⟩:=x;rcases h1 with⟨z,_⟩|⟨t,oT,ts,z,hte,h1,hT,hdT,h3⟩
 ·cases z
 cases z
 unfold setFlight;refine wpAny_bind (wpAny_field he hd h1 ?_);rw[if_pos (show(Value.ref T != Value.none)=true from by simp)];refine wpAny_setField hT hdT h3 (h _ (fun b hb=>Heap.get?_update_other _ _ (Ne.symm hb)) ?_);exact⟨oe,vs,(Heap.get?_update_other _ _ hte).trans he,hc,ho,hd,hz,.inr ⟨T,_,_,rfl,hte,h1,Heap.get?_update_self _ hT (Obj.isFreed_of_fields (Obj.data_mapFields hdT _)),Obj.data_mapFields hdT _,by simpa using h3⟩⟩
theorem zix{base:Heap}{env:Env}{outer:List Env}{L e:Addr}{cls:Value}{od T:Option Addr}{Q:Unit->Shared->Prop}
  (hfr:A.frames=some (env::outer)) (hl:s.heap.FunFrames base (env::outer)) (hf:env.frame=some L) (x:XAt s.heap e cls od T)
  (h:∀h' T',(s.heap.get? T'=none\/T=some T')->(∀b o,b≠e->T≠some b->b∉(env::outer).filterMap (·.frame)->s.heap.get? b=some o->h'.get? b=some o) ->
   (∀b o,b≠e->T≠some b->s.heap.get? b=some o->∃sl,h'.get? b=some {o with slots:=sl})->XAt h' e cls od (some T')->Q () {s with heap:=h'}) :
  wpAny M A (noteFrame (.ref e) env) (fun _ s'=>wpAny M A' (setFlight (.ref e) none) Q E' s') E s:=by
 refine zmq hfr hl hf x fun h1 T' hT k1 k2 x1=>?_;refine zjh (s:={s with heap:=h1}) x1 fun h2 k3 x2=>h h2 T' hT (fun b o z1 z2 z3 z4=>?_) (fun b o z1 z2 z4=>?_) x2
 ·have nb:b≠T':=fun w=>by
   rcases hT with hT | hT
   ·rw[<-w,z4] at hT;cases hT
   ·exact z2 (by rw[hT,w])
  exact(k3 b nb).trans (k1 b o z1 z2 z3 z4)
 ·have nb:b≠T':=fun w=>by
   rcases hT with hT | hT
   ·rw[<-w,z4] at hT;cases hT
   ·exact z2 (by rw[hT,w])
  obtain⟨sl,z⟩:=k2 b o z1 z2 z4;exact⟨sl,(k3 b nb).trans z⟩
theorem zmr{base:Heap}{env:Env}{outer:List Env}{L e:Addr}{cls:Value}{od T:Option Addr}{Q:Unit->Shared->Prop}
  (hfr:A.frames=some (env::outer)) (hl:s.heap.FunFrames base (env::outer)) (hf:env.frame=some L) (x:XAt s.heap e cls od T)
  (h:∀h' T',(s.heap.get? T'=none\/T=some T')->(∀b o,b≠e->T≠some b->b∉(env::outer).filterMap (·.frame)->s.heap.get? b=some o->h'.get? b=some o) ->
   (∀b o,b≠e->T≠some b->s.heap.get? b=some o->∃sl,h'.get? b=some {o with slots:=sl})->XAt h' e cls od (some T')->Q () {s with heap:=h'}) :
  wpAny M A (leaving env (.ref e)) Q E s:=by
 unfold leaving;exact wpAny_bind (zix hfr hl hf x h)
end
end L2
namespace L2
open PySem PySem.Spec PyProof.Rows
theorem ObjOk.there{P:Program}{w:World}{H:Hp}{h:Heap}{a:Addr}{o:HO}(x:ObjOk P w H h a o):∃ob,h.get? a=some ob:=by
 cases o with
 | lst xs=>obtain⟨_,_,_,_,e⟩:=x;exact⟨_,e⟩
 | tup xs=>obtain⟨_,_,_,ob,e,_⟩:=x;exact⟨_,e⟩
 | dK kvs=>obtain⟨_,_,_,_,o,_,_,e,_⟩:=x;exact⟨_,e⟩
 | dT kvs=>obtain⟨_,_,_,_,o,_,_,e,_⟩:=x;exact⟨_,e⟩
 | set S n=>obtain⟨o,_,_,_,e,_⟩:=x;exact⟨_,e⟩
 | ins C dx fs=>obtain⟨_,_,_,e,_⟩:=x;exact⟨_,e⟩
 | own y=>exact x
 | xd fs=>obtain⟨_,⟨_,_,_,e,_⟩,_⟩:=x;exact⟨_,e⟩
 | rng lo hi=>obtain⟨_,_,_,e⟩:=x;exact⟨_,e⟩
 | frz ob u=>obtain⟨e,_⟩:=x;exact⟨_,e⟩
 | tbl ps=>exact⟨_,show h.get? a=some _ from x⟩
 | met f y=>exact⟨_,show h.get? a=some _ from x⟩
 | ext φ=>obtain⟨_,e,_⟩:=x;exact e
def Fresh(h0:Heap)(H:Hp)(e:Addr)(T:Option Addr):Prop:=∀b,b=e\/T=some b->H b=none/\h0.get? b=none
theorem Fresh.ne{h0:Heap}{H:Hp}{e:Addr}{T:Option Addr}(f:Fresh h0 H e T){b:Addr}{o:Obj}(q:h0.get? b=some o):b≠e/\T≠some b:=
 ⟨fun z=>(by rw[(f b (.inl z)).2] at q;cases q),fun z=>(by rw[(f b (.inr z)).2] at q;cases q)⟩
theorem Fresh.no{h0:Heap}{H:Hp}{e:Addr}{T:Option Addr}(f:Fresh h0 H e T){b:Addr}{u:HO}(q:H b=some u):b≠e/\T≠some b:=
 ⟨fun z=>(by rw[(f b (.inl z)).1] at q;cases q),fun z=>(by rw[(f b (.inr z)).1] at q;cases q)⟩
def CXE(P:Program)(w:World):CXT:=fun outer H s E e s' =>
 ∃(ea:Addr) (cls:Value) (od T:Option Addr) (H':Hp),e=.ref ea/\s'.os=s.os/\AllBare s'.gens/\Un (frs outer) [] H H' s.heap s'.heap/\HOk P w H' s'.heap /\
  XAt s'.heap ea cls od T/\Fresh s.heap H' ea T/\E cls od H'
section
variable{X:Cx}{pins:List (Addr×Obj)}{σ:St}{H H':Hp}{s:Shared}{e:Addr}{cls:Value}{od:Option Addr}{E:XK}
theorem Inv.new0(I:Inv X pins σ H s)(hex:X.ex=[])(hs:s.heap.get? e=none):X.s_0.heap.get? e=none:=by
 cases q:X.s_0.heap.get? e with
 | none=>rfl
 | some o =>
  obtain⟨o',z⟩:=I.base.there e o q (by rw[hex];simp);rw[hs] at z;cases z
theorem HOk.none_of{P:Program}{w:World}{H:Hp}{h:Heap}{a:Addr}(x:HOk P w H h)(e:h.get? a=none):H a=none:=by
 cases q:H a with
 | none=>rfl
 | some o =>
  obtain⟨ob,z⟩:=(x a o q).there;rw[e] at z;cases z
theorem zqW{M:Model}{A':Around}{T:Option Addr}{E1:Value->Shared->Prop}(I:Inv X pins σ H s)(hst:X.stack=X.env::X.outer)(hfr:X.env.frame=some X.env.locals)(hex:X.ex=[])(hA:A'.frames=some X.stack)
  (x:XAt s.heap e cls od T) (hf:Fresh X.s_0.heap H e T) (q:E cls od H) :
  wpAny M A' (leaving X.env (.ref e)) (fun _ s''=>CXE X.prog X.w X.outer X.H_0 X.s_0 E (.ref e) s'') E1 s:=by
 refine zmr (base:=X.base) (env:=X.env) (outer:=X.outer) (by rw[hA,hst]) (by rw[<-hst];exact I.stack) hfr x fun h' T' hT keep slot x'=>?_;have nf:(X.env::X.outer).filterMap (·.frame)=X.env.locals::frs X.outer:=by
  show List.filterMap _ _=_;rw[zDe,hfr];rfl
 rw[nf] at keep;have nL:∀b o,X.s_0.heap.get? b=some o->b≠X.env.locals:=fun b o q=>zBe (zAq (Heap.lt_size q) I.ok.above);have base:=I.base;rw[hex] at base;refine⟨e,cls,od,some T',H,rfl,I.os,I.bare,⟨fun b o q1 q2 q3 q4=>?_,fun b o q1 q2 q3 q4=>?_,base.free,fun b o q1 q2=>?_,base.tups,base.frzs,base.tbls⟩,fun b o q1=>?_,x',fun b hb=>?_,q⟩
 ·refine keep b o (hf.ne q1).1 (hf.ne q1).2 (fun z=>?_) (base.keep b o q1 q2 q3 q4);rcases zAe z with z | z
  ·exact nL b o q1 z
  ·exact q3 z
 ·obtain⟨sl,e1⟩:=base.slot b o q1 q2 q3 q4;obtain⟨sl',e2⟩:=slot b _ (hf.ne q1).1 (hf.ne q1).2 e1;exact⟨sl',e2⟩
 ·obtain⟨o',e1⟩:=base.there b o q1 q2;obtain⟨sl,e2⟩:=slot b o' (hf.ne q1).1 (hf.ne q1).2 e1;exact⟨_,e2⟩
 ·have fr:∀c u,H c=some u->c∉X.env.locals::frs X.outer:=fun c u z w=>by
   have:=I.stkFree c (by rw[hst];show c∈List.filterMap _ _;rw[nf];exact w);rw[z] at this;cases this
  refine(I.hok b o q1).stay (fun c u hc hg=>?_) (fun _ z=>z) fun _ _ z=>z;rcases hc with rfl | hc
  ·exact keep _ u (hf.no q1).1 (hf.no q1).2 (fr _ _ q1) hg
  ·exact keep c u (hf.no hc).1 (hf.no hc).2 (fr _ _ hc) hg
 ·rcases hb with rfl | hb
  ·exact hf _ (.inl rfl)
  ·cases hb
   rcases hT with hT | hT
   ·exact⟨I.hok.none_of hT,I.new0 hex hT⟩
   ·exact hf _ (.inr hT)
def XLv(X:Cx)(E:XK):Prop:=∀(pins:List (Addr×Obj)) (σ:St) (H:Hp) (s:Shared) (e:Addr) (cls:Value) (od T:Option Addr),
 Inv X pins σ H s->XAt s.heap e cls od T->Fresh X.s_0.heap H e T->E cls od H->X.xe (.ref e) s
theorem zby{P:Program}{w:World}{K:PySem.W.Frag}{mg:Str->Option Value}{base:Heap}{N:List Str}{qual:Str}{scope:Scope}{f:Addr}{cd:Value}{A:Around}{outer:List Env}{s:Shared}{H:Hp}{E:XK} :
  XLv (zaI (CXE P w) P w K mg base N qual scope f cd A outer s H E) E:=fun _ _ _ _ _ _ _ _ I x hf q=>zqW I rfl rfl rfl I.ok.frames x hf q
theorem XLv.passes(h:XLv X E)(hex:X.ex=[]):zbl (CXE X.prog X.w) X E:=by
 intro pins σ H s e s' I c;obtain⟨ea,cls,od,T,H',rfl,os,bare,un,hok,x,hf,q⟩:=c;have I':Inv X pins σ H' s':=I.call' (ch:=[]) os un hok bare (fun b hb=>absurd hb (by simp));exact h pins σ H' s' ea cls od T I' x (fun b hb=>⟨(hf b hb).1,I.new0 hex (hf b hb).2⟩) q
theorem za4{P:Program}{w:World}{K:PySem.W.Frag}{mg:Str->Option Value}{base:Heap}{N:List Str}{qual:Str}{scope:Scope}{f:Addr}{cd:Value}{A:Around}{outer:List Env}{s:Shared}{H:Hp}{E:XK} :
  zbl (CXE P w) (zaI (CXE P w) P w K mg base N qual scope f cd A outer s H E) E:=XLv.passes zby rfl
end
def XN(e C:Addr)(od:Option Addr)(h:Heap):Prop:=∃o vs,h.get? e=some o/\o.cls=.ref C/\o.dict=od/\o.data=.fields vs/\1<vs.size/\vs[1]?=some .none
def XU(e C:Addr)(od:Option Addr)(h:Heap):Prop:=∃o vs,h.get? e=some o/\o.cls=.ref C/\o.dict=od/\o.data=.fields vs
theorem XN.at{e C:Addr}{od:Option Addr}{h:Heap}(x:XN e C od h):XAt h e (.ref C) od none:=let ⟨o,vs,a,b,c,d,f,g⟩:=x;⟨o,vs,a,b,c,d,f,.inl ⟨rfl,g⟩⟩
theorem XAt.u{e C:Addr}{od T:Option Addr}{h:Heap}(x:XAt h e (.ref C) od T):XU e C od h:=let ⟨o,vs,a,b,c,d,_⟩:=x;⟨o,vs,a,b,c,d⟩
def zjW(H:Hp)(e:Addr):Hp:=fun b=>if b=e then none else H b
theorem del_same{H:Hp}{e:Addr}:zjW H e e=none:=if_pos rfl
theorem zi9{H:Hp}{e b:Addr}(h:b≠e):zjW H e b=H b:=if_neg h
theorem zqJ{H:Hp}{e b:Addr}{o:HO}(h:zjW H e b=some o):b≠e/\H b=some o:=by
 by_cases q:b=e
 ·subst q;rw[del_same] at h;cases h
 ·rw[zi9 q] at h;exact⟨q,h⟩
section
variable{X:Cx}{pins:List (Addr×Obj)}{σ:St}{H:Hp}{s:Shared}{e C:Addr}{od:Option Addr}{φ:Heap->Prop}
theorem Inv.drop(I:Inv X pins σ H s)(he:H e=some (.ext φ))(hs:X.s_0.heap.get? e=none):Inv X pins σ (zjW H e) s:=by
 have ne:∀b o,X.s_0.heap.get? b=some o->b≠e:=fun b o q z=>by
  rw[z,hs] at q;cases q
 have no:∀b,H b=none->zjW H e b=none:=fun b q=>by
  by_cases z:b=e
  ·rw[z,del_same]
  ·rw[zi9 z];exact q
 have so:∀b u,H b=some u->(∀ψ,u≠.ext ψ)->zjW H e b=some u:=fun b u q d=>by
  by_cases z:b=e
  ·rw[z,he] at q;cases q;exact absurd rfl (d φ)
  ·rw[zi9 z];exact q
 refine⟨I.ok,I.os,I.bare,⟨I.base.keep,I.base.slot,fun b o q1 q2 q3=>no b (I.base.free b o q1 q2 q3),I.base.there,fun b xs q=>so b _ (I.base.tups b xs q) (fun _ z=>by cases z),
  fun b o u q=>so b _ (I.base.frzs b o u q) (fun _ z=>by cases z),fun b ps q=>?_⟩,I.loc,I.cell,no _ I.free,fun x c q=>no c (I.freeC x c q),fun p hp=>?_,fun b o q=>?_,I.len⟩
 ·obtain⟨more,z⟩:=I.base.tbls b ps q;exact⟨more,so b _ z (fun _ z=>by cases z)⟩
 ·obtain⟨a,b,c⟩:=I.pin p hp;exact⟨a,no _ b,c⟩
 ·obtain⟨n,q⟩:=zqJ q;exact(I.hok b o q).stay (fun _ _ _ z=>z) (fun c z=>so c _ z (fun _ z=>by cases z)) fun c xs z=>so c _ z (fun _ z=>by cases z)
theorem Inv.track(I:Inv X pins σ H s)(hn:H e=none)(ho:∃o,s.heap.get? e=some o)(hp:φ s.heap)(hm:∀h1 h2:Heap,φ h1->(∀o,h1.get? e=some o->h2.get? e=some o)->φ h2)
  (hs:X.s_0.heap.get? e=none) (hL:e≠X.env.locals) (hc:∀x c,X.env.cells.lookup x=some c->c≠e) (hpn:∀p∈X.pn++pins,p.1≠e):Inv X pins σ (upd H e (.ext φ)) s:=by
 have so:∀b u,H b=some u->upd H e (.ext φ) b=some u:=fun b u q=>by
  rw[zae fun z=>by rw[z,hn] at q;cases q];exact q
 refine⟨I.ok,I.os,I.bare,⟨I.base.keep,I.base.slot,fun b o q1 q2 q3=>?_,I.base.there,fun b xs q=>so b _ (I.base.tups b xs q),fun b o u q=>so b _ (I.base.frzs b o u q),fun b ps q=>?_⟩,
  I.loc,I.cell,by rw[zae (Ne.symm hL)];exact I.free,fun x c q=>by rw[zae (hc x c q)];exact I.freeC x c q,fun p q=>?_,fun b o q=>?_,I.len⟩
 ·rw[zae fun z=>by rw[z,hs] at q1;cases q1];exact I.base.free b o q1 q2 q3
 ·obtain⟨more,z⟩:=I.base.tbls b ps q;exact⟨more,so b _ z⟩
 ·obtain⟨a,b,c⟩:=I.pin p q;exact⟨a,by rw[zae (hpn p q)];exact b,c⟩
 ·by_cases z:b=e
  ·subst z;rw[upd_same] at q;cases q
   exact⟨hp,ho,hm⟩
  ·rw[zae z] at q;exact(I.hok b o q).stay (fun _ _ _ z=>z) (fun c z=>so c _ z) fun c xs z=>so c _ z
end
end L2
namespace L2
open PySem PySem.Spec PyProof.Rows
theorem zkz{K:PySem.W.Frag}{h:Heap}{N:Addr}{mg:Str->Option Value}{n:Str}{v:Value}(X:K.In h)(G:h.Ns N mg)(e:PySem.W.nsIn K N n=some (some v)):mg n=some v:=by
 obtain⟨o,es,ep,ho,hd,_,hf⟩:=G;unfold PySem.W.nsIn at e;split at e
 ·rename_i c d es' n' sl q;have z:=X _ _ q;rw[ho] at z;cases z
  cases hd
  split at e
  ·rename_i en he;cases e
   rw[<-hf];unfold nsFind findBy;rw[<-Array.find?_toList,he];rfl
  ·split at e<;>cases e
 ·cases e
structure XCls(K:PySem.W.Frag)(C N:Addr):Prop where
 ob:∃nm q bs sn sub ab col dd k0 k1 k2 k3 k5,K.lookup C=some (excClassObj nm q C N bs bmX true sn sub ab col dd k0 k1 k2 k3 k5 "Exception.__new__")
 ok:PySem.W.nsOkIn K N=true
 sa:PySem.W.nsIn K N "__setattr__" = some none
 ga:PySem.W.nsIn K N "__getattribute__" = some none
 gr:PySem.W.nsIn K N "__getattr__" = some none
 kp:PySem.W.keepIn K (.ref C)=true
theorem XCls.at{K:PySem.W.Frag}{C N:Addr}{h:Heap}(c:XCls K C N)(X:K.In h):∃nm q bs sn sub ab col dd k0 k1 k2 k3 k5 mN,
  h.get? C=some (excClassObj nm q C N bs bmX true sn sub ab col dd k0 k1 k2 k3 k5 "Exception.__new__")/\h.Ns N mN:=by
 obtain⟨nm,q,bs,sn,sub,ab,col,dd,k0,k1,k2,k3,k5,e⟩:=c.ob;exact⟨nm,q,bs,sn,sub,ab,col,dd,k0,k1,k2,k3,k5,_,X _ _ e,.of_isNs (PySem.W.isNs_of_in X c.ok)⟩
section
variable{M:Model}{A:Around}{E:Value->Shared->Prop}{env:Env}
variable{nm q:Str}{C N:Addr}{bs bm:List Value}{hdct:Bool}{sn:List Str}{sub:List Value}{ab:Bool}{col:Option Bool}{dd:Option Addr}{k0 k1 k2 k3 k5:Option Value}{newId:String}
theorem zn_{s:Shared}{x:Sem Value}{Q:Flow->Shared->Prop}(hh:A.handled=none)
  (h:wpAny M A x (fun v s1=>∃e oe vs,v=.ref e/\(∃nm q N bs hdct sn sub ab col dd k0 k1 k2 k3 k5 newId,s1.heap.get? C=some (excClassObj nm q C N bs bmX hdct sn sub ab col dd k0 k1 k2 k3 k5 newId)) /\
   s1.heap.get? e=some oe/\oe.cls=.ref C/\oe.data=.fields vs/\vs[1]?=some .none/\E (.ref e) s1) E s) :
  wpAny M A (raiseStmt env (some x) none) Q E s:=by
 have hcB:(Value.ref C::bmX).contains (.type "BaseException")=true:=by rw[List.contains_cons,show bmX.contains (.type "BaseException")=true from by decide +kernel,Bool.or_true]
 unfold raiseStmt;refine wpAny_bind (wpAny_mono h (fun v s1 h1=>?_) fun _ _ z=>z);obtain⟨e,oe,vs,rfl,⟨nm,q,N,bs,hdct,sn,sub,ab,col,dd,k0,k1,k2,k3,k5,newId,hC⟩,he,hc,hd,hv,hE⟩:=h1;obtain⟨hp,g,d,tk,os⟩:=s1
 repeat (first|(with_reducible refine wpAny_loadPart_at he ?_;rw[hc]) | with_reducible refine wpAny_loadPart_at hC ?_|(with_reducible refine wpAny_isSubtype_exc hC ?_;rw[hcB]) | with_reducible refine wpAny_field he hd hv ?_ | wp_step)
 exact wpAny_raiseNew_none hh hE
end
section
variable{X:Cx}{x:Str}{np cpos pos:Pos}{C N:Addr}{E:XK}
def zoc(C:Addr)(E:XK):TS:=fun _ _ H=>E (.ref C) none H
theorem zlZ(c:XCls X.K C N)(ni:PySem.W.nsIn X.K N "__init__" = some none)(hg:Gl X x)(hm:X.mg x=some (.ref C))(hc:X.calm=true)(hx:X.ex=[])(hl:XLv X E)(hdb:(x == ("__debug__" : Str))=false:=by decide) :
  PS X (.Raise (some (.Call (.Name x np) [] [] cpos)) none pos) (zoc C E):=by
 intro pins s σ H D I h;obtain⟨nm,q,bs,sn,sub,ab,col,dd,k0,k1,k2,k3,k5,mN,hC,hn⟩:=c.at I.kIn;refine wpAny_Raise_call_sub (args:=[]) (C:=C) (N:=N) (nm:=nm) (q:=q) (bs:=bs) (hdct:=true) (sn:=sn) (sub:=sub) (ab:=ab) (col:=col) (dd:=dd) (k0:=k0) (k1:=k1) (k2:=k2) (k3:=k3) (k5:=k5) PySem.F.excBase_Exception (I.ok.hd hc) rfl (PySem.W.ns_none_of I.kIn hn ni) (zcE I hg hm ⟨rfl,?_⟩ hdb);refine evalArgs_nil3 ⟨rfl,by show 0<=sizeLine;decide,hC,hn,fun h' e mx=>?_⟩;have I2:Inv X pins σ H {s with heap:=h'}:=I.kept (t':=s.toks) mx.keeps;obtain⟨t,he,_⟩:=mx.there;refine hl pins σ H _ e (.ref C) none none I2 ⟨_,_,he,rfl,rfl,rfl,(by show 1<6;decide),.inl ⟨rfl,rfl⟩⟩ (fun b hb=>?_) h;rcases hb with rfl | hb
 ·exact⟨I.hok.none_of mx.new,I.new0 hx mx.new⟩
 ·cases hb
end
section
variable{prog:Program}{w:World}{A:Around}{E:Value->Shared->Prop}{h:Heap}{g:Array GenState}{d:Drawn}{t:Nat}{os:OsState}
variable{nm q:Str}{C N e:Addr}{bs:List Value}{sn:List Str}{sub:List Value}{ab:Bool}{col:Option Bool}{dd:Option Addr}{k0 k1 k2 k3 k5:Option Value}{newId:String}
 {mN:Str->Option Value}{name:Str}{v:Value}{o:Obj}{vs:Array Value}
open Builtin Builtin.ObjectAttr
theorem zmo{tk:Tok}{Q:Fin->Shared->Prop}(hC:h.get? C=some (excClassObj nm q C N bs bmX true sn sub ab col dd k0 k1 k2 k3 k5 newId))(hn:h.Ns N mN)(hna:mN name=none)
  (hB:typeLookup (.type "Exception") name=pure none) (he:h.get? e=some o) (hc:o.cls=.ref C) (hd:o.dict=none) (hv:o.data=.fields vs)
  (hq:∀h' tk,h'.get? e=some {o with dict:=some h.objs.size}->h'.Ns1 h.objs.size (fun y=>if y=name then some v else none)->(∀b u,b≠e->h.get? b=some u->h'.get? b=some u)->Q (.done (.ret .none)) ⟨h',g,d,tk,os⟩) :
  wpAny (model prog w) A (Builtin.«object.__setattr__» ⟨[.ref e,.str name tk,v],[]⟩) Q E ⟨h,g,d,t,os⟩:=by
 have SF:=F.store_Exception;have hpass:=SF.passes (.ref e);unfold Builtin.«object.__setattr__»
 repeat (first | rw[refuse_eq] | (rw[refuseLoop_ref,hpass])|(with_reducible refine wpAny_loadPart_at he ?_;rw[hc]) | with_reducible refine wpAny_mroOf_exc hC ?_|(with_reducible refine wpAny_typeLookup_exc hC hn SF.mro hB ?_;rw[hna]) | wp_step)
 rw[hd,if_neg (by simp[typeHasDict])];rw[hv];dsimp only;have pe:(h.push {cls:=.type "dict",data:=.dict #[]}).get? e=some o:=Heap.get?_push_of_some _ he;have ne:e≠h.objs.size:=zBe (Heap.lt_size he);refine wpAny_bind (wpAny_alloc' (wpAny_bind (wpAny_update' pe (wpAny_pure ?_))));generalize hG:((h.push {cls:=.type "dict",data:=.dict #[]}).update e fun o=>{cls:=o.cls,dict:=some h.objs.size,data:=o.data,slots:=o.slots})=G;have gd:G.get? h.objs.size=some {cls:=.type "dict",data:=.dict #[]}:=by
  rw[<-hG];exact(Heap.get?_update_ne _ _ _ _ ne.symm).trans (Heap.get?_push_at rfl rfl)
 have ge:G.get? e=some {o with dict:=some h.objs.size}:=by
  rw[<-hG];refine Heap.get?_update_self _ pe ?_;exact Obj.isFreed_of_fields (o:={o with dict:=some h.objs.size}) hv
 have gk:∀b u,b≠e->h.get? b=some u->G.get? b=some u:=fun b u hb z=>by
  rw[<-hG];exact(Heap.get?_update_ne _ _ _ _ hb).trans (Heap.get?_push_of_some _ z)
 have gn:G.Ns h.objs.size (fun _=>none):=⟨_,#[],_,gd,rfl,fun y hy=>absurd hy (by simp),fun _=>rfl⟩;show wpAny _ _ (storeInDict h.objs.size (.str name tk) name v) _ _ _;unfold storeInDict newKeyGuard;refine wpAny_bind (wpAny_pure (wpAny_bind (wpAny_nsSet1 (Heap.Ns1.of_empty gn) fun h2 n2 sb=>?_)));obtain⟨oD,esD,epD,hoD,hdD,hcD⟩:=n2.count (Within.cons name v Within.nil);refine wpAny_bind (wpAny_lookBehind hoD (by rw[hdD];exact pastItsLine_dict (zBp hcD (by rw[zAb,zCu,sizeLine_eq];omega))) ?_);exact wpAny_pure (hq h2 _ ((sb.2 e ne).trans ge) n2 fun b u hb z=>(sb.2 b (zBe (Heap.lt_size z))).trans (gk b u hb z))
theorem zmp{tk:Tok}{R:Result->Shared->Prop}{sa owner:String}(SF:StoreFacts "Exception" bmX sa owner)(hC:h.get? C=some (excClassObj nm q C N bs bmX true sn sub ab col dd k0 k1 k2 k3 k5 newId))(hn:h.Ns N mN)(hna:mN name=none)
  (hB:typeLookup (.type "Exception") name=pure none) (he:h.get? e=some o) (hc:o.cls=.ref C) (hd:o.dict=none) (hv:o.data=.fields vs)
  (hq:∀h' tk,h'.get? e=some {o with dict:=some h.objs.size}->h'.Ns1 h.objs.size (fun y=>if y=name then some v else none)->(∀b u,b≠e->h.get? b=some u->h'.get? b=some u)->R (.ok (.ret .none)) ⟨h',g,d,tk,os⟩) :
  codeAny (model prog w) A (.call (.builtin sa) ⟨[.ref e,.str name tk,v],[]⟩) R ⟨h,g,d,t,os⟩:=
 codeAny_call_builtin SF.slot.plain SF.entry (wpAny_check_sa SF hC he hc (zmo hC hn hna hB he hc hd hv hq))
theorem zn9{Q:Unit->Shared->Prop}(hC:h.get? C=some (excClassObj nm q C N bs bmX true sn sub ab col dd k0 k1 k2 k3 k5 newId))(hn:h.Ns N mN)(hns:mN "__setattr__" = none)(hna:mN name=none)
  (hB:typeLookup (.type "Exception") name=pure none) (he:h.get? e=some o) (hc:o.cls=.ref C) (hd:o.dict=none) (hv:o.data=.fields vs)
  (hq:∀h' tk,h'.get? e=some {o with dict:=some h.objs.size}->h'.Ns1 h.objs.size (fun y=>if y=name then some v else none)->(∀b u,b≠e->h.get? b=some u->h'.get? b=some u)->Q () ⟨h',g,d,tk,os⟩) :
  wpAny (model prog w) A (setAttr (.ref e) name v) Q E ⟨h,g,d,t,os⟩:=by
 have SF:=F.store_Exception;have f3:=SF.slot.bind (.ref e);unfold setAttr callSpecial? specialOf
 repeat (any_goals (first | assumption|(with_reducible refine wpAny_loadPart_at he ?_;rw[hc])|(with_reducible refine wpAny_typeLookup_exc hC hn SF.mro SF.slot.lookup ?_;rw[hns]) | wp_step))
 refine zmp F.store_Exception hC hn hna hB he hc hd hv fun h' tk a1 a2 a3=>?_
 repeat (any_goals (first | assumption | wp_step))
 exact hq h' tk a1 a2 a3
end
section
variable{X:Cx}{o value:Expr}{f:Str}{pos pos':Pos}{C N:Addr}{ta tv:TE}
def zq8(C:Addr)(f:Str)(ta tv:TE):TS:=fun D σ H=>tv σ H fun y H1=>ta σ H1 fun x H2=>∃e,x=.ref e/\H2 e=some (.ext (XN e C none)) /\
 ∀d,H2 d=none->d≠e->D.nx σ (upd (upd H2 d (.xd [(f,y)])) e (.ext (XN e C (some d))))
theorem XN.mono{e C:Addr}{od:Option Addr}(h1 h2:Heap)(x:XN e C od h1)(k:∀o,h1.get? e=some o->h2.get? e=some o):XN e C od h2:=let ⟨o,vs,a,b⟩:=x;⟨o,vs,k _ a,b⟩
theorem XU.mono{e C:Addr}{od:Option Addr}(h1 h2:Heap)(x:XU e C od h1)(k:∀o,h1.get? e=some o->h2.get? e=some o):XU e C od h2:=let ⟨o,vs,a,b⟩:=x;⟨o,vs,k _ a,b⟩
theorem zok(ha:PE X o ta)(hv:PE X value tv)(hs:swapsWith value (some (.Attribute o f pos')) pos.line X.env=pure false)(c:XCls X.K C N)(hna:PySem.W.nsIn X.K N f=some none)(hB:typeLookup (.type "Exception") f=pure none) :
  PS X (.Assign [.Attribute o f pos'] value pos) (zq8 C f ta tv):=by
 intro pins s σ H D I h;refine plainObj_wpAny_Assign_Attribute (thn (hv pins s σ H _ I h) fun u s1 ⟨y,H1,I1,ry,q⟩=>thn (ha pins s1 σ H1 _ I1 q) fun ov s2 ⟨x,H2,I2,rx,e,ex,ee,q2⟩=>?_) hs;subst ex;obtain rfl:ov=Value.ref e:=rx;obtain⟨nm,q,bs,sn,sub,ab,col,dd,k0,k1,k2,k3,k5,mN,hC,hn⟩:=c.at I2.kIn;obtain⟨⟨ob,vs,he,hc,hd,hdat,hz,h1⟩,_⟩:=I2.hok e _ ee;obtain⟨hp,g,dr,tk,os⟩:=s2;refine zn9 hC hn (PySem.W.ns_none_of I2.kIn hn c.sa) (PySem.W.ns_none_of I2.kIn hn hna) hB he hc hd hdat fun h' tk' he' ns' kp=>?_;have hd0:H2 hp.objs.size=none:=I2.hok.fresh (zAi _);have nde:hp.objs.size≠e:=fun z=>by rw[z,ee] at hd0;cases hd0
 refine⟨σ,_,?_,q2 hp.objs.size hd0 nde⟩;have new:∀b,H2 b=none->b≠hp.objs.size->upd (upd H2 hp.objs.size (.xd [(f,y)])) e (.ext (XN e C (some hp.objs.size))) b=none:=fun b z1 z2=>by
  rw[zae (fun w=>by rw[w,ee] at z1;cases z1),zae z2];exact z1
 have old:∀b u,H2 b=some u->(∀ψ,u≠.ext ψ)->upd (upd H2 hp.objs.size (.xd [(f,y)])) e (.ext (XN e C (some hp.objs.size))) b=some u:=fun b u z1 z2=>by
  rw[zae (fun w=>by rw[w,ee] at z1;cases z1;exact z2 _ rfl),zae (fun w=>by rw[w,hd0] at z1;cases z1)];exact z1
 have ths:∀b o,hp.get? b=some o->∃o',h'.get? b=some o':=fun b o z=>by
  by_cases w:b=e
  ·exact⟨_,by rw[w];exact he'⟩
  ·exact⟨_,kp b o w z⟩
 refine I2.un (s:=⟨hp,g,dr,tk,os⟩) (h':=h') (t':=tk') ⟨fun b o z1 z2 _ _=>kp b o (fun w=>by rw[w,ee] at z2;cases z2) z1,fun b o z1 z2 _ _=>⟨o.slots,kp b o (fun w=>by rw[w,ee] at z2;cases z2) z1⟩,
  fun b o z1 z2 _=>new b z2 (zBe (Heap.lt_size z1)),fun b o z _=>ths b o z,fun b xs z=>old b _ z (fun _ w=>by cases w),fun b o u z=>old b _ z (fun _ w=>by cases w),
  fun b ps z=>⟨#[],by rw[old b _ z (fun _ w=>by cases w)];simp⟩⟩ (fun b u z=>?_)
 by_cases w:b=e
 ·subst w;rw[upd_same] at z;cases z
  exact⟨⟨_,vs,he',hc,rfl,hdat,hz,h1⟩,⟨_,he'⟩,XN.mono⟩
 ·rw[zae w] at z;by_cases w2:b=hp.objs.size
  ·subst w2;rw[upd_same] at z;cases z
   refine⟨_,ns',fun k=>?_⟩;show RelO (List.lookup k [(f,y)]) (if k=f then some u else none);by_cases hk:k=f
   ·subst hk;rw[if_pos rfl,zCa,beq_self_eq_true];exact ry
   ·rw[if_neg hk,zCa,beq_eq_false_iff_ne.mpr hk];exact True.intro
  ·rw[zae w2] at z;refine(I2.hok b u z).stay (fun c v hcv hg=>?_) (fun c hcv=>?_) fun c xs hcv=>old c _ hcv (fun _ w=>by cases w)
   ·rcases hcv with rfl | hcv
    ·exact kp _ v w hg
    ·exact kp c v (fun w'=>by rw[w',ee] at hcv;cases hcv) hg
   ·exact old c _ hcv (fun _ w=>by cases w)
end
end L2
namespace L2
open PySem PySem.Spec PyProof.Rows
def zq5(C:Addr):Sp:=fun vs H Q _=>∃(e:Addr) (z:Int),vs=[.ref e,.int z]/\H e=some (.ext (XN e C none)) /\
 ∀d,H d=none->d≠e->Q .non (upd (upd H d (.xd [("place",.int z)])) e (.ext (XN e C (some d))))
def zgy(C:Addr)(E:XK)(ta:TA):TS:=fun _ σ H=>ta σ H fun vs H1=>∃z,vs=[.int z]/\∀d,H1 d=none->E (.ref C) (some d) (upd H1 d (.xd [("place",.int z)]))
theorem zqD{K:PySem.W.Frag}{h:Heap}{f:Addr}(X:K.In h)(e:PySem.W.isFn K (.ref f)=true):∃o,h.get? f=some o/\o.cls=.type "function" := by
 obtain⟨o,ho,hc⟩:=Option.map_eq_some_iff.mp (show(K.lookup f).map (·.cls)=some (.type "function") from beq_iff_eq.mp e);exact⟨o,X _ _ ho,hc⟩
section
variable{X:Cx}{pins:List (Addr×Obj)}{σ:St}{H:Hp}{s:Shared}{e:Addr}
theorem Inv.neL(I:Inv X pins σ H s)(h:s.heap.get? e=none):e≠X.env.locals:=fun z=>by
 obtain⟨m,⟨o,_,_,ho,_⟩,_⟩:=I.loc;rw[<-z,h] at ho;cases ho
theorem Inv.neC(I:Inv X pins σ H s)(h:s.heap.get? e=none):∀x c,X.env.cells.lookup x=some c->c≠e:=fun x c q z=>by
 obtain⟨v,o,ho,_⟩:=I.cell x c q;rw[z,h] at ho;cases ho
theorem Inv.neP(I:Inv X pins σ H s)(h:s.heap.get? e=none):∀p∈X.pn++pins,p.1≠e:=fun p hp z=>by
 have:=(I.pin p hp).1;rw[z,h] at this;cases this
end
section
variable{X:Cx}{x:Str}{np cpos pos:Pos}{C N f:Addr}{E:XK}{k:Nat}{fd:FuncData}{ps:List Str}{e0:Expr}{es:List Expr}{t:TA}
theorem zlY(c:XCls X.K C N)(hi:PySem.W.nsIn X.K N "__init__" = some (some (.ref f)))(hf:PySem.W.isFn X.K (.ref f)=true)(F:zdR X.prog X.w X.K X.mg X.base CX0 k f fd ps (zq5 C))(hr:Room (k+1) X.A)(hb:Binds X.K fd ps [])
  (hps:ps.length=2) (hg:Gl X x) (hm:X.mg x=some (.ref C)) (hc:X.calm=true) (hx:X.ex=[]) (hl:XLv X E) (ha:PA X (e0::es) t) (hdb:(x == ("__debug__" : Str))=false:=by decide)
  (he:starEach (e0::es) X.env=(false,eval e0 X.env)::starEach es X.env:=by rfl) (hpl:(backTo cpos (starEach es X.env)).any (·.1)=false:=by rfl) :
  PS X (.Raise (some (.Call (.Name x np) (e0::es) [] cpos)) none pos) (zgy C E t):=by
 intro pins s σ H D I h;rw[arm_exec_Raise];refine wpAny_bind (wpAny_standAt ?_);show wpAny _ _ (raiseStmt X.env (some (do let v <-eval (.Call (.Name x np) (e0::es) [] cpos) X.env;standAt pos;pure v)) none) _ _ _;refine zn_ (C:=C) (I.ok.hd hc) (wpAny_bind (thn (Q:=fun v s1=>∃e oe vs,v=.ref e/\(∃nm q N bs hdct sn sub ab col dd k0 k1 k2 k3 k5 newId,s1.heap.get? C=some (excClassObj nm q C N bs bmX hdct sn sub ab col dd k0 k1 k2 k3 k5 newId)) /\
   s1.heap.get? e=some oe/\oe.cls=.ref C/\oe.data=.fields vs/\vs[1]?=some .none/\X.xe (.ref e) s1) ?_ fun v s1 q=>wpAny_bind (wpAny_standAt (wpAny_pure q))))
 refine wpAny_Call_Name_kw (zcE I hg hm ?_ hdb);refine PySem.W.callWith_K (h₀:=X.base) I.ok.mod.kin c.kp (thn (ha cpos pins s σ H _ I h) fun us s1 ⟨vs,H1,I1,r,z,ev,q⟩=>⟨I1.kIn,?_⟩) he hpl;subst ev;obtain⟨u,eu,tok,hu⟩:=zgJ r;subst eu hu;obtain⟨nm,qn,bs,sn,sub,ab,col,dd,k0,k1,k2,k3,k5,mN,hC,hn⟩:=c.at I1.kIn;obtain⟨oI,hfo,hfc⟩:=zqD I1.kIn hf;obtain⟨hp,g,dr,tk,os⟩:=s1;refine wpAny_call_exc_init PySem.F.excBase_Exception hC hn (zkz I1.kIn hn hi) hfo hfc (fun h' e mx=>?_) (by show 1<=sizeLine;decide);have I2:Inv X pins σ H1 ⟨h',g,dr,tk,os⟩:=I1.kept (t':=tk) mx.keeps;have hn1:H1 e=none:=I1.hok.none_of mx.new;obtain⟨t0,hE,_⟩:=mx.there;have s0:=I1.new0 hx mx.new;have I3:Inv X pins σ (upd H1 e (.ext (XN e C none))) ⟨h',g,dr,tk,os⟩:=I2.track (φ:=XN e C none) hn1 ⟨_,hE⟩ ⟨_,_,hE,rfl,rfl,rfl,(by show 1<6;decide),rfl⟩ XN.mono s0 (I1.neL mx.new) (I1.neC mx.new) (I1.neP mx.new);refine wpAny_call (codeAny_mono (F.run (X.A.under (.builtin "type.__call__" ⟨.ref C::[.int z tok],[]⟩)) X.stack ⟨h',g,dr,tk,os⟩ (upd H1 e (.ext (XN e C none))) ⟨.ref e::[.int z tok],[]⟩ (.ref e::[.int z tok]) [.ref e,.int z]
  (fun v H'=>v=.non/\∃d,H1 d=none/\d≠e/\H'=upd (upd (upd H1 e (.ext (XN e C none))) d (.xd [("place",.int z)])) e (.ext (XN e C (some d)))) E0 (hr.make C _ []) (I3.env0.make C _ [])
  (by have:=hb ⟨h',g,dr,tk,os⟩ (.ref e::[.int z tok]) I3.kIn (by rw[hps];rfl);simpa using this) (.cons rfl (.cons ⟨tok,rfl⟩ .nil))
  ⟨e,z,rfl,upd_same,fun d hd hde=>⟨rfl,d,by rw[zae hde] at hd;exact hd,hde,rfl⟩⟩) fun r s' hq=>?_)
 cases r with
 | error x=>exact False.elim hq
 | ok fl =>
  cases fl with
  | next=>exact False.elim hq
  | brk=>exact False.elim hq
  | cont=>exact False.elim hq
  | ret u =>
   obtain⟨v,H4,I4,rv,ev,d,hd,hde,eH⟩:=I3.after hq;subst ev;have hu:u=Value.none:=rv;subst hu;have h4:H4 e=some (.ext (XN e C (some d))):=by rw[eH,upd_same]
   obtain⟨xn,_⟩:=I4.hok e _ h4;obtain⟨oe,ws,he4,hc4,hd4,hdat,hz4,h14⟩:=id xn;obtain⟨nm',qn',bs',sn',sub',ab',col',dd',k0',k1',k2',k3',k5',mN',hC',_⟩:=c.at I4.kIn;have eD:zjW H4 e=upd H1 d (.xd [("place",.int z)]):=by
    rw[eH];funext b;by_cases q1:b=e
    ·subst q1;rw[del_same,zae (Ne.symm hde),hn1]
    ·rw[zi9 q1,zae q1];by_cases q2:b=d
     ·subst q2;rw[upd_same,upd_same]
     ·rw[zae q2,zae q2,zae q1]
   refine⟨rfl,e,oe,ws,rfl,⟨nm',qn',N,bs',true,sn',sub',ab',col',dd',k0',k1',k2',k3',k5',_,hC'⟩,he4,hc4,hdat,h14,?_⟩;refine hl pins σ (zjW H4 e) s' e (.ref C) (some d) none (I4.drop h4 s0) xn.at (fun b hb=>?_) (by rw[eD];exact q d hd);rcases hb with rfl | hb
   ·exact⟨del_same,s0⟩
   ·cases hb
end
def zpc(C:Addr)(f:Str)(ta:TE):TE:=fun σ H Q=>ta σ H fun x H1=>∃e d fs v,x=.ref e/\H1 e=some (.ext (XU e C (some d)))/\H1 d=some (.xd fs)/\fs.lookup f=some v/\Q v H1
section
variable{X:Cx}{o:Expr}{f:Str}{pos:Pos}{C N:Addr}{ta:TE}
theorem zoq(he:PE X o ta)(hb:attributeBase o f X.env (eval o X.env)=eval o X.env)(c:XCls X.K C N)(hna:PySem.W.nsIn X.K N f=some none)(hB:typeLookup (.type "Exception") f=pure none):PE X (.Attribute o f pos) (zpc C f ta):=by
 intro pins s σ H Q I h;refine zlD hb (thn (he pins s σ H _ I h) fun u s1 ⟨x,H1,I1,rx,e,d,fs,v,ex,ee,ed,l,q⟩=>?_);subst ex;obtain rfl:u=Value.ref e:=rx;obtain⟨nm,qn,bs,sn,sub,ab,col,dd,k0,k1,k2,k3,k5,mN,hC,hn⟩:=c.at I1.kIn;obtain⟨⟨ob,vs,ho,hc,hd,hdat⟩,_⟩:=I1.hok e _ ee;obtain⟨mA,n1,rel⟩:=I1.hok d _ ed;have hv:=rel f;rw[l] at hv;obtain⟨w',ew,rw'⟩:=RelO.some_of hv;obtain⟨hp,g,dr,tk,os⟩:=s1;have hde:d≠e:=fun z=>by rw[z,ee] at ed;cases ed
 refine zn8 hC hn (PySem.W.ns_none_of I1.kIn hn c.ga) (PySem.W.ns_none_of I1.kIn hn c.gr) (PySem.W.ns_none_of I1.kIn hn hna) hB ⟨ob,ho,hc,(fun c q=>by rw[hdat] at q;cases q),.inr ⟨d,hd,hde,n1⟩⟩ ew (PySem.W.handedOut_of (zin rw')) ?_;exact⟨v,H1,I1.tok _,rw',q⟩
end
end L2
namespace L2
open PySem PySem.Spec PyProof.Rows
abbrev zp6(X:Cx):St:=List.replicate X.N.length none
theorem zjO{n:Nat}{i:Nat}{v:V}(h:(List.replicate n (none:Option V))[i]?=some (some v)):False:=by
 rw[List.getElem?_replicate] at h;split at h<;>cases h
section
variable{X:Cx}{pins:List (Addr×Obj)}{σ:St}{H:Hp}{s:Shared}{e:Addr}{h':Heap}
theorem Inv.forget(I:Inv X pins σ H s):Inv X pins (zp6 X) H s:=I.weak (by rw[zDt,I.len]) fun i v q=>(zjO q).elim
theorem Inv.land{T:Option Addr}(I:Inv X pins σ H s)(hf:Fresh X.s_0.heap H e T)(hL:∀b,b=e\/T=some b->b≠X.env.locals)(hC:∀b,b=e\/T=some b->∀x c,X.env.cells.lookup x=some c->c≠b)(hP:∀b,b=e\/T=some b->∀p∈X.pn++pins,p.1≠b)
  (keep:∀b o,b≠e->T≠some b->b∉frs X.stack->s.heap.get? b=some o->h'.get? b=some o) (slot:∀b o,b≠e->T≠some b->s.heap.get? b=some o->∃sl,h'.get? b=some {o with slots:=sl}) :
  Inv X pins σ H {s with heap:=h'}:=by
 have nfr:∀b,b≠X.env.locals->b∉X.fs->b∉frs X.stack:=fun b z1 z2 z=>(zAe (I.stkSub b z)).elim z1 z2;have nL:∀b o,X.s_0.heap.get? b=some o->b≠X.env.locals:=fun b o q=>zBe (zAq (Heap.lt_size q) I.ok.above);have cellK:∀x c,X.env.cells.lookup x=some c->∀v,s.heap.IsCell c v->h'.IsCell c v:=fun x c q v ⟨o,ho,hd⟩=>by
  obtain⟨sl,z⟩:=slot c o (hC e (.inl rfl) x c q) (fun z=>hC c (.inr z) x c q rfl) ho;exact⟨_,z,hd⟩
 refine⟨I.ok,I.os,I.bare,⟨fun b o q n hb hx=>?_,fun b o q n hb hx=>?_,I.base.free,fun b o q hx=>?_,I.base.tups,I.base.frzs,I.base.tbls⟩,?_,fun x c q=>?_,I.free,I.freeC,fun p hp=>?_,fun b u q=>?_,I.len⟩
 ·exact keep b o (hf.ne q).1 (hf.ne q).2 (nfr b (nL b o q) hb) (I.base.keep b o q n hb hx)
 ·obtain⟨sl,e1⟩:=I.base.slot b o q n hb hx;obtain⟨sl',e2⟩:=slot b _ (hf.ne q).1 (hf.ne q).2 e1;exact⟨sl',e2⟩
 ·obtain⟨o',e1⟩:=I.base.there b o q hx;obtain⟨sl,e2⟩:=slot b o' (hf.ne q).1 (hf.ne q).2 e1;exact⟨_,e2⟩
 ·obtain⟨m,⟨o,es,ep,ho,r⟩,hl⟩:=I.loc;obtain⟨sl,z⟩:=slot _ o (Ne.symm (hL e (.inl rfl))) (fun z=>hL _ (.inr z) rfl) ho;refine⟨m,⟨_,es,ep,z,r⟩,fun i x v e1 e2 e3=>?_⟩;obtain⟨u,ru,l⟩:=hl i x v e1 e2 e3;refine⟨u,ru,?_⟩;rcases l with l|⟨k,c,ec,z⟩
  ·exact .inl l
  ·exact .inr ⟨k,c,ec,cellK x c ec _ z⟩
 ·obtain⟨v,z⟩:=I.cell x c q;exact⟨v,cellK x c q v z⟩
 ·obtain⟨q,n,ne',nf,d⟩:=I.pin p hp;exact⟨keep p.1 p.2 (hP e (.inl rfl) p hp) (fun z=>hP p.1 (.inr z) p hp rfl) (nfr p.1 ne' nf) q,n,ne',nf,d⟩
 ·have no:∀c w,H c=some w->c∉frs X.stack:=fun c w z y=>by
   have:=I.stkFree c y;rw[z] at this;cases this
  refine(I.hok b u q).stay (fun c v hc hg=>?_) (fun _ z=>z) fun _ _ z=>z;rcases hc with rfl | hc
  ·exact keep _ v (hf.no q).1 (hf.no q).2 (no _ _ q) hg
  ·exact keep c v (hf.no hc).1 (hf.no hc).2 (no _ _ hc) hg
theorem Inv.renamed{m':Str->Option Value}{t':Nat}(I:Inv X pins σ H s)(sb:Heap.SameBut X.env.locals s.heap h')(hn:h'.Ns X.env.locals m'):Inv X pins (zp6 X) H {s with heap:=h',toks:=t'}:=by
 have nL:∀b o,X.s_0.heap.get? b=some o->b≠X.env.locals:=fun b o q=>zBe (zAq (Heap.lt_size q) I.ok.above);refine⟨I.ok,I.os,I.bare,⟨fun b o q n hb hx=>?_,fun b o q n hb hx=>?_,I.base.free,fun b o q hx=>?_,I.base.tups,I.base.frzs,I.base.tbls⟩,⟨m',hn,fun i x v e1 e2 e3=>(zjO e2).elim⟩,fun x c q=>?_,I.free,I.freeC,fun p hp=>?_,fun b u q=>?_,zDt⟩
 ·exact(sb.2 b (nL b o q)).trans (I.base.keep b o q n hb hx)
 ·obtain⟨sl,e1⟩:=I.base.slot b o q n hb hx;exact⟨sl,(sb.2 b (nL b o q)).trans e1⟩
 ·obtain⟨o',e1⟩:=I.base.there b o q hx;exact⟨o',(sb.2 b (nL b o q)).trans e1⟩
 ·obtain⟨v,z⟩:=I.cell x c q;exact⟨v,z.sameBut sb (I.cne x c q)⟩
 ·obtain⟨q,n,ne,nf,d⟩:=I.pin p hp;exact⟨(sb.2 p.1 ne).trans q,n,ne,nf,d⟩
 ·have no:∀c w,H c=some w->c≠X.env.locals:=fun c w z y=>by rw[y,I.free] at z;cases z
  refine(I.hok b u q).stay (fun c v hc hg=>(sb.2 c ?_).trans hg) (fun _ z=>z) fun _ _ z=>z;rcases hc with rfl | hc
  ·exact no _ _ q
  ·exact no c _ hc
end
abbrev Cx.tb(X:Cx)(E:Value->Shared->Prop)(pn:List (Addr×Obj)):Cx:={X with xe:=E,pn:=pn}
abbrev Cx.hnd(X:Cx)(e:Addr)(pn:List (Addr×Obj)):Cx:={X with A:=X.A.mark (some (.ref e)),calm:=false,pn:=pn,xe:=fun _ _=>False}
section
variable{X:Cx}{pins pn:List (Addr×Obj)}{σ:St}{H:Hp}{s:Shared}{e:Addr}{E:Value->Shared->Prop}
theorem Cx.Ok.tb(ok:X.Ok):(X.tb E pn).Ok:=⟨ok.mod,ok.kind,ok.glob,ok.blt,ok.above,ok.inj,ok.has,ok.cab,ok.hd,ok.frames,ok.stk,ok.exf,ok.bs,ok.bsz,ok.noex,ok.exfs,ok.funs,ok.frf⟩
theorem Cx.Ok.untb(ok:(X.tb E pn).Ok):X.Ok:=⟨ok.mod,ok.kind,ok.glob,ok.blt,ok.above,ok.inj,ok.has,ok.cab,ok.hd,ok.frames,ok.stk,ok.exf,ok.bs,ok.bsz,ok.noex,ok.exfs,ok.funs,ok.frf⟩
theorem Cx.Ok.hnd(ok:X.Ok):(X.hnd e pn).Ok:=⟨ok.mod,ok.kind,ok.glob,ok.blt,ok.above,ok.inj,ok.has,ok.cab,(fun z=>Bool.noConfusion z),ok.frames,ok.stk,ok.exf,ok.bs,ok.bsz,ok.noex,ok.exfs,ok.funs,ok.frf⟩
theorem Inv.tb(I:Inv X pins σ H s):Inv (X.tb E (X.pn++pins)) [] σ H s:=⟨I.ok.tb,I.os,I.bare,I.base,I.loc,I.cell,I.free,I.freeC,fun p hp=>I.pin p (by simpa using hp),I.hok,I.len⟩
theorem Inv.untb{pins':List (Addr×Obj)}(I:Inv (X.tb E (X.pn++pins)) pins' σ H s):Inv X pins σ H s:=⟨I.ok.untb,I.os,I.bare,I.base,I.loc,I.cell,I.free,I.freeC,fun p hp=>I.pin p (zAj _ hp),I.hok,I.len⟩
theorem Inv.hnd(I:Inv X pins σ H s):Inv (X.hnd e (X.pn++pins)) [] σ H s:=⟨I.ok.hnd,I.os,I.bare,I.base,I.loc,I.cell,I.free,I.freeC,fun p hp=>I.pin p (by simpa using hp),I.hok,I.len⟩
theorem Inv.unhnd(ok:X.Ok)(I:Inv (X.hnd e (X.pn++pins)) [] σ H s):Inv X pins σ H s:=⟨ok,I.os,I.bare,I.base,I.loc,I.cell,I.free,I.freeC,fun p hp=>I.pin p (zAj _ hp),I.hok,I.len⟩
theorem zdS{M:Model}{A:Around}{fr:Option Addr}{E':Value->Shared->Prop}{cls:Value}{od:Option Addr}{T:Addr}{Q:Unit->Shared->Prop}(I:Inv X pins σ H s)(x:XAt s.heap e cls od (some T))(hf:Fresh X.s_0.heap H e (some T))
  (hL:T≠X.env.locals) (hC:∀x c,X.env.cells.lookup x=some c->c≠T) (hP:∀p∈X.pn++pins,p.1≠T)
  (h:∀s',Inv X pins σ H s'->XAt s'.heap e cls od (some T)->Q () s'):wpAny M A (setFlight (.ref e) fr) Q E' s:=by
 have hte:T≠e:=by
  obtain⟨_,_,_,_,_,_,_,h1⟩:=x;rcases h1 with⟨z,_⟩|⟨t,_,_,z,hte,_⟩
  ·cases z
  ·cases z;exact hte
 refine zjh x fun h' k x'=>h _ ?_ x';refine Inv.land (e:=T) (T:=none) I (fun b hb=>?_) (fun b hb=>?_) (fun b hb=>?_) (fun b hb=>?_) (fun b o z1 _ _ z=>(k b z1).trans z) (fun b o z1 _ z=>⟨o.slots,(k b z1).trans z⟩)
 ·rcases hb with rfl | hb
  ·exact hf _ (.inr rfl)
  ·cases hb
 ·rcases hb with rfl | hb
  ·exact hL
  ·cases hb
 ·rcases hb with rfl | hb
  ·exact hC
  ·cases hb
 ·rcases hb with rfl | hb
  ·exact hP
  ·cases hb
end
def znJ(n i:Nat)(C:Addr)(th:TS)(rt:VK):XK:=fun cls od H'=>cls=.ref C/\∀e,H' e=none->th {nx:=fun _ _=>False,rt:=rt} ((List.replicate n none).set i (some (.ref e))) (upd H' e (.ext (XU e C od)))
def zpd(n i:Nat)(C:Addr)(tb:XK->TS)(th:TS):TS:=fun D σ H=>tb (znJ n i C th D.rt) D σ H
def znK(n:Nat)(C:Addr)(th:TS)(rt:VK):XK:=fun cls _ H'=>cls=.ref C/\th {nx:=fun _ _=>False,rt:=rt} (List.replicate n none) H'
def zpe(n:Nat)(C:Addr)(tb:XK->TS)(th:TS):TS:=fun D σ H=>tb (znK n C th D.rt) D σ H
section
variable{X:Cx}{x y:Str}{np pos hpos:Pos}{C N:Addr}{body hb:List Stmt}{b0:Stmt}{tb:XK->TS}{th:TS}{i:Nat}
theorem zk3{pins:List (Addr×Obj)}{E:Value->Shared->Prop}{D:zdc}{f:Flow}{s:Shared}(h:SP (X.tb E (X.pn++pins)) [] D f s):SP X pins D f s:=by
 cases f with
 | next=>obtain⟨σ',H',I',q⟩:=h;exact⟨σ',H',I'.untb,q⟩
 | brk=>obtain⟨σ',H',I',q⟩:=h;exact⟨σ',H',I'.untb,q⟩
 | cont=>obtain⟨σ',H',I',q⟩:=h;exact⟨σ',H',I'.untb,q⟩
 | ret u=>obtain⟨v,σ',H',I',q⟩:=h;exact⟨v,σ',H',I'.untb,q⟩
theorem ze6{prog:Program}{w:World}{A:Around}{env:Env}{Q:Flow->Shared->Prop}{E:Value->Shared->Prop}{s:Shared}(h:Q .next s):wpAny (model prog w) A (execs [] env) Q E s:=by
 first | exact wpAny_pure h|(unfold execs;exact wpAny_pure h)|(simp only[execs];exact wpAny_pure h)
theorem zol(c:XCls X.K C N)(hg:Gl X x)(hm:X.mg x=some (.ref C))(hst:X.stack=X.env::X.outer)(hfr:X.env.frame=some X.env.locals)(hex:X.ex=[])(hN:X.N.Nodup)(hi:X.N[i]?=some y)(hy:X.env.scope.names.lookup y=some .local)
  (hB:∀(xe:Value->Shared->Prop) (pn:List (Addr×Obj)) (E:XK),zbl (CXE X.prog X.w) (X.tb xe pn) E->PSs (X.tb xe pn) body (tb E))
  (hH:∀(e:Addr) (pn:List (Addr×Obj)),PSs (X.hnd e pn) (b0::hb) th) (hdb:(x == ("__debug__" : Str))=false:=by decide) :
  PS X (.Try body [.ExceptHandler (some (.Name x np)) (some y) (b0::hb) hpos] [] [] pos) (zpd X.N.length i C tb th):=by
 intro pins s σ H D I h;refine wpAny_Try_except ?_;refine wpAny_mono (hB _ (X.pn++pins) (znJ X.N.length i C th D.rt) ?hp [] s σ H D I.tb h) (fun f s1 q=>?fin) (fun _ _ z=>z)
 case fin =>
  have q:=zk3 q;cases f with
  | next=>exact ze6 q
  | brk=>exact q
  | cont=>exact q
  | ret u=>exact q
 case hp =>
  intro pins' σ' H1 s1 ev s2 I1 cx;obtain⟨e,cls,od,T,H2,rfl,os,bare,un,hok,xa,hf,rfl,q⟩:=cx;have I2:Inv X pins σ' H2 s2:=Inv.untb (I1.call' (ch:=[]) os un hok bare (fun b hb=>absurd hb (by simp)));have I1':=I1.untb;have hn:H2 e=none:=(hf e (.inl rfl)).1;have s0:=I1'.new0 hex (hf e (.inl rfl)).2;refine zix (base:=X.base) (env:=X.env) (outer:=X.outer) (A:=X.A) (A':=X.A) (by rw[I2.ok.frames,hst]) (by rw[<-hst];exact I2.stack) hfr xa fun h' T' hT keep slot x'=>?_;have I3:Inv X pins σ' H2 {s2 with heap:=h'}:=I2.land (fun b hb=>⟨(hf b hb).1,I1'.new0 hex (hf b hb).2⟩) (fun b hb=>I1'.neL (hf b hb).2) (fun b hb=>I1'.neC (hf b hb).2) (fun b hb=>I1'.neP (hf b hb).2) (by rw[hst];exact keep) slot;have fT:(H2 T'=none/\X.s_0.heap.get? T'=none)/\T'≠X.env.locals/\(∀x c,X.env.cells.lookup x=some c->c≠T')/\∀p∈X.pn++pins,p.1≠T':=by
   rcases hT with hT | hT
   ·exact⟨⟨I2.hok.none_of hT,I2.new0 hex hT⟩,I2.neL hT,I2.neC hT,I2.neP hT⟩
   ·have z:=hf T' (.inr hT);exact⟨⟨z.1,I1'.new0 hex z.2⟩,I1'.neL z.2,I1'.neC z.2,I1'.neP z.2⟩
  have f3:Fresh X.s_0.heap H2 e (some T'):=fun b hb=>by
   rcases hb with rfl | hb
   ·exact⟨hn,s0⟩
   ·cases hb;exact fT.1
  obtain⟨nm,qn,bs,sn,sub,ab,col,dd,k0,k1,k2,k3,k5,mN,hC,_⟩:=c.at I3.kIn;obtain⟨oe,vs,he,hc,_⟩:=id x';refine wpAny_handleBy_cons (codeAny_handlers_test (zcE (X:=X.hnd e (X.pn++pins)) I3.hnd hg hm ?_ hdb)) (by intro z;cases z);refine wpAny_excMatches_sub_self (g:=s2.gens) (d:=s2.drawn) (t:=s2.toks) (os:=s2.os) hC he hc (by decide +kernel) ?_;refine codeAny_handlers_suite_as (zdS (X:=X) (s:={s2 with heap:=h'}) I3 x' f3 fT.2.1 fT.2.2.1 fT.2.2.2 fun s4 I34 x4=>?_);obtain⟨oe4,vs4,he4,_⟩:=id x4;have I4:Inv X pins (zp6 X) (upd H2 e (.ext (XU e C od))) s4:=(I34.forget).track (φ:=XU e C od) hn ⟨_,he4⟩ x4.u XU.mono s0 (I1'.neL (hf e (.inl rfl)).2) (I1'.neC (hf e (.inl rfl)).2) (I1'.neP (hf e (.inl rfl)).2);refine zeI (X:=X.hnd e (X.pn++pins)) (v:=V.ref e) I4.hnd hN hi (.inl hy) rfl (fun s5 I5=>?_) (.inr hy);refine wpAny_mono (hH e (X.pn++pins) [] s5 _ _ {nx:=fun _ _=>False,rt:=D.rt} I5 (q e hn)) (fun f s6 sp=>?_) (fun _ _ z=>z.elim);cases f with
  | next=>obtain⟨_,_,_,z⟩:=sp;exact z.elim
  | brk=>obtain⟨_,_,_,z⟩:=sp;exact z.elim
  | cont=>obtain⟨_,_,_,z⟩:=sp;exact z.elim
  | ret u =>
   obtain⟨v,σ6,H6,I6,rv,q6⟩:=sp;have I6:Inv X pins σ6 H6 s6:=Inv.unhnd I.ok I6;obtain⟨m6,hn6,_⟩:=id I6.loc;refine wpAny_nameGoes (env:=X.env) hy hn6 (by rw[I.ok.kind];rfl) fun h7 m7 hn7 sb=>?_;exact⟨v,_,H6,I6.renamed (t':=s6.toks+1) sb hn7,rv,q6⟩
theorem zom(c:XCls X.K C N)(hg:Gl X x)(hm:X.mg x=some (.ref C))(hst:X.stack=X.env::X.outer)(hfr:X.env.frame=some X.env.locals)(hex:X.ex=[])
  (hB:∀(xe:Value->Shared->Prop) (pn:List (Addr×Obj)) (E:XK),zbl (CXE X.prog X.w) (X.tb xe pn) E->PSs (X.tb xe pn) body (tb E))
  (hH:∀(e:Addr) (pn:List (Addr×Obj)),PSs (X.hnd e pn) (b0::hb) th) (hdb:(x == ("__debug__" : Str))=false:=by decide) :
  PS X (.Try body [.ExceptHandler (some (.Name x np)) none (b0::hb) hpos] [] [] pos) (zpe X.N.length C tb th):=by
 intro pins s σ H D I h;refine wpAny_Try_except ?_;refine wpAny_mono (hB _ (X.pn++pins) (znK X.N.length C th D.rt) ?hp [] s σ H D I.tb h) (fun f s1 q=>?fin) (fun _ _ z=>z)
 case fin =>
  have q:=zk3 q;cases f with
  | next=>exact ze6 q
  | brk=>exact q
  | cont=>exact q
  | ret u=>exact q
 case hp =>
  intro pins' σ' H1 s1 ev s2 I1 cx;obtain⟨e,cls,od,T,H2,rfl,os,bare,un,hok,xa,hf,rfl,q⟩:=cx;have I2:Inv X pins σ' H2 s2:=Inv.untb (I1.call' (ch:=[]) os un hok bare (fun b hb=>absurd hb (by simp)));have I1':=I1.untb;have hn:H2 e=none:=(hf e (.inl rfl)).1;have s0:=I1'.new0 hex (hf e (.inl rfl)).2;refine zix (base:=X.base) (env:=X.env) (outer:=X.outer) (A:=X.A) (A':=X.A) (by rw[I2.ok.frames,hst]) (by rw[<-hst];exact I2.stack) hfr xa fun h' T' hT keep slot x'=>?_;have I3:Inv X pins σ' H2 {s2 with heap:=h'}:=I2.land (fun b hb=>⟨(hf b hb).1,I1'.new0 hex (hf b hb).2⟩) (fun b hb=>I1'.neL (hf b hb).2) (fun b hb=>I1'.neC (hf b hb).2) (fun b hb=>I1'.neP (hf b hb).2) (by rw[hst];exact keep) slot;have fT:(H2 T'=none/\X.s_0.heap.get? T'=none)/\T'≠X.env.locals/\(∀x c,X.env.cells.lookup x=some c->c≠T')/\∀p∈X.pn++pins,p.1≠T':=by
   rcases hT with hT | hT
   ·exact⟨⟨I2.hok.none_of hT,I2.new0 hex hT⟩,I2.neL hT,I2.neC hT,I2.neP hT⟩
   ·have z:=hf T' (.inr hT);exact⟨⟨z.1,I1'.new0 hex z.2⟩,I1'.neL z.2,I1'.neC z.2,I1'.neP z.2⟩
  have f3:Fresh X.s_0.heap H2 e (some T'):=fun b hb=>by
   rcases hb with rfl | hb
   ·exact⟨hn,s0⟩
   ·cases hb;exact fT.1
  obtain⟨nm,qn,bs,sn,sub,ab,col,dd,k0,k1,k2,k3,k5,mN,hC,_⟩:=c.at I3.kIn;obtain⟨oe,vs,he,hc,_⟩:=id x';refine wpAny_handleBy_cons (codeAny_handlers_test (zcE (X:=X.hnd e (X.pn++pins)) I3.hnd hg hm ?_ hdb)) (by intro z;cases z);refine wpAny_excMatches_sub_self (g:=s2.gens) (d:=s2.drawn) (t:=s2.toks) (os:=s2.os) hC he hc (by decide +kernel) ?_;refine codeAny_handlers_suite (zdS (X:=X) (s:={s2 with heap:=h'}) I3 x' f3 fT.2.1 fT.2.2.1 fT.2.2.2 fun s4 I34 x4=>?_);refine wpAny_mono (hH e (X.pn++pins) [] _ _ _ {nx:=fun _ _=>False,rt:=D.rt} I34.forget.hnd q) (fun f s6 sp=>?_) (fun _ _ z=>z.elim);cases f with
  | next=>obtain⟨_,_,_,z⟩:=sp;exact z.elim
  | brk=>obtain⟨_,_,_,z⟩:=sp;exact z.elim
  | cont=>obtain⟨_,_,_,z⟩:=sp;exact z.elim
  | ret u =>
   obtain⟨v,σ6,H6,I6,rv,q6⟩:=sp;exact⟨v,σ6,H6,Inv.unhnd I.ok I6,rv,q6⟩
end
end L2
namespace L2
open PySem PySem.Spec PyProof.Rows
theorem ziV{e:Value}{env env':Env}(h:env.frame=env'.frame):noteFrame e env=noteFrame e env':=by unfold noteFrame PySem.frameOf;rw[h]
theorem XAt.moved{h h':Heap}{e:Addr}{cls:Value}{od T:Option Addr}(x:XAt h e cls od T)(k:∀b,b=e\/T=some b->h'.get? b=h.get? b):XAt h' e cls od T:=by
 obtain⟨oe,vs,he,hc,ho,hd,hz,h1⟩:=x;refine⟨oe,vs,(k e (.inl rfl)).trans he,hc,ho,hd,hz,?_⟩;rcases h1 with h1|⟨t,oT,ts,e1,hte,h1,hT,hdT,h3⟩
 ·exact .inl h1
 ·exact .inr ⟨t,oT,ts,e1,hte,h1,(k t (.inr e1)).trans hT,hdT,h3⟩
section
variable{X:Cx}
theorem znp{E:XK}{pins:List (Addr×Obj)}{s:Shared}{σ:St}{H:Hp}{Q:VK}{elt tg iter:Expr}{ifs:List Expr}{scope:Scope}{own:List (Str×Nat)}{pos pos':Pos}{wi:TI}{g:TG}{tt:TT}{te:TE}{use:Option (Value->Sem Unit)}{Qf:Value->Shared->Prop}
  (hc:X.calm=true) (hN:X.N.Nodup) (I:Inv X pins σ H s) (hi:PI X tg iter wi) (ok:zhO X.N X.env.scope scope own)
  (hg:∀(s:Shared) (H:Hp) (C:Addr) (cl:List (Str×Addr)) (fp:List Addr),PG (X.blk s H scope (compEnvC scope cl C X.env) fp) tg g) (ht:∀(s:Shared) (H:Hp) (C:Addr) (cl:List (Str×Addr)) (fp:List Addr),PTs (X.blk s H scope (compEnvC scope cl C X.env) fp) ifs tt)
  (he:∀(s:Shared) (H:Hp) (C:Addr) (cl:List (Str×Addr)) (fp:List Addr) (xe:Value->Shared->Prop) (pn:List (Addr×Obj)),zbl (CXE X.prog X.w) ((X.blk s H scope (compEnvC scope cl C X.env) fp).tb xe pn) E->PE ((X.blk s H scope (compEnvC scope cl C X.env) fp).tb xe pn) elt te)
  (hex:X.ex=[]) (hst:X.stack=X.env::X.outer) (hfr:X.env.frame=some X.env.locals) (hl:XLv X E) (hs:∀x,foldedSetIterable iter X.env x=pure x)
  (h:tLc wi g tt te (own.map (·.2)) σ H Q)
  (hRR:∀D C s' m H',Inv X pins σ H' s'->Q (.ref D) H'->s'.heap.Ns C m->zff X pins H' C->compPost (model X.prog X.w) X.A X.xe use Qf (.ref D) C (.ok .next) s') :
  wpAny (model X.prog X.w) X.A (comprehension (.ListComp elt [⟨tg,iter,ifs,0⟩] scope pos) scope X.env pos' (newList []) false (eval iter X.env) use) Qf X.xe s:=by
 have hfree:∀y∈scope.names,y.2=.free->∃c,X.env.cells.lookup y.1=some c:=fun y hy e=>by
  rcases ok.free y hy e with k | k
  ·exact I.ok.has _ (.inl k)
  ·exact I.ok.has _ (.inr k)
 refine wpAny_comprehension_free (use:=use) rfl hs (zhE hfree) ok.kind (fun y hy e=>by rw[ok.uniq y hy,e])
  (thn (hi pins s σ H _ I h) fun xv s1 hx=>thn hx fun itv s2 h2=>?_)
 obtain⟨it,fp,tn,J,H2,e,I2,T,st2,f2,q⟩:=h2;subst e;refine wpAny_newObj_type (zfW ?_) (by show 0<=sizeLine;decide);generalize hD:s2.heap.objs.size=D;have hDn:H2 D=none:=I2.hok.fresh (zDf hD);obtain⟨W,⟨m0,w0⟩,turn⟩:=q D hDn;generalize hs3:({s2 with heap:=s2.heap.push {cls:=.type "list",data:=.seq ([]:List Value).toArray}}:Shared)=s3;have I3:Inv X pins σ (upd H2 D (.lst [])) s3:=by
  rw[<-hs3];refine I2.laid (t':=s2.toks) (fun b o e=>Heap.get?_push_of_some _ e) (zDf hD) ⟨zAx _,[],0,.nil,?_⟩;rw[<-hD];exact Heap.get?_push_size _ rfl
 have h3:s3.heap=s2.heap.push {cls:=.type "list",data:=.seq ([]:List Value).toArray}:=by rw[<-hs3]
 have sz:∀b∈fp,b<s2.heap.objs.size:=fun b hb=>by
  obtain⟨o,e,_⟩:=T.obj _ _ st2 b hb;exact Heap.lt_size e
 have f3:∀b∈fp,zff X pins (upd H2 D (.lst [])) b/\b<s3.heap.objs.size:=fun b hb=>by
  have hlt:=sz b hb;refine⟨⟨?_,(f2 b hb).2⟩,by rw[h3,Heap.size_push];exact zDh hlt⟩;rw[zae (by rw[<-hD];exact zBe hlt)];exact(f2 b hb).1
 have st3:tn 0 s3.heap:=T.keep _ _ _ st2 fun b _ o e=>by rw[h3];exact Heap.get?_push_of_some _ e
 have I4:=zf9 I3 ok hN f3;have pg:=hg s3 (upd H2 D (.lst [])) s3.heap.objs.size (cellsFrom (s3.heap.objs.size+1) scope.names (zaT X.env.cells scope.names [])) fp;have pt:=ht s3 (upd H2 D (.lst [])) s3.heap.objs.size (cellsFrom (s3.heap.objs.size+1) scope.names (zaT X.env.cells scope.names [])) fp;have pe:=he s3 (upd H2 D (.lst [])) s3.heap.objs.size (cellsFrom (s3.heap.objs.size+1) scope.names (zaT X.env.cells scope.names [])) fp;show codeAny _ _ (.compStart (.ListComp elt [⟨tg,iter,ifs,0⟩] scope pos) 0 (.ref it) (.ref D) (compEnvC scope (cellsFrom (s3.heap.objs.size+1) scope.names (zaT X.env.cells scope.names [])) s3.heap.objs.size X.env)) (compPost (model X.prog X.w) X.A X.xe use Qf (.ref D) s3.heap.objs.size) {s3 with heap:=pushCells (s3.heap.push {cls:=.type "dict",data:=.dict #[]}) scope.names};have nfp:∀b∈fp,(upd H2 D (.lst [])) b=none:=fun b hb=>(f3 b hb).1.1;generalize hce:compEnvC scope (cellsFrom (s3.heap.objs.size+1) scope.names (zaT X.env.cells scope.names [])) s3.heap.objs.size X.env=ce at I4 pg pt pe ⊢;have cL:ce.locals=s3.heap.objs.size:=by subst hce;rfl
 generalize hH3:upd H2 D (.lst [])=H3 at I3 I4 pg pt pe w0 nfp f3;generalize hs4:({s3 with heap:=pushCells (s3.heap.push {cls:=.type "dict",data:=.dict #[]}) scope.names}:Shared)=s4 at I4 ⊢;have st4:tn 0 s4.heap:=T.keep _ _ _ st3 fun b _ o e=>by rw[<-hs4];exact pushCells_keeps _ _ _ _ (Heap.get?_push_of_some _ e)
 have stat:∀ {σ':St}{H':Hp}{s':Shared},Inv (X.blk s3 H3 scope ce fp) [] σ' H' s'->(∀b∈fp,H' b=none)->∀b∈fp,zff (X.blk s3 H3 scope ce fp) [] H' b:=fun{σ' H' s'} I' hn b hb =>
  ⟨hn b hb,(I'.ok.exf b hb).1,I'.ok.exfs b hb,.inl hb,fun x c e=>(I'.ok.exf b hb).2 x c e,fun p hp=>absurd (show p∈([]:List (Addr×Obj))++[] from hp) (by simp)⟩
 have toX:∀ {ps:List (Addr×Obj)}{σ':St}{H':Hp}{s':Shared},Inv (X.blk s3 H3 scope ce fp) ps σ' H' s'->Inv X pins σ H' s':=fun{ps σ' H' s'} I6=>I3.call' (ch:=fp) I6.os I6.base I6.hok I6.bare fun b hb=>⟨(f3 b hb).1.2.2.2.1,(f3 b hb).1.2.1,(f3 b hb).1.2.2.2.2.1,(f3 b hb).1.2.2.2.2.2⟩;have loop:codeAny (model X.prog X.w) X.A (.compLoop (.ListComp elt [⟨tg,iter,ifs,0⟩] scope pos) 0 (.ref it) (.ref D) ce) (compPost (model X.prog X.w) X.A X.xe use Qf (.ref D) s3.heap.objs.size) s4:=by
  refine ze9 (fun n s'=>∃i H',Inv (X.blk s3 H3 scope ce fp) [] (zbe σ (own.map (·.2))) H' s'/\tn i s'.heap/\(∀b∈fp,H' b=none)/\W i n H') ?_ m0 ⟨0,H3,I4,st4,nfp,w0⟩;rintro n s5 ⟨i,H5,I5,st5,n5,w5⟩;rcases turn i n H5 w5 with⟨stop,qq⟩|⟨go,Nx,hNx,step⟩
  ·have td:=T.done (X.blk s3 H3 scope ce fp) rfl rfl rfl hc i [] s5 _ H5 (fun _ _=>False) I5 (stat I5 n5) st5 stop;refine zgK td fun r s6 ⟨hr,I6⟩=>?_;subst hr;have I7:Inv X pins σ H5 s6:=toX I6;have nC:H5 s3.heap.objs.size=none:=by
    have z:H5 ce.locals=none:=I6.free;rw[cL] at z;exact z
   obtain⟨m,hn,_⟩:=I6.loc;have hn:s6.heap.Ns ce.locals m:=hn;rw[cL] at hn;exact hRR D s3.heap.objs.size s6 m H5 I7 qq hn (I3.fpOk (zAi _) nC)
  ·have ti:=T.item (X.blk s3 H3 scope ce fp) rfl rfl rfl hc i [] s5 _ H5 (fun _ _=>False) I5 (stat I5 n5) st5 go;refine zgK ti fun r s6 ⟨u,hr,h6⟩=>?_;subst hr;refine zgK h6 fun _ s7 ⟨x,H7,I7,r7,y7,st7,n7⟩=>?_;have I7':=I7.pinned (stat I7 n7) (T.obj _ _ st7);refine zgK (pg _ s7 _ H7 x u _ I7' r7 (step x H7 y7)) fun _ s8 ⟨σ8,H8,I8,hw8,q8⟩=>?_;refine zgK (pt _ s8 σ8 H8 _ I8 q8) fun b s9 ⟨H9,I9,q9⟩=>?_;have fin:∀ {s':Shared}{H':Hp},Inv (X.blk s3 H3 scope ce fp) ([]++zc0 fp s7.heap) σ8 H' s'->Nx H'->∃m,m<n/\∃i H',Inv (X.blk s3 H3 scope ce fp) [] (zbe σ (own.map (·.2))) H' s'/\tn i s'.heap/\(∀b∈fp,H' b=none)/\W i m H':=fun{s' H'} I' nx=>by
    obtain⟨m',hm,w'⟩:=hNx H' nx;have pin':∀b∈fp,∀o,s7.heap.get? b=some o->s'.heap.get? b=some o/\H' b=none:=fun b hb o e =>
     let z:=I'.pin (b,o) (zAl _ (zAl _ (zc7 hb e)))
     ⟨z.1,z.2.1⟩
    have hl:(zbe σ (own.map (·.2))).length=σ8.length:=by rw[<-hw8,zcv]
    refine⟨m',hm,i+1,H',(I'.unpinned (pins:=[])).weak hl (fun j v e=>?_),T.keep _ _ _ st7 fun b hb o e=>(pin' b hb o e).1,fun b hb=>?_,w'⟩
    ·rw[<-hw8] at e;exact(zdT e).1
    ·obtain⟨o,e,_⟩:=T.obj _ _ st7 b hb;exact(pin' b hb o e).2
   cases b with
   | false =>
    simp only[zCw,if_false] at q9 ⊢;exact fin I9 q9
   | true =>
    simp only[if_true] at q9 ⊢;refine wpAny_mono (pe _ ([]++([]++zc0 fp s7.heap)) ?hp [] s9 σ8 H9 _ I9.tb q9) (fun z s10 ⟨yv,H10,I10,r10,acc,hD10,hz10,nx⟩=>?fin9) (fun _ _ z=>z)
    case fin9=>exact zn0 (X:=X.blk s3 H3 scope ce fp) I10.untb hD10 hz10 r10 fun s11 I11=>fin I11 nx
    case hp =>
     intro pins' σ' H1 s1 ev t2 I1 cx;obtain⟨e,cls,od,U,Hb,rfl,os,bare,un,hok,xa,hf,qe⟩:=cx;have Ib1:Inv (X.blk s3 H3 scope ce fp) ([]++zc0 fp s7.heap) σ' H1 s1:=I1.untb;have Ib2:Inv (X.blk s3 H3 scope ce fp) ([]++zc0 fp s7.heap) σ' Hb t2:=Inv.untb (I1.call' (ch:=[]) os un hok bare (fun b hb=>absurd hb (by simp)));have J1:=toX Ib1;have J2:=toX Ib2;show wpAny _ _ (noteFrame (.ref e) ce) _ _ _;rw[ziV (show ce.frame=X.env.frame from by rw[<-hce];rfl)];refine zmq (base:=X.base) (env:=X.env) (outer:=X.outer) (by rw[J2.ok.frames,hst]) (by rw[<-hst];exact J2.stack) hfr xa fun h' T' hT keep slot x'=>?_;have K3:Inv X pins σ Hb {t2 with heap:=h'}:=J2.land (fun b hb=>⟨(hf b hb).1,J1.new0 hex (hf b hb).2⟩) (fun b hb=>J1.neL (hf b hb).2) (fun b hb=>J1.neC (hf b hb).2) (fun b hb=>J1.neP (hf b hb).2) (by rw[hst];exact keep) slot;have nE:e≠ce.locals:=Ib1.neL (hf e (.inl rfl)).2;have fT:(Hb T'=none/\X.s_0.heap.get? T'=none)/\T'≠X.env.locals/\(∀x c,X.env.cells.lookup x=some c->c≠T')/\(∀p∈X.pn++pins,p.1≠T')/\T'≠ce.locals:=by
      rcases hT with hT | hT
      ·exact⟨⟨J2.hok.none_of hT,J2.new0 hex hT⟩,J2.neL hT,J2.neC hT,J2.neP hT,Ib2.neL hT⟩
      ·have z:=hf T' (.inr hT);exact⟨⟨z.1,J1.new0 hex z.2⟩,J1.neL z.2,J1.neC z.2,J1.neP z.2,Ib1.neL z.2⟩
     have f4:Fresh X.s_0.heap Hb e (some T'):=fun b hb=>by
      rcases hb with rfl | hb
      ·exact⟨(hf _ (.inl rfl)).1,J1.new0 hex (hf _ (.inl rfl)).2⟩
      ·cases hb;exact fT.1
     obtain⟨m,⟨o,es,ep,ho,r⟩,_⟩:=Ib2.loc;have ho:t2.heap.get? ce.locals=some o:=ho;obtain⟨sl,zs⟩:=slot _ o nE.symm (fun z=>Ib1.neL (hf _ (.inr z)).2 rfl) ho;have nC:Hb s3.heap.objs.size=none:=by
      have z:Hb ce.locals=none:=Ib2.free;rw[cL] at z;exact z
     have ns:h'.Ns ce.locals m:=⟨_,es,ep,zs,r⟩;rw[cL] at ns nE fT;refine⟨m,ns,fun h4 sb cenv hcv=>?_⟩;obtain⟨g0,g1,g2,g3,g4,g5⟩:=I3.fpOk (zAi _) nC;have K4:Inv X pins σ Hb {t2 with heap:=h4}:=K3.turned (t':=t2.toks) (fun b o hb e=>(sb.2 b hb).trans e) g0 g1 g3 g4 g5;have x4:XAt h4 e cls od (some T'):=x'.moved fun b hb=>sb.2 b (by
      rcases hb with rfl | hb
      ·exact nE
      ·cases hb;exact fT.2.2.2.2)
     obtain⟨oe,vs,he4,_,_,hd4,_,h14⟩:=id x4;rcases h14 with⟨z,_⟩|⟨t,oT,ts,_,hte,h14,_⟩
     ·cases z
     unfold PySem.passOn;refine wpAny_bind (wpAny_field he4 hd4 h14 ?_);rw[if_neg (show¬((Value.ref t == Value.none)=true) from by simp)]
     first
      | exact wpAny_bind (wpAny_pure (wpAny_bind (zdS K4 x4 f4 fT.2.1 fT.2.2.1 fT.2.2.2.1 fun s5 I5 x5=>wpAny_throw (hl pins σ Hb s5 e cls od (some T') I5 x5 f4 qe))))
      | exact wpAny_bind (zdS K4 x4 f4 fT.2.1 fT.2.2.1 fT.2.2.2.1 fun s5 I5 x5=>wpAny_throw (hl pins σ Hb s5 e cls od (some T') I5 x5 f4 qe))
 exact codeAny_compStart_list loop (T.self X.A 0 _ _ _ st4 loop)
theorem zp2{E:XK}{elt tg iter:Expr}{ifs:List Expr}{scope:Scope}{own:List (Str×Nat)}{pos:Pos}{wi:TI}{g:TG}{tt:TT}{te:TE}(hc:X.calm=true)(hN:X.N.Nodup)(hi:PI X tg iter wi)(ok:zhO X.N X.env.scope scope own)
  (hg:∀(s:Shared) (H:Hp) (C:Addr) (cl:List (Str×Addr)) (fp:List Addr),PG (X.blk s H scope (compEnvC scope cl C X.env) fp) tg g) (ht:∀(s:Shared) (H:Hp) (C:Addr) (cl:List (Str×Addr)) (fp:List Addr),PTs (X.blk s H scope (compEnvC scope cl C X.env) fp) ifs tt)
  (he:∀(s:Shared) (H:Hp) (C:Addr) (cl:List (Str×Addr)) (fp:List Addr) (xe:Value->Shared->Prop) (pn:List (Addr×Obj)),zbl (CXE X.prog X.w) ((X.blk s H scope (compEnvC scope cl C X.env) fp).tb xe pn) E->PE ((X.blk s H scope (compEnvC scope cl C X.env) fp).tb xe pn) elt te)
  (hex:X.ex=[]) (hst:X.stack=X.env::X.outer) (hfr:X.env.frame=some X.env.locals) (hl:XLv X E) (hs:∀x,foldedSetIterable iter X.env x=pure x:=by intro _;rfl) :
  PE X (.ListComp elt [⟨tg,iter,ifs,0⟩] scope pos) (tLc wi g tt te (own.map (·.2))):=by
 intro pins s σ H Q I h;rw[eval_ListComp];refine znp hc hN I hi ok hg ht he hex hst hfr hl hs h fun D C s' m H' I' q hn f=>⟨m,hn,fun h'' sb=>?_⟩;obtain⟨f0,f1,f2,f3,f4,f5⟩:=f;exact⟨.ref D,H',I'.turned (t':=s'.toks) (fun b o hb e=>(sb.2 b hb).trans e) f0 f1 f3 f4 f5,rfl,q⟩
end
end L2
namespace L2
open PySem PySem.Spec PyProof.Rows
section
variable(P:Program)(w:World)(K:PySem.W.Frag)(mg:Str->Option Value)(base:Heap)(CX:CXT)
structure Cal(x:Str)(k:Nat)(ps:List Str)(sp:Sp):Prop where
 ex:∃(f:Addr) (fd:FuncData),zdR P w K mg base CX k f fd ps sp/\mg x=some (.ref f)/\PySem.W.keepIn K (.ref f)=true/\Binds K fd ps []
structure CaM(C:Addr)(m:Str)(k:Nat)(ps:List Str)(sp:Sp):Prop where
 ex:∃(f:Addr) (fd:FuncData),zdR P w K mg base CX k f fd ps sp/\Cls K C/\zn3 K C m f/\Binds K fd ps []
structure CaC(x:Str)(C:Addr)(k:Nat)(ps:List Str)(sp:Sp):Prop where
 ex:∃(f:Addr) (fd:FuncData),zdR P w K mg base CX k f fd ps sp/\Mk K C f/\mg x=some (.ref C)/\Binds K fd ps []
end
def zod(sp:Sp)(E:XK)(t:TA):TE:=fun σ H Q=>t σ H fun vs H1=>sp vs H1 Q E
def zlM(C:Addr)(m:Str)(sp:Sp)(E:XK)(ta:TE)(t:TA):TE:=fun σ H Q=>ta σ H fun x H1=>∃a dx fs,x=.ref a/\H1 a=some (.ins C dx fs)/\fs.lookup m=none/\t σ H1 fun vs H2=>sp (x::vs) H2 Q E
def zlK(C:Addr)(sp:Sp)(E:XK)(t:TA):TE:=fun σ H Q=>t σ H fun vs H1=>∀x dx,H1 x=none->H1 dx=none->dx≠x ->
 sp (.ref x::vs) (upd (upd H1 dx (.own x)) x (.ins C dx [])) (fun v H2=>v=.non/\Q (.ref x) H2) E
section
variable{X:Cx}{CX:CXT}{j k:Nat}{C:Addr}{ps:List Str}{sp:Sp}{E:XK}{x m:Str}{p pos apos:Pos}{e o:Expr}{es:List Expr}{ta:TE}{t:TA}
theorem PE.weaken{e:Expr}{t t':TE}(h:PE X e t)(w:∀σ H Q,t' σ H Q->t σ H Q):PE X e t':=fun pins s σ H Q I q=>h pins s σ H Q I (w σ H Q q)
theorem zkU{sp:Sp}{Q:VK}{E:XK}:(fun(vs:List V) (H1:Hp)=>sp (vs++[]) H1 Q E)=fun vs H1=>sp vs H1 Q E:=by
 funext vs H1;rw[zBz]
theorem zav(c:Cal X.prog X.w X.K X.mg X.base CX x j ps sp)(hr:Room k X.A)(hx:zbl CX X E)(ha:PA X (e::es) t)(hk:j<=k:=by decide)(hg:Gl X x:=by rfl)(hdb:(x == ("__debug__" : Str))=false:=by decide)
  (he:starEach (e::es) X.env=(false,eval e X.env)::starEach es X.env:=by rfl) (hpl:(backTo pos (starEach es X.env)).any (·.1)=false:=by rfl):PE X (.Call (.Name x p) (e::es) [] pos) (zod sp E t):=by
 obtain⟨f,fd,F,hm,kp,b⟩:=c.ex;refine(zow (dvs:=[]) F (hr.mono hk) hg hm kp b .nil hx ha hdb he hpl).weaken fun σ H Q q=>?_;show t σ H fun vs H1=>sp (vs++[]) H1 Q E;rw[zkU];exact q
theorem za9{pl:Sem Bool}(he:PE X o ta)(c:CaM X.prog X.w X.K X.mg X.base CX C m j ps sp)(hr:Room k X.A)(hx:zbl CX X E)(ha:PA X (e::es) t)(hk:j<=k:=by decide)
  (hst:starEach (e::es) X.env=(false,eval e X.env)::starEach es X.env:=by rfl) (hpl:(backTo pos (starEach es X.env)).any (·.1)=false:=by rfl)
  (ht:eval (.Call (.Attribute o m apos) (e::es) [] pos) X.env=(do
   let ov <-eval o X.env
   standAt apos.atName
   let (f,first) <-holding [ov] (getMethod ov m pl)
   callWith pos f first (backTo pos (starEach (e::es) X.env)) (backToKw pos (keywordEach [] X.env))):=by rfl):PE X (.Call (.Attribute o m apos) (e::es) [] pos) (zlM C m sp E ta t):=by
 obtain⟨f,fd,F,cl,hm,b⟩:=c.ex;refine(zos (dvs:=[]) he cl hm F (hr.mono hk) b .nil hx ha hst hpl ht).weaken fun σ H Q q=>?_;have e1:(fun(y:V) (H1:Hp)=>∃a dx fs,y=.ref a/\H1 a=some (.ins C dx fs)/\fs.lookup m=none/\t σ H1 fun vs H2=>sp (y::(vs++[])) H2 Q E)=fun y H1=>∃a dx fs,y=.ref a/\H1 a=some (.ins C dx fs)/\fs.lookup m=none/\t σ H1 fun vs H2=>sp (y::vs) H2 Q E:=by
  funext y H1;have e2:(fun(vs:List V) (H2:Hp)=>sp (y::(vs++[])) H2 Q E)=fun vs H2=>sp (y::vs) H2 Q E:=by
   funext vs H2;rw[zBz]
  rw[e2]
 show ta σ H fun y H1=>∃a dx fs,y=.ref a/\H1 a=some (.ins C dx fs)/\fs.lookup m=none/\t σ H1 fun vs H2=>sp (y::(vs++[])) H2 Q E;rw[e1];exact q
theorem zaR{pl:Sem Bool}(he:PE X o ta)(c:CaM X.prog X.w X.K X.mg X.base CX C m j ps sp)(hr:Room k X.A)(hx:zbl CX X E)(hk:j<=k:=by decide)
  (ht:eval (.Call (.Attribute o m apos) [] [] pos) X.env=(do
   let ov <-eval o X.env
   standAt apos.atName
   let (f,first) <-holding [ov] (getMethod ov m pl)
   callWith pos f first (backTo pos (starEach [] X.env)) (backToKw pos (keywordEach [] X.env))):=by rfl):PE X (.Call (.Attribute o m apos) [] [] pos) (zlM C m sp E ta zbT):=by
 obtain⟨f,fd,F,cl,hm,b⟩:=c.ex;exact(zm3 (dvs:=[]) he cl hm F (hr.mono hk) b .nil hx ht).weaken fun σ H Q q=>q
theorem zfv(c:CaC X.prog X.w X.K X.mg X.base CX x C j ps sp)(hr:Room k X.A)(hx:zbl CX X E)(ha:PA X (e::es) t)(hk:j+1<=k:=by decide)(hg:Gl X x:=by rfl)(hdb:(x == ("__debug__" : Str))=false:=by decide)
  (he:starEach (e::es) X.env=(false,eval e X.env)::starEach es X.env:=by rfl) (hpl:(backTo pos (starEach es X.env)).any (·.1)=false:=by rfl):PE X (.Call (.Name x p) (e::es) [] pos) (zlK C sp E t):=by
 obtain⟨f,fd,F,M,hm,b⟩:=c.ex;refine(zou (dvs:=[]) M F (hr.mono hk) hg hm b .nil hx ha hdb he hpl).weaken fun σ H Q q=>?_;have e1:(fun(vs:List V) (H1:Hp)=>∀x dx,H1 x=none->H1 dx=none->dx≠x->sp (.ref x::(vs++[])) (upd (upd H1 dx (.own x)) x (.ins C dx [])) (fun v H2=>v=.non/\Q (.ref x) H2) E) =
   fun vs H1=>∀x dx,H1 x=none->H1 dx=none->dx≠x->sp (.ref x::vs) (upd (upd H1 dx (.own x)) x (.ins C dx [])) (fun v H2=>v=.non/\Q (.ref x) H2) E:=by
  funext vs H1;rw[zBz]
 show t σ H fun vs H1=>∀x dx,H1 x=none->H1 dx=none->dx≠x->sp (.ref x::(vs++[])) (upd (upd H1 dx (.own x)) x (.ins C dx [])) (fun v H2=>v=.non/\Q (.ref x) H2) E;rw[e1];exact q
theorem ziR(c:CaC X.prog X.w X.K X.mg X.base CX x C j ps sp)(hr:Room k X.A)(hx:zbl CX X E)(hk:j+1<=k:=by decide)(hg:Gl X x:=by rfl)(hdb:(x == ("__debug__" : Str))=false:=by decide) :
  PE X (.Call (.Name x p) [] [] pos) (zlK C sp E zbT):=by
 obtain⟨f,fd,F,M,hm,b⟩:=c.ex;exact(zm4 (dvs:=[]) M F (hr.mono hk) hg hm b .nil hx hdb).weaken fun σ H Q q=>q
theorem zan{i:Int}(h:∃t,X.mg x=some (.int i t))(hg:Gl X x:=by rfl)(hd:(x == ("__debug__" : Str))=false:=by decide):PE X (.Name x pos) (tC (.int i)):=by
 obtain⟨t,h⟩:=h;exact zlf hg h ⟨t,rfl⟩ hd
theorem zb2{a:Addr}(h:X.mg x=some (.ref a))(hg:Gl X x:=by rfl)(hd:(x == ("__debug__" : Str))=false:=by decide):PE X (.Name x pos) (tC (.ref a)):=zlf hg h rfl hd
end
section
variable{P:Program}{w:World}{K:PySem.W.Frag}{mg:Str->Option Value}{base:Heap}
theorem Fun.okX{x qual:Str}{st:Stmt}{f:Addr}{fd:FuncData}{N ps:List Str}{k:Nat}{sp:Sp}(F:Fun K x qual st f fd)(S:zam N ps (zag st))(len:∀vs H Q E,sp vs H Q E->vs.length=ps.length)
  (hbody:∀(cdv:Value) (A:Around) (outer:List Env) (s:Shared) (H:Hp) (vs:List V) (Q:VK) (E:XK),Room k (A.deeper (envOfC qual (zag st) s.heap.objs.size f cdv))->sp vs H Q E ->
   ∃t,PSs (zaI (CXE P w) P w K mg base N qual (zag st) f cdv A outer s H E) (zbi st) t/\t {nx:=fun _ H'=>Q .non H',rt:=Q} (start N vs) H):zdR P w K mg base (CXE P w) (k+1) f fd ps sp:=by
 obtain⟨oc,od,kV,doc,pm,an,cdv,ct,osl,rfl,lk,hcd⟩:=F.ex;exact zpw lk hcd S len fun A outer s H vs Q E hr hsp=>hbody cdv A outer s H vs Q E hr hsp
end
def zq1(t:TS):TS:=fun D σ H=>t {D with nx:=fun σ' H'=>∃d u,H' d=some u/\Mut (some u)/\∀od,D.nx σ' (upd H' d (.frz od u))} σ H
section
variable{X:Cx}
theorem zku{st:Stmt}{t:TS}(h:PS X st t):PS X st (zq1 t):=by
 intro pins s σ H D I q;refine thn (h pins s σ H _ I q) fun f s' sp=>?_;cases f with
 | next =>
  obtain⟨σ',H',I',d,u,e,mu,k⟩:=sp;obtain⟨od,I2⟩:=I'.lock e mu;exact⟨σ',_,I2,k od⟩
 | brk=>exact sp
 | cont=>exact sp
 | ret u=>exact sp
end
end L2
namespace L2
open PySem PySem.Spec PyProof.Rows
section
variable{σ:St}{H:Hp}{D:zdc}{Q:VK}{K:PySem.W.Frag}
theorem zro{t u:TS}(h:t {D with nx:=u D} σ H):zgL t u D σ H:=h
theorem znz(h:D.nx σ H):zmy D σ H:=h
theorem znv{te:TE}(h:te σ H D.rt):zjl te D σ H:=h
theorem zqk(h:D.rt .non H):zmx D σ H:=h
theorem zqt{te:TE}(h:te σ H fun _ H1=>D.nx σ H1):zgM te D σ H:=h
theorem zrI{c:TT}{t u:TS}(h:c σ H fun b H1=>if b=true then t D σ H1 else u D σ H1):zpK c t u D σ H:=h
theorem zpt(h:D.bk σ H):zmG D σ H:=h
theorem zps(h:D.ct σ H):zpi D σ H:=h
theorem zhq{i:Nat}{v:V}(h:σ[i]?=some (some v))(q:Q v H):zaX i σ H Q:=⟨v,h,q⟩
theorem i_c{v:V}(q:Q v H):tC v σ H Q:=q
theorem zrR{te:TE}{g:TG}(h:te σ H fun x H1=>g x σ H1 D.nx):zkg te g D σ H:=h
theorem zgE{i:Nat}{v:V}{R:St->Hp->Prop}(h:R (σ.set i (some v)) H):zf2 i v σ H R:=h
theorem zsc{r:R2}{ta tb:TE}(h:ta σ H fun x H1=>tb σ H1 fun y H2=>r x y H2 Q):tOp r ta tb σ H Q:=h
theorem zr8{r:V->Hp->VK->Prop}{ta:TE}(h:ta σ H fun x H1=>r x H1 Q):tUn r ta σ H Q:=h
theorem zrv{g:Int->Int->V}{i j:Int}(q:Q (g i j) H):rI0 g (.int i) (.int j) H Q:=⟨i,j,rfl,rfl,q⟩
theorem zhr{C:Int->Int->Prop}{g:Int->Int->V}{i j:Int}(c:C i j)(q:Q (g i j) H):rI C g (.int i) (.int j) H Q:=⟨i,j,rfl,rfl,c,q⟩
theorem zsa{g:Int->V}{i:Int}(q:Q (g i) H):rU g (.int i) H Q:=⟨i,rfl,q⟩
theorem zrw{x y:V}(h:zog x y=true)(q:Q (.bl (decide (x=y))) H):rEq x y H Q:=⟨h,q⟩
theorem zru{x y:V}(h:zog x y=true)(q:Q (.bl (!decide (x=y))) H):rNe x y H Q:=⟨h,q⟩
theorem zqh{t:TE}{R:Bool->Hp->Prop}(h:t σ H fun x H'=>∃k,x=.bl k/\R k H'):zkX t σ H R:=h
theorem zr9{t:TE}{R:Bool->Hp->Prop}(h:t σ H fun x H'=>∃k,x=.bl k/\R k H'):tB t σ H R:=h
theorem zsg{k:Bool}{R:Bool->Prop}(q:R k):∃c,V.bl k=.bl c/\R c:=⟨k,rfl,q⟩
theorem zrS{t u:TT}{R:Bool->Hp->Prop}(h:t σ H fun c H1=>if c=true then u σ H1 R else R false H1):zpM t u σ H R:=h
theorem zsb{t u:TT}{R:Bool->Hp->Prop}(h:t σ H fun c H1=>if c=true then R true H1 else u σ H1 R):tOr t u σ H R:=h
theorem zrx{t:TT}{R:Bool->Hp->Prop}(h:t σ H fun c H1=>R (!c) H1):zqZ t σ H R:=h
theorem zsd{t:TT}{ta tb:TE}(h:t σ H fun c H1=>if c=true then ta σ H1 Q else tb σ H1 Q):tIf t ta tb σ H Q:=h
theorem zrG{ta:TE}(h:ta σ H fun x H1=>Q (.bl (decide (x=.non))) H1):zq0 ta σ H Q:=h
theorem zoU{r r':R2}{ta tb tc:TE}(h:ta σ H fun x H1=>tb σ H1 fun y H2=>r x y H2 fun z H3=>∃k,z=.bl k/\(if k=true then tc σ H3 fun w' H4=>r' y w' H4 Q else Q (.bl false) H3)):zmF r r' ta tb tc σ H Q:=h
theorem zry{R:List V->Hp->Prop}(h:R [] H):zbT σ H R:=h
theorem zqx{ta:TE}{tr:TA}{R:List V->Hp->Prop}(h:ta σ H fun x H1=>tr σ H1 fun xs H2=>R (x::xs) H2):za2 ta tr σ H R:=h
theorem zrm{t:TA}(h:t σ H fun xs H1=>xs.length<=sizeLine/\∀p,H1 p=none->Q (.ref p) (upd H1 p (.tup xs))):zlJ t σ H Q:=h
theorem zrB{t:TA}(h:t σ H fun xs H1=>xs.length<=sizeLine/\∀p,H1 p=none->Q (.ref p) (upd H1 p (.lst xs))):zlL t σ H Q:=h
theorem zse{r:List V->Hp->VK->Prop}{t:TA}(h:t σ H fun vs H1=>r vs H1 Q):tCB r t σ H Q:=h
theorem zrO{sp:Sp}{E:XK}{t:TA}(h:t σ H fun vs H1=>sp vs H1 Q E):zod sp E t σ H Q:=h
theorem zrA{C:Addr}{sp:Sp}{E:XK}{t:TA}(h:t σ H fun vs H1=>∀x dx,H1 x=none->H1 dx=none->dx≠x->sp (.ref x::vs) (upd (upd H1 dx (.own x)) x (.ins C dx [])) (fun v H2=>v=.non/\Q (.ref x) H2) E):zlK C sp E t σ H Q:=h
theorem zrN{C:Addr}{m:Str}{sp:Sp}{E:XK}{ta:TE}{t:TA}(h:ta σ H fun x H1=>∃a dx fs,x=.ref a/\H1 a=some (.ins C dx fs)/\fs.lookup m=none/\t σ H1 fun vs H2=>sp (x::vs) H2 Q E):zlM C m sp E ta t σ H Q:=h
theorem zay{C p dx:Addr}{fs:List (Str×V)}{m:Str}{R:Prop}(h1:H p=some (.ins C dx fs))(l:fs.lookup m=none)(h:R) :
  ∃a dx fs,V.ref p=.ref a/\H a=some (.ins C dx fs)/\fs.lookup m=none/\R:=⟨p,dx,fs,rfl,h1,l,h⟩
theorem zrJ{ta:TE}{f:Str}(h:ta σ H fun x H1=>∃a C dx fs v,x=.ref a/\H1 a=some (.ins C dx fs)/\Cls K C/\NoAttr K C f/\fs.lookup f=some v/\Q v H1):zcJ K ta f σ H Q:=h
theorem zbh{p C dx:Addr}{fs:List (Str×V)}{f:Str}{v:V}{R:V->Prop}(h1:H p=some (.ins C dx fs))(c:Cls K C)(n:NoAttr K C f)(l:fs.lookup f=some v)(q:R v) :
  ∃a C dx fs v,V.ref p=.ref a/\H a=some (.ins C dx fs)/\Cls K C/\NoAttr K C f/\fs.lookup f=some v/\R v:=⟨p,C,dx,fs,v,rfl,h1,c,n,l,q⟩
theorem zqi{ta tv:TE}{f:Str}(h:tv σ H fun y H1=>ta σ H1 fun x H2=>∃a C dx fs,x=.ref a/\H2 a=some (.ins C dx fs)/\Cls K C/\NoAttr K C f/\fs.length<1000/\D.nx σ (upd H2 a (.ins C dx (zbW f y fs)))):zpQ K ta tv f D σ H:=h
theorem za_{p C dx:Addr}{fs:List (Str×V)}{f:Str}{R:Addr->Addr->Addr->List (Str×V)->Prop}(h1:H p=some (.ins C dx fs))(c:Cls K C)(n:NoAttr K C f)(l:fs.length<1000)(q:R p C dx fs) :
  ∃a C dx fs,V.ref p=.ref a/\H a=some (.ins C dx fs)/\Cls K C/\NoAttr K C f/\fs.length<1000/\R a C dx fs:=⟨p,C,dx,fs,rfl,h1,c,n,l,q⟩
theorem zqr{ta tv:TE}{rd:V->V->Hp->VK->Prop}{f:Str}(h:ta σ H fun x H1=>∃a C dx fs v,x=.ref a/\H1 a=some (.ins C dx fs)/\Cls K C/\NoAttr K C f/\fs.lookup f=some v /\
 tv σ H1 fun y H2=>rd v y H2 fun z H3=>∃dx' fs',H3 a=some (.ins C dx' fs')/\fs'.length<1000/\D.nx σ (upd H3 a (.ins C dx' (zbW f z fs')))):zeV K ta tv rd f D σ H:=h
theorem zbN{p C dx:Addr}{fs:List (Str×V)}{f:Str}{v:V}{R:Addr->Addr->V->Prop}(h1:H p=some (.ins C dx fs))(c:Cls K C)(n:NoAttr K C f)(l:fs.lookup f=some v)(q:R p C v) :
  ∃a C dx fs v,V.ref p=.ref a/\H a=some (.ins C dx fs)/\Cls K C/\NoAttr K C f/\fs.lookup f=some v/\R a C v:=⟨p,C,dx,fs,v,rfl,h1,c,n,l,q⟩
theorem zql{i j:Int}(q:Q (.int (i+j)) H):zm0 (.int i) (.int j) H Q:=⟨i,j,rfl,rfl,q⟩
theorem zrQ{i:Nat}{v:V}{te:TE}{ti:TIp}(h:σ[i]?=some (some v))(q:te σ H fun y H1=>ti v y H1 fun z H2=>D.nx (σ.set i (some z)) H2):zq4 i te ti D σ H:=⟨v,h,q⟩
theorem zrH{f:Int->Int->Int}{i j:Int}(q:Q (.int (f i j)) H):ipI f (.int i) (.int j) H Q:=⟨i,j,rfl,rfl,q⟩
theorem zaQ{p:Addr}{xs:List V}{i:Int}{v:V}(h:SqL K H p xs)(a:atI xs i=some v)(q:Q v H):zrd K (.ref p) (.int i) H Q:=⟨p,xs,i,v,rfl,rfl,h,a,q⟩
theorem zaq{p:Addr}{xs:List V}{i:Int}{v:V}(h:SqT K H p xs)(a:atI xs i=some v)(q:Q v H):zlX K (.ref p) (.int i) H Q:=⟨p,xs,i,v,rfl,rfl,h,a,q⟩
theorem znx{neg:Bool}{x:V}{p:Addr}{xs:List V}(h:SqL K H p xs\/SqT K H p xs)(fx:zen x=true)(fa:xs.all zen=true)(q:Q (.bl (if neg then !inV x xs else inV x xs)) H):rIn K neg x (.ref p) H Q:=⟨p,xs,rfl,h,fx,fa,q⟩
theorem zbO{l b:Addr}{xs zs:List V}(h1:H l=some (.lst xs))(h2:H b=some (.lst zs))(n:xs.length+zs.length<=sizeLine)(q:∀p,H p=none->Q (.ref p) (upd H p (.lst (xs++zs)))):zre (.ref l) (.ref b) H Q:=⟨l,b,xs,zs,rfl,rfl,h1,h2,n,q⟩
theorem zsf{T:String}{r:V->List V->Hp->VK->Prop}{to:TE}{t:TA}(h:to σ H fun x H1=>tyV K T x H1/\t σ H1 fun xs H2=>r x xs H2 Q):tBM K T r to t σ H Q:=h
theorem zrP{T:String}{r:V->List V->Hp->VK->Prop}{to:TE}(h:to σ H fun x H1=>tyV K T x H1/\r x [] H1 Q):zpL K T r to σ H Q:=h
theorem za1{p:Addr}{xs:List V}{R:Prop}(h:SqL K H p xs)(q:R):tyV K "list" (.ref p) H/\R:=⟨.inl ⟨rfl,xs,h⟩,q⟩
theorem zaP{l:Addr}{xs:List V}{y:V}(h:H l=some (.lst xs))(n:xs.length<sizeLine)(q:Q .non (upd H l (.lst (xs++[y])))):zgz (.ref l) [y] H Q:=⟨l,xs,y,rfl,rfl,h,n,q⟩
theorem zdL{l:Addr}{xs:List V}{y:V}(h:H l=some (.lst (xs++[y])))(q:Q y (upd H l (.lst xs))):zpT (.ref l) [] H Q:=⟨l,xs++[y],y,rfl,rfl,h,by simp,by rw[List.dropLast_concat];exact q⟩
theorem zr_{r:V->Option Int->Option Int->Hp->VK->Prop}{te:TE}{tl th:TO}(h:te σ H fun x H1=>tl σ H1 fun l H2=>th σ H2 fun u H3=>r x l u H3 Q):tSl r te tl th σ H Q:=h
theorem zqm{t:TE}{R:Option Int->Hp->Prop}(h:t σ H fun x H1=>∃i,x=.int i/\R (some i) H1):zpf t σ H R:=h
theorem zoM{i:Int}{R:Int->Prop}(q:R i):∃j,V.int i=.int j/\R j:=⟨i,rfl,q⟩
theorem zny{R:Option Int->Hp->Prop}(h:R none H):zkY σ H R:=h
theorem zf0{a:Addr}{xs:List V}{lo hi:Option Int}(h:SqL K H a xs)(q:∀p,H p=none->Q (.ref p) (upd H p (.lst (zeB xs lo hi)))):zrb K (.ref a) lo hi H Q:=⟨a,xs,rfl,h,q⟩
end
end L2
namespace L2
open PySem PySem.Spec PyProof.Rows
section
variable{X:Cx}
theorem znb:OpR X (binaryOp .FloorDiv) (rI (fun _ j=>j≠0/\j.natAbs.log2<9000) fun i j=>.int (i.fdiv j)):=opI fun i j _ _ _ _ _ hc q=>floordiv_int hc.1 q (.inl (PyProof.noPylong_of_log2 hc.2))
def zpo:V->List V->Hp->VK->Prop:=fun x vs H Q=>∃l b xs zs,x=.ref l/\vs=[.ref b]/\H l=some (.lst xs)/\Rd H b (.lst zs)/\xs.length+zs.length<=sizeLine/\Q .non (upd H l (.lst (xs++zs)))
theorem zoG:MtM X "list.extend" zpo:=by
 intro pins s σ H x vs v us Q I rx rv h;obtain⟨l,b,xs,zs,rfl,rfl,hH,hB,hz,q⟩:=h;cases rx
 obtain⟨u,rfl,ru⟩:=rv.one;cases ru
 obtain⟨z,its,n,r,hl,e⟩:=I.lstM hH;obtain⟨z2,its2,n2,r2,e2⟩:=hB.ok I.hok;have l1:=r.length;have l2:=r2.length;have hsz:its.toArray.size+its2.toArray.size<=sizeLine:=by rw[zAn,zAn];omega
 have hlong:¬(!its.toArray.isEmpty&&Builtin.List.listTooLong (its.toArray.size+its2.toArray.size))=true:=by rw[zjN hsz,Bool.and_false];exact zAc
 refine call_meets F.slot_list_extend ⟨_,e,rfl⟩ F.entry_list_extend (F.args_list_extend_2 _ _) (AutoSeq1.list_extend_list_list_0 l its.toArray n b its2.toArray n2 hlong (by rw[zAn];omega) (by omega)) ⟨e,e2,?_⟩;refine⟨.non,_,I.lset (its':=its++its2) hH e (by simp) (r.append r2) (by rw[zAa];omega),rfl,q⟩
theorem zqs{H:Hp}{Q:VK}{l b:Addr}{xs zs:List V}(h:H l=some (.lst xs))(h2:Rd H b (.lst zs))(n:xs.length+zs.length<=sizeLine)(q:Q .non (upd H l (.lst (xs++zs)))):zpo (.ref l) [.ref b] H Q:=⟨l,b,xs,zs,rfl,rfl,h,h2,n,q⟩
def TyK(K:PySem.W.Frag)(H:Hp)(x:V)(t:Value):Prop:=zfI K H x t\/∃a xs,x=.ref a/\t=.type "tuple" /\ SqT K H a xs
def zpJ(K:PySem.W.Frag)(c:Value)(te:TE):TE:=fun σ H Q=>te σ H fun x H1=>∃t b,TyK K H1 x t/\PySem.W.kitOne K t c=some b/\Q (.bl b) H1
theorem zj0{c:Value}{vc:V}(hr:∀u,RelV vc u->u=c):zdl X (.builtin "isinstance") (fun xs H Q=>∃x t b,xs=[x,vc]/\TyK X.K H x t/\PySem.W.kitOne X.K t c=some b/\Q (.bl b) H):=by
 intro pins s σ H xs us Q I r h;obtain⟨x,t,b,rfl,ty,e,q⟩:=h;obtain⟨u,w',rfl,r1,r2⟩:=zms r;obtain rfl:=hr _ r2;rcases ty with ty|⟨a,ys,rfl,rfl,sq⟩
 ·exact zl7 I r1 ty e fun tk=>⟨.bl b,H,I.tok _,rfl,q⟩
 ·cases (show u=Value.ref a from r1)
  obtain⟨its,_,⟨o,h1,h2,_⟩,_⟩:=I.tuple sq;exact PySem.W.kia_one PySem.W.kitx_tuple I.kIn ⟨o,h1,h2⟩ e (fun z=>nomatch z) fun tk=>⟨.bl b,H,I.tok _,rfl,q⟩
section
variable{e:Expr}{te:TE}{p p2 pos:Pos}{x:Str}
theorem zeY{C:Addr}(hm:X.mg "isinstance" = none)(he:PE X e te)(hC:X.mg x=some (.ref C))(hg:Gl X "isinstance" := by rfl)(hx:Gl X x:=by rfl)(hd:(x == ("__debug__" : Str))=false:=by decide)
  (h1:starEach [e,.Name x p2] X.env=(false,eval e X.env)::starEach [.Name x p2] X.env:=by rfl) (h2:(backTo pos (starEach [.Name x p2] X.env)).any (·.1)=false:=by rfl) :
  PE X (.Call (.Name "isinstance" p) [e,.Name x p2] [] pos) (zpJ X.K (.ref C) te):=by
 refine(zaF (zj0 (vc:=.ref C) (c:=.ref C) fun u r=>r) hg hm PyProof.Rows.boot_isinstance (zaa he (zaa (zb2 hC hx hd) zad) h1) (by decide) (by decide) h1 h2).weaken fun σ H Q q=>?_;show te σ H fun y H1=>∃x t b,[y,V.ref C]=[x,V.ref C]/\TyK X.K H1 x t/\PySem.W.kitOne X.K t (.ref C)=some b/\Q (.bl b) H1;have e1:(fun(y:V) (H1:Hp)=>∃x t b,[y,V.ref C]=[x,V.ref C]/\TyK X.K H1 x t/\PySem.W.kitOne X.K t (.ref C)=some b/\Q (.bl b) H1)=fun y H1=>∃t b,TyK X.K H1 y t/\PySem.W.kitOne X.K t (.ref C)=some b/\Q (.bl b) H1:=by
  funext y H1;exact propext ⟨fun⟨x,t,b,e,r⟩=>by cases e;exact⟨t,b,r⟩,fun⟨t,b,r⟩=>⟨y,t,b,rfl,r⟩⟩
 rw[e1];exact q
theorem zov{T:String}(hm:X.mg "isinstance" = none)(he:PE X e te)(hC:X.mg x=none)(hb:bootBuiltins x=some (.type T))(hg:Gl X "isinstance" := by rfl)(hx:Gl X x:=by rfl)(hn:x ≠ "__name__" := by decide)(hd:(x == ("__debug__" : Str))=false:=by decide)
  (h1:starEach [e,.Name x p2] X.env=(false,eval e X.env)::starEach [.Name x p2] X.env:=by rfl) (h2:(backTo pos (starEach [.Name x p2] X.env)).any (·.1)=false:=by rfl) :
  PE X (.Call (.Name "isinstance" p) [e,.Name x p2] [] pos) (zpJ X.K (.type T) te):=by
 refine(zaF (zj0 (vc:=.ty T) (c:=.type T) fun u r=>r) hg hm PyProof.Rows.boot_isinstance (zaa he (zaa (zox (v:=.ty T) hx hC hb rfl hn hd) zad) h1) (by decide) (by decide) h1 h2).weaken fun σ H Q q=>?_;show te σ H fun y H1=>∃x t b,[y,V.ty T]=[x,V.ty T]/\TyK X.K H1 x t/\PySem.W.kitOne X.K t (.type T)=some b/\Q (.bl b) H1;have e1:(fun(y:V) (H1:Hp)=>∃x t b,[y,V.ty T]=[x,V.ty T]/\TyK X.K H1 x t/\PySem.W.kitOne X.K t (.type T)=some b/\Q (.bl b) H1)=fun y H1=>∃t b,TyK X.K H1 y t/\PySem.W.kitOne X.K t (.type T)=some b/\Q (.bl b) H1:=by
  funext y H1;exact propext ⟨fun⟨x,t,b,e,r⟩=>by cases e;exact⟨t,b,r⟩,fun⟨t,b,r⟩=>⟨y,t,b,rfl,r⟩⟩
 rw[e1];exact q
end
end
theorem zrF{K:PySem.W.Frag}{c:Value}{te:TE}{σ:St}{H:Hp}{Q:VK}(h:te σ H fun x H1=>∃t b,TyK K H1 x t/\PySem.W.kitOne K t c=some b/\Q (.bl b) H1):zpJ K c te σ H Q:=h
theorem zp8{x:Str}{g:TG}{tt:TT}{te:TE}{vs:List Nat}{σ:St}{H1:Hp}{D:Addr}{Qd:Hp->Prop}(Pv:Nat->Hp->Prop)(h0:Pv 0 (upd H1 D (.lst [])))
  (hs:∀i c H,x.cps[i]?=some c->Pv i H->g (.str ⟨#[c]⟩) (zbe σ vs) H fun σ2 H2=>zbe σ2 vs=zbe σ vs/\tt σ2 H2 fun b H3 =>
   if b=true then te σ2 H3 fun y H4=>∃acc,H4 D=some (.lst acc)/\acc.length<sizeLine/\Pv (i+1) (upd H4 D (.lst (acc++[y]))) else Pv (i+1) H3) (hd:∀H,Pv x.cps.size H->Qd H) :
  ∃W:Nat->Nat->Hp->Prop,(∃m,W 0 m (upd H1 D (.lst [])))/\∀i m H,W i m H ->
   ((Its x).stop i H/\Qd H)\/((Its x).go i H/\∃Nx:Hp->Prop,(∀H',Nx H'->∃m',m'<m/\W (i+1) m' H')/\∀y H',(Its x).yld i H y H'->g y (zbe σ vs) H' fun σ2 H2=>zbe σ2 vs=zbe σ vs/\tt σ2 H2 fun b H3 =>
    if b=true then te σ2 H3 fun y H4=>∃acc,H4 D=some (.lst acc)/\acc.length<sizeLine/\Nx (upd H4 D (.lst (acc++[y]))) else Nx H3):=by
 refine⟨fun i m H=>m=x.cps.size - i/\i<=x.cps.size/\Pv i H,⟨x.cps.size,by simp,zAx _,h0⟩,?_⟩;rintro i m H ⟨rfl,hi,p⟩;by_cases hlt:i<x.cps.size
 ·refine .inr ⟨hlt,Pv (i+1),fun H' p'=>⟨x.cps.size - (i+1),by omega,rfl,hlt,p'⟩,fun y H' q=>?_⟩;obtain⟨e,c,hc,rfl⟩:=q;subst e;exact hs i c _ hc p
 ·obtain rfl:i=x.cps.size:=by omega
  exact .inl ⟨zAi _,hd H p⟩
theorem zlm{d:Addr}{o:Obj}{kvs:List (Key×V)}{g:TG}{tt:TT}{te:TE}{vs:List Nat}{σ:St}{H1:Hp}{D:Addr}{Qd:Hp->Prop}(Pv:Nat->Hp->Prop)(h0:Pv 0 (upd H1 D (.lst [])))(hl:∀i H,Pv i H->H d=some (.frz o (.dK kvs)))
  (hs:∀i k v H,kvs[i]?=some (k,v)->Pv i H->g (kV k) (zbe σ vs) H fun σ2 H2=>zbe σ2 vs=zbe σ vs/\tt σ2 H2 fun b H3 =>
   if b=true then te σ2 H3 fun y H4=>∃acc,H4 D=some (.lst acc)/\acc.length<sizeLine/\Pv (i+1) (upd H4 D (.lst (acc++[y]))) else Pv (i+1) H3) (hd:∀H,Pv kvs.length H->Qd H) :
  ∃W:Nat->Nat->Hp->Prop,(∃m,W 0 m (upd H1 D (.lst [])))/\∀i m H,W i m H ->
   ((Itk d o kvs).stop i H/\Qd H)\/((Itk d o kvs).go i H/\∃Nx:Hp->Prop,(∀H',Nx H'->∃m',m'<m/\W (i+1) m' H')/\∀y H',(Itk d o kvs).yld i H y H'->g y (zbe σ vs) H' fun σ2 H2=>zbe σ2 vs=zbe σ vs/\tt σ2 H2 fun b H3 =>
    if b=true then te σ2 H3 fun y H4=>∃acc,H4 D=some (.lst acc)/\acc.length<sizeLine/\Nx (upd H4 D (.lst (acc++[y]))) else Nx H3):=by
 refine⟨fun i m H=>m=kvs.length - i/\i<=kvs.length/\Pv i H,⟨kvs.length,by simp,zAx _,h0⟩,?_⟩;rintro i m H ⟨rfl,hi,p⟩;have q:=hl i H p;by_cases hlt:i<kvs.length
 ·refine .inr ⟨⟨q,hlt⟩,Pv (i+1),fun H' p'=>⟨kvs.length - (i+1),by omega,rfl,hlt,p'⟩,fun y H' z=>?_⟩;obtain⟨e,k,v,hk,rfl⟩:=z;subst e;exact hs i k v _ hk p
 ·obtain rfl:i=kvs.length:=by omega
  exact .inl ⟨⟨q,zAi _⟩,hd H p⟩
end L2
namespace L2
open PySem PySem.Spec PyProof.Rows
theorem zlq:∀ {its:List Value}{ns:List Int},IntsAre its ns->∀ {i:Nat}{v:Value},its[i]?=some v->∃t,v=Value.int (ns.getD i 0) t:=by
 intro its ns h;induction h with
 | nil=>intro i v e;simp at e
 | cons n t h ih =>
  intro i v e;cases i with
  | zero=>simp at e;exact⟨t,by rw[<-e];rfl⟩
  | succ i=>simp at e;obtain⟨u,r⟩:=ih (i:=i) (by simpa using e);exact⟨u,by rw[r];simp⟩
section
variable{prog:Program}{w:World}{A:Around}{I S:Addr}{fp wr:List Addr}{n:Nat}{P:Nat->Value->Prop}{St:Nat->Heap->Prop}{f:Nat->Int}{kw:List (Str×Value)}
theorem zc5(W:Walks prog w A.in1 I fp wr n P St)(hP:∀i v,P i v->∃t,v=Value.int (f i) t)(no:S∉fp):∀(k j:Nat) (s:Shared) (M:Int) (t:Tok) (c:Nat) (R:Result->Shared->Prop),k+(j+1)=n->St (j+1) s.heap ->
  s.heap.get? S=some {cls:=.type "list",dict:=none,data:=.seq #[.int M t,.int M t] c,slots:=#[]} ->
  (∀h' tk m u,(m=M\/∃i,i<n/\m=f i)->m<=M->(∀i,j<i->i<n->m<=f i)->(∀b o,b∉wr->b≠S->s.heap.get? b=some o->h'.get? b=some o)->R (.ok (.ret (.int m u))) {s with heap:=h',toks:=tk}) ->
  codeAny (model prog w) A (.builtin "min.loop" ⟨[.ref I,.none,.ref S],kw⟩) R s
 | 0,j,s,M,t,c,R,e,st,hS,hR=>by
  have gw:S∉wr:=fun z=>no (W.sub _ z);refine codeAny_builtin zDo ?_;rw[Around.under_plainId zCb _];refine wpAny_bind (wpAny_seqItems hS rfl (wpAny_bind (wpAny_tryCatch (W.done s _ _ ((by omega:j+1=n) ▸ st) fun h' tk kp=>?_))));refine wpAny_bind ?_;refine wpAny_updateSeq (kp S _ gw hS) rfl (wpAny_bind (wpAny_letGo (wpAny_pure ?_)));exact hR _ tk M t (.inl rfl) (Int.le_refl _) (fun i a b=>by omega) fun b o nb ns g=>(Heap.get?_update_other _ _ (Ne.symm ns)).trans (kp b o nb g)
 | k+1,j,s,M,t,c,R,e,st,hS,hR=>by
  have gw:S∉wr:=fun z=>no (W.sub _ z);have nm:(toString "min" ++ toString ".loop" : String) = "min.loop" := by decide
  refine codeAny_builtin zDo ?_;rw[Around.under_plainId zCb _];refine wpAny_bind (wpAny_seqItems hS rfl (wpAny_bind (wpAny_tryCatch (W.item (j+1) s _ _ (by omega) st fun v h' tk pv st' kp=>?_))));obtain⟨u,rfl⟩:=hP _ _ pv;have g1:=kp S _ gw hS;refine wpAny_bind (wpAny_pure ?_);refine wpAny_bind (wpAny_tryCatch (wpAny_holding (wpAny_bind (CmpOf.ints_lt (prog:=prog) (w:=w) (A:=A.in1) (P:=fun(i:Nat) v=>∃t,v=.int (if i=0 then M else f (j+1)) t) (fun i=>if i=0 then M else f (j+1)) (fun i v h=>h) 1 0 _ _ _ _ _ ⟨u,rfl⟩ ⟨t,rfl⟩ ?_))));refine wpAny_bind (wpAny_holding (wpAny_truthy_bool (wpAny_bind (wpAny_letGo (wpAny_pure ?_)))));by_cases b:f (j+1)<M
  ·simp only[b,zDs,if_false,if_true,decide_true];refine wpAny_bind ?_;refine wpAny_updateSeq g1 rfl (wpAny_bind (wpAny_letGo ?_));rw[nm];refine wpAny_pure ⟨plainId_quiet zCb _,zc5 W hP no k (j+1) _ (f (j+1)) u _ R (by omega) (W.frame _ _ _ st' fun b' hb o g=>?_) (Heap.get?_update_self _ g1 rfl) fun h2 tk2 m u2 a1 a2 a3 a4=>?_⟩
   ·exact(Heap.get?_update_other _ _ (fun z:S=b'=>no (by rw[z];exact hb))).trans g
   ·refine hR h2 tk2 m u2 (.inr ?_) (by omega) (fun i z1 z2=>?_) fun b' o nb ns g=>a4 b' o nb ns ((Heap.get?_update_other _ _ (Ne.symm ns)).trans (kp b' o nb g))
    ·rcases a1 with a1 | a1
     ·exact⟨j+1,by omega,a1⟩
     ·exact a1
    ·by_cases z:i=j+1
     ·subst z;exact a2
     ·exact a3 i (by omega) z2
  ·simp only[b,zDs,if_false,if_true,decide_false];refine wpAny_bind (wpAny_letGo ?_);rw[nm];refine wpAny_pure ⟨plainId_quiet zCb _,zc5 W hP no k (j+1) _ M t c R (by omega) st' g1 fun h2 tk2 m u2 a1 a2 a3 a4=>?_⟩;refine hR h2 tk2 m u2 a1 a2 (fun i z1 z2=>?_) fun b' o nb ns g=>a4 b' o nb ns (kp b' o nb g);by_cases z:i=j+1
   ·subst z;omega
   ·exact a3 i (by omega) z2
end
theorem ziY(a v:Value):argsOk "min" ⟨[a],[(Str.ofString "default",v)]⟩:=by unfold argsOk;kernel_rfl
section
variable{prog:Program}{w:World}{A:Around}{E:Value->Shared->Prop}{s:Shared}{l:Addr}{its:List Value}{ns:List Int}{d:Value}{Q:Value->Shared->Prop}
theorem zjP(hh:A.handled=none)(hl:s.heap.IsList l its.toArray)(hi:IntsAre its ns)(h0:∀h' tk,ns=[]->(∀b o,s.heap.get? b=some o->h'.get? b=some o)->Q d {s with heap:=h',toks:=tk})
  (h:∀h' tk M t',(∀b o,s.heap.get? b=some o->h'.get? b=some o)->M∈ns->(∀a,a∈ns->M<=a)->Q (.int M t') {s with heap:=h',toks:=tk}):wpAny (model prog w) A (call (.builtin "min") [.ref l] [(Str.ofString "default",d)]) Q E s:=by
 have nm:(toString "min" ++ toString ".loop" : String) = "min.loop" := by decide
 refine kmk_tree PySem.F.kind_min PySem.F.plain_min PySem.F.entry_min (ziY _ _) ?_;refine wpAny_bind (wpAny_of_eq (show Builtin.Builtins.bindParams "min" ["key", "default"] 0 ⟨[],[(Str.ofString "default",d)]⟩=pure [none,some d] from by kernel_rfl) (wpAny_bind (wpAny_pure ?_)));have e1:its.length=ns.length:=hi.length;have lt:l<s.heap.objs.size:=by obtain⟨_,e,_⟩:=hl;exact Heap.lt_size e
 refine wpAny_bind (wpAny_pyIter_list hl (wpAny_bind (wpAny_newObj_type ?_)));rw[nm];refine wpAny_pure ⟨plainId_quiet zCb _,?_⟩;generalize hs1:s.heap.push {cls:=.type "list_iterator",data:=.fields #[.ref l,.int 0 0]}=g1;have k1:∀b o,s.heap.get? b=some o->g1.get? b=some o:=fun b o e=>by rw[<-hs1];exact Heap.get?_push_of_some _ e
 have z1:g1.objs.size=s.heap.objs.size+1:=by rw[<-hs1,Heap.size_push]
 have i1:g1.IsListIter s.heap.objs.size l 0:=by rw[<-hs1];exact⟨_,Heap.get?_push_size _ rfl,rfl,rfl⟩
 have l1:g1.IsList l its.toArray:=by rw[<-hs1];exact hl.push _
 generalize hs2:g1.push {cls:=.type "list",data:=.seq ([]:List Value).toArray}=g2;have k2:∀b o,g1.get? b=some o->g2.get? b=some o:=fun b o e=>by rw[<-hs2];exact Heap.get?_push_of_some _ e
 have S2:g2.get? g1.objs.size=some {cls:=.type "list",dict:=none,data:=.seq #[] 0,slots:=#[]}:=by rw[<-hs2];exact Heap.get?_push_size _ rfl
 have i2:g2.IsListIter s.heap.objs.size l 0/\g2.IsList l its.toArray:=by
  refine⟨?_,by rw[<-hs2];exact l1.push _⟩;obtain⟨o,e,r⟩:=i1;exact⟨o,k2 _ _ e,r⟩
 have W:=Walks.list (prog:=prog) (w:=w) (A:=A.in1) hh s.heap.objs.size l (zBe lt) its.toArray;have no:g1.objs.size∉[s.heap.objs.size,l]:=fun z=>by
  rw[z1] at z;rcases zAe z with z | z
  ·exact absurd z (Nat.succ_ne_self _)
  ·exact absurd lt (by rw[<-zAg z];exact Nat.not_lt.mpr (zDl _))
 have gw:g1.objs.size∉[s.heap.objs.size]:=by simp[z1]
 have hP:∀i v,its.toArray[i]?=some v->∃t,v=Value.int (ns.getD i 0) t:=fun i v e=>by
  have e':its[i]?=some v:=by simpa using e
  exact zlq hi e'
 have old:∀b o,s.heap.get? b=some o->b∉[s.heap.objs.size]/\b≠g1.objs.size:=fun b o e=>by
  have:=Heap.lt_size e;refine⟨fun z=>absurd this (by rw[zAg z];exact zCe _),fun z=>absurd this (by rw[z,z1];exact Nat.not_lt.mpr (zDl _))⟩
 have hn:its.toArray.size=ns.length:=by rw[zAn,e1]
 refine codeAny_builtin zDo ?_;rw[Around.under_plainId zCb _];refine wpAny_bind (wpAny_seqItems (s:={s with heap:=g2}) S2 rfl (wpAny_bind (wpAny_tryCatch ?_)));by_cases ze:ns=[]
 ·have ze':its.toArray.size=0:=by rw[hn,ze];rfl
  refine W.done {s with heap:=g2} _ _ (by rw[ze'];exact i2) fun h' tk kp=>?_;refine wpAny_bind (wpAny_rule (wpAny_pure ?_));exact h0 h' tk ze fun b o e=>kp b o (old b o e).1 (k2 _ _ (k1 _ _ e))
 ·have pos:0<its.toArray.size:=by rw[hn];exact List.length_pos_iff.mpr ze
  refine W.item 0 {s with heap:=g2} _ _ pos i2 fun v h' tk pv st' kp=>?_;obtain⟨u,rfl⟩:=hP _ _ pv;have g3:=kp _ _ gw S2;refine wpAny_bind (wpAny_pure ?_);refine wpAny_bind ?_;refine wpAny_updateSeq g3 rfl ?_;rw[nm];refine wpAny_pure ⟨plainId_quiet zCb _,zc5 (f:=fun i=>ns.getD i 0) W hP no (its.toArray.size - 1) 0 _ _ u _ _ (by omega) (W.frame _ _ _ st' fun b' hb o g=>?_) (Heap.get?_update_self _ g3 rfl) fun h2 tk2 m u2 a1 a2 a3 a4=>?_⟩
  ·exact(Heap.get?_update_other _ _ (fun z:g1.objs.size=b'=>no (by rw[z];exact hb))).trans g
  ·refine h h2 tk2 m u2 (fun b o e=>a4 b o (old b o e).1 (old b o e).2 ((Heap.get?_update_other _ _ (Ne.symm (old b o e).2)).trans (kp b o (old b o e).1 (k2 _ _ (k1 _ _ e))))) ?_ fun a ha=>?_
   ·rcases a1 with a1|⟨i,hi',a1⟩
    ·rw[a1];exact PySem.getD_mem (by omega)
    ·rw[a1];exact PySem.getD_mem (by omega)
   ·obtain⟨i,hi',rfl⟩:=mem_getD ha;by_cases z:i=0
    ·subst z;exact a2
    ·exact a3 i (by omega) (by omega)
end
section
variable{X:Cx}
def zpk(K:PySem.W.Frag)(d:V):List V->Hp->VK->Prop:=fun vs H Q=>∃(a:Addr) (ns:List Int),vs=[V.ref a]/\SqL K H a (ns.map V.int)/\(ns=[]->Q d H)/\∀m,m∈ns->(∀y,y∈ns->m<=y)->Q (.int m) H
theorem zor{e d:Expr}{te td:TE}{p pos kpos:Pos}(hc:X.calm=true)(hm:X.mg "min" = none)(he:PE X e te)(hd:PE X d td)(hg:Gl X "min" := by rfl)
  (hst:backTo pos (starEach [e] X.env)=[(false,(do let v <-eval e X.env;standAt pos;pure v))]\/backTo pos (starEach [e] X.env)=[(false,eval e X.env)]:=by first | exact .inr rfl | exact .inl rfl) (hs:starEach [e] X.env=(false,eval e X.env)::starEach [] X.env:=by rfl) :
  PE X (.Call (.Name "min" p) [e] [⟨some "default",d,kpos⟩] pos) (fun σ H Q=>te σ H fun x H1=>td σ H1 fun y H2=>zpk X.K y [x] H2 Q):=by
 intro pins s σ H Q I h;refine wpAny_Call_Name_kw (zey I hg hm PyProof.Rows.boot_min ?_);refine callWith_kw (thn (zaa (te:=te) he zad hs pos pins s σ H (fun vs H1=>td σ H1 fun y H2=>zpk X.K y vs H2 Q) I h) fun us s1 ⟨vs,H1,I1,r1,q1⟩=>kws_cons (thn (hd pins s1 σ H1 _ I1 q1) fun wv s2 ⟨y,H2,I2,rw',q2⟩=>kws_nil ?_)) (by first | rfl|(rw[hs];rfl)) (by rw[hs];rfl);obtain⟨a,ns,rfl,sq,q0,q3⟩:=q2;obtain⟨its,rv,hl,_⟩:=I2.list sq;rw[Vals.ref1 r1];exact zjP (I2.ok.hd hc) hl.isList rv.ints (fun h' tk e kp=>⟨y,H2,I2.kept kp,rw',q0 e⟩) fun h' tk m t' kp h1 h2=>⟨.int _,H2,I2.kept kp,⟨_,rfl⟩,q3 m h1 h2⟩
end
section
variable{prog:Program}{w:World}{A:Around}{I S:Addr}{fp wr:List Addr}{n:Nat}{P:Nat->Value->Prop}{St:Nat->Heap->Prop}{f:Nat->Int}{kw:List (Str×Value)}
theorem zc6(W:Walks prog w A.in1 I fp wr n P St)(hP:∀i v,P i v->∃t,v=Value.int (f i) t)(no:S∉fp):∀(k j:Nat) (s:Shared) (M:Int) (t:Tok) (c:Nat) (R:Result->Shared->Prop),k+(j+1)=n->St (j+1) s.heap ->
  s.heap.get? S=some {cls:=.type "list",dict:=none,data:=.seq #[.int M t,.int M t] c,slots:=#[]} ->
  (∀h' tk m u,(m=M\/∃i,i<n/\m=f i)->M<=m->(∀i,j<i->i<n->f i<=m)->(∀b o,b∉wr->b≠S->s.heap.get? b=some o->h'.get? b=some o)->R (.ok (.ret (.int m u))) {s with heap:=h',toks:=tk}) ->
  codeAny (model prog w) A (.builtin "max.loop" ⟨[.ref I,.none,.ref S],kw⟩) R s
 | 0,j,s,M,t,c,R,e,st,hS,hR=>by
  have gw:S∉wr:=fun z=>no (W.sub _ z);refine codeAny_builtin zDp ?_;rw[Around.under_plainId zCc _];refine wpAny_bind (wpAny_seqItems hS rfl (wpAny_bind (wpAny_tryCatch (W.done s _ _ ((by omega:j+1=n) ▸ st) fun h' tk kp=>?_))));refine wpAny_bind ?_;refine wpAny_updateSeq (kp S _ gw hS) rfl (wpAny_bind (wpAny_letGo (wpAny_pure ?_)));exact hR _ tk M t (.inl rfl) (Int.le_refl _) (fun i a b=>by omega) fun b o nb ns g=>(Heap.get?_update_other _ _ (Ne.symm ns)).trans (kp b o nb g)
 | k+1,j,s,M,t,c,R,e,st,hS,hR=>by
  have gw:S∉wr:=fun z=>no (W.sub _ z);have nm:(toString "max" ++ toString ".loop" : String) = "max.loop" := by decide
  refine codeAny_builtin zDp ?_;rw[Around.under_plainId zCc _];refine wpAny_bind (wpAny_seqItems hS rfl (wpAny_bind (wpAny_tryCatch (W.item (j+1) s _ _ (by omega) st fun v h' tk pv st' kp=>?_))));obtain⟨u,rfl⟩:=hP _ _ pv;have g1:=kp S _ gw hS;refine wpAny_bind (wpAny_pure ?_);refine wpAny_bind (wpAny_tryCatch (wpAny_holding (wpAny_bind (CmpOf.ints_gt (prog:=prog) (w:=w) (A:=A.in1) (P:=fun(i:Nat) v=>∃t,v=.int (if i=0 then M else f (j+1)) t) (fun i=>if i=0 then M else f (j+1)) (fun i v h=>h) 1 0 _ _ _ _ _ ⟨u,rfl⟩ ⟨t,rfl⟩ ?_))));refine wpAny_bind (wpAny_holding (wpAny_truthy_bool (wpAny_bind (wpAny_letGo (wpAny_pure ?_)))));by_cases b:f (j+1) > M
  ·simp only[b,zDs,if_false,if_true,decide_true];refine wpAny_bind ?_;refine wpAny_updateSeq g1 rfl (wpAny_bind (wpAny_letGo ?_));rw[nm];refine wpAny_pure ⟨plainId_quiet zCc _,zc6 W hP no k (j+1) _ (f (j+1)) u _ R (by omega) (W.frame _ _ _ st' fun b' hb o g=>?_) (Heap.get?_update_self _ g1 rfl) fun h2 tk2 m u2 a1 a2 a3 a4=>?_⟩
   ·exact(Heap.get?_update_other _ _ (fun z:S=b'=>no (by rw[z];exact hb))).trans g
   ·refine hR h2 tk2 m u2 (.inr ?_) (by omega) (fun i z1 z2=>?_) fun b' o nb ns g=>a4 b' o nb ns ((Heap.get?_update_other _ _ (Ne.symm ns)).trans (kp b' o nb g))
    ·rcases a1 with a1 | a1
     ·exact⟨j+1,by omega,a1⟩
     ·exact a1
    ·by_cases z:i=j+1
     ·subst z;exact a2
     ·exact a3 i (by omega) z2
  ·simp only[b,zDs,if_false,if_true,decide_false];refine wpAny_bind (wpAny_letGo ?_);rw[nm];refine wpAny_pure ⟨plainId_quiet zCc _,zc6 W hP no k (j+1) _ M t c R (by omega) st' g1 fun h2 tk2 m u2 a1 a2 a3 a4=>?_⟩;refine hR h2 tk2 m u2 a1 a2 (fun i z1 z2=>?_) fun b' o nb ns g=>a4 b' o nb ns (kp b' o nb g);by_cases z:i=j+1
   ·subst z;omega
   ·exact a3 i (by omega) z2
end
theorem ziZ(a v:Value):argsOk "max" ⟨[a],[(Str.ofString "default",v)]⟩:=by unfold argsOk;kernel_rfl
section
variable{prog:Program}{w:World}{A:Around}{E:Value->Shared->Prop}{s:Shared}{l:Addr}{its:List Value}{ns:List Int}{d:Value}{Q:Value->Shared->Prop}
theorem zjQ(hh:A.handled=none)(hl:s.heap.IsList l its.toArray)(hi:IntsAre its ns)(h0:∀h' tk,ns=[]->(∀b o,s.heap.get? b=some o->h'.get? b=some o)->Q d {s with heap:=h',toks:=tk})
  (h:∀h' tk M t',(∀b o,s.heap.get? b=some o->h'.get? b=some o)->M∈ns->(∀a,a∈ns->a<=M)->Q (.int M t') {s with heap:=h',toks:=tk}):wpAny (model prog w) A (call (.builtin "max") [.ref l] [(Str.ofString "default",d)]) Q E s:=by
 have nm:(toString "max" ++ toString ".loop" : String) = "max.loop" := by decide
 refine kmk_tree PySem.F.kind_max PySem.F.plain_max PySem.F.entry_max (ziZ _ _) ?_;refine wpAny_bind (wpAny_of_eq (show Builtin.Builtins.bindParams "max" ["key", "default"] 0 ⟨[],[(Str.ofString "default",d)]⟩=pure [none,some d] from by kernel_rfl) (wpAny_bind (wpAny_pure ?_)));have e1:its.length=ns.length:=hi.length;have lt:l<s.heap.objs.size:=by obtain⟨_,e,_⟩:=hl;exact Heap.lt_size e
 refine wpAny_bind (wpAny_pyIter_list hl (wpAny_bind (wpAny_newObj_type ?_)));rw[nm];refine wpAny_pure ⟨plainId_quiet zCc _,?_⟩;generalize hs1:s.heap.push {cls:=.type "list_iterator",data:=.fields #[.ref l,.int 0 0]}=g1;have k1:∀b o,s.heap.get? b=some o->g1.get? b=some o:=fun b o e=>by rw[<-hs1];exact Heap.get?_push_of_some _ e
 have z1:g1.objs.size=s.heap.objs.size+1:=by rw[<-hs1,Heap.size_push]
 have i1:g1.IsListIter s.heap.objs.size l 0:=by rw[<-hs1];exact⟨_,Heap.get?_push_size _ rfl,rfl,rfl⟩
 have l1:g1.IsList l its.toArray:=by rw[<-hs1];exact hl.push _
 generalize hs2:g1.push {cls:=.type "list",data:=.seq ([]:List Value).toArray}=g2;have k2:∀b o,g1.get? b=some o->g2.get? b=some o:=fun b o e=>by rw[<-hs2];exact Heap.get?_push_of_some _ e
 have S2:g2.get? g1.objs.size=some {cls:=.type "list",dict:=none,data:=.seq #[] 0,slots:=#[]}:=by rw[<-hs2];exact Heap.get?_push_size _ rfl
 have i2:g2.IsListIter s.heap.objs.size l 0/\g2.IsList l its.toArray:=by
  refine⟨?_,by rw[<-hs2];exact l1.push _⟩;obtain⟨o,e,r⟩:=i1;exact⟨o,k2 _ _ e,r⟩
 have W:=Walks.list (prog:=prog) (w:=w) (A:=A.in1) hh s.heap.objs.size l (zBe lt) its.toArray;have no:g1.objs.size∉[s.heap.objs.size,l]:=fun z=>by
  rw[z1] at z;rcases zAe z with z | z
  ·exact absurd z (Nat.succ_ne_self _)
  ·exact absurd lt (by rw[<-zAg z];exact Nat.not_lt.mpr (zDl _))
 have gw:g1.objs.size∉[s.heap.objs.size]:=by simp[z1]
 have hP:∀i v,its.toArray[i]?=some v->∃t,v=Value.int (ns.getD i 0) t:=fun i v e=>by
  have e':its[i]?=some v:=by simpa using e
  exact zlq hi e'
 have old:∀b o,s.heap.get? b=some o->b∉[s.heap.objs.size]/\b≠g1.objs.size:=fun b o e=>by
  have:=Heap.lt_size e;refine⟨fun z=>absurd this (by rw[zAg z];exact zCe _),fun z=>absurd this (by rw[z,z1];exact Nat.not_lt.mpr (zDl _))⟩
 have hn:its.toArray.size=ns.length:=by rw[zAn,e1]
 refine codeAny_builtin zDp ?_;rw[Around.under_plainId zCc _];refine wpAny_bind (wpAny_seqItems (s:={s with heap:=g2}) S2 rfl (wpAny_bind (wpAny_tryCatch ?_)));by_cases ze:ns=[]
 ·have ze':its.toArray.size=0:=by rw[hn,ze];rfl
  refine W.done {s with heap:=g2} _ _ (by rw[ze'];exact i2) fun h' tk kp=>?_;refine wpAny_bind (wpAny_rule (wpAny_pure ?_));exact h0 h' tk ze fun b o e=>kp b o (old b o e).1 (k2 _ _ (k1 _ _ e))
 ·have pos:0<its.toArray.size:=by rw[hn];exact List.length_pos_iff.mpr ze
  refine W.item 0 {s with heap:=g2} _ _ pos i2 fun v h' tk pv st' kp=>?_;obtain⟨u,rfl⟩:=hP _ _ pv;have g3:=kp _ _ gw S2;refine wpAny_bind (wpAny_pure ?_);refine wpAny_bind ?_;refine wpAny_updateSeq g3 rfl ?_;rw[nm];refine wpAny_pure ⟨plainId_quiet zCc _,zc6 (f:=fun i=>ns.getD i 0) W hP no (its.toArray.size - 1) 0 _ _ u _ _ (by omega) (W.frame _ _ _ st' fun b' hb o g=>?_) (Heap.get?_update_self _ g3 rfl) fun h2 tk2 m u2 a1 a2 a3 a4=>?_⟩
  ·exact(Heap.get?_update_other _ _ (fun z:g1.objs.size=b'=>no (by rw[z];exact hb))).trans g
  ·refine h h2 tk2 m u2 (fun b o e=>a4 b o (old b o e).1 (old b o e).2 ((Heap.get?_update_other _ _ (Ne.symm (old b o e).2)).trans (kp b o (old b o e).1 (k2 _ _ (k1 _ _ e))))) ?_ fun a ha=>?_
   ·rcases a1 with a1|⟨i,hi',a1⟩
    ·rw[a1];exact PySem.getD_mem (by omega)
    ·rw[a1];exact PySem.getD_mem (by omega)
   ·obtain⟨i,hi',rfl⟩:=mem_getD ha;by_cases z:i=0
    ·subst z;exact a2
    ·exact a3 i (by omega) (by omega)
end
section
variable{X:Cx}
def zpl(K:PySem.W.Frag)(d:V):List V->Hp->VK->Prop:=fun vs H Q=>∃(a:Addr) (ns:List Int),vs=[V.ref a]/\SqL K H a (ns.map V.int)/\(ns=[]->Q d H)/\∀m,m∈ns->(∀y,y∈ns->y<=m)->Q (.int m) H
theorem zot{e d:Expr}{te td:TE}{p pos kpos:Pos}(hc:X.calm=true)(hm:X.mg "max" = none)(he:PE X e te)(hd:PE X d td)(hg:Gl X "max" := by rfl)
  (hst:backTo pos (starEach [e] X.env)=[(false,(do let v <-eval e X.env;standAt pos;pure v))]\/backTo pos (starEach [e] X.env)=[(false,eval e X.env)]:=by first | exact .inr rfl | exact .inl rfl) (hs:starEach [e] X.env=(false,eval e X.env)::starEach [] X.env:=by rfl) :
  PE X (.Call (.Name "max" p) [e] [⟨some "default",d,kpos⟩] pos) (fun σ H Q=>te σ H fun x H1=>td σ H1 fun y H2=>zpl X.K y [x] H2 Q):=by
 intro pins s σ H Q I h;refine wpAny_Call_Name_kw (zey I hg hm PyProof.Rows.boot_max ?_);refine callWith_kw (thn (zaa (te:=te) he zad hs pos pins s σ H (fun vs H1=>td σ H1 fun y H2=>zpl X.K y vs H2 Q) I h) fun us s1 ⟨vs,H1,I1,r1,q1⟩=>kws_cons (thn (hd pins s1 σ H1 _ I1 q1) fun wv s2 ⟨y,H2,I2,rw',q2⟩=>kws_nil ?_)) (by first | rfl|(rw[hs];rfl)) (by rw[hs];rfl);obtain⟨a,ns,rfl,sq,q0,q3⟩:=q2;obtain⟨its,rv,hl,_⟩:=I2.list sq;rw[Vals.ref1 r1];exact zjQ (I2.ok.hd hc) hl.isList rv.ints (fun h' tk e kp=>⟨y,H2,I2.kept kp,rw',q0 e⟩) fun h' tk m t' kp h1 h2=>⟨.int _,H2,I2.kept kp,⟨_,rfl⟩,q3 m h1 h2⟩
end
end L2
namespace L2
open PySem PySem.Spec PyProof.Rows
structure KDict(P:Program)(w:World)(K:PySem.W.Frag)(d:Addr)(kvs:List (Key×V)):Prop where
 sys:(d == sysModules)=false
 ex:∃(o:Obj) (es:Array DictEntry) (ep:Nat) (vs:List (Key×Value)),K.lookup d=some o/\o.ExactDict/\o.data=.dict es ep/\es.size=kvs.length/\KV kvs vs/\KeysOf (zaS P w) es/\Pairs (zaS P w) es.toList vs/\(vs.map (·.1)).Nodup
section
variable{X:Cx}{pins:List (Addr×Obj)}{σ:St}{H:Hp}{s:Shared}{d:Addr}{kvs:List (Key×V)}
theorem KDict.at(D:KDict X.prog X.w X.K d kvs)(I:Inv X pins σ H s):∃(o:Obj) (es:Array DictEntry) (ep:Nat) (vs:List (Key×Value)),s.heap.get? d=some o/\o.data=.dict es ep/\o.ExactDict/\es.size=kvs.length/\KV kvs vs/\s.heap.DictAt (zaS X.prog X.w) d vs ep:=by
 obtain⟨o,es,ep,vs,hk,hx,hd,hz,kv,a1,a2,a3⟩:=D.ex;have e:=I.kIn d o hk;exact⟨o,es,ep,vs,e,hd,hx,hz,kv,o,es,e,hx,hd,a1,a2,a3⟩
def ItK(kvs:List (Key×V)):It:=⟨fun i _=>i<kvs.length,fun i H x H'=>H'=H/\∃k v,kvs[i]?=some (k,v)/\x=kV k,fun i _=>kvs.length<=i⟩
theorem zob{P:Program}{w:World}{K:PySem.W.Frag}{tg:Expr}{o:Obj}{es:Array DictEntry}{ep:Nat}(D:KDict P w K d kvs)(it:Addr)(ho:K.lookup d=some o)(hod:o.data=.dict es ep):zh0 P w K tg (ItK kvs) [it] it (fun i h=>h.IsKeyIter it d i kvs.length ep) where
 mem:=by simp
 obj:=fun i h st b hb=>by
  obtain rfl:b=it:=by simpa using hb
  obtain⟨oi,e,c,dd⟩:=st;exact⟨oi,e,fun v z=>by rw[dd] at z;cases z⟩
 keep:=fun i h h' st k=>st.at fun oi e=>k it (by simp) oi e
 item:=by
  intro X hP hw hK hc i pins s σ H E I hf st hi;subst hP hw hK;obtain⟨f0,f1,f2,f3,f4,f5⟩:=hf it (by simp);obtain⟨o',es',ep',vs,hgd,hdt,hx,hsz,kv,hm⟩:=D.at I;obtain rfl:o'=o:=zBd (hgd.symm.trans (I.kIn d o ho));obtain⟨rfl,rfl⟩:=zdY hod hdt;obtain⟨⟨k,v⟩,hkv⟩:∃p,kvs[i]?=some p:=⟨kvs[i],zAy hi⟩;obtain⟨u,hu,ru⟩:=znq kv hkv;have hl:kvs.length=vs.length:=Paired.length kv;rw[hl] at st;refine wpAny_pyNext_dict_item st hm hu fun key h' hkey st' sb=>?_;have I1:Inv X pins σ H {s with heap:=h'}:=I.turned (t':=s.toks) (fun b ob hb e=>(sb.2 b hb).trans e) f0 f1 f3 f4 f5;obtain⟨oi,e,c,dd⟩:=id st';refine⟨key,rfl,zht (s:={s with heap:=h'}) e c dd (by decide) ⟨kV k,H,I1,zjE (show ze3 k key=true from hkey),⟨rfl,k,v,hkv,rfl⟩,?_,fun b hb=>(hf b hb).1⟩⟩;show h'.IsKeyIter it d (i+1) kvs.length _;rw[hl];exact st'
 done:=by
  intro X hP hw hK hc i pins s σ H E I hf st hi;subst hP hw hK;obtain⟨f0,f1,f2,f3,f4,f5⟩:=hf it (by simp);obtain⟨o',es',ep',vs,hgd,hdt,hx,hsz,kv,hm⟩:=D.at I;obtain rfl:o'=o:=zBd (hgd.symm.trans (I.kIn d o ho));obtain⟨rfl,rfl⟩:=zdY hod hdt;exact zc3 (I.ok.hd hc) st hgd hdt hsz hi fun h' eb=>⟨rfl,I.turned (t':=s.toks) (fun b ob hb e=>eb b ob hb e) f0 f1 f3 f4 f5⟩
 self:=fun A i s Q E st h=>wpAny_pyIter_keyiter st h
end
section
variable{X:Cx}{tg e i:Expr}{pos:Pos}{x:Str}{d:Addr}{kvs:List (Key×V)}{ty:TE}
theorem zrf(D:KDict X.prog X.w X.K d kvs)(hm:X.mg x=some (.ref d))(hg:Gl X x:=by rfl)(hd:(x == ("__debug__" : Str))=false:=by decide):PI X tg (.Name x pos) (fun _ H R=>R (ItK kvs) H):=by
 intro pins s σ H R I h;refine thn (zb2 hm hg hd pins s σ H (fun v H1=>v=.ref d/\R (ItK kvs) H1) I ⟨rfl,h⟩) fun u s1 ⟨y,H1,I1,rx,ey,q⟩=>?_;subst ey;obtain rfl:u=Value.ref d:=rx;obtain⟨o,es,ep,vs,hgd,hdt,hx,hsz,kv,hm'⟩:=D.at I1;obtain⟨o2,_,_,_,hk,_⟩:=D.ex;obtain rfl:o2=o:=zBd ((I1.kIn d o2 hk).symm.trans hgd);refine zfB D.sys hgd hx hdt (zhc (tk:=s1.toks) I1 _ (zob D _ hk hdt) ⟨_,Heap.get?_push_size _ rfl,rfl,?_⟩ q);rw[hsz]<;>rfl
def zpI(kvs:List (Key×V))(ty:TE):TE:=fun σ H Q=>ty σ H fun y H1=>∃k v,y=kV k/\zaO kvs k=some v/\Q v H1
theorem zm5(D:KDict X.prog X.w X.K d kvs)(hm:X.mg x=some (.ref d))(hi:PE X i ty)(hs:zqT i)(hg:Gl X x:=by rfl)(hd:(x == ("__debug__" : Str))=false:=by decide):PE X (.Subscript (.Name x pos) i pos') (zpI kvs ty):=by
 intro pins s σ H Q I h;refine zk2 PySem.F.slot_dict_getitem.lookup hs (thn (zb2 hm hg hd pins s σ H (fun v H1=>v=.ref d/\zpI kvs ty σ H1 Q) I ⟨rfl,h⟩) fun u s1 ⟨z,H1,I1,rx,ez,q1⟩=>thn (hi pins s1 σ H1 _ I1 q1) fun iv s2 ⟨y,H2,I2,ry,k,v,ey,ev,q2⟩=>?_);subst ez ey;obtain rfl:u=Value.ref d:=rx;obtain⟨o,es,ep,vs,hgd,hdt,hx,hsz,kv,hm'⟩:=D.at I2;obtain⟨w',hw,rw'⟩:=RelO.some_of (v:=v) (o:=valueAt vs k) (by rw[<-ev];exact kv.val k);exact⟨hm'.dictOf.typeIs,wpAny_getItem_of (zdK ry) hm'.dictOf.mapOf hw ⟨v,H2,I2.tok _,rw',q2⟩⟩
end
theorem zqC{kvs:List (Key×V)}{g:TG}{tb:TS}{D:zdc}{σ:St}{H:Hp}(Pv:Nat->St->Hp->Prop)(h0:Pv 0 σ H)
  (hs:∀i k v σ H,kvs[i]?=some (k,v)->Pv i σ H->g (kV k) σ H fun σ2 H2=>tb {D with nx:=Pv (i+1),ct:=Pv (i+1),bk:=D.nx} σ2 H2) (hd:∀σ H,Pv kvs.length σ H->D.nx σ H) :
  zkf (fun _ H R=>R (ItK kvs) H) g tb D σ H:=by
 refine⟨fun i m σ H=>m=kvs.length - i/\i<=kvs.length/\Pv i σ H,⟨kvs.length,by simp,zAx _,h0⟩,?_⟩;rintro i m σ H ⟨rfl,hi,p⟩;by_cases hlt:i<kvs.length
 ·refine .inr ⟨hlt,Pv (i+1),fun σ' H' p'=>⟨kvs.length - (i+1),by omega,rfl,hlt,p'⟩,fun x H' y=>?_⟩;obtain⟨e,k,v,hk,rfl⟩:=y;subst e;exact hs i k v σ _ hk p
 ·obtain rfl:i=kvs.length:=by omega
  exact .inl ⟨zAi _,hd σ H p⟩
end L2
namespace L2
open PySem PySem.Spec PyProof.Rows
section
variable{σ:St}{H:Hp}{D:zdc}{Q:VK}{K:PySem.W.Frag}{g:TG}{tb:TS}{ta:TA}{te:TE}{tt:TT}{vs:List Nat}
abbrev zn4(J:It)(g:TG)(tb:TS)(D:zdc)(σ:St)(H1:Hp):Prop:=∃W:Nat->Nat->St->Hp->Prop,(∃m,W 0 m σ H1)/\∀i m σ H,W i m σ H ->
 (J.stop i H/\D.nx σ H)\/(J.go i H/\∃N:St->Hp->Prop,(∀σ' H',N σ' H'->∃m',m'<m/\W (i+1) m' σ' H')/\∀x H',J.yld i H x H'->g x σ H' fun σ2 H2=>tb {D with nx:=N,ct:=N,bk:=D.nx} σ2 H2)
theorem znB(h:ta σ H fun vs H1=>∃i j:Int,vs=[.int i,.int j]/\(-(2 ^ 62)<=i/\i<2 ^ 62/\-(2 ^ 62)<=j/\j<2 ^ 62)/\zn4 (Itr i (j - i).toNat) g tb D σ H1):zkf (znD ta) g tb D σ H:=h
theorem zqp{tl:TE}(h:tl σ H fun x H1=>∃a,x=.ref a/\(∃xs,SqL K H1 a xs)/\zn4 (Itl K a) g tb D σ H1):zkf (zls K tl) g tb D σ H:=h
theorem zqo{tl:TE}(h:tl σ H fun x H1=>∃a,x=.ref a/\(∃xs,SqT K H1 a xs)/\zn4 (Itt K a) g tb D σ H1):zkf (zrT K tl) g tb D σ H:=h
theorem zqq(h:ta σ H fun vs H1=>∃a xs,vs=[.ref a]/\SqL K H1 a xs/\zn4 (Ite K a) g tb D σ H1):zkf (zpv K ta) g tb D σ H:=h
theorem znH{a:Addr}{xs:List V}(Pv:Nat->St->Hp->Prop)(h0:Pv 0 σ H)(hl:∀i σ H,Pv i σ H->SqL K H a xs)
  (hs:∀i x σ H T,xs[i]?=some x->Pv i σ H->H T=none->g (.ref T) σ (upd H T (.tup [.int (i:Nat),x])) fun σ2 H2=>tb {D with nx:=Pv (i+1),ct:=Pv (i+1),bk:=D.nx} σ2 H2) (hd:∀σ H,Pv xs.length σ H->D.nx σ H) :
  zn4 (Ite K a) g tb D σ H:=by
 refine⟨fun i m σ H=>m=xs.length - i/\i<=xs.length/\Pv i σ H,⟨xs.length,by simp,zAx _,h0⟩,?_⟩;rintro i m σ H ⟨rfl,hi,p⟩;have q:=hl i σ H p;by_cases hlt:i<xs.length
 ·refine .inr ⟨⟨xs,xs[i],q,by simp[hlt]⟩,Pv (i+1),fun σ' H' p'=>⟨xs.length - (i+1),by omega,rfl,hlt,p'⟩,fun x H' y=>?_⟩;obtain⟨T,x',rfl,hT,e,y⟩:=y;subst e;exact hs i x' σ _ T (y xs q) p hT
 ·obtain rfl:i=xs.length:=by omega
  exact .inl ⟨⟨xs,q,zAi _⟩,hd σ H p⟩
abbrev LcW(J:It)(g:TG)(tt:TT)(te:TE)(vs:List Nat)(σ:St)(H1:Hp)(Q:VK):Prop:=∀D,H1 D=none->∃W:Nat->Nat->Hp->Prop,(∃m,W 0 m (upd H1 D (.lst [])))/\∀i m H,W i m H ->
 (J.stop i H/\Q (.ref D) H)\/(J.go i H/\∃Nx:Hp->Prop,(∀H',Nx H'->∃m',m'<m/\W (i+1) m' H')/\∀x H',J.yld i H x H'->g x (zbe σ vs) H' fun σ2 H2=>zbe σ2 vs=zbe σ vs/\tt σ2 H2 fun b H3 =>
  if b=true then te σ2 H3 fun y H4=>∃acc,H4 D=some (.lst acc)/\acc.length<sizeLine/\Nx (upd H4 D (.lst (acc++[y]))) else Nx H3)
theorem zoN(h:ta σ H fun us H1=>∃i j:Int,us=[.int i,.int j]/\(-(2 ^ 62)<=i/\i<2 ^ 62/\-(2 ^ 62)<=j/\j<2 ^ 62)/\LcW (Itr i (j - i).toNat) g tt te vs σ H1 Q):tLc (znD ta) g tt te vs σ H Q:=h
theorem zrC{tl:TE}(h:tl σ H fun x H1=>∃a,x=.ref a/\(∃xs,SqL K H1 a xs)/\LcW (Itl K a) g tt te vs σ H1 Q):tLc (zls K tl) g tt te vs σ H Q:=h
theorem zrD{td:TE}(h:td σ H fun x H1=>∃d o,x=.ref d/\((∃kvs,H1 d=some (.frz o (.dK kvs))/\LcW (Itk d o kvs) g tt te vs σ H1 Q)\/∃kvs,H1 d=some (.frz o (.dT kvs))/\LcW (zqU d o kvs) g tt te vs σ H1 Q)):tLc (zpu td) g tt te vs σ H Q:=h
abbrev WhB(W:Nat->St->Hp->Prop)(m:Nat)(tb:TS)(D:zdc)(σ:St)(H1:Hp):Prop:=∃N:St->Hp->Prop,(∀σ' H',N σ' H'->∃m',m'<m/\W m' σ' H')/\tb {D with nx:=N,ct:=N,bk:=D.nx} σ H1
theorem whB{W:Nat->St->Hp->Prop}{m:Nat}{H1:Hp}(h:tb {D with nx:=fun σ' H'=>∃m',m'<m/\W m' σ' H',ct:=fun σ' H'=>∃m',m'<m/\W m' σ' H',bk:=D.nx} σ H1):WhB W m tb D σ H1:=⟨_,fun _ _ z=>z,h⟩
theorem zhp{c:TT}(W:Nat->St->Hp->Prop)(m:Nat)(h0:W m σ H)(hs:∀m σ H,W m σ H->c σ H fun b H1=>if b=true then WhB W m tb D σ H1 else D.nx σ H1):zmw c tb D σ H:=⟨W,⟨m,h0⟩,hs⟩
def zqY(K:PySem.W.Frag)(ta:TE):TT:=fun σ H R=>ta σ H fun x H'=>∃k,zo_ K x H' k/\R k H'
theorem zcZ{X:Cx}{a:Expr}{ta:TE}(ha:PE X a ta)(he:∀whole,isTrue a X.env whole=(do let v <-whole;standAt a.pos;holding [v] (truthy v))):PT X a (zqY X.K ta):=zm1 ha he
theorem zrn{ta:TE}{R:Bool->Hp->Prop}(h:ta σ H fun x H'=>∃k,zo_ K x H' k/\R k H'):zqY K ta σ H R:=h
theorem zoR(h:∀p,H p=none->Q (.ref p) (upd H p (.dK []))):zmB σ H Q:=h
theorem zoQ(h:∀p,H p=none->Q (.ref p) (upd H p (.dT []))):zmA σ H Q:=h
theorem zqu{td ty tv:TE}(h:tv σ H fun v H1=>td σ H1 fun x H2=>ty σ H2 fun y H3=>∃a H4,x=.ref a/\zn5 H3 a y v H4/\D.nx σ H4):zmX td ty tv D σ H:=h
theorem zcF{d:Addr}{kvs:List (Key×V)}{k:Key}{v:V}{R:Hp->Prop}(h:H d=some (.dK kvs))(n:kvs.length<sizeLine)(q:R (upd H d (.dK (zbk kvs k v)))):∃a H4,V.ref d=.ref a/\zn5 H a (kV k) v H4/\R H4:=⟨d,_,rfl,.inl ⟨kvs,k,h,rfl,n,rfl⟩,q⟩
theorem zoO{d b:Addr}{kvs:List (List Key×V)}{k:List Key}{v:V}{R:Hp->Prop}(h:H d=some (.dT kvs))(hb:H b=some (.tup (k.map kV)))(n:kvs.length<sizeLine)(q:R (upd H d (.dT (zbk kvs k v)))):∃a H4,V.ref d=.ref a/\zn5 H a (.ref b) v H4/\R H4:=⟨d,_,rfl,.inr ⟨kvs,k,b,h,rfl,hb,n,rfl⟩,q⟩
theorem zbc{d:Addr}{kvs:List (Key×V)}{k:Key}(h:Rd H d (.dK kvs)):zdo H d (kV k) (zaO kvs k):=.inl ⟨kvs,k,h,rfl,rfl⟩
theorem zkP{d b:Addr}{kvs:List (List Key×V)}{k:List Key}(h:Rd H d (.dT kvs))(hb:H b=some (.tup (k.map kV))):zdo H d (.ref b) (zaO kvs k):=.inr ⟨kvs,k,b,h,rfl,hb,rfl⟩
theorem zqw{td ty:TE}(h:td σ H fun x H1=>ty σ H1 fun y H2=>∃a v,x=.ref a/\zdo H2 a y (some v)/\Q v H2):zkZ td ty σ H Q:=h
theorem zrL{td ty:TE}(h:ty σ H fun y H1=>td σ H1 fun x H2=>∃a o,x=.ref a/\zdo H2 a y o/\Q (.bl o.isSome) H2):zmC ty td σ H Q:=h
theorem zqv{td ty:TE}(h:ty σ H fun y H1=>td σ H1 fun x H2=>∃a o,x=.ref a/\zdo H2 a y o/\Q (.bl (!o.isSome)) H2):ziz ty td σ H Q:=h
theorem zoT{td ty:TE}(h:td σ H fun x H1=>∃a,x=.ref a/\IsD H1 a/\ty σ H1 fun y H2=>∃o,zdo H2 a y o/\Q (o.getD .non) H2):zmE td ty σ H Q:=h
theorem zoS{td ty tx:TE}(h:td σ H fun x H1=>∃a,x=.ref a/\IsD H1 a/\ty σ H1 fun y H2=>tx σ H2 fun z H3=>∃o,zdo H3 a y o/\Q (o.getD z) H3):zmD td ty tx σ H Q:=h
theorem zoP{td ty tx:TE}(h:td σ H fun x H1=>∃a,x=.ref a/\IsD H1 a/\ty σ H1 fun y H2=>tx σ H2 fun z H3=>∃kvs k,H3 a=some (.dK kvs)/\y=kV k /\
 (∀v,zaO kvs k=some v->Q v (upd H3 a (.dK (zdj kvs k))))/\(zaO kvs k=none->Q z H3)):zmz td ty tx σ H Q:=h
theorem zrE{kvs:List (Key×V)}{ty:TE}(h:ty σ H fun y H1=>∃k v,y=kV k/\zaO kvs k=some v/\Q v H1):zpI kvs ty σ H Q:=h
theorem zpq{R:Bool->Hp->Prop}(h:R true H):zpH σ H R:=h
theorem znC{l b:Addr}{xs zs:List V}(h1:H l=some (.lst xs))(h2:H b=some (.lst zs))(n:xs.length+zs.length<=sizeLine)(q:Q .non (upd H l (.lst (xs++zs)))):zk_ (.ref l) [.ref b] H Q:=⟨l,b,xs,zs,rfl,rfl,h1,h2,n,q⟩
end
theorem itP{c A B:Prop}[Decidable c](h:c)(a:A):if c then A else B:=by rw[if_pos h];exact a
theorem itN{c A B:Prop}[Decidable c](h:¬c)(b:B):if c then A else B:=by rw[if_neg h];exact b
end L2
namespace Rs
open PySem L2
def top(i:Nat):Stmt:=PySem.Challenge.pw_ringsheet_s01_answers.main.body.getD i (.Pass ⟨0,0,0,0⟩)
abbrev zg6:Stmt:=top 11
abbrev zfs:Stmt:=top 12
abbrev zcR:Stmt:=zaH (top 18) 0
abbrev zia:Stmt:=top 19
abbrev zic:Stmt:=top 20
abbrev zb9:Stmt:=top 21
abbrev zee:Stmt:=top 22
abbrev zcx:Stmt:=top 23
abbrev zfQ:Stmt:=top 24
abbrev zcO:Stmt:=top 25
abbrev zdC:Stmt:=zaH (top 27) 0
abbrev zdB:Stmt:=top 28
abbrev zeS:Stmt:=top 29
abbrev zb8:Stmt:=top 30
abbrev zd_:Stmt:=top 43
abbrev zdx:Stmt:=top 44
abbrev zh9:Stmt:=top 45
abbrev zde:Stmt:=top 46
abbrev zdE:Stmt:=top 47
abbrev zib:Stmt:=top 48
abbrev zk5:Stmt:=top 49
abbrev zdg:Stmt:=top 50
abbrev zjx:Stmt:=top 51
abbrev zh_:Stmt:=top 52
abbrev zcS:Stmt:=zaH (top 59) 0
abbrev zfP:Stmt:=top 60
abbrev zeg:Stmt:=zaH (top 61) 0
abbrev zk7:Stmt:=zaH (top 61) 1
abbrev zjw:Stmt:=zaH (top 61) 2
abbrev zea:Stmt:=zaH (top 61) 3
abbrev zec:Stmt:=zaH (top 61) 4
abbrev zed:Stmt:=zaH (top 61) 5
abbrev zg5:Stmt:=zaH (top 61) 6
abbrev zcP:Stmt:=zaH (top 61) 7
abbrev zco:Stmt:=zaH (top 61) 8
abbrev zbw:Stmt:=zaH (top 61) 9
abbrev zeQ:Stmt:=zaH (top 61) 10
abbrev zdF:Stmt:=zaH (top 61) 11
abbrev zdD:Stmt:=zaH (top 61) 12
abbrev zdh:Stmt:=zaH (top 61) 13
abbrev zcy:Stmt:=zaH (top 61) 14
abbrev zfO:Stmt:=zaH (top 61) 15
abbrev zk6:Stmt:=zaH (top 61) 16
abbrev zdz:Stmt:=zaH (top 61) 17
abbrev zeb:Stmt:=zaH (top 61) 18
abbrev zdA:Stmt:=top 62
abbrev zfS:Stmt:=top 64
abbrev zfL:Stmt:=top 65
abbrev zdf:Stmt:=top 66
abbrev zfM:Stmt:=top 67
abbrev zdv:Stmt:=top 68
abbrev zdw:Stmt:=top 69
abbrev zef:Stmt:=zaH (top 71) 0
abbrev zbI:Stmt:=top 72
abbrev zjy:Stmt:=top 73
abbrev zeU:Stmt:=top 74
abbrev zdy:Stmt:=top 75
abbrev zcb:Stmt:=top 76
abbrev zdd:Stmt:=top 77
abbrev zcl:Stmt:=top 78
abbrev zeT:Stmt:=zaH (top 89) 0
abbrev zpj:Stmt:=zaH (top 89) 1
abbrev zcn:Stmt:=zaH (top 89) 2
abbrev zcm:Stmt:=zaH (top 89) 3
abbrev zg3:Stmt:=zaH (top 89) 4
abbrev zes:Stmt:=zaH (top 89) 5
abbrev zg4:Stmt:=zaH (top 89) 6
abbrev zg7:Stmt:=zaH (top 89) 7
abbrev zfN:Stmt:=zaH (top 89) 8
abbrev zfR:Stmt:=zaH (top 89) 9
abbrev zeR:Stmt:=zaH (top 89) 10
abbrev zfT:Stmt:=top 90
abbrev zcQ:Stmt:=top 91
abbrev zft:Stmt:=top 92
structure Ad where
 cRef:Addr
 cFor:Addr
 cRd:Addr
 cWo:Addr
 cSh:Addr
 cMi:Addr
 nMi:Addr
 cOf:Addr
 nOf:Addr
 tRing:Addr
 tZero:Addr
 tFar:Addr
 tNone:Addr
 tFun:Addr
 dSp:Addr
 tSp:Nat->Addr
def KTup(K:PySem.W.Frag)(a:Addr)(xs:List V):Prop:=∃(o:Obj) (its:Array Value) (n:Nat),K.lookup a=some o/\o.cls=.type "tuple" /\ o.data=.seq its n/\its.size<=sizeLine/\Vals xs its.toList
theorem KTup.sq{K:PySem.W.Frag}{a:Addr}{xs:List V}(h:KTup K a xs)(H:Hp):SqT K H a xs:=.inr h
structure zaW(K:PySem.W.Frag)(mg:Str->Option Value)(x:Str)(st:Stmt)(ps:List Str):Prop where
 ex:∃(f:Addr) (fd:FuncData),mg x=some (.ref f)/\Fun K x x st f fd/\Binds K fd ps []
structure zbb(K:PySem.W.Frag)(C:Addr)(m qual:Str)(st:Stmt)(ps:List Str):Prop where
 ex:∃(f:Addr) (fd:FuncData),zn3 K C m f/\Fun K m qual st f fd/\Binds K fd ps []
structure zhM(K:PySem.W.Frag)(mg:Str->Option Value)(x:Str)(C:Addr)(qual:Str)(st:Stmt)(ps:List Str):Prop where
 ex:∃(f:Addr) (fd:FuncData),Mk K C f/\mg x=some (.ref C)/\Fun K "__init__" qual st f fd/\Binds K fd ps []
structure zpz(K:PySem.W.Frag)(N:Addr)(qual:Str)(st:Stmt)(ps:List Str):Prop where
 ex:∃(f:Addr) (fd:FuncData),PySem.W.nsIn K N "__init__" = some (some (.ref f))/\PySem.W.isFn K (.ref f)=true/\Fun K "__init__" qual st f fd/\Binds K fd ps []
noncomputable def zfK (A:Ad):List (Key×V):=[(.inr "unequal",.ref (A.tSp 0)),(.inr "at most",.ref (A.tSp 1)),(.inr "at least",.ref (A.tSp 2)),(.inr "equal",.ref (A.tSp 3)),(.inr "below",.ref (A.tSp 4)),(.inr "above",.ref (A.tSp 5)),(.inr "plus",.ref (A.tSp 6)),(.inr "minus",.ref (A.tSp 7)),(.inr "times",.ref (A.tSp 8)),(.inr "over",.ref (A.tSp 9)),(.inr "rest",.ref (A.tSp 10))]
structure Txt(P:Program)(w:World)(K:PySem.W.Frag)(mg:Str->Option Value)(A:Ad):Prop where
 gDOLLAR:∃t,mg "DOLLAR" = some (.int (36) t)
 gOPENING:∃t,mg "OPENING" = some (.int (40) t)
 gCLOSING:∃t,mg "CLOSING" = some (.int (41) t)
 gCOMMA:∃t,mg "COMMA" = some (.int (44) t)
 gMINUS:∃t,mg "MINUS" = some (.int (45) t)
 gZERO:∃t,mg "ZERO" = some (.int (48) t)
 gNINE:∃t,mg "NINE" = some (.int (57) t)
 gCOLON:∃t,mg "COLON" = some (.int (58) t)
 gEQUALS:∃t,mg "EQUALS" = some (.int (61) t)
 gLETTER_A:∃t,mg "LETTER_A" = some (.int (65) t)
 gROWS:∃t,mg "ROWS" = some (.int (64) t)
 gCOLUMNS:∃t,mg "COLUMNS" = some (.int (16) t)
 gCELLS:∃t,mg "CELLS" = some (.int (1024) t)
 gCOMPARISON:∃t,mg "COMPARISON" = some (.int (1) t)
 gADDITION:∃t,mg "ADDITION" = some (.int (2) t)
 gPRODUCT:∃t,mg "PRODUCT" = some (.int (3) t)
 gFACTOR:∃t,mg "FACTOR" = some (.int (4) t)
 gLEAST:∃t,mg "LEAST" = some (.int (-9223372036854775808) t)
 gGREATEST:∃t,mg "GREATEST" = some (.int (9223372036854775807) t)
 gMOST_DIGITS:∃t,mg "MOST_DIGITS" = some (.int (18) t)
 gPARTS_OF_IF:∃t,mg "PARTS_OF_IF" = some (.int (3) t)
 gBRACKET:∃t,mg "BRACKET" = some (.int (0) t)
 gEND:∃t,mg "END" = some (.int (-1) t)
 gREFUSED:∃t,mg "REFUSED" = some (.int (-5000) t)
 gLEFT_SHEET:∃t,mg "LEFT_SHEET" = some (.int (-1) t)
 gEMPTY:∃t,mg "EMPTY" = some (.int (4) t)
 gLONGEST_TEXT:∃t,mg "LONGEST_TEXT" = some (.int (127) t)
 gGREATEST_MOST:∃t,mg "GREATEST_MOST" = some (.int (1024) t)
 gSET:∃t,mg "SET" = some (.int (1) t)
 gGET:∃t,mg "GET" = some (.int (2) t)
 gTEXT:∃t,mg "TEXT" = some (.int (3) t)
 gCOPY:∃t,mg "COPY" = some (.int (4) t)
 gRING:mg "RING" = some (.ref A.tRing)
 gBY_ZERO:mg "BY_ZERO" = some (.ref A.tZero)
 gTOO_FAR:mg "TOO_FAR" = some (.ref A.tFar)
 gNOTHING:mg "NOTHING" = some (.ref A.tNone)
 gFUNCTIONS:mg "FUNCTIONS" = some (.ref A.tFun)
 gSPELLINGS:mg "SPELLINGS" = some (.ref A.dSp)
 tRing:KTup K A.tRing [.int 1,.int 0]
 tZero:KTup K A.tZero [.int 2,.int 0]
 tFar:KTup K A.tFar [.int 3,.int 0]
 tNone:KTup K A.tNone [.int 0,.int 0]
 tFun:KTup K A.tFun [.str "IF",.str "SUM",.str "MIN",.str "MAX",.str "COUNT"]
 dSp:KDict P w K A.dSp (zfK A)
 tSp0:KTup K (A.tSp 0) [.int 60,.int 62]
 tSp1:KTup K (A.tSp 1) [.int 60,.int 61]
 tSp2:KTup K (A.tSp 2) [.int 62,.int 61]
 tSp3:KTup K (A.tSp 3) [.int 61]
 tSp4:KTup K (A.tSp 4) [.int 60]
 tSp5:KTup K (A.tSp 5) [.int 62]
 tSp6:KTup K (A.tSp 6) [.int 43]
 tSp7:KTup K (A.tSp 7) [.int 45]
 tSp8:KTup K (A.tSp 8) [.int 42]
 tSp9:KTup K (A.tSp 9) [.int 47]
 tSp10:KTup K (A.tSp 10) [.int 37]
 blen:mg "len" = none
 bmax:mg "max" = none
 bmin:mg "min" = none
 babs:mg "abs" = none
 bord:mg "ord" = none
 bsum:mg "sum" = none
 bstr:mg "str" = none
 blist:mg "list" = none
 brange:mg "range" = none
 benumerate:mg "enumerate" = none
 bisinstance:mg "isinstance" = none
 clcRef:Cls K A.cRef
 ncRef_column:NoAttr K A.cRef "column"
 ncRef_column_fixed:NoAttr K A.cRef "column_fixed"
 ncRef_row:NoAttr K A.cRef "row"
 ncRef_row_fixed:NoAttr K A.cRef "row_fixed"
 clcFor:Cls K A.cFor
 ncFor_code:NoAttr K A.cFor "code"
 ncFor_needed:NoAttr K A.cFor "needed"
 clcRd:Cls K A.cRd
 ncRd_text:NoAttr K A.cRd "text"
 ncRd_place:NoAttr K A.cRd "place"
 ncRd_code:NoAttr K A.cRd "code"
 ncRd_pending:NoAttr K A.cRd "pending"
 clcWo:Cls K A.cWo
 ncWo_cells:NoAttr K A.cWo "cells"
 ncWo_ranges:NoAttr K A.cWo "ranges"
 clcSh:Cls K A.cSh
 ncSh_contents:NoAttr K A.cSh "contents"
 ncSh_known:NoAttr K A.cSh "known"
 xcMi:XCls K A.cMi A.nMi
 gMisplaced:mg "Misplaced" = some (.ref A.cMi)
 xcOf:XCls K A.cOf A.nOf
 gOffSheet:mg "OffSheet" = some (.ref A.cOf)
 neRF:A.cRef≠A.cFor
 neRd:A.cRd≠A.cRef/\A.cRd≠A.cFor
 neWo:A.cWo≠A.cRef/\A.cWo≠A.cFor
 neSh:A.cSh≠A.cRef/\A.cSh≠A.cFor
 neMi:A.cMi≠A.cOf
 noInit:PySem.W.nsIn K A.nOf "__init__" = some none
 noPlace:PySem.W.nsIn K A.nMi "place" = some none
 tyFor:PySem.W.findIn K (.ref A.cFor) "__class__" = some (some (.builtin "object.__class__"))/\PySem.W.mroIn K A.cFor (.type "object")=some true
 tyGet:PySem.W.specialIn K (.builtin "object.__class__") "__get__" = some (some (.builtin "getset_descriptor.__get__"))/\PySem.W.takesIn K (.builtin "object.__class__")=some true
 gFormula:mg "Formula" = some (.ref A.cFor)
 isF:PySem.W.kitOne K (.ref A.cFor) (.ref A.cFor)=some true/\PySem.W.kitOne K (.type "int") (.ref A.cFor)=some false/\PySem.W.kitOne K (.type "NoneType") (.ref A.cFor)=some false
 isL:PySem.W.kitOne K (.type "list") (.type "list")=some true/\PySem.W.kitOne K (.type "tuple") (.type "list")=some false
 d_is_digit:zaW K mg "is_digit" zg6 ["byte"]
 d_spelled:zaW K mg "spelled" zfs ["word"]
 i_Reference:zhM K mg "Reference" A.cRef "Reference.__init__" zcR ["self", "column", "column_fixed", "row", "row_fixed"]
 d_is_cell:zaW K mg "is_cell" zia ["number"]
 d_cell_of:zaW K mg "cell_of" zic ["reference"]
 d_cells_between:zaW K mg "cells_between" zb9 ["first", "last"]
 d_moved_along:zaW K mg "moved_along" zee ["position", "fixed", "steps", "positions"]
 d_moved_reference:zaW K mg "moved_reference" zcx ["reference", "right", "down"]
 d_dollar_if:zaW K mg "dollar_if" zfQ ["fixed"]
 d_told_reference:zaW K mg "told_reference" zcO ["reference"]
 i_Formula:zhM K mg "Formula" A.cFor "Formula.__init__" zdC ["self", "code"]
 d_needed_cells:zaW K mg "needed_cells" zdB ["code"]
 d_moved_item:zaW K mg "moved_item" zeS ["item", "right", "down"]
 d_moved_formula:zaW K mg "moved_formula" zb8 ["formula", "right", "down"]
 d_spelling_of:zaW K mg "spelling_of" zd_ ["sign"]
 d_tightness_of:zaW K mg "tightness_of" zdx ["sign"]
 d_sign_at:zaW K mg "sign_at" zh9 ["text", "place"]
 d_within_bounds:zaW K mg "within_bounds" zde ["value"]
 d_cut_quotient:zaW K mg "cut_quotient" zdE ["left", "right"]
 d_divided:zaW K mg "divided" zib ["sign", "left", "right"]
 d_holds:zaW K mg "holds" zk5 ["sign", "left", "right"]
 d_joined_values:zaW K mg "joined_values" zdg ["sign", "left", "right"]
 d_joined:zaW K mg "joined" zjx ["sign", "left", "right"]
 d_negated:zaW K mg "negated" zh_ ["worth"]
 i_Misplaced:zpz K A.nMi "Misplaced.__init__" zcS ["self", "place"]
 d_is_column:zaW K mg "is_column" zfP ["byte"]
 i_Reader:zhM K mg "Reader" A.cRd "Reader.__init__" zeg ["self", "text"]
 m_ahead:zbb K A.cRd "ahead" "Reader.ahead" zk7 ["self"]
 m_passes:zbb K A.cRd "passes" "Reader.passes" zjw ["self", "byte"]
 m_shared_with:zbb K A.cRd "shared_with" "Reader.shared_with" zea ["self", "word"]
 m_read_digits:zbb K A.cRd "read_digits" "Reader.read_digits" zec ["self"]
 m_read_column:zbb K A.cRd "read_column" "Reader.read_column" zed ["self"]
 m_read_row:zbb K A.cRd "read_row" "Reader.read_row" zg5 ["self"]
 m_read_reference:zbb K A.cRd "read_reference" "Reader.read_reference" zcP ["self"]
 m_at_start_of_part:zbb K A.cRd "at_start_of_part" "Reader.at_start_of_part" zco ["self"]
 m_read_reference_or_range:zbb K A.cRd "read_reference_or_range" "Reader.read_reference_or_range" zbw ["self"]
 m_read_named:zbb K A.cRd "read_named" "Reader.read_named" zeQ ["self"]
 m_begin_factor:zbb K A.cRd "begin_factor" "Reader.begin_factor" zdF ["self"]
 m_finish_signs:zbb K A.cRd "finish_signs" "Reader.finish_signs" zdD ["self", "loosest"]
 m_close_bracket:zbb K A.cRd "close_bracket" "Reader.close_bracket" zdh ["self"]
 m_begin_next_part:zbb K A.cRd "begin_next_part" "Reader.begin_next_part" zcy ["self"]
 m_read_sign:zbb K A.cRd "read_sign" "Reader.read_sign" zfO ["self"]
 m_go_on:zbb K A.cRd "go_on" "Reader.go_on" zk6 ["self"]
 m_read_formula:zbb K A.cRd "read_formula" "Reader.read_formula" zdz ["self"]
 m_read_number:zbb K A.cRd "read_number" "Reader.read_number" zeb ["self"]
 d_read_content:zaW K mg "read_content" zdA ["text"]
 d_bracketed:zaW K mg "bracketed" zfS ["part", "loosest"]
 d_told_sign:zaW K mg "told_sign" zfL ["sign", "left", "right"]
 d_told_function:zaW K mg "told_function" zdf ["name", "parts"]
 d_told_leaf:zaW K mg "told_leaf" zfM ["item"]
 d_told_formula:zaW K mg "told_formula" zdv ["formula"]
 d_told_content:zaW K mg "told_content" zdw ["content"]
 i_Worths:zhM K mg "Worths" A.cWo "Worths.__init__" zef ["self"]
 d_worths_of_range:zaW K mg "worths_of_range" zbI ["first", "last", "known"]
 d_chosen:zaW K mg "chosen" zjy ["parts"]
 d_all_worths:zaW K mg "all_worths" zeU ["parts"]
 d_summed_up:zaW K mg "summed_up" zdy ["name", "parts"]
 d_worth_of_function:zaW K mg "worth_of_function" zcb ["name", "parts"]
 d_worth_of_leaf:zaW K mg "worth_of_leaf" zdd ["item", "known"]
 d_worth_of_formula:zaW K mg "worth_of_formula" zcl ["formula", "known"]
 i_Sheet:zhM K mg "Sheet" A.cSh "Sheet.__init__" zeT ["self"]
 m_put:zbb K A.cSh "put" "Sheet.put" zpj ["self", "cell", "content"]
 m_filled_needs:zbb K A.cSh "filled_needs" "Sheet.filled_needs" zcn ["self", "cell"]
 m_worth_from_needs:zbb K A.cSh "worth_from_needs" "Sheet.worth_from_needs" zcm ["self", "cell"]
 m_work_out:zbb K A.cSh "work_out" "Sheet.work_out" zg3 ["self", "start"]
 m_comes_to:zbb K A.cSh "comes_to" "Sheet.comes_to" zes ["self", "start", "goal"]
 m_set_cell:zbb K A.cSh "set_cell" "Sheet.set_cell" zg4 ["self", "cell", "text"]
 m_get_cell:zbb K A.cSh "get_cell" "Sheet.get_cell" zg7 ["self", "cell"]
 m_tell_cell:zbb K A.cSh "tell_cell" "Sheet.tell_cell" zfN ["self", "cell", "most"]
 m_copy_cell:zbb K A.cSh "copy_cell" "Sheet.copy_cell" zfR ["self", "source", "goal"]
 m_needs_cell:zbb K A.cSh "needs_cell" "Sheet.needs_cell" zeR ["self", "cell", "other"]
 d_answer_to:zaW K mg "answer_to" zfT ["sheet", "call"]
 d_length_of_call:zaW K mg "length_of_call" zcQ ["calls", "place"]
 d_answers:zaW K mg "answers" zft ["calls"]
section
variable{P:Program}{w:World}{K:PySem.W.Frag}{mg:Str->Option Value}{base:Heap}{x qual m:Str}{C:Addr}{st:Stmt}{N ps:List Str}{k:Nat}{sp:Sp}
abbrev Bd0(P:Program)(w:World)(K:PySem.W.Frag)(mg:Str->Option Value)(base:Heap)(N:List Str)(qual:Str)(st:Stmt)(k:Nat)(sp:Sp):Prop:=∀(f:Addr) (cdv:Value) (A:Around) (outer:List Env) (s:Shared) (H:Hp) (vs:List V) (Q:VK) (E:XK),Room k (A.deeper (PyProof.Rows.envOfC qual (zag st) s.heap.objs.size f cdv))->sp vs H Q E ->
 ∃t,PSs (zaI CX0 P w K mg base N qual (zag st) f cdv A outer s H E).nox (zbi st) t/\t {nx:=fun _ H'=>Q .non H',rt:=Q} (start N vs) H
abbrev BdX(P:Program)(w:World)(K:PySem.W.Frag)(mg:Str->Option Value)(base:Heap)(N:List Str)(qual:Str)(st:Stmt)(k:Nat)(sp:Sp):Prop:=∀(f:Addr) (cdv:Value) (A:Around) (outer:List Env) (s:Shared) (H:Hp) (vs:List V) (Q:VK) (E:XK),Room k (A.deeper (PyProof.Rows.envOfC qual (zag st) s.heap.objs.size f cdv))->sp vs H Q E ->
 ∃t,PSs (zaI (CXE P w) P w K mg base N qual (zag st) f cdv A outer s H E) (zbi st) t/\t {nx:=fun _ H'=>Q .non H',rt:=Q} (start N vs) H
theorem zaV(D:zaW K mg x st ps)(S:zam N ps (zag st))(len:∀vs H Q E,sp vs H Q E->vs.length=ps.length)(b:Bd0 P w K mg base N x st k sp):Cal P w K mg base CX0 x (k+1) ps sp:=
 let ⟨f,fd,hm,F,bi⟩:=D.ex;⟨f,fd,F.ok S len (b f),hm,F.kp,bi⟩
theorem zfc(D:zaW K mg x st ps)(S:zam N ps (zag st))(len:∀vs H Q E,sp vs H Q E->vs.length=ps.length)(b:BdX P w K mg base N x st k sp):Cal P w K mg base (CXE P w) x (k+1) ps sp:=
 let ⟨f,fd,hm,F,bi⟩:=D.ex;⟨f,fd,F.okX S len (b f),hm,F.kp,bi⟩
theorem zbG(D:zbb K C m qual st ps)(c:Cls K C)(S:zam N ps (zag st))(len:∀vs H Q E,sp vs H Q E->vs.length=ps.length)(b:Bd0 P w K mg base N qual st k sp):CaM P w K mg base CX0 C m (k+1) ps sp:=
 let ⟨f,fd,hm,F,bi⟩:=D.ex;⟨f,fd,F.ok S len (b f),c,hm,bi⟩
theorem zbv(D:zbb K C m qual st ps)(c:Cls K C)(S:zam N ps (zag st))(len:∀vs H Q E,sp vs H Q E->vs.length=ps.length)(b:BdX P w K mg base N qual st k sp):CaM P w K mg base (CXE P w) C m (k+1) ps sp:=
 let ⟨f,fd,hm,F,bi⟩:=D.ex;⟨f,fd,F.okX S len (b f),c,hm,bi⟩
theorem zjc(D:zhM K mg x C qual st ps)(S:zam N ps (zag st))(len:∀vs H Q E,sp vs H Q E->vs.length=ps.length)(b:Bd0 P w K mg base N qual st k sp):CaC P w K mg base CX0 x C (k+1) ps sp:=
 let ⟨f,fd,M,hm,F,bi⟩:=D.ex;⟨f,fd,F.ok S len (b f),M,hm,bi⟩
end
end Rs
namespace Rs
open PySem L2 PySem.W PyProof.Rows
section
variable{P:Program}{w:World}{K:Frag}{h:Heap}{mg:Str->Option Value}(KX:K.In h)(G:h.Ns mainGlobals mg)
include KX G
theorem zrV{x:Str}{z:Int}{t:Tok}(e:nsIn K mainGlobals x=some (some (.int z t))):∃t,mg x=some (.int z t):=⟨t,mg_of KX G e⟩
section
variable{x qual m:Str}{C f N:Addr}{st:Stmt}{ps:List Str}{oc:Value}{od an:Option Addr}{osl:Array (Option Value)}{kV doc pm cdv ct:Value}
theorem zi_(a:nsIn K mainGlobals x=some (some (.ref f)))(l:K.lookup f=some ⟨oc,od,.func (fnOf x x (zbB st) (zbi st) (zag st) .none kV doc pm an cdv ct),osl⟩)(c:codeIn K cdv x=true)(k:keepIn K (.ref f)=true)
  (b:∀(kV doc pm:Value) (an:Option Addr) (cdv ct:Value) (us:List Value),us.length=ps.length->bindArgs (fnOf x x (zbB st) (zbi st) (zag st) .none kV doc pm an cdv ct) ⟨us,[]⟩=pure (ps.zip us)):zaW K mg x st ps:=
 ⟨f,_,mg_of KX G a,zdM l c k,(zdM l c k).binds b⟩
theorem zkI(g:nsIn K mainGlobals x=some (some (.ref C)))(mk:makesIn K C=true)(a:findIn K (.ref C) "__init__" = some (some (.ref f)))(i:isFn K (.ref f)=true)(kc:keepIn K (.ref C)=true)
  (l:K.lookup f=some ⟨oc,od,.func (fnOf "__init__" qual (zbB st) (zbi st) (zag st) .none kV doc pm an cdv ct),osl⟩) (c:codeIn K cdv qual=true) (k:keepIn K (.ref f)=true)
  (b:∀(kV doc pm:Value) (an:Option Addr) (cdv ct:Value) (us:List Value),us.length=ps.length->bindArgs (fnOf "__init__" qual (zbB st) (zbi st) (zag st) .none kV doc pm an cdv ct) ⟨us,[]⟩=pure (ps.zip us)):zhM K mg x C qual st ps:=
 ⟨f,_,⟨mk,a,i,kc⟩,mg_of KX G g,zdM l c k,(zdM l c k).binds b⟩
omit KX G in
theorem zkC(a:findIn K (.ref C) m=some (some (.ref f)))(i:isFn K (.ref f)=true)(l:K.lookup f=some ⟨oc,od,.func (fnOf m qual (zbB st) (zbi st) (zag st) .none kV doc pm an cdv ct),osl⟩)(c:codeIn K cdv qual=true)(k:keepIn K (.ref f)=true)
  (b:∀(kV doc pm:Value) (an:Option Addr) (cdv ct:Value) (us:List Value),us.length=ps.length->bindArgs (fnOf m qual (zbB st) (zbi st) (zag st) .none kV doc pm an cdv ct) ⟨us,[]⟩=pure (ps.zip us)):zbb K C m qual st ps:=
 ⟨f,_,⟨a,i,k⟩,zdM l c k,(zdM l c k).binds b⟩
omit KX G in
theorem zpA(a:nsIn K N "__init__" = some (some (.ref f)))(i:isFn K (.ref f)=true)(l:K.lookup f=some ⟨oc,od,.func (fnOf "__init__" qual (zbB st) (zbi st) (zag st) .none kV doc pm an cdv ct),osl⟩)(c:codeIn K cdv qual=true)(k:keepIn K (.ref f)=true)
  (b:∀(kV doc pm:Value) (an:Option Addr) (cdv ct:Value) (us:List Value),us.length=ps.length->bindArgs (fnOf "__init__" qual (zbB st) (zbi st) (zag st) .none kV doc pm an cdv ct) ⟨us,[]⟩=pure (ps.zip us)):zpz K N qual st ps:=
 ⟨f,_,a,i,zdM l c k,(zdM l c k).binds b⟩
omit KX G in
theorem zqV{nm q:Str}{bs:List Value}{sn:List Str}{sub:List Value}{ab:Bool}{col:Option Bool}{dd:Option Addr}{k0 k1 k2 k3 k5:Option Value}(l:K.lookup C=some (excClassObj nm q C N bs bmX true sn sub ab col dd k0 k1 k2 k3 k5 "Exception.__new__"))(ok:nsOkIn K N=true)
  (sa:nsIn K N "__setattr__" = some none) (ga:nsIn K N "__getattribute__" = some none) (gr:nsIn K N "__getattr__" = some none) (kp:keepIn K (.ref C)=true):XCls K C N:=⟨⟨nm,q,bs,sn,sub,ab,col,dd,k0,k1,k2,k3,k5,l⟩,ok,sa,ga,gr,kp⟩
omit KX G in
theorem zrj{a:Addr}{its:Array Value}{n:Nat}{xs:List V}(l:K.lookup a=some ⟨.type "tuple",od,.seq its n,osl⟩)(z:its.size<=sizeLine)(v:Vals xs its.toList):KTup K a xs:=⟨_,its,n,l,rfl,rfl,z,v⟩
end
abbrev zq6(w:World)(k0 k1 k2 k3 k4 k5 k6 k7 k8 k9 k10:Tok)(t0 t1 t2 t3 t4 t5 t6 t7 t8 t9 t10:Addr):List DictEntry:=[⟨zgr w (.inr "unequal"),.str "unequal" k0,.ref t0⟩,⟨zgr w (.inr "at most"),.str "at most" k1,.ref t1⟩,⟨zgr w (.inr "at least"),.str "at least" k2,.ref t2⟩,⟨zgr w (.inr "equal"),.str "equal" k3,.ref t3⟩,⟨zgr w (.inr "below"),.str "below" k4,.ref t4⟩,⟨zgr w (.inr "above"),.str "above" k5,.ref t5⟩,⟨zgr w (.inr "plus"),.str "plus" k6,.ref t6⟩,⟨zgr w (.inr "minus"),.str "minus" k7,.ref t7⟩,⟨zgr w (.inr "times"),.str "times" k8,.ref t8⟩,⟨zgr w (.inr "over"),.str "over" k9,.ref t9⟩,⟨zgr w (.inr "rest"),.str "rest" k10,.ref t10⟩]
omit KX G in
theorem zrk{A:Ad}{d:Addr}{ep:Nat}{k0 k1 k2 k3 k4 k5 k6 k7 k8 k9 k10:Tok}(l:K.lookup d=some ⟨.type "dict",none,.dict (zq6 w k0 k1 k2 k3 k4 k5 k6 k7 k8 k9 k10 (A.tSp 0) (A.tSp 1) (A.tSp 2) (A.tSp 3) (A.tSp 4) (A.tSp 5) (A.tSp 6) (A.tSp 7) (A.tSp 8) (A.tSp 9) (A.tSp 10)).toArray ep,#[]⟩)(hs:(d == sysModules)=false):KDict P w K d (zfK A):=by
 refine⟨hs,_,_,ep,[(.inr "unequal",.ref (A.tSp 0)),(.inr "at most",.ref (A.tSp 1)),(.inr "at least",.ref (A.tSp 2)),(.inr "equal",.ref (A.tSp 3)),(.inr "below",.ref (A.tSp 4)),(.inr "above",.ref (A.tSp 5)),(.inr "plus",.ref (A.tSp 6)),(.inr "minus",.ref (A.tSp 7)),(.inr "times",.ref (A.tSp 8)),(.inr "over",.ref (A.tSp 9)),(.inr "rest",.ref (A.tSp 10))],l,⟨rfl,rfl,rfl⟩,rfl,rfl,?_,?_,?_,?_⟩
 ·repeat (first | exact .nil | refine .cons ⟨rfl,rfl⟩ ?_)
 ·intro e he;simp only[List.mem_toArray,zEd,List.not_mem_nil,or_false] at he;rcases he with rfl | rfl | rfl | rfl | rfl | rfl | rfl | rfl | rfl | rfl | rfl<;>exact⟨.inr _,zdH _ _ _ _,rfl⟩
 ·repeat (first | exact .nil | refine .cons (zdH _ _ _ _) rfl ?_)
 ·show([.inr "unequal",.inr "at most",.inr "at least",.inr "equal",.inr "below",.inr "above",.inr "plus",.inr "minus",.inr "times",.inr "over",.inr "rest"]:List Key).Nodup;decide +kernel
theorem zqS{cRef cFor cRd cWo cSh cMi nMi cOf nOf tRing tZero tFar tNone tFun dSp t0 t1 t2 t3 t4 t5 t6 t7 t8 t9 t10 fa:Addr}{k0 k1 k2 k3 k4 k5 k6 k7 k8 k9 k10:Tok}{ep:Nat}{nm q nm' q':Str}{bs sub bs' sub':List Value}{sn sn':List Str}{ab ab':Bool}{col col':Option Bool}{dd dd':Option Addr}{j0 j1 j2 j3 j5 j0' j1' j2' j3' j5':Option Value}(hfa:mg "answers" = some (.ref fa))
  (ecRef:nsIn K mainGlobals "Reference" = some (some (.ref cRef))) (ecFor:nsIn K mainGlobals "Formula" = some (some (.ref cFor))) (ecRd:nsIn K mainGlobals "Reader" = some (some (.ref cRd))) (ecWo:nsIn K mainGlobals "Worths" = some (some (.ref cWo))) (ecSh:nsIn K mainGlobals "Sheet" = some (some (.ref cSh))) (ecMi:nsIn K mainGlobals "Misplaced" = some (some (.ref cMi))) (ecOf:nsIn K mainGlobals "OffSheet" = some (some (.ref cOf))) (etRing:nsIn K mainGlobals "RING" = some (some (.ref tRing))) (etZero:nsIn K mainGlobals "BY_ZERO" = some (some (.ref tZero))) (etFar:nsIn K mainGlobals "TOO_FAR" = some (some (.ref tFar))) (etNone:nsIn K mainGlobals "NOTHING" = some (some (.ref tNone))) (etFun:nsIn K mainGlobals "FUNCTIONS" = some (some (.ref tFun))) (edSp:nsIn K mainGlobals "SPELLINGS" = some (some (.ref dSp)))
  (xm:K.lookup cMi=some (excClassObj nm q cMi nMi bs bmX true sn sub ab col dd j0 j1 j2 j3 j5 "Exception.__new__")) (xo:K.lookup cOf=some (excClassObj nm' q' cOf nOf bs' bmX true sn' sub' ab' col' dd' j0' j1' j2' j3' j5' "Exception.__new__"))
  (ds:K.lookup dSp=some ⟨.type "dict",none,.dict (zq6 w k0 k1 k2 k3 k4 k5 k6 k7 k8 k9 k10 t0 t1 t2 t3 t4 t5 t6 t7 t8 t9 t10).toArray ep,#[]⟩)
  (T:Txt P w K mg ⟨cRef,cFor,cRd,cWo,cSh,cMi,nMi,cOf,nOf,tRing,tZero,tFar,tNone,tFun,dSp,fun i=>[t0,t1,t2,t3,t4,t5,t6,t7,t8,t9,t10].getD i 0⟩):∃A:Ad,mg "answers" = some (.ref fa)/\Txt P w K mg A:=⟨_,hfa,T⟩
end
end Rs
namespace Rs
open PySem PySem.W PyProof.Rows L2
abbrev rSp:PySem.W.OpenSpec:=PySem.Challenge.rw_ringsheet_s01_answers
def zso(d:DefRec)(K:Params->PySem.W.Frag):Prop:=∀(w:World) (mg:Str->Option Value) (fa:Addr) (h:Heap),(K w.params).In h->h.Ns mainGlobals mg->mg d.name=some (.ref fa)->∃A:Ad,mg "answers" = some (.ref fa)/\Txt rSp.prog w (K w.params) mg A
def Big:Prop:=rSp.wellSaid=true->∀(q:Program) (loose:List Str) (XP:(Str->Option Value)->Heap->Prop) (YP:World->Heap->Prop) (d:DefRec) (K:Params->PySem.W.Frag),d.params.defaults=[]->(∀(w:World) (h:Heap),YP w h->(K w.params).In h)->zso d K->PySem.W.WalkOS q loose XP YP rSp d [] (fun f vs=>PySem.call f vs)
def Wr(B:Prop)(_:B)(P:Prop):Prop:=P
theorem wrI{B P:Prop}(b:B)(h:P):Wr B b P:=h
theorem wrE{B P:Prop}(b:B)(h:Wr B b P):P:=h
theorem ws0:PySem.Challenge.rw_ringsheet_s01_answers.wellSaid=true:=by decide +kernel
theorem len1{C:List Value->Prop}(h:∀a,C [a]):∀us:List Value,us.length=1->C us
 | [a],_=>h a
theorem len2{C:List Value->Prop}(h:∀a b,C [a,b]):∀us:List Value,us.length=2->C us
 | [a,b],_=>h a b
theorem len3{C:List Value->Prop}(h:∀a b c,C [a,b,c]):∀us:List Value,us.length=3->C us
 | [a,b,c],_=>h a b c
theorem zr6{C:List Value->Prop}(h:∀a b c d,C [a,b,c,d]):∀us:List Value,us.length=4->C us
 | [a,b,c,d],_=>h a b c d
theorem zr5{C:List Value->Prop}(h:∀a b c d e,C [a,b,c,d,e]):∀us:List Value,us.length=5->C us
 | [a,b,c,d,e],_=>h a b c d e
section
local macro_rules | `(tactic| walk_at "gi")=>`(tactic| (refine' zrV (by assumption) (by assumption) ?e;(case e=>k_is)))
local macro_rules | `(tactic| walk_at "gr")=>`(tactic| (refine' mg_of (by assumption) (by assumption) ?e;(case e=>k_is)))
local macro_rules | `(tactic| walk_at "gn")=>`(tactic| (refine' ns_none_of (by assumption) (by assumption) ?e;(case e=>k_is)))
local macro_rules | `(tactic| walk_at "kt")=>`(tactic| (refine' zrj ?l ?z ?v;(case l=>k_is);(case z=>decide);(case v=>repeat (first | exact .nil | exact .cons rfl .nil | refine .cons ⟨_,rfl⟩ ?_ | refine .cons rfl ?_))))
local macro_rules | `(tactic| walk_at "xc")=>`(tactic| (refine' zqV ?l ?o ?a ?b ?c ?d;(case l=>k_is);(case o=>kernel_rfl);(case a=>k_is);(case b=>k_is);(case c=>k_is);(case d=>k_is)))
local macro_rules | `(tactic| walk_at "cl")=>`(tactic| exact⟨by k_is,by k_is,by k_is,by k_is⟩)
local macro_rules | `(tactic| walk_at "na")=>`(tactic| (unfold NoAttr;k_is))
local macro_rules | `(tactic| walk_at "d1")=>`(tactic| (refine' zi_ (by assumption) (by assumption) ?a ?l ?c ?k (fun _ _ _ _ _ _=>len1 fun _=>rfl);(case a=>k_is);(case l=>k_is);(case c=>k_is);(case k=>k_is)))
local macro_rules | `(tactic| walk_at "d2")=>`(tactic| (refine' zi_ (by assumption) (by assumption) ?a ?l ?c ?k (fun _ _ _ _ _ _=>len2 fun _ _=>rfl);(case a=>k_is);(case l=>k_is);(case c=>k_is);(case k=>k_is)))
local macro_rules | `(tactic| walk_at "d3")=>`(tactic| (refine' zi_ (by assumption) (by assumption) ?a ?l ?c ?k (fun _ _ _ _ _ _=>len3 fun _ _ _=>rfl);(case a=>k_is);(case l=>k_is);(case c=>k_is);(case k=>k_is)))
local macro_rules | `(tactic| walk_at "d4")=>`(tactic| (refine' zi_ (by assumption) (by assumption) ?a ?l ?c ?k (fun _ _ _ _ _ _=>zr6 fun _ _ _ _=>rfl);(case a=>k_is);(case l=>k_is);(case c=>k_is);(case k=>k_is)))
local macro_rules | `(tactic| walk_at "i1")=>`(tactic| (refine' zkI (by assumption) (by assumption) ?g ?m ?a ?i ?kc ?l ?c ?k (fun _ _ _ _ _ _=>len1 fun _=>rfl);(case g=>k_is);(case m=>k_is);(case a=>k_is);(case i=>k_is);(case kc=>k_is);(case l=>k_is);(case c=>k_is);(case k=>k_is)))
local macro_rules | `(tactic| walk_at "i2")=>`(tactic| (refine' zkI (by assumption) (by assumption) ?g ?m ?a ?i ?kc ?l ?c ?k (fun _ _ _ _ _ _=>len2 fun _ _=>rfl);(case g=>k_is);(case m=>k_is);(case a=>k_is);(case i=>k_is);(case kc=>k_is);(case l=>k_is);(case c=>k_is);(case k=>k_is)))
local macro_rules | `(tactic| walk_at "i5")=>`(tactic| (refine' zkI (by assumption) (by assumption) ?g ?m ?a ?i ?kc ?l ?c ?k (fun _ _ _ _ _ _=>zr5 fun _ _ _ _ _=>rfl);(case g=>k_is);(case m=>k_is);(case a=>k_is);(case i=>k_is);(case kc=>k_is);(case l=>k_is);(case c=>k_is);(case k=>k_is)))
local macro_rules | `(tactic| walk_at "m1")=>`(tactic| (refine' zkC ?a ?i ?l ?c ?k (fun _ _ _ _ _ _=>len1 fun _=>rfl);(case a=>k_is);(case i=>k_is);(case l=>k_is);(case c=>k_is);(case k=>k_is)))
local macro_rules | `(tactic| walk_at "m2")=>`(tactic| (refine' zkC ?a ?i ?l ?c ?k (fun _ _ _ _ _ _=>len2 fun _ _=>rfl);(case a=>k_is);(case i=>k_is);(case l=>k_is);(case c=>k_is);(case k=>k_is)))
local macro_rules | `(tactic| walk_at "m3")=>`(tactic| (refine' zkC ?a ?i ?l ?c ?k (fun _ _ _ _ _ _=>len3 fun _ _ _=>rfl);(case a=>k_is);(case i=>k_is);(case l=>k_is);(case c=>k_is);(case k=>k_is)))
def hd.tw10827904132853469543:=Nat
def hd.tw9524895234300221128:=Nat
def hd.tw8087301867310033380:=Nat
def hd.tw4332000544947845323:=Nat
def hd.tw10625814358150683217:=Nat
def hd.tw11915616311967750086:=Nat
def hd.tw1323840182366187011:=Nat
def hd.tw13049415351599878073:=Nat
def hd.tw3396099554505298771:=Nat
def hd.tw6102655329756753449:=Nat
def hd.tw3956483241179216270:=Nat
def hd.tw9103018194179689916:=Nat
def hd.tw3335477411834753602:=Nat
def hd.tw6492348091152092525:=Nat
def hd.tw11592168985067648077:=Nat
def hd.tw1966412494111070728:=Nat
def hd.tw12987014291233128957:=Nat
def hd.tw6037162514002769965:=Nat
def hd.tw7405357796038258243:=Nat
def hd.tw3366125483844977595:=Nat
def hd.tw654631143762341711:=Nat
def hd.tw6062033946948985762:=Nat
def hd.tw9062171957784992605:=Nat
def hd.tw3610448386532063229:=Nat
def hd.tw5627916642146422355:=Nat
def hd.tw16615001019568640948:=Nat
def hd.tw10925530516624744827:=Nat
def hd.tw5689167478149070366:=Nat
def hd.tw6920188095245912346:=Nat
def hd.tw8550811041758143797:=Nat
def hd.tw9690514828154979192:=Nat
def hd.tw7443016794751062329:=Nat
def hd.tw12962419249027375600:=Nat
def hd.tw461692490397955329:=Nat
def hd.tw12871409894691373848:=Nat
def hd.tw4914298857919157589:=Nat
def hd.tw8303775249351181025:=Nat
def hd.tw7992497660603475881:=Nat
def hd.tw1550995990432519159:=Nat
def hd.tw3420152125812751892:=Nat
def hd.tw9968492303250926778:=Nat
def hd.tw3519560128027209061:=Nat
def hd.tw4870939231382401092:=Nat
def hd.tw14018188633170485560:=Nat
def hd.tw4668754738044447011:=Nat
def hd.tw10532771418575187567:=Nat
def hd.tw10561009195449590656:=Nat
def hd.tw11689489887623055317:=Nat
def hd.tw403212182299458949:=Nat
def hd.tw9952223538613563762:=Nat
def hd.tw5912479929638930586:=Nat
def hd.tw5841196044275958810:=Nat
def hd.tw12129135392913044809:=Nat
def hd.tw6905970315309220152:=Nat
def hd.tw13953499660482989806:=Nat
def hd.tw16313559780756860724:=Nat
def hd.tw9386016801618674226:=Nat
def hd.tw5378790477252624469:=Nat
def hd.tw3497425876235752777:=Nat
def hd.tw14800068432153599898:=Nat
def hd.tw14012459468883828071:=Nat
def hd.tw12698079963713637341:=Nat
def hd.tw13343361519947595791:=Nat
def hd.tw5969202360272506487:=Nat
def hd.tw12136681136478380507:=Nat
def hd.tw2086491880836618255:=Nat
def hd.tw8431219823486758529:=Nat
def hd.tw15156914671916236697:=Nat
def hd.tw14453299230918283602:=Nat
def hd.tw2639633004683752969:=Nat
def hd.tw10495877822796851581:=Nat
def hd.tw964816882416703423:=Nat
def hd.tw3045072865704899429:=Nat
def hd.tw5257172068460983411:=Nat
def hd.tw9931910813974910238:=Nat
def hd.tw17988476203085149124:=Nat
def hd.tw13609577906557055533:=Nat
def hd.tw16409402108743254325:=Nat
def hd.tw13521648079875316524:=Nat
def hd.tw9992583200312031281:=Nat
def hd.tw10461785469773824531:=Nat
def hd.tw1192216050082971767:=Nat
def hd.tw13920536959904094723:=Nat
def hd.tw11188312984813617673:=Nat
def hd.tw17520803001257905881:=Nat
def hd.tw16053884396833708367:=Nat
def hd.tw9746658597610067439:=Nat
def hd.tw3360418245544398594:=Nat
def hd.tw15396873910057503156:=Nat
def hd.tw10109642402399545195:=Nat
def hd.tw2995790402271258222:=Nat
def hd.tw13025877712769874329:=Nat
def hd.tw11248501138608214146:=Nat
def hd.tw4861712635773990745:=Nat
def hd.tw16739632681599427780:=Nat
def hd.tw720469696854757712:=Nat
def hd.tw3100447821360234496:=Nat
def hd.tw14351835007223794199:=Nat
def hd.tw3914830245411993675:=Nat
def hd.tw14361614089540244688:=Nat
def hd.tw4898459142326496478:=Nat
def hd.tw15214033039214954082:=Nat
def hd.tw17468727987611744570:=Nat
def hd.tw2456144748769056076:=Nat
def hd.tw2204561440858809166:=Nat
def hd.tw9205525298085350539:=Nat
def hd.tw10373380847017621026:=Nat
def hd.tw8795826323406155171:=Nat
def hd.tw2960484899299711025:=Nat
def hd.tw3210379078472882921:=Nat
def hd.tw6061263072702464060:=Nat
def hd.tw84494630526600747:=Nat
def hd.tw7936646050902691838:=Nat
def hd.tw14522480814923538846:=Nat
def hd.tw16826320831435492424:=Nat
def hd.tw7014663288444546619:=Nat
def hd.tw4568079521589955144:=Nat
def hd.tw12323698723685996700:=Nat
def hd.tw3176438421812987165:=Nat
def hd.tw16948110341718338517:=Nat
def hd.tw8423242873559679533:=Nat
def hd.tw3147725622021360567:=Nat
def hd.tw12839310921170622685:=Nat
def hd.tw5209182309763706301:=Nat
def hd.tw154758470862253631:=Nat
def hd.tw5145925676280867280:=Nat
def hd.tw6424058916188357903:=Nat
def hd.tw12017867642440454019:=Nat
def hd.tw2725466537544140022:=Nat
def hd.tw9830423720700733878:=Nat
def hd.tw16435152270158384148:=Nat
def hd.tw15340991905484435951:=Nat
def hd.tw1420453373147284935:=Nat
def hd.tw6893346478107536895:=Nat
def hd.tw10229435064592170590:=Nat
def hd.tw4039343210794688553:=Nat
def hd.tw2265017650166238998:=Nat
def hd.tw16722790282174466877:=Nat
def hd.tw17126101638373481203:=Nat
def hd.tw9815219815514891868:=Nat
def hd.tw1615843807726614717:=Nat
def hd.tw17459828466185246797:=Nat
def hd.tw17344850446116686104:=Nat
def hd.tw5178719447540376653:=Nat
def hd.tw15858846690873702785:=Nat
def hd.tw11489236487771597815:=Nat
def hd.tw13916287795619106494:=Nat
def hd.tw14481191436797495054:=Nat
def hd.tw8003739252759581318:=Nat
def hd.tw7224728740701261159:=Nat
def hd.tw8507611553343829284:=Nat
def hd.tw7588397228647319778:=Nat
def hd.tw7240452724449754359:=Nat
def hd.tw3083506081493652593:=Nat
def hd.tw1962710414219836801:=Nat
def hd.tw18417501366299120877:=Nat
def hd.tw4179356653573640760:=Nat
def hd.tw10236334569799695256:=Nat
def hd.tw12129654810004821599:=Nat
def hd.tw11350215356185318474:=Nat
def hd.tw4725715757379072663:=Nat
def hd.tw9541022284824219660:=Nat
def hd.tw8660876625658163317:=Nat
def hd.tw18390583232504549553:=Nat
def hd.tw8120755253483215089:=Nat
def hd.tw6648131444042584996:=Nat
def hd.tw13044481522142845315:=Nat
def hd.tw2976687122599201665:=Nat
def hd.tw12058959255584122754:=Nat
def hd.tw11979351541062359113:=Nat
def hd.tw917704156384530859:=Nat
def hd.tw389564318591032265:=Nat
def hd.tw15678858113829408762:=Nat
def hd.tw12241301647746187540:=Nat
def hd.tw5227447973006771:=Nat
def hd.tw17382805569236638886:=Nat
def hd.tw8968952316803985370:=Nat
def hd.tw4619481165123039663:=Nat
def hd.tw2949236470904261707:=Nat
def hd.tw6797516634844196430:=Nat
def hd.tw7019791865212619076:=Nat
def hd.tw6649496430868211832:=Nat
def hd.tw13402577498211429519:=Nat
def hd.tw4902954702305704948:=Nat
def hd.tw17584248187724186016:=Nat
def hd.tw1522134331437920747:=Nat
def hd.tw7136720516567065480:=Nat
def hd.tw11822363101362012213:=Nat
def hd.tw9602916102673942341:=Nat
def hd.tw1947904524934012414:=Nat
def hd.tw15151472074395875956:=Nat
def hd.tw6242529879176912583:=Nat
def hd.tw18088070856679368138:=Nat
def hd.tw8569162095453223734:=Nat
def hd.tw17213307434213213988:=Nat
def hd.tw9236624862719336025:=Nat
def hd.tw11281667768138445505:=Nat
def hd.tw3136375443801800579:=Nat
def hd.tw11995709610399440324:=Nat
def hd.tw10903960325296842959:=Nat
def hd.tw13550921660486489873:=Nat
def hd.tw4626647637195907454:=Nat
def hd.tw10047160947407344716:=Nat
def hd.tw6907581276368121641:=Nat
def hd.tw6485312268512404977:=Nat
def hd.tw15458645459558051807:=Nat
def hd.tw3504877509686300450:=Nat
def hd.tw16993639469478063824:=Nat
def hd.tw9284391193799260324:=Nat
def hd.tw4779442643883298921:=Nat
def hd.tw460537378032458272:=Nat
def hd.tw5513680891065957526:=Nat
def hd.tw6386508731633469119:=Nat
def hd.tw8514859199401202739:=Nat
def hd.tw14086716794656696995:=Nat
def hd.tw18058137500558216747:=Nat
def hd.tw6861578757590892950:=Nat
def hd.tw17562265902525688121:=Nat
def hd.tw13856867545056792163:=Nat
def hd.tw16873156856795484933:=Nat
def hd.tw11927590296227667906:=Nat
def hd.tw15248720295932865354:=Nat
def hd.tw3142001914560604149:=Nat
def hd.tw1035096404493572328:=Nat
def hd.tw6080635277058373041:=Nat
def hd.tw9346506066111147070:=Nat
def hd.tw8403264812132525309:=Nat
def hd.tw5733872381005801784:=Nat
def hd.tw13074429119738032632:=Nat
def hd.tw6169071155994116316:=Nat
def hd.tw6034019331083426235:=Nat
def hd.tw17926731673317415841:=Nat
def hd.tw7245033284533255116:=Nat
def hd.tw13800758530915853582:=Nat
def hd.tw527434729062531187:=Nat
def hd.tw8662994787099646815:=Nat
def hd.tw3826703950925218388:=Nat
def hd.tw6423245210745052538:=Nat
def hd.tw2648169938415538637:=Nat
def hd.tw12777264239001037875:=Nat
def hd.tw11627946079248495017:=Nat
def hd.tw12671729845469085885:=Nat
def hd.tw1547134692739033516:=Nat
def hd.tw6821444813069735049:=Nat
def hd.tw16253914362032469178:=Nat
def hd.tw13553976465700185116:=Nat
def hd.tw5506772406552654993:=Nat
def hd.tw3104998924872352813:=Nat
def hd.tw5372674049200274402:=Nat
def hd.tw1927982443955489170:=Nat
def hd.tw10071492926629026702:=Nat
def hd.tw9394673862383071047:=Nat
def hd.tw8118627238145946772:=Nat
def hd.tw15412525125245235092:=Nat
def hd.tw9485111402412091706:=Nat
def hd.tw3100965997302249104:=Nat
def hd.tw7149973773654942265:=Nat
def hd.tw6790207006024714367:=Nat
def hd.tw10999299125052474932:=Nat
def hd.tw17397405457664681668:=Nat
def hd.tw1004395591898890669:=Nat
def hd.tw8672827196906819435:=Nat
def hd.tw7261003140650635819:=Nat
def hd.tw11851757401407223365:=Nat
def hd.tw11091190239477540289:=Nat
def hd.tw16106933647139059263:=Nat
def hd.tw12869991561055570678:=Nat
def hd.tw3563784995556936401:=Nat
def hd.tw17096576665969261094:=Nat
def hd.tw5444474369655023068:=Nat
def hd.tw8355128022604704062:=Nat
def hd.tw1602239135840553950:=Nat
def hd.tw2159735556382839970:=Nat
def hd.tw230625579579761922:=Nat
def hd.tw11843165561074419230:=Nat
def hd.tw14940770818770089572:=Nat
def hd.tw13028482637584178418:=Nat
def hd.tw4223687281944663907:=Nat
def hd.tw4889094995643533372:=Nat
def hd.tw14615258416901055822:=Nat
def hd.tw9070567167609532077:=Nat
def hd.tw11658480299312014270:=Nat
def hd.tw4630702422019047438:=Nat
def hd.tw14593789782282276937:=Nat
def hd.tw12572047095021268316:=Nat
def hd.tw6815648400777485799:=Nat
def hd.tw2344064489991940191:=Nat
def hd.tw5297114347107879916:=Nat
def hd.tw2280562362523435552:=Nat
def hd.tw10225103191100827711:=Nat
def hd.tw1199232635224940633:=Nat
def hd.tw9552936547286305884:=Nat
def hd.tw8241657338902990159:=Nat
def hd.tw11635449069320287761:=Nat
def hd.tw5614805304204411289:=Nat
def hd.tw14413445568351186518:=Nat
def hd.tw15832495033388152603:=Nat
def hd.tw3195110894847590641:=Nat
def hd.tw5471393116231557411:=Nat
def hd.tw8778699308267375739:=Nat
def hd.tw17076906013849759663:=Nat
def hd.tw15513975659110991083:=Nat
def hd.tw2415283694014137367:=Nat
def hd.tw7529299401973697924:=Nat
def hd.tw8349345308865463456:=Nat
def hd.tw5262353052760162304:=Nat
def hd.tw11407009471437459801:=Nat
def hd.tw12733839316882814852:=Nat
def hd.tw5618857256724123774:=Nat
def hd.tw8473142827163088319:=Nat
def hd.tw17693100949017471717:=Nat
def hd.tw426056592646358380:=Nat
def hd.tw15291243988540670806:=Nat
def hd.tw5162524693189785074:=Nat
def hd.tw7357117040325382514:=Nat
def hd.tw15693275535781272731:=Nat
def hd.tw5979582148127078101:=Nat
def hd.tw11195092206038734087:=Nat
def hd.tw9612955172863947899:=Nat
def hd.tw6627642093387839062:=Nat
def hd.tw960537530111063454:=Nat
def hd.tw3884119330617174123:=Nat
def hd.tw3308476619500293179:=Nat
def hd.tw7669413547087072416:=Nat
def hd.tw15751937597028218236:=Nat
def hd.tw4642719328735922565:=Nat
def hd.tw17936014012410309294:=Nat
def hd.tw3377993097494466338:=Nat
def hd.tw1089945647643991549:=Nat
def hd.tw14784707718686612114:=Nat
def hd.tw2093974049105701683:=Nat
def hd.tw17924229500981795908:=Nat
def hd.tw160694597068348775:=Nat
def hd.tw17373127956625733421:=Nat
def hd.tw4425399849227213356:=Nat
def hd.tw5857231252140488507:=Nat
def hd.tw5893307887396831756:=Nat
def hd.tw8349010745977873729:=Nat
def hd.tw12832348559503311167:=Nat
def hd.tw17343157168804455042:=Nat
def hd.tw17758305164889193259:=Nat
def hd.tw11015841705580777805:=Nat
def hd.tw532678291147098737:=Nat
def hd.tw14262150793945192137:=Nat
def hd.tw10182077911832367265:=Nat
def hd.tw17219719601177494324:=Nat
def hd.tw16223747700480749084:=Nat
def hd.tw10206306467006646688:=Nat
def hd.tw9526384196934197512:=Nat
def hd.tw962906642376682083:=Nat
def hd.tw7874484113126433347:=Nat
def hd.tw12695510076018885873:=Nat
def hd.tw8314462120162127850:=Nat
def hd.tw3772206916177938846:=Nat
def hd.tw16011435188131741426:=Nat
def hd.tw11595087953054454302:=Nat
def hd.tw2202271330583758926:=Nat
def hd.tw10800322973219896541:=Nat
def hd.tw4867838607160466204:=Nat
def hd.tw14511830748433139925:=Nat
def hd.tw15286741621086183660:=Nat
def hd.tw6829556306854602790:=Nat
def hd.tw8978647652391361373:=Nat
def hd.tw1854389519591532716:=Nat
def hd.tw10867393495969590213:=Nat
def hd.tw2452604705258885895:=Nat
def hd.tw8087292073999933806:=Nat
def hd.tw7045325891862280391:=Nat
def hd.tw12622913192369504412:=Nat
def hd.tw13459210905521323881:=Nat
def hd.tw10002373289045789450:=Nat
def hd.tw11275715473329625523:=Nat
def hd.tw5420278320925770676:=Nat
def hd.tw15108798917553115001:=Nat
def hd.tw14845767163712093879:=Nat
def hd.tw6708025927375281996:=Nat
def hd.tw10026485184848186469:=Nat
def hd.tw1110040628369305546:=Nat
def hd.tw12340591678721765522:=Nat
def hd.tw12194749101288925411:=Nat
def hd.tw3626682379774364601:=Nat
def hd.tw3866316901471378343:=Nat
def hd.tw6818122792530363168:=Nat
def hd.tw1881615945604723964:=Nat
def hd.tw13335416573455306623:=Nat
def hd.tw15326844851739051165:=Nat
def hd.tw12220765316622848551:=Nat
def hd.tw16041966973665638312:=Nat
def hd.tw13197309175653649411:=Nat
def hd.tw10356835286764211819:=Nat
def hd.tw5280515994957467904:=Nat
def hd.tw16702893752345620347:=Nat
def hd.tw6661544341408406311:=Nat
def hd.tw9436776222271754965:=Nat
def hd.tw6272196140311881229:=Nat
def hd.tw15688088300667810343:=Nat
def hd.tw10784546403167259765:=Nat
def hd.tw8846365032468032548:=Nat
def hd.tw15252781729325914804:=Nat
def hd.tw8865079641850841874:=Nat
section
set_option hygiene false
local macro_rules | `(tactic| first | refine $t:term | fail $s:str)=>`(tactic| (refine $t;(case' hc=>refine wrE (B:=Big) (by assumption) ?_)))
set_option Elab.async true in
set_option maxRecDepth 100000 in
set_option maxHeartbeats 0 in
theorem hd(big:Big):PySem.Challenge.rw_ringsheet_s01_answers.Holds:=by
 have ws1:=ws0
 w_on;k_headS;(case hw=>exact⟨[.list [.int 2,.int 0]],by decide +kernel,by decide +kernel⟩)
 refine wrI big ?_
 k_fillS
 refine big ws0 _ _ _ _ _ _ rfl (fun w h Y=>PySem.W.kIn_of Y) ?F
 case F =>
  intro w mg fa h KX G hmg;refine' zqS KX G hmg ?ecRef ?ecFor ?ecRd ?ecWo ?ecSh ?ecMi ?ecOf ?etRing ?etZero ?etFar ?etNone ?etFun ?edSp ?xm ?xo ?ds ?T
  (case ecRef=>k_is)
  (case ecFor=>k_is)
  (case ecRd=>k_is)
  (case ecWo=>k_is)
  (case ecSh=>k_is)
  (case ecMi=>k_is)
  (case ecOf=>k_is)
  (case etRing=>k_is)
  (case etZero=>k_is)
  (case etFar=>k_is)
  (case etNone=>k_is)
  (case etFun=>k_is)
  (case edSp=>k_is)
  (case xm=>k_is)
  (case xo=>k_is)
  (case ds=>k_is)
  case T =>
   constructor<;>(try dsimp only)
   ·walk_at "gi"
   ·walk_at "gi"
   ·walk_at "gi"
   ·walk_at "gi"
   ·walk_at "gi"
   ·walk_at "gi"
   ·walk_at "gi"
   ·walk_at "gi"
   ·walk_at "gi"
   ·walk_at "gi"
   ·walk_at "gi"
   ·walk_at "gi"
   ·walk_at "gi"
   ·walk_at "gi"
   ·walk_at "gi"
   ·walk_at "gi"
   ·walk_at "gi"
   ·walk_at "gi"
   ·walk_at "gi"
   ·walk_at "gi"
   ·walk_at "gi"
   ·walk_at "gi"
   ·walk_at "gi"
   ·walk_at "gi"
   ·walk_at "gi"
   ·walk_at "gi"
   ·walk_at "gi"
   ·walk_at "gi"
   ·walk_at "gi"
   ·walk_at "gi"
   ·walk_at "gi"
   ·walk_at "gi"
   ·walk_at "gr"
   ·walk_at "gr"
   ·walk_at "gr"
   ·walk_at "gr"
   ·walk_at "gr"
   ·walk_at "gr"
   ·walk_at "kt"
   ·walk_at "kt"
   ·walk_at "kt"
   ·walk_at "kt"
   ·walk_at "kt"
   ·refine' zrk ?l ?s;(case l=>k_is);(case s=>decide)
   ·walk_at "kt"
   ·walk_at "kt"
   ·walk_at "kt"
   ·walk_at "kt"
   ·walk_at "kt"
   ·walk_at "kt"
   ·walk_at "kt"
   ·walk_at "kt"
   ·walk_at "kt"
   ·walk_at "kt"
   ·walk_at "kt"
   ·walk_at "gn"
   ·walk_at "gn"
   ·walk_at "gn"
   ·walk_at "gn"
   ·walk_at "gn"
   ·walk_at "gn"
   ·walk_at "gn"
   ·walk_at "gn"
   ·walk_at "gn"
   ·walk_at "gn"
   ·walk_at "gn"
   ·walk_at "cl"
   ·walk_at "na"
   ·walk_at "na"
   ·walk_at "na"
   ·walk_at "na"
   ·walk_at "cl"
   ·walk_at "na"
   ·walk_at "na"
   ·walk_at "cl"
   ·walk_at "na"
   ·walk_at "na"
   ·walk_at "na"
   ·walk_at "na"
   ·walk_at "cl"
   ·walk_at "na"
   ·walk_at "na"
   ·walk_at "cl"
   ·walk_at "na"
   ·walk_at "na"
   ·walk_at "xc"
   ·walk_at "gr"
   ·walk_at "xc"
   ·walk_at "gr"
   ·decide
   ·decide
   ·decide
   ·decide
   ·decide
   ·k_is
   ·k_is
   ·exact⟨by k_is,by k_is⟩
   ·exact⟨by k_is,by k_is⟩
   ·walk_at "gr"
   ·exact⟨by kernel_rfl,by kernel_rfl,by kernel_rfl⟩
   ·exact⟨by kernel_rfl,by kernel_rfl⟩
   ·walk_at "d1"
   ·walk_at "d1"
   ·walk_at "i5"
   ·walk_at "d1"
   ·walk_at "d1"
   ·walk_at "d2"
   ·walk_at "d4"
   ·walk_at "d3"
   ·walk_at "d1"
   ·walk_at "d1"
   ·walk_at "i2"
   ·walk_at "d1"
   ·walk_at "d3"
   ·walk_at "d3"
   ·walk_at "d1"
   ·walk_at "d1"
   ·walk_at "d2"
   ·walk_at "d1"
   ·walk_at "d2"
   ·walk_at "d3"
   ·walk_at "d3"
   ·walk_at "d3"
   ·walk_at "d3"
   ·walk_at "d1"
   ·refine' zpA ?a ?i ?l ?c ?k (fun _ _ _ _ _ _=>len2 fun _ _=>rfl);(case a=>k_is);(case i=>k_is);(case l=>k_is);(case c=>k_is);(case k=>k_is)
   ·walk_at "d1"
   ·walk_at "i2"
   ·walk_at "m1"
   ·walk_at "m2"
   ·walk_at "m2"
   ·walk_at "m1"
   ·walk_at "m1"
   ·walk_at "m1"
   ·walk_at "m1"
   ·walk_at "m1"
   ·walk_at "m1"
   ·walk_at "m1"
   ·walk_at "m1"
   ·walk_at "m2"
   ·walk_at "m1"
   ·walk_at "m1"
   ·walk_at "m1"
   ·walk_at "m1"
   ·walk_at "m1"
   ·walk_at "m1"
   ·walk_at "d1"
   ·walk_at "d2"
   ·walk_at "d3"
   ·walk_at "d2"
   ·walk_at "d1"
   ·walk_at "d1"
   ·walk_at "d1"
   ·walk_at "i1"
   ·walk_at "d3"
   ·walk_at "d1"
   ·walk_at "d1"
   ·walk_at "d2"
   ·walk_at "d2"
   ·walk_at "d2"
   ·walk_at "d2"
   ·walk_at "i1"
   ·walk_at "m3"
   ·walk_at "m2"
   ·walk_at "m2"
   ·walk_at "m2"
   ·walk_at "m3"
   ·walk_at "m3"
   ·walk_at "m2"
   ·walk_at "m3"
   ·walk_at "m3"
   ·walk_at "m3"
   ·walk_at "d2"
   ·walk_at "d2"
   ·walk_at "d1"
end
end
end Rs
namespace Rs
open Sg07
inductive Sg where
 | b (o:Bin)
 | r (o:Rel)
 deriving DecidableEq
inductive Fu where
 | iff
 | fn (f:Fn)
 deriving DecidableEq
inductive Item where
 | num (n:Nat)
 | ref (r:Ref)
 | rng (a b:Ref)
 | neg
 | sgn (s:Sg)
 | fu (f:Fu) (k:Nat)
inductive Pd where
 | neg
 | sgn (s:Sg)
 | br (f:Option Fu) (k:Nat)
def tight:Sg->Nat
 | .r _=>1
 | .b .add=>2
 | .b .sub=>2
 | .b _=>3
def Pd.t:Pd->Nat
 | .neg=>4
 | .sgn s=>tight s
 | .br _ _=>0
def Pd.item:Pd->Item
 | .neg=>.neg
 | .sgn s=>.sgn s
 | .br _ _=>.neg
def fin(l:Nat):List Item->List Pd->List Item×List Pd
 | c,[]=>(c,[])
 | c,p::d=>if l<=p.t then fin l (c++[p.item]) d else(c,p::d)
theorem zlt(l:Nat)(c:List Item):fin l c []=(c,[]):=rfl
theorem zch{l:Nat}{p:Pd}(h:l<=p.t)(c:List Item)(d:List Pd):fin l c (p::d)=fin l (c++[p.item]) d:=by
 rw[fin,if_pos h]
theorem zb5{l:Nat}{p:Pd}(h:p.t<l)(c:List Item)(d:List Pd):fin l c (p::d)=(c,p::d):=by
 rw[fin,if_neg (by omega)]
def Low(l:Nat):List Pd->Prop
 | []=>True
 | p::_=>p.t<l
theorem zi5{l:Nat}{d:List Pd}(h:Low l d)(c:List Item):fin l c d=(c,d):=by
 cases d with
 | nil=>rfl
 | cons p d=>exact zb5 h c d
theorem Low.mono{l m:Nat}{d:List Pd}(h:Low l d)(hm:l<=m):Low m d:=by
 cases d with
 | nil=>trivial
 | cons p d=>exact zAq h hm
theorem zi6{l m:Nat}(h:l<=m):∀(d:List Pd) (c:List Item),fin l (fin m c d).1 (fin m c d).2=fin l c d
 | [],c=>rfl
 | p::d,c=>by
  by_cases hp:m<=p.t
  ·rw[zch hp,zch (zBp h hp),zi6 h d]
  ·rw[zb5 (by omega)]
theorem zfC{l m:Nat}(h:l<=m){c c':List Item}{d d':List Pd}(e:fin m c' d'=fin m c d):fin l c' d'=fin l c d:=by
 rw[<-zi6 h d' c',<-zi6 h d c,e]
theorem zgF(l:Nat):∀(d:List Pd) (c:List Item),Low l (fin l c d).2
 | [],_=>trivial
 | p::d,c=>by
  by_cases hp:l<=p.t
  ·rw[zch hp];exact zgF l d _
  ·rw[zb5 (by omega)];show p.t<l;omega
structure Rst where
 p:Nat
 s:Bytes
 c:List Item
 d:List Pd
noncomputable def zbr:Bytes->Option (Sg×Nat)
 | 60::62::_=>some (.r .ne,2)
 | 60::61::_=>some (.r .le,2)
 | 62::61::_=>some (.r .ge,2)
 | 61::_=>some (.r .eq,1)
 | 60::_=>some (.r .lt,1)
 | 62::_=>some (.r .gt,1)
 | 43::_=>some (.b .add,1)
 | 45::_=>some (.b .sub,1)
 | 42::_=>some (.b .mul,1)
 | 47::_=>some (.b .div,1)
 | 37::_=>some (.b .rem,1)
 | _=>none
def zqB:Option Fn->Fu
 | none=>.iff
 | some f=>.fn f
def zeE:List Pd->Bool
 | .br (some (.fn _)) _::_=>true
 | _=>false
def zfZ(c:List Item):Bool:=match c.getLast? with
 | some (.rng _ _)=>true
 | _=>false
def zpF:List Pd->Bool
 | p::_=>p.t == 1
 | []=>false
noncomputable def zbR (st:Rst) (e:Nat):Except Nat (Bool×Rst):=match readRef st.p st.s with
 | .error q=>.error (max q e)
 | .ok (a,q,t)=>if zeE st.d=true/\t.head?=some 58 then(match readRef (q+1) t.tail with
   | .error e=>.error e
   | .ok (b,q',t')=>.ok (false,⟨q',t',st.c++[.rng a b],st.d⟩))
  else .ok (false,⟨q,t,st.c++[.ref a],st.d⟩)
noncomputable def bf (st:Rst):Except Nat (Bool×Rst):=match st.s with
 | []=>.error st.p
 | c::r =>
  if c=45 then .ok (true,⟨st.p+1,r,st.c,.neg::st.d⟩)
  else if c=40 then .ok (true,⟨st.p+1,r,st.c,.br none 1::st.d⟩)
  else if digit c=true then
   .ok (false,⟨st.p+(((c::r).takeWhile digit).take 18).length,(c::r).drop (((c::r).takeWhile digit).take 18).length,st.c++[.num (number (((c::r).takeWhile digit).take 18))],st.d⟩)
  else match names.find? fun x=>(ascii x.1).isPrefixOf (c::r) with
   | some (w,f)=>.ok (true,⟨st.p+w.length,(c::r).drop w.length,st.c,.br (some (zqB f)) 1::st.d⟩)
   | none=>zbR st (st.p+along (c::r))
noncomputable def closeB (p:Nat) (t:Bytes):List Item×List Pd->Except Nat (Bool×Rst)
 | (c,.br none _::d)=>.ok (false,⟨p+1,t,c,d⟩)
 | (c,.br (some f) k::d)=>if f=.iff/\k<3 then .error p else .ok (false,⟨p+1,t,c++[.fu f k],d⟩)
 | _=>.error p
noncomputable def nextP (p:Nat) (t:Bytes):List Item×List Pd->Except Nat (Bool×Rst)
 | (c,.br (some f) k::d)=>if f=.iff/\k=3 then .error p else .ok (true,⟨p+1,t,c,.br (some f) (k+1)::d⟩)
 | _=>.error p
noncomputable def zd9 (st:Rst):Except Nat (Bool×Rst):=match zbr st.s with
 | none=>.error st.p
 | some (g,n)=>if zfZ st.c=true then .error st.p else
  if tight g=1/\zpF (fin (max (tight g) 2) st.c st.d).2=true then .error st.p
  else .ok (true,⟨st.p+n,st.s.drop n,(fin (max (tight g) 2) st.c st.d).1,.sgn g::(fin (max (tight g) 2) st.c st.d).2⟩)
noncomputable def gon (st:Rst):Except Nat (Bool×Rst):=
 if st.s.head?=some 41 then closeB st.p st.s.tail (fin 1 st.c st.d)
 else if st.s.head?=some 44 then nextP st.p st.s.tail (fin 1 st.c st.d)
 else zd9 st
def zgs(st:Rst):Except Nat (List Item):=if (fin 1 st.c st.d).2.isEmpty=true then .ok (fin 1 st.c st.d).1 else .error st.p
inductive Run:Bool->Rst->Except Nat (List Item)->Prop where
 | werr {st:Rst}{e:Nat}:bf st=.error e->Run true st (.error e)
 | wok {st st':Rst}{w:Bool}{r:Except Nat (List Item)}:bf st=.ok (w,st')->Run w st' r->Run true st r
 | stop {st:Rst}:st.s=[]->Run false st (zgs st)
 | gerr {st:Rst}{e:Nat}:st.s≠[]->gon st=.error e->Run false st (.error e)
 | gok {st st':Rst}{w:Bool}{r:Except Nat (List Item)}:st.s≠[]->gon st=.ok (w,st')->Run w st' r->Run false st r
mutual
 def comp:Expr->List Item
  | .num n=>[.num n]
  | .ref r=>[.ref r]
  | .neg e=>comp e++[.neg]
  | .bin o a b=>comp a++comp b++[.sgn (.b o)]
  | .cmp o a b=>comp a++comp b++[.sgn (.r o)]
  | .iff c a b=>comp c++comp a++comp b++[.fu .iff 3]
  | .fn f l=>compAll l++[.fu (.fn f) l.length]
 def compAll:List Part->List Item
  | []=>[]
  | .one e::r=>comp e++compAll r
  | .range a b::r=>.rng a b::compAll r
end
theorem zci(x:Part):∀l:List Part,compAll (l++[x])=compAll l++compAll [x]
 | []=>by simp[compAll]
 | .one e::r=>by
  rw[zBw,compAll,compAll,zci x r,zAk]
 | .range a b::r=>by
  rw[zBw,compAll,compAll,zci x r,zBw]
def NR(c:List Item):Prop:=c≠[]/\zfZ c=false
theorem zlk(c:List Item){x:Item}(h:∀a b,x≠.rng a b):NR (c++[x]):=by
 refine⟨by simp,?_⟩;unfold zfZ;rw[zDy];cases x<;>first | rfl | exact absurd rfl (h _ _)
theorem ze0(c:List Item)(e:Expr):NR (c++comp e):=by
 cases e<;>rw[comp]<;>first
  | exact zlk _ (by intro a b h;cases h)
  | (simp only[<-zAk];exact zlk _ (by intro a b h;cases h))
def zhj(s:Bytes):Prop:=∀c r,s=c::r->¬(c=42\/c=47\/c=37)
def zih(s:Bytes):Prop:=∀c r,s=c::r->¬(c=43\/c=45)
theorem zgY{s:Bytes}{r:Rel}{n:Nat}(h:relOf s=some (r,n)):zbr s=some (.r r,n)/\s.head?≠some 41/\s.head?≠some 44/\s≠[]/\0<n/\n<=s.length:=by
 unfold relOf at h;split at h<;>first|(cases h;done) | skip
 all_goals (obtain⟨rfl,rfl⟩:=Prod.mk.inj (zBd h))
 all_goals (refine⟨?_,by simp,by simp,by simp,by decide,by simp⟩)
 all_goals (unfold zbr;first | rfl|(split<;>simp_all))
theorem zh8{s:Bytes}(h1:zhj s)(h2:zih s)(h3:relOf s=none):zbr s=none:=by
 unfold zbr;split<;>first | rfl|(exfalso;first
  | exact h1 _ _ rfl (by decide)
  | exact h2 _ _ rfl (by decide)
  | (unfold relOf at h3;simp at h3)
  | (unfold relOf at h3;split at h3<;>simp_all))
theorem zju{s:Bytes}{g:Sg}{n:Nat}(h1:zhj s)(h2:zih s)(h:zbr s=some (g,n)):relOf s≠none/\tight g=1:=by
 cases hr:relOf s with
 | none=>rw[zh8 h1 h2 hr] at h;cases h
 | some x =>
  obtain⟨r,m⟩:=x;rw[(zgY hr).1] at h;cases h
  exact⟨by simp,rfl⟩
theorem zmR{c:UInt8}{r:Bytes}(h:c=43\/c=45):zbr (c::r)=some (.b (if c=43 then .add else .sub),1):=by
 rcases h with rfl | rfl<;>(unfold zbr;rfl)
theorem zmP{c:UInt8}{r:Bytes}(h:c=42\/c=47\/c=37):zbr (c::r)=some (.b ((binOf c).getD .mul),1)/\tight (.b ((binOf c).getD .mul))=3:=by
 rcases h with rfl | rfl | rfl<;>exact⟨by unfold zbr;rfl,by decide⟩
theorem zhs{st:Rst}{g:Sg}{n:Nat}{c:List Item}{d:List Pd}(hs:zbr st.s=some (g,n))(h1:st.s.head?≠some 41)(h2:st.s.head?≠some 44)(hr:NR st.c)
  (hf:fin (max (tight g) 2) st.c st.d=(c,d)) (ht:¬(tight g=1/\zpF d=true)):gon st=.ok (true,⟨st.p+n,st.s.drop n,c,.sgn g::d⟩):=by
 unfold gon;rw[if_neg h1,if_neg h2];unfold zd9;rw[hs];simp only[hr.2,hf];rw[if_neg (by decide),if_neg ht]
theorem zi4{st:Rst}{d:List Pd}(h1:st.s.head?≠some 41)(h2:st.s.head?≠some 44)(hm:zhj st.s)(ha:zih st.s)
  (hr:relOf st.s≠none->∃o c2,fin 2 st.c st.d=(c2,.sgn (.r o)::d)):gon st=.error st.p:=by
 unfold gon;rw[if_neg h1,if_neg h2];unfold zd9;cases hs:zbr st.s with
 | none=>rfl
 | some x =>
  obtain⟨g,n⟩:=x;obtain⟨hn,ht⟩:=zju hm ha hs;obtain⟨o,c2,e⟩:=hr hn;dsimp only;split
  ·rfl
  ·rw[show max (tight g) 2=2 by omega,e,if_pos ⟨ht,by rfl⟩]
end Rs
namespace Rs
open Sg07
theorem zoV{p:Nat}{s:Bytes}{c c0:List Item}{d d0:List Pd}{r:Rel}{n:Nat}(hr:relOf s=some (r,n))(hn:NR c)(hf:fin 2 c d=(c0,d0))(hl:Low 1 d0) :
  gon ⟨p,s,c,d⟩=.ok (true,⟨p+n,s.drop n,c0,.sgn (.r r)::d0⟩):=by
 obtain⟨h1,h2,h3,h4,_⟩:=zgY hr;refine zhs (st:=⟨p,s,c,d⟩) h1 h2 h3 hn hf ?_;rintro⟨_,ht⟩;cases d0 with
 | nil=>cases ht
 | cons q d0 =>
  have hl:q.t<1:=hl;have ht:(q.t == 1)=true:=ht;have:=eq_of_beq ht;omega
def NoR(d:List Pd)(p:Nat)(s:Bytes):Prop:=zeE d=true->∀a q t,readRef p s≠.ok (a,q,58::t)
theorem zc2{d:List Pd}{p:Nat}{s:Bytes}(h:zeE d=false):NoR d p s:=fun q=>by rw[h] at q;cases q
structure zml(L:Nat)(c:List Item)(d:List Pd)(x:Expr)(p':Nat)(s':Bytes)(G:Except Nat (List Item)->Prop):Prop where
 nm:L<=3->zhj s'
 na:L<=2->zih s'
 go:∃c' d',fin L c' d'=fin L (c++comp x) d/\NR c'/\(L=1->relOf s'≠none->∃o c2,fin 2 c' d'=(c2,.sgn (.r o)::d))/\∀r,Run false ⟨p',s',c',d'⟩ r->G r
def zoj:What->Nat
 | .cmp=>6
 | .sum=>5
 | .sumMore _=>5
 | .product=>4
 | .productMore _=>4
 | .factor=>3
 | .parts _ _=>7
def zjg(L:Nat)(R:Read Expr)(n:Nat)(c:List Item)(d:List Pd)(G:Except Nat (List Item)->Prop):Prop:=
 (∀e,R=.error e->G (.error e))/\∀x p' s',R=.ok (x,p',s')->s'.length<n/\zml L c d x p' s' G
def Cl(k:Nat):What->Nat->Bytes->Prop
 | .cmp,p,s=>∀c d,Low 1 d->NoR d p s->zjg 1 (Sg07.read k .cmp p s) s.length c d (Run true ⟨p,s,c,d⟩)
 | .sum,p,s=>∀c d,Low 2 d->NoR d p s->zjg 2 (Sg07.read k .sum p s) s.length c d (Run true ⟨p,s,c,d⟩)
 | .product,p,s=>∀c d,Low 3 d->NoR d p s->zjg 3 (Sg07.read k .product p s) s.length c d (Run true ⟨p,s,c,d⟩)
 | .factor,p,s=>∀c d,NoR d p s->zjg 4 (Sg07.read k .factor p s) s.length c d (Run true ⟨p,s,c,d⟩)
 | .sumMore a,p,s=>∀c d c1 d1,Low 2 d->fin 2 c1 d1=fin 2 (c++comp a) d->NR c1->zhj s->zjg 2 (Sg07.read k (.sumMore a) p s) (s.length+1) c d (Run false ⟨p,s,c1,d1⟩)
 | .productMore a,p,s=>∀c d c1 d1,Low 3 d->fin 3 c1 d1=fin 3 (c++comp a) d->NR c1->zjg 3 (Sg07.read k (.productMore a) p s) (s.length+1) c d (Run false ⟨p,s,c1,d1⟩)
 | .parts f l,p,s=>∀c d,(∀e,Sg07.read k (.parts f l) p s=.error e->Run true ⟨p,s,c++compAll l,.br (some (.fn f)) (l.length+1)::d⟩ (.error e)) /\
   ∀x p' s',Sg07.read k (.parts f l) p s=.ok (x,p',s')->s'.length<s.length/\∀r,Run false ⟨p',s',c++comp x,d⟩ r->Run true ⟨p,s,c++compAll l,.br (some (.fn f)) (l.length+1)::d⟩ r
section
variable{k:Nat}(ih:∀w p s,8*s.length+zoj w<=k->Cl k w p s)
include ih
theorem zqQ(p:Nat)(s:Bytes)(hb:8*s.length+6<=k+1):Cl (k+1) .cmp p s:=by
 intro c d hl hn;have h1:=ih .sum p s (by show _+5<=k;omega) c d (hl.mono (by decide)) hn;cases hs:Sg07.read k .sum p s with
 | error e1 =>
  have e0:Sg07.read (k+1) .cmp p s=.error e1:=by rw[Sg07.read,hs]
  rw[hs] at h1;exact⟨fun e h=>by rw[e0] at h;cases h;exact h1.1 _ rfl,fun x p' s' h=>by rw[e0] at h;cases h⟩
 | ok v =>
  obtain⟨a,p1,s1⟩:=v;rw[hs] at h1;obtain⟨lt1,D1⟩:=h1.2 a p1 s1 rfl;obtain⟨c1,d1,f1,n1,_,g1⟩:=D1.go;have f1':fin 2 c1 d1=(c++comp a,d):=by rw[f1,zi5 (hl.mono (by decide))]
  cases hr:relOf s1 with
  | none =>
   have e0:Sg07.read (k+1) .cmp p s=.ok (a,p1,s1):=by rw[Sg07.read,hs];dsimp only;rw[hr]
   refine⟨fun e h=>(by rw[e0] at h;cases h),fun x p' s' h=>?_⟩;rw[e0] at h;cases h
   exact⟨lt1,fun _=>D1.nm (by decide),fun _=>D1.na (by decide),c1,d1,zfC (by decide) f1,n1,fun _ q=>absurd hr q,g1⟩
  | some v =>
   obtain⟨r,n⟩:=v;obtain⟨_,_,_,h4,h5,h6⟩:=zgY hr;have hg:=zoV (p:=p1) hr n1 f1' hl;have len:(s1.drop n).length=s1.length - n:=zBi;have h2:=ih .sum (p1+n) (s1.drop n) (by show _+5<=k;rw[len];omega) (c++comp a) (.sgn (.r r)::d) (by show 1<2;decide) (zc2 rfl);cases hs2:Sg07.read k .sum (p1+n) (s1.drop n) with
   | error e1 =>
    have e0:Sg07.read (k+1) .cmp p s=.error e1:=by rw[Sg07.read,hs];dsimp only;rw[hr];dsimp only;rw[hs2]
    rw[hs2] at h2;exact⟨fun e h=>by rw[e0] at h;cases h;exact g1 _ (.gok h4 hg (h2.1 _ rfl)),fun x p' s' h=>by rw[e0] at h;cases h⟩
   | ok v =>
    obtain⟨b,p2,s2⟩:=v;have e0:Sg07.read (k+1) .cmp p s=.ok (.cmp r a b,p2,s2):=by rw[Sg07.read,hs];dsimp only;rw[hr];dsimp only;rw[hs2]
    rw[hs2] at h2;obtain⟨lt2,D2⟩:=h2.2 b p2 s2 rfl;obtain⟨c2,d2,f2,n2,_,g2⟩:=D2.go;refine⟨fun e h=>(by rw[e0] at h;cases h),fun x p' s' h=>?_⟩;rw[e0] at h;cases h
    refine⟨by omega,fun _=>D2.nm (by decide),fun _=>D2.na (by decide),c2,d2,?_,n2,fun _ _=>⟨r,c++comp a++comp b,?_⟩,fun q hq=>g1 _ (.gok h4 hg (g2 _ hq))⟩
    ·rw[zfC (by decide) f2,zch (by show 1<=1;decide),comp];simp only[zAk];rfl
    ·rw[f2,zb5 (by show 1<2;decide)]
theorem zqP(p:Nat)(s:Bytes)(hb:8*s.length+5<=k+1):Cl (k+1) .sum p s:=by
 intro c d hl hn;have h1:=ih .product p s (by show _+4<=k;omega) c d (hl.mono (by decide)) hn;cases hs:Sg07.read k .product p s with
 | error e1 =>
  have e0:Sg07.read (k+1) .sum p s=.error e1:=by rw[Sg07.read,hs]
  rw[hs] at h1;exact⟨fun e h=>by rw[e0] at h;cases h;exact h1.1 _ rfl,fun x p' s' h=>by rw[e0] at h;cases h⟩
 | ok v =>
  obtain⟨a,p1,s1⟩:=v;rw[hs] at h1;obtain⟨lt1,D1⟩:=h1.2 a p1 s1 rfl;obtain⟨c1,d1,f1,n1,_,g1⟩:=D1.go;have e0:Sg07.read (k+1) .sum p s=Sg07.read k (.sumMore a) p1 s1:=by rw[Sg07.read,hs]
  have h2:=ih (.sumMore a) p1 s1 (by show _+5<=k;omega) c d c1 d1 hl (zfC (by decide) f1) n1 (D1.nm (by decide));rw[<-e0] at h2;refine⟨fun e h=>g1 _ (h2.1 e h),fun x p' s' h=>?_⟩;obtain⟨lt2,D2⟩:=h2.2 x p' s' h;obtain⟨c2,d2,f2,n2,q2,g2⟩:=D2.go;exact⟨by omega,D2.nm,D2.na,c2,d2,f2,n2,q2,fun r hr=>g1 _ (g2 r hr)⟩
theorem zkS(p:Nat)(s:Bytes)(hb:8*s.length+4<=k+1):Cl (k+1) .product p s:=by
 intro c d hl hn;have h1:=ih .factor p s (by show _+3<=k;omega) c d hn;cases hs:Sg07.read k .factor p s with
 | error e1 =>
  have e0:Sg07.read (k+1) .product p s=.error e1:=by rw[Sg07.read,hs]
  rw[hs] at h1;exact⟨fun e h=>by rw[e0] at h;cases h;exact h1.1 _ rfl,fun x p' s' h=>by rw[e0] at h;cases h⟩
 | ok v =>
  obtain⟨a,p1,s1⟩:=v;rw[hs] at h1;obtain⟨lt1,D1⟩:=h1.2 a p1 s1 rfl;obtain⟨c1,d1,f1,n1,_,g1⟩:=D1.go;have e0:Sg07.read (k+1) .product p s=Sg07.read k (.productMore a) p1 s1:=by rw[Sg07.read,hs]
  have h2:=ih (.productMore a) p1 s1 (by show _+4<=k;omega) c d c1 d1 hl (zfC (by decide) f1) n1;rw[<-e0] at h2;refine⟨fun e h=>g1 _ (h2.1 e h),fun x p' s' h=>?_⟩;obtain⟨lt2,D2⟩:=h2.2 x p' s' h;obtain⟨c2,d2,f2,n2,q2,g2⟩:=D2.go;exact⟨by omega,D2.nm,D2.na,c2,d2,f2,n2,q2,fun r hr=>g1 _ (g2 r hr)⟩
theorem zkR(a:Expr)(p:Nat)(s:Bytes)(hb:8*s.length+5<=k+1):Cl (k+1) (.sumMore a) p s:=by
 intro c d c1 d1 hl f1 n1 hm;have stay:Sg07.read (k+1) (.sumMore a) p s=.ok (a,p,s)->zih s->zjg 2 (Sg07.read (k+1) (.sumMore a) p s) (s.length+1) c d (Run false ⟨p,s,c1,d1⟩):=fun e0 ha=>by
  refine⟨fun e h=>(by rw[e0] at h;cases h),fun x p' s' h=>?_⟩;rw[e0] at h;cases h
  exact⟨by omega,fun _=>hm,fun _=>ha,c1,d1,f1,n1,(fun z=>absurd z (by decide)),fun r hr=>hr⟩
 cases s with
 | nil=>exact stay (by rw[Sg07.read]) (fun c r h=>by cases h)
 | cons b r =>
  by_cases hbb:b=43\/b=45
  ·have hs:=zmR (r:=r) hbb;have hf:fin (max (tight (.b (if b=43 then Bin.add else Bin.sub))) 2) c1 d1=(c++comp a,d):=by
    have:max (tight (.b (if b=43 then Bin.add else Bin.sub))) 2=2:=by rcases hbb with rfl | rfl<;>decide
    rw[this,f1,zi5 hl]
   have hg:gon ⟨p,b::r,c1,d1⟩=.ok (true,⟨p+1,r,c++comp a,.sgn (.b (if b=43 then Bin.add else Bin.sub))::d⟩):=
    zhs (st:=⟨p,b::r,c1,d1⟩) hs (by rcases hbb with rfl | rfl<;>simp) (by rcases hbb with rfl | rfl<;>simp) n1 hf (by rcases hbb with rfl | rfl<;>(intro z;exact absurd z.1 (by decide)))
   have tt:tight (.b (if b=43 then Bin.add else Bin.sub))=2:=by rcases hbb with rfl | rfl<;>decide
   have h1:=ih .product (p+1) r (by show _+4<=k;rw[zAb] at hb;omega) (c++comp a) (.sgn (.b (if b=43 then Bin.add else Bin.sub))::d) (by show tight _<3;rw[tt];decide) (zc2 rfl);cases hs1:Sg07.read k .product (p+1) r with
   | error e1 =>
    have e0:Sg07.read (k+1) (.sumMore a) p (b::r)=.error e1:=by rw[Sg07.read,if_pos hbb,hs1]
    rw[hs1] at h1;exact⟨fun e h=>by rw[e0] at h;cases h;exact .gok (by simp) hg (h1.1 _ rfl),fun x p' s' h=>by rw[e0] at h;cases h⟩
   | ok v =>
    obtain⟨y,p1,s1⟩:=v;have e0:Sg07.read (k+1) (.sumMore a) p (b::r)=Sg07.read k (.sumMore (.bin (if b=43 then Bin.add else Bin.sub) a y)) p1 s1:=by rw[Sg07.read,if_pos hbb,hs1]
    rw[hs1] at h1;obtain⟨lt1,D1⟩:=h1.2 y p1 s1 rfl;obtain⟨c2,d2,f2,n2,_,g2⟩:=D1.go;have f2':fin 2 c2 d2=fin 2 (c++comp (.bin (if b=43 then Bin.add else Bin.sub) a y)) d:=by
     rw[zfC (by decide) f2,zch (by show 2<=tight _;rw[tt];decide),comp];simp only[zAk];rfl
    have h2:=ih (.sumMore (.bin (if b=43 then Bin.add else Bin.sub) a y)) p1 s1 (by show _+5<=k;rw[zAb] at hb;omega) c d c2 d2 hl f2' n2 (D1.nm (by decide));rw[<-e0] at h2;refine⟨fun e h=>.gok (by simp) hg (g2 _ (h2.1 e h)),fun x p' s' h=>?_⟩;obtain⟨lt2,D2⟩:=h2.2 x p' s' h;obtain⟨c3,d3,f3,n3,q3,g3⟩:=D2.go;exact⟨by rw[zAb];omega,D2.nm,D2.na,c3,d3,f3,n3,q3,fun q hq=>.gok (by simp) hg (g2 _ (g3 q hq))⟩
  ·exact stay (by rw[Sg07.read,if_neg hbb]) (fun c' r' h=>by cases h;exact hbb)
theorem zhF(a:Expr)(p:Nat)(s:Bytes)(hb:8*s.length+4<=k+1):Cl (k+1) (.productMore a) p s:=by
 intro c d c1 d1 hl f1 n1;have stay:Sg07.read (k+1) (.productMore a) p s=.ok (a,p,s)->zhj s->zjg 3 (Sg07.read (k+1) (.productMore a) p s) (s.length+1) c d (Run false ⟨p,s,c1,d1⟩):=fun e0 ha=>by
  refine⟨fun e h=>(by rw[e0] at h;cases h),fun x p' s' h=>?_⟩;rw[e0] at h;cases h
  exact⟨by omega,fun _=>ha,(fun z=>absurd z (by decide)),c1,d1,f1,n1,(fun z=>absurd z (by decide)),fun r hr=>hr⟩
 cases s with
 | nil=>exact stay (by rw[Sg07.read]) (fun c r h=>by cases h)
 | cons b r =>
  by_cases hbb:b=42\/b=47\/b=37
  ·obtain⟨hs,tt⟩:=zmP (r:=r) hbb;have hf:fin (max (tight (.b ((binOf b).getD .mul))) 2) c1 d1=(c++comp a,d):=by
    rw[tt,show max 3 2=3 by decide,f1,zi5 hl]
   have hg:gon ⟨p,b::r,c1,d1⟩=.ok (true,⟨p+1,r,c++comp a,.sgn (.b ((binOf b).getD .mul))::d⟩):=
    zhs (st:=⟨p,b::r,c1,d1⟩) hs (by rcases hbb with rfl | rfl | rfl<;>simp) (by rcases hbb with rfl | rfl | rfl<;>simp) n1 hf (by rw[tt];intro z;exact absurd z.1 (by decide))
   have h1:=ih .factor (p+1) r (by show _+3<=k;rw[zAb] at hb;omega) (c++comp a) (.sgn (.b ((binOf b).getD .mul))::d) (zc2 rfl);cases hs1:Sg07.read k .factor (p+1) r with
   | error e1 =>
    have e0:Sg07.read (k+1) (.productMore a) p (b::r)=.error e1:=by rw[Sg07.read,if_pos hbb,hs1]
    rw[hs1] at h1;exact⟨fun e h=>by rw[e0] at h;cases h;exact .gok (by simp) hg (h1.1 _ rfl),fun x p' s' h=>by rw[e0] at h;cases h⟩
   | ok v =>
    obtain⟨y,p1,s1⟩:=v;have e0:Sg07.read (k+1) (.productMore a) p (b::r)=Sg07.read k (.productMore (.bin ((binOf b).getD .mul) a y)) p1 s1:=by rw[Sg07.read,if_pos hbb,hs1]
    rw[hs1] at h1;obtain⟨lt1,D1⟩:=h1.2 y p1 s1 rfl;obtain⟨c2,d2,f2,n2,_,g2⟩:=D1.go;have f2':fin 3 c2 d2=fin 3 (c++comp (.bin ((binOf b).getD .mul) a y)) d:=by
     rw[zfC (by decide) f2,zch (by show 3<=tight _;rw[tt];decide),comp];simp only[zAk];rfl
    have h2:=ih (.productMore (.bin ((binOf b).getD .mul) a y)) p1 s1 (by show _+4<=k;rw[zAb] at hb;omega) c d c2 d2 hl f2' n2;rw[<-e0] at h2;refine⟨fun e h=>.gok (by simp) hg (g2 _ (h2.1 e h)),fun x p' s' h=>?_⟩;obtain⟨lt2,D2⟩:=h2.2 x p' s' h;obtain⟨c3,d3,f3,n3,q3,g3⟩:=D2.go;exact⟨by rw[zAb];omega,D2.nm,D2.na,c3,d3,f3,n3,q3,fun q hq=>.gok (by simp) hg (g2 _ (g3 q hq))⟩
  ·exact stay (by rw[Sg07.read,if_neg hbb]) (fun c' r' h=>by cases h;exact hbb)
end
end Rs
namespace Rs
open Sg07
section
variable{c:List Item}{d:List Pd}{x:Expr}{p1:Nat}{s1 t:Bytes}{G:Except Nat (List Item)->Prop}{f:Option Fu}{k:Nat}
theorem zgH(D:zml 1 c (.br f k::d) x p1 s1 G):∃c1 d1,fin 1 c1 d1=(c++comp x,.br f k::d)/\NR c1/\(relOf s1≠none->∃o c2,fin 2 c1 d1=(c2,.sgn (.r o)::(.br f k::d)))/\∀r,Run false ⟨p1,s1,c1,d1⟩ r->G r:=by
 obtain⟨c1,d1,f1,n1,q1,g1⟩:=D.go;exact⟨c1,d1,by rw[f1,zb5 (by show 0<1;decide)],n1,q1 rfl,g1⟩
theorem ze_(D:zml 1 c (.br f k::d) x p1 s1 G)(h41:s1.head?=some 41->f=some .iff/\k<3)(h44:s1.head?=some 44->f=none\/(f=some .iff/\k=3)):G (.error p1):=by
 obtain⟨c1,d1,f1,n1,q1,g1⟩:=zgH D;apply g1;by_cases he:s1=[]
 ·have h:Run false ⟨p1,s1,c1,d1⟩ (zgs ⟨p1,s1,c1,d1⟩):=.stop he;have e:zgs ⟨p1,s1,c1,d1⟩=.error p1:=by unfold zgs;dsimp only;rw[f1];rfl
  rwa [e] at h
 ·refine .gerr he ?_;by_cases e1:s1.head?=some 41
  ·unfold gon;dsimp only;obtain⟨rfl,hk⟩:=h41 e1;rw[if_pos e1,f1,closeB,if_pos ⟨rfl,hk⟩]
  ·by_cases e2:s1.head?=some 44
   ·unfold gon;dsimp only;rw[if_neg e1,if_pos e2,f1];rcases h44 e2 with rfl|⟨rfl,rfl⟩
    ·rfl
    ·rw[nextP,if_pos ⟨rfl,rfl⟩]
   ·exact zi4 (st:=⟨p1,s1,c1,d1⟩) e1 e2 (D.nm (by decide)) (D.na (by decide)) q1
theorem zkQ(D:zml 1 c (.br none k::d) x p1 (41::t) G)(r:Except Nat (List Item))(h:Run false ⟨p1+1,t,c++comp x,d⟩ r):G r:=by
 obtain⟨c1,d1,f1,n1,q1,g1⟩:=zgH D;refine g1 _ (.gok (by simp) ?_ h);unfold gon;dsimp only;rw[if_pos (by rfl),f1];rfl
theorem ziq{g:Fu}(D:zml 1 c (.br (some g) k::d) x p1 (41::t) G)(hg:¬(g=.iff/\k<3))(r:Except Nat (List Item))(h:Run false ⟨p1+1,t,c++comp x++[.fu g k],d⟩ r):G r:=by
 obtain⟨c1,d1,f1,n1,q1,g1⟩:=zgH D;refine g1 _ (.gok (by simp) ?_ h);unfold gon;dsimp only;rw[if_pos (by rfl),f1,closeB,if_neg hg];rfl
theorem zhD{g:Fu}(D:zml 1 c (.br (some g) k::d) x p1 (44::t) G)(hg:¬(g=.iff/\k=3))(r:Except Nat (List Item))(h:Run true ⟨p1+1,t,c++comp x,.br (some g) (k+1)::d⟩ r):G r:=by
 obtain⟨c1,d1,f1,n1,q1,g1⟩:=zgH D;refine g1 _ (.gok (by simp) ?_ h);unfold gon;dsimp only;rw[if_neg (by simp),if_pos (by rfl),f1,nextP,if_neg hg];rfl
end
theorem zfU{p q:Nat}{s t:Bytes}{n:Nat}(h:readRow p s=.ok (n,q,t)):t.length<s.length/\∃a r,s=a::r/\digit a=true/\n<64:=by
 unfold readRow at h;split at h
 ·rename_i a r;split at h
  ·rename_i ha;split at h
   ·rename_i b u;split at h
    ·split at h
     ·cases h
     ·rename_i hlt;cases h
      exact⟨by simp only[zAb];omega,a,_,rfl,ha.1,by omega⟩
    ·cases h
     refine⟨by simp,a,_,rfl,ha.1,?_⟩;have:=ha.1;simp[digit,UInt8.le_iff_toNat_le] at this;simp[number];omega
   ·cases h
    refine⟨by simp,a,_,rfl,ha.1,?_⟩;have:=ha.1;simp[digit,UInt8.le_iff_toNat_le] at this;simp[number];omega
  ·cases h
 ·cases h
theorem zio(p:Nat)(s:Bytes):(dollar p s).2.2.length<=s.length:=by
 unfold dollar;split<;>simp
theorem zbC{p q:Nat}{s t:Bytes}{x:Ref}(h:readRef p s=.ok (x,q,t)):t.length<s.length/\x.row<64/\x.column<16 /\
  ((∃r,s=36::r)\/∃b a r,s=b::a::r/\65<=b/\b<=80/\(a=36\/digit a=true)):=by
 unfold readRef at h;dsimp only at h;split at h
 ·rename_i c r hd;split at h
  ·rename_i hc;split at h
   ·cases h
   ·rename_i n q' t' hr;cases h
    obtain⟨h1,a,u,h2,h3,h4⟩:=zfU hr;have l1:=zio p s;rw[hd] at l1;have l2:=zio ((dollar p s).2.1+1) r;rw[zAb] at l1;refine⟨by omega,h4,?_,?_⟩
    ·have:=hc.2;simp[UInt8.le_iff_toNat_le] at this;show c.toNat - 65<16;omega
    ·unfold dollar at hd;split at hd
     ·exact .inl ⟨_,rfl⟩
     ·dsimp only at hd
      right
      unfold dollar at h2;split at h2
      ·exact⟨c,36,_,hd,hc.1,hc.2,.inl rfl⟩
      ·dsimp only at h2;exact⟨c,a,u,by rw[hd,h2],hc.1,hc.2,.inr h3⟩
  ·cases h
 ·cases h
theorem zj9:names.map (fun x=>ascii x.1)=[[83,85,77,40],[77,73,78,40],[77,65,88,40],[67,79,85,78,84,40],[73,70,40]]:=by decide +kernel
theorem zl2{y:String×Option Fn}(h:y∈names){s:Bytes}(hp:(ascii y.1).isPrefixOf s=true):∃a b r,s=a::b::r/\65<=a/\¬a=36/\b≠36/\digit b=false/\digit a=false/\a≠45/\a≠40:=by
 have hm:ascii y.1∈names.map (fun x=>ascii x.1):=zCp h;rw[zj9] at hm;have hp:=List.isPrefixOf_iff_prefix.mp hp;obtain⟨r,rfl⟩:=hp;simp only[zEd,List.not_mem_nil,or_false] at hm;rcases hm with e | e | e | e | e<;>(rw[e];exact⟨_,_,_,rfl,by decide,by decide,by decide,by decide,by decide,by decide,by decide⟩)
theorem zlW{p q:Nat}{b:UInt8}{r t:Bytes}{x:Ref}(h:readRef p (b::r)=.ok (x,q,t)):b≠45/\b≠40/\digit b=false/\names.find? (fun x=>(ascii x.1).isPrefixOf (b::r))=none:=by
 obtain⟨_,_,_,h⟩:=zbC h;have hb:b=36\/(65<=b/\b<=80):=by
  rcases h with⟨r',e⟩|⟨b',a,r',e,h1,h2,_⟩
  ·cases e;exact .inl rfl
  ·cases e;exact .inr ⟨h1,h2⟩
 refine⟨?_,?_,?_,?_⟩
 ·rintro rfl;revert hb;decide
 ·rintro rfl;revert hb;decide
 ·rcases hb with rfl|⟨h1,_⟩
  ·decide
  ·simp[digit,UInt8.le_iff_toNat_le] at *;omega
 ·rw[List.find?_eq_none];intro y hy hp;obtain⟨a,b2,r2,e,h1,h2,h3,h4,_⟩:=zl2 hy hp;rcases h with⟨r',e'⟩|⟨b',a',r',e',_,_,h7⟩
  ·rw[e] at e';cases e';exact h2 rfl
  ·rw[e] at e';cases e'
   rcases h7 with h7 | h7
   ·exact h3 h7
   ·rw[h4] at h7;cases h7
theorem zf5{b:UInt8}{r:Bytes}(h:digit b=true):zhj (b::r)/\zih (b::r)/\relOf (b::r)=none/\(b::r).head?≠some 41/\(b::r).head?≠some 44/\b≠45/\b≠40:=by
 have hd:48<=b.toNat/\b.toNat<=57:=by simpa[digit,UInt8.le_iff_toNat_le] using h
 have ne:∀z:UInt8,z.toNat<48\/57<z.toNat->b≠z:=fun z hz e=>by subst e;omega
 refine⟨fun c r' e=>?_,fun c r' e=>?_,?_,?_,?_,ne _ (by decide),ne _ (by decide)⟩
 ·cases e;rintro(e | e | e)<;>exact ne _ (by decide) e
 ·cases e;rintro(e | e)<;>exact ne _ (by decide) e
 ·unfold relOf;split<;>first | rfl|(rename_i e;cases e;exact absurd rfl (ne _ (by decide)))
 ·intro e;exact ne 41 (by decide) (zBd e)
 ·intro e;exact ne 44 (by decide) (zBd e)
theorem zhz{s:Bytes}{n:Nat}(h:n<(s.takeWhile digit).length):∃b r,s.drop n=b::r/\digit b=true:=by
 have hl:(s.takeWhile digit).length<=s.length:=(zCz (p:=digit) (l:=s)).length_le;refine⟨s[n],s.drop (n+1),zBo (by omega),?_⟩;have h1:(s.takeWhile digit)[n]=s[n]:=by
  have:=zCz (p:=digit) (l:=s);exact this.getElem h
 rw[<-h1];exact List.all_eq_true.mp (List.all_takeWhile ..) _ (List.getElem_mem h)
end Rs
namespace Rs
open Sg07
theorem zl1:∀y∈names,1<=y.1.length:=by decide +kernel
theorem zdX{s:Bytes}(b:UInt8):(∃t,s=b::t)\/s.head?≠some b:=by
 cases s with
 | nil=>exact .inr (by simp)
 | cons a t =>
  by_cases h:a=b
  ·subst h;exact .inl ⟨t,rfl⟩
  ·exact .inr (by simpa using h)
section
variable{k:Nat}(ih:∀w p s,8*s.length+zoj w<=k->Cl k w p s)
include ih
theorem zme(p:Nat)(s:Bytes)(hb:8*s.length+3<=k+1):Cl (k+1) .factor p s:=by
 intro c d hn;cases s with
 | nil =>
  have e0:Sg07.read (k+1) .factor p []=.error p:=by rw[Sg07.read]
  refine⟨fun e h=>?_,fun x p' s' h=>?_⟩
  ·rw[e0] at h;cases h;exact .werr rfl
  ·rw[e0] at h;cases h
 | cons b r =>
  rw[zAb] at hb;by_cases h45:b=45
  ·have hbf:bf ⟨p,b::r,c,d⟩=.ok (true,⟨p+1,r,c,.neg::d⟩):=by unfold bf;(try dsimp only);rw[if_pos h45]
   have h1:=ih .factor (p+1) r (by show _+3<=k;omega) c (.neg::d) (zc2 rfl);cases hs:Sg07.read k .factor (p+1) r with
   | error e1 =>
    have e0:Sg07.read (k+1) .factor p (b::r)=.error e1:=by rw[Sg07.read];(try dsimp only);rw[if_pos h45,hs]
    rw[hs] at h1;refine⟨fun e h=>?_,fun x p' s' h=>?_⟩
    ·rw[e0] at h;cases h;exact .wok hbf (h1.1 _ rfl)
    ·rw[e0] at h;cases h
   | ok v =>
    obtain⟨a,p1,s1⟩:=v;have e0:Sg07.read (k+1) .factor p (b::r)=.ok (.neg a,p1,s1):=by rw[Sg07.read];(try dsimp only);rw[if_pos h45,hs]
    rw[hs] at h1;obtain⟨lt1,D1⟩:=h1.2 a p1 s1 rfl;obtain⟨c1,d1,f1,n1,_,g1⟩:=D1.go;refine⟨fun e h=>?_,fun x p' s' h=>?_⟩
    ·rw[e0] at h;cases h
    ·rw[e0] at h;cases h;refine⟨by rw[zAb];omega,D1.nm,D1.na,c1,d1,?_,n1,(fun z=>absurd z (by decide)),fun q hq=>.wok hbf (g1 q hq)⟩;rw[f1,zch (by show 4<=4;decide),comp];simp only[zAk];rfl
  ·by_cases h40:b=40
   ·have hbf:bf ⟨p,b::r,c,d⟩=.ok (true,⟨p+1,r,c,.br none 1::d⟩):=by unfold bf;(try dsimp only);rw[if_neg h45,if_pos h40]
    have h1:=ih .cmp (p+1) r (by show _+6<=k;omega) c (.br none 1::d) (by show 0<1;decide) (zc2 rfl);cases hs:Sg07.read k .cmp (p+1) r with
    | error e1 =>
     have e0:Sg07.read (k+1) .factor p (b::r)=.error e1:=by rw[Sg07.read];(try dsimp only);rw[if_neg h45,if_pos h40,hs]
     rw[hs] at h1;refine⟨fun e h=>?_,fun x p' s' h=>?_⟩
     ·rw[e0] at h;cases h;exact .wok hbf (h1.1 _ rfl)
     ·rw[e0] at h;cases h
    | ok v =>
     obtain⟨a,p1,s1⟩:=v;rw[hs] at h1;obtain⟨lt1,D1⟩:=h1.2 a p1 s1 rfl;rcases zdX (s:=s1) 41 with⟨t,rfl⟩ | hne
     ·have e0:Sg07.read (k+1) .factor p (b::r)=.ok (a,p1+1,t):=by rw[Sg07.read];(try dsimp only);rw[if_neg h45,if_pos h40,hs];(try rfl)
      refine⟨fun e h=>?_,fun x p' s' h=>?_⟩
      ·rw[e0] at h;cases h
      ·rw[e0] at h;cases h;rw[zAb] at lt1;exact⟨by rw[zAb];omega,(fun z=>absurd z (by decide)),(fun z=>absurd z (by decide)),c++comp a,d,rfl,ze0 c a,(fun z=>absurd z (by decide)),fun q hq=>.wok hbf (zkQ D1 q hq)⟩
     ·have e0:Sg07.read (k+1) .factor p (b::r)=.error p1:=by
       rw[Sg07.read];(try dsimp only);rw[if_neg h45,if_pos h40,hs]
       try dsimp only
       split
       ·exact absurd rfl hne
       ·rfl
      refine⟨fun e h=>?_,fun x p' s' h=>?_⟩
      ·rw[e0] at h;cases h;exact .wok hbf (ze_ D1 (fun z=>absurd z hne) fun _=>.inl rfl)
      ·rw[e0] at h;cases h
   ·by_cases hd:digit b=true
    ·have hne:(b::r).takeWhile digit≠[]:=by rw[List.takeWhile_cons_of_pos hd];simp
     have hbf:bf ⟨p,b::r,c,d⟩=.ok (false,⟨p+(((b::r).takeWhile digit).take 18).length,(b::r).drop (((b::r).takeWhile digit).take 18).length,c++[.num (number (((b::r).takeWhile digit).take 18))],d⟩):=by
      unfold bf;(try dsimp only);rw[if_neg h45,if_neg h40,if_pos hd]
     by_cases hl:18<((b::r).takeWhile digit).length
     ·have e0:Sg07.read (k+1) .factor p (b::r)=.error (p+18):=by
       rw[Sg07.read];(try dsimp only);rw[if_neg h45,if_neg h40,if_pos hd];unfold readNumber;(try dsimp only);rw[if_neg hne,if_pos hl]
      have l18:(((b::r).takeWhile digit).take 18).length=18:=by rw[zBa];omega
      refine⟨fun e h=>?_,fun x p' s' h=>?_⟩
      ·rw[e0] at h;cases h;refine .wok hbf ?_;rw[l18];obtain⟨b',r',e,hd'⟩:=zhz hl;rw[e];obtain⟨h1,h2,h3,h4,h5,_⟩:=zf5 (r:=r') hd';exact .gerr (by simp) (zi4 (st:=⟨p+18,b'::r',_,d⟩) (d:=d) h4 h5 h1 h2 fun z=>absurd h3 z)
      ·rw[e0] at h;cases h
     ·have tk:((b::r).takeWhile digit).take 18=(b::r).takeWhile digit:=zBk (by omega);rw[tk] at hbf;have e0:Sg07.read (k+1) .factor p (b::r)=.ok (.num (number ((b::r).takeWhile digit)),p+((b::r).takeWhile digit).length,(b::r).drop ((b::r).takeWhile digit).length):=by
       rw[Sg07.read];(try dsimp only);rw[if_neg h45,if_neg h40,if_pos hd];unfold readNumber;(try dsimp only);rw[if_neg hne,if_neg hl]
      refine⟨fun e h=>?_,fun x p' s' h=>?_⟩
      ·rw[e0] at h;cases h
      ·rw[e0] at h;cases h;have l0:0<((b::r).takeWhile digit).length:=List.length_pos_iff.mpr hne;refine⟨?_,(fun z=>absurd z (by decide)),(fun z=>absurd z (by decide)),_,d,rfl,ze0 c _,(fun z=>absurd z (by decide)),fun q hq=>.wok hbf hq⟩;rw[zBi,zAb];omega
    ·cases hf:names.find? (fun x=>(ascii x.1).isPrefixOf (b::r)) with
     | some y =>
      obtain⟨w,f⟩:=y;have hw:=zl1 _ (zDg hf);dsimp only at hw;have ld:((b::r).drop w.length).length=r.length+1 - w.length:=by rw[zBi,zAb]
      have hbf:bf ⟨p,b::r,c,d⟩=.ok (true,⟨p+w.length,(b::r).drop w.length,c,.br (some (zqB f)) 1::d⟩):=by
       unfold bf;(try dsimp only);rw[if_neg h45,if_neg h40,if_neg hd,hf]
      cases f with
      | some f =>
       have e0:Sg07.read (k+1) .factor p (b::r)=Sg07.read k (.parts f []) (p+w.length) ((b::r).drop w.length):=by
        rw[Sg07.read];(try dsimp only);rw[if_neg h45,if_neg h40,if_neg hd,hf]
       have h1:=ih (.parts f []) (p+w.length) ((b::r).drop w.length) (by show _+7<=k;rw[ld];omega) c d;rw[<-e0,show c++compAll []=c by rw[compAll,zBz]] at h1;refine⟨fun e h=>.wok hbf (h1.1 e h),fun x p' s' h=>?_⟩;obtain⟨lt1,g1⟩:=h1.2 x p' s' h;exact⟨by rw[zAb];omega,(fun z=>absurd z (by decide)),(fun z=>absurd z (by decide)),c++comp x,d,rfl,ze0 c x,(fun z=>absurd z (by decide)),fun q hq=>.wok hbf (g1 q hq)⟩
      | none =>
       have e0:Sg07.read (k+1) .factor p (b::r)=(match Sg07.read k .cmp (p+w.length) ((b::r).drop w.length) with
         | .error e=>.error e
         | .ok (a,p,s)=>match s with
          | 44::t=>(match Sg07.read k .cmp (p+1) t with
           | .error e=>.error e
           | .ok (b,p,s)=>match s with
            | 44::t=>(match Sg07.read k .cmp (p+1) t with
             | .error e=>.error e
             | .ok (d,p,s)=>match s with
              | 41::t=>.ok (.iff a b d,p+1,t)
              | _=>.error p)
            | _=>.error p)
          | _=>.error p):=by
        rw[Sg07.read];(try dsimp only);rw[if_neg h45,if_neg h40,if_neg hd,hf];(try rfl)
       have bad:∀e1,Sg07.read (k+1) .factor p (b::r)=.error e1->Run true ⟨p,b::r,c,d⟩ (.error e1)->zjg 4 (Sg07.read (k+1) .factor p (b::r)) (b::r).length c d (Run true ⟨p,b::r,c,d⟩):=fun e1 h1 h2=>by
        refine⟨fun e h=>?_,fun x p' s' h=>?_⟩
        ·rw[h1] at h;cases h;exact h2
        ·rw[h1] at h;cases h
       have h1:=ih .cmp (p+w.length) ((b::r).drop w.length) (by show _+6<=k;rw[ld];omega) c (.br (some .iff) 1::d) (by show 0<1;decide) (zc2 rfl);cases hs1:Sg07.read k .cmp (p+w.length) ((b::r).drop w.length) with
       | error e1 =>
        rw[hs1] at h1 e0;exact bad e1 e0 (.wok hbf (h1.1 _ rfl))
       | ok v =>
        obtain⟨a,p1,s1⟩:=v;rw[hs1] at h1 e0;obtain⟨lt1,D1⟩:=h1.2 a p1 s1 rfl;rcases zdX (s:=s1) 44 with⟨t1,rfl⟩ | hne
        ·rw[zAb] at lt1;have h2:=ih .cmp (p1+1) t1 (by show _+6<=k;omega) (c++comp a) (.br (some .iff) 2::d) (by show 0<1;decide) (zc2 rfl);have n1:=zhD D1 (by intro z;exact absurd z.2 (by decide));have e0:Sg07.read (k+1) .factor p (b::r)=(match Sg07.read k .cmp (p1+1) t1 with
           | .error e=>.error e
           | .ok (b,p,s)=>match s with
            | 44::t=>(match Sg07.read k .cmp (p+1) t with
             | .error e=>.error e
             | .ok (d,p,s)=>match s with
              | 41::t=>.ok (.iff a b d,p+1,t)
              | _=>.error p)
            | _=>.error p):=e0
         cases hs2:Sg07.read k .cmp (p1+1) t1 with
         | error e2 =>
          rw[hs2] at h2 e0;exact bad e2 e0 (.wok hbf (n1 _ (h2.1 _ rfl)))
         | ok v =>
          obtain⟨y,p2,s2⟩:=v;rw[hs2] at h2 e0;obtain⟨lt2,D2⟩:=h2.2 y p2 s2 rfl;rcases zdX (s:=s2) 44 with⟨t2,rfl⟩ | hne
          ·rw[zAb] at lt2;have h3:=ih .cmp (p2+1) t2 (by show _+6<=k;omega) (c++comp a++comp y) (.br (some .iff) 3::d) (by show 0<1;decide) (zc2 rfl);have n2:=zhD D2 (by intro z;exact absurd z.2 (by decide));have e0:Sg07.read (k+1) .factor p (b::r)=(match Sg07.read k .cmp (p2+1) t2 with
             | .error e=>.error e
             | .ok (d,p,s)=>match s with
              | 41::t=>.ok (.iff a y d,p+1,t)
              | _=>.error p):=e0
           cases hs3:Sg07.read k .cmp (p2+1) t2 with
           | error e3 =>
            rw[hs3] at h3 e0;exact bad e3 e0 (.wok hbf (n1 _ (n2 _ (h3.1 _ rfl))))
           | ok v =>
            obtain⟨z,p3,s3⟩:=v;rw[hs3] at h3 e0;obtain⟨lt3,D3⟩:=h3.2 z p3 s3 rfl;rcases zdX (s:=s3) 41 with⟨t3,rfl⟩ | hne
            ·rw[zAb] at lt3;refine⟨fun e h=>?_,fun x p' s' h=>?_⟩
             ·rw[e0] at h;cases h
             ·rw[e0] at h;cases h;refine⟨by rw[zAb];omega,(fun z=>absurd z (by decide)),(fun z=>absurd z (by decide)),c++comp (.iff a y z),d,rfl,ze0 c _,(fun z=>absurd z (by decide)),fun q hq=>.wok hbf (n1 _ (n2 _ (ziq D3 (by intro z;exact absurd z.2 (by decide)) q ?_)))⟩;rw[comp] at hq;simpa only[zAk] using hq
            ·refine bad p3 ?_ (.wok hbf (n1 _ (n2 _ (ze_ D3 (fun z=>absurd z hne) fun _=>.inr ⟨rfl,rfl⟩))));rw[e0]
             try dsimp only
             split
             ·exact absurd rfl hne
             ·rfl
          ·refine bad p2 ?_ (.wok hbf (n1 _ (ze_ D2 (fun _=>⟨rfl,by decide⟩) fun z=>absurd z hne)));rw[e0]
           try dsimp only
           split
           ·exact absurd rfl hne
           ·rfl
        ·refine bad p1 ?_ (.wok hbf (ze_ D1 (fun _=>⟨rfl,by decide⟩) fun z=>absurd z hne));rw[e0]
         try dsimp only
         split
         ·exact absurd rfl hne
         ·rfl
     | none =>
      have hbf:bf ⟨p,b::r,c,d⟩=zbR ⟨p,b::r,c,d⟩ (p+along (b::r)):=by
       unfold bf;(try dsimp only);rw[if_neg h45,if_neg h40,if_neg hd,hf]
      cases hr:readRef p (b::r) with
      | error e1 =>
       have e0:Sg07.read (k+1) .factor p (b::r)=.error (max e1 (p+along (b::r))):=by
        rw[Sg07.read];(try dsimp only);rw[if_neg h45,if_neg h40,if_neg hd,hf];(try dsimp only);rw[hr]
       refine⟨fun e h=>?_,fun x p' s' h=>?_⟩
       ·rw[e0] at h;cases h;refine .werr ?_;rw[hbf];unfold zbR
        try dsimp only
        rw[hr]
       ·rw[e0] at h;cases h
      | ok v =>
       obtain⟨x,q,t⟩:=v;have e0:Sg07.read (k+1) .factor p (b::r)=.ok (.ref x,q,t):=by
        rw[Sg07.read];(try dsimp only);rw[if_neg h45,if_neg h40,if_neg hd,hf];(try dsimp only);rw[hr]
       refine⟨fun e h=>?_,fun y p' s' h=>?_⟩
       ·rw[e0] at h;cases h
       ·rw[e0] at h;cases h;obtain⟨lt,_⟩:=zbC hr;refine⟨lt,(fun z=>absurd z (by decide)),(fun z=>absurd z (by decide)),c++comp (.ref x),d,rfl,ze0 c _,(fun z=>absurd z (by decide)),fun q' hq=>.wok (st':=⟨q,t,c++[.ref x],d⟩) (w:=false) ?_ (by rw[comp] at hq;exact hq)⟩;rw[hbf];unfold zbR
        try dsimp only
        rw[hr]
        try dsimp only
        rw[if_neg];rintro⟨h1,h2⟩;cases t with
        | nil=>cases h2
        | cons u t=>cases h2;exact hn h1 _ _ _ hr
theorem znU(f:Fn)(l:List Part)(p:Nat)(s:Bytes)(hb:8*s.length+7<=k+1):Cl (k+1) (.parts f l) p s:=by
 intro c d;have next:∀(x:Part) (u:Bytes) (q:Nat),u.length<s.length->(∀r,Run true ⟨q,u,c++compAll (l++[x]),.br (some (.fn f)) (l.length+2)::d⟩ r->Run true ⟨p,s,c++compAll l,.br (some (.fn f)) (l.length+1)::d⟩ r) ->
   Sg07.read (k+1) (.parts f l) p s=Sg07.read k (.parts f (l++[x])) q u ->
   (∀e,Sg07.read (k+1) (.parts f l) p s=.error e->Run true ⟨p,s,c++compAll l,.br (some (.fn f)) (l.length+1)::d⟩ (.error e)) /\
   ∀x p' s',Sg07.read (k+1) (.parts f l) p s=.ok (x,p',s')->s'.length<s.length/\∀r,Run false ⟨p',s',c++comp x,d⟩ r->Run true ⟨p,s,c++compAll l,.br (some (.fn f)) (l.length+1)::d⟩ r:=fun x u q lu go e0=>by
  have h1:=ih (.parts f (l++[x])) q u (by show _+7<=k;omega) c d;rw[zAa,zAt,<-e0] at h1;refine⟨fun e h=>go _ (h1.1 e h),fun y p' s' h=>?_⟩;obtain⟨lt1,g1⟩:=h1.2 y p' s' h;exact⟨by omega,fun r hr=>go _ (g1 r hr)⟩
 have close:∀(x:Part) (u:Bytes) (q:Nat),u.length<s.length->(∀r,Run false ⟨q,u,c++compAll (l++[x])++[.fu (.fn f) (l.length+1)],d⟩ r->Run true ⟨p,s,c++compAll l,.br (some (.fn f)) (l.length+1)::d⟩ r) ->
   Sg07.read (k+1) (.parts f l) p s=.ok (.fn f (l++[x]),q,u) ->
   (∀e,Sg07.read (k+1) (.parts f l) p s=.error e->Run true ⟨p,s,c++compAll l,.br (some (.fn f)) (l.length+1)::d⟩ (.error e)) /\
   ∀x p' s',Sg07.read (k+1) (.parts f l) p s=.ok (x,p',s')->s'.length<s.length/\∀r,Run false ⟨p',s',c++comp x,d⟩ r->Run true ⟨p,s,c++compAll l,.br (some (.fn f)) (l.length+1)::d⟩ r:=fun x u q lu go e0=>by
  refine⟨fun e h=>?_,fun y p' s' h=>?_⟩
  ·rw[e0] at h;cases h
  ·rw[e0] at h;cases h;refine⟨lu,fun r hr=>go r ?_⟩;rw[comp,zAa,zAt,<-zAk] at hr;exact hr
 have bad:∀(q:Nat),Run true ⟨p,s,c++compAll l,.br (some (.fn f)) (l.length+1)::d⟩ (.error q)->Sg07.read (k+1) (.parts f l) p s=.error q ->
   (∀e,Sg07.read (k+1) (.parts f l) p s=.error e->Run true ⟨p,s,c++compAll l,.br (some (.fn f)) (l.length+1)::d⟩ (.error e)) /\
   ∀x p' s',Sg07.read (k+1) (.parts f l) p s=.ok (x,p',s')->s'.length<s.length/\∀r,Run false ⟨p',s',c++comp x,d⟩ r->Run true ⟨p,s,c++compAll l,.br (some (.fn f)) (l.length+1)::d⟩ r:=fun q go e0=>by
  refine⟨fun e h=>?_,fun y p' s' h=>?_⟩
  ·rw[e0] at h;cases h;exact go
  ·rw[e0] at h;cases h
 have tail:∀(x:Part) (q:Nat) (t:Bytes),Sg07.read (k+1) (.parts f l) p s=(match t with
   | 44::u=>Sg07.read k (.parts f (l++[x])) (q+1) u
   | 41::u=>.ok (.fn f (l++[x]),q+1,u)
   | _=>.error q)->t.length<s.length ->
   (∀u,t=44::u->∀r,Run true ⟨q+1,u,c++compAll (l++[x]),.br (some (.fn f)) (l.length+2)::d⟩ r->Run true ⟨p,s,c++compAll l,.br (some (.fn f)) (l.length+1)::d⟩ r) ->
   (∀u,t=41::u->∀r,Run false ⟨q+1,u,c++compAll (l++[x])++[.fu (.fn f) (l.length+1)],d⟩ r->Run true ⟨p,s,c++compAll l,.br (some (.fn f)) (l.length+1)::d⟩ r) ->
   (t.head?≠some 44->t.head?≠some 41->Run true ⟨p,s,c++compAll l,.br (some (.fn f)) (l.length+1)::d⟩ (.error q)) ->
   (∀e,Sg07.read (k+1) (.parts f l) p s=.error e->Run true ⟨p,s,c++compAll l,.br (some (.fn f)) (l.length+1)::d⟩ (.error e)) /\
   ∀x p' s',Sg07.read (k+1) (.parts f l) p s=.ok (x,p',s')->s'.length<s.length/\∀r,Run false ⟨p',s',c++comp x,d⟩ r->Run true ⟨p,s,c++compAll l,.br (some (.fn f)) (l.length+1)::d⟩ r:=fun x q t e0 lt h44 h41 hbad=>by
  rcases zdX (s:=t) 44 with⟨u,rfl⟩ | n44
  ·rw[zAb] at lt;exact next x u (q+1) (by omega) (h44 u rfl) e0
  ·rcases zdX (s:=t) 41 with⟨u,rfl⟩ | n41
   ·rw[zAb] at lt;exact close x u (q+1) (by omega) (h41 u rfl) e0
   ·refine bad q (hbad n44 n41) ?_;rw[e0];split
    ·exact absurd rfl n44
    ·exact absurd rfl n41
    ·rfl
 by_cases hrange:∃a q t,readRef p s=.ok (a,q,58::t)
 ·obtain⟨a,q,t,hr⟩:=hrange;cases s with
  | nil=>obtain⟨lt,_⟩:=zbC hr;exact absurd lt (by simp)
  | cons b0 r0 =>
   obtain⟨n45,n40,nd,nf⟩:=zlW hr;obtain⟨lt,_⟩:=zbC hr;have hbf:bf ⟨p,b0::r0,c++compAll l,.br (some (.fn f)) (l.length+1)::d⟩=(match readRef (q+1) t with
     | .error e=>.error e
     | .ok (b,q',t')=>.ok (false,⟨q',t',c++compAll l++[.rng a b],.br (some (.fn f)) (l.length+1)::d⟩)):=by
    unfold bf
    try dsimp only
    rw[if_neg n45,if_neg n40,if_neg (by rw[nd];decide),nf]
    try dsimp only
    unfold zbR
    try dsimp only
    rw[hr]
    try dsimp only
    rw[if_pos ⟨rfl,rfl⟩];rfl
   cases hr2:readRef (q+1) t with
   | error e1 =>
    rw[hr2] at hbf;refine bad e1 (.werr hbf) ?_;rw[Sg07.read]
    try dsimp only
    rw[hr];show(match (match (match readRef (q+1) t with
       | .ok (b,q,t)=>some (Part.range a b,q,t)
       | .error _=>none) with
      | some x=>(Except.ok x:Read Part)
      | none=>(match readRef (q+1) t with
       | .ok (b,q,t)=>.ok (.range b b,q,t)
       | .error e=>.error e)) with
     | .error e=>(Except.error e:Read Expr)
     | .ok (x,q,t)=>match t with
      | 44::u=>Sg07.read k (.parts f (l++[x])) (q+1) u
      | 41::u=>.ok (.fn f (l++[x]),q+1,u)
      | _=>.error q)=_
    rw[hr2]
   | ok v =>
    obtain⟨b,q2,t2⟩:=v;rw[hr2] at hbf;dsimp only at hbf;obtain⟨lt2,_⟩:=zbC hr2;have snoc:c++compAll (l++[.range a b])=c++compAll l++[.rng a b]:=by
     rw[zci,zAk];rfl
    have fs:fin 1 (c++compAll l++[.rng a b]) (.br (some (.fn f)) (l.length+1)::d)=(c++compAll l++[.rng a b],.br (some (.fn f)) (l.length+1)::d):=zb5 (by show 0<1;decide) _ _;refine tail (.range a b) q2 t2 ?_ (by rw[zAb] at lt;omega) ?_ ?_ ?_
    ·rw[Sg07.read]
     try dsimp only
     rw[hr];show(match (match (match readRef (q+1) t with
        | .ok (b,q,t)=>some (Part.range a b,q,t)
        | .error _=>none) with
       | some x=>(Except.ok x:Read Part)
       | none=>(match readRef (q+1) t with
        | .ok (b,q,t)=>.ok (.range b b,q,t)
        | .error e=>.error e)) with
      | .error e=>(Except.error e:Read Expr)
      | .ok (x,q,t)=>match t with
       | 44::u=>Sg07.read k (.parts f (l++[x])) (q+1) u
       | 41::u=>.ok (.fn f (l++[x]),q+1,u)
       | _=>.error q)=_
     rw[hr2]
    ·rintro u rfl r hrun;rw[snoc] at hrun;refine .wok hbf (.gok (by simp) ?_ hrun);unfold gon
     try dsimp only
     rw[if_neg (by simp),if_pos (by rfl),fs,nextP,if_neg (by intro z;cases z.1)];rfl
    ·rintro u rfl r hrun;rw[snoc] at hrun;refine .wok hbf (.gok (by simp) ?_ hrun);unfold gon
     try dsimp only
     rw[if_pos (by rfl),fs,closeB,if_neg (by intro z;cases z.1)];rfl
    ·intro n44 n41;refine .wok hbf ?_;by_cases he:t2=[]
     ·have h:Run false ⟨q2,t2,c++compAll l++[.rng a b],.br (some (.fn f)) (l.length+1)::d⟩ (zgs _):=.stop he;have e:zgs ⟨q2,t2,c++compAll l++[.rng a b],.br (some (.fn f)) (l.length+1)::d⟩=.error q2:=by unfold zgs;(try dsimp only);rw[fs];rfl
      rwa [e] at h
     ·refine .gerr he ?_;unfold gon
      try dsimp only
      rw[if_neg n41,if_neg n44];unfold zd9
      try dsimp only
      cases zbr t2 with
      | none=>rfl
      | some v =>
       obtain⟨g,n⟩:=v
       try dsimp only
       rw[if_pos];unfold zfZ;rw[zDy]
 ·have h1:=ih .cmp p s (by show _+6<=k;omega) (c++compAll l) (.br (some (.fn f)) (l.length+1)::d) (by show 0<1;decide) (fun _ a q t h=>hrange ⟨a,q,t,h⟩);have e0:Sg07.read (k+1) (.parts f l) p s=(match Sg07.read k .cmp p s with
    | .error e=>.error e
    | .ok (a,q,t)=>match t with
     | 44::u=>Sg07.read k (.parts f (l++[.one a])) (q+1) u
     | 41::u=>.ok (.fn f (l++[.one a]),q+1,u)
     | _=>.error q):=by
   rw[Sg07.read]
   try dsimp only
   split
   ·rename_i e he;split at he
    ·cases he
    ·split at he
     ·rename_i e';exact absurd ⟨_,_,_,e'⟩ hrange
     ·split at he
      ·rename_i e2 hs;cases he
       rw[hs]
      ·cases he
   ·rename_i x q' t' he;split at he
    ·rename_i y hy;split at hy
     ·rename_i e';exact absurd ⟨_,_,_,e'⟩ hrange
     ·cases hy
    ·split at he
     ·rename_i e';exact absurd ⟨_,_,_,e'⟩ hrange
     ·split at he
      ·cases he
      ·rename_i a2 q2 t2 hs;cases he
       rw[hs];rfl
  cases hs:Sg07.read k .cmp p s with
  | error e1 =>
   rw[hs] at h1 e0;exact bad e1 (h1.1 _ rfl) e0
  | ok v =>
   obtain⟨a,q,t⟩:=v;rw[hs] at h1 e0;obtain⟨lt1,D1⟩:=h1.2 a q t rfl;have snoc:c++compAll (l++[.one a])=c++compAll l++comp a:=by
    rw[zci,zAk];congr 2;rw[compAll,compAll,zBz]
   refine tail (.one a) q t e0 lt1 ?_ ?_ ?_
   ·rintro u rfl r hrun;rw[snoc] at hrun;exact zhD D1 (by intro z;cases z.1) r hrun
   ·rintro u rfl r hrun;rw[snoc] at hrun;exact ziq D1 (by intro z;cases z.1) r hrun
   ·intro n44 n41;exact ze_ D1 (fun z=>absurd z n41) fun z=>absurd z n44
end
theorem znV:∀(k:Nat) (w:What) (p:Nat) (s:Bytes),8*s.length+zoj w<=k->Cl k w p s
 | 0,w,p,s,h=>by cases w<;>simp[zoj] at h
 | k+1,w,p,s,h=>by
  have ih:=znV k;cases w with
  | cmp=>exact zqQ ih p s h
  | sum=>exact zqP ih p s h
  | sumMore a=>exact zkR ih a p s h
  | product=>exact zkS ih p s h
  | productMore a=>exact zhF ih a p s h
  | factor=>exact zme ih p s h
  | parts f l=>exact znU ih f l p s h
theorem zjA(r:Bytes)(n:Nat)(hn:8*r.length+6<=n):Run true ⟨1,r,[],[]⟩ (match Sg07.read n .cmp 1 r with
  | .error e=>.error e
  | .ok (e,p,t)=>if t=[] then .ok (comp e) else .error p):=by
 have h:=znV n .cmp 1 r hn [] [] trivial (zc2 rfl);cases hs:Sg07.read n .cmp 1 r with
 | error e=>rw[hs] at h;exact h.1 e rfl
 | ok v =>
  obtain⟨x,p,t⟩:=v;rw[hs] at h;obtain⟨lt,D⟩:=h.2 x p t rfl;obtain⟨c1,d1,f1,n1,q1,g1⟩:=D.go;rw[zDc,zlt] at f1;apply g1
  try dsimp only
  by_cases ht:t=[]
  ·rw[if_pos ht];have h:Run false ⟨p,t,c1,d1⟩ (zgs ⟨p,t,c1,d1⟩):=.stop ht;have e:zgs ⟨p,t,c1,d1⟩=.ok (comp x):=by unfold zgs;(try dsimp only);rw[f1];rfl
   rwa [e] at h
  ·rw[if_neg ht];refine .gerr ht ?_;by_cases e1:t.head?=some 41
   ·unfold gon;(try dsimp only);rw[if_pos e1,f1];rfl
   ·by_cases e2:t.head?=some 44
    ·unfold gon;(try dsimp only);rw[if_neg e1,if_pos e2,f1];rfl
    ·exact zi4 (st:=⟨p,t,c1,d1⟩) e1 e2 (D.nm (by decide)) (D.na (by decide)) (q1 rfl)
end Rs
namespace Rs
open Sg07
def steps{α:Type}(f:List α->Item->Option (List α)):List α->List Item->Option (List α)
 | st,[]=>some st
 | st,i::r=>(f st i).bind fun st'=>steps f st' r
theorem zcX{α:Type}(f:List α->Item->Option (List α)):∀(l:List Item) (r:List Item) (st:List α),steps f st (l++r)=(steps f st l).bind fun st'=>steps f st' r
 | [],r,st=>rfl
 | i::l,r,st=>by
  rw[zBw,steps,steps];cases f st i with
  | none=>rfl
  | some st'=>exact zcX f l r st'
theorem steps_snoc{α:Type}(f:List α->Item->Option (List α))(l:List Item)(i:Item)(st:List α):steps f st (l++[i])=(steps f st l).bind fun st'=>f st' i:=by
 rw[zcX];congr;funext st';rw[steps];cases f st' i<;>rfl
theorem zjm{α:Type}{f:List α->Item->Option (List α)}{l:List Item}{st r:List α}(h:steps f st l=some r){i:Nat}{x:Item}(hi:l[i]?=some x) :
  ∃a b,steps f st (l.take i)=some a/\f a x=some b/\steps f st (l.take (i+1))=some b:=by
 have hl:i<l.length:=(List.getElem?_eq_some_iff.mp hi).1;have e:l.take (i+1)=l.take i++[x]:=by rw[zAu,hi];rfl
 have e2:l=l.take i++(x::l.drop (i+1)):=by
  have hx:=(List.getElem?_eq_some_iff.mp hi).2;have hd:l.drop i=x::l.drop (i+1):=by rw[zBo hl,hx]
  rw[<-hd,zBt]
 rw[e2,zcX] at h;cases ha:steps f st (l.take i) with
 | none=>rw[ha] at h;cases h
 | some a =>
  rw[ha] at h;have h:(f a x).bind (fun st'=>steps f st' (l.drop (i+1)))=some r:=h;cases hb:f a x with
  | none=>rw[hb] at h;cases h
  | some b=>exact⟨a,b,rfl,hb,by rw[e,steps_snoc,ha];exact hb⟩
inductive Sv where
 | w (x:Worth)
 | l (xs:List Worth)
def Sv.all:Sv->List Worth
 | .w x=>[x]
 | .l xs=>xs
def zij(g:Sg)(a b:Worth):Worth:=a.bind fun x=>b.bind fun y=>match g with
 | .b o=>work o x y
 | .r o=>.ok (if holds o x y=true then 1 else 0)
def oks:List Worth->Except Nat (List Int)
 | []=>.ok []
 | .error e::_=>.error e
 | .ok z::r=>(oks r).map fun l=>z::l
def ifW(a b c:Worth):Worth:=a.bind fun x=>if x≠0 then b else c
noncomputable def fuW:Fu->List Sv->Option Worth
 | .iff,[.w a,.w b,.w c]=>some (ifW a b c)
 | .iff,_=>none
 | .fn f,l=>some ((oks (l.flatMap Sv.all)).bind (made f))
noncomputable def zcN (w:Nat->Worth) (R:Ref->Ref->List Worth) (st:List Sv):Item->Option (List Sv)
 | .num n=>some (.w (.ok n)::st)
 | .ref r=>some (.w (w r.cell)::st)
 | .rng a b=>some (.l (R a b)::st)
 | .neg=>match st with
  | .w a::st=>some (.w (a.bind fun z=>fits (-z))::st)
  | _=>none
 | .sgn g=>match st with
  | .w b::.w a::st=>some (.w (zij g a b)::st)
  | _=>none
 | .fu f k=>if k<=st.length then(fuW f (st.take k).reverse).map fun x=>.w x::st.drop k else none
theorem zhg(a b:List Worth):oks (a++b)=(oks a).bind fun k=>(oks b).map fun l=>k++l:=by
 induction a with
 | nil=>cases h:oks b<;>simp[oks,Except.bind,Except.map,h]
 | cons x a ih =>
  cases x with
  | error e=>rfl
  | ok z =>
   rw[zBw,oks,oks,ih];cases oks a with
   | error e=>rfl
   | ok k=>cases oks b<;>rfl
theorem zoz(x:Worth):oks [x]=x.map fun z=>[z]:=by
 cases x<;>rfl
theorem oks_mapM(w:Nat->Worth):∀l:List Nat,l.mapM w=oks (l.map w)
 | []=>rfl
 | c::r=>by
  rw[List.mapM_cons,zAz,oks_mapM w r];cases w c with
  | error e=>rfl
  | ok z=>rw[oks];cases oks (r.map w)<;>rfl
theorem zli(w:Nat->Worth)(p:Nat->Bool)(hp:∀c,p c=false->w c=.ok 0):∀l:List Nat,(oks (l.map w)).map List.sum=(oks ((l.filter p).map w)).map List.sum
 | []=>rfl
 | c::r=>by
  have ih:=zli w p hp r;cases h:p c with
  | true =>
   rw[List.filter_cons_of_pos h,zAz,zAz];cases w c with
   | error e=>rfl
   | ok z =>
    rw[oks,oks];cases h1:oks (r.map w) with
    | error e=>rw[h1] at ih;cases h2:oks ((r.filter p).map w) with
     | error e'=>rw[h2] at ih;exact ih
     | ok l=>rw[h2] at ih;cases ih
    | ok k=>rw[h1] at ih;cases h2:oks ((r.filter p).map w) with
     | error e'=>rw[h2] at ih;cases ih
     | ok l =>
      rw[h2] at ih;have:k.sum=l.sum:=Except.ok.inj ih;show Except.ok (z::k).sum=Except.ok (z::l).sum;rw[zCt,zCt,this]
  | false =>
   rw[List.filter_cons_of_neg (by rw[h];decide),zAz,hp c h,oks,<-ih];cases oks (r.map w) with
   | error e=>rfl
   | ok k=>show Except.ok (0::k).sum=Except.ok k.sum;rw[zCt,Int.zero_add]
def zcr(S:Sheet)(w:Nat->Worth):Part->Sv
 | .one e=>.w (worth S w e)
 | .range a b=>.l (((cellsOf a b).filter fun c=>!isEmpty (S c)).map w)
section
variable{S:Sheet}{w:Nat->Worth}{R:Ref->Ref->List Worth}
theorem ziy(hw:∀c,isEmpty (S c)=true->w c=.ok 0)(f:Fn):∀l:List Part,(worths S w f l).bind (made f)=(oks ((l.map (zcr S w)).flatMap Sv.all)).bind (made f):=by
 have key:∀l:List Part,(f≠.sum->worths S w f l=oks ((l.map (zcr S w)).flatMap Sv.all))/\(f=.sum->(worths S w f l).map List.sum=(oks ((l.map (zcr S w)).flatMap Sv.all)).map List.sum):=by
  intro l;induction l with
  | nil=>exact⟨fun _=>by rw[worths];rfl,fun _=>by rw[worths];rfl⟩
  | cons p r ih =>
   cases p with
   | one e =>
    rw[worths,zAz,zCn];show(_->_=oks ([worth S w e]++_))/\(_->_=(oks ([worth S w e]++_)).map List.sum);rw[zhg,zoz];refine⟨fun h=>?_,fun h=>?_⟩
    ·rw[ih.1 h];cases worth S w e<;>rfl
    ·have i2:=ih.2 h;cases worth S w e with
     | error e=>rfl
     | ok z =>
      show((worths S w f r).map fun l=>z::l).map List.sum=((oks ((r.map (zcr S w)).flatMap Sv.all)).map fun l=>[z]++l).map List.sum;cases h1:worths S w f r with
      | error e=>rw[h1] at i2;cases h2:oks ((r.map (zcr S w)).flatMap Sv.all) with
       | error e'=>rw[h2] at i2;exact i2
       | ok l=>rw[h2] at i2;cases i2
      | ok k=>rw[h1] at i2;cases h2:oks ((r.map (zcr S w)).flatMap Sv.all) with
       | error e'=>rw[h2] at i2;cases i2
       | ok l =>
        rw[h2] at i2;have:k.sum=l.sum:=Except.ok.inj i2;show Except.ok (z::k).sum=Except.ok (z::l).sum;rw[zCt,zCt,this]
   | range a b =>
    rw[worths,zAz,zCn];show(_->_=oks (((cellsOf a b).filter fun c=>!isEmpty (S c)).map w++_))/\(_->_=(oks (((cellsOf a b).filter fun c=>!isEmpty (S c)).map w++_)).map List.sum);rw[zhg,oks_mapM];refine⟨fun h=>?_,fun h=>?_⟩
    ·have:(f == Fn.sum)=false:=by cases f<;>first | rfl | exact absurd rfl h
     simp only[this,Bool.false_or];rw[ih.1 h]
    ·have i2:=ih.2 h;subst h;have e1:(cellsOf a b).filter (fun c=>(Fn.sum == Fn.sum)||!isEmpty (S c))=cellsOf a b:=by
      rw[List.filter_eq_self];intro c _;rfl
     rw[e1];have e2:=zli w (fun c=>!isEmpty (S c)) (fun c hc=>hw c (by simpa using hc)) (cellsOf a b);generalize oks ((cellsOf a b).map w)=A at *;generalize oks (((cellsOf a b).filter fun c=>!isEmpty (S c)).map w)=B at *;generalize worths S w Fn.sum r=C at *;generalize oks ((r.map (zcr S w)).flatMap Sv.all)=D at *;cases A with
     | error e=>cases B with
      | error e'=>exact e2
      | ok l=>cases e2
     | ok k=>cases B with
      | error e'=>cases e2
      | ok l =>
       have h1:k.sum=l.sum:=Except.ok.inj e2;cases C with
       | error e=>cases D with
        | error e'=>exact i2
        | ok l'=>cases i2
       | ok k'=>cases D with
        | error e'=>cases i2
        | ok l' =>
         have h2:k'.sum=l'.sum:=Except.ok.inj i2;show Except.ok (k++k').sum=Except.ok (l++l').sum;rw[List.sum_append,List.sum_append,h1,h2]
 intro l;by_cases h:f=.sum
 ·have k2:=(key l).2 h;subst h;generalize worths S w Fn.sum l=A at *;generalize oks ((l.map (zcr S w)).flatMap Sv.all)=B at *;cases A with
  | error e=>cases B with
   | error e'=>exact congrArg (fun x:Except Nat Int=>x.bind fun _=>(.ok 0:Worth)) k2 |> fun _=>by cases k2;rfl
   | ok l=>cases k2
  | ok k=>cases B with
   | error e'=>cases k2
   | ok l' =>
    have h2:k.sum=l'.sum:=Except.ok.inj k2;show made .sum k=made .sum l';rw[made,made,h2]
 ·rw[(key l).1 h]
mutual
 theorem ev_expr(hw:∀c,isEmpty (S c)=true->w c=.ok 0)(hR:∀a b,R a b=((cellsOf a b).filter fun c=>!isEmpty (S c)).map w):∀(e:Expr) (st:List Sv) (r:List Item),
   steps (zcN w R) st (comp e++r)=steps (zcN w R) (.w (worth S w e)::st) r
  | .num n,st,r=>by rw[comp,worth];rfl
  | .ref x,st,r=>by rw[comp,worth];rfl
  | .neg e,st,r=>by
   rw[comp,zAk,ev_expr hw hR e,worth];rfl
  | .bin o a b,st,r=>by
   rw[comp,zAk,zAk,ev_expr hw hR a,ev_expr hw hR b,worth];rfl
  | .cmp o a b,st,r=>by
   rw[comp,zAk,zAk,ev_expr hw hR a,ev_expr hw hR b,worth];have e:zij (.r o) (worth S w a) (worth S w b)=(worth S w a).bind fun x=>(worth S w b).map fun y=>if holds o x y=true then 1 else 0:=by
    unfold zij;cases worth S w a with
    | error e=>rfl
    | ok x=>cases worth S w b<;>rfl
   rw[<-e];rfl
  | .iff c a b,st,r=>by
   rw[comp,zAk,zAk,zAk,ev_expr hw hR c,ev_expr hw hR a,ev_expr hw hR b,worth];rfl
  | .fn f l,st,r=>by
   rw[comp,zAk,ev_all hw hR l,worth,ziy hw];have e1:((l.map (zcr S w)).reverse++st).take l.length=(l.map (zcr S w)).reverse:=by
    rw[List.take_append_of_le_length (by simp),zBk (by simp)]
   have e2:((l.map (zcr S w)).reverse++st).drop l.length=st:=by
    rw[List.drop_append_of_le_length (by simp),List.drop_of_length_le (by simp),zDc]
   show((if l.length<=((l.map (zcr S w)).reverse++st).length then _ else _:Option (List Sv)).bind fun st'=>steps (zcN w R) st' r)=_;rw[if_pos (by simp),e1,e2,List.reverse_reverse];rfl
 theorem ev_all(hw:∀c,isEmpty (S c)=true->w c=.ok 0)(hR:∀a b,R a b=((cellsOf a b).filter fun c=>!isEmpty (S c)).map w):∀(l:List Part) (st:List Sv) (r:List Item),
   steps (zcN w R) st (compAll l++r)=steps (zcN w R) ((l.map (zcr S w)).reverse++st) r
  | [],st,r=>by rw[compAll];rfl
  | .one e::l,st,r=>by
   rw[compAll,zAk,ev_expr hw hR e,ev_all hw hR l];simp[zcr]
  | .range a b::l,st,r=>by
   rw[compAll,zBw];show steps (zcN w R) (.l (R a b)::st) (compAll l++r)=_;rw[ev_all hw hR l,hR];simp[zcr]
end
theorem zo0(hw:∀c,isEmpty (S c)=true->w c=.ok 0)(hR:∀a b,R a b=((cellsOf a b).filter fun c=>!isEmpty (S c)).map w)(e:Expr):steps (zcN w R) [] (comp e)=some [.w (worth S w e)]:=by
 have h:=ev_expr hw hR e [] [];rw[zBz] at h;rw[h];rfl
end
def zbm:Sg->Bytes
 | .b o=>[binByte o]
 | .r o=>ascii (relText o)
def zaz:Fu->Bytes
 | .iff=>ascii "IF("
 | .fn f=>ascii (fnText f)
def brk(least:Nat)(x:Nat×Bytes):Bytes:=if x.1<least then 40::(x.2++[41]) else x.2
def zb6:List Bytes->Bytes
 | []=>[]
 | [a]=>a
 | a::r=>a++44::zb6 r
noncomputable def zck (st:List (Nat×Bytes)):Item->Option (List (Nat×Bytes))
 | .num n=>some ((4,decimal n)::st)
 | .ref r=>some ((4,refText r)::st)
 | .rng a b=>some ((1,refText a++58::refText b)::st)
 | .neg=>match st with
  | x::st=>some ((4,45::brk 4 x)::st)
  | _=>none
 | .sgn g=>match st with
  | y::x::st=>some ((tight g,brk (max (tight g) 2) x++zbm g++brk (tight g+1) y)::st)
  | _=>none
 | .fu f k=>if k<=st.length then some ((4,zaz f++zb6 ((st.take k).reverse.map (·.2))++[41])::st.drop k) else none
def lev(e:Expr):Nat:=level e+1
def partT:Part->Nat×Bytes
 | .one e=>(lev e,textOf e)
 | .range a b=>(1,refText a++58::refText b)
theorem zb_:∀l:List Part,partsText l=zb6 (l.map fun p=>(partT p).2)
 | []=>by rw[partsText];rfl
 | [.one e]=>by rw[partsText];simp[partsText,partT,zb6]
 | [.range a b]=>by rw[partsText];simp[partsText,partT,zb6]
 | .one e::q::r=>by
  rw[partsText,zb_ (q::r)];rfl
 | .range a b::q::r=>by
  rw[partsText,zb_ (q::r)];simp[partT,zb6]
theorem zoH(o:Bin)(a b:Expr):lev (.bin o a b)=tight (.b o):=by cases o<;>rfl
theorem zct(n:Nat)(e:Expr):brk (n+1) (lev e,textOf e)=closed n e (textOf e):=by
 unfold brk closed lev;by_cases h:level e<n
 ·rw[if_pos h,if_pos (by show level e+1<n+1;omega)]
 ·rw[if_neg h,if_neg (by show¬level e+1<n+1;omega)]
mutual
 theorem tx_expr:∀(e:Expr) (st:List (Nat×Bytes)) (r:List Item),steps zck st (comp e++r)=steps zck ((lev e,textOf e)::st) r
  | .num n,st,r=>by rw[comp,textOf];rfl
  | .ref x,st,r=>by rw[comp,textOf];rfl
  | .neg e,st,r=>by
   rw[comp,zAk,tx_expr e,textOf,<-zct];rfl
  | .bin o a b,st,r=>by
   rw[comp,zAk,zAk,tx_expr a,tx_expr b,textOf]
   try dsimp only
   rw[<-zct,<-zct,zoH];have h1:level (.bin o a b)+1=max (tight (.b o)) 2:=by cases o<;>rfl
   have h2:level (.bin o a b)+1+1=tight (.b o)+1:=by cases o<;>rfl
   rw[h1] at *;rw[show max (tight (.b o)) 2+1=tight (.b o)+1 by cases o<;>rfl];show steps zck ((tight (.b o),brk (max (tight (.b o)) 2) (lev a,textOf a)++[binByte o]++brk (tight (.b o)+1) (lev b,textOf b))::st) r=_;rw[zAk,List.singleton_append]
  | .cmp o a b,st,r=>by
   rw[comp,zAk,zAk,tx_expr a,tx_expr b,textOf,<-zct,<-zct];rfl
  | .iff c a b,st,r=>by
   rw[comp,zAk,zAk,zAk,tx_expr c,tx_expr a,tx_expr b,textOf];show steps zck ((4,ascii "IF(" ++ (textOf c++44::(textOf a++44::textOf b))++[41])::st) r=_;simp only[zAk,zBw];rfl
  | .fn f l,st,r=>by
   rw[comp,zAk,tx_all l,textOf,zb_];have e1:((l.map partT).reverse++st).take l.length=(l.map partT).reverse:=by
    rw[List.take_append_of_le_length (by simp),zBk (by simp)]
   have e2:((l.map partT).reverse++st).drop l.length=st:=by
    rw[List.drop_append_of_le_length (by simp),List.drop_of_length_le (by simp),zDc]
   show((if l.length<=((l.map partT).reverse++st).length then _ else _:Option (List (Nat×Bytes))).bind fun st'=>steps zck st' r)=_;rw[if_pos (by simp),e1,e2,List.reverse_reverse,zCm];rfl
 theorem tx_all:∀(l:List Part) (st:List (Nat×Bytes)) (r:List Item),steps zck st (compAll l++r)=steps zck ((l.map partT).reverse++st) r
  | [],st,r=>by rw[compAll];rfl
  | .one e::l,st,r=>by
   rw[compAll,zAk,tx_expr e,tx_all l];simp[partT]
  | .range a b::l,st,r=>by
   rw[compAll,zBw];show steps zck ((1,refText a++58::refText b)::st) (compAll l++r)=_;rw[tx_all l];simp[partT]
end
theorem zoa(e:Expr):steps zck [] (comp e)=some [(lev e,textOf e)]:=by
 have h:=tx_expr e [] [];rw[zBz] at h;rw[h];rfl
def moveItem(dr dc:Int):Item->Option Item
 | .ref r=>(move dr dc r).map .ref
 | .rng a b=>(move dr dc a).bind fun x=>(move dr dc b).map fun y=>.rng x y
 | i=>some i
def moveAll(dr dc:Int):List Item->Option (List Item)
 | []=>some []
 | i::r=>(moveItem dr dc i).bind fun j=>(moveAll dr dc r).map fun l=>j::l
theorem moveAll_append(dr dc:Int):∀a b:List Item,moveAll dr dc (a++b)=(moveAll dr dc a).bind fun x=>(moveAll dr dc b).map fun y=>x++y
 | [],b=>by rw[zDc,moveAll];cases moveAll dr dc b<;>rfl
 | i::a,b=>by
  rw[zBw,moveAll,moveAll,moveAll_append dr dc a b];cases moveItem dr dc i with
  | none=>rfl
  | some j =>
   cases moveAll dr dc a with
   | none=>rfl
   | some x=>cases moveAll dr dc b<;>rfl
mutual
 theorem mv_expr(dr dc:Int):∀e:Expr,moveAll dr dc (comp e)=(moved dr dc e).map comp
  | .num n=>by rw[comp,moved];rfl
  | .ref r=>by rw[comp,moved];simp only[moveAll,moveItem];cases move dr dc r<;>rfl
  | .neg e=>by
   rw[comp,moved,moveAll_append,mv_expr dr dc e];cases moved dr dc e<;>rfl
  | .bin o a b=>by
   rw[comp,moved,moveAll_append,moveAll_append,mv_expr dr dc a,mv_expr dr dc b];cases moved dr dc a with
   | none=>rfl
   | some x=>cases moved dr dc b<;>rfl
  | .cmp o a b=>by
   rw[comp,moved,moveAll_append,moveAll_append,mv_expr dr dc a,mv_expr dr dc b];cases moved dr dc a with
   | none=>rfl
   | some x=>cases moved dr dc b<;>rfl
  | .iff c a b=>by
   rw[comp,moved,moveAll_append,moveAll_append,moveAll_append,mv_expr dr dc c,mv_expr dr dc a,mv_expr dr dc b];cases moved dr dc c with
   | none=>rfl
   | some z =>
    cases moved dr dc a with
    | none=>rfl
    | some x=>cases moved dr dc b<;>rfl
  | .fn f l=>by
   rw[comp,moved,moveAll_append,mv_all dr dc l];cases h:movedAll dr dc l with
   | none=>rfl
   | some m =>
    have hl:=mv_len dr dc l m h;show some (compAll m++[Item.fu (.fn f) l.length])=some (comp (.fn f m));rw[comp,hl]
 theorem mv_all(dr dc:Int):∀l:List Part,moveAll dr dc (compAll l)=(movedAll dr dc l).map compAll
  | []=>by rw[compAll,movedAll];rfl
  | .one e::r=>by
   rw[compAll,movedAll,moveAll_append,mv_expr dr dc e,mv_all dr dc r];cases moved dr dc e with
   | none=>rfl
   | some x=>cases movedAll dr dc r<;>rfl
  | .range a b::r=>by
   rw[compAll,movedAll,moveAll,moveItem,mv_all dr dc r];cases move dr dc a with
   | none=>rfl
   | some x =>
    cases move dr dc b with
    | none=>rfl
    | some y=>cases movedAll dr dc r<;>rfl
 theorem mv_len(dr dc:Int):∀(l m:List Part),movedAll dr dc l=some m->l.length=m.length
  | [],m,h=>by rw[movedAll] at h;cases h;rfl
  | .one e::r,m,h=>by
   rw[movedAll] at h;cases h1:moved dr dc e with
   | none=>rw[h1] at h;cases h
   | some x =>
    cases h2:movedAll dr dc r with
    | none=>rw[h1,h2] at h;cases h
    | some m'=>rw[h1,h2] at h;cases h;rw[zAb,zAb,mv_len dr dc r m' h2]
  | .range a b::r,m,h=>by
   rw[movedAll] at h;cases h1:move dr dc a with
   | none=>rw[h1] at h;cases h
   | some x =>
    cases h3:move dr dc b with
    | none=>rw[h1,h3] at h;cases h
    | some y =>
     cases h2:movedAll dr dc r with
     | none=>rw[h1,h3,h2] at h;cases h
     | some m'=>rw[h1,h3,h2] at h;cases h;rw[zAb,zAb,mv_len dr dc r m' h2]
end
def zaA:Item->List Nat
 | .ref r=>[r.cell]
 | .rng a b=>cellsOf a b
 | _=>[]
mutual
 theorem nd_expr:∀e:Expr,(comp e).flatMap zaA=needs e
  | .num n=>by rw[comp,needs];rfl
  | .ref r=>by rw[comp,needs];rfl
  | .neg e=>by rw[comp,needs,zBc,nd_expr e];simp[zaA]
  | .bin o a b=>by rw[comp,needs,zBc,zBc,nd_expr a,nd_expr b];simp[zaA]
  | .cmp o a b=>by rw[comp,needs,zBc,zBc,nd_expr a,nd_expr b];simp[zaA]
  | .iff c a b=>by rw[comp,needs,zBc,zBc,zBc,nd_expr c,nd_expr a,nd_expr b];simp[zaA]
  | .fn f l=>by rw[comp,needs,zBc,nd_all l];simp[zaA]
 theorem nd_all:∀l:List Part,(compAll l).flatMap zaA=needsAll l
  | []=>by rw[compAll,needsAll];rfl
  | .one e::r=>by rw[compAll,needsAll,zBc,nd_expr e,nd_all r]
  | .range a b::r=>by rw[compAll,needsAll,zCn,nd_all r];rfl
end
end Rs
namespace Rs
open Sg07
theorem zc1:∀(n:Nat) (l:List Nat),l.Nodup->(∀x∈l,x<n)->l.length<=n
 | 0,l,_,h=>by
  cases l with
  | nil=>simp
  | cons a r=>exact absurd (h a zAo) (by omega)
 | n+1,l,hn,h=>by
  by_cases hm:n∈l
  ·have h1:=zc1 n (l.erase n) (hn.erase n) (fun x hx=>by
    have h2:=h x (List.mem_of_mem_erase hx);have h3:x≠n:=fun e=>by
     subst e;exact(List.Nodup.mem_erase_iff hn).mp hx |>.1 rfl
    omega)
   rw[List.length_erase_of_mem hm] at h1;omega
  ·have h1:=zc1 n l hn (fun x hx=>by
    have h2:=h x hx;have h3:x≠n:=fun e=>hm (e ▸ hx);omega)
   omega
def Bnd(S:Sheet):Prop:=∀c d,d∈needsOf (S c)->d<1024
theorem zhy:∀(n:Nat) (l:List Nat),l.length<=n->l.eraseDups.Nodup
 | _,[],_=>by simp
 | 0,_::_,h=>by simp at h
 | n+1,a::r,h=>by
  rw[List.eraseDups_cons,List.nodup_cons];refine⟨?_,zhy n _ (zBp (zDu _ _) (by simpa using h))⟩;rw[List.mem_eraseDups,List.mem_filter];simp
theorem zlu:∀(l:List Nat),l.Nodup->l.eraseDups=l
 | [],_=>by simp
 | a::r,h=>by
  obtain⟨h1,h2⟩:=List.nodup_cons.mp h;rw[List.eraseDups_cons];have e:r.filter (fun b=>!b == a)=r:=by
   rw[List.filter_eq_self];intro b hb;have:b≠a:=fun e=>h1 (e ▸ hb);simp[this]
  rw[e,zlu r h2]
theorem zqH(l r:List Nat)(hn:l.Nodup):∃m,(l++r).eraseDups=l++m/\(∀x,x∈m↔x∈r/\x∉l):=by
 refine⟨(r.removeAll l).eraseDups,?_,?_⟩
 ·rw[List.eraseDups_append,zlu l hn]
 ·intro x;rw[List.mem_eraseDups];simp[List.removeAll,List.mem_filter]
structure zn6(S:Sheet)(l r:List Nat):Prop where
 nd:r.Nodup
 lt:∀x∈r,x<1024
 sub:∀x∈l,x∈r
 cl:∀x∈r,∀d∈needsOf (S x),d∈r
 from_:∀x∈r,x∈l\/∃y∈l,Leads S y x
theorem zeA{S:Sheet}(hB:Bnd S):∀(k:Nat) (l:List Nat),l.Nodup->(∀x∈l,x<1024)->1025<=k+l.length->zn6 S l (far S k l)
 | 0,l,hn,hl,hk=>by have:=zc1 1024 l hn hl;omega
 | k+1,l,hn,hl,hk=>by
  obtain⟨m,e,hm⟩:=zqH l (l.flatMap fun c=>needsOf (S c)) hn;have nd2:(l++m).Nodup:=by rw[<-e];exact zhy _ _ (zAi _)
  rw[far];show zn6 S l (if (onward S l).length=l.length then l else far S k (onward S l));have eo:onward S l=l++m:=e;rw[eo];by_cases h0:m=[]
  ·rw[if_pos (by rw[h0,zBz])];refine⟨hn,hl,fun x hx=>hx,fun x hx d hd=>?_,fun x hx=>.inl hx⟩;by_cases hdl:d∈l
   ·exact hdl
   ·have:d∈m:=(hm d).mpr ⟨List.mem_flatMap.mpr ⟨x,hx,hd⟩,hdl⟩;rw[h0] at this;cases this
  ·have hp:0<m.length:=List.length_pos_iff.mpr h0;rw[if_neg (by rw[zAa];omega)];have lt2:∀x∈l++m,x<1024:=fun x hx=>by
    rcases zAw hx with h | h
    ·exact hl x h
    ·obtain⟨y,_,hy⟩:=List.mem_flatMap.mp ((hm x).mp h).1;exact hB y x hy
   have C:=zeA hB k (l++m) nd2 lt2 (by rw[zAa];omega);refine⟨C.nd,C.lt,fun x hx=>C.sub x (zAj _ hx),C.cl,fun x hx=>?_⟩;have inm:∀z∈m,∃y∈l,Leads S y z:=fun z hz=>by
    obtain⟨y,h1,h2⟩:=List.mem_flatMap.mp ((hm z).mp hz).1;exact⟨y,h1,.step y z h2⟩
   rcases C.from_ x hx with h|⟨y,hy,hL⟩
   ·rcases zAw h with h | h
    ·exact .inl h
    ·exact .inr (inm x h)
   ·rcases zAw hy with h | h
    ·exact .inr ⟨y,h,hL⟩
    ·obtain⟨z,h1,h2⟩:=inm y h;exact .inr ⟨z,h1,.on z y x h2 hL⟩
theorem znn{S:Sheet}{a:Nat}{R:List Nat}(h0:∀d∈needsOf (S a),d∈R)(cl:∀x∈R,∀d∈needsOf (S x),d∈R){x y:Nat}(h:Leads S x y):(x=a\/x∈R)->y∈R:=by
 induction h with
 | step a' b hb =>
  rintro(rfl | h)
  ·exact h0 b hb
  ·exact cl a' h b hb
 | on a' b c _ _ ih1 ih2=>exact fun h=>ih2 (.inr (ih1 h))
theorem zjS{S:Sheet}(hB:Bnd S)(a b:Nat):b∈leadsTo S a↔Leads S a b:=by
 have C:=zeA hB (CELLS+1) (needsOf (S a)).eraseDups (zhy _ _ (zAi _)) (fun x hx=>hB a x (List.mem_eraseDups.mp hx)) (by show 1025<=1025+_;omega);constructor
 ·intro h;rcases C.from_ b h with h|⟨y,hy,hL⟩
  ·exact .step a b (List.mem_eraseDups.mp h)
  ·exact .on a y b (.step a y (List.mem_eraseDups.mp hy)) hL
 ·intro h;exact znn (fun d hd=>C.sub d (List.mem_eraseDups.mpr hd)) C.cl h (.inl rfl)
theorem znf{S:Sheet}{goal:Nat}{C:Nat->Prop}(h:∀x,C x->∀d∈needsOf (S x),d≠goal/\(isEmpty (S d)=false->C d)){x y:Nat}(hL:Leads S x y):C x->y≠goal/\(isEmpty (S y)=false->C y):=by
 induction hL with
 | step a b hb=>exact fun hc=>h a hc b hb
 | on a b c h1 h2 ih1 ih2 =>
  intro hc;have hb:isEmpty (S b)=false:=by
   have:∀ {u v:Nat},Leads S u v->isEmpty (S u)=false:=fun{u v} q=>by
    induction q with
    | step a b hb =>
     cases e:S a with
     | empty=>rw[e] at hb;cases hb
     | num z=>rfl
     | formula e=>rfl
    | on _ _ _ _ _ i _=>exact i
   exact this h2
  exact ih2 ((ih1 hc).2 hb)
def cw(S:Sheet)(w:Nat->Worth)(c:Nat):Worth:=match S c with
 | .empty=>.ok 0
 | .num z=>.ok z
 | .formula e=>worth S w e
inductive Val(S:Sheet):Nat->Worth->Prop where
 | mk (c:Nat) (w:Nat->Worth):(∀d,d∈needsOf (S c)->Val S d (w d))->Val S c (cw S w c)
mutual
 theorem worth_congr{S:Sheet}{w w':Nat->Worth}:∀e:Expr,(∀d∈needs e,w d=w' d)->worth S w e=worth S w' e
  | .num n,_=>by rw[worth,worth]
  | .ref r,h=>by rw[worth,worth];exact h _ (by rw[needs];exact List.mem_singleton.mpr rfl)
  | .neg e,h=>by rw[worth,worth,worth_congr e fun d hd=>h d (by rw[needs];exact hd)]
  | .bin o a b,h=>by
   rw[worth,worth,worth_congr a fun d hd=>h d (by rw[needs];exact zAj _ hd),worth_congr b fun d hd=>h d (by rw[needs];exact zAl _ hd)]
  | .cmp o a b,h=>by
   rw[worth,worth,worth_congr a fun d hd=>h d (by rw[needs];exact zAj _ hd),worth_congr b fun d hd=>h d (by rw[needs];exact zAl _ hd)]
  | .iff c a b,h=>by
   rw[worth,worth,worth_congr c fun d hd=>h d (by rw[needs];exact zAj _ hd),worth_congr a fun d hd=>h d (by rw[needs];exact zAl _ (zAj _ hd)),
    worth_congr b fun d hd=>h d (by rw[needs];exact zAl _ (zAl _ hd))]
  | .fn f l,h=>by rw[worth,worth,worths_congr f l fun d hd=>h d (by rw[needs];exact hd)]
 theorem worths_congr{S:Sheet}{w w':Nat->Worth}(f:Fn):∀l:List Part,(∀d∈needsAll l,w d=w' d)->worths S w f l=worths S w' f l
  | [],_=>by rw[worths,worths]
  | .one e::r,h=>by
   rw[worths,worths,worth_congr e fun d hd=>h d (by rw[needsAll];exact zAj _ hd),worths_congr f r fun d hd=>h d (by rw[needsAll];exact zAl _ hd)]
  | .range a b::r,h=>by
   rw[worths,worths,worths_congr f r fun d hd=>h d (by rw[needsAll];exact zAl _ hd),oks_mapM,oks_mapM];have e:(((cellsOf a b).filter fun c=>f == .sum||!isEmpty (S c)).map w)=(((cellsOf a b).filter fun c=>f == .sum||!isEmpty (S c)).map w'):=
    zCk fun d hd=>h d (by rw[needsAll];exact zAj _ (List.mem_filter.mp hd).1)
   rw[e]
end
theorem znP{S:Sheet}{w w':Nat->Worth}{c:Nat}(h:∀d∈needsOf (S c),w d=w' d):cw S w c=cw S w' c:=by
 unfold cw;cases e:S c with
 | empty=>rfl
 | num z=>rfl
 | formula x=>exact worth_congr x fun d hd=>h d (by rw[e];exact hd)
theorem Val.only{S:Sheet}{c:Nat}{x:Worth}(h:Val S c x):∀ {y:Worth},Val S c y->x=y:=by
 induction h with
 | mk c w _ ih =>
  intro y hy;cases hy with
  | mk _ w' h'=>exact znP fun d hd=>ih d hd (h' d hd)
theorem zjB{S:Sheet}(P:Nat->Prop)(h:∀c,P c->∃d∈needsOf (S c),P d){c:Nat}{x:Worth}(hv:Val S c x):¬P c:=by
 induction hv with
 | mk c w _ ih =>
  intro hc;obtain⟨d,hd,hp⟩:=h c hc;exact ih d hd hp
theorem zk8{S:Sheet}{c d:Nat}(hd:d∈needsOf (S c))(h:∀x,¬Val S d x)(x:Worth):¬Val S c x:=by
 intro hv;cases hv with
 | mk _ w h'=>exact h _ (h' d hd)
theorem zex(f:Nat->Worth)(k:Known)(d:Nat):∀l:List Nat,((l.map fun c=>(c,f c))++k).lookup d=if d∈l then some (f d) else k.lookup d
 | []=>by simp
 | a::r=>by
  rw[zAz,zBw,zCa];by_cases h:d=a
  ·subst h;simp
  ·have:(d == a)=false:=by simpa using h
   rw[this,zex f k d r];simp[h]
theorem zid{S:Sheet}{T:List Nat}(cl:∀x∈T,∀d∈needsOf (S x),d∈T):∀(f:Nat) (left:List Nat) (k:Known),left.length<f->(∀d x,k.lookup d=some x->Val S d x)->(∀t∈T,t∈left\/(k.lookup t).isSome=true) ->
  (∀d x,(rounds S f left k).lookup d=some x->Val S d x)/\∀d x,Val S d x->d∈T->((rounds S f left k).lookup d).isSome=true
 | 0,left,k,hf,_,_=>absurd hf (by omega)
 | f+1,left,k,hf,hk,hT=>by
  rw[rounds];have hcan:∀c,c∈left.filter (fun(c:Nat)=>(needsOf (S c)).all fun(d:Nat)=>(k.lookup d).isSome)↔c∈left/\∀d∈needsOf (S c),(k.lookup d).isSome=true:=fun c=>by
   rw[List.mem_filter,List.all_eq_true]
  generalize left.filter (fun(c:Nat)=>(needsOf (S c)).all fun(d:Nat)=>(k.lookup d).isSome)=can at hcan
  try dsimp only
  by_cases h0:can.isEmpty=true
  ·rw[if_pos h0];refine⟨hk,fun d x hv=>?_⟩;induction hv with
   | mk c w _ ih =>
    intro hc;rcases hT c hc with h | h
    ·have:c∈can:=(hcan c).mpr ⟨h,fun d hd=>ih d hd (cl c hc d hd)⟩;rw[List.isEmpty_iff.mp h0] at this;cases this
    ·exact h
  ·rw[if_neg h0];have kn:∀d x,((can.map fun(c:Nat)=>(c,cellWorth S k c))++k).lookup d=some x->Val S d x:=fun d x h=>by
    rw[zex] at h;by_cases hd:d∈can
    ·rw[if_pos hd] at h;cases h
     have e:cellWorth S k d=cw S (knownOf k) d:=rfl;rw[e];refine .mk d (knownOf k) fun d' hd'=>?_;obtain⟨x,hx⟩:=Option.isSome_iff_exists.mp (((hcan d).mp hd).2 d' hd');have:knownOf k d'=x:=by unfold knownOf;rw[hx];rfl
     rw[this];exact hk d' x hx
    ·rw[if_neg hd] at h;exact hk d x h
   refine zid cl f _ _ ?_ kn fun t ht=>?_
   ·obtain⟨c,hc⟩:=List.exists_mem_of_ne_nil can (fun e=>h0 (List.isEmpty_iff.mpr e));have hl:=((hcan c).mp hc).1;have lt:(left.filter fun(c:Nat)=>!can.contains c).length<left.length:=by
     rw[List.length_filter_lt_length_iff_exists];exact⟨c,hl,by simp[hc]⟩
    omega
   ·rw[zex];by_cases hc:t∈can
    ·rw[if_pos hc];exact .inr rfl
    ·rw[if_neg hc];rcases hT t ht with h | h
     ·exact .inl (List.mem_filter.mpr ⟨h,by simp[hc]⟩)
     ·exact .inr h
section
variable{S:Sheet}(hB:Bnd S){c:Nat}(hc:c<1024)
include hB hc
theorem zg9:(∀d x,(rounds S (CELLS+1) (far S (CELLS+1) [c]) []).lookup d=some x->Val S d x)/\∀x,Val S c x->((rounds S (CELLS+1) (far S (CELLS+1) [c]) []).lookup c).isSome=true:=by
 have C:=zeA hB (CELLS+1) [c] (by simp) (fun x hx=>by cases zAg hx;exact hc) (by show 1025<=1025+_;omega);have R:=zid C.cl (CELLS+1) (far S (CELLS+1) [c]) [] (Nat.lt_succ_of_le (zc1 1024 _ C.nd C.lt)) (fun d x h=>by cases h) (fun t ht=>.inl ht);exact⟨R.1,fun x hv=>R.2 c x hv (C.sub c (List.mem_singleton.mpr rfl))⟩
theorem zfg{x:Worth}(hv:Val S c x):worthOf S c=x:=by
 obtain⟨h1,h2⟩:=zg9 hB hc;obtain⟨y,hy⟩:=Option.isSome_iff_exists.mp (h2 x hv);have:worthOf S c=y:=by unfold worthOf knownOf;rw[hy];rfl
 rw[this];exact(h1 c y hy).only hv
theorem zgI(hv:∀x,¬Val S c x):worthOf S c=.error RING:=by
 obtain⟨h1,h2⟩:=zg9 hB hc;cases hy:(rounds S (CELLS+1) (far S (CELLS+1) [c]) []).lookup c with
 | none=>unfold worthOf knownOf;rw[hy];rfl
 | some y=>exact absurd (h1 c y hy) (hv y)
end
theorem zlF{S:Sheet}{c:Nat}(h:isEmpty (S c)=true):Val S c (.ok 0):=by
 cases e:S c with
 | empty =>
  have h1:=Val.mk (S:=S) c (fun _=>.ok 0) (fun d hd=>by rw[e] at hd;cases hd);have h2:cw S (fun _=>.ok 0) c=.ok 0:=by unfold cw;rw[e]
  rwa [h2] at h1
 | num z=>rw[e] at h;cases h
 | formula x=>rw[e] at h;cases h
end Rs
namespace Rs
theorem zmN{p:Int}{n k:Nat}(h:PySg07.shape p=some (n,k)):(p=1/\n=1/\k=1)\/(p=2/\n=1/\k=0)\/((p=3\/p=4\/p=5)/\n=2/\k=0):=by
 unfold PySg07.shape at h
 repeat' split at h
 all_goals first|(cases h;done)|(injection h with h;obtain⟨rfl,rfl⟩:=Prod.mk.inj h;simp_all)
theorem zl_{p:Int}{r:List Int}{c:List (List Int)}{t:List Int}(h:PyFlat.call PySg07.shape (p::r)=some (c,t)) :
  (p=1/\∃(x k:Int) (s:List Int),r=x::k::s/\0<=k/\k.toNat<=s.length/\c=[[1,x],s.take k.toNat]/\t=s.drop k.toNat)\/(p=2/\∃x,r=x::t/\c=[[2,x]])\/((p=3\/p=4\/p=5)/\∃x y,r=x::y::t/\c=[[p,x,y]]):=by
 unfold PyFlat.call at h;dsimp only at h;cases hs:PySg07.shape p with
 | none=>rw[hs] at h;cases h
 | some nk =>
  obtain⟨n,k⟩:=nk;rw[hs] at h;dsimp only at h;split at h
  ·cases h
  ·rename_i hl;rcases zmN hs with⟨rfl,rfl,rfl⟩|⟨rfl,rfl,rfl⟩|⟨hp,rfl,rfl⟩
   ·match r,hl,h with
    | [],hl,h=>exact absurd (by decide) hl
    | [x],hl,h=>simp[PyFlat.rows,PyFlat.row] at h
    | x::k::s,hl,h =>
     left
     refine⟨rfl,x,k,s,rfl,?_⟩;simp only[zCq,zEb,PyFlat.rows,PyFlat.row] at h;by_cases hk:0<=k/\k.toNat<=s.length
     ·rw[if_pos hk] at h;injection h with h;obtain⟨rfl,rfl⟩:=Prod.mk.inj h;exact⟨hk.1,hk.2,rfl,rfl⟩
     ·rw[if_neg hk] at h;cases h
   ·match r,hl,h with
    | [],hl,h=>exact absurd (by decide) hl
    | x::s,hl,h =>
     right;left
     simp only[zCq,zEb,PyFlat.rows] at h;injection h with h;obtain⟨rfl,rfl⟩:=Prod.mk.inj h;exact⟨rfl,x,rfl,rfl⟩
   ·match r,hl,h with
    | [],hl,h=>exact absurd (by decide) hl
    | [x],hl,h=>exact absurd (by simp) hl
    | x::y::s,hl,h =>
     right;right
     simp only[zCq,zEb,PyFlat.rows] at h;injection h with h;obtain⟨rfl,rfl⟩:=Prod.mk.inj h;exact⟨hp,x,y,rfl,rfl⟩
theorem zkT{f:Nat}{p:Int}{r:List Int}{cs:List (List (List Int))}(h:PyFlat.calls PySg07.shape f (p::r)=some cs):∃g c t cs',PyFlat.call PySg07.shape (p::r)=some (c,t)/\PyFlat.calls PySg07.shape g t=some cs'/\cs=c::cs':=by
 cases f with
 | zero=>cases h
 | succ f =>
  unfold PyFlat.calls at h;cases hc:PyFlat.call PySg07.shape (p::r) with
  | none=>rw[hc] at h;cases h
  | some x =>
   obtain⟨c,t⟩:=x;rw[hc] at h;dsimp only at h;cases hr:PyFlat.calls PySg07.shape f t with
   | none=>rw[hr] at h;cases h
   | some cs' =>
    rw[hr] at h;cases h
    exact⟨f,c,t,cs',rfl,hr,rfl⟩
theorem told_cons(a:List Int)(l:List (List Int)):PyFlat.told (a::l)=(a.length:Int)::a++PyFlat.told l:=by unfold PyFlat.told;rw[zCn]
end Rs
namespace Rs
open Sg07
abbrev NR1{α:Type}(x:Except Nat α):Prop:=x≠.error 1
theorem zcC{α β:Type}{x:Except Nat α}{f:α->Except Nat β}(h:NR1 x)(g:∀a,NR1 (f a)):NR1 (x.bind f):=by
 cases x with
 | error e=>exact fun z=>h (by cases z;rfl)
 | ok a=>exact g a
theorem ziU{α β:Type}{x:Except Nat α}{f:α->β}(h:NR1 x):NR1 (x.map f):=by
 cases x with
 | error e=>exact fun z=>h (by cases z;rfl)
 | ok a=>exact fun z=>by cases z
theorem zgB(z:Int):NR1 (fits z):=by unfold fits;split<;>(intro h;cases h)
theorem zoC(o:Bin)(a b:Int):NR1 (work o a b):=by
 cases o<;>unfold work<;>dsimp only<;>first | exact zgB _|(split<;>first | exact zgB _|(intro h;cases h))
theorem zoE(f:Fn)(l:List Int):NR1 (made f l):=by
 cases f<;>unfold made<;>dsimp only<;>first | exact zgB _|(intro h;cases h)
theorem zoD{w:Nat->Worth}:∀l:List Nat,(∀d∈l,NR1 (w d))->NR1 (l.mapM w):=by
 intro l h;rw[oks_mapM];induction l with
 | nil=>exact fun z=>by cases z
 | cons c r ih =>
  have h1:=h c zAo;have h2:=ih fun d hd=>h d (zAd _ hd);show NR1 (oks (w c::r.map w));cases e:w c with
  | error x=>rw[e] at h1;exact fun z=>h1 (by cases z;rfl)
  | ok z=>exact ziU h2
mutual
 theorem nr_worth{S:Sheet}{w:Nat->Worth}:∀e:Expr,(∀d∈needs e,NR1 (w d))->NR1 (worth S w e)
  | .num n,_=>by rw[worth];intro z;cases z
  | .ref r,h=>by rw[worth];exact h _ (by rw[needs];exact List.mem_singleton.mpr rfl)
  | .neg e,h=>by rw[worth];exact zcC (nr_worth e fun d hd=>h d (by rw[needs];exact hd)) fun a=>zgB _
  | .bin o a b,h=>by
   rw[worth];exact zcC (nr_worth a fun d hd=>h d (by rw[needs];exact zAj _ hd)) fun x=>zcC (nr_worth b fun d hd=>h d (by rw[needs];exact zAl _ hd)) fun y=>zoC o x y
  | .cmp o a b,h=>by
   rw[worth];exact zcC (nr_worth a fun d hd=>h d (by rw[needs];exact zAj _ hd)) fun x=>ziU (nr_worth b fun d hd=>h d (by rw[needs];exact zAl _ hd))
  | .iff c a b,h=>by
   rw[worth];refine zcC (nr_worth c fun d hd=>h d (by rw[needs];exact zAj _ hd)) fun x=>?_;split
   ·exact nr_worth a fun d hd=>h d (by rw[needs];exact zAl _ (zAj _ hd))
   ·exact nr_worth b fun d hd=>h d (by rw[needs];exact zAl _ (zAl _ hd))
  | .fn f l,h=>by rw[worth];exact zcC (nr_worths f l fun d hd=>h d (by rw[needs];exact hd)) fun l=>zoE f l
 theorem nr_worths{S:Sheet}{w:Nat->Worth}(f:Fn):∀l:List Part,(∀d∈needsAll l,NR1 (w d))->NR1 (worths S w f l)
  | [],_=>by rw[worths];intro z;cases z
  | .one e::r,h=>by
   rw[worths];exact zcC (nr_worth e fun d hd=>h d (by rw[needsAll];exact zAj _ hd)) fun a=>ziU (nr_worths f r fun d hd=>h d (by rw[needsAll];exact zAl _ hd))
  | .range a b::r,h=>by
   rw[worths];exact zcC (zoD _ fun d hd=>h d (by rw[needsAll];exact zAj _ (List.mem_filter.mp hd).1)) fun k=>ziU (nr_worths f r fun d hd=>h d (by rw[needsAll];exact zAl _ hd))
end
theorem zpD{S:Sheet}{c:Nat}{x:Worth}(h:Val S c x):NR1 x:=by
 induction h with
 | mk c w _ ih =>
  unfold cw;cases e:S c with
  | empty=>intro z;cases z
  | num z=>intro z;cases z
  | formula ex=>exact nr_worth ex fun d hd=>ih d (by rw[e];exact hd)
end Rs
namespace Rs
open Sg07
def wS(S:Sg07.Sheet)(c:Nat):Sg07.Worth:=if Sg07.isEmpty (S c)=true then .ok 0 else Sg07.worthOf S c
structure PtC(S:Sheet)(kd:Nat->Bool)(L:Nat->List Nat)(c:Nat)(r:List Nat)(o:Option Nat):Prop where
 out:c∉r
 lt:c<1024
 ne:isEmpty (S c)=false
 un:kd c=false
 nx:∀d,o=some d->d∈needsOf (S c)
 lf:∀d∈L c,d∈needsOf (S c)/\isEmpty (S d)=false
 dn:∀d∈needsOf (S c),isEmpty (S d)=false->d∈L c\/(kd d=true/\∃x,Val S d x)\/o=some d
def Pth(S:Sheet)(kd:Nat->Bool)(L:Nat->List Nat):List Nat->Option Nat->Prop
 | [],_=>True
 | c::r,o=>Pth S kd L r (some c)/\PtC S kd L c r o
def zgO(L:Nat->List Nat)(r:List Nat):Nat:=(r.map fun c=>(L c).length).sum
theorem sumL_cons(L:Nat->List Nat)(c:Nat)(r:List Nat):zgO L (c::r)=(L c).length+zgO L r:=by unfold zgO;rw[zAz,zCt]
theorem zgN{L L':Nat->List Nat}{r:List Nat}(h:∀x∈r,L' x=L x):zgO L' r=zgO L r:=by
 unfold zgO;rw[zCk fun x hx=>by rw[h x hx]]
section
variable{S:Sheet}{kd kd':Nat->Bool}{L L':Nat->List Nat}
theorem Pth.mono:∀ {r:List Nat}{o:Option Nat},Pth S kd L r o->(∀x∈r,kd' x=false)->(∀x,kd x=true->kd' x=true)->(∀x∈r,L' x=L x)->Pth S kd' L' r o
 | [],_,_,_,_,_=>trivial
 | c::r,o,⟨h,C⟩,h1,h2,h3=>⟨h.mono (fun x hx=>h1 x (zAd _ hx)) h2 fun x hx=>h3 x (zAd _ hx),
  ⟨C.out,C.lt,C.ne,h1 c zAo,C.nx,by rw[h3 c zAo];exact C.lf,fun d hd e=>by
   rw[h3 c zAo];rcases C.dn d hd e with h|⟨h,x⟩ | h
   ·exact .inl h
   ·exact .inr (.inl ⟨h2 _ h,x⟩)
   ·exact .inr (.inr h)⟩⟩
theorem Pth.un:∀ {r:List Nat}{o:Option Nat},Pth S kd L r o->∀x∈r,kd x=false/\x<1024/\isEmpty (S x)=false
 | [],_,_,_,hx=>(by cases hx)
 | c::r,o,⟨h,C⟩,x,hx=>by
  rcases zAe hx with rfl | hx
  ·exact⟨C.un,C.lt,C.ne⟩
  ·exact h.un x hx
theorem Pth.nd:∀ {r:List Nat}{o:Option Nat},Pth S kd L r o->r.Nodup
 | [],_,_=>zCj
 | c::r,o,⟨h,C⟩=>List.nodup_cons.mpr ⟨C.out,h.nd⟩
theorem Pth.up:∀ {r:List Nat}{c:Nat},Pth S kd L r (some c)->(∀x,¬Val S c x)->∀p∈r,∀x,¬Val S p x
 | [],_,_,_,_,hp=>(by cases hp)
 | d::r,c,⟨h,C⟩,hc,p,hp=>by
  have hd:=zk8 (C.nx c rfl) hc;rcases zAe hp with rfl | hp
  ·exact hd
  ·exact h.up hd p hp
theorem Pth.part:∀ {r:List Nat}{c t:Nat},Pth S kd L r (some c)->t∈r->∃Q:Nat->Prop,Q t/\(∀y,Q y->y∈r)/\∀y,Q y->∃z∈needsOf (S y),Q z\/z=c
 | [],_,_,_,ht=>(by cases ht)
 | d::r,c,t,⟨h,C⟩,ht=>by
  by_cases e:t=d
  ·subst e;exact⟨fun y=>y=t,rfl,fun y e=>(by rw[e];exact zAo),fun y e=>⟨c,by rw[e];exact C.nx c rfl,.inr rfl⟩⟩
  ·obtain⟨Q,q1,q2,q3⟩:=h.part ((zAe ht).resolve_left e);refine⟨fun y=>Q y\/y=d,.inl q1,fun y hy=>?_,fun y hy=>?_⟩
   ·rcases hy with hy | rfl
    ·exact zAd _ (q2 y hy)
    ·exact zAo
   ·rcases hy with hy | rfl
    ·obtain⟨z,hz,hq⟩:=q3 y hy;exact⟨z,hz,.inl hq⟩
    ·exact⟨c,C.nx c rfl,.inr rfl⟩
variable(hB:Bnd S)
include hB
theorem zpC{c:Nat}(hc:c<1024):(∃x,Val S c x)\/worthOf S c=.error 1:=by
 by_cases h:∃x,Val S c x
 ·exact .inl h
 ·exact .inr (zgI hB hc fun x hx=>h ⟨x,hx⟩)
theorem zp5{c:Nat}(hc:c<1024)(h:worthOf S c=.error 1)(x:Worth):¬Val S c x:=fun hv=>by
 have:=zfg hB hc hv;rw[h] at this;exact zpD hv this.symm
theorem Pth.ring{r:List Nat}{c d:Nat}(h:Pth S kd L (c::r) none)(hd:d∈needsOf (S c))(hx:(d<1024/\worthOf S d=.error 1)\/d∈c::r):∀p∈c::r,wS S p=.error 1:=by
 have nv:∀x,¬Val S c x:=by
  rcases hx with⟨hl,hx⟩ | hx
  ·exact zk8 hd (zp5 hB hl hx)
  ·by_cases e:d=c
   ·subst e;exact fun x hv=>zjB (fun y=>y=d) (fun y e=>⟨d,by rw[e];exact hd,rfl⟩) hv rfl
   ·obtain⟨Q,q1,q2,q3⟩:=h.1.part ((zAe hx).resolve_left e);refine fun x hv=>zjB (fun y=>Q y\/y=c) (fun y hy=>?_) hv (.inr rfl);rcases hy with hy | rfl
    ·exact q3 y hy
    ·exact⟨d,hd,.inl q1⟩
 intro p hp;obtain⟨_,hl,he⟩:=h.un p hp;unfold wS;rw[he];refine zgI hB hl ?_;rcases zAe hp with rfl | hp
 ·exact nv
 ·exact h.1.up nv p hp
theorem zpB{d:Nat}(hd:d<1024)(h:isEmpty (S d)=true\/∃x,Val S d x):Val S d (wS S d):=by
 unfold wS;split
 ·rename_i e;exact zlF e
 ·rename_i e;obtain⟨x,hx⟩:=h.resolve_left e;rw[zfg hB hd hx];exact hx
theorem Pth.top{r:List Nat}{c:Nat}(h:Pth S kd L (c::r) none)(hl:L c=[]):Val S c (cw S (wS S) c)/\cw S (wS S) c=wS S c/\∀d∈needsOf (S c),isEmpty (S d)=false->kd d=true:=by
 have C:=h.2;have key:∀d∈needsOf (S c),isEmpty (S d)=false->kd d=true/\∃x,Val S d x:=fun d hd e=>by
  rcases C.dn d hd e with h | h | h
  ·rw[hl] at h;cases h
  ·exact h
  ·cases h
 have v:Val S c (cw S (wS S) c):=.mk c _ fun d hd=>zpB hB (hB c d hd) (by
  cases e:isEmpty (S d) with
  | true=>exact .inl rfl
  | false=>exact .inr (key d hd e).2)
 refine⟨v,?_,fun d hd e=>(key d hd e).1⟩;have:wS S c=worthOf S c:=by unfold wS;rw[C.ne];rfl
 rw[this,zfg hB C.lt v]
omit hB in
theorem Pth.pop{r:List Nat}{c:Nat}(h:Pth S kd L (c::r) none)(hv:∃x,Val S c x)(h1:∀x,kd' x=(kd x||decide (x=c))):Pth S kd' L r none:=by
 have m:Pth S kd' L r (some c):=h.1.mono (fun x hx=>by
  rw[h1,(h.1.un x hx).1,Bool.false_or];exact zBq fun e=>h.2.out (by rw[<-e];exact hx)) (fun x hx=>by rw[h1,hx];rfl) fun x _=>rfl
 cases r with
 | nil=>trivial
 | cons a r =>
  obtain⟨m1,C⟩:=m;refine⟨m1,C.out,C.lt,C.ne,C.un,fun d e=>(by cases e),C.lf,fun d hd e=>?_⟩;rcases C.dn d hd e with h | h | h
  ·exact .inl h
  ·exact .inr (.inl h)
  ·cases h
   exact .inr (.inl ⟨by rw[h1];simp,hv⟩)
abbrev zcY(L:Nat->List Nat)(c:Nat)(l:List Nat):Nat->List Nat:=fun x=>if x=c then l else L x
omit hB in
theorem zdU{c x:Nat}{l:List Nat}(h:x≠c):zcY L c l x=L x:=if_neg h
omit hB in
theorem Pth.take{r:List Nat}{c d:Nat}{l:List Nat}{o:Option Nat}(h:Pth S kd L (c::r) none)(hl:L c=l++[d])(hd:(kd d=true/\∃x,Val S d x)\/o=some d)(ho:∀e,o=some e->e=d):Pth S kd (zcY L c l) (c::r) o:=by
 have C:=h.2;have e0:zcY L c l c=l:=if_pos rfl;refine⟨h.1.mono (fun x hx=>(h.1.un x hx).1) (fun x hx=>hx) fun x hx=>zdU fun e=>C.out (by rw[<-e];exact hx),C.out,C.lt,C.ne,C.un,fun e he=>?_,fun e he=>?_,fun e he hn=>?_⟩
 ·rw[ho e he];exact(C.lf d (by rw[hl];simp)).1
 ·rw[e0] at he;exact C.lf e (by rw[hl];exact zAj _ he)
 ·rw[e0];rcases C.dn e he hn with h | h | h
  ·rw[hl] at h;rcases zAw h with h | h
   ·exact .inl h
   ·rw[zAg h];rcases hd with hd | hd
    ·exact .inr (.inl hd)
    ·exact .inr (.inr hd)
  ·exact .inr (.inl h)
  ·cases h
omit hB in
theorem Pth.push{r:List Nat}{d:Nat}{ds:List Nat}(h:Pth S kd L r (some d))(hn:d∉r)(hl:d<1024)(he:isEmpty (S d)=false)(hk:kd d=false)(hf:∀e,e∈ds↔e∈needsOf (S d)/\isEmpty (S e)=false):Pth S kd (zcY L d ds) (d::r) none:=by
 have e0:zcY L d ds d=ds:=if_pos rfl;refine⟨h.mono (fun x hx=>(h.un x hx).1) (fun x hx=>hx) fun x hx=>zdU fun e=>hn (by rw[<-e];exact hx),hn,hl,he,hk,fun e z=>(by cases z),fun e z=>?_,fun e z1 z2=>?_⟩
 ·rw[e0] at z;exact(hf e).mp z
 ·rw[e0];exact .inl ((hf e).mpr ⟨z1,z2⟩)
end
end Rs
namespace Rs
open PySem L2
def Imm(A:Ad):HO->Prop
 | .tup _=>True
 | .frz _ _=>True
 | .ins C _ fs=>C=A.cRef\/(C=A.cFor/\fs.length=2)
 | _=>False
def Keep(A:Ad)(H H':Hp):Prop:=∀b o,H b=some o->Imm A o->H' b=some o
theorem Keep.refl(A:Ad)(H:Hp):Keep A H H:=fun _ _ h _=>h
theorem Keep.trans{A:Ad}{H H1 H2:Hp}(a:Keep A H H1)(b:Keep A H1 H2):Keep A H H2:=fun c o h i=>b c o (a c o h i) i
theorem zaC{A:Ad}{H H':Hp}(s:Same H H'):Keep A H H':=fun b o h _=>s b o h
theorem zaN{H:Hp}{p:Addr}{o:HO}(h:H p=none):Same H (upd H p o):=fun b u q=>by rw[zae (zaf q h)];exact q
theorem zbj{A:Ad}{H:Hp}{p:Addr}{o u:HO}(h:H p=some u)(n:¬Imm A u):Keep A H (upd H p o):=fun b v q i=>by
 rw[zae fun z=>by rw[z,h] at q;cases q;exact n i];exact q
def Sb(l:List Addr)(H H':Hp):Prop:=∀b o,H b=some o->b∉l->H' b=some o
theorem Sb.refl(l:List Addr)(H:Hp):Sb l H H:=fun _ _ h _=>h
theorem Sb.trans{l:List Addr}{H H1 H2:Hp}(a:Sb l H H1)(b:Sb l H1 H2):Sb l H H2:=fun c o h n=>b c o (a c o h n) n
theorem Sb.of{l:List Addr}{H H':Hp}(s:Same H H'):Sb l H H':=fun b o h _=>s b o h
theorem zaM{l:List Addr}{H:Hp}{p:Addr}{o:HO}(h:p∈l):Sb l H (upd H p o):=fun b u q n=>by rw[zae fun z=>n (by rw[z];exact h)];exact q
theorem Sb.keep{A:Ad}{l:List Addr}{H H':Hp}(s:Sb l H H')(n:∀b∈l,∀o,H b=some o->¬Imm A o):Keep A H H':=fun b o h i=>s b o h fun m=>n b m o h i
abbrev rfs(c:Int)(cf:Bool)(r:Int)(rf:Bool):List (Str×V):=[("column",.int c),("column_fixed",.bl cf),("row",.int r),("row_fixed",.bl rf)]
theorem zq_{c r:Int}{cf rf:Bool}:(rfs c cf r rf).lookup ("column" : Str)=some (.int c):=by rfl
theorem zpS{c r:Int}{cf rf:Bool}:(rfs c cf r rf).lookup ("column_fixed" : Str)=some (.bl cf):=by rfl
theorem zq9{c r:Int}{cf rf:Bool}:(rfs c cf r rf).lookup ("row" : Str)=some (.int r):=by rfl
theorem zpR{c r:Int}{cf rf:Bool}:(rfs c cf r rf).lookup ("row_fixed" : Str)=some (.bl rf):=by rfl
abbrev zra(r:Sg07.Ref):List (Str×V):=rfs r.column r.fixedColumn r.row r.fixedRow
structure RefAt(A:Ad)(H:Hp)(v:V)(r:Sg07.Ref):Prop where
 ex:∃a dx,v=.ref a/\H a=some (.ins A.cRef dx (zra r))
 row:r.row<64
 col:r.column<16
theorem RefAt.mono{A:Ad}{H H':Hp}{v:V}{r:Sg07.Ref}(x:RefAt A H v r)(k:Keep A H H'):RefAt A H' v r:=
 ⟨let ⟨a,dx,e,h⟩:=x.ex;⟨a,dx,e,k a _ h (.inl rfl)⟩,x.row,x.col⟩
section
variable{P:Program}{w:World}{H:Hp}{R:V->Prop}{K:PySem.W.Frag}{mg:Str->Option Value}{A:Ad}{p dx:Addr}{c r:Int}{cf rf:Bool}
theorem zrp(T:Txt P w K mg A)(h:H p=some (.ins A.cRef dx (rfs c cf r rf)))(q:R (.int r)):∃a C dx fs v,V.ref p=.ref a/\H a=some (.ins C dx fs)/\Cls K C/\NoAttr K C "row" /\ fs.lookup ("row" : Str)=some v/\R v:=zbh h T.clcRef T.ncRef_row zq9 q
theorem zrM(T:Txt P w K mg A)(h:H p=some (.ins A.cRef dx (rfs c cf r rf)))(q:R (.int c)):∃a C dx fs v,V.ref p=.ref a/\H a=some (.ins C dx fs)/\Cls K C/\NoAttr K C "column" /\ fs.lookup ("column" : Str)=some v/\R v:=zbh h T.clcRef T.ncRef_column zq_ q
theorem zqj(T:Txt P w K mg A)(h:H p=some (.ins A.cRef dx (rfs c cf r rf)))(q:R (.bl rf)):∃a C dx fs v,V.ref p=.ref a/\H a=some (.ins C dx fs)/\Cls K C/\NoAttr K C "row_fixed" /\ fs.lookup ("row_fixed" : Str)=some v/\R v:=zbh h T.clcRef T.ncRef_row_fixed zpR q
theorem zqy(T:Txt P w K mg A)(h:H p=some (.ins A.cRef dx (rfs c cf r rf)))(q:R (.bl cf)):∃a C dx fs v,V.ref p=.ref a/\H a=some (.ins C dx fs)/\Cls K C/\NoAttr K C "column_fixed" /\ fs.lookup ("column_fixed" : Str)=some v/\R v:=zbh h T.clcRef T.ncRef_column_fixed zpS q
end
end Rs
namespace Rs
open PySem L2
theorem zba{k:Nat}{A:Around}(r:Room k A):A.units+1<cLine:=by have:=r.un;omega
def zdm:Sg->Str
 | .r .ne => "unequal"
 | .r .le => "at most"
 | .r .ge => "at least"
 | .r .eq => "equal"
 | .r .lt => "below"
 | .r .gt => "above"
 | .b .add => "plus"
 | .b .sub => "minus"
 | .b .mul => "times"
 | .b .div => "over"
 | .b .rem => "rest"
def wv:Sg07.Worth->List V
 | .ok z=>[.int 0,.int z]
 | .error e=>[.int (e:Nat),.int 0]
def wOk:Sg07.Worth->Prop
 | .ok z=>-2 ^ 63<=z/\z<2 ^ 63
 | .error e=>0<e
structure WAt(K:PySem.W.Frag)(H:Hp)(v:V)(x:Sg07.Worth):Prop where
 ex:∃a,v=.ref a/\SqT K H a (wv x)
 ok:wOk x
theorem zgP{K:PySem.W.Frag}{H H':Hp}{a:Addr}{xs:List V}(h:SqT K H a xs)(k:∀o,H a=some o->(∃ys,o=.tup ys)\/(∃od u,o=.frz od u)->H' a=some o):SqT K H' a xs:=by
 rcases h with(h|⟨o,h⟩) | h
 ·exact .inl (.inl (k _ h (.inl ⟨_,rfl⟩)))
 ·exact .inl (.inr ⟨o,k _ h (.inr ⟨_,_,rfl⟩)⟩)
 ·exact .inr h
theorem zmI{A:Ad}{K:PySem.W.Frag}{H H':Hp}{a:Addr}{xs:List V}(h:SqT K H a xs)(k:Keep A H H'):SqT K H' a xs:=by
 refine zgP h fun o e z=>k a o e ?_;rcases z with⟨ys,rfl⟩|⟨od,u,rfl⟩<;>trivial
theorem WAt.keep{A:Ad}{K:PySem.W.Frag}{H H':Hp}{v:V}{x:Sg07.Worth}(h:WAt K H v x)(k:Keep A H H'):WAt K H' v x:=⟨let ⟨a,e,s⟩:=h.ex;⟨a,e,zmI s k⟩,h.ok⟩
theorem WAt.same{K:PySem.W.Frag}{H H':Hp}{v:V}{x:Sg07.Worth}(h:WAt K H v x)(k:Same H H'):WAt K H' v x:=⟨let ⟨a,e,s⟩:=h.ex;⟨a,e,zgP s fun o q _=>k a o q⟩,h.ok⟩
theorem zb1{K:PySem.W.Frag}{H:Hp}{p:Addr}{z:Int}(b:-2 ^ 63<=z/\z<2 ^ 63):WAt K (upd H p (.tup [.int 0,.int z])) (.ref p) (.ok z):=⟨⟨p,rfl,SqT.of upd_same⟩,b⟩
theorem zn1(l r:Int)(h:r≠0):(if (decide (l<0)=decide (r<0)) then(if l<0 then -l else l).fdiv (if r<0 then -r else r) else -((if l<0 then -l else l).fdiv (if r<0 then -r else r)))=l.tdiv r:=by
 have key:∀a b:Int,0<=a->0<b->a.fdiv b=a.tdiv b:=fun a b ha hb=>by rw[Int.fdiv_eq_ediv_of_nonneg a (by omega),Int.tdiv_eq_ediv_of_nonneg ha]
 by_cases hl:l<0
 ·by_cases hr:r<0
  ·rw[if_pos (by simp[hl,hr]),if_pos hl,if_pos hr,key _ _ (by omega) (by omega),Int.neg_tdiv,Int.tdiv_neg,Int.neg_neg]
  ·rw[if_neg (by simp[hl,hr]),if_pos hl,if_neg hr,key _ _ (by omega) (by omega),Int.neg_tdiv,Int.neg_neg]
 ·by_cases hr:r<0
  ·rw[if_neg (by simp[hl,hr]),if_neg hl,if_pos hr,key _ _ (by omega) (by omega),Int.tdiv_neg,Int.neg_neg]
  ·rw[if_pos (by simp[hl,hr]),if_neg hl,if_neg hr,key _ _ (by omega) (by omega)]
abbrev inB(z:Int):Prop:=-2 ^ 63<=z/\z<2 ^ 63
theorem zoL{z:Int}(h:inB z):(if z<0 then -z else z).natAbs.log2<9000:=by
 have h1:(if z<0 then -z else z).natAbs<2 ^ 64:=by
  obtain⟨h1,h2⟩:=h;by_cases hz:z<0
  ·rw[if_pos hz];omega
  ·rw[if_neg hz];omega
 by_cases h0:(if z<0 then -z else z).natAbs=0
 ·rw[h0];decide
 ·have:=(Nat.log2_lt h0).mpr h1;omega
theorem znu{l r:Int}(h:inB l):-2 ^ 64<l.tdiv r/\l.tdiv r<2 ^ 64:=by
 have h1:(l.tdiv r).natAbs<=l.natAbs:=by rw[Int.natAbs_tdiv];exact Nat.div_le_self _ _
 obtain⟨h2,h3⟩:=h;omega
end Rs
namespace Rs
open PySem L2
theorem zap{H:Hp}{l:Addr}(hl:H l=none)(o:HO):∃H1,H1=upd H l o/\Same H H1/\H1 l=some o:=⟨_,rfl,zaN hl,upd_same⟩
theorem zqF{H:Hp}{l:Addr}(o:HO):∃H1,H1=upd H l o/\Sb [l] H H1/\H1 l=some o:=⟨_,rfl,zaM (List.mem_singleton.mpr rfl),upd_same⟩
theorem zar{n:Nat}(h:n<=16777216):n<=sizeLine:=by rw[sizeLine_eq];exact h
theorem Same.out{H H':Hp}(s:Same H H'){l:Addr}(h:H' l=none):H l=none:=by
 cases e:H l with
 | none=>rfl
 | some o=>rw[s l o e] at h;cases h
def bl(b:Sg07.Bytes):List V:=b.map fun c=>V.int (c.toNat:Nat)
theorem bl_append(a b:Sg07.Bytes):bl (a++b)=bl a++bl b:=by unfold bl;rw[zBr]
theorem bl_length(a:Sg07.Bytes):(bl a).length=a.length:=by unfold bl;rw[zAp]
def spl(x:Str):List V:=x.cps.toList.map fun c=>V.int (c:Nat)
theorem zbU(x:Str):(spl x).length=x.cps.size:=by unfold spl;rw[zAp,Array.length_toList]
theorem zh4{s:String}(h:∀c∈s.toList,c.toNat<256):spl (Str.ofString s)=bl (Sg07.ascii s):=by
 unfold spl bl Sg07.ascii;rw[PyProof.Rows.signs_ofString,zCm,zCm];refine zCk fun c hc=>?_;have:=h c hc;show V.int (c.toNat:Nat)=V.int ((UInt8.ofNat c.toNat).toNat:Nat);rw[UInt8.toNat_ofNat_of_lt' (by simpa using this)]
theorem zhk(n:Nat):∀c∈(toString n).toList,c.toNat<256:=by
 intro c hc;have h:c∈Nat.toDigits 10 n:=by simpa[toString,Nat.repr] using hc
 have:=Nat.isDigit_of_mem_toDigits (by decide) (by decide) h;simp[Char.isDigit] at this;have h2:=this.2;have h3:c.val.toNat<=57:=by simpa using UInt32.le_iff_toNat_le.mp h2
 show c.val.toNat<256;omega
theorem zho(z:Int):∀c∈(toString z).toList,c.toNat<256:=by
 intro c hc;cases z with
 | ofNat n=>exact zhk n c hc
 | negSucc n =>
  have e:(toString (Int.negSucc n)).toList='-'::(toString (n+1)).toList:=by
   show("-" ++ toString (n+1)).toList=_;rw[String.toList_append];rfl
  rw[e] at hc;rcases zAe hc with rfl | hc
  ·decide
  ·exact zhk _ c hc
theorem spl_nat(n:Nat):spl (Str.ofString (toString (n:Int)))=bl (Sg07.decimal n):=zh4 (s:=toString (n:Int)) (zho _)
theorem spl_int(z:Int):spl (Str.ofString (toString z))=bl (Sg07.ascii (toString z)):=zh4 (zho _)
theorem zg_{n lo hi:Nat}(h1:lo<=hi)(h2:hi<n):((List.range n).filter fun r=>decide (lo<=r)&&decide (r<=hi))=(List.range (hi+1 - lo)).map (lo + ·):=by
 obtain⟨m,rfl⟩:∃m,n=lo+((hi+1 - lo)+m):=⟨n - hi - 1,by omega⟩;rw[List.range_add,List.range_add,zBr,zEe,zEe];have a1:((List.range lo).filter fun r=>decide (lo<=r)&&decide (r<=hi))=[]:=List.filter_eq_nil_iff.mpr fun x hx=>by have:=List.mem_range.mp hx;simp;omega
 have a2:(((List.range (hi+1 - lo)).map (lo + ·)).filter fun r=>decide (lo<=r)&&decide (r<=hi))=(List.range (hi+1 - lo)).map (lo + ·):=List.filter_eq_self.mpr fun x hx=>by
  obtain⟨y,hy,rfl⟩:=List.mem_map.mp hx;have:=List.mem_range.mp hy;simp;omega
 have a3:((((List.range m).map (hi+1 - lo + ·)).map (lo + ·)).filter fun r=>decide (lo<=r)&&decide (r<=hi))=[]:=List.filter_eq_nil_iff.mpr fun x hx=>by
  obtain⟨y,hy,rfl⟩:=List.mem_map.mp hx;obtain⟨z,hz,rfl⟩:=List.mem_map.mp hy;simp;omega
 rw[a1,a2,a3,zBz,zDc]
def zb7(a b:Sg07.Ref)(r:Nat):List Nat:=(List.range (max a.column b.column+1 - min a.column b.column)).map fun j=>r*16+(min a.column b.column+j)
theorem zc9{a b:Sg07.Ref}(ha:a.row<64)(hb:b.row<64)(hc:a.column<16)(hd:b.column<16):Sg07.cellsOf a b=(List.range (max a.row b.row+1 - min a.row b.row)).flatMap fun i=>zb7 a b (min a.row b.row+i):=by
 unfold Sg07.cellsOf;rw[zg_ (n:=Sg07.ROWS) (by omega) (by show _<64;omega),List.flatMap_map];refine congrArg (fun f=>List.flatMap f _) (funext fun i=>?_);rw[zg_ (n:=Sg07.COLUMNS) (by omega) (by show _<16;omega),zCm];rfl
def nl(l:List Nat):List V:=l.map fun n=>V.int (n:Nat)
theorem zbn(a b:List Nat):nl (a++b)=nl a++nl b:=by unfold nl;rw[zBr]
theorem nl_length(a:List Nat):(nl a).length=a.length:=by unfold nl;rw[zAp]
def zcI(a b:Sg07.Ref)(k:Nat):List Nat:=(List.range k).flatMap fun i=>zb7 a b (min a.row b.row+i)
theorem zfb(a b:Sg07.Ref)(k:Nat):zcI a b (k+1)=zcI a b k++zb7 a b (min a.row b.row+k):=by unfold zcI;rw[List.range_succ,zBc];simp
theorem zcH{a b:Sg07.Ref}(hc:a.column<16)(hd:b.column<16):∀k,(zcI a b k).length<=16*k
 | 0=>by simp[zcI]
 | k+1=>by
  have:=zcH hc hd k;rw[zfb,zAa];have:(zb7 a b (min a.row b.row+k)).length<=16:=by unfold zb7;rw[zAp,zEi];omega
  omega
def zg8(a b:Sg07.Ref)(r k:Nat):List Nat:=(List.range k).map fun j=>r*16+(min a.column b.column+j)
theorem rowTo_succ(a b:Sg07.Ref)(r k:Nat):zg8 a b r (k+1)=zg8 a b r k++[r*16+(min a.column b.column+k)]:=by unfold zg8;rw[List.range_succ,zBr];rfl
end Rs
namespace Rs
open PySem L2
theorem zbF{K:PySem.W.Frag}{H:Hp}:∀ns:List Int,zhN K H (ns.map V.int) (ns.map PyData.int)
 | []=>.nil
 | n::ns=>.cons (.int n) (zbF ns)
theorem ze7:∀ns ms:List Int,PyData.eqvAll (ns.map PyData.int) (ms.map PyData.int)=decide (ns=ms)
 | [],[]=>by simp[PyData.eqvAll]
 | [],_::_=>by simp[PyData.eqvAll]
 | _::_,[]=>by simp[PyData.eqvAll]
 | n::ns,m::ms=>by
  show(PyData.eqv (.int n) (.int m)&&PyData.eqvAll _ _)=_;rw[ze7 ns ms,PyData.eqv];by_cases h:n=m
  ·subst h;simp
  ·simp[h]
theorem shT(ns:List Int):SeqAt.shaped (.tuple (ns.map PyData.int))=true:=by
 simp[SeqAt.shaped,PyData.canLay0,PyData.depth,PySem.W.ke_canLayAll0,PySem.W.ke_depthAll]
section
variable{K:PySem.W.Frag}{H:Hp}{Q:VK}{a b:Addr}{ns ms:List Int}
theorem zrK(h1:SqL K H a (ns.map V.int))(h2:SqL K H b (ms.map V.int))(q:Q (.bl (decide (ns=ms))) H):zpU K (.ref a) (.ref b) H Q:=
 ⟨.list (ns.map .int),.list (ms.map .int),.lst h1 (zbF ns),.lst h2 (zbF ms),PySem.W.ke_shaped_ints ns,PySem.W.ke_shaped_ints ms,by rw[PyData.eqv,ze7];exact q⟩
theorem zrz(h1:SqL K H a (ns.map V.int))(h2:SqL K H b (ms.map V.int))(q:Q (.bl (!decide (ns=ms))) H):zrc K (.ref a) (.ref b) H Q:=
 ⟨.list (ns.map .int),.list (ms.map .int),.lst h1 (zbF ns),.lst h2 (zbF ms),PySem.W.ke_shaped_ints ns,PySem.W.ke_shaped_ints ms,by rw[PyData.eqv,ze7];exact q⟩
theorem zpr(h1:SqT K H a (ns.map V.int))(h2:SqT K H b (ms.map V.int))(q:Q (.bl (decide (ns=ms))) H):zpU K (.ref a) (.ref b) H Q:=
 ⟨.tuple (ns.map .int),.tuple (ms.map .int),.tup h1 (zbF ns),.tup h2 (zbF ms),shT ns,shT ms,by rw[PyData.eqv,ze7];exact q⟩
end
theorem zgQ{K:PySem.W.Frag}{H H':Hp}{a:Addr}{xs:List V}(h:SqL K H a xs)(k:∀o,H a=some o->H' a=some o):SqL K H' a xs:=by
 rcases h with(h|⟨o,h⟩) | h
 ·exact .inl (.inl (k _ h))
 ·exact .inl (.inr ⟨o,k _ h⟩)
 ·exact .inr h
def ib(s:Sg07.Bytes):List Int:=s.map fun c=>((c.toNat:Nat):Int)
theorem zj8(s:Sg07.Bytes):bl s=(ib s).map V.int:=by unfold bl ib;rw[zCm];rfl
theorem ib_inj{s t:Sg07.Bytes}:ib s=ib t↔s=t:=by
 refine⟨fun h=>?_,fun h=>by rw[h]⟩;unfold ib at h;refine List.map_inj_right (fun x y e=>?_) |>.mp h
 exact UInt8.toNat_inj.mp (by exact_mod_cast e)
theorem zlA(xs:List V)(p n:Nat):zeB xs (some (p:Int)) (some ((p:Int)+(n:Int)))=(xs.drop p).take n:=by
 unfold zeB;have e:((p:Int)+(n:Int))=((p+n:Nat):Int):=by omega
 rw[e,HT.sIx_nat,HT.sIx_nat];by_cases h:p<=xs.length
 ·rw[show min p xs.length=p by omega];by_cases h2:p+n<=xs.length
  ·rw[show min (p+n) xs.length - p=n by omega]
  ·rw[zBk (by rw[zBi];omega),zBk (by rw[zBi];omega)]
 ·rw[zCl (show xs.length<=p by omega),zCl (show xs.length<=min p xs.length by omega)];simp
theorem znZ(s:Sg07.Bytes)(p n:Nat):zeB (bl s) (some (p:Int)) (some ((p:Int)+(n:Int)))=bl ((s.drop p).take n):=by rw[zlA];unfold bl;rw[<-List.map_drop,<-List.map_take]
noncomputable def spL:List Sg:=[.r .ne,.r .le,.r .ge,.r .eq,.r .lt,.r .gt,.b .add,.b .sub,.b .mul,.b .div,.b .rem]
theorem zmM{A:Ad}{i:Nat}{k:Key}{v:V}(h:(zfK A)[i]?=some (k,v)):∃g,k=.inr (zdm g)/\spL[i]?=some g:=by
 have e:(zfK A).map (·.1)=spL.map fun g=>(.inr (zdm g):Key):=rfl;have h2:((zfK A).map (·.1))[i]?=some k:=by rw[zBl,h];rfl
 rw[e,zBl] at h2;obtain⟨g,hg,rfl⟩:=Option.map_eq_some_iff.mp h2;exact⟨g,rfl,hg⟩
theorem sg_ne:zbm (.r .ne)=[60,62]:=by decide +kernel
theorem sg_le:zbm (.r .le)=[60,61]:=by decide +kernel
theorem sg_ge:zbm (.r .ge)=[62,61]:=by decide +kernel
theorem sg_eq:zbm (.r .eq)=[61]:=by decide +kernel
theorem sg_lt:zbm (.r .lt)=[60]:=by decide +kernel
theorem sg_gt:zbm (.r .gt)=[62]:=by decide +kernel
theorem zq7:zbm (.b .add)=[43]/\zbm (.b .sub)=[45]/\zbm (.b .mul)=[42]/\zbm (.b .div)=[47]/\zbm (.b .rem)=[37]:=by decide +kernel
theorem zfo(s:Sg07.Bytes):zbr s=(spL.find? fun g=>(zbm g).isPrefixOf s).map fun g=>(g,(zbm g).length):=by
 obtain⟨b1,b2,b3,b4,b5⟩:=zq7;unfold spL;simp only[zCd,List.find?_nil,sg_ne,sg_le,sg_ge,sg_eq,sg_lt,sg_gt,b1,b2,b3,b4,b5];rcases s with _|⟨c,r⟩
 ·simp[zbr,List.isPrefixOf]
 ·by_cases h1:c=60
  ·subst h1;rcases r with _|⟨d,r⟩
   ·simp[zbr,List.isPrefixOf,sg_lt]
   ·by_cases h2:d=62
    ·subst h2;simp[zbr,List.isPrefixOf,sg_ne]
    ·by_cases h3:d=61
     ·subst h3;simp[zbr,List.isPrefixOf,sg_le]
     ·have e2:((62:UInt8) == d)=false:=by simp[Ne.symm h2]
      have e3:((61:UInt8) == d)=false:=by simp[Ne.symm h3]
      simp[zbr,List.isPrefixOf,sg_lt,e2,e3,h2,h3]
  ·by_cases h4:c=62
   ·subst h4;rcases r with _|⟨d,r⟩
    ·simp[zbr,List.isPrefixOf,sg_gt]
    ·by_cases h3:d=61
     ·subst h3;simp[zbr,List.isPrefixOf,sg_ge]
     ·have e3:((61:UInt8) == d)=false:=by simp[Ne.symm h3]
      simp[zbr,List.isPrefixOf,sg_gt,e3,h3]
   ·have e1:((60:UInt8) == c)=false:=by simp[Ne.symm h1]
    have e4:((62:UInt8) == c)=false:=by simp[Ne.symm h4]
    by_cases h5:c=61
    ·subst h5;simp[zbr,List.isPrefixOf,sg_eq]
    ·by_cases h6:c=43
     ·subst h6;simp[zbr,List.isPrefixOf,b1]
     ·by_cases h7:c=45
      ·subst h7;simp[zbr,List.isPrefixOf,b2]
      ·by_cases h8:c=42
       ·subst h8;simp[zbr,List.isPrefixOf,b3]
       ·by_cases h9:c=47
        ·subst h9;simp[zbr,List.isPrefixOf,b4]
        ·by_cases h10:c=37
         ·subst h10;simp[zbr,List.isPrefixOf,b5]
         ·have q:∀k:UInt8,c≠k->(k == c)=false:=fun k h=>by simp[Ne.symm h]
          simp only[List.isPrefixOf,e1,e4,q _ h5,q _ h6,q _ h7,q _ h8,q _ h9,q _ h10,Bool.false_and];unfold zbr;split<;>simp_all
end Rs
namespace Rs
open PySem L2
def Pw{α β:Type}(G:α->β->Prop)(l:List α)(r:List β):Prop:=l.length=r.length/\∀(i:Nat) a b,l[i]?=some a->r[i]?=some b->G a b
section
variable{α β:Type}{G F:α->β->Prop}{l:List α}{r:List β}
theorem Pw.mono(h:Pw G l r)(f:∀a b,G a b->F a b):Pw F l r:=⟨h.1,fun i a b x y=>f a b (h.2 i a b x y)⟩
theorem Pw.nil:Pw G [] []:=⟨rfl,fun i a b x=>by simp at x⟩
theorem Pw.at(h:Pw G l r){i:Nat}{b:β}(e:r[i]?=some b):∃a,l[i]?=some a/\G a b:=by
 obtain⟨hi,_⟩:=List.getElem?_eq_some_iff.mp e;have hl:i<l.length:=by rw[h.1];exact hi
 exact⟨l[i],zAy hl,h.2 i _ b (zAy hl) e⟩
theorem Pw.at'(h:Pw G l r){i:Nat}{a:α}(e:l[i]?=some a):∃b,r[i]?=some b/\G a b:=by
 obtain⟨hi,_⟩:=List.getElem?_eq_some_iff.mp e;have hl:i<r.length:=by rw[<-h.1];exact hi
 exact⟨r[i],zAy hl,h.2 i a _ e (zAy hl)⟩
theorem Pw.snoc(h:Pw G l r){a:α}{b:β}(g:G a b):Pw G (l++[a]) (r++[b]):=by
 refine⟨by simp[h.1],fun i x y e1 e2=>?_⟩;rcases Nat.lt_trichotomy i l.length with q | q | q
 ·rw[zBv q] at e1;rw[zBv (by rw[<-h.1];exact q)] at e2;exact h.2 i x y e1 e2
 ·subst q;rw[zCh (zAi _)] at e1;rw[h.1,zCh (zAi _)] at e2;simp at e1 e2;subst e1 e2;exact g
 ·rw[List.getElem?_eq_none (by simp;omega)] at e1;cases e1
theorem Pw.cons_inv{b:β}{r':List β}(h:Pw G l (b::r')):∃a l',l=a::l'/\G a b/\Pw G l' r':=by
 cases l with
 | nil=>cases h.1
 | cons a l'=>exact⟨a,l',rfl,h.2 0 a b rfl rfl,Nat.succ.inj h.1,fun i x y e1 e2=>h.2 (i+1) x y e1 e2⟩
theorem Pw.app{l2:List α}{r2:List β}(h:Pw G l r)(k:Pw G l2 r2):Pw G (l++l2) (r++r2):=by
 refine⟨by simp[h.1,k.1],fun i x y e1 e2=>?_⟩;by_cases q:i<l.length
 ·rw[zBv q] at e1;rw[zBv (by rw[<-h.1];exact q)] at e2;exact h.2 i x y e1 e2
 ·rw[zCh (by omega)] at e1;rw[zCh (by rw[<-h.1];omega),<-h.1] at e2;exact k.2 _ x y e1 e2
theorem Pw.take(h:Pw G l r)(n:Nat):Pw G (l.take n) (r.take n):=by
 refine⟨by simp[h.1],fun i x y e1 e2=>?_⟩;rw[List.getElem?_take] at e1 e2;split at e1
 ·rename_i q;rw[if_pos q] at e2;exact h.2 i x y e1 e2
 ·cases e1
theorem Pw.drop(h:Pw G l r)(n:Nat):Pw G (l.drop n) (r.drop n):=by
 refine⟨by simp[h.1],fun i x y e1 e2=>?_⟩;rw[List.getElem?_drop] at e1 e2;exact h.2 _ x y e1 e2
theorem Pw.snoc_inv{b:β}{r':List β}(h:Pw G l (r'++[b])):∃a l',l=l'++[a]/\G a b/\Pw G l' r':=by
 have hl:l.length=r'.length+1:=by rw[h.1];simp
 rcases zDv l with rfl|⟨l',a,rfl⟩
 ·simp at hl
 ·have hl':l'.length=r'.length:=by simpa using hl
  refine⟨a,l',by simp,?_,hl',fun i x y e1 e2=>?_⟩
  ·exact h.2 l'.length a b (by simp) (by rw[hl'];simp)
  ·obtain⟨q1,_⟩:=List.getElem?_eq_some_iff.mp e1;obtain⟨q2,_⟩:=List.getElem?_eq_some_iff.mp e2;exact h.2 i x y (by rw[zDw,zBv q1];exact e1) (by rw[zBv q2];exact e2)
end
def zqE:Sg07.Fn->Str
 | .sum => "SUM"
 | .min => "MIN"
 | .max => "MAX"
 | .count => "COUNT"
def zdn:Fu->Str
 | .iff => "IF"
 | .fn f=>zqE f
def itf(A:Ad)(H:Hp):Item->List V->Prop
 | .num n,xs=>n<10 ^ 18/\xs=[.str "number",.int (n:Nat)]
 | .ref r,xs=>∃v,RefAt A H v r/\xs=[.str "reference",v]
 | .rng a b,xs=>∃v u,RefAt A H v a/\RefAt A H u b/\xs=[.str "range",v,u]
 | .neg,xs=>xs=[.str "negation"]
 | .sgn g,xs=>xs=[.str "sign",.str (zdm g)]
 | .fu f k,xs=>xs=[.str "function",.str (zdn f),.int (k:Nat)]
structure ItemAt(A:Ad)(H:Hp)(v:V)(it:Item):Prop where
 ex:∃a xs,v=.ref a/\H a=some (.tup xs)/\itf A H it xs
theorem ItemAt.keep{A:Ad}{H H':Hp}{v:V}{it:Item}(h:ItemAt A H v it)(k:Keep A H H'):ItemAt A H' v it:=by
 obtain⟨a,xs,rfl,e,i⟩:=h.ex;refine⟨a,xs,rfl,k a _ e trivial,?_⟩;cases it with
 | num n=>exact i
 | ref r=>obtain⟨v,R,rfl⟩:=i;exact⟨v,R.mono k,rfl⟩
 | rng x y=>obtain⟨v,u,R,S,rfl⟩:=i;exact⟨v,u,R.mono k,S.mono k,rfl⟩
 | neg=>exact i
 | sgn g=>exact i
 | fu f n=>exact i
abbrev zfJ(A:Ad)(H:Hp)(xs:List V)(c:List Item):Prop:=Pw (ItemAt A H) xs c
section
variable{κ:Type}[DecidableEq κ]
theorem zdV{kvs:List (κ×V)}{k:κ}{v:V}(h:(kvs.map (·.1)).Nodup):((zbk kvs k v).map (·.1)).Nodup:=by
 unfold zbk;split
 ·have e:(kvs.map fun kv=>if kv.1=k then(kv.1,v) else kv).map (·.1)=kvs.map (·.1):=by
   rw[zCm];refine zCk fun p _=>?_;show(if p.1=k then(p.1,v) else p).1=p.1;split<;>rfl
  rw[e];exact h
 ·rename_i hn;rw[zBr];refine List.nodup_append.mpr ⟨h,by simp,fun a ha b hb=>?_⟩;have hb':b=k:=by simpa using hb
  subst hb';obtain⟨p,hp,rfl⟩:=List.mem_map.mp ha;intro e;exact hn (List.any_eq_true.mpr ⟨p,hp,zBh e⟩)
end
structure NeedOk(kvs:List (Key×V))(l:List Nat):Prop where
 sub:∀p∈kvs,∃c:Nat,p.1=.inl (c:Int)/\c∈l
 sup:∀c∈l,(zaO kvs (.inl (c:Int))).isSome=true
 len:kvs.length<=l.length
 nd:(kvs.map (·.1)).Nodup
theorem zmu{kvs:List (Key×V)}{k:Key}{v:V}(h:zaO kvs k=some v):(k,v)∈kvs:=by
 unfold zaO at h;obtain⟨p,hp,rfl⟩:=Option.map_eq_some_iff.mp h;have h1:=List.find?_some hp;have h2:=zDg hp;rw[<-zAf h1];exact h2
theorem NeedOk.has{kvs:List (Key×V)}{l:List Nat}(h:NeedOk kvs l)(c:Nat):(zaO kvs (.inl (c:Int))).isSome=decide (c∈l):=by
 rw[zCg,decide_eq_true_iff];refine⟨fun q=>?_,h.sup c⟩;obtain⟨v,hv⟩:=Option.isSome_iff_exists.mp q;obtain⟨c',e,m⟩:=h.sub _ (zmu hv);have:(c:Int)=(c':Int):=zBy e;rw[show c=c' by omega];exact m
theorem NeedOk.put{kvs:List (Key×V)}{l:List Nat}(h:NeedOk kvs l)(c:Nat)(v:V):NeedOk (zbk kvs (.inl (c:Int)) v) (l++[c]):=by
 refine⟨fun p hp=>?_,fun d hd=>?_,?_,zdV h.nd⟩
 ·unfold zbk at hp;split at hp
  ·obtain⟨p',hp',rfl⟩:=List.mem_map.mp hp;obtain⟨c',e,m⟩:=h.sub p' hp';split
   ·exact⟨c',e,zAj _ m⟩
   ·exact⟨c',e,zAj _ m⟩
  ·rcases zAw hp with hp | hp
   ·obtain⟨c',e,m⟩:=h.sub p hp;exact⟨c',e,zAj _ m⟩
   ·rw[zAg hp];exact⟨c,rfl,zAl _ (List.mem_singleton.mpr rfl)⟩
 ·rw[zeG];split
  ·rfl
  ·rename_i ne;rcases zAw hd with hd | hd
   ·exact h.sup d hd
   ·exact absurd (by rw[zAg hd]) ne
 ·have:=zcD kvs (.inl (c:Int)) v;have:=h.len;rw[zAa,zAt];omega
theorem needOk_nil:NeedOk [] []:=⟨fun p h=>(by cases h),fun c h=>(by cases h),zAi _,zCj⟩
abbrev ffs(lc d:Addr):List (Str×V):=[("code",.ref lc),("needed",.ref d)]
structure FormAt(A:Ad)(H:Hp)(v:V)(c:List Item):Prop where
 ex:∃a dx lc d xs kvs o1 o2,v=.ref a/\H a=some (.ins A.cFor dx (ffs lc d))/\H lc=some (.frz o1 (.lst xs))/\H d=some (.frz o2 (.dK kvs))/\zfJ A H xs c/\NeedOk kvs (c.flatMap zaA)
 len:c.length<=200
theorem FormAt.keep{A:Ad}{H H':Hp}{v:V}{c:List Item}(h:FormAt A H v c)(k:Keep A H H'):FormAt A H' v c:=by
 obtain⟨a,dx,lc,d,xs,kvs,o1,o2,rfl,e1,e2,e3,e4,e5⟩:=h.ex;exact⟨⟨a,dx,lc,d,xs,kvs,o1,o2,rfl,k _ _ e1 (.inr ⟨rfl,rfl⟩),k _ _ e2 trivial,k _ _ e3 trivial,e4.mono fun x y z=>z.keep k,e5⟩,h.len⟩
theorem zc4{A:Ad}{H:Hp}{v:V}{it:Item}(h:ItemAt A H v it):(zaA it).length<=1024:=by
 obtain⟨a,xs,rfl,e,i⟩:=h.ex;cases it with
 | rng x y =>
  obtain⟨v,u,R,S,rfl⟩:=i;show(Sg07.cellsOf x y).length<=1024;rw[zc9 R.row S.row R.col S.col];have:=zcH (a:=x) (b:=y) R.col S.col (max x.row y.row+1 - min x.row y.row);have h1:=R.row;have h2:=S.row;unfold zcI at this;omega
 | ref r=>show 1<=1024;decide
 | num n=>exact zAx _
 | neg=>exact zAx _
 | sgn g=>exact zAx _
 | fu f n=>exact zAx _
theorem zjT{f:Item->List Nat}{B:Nat}:∀c:List Item,(∀x∈c,(f x).length<=B)->(c.flatMap f).length<=B*c.length
 | [],_=>by simp
 | x::c,h=>by
  rw[zCn,zAa,zAb,Nat.mul_succ];have:=h x zAo;have:=zjT c fun y hy=>h y (zAd _ hy);omega
theorem zhC{A:Ad}{H:Hp}{xs:List V}{c:List Item}(h:zfJ A H xs c)(hl:c.length<=200):(c.flatMap zaA).length<=204800:=by
 have:=zjT (f:=zaA) (B:=1024) c fun x hx=>by
  obtain⟨i,hi⟩:=zEa hx;obtain⟨v,_,g⟩:=h.at hi;exact zc4 g
 omega
end Rs
namespace Rs
open PySem L2
def zqc:Item->Str
 | .num _ => "number"
 | .ref _ => "reference"
 | .rng _ _ => "range"
 | .neg => "negation"
 | .sgn _ => "sign"
 | .fu _ _ => "function"
theorem zhm{A:Ad}{H:Hp}{it:Item}{xs:List V}(h:itf A H it xs):atI xs 0=some (.str (zqc it)):=by
 cases it with
 | num n=>obtain⟨_,rfl⟩:=h;rfl
 | ref r=>obtain⟨_,_,rfl⟩:=h;rfl
 | rng x y=>obtain⟨_,_,_,_,rfl⟩:=h;rfl
 | neg=>obtain rfl:=(show xs=_ from h);rfl
 | sgn g=>obtain rfl:=(show xs=_ from h);rfl
 | fu f n=>obtain rfl:=(show xs=_ from h);rfl
abbrev rds(lt:Addr)(p:Int)(lc lp:Addr):List (Str×V):=[("text",.ref lt),("place",.int p),("code",.ref lc),("pending",.ref lp)]
def zgx:Option Fu->Str
 | none => ""
 | some f=>zdn f
def pdf(A:Ad)(H:Hp):Pd->List V->Prop
 | .neg,xs=>∃v,ItemAt A H v .neg/\xs=[.int 4,v]
 | .sgn g,xs=>∃v,ItemAt A H v (.sgn g)/\xs=[.int (tight g:Nat),v]
 | .br f k,xs=>xs=[.int 0,.str (zgx f),.int (k:Nat)]
structure PdAt(A:Ad)(H:Hp)(v:V)(pd:Pd):Prop where
 ex:∃a xs,v=.ref a/\H a=some (.tup xs)/\pdf A H pd xs
theorem PdAt.keep{A:Ad}{H H':Hp}{v:V}{pd:Pd}(h:PdAt A H v pd)(k:Keep A H H'):PdAt A H' v pd:=by
 obtain⟨a,xs,rfl,e,i⟩:=h.ex;refine⟨a,xs,rfl,k a _ e trivial,?_⟩;cases pd with
 | neg=>obtain⟨v,I,rfl⟩:=i;exact⟨v,I.keep k,rfl⟩
 | sgn g=>obtain⟨v,I,rfl⟩:=i;exact⟨v,I.keep k,rfl⟩
 | br f n=>exact i
theorem zm8{A:Ad}{H:Hp}{pd:Pd}{xs:List V}(h:pdf A H pd xs):atI xs 0=some (.int (pd.t:Nat)):=by
 cases pd with
 | neg=>obtain⟨_,_,rfl⟩:=h;rfl
 | sgn g=>obtain⟨_,_,rfl⟩:=h;rfl
 | br f n=>obtain rfl:=(show xs=_ from h);rfl
theorem zm9{A:Ad}{H:Hp}{pd:Pd}{xs:List V}(h:pdf A H pd xs)(ht:1<=pd.t):∃v,ItemAt A H v pd.item/\atI xs 1=some v:=by
 cases pd with
 | neg=>obtain⟨v,I,rfl⟩:=h;exact⟨v,I,rfl⟩
 | sgn g=>obtain⟨v,I,rfl⟩:=h;exact⟨v,I,rfl⟩
 | br f n=>exact absurd ht (by show¬1<=0;decide)
structure RdAt(A:Ad)(H:Hp)(rd dx lt lc lp:Addr)(s:Sg07.Bytes)(st:Rst):Prop where
 o:H rd=some (.ins A.cRd dx (rds lt (st.p:Nat) lc lp))
 t:H lt=some (.lst (bl s))
 c:∃cs,H lc=some (.lst cs)/\zfJ A H cs st.c
 d:∃ps,H lp=some (.lst ps)/\Pw (PdAt A H) ps st.d.reverse
 n1:lc≠lt
 n2:lp≠lt
 n3:lc≠lp
 rest:st.s=s.drop st.p
 le:st.p<=s.length
 sz:st.c.length+st.d.length<=st.p+1
 z:s.length<=127
abbrev Sz(st:Rst):Prop:=st.c.length+st.d.length<=st.p
section
variable{P:Program}{w:World}{K:PySem.W.Frag}{mg:Str->Option Value}{A:Ad}{H H':Hp}{rd dx lt lc lp:Addr}{s:Sg07.Bytes}{st:Rst}
theorem RdAt.nt(h:RdAt A H rd dx lt lc lp s st):rd≠lt:=fun z=>by have:=h.o;rw[z,h.t] at this;cases this
theorem RdAt.nc(h:RdAt A H rd dx lt lc lp s st):rd≠lc:=fun z=>by obtain⟨cs,e,_⟩:=h.c;have:=h.o;rw[z,e] at this;cases this
theorem RdAt.np(h:RdAt A H rd dx lt lc lp s st):rd≠lp:=fun z=>by obtain⟨cs,e,_⟩:=h.d;have:=h.o;rw[z,e] at this;cases this
theorem RdAt.imm(T:Txt P w K mg A)(h:RdAt A H rd dx lt lc lp s st):∀b∈[rd,lc,lp],∀o,H b=some o->¬Imm A o:=by
 intro b hb o e i;obtain⟨cs,ec,_⟩:=h.c;obtain⟨ps,ep,_⟩:=h.d;rcases zAe hb with rfl | hb
 ·rw[h.o] at e;cases e;rcases i with i | i
  ·exact T.neRd.1 i
  ·exact T.neRd.2 i.1
 ·rcases zAe hb with rfl | hb
  ·rw[ec] at e;cases e;exact i
  ·rw[zAg hb,ep] at e;cases e;exact i
theorem RdAt.keep(T:Txt P w K mg A)(h:RdAt A H rd dx lt lc lp s st)(k:Sb [rd,lc,lp] H H'):Keep A H H':=k.keep (h.imm T)
theorem RdAt.same(h:RdAt A H rd dx lt lc lp s st)(k:Same H H'):RdAt A H' rd dx lt lc lp s st:=by
 obtain⟨cs,e1,p1⟩:=h.c;obtain⟨ps,e2,p2⟩:=h.d;exact⟨k _ _ h.o,k _ _ h.t,⟨cs,k _ _ e1,p1.mono fun a b z=>z.keep (zaC k)⟩,⟨ps,k _ _ e2,p2.mono fun a b z=>z.keep (zaC k)⟩,h.n1,h.n2,h.n3,h.rest,h.le,h.sz,h.z⟩
theorem RdAt.adv(T:Txt P w K mg A)(h:RdAt A H rd dx lt lc lp s st)(n:Nat)(hn:n<=st.s.length)(q:Int)(hq:q=((st.p+n:Nat):Int)) :
  RdAt A (upd H rd (.ins A.cRd dx (rds lt q lc lp))) rd dx lt lc lp s ⟨st.p+n,st.s.drop n,st.c,st.d⟩:=by
 obtain⟨cs,e1,p1⟩:=h.c;obtain⟨ps,e2,p2⟩:=h.d;have k:=h.keep T (zaM (H:=H) (o:=.ins A.cRd dx (rds lt q lc lp)) (zAo (a:=rd) (l:=[lc,lp])));have hl:st.s.length=s.length - st.p:=by rw[h.rest,zBi]
 refine⟨by rw[upd_same,hq],by rw[zae h.nt.symm];exact h.t,⟨cs,by rw[zae h.nc.symm];exact e1,p1.mono fun a b z=>z.keep k⟩,⟨ps,by rw[zae h.np.symm];exact e2,p2.mono fun a b z=>z.keep k⟩,h.n1,h.n2,h.n3,?_,?_,?_,h.z⟩
 ·show st.s.drop n=_;rw[h.rest,zCy]
 ·have:=h.le;show st.p+n<=s.length;omega
 ·have:=h.sz;show st.c.length+st.d.length<=st.p+n+1;omega
theorem RdAt.push(T:Txt P w K mg A)(h:RdAt A H rd dx lt lc lp s st){cs:List V}(e:H lc=some (.lst cs)){v:V}{it:Item}(I:ItemAt A H v it)(hz:Sz st) :
  RdAt A (upd H lc (.lst (cs++[v]))) rd dx lt lc lp s {st with c:=st.c++[it]}:=by
 obtain⟨cs',e1,p1⟩:=h.c;obtain⟨ps,e2,p2⟩:=h.d;rw[e] at e1;cases e1;have k:=h.keep T (zaM (H:=H) (o:=.lst (cs++[v])) (show lc∈[rd,lc,lp] by simp));refine⟨by rw[zae h.nc];exact h.o,by rw[zae h.n1.symm];exact h.t,⟨_,upd_same,(p1.snoc I).mono fun a b z=>z.keep k⟩,⟨ps,by rw[zae h.n3.symm];exact e2,p2.mono fun a b z=>z.keep k⟩,h.n1,h.n2,h.n3,h.rest,h.le,?_,h.z⟩;show(st.c++[it]).length+st.d.length<=_;rw[zAa,zAt];have:st.c.length+st.d.length<=st.p:=hz;show _<=st.p+1;omega
theorem RdAt.pend(T:Txt P w K mg A)(h:RdAt A H rd dx lt lc lp s st){ps:List V}(e:H lp=some (.lst ps)){v:V}{pd:Pd}(I:PdAt A H v pd)(hz:Sz st) :
  RdAt A (upd H lp (.lst (ps++[v]))) rd dx lt lc lp s {st with d:=pd::st.d}:=by
 obtain⟨cs,e1,p1⟩:=h.c;obtain⟨ps',e2,p2⟩:=h.d;rw[e] at e2;cases e2;have k:=h.keep T (zaM (H:=H) (o:=.lst (ps++[v])) (show lp∈[rd,lc,lp] by simp));refine⟨by rw[zae h.np];exact h.o,by rw[zae h.n2.symm];exact h.t,⟨cs,by rw[zae h.n3];exact e1,p1.mono fun a b z=>z.keep k⟩,⟨_,upd_same,?_⟩,h.n1,h.n2,h.n3,h.rest,h.le,?_,h.z⟩
 ·rw[zBg];exact(p2.snoc I).mono fun a b z=>z.keep k
 ·show st.c.length+(st.d.length+1)<=st.p+1;have:st.c.length+st.d.length<=st.p:=hz;omega
theorem RdAt.top(h:RdAt A H rd dx lt lc lp s st){pd:Pd}{d:List Pd}(e:st.d=pd::d):∃ps v,H lp=some (.lst (ps++[v]))/\PdAt A H v pd/\Pw (PdAt A H) ps d.reverse:=by
 obtain⟨ps,e2,p2⟩:=h.d;rw[e,zBg] at p2;obtain⟨v,ps',rfl,g,p3⟩:=p2.snoc_inv;exact⟨ps',v,e2,g,p3⟩
theorem RdAt.empty(h:RdAt A H rd dx lt lc lp s st)(e:st.d=[]):H lp=some (.lst []):=by
 obtain⟨ps,e2,p2⟩:=h.d;have:=p2.1;rw[e] at this;rw[zBj this] at e2;exact e2
theorem RdAt.pop(T:Txt P w K mg A)(h:RdAt A H rd dx lt lc lp s st){pd:Pd}{d:List Pd}(e:st.d=pd::d){ps:List V}{v:V}(e2:H lp=some (.lst (ps++[v])))(p3:Pw (PdAt A H) ps d.reverse) :
  RdAt A (upd H lp (.lst ps)) rd dx lt lc lp s {st with d:=d}:=by
 obtain⟨cs,e1,p1⟩:=h.c;have k:=h.keep T (zaM (H:=H) (o:=.lst ps) (show lp∈[rd,lc,lp] by simp));refine⟨by rw[zae h.np];exact h.o,by rw[zae h.n2.symm];exact h.t,⟨cs,by rw[zae h.n3];exact e1,p1.mono fun a b z=>z.keep k⟩,⟨_,upd_same,p3.mono fun a b z=>z.keep k⟩,h.n1,h.n2,h.n3,h.rest,h.le,?_,h.z⟩;have:=h.sz;rw[e] at this;simp only[zAb] at this;show st.c.length+d.length<=st.p+1;omega
end
def Mis(A:Ad)(fr:List Addr)(H:Hp)(E:XK)(z:Nat):Prop:=∀H' d,Sb fr H H'->H' d=some (.xd [("place",.int (z:Nat))])->E (.ref A.cMi) (some d) H'
theorem Mis.from{A:Ad}{fr:List Addr}{H H1:Hp}{E:XK}{z:Nat}(m:Mis A fr H E z)(s:Sb fr H H1):Mis A fr H1 E z:=fun H' d s1 e=>m H' d (s.trans s1) e
theorem Mis.at{A:Ad}{fr:List Addr}{H:Hp}{E:XK}{z:Nat}(m:Mis A fr H E z):∀d,H d=none->E (.ref A.cMi) (some d) (upd H d (.xd [("place",.int (z:Nat))])):=fun d hd=>m _ d (Sb.of (zaN hd)) upd_same
section
variable{P:Program}{w:World}{K:PySem.W.Frag}{mg:Str->Option Value}{base:Heap}{A:Ad}
theorem zeP:zam ["self", "place"] ["self", "place"] (zag zcS):=⟨rfl,rfl,rfl,by decide +kernel,rfl,by decide +kernel,by decide +kernel⟩
theorem zji(T:Txt P w K mg A):∃f fd,PySem.W.nsIn K A.nMi "__init__" = some (some (.ref f))/\PySem.W.isFn K (.ref f)=true/\zdR P w K mg base CX0 1 f fd ["self", "place"] (zq5 A.cMi)/\Binds K fd ["self", "place"] []:=by
 obtain⟨f,fd,h1,h2,F,b⟩:=T.i_Misplaced.ex;refine⟨f,fd,h1,h2,F.ok zeP (fun vs H Q E h=>?_) (fun cdv A' outer s H vs Q E hr h=>?_),b⟩
 ·obtain⟨e,z,rfl,_⟩:=h;rfl
 ·obtain⟨e,z,rfl,he,q⟩:=h;refine⟨_,zac (zok (pv 0) (pv 1) rfl T.xcMi T.noPlace (by kernel_rfl)),?_⟩
  try dsimp only[zaI]
  refine zhq (v:=.int z) rfl ?_;refine zhq (v:=.ref e) rfl ?_;exact⟨e,rfl,he,q⟩
theorem za7{X:Cx}{A:Ad}{k:Nat}{E:XK}{e0:Expr}{es:List Expr}{t:TA}{np cpos pos:Pos}(T:Txt X.prog X.w X.K X.mg A)(hr:Room k X.A)(hl:XLv X E)(ha:PA X (e0::es) t)(hk:2<=k:=by decide)(hg:Gl X "Misplaced" := by rfl)(hc:X.calm=true:=by rfl)(hx:X.ex=[]:=by rfl)
  (he:starEach (e0::es) X.env=(false,eval e0 X.env)::starEach es X.env:=by rfl) (hpl:(backTo cpos (starEach es X.env)).any (·.1)=false:=by rfl) :
  PS X (.Raise (some (.Call (.Name "Misplaced" np) (e0::es) [] cpos)) none pos) (zgy A.cMi E t):=by
 obtain⟨f,fd,h1,h2,F,b⟩:=zji (base:=X.base) T;exact zlY T.xcMi h1 h2 F (hr.mono hk) b rfl hg T.gMisplaced hc hx hl ha (by decide) he hpl
theorem znw{C:Addr}{E:XK}{ta:TA}{D:zdc}{σ:St}{H:Hp}(h:ta σ H fun vs H1=>∃z,vs=[.int z]/\∀d,H1 d=none->E (.ref C) (some d) (upd H1 d (.xd [("place",.int z)]))):zgy C E ta D σ H:=h
end
section
variable{P:Program}{w:World}{K:PySem.W.Frag}{mg:Str->Option Value}{A:Ad}{H:Hp}{rd dx lt lc lp:Addr}{p q:Int}{R:V->Prop}
theorem zce:zbW "place" (.int q) (rds lt p lc lp)=rds lt q lc lp:=by rfl
theorem zrq(T:Txt P w K mg A)(h:H rd=some (.ins A.cRd dx (rds lt p lc lp)))(q:R (.ref lt)):∃a C dx fs v,V.ref rd=.ref a/\H a=some (.ins C dx fs)/\Cls K C/\NoAttr K C "text" /\ fs.lookup ("text" : Str)=some v/\R v:=zbh h T.clcRd T.ncRd_text (by rfl) q
theorem zrr(T:Txt P w K mg A)(h:H rd=some (.ins A.cRd dx (rds lt p lc lp)))(q:R (.int p)):∃a C dx fs v,V.ref rd=.ref a/\H a=some (.ins C dx fs)/\Cls K C/\NoAttr K C "place" /\ fs.lookup ("place" : Str)=some v/\R v:=zbh h T.clcRd T.ncRd_place (by rfl) q
theorem zrt(T:Txt P w K mg A)(h:H rd=some (.ins A.cRd dx (rds lt p lc lp)))(q:R (.ref lc)):∃a C dx fs v,V.ref rd=.ref a/\H a=some (.ins C dx fs)/\Cls K C/\NoAttr K C "code" /\ fs.lookup ("code" : Str)=some v/\R v:=zbh h T.clcRd T.ncRd_code (by rfl) q
theorem zrs(T:Txt P w K mg A)(h:H rd=some (.ins A.cRd dx (rds lt p lc lp)))(q:R (.ref lp)):∃a C dx fs v,V.ref rd=.ref a/\H a=some (.ins C dx fs)/\Cls K C/\NoAttr K C "pending" /\ fs.lookup ("pending" : Str)=some v/\R v:=zbh h T.clcRd T.ncRd_pending (by rfl) q
theorem zbt{fs:List (Str×V)}{R2:Addr->List (Str×V)->Prop}(h:H rd=some (.ins A.cRd dx (rds lt p lc lp)))(q:R2 dx (rds lt p lc lp)):∃dx' fs',H rd=some (.ins A.cRd dx' fs')/\fs'.length<1000/\R2 dx' fs':=⟨dx,_,h,by show 4<1000;decide,q⟩
end
def ahd:Sg07.Bytes->Int
 | []=>-1
 | c::_=>((c.toNat:Nat):Int)
end Rs
namespace Rs
open PySem L2
local macro_rules | `(tactic| walk_at "")=>`(tactic| repeat (first
 | with_reducible refine zro ?_ | with_reducible refine znz ?_ | with_reducible refine znv ?_ | with_reducible refine zqk ?_ | with_reducible refine zqt ?_ | with_reducible refine zrI ?_ | with_reducible refine zrR ?_ | with_reducible refine zgE ?_
 | ((with_reducible refine' zhq ?h ?_);(case h=>exact rfl)) | with_reducible refine i_c ?_ | with_reducible refine zsc ?_ | with_reducible refine zr8 ?_ | with_reducible refine zrv ?_ | with_reducible refine zsa ?_
 | ((with_reducible refine' zrw ?h ?_);(case h=>exact rfl))|((with_reducible refine' zru ?h ?_);(case h=>exact rfl))
 | with_reducible refine zqh ?_ | with_reducible refine zr9 ?_ | with_reducible refine zsg ?_ | with_reducible refine zrS ?_ | with_reducible refine zsb ?_ | with_reducible refine zrx ?_ | with_reducible refine zsd ?_ | with_reducible refine zrG ?_ | with_reducible refine zoU ?_
 | with_reducible refine zry ?_ | with_reducible refine zqx ?_ | with_reducible refine zrm ?_ | with_reducible refine zrB ?_ | with_reducible refine zse ?_ | with_reducible refine zrO ?_ | with_reducible refine zrA ?_ | with_reducible refine zrN ?_
 | with_reducible refine zrJ ?_ | with_reducible refine zqi ?_ | with_reducible refine zqr ?_ | with_reducible refine zql ?_ | with_reducible refine zsf ?_ | with_reducible refine zrP ?_ | with_reducible refine zr_ ?_ | with_reducible refine zqm ?_ | with_reducible refine zoM ?_ | with_reducible refine zny ?_
 | with_reducible refine znB ?_ | with_reducible refine zqp ?_ | with_reducible refine zqo ?_ | with_reducible refine zqq ?_ | with_reducible refine zoN ?_ | with_reducible refine zrC ?_ | with_reducible refine zrD ?_ | with_reducible refine zrn ?_ | with_reducible refine zoR ?_ | with_reducible refine zoQ ?_ | with_reducible refine zqu ?_ | with_reducible refine zqw ?_ | with_reducible refine zrL ?_ | with_reducible refine zqv ?_ | with_reducible refine zoT ?_ | with_reducible refine zoS ?_ | with_reducible refine zoP ?_ | with_reducible refine zrE ?_
 | with_reducible refine zpq ?_ | with_reducible refine zrF ?_ | with_reducible refine znw ?_|(with_reducible refine zrr (by assumption) (by assumption) ?_)|(with_reducible refine zrq (by assumption) (by assumption) ?_)|(with_reducible refine zrt (by assumption) (by assumption) ?_)|(with_reducible refine zrs (by assumption) (by assumption) ?_) | with_reducible refine zpt ?_ | with_reducible refine zps ?_
 | (with_reducible refine zrp (by assumption) (by assumption) ?_)|(with_reducible refine zrM (by assumption) (by assumption) ?_)|(with_reducible refine zqj (by assumption) (by assumption) ?_)|(with_reducible refine zqy (by assumption) (by assumption) ?_)))
local macro_rules | `(tactic| walk_at "on")=>`(tactic| repeat (first|(walk_at "";first|(with_reducible refine itP (by decide) ?_)|(with_reducible refine itN (by decide) ?_))|(with_reducible refine itP (by decide) ?_)|(with_reducible refine itN (by decide) ?_)))
local macro_rules | `(tactic| walk_at "sc")=>`(tactic| exact⟨rfl,rfl,rfl,by decide +kernel,rfl,by decide +kernel,by decide +kernel⟩)
section
variable{P:Program}{w:World}{K:PySem.W.Frag}{mg:Str->Option Value}{base:Heap}{A:Ad}
theorem zjv:zam ["byte"] ["byte"] (zag zg6):=⟨rfl,rfl,rfl,by decide +kernel,rfl,by decide +kernel,by decide +kernel⟩
def dig(z:Int):Bool:=decide (48<=z)&&decide (z<=57)
def zjr:Sp:=fun vs H Q _=>∃z,vs=[.int z]/\Q (.bl (dig z)) H
theorem zeD(T:Txt P w K mg A):Cal P w K mg base CX0 "is_digit" 1 ["byte"] zjr:=by
 obtain⟨f,fd,hm,F,b⟩:=T.d_is_digit.ex;refine⟨f,fd,F.ok zjv (fun vs H Q E h=>?_) (fun cdv A' outer s H vs Q E hr h=>?_),hm,F.kp,b⟩
 ·obtain⟨z,rfl,_⟩:=h;rfl
 ·obtain⟨z,rfl,q⟩:=h;refine⟨_,(zac (zai (zhf zjM zjM (zan T.gZERO) (pv 0) (zan T.gNINE)))),?_⟩;walk_at "";refine zbg (fun h1=>?_) (fun h1=>?_)
  ·walk_at "";have e:dig z=decide (z<=57):=by unfold dig;rw[h1];rfl
   rw[<-e];exact q
  ·have e:dig z=false:=by unfold dig;rw[zAm h1];rfl
   rw[<-e];exact q
theorem zks:zam ["reference"] ["reference"] (zag zic):=⟨rfl,rfl,rfl,by decide +kernel,rfl,by decide +kernel,by decide +kernel⟩
def zko(A:Ad):Sp:=fun vs H Q _=>∃v r,vs=[v]/\RefAt A H v r/\Q (.int (r.cell:Nat)) H
theorem zd0(T:Txt P w K mg A):Cal P w K mg base CX0 "cell_of" 1 ["reference"] (zko A):=by
 obtain⟨f,fd,hm,F,b⟩:=T.d_cell_of.ex;refine⟨f,fd,F.ok zks (fun vs H Q E h=>?_) (fun cdv A' outer s H vs Q E hr h=>?_),hm,F.kp,b⟩
 ·obtain⟨v,r,rfl,_⟩:=h;rfl
 ·obtain⟨v,r,rfl,R,q⟩:=h;obtain⟨a,dx,rfl,h1⟩:=R.ex;refine⟨_,(zac (zai (zaD zbf (zaD zfw (zaj (pv 0) rfl) (zan T.gCOLUMNS)) (zaj (pv 0) rfl)))),?_⟩;dsimp only[zaI];walk_at "";refine zhr (Or.inr (by decide)) ?_;walk_at "";have e:((r.cell:Nat):Int)=(r.row:Int)*16+r.column:=by unfold Sg07.Ref.cell Sg07.COLUMNS;omega
  rw[<-e];exact q
theorem zeO:zam ["self", "column", "column_fixed", "row", "row_fixed"] ["self", "column", "column_fixed", "row", "row_fixed"] (zag zcR):=⟨rfl,rfl,rfl,by decide +kernel,rfl,by decide +kernel,by decide +kernel⟩
inductive zbH(A:Ad)(vs:List V)(H:Hp)(Q:VK)(E:XK):Prop
 | mk p dx c cf r rf (_:vs=[.ref p,.int c,.bl cf,.int r,.bl rf]) (_:H p=some (.ins A.cRef dx [])) (_:Q .non (upd H p (.ins A.cRef dx (rfs c cf r rf))))
theorem zf8(T:Txt P w K mg A):CaC P w K mg base CX0 "Reference" A.cRef 1 ["self", "column", "column_fixed", "row", "row_fixed"] (zbH A):=by
 obtain⟨f,fd,M,hm,F,b⟩:=T.i_Reference.ex;refine⟨f,fd,F.ok zeO (fun vs H Q E h=>?_) (fun cdv A' outer s H vs Q E hr h=>?_),M,hm,b⟩
 ·obtain⟨p,dx,c,cf,r,rf,rfl,_⟩:=h;rfl
 ·obtain⟨p,dx,c,cf,r,rf,rfl,hp,q⟩:=h;refine⟨_,(zab (zbE (pv 0) (pv 1) rfl) (zab (zbE (pv 0) (pv 2) rfl) (zab (zbE (pv 0) (pv 3) rfl) (zac (zbE (pv 0) (pv 4) rfl))))),?_⟩;dsimp only[zaI];walk_at "";refine za_ hp T.clcRef T.ncRef_column (by decide) ?_;walk_at "";refine za_ upd_same T.clcRef T.ncRef_column_fixed (by show 1<1000;decide) ?_;walk_at "";refine za_ upd_same T.clcRef T.ncRef_row (by show 2<1000;decide) ?_;walk_at "";refine za_ upd_same T.clcRef T.ncRef_row_fixed (by show 3<1000;decide) ?_;rw[upd_upd,upd_upd,upd_upd];exact q
end
section
variable{P:Program}{w:World}{K:PySem.W.Frag}{mg:Str->Option Value}{base:Heap}{A:Ad}
def zki:Sp:=fun vs H Q _=>∃x:Str,vs=[.str x]/\x.cps.size<=sizeLine/\∀l,H l=none->Q (.ref l) (upd H l (.lst (spl x)))
theorem sc_spelled:zam ["word", "sign"] ["word"] (zag zfs):=by walk_at "sc"
theorem zcW(T:Txt P w K mg A):Cal P w K mg base CX0 "spelled" 1 ["word"] zki:=by
 refine zaV T.d_spelled sc_spelled (fun _ _ _ _ h=>?_) fun f _ A' _ s H vs Q E hr h=>?_
 ·obtain⟨x,rfl,_⟩:=h;rfl
 ·obtain⟨x,rfl,hz,q⟩:=h;refine⟨_,(zac (zai (zle rfl sc_spelled.nd (zpY (pv 0)) (zcu (N:=["word", "sign"]) (sc:=zag zfs) (own:=[("sign",1)]) (by decide +kernel)) (fun _ _ _ _ _=>(za3 (i:=1) sc_spelled.nd rfl (Or.inl rfl))) (fun _ _ _ _ _=>zgA) (fun _ _ _ _ _=>(zaF znW (by rfl) T.bord PyProof.Rows.boot_ord (zaa (pv 1) zad)))))),?_⟩
  try dsimp only[zaI]
  walk_at "";refine⟨.str x,rfl,x,rfl,fun D hD=>?_⟩;refine zp8 (fun i H'=>H'=upd H D (.lst ((spl x).take i))) (by simp) (fun i c H' hc e=>?_) (fun H' e=>?_)
  ·subst e;refine zgE ?_;refine⟨rfl,?_⟩;refine zpq ?_;refine zhY ?_;walk_at "";refine⟨_,rfl,rfl,(spl x).take i,upd_same,?_,?_⟩
   ·have h1:i<x.cps.size:=(Array.getElem?_eq_some_iff.mp hc).1;rw[zBa,zbU];omega
   ·rw[upd_upd];have e2:(spl x)[i]?=some (.int (c:Nat)):=by unfold spl;rw[zBl,Array.getElem?_toList,hc];rfl
    rw[zAu,e2];rfl
  ·subst e;rw[<-zbU,zBf];exact q D hD
def zkm:Sp:=fun vs H Q _=>∃z,vs=[.int z]/\Q (.bl (Sg07.ok z)) H
theorem zkr:zam ["number"] ["number"] (zag zia):=by walk_at "sc"
theorem zb0(T:Txt P w K mg A):Cal P w K mg base CX0 "is_cell" 1 ["number"] zkm:=by
 refine zaV T.d_is_cell zkr (fun _ _ _ _ h=>?_) fun f _ A' _ s H vs Q E hr h=>?_
 ·obtain⟨z,rfl,_⟩:=h;rfl
 ·obtain⟨z,rfl,q⟩:=h;refine⟨_,(zac (zai (zhf zjM zcd zah (pv 0) (zan T.gCELLS)))),?_⟩
  try dsimp only[zaI]
  walk_at "";refine zbg (fun h1=>?_) (fun h1=>?_)
  ·walk_at "";have e:Sg07.ok z=decide (z<1024):=by unfold Sg07.ok;rw[h1];rfl
   rw[<-e];exact q
  ·have e:Sg07.ok z=false:=by unfold Sg07.ok;rw[zAm h1];rfl
   rw[<-e];exact q
inductive zds(A:Ad)(vs:List V)(H:Hp)(Q:VK)(E:XK):Prop
 | mk p f d n (_:vs=[.int p,.bl f,.int d,.int n]) (_:(if f=true then Q (.int p) H else if 0<=p+d/\p+d<n then Q (.int (p+d)) H else E (.ref A.cOf) none H))
theorem sc_moved_along:zam ["position", "fixed", "steps", "positions", "goal"] ["position", "fixed", "steps", "positions"] (zag zee):=by walk_at "sc"
theorem zeo(T:Txt P w K mg A):Cal P w K mg base (CXE P w) "moved_along" 1 ["position", "fixed", "steps", "positions"] (zds A):=by
 refine zfc T.d_moved_along sc_moved_along (fun _ _ _ _ h=>?_) fun f _ A' _ s H vs Q E hr h=>?_
 ·obtain⟨p,f,d,n,rfl,_⟩:=h;rfl
 ·obtain⟨p,f,d,n,rfl,q⟩:=h;refine⟨_,(zab (zaw (za0 (pv 1)) (zac (zai (pv 0))) zal) (zab (zas (i:=4) sc_moved_along.nd rfl (Or.inl rfl) (zaD zbf (pv 0) (pv 2))) (zab (zaw (PW.pt (zcz (zak zcd (pv 4) zah (zao _)) (zbV (zak zna (pv 4) (pv 3) (zao _))))) (zac (zlZ T.xcOf T.noInit rfl T.gOffSheet rfl rfl zby)) zal) (zac (zai (pv 4)))))),?_⟩
  try dsimp only[zaI]
  walk_at "";refine zbg (fun h1=>?_) (fun h1=>?_)
  ·walk_at "";rw[if_pos h1] at q;exact q
  ·walk_at "";rw[if_neg h1] at q;refine zbg (fun h2=>?_) (fun h2=>?_)
   ·refine zhY ?_;have:=zAf h2;rw[if_neg (by omega)] at q;exact q
   ·walk_at "";have h3:=zAv (zAm h2);refine zbg (fun h4=>?_) (fun h4=>?_)
    ·have:=zAf h4;rw[if_neg (by omega)] at q;exact q
    ·walk_at "";have:=zAv (zAm h4);rw[if_pos (by omega)] at q;exact q
inductive zeq(A:Ad)(vs:List V)(H:Hp)(Q:VK)(E:XK):Prop
 | mk v r dc dr (_:vs=[v,.int dc,.int dr]) (_:RefAt A H v r) (_:match Sg07.move dr dc r with
 | some r'=>∀v' H',Same H H'->RefAt A H' v' r'->Q v' H'
 | none=>E (.ref A.cOf) none H)
theorem sc_moved_reference:zam ["reference", "right", "down", "column", "row"] ["reference", "right", "down"] (zag zcx):=by walk_at "sc"
theorem zbQ(T:Txt P w K mg A):Cal P w K mg base (CXE P w) "moved_reference" 3 ["reference", "right", "down"] (zeq A):=by
 refine zfc T.d_moved_reference sc_moved_reference (fun _ _ _ _ h=>?_) fun f _ A' _ s H vs Q E hr h=>?_
 ·obtain⟨v,r,dc,dr,rfl,_⟩:=h;rfl
 ·obtain⟨v,r,dc,dr,rfl,R,q⟩:=h;obtain⟨a,dx,rfl,h1⟩:=R.ex;refine⟨_,(zab (zas (i:=3) sc_moved_reference.nd rfl (Or.inl rfl) (zav (zeo T) hr za4 (zaa (zaj (pv 0) rfl) (zaa (zaj (pv 0) rfl) (zaa (pv 1) (zaa (zan T.gCOLUMNS) zad)))))) (zab (zas (i:=4) sc_moved_reference.nd rfl (Or.inl rfl) (zav (zeo T) hr za4 (zaa (zaj (pv 0) rfl) (zaa (zaj (pv 0) rfl) (zaa (pv 2) (zaa (zan T.gROWS) zad)))))) (zac (zai (zfv (zf8 T) hr zat (zaa (pv 3) (zaa (zaj (pv 0) rfl) (zaa (pv 4) (zaa (zaj (pv 0) rfl) zad))))))))),?_⟩
  try dsimp only[zaI]
  walk_at "";have em:Sg07.move dr dc r=if 0<=(if r.fixedRow=true then(r.row:Int) else r.row+dr)/\(if r.fixedRow=true then(r.row:Int) else r.row+dr)<64/\0<=(if r.fixedColumn=true then(r.column:Int) else r.column+dc)/\(if r.fixedColumn=true then(r.column:Int) else r.column+dc)<16 then
   some {r with row:=(if r.fixedRow=true then(r.row:Int) else r.row+dr).toNat,column:=(if r.fixedColumn=true then(r.column:Int) else r.column+dc).toNat} else none:=rfl
  have hrow:=R.row;have hcol:=R.col;rw[em] at q;have go:∀c:Int,(c=if r.fixedColumn=true then(r.column:Int) else r.column+dc)->0<=c->c<16->zds A [.int (r.row:Nat),.bl r.fixedRow,.int dr,.int 64] H (fun y H1=>zjl (zlK A.cRef (zbH A) E0 (za2 (zaX 3) (za2 (zcJ K (zaX 0) "column_fixed") (za2 (zaX 4) (za2 (zcJ K (zaX 0) "row_fixed") zbT))))) {nx:=fun _ H'=>Q .non H',rt:=Q} [some (.ref a),some (.int dc),some (.int dr),some (.int c),some y] H1) E:=fun c ec hc0 hc1=>by
   refine⟨_,_,_,_,rfl,?_⟩;have fin:∀rr:Int,(rr=if r.fixedRow=true then(r.row:Int) else r.row+dr)->0<=rr->rr<64->zjl (zlK A.cRef (zbH A) E0 (za2 (zaX 3) (za2 (zcJ K (zaX 0) "column_fixed") (za2 (zaX 4) (za2 (zcJ K (zaX 0) "row_fixed") zbT))))) {nx:=fun _ H'=>Q .non H',rt:=Q} [some (.ref a),some (.int dc),some (.int dr),some (.int c),some (.int rr)] H:=fun rr er hr0 hr1=>by
    rw[<-er,<-ec,if_pos ⟨hr0,hr1,hc0,hc1⟩] at q;walk_at "";intro x dx' hx hdx ne;refine⟨x,dx',_,_,_,_,rfl,upd_same,rfl,?_⟩;have e1:(rr.toNat:Int)=rr:=Int.toNat_of_nonneg hr0;have e2:(c.toNat:Int)=c:=Int.toNat_of_nonneg hc0;refine q _ _ (fun b o z=>?_) ⟨⟨x,dx',rfl,?_⟩,by show rr.toNat<64;omega,by show c.toNat<16;omega⟩
    ·rw[zae (zaf z hx),zae (zaf z hx),zae (zaf z hdx)];exact z
    ·show upd _ _ _ _=some (HO.ins A.cRef dx' (rfs (c.toNat:Int) _ (rr.toNat:Int) _));rw[e1,e2];exact upd_same
   by_cases f:r.fixedRow=true
   ·rw[if_pos f] at fin ⊢;exact fin _ rfl (by omega) (by omega)
   ·rw[if_neg f] at fin ⊢;by_cases g:0<=(r.row:Int)+dr/\(r.row:Int)+dr<64
    ·rw[if_pos g];exact fin _ rfl g.1 g.2
    ·rw[if_neg g];rw[if_neg (by rw[if_neg f];omega)] at q;exact q
  refine⟨_,_,_,_,rfl,?_⟩;by_cases f:r.fixedColumn=true
  ·rw[if_pos f] at go ⊢;walk_at "";exact go _ rfl (by omega) (by omega)
  ·rw[if_neg f] at go ⊢;by_cases g:0<=(r.column:Int)+dc/\(r.column:Int)+dc<16
   ·rw[if_pos g];walk_at "";exact go _ rfl g.1 g.2
   ·rw[if_neg g];rw[if_neg (by rw[if_neg f];omega)] at q;exact q
end
section
variable{P:Program}{w:World}{K:PySem.W.Frag}{mg:Str->Option Value}{base:Heap}{A:Ad}
local macro_rules | `(tactic| omega)=>`(tactic| first | lia | omega (config:={}))
theorem minI(a b:Nat):(if (b:Int)<a then(b:Int) else a)=((min a b:Nat):Int):=by split<;>omega
theorem maxI(a b:Nat):(if (b:Int) > a then(b:Int) else a)=((max a b:Nat):Int):=by split<;>omega
inductive zfn(A:Ad)(vs:List V)(H:Hp)(Q:VK)(E:XK):Prop
 | mk v1 v2 a b (_:vs=[v1,v2]) (_:RefAt A H v1 a) (_:RefAt A H v2 b) (_:∀l H',Same H H'->H l=none->H' l=some (.lst (nl (Sg07.cellsOf a b)))->Q (.ref l) H')
theorem sc_cells_between:zam ["first", "last", "left", "right", "top", "bottom", "cells", "row", "start", "column"] ["first", "last"] (zag zb9):=by walk_at "sc"
theorem zdk(T:Txt P w K mg A):Cal P w K mg base CX0 "cells_between" 1 ["first", "last"] (zfn A):=by
 refine zaV T.d_cells_between sc_cells_between (fun _ _ _ _ h=>?_) fun f _ A' _ s H vs Q E hr h=>?_
 ·obtain⟨v1,v2,a,b,rfl,_⟩:=h;rfl
 ·obtain⟨v1,v2,a,b,rfl,R1,R2,q⟩:=h;obtain⟨p1,dx1,rfl,h1⟩:=R1.ex;obtain⟨p2,dx2,rfl,h2⟩:=R2.ex;have a1:=R1.row;have a2:=R1.col;have b1:=R2.row;have b2:=R2.col;rw[zc9 a1 b1 a2 b2] at q;refine⟨_,(zab (zas (i:=2) sc_cells_between.nd rfl (Or.inl rfl) (zaF (zir rfl) (by rfl) T.bmin PyProof.Rows.boot_min (zaa (zaj (pv 0) rfl) (zaa (zaj (pv 1) rfl) zad)))) (zab (zas (i:=3) sc_cells_between.nd rfl (Or.inl rfl) (zaF (zcV rfl) (by rfl) T.bmax PyProof.Rows.boot_max (zaa (zaj (pv 0) rfl) (zaa (zaj (pv 1) rfl) zad)))) (zab (zas (i:=4) sc_cells_between.nd rfl (Or.inl rfl) (zaF (zir rfl) (by rfl) T.bmin PyProof.Rows.boot_min (zaa (zaj (pv 0) rfl) (zaa (zaj (pv 1) rfl) zad)))) (zab (zas (i:=5) sc_cells_between.nd rfl (Or.inl rfl) (zaF (zcV rfl) (by rfl) T.bmax PyProof.Rows.boot_max (zaa (zaj (pv 0) rfl) (zaa (zaj (pv 1) rfl) zad)))) (zab (zas (i:=6) sc_cells_between.nd rfl (Or.inl rfl) (zaJ zad)) (zab (zbX PassesOwn.never rfl (zie rfl T.brange (zaa (pv 4) (zaa (zaD zbf (pv 5) zah) zad))) (za3 (i:=7) sc_cells_between.nd rfl (Or.inl rfl)) (zab (zas (i:=8) sc_cells_between.nd rfl (Or.inr rfl) (zaD zfw (pv 7) (zan T.gCOLUMNS))) (zac (zaE (zbx zAh zCs zCr zfy (pv 6) (zaa (zle rfl sc_cells_between.nd (zie rfl T.brange (zaa (pv 2) (zaa (zaD zbf (pv 3) zah) zad))) (zcu (N:=["first", "last", "left", "right", "top", "bottom", "cells", "row", "start", "column"]) (sc:=zag zb9) (own:=[("column",9)]) (by decide +kernel)) (fun _ _ _ _ _=>(za3 (i:=9) sc_cells_between.nd rfl (Or.inl rfl))) (fun _ _ _ _ _=>zgA) (fun _ _ _ _ _=>(zaD zbf (pv 8) (pv 9)))) zad)))))) (zac (zai (pv 6))))))))),?_⟩
  try dsimp only[zaI]
  walk_at "";refine⟨_,_,rfl,?_⟩;walk_at "";refine⟨_,_,rfl,?_⟩;walk_at "";refine⟨_,_,rfl,?_⟩;walk_at "";refine⟨_,_,rfl,?_⟩;rw[minI,minI,maxI,maxI];walk_at "";refine⟨by decide,fun l hl=>?_⟩;walk_at "";refine⟨_,_,rfl,⟨by omega,by omega,by omega,by omega⟩,?_⟩;have en:(((max a.row b.row:Nat):Int)+1 - ((min a.row b.row:Nat):Int)).toNat=max a.row b.row+1 - min a.row b.row:=by omega
  rw[en];refine zma (fun i σ H'=>i<=max a.row b.row+1 - min a.row b.row/\Same H H'/\H' l=some (.lst (nl (zcI a b i)))/\∃x7 x8 x9,σ=[some (.ref p1),some (.ref p2),some (.int ((min a.column b.column:Nat):Int)),some (.int ((max a.column b.column:Nat):Int)),some (.int ((min a.row b.row:Nat):Int)),some (.int ((max a.row b.row:Nat):Int)),some (.ref l),x7,x8,x9])
   ⟨zAx _,zaN hl,upd_same,_,_,_,rfl⟩ (fun i σ H' hi hP=>?_) (fun σ H' hP=>?_)
  ·obtain⟨_,s1,hl1,x7,x8,x9,rfl⟩:=hP;walk_at "";refine zhr (Or.inr (by decide)) ?_;walk_at "";refine za1 (SqL.of hl1) ?_;walk_at "";refine⟨_,_,rfl,⟨by omega,by omega,by omega,by omega⟩,fun D hD=>?_⟩;have en2:(((max a.column b.column:Nat):Int)+1 - ((min a.column b.column:Nat):Int)).toNat=max a.column b.column+1 - min a.column b.column:=by omega
   rw[en2];have nlD:l≠D:=zaf hl1 hD;refine zno (fun j H2=>H2=upd H' D (.lst (nl (zg8 a b (min a.row b.row+i) j)))) rfl (fun j H2 hj e=>?_) (fun H2 e=>?_)
   ·subst e;walk_at "";refine⟨rfl,?_⟩;walk_at "";refine zhY ?_;walk_at "";refine⟨nl (zg8 a b (min a.row b.row+i) j),upd_same,?_,?_⟩
    ·rw[nl_length];unfold zg8;rw[zAp,zEi,sizeLine_eq];omega
    ·rw[upd_upd,rowTo_succ,zbn];have e:V.int (((min a.row b.row:Nat):Int)+(i:Nat):Int)=V.int (((min a.row b.row+i:Nat)):Int):=by rw[Int.natCast_add]
     congr 4
   ·subst e;have e1:zg8 a b (min a.row b.row+i) (max a.column b.column+1 - min a.column b.column)=zb7 a b (min a.row b.row+i):=rfl;rw[e1];have len1:=zcH (a:=a) (b:=b) a2 b2 i;have len2:(zb7 a b (min a.row b.row+i)).length<=16:=by unfold zb7;rw[zAp,zEi];omega
    walk_at "";refine znC (by rw[zae nlD];exact hl1) upd_same (by rw[nl_length,nl_length,sizeLine_eq];omega) ?_;refine⟨by omega,fun z o hz=>?_,?_,_,_,_,rfl⟩
    ·rw[zae (zaf hz hl),zae (zaf (s1 z o hz) hD)];exact s1 z o hz
    ·rw[upd_same,<-zbn,<-zfb]
  ·obtain⟨_,s1,hl1,x7,x8,x9,rfl⟩:=hP;walk_at "";exact q l H' s1 hl hl1
def ziG:Sp:=fun vs H Q _=>∃f,vs=[.bl f]/\∀l,H l=none->Q (.ref l) (upd H l (.lst (if f=true then bl [36] else[])))
theorem ziN:zam ["fixed"] ["fixed"] (zag zfQ):=by walk_at "sc"
theorem zf7(T:Txt P w K mg A):Cal P w K mg base CX0 "dollar_if" 1 ["fixed"] ziG:=by
 refine zaV T.d_dollar_if ziN (fun _ _ _ _ h=>?_) fun f _ A' _ s H vs Q E hr h=>?_
 ·obtain⟨f,rfl,_⟩:=h;rfl
 ·obtain⟨f,rfl,q⟩:=h;refine⟨_,(zac (zai (zbL (za0 (pv 0)) (zaJ (zaa (zan T.gDOLLAR) zad)) (zaJ zad)))),?_⟩
  try dsimp only[zaI]
  walk_at "";cases f
  ·refine znt ?_;walk_at "";exact⟨by decide,q⟩
  ·refine zhY ?_;walk_at "";exact⟨by decide,q⟩
theorem zh6{z:Int}(h0:0<=z)(h1:z<2 ^ 64):z.natAbs.log2<1920:=by
 by_cases h:z.natAbs=0
 ·rw[h];decide
 ·have:=(Nat.log2_lt h).mpr (show z.natAbs<2 ^ 64 by omega);omega
theorem zbu(n:Nat)(h:n<10 ^ 18):(Sg07.decimal n).length<=18:=by
 unfold Sg07.decimal Sg07.ascii;rw[zAp];have e:(toString n).toList=Nat.toDigits 10 n:=by simp[toString,Nat.repr]
 rw[e];exact(Nat.length_toDigits_le_iff (by decide) (by decide)).mpr h
theorem zlC(n:Nat)(h:n<10 ^ 18):(Str.ofString (toString (n:Int))).cps.size<=18:=by
 rw[<-zbU,spl_nat,bl_length];exact zbu n h
def zeJ(A:Ad):Sp:=fun vs H Q _=>∃v r,vs=[v]/\RefAt A H v r/\∀l H',Same H H'->H l=none->H' l=some (.lst (bl (Sg07.refText r)))->Q (.ref l) H'
theorem sc_told_reference:zam ["reference", "column", "row"] ["reference"] (zag zcO):=by walk_at "sc"
theorem zbZ(T:Txt P w K mg A):Cal P w K mg base CX0 "told_reference" 2 ["reference"] (zeJ A):=by
 refine zaV T.d_told_reference sc_told_reference (fun _ _ _ _ h=>?_) fun f _ A' _ s H vs Q E hr h=>?_
 ·obtain⟨v,r,rfl,_⟩:=h;rfl
 ·obtain⟨v,r,rfl,R,q⟩:=h;obtain⟨a,dx,rfl,h1⟩:=R.ex;have a1:=R.row;have a2:=R.col;refine⟨_,(zab (zas (i:=1) sc_told_reference.nd rfl (Or.inl rfl) (zaD zbo (zav (zf7 T) hr zat (zaa (zaj (pv 0) rfl) zad)) (zaJ (zaa (zaD zbf (zan T.gLETTER_A) (zaj (pv 0) rfl)) zad)))) (zab (zas (i:=2) sc_told_reference.nd rfl (Or.inl rfl) (zaD zbo (zav (zf7 T) hr zat (zaa (zaj (pv 0) rfl) zad)) (zav (zcW T) hr zat (zaa (zdW zda (by rfl) T.bstr PyProof.Rows.boot_str (zaa (zaD zbf (zaj (pv 0) rfl) zah) zad)) zad)))) (zac (zai (zaD zbo (pv 1) (pv 2)))))),?_⟩
  try dsimp only[zaI]
  walk_at "";refine⟨_,rfl,fun l1 hl1=>?_⟩;obtain⟨H1,e,s1,e1⟩:=zap hl1 _;rw[<-e];clear e;have h2:=s1 _ _ h1;walk_at "";refine⟨zar (by simp),fun l2 hl2=>?_⟩;obtain⟨H2,e,s2,e2⟩:=zap hl2 _;rw[<-e];clear e;refine zbO (s2 _ _ e1) e2 (zar (by split<;>simp[bl])) fun l3 hl3=>?_;obtain⟨H3,e,s3,e3⟩:=zap hl3 _;rw[<-e];clear e;have t3:=(s1.trans s2).trans s3;have h3:=t3 _ _ h1;walk_at "";refine⟨_,rfl,fun l4 hl4=>?_⟩;obtain⟨H4,e,s4,e4⟩:=zap hl4 _;rw[<-e];clear e;have h4:=s4 _ _ h3;walk_at "";refine⟨_,rfl,zh6 (by omega) (by omega),?_⟩;walk_at "";have er:((r.row:Nat):Int)+1=((r.row+1:Nat):Int):=by omega
  rw[er];have big:r.row+1<10 ^ 18:=Nat.lt_trans (show r.row+1<65 by omega) (by decide);have dl:(Sg07.decimal (r.row+1)).length<=18:=zbu _ big;refine⟨_,rfl,zar (zBp (zlC (r.row+1) big) (by decide)),fun l5 hl5=>?_⟩;rw[spl_nat];obtain⟨H5,e,s5,e5⟩:=zap hl5 _;rw[<-e];clear e;refine zbO (s5 _ _ e4) e5 (zar (by rw[bl_length];split<;>simp[bl]<;>omega)) fun l6 hl6=>?_;obtain⟨H6,e,s6,e6⟩:=zap hl6 _;rw[<-e];clear e;walk_at "";refine zbO (s6 _ _ (s5 _ _ (s4 _ _ e3))) e6 (zar (by rw[zAa,zAa,bl_length];split<;>split<;>simp[bl]<;>omega)) fun l7 hl7=>?_;obtain⟨H7,e,s7,e7⟩:=zap hl7 _;rw[<-e];clear e;have t6:=((t3.trans s4).trans s5).trans s6;refine q l7 H7 (t6.trans s7) (Same.out t6 hl7) ?_
  ·rw[e7];congr 2;unfold Sg07.refText;have ec:V.int (65+((r.column:Nat):Int))=V.int (((UInt8.ofNat (65+r.column)).toNat:Nat):Int):=by
    rw[UInt8.toNat_ofNat_of_lt' (by show 65+r.column<256;omega)];congr 1
   rw[bl_append];have e1:bl (if r.fixedColumn=true then[36] else[])=if r.fixedColumn=true then bl [36] else[]:=by split<;>rfl
   rw[e1,zAk];congr 1;show _=V.int _::bl _;rw[bl_append,<-ec];have e2:bl (if r.fixedRow=true then[36] else[])=if r.fixedRow=true then bl [36] else[]:=by split<;>rfl
   rw[e2];rfl
end
section
variable{P:Program}{w:World}{K:PySem.W.Frag}{mg:Str->Option Value}{base:Heap}{A:Ad}
def zfi(A:Ad)(K:PySem.W.Frag):Sp:=fun vs H Q _=>∃z,vs=[.int z]/\∀v H',Same H H'->WAt K H' v (Sg07.fits z)->Q v H'
theorem zfq:zam ["value"] ["value"] (zag zde):=by walk_at "sc"
theorem za5(T:Txt P w K mg A):Cal P w K mg base CX0 "within_bounds" 1 ["value"] (zfi A K):=by
 refine zaV T.d_within_bounds zfq (fun _ _ _ _ h=>?_) fun f _ A' _ s H vs Q E hr h=>?_
 ·obtain⟨z,rfl,_⟩:=h;rfl
 ·obtain⟨z,rfl,q⟩:=h;refine⟨_,(zab (zaw (PW.pt (zcz (zak zcd (pv 0) (zan T.gLEAST) (zao _)) (zbV (zak zeZ (pv 0) (zan T.gGREATEST) (zao _))))) (zac (zai (zb2 T.gTOO_FAR))) zal) (zac (zai (zaY (zaa zah (zaa (pv 0) zad)))))),?_⟩
  try dsimp only[zaI]
  walk_at "";refine zbg (fun h1=>?_) (fun h1=>?_)
  ·walk_at "";refine zhY ?_;walk_at "";have e:Sg07.fits z=.error 3:=by unfold Sg07.fits;rw[if_neg (by have:=zAf h1;omega)];rfl
   exact q _ _ (Same.refl H) (by rw[e];exact⟨⟨_,rfl,T.tFar.sq H⟩,Nat.zero_lt_succ _⟩)
  ·walk_at "";refine zbg (fun h2=>?_) (fun h2=>?_)
   ·walk_at "";have e:Sg07.fits z=.error 3:=by unfold Sg07.fits;rw[if_neg (by have:=zAf h2;omega)];rfl
    exact q _ _ (Same.refl H) (by rw[e];exact⟨⟨_,rfl,T.tFar.sq H⟩,Nat.zero_lt_succ _⟩)
   ·walk_at "";refine⟨by show 2<=sizeLine;decide,fun p hp=>?_⟩;have b:-2 ^ 63<=z/\z<2 ^ 63:=by
     have:=zAv (zAm h1);have:=zAv (zAm h2);omega
    have e:Sg07.fits z=.ok z:=by unfold Sg07.fits;rw[if_pos b]
    exact q _ _ (zaN hp) (by rw[e];exact zb1 b)
def zgb:Sp:=fun vs H Q _=>∃g,vs=[.str (zdm g)]/\∀H',Same H H'->Q (.int (tight g:Nat)) H'
theorem zgl:zam ["sign"] ["sign"] (zag zdx):=by walk_at "sc"
theorem zdP(T:Txt P w K mg A):Cal P w K mg base CX0 "tightness_of" 1 ["sign"] zgb:=by
 refine zaV T.d_tightness_of zgl (fun _ _ _ _ h=>?_) fun f _ A' _ s H vs Q E hr h=>?_
 ·obtain⟨g,rfl,_⟩:=h;rfl
 ·obtain⟨g,rfl,q⟩:=h;refine⟨_,(zab (zaw (zak zif (pv 0) (zaY (zaa zaB (zaa zaB (zaa zaB zad)))) (by with_unfolding_all rfl)) (zac (zai (zan T.gPRODUCT))) zal) (zab (zaw (zak zif (pv 0) (zaY (zaa zaB (zaa zaB zad))) (by with_unfolding_all rfl)) (zac (zai (zan T.gADDITION))) zal) (zac (zai (zan T.gCOMPARISON))))),?_⟩
  try dsimp only[zaI]
  walk_at "";refine⟨by show 3<=sizeLine;decide,fun p hp=>?_⟩;refine znx (.inr (SqT.of upd_same)) rfl rfl ?_;walk_at "";have s1:=zaN (o:=.tup [.str "times",.str "over",.str "rest"]) hp;refine zbg (fun h1=>?_) (fun h1=>?_)
  ·walk_at "";have e:tight g=3:=by revert h1;rcases g with g | g<;>cases g<;>first|(intro _;rfl)|(intro h;exact absurd h (by decide))
   have:=q _ s1;rw[e] at this;exact this
  ·walk_at "";refine⟨by show 2<=sizeLine;decide,fun p2 hp2=>?_⟩;refine znx (.inr (SqT.of upd_same)) rfl rfl ?_;walk_at "";have s2:=s1.trans (zaN (o:=.tup [.str "plus",.str "minus"]) hp2);refine zbg (fun h2=>?_) (fun h2=>?_)
   ·walk_at "";have e:tight g=2:=by revert h1 h2;rcases g with g | g<;>cases g<;>first|(intro _ _;rfl)|(intro h1 h2;exact absurd h2 (by decide))|(intro h1 h2;exact absurd (by decide) h1)
    have:=q _ s2;rw[e] at this;exact this
   ·walk_at "";have e:tight g=1:=by revert h1 h2;rcases g with g | g<;>cases g<;>first|(intro _ _;rfl)|(intro h1 h2;exact absurd (by decide) h2)|(intro h1 h2;exact absurd (by decide) h1)
    have:=q _ s2;rw[e] at this;exact this
def zgi:Sp:=fun vs H Q _=>∃l r,vs=[.int l,.int r]/\r≠0/\inB r/\Q (.int (l.tdiv r)) H
theorem sc_cut_quotient:zam ["left", "right", "quotient"] ["left", "right"] (zag zdE):=by walk_at "sc"
theorem zhL(T:Txt P w K mg A):Cal P w K mg base CX0 "cut_quotient" 1 ["left", "right"] zgi:=by
 refine zaV T.d_cut_quotient sc_cut_quotient (fun _ _ _ _ h=>?_) fun f _ A' _ s H vs Q E hr h=>?_
 ·obtain⟨l,r,rfl,_⟩:=h;rfl
 ·obtain⟨l,r,rfl,h0,hb,q⟩:=h;refine⟨_,(zab (zas (i:=2) sc_cut_quotient.nd rfl (Or.inl rfl) (zaD znb (zaF zj1 (by rfl) T.babs PyProof.Rows.boot_abs (zaa (pv 0) zad)) (zaF zj1 (by rfl) T.babs PyProof.Rows.boot_abs (zaa (pv 1) zad)))) (zac (zai (zbL (zak zaK (zcg zcd (pv 0) zah (zao _)) (zcg zcd (pv 1) zah (zao _)) (zao _)) (pv 2) (zcc zbz (pv 2)))))),?_⟩
  try dsimp only[zaI]
  walk_at "";refine⟨l,rfl,?_⟩;walk_at "";refine⟨r,rfl,?_⟩;refine zhr ⟨by split<;>omega,zoL hb⟩ ?_;walk_at "";have e:=zn1 l r h0;refine zbg (fun h1=>?_) (fun h1=>?_)
  ·walk_at "";have h2:decide (l<0)=decide (r<0):=by injection zAf h1
   rw[if_pos h2] at e;rw[e];exact q
  ·walk_at "";have h2:¬(decide (l<0)=decide (r<0)):=fun z=>h1 (by rw[z];exact zBh rfl);rw[if_neg h2] at e;rw[e];exact q
def zkn(K:PySem.W.Frag):Sp:=fun vs H Q _=>∃o l r,vs=[.str (zdm (.b o)),.int l,.int r]/\(o=.div\/o=.rem)/\inB l/\inB r/\∀v H',Same H H'->WAt K H' v (Sg07.work o l r)->Q v H'
theorem sc_divided:zam ["sign", "left", "right", "quotient"] ["sign", "left", "right"] (zag zib):=by walk_at "sc"
theorem zmi(T:Txt P w K mg A):Cal P w K mg base CX0 "divided" 2 ["sign", "left", "right"] (zkn K):=by
 refine zaV T.d_divided sc_divided (fun _ _ _ _ h=>?_) fun f _ A' _ s H vs Q E hr h=>?_
 ·obtain⟨o,l,r,rfl,_⟩:=h;rfl
 ·obtain⟨o,l,r,rfl,ho,hl,hb,q⟩:=h;refine⟨_,(zab (zaw (zak zaK (pv 2) zah (zao _)) (zac (zai (zb2 T.gBY_ZERO))) zal) (zab (zas (i:=3) sc_divided.nd rfl (Or.inl rfl) (zav (zhL T) hr zat (zaa (pv 1) (zaa (pv 2) zad)))) (zab (zaw (zak zaK (pv 0) zaB (zao _)) (zac (zai (zav (za5 T) hr zat (zaa (pv 3) zad)))) zal) (zac (zai (zav (za5 T) hr zat (zaa (zaD zca (pv 1) (zaD zfw (pv 2) (pv 3))) zad))))))),?_⟩
  try dsimp only[zaI]
  walk_at "";refine zbg (fun h1=>?_) (fun h1=>?_)
  ·walk_at "";obtain rfl:r=0:=by injection zAf h1
   refine q _ _ (Same.refl H) ?_;rcases ho with rfl | rfl<;>exact⟨⟨_,rfl,T.tZero.sq H⟩,Nat.zero_lt_succ _⟩
  ·walk_at "";have h0:r≠0:=fun z=>h1 (by rw[z];rfl);refine⟨l,r,rfl,h0,hb,?_⟩;walk_at "";rcases ho with rfl | rfl
   ·walk_at "on";walk_at "";refine⟨_,rfl,fun v H' s1 w=>?_⟩;refine q v H' s1 ?_;show WAt K H' v (if r=0 then _ else _);rw[if_neg h0];exact w
   ·walk_at "on";walk_at "";refine zhr (Or.inr (znu hl)) ?_;walk_at "";refine⟨_,rfl,fun v H' s1 w=>?_⟩;refine q v H' s1 ?_;show WAt K H' v (if r=0 then _ else _);rw[if_neg h0,Int.tmod_def];exact w
def zmJ:Sp:=fun vs H Q _=>∃o l r,vs=[.str (zdm (.r o)),.int l,.int r]/\Q (.bl (Sg07.holds o l r)) H
theorem zmU:zam ["sign", "left", "right"] ["sign", "left", "right"] (zag zk5):=by walk_at "sc"
theorem zo6(T:Txt P w K mg A):Cal P w K mg base CX0 "holds" 1 ["sign", "left", "right"] zmJ:=by
 refine zaV T.d_holds zmU (fun _ _ _ _ h=>?_) fun f _ A' _ s H vs Q E hr h=>?_
 ·obtain⟨o,l,r,rfl,_⟩:=h;rfl
 ·obtain⟨o,l,r,rfl,q⟩:=h;refine⟨_,(zab (zaw (zak zaK (pv 0) zaB (zao _)) (zac (zai (zcg zaK (pv 1) (pv 2) (zao _)))) zal) (zab (zaw (zak zaK (pv 0) zaB (zao _)) (zac (zai (zcg zei (pv 1) (pv 2) (zao _)))) zal) (zab (zaw (zak zaK (pv 0) zaB (zao _)) (zac (zai (zcg zcd (pv 1) (pv 2) (zao _)))) zal) (zab (zaw (zak zaK (pv 0) zaB (zao _)) (zac (zai (zcg zjM (pv 1) (pv 2) (zao _)))) zal) (zab (zaw (zak zaK (pv 0) zaB (zao _)) (zac (zai (zcg zeZ (pv 1) (pv 2) (zao _)))) zal) (zac (zai (zcg zna (pv 1) (pv 2) (zao _))))))))),?_⟩
  try dsimp only[zaI]
  cases o<;>walk_at "on" <;> walk_at ""
  ·have e:decide (V.int l=V.int r)=Sg07.holds .eq l r:=by show _=decide (l=r);rw[decide_eq_decide];exact⟨fun h=>by injection h,fun h=>by rw[h]⟩
   rw[e];exact q
  ·have e:(!decide (V.int l=V.int r))=Sg07.holds .ne l r:=by
    show _=decide (l≠r);by_cases h:l=r
    ·simp[h]
    ·have:¬V.int l=V.int r:=fun z=>h (by injection z);simp[h,this]
   rw[e];exact q
  ·exact q
  ·exact q
  ·exact q
  ·exact q
def zfl(K:PySem.W.Frag):Sp:=fun vs H Q _=>∃g l r,vs=[.str (zdm g),.int l,.int r]/\inB l/\inB r/\∀v H',Same H H'->WAt K H' v (zij g (.ok l) (.ok r))->Q v H'
theorem zfr:zam ["sign", "left", "right"] ["sign", "left", "right"] (zag zdg):=by walk_at "sc"
theorem zgw(T:Txt P w K mg A):Cal P w K mg base CX0 "joined_values" 3 ["sign", "left", "right"] (zfl K):=by
 refine zaV T.d_joined_values zfr (fun _ _ _ _ h=>?_) fun f _ A' _ s H vs Q E hr h=>?_
 ·obtain⟨g,l,r,rfl,_⟩:=h;rfl
 ·obtain⟨g,l,r,rfl,hl,hb,q⟩:=h;refine⟨_,(zab (zaw (zak zaK (pv 0) zaB (zao _)) (zac (zai (zav (za5 T) hr zat (zaa (zaD zbf (pv 1) (pv 2)) zad)))) zal) (zab (zaw (zak zaK (pv 0) zaB (zao _)) (zac (zai (zav (za5 T) hr zat (zaa (zaD zca (pv 1) (pv 2)) zad)))) zal) (zab (zaw (zak zaK (pv 0) zaB (zao _)) (zac (zai (zav (za5 T) hr zat (zaa (zaD zfw (pv 1) (pv 2)) zad)))) zal) (zab (zaw (PW.pt (zcz (zak zaK (pv 0) zaB (zao _)) (zbV (zak zaK (pv 0) zaB (zao _))))) (zac (zai (zav (zmi T) hr zat (zaa (pv 0) (zaa (pv 1) (zaa (pv 2) zad)))))) zal) (zac (zai (zaY (zaa zah (zaa (zbL (za0 (zav (zo6 T) hr zat (zaa (pv 0) (zaa (pv 1) (zaa (pv 2) zad))))) zah zah) zad))))))))),?_⟩
  try dsimp only[zaI]
  rcases g with o | o
  ·cases o<;>walk_at "on" <;> walk_at ""
   ·exact⟨_,rfl,fun v H' s1 w=>q v H' s1 w⟩
   ·exact⟨_,rfl,fun v H' s1 w=>q v H' s1 w⟩
   ·refine zhr (Or.inl ⟨by have:=hl.1;omega,by have:=hl.2;omega⟩) ?_;walk_at "";exact⟨_,rfl,fun v H' s1 w=>q v H' s1 w⟩
   ·exact⟨.div,_,_,rfl,.inl rfl,hl,hb,fun v H' s1 w=>q v H' s1 w⟩
   ·exact⟨.rem,_,_,rfl,.inr rfl,hl,hb,fun v H' s1 w=>q v H' s1 w⟩
  ·have fin:∀k:Bool,k=Sg07.holds o l r->if k=true then(2<=sizeLine/\∀p,H p=none->Q (.ref p) (upd H p (.tup [.int 0,.int 1]))) else(2<=sizeLine/\∀p,H p=none->Q (.ref p) (upd H p (.tup [.int 0,.int 0]))):=fun k e=>by
    cases k with
    | true =>
     refine zhY ⟨by decide,fun p hp=>q _ _ (zaN hp) ?_⟩;show WAt K _ _ (.ok (if Sg07.holds o l r=true then 1 else 0));rw[<-e,if_pos rfl];exact zb1 (by decide)
    | false =>
     refine znt ⟨by decide,fun p hp=>q _ _ (zaN hp) ?_⟩;show WAt K _ _ (.ok (if Sg07.holds o l r=true then 1 else 0));rw[<-e,if_neg zAc];exact zb1 (by decide)
   cases o<;>walk_at "on" <;> walk_at ""
   all_goals exact⟨_,_,_,rfl,_,rfl,fin _ rfl⟩
end
section
variable{P:Program}{w:World}{K:PySem.W.Frag}{mg:Str->Option Value}{base:Heap}{A:Ad}
theorem zfD{e:Nat}(h:0<e):(!decide (V.int (e:Nat)=V.int 0))=true:=by
 have:¬V.int (e:Nat)=V.int 0:=fun z=>by injection z with z;omega
 simp[this]
inductive zlP(K:PySem.W.Frag)(vs:List V)(H:Hp)(Q:VK)(E:XK):Prop
 | mk g v1 v2 x y (_:vs=[.str (zdm g),v1,v2]) (_:WAt K H v1 x) (_:WAt K H v2 y) (_:∀v H',Same H H'->WAt K H' v (zij g x y)->Q v H')
theorem zlS:zam ["sign", "left", "right"] ["sign", "left", "right"] (zag zjx):=by walk_at "sc"
theorem znX(T:Txt P w K mg A):Cal P w K mg base CX0 "joined" 4 ["sign", "left", "right"] (zlP K):=by
 refine zaV T.d_joined zlS (fun _ _ _ _ h=>?_) fun f _ A' _ s H vs Q E hr h=>?_
 ·obtain⟨g,v1,v2,x,y,rfl,_⟩:=h;rfl
 ·obtain⟨g,v1,v2,x,y,rfl,W1,W2,q⟩:=h;obtain⟨a1,rfl,h1⟩:=W1.ex;obtain⟨a2,rfl,h2⟩:=W2.ex;refine⟨_,(zab (zaw (zak zei (zau zax (pv 1) zah (fun _ _=>rfl)) zah (zao _)) (zac (zai (pv 1))) zal) (zab (zaw (zak zei (zau zax (pv 2) zah (fun _ _=>rfl)) zah (zao _)) (zac (zai (pv 2))) zal) (zac (zai (zav (zgw T) hr zat (zaa (pv 0) (zaa (zau zax (pv 1) zah (fun _ _=>rfl)) (zaa (zau zax (pv 2) zah (fun _ _=>rfl)) zad)))))))),?_⟩
  try dsimp only[zaI]
  walk_at "";cases x with
  | error e =>
   refine zaq h1 rfl ?_;walk_at "";refine itP (zfD W1.ok) ?_;walk_at "";exact q _ _ (Same.refl H) W1
  | ok l =>
   refine zaq h1 rfl ?_;walk_at "on";walk_at "";cases y with
   | error e =>
    refine zaq h2 rfl ?_;walk_at "";refine itP (zfD W2.ok) ?_;walk_at "";exact q _ _ (Same.refl H) W2
   | ok r =>
    refine zaq h2 rfl ?_;walk_at "on";walk_at "";refine zaq h1 rfl ?_;walk_at "";refine zaq h2 rfl ?_;walk_at "";exact⟨g,l,r,rfl,W1.ok,W2.ok,q⟩
def zkl(K:PySem.W.Frag):Sp:=fun vs H Q _=>∃v1 x,vs=[v1]/\WAt K H v1 x/\∀v H',Same H H'->WAt K H' v (x.bind fun z=>Sg07.fits (-z))->Q v H'
theorem zkq:zam ["worth"] ["worth"] (zag zh_):=by walk_at "sc"
theorem zmh(T:Txt P w K mg A):Cal P w K mg base CX0 "negated" 2 ["worth"] (zkl K):=by
 refine zaV T.d_negated zkq (fun _ _ _ _ h=>?_) fun f _ A' _ s H vs Q E hr h=>?_
 ·obtain⟨v1,x,rfl,_⟩:=h;rfl
 ·obtain⟨v1,x,rfl,W1,q⟩:=h;obtain⟨a1,rfl,h1⟩:=W1.ex;refine⟨_,(zab (zaw (zak zei (zau zax (pv 0) zah (fun _ _=>rfl)) zah (zao _)) (zac (zai (pv 0))) zal) (zac (zai (zav (za5 T) hr zat (zaa (zcc zbz (zau zax (pv 0) zah (fun _ _=>rfl))) zad))))),?_⟩
  try dsimp only[zaI]
  walk_at "";cases x with
  | error e =>
   refine zaq h1 rfl ?_;walk_at "";refine itP (zfD W1.ok) ?_;walk_at "";exact q _ _ (Same.refl H) W1
  | ok l =>
   refine zaq h1 rfl ?_;walk_at "on";walk_at "";refine zaq h1 rfl ?_;walk_at "";exact⟨_,rfl,q⟩
def zdq:Sp:=fun vs H Q _=>∃g,vs=[.str (zdm g)]/\∀l H',Same H H'->H l=none->H' l=some (.lst (bl (zbm g)))->Q (.ref l) H'
theorem zg0:zam ["sign"] ["sign"] (zag zd_):=by walk_at "sc"
theorem zcL(T:Txt P w K mg A):Cal P w K mg base CX0 "spelling_of" 1 ["sign"] zdq:=by
 refine zaV T.d_spelling_of zg0 (fun _ _ _ _ h=>?_) fun f _ A' _ s H vs Q E hr h=>?_
 ·obtain⟨g,rfl,_⟩:=h;rfl
 ·obtain⟨g,rfl,q⟩:=h;refine⟨_,(zac (zai (zdW zja (by rfl) T.blist PyProof.Rows.boot_list (zaa (zm5 T.dSp T.gSPELLINGS (pv 0) (fun _ _=>rfl)) zad)))),?_⟩
  try dsimp only[zaI]
  walk_at "";have fin:∀i bs,KTup K (A.tSp i) (bl bs)->zbm g=bs->zaO (zfK A) (.inr (zdm g))=some (.ref (A.tSp i))->∃k v,V.str (zdm g)=kV k/\zaO (zfK A) k=some v/\∃p ys,[v]=[.ref p]/\(SqL K H p ys\/SqT K H p ys)/\∀l,H l=none->Q (.ref l) (upd H l (.lst ys)):=fun i bs kt e hv =>
   ⟨_,_,rfl,hv,_,_,rfl,.inr (kt.sq H),fun l hl=>q l _ (zaN hl) hl (by rw[upd_same,e])⟩
  rcases g with o | o<;>cases o
  ·exact fin 6 [43] T.tSp6 rfl rfl
  ·exact fin 7 [45] T.tSp7 rfl rfl
  ·exact fin 8 [42] T.tSp8 rfl rfl
  ·exact fin 9 [47] T.tSp9 rfl rfl
  ·exact fin 10 [37] T.tSp10 rfl rfl
  ·exact fin 3 [61] T.tSp3 (by decide +kernel) rfl
  ·exact fin 0 [60,62] T.tSp0 (by decide +kernel) rfl
  ·exact fin 4 [60] T.tSp4 (by decide +kernel) rfl
  ·exact fin 1 [60,61] T.tSp1 (by decide +kernel) rfl
  ·exact fin 5 [62] T.tSp5 (by decide +kernel) rfl
  ·exact fin 2 [62,61] T.tSp2 (by decide +kernel) rfl
end
section
variable{P:Program}{w:World}{K:PySem.W.Frag}{mg:Str->Option Value}{base:Heap}{A:Ad}
def zkj(K:PySem.W.Frag):Sp:=fun vs H Q _=>∃t s p,vs=[.ref t,.int ((p:Nat):Int)]/\SqL K H t (bl s)/\∀H',Same H H'->Q (match zbr (s.drop p) with | some (g,_)=>.str (zdm g) | none=>.non) H'
theorem sc_sign_at:zam ["text", "place", "sign", "spelling"] ["text", "place"] (zag zh9):=by walk_at "sc"
theorem zmg(T:Txt P w K mg A):Cal P w K mg base CX0 "sign_at" 2 ["text", "place"] (zkj K):=by
 refine zaV T.d_sign_at sc_sign_at (fun _ _ _ _ h=>?_) fun f _ A' _ s H vs Q E hr h=>?_
 ·obtain⟨t,s,p,rfl,_⟩:=h;rfl
 ·obtain⟨t,tx,p,rfl,h1,q⟩:=h;refine⟨_,(zab (zbX PassesOwn.never rfl (zrf T.dSp T.gSPELLINGS) (za3 (i:=2) sc_sign_at.nd rfl (Or.inl rfl)) (zab (zas (i:=3) sc_sign_at.nd rfl (Or.inl rfl) (zav (zcL T) hr zat (zaa (pv 2) zad))) (zac (zaw (zak (znc hr.units) (zb3 zcw (pv 0) (zbK (pv 1)) (zbK (zaD zbf (pv 1) (zaF zaL (by rfl) T.blen PySem.boot_len (zaa (pv 3) zad))))) (pv 3) (zao _)) (zac (zai (pv 2))) zal)))) (zac (zai zkv))),?_⟩
  try dsimp only[zaI]
  walk_at "";refine zqC (fun i σ H'=>Same H H'/\(spL.take i).find? (fun g=>(zbm g).isPrefixOf (tx.drop p))=none/\∃x2 x3,σ=[some (.ref t),some (.int ((p:Nat):Int)),x2,x3]) ⟨Same.refl H,rfl,_,_,rfl⟩ (fun i k v σ H' hk hP=>?_) (fun σ H' hP=>?_)
  ·obtain⟨s1,hn,x2,x3,rfl⟩:=hP;obtain⟨g,rfl,hg⟩:=zmM hk;walk_at "";refine⟨g,rfl,fun l H1 s2 hl e1=>?_⟩;walk_at "";refine⟨_,_,rfl,.inl (SqL.of e1),?_⟩;walk_at "";rw[bl_length];refine zf0 (zgQ h1 fun o z=>(s1.trans s2) _ o z) fun l2 hl2=>?_;rw[znZ];obtain⟨H2,e,s3,e2⟩:=zap hl2 _;rw[<-e];clear e;walk_at "";refine zrK (by rw[<-zj8];exact SqL.of e2) (by rw[<-zj8];exact SqL.of (s3 _ _ e1)) ?_;walk_at "";have iff:decide (ib ((tx.drop p).take (zbm g).length)=ib (zbm g))=(zbm g).isPrefixOf (tx.drop p):=by
    rw[zCg,decide_eq_true_iff,ib_inj,List.isPrefixOf_iff_prefix,List.prefix_iff_eq_take];exact⟨fun h=>h.symm,fun h=>h.symm⟩
   rw[iff];refine zbg (fun hp=>?_) (fun hp=>?_)
   ·walk_at "";have e:zbr (tx.drop p)=some (g,(zbm g).length):=by
     rw[zfo];have:spL.find? (fun g=>(zbm g).isPrefixOf (tx.drop p))=some g:=by
      rw[<-zBt i spL,zDj,hn];obtain⟨hi,hgi⟩:=List.getElem?_eq_some_iff.mp hg;rw[zBo hi,hgi,zCd,hp];rfl
     rw[this];rfl
    have:=q H2 ((s1.trans s2).trans s3);rw[e] at this;exact this
   ·refine⟨(s1.trans s2).trans s3,?_,_,_,rfl⟩;rw[zAu,hg,zDj,hn];simp[zAm hp]
  ·obtain⟨s1,hn,x2,x3,rfl⟩:=hP;walk_at "";have e:zbr (tx.drop p)=none:=by
    rw[zfo];rw[show spL.take (zfK A).length=spL from rfl] at hn;rw[hn];rfl
   have:=q H' s1;rw[e] at this;exact this
end
section
variable{P:Program}{w:World}{K:PySem.W.Frag}{mg:Str->Option Value}{base:Heap}{A:Ad}
theorem znA{t:TS}{D:zdc}{σ:St}{H:Hp}(h:t {D with nx:=fun σ' H'=>∃d u,H' d=some u/\Mut (some u)/\∀od,D.nx σ' (upd H' d (.frz od u))} σ H):zq1 t D σ H:=h
def zge(A:Ad)(K:PySem.W.Frag):Sp:=fun vs H Q _=>∃lc xs c,vs=[.ref lc]/\SqL K H lc xs/\zfJ A H xs c/\c.length<=200/\∀d H' kvs,Same H H'->H d=none->H' d=some (.dK kvs)->NeedOk kvs (c.flatMap zaA)->Q (.ref d) H'
theorem sc_needed_cells:zam ["code", "needed", "item", "cell"] ["code"] (zag zdB):=by walk_at "sc"
inductive NeJ(H:Hp)(lc d a l:Addr)(c:List Item)(i:Nat)(a1 b1:Sg07.Ref)(j:Nat)(σ:St)(H3:Hp):Prop
 | mk (_:Same H H3) (_:H3 l=some (.lst (nl (Sg07.cellsOf a1 b1)))) (_:(∃kvs,H3 d=some (.dK kvs)/\NeedOk kvs ((c.take i).flatMap zaA++(Sg07.cellsOf a1 b1).take j))) x3 (_:σ=[some (.ref lc),some (.ref d),some (.ref a),x3])
inductive NeI(H:Hp)(lc d:Addr)(c:List Item)(i:Nat)(σ:St)(H':Hp):Prop
 | mk (_:Same H H') (_:(∃kvs,H' d=some (.dK kvs)/\NeedOk kvs ((c.take i).flatMap zaA))) x2 x3 (_:σ=[some (.ref lc),some (.ref d),x2,x3])
theorem zhK(T:Txt P w K mg A):Cal P w K mg base CX0 "needed_cells" 2 ["code"] (zge A K):=by
 refine zaV T.d_needed_cells sc_needed_cells (fun _ _ _ _ h=>?_) fun f _ A' _ s H vs Q E hr h=>?_
 ·obtain⟨lc,xs,c,rfl,_⟩:=h;rfl
 ·obtain⟨lc,xs,c,rfl,h1,hc,hz,q⟩:=h;refine⟨_,(zab (zas (i:=1) sc_needed_cells.nd rfl (Or.inl rfl) zhe) (zab (zbX PassesOwn.never rfl (zbA (pv 0)) (za3 (i:=2) sc_needed_cells.nd rfl (Or.inl rfl)) (zac (zaw (zak zaK (zau zax (pv 2) zah (fun _ _=>rfl)) zaB (zao _)) (zac (zcA (zba hr) (pv 1) (zav (zd0 T) hr zat (zaa (zau zax (pv 2) zah (fun _ _=>rfl)) zad)) zbS rfl)) (zac (zaw (zak zaK (zau zax (pv 2) zah (fun _ _=>rfl)) zaB (zao _)) (zac (zbX PassesOwn.never rfl (zbA (zav (zdk T) hr zat (zaa (zau zax (pv 2) zah (fun _ _=>rfl)) (zaa (zau zax (pv 2) zah (fun _ _=>rfl)) zad)))) (za3 (i:=3) sc_needed_cells.nd rfl (Or.inl rfl)) (zac (zcA (zba hr) (pv 1) (pv 3) zbS rfl)))) zal))))) (zac (zai (pv 1))))),?_⟩
  try dsimp only[zaI]
  walk_at "";intro d hd;obtain⟨H1,e,s1,e1⟩:=zap hd _;rw[<-e];clear e;walk_at "";have len:=zhC hc hz;refine⟨_,rfl,⟨_,zgQ h1 fun o z=>s1 _ _ z⟩,zbP (xs:=xs) (NeI H lc d c)
   ⟨s1,⟨[],e1,needOk_nil⟩,_,_,rfl⟩ (fun i σ H' _ hP=>zgQ h1 fun o z=>hP.1 _ _ z) (fun i x σ H' hx hP=>?_) (fun σ H' hP=>?_)⟩
  ·obtain⟨t1,⟨kvs,ed,no⟩,x2,x3,rfl⟩:=hP;obtain⟨it,hit,I⟩:=hc.at' hx;have I':=I.keep (zaC t1);obtain⟨a,ys,rfl,ea,iy⟩:=I'.ex;have enm:=zhm iy;have etk:(c.take (i+1)).flatMap zaA=(c.take i).flatMap zaA++zaA it:=by rw[zAu,hit,zBc];simp
   have lt:kvs.length+(zaA it).length<=204800:=by
    have h2:((c.take (i+1)).flatMap zaA).length<=(c.flatMap zaA).length:=by
     have h4:c.flatMap zaA=(c.take (i+1)).flatMap zaA++(c.drop (i+1)).flatMap zaA:=by rw[<-zBc,zBt]
     rw[h4,zAa];exact Nat.le_add_right _ _
    have h3:=no.len;rw[etk,zAa] at h2;omega
   walk_at "";cases it with
   | ref r =>
    obtain⟨v,R,rfl⟩:=iy;refine zaq (SqT.of ea) (v:=.str "reference") rfl ?_;walk_at "on";walk_at "";refine zaq (SqT.of ea) rfl ?_;walk_at "";refine⟨_,_,rfl,R,?_⟩;have:kvs.length<sizeLine:=by rw[sizeLine_eq];omega
    refine zcF (k:=.inl ((r.cell:Nat):Int)) ed this ?_;refine⟨fun b o z=>?_,⟨_,upd_same,by rw[etk];exact no.put r.cell _⟩,_,_,rfl⟩;rw[zae (zaf z hd)];exact t1 b o z
   | rng a1 b1 =>
    obtain⟨v,u,R,S,rfl⟩:=iy;refine zaq (SqT.of ea) (v:=.str "range") rfl ?_;walk_at "on";walk_at "";refine zaq (SqT.of ea) rfl ?_;walk_at "on";walk_at "";refine zaq (SqT.of ea) rfl ?_;walk_at "";refine zaq (SqT.of ea) rfl ?_;walk_at "";refine⟨_,_,a1,b1,rfl,R,S,fun l H2 s2 hl e2=>?_⟩;have dl:d≠l:=zaf ed hl;refine⟨_,rfl,⟨_,SqL.of e2⟩,zbP (xs:=nl (Sg07.cellsOf a1 b1)) (NeJ H lc d a l c i a1 b1)
     ⟨t1.trans s2,e2,⟨kvs,s2 _ _ ed,by simpa using no⟩,_,rfl⟩ (fun j σ H3 _ hP=>SqL.of hP.2) (fun j y σ H3 hy hP=>?_) (fun σ H3 hP=>?_)⟩
    ·obtain⟨t3,e3,⟨kvs3,ed3,no3⟩,x3,rfl⟩:=hP;have hy2:∃n:Nat,(Sg07.cellsOf a1 b1)[j]?=some n/\y=.int (n:Int):=by
      unfold nl at hy;rw[zBl] at hy;obtain⟨n,hn,rfl⟩:=Option.map_eq_some_iff.mp hy;exact⟨n,hn,rfl⟩
     obtain⟨n,hn,rfl⟩:=hy2;walk_at "";have len3:=no3.len;have:kvs3.length<sizeLine:=by
      rw[sizeLine_eq];rw[zAa,zBa] at len3;have h3:=zc4 I';have h3':(Sg07.cellsOf a1 b1).length<=1024:=h3;have h4:((c.take i).flatMap zaA).length<=204800:=by
       have h5:c.flatMap zaA=(c.take i).flatMap zaA++(c.drop i).flatMap zaA:=by rw[<-zBc,zBt]
       rw[h5,zAa] at len;omega
      omega
     refine zcF (k:=.inl ((n:Nat):Int)) ed3 this ?_;refine⟨fun b o z=>?_,by rw[zae (Ne.symm dl)];exact e3,⟨_,upd_same,?_⟩,_,rfl⟩
     ·rw[zae (zaf z hd)];exact t3 b o z
     ·rw[zAu,hn,<-zAk];exact no3.put n _
    ·obtain⟨t3,e3,⟨kvs3,ed3,no3⟩,x3,rfl⟩:=hP;refine⟨t3,⟨kvs3,ed3,?_⟩,_,_,rfl⟩;rw[etk];rw[nl_length,zBf] at no3;exact no3
   | num n =>
    have en:atI ys 0=some (.str "number"):=enm;refine zaq (SqT.of ea) en ?_;walk_at "on";walk_at "";refine zaq (SqT.of ea) en ?_;walk_at "on";exact⟨t1,⟨kvs,ed,by rw[etk];simpa[zaA] using no⟩,_,_,rfl⟩
   | neg =>
    have en:atI ys 0=some (.str "negation"):=enm;refine zaq (SqT.of ea) en ?_;walk_at "on";walk_at "";refine zaq (SqT.of ea) en ?_;walk_at "on";exact⟨t1,⟨kvs,ed,by rw[etk];simpa[zaA] using no⟩,_,_,rfl⟩
   | sgn n =>
    have en:atI ys 0=some (.str "sign"):=enm;refine zaq (SqT.of ea) en ?_;walk_at "on";walk_at "";refine zaq (SqT.of ea) en ?_;walk_at "on";exact⟨t1,⟨kvs,ed,by rw[etk];simpa[zaA] using no⟩,_,_,rfl⟩
   | fu f n =>
    have en:atI ys 0=some (.str "function"):=enm;refine zaq (SqT.of ea) en ?_;walk_at "on";walk_at "";refine zaq (SqT.of ea) en ?_;walk_at "on";exact⟨t1,⟨kvs,ed,by rw[etk];simpa[zaA] using no⟩,_,_,rfl⟩
  ·obtain⟨t1,⟨kvs,ed,no⟩,x2,x3,rfl⟩:=hP;walk_at "";rw[hc.1,zBf] at no;exact q d H' kvs t1 hd ed no
end
section
variable{P:Program}{w:World}{K:PySem.W.Frag}{mg:Str->Option Value}{base:Heap}{A:Ad}
inductive zgf(A:Ad)(K:PySem.W.Frag)(vs:List V)(H:Hp)(Q:VK)(E:XK):Prop
 | mk p dx lc xs c (_:vs=[.ref p,.ref lc]) (_:H p=some (.ins A.cFor dx [])) (_:H lc=some (.lst xs)) (_:zfJ A H xs c) (_:c.length<=200) (_:∀H',Sb [p,lc] H H'->FormAt A H' (.ref p) c->Q .non H')
theorem zgn:zam ["self", "code"] ["self", "code"] (zag zdC):=by walk_at "sc"
theorem zis(T:Txt P w K mg A):CaC P w K mg base CX0 "Formula" A.cFor 3 ["self", "code"] (zgf A K):=by
 refine zjc T.i_Formula zgn (fun _ _ _ _ h=>?_) fun f _ A' _ s H vs Q E hr h=>?_
 ·obtain⟨p,dx,lc,xs,c,rfl,_⟩:=h;rfl
 ·obtain⟨p,dx,lc,xs,c,rfl,hp,hl,hc,hz,q⟩:=h;refine⟨_,(zab (zbE (pv 0) (pv 1) rfl) (zac (zku (zku (zbE (pv 0) (zav (zhK T) hr zat (zaa (pv 1) zad)) rfl))))),?_⟩
  try dsimp only[zaI]
  walk_at "";refine za_ hp T.clcFor T.ncFor_code (by decide) ?_;have ne:lc≠p:=fun z=>by rw[z,hp] at hl;cases hl
  have nim:∀fs,fs.length≠2->¬Imm A (.ins A.cFor dx fs):=fun fs hf z=>by
   rcases z with z | z
   ·exact T.neRF z.symm
   ·exact hf z.2
  have k1:Keep A H (upd H p (.ins A.cFor dx (zbW "code" (.ref lc) []))):=zbj hp (nim [] (by decide));have hl1:upd H p (.ins A.cFor dx (zbW "code" (.ref lc) [])) lc=some (.lst xs):=by rw[zae ne];exact hl
  dsimp only;refine znA ?_;refine znA ?_;dsimp only;walk_at "";refine⟨lc,xs,c,rfl,SqL.of hl1,hc.mono fun a b z=>z.keep k1,hz,fun d H1 kvs s1 hd e1 no=>?_⟩;walk_at "";refine za_ (s1 _ _ upd_same) T.clcFor T.ncFor_needed (by show 1<1000;decide) ?_;have np:p≠d:=zaf upd_same hd;have nl':lc≠d:=zaf hl1 hd;refine⟨lc,.lst xs,by rw[zae ne];exact s1 _ _ hl1,trivial,fun o1=>?_⟩;refine⟨d,.dK kvs,by rw[zae nl'.symm,zae np.symm];exact e1,trivial,fun o2=>?_⟩;have sb:Sb [p,lc] H (upd (upd (upd H1 p (.ins A.cFor dx (zbW "needed" (.ref d) (zbW "code" (.ref lc) [])))) lc (.frz o1 (.lst xs))) d (.frz o2 (.dK kvs))):=fun b o z nb=>by
   have n1:b≠p:=fun e=>nb (by simp[e]);have n2:b≠lc:=fun e=>nb (by simp[e]);have z1:upd H p (.ins A.cFor dx (zbW "code" (.ref lc) [])) b=some o:=by rw[zae n1];exact z
   rw[zae (zaf z1 hd),zae n2,zae n1];exact s1 _ _ z1
  refine q _ sb ⟨⟨p,dx,lc,d,xs,kvs,o1,o2,rfl,?_,?_,upd_same,?_,no⟩,hz⟩
  ·rw[zae np,zae ne.symm,upd_same];rfl
  ·rw[zae nl',upd_same]
  ·refine hc.mono fun a b z=>z.keep (sb.keep fun b' hb o z=>?_);rcases zAe hb with rfl | hb
   ·rw[hp] at z;cases z;exact nim [] (by decide)
   ·rw[zAg hb,hl] at z;cases z;exact fun w=>w
inductive zd8(A:Ad)(vs:List V)(H:Hp)(Q:VK)(E:XK):Prop
 | mk v it dc dr (_:vs=[v,.int dc,.int dr]) (_:ItemAt A H v it) (_:match moveItem dr dc it with
 | some it'=>∀v' H',Same H H'->ItemAt A H' v' it'->Q v' H'
 | none=>∀H',Same H H'->E (.ref A.cOf) none H')
theorem zhV:zam ["item", "right", "down"] ["item", "right", "down"] (zag zeS):=by walk_at "sc"
theorem zjd(T:Txt P w K mg A):Cal P w K mg base (CXE P w) "moved_item" 4 ["item", "right", "down"] (zd8 A):=by
 refine zfc T.d_moved_item zhV (fun _ _ _ _ h=>?_) fun f _ A' _ s H vs Q E hr h=>?_
 ·obtain⟨v,it,dc,dr,rfl,_⟩:=h;rfl
 ·obtain⟨v,it,dc,dr,rfl,I,q⟩:=h;obtain⟨a,ys,rfl,ea,iy⟩:=I.ex;have enm:=zhm iy;refine⟨_,(zab (zaw (zak zaK (zau zax (pv 0) zah (fun _ _=>rfl)) zaB (zao _)) (zac (zai (zaY (zaa zaB (zaa (zav (zbQ T) hr za4 (zaa (zau zax (pv 0) zah (fun _ _=>rfl)) (zaa (pv 1) (zaa (pv 2) zad)))) zad))))) zal) (zab (zaw (zak zaK (zau zax (pv 0) zah (fun _ _=>rfl)) zaB (zao _)) (zac (zai (zaY (zaa zaB (zaa (zav (zbQ T) hr za4 (zaa (zau zax (pv 0) zah (fun _ _=>rfl)) (zaa (pv 1) (zaa (pv 2) zad)))) (zaa (zav (zbQ T) hr za4 (zaa (zau zax (pv 0) zah (fun _ _=>rfl)) (zaa (pv 1) (zaa (pv 2) zad)))) zad)))))) zal) (zac (zai (pv 0))))),?_⟩
  try dsimp only[zaI]
  walk_at "";cases it with
  | ref r =>
   obtain⟨v,R,rfl⟩:=iy;refine zaq (SqT.of ea) (v:=.str "reference") rfl ?_;walk_at "on";walk_at "";refine zaq (SqT.of ea) (i:=1) (v:=v) rfl ?_;walk_at "";refine⟨v,r,_,_,rfl,R,?_⟩;cases em:Sg07.move dr dc r with
   | none =>
    rw[show moveItem dr dc (.ref r)=none by rw[moveItem,em];rfl] at q;exact q H (Same.refl H)
   | some r' =>
    rw[show moveItem dr dc (.ref r)=some (.ref r') by rw[moveItem,em];rfl] at q;intro v' H1 s1 R1;walk_at "";refine⟨zar (by simp),fun l hl=>?_⟩;obtain⟨H2,e,s2,e2⟩:=zap hl _;rw[<-e];clear e;exact q _ H2 (s1.trans s2) ⟨l,_,rfl,e2,v',R1.mono (zaC s2),rfl⟩
  | rng r1 r2 =>
   obtain⟨v,u,R,S,rfl⟩:=iy;refine zaq (SqT.of ea) (v:=.str "range") rfl ?_;walk_at "on";walk_at "";refine zaq (SqT.of ea) (v:=.str "range") rfl ?_;walk_at "on";walk_at "";refine zaq (SqT.of ea) (i:=1) (v:=v) rfl ?_;walk_at "";refine⟨v,r1,_,_,rfl,R,?_⟩;cases em:Sg07.move dr dc r1 with
   | none =>
    rw[show moveItem dr dc (.rng r1 r2)=none by rw[moveItem,em];rfl] at q;exact q H (Same.refl H)
   | some r1' =>
    intro v1 H1 s1 R1;walk_at "";refine zaq (SqT.of (s1 _ _ ea)) (i:=2) (v:=u) rfl ?_;walk_at "";refine⟨u,r2,_,_,rfl,S.mono (zaC s1),?_⟩;cases em2:Sg07.move dr dc r2 with
    | none =>
     rw[show moveItem dr dc (.rng r1 r2)=none by rw[moveItem,em,em2];rfl] at q;exact q H1 s1
    | some r2' =>
     rw[show moveItem dr dc (.rng r1 r2)=some (.rng r1' r2') by rw[moveItem,em,em2];rfl] at q;intro v2 H2 s2 R2;walk_at "";refine⟨zar (by simp),fun l hl=>?_⟩;obtain⟨H3,e,s3,e3⟩:=zap hl _;rw[<-e];clear e;exact q _ H3 ((s1.trans s2).trans s3) ⟨l,_,rfl,e3,v1,v2,R1.mono (zaC (s2.trans s3)),R2.mono (zaC s3),rfl⟩
  | num n =>
   have en:atI ys 0=some (.str "number"):=enm;refine zaq (SqT.of ea) en ?_;walk_at "on";walk_at "";refine zaq (SqT.of ea) en ?_;walk_at "on";walk_at "";exact q _ H (Same.refl H) I
  | neg =>
   have en:atI ys 0=some (.str "negation"):=enm;refine zaq (SqT.of ea) en ?_;walk_at "on";walk_at "";refine zaq (SqT.of ea) en ?_;walk_at "on";walk_at "";exact q _ H (Same.refl H) I
  | sgn n =>
   have en:atI ys 0=some (.str "sign"):=enm;refine zaq (SqT.of ea) en ?_;walk_at "on";walk_at "";refine zaq (SqT.of ea) en ?_;walk_at "on";walk_at "";exact q _ H (Same.refl H) I
  | fu f n =>
   have en:atI ys 0=some (.str "function"):=enm;refine zaq (SqT.of ea) en ?_;walk_at "on";walk_at "";refine zaq (SqT.of ea) en ?_;walk_at "on";walk_at "";exact q _ H (Same.refl H) I
end
section
variable{P:Program}{w:World}{K:PySem.W.Frag}{mg:Str->Option Value}{base:Heap}{A:Ad}
theorem zfx{dr dc:Int}:∀ {c c':List Item},moveAll dr dc c=some c'->c'.length=c.length
 | [],c',h=>by cases h;rfl
 | i::r,c',h=>by
  rw[moveAll] at h;cases e1:moveItem dr dc i with
  | none=>rw[e1] at h;cases h
  | some j =>
   cases e2:moveAll dr dc r with
   | none=>rw[e1,e2] at h;cases h
   | some l =>
    rw[e1,e2] at h;cases h
    rw[zAb,zAb,zfx e2]
theorem zhl{dr dc:Int}{it:Item}(h:moveItem dr dc it=none):∀ {c:List Item}{i:Nat},c[i]?=some it->moveAll dr dc c=none
 | [],i,e=>by simp at e
 | x::r,0,e=>by
  rw[zCv] at e;cases e
  rw[moveAll,h];rfl
 | x::r,i+1,e=>by
  rw[zDm] at e;rw[moveAll,zhl h e];cases moveItem dr dc x<;>rfl
theorem zkB{dr dc:Int}{c c':List Item}{i:Nat}{it it':Item}(h:moveAll dr dc (c.take i)=some c')(e:c[i]?=some it)(m:moveItem dr dc it=some it'):moveAll dr dc (c.take (i+1))=some (c'++[it']):=by
 rw[zAu,e,moveAll_append,h];show(some c').bind (fun x=>(moveAll dr dc [it]).map fun y=>x++y)=_;rw[moveAll,m];rfl
inductive zfk(A:Ad)(vs:List V)(H:Hp)(Q:VK)(E:XK):Prop
 | mk v c dc dr (_:vs=[v,.int dc,.int dr]) (_:FormAt A H v c) (_:match moveAll dr dc c with
 | some c'=>∀v' H',Same H H'->FormAt A H' v' c'->Q v' H'
 | none=>∀H',Same H H'->E (.ref A.cOf) none H')
theorem sc_moved_formula:zam ["formula", "right", "down", "item"] ["formula", "right", "down"] (zag zb8):=by walk_at "sc"
theorem zgv(T:Txt P w K mg A):Cal P w K mg base (CXE P w) "moved_formula" 5 ["formula", "right", "down"] (zfk A):=by
 refine zfc T.d_moved_formula sc_moved_formula (fun _ _ _ _ h=>?_) fun f _ A' _ s H vs Q E hr h=>?_
 ·obtain⟨v,c,dc,dr,rfl,_⟩:=h;rfl
 ·obtain⟨v,c,dc,dr,rfl,F0,q⟩:=h;obtain⟨a,dx,lc,d,xs,kvs,o1,o2,rfl,ha,hlc,hd,hcode,hneed⟩:=F0.ex;refine⟨_,(zac (zai (zfv (zis T) hr zat (zaa (zp2 (E:=E) (tt:=zpH) (te:=zod (zd8 A) E (za2 (zaX 3) (za2 (zaX 1) (za2 (zaX 2) zbT)))) rfl sc_moved_formula.nd (zbA (zaj (pv 0) rfl)) (zcu (N:=["formula", "right", "down", "item"]) (sc:=zag zb8) (own:=[("item",3)]) (by decide +kernel)) (fun _ _ _ _ _=>(za3 (i:=3) sc_moved_formula.nd rfl (Or.inl rfl))) (fun _ _ _ _ _=>zgA) (fun _ _ _ _ _ _ _ hp=>(zav (zjd T) hr hp (zaa (pv 3) (zaa (pv 1) (zaa (pv 2) zad))))) rfl rfl rfl zby) zad)))),?_⟩
  try dsimp only[zaI]
  walk_at "";refine zbh ha T.clcFor T.ncFor_code rfl ?_;refine⟨lc,rfl,⟨xs,.inl (.inr ⟨o1,hlc⟩)⟩,fun D hD=>?_⟩;refine zi0 (xs:=xs) (fun i H2=>Same H H2/\∃vs c',moveAll dr dc (c.take i)=some c'/\H2 D=some (.lst vs)/\zfJ A H2 vs c') ⟨zaN hD,[],[],rfl,upd_same,Pw.nil⟩ (fun i H2 _ hP=>.inl (.inr ⟨o1,hP.1 _ _ hlc⟩)) (fun i y H2 hy hP=>?_) (fun H2 hP=>?_)
  ·obtain⟨t2,vs,c',hc',eD,pw⟩:=hP;obtain⟨it,hit,I0⟩:=hcode.at' hy;have I:=I0.keep (zaC t2);walk_at "";refine⟨rfl,?_⟩;walk_at "";refine zhY ?_;walk_at "";refine⟨y,it,dc,dr,rfl,I,?_⟩;cases hmv:moveItem dr dc it with
   | some it' =>
    intro v' H3 s3 I3;have k4:Keep A H3 (upd H3 D (.lst (vs++[v']))):=zbj (s3 _ _ eD) (fun z=>z);have hl:vs.length<=200:=by
     have h1:=pw.1;have h2:=zfx hc';have h3:=F0.len;rw[zBa] at h2;omega
    refine⟨vs,s3 _ _ eD,by rw[sizeLine_eq];omega,fun b o z=>?_,vs++[v'],c'++[it'],zkB hc' hit hmv,upd_same,?_⟩
    ·rw[zae (zaf z hD)];exact s3 _ _ (t2 _ _ z)
    ·exact(Pw.snoc (pw.mono fun x y z=>z.keep (zaC s3)) I3).mono fun x y z=>z.keep k4
   | none =>
    intro H3 s3;rw[zhl hmv hit] at q;exact q H3 (t2.trans s3)
  ·obtain⟨t2,vs,c',hc',eD,pw⟩:=hP;rw[hcode.1,zBf] at hc';rw[hc'] at q;walk_at "";intro p dp hp hdp ne;have sm:Same H2 (upd (upd H2 dp (.own p)) p (.ins A.cFor dp [])):=fun b o z=>by rw[zae (zaf z hp),zae (zaf z hdp)];exact z
   refine⟨p,dp,D,vs,c',rfl,upd_same,sm _ _ eD,pw.mono fun x y z=>z.keep (zaC sm),by have h2:=zfx hc';have h3:=F0.len;omega,fun H3 sb3 F3=>⟨rfl,?_⟩⟩;refine q _ H3 (fun b o z=>sb3 _ _ (sm _ _ (t2 _ _ z)) fun hm=>?_) F3;rcases zAe hm with rfl | hm
   ·rw[t2 _ _ z] at hp;cases hp
   ·rw[zAg hm,hD] at z;cases z
end
section
variable{P:Program}{w:World}{K:PySem.W.Frag}{mg:Str->Option Value}{base:Heap}{A:Ad}
def zbM(z:Int):Bool:=decide (65<=z)&&decide (z<81)
def ziF:Sp:=fun vs H Q _=>∃z,vs=[.int z]/\Q (.bl (zbM z)) H
theorem ziM:zam ["byte"] ["byte"] (zag zfP):=by walk_at "sc"
theorem zf6(T:Txt P w K mg A):Cal P w K mg base CX0 "is_column" 1 ["byte"] ziF:=by
 refine zaV T.d_is_column ziM (fun _ _ _ _ h=>?_) fun f _ A' _ s H vs Q E hr h=>?_
 ·obtain⟨z,rfl,_⟩:=h;rfl
 ·obtain⟨z,rfl,q⟩:=h;refine⟨_,(zac (zai (zhf zjM zcd (zan T.gLETTER_A) (pv 0) (zaD zbf (zan T.gLETTER_A) (zan T.gCOLUMNS))))),?_⟩
  try dsimp only[zaI]
  walk_at "";refine zbg (fun h1=>?_) (fun h1=>?_)
  ·walk_at "";have e:zbM z=decide (z<65+16):=by unfold zbM;rw[h1];rfl
   rw[<-e];exact q
  ·have e:zbM z=false:=by unfold zbM;rw[zAm h1];rfl
   rw[<-e];exact q
inductive zgU(A:Ad)(vs:List V)(H:Hp)(Q:VK)(E:XK):Prop
 | mk p dx lt s (_:vs=[.ref p,.ref lt]) (_:H p=some (.ins A.cRd dx [])) (_:H lt=some (.lst (bl s))) (_:s.length<=127) (_:∀H' lc lp,Sb [p] H H'->H lc=none->H lp=none->RdAt A H' p dx lt lc lp s ⟨0,s,[],[]⟩->Q .non H')
theorem zg2:zam ["self", "text"] ["self", "text"] (zag zeg):=by walk_at "sc"
theorem zj7(T:Txt P w K mg A):CaC P w K mg base CX0 "Reader" A.cRd 1 ["self", "text"] (zgU A):=by
 refine zjc T.i_Reader zg2 (fun _ _ _ _ h=>?_) fun f _ A' _ s H vs Q E hr h=>?_
 ·obtain⟨p,dx,lt,s,rfl,_⟩:=h;rfl
 ·obtain⟨p,dx,lt,s,rfl,hp,ht,hz,q⟩:=h;refine⟨_,(zab (zbE (pv 0) (pv 1) rfl) (zab (zbE (pv 0) zah rfl) (zab (zbE (pv 0) (zaJ zad) rfl) (zac (zbE (pv 0) (zaJ zad) rfl))))),?_⟩
  try dsimp only[zaI]
  walk_at "";refine za_ hp T.clcRd T.ncRd_text (by decide) ?_;walk_at "";refine za_ upd_same T.clcRd T.ncRd_place (by show 1<1000;decide) ?_;walk_at "";refine⟨by decide,fun lc hlc=>?_⟩;have nc:p≠lc:=fun z=>by rw[z,upd_same] at hlc;cases hlc
  walk_at "";refine za_ (by rw[zae nc];exact upd_same) T.clcRd T.ncRd_code (by show 2<1000;decide) ?_;walk_at "";refine⟨by decide,fun lp hlp=>?_⟩;have np:p≠lp:=fun z=>by rw[z,upd_same] at hlp;cases hlp
  walk_at "";refine za_ (by rw[zae np];exact upd_same) T.clcRd T.ncRd_pending (by show 3<1000;decide) ?_;have hlc':H lc=none:=by rw[zae nc.symm,zae nc.symm] at hlc;exact hlc
  have n3:lp≠lc:=fun z=>by rw[z,zae nc.symm,upd_same] at hlp;cases hlp
  have hlp':H lp=none:=by rw[zae np.symm,zae n3,zae np.symm,zae np.symm] at hlp;exact hlp
  have nlt:lt≠p:=fun z=>by rw[z,hp] at ht;cases ht
  have c1:lc≠lt:=(zaf ht hlc').symm;have c2:lp≠lt:=(zaf ht hlp').symm;refine q _ lc lp (fun b o z nb=>?_) hlc' hlp' ⟨?_,?_,⟨[],?_,Pw.nil⟩,⟨[],?_,Pw.nil⟩,c1,c2,n3.symm,rfl,zAx _,zAx _,hz⟩
  ·have n0:b≠p:=fun e=>nb (by simp[e]);rw[zae n0,zae (zaf z hlp'),zae n0,zae (zaf z hlc'),zae n0,zae n0];exact z
  ·rw[upd_same];rfl
  ·rw[zae nlt,zae c2.symm,zae nlt,zae c1.symm,zae nlt,zae nlt];exact ht
  ·rw[zae nc.symm,zae n3.symm,zae nc.symm,upd_same]
  ·rw[zae np.symm,upd_same]
inductive zmL(A:Ad)(vs:List V)(H:Hp)(Q:VK)(E:XK):Prop
 | mk rd dx lt lc lp s st (_:vs=[.ref rd]) (_:RdAt A H rd dx lt lc lp s st) (_:Q (.int (ahd st.s)) H)
theorem zmW:zam ["self"] ["self"] (zag zk7):=by walk_at "sc"
theorem m_ahead(T:Txt P w K mg A):CaM P w K mg base CX0 A.cRd "ahead" 1 ["self"] (zmL A):=by
 refine zbG T.m_ahead T.clcRd zmW (fun _ _ _ _ h=>?_) fun f _ A' _ s H vs Q E hr h=>?_
 ·obtain⟨rd,dx,lt,lc,lp,s,st,rfl,_⟩:=h;rfl
 ·obtain⟨rd,dx,lt,lc,lp,s,st,rfl,R,q⟩:=h;have ho:=R.o;refine⟨_,(zac (zai (zbL (zak zcd (zaj (pv 0) rfl) (zaF zaL (by rfl) T.blen PySem.boot_len (zaa (zaj (pv 0) rfl) zad)) (zao _)) (zau zaG (zaj (pv 0) rfl) (zaj (pv 0) rfl) (fun _ _=>rfl)) (zan T.gEND)))),?_⟩
  try dsimp only[zaI]
  walk_at "";refine⟨_,_,rfl,.inl (SqL.of R.t),?_⟩;walk_at "";rw[bl_length];refine zbg (fun h1=>?_) (fun h1=>?_)
  ·walk_at "";have h2:st.p<s.length:=by have:=zAf h1;omega
   have e:st.s=s[st.p]::s.drop (st.p+1):=by rw[R.rest];exact zBo h2
   refine zaQ (SqL.of R.t) (v:=.int ((s[st.p].toNat:Nat):Int)) (zdb ?_) ?_
   ·unfold bl;rw[zBl,zAy h2];rfl
   ·rw[e] at q;exact q
  ·walk_at "";have h2:s.length<=st.p:=by have:=zAv (zAm h1);omega
   have e:st.s=[]:=by rw[R.rest];exact zCl h2
   rw[e] at q;exact q
theorem ahd_byte{s:Sg07.Bytes}{b:UInt8}:ahd s=((b.toNat:Nat):Int)↔s.head?=some b:=by
 cases s with
 | nil=>simp[ahd]
 | cons c r =>
  simp only[ahd,List.head?_cons,zEf];exact⟨fun h=>UInt8.toNat_inj.mp (by omega),fun h=>by rw[h]⟩
inductive zh5(A:Ad)(vs:List V)(H:Hp)(Q:VK)(E:XK):Prop
 | mk rd dx lt lc lp s st (b:UInt8) (_:vs=[.ref rd,.int ((b.toNat:Nat):Int)]) (_:RdAt A H rd dx lt lc lp s st) (_:(st.s.head?≠some b->Q (.bl false) H)) (_:(st.s.head?=some b->∀H',Sb [rd,lc,lp] H H'->RdAt A H' rd dx lt lc lp s ⟨st.p+1,st.s.tail,st.c,st.d⟩->Q (.bl true) H'))
theorem zlR:zam ["self", "byte"] ["self", "byte"] (zag zjw):=by walk_at "sc"
theorem m_passes(T:Txt P w K mg A):CaM P w K mg base CX0 A.cRd "passes" 2 ["self", "byte"] (zh5 A):=by
 refine zbG T.m_passes T.clcRd zlR (fun _ _ _ _ h=>?_) fun f _ A' _ s H vs Q E hr h=>?_
 ·obtain⟨rd,dx,lt,lc,lp,s,st,b,rfl,_⟩:=h;rfl
 ·obtain⟨rd,dx,lt,lc,lp,s,st,b,rfl,R,q0,q1⟩:=h;have ho:=R.o;refine⟨_,(zab (zaw (zak zei (zaR (pv 0) (m_ahead T) hr zat) (pv 1) (zao _)) (zac (zai zbS)) zal) (zab (zbs (pv 0) zah zc8) (zac (zai zbS)))),?_⟩
  try dsimp only[zaI]
  walk_at "";refine zay R.o rfl ?_;walk_at "";refine⟨rd,dx,lt,lc,lp,s,st,rfl,R,?_⟩;walk_at "";refine zbg (fun h1=>?_) (fun h1=>?_)
  ·walk_at "";refine q0 fun z=>?_;rw[ahd_byte.mpr z] at h1;simp at h1
  ·walk_at "";have hh:st.s.head?=some b:=ahd_byte.mp (by simpa using h1);refine zbN R.o T.clcRd T.ncRd_place rfl ?_;walk_at "";refine zbt (fs:=[]) R.o ?_;rw[zce];have hl:1<=st.s.length:=by cases e:st.s with
    | nil=>rw[e] at hh;cases hh
    | cons c r=>simp
   walk_at "";have R1:=R.adv T 1 hl ((st.p:Nat)+1) (by omega);rw[List.drop_one] at R1;exact q1 hh _ (zaM (by simp)) R1
end
section
variable{P:Program}{w:World}{K:PySem.W.Frag}{mg:Str->Option Value}{base:Heap}{A:Ad}
def shr(b s:Sg07.Bytes):Nat:=((b.zip s).takeWhile (fun y=>y.1 == y.2)).length
theorem zgV(b s:Sg07.Bytes)(i:Nat)(h:b.take i=s.take i)(hi:i<=s.length)(hb:i<=b.length):shr b s=i+shr (b.drop i) (s.drop i):=by
 induction i generalizing b s with
 | zero=>simp
 | succ i ih =>
  cases b with
  | nil=>simp at hb
  | cons x b =>
   cases s with
   | nil=>simp at hi
   | cons y s =>
    simp only[zDb,List.cons.injEq] at h;have e:shr (x::b) (y::s)=shr b s+1:=by
     unfold shr;rw[zEc,zBb];simp[h.1]
    rw[e,ih b s h.2 (by simpa using hi) (by simpa using hb)];simp only[zCq];omega
inductive zgR(A:Ad)(vs:List V)(H:Hp)(Q:VK)(E:XK):Prop
 | mk rd dx lt lc lp s st x b (_:vs=[.ref rd,.str x]) (_:RdAt A H rd dx lt lc lp s st) (_:spl x=bl b) (_:b.length<=20) (_:∀H',Same H H'->Q (.int ((shr b st.s:Nat):Int)) H')
theorem sc_shared_with:zam ["self", "word", "shared", "byte"] ["self", "word"] (zag zea):=by walk_at "sc"
theorem m_shared_with(T:Txt P w K mg A):CaM P w K mg base CX0 A.cRd "shared_with" 2 ["self", "word"] (zgR A):=by
 refine zbG T.m_shared_with T.clcRd sc_shared_with (fun _ _ _ _ h=>?_) fun f _ A' _ s H vs Q E hr h=>?_
 ·obtain⟨rd,dx,lt,lc,lp,s,st,x,b,rfl,_⟩:=h;rfl
 ·obtain⟨rd,dx,lt,lc,lp,s,st,x,b',rfl,R,ex,hb,q⟩:=h;have hz:x.cps.size=b'.length:=by rw[<-zbU,ex,bl_length]
  refine⟨_,(zab (zas (i:=2) sc_shared_with.nd rfl (Or.inl rfl) zah) (zab (zbX PassesOwn.never rfl (zbA (zav (zcW T) hr zat (zaa (pv 1) zad))) (za3 (i:=3) sc_shared_with.nd rfl (Or.inl rfl)) (zab (zaw (zak (zp3 hr.units) (zb3 zcw (zaj (pv 0) rfl) (zbK (zaD zbf (zaj (pv 0) rfl) (pv 2))) (zbK (zaD zbf (zaD zbf (zaj (pv 0) rfl) (pv 2)) zah))) (zaJ (zaa (pv 3) zad)) (zao _)) (zac zm2) zal) (zac (zpV (i:=2) sc_shared_with.nd rfl (Or.inl rfl) zah zqd)))) (zac (zai (pv 2))))),?_⟩
  try dsimp only[zaI]
  walk_at "";refine⟨x,rfl,zar (by omega),fun l hl=>?_⟩;rw[ex];obtain⟨H1,e,s1,e1⟩:=zap hl _;rw[<-e];clear e;have hlen:st.s.length=s.length - st.p:=by rw[R.rest,zBi]
  refine⟨_,rfl,⟨_,SqL.of e1⟩,zbP (xs:=bl b') (fun i σ H'=>Same H1 H'/\i<=st.s.length/\b'.take i=st.s.take i/\∃x3,σ=[some (.ref rd),some (.str x),some (.int ((i:Nat):Int)),x3])
   ⟨Same.refl H1,zAx _,rfl,_,rfl⟩ (fun i σ H' _ hP=>SqL.of (hP.1 _ _ e1)) (fun i y σ H' hy hP=>?_) (fun σ H' hP=>?_)⟩
  ·obtain⟨t1,hi,htk,x3,rfl⟩:=hP;have R':=R.same (s1.trans t1);have ho:=R'.o;have hyb:∃c:UInt8,b'[i]?=some c/\y=.int ((c.toNat:Nat):Int):=by
    unfold bl at hy;rw[zBl] at hy;obtain⟨c,hc,rfl⟩:=Option.map_eq_some_iff.mp hy;exact⟨c,hc,rfl⟩
   obtain⟨c,hc,rfl⟩:=hyb;have hib:i<b'.length:=(List.getElem?_eq_some_iff.mp hc).1;have hbd:b'.drop i=c::b'.drop (i+1):=by rw[zBo hib,(List.getElem?_eq_some_iff.mp hc).2]
   walk_at "";refine zf0 (SqL.of R'.t) fun l2 hl2=>?_;have ecut:zeB (bl s) (some (((st.p:Nat):Int)+((i:Nat):Int))) (some (((st.p:Nat):Int)+((i:Nat):Int)+1))=bl ((st.s.drop i).take 1):=by
    have:=znZ s (st.p+i) 1;rw[show(((st.p+i:Nat)):Int)=((st.p:Nat):Int)+((i:Nat):Int) by omega] at this;rw[R.rest,zCy];exact this
   rw[ecut];obtain⟨H2,e,s2,e2⟩:=zap hl2 _;rw[<-e];clear e;walk_at "";refine⟨zar (by simp),fun l3 hl3=>?_⟩;obtain⟨H3,e,s3,e3⟩:=zap hl3 _;rw[<-e];clear e;have e3':H3 l3=some (.lst (bl [c])):=e3;refine zrz (by rw[<-zj8];exact SqL.of (s3 _ _ e2)) (by rw[<-zj8];exact SqL.of e3') ?_;walk_at "";refine zbg (fun h1=>?_) (fun h1=>?_)
   ·
    refine zpt ?_;dsimp only;refine znv (zhq rfl ?_);have hne:¬(st.s.drop i).take 1=[c]:=fun z=>by rw[z] at h1;simp at h1
    have:shr b' st.s=i:=by
     rw[zgV b' st.s i htk hi (by omega),hbd];cases hd:st.s.drop i with
     | nil=>simp[shr]
     | cons y r =>
      rw[hd] at hne;have:¬c=y:=fun z=>hne (by simp[z]);simp[shr,zBb,this]
    have:=q H3 (((s1.trans t1).trans s2).trans s3);rw[‹shr b' st.s=i›] at this;exact this
   ·have heq:(st.s.drop i).take 1=[c]:=by
     rw[Bool.not_eq_true,Bool.not_eq_false',decide_eq_true_iff,ib_inj] at h1;exact h1
    refine znz ?_;dsimp only;refine zrQ rfl ?_;walk_at "";refine zrH ?_;have hi2:i<st.s.length:=by
     have h2:=congrArg List.length heq;rw[zBa,zBi] at h2;simp at h2;omega
    refine⟨((t1.trans s2).trans s3),hi2,?_,some (.int ((c.toNat:Nat):Int)),?_⟩
    ·rw[zAu,zAu,htk,hc];congr 1;have h2:st.s.drop i=st.s[i]::st.s.drop (i+1):=zBo hi2;rw[h2] at heq;have h5:st.s[i]=c:=(List.cons.inj heq).1;rw[zAy hi2,h5]
    ·rfl
  ·obtain⟨t1,hi,htk,x3,rfl⟩:=hP;refine znv (zhq rfl ?_);rw[bl_length] at *;have:shr b' st.s=b'.length:=by
    rw[zgV b' st.s b'.length htk hi (zAi _),List.drop_length];simp[shr]
   have:=q H' (s1.trans t1);rw[‹shr b' st.s=b'.length›] at this;exact this
end
section
variable{P:Program}{w:World}{K:PySem.W.Frag}{mg:Str->Option Value}{base:Heap}{A:Ad}
theorem znN(c:UInt8):dig ((c.toNat:Nat):Int)=Sg07.digit c:=by
 unfold dig Sg07.digit;rw[zCg];simp only[zBx,decide_eq_true_iff,UInt8.le_iff_toNat_le];have e1:(48:UInt8).toNat=48:=rfl;have e2:(57:UInt8).toNat=57:=rfl;rw[e1,e2];omega
def dgh:Sg07.Bytes->Bool
 | []=>false
 | c::_=>Sg07.digit c
theorem zi8(s:Sg07.Bytes):dig (ahd s)=dgh s:=by
 cases s with
 | nil=>rfl
 | cons c r=>exact znN c
theorem zhA(s:Sg07.Bytes):∀i,i<=(s.takeWhile Sg07.digit).length->dgh (s.drop i)=decide (i<(s.takeWhile Sg07.digit).length):=by
 induction s with
 | nil=>intro i hi;simp at hi;subst hi;rfl
 | cons c r ih =>
  intro i hi;by_cases h:Sg07.digit c=true
  ·rw[zBb,if_pos h] at hi ⊢;cases i with
   | zero=>simp[dgh,h]
   | succ i =>
    rw[zCq,ih i (by simpa using hi)];simp
  ·rw[zBb,if_neg h] at hi ⊢;simp at hi;subst hi;simp[dgh,h]
theorem zb4(l:Sg07.Bytes)(c:UInt8):Sg07.number (l++[c])=10*Sg07.number l+(c.toNat - 48):=by unfold Sg07.number;rw[List.foldl_append];rfl
theorem ze8{c:UInt8}(h:Sg07.digit c=true):48<=c.toNat/\c.toNat<=57:=by
 unfold Sg07.digit at h;simp only[zBx,decide_eq_true_iff,UInt8.le_iff_toNat_le] at h;exact h
theorem zhh:∀(l:Sg07.Bytes) (n:Nat),(∀c∈l,Sg07.digit c=true)->l.foldl (fun n c=>10*n+(c.toNat - 48)) n<(n+1)*10 ^ l.length
 | [],n,_=>by simp
 | c::l,n,h=>by
  have h1:=zhh l (10*n+(c.toNat - 48)) fun x hx=>h x (zAd _ hx);have h2:=ze8 (h c zAo);rw[zDd,zAb,Nat.pow_succ];refine zAq h1 ?_;rw[show(n+1)*(10 ^ l.length*10)=(10*n+10)*10 ^ l.length by rw[Nat.mul_comm (10 ^ l.length) 10,<-Nat.mul_assoc];congr 1;omega];exact Nat.mul_le_mul_right _ (by omega)
theorem zig(l:Sg07.Bytes)(h:∀c∈l,Sg07.digit c=true):Sg07.number l<10 ^ l.length:=by
 have:=zhh l 0 h;show l.foldl _ 0<_;simpa using this
theorem zi7{s:Sg07.Bytes}:∀c∈s.takeWhile Sg07.digit,Sg07.digit c=true:=fun c hc=>by
 induction s with
 | nil=>simp at hc
 | cons x r ih =>
  rw[zBb] at hc;split at hc
  ·rcases zAe hc with rfl | hc
   ·assumption
   ·exact ih hc
  ·cases hc
theorem zeH{s:Sg07.Bytes}:∀ {i:Nat}{c:UInt8},(s.takeWhile Sg07.digit)[i]?=some c->s.drop i=c::s.drop (i+1):=by
 induction s with
 | nil=>intro i c h;simp at h
 | cons x r ih =>
  intro i c h;rw[zBb] at h;split at h
  ·cases i with
   | zero=>simp at h;subst h;rfl
   | succ i=>exact ih (by simpa using h)
  ·simp at h
theorem zka(s:Sg07.Bytes):(s.takeWhile Sg07.digit).length<=s.length:=(zCz _).length_le
abbrev d18(s:Sg07.Bytes):Sg07.Bytes:=(s.takeWhile Sg07.digit).take 18
inductive zdr(A:Ad)(vs:List V)(H:Hp)(Q:VK)(E:XK):Prop
 | mk rd dx lt lc lp s st (_:vs=[.ref rd]) (_:RdAt A H rd dx lt lc lp s st) (_:(d18 st.s=[]->Mis A [rd,lc,lp] H E st.p)) (_:(d18 st.s≠[]->∀H',Sb [rd,lc,lp] H H'->RdAt A H' rd dx lt lc lp s ⟨st.p+(d18 st.s).length,st.s.drop (d18 st.s).length,st.c,st.d⟩->Q (.int ((Sg07.number (d18 st.s):Nat):Int)) H'))
theorem sc_read_digits:zam ["self", "start", "value"] ["self"] (zag zec):=by walk_at "sc"
theorem m_read_digits(T:Txt P w K mg A):CaM P w K mg base (CXE P w) A.cRd "read_digits" 3 ["self"] (zdr A):=by
 refine zbv T.m_read_digits T.clcRd sc_read_digits (fun _ _ _ _ h=>?_) fun f _ A' _ s H vs Q E hr h=>?_
 ·obtain⟨rd,dx,lt,lc,lp,s,st,rfl,_⟩:=h;rfl
 ·obtain⟨rd,dx,lt,lc,lp,s,st,rfl,R,q0,q1⟩:=h;have ho:=R.o;refine⟨_,(zab (zas (i:=1) sc_read_digits.nd rfl (Or.inl rfl) (zaj (pv 0) rfl)) (zab (zas (i:=2) sc_read_digits.nd rfl (Or.inl rfl) zah) (zab (zcp PassesOwn.leaving (PW.pt (zcK (za0 (zav (zeD T) hr zat (zaa (zaR (pv 0) (m_ahead T) hr zat) zad))) (zcf (zak zcd (zaD zca (zaj (pv 0) rfl) (pv 1)) (zan T.gMOST_DIGITS) (zao _))))) (zab (zas (i:=2) sc_read_digits.nd rfl (Or.inl rfl) (zaD zca (zaD zbf (zaD zfw (pv 2) zah) (zaR (pv 0) (m_ahead T) hr zat)) (zan T.gZERO))) (zac (zbs (pv 0) zah zc8)))) (zab (zaw (zak zaK (zaj (pv 0) rfl) (pv 1) (zao _)) (zac (za7 T hr zby (zaa (zaj (pv 0) rfl) zad))) zal) (zac (zai (pv 2))))))),?_⟩
  try dsimp only[zaI]
  walk_at "";have hD:=zka st.s;unfold d18 at q0 q1;generalize hDD:st.s.takeWhile Sg07.digit=D at q0 q1 hD;refine zhp (fun m σ H'=>∃i,m+i=(D.take 18).length/\Sb [rd,lc,lp] H H'/\RdAt A H' rd dx lt lc lp s ⟨st.p+i,st.s.drop i,st.c,st.d⟩/\σ=[some (.ref rd),some (.int ((st.p:Nat):Int)),some (.int ((Sg07.number (D.take i):Nat):Int))]) (D.take 18).length ⟨0,rfl,Sb.refl _ _,R,rfl⟩ fun m σ H' hP=>?_;obtain⟨i,hm,sb,R',rfl⟩:=hP;have ho':=R'.o;rw[zBa] at hm;walk_at "";refine zay R'.o rfl ?_;walk_at "";refine⟨rd,dx,lt,lc,lp,s,_,rfl,R',?_⟩;walk_at "";refine⟨_,rfl,?_⟩;dsimp only;walk_at "";rw[zi8,zhA st.s i (by rw[hDD];omega),hDD];refine zbg (fun h1=>?_) (fun h1=>?_)
  ·have hi:i<D.length:=zAf h1;walk_at "";refine zbg (fun h2=>?_) (fun h2=>?_)
   ·have hi2:i<18:=by have:=zAf h2;dsimp only at this;omega
    refine whB ?_;obtain⟨c,hc⟩:∃c,D[i]?=some c:=⟨D[i],zAy hi⟩;have hdc:Sg07.digit c=true:=zi7 (s:=st.s) c (by rw[hDD];exact zBs hc);have hdr:st.s.drop i=c::st.s.drop (i+1):=zeH (by rw[hDD];exact hc);walk_at "";refine zhr (Or.inr (by decide)) ?_;walk_at "";refine zay R'.o rfl ?_;walk_at "";refine⟨rd,dx,lt,lc,lp,s,_,rfl,R',?_⟩;walk_at "";refine zbN R'.o T.clcRd T.ncRd_place rfl ?_;walk_at "";refine zbt (fs:=[]) R'.o ?_;rw[zce];have R1:=R'.adv T 1 (by rw[hdr];simp) (((st.p+i:Nat):Int)+1) (by dsimp only;omega);refine⟨m - 1,by omega,i+1,by rw[zBa];omega,sb.trans (zaM (by simp)),?_,?_⟩
    ·have e1:st.p+(i+1)=st.p+i+1:=by omega
     rw[e1,show st.s.drop (i+1)=(st.s.drop i).drop 1 by rw[zCy]];exact R1
    ·have hg:=ze8 hdc;rw[zAu,hc];show[_,_,some (V.int (((Sg07.number (D.take i):Nat):Int)*10+ahd (st.s.drop i) - 48))]=_;rw[hdr,show(some c).toList=[c] from rfl,zb4];congr 4;congr 1;show _+((c.toNat:Nat):Int) - 48=_;omega
   ·have hi2:i=18:=by have:=zAv (zAm h2);dsimp only at this;omega
    subst hi2;have hl18:(D.take 18).length=18:=by rw[zBa];omega
    walk_at "";refine itN (fun z=>?_) ?_
    ·have:=zAf z;injection this with this;dsimp only at this;omega
    try dsimp only
    walk_at "";have:=q1 (fun z=>by rw[z] at hl18;cases hl18) H' sb (by rw[hl18];exact R');exact this
  ·have hi:i=D.length:=by have:=zAv (zAm h1);omega
   have hle:D.length<=18:=by omega
   have ed:D.take 18=D:=zBk hle;rw[ed] at q0 q1;refine znt ?_
   try dsimp only
   walk_at "";refine zbg (fun h2=>?_) (fun h2=>?_)
   ·have h3:=zAf h2;injection h3 with h3;dsimp only at h3;have hD0:D=[]:=zBj (by omega);walk_at "";refine⟨_,rfl,?_⟩;have:=((q0 hD0).from sb).at;have e0:st.p+i=st.p:=by omega
    rw[<-e0] at this;exact this
   ·try dsimp only
    walk_at "";have hne:D≠[]:=fun z=>h2 (by rw[z] at hi;simp at hi;subst hi;simp);have:=q1 hne H' sb (by rw[<-hi];exact R');rw[hi,zBf];exact this
inductive zgT(A:Ad)(vs:List V)(H:Hp)(Q:VK)(E:XK):Prop
 | mk rd dx lt lc lp s st (_:vs=[.ref rd]) (_:RdAt A H rd dx lt lc lp s st) (_:match st.s with
 | []=>Mis A [rd,lc,lp] H E st.p
 | c::r=>if 65<=c/\c<=80 then ∀H',Sb [rd,lc,lp] H H'->RdAt A H' rd dx lt lc lp s ⟨st.p+1,r,st.c,st.d⟩->Q (.int ((c.toNat - 65:Nat):Int)) H' else Mis A [rd,lc,lp] H E st.p)
theorem sc_read_column:zam ["self", "letter"] ["self"] (zag zed):=by walk_at "sc"
theorem m_read_column(T:Txt P w K mg A):CaM P w K mg base (CXE P w) A.cRd "read_column" 3 ["self"] (zgT A):=by
 refine zbv T.m_read_column T.clcRd sc_read_column (fun _ _ _ _ h=>?_) fun f _ A' _ s H vs Q E hr h=>?_
 ·obtain⟨rd,dx,lt,lc,lp,s,st,rfl,_⟩:=h;rfl
 ·obtain⟨rd,dx,lt,lc,lp,s,st,rfl,R,q⟩:=h;have ho:=R.o;refine⟨_,(zab (zas (i:=1) sc_read_column.nd rfl (Or.inl rfl) (zaR (pv 0) (m_ahead T) hr zat)) (zab (zaw (zbD (za0 (zav (zf6 T) hr zat (zaa (pv 1) zad)))) (zac (za7 T hr zby (zaa (zaj (pv 0) rfl) zad))) zal) (zab (zbs (pv 0) zah zc8) (zac (zai (zaD zca (pv 1) (zan T.gLETTER_A))))))),?_⟩
  try dsimp only[zaI]
  walk_at "";refine zay R.o rfl ?_;walk_at "";refine⟨rd,dx,lt,lc,lp,s,st,rfl,R,?_⟩;walk_at "";refine⟨_,rfl,?_⟩;dsimp only;walk_at "";cases es:st.s with
  | nil =>
   rw[es] at q;refine itP rfl ?_;walk_at "";exact⟨_,rfl,q.at⟩
  | cons c r =>
   rw[es] at q;dsimp only at q;have e1:zbM (ahd (c::r))=decide (65<=c/\c<=80):=by
    show zbM ((c.toNat:Nat):Int)=_;unfold zbM;rw[zCg];simp only[zBx,decide_eq_true_iff,UInt8.le_iff_toNat_le];have e1:(65:UInt8).toNat=65:=rfl;have e2:(80:UInt8).toNat=80:=rfl;rw[e1,e2];omega
   rw[e1];by_cases h1:65<=c/\c<=80
   ·rw[if_pos h1] at q;refine itN (by rw[zBh h1];decide) ?_;walk_at "";refine zbN R.o T.clcRd T.ncRd_place rfl ?_;walk_at "";refine zbt (fs:=[]) R.o ?_;rw[zce];have R1:=R.adv T 1 (by rw[es];simp) (((st.p:Nat):Int)+1) (by omega);rw[es] at R1;walk_at "";have:=q _ (zaM (by simp)) R1;have h2:65<=c.toNat:=by have:=UInt8.le_iff_toNat_le.mp h1.1;exact this
    have e3:((c.toNat - 65:Nat):Int)=ahd (c::r) - 65:=by show _=((c.toNat:Nat):Int) - 65;omega
    rw[e3] at this;exact this
   ·rw[if_neg h1] at q;refine itP (by rw[zBq h1];rfl) ?_;walk_at "";exact⟨_,rfl,q.at⟩
end
section
variable{P:Program}{w:World}{K:PySem.W.Frag}{mg:Str->Option Value}{base:Heap}{A:Ad}
local macro_rules | `(tactic| omega)=>`(tactic| first | lia | omega (config:={}))
theorem rr0{p:Nat}{s:Sg07.Bytes}(h:s.takeWhile Sg07.digit=[]):Sg07.readRow p s=.error p:=by
 cases s with
 | nil=>rfl
 | cons a r =>
  have:¬Sg07.digit a=true:=fun z=>by rw[zBb,if_pos z] at h;cases h
  unfold Sg07.readRow;dsimp only;rw[if_neg (fun z:Sg07.digit a=true/\a≠48=>this z.1)]
theorem zeW{s D:Sg07.Bytes}(h:s.takeWhile Sg07.digit=D)(hl:1<=D.length):∃a r,s=a::r/\Sg07.digit a=true/\D.take 1=[a]:=by
 cases s with
 | nil=>rw[<-h] at hl;simp at hl
 | cons a r =>
  by_cases z:Sg07.digit a=true
  ·rw[zBb,if_pos z] at h;exact⟨a,r,rfl,z,by rw[<-h];rfl⟩
  ·rw[zBb,if_neg z] at h;rw[<-h] at hl;simp at hl
theorem zlU{s D:Sg07.Bytes}(h:s.takeWhile Sg07.digit=D)(hl:2<=D.length):∃a b r,s=a::b::r/\Sg07.digit a=true/\Sg07.digit b=true/\D.take 1=[a]/\D.take 2=[a,b]:=by
 obtain⟨a,r,rfl,ha,e⟩:=zeW h (by omega);rw[zBb,if_pos ha] at h;obtain⟨b,q,rfl,hb,e2⟩:=zeW (s:=r) (D:=r.takeWhile Sg07.digit) rfl (by rw[<-h] at hl;simp at hl;omega);refine⟨a,b,q,rfl,ha,hb,e,?_⟩;rw[<-h,zDb,e2]
theorem zp4{a:UInt8}(ha:Sg07.digit a=true):Sg07.number [a]=a.toNat - 48/\(Sg07.number [a]=0↔a=48):=by
 have h:=ze8 ha;have e:Sg07.number [a]=a.toNat - 48:=by show 10*0+(a.toNat - 48)=_;omega
 refine⟨e,fun z=>?_,fun z=>by rw[z];rfl⟩;exact UInt8.toNat_inj.mp (by show a.toNat=48;omega)
theorem rr1{p:Nat}{s D:Sg07.Bytes}(h:s.takeWhile Sg07.digit=D)(hl:1<=D.length)(hz:Sg07.number (D.take 1)=0):Sg07.readRow p s=.error p:=by
 obtain⟨a,r,rfl,ha,e⟩:=zeW h hl;rw[e] at hz;unfold Sg07.readRow;dsimp only;rw[if_neg (fun z:Sg07.digit a=true/\a≠48=>z.2 ((zp4 ha).2.mp hz))]
theorem rr2{p:Nat}{s D:Sg07.Bytes}(h:s.takeWhile Sg07.digit=D)(hl:D.length=1)(hz:Sg07.number (D.take 1)≠0):Sg07.readRow p s=.ok (Sg07.number (D.take 1) - 1,p+1,s.drop 1):=by
 obtain⟨a,r,rfl,ha,e⟩:=zeW h (by omega);rw[e] at hz ⊢;have h2:r.takeWhile Sg07.digit=[]:=by rw[zBb,if_pos ha] at h;rw[<-h] at hl;exact zBj (by simpa using hl)
 unfold Sg07.readRow;dsimp only;rw[if_pos ⟨ha,fun z=>hz ((zp4 ha).2.mpr z)⟩];cases r with
 | nil=>rfl
 | cons b q =>
  have:¬Sg07.digit b=true:=fun z=>by rw[zBb,if_pos z] at h2;cases h2
  dsimp only;rw[if_neg this];rfl
theorem rr3{p:Nat}{s D:Sg07.Bytes}(h:s.takeWhile Sg07.digit=D)(hl:2<=D.length)(hz:Sg07.number (D.take 1)≠0):Sg07.readRow p s=if 64<Sg07.number (D.take 2) then .error (p+1) else .ok (Sg07.number (D.take 2) - 1,p+2,s.drop 2):=by
 obtain⟨a,b,r,rfl,ha,hb,e,e2⟩:=zlU h hl;rw[e] at hz;rw[e2];unfold Sg07.readRow;dsimp only;rw[if_pos ⟨ha,fun z=>hz ((zp4 ha).2.mpr z)⟩];rw[if_pos hb];rfl
inductive zjq(A:Ad)(vs:List V)(H:Hp)(Q:VK)(E:XK):Prop
 | mk rd dx lt lc lp s st (_:vs=[.ref rd]) (_:RdAt A H rd dx lt lc lp s st) (_:match Sg07.readRow st.p st.s with
 | .error e=>Mis A [rd,lc,lp] H E e
 | .ok (n,q,t)=>if dgh t=true then Mis A [rd,lc,lp] H E q else ∀H',Sb [rd,lc,lp] H H'->RdAt A H' rd dx lt lc lp s ⟨q,t,st.c,st.d⟩->Q (.int ((n:Nat):Int)) H')
theorem sc_read_row:zam ["self", "number"] ["self"] (zag zg5):=by walk_at "sc"
theorem m_read_row(T:Txt P w K mg A):CaM P w K mg base (CXE P w) A.cRd "read_row" 3 ["self"] (zjq A):=by
 refine zbv T.m_read_row T.clcRd sc_read_row (fun _ _ _ _ h=>?_) fun f _ A' _ s H vs Q E hr h=>?_
 ·obtain⟨rd,dx,lt,lc,lp,s,st,rfl,_⟩:=h;rfl
 ·obtain⟨rd,dx,lt,lc,lp,s,st,rfl,R,q⟩:=h;have ho:=R.o;refine⟨_,(zab (zas (i:=1) sc_read_row.nd rfl (Or.inl rfl) zah) (zab (zcp PassesOwn.leaving (za0 (zav (zeD T) hr zat (zaa (zaR (pv 0) (m_ahead T) hr zat) zad))) (zab (zas (i:=1) sc_read_row.nd rfl (Or.inl rfl) (zaD zca (zaD zbf (zaD zfw (pv 1) zah) (zaR (pv 0) (m_ahead T) hr zat)) (zan T.gZERO))) (zab (zaw (PW.pt (zcz (zak zcd (pv 1) zah (zao _)) (zbV (zak zeZ (pv 1) (zan T.gROWS) (zao _))))) (zac (za7 T hr zby (zaa (zaj (pv 0) rfl) zad))) zal) (zac (zbs (pv 0) zah zc8))))) (zab (zaw (zak zaK (pv 1) zah (zao _)) (zac (za7 T hr zby (zaa (zaj (pv 0) rfl) zad))) zal) (zac (zai (zaD zca (pv 1) zah)))))),?_⟩
  try dsimp only[zaI]
  walk_at "";have hD:=zka st.s;generalize hDD:st.s.takeWhile Sg07.digit=D at hD;refine zhp (fun m σ H'=>∃j,m+j=3/\j<=2/\j<=D.length/\Sb [rd,lc,lp] H H'/\RdAt A H' rd dx lt lc lp s ⟨st.p+j,st.s.drop j,st.c,st.d⟩/\σ=[some (.ref rd),some (.int ((Sg07.number (D.take j):Nat):Int))]/\(1<=j->Sg07.number (D.take 1)≠0)/\(j=2->Sg07.number (D.take 2)<=64)) 3
   ⟨0,rfl,by decide,zAx _,Sb.refl _ _,R,rfl,fun z=>absurd z (by decide),fun z=>absurd z (by decide)⟩ fun m σ H' hP=>?_
  obtain⟨j,hm,hj,hjD,sb,R',rfl,hn1,hn2⟩:=hP;have ho':=R'.o;walk_at "";refine zay R'.o rfl ?_;walk_at "";refine⟨rd,dx,lt,lc,lp,s,_,rfl,R',?_⟩;walk_at "";refine⟨_,rfl,?_⟩;dsimp only;walk_at "";rw[zi8,zhA st.s j (by rw[hDD];exact hjD),hDD];refine zbg (fun h1=>?_) (fun h1=>?_)
  ·have hi:j<D.length:=zAf h1;refine whB ?_;obtain⟨c,hc⟩:∃c,D[j]?=some c:=⟨D[j],zAy hi⟩;have hdc:Sg07.digit c=true:=zi7 (s:=st.s) c (by rw[hDD];exact zBs hc);have hdr:st.s.drop j=c::st.s.drop (j+1):=zeH (by rw[hDD];exact hc);have hg:=ze8 hdc;have en:Sg07.number (D.take (j+1))=10*Sg07.number (D.take j)+(c.toNat - 48):=by rw[zAu,hc];exact zb4 _ _
   walk_at "";refine zhr (Or.inr (by decide)) ?_;walk_at "";refine zay R'.o rfl ?_;walk_at "";refine⟨rd,dx,lt,lc,lp,s,_,rfl,R',?_⟩;walk_at "";have ev:((Sg07.number (D.take j):Nat):Int)*10+ahd (st.s.drop j) - 48=((Sg07.number (D.take (j+1)):Nat):Int):=by
    rw[hdr,en];show _+((c.toNat:Nat):Int) - 48=_;omega
   dsimp only;rw[ev];have bad:(Sg07.number (D.take (j+1))<1\/64<Sg07.number (D.take (j+1)))->Mis A [rd,lc,lp] H E (st.p+j):=fun hb=>by
    rcases (show j=0\/j=1\/j=2 by omega) with rfl | rfl | rfl
    ·have h3:Sg07.number (D.take 1)=0:=by
      have en':Sg07.number (D.take 1)=10*0+(c.toNat - 48):=en;have hb':Sg07.number (D.take 1)<1\/64<Sg07.number (D.take 1):=hb;omega
     rw[rr1 hDD hi h3] at q;exact q
    ·have h3:=hn1 (zAi _);have:64<Sg07.number (D.take 2):=by
      have e2:Sg07.number (D.take (1+1))=10*Sg07.number (D.take 1)+(c.toNat - 48):=en;rcases hb with hb | hb
      ·omega
      ·exact hb
     rw[rr3 hDD hi h3,if_pos this] at q;exact q
    ·have h3:=hn1 (by decide);have h4:=hn2 rfl;rw[rr3 hDD (by omega) h3,if_neg (by omega)] at q;dsimp only at q;rw[if_pos (by rw[hdr];exact hdc)] at q;exact q
   refine zbg (fun h2=>?_) (fun h2=>?_)
   ·have:=zAf h2;refine zhY ?_;walk_at "";exact⟨_,rfl,((bad (.inl (by omega))).from sb).at⟩
   ·have h2':=zAv (zAm h2);walk_at "";refine zbg (fun h3=>?_) (fun h3=>?_)
    ·have:=zAf h3;walk_at "";exact⟨_,rfl,((bad (.inr (by omega))).from sb).at⟩
    ·have h3':=zAv (zAm h3);walk_at "";refine zbN R'.o T.clcRd T.ncRd_place rfl ?_;walk_at "";refine zbt (fs:=[]) R'.o ?_;rw[zce];have R1:=R'.adv T 1 (by rw[hdr];simp) (((st.p+j:Nat):Int)+1) (by dsimp only;omega);have hj1:j<=1:=by
      rcases (show j=0\/j=1\/j=2 by omega) with rfl | rfl | rfl
      ·decide
      ·decide
      ·exfalso;have h5:=hn1 (by decide);have e3:Sg07.number (D.take 2)=10*Sg07.number (D.take 1)+((D[1]'(by omega)).toNat - 48):=by
        rw[zAu,zAy (show 1<D.length by omega)];exact zb4 _ _
       omega
     refine⟨m - 1,by omega,j+1,by omega,by omega,by omega,sb.trans (zaM (by simp)),?_,rfl,?_,?_⟩
     ·have e1:st.p+(j+1)=st.p+j+1:=by omega
      rw[e1,show st.s.drop (j+1)=(st.s.drop j).drop 1 by rw[zCy]];exact R1
     ·intro _;rcases (show j=0\/j=1 by omega) with rfl | rfl
      ·show Sg07.number (D.take (0+1))≠0;omega
      ·exact hn1 (zAi _)
     ·intro z;have:j=1:=by omega
      subst this;show Sg07.number (D.take (1+1))<=64;omega
  ·have hi:j=D.length:=by have:=zAv (zAm h1);omega
   have hdd:dgh (st.s.drop j)=false:=by rw[zhA st.s j (by rw[hDD];exact hjD),hDD];exact zAm h1
   try dsimp only
   walk_at "";refine zbg (fun h2=>?_) (fun h2=>?_)
   ·have h3:=zAf h2;injection h3 with h3;have hj0:j=0:=by
     rcases (show j=0\/j=1\/j=2 by omega) with rfl | rfl | rfl
     ·rfl
     ·exact absurd (by omega) (hn1 (zAi _))
     ·have h5:=hn1 (by decide);have e3:Sg07.number (D.take 2)=10*Sg07.number (D.take 1)+((D[1]'(by omega)).toNat - 48):=by
       rw[zAu,zAy (show 1<D.length by omega)];exact zb4 _ _
      omega
    subst hj0;have hD0:D=[]:=zBj hi.symm;rw[rr0 (by rw[hDD];exact hD0)] at q;walk_at "";exact⟨_,rfl,(Mis.from q sb).at⟩
   ·walk_at "";have hjn:j≠0:=fun z=>h2 (by subst z;exact zBh rfl);have fin:Sg07.readRow st.p st.s=.ok (Sg07.number (D.take j) - 1,st.p+j,st.s.drop j)/\1<=Sg07.number (D.take j):=by
     rcases (show j=1\/j=2 by omega) with rfl | rfl
     ·have h5:=hn1 (zAi _);exact⟨rr2 hDD hi.symm h5,by omega⟩
     ·have h5:=hn1 (by decide);have e3:Sg07.number (D.take 2)=10*Sg07.number (D.take 1)+((D[1]'(by omega)).toNat - 48):=by
       rw[zAu,zAy (show 1<D.length by omega)];exact zb4 _ _
      refine⟨?_,by omega⟩;rw[rr3 hDD (by omega) h5,if_neg (by have:=hn2 rfl;omega)]
    rw[fin.1] at q;dsimp only at q;rw[hdd,if_neg zAc] at q;have:=q H' sb R';have e:((Sg07.number (D.take j) - 1:Nat):Int)=((Sg07.number (D.take j):Nat):Int) - 1:=by have:=fin.2;omega
    rw[e] at this;exact this
end
section
variable{P:Program}{w:World}{K:PySem.W.Frag}{mg:Str->Option Value}{base:Heap}{A:Ad}
theorem zcj(p:Nat)(s:Sg07.Bytes):Sg07.dollar p s=if s.head?=some 36 then(true,p+1,s.tail) else(false,p,s):=by
 unfold Sg07.dollar;split
 ·rfl
 ·rename_i h;rw[if_neg];intro z;cases s with
  | nil=>cases z
  | cons c r=>simp at z;exact h r (by rw[z])
theorem zeh{H:Hp}{rd dx lt lc lp:Addr}{s:Sg07.Bytes}{st:Rst}{Q:VK}{E:XK}(R:RdAt A H rd dx lt lc lp s st)
  (q:∀H1,Sb [rd,lc,lp] H H1->RdAt A H1 rd dx lt lc lp s ⟨(Sg07.dollar st.p st.s).2.1,(Sg07.dollar st.p st.s).2.2,st.c,st.d⟩->Q (.bl (Sg07.dollar st.p st.s).1) H1):zh5 A [.ref rd,.int 36] H Q E:=by
 rw[zcj] at q;refine⟨rd,dx,lt,lc,lp,s,st,36,rfl,R,fun h=>?_,fun h H' sb R'=>?_⟩
 ·rw[if_neg h] at q;exact q H (Sb.refl _ _) R
 ·rw[if_pos h] at q;exact q H' sb R'
inductive zeK(A:Ad)(vs:List V)(H:Hp)(Q:VK)(E:XK):Prop
 | mk rd dx lt lc lp s st (_:vs=[.ref rd]) (_:RdAt A H rd dx lt lc lp s st) (_:match Sg07.readRef st.p st.s with
 | .error e=>Mis A [rd,lc,lp] H E e
 | .ok (r,q,t)=>if dgh t=true then Mis A [rd,lc,lp] H E q else ∀v H',Sb [rd,lc,lp] H H'->RdAt A H' rd dx lt lc lp s ⟨q,t,st.c,st.d⟩->RefAt A H' v r->Q v H')
theorem sc_read_reference:zam ["self", "column_fixed", "column", "row_fixed", "row"] ["self"] (zag zcP):=by walk_at "sc"
theorem m_read_reference(T:Txt P w K mg A):CaM P w K mg base (CXE P w) A.cRd "read_reference" 4 ["self"] (zeK A):=by
 refine zbv T.m_read_reference T.clcRd sc_read_reference (fun _ _ _ _ h=>?_) fun f _ A' _ s H vs Q E hr h=>?_
 ·obtain⟨rd,dx,lt,lc,lp,s,st,rfl,_⟩:=h;rfl
 ·obtain⟨rd,dx,lt,lc,lp,s,st,rfl,R,q⟩:=h;refine⟨_,(zab (zas (i:=1) sc_read_reference.nd rfl (Or.inl rfl) (za9 (pv 0) (m_passes T) hr zat (zaa (zan T.gDOLLAR) zad))) (zab (zas (i:=2) sc_read_reference.nd rfl (Or.inl rfl) (zaR (pv 0) (m_read_column T) hr za4)) (zab (zas (i:=3) sc_read_reference.nd rfl (Or.inl rfl) (za9 (pv 0) (m_passes T) hr zat (zaa (zan T.gDOLLAR) zad))) (zab (zas (i:=4) sc_read_reference.nd rfl (Or.inl rfl) (zaR (pv 0) (m_read_row T) hr za4)) (zac (zai (zfv (zf8 T) hr zat (zaa (pv 2) (zaa (pv 1) (zaa (pv 4) (zaa (pv 3) zad))))))))))),?_⟩
  try dsimp only[zaI]
  walk_at "";refine zay R.o rfl ?_;walk_at "";refine zeh R fun H1 sb1 R1=>?_;walk_at "";refine zay R1.o rfl ?_;walk_at "";refine⟨rd,dx,lt,lc,lp,s,_,rfl,R1,?_⟩;unfold Sg07.readRef at q;dsimp only at q ⊢;cases e1:(Sg07.dollar st.p st.s).2.2 with
  | nil =>
   rw[e1] at q;exact q.from sb1
  | cons c r =>
   rw[e1] at q;dsimp only at q ⊢;by_cases hc:65<=c/\c<=80
   ·rw[if_pos hc] at q ⊢;intro H2 sb2 R2;walk_at "";refine zay R2.o rfl ?_;walk_at "";refine zeh R2 fun H3 sb3 R3=>?_;dsimp only at R3 ⊢;walk_at "";refine zay R3.o rfl ?_;walk_at "";refine⟨rd,dx,lt,lc,lp,s,_,rfl,R3,?_⟩;dsimp only at q ⊢;have sb:=(sb1.trans sb2).trans sb3;cases e2:Sg07.readRow (Sg07.dollar ((Sg07.dollar st.p st.s).2.1+1) r).2.1 (Sg07.dollar ((Sg07.dollar st.p st.s).2.1+1) r).2.2 with
    | error e =>
     rw[e2] at q;exact Mis.from q sb
    | ok x =>
     obtain⟨n,qq,t⟩:=x;rw[e2] at q;dsimp only at q ⊢;by_cases hd:dgh t=true
     ·rw[if_pos hd] at q ⊢;exact Mis.from q sb
     ·rw[if_neg hd] at q ⊢;intro H4 sb4 R4;walk_at "";intro x dx' hx hdx ne;refine⟨x,dx',_,_,_,_,rfl,upd_same,rfl,?_⟩;obtain⟨_,_,_,_,_,hn⟩:=zfU e2;rw[upd_upd];have sm:Same H4 (upd (upd H4 dx' (.own x)) x (.ins A.cRef dx' (rfs ((c.toNat - 65:Nat):Int) (Sg07.dollar st.p st.s).1 ((n:Nat):Int) (Sg07.dollar ((Sg07.dollar st.p st.s).2.1+1) r).1))):=fun b o z=>by
       rw[zae (zaf z hx),zae (zaf z hdx)];exact z
      refine q _ _ ((sb.trans sb4).trans (Sb.of sm)) (R4.same sm) ⟨⟨x,dx',rfl,upd_same⟩,hn,?_⟩;show c.toNat - 65<16;have h1:c.toNat<=80:=UInt8.le_iff_toNat_le.mp hc.2;omega
   ·rw[if_neg hc] at q ⊢;exact Mis.from q sb1
inductive zd5(A:Ad)(vs:List V)(H:Hp)(Q:VK)(E:XK):Prop
 | mk rd dx lt lc lp s st (_:vs=[.ref rd]) (_:RdAt A H rd dx lt lc lp s st) (_:∀H',Same H H'->Q (.bl (zeE st.d)) H')
theorem zd6:zam ["self"] ["self"] (zag zco):=by walk_at "sc"
theorem m_at_start_of_part(T:Txt P w K mg A):CaM P w K mg base CX0 A.cRd "at_start_of_part" 1 ["self"] (zd5 A):=by
 refine zbG T.m_at_start_of_part T.clcRd zd6 (fun _ _ _ _ h=>?_) fun f _ A' _ s H vs Q E hr h=>?_
 ·obtain⟨rd,dx,lt,lc,lp,s,st,rfl,_⟩:=h;rfl
 ·obtain⟨rd,dx,lt,lc,lp,s,st,rfl,R,q⟩:=h;have ho:=R.o;refine⟨_,(zab (zaw (PW.pt (zcz (zbD (zcZ (zaj (pv 0) rfl) (fun _=>rfl))) (zbV (zak zei (zau zax (zau zaG (zaj (pv 0) rfl) (zcc zbz zah) (fun _ _=>rfl)) zah (fun _ _=>rfl)) (zan T.gBRACKET) (zao _))))) (zac (zai zbS)) zal) (zac (zai (zcg ziT (zau zax (zau zaG (zaj (pv 0) rfl) (zcc zbz zah) (fun _ _=>rfl)) zah (fun _ _=>rfl)) (zaY (zaa zaB (zaa zaB zad))) (by with_unfolding_all rfl))))),?_⟩
  try dsimp only[zaI]
  walk_at "";cases ed:st.d with
  | nil =>
   refine⟨false,.inl ⟨[],SqL.of (R.empty ed),rfl⟩,?_⟩;walk_at "on";walk_at "";have:=q H (Same.refl H);rw[ed] at this;exact this
  | cons pd d =>
   obtain⟨ps,v,e1,Pd,_⟩:=R.top ed;obtain⟨a,xs,rfl,ea,ip⟩:=Pd.ex;refine⟨true,.inl ⟨_,SqL.of e1,by simp⟩,?_⟩;walk_at "on";walk_at "";refine zaQ (SqL.of e1) (zbq _ _) ?_;walk_at "";refine zaq (SqT.of ea) (zm8 ip) ?_;walk_at "";have q:=q;rw[ed] at q;cases pd with
   | neg =>
    refine itP rfl ?_;walk_at "";exact q H (Same.refl H)
   | sgn g =>
    refine itP ?_ ?_
    ·rcases g with o | o<;>cases o<;>rfl
    walk_at "";exact q H (Same.refl H)
   | br f k =>
    refine itN (by show¬(!decide (V.int ((0:Nat):Int)=V.int 0))=true;decide) ?_;walk_at "";refine zaQ (SqL.of e1) (zbq _ _) ?_;walk_at "";obtain rfl:xs=[.int 0,.str (zgx f),.int (k:Nat)]:=ip;refine zaq (SqT.of ea) (i:=1) (v:=.str (zgx f)) rfl ?_;walk_at "";refine⟨zar (by simp),fun l hl=>?_⟩;obtain⟨H1,e,s1,e1'⟩:=zap hl _;rw[<-e];clear e;refine znx (.inr (SqT.of e1')) rfl rfl ?_;have:=q H1 s1;rcases f with _ | f
    ·exact this
    ·rcases f with _ | f
     ·exact this
     ·cases f<;>exact this
end
section
variable{P:Program}{w:World}{K:PySem.W.Frag}{mg:Str->Option Value}{base:Heap}{A:Ad}
theorem zha{p q:Nat}{s:Sg07.Bytes}(h:Sg07.readRow p s=.error q):p<=q:=by
 unfold Sg07.readRow at h
 repeat' split at h
 all_goals first|(cases h;done)|(injection h with h;omega)
theorem zfE(p:Nat)(s:Sg07.Bytes):p<=(Sg07.dollar p s).2.1:=by rw[zcj];split<;>dsimp only<;>omega
theorem zhb{p q:Nat}{s:Sg07.Bytes}(h:Sg07.readRef p s=.error q):p<=q:=by
 unfold Sg07.readRef at h;dsimp only at h;have h1:=zfE p s;split at h
 ·split at h
  ·rename_i c r _ _;have h2:=zfE ((Sg07.dollar p s).2.1+1) r;split at h
   ·rename_i e he;have h3:=zha he;injection h with h;omega
   ·cases h
  ·injection h with h;omega
 ·injection h with h;omega
theorem zmY{H1:Hp}{H:Hp}{rd dx lt lc lp:Addr}{s:Sg07.Bytes}{st st1:Rst}(R:RdAt A H rd dx lt lc lp s st)(R1:RdAt A H1 rd dx lt lc lp s st1)(h:st1.s.length<st.s.length):st.p<st1.p:=by
 have h1:st.s.length=s.length - st.p:=by rw[R.rest,zBi]
 have h2:st1.s.length=s.length - st1.p:=by rw[R1.rest,zBi]
 omega
inductive zbp(A:Ad)(vs:List V)(H:Hp)(Q:VK)(E:XK):Prop
 | mk rd dx lt lc lp s st (_:vs=[.ref rd]) (_:RdAt A H rd dx lt lc lp s st) (_:Sz st) (_:match zbR st st.p with
 | .error e=>Mis A [rd,lc,lp] H E e
 | .ok (_,st')=>(dgh st'.s=true->Mis A [rd,lc,lp] H E st'.p)/\∀H',Sb [rd,lc,lp] H H'->RdAt A H' rd dx lt lc lp s st'->Sz st'->st.p<st'.p->Q .non H')
theorem sc_read_reference_or_range:zam ["self", "range_allowed", "first"] ["self"] (zag zbw):=by walk_at "sc"
theorem m_read_reference_or_range(T:Txt P w K mg A):CaM P w K mg base (CXE P w) A.cRd "read_reference_or_range" 5 ["self"] (zbp A):=by
 refine zbv T.m_read_reference_or_range T.clcRd sc_read_reference_or_range (fun _ _ _ _ h=>?_) fun f _ A' _ s H vs Q E hr h=>?_
 ·obtain⟨rd,dx,lt,lc,lp,s,st,rfl,_⟩:=h;rfl
 ·obtain⟨rd,dx,lt,lc,lp,s,st,rfl,R,hz,q⟩:=h;refine⟨_,(zab (zas (i:=1) sc_read_reference_or_range.nd rfl (Or.inl rfl) (zaR (pv 0) (m_at_start_of_part T) hr zat)) (zab (zas (i:=2) sc_read_reference_or_range.nd rfl (Or.inl rfl) (zaR (pv 0) (m_read_reference T) hr za4)) (zac (zaw (PW.pt (zcK (za0 (pv 1)) (zcf (za0 (za9 (pv 0) (m_passes T) hr zat (zaa (zan T.gCOLON) zad)))))) (zac (zaE (zbx zAh zAs zAr zaU (zaj (pv 0) rfl) (zaa (zaY (zaa zaB (zaa (pv 2) (zaa (zaR (pv 0) (m_read_reference T) hr za4) zad)))) zad)))) (zac (zaE (zbx zAh zAs zAr zaU (zaj (pv 0) rfl) (zaa (zaY (zaa zaB (zaa (pv 2) zad))) zad)))))))),?_⟩
  try dsimp only[zaI]
  walk_at "";refine zay R.o rfl ?_;walk_at "";refine⟨rd,dx,lt,lc,lp,s,st,rfl,R,fun H0 s0=>?_⟩;have R0:=R.same s0;walk_at "";refine zay R0.o rfl ?_;walk_at "";refine⟨rd,dx,lt,lc,lp,s,st,rfl,R0,?_⟩;unfold zbR at q;cases e1:Sg07.readRef st.p st.s with
  | error e =>
   rw[e1] at q;dsimp only at q ⊢;have h1:=zhb e1;rw[Nat.max_eq_left h1] at q;exact Mis.from q (Sb.of s0)
  | ok x =>
   obtain⟨a,p1,t⟩:=x;rw[e1] at q;have hlen:=(zbC e1).1;dsimp only at q ⊢;by_cases hd:dgh t=true
   ·rw[if_pos hd];have hno:¬(zeE st.d=true/\t.head?=some 58):=fun z=>by
     cases t with
     | nil=>cases hd
     | cons c r =>
      have:=z.2;simp at this;subst this;exact absurd hd (by show¬Sg07.digit 58=true;decide)
    rw[if_neg hno] at q;exact Mis.from (q.1 hd) (Sb.of s0)
   ·rw[if_neg hd];intro v H1 sb1 R1 RA;have lt1:=zmY R R1 hlen;dsimp only at lt1;have hz1:Sz ⟨p1,t,st.c,st.d⟩:=by show st.c.length+st.d.length<=p1;have:st.c.length+st.d.length<=st.p:=hz;omega
    have sbA:=(Sb.of s0).trans sb1;have ho1:=R1.o;have one:∀H2,Sb [rd,lc,lp] H H2->RdAt A H2 rd dx lt lc lp s ⟨p1,t,st.c,st.d⟩->RefAt A H2 v a->¬(zeE st.d=true/\t.head?=some 58)->zgM (tBM K "list" zgz (zcJ K (zaX 0) "code") (za2 (zlJ (za2 (tC (.str "reference")) (za2 (zaX 2) zbT))) zbT)) {nx:=fun _ H'=>Q .non H',rt:=Q} [some (.ref rd),some (.bl (zeE st.d)),some v] H2:=fun H2 sb2 R2 RA2 hno=>by
     rw[if_neg hno] at q;have ho2:=R2.o;obtain⟨cs,ec,pc⟩:=R2.c;walk_at "";refine za1 (SqL.of ec) ?_;walk_at "";refine⟨zar (by simp),fun l hl=>?_⟩;obtain⟨H3,e,s3,e3⟩:=zap hl _;rw[<-e];clear e;have R3:=R2.same s3;have hcl:cs.length<sizeLine:=by
      have h1:=pc.1;have h2:=R2.sz;have h3:=R2.le;have h4:=R2.z;dsimp only at h1 h2 h3;rw[sizeLine_eq];omega
     refine zaP (s3 _ _ ec) hcl ?_;have I3:ItemAt A H3 (.ref l) (.ref a):=⟨l,_,rfl,e3,v,RA2.mono (zaC s3),rfl⟩;refine q.2 _ ((sb2.trans (Sb.of s3)).trans (zaM (by simp))) (R3.push T (s3 _ _ ec) I3 hz1) ?_ lt1;show(st.c++[_]).length+st.d.length<=p1;rw[zAa,zAt];have:st.c.length+st.d.length<=st.p:=hz;omega
    walk_at "";refine zbg (fun ha=>?_) (fun ha=>?_)
    ·walk_at "";refine zay R1.o rfl ?_;walk_at "";refine⟨rd,dx,lt,lc,lp,s,_,58,rfl,R1,fun h58=>?_,fun h58 H2 sb2 R2=>?_⟩
     ·walk_at "";refine itN zAc ?_;rw[ha] at *;exact one H1 sbA R1 RA (fun z=>h58 z.2)
     ·walk_at "";refine itP rfl ?_;have ho2:=R2.o;rw[if_pos ⟨ha,h58⟩] at q;obtain⟨cs,ec,pc⟩:=R2.c;walk_at "";refine za1 (SqL.of ec) ?_;walk_at "";refine zay R2.o rfl ?_;walk_at "";refine⟨rd,dx,lt,lc,lp,s,_,rfl,R2,?_⟩;dsimp only at q ⊢;cases e2:Sg07.readRef (p1+1) t.tail with
      | error e =>
       rw[e2] at q;exact Mis.from q (sbA.trans sb2)
      | ok y =>
       obtain⟨b,p2,t2⟩:=y;rw[e2] at q;have hlen2:=(zbC e2).1;dsimp only at q ⊢;by_cases hd2:dgh t2=true
       ·rw[if_pos hd2];exact Mis.from (q.1 hd2) (sbA.trans sb2)
       ·rw[if_neg hd2];intro u H3 sb3 R3 RB;have lt2:=zmY R2 R3 hlen2;dsimp only at lt2;walk_at "";refine⟨zar (by simp),fun l hl=>?_⟩;obtain⟨H4,e,s4,e4⟩:=zap hl _;rw[<-e];clear e;have R4:=R3.same s4;obtain⟨cs3,ec3,pc3⟩:=R4.c;have hcl:cs3.length<sizeLine:=by
         have h1:=pc3.1;have h2:=R4.sz;have h3:=R4.le;have h4:=R4.z;dsimp only at h1 h2 h3;rw[sizeLine_eq];omega
        refine zaP ec3 hcl ?_;have k2:=R1.keep T sb2;have k3:=R2.keep T sb3;have I4:ItemAt A H4 (.ref l) (.rng a b):=⟨l,_,rfl,e4,v,u,((RA.mono k2).mono k3).mono (zaC s4),RB.mono (zaC s4),rfl⟩;have hz4:Sz ⟨p2,t2,st.c,st.d⟩:=by show st.c.length+st.d.length<=p2;have:st.c.length+st.d.length<=st.p:=hz;omega
        refine q.2 _ ((((sbA.trans sb2).trans sb3).trans (Sb.of s4)).trans (zaM (by simp))) (R4.push T ec3 I4 hz4) ?_ (by show st.p<p2;omega);show(st.c++[_]).length+st.d.length<=p2;rw[zAa,zAt];have:st.c.length+st.d.length<=st.p:=hz;omega
    ·rw[Bool.not_eq_true] at ha;refine znt ?_;exact one H1 sbA R1 RA (fun z=>by rw[ha] at z;cases z.1)
end
section
variable{P:Program}{w:World}{K:PySem.W.Frag}{mg:Str->Option Value}{base:Heap}{A:Ad}
def fuL:List Fu:=[.iff,.fn .sum,.fn .min,.fn .max,.fn .count]
theorem fuB:zaz .iff=[73,70,40]/\zaz (.fn .sum)=[83,85,77,40]/\zaz (.fn .min)=[77,73,78,40]/\zaz (.fn .max)=[77,65,88,40]/\zaz (.fn .count)=[67,79,85,78,84,40]:=by decide +kernel
def ziW:Fu->String×Option Sg07.Fn
 | .iff=>("IF(",none)
 | .fn .sum=>("SUM(",some .sum)
 | .fn .min=>("MIN(",some .min)
 | .fn .max=>("MAX(",some .max)
 | .fn .count=>("COUNT(",some .count)
theorem zkA(f:Fu):Sg07.ascii (ziW f).1=zaz f:=by rcases f with _ | f<;>first | rfl|(cases f<;>rfl)
theorem zoF(f:Fu):zqB (ziW f).2=f:=by rcases f with _ | f<;>first | rfl|(cases f<;>rfl)
theorem znh(f:Fu):(ziW f).1.length=(zaz f).length:=by rcases f with _ | f<;>first | decide +kernel|(cases f<;>decide +kernel)
theorem zjH{x:UInt8}{b s:Sg07.Bytes}(h:(x::b).isPrefixOf s=true):s.head?=some x:=by
 cases s with
 | nil=>simp[List.isPrefixOf] at h
 | cons y s=>simp[List.isPrefixOf] at h;rw[h.1];rfl
theorem zkM(s:Sg07.Bytes):(Sg07.names.find? fun x=>(Sg07.ascii x.1).isPrefixOf s)=(fuL.find? fun f=>(zaz f).isPrefixOf s).map ziW:=by
 have e:Sg07.names=[ziW (.fn .sum),ziW (.fn .min),ziW (.fn .max),ziW (.fn .count),ziW .iff]:=rfl;rw[e];unfold fuL;simp only[zCd,List.find?_nil,zkA];obtain⟨b1,b2,b3,b4,b5⟩:=fuB;by_cases h:(zaz .iff).isPrefixOf s=true
 ·have hh:=h;rw[b1] at hh;have hs:=zjH hh;have no:∀x b,x≠(73:UInt8)->(x::b).isPrefixOf s=false:=fun x b hx=>by
   cases z:(x::b).isPrefixOf s with
   | false=>rfl
   | true=>rw[zjH z] at hs;injection hs with hs;exact absurd hs hx
  rw[h,b2,b3,b4,b5,no _ _ (by decide),no _ _ (by decide),no _ _ (by decide),no _ _ (by decide)];rfl
 ·rw[zAm h];cases (zaz (.fn .sum)).isPrefixOf s<;>cases (zaz (.fn .min)).isPrefixOf s<;>cases (zaz (.fn .max)).isPrefixOf s<;>cases (zaz (.fn .count)).isPrefixOf s<;>rfl
def zhZ(s:Sg07.Bytes)(l:List Fu):Nat:=l.foldl (fun m f=>max m (shr (zaz f) s)) 0
theorem zmb(s:Sg07.Bytes)(l:List Fu)(f:Fu):zhZ s (l++[f])=max (zhZ s l) (shr (zaz f) s):=by unfold zhZ;rw[List.foldl_append];rfl
theorem zd2(s:Sg07.Bytes):Sg07.along s=zhZ s fuL:=by
 have e:Sg07.along s=max (max (max (max (max 0 (shr (zaz (.fn .sum)) s)) (shr (zaz (.fn .min)) s)) (shr (zaz (.fn .max)) s)) (shr (zaz (.fn .count)) s)) (shr (zaz .iff) s):=rfl;have e2:zhZ s fuL=max (max (max (max (max 0 (shr (zaz .iff) s)) (shr (zaz (.fn .sum)) s)) (shr (zaz (.fn .min)) s)) (shr (zaz (.fn .max)) s)) (shr (zaz (.fn .count)) s):=rfl;rw[e,e2];generalize shr _ s=a,shr _ s=b,shr _ s=c,shr _ s=d,shr _ s=f;rw[Nat.max_right_comm _ b a,Nat.max_right_comm _ c a,Nat.max_right_comm _ d a,Nat.max_right_comm _ f a]
theorem zpO(b s:Sg07.Bytes):shr b s<=b.length:=by
 unfold shr;exact zBp (zCz _).length_le (by rw[List.length_zip];omega)
theorem zeM:∀(b s:Sg07.Bytes) (k:Nat),k<=shr b s->s.take k=b.take k
 | _,_,0,_=>by simp
 | [],s,k+1,h=>by simp[shr] at h
 | x::b,[],k+1,h=>by simp[shr] at h
 | x::b,y::s,k+1,h=>by
  by_cases e:x=y
  ·subst e;have e2:shr (x::b) (x::s)=shr b s+1:=by unfold shr;rw[zEc,zBb];simp
   rw[zDb,zDb,zeM b s k (by omega)]
  ·have e2:shr (x::b) (y::s)=0:=by unfold shr;rw[zEc,zBb];simp[e]
   omega
theorem zgW(b s:Sg07.Bytes):shr b s=b.length↔b.isPrefixOf s=true:=by
 rw[List.isPrefixOf_iff_prefix,List.prefix_iff_eq_take];constructor
 ·intro h;have:=zeM b s b.length (by omega);rw[zBf] at this;exact this.symm
 ·intro h;have hl:b.length<=s.length:=by have:=congrArg List.length h;rw[zBa] at this;omega
  have:=zgV b s b.length (by rw[zBf];exact h) hl (zAi _);rw[List.drop_length] at this;simpa[shr] using this
theorem zhx(s:Sg07.Bytes)(k:Nat)(h1:1<=k)(h2:k<=zhZ s fuL):∃f∈fuL,k<=shr (zaz f) s:=by
 have e2:zhZ s fuL=max (max (max (max (max 0 (shr (zaz .iff) s)) (shr (zaz (.fn .sum)) s)) (shr (zaz (.fn .min)) s)) (shr (zaz (.fn .max)) s)) (shr (zaz (.fn .count)) s):=rfl;rw[e2] at h2;rcases (show k<=shr (zaz .iff) s\/k<=shr (zaz (.fn .sum)) s\/k<=shr (zaz (.fn .min)) s\/k<=shr (zaz (.fn .max)) s\/k<=shr (zaz (.fn .count)) s by omega) with h | h | h | h | h
 ·exact⟨_,by simp[fuL],h⟩
 ·exact⟨_,by simp[fuL],h⟩
 ·exact⟨_,by simp[fuL],h⟩
 ·exact⟨_,by simp[fuL],h⟩
 ·exact⟨_,by simp[fuL],h⟩
theorem zoh{p:Nat}{a b:UInt8}{r:Sg07.Bytes}(ha:a≠36)(hb:b≠36)(hd:Sg07.digit b=false):∃q,Sg07.readRef p (a::b::r)=.error q/\q<=p+1:=by
 unfold Sg07.readRef;have e1:Sg07.dollar p (a::b::r)=(false,p,a::b::r):=by rw[zcj,if_neg (by simp[ha])]
 have e2:∀q,Sg07.dollar q (b::r)=(false,q,b::r):=fun q=>by rw[zcj,if_neg (by simp[hb])]
 rw[e1];dsimp only;rw[e2];by_cases h:65<=a/\a<=80
 ·rw[if_pos h];have:Sg07.readRow (p+1) (b::r)=.error (p+1):=rr0 (by rw[zBb,hd];rfl);rw[this];exact⟨_,rfl,zAi _⟩
 ·rw[if_neg h];exact⟨_,rfl,zDl _⟩
theorem zlV{p:Nat}{s:Sg07.Bytes}(h:∀c,s.head?=some c->c≠36/\zbM ((c.toNat:Nat):Int)=false):Sg07.readRef p s=.error p:=by
 unfold Sg07.readRef;have e1:Sg07.dollar p s=(false,p,s):=by rw[zcj,if_neg (fun z=>(h _ z).1 rfl)]
 rw[e1];cases s with
 | nil=>rfl
 | cons c r =>
  dsimp only;have h2:=(h c rfl).2;rw[if_neg];intro z;unfold zbM at h2;have z1:=UInt8.le_iff_toNat_le.mp z.1;have z2:=UInt8.le_iff_toNat_le.mp z.2;have e1:(65:UInt8).toNat=65:=rfl;have e2:(80:UInt8).toNat=80:=rfl;rw[e1] at z1;rw[e2] at z2;simp at h2;omega
theorem zoi{p q:Nat}{c:UInt8}{r:Sg07.Bytes}(hc:c≠36)(hi:zbM ((c.toNat:Nat):Int)=true)(h:Sg07.readRef p (c::r)=.error q):p+1<=q:=by
 unfold Sg07.readRef at h;have e1:Sg07.dollar p (c::r)=(false,p,c::r):=by rw[zcj,if_neg (by simp[hc])]
 rw[e1] at h;dsimp only at h;have h2:65<=c/\c<=80:=by
  unfold zbM at hi;simp at hi;refine⟨UInt8.le_iff_toNat_le.mpr ?_,UInt8.le_iff_toNat_le.mpr ?_⟩
  ·show 65<=c.toNat;omega
  ·show c.toNat<=80;omega
 rw[if_pos h2] at h;have h3:=zfE (p+1) r;split at h
 ·rename_i e he;have h4:=zha he;injection h with h;omega
 ·cases h
theorem zqA{f:Fu}{s:Sg07.Bytes}(h:2<=shr (zaz f) s):∃a b r,s=a::b::r/\a≠36/\b≠36/\Sg07.digit b=false:=by
 have e:=zeM _ _ 2 h;obtain⟨b1,b2,b3,b4,b5⟩:=fuB;have key:∀x y:UInt8,(zaz f).take 2=[x,y]->x≠36->y≠36->Sg07.digit y=false->∃a b r,s=a::b::r/\a≠36/\b≠36/\Sg07.digit b=false:=fun x y e1 hx hy hd=>by
  rw[e1] at e
  match s,e with
  | [],e=>cases e
  | [a],e=>cases e
  | a::b::r,e =>
   simp at e;obtain⟨rfl,rfl⟩:=e;exact⟨a,b,r,rfl,hx,hy,hd⟩
 rcases f with _ | f
 ·exact key 73 70 (by rw[b1];rfl) (by decide) (by decide) (by decide)
 ·cases f
  ·exact key 83 85 (by rw[b2];rfl) (by decide) (by decide) (by decide)
  ·exact key 77 73 (by rw[b3];rfl) (by decide) (by decide) (by decide)
  ·exact key 77 65 (by rw[b4];rfl) (by decide) (by decide) (by decide)
  ·exact key 67 79 (by rw[b5];rfl) (by decide) (by decide) (by decide)
theorem znG{f:Fu}{s:Sg07.Bytes}(h:1<=shr (zaz f) s):∃a r,s=a::r/\a≠36:=by
 have e:=zeM _ _ 1 h;obtain⟨b1,b2,b3,b4,b5⟩:=fuB;have key:∀x:UInt8,(zaz f).take 1=[x]->x≠36->∃a r,s=a::r/\a≠36:=fun x e1 hx=>by
  rw[e1] at e
  match s,e with
  | [],e=>cases e
  | a::r,e =>
   simp at e;subst e;exact⟨a,r,rfl,hx⟩
 rcases f with _ | f
 ·exact key 73 (by rw[b1];rfl) (by decide)
 ·cases f
  ·exact key 83 (by rw[b2];rfl) (by decide)
  ·exact key 77 (by rw[b3];rfl) (by decide)
  ·exact key 77 (by rw[b4];rfl) (by decide)
  ·exact key 67 (by rw[b5];rfl) (by decide)
theorem zp7{st:Rst}(h:1<Sg07.along st.s\/(Sg07.along st.s=1/\zbM (ahd st.s)=false)):zbR st (st.p+Sg07.along st.s)=.error (st.p+Sg07.along st.s):=by
 unfold zbR;rcases h with h|⟨h,hc⟩
 ·obtain⟨f,_,hf⟩:=zhx st.s 2 (by decide) (by rw[<-zd2];exact h);obtain⟨a,b,r,es,ha,hb,hd⟩:=zqA hf;rw[es] at h ⊢;obtain⟨q,e,hq⟩:=zoh (p:=st.p) (r:=r) ha hb hd;rw[e];dsimp only;rw[Nat.max_eq_right (by omega)]
 ·obtain⟨f,_,hf⟩:=zhx st.s 1 (by decide) (by rw[<-zd2,h];exact zAi _);obtain⟨a,r,es,ha⟩:=znG hf;have e:Sg07.readRef st.p st.s=.error st.p:=zlV fun c hcc=>by
   rw[es] at hcc hc;injection hcc with hcc;subst hcc;exact⟨ha,hc⟩
  rw[e];dsimp only;rw[Nat.max_eq_right (by omega)]
theorem zrh{st:Rst}(h:¬(1<Sg07.along st.s\/(Sg07.along st.s=1/\zbM (ahd st.s)=false))):zbR st (st.p+Sg07.along st.s)=zbR st st.p:=by
 unfold zbR;cases e:Sg07.readRef st.p st.s with
 | ok x=>rfl
 | error q =>
  dsimp only;have hq:=zhb e;by_cases h0:Sg07.along st.s=0
  ·rw[h0];rfl
  ·have h1:Sg07.along st.s=1:=by omega
   obtain⟨f,_,hf⟩:=zhx st.s 1 (by decide) (by rw[<-zd2,h1];exact zAi _);obtain⟨a,r,es,ha⟩:=znG hf;have hcol:zbM (ahd st.s)=true:=by
    cases z:zbM (ahd st.s) with
    | true=>rfl
    | false=>exact absurd (.inr ⟨h1,z⟩) h
   rw[es] at e hcol;have:=zoi ha hcol e;rw[h1,Nat.max_eq_left (by omega),Nat.max_eq_left (by omega)]
end
section
variable{P:Program}{w:World}{K:PySem.W.Frag}{mg:Str->Option Value}{base:Heap}{A:Ad}
noncomputable def nmd (st:Rst):Except Nat (Bool×Rst):=match fuL.find? fun f=>(zaz f).isPrefixOf st.s with
 | some f=>.ok (true,⟨st.p+(zaz f).length,st.s.drop (zaz f).length,st.c,.br (some f) 1::st.d⟩)
 | none=>zbR st (st.p+Sg07.along st.s)
theorem zkK(f:Fu):spl (zdn f++("(" : Str))=bl (zaz f)/\(zdn f).length+1=(zaz f).length/\(zaz f).length<=6:=by
 rcases f with _ | f
 ·decide +kernel
 ·cases f<;>decide +kernel
def Fac(A:Ad)(H:Hp)(rd dx lt lc lp:Addr)(s:Sg07.Bytes)(st:Rst)(Q:VK)(E:XK)(x:Except Nat (Bool×Rst)):Prop:=match x with
 | .error e=>Mis A [rd,lc,lp] H E e
 | .ok (w,st')=>(w=false->dgh st'.s=true->Mis A [rd,lc,lp] H E st'.p)/\∀H',Sb [rd,lc,lp] H H'->RdAt A H' rd dx lt lc lp s st'->Sz st'->st.p<st'.p->Q (.bl w) H'
inductive zhP(A:Ad)(vs:List V)(H:Hp)(Q:VK)(E:XK):Prop
 | mk rd dx lt lc lp s st (_:vs=[.ref rd]) (_:RdAt A H rd dx lt lc lp s st) (_:Sz st) (_:Fac A H rd dx lt lc lp s st Q E (nmd st))
theorem sc_read_named:zam ["self", "longest", "name", "shared"] ["self"] (zag zeQ):=by walk_at "sc"
theorem m_read_named(T:Txt P w K mg A):CaM P w K mg base (CXE P w) A.cRd "read_named" 6 ["self"] (zhP A):=by
 refine zbv T.m_read_named T.clcRd sc_read_named (fun _ _ _ _ h=>?_) fun f _ A' _ s H vs Q E hr h=>?_
 ·obtain⟨rd,dx,lt,lc,lp,s,st,rfl,_⟩:=h;rfl
 ·obtain⟨rd,dx,lt,lc,lp,s,st,rfl,R,hz,q⟩:=h;have ho:=R.o;refine⟨_,(zab (zas (i:=1) sc_read_named.nd rfl (Or.inl rfl) zah) (zab (zbX PassesOwn.leaving rfl (zpX (zb2 T.gFUNCTIONS)) (za3 (i:=2) sc_read_named.nd rfl (Or.inl rfl)) (zab (zas (i:=3) sc_read_named.nd rfl (Or.inl rfl) (za9 (pv 0) (m_shared_with T) hr zat (zaa (zaD zky (pv 2) zaB) zad))) (zab (zaw (zak zeZ (pv 3) (zaF zjb (by rfl) T.blen PySem.boot_len (zaa (pv 2) zad)) (zao _)) (zab (zaE (zbx zAh zAs zAr zaU (zaj (pv 0) rfl) (zaa (zaY (zaa (zan T.gBRACKET) (zaa (pv 2) (zaa zah zad)))) zad))) (zab (zbs (pv 0) (pv 3) zc8) (zac (zai zbS)))) zal) (zac (zas (i:=1) sc_read_named.nd rfl (Or.inl rfl) (zaF (zcV rfl) (by rfl) T.bmax PyProof.Rows.boot_max (zaa (pv 1) (zaa (pv 3) zad)))))))) (zab (zaw (PW.pt (zcz (zak zeZ (pv 1) zah (zao _)) (zbV (PW.pt (zcK (zak zaK (pv 1) zah (zao _)) (zcf (zbD (za0 (zav (zf6 T) hr zat (zaa (zaR (pv 0) (m_ahead T) hr zat) zad)))))))))) (zac (za7 T hr zby (zaa (zaD zbf (zaj (pv 0) rfl) (pv 1)) zad))) zal) (zab (zaE (zaR (pv 0) (m_read_reference_or_range T) hr za4)) (zac (zai zbS)))))),?_⟩
  try dsimp only[zaI]
  walk_at "";refine⟨_,rfl,⟨_,T.tFun.sq H⟩,zoZ (xs:=fuL.map fun f=>V.str (zdn f)) (fun i σ H'=>Same H H'/\(fuL.take i).find? (fun f=>(zaz f).isPrefixOf st.s)=none/\∃x2 x3,σ=[some (.ref rd),some (.int ((zhZ st.s (fuL.take i):Nat):Int)),x2,x3])
   ⟨Same.refl H,rfl,_,_,rfl⟩ (fun i σ H' _ hP=>T.tFun.sq H') (fun i y σ H' hy hP=>?_) (fun σ H' hP=>?_)⟩
  ·obtain⟨s1,hn,x2,x3,rfl⟩:=hP;rw[zBl] at hy;obtain⟨f,hf,rfl⟩:=Option.map_eq_some_iff.mp hy;have R1:=R.same s1;have ho1:=R1.o;obtain⟨fs1,fs2,fs3⟩:=zkK f;walk_at "";refine zay R1.o rfl ?_;walk_at "";refine⟨_,_,rfl,rfl,zar (by show(zdn f).length+1<=_;omega),?_⟩;walk_at "";refine⟨rd,dx,lt,lc,lp,s,st,_,zaz f,rfl,R1,fs1,by omega,fun H2 s2=>?_⟩;have R2:=R1.same s2;have ho2:=R2.o;walk_at "";refine⟨_,rfl,zar (by omega),?_⟩;walk_at "";have hle:=zpO (zaz f) st.s;refine zbg (fun h1=>?_) (fun h1=>?_)
   ·have hp:(zaz f).isPrefixOf st.s=true:=(zgW _ _).mp (by have:=zAf h1;omega);have hsh:shr (zaz f) st.s=(zaz f).length:=(zgW _ _).mpr hp;have hfind:fuL.find? (fun f=>(zaz f).isPrefixOf st.s)=some f:=by
     rw[<-zBt i fuL,zDj,hn];obtain⟨hi,hgi⟩:=List.getElem?_eq_some_iff.mp hf;rw[zBo hi,hgi,zCd,hp];rfl
    have eq':nmd st=.ok (true,⟨st.p+(zaz f).length,st.s.drop (zaz f).length,st.c,.br (some f) 1::st.d⟩):=by unfold nmd;rw[hfind]
    rw[eq'] at q;obtain⟨ps,e2,p2⟩:=R2.d;walk_at "";refine za1 (SqL.of e2) ?_;walk_at "";refine⟨zar (by simp),fun l hl=>?_⟩;obtain⟨H3,e,s3,e3⟩:=zap hl _;rw[<-e];clear e;have R3:=R2.same s3;have hcl:ps.length<sizeLine:=by
     have h1:=p2.1;have h2:=R2.sz;have h3:=R2.le;have h4:=R2.z;rw[zCf] at h1;rw[sizeLine_eq];omega
    walk_at "";refine zaP (s3 _ _ e2) hcl ?_;have P3:PdAt A H3 (.ref l) (.br (some f) 1):=⟨l,_,rfl,e3,rfl⟩;have R4:=R3.pend T (s3 _ _ e2) P3 hz;walk_at "";refine zbN R4.o T.clcRd T.ncRd_place rfl ?_;walk_at "";refine zbt (fs:=[]) R4.o ?_;rw[zce,hsh];have hlen:(zaz f).length<=st.s.length:=by
     have:=(List.isPrefixOf_iff_prefix.mp hp).length_le;exact this
    have R5:=R4.adv T (zaz f).length hlen (((st.p:Nat):Int)+(((zaz f).length:Nat):Int)) (by dsimp only;omega);walk_at "";refine q.2 _ (((((Sb.of s1).trans (Sb.of s2)).trans (Sb.of s3)).trans (zaM (by simp))).trans (zaM (by simp))) R5 ?_ ?_
    ·show st.c.length+(st.d.length+1)<=st.p+(zaz f).length;have:st.c.length+st.d.length<=st.p:=hz;omega
    ·show st.p<st.p+(zaz f).length;omega
   ·have hp:(zaz f).isPrefixOf st.s=false:=by
     cases z:(zaz f).isPrefixOf st.s with
     | false=>rfl
     | true =>
      have:=(zgW _ _).mpr z;have:=zAv (zAm h1);omega
    walk_at "";refine⟨_,_,rfl,?_⟩;rw[maxI];walk_at "";refine⟨s1.trans s2,?_,some (.str (zdn f)),some (.int ((shr (zaz f) st.s:Nat):Int)),?_⟩
    ·rw[zAu,hf,zDj,hn];simp[hp]
    ·have e5:zhZ st.s (fuL.take (i+1))=max (zhZ st.s (fuL.take i)) (shr (zaz f) st.s):=by rw[zAu,hf];exact zmb _ _ _
     rw[e5];rfl
  ·obtain⟨s1,hn,x2,x3,rfl⟩:=hP;rw[show fuL.take (fuL.map fun f=>V.str (zdn f)).length=fuL from rfl] at *;have eq':nmd st=zbR st (st.p+Sg07.along st.s):=by unfold nmd;rw[hn]
   rw[eq'] at q;rw[<-zd2];have R1:=R.same s1;have ho1:=R1.o;have bad:(1<Sg07.along st.s\/(Sg07.along st.s=1/\zbM (ahd st.s)=false))->∀d,H' d=none->E (.ref A.cMi) (some d) (upd H' d (.xd [("place",.int (((st.p:Nat):Int)+((Sg07.along st.s:Nat):Int)))])):=fun hb d hd=>by
    rw[zp7 hb] at q;have:=(Mis.from q (Sb.of s1)).at d hd;rw[Int.natCast_add] at this;exact this
   have good:¬(1<Sg07.along st.s\/(Sg07.along st.s=1/\zbM (ahd st.s)=false))->zbp A [.ref rd] H' (fun _ H1=>Q (.bl false) H1) E:=fun hb=>by
    rw[zrh hb] at q;refine⟨rd,dx,lt,lc,lp,s,st,rfl,R1,hz,?_⟩;unfold Fac at q;cases eb:zbR st st.p with
    | error e=>rw[eb] at q;exact Mis.from q (Sb.of s1)
    | ok x =>
     obtain⟨w',st'⟩:=x;rw[eb] at q;have hw:w'=false:=by
      unfold zbR at eb
      repeat' split at eb
      all_goals first|(cases eb;rfl) | cases eb
     subst hw;exact⟨fun hd=>Mis.from (q.1 rfl hd) (Sb.of s1),fun H2 sb2 R2 z2 lt2=>q.2 H2 ((Sb.of s1).trans sb2) R2 z2 lt2⟩
   walk_at "";refine zbg (fun h1=>?_) (fun h1=>?_)
   ·have h2:1<Sg07.along st.s:=by have:=zAf h1;omega
    refine zhY ?_;walk_at "";exact⟨_,rfl,bad (.inl h2)⟩
   ·have h2:=zAv (zAm h1);walk_at "";refine zbg (fun h3=>?_) (fun h3=>?_)
    ·have h4:Sg07.along st.s=1:=by have:=zAf h3;injection this with this;omega
     walk_at "";refine zay R1.o rfl ?_;walk_at "";refine⟨rd,dx,lt,lc,lp,s,st,rfl,R1,?_⟩;walk_at "";refine⟨_,rfl,?_⟩;walk_at "";cases hcol:zbM (ahd st.s) with
     | false =>
      refine itP rfl ?_;walk_at "";exact⟨_,rfl,bad (.inr ⟨h4,hcol⟩)⟩
     | true =>
      refine itN (by decide) ?_;walk_at "";refine zay R1.o rfl ?_;walk_at "";exact good (fun z=>z.elim (fun z=>by omega) fun z=>by rw[hcol] at z;cases z.2)
    ·have h4:Sg07.along st.s≠1:=fun z=>h3 (by rw[z];exact zBh rfl);refine znt ?_;walk_at "";refine zay R1.o rfl ?_;walk_at "";refine good (fun z=>?_);rcases z with z | z
     ·omega
     ·exact h4 z.1
end
section
variable{P:Program}{w:World}{K:PySem.W.Frag}{mg:Str->Option Value}{base:Heap}{A:Ad}
theorem zpy(st:Rst):bf st=if st.s.head?=some 45 then .ok (true,⟨st.p+1,st.s.tail,st.c,.neg::st.d⟩) else if st.s.head?=some 40 then .ok (true,⟨st.p+1,st.s.tail,st.c,.br none 1::st.d⟩)
  else if dgh st.s=true then .ok (false,⟨st.p+(d18 st.s).length,st.s.drop (d18 st.s).length,st.c++[.num (Sg07.number (d18 st.s))],st.d⟩) else nmd st:=by
 unfold bf;cases es:st.s with
 | nil =>
  show Except.error st.p=_;simp only[List.head?_nil,reduceCtorEq,if_false,dgh,zCw];have h1:Sg07.along ([]:Sg07.Bytes)=0:=by decide +kernel
  have h2:(fuL.find? fun f=>(zaz f).isPrefixOf ([]:Sg07.Bytes))=none:=by decide +kernel
  have h3:Sg07.readRef st.p []=.error st.p:=rfl;unfold nmd;rw[es,h2];unfold zbR;rw[es,h3,h1];simp
 | cons c r =>
  dsimp only;by_cases h1:c=45
  ·have k1:(c::r).head?=some (45:UInt8):=by rw[h1];rfl
   rw[if_pos h1,if_pos k1];rfl
  ·have k1:¬(c::r).head?=some (45:UInt8):=fun z=>h1 (zBd z);rw[if_neg h1,if_neg k1];by_cases h2:c=40
   ·have k2:(c::r).head?=some (40:UInt8):=by rw[h2];rfl
    rw[if_pos h2,if_pos k2];rfl
   ·have k2:¬(c::r).head?=some (40:UInt8):=fun z=>h2 (zBd z);rw[if_neg h2,if_neg k2];by_cases h3:Sg07.digit c=true
    ·rw[if_pos h3,if_pos (show dgh (c::r)=true from h3)]
    ·rw[if_neg h3,if_neg (show¬dgh (c::r)=true from h3),zkM];unfold nmd;rw[es];cases fuL.find? fun f=>(zaz f).isPrefixOf (c::r) with
     | none=>rfl
     | some f =>
      simp only[zDa];rw[zoF,znh]
inductive zgj(A:Ad)(vs:List V)(H:Hp)(Q:VK)(E:XK):Prop
 | mk rd dx lt lc lp s st (_:vs=[.ref rd]) (_:RdAt A H rd dx lt lc lp s st) (_:Sz st) (_:Fac A H rd dx lt lc lp s st Q E (bf st))
theorem zgp:zam ["self"] ["self"] (zag zdF):=by walk_at "sc"
theorem m_begin_factor(T:Txt P w K mg A):CaM P w K mg base (CXE P w) A.cRd "begin_factor" 7 ["self"] (zgj A):=by
 refine zbv T.m_begin_factor T.clcRd zgp (fun _ _ _ _ h=>?_) fun f _ A' _ s H vs Q E hr h=>?_
 ·obtain⟨rd,dx,lt,lc,lp,s,st,rfl,_⟩:=h;rfl
 ·obtain⟨rd,dx,lt,lc,lp,s,st,rfl,R,hz,q⟩:=h;have ho:=R.o;rw[zpy] at q;have hz':st.c.length+st.d.length<=st.p:=hz;have room:∀ {H1:Hp}{st1:Rst} (R1:RdAt A H1 rd dx lt lc lp s st1),∃ps cs,H1 lp=some (.lst ps)/\H1 lc=some (.lst cs)/\ps.length<sizeLine/\cs.length<sizeLine:=fun{H1 st1} R1=>by
   obtain⟨ps,e2,p2⟩:=R1.d;obtain⟨cs,e1,p1⟩:=R1.c;have h1:=p2.1;have h5:=p1.1;have h2:=R1.sz;have h3:=R1.le;have h4:=R1.z;rw[zCf] at h1;rw[sizeLine_eq];exact⟨ps,cs,e2,e1,by omega,by omega⟩
  refine⟨_,(zab (zaw (za0 (za9 (pv 0) (m_passes T) hr zat (zaa (zan T.gMINUS) zad))) (zab (zaE (zbx zAh zAs zAr zaU (zaj (pv 0) rfl) (zaa (zaY (zaa (zan T.gFACTOR) (zaa (zaY (zaa zaB zad)) zad))) zad))) (zac (zai zbS))) zal) (zab (zaw (za0 (za9 (pv 0) (m_passes T) hr zat (zaa (zan T.gOPENING) zad))) (zab (zaE (zbx zAh zAs zAr zaU (zaj (pv 0) rfl) (zaa (zaY (zaa (zan T.gBRACKET) (zaa zaB (zaa zah zad)))) zad))) (zac (zai zbS))) zal) (zab (zaw (za0 (zav (zeD T) hr zat (zaa (zaR (pv 0) (m_ahead T) hr zat) zad))) (zab (zaE (zbx zAh zAs zAr zaU (zaj (pv 0) rfl) (zaa (zaY (zaa zaB (zaa (zaR (pv 0) (m_read_digits T) hr za4) zad))) zad))) (zac (zai zbS))) zal) (zac (zai (zaR (pv 0) (m_read_named T) hr za4)))))),?_⟩
  try dsimp only[zaI]
  walk_at "";refine zay R.o rfl ?_;walk_at "";refine⟨rd,dx,lt,lc,lp,s,st,45,rfl,R,fun h45=>?_,fun h45 H1 sb1 R1=>?_⟩
  ·rw[if_neg h45] at q;walk_at "";refine itN zAc ?_;walk_at "";refine zay R.o rfl ?_;walk_at "";refine⟨rd,dx,lt,lc,lp,s,st,40,rfl,R,fun h40=>?_,fun h40 H1 sb1 R1=>?_⟩
   ·rw[if_neg h40] at q;walk_at "";refine itN zAc ?_;walk_at "";refine zay R.o rfl ?_;walk_at "";refine⟨rd,dx,lt,lc,lp,s,st,rfl,R,?_⟩;walk_at "";refine⟨_,rfl,?_⟩;rw[zi8];walk_at "";refine zbg (fun hd=>?_) (fun hd=>?_)
    ·rw[if_pos hd] at q;obtain⟨ps,cs,e2,e1,r1,r2⟩:=room R;walk_at "";refine za1 (SqL.of e1) ?_;walk_at "";refine zay R.o rfl ?_;walk_at "";have hne:d18 st.s≠[]:=fun z=>by
      cases es:st.s with
      | nil=>rw[es] at hd;cases hd
      | cons c r =>
       rw[es] at hd z;unfold d18 at z;rw[zBb,if_pos (show Sg07.digit c=true from hd)] at z;simp at z
     have hpos:0<(d18 st.s).length:=List.length_pos_iff.mpr hne;refine⟨rd,dx,lt,lc,lp,s,st,rfl,R,fun z=>absurd z hne,fun _ H1 sb1 R1=>?_⟩;walk_at "";refine⟨zar (by simp),fun l hl=>?_⟩;obtain⟨H2,e,s2,e3⟩:=zap hl _;rw[<-e];clear e;have R2:=R1.same s2;obtain⟨ps2,cs2,f2,f1,g1,g2⟩:=room R2;walk_at "";refine zaP f1 g2 ?_;walk_at "";have hlt:Sg07.number (d18 st.s)<10 ^ 18:=by
      have h1:=zig (d18 st.s) fun c hc=>zi7 c (zDx hc);have h2:(d18 st.s).length<=18:=by unfold d18;rw[zBa];omega
      exact zAq h1 (Nat.pow_le_pow_right (by decide) h2)
     have I2:ItemAt A H2 (.ref l) (.num (Sg07.number (d18 st.s))):=⟨l,_,rfl,e3,hlt,rfl⟩;have hz1:Sz ⟨st.p+(d18 st.s).length,st.s.drop (d18 st.s).length,st.c,st.d⟩:=by show st.c.length+st.d.length<=st.p+(d18 st.s).length;omega
     refine q.2 _ ((sb1.trans (Sb.of s2)).trans (zaM (by simp))) (R2.push T f1 I2 hz1) ?_ ?_
     ·show(st.c++[_]).length+st.d.length<=st.p+(d18 st.s).length;rw[zAa,zAt];omega
     ·show st.p<st.p+(d18 st.s).length;omega
    ·rw[if_neg hd] at q;walk_at "";refine zay R.o rfl ?_;walk_at "";exact⟨rd,dx,lt,lc,lp,s,st,rfl,R,hz,q⟩
   ·rw[if_pos h40] at q;walk_at "";refine itP rfl ?_;obtain⟨ps,cs,e2,e1,r1,r2⟩:=room R1;have ho1:=R1.o;walk_at "";refine za1 (SqL.of e2) ?_;walk_at "";refine⟨zar (by simp),fun l hl=>?_⟩;obtain⟨H2,e,s2,e3⟩:=zap hl _;rw[<-e];clear e;have R2:=R1.same s2;walk_at "";refine zaP (s2 _ _ e2) r1 ?_;walk_at "";have P2:PdAt A H2 (.ref l) (.br none 1):=⟨l,_,rfl,e3,rfl⟩;have hz1:Sz ⟨st.p+1,st.s.tail,st.c,st.d⟩:=by show st.c.length+st.d.length<=st.p+1;omega
    refine q.2 _ ((sb1.trans (Sb.of s2)).trans (zaM (by simp))) (R2.pend T (s2 _ _ e2) P2 hz1) ?_ ?_
    ·show st.c.length+(st.d.length+1)<=st.p+1;omega
    ·show st.p<st.p+1;omega
  ·rw[if_pos h45] at q;walk_at "";refine itP rfl ?_;obtain⟨ps,cs,e2,e1,r1,r2⟩:=room R1;have ho1:=R1.o;walk_at "";refine za1 (SqL.of e2) ?_;walk_at "";refine⟨zar (by simp),fun l0 hl0=>?_⟩;obtain⟨H2,e,s2,e3⟩:=zap hl0 _;rw[<-e];clear e;walk_at "";refine⟨zar (by simp),fun l hl=>?_⟩;obtain⟨H3,e,s3,e4⟩:=zap hl _;rw[<-e];clear e;have R3:=(R1.same s2).same s3;walk_at "";refine zaP (s3 _ _ (s2 _ _ e2)) r1 ?_;walk_at "";have P3:PdAt A H3 (.ref l) .neg:=⟨l,_,rfl,e4,_,⟨l0,_,rfl,s3 _ _ e3,rfl⟩,rfl⟩;have hz1:Sz ⟨st.p+1,st.s.tail,st.c,st.d⟩:=by show st.c.length+st.d.length<=st.p+1;omega
   refine q.2 _ (((sb1.trans (Sb.of s2)).trans (Sb.of s3)).trans (zaM (by simp))) (R3.pend T (s3 _ _ (s2 _ _ e2)) P3 hz1) ?_ ?_
   ·show st.c.length+(st.d.length+1)<=st.p+1;omega
   ·show st.p<st.p+1;omega
inductive zgg(A:Ad)(vs:List V)(H:Hp)(Q:VK)(E:XK):Prop
 | mk rd dx lt lc lp s st (l:Nat) (_:vs=[.ref rd,.int ((l:Nat):Int)]) (_:1<=l) (_:RdAt A H rd dx lt lc lp s st) (_:Sz st) (_:∀H',Sb [rd,lc,lp] H H'->RdAt A H' rd dx lt lc lp s ⟨st.p,st.s,(fin l st.c st.d).1,(fin l st.c st.d).2⟩->Sz ⟨st.p,st.s,(fin l st.c st.d).1,(fin l st.c st.d).2⟩->Q .non H')
theorem zgo:zam ["self", "loosest"] ["self", "loosest"] (zag zdD):=by walk_at "sc"
inductive FsI(A:Ad)(H:Hp)(rd dx lt lc lp:Addr)(s:Sg07.Bytes)(st:Rst)(l:Nat)(m:Nat)(σ:St)(H':Hp):Prop
 | mk c d (_:m=d.length) (_:Sb [rd,lc,lp] H H') (_:RdAt A H' rd dx lt lc lp s ⟨st.p,st.s,c,d⟩) (_:Sz ⟨st.p,st.s,c,d⟩) (_:fin l c d=fin l st.c st.d) (_:σ=[some (.ref rd),some (.int ((l:Nat):Int))])
theorem m_finish_signs(T:Txt P w K mg A):CaM P w K mg base CX0 A.cRd "finish_signs" 1 ["self", "loosest"] (zgg A):=by
 refine zbG T.m_finish_signs T.clcRd zgo (fun _ _ _ _ h=>?_) fun f _ A' _ s H vs Q E hr h=>?_
 ·obtain⟨rd,dx,lt,lc,lp,s,st,l,rfl,_⟩:=h;rfl
 ·obtain⟨rd,dx,lt,lc,lp,s,st,l,rfl,hl1,R,hz,q⟩:=h;refine⟨_,(zac (zcp PassesOwn.never (PW.pt (zcK (zcZ (zaj (pv 0) rfl) (fun _=>rfl)) (zcf (zak zna (zau zax (zau zaG (zaj (pv 0) rfl) (zcc zbz zah) (fun _ _=>rfl)) zah (fun _ _=>rfl)) (pv 1) (zao _))))) (zac (zaE (zbx zAh zAs zAr zaU (zaj (pv 0) rfl) (zaa (zau zax (zcq zAh zBn zBm zcs (zaj (pv 0) rfl)) zah (fun _ _=>rfl)) zad)))))),?_⟩
  try dsimp only[zaI]
  walk_at "";refine zhp (FsI A H rd dx lt lc lp s st l) st.d.length ⟨st.c,st.d,rfl,Sb.refl _ _,R,hz,rfl,rfl⟩ fun m σ H' hP=>?_;obtain⟨c,d,rfl,sb,R',hz',ef,rfl⟩:=hP;have ho':=R'.o;have hzz:c.length+d.length<=st.p:=hz';walk_at "";cases d with
  | nil =>
   refine⟨false,.inl ⟨[],SqL.of (R'.empty rfl),rfl⟩,?_⟩;refine itN zAc ?_;refine itN zAc ?_;rw[zlt] at ef;rw[<-ef] at q;exact q H' sb R' hz'
  | cons pd d =>
   obtain⟨ps,v,e1,Pd',p3⟩:=R'.top rfl;obtain⟨a,xs,rfl,ea,ip⟩:=Pd'.ex;refine⟨true,.inl ⟨_,SqL.of e1,by simp⟩,?_⟩;refine itP rfl ?_;walk_at "";refine zaQ (SqL.of e1) (zbq _ _) ?_;walk_at "";refine zaq (SqT.of ea) (zm8 ip) ?_;walk_at "";refine zbg (fun h1=>?_) (fun h1=>?_)
   ·have ht:l<=pd.t:=by have:=zAf h1;omega
    refine whB ?_;obtain⟨cs,ec,pc⟩:=R'.c;have hcl:cs.length<sizeLine:=by
     have h1:=pc.1;have h2:=R'.sz;have h3:=R'.le;have h4:=R'.z;dsimp only at h1 h2 h3;rw[sizeLine_eq];omega
    obtain⟨v,I,ev⟩:=zm9 ip (by omega);walk_at "";refine za1 (SqL.of ec) ?_;walk_at "";refine za1 (SqL.of e1) ?_;refine zdL e1 ?_;have R2:=R'.pop T rfl e1 p3;have k2:=R'.keep T (zaM (H:=H') (o:=.lst ps) (show lp∈[rd,lc,lp] by simp));walk_at "";refine zaq (SqT.of (k2 _ _ ea trivial)) ev ?_;walk_at "";have ec2:upd H' lp (.lst ps) lc=some (.lst cs):=by rw[zae R'.n3];exact ec
    refine zaP ec2 hcl ?_;have hz2:Sz ⟨st.p,st.s,c,d⟩:=by show c.length+d.length<=st.p;simp only[zAb] at hzz;omega
    have R3:=R2.push T ec2 (I.keep k2) hz2;refine⟨d.length,by simp,c++[pd.item],d,rfl,(sb.trans (zaM (by simp))).trans (zaM (by simp)),R3,?_,?_,rfl⟩
    ·show(c++[_]).length+d.length<=st.p;rw[zAa,zAt];simp only[zAb] at hzz;omega
    ·rw[<-ef,zch ht]
   ·have ht:pd.t<l:=by have:=zAv (zAm h1);omega
    rw[zb5 ht] at ef;rw[<-ef] at q;exact q H' sb R' hz'
end
section
variable{P:Program}{w:World}{K:PySem.W.Frag}{mg:Str->Option Value}{base:Heap}{A:Ad}
theorem znl{pd:Pd}(h:pd.t<1):∃f k,pd=.br f k:=by
 cases pd with
 | neg=>exact absurd h (by show¬4<1;decide)
 | sgn g=>exact absurd h (by rcases g with o | o<;>cases o<;>decide)
 | br f k=>exact⟨f,k,rfl⟩
def zmk(A:Ad)(H:Hp)(rd dx lt lc lp:Addr)(s:Sg07.Bytes)(st:Rst)(Q:VK)(E:XK)(x:Except Nat (Bool×Rst)):Prop:=match x with
 | .error e=>Mis A [rd,lc,lp] H E e
 | .ok (_,st')=>∀H',Sb [rd,lc,lp] H H'->RdAt A H' rd dx lt lc lp s st'->Sz st'->st.p<st'.p->Q .non H'
theorem zmT{ps:List V}{v u:V}:ixN (ps++[v]).length (-1)=some ps.length/\(ps++[v]).set ps.length u=ps++[u]:=by
 constructor
 ·unfold ixN;rw[if_neg (by decide),if_pos (by rw[zAa,zAt];omega),zAa,zAt];congr 1;omega
 ·rw[List.set_append_right _ _ (zAi _)];simp
theorem zpp(f:Option Fu):decide (V.str (zgx f)=V.str "IF")=decide (f=some .iff):=by
 rcases f with _ | f
 ·decide
 ·rcases f with _ | f
  ·decide
  ·cases f<;>decide
theorem zng(f:Option Fu):decide (V.str (zgx f)=V.str "")=decide (f=none):=by
 rcases f with _ | f
 ·decide
 ·rcases f with _ | f
  ·decide
  ·cases f<;>decide
inductive zfm(A:Ad)(vs:List V)(H:Hp)(Q:VK)(E:XK):Prop
 | mk rd dx lt lc lp s st (_:vs=[.ref rd]) (_:RdAt A H rd dx lt lc lp s st) (_:Sz st) (_:st.s≠[]) (_:zmk A H rd dx lt lc lp s st Q E (closeB st.p st.s.tail (fin 1 st.c st.d)))
theorem sc_close_bracket:zam ["self", "name", "parts"] ["self"] (zag zdh):=by walk_at "sc"
theorem m_close_bracket(T:Txt P w K mg A):CaM P w K mg base (CXE P w) A.cRd "close_bracket" 3 ["self"] (zfm A):=by
 refine zbv T.m_close_bracket T.clcRd sc_close_bracket (fun _ _ _ _ h=>?_) fun f _ A' _ s H vs Q E hr h=>?_
 ·obtain⟨rd,dx,lt,lc,lp,s,st,rfl,_⟩:=h;rfl
 ·obtain⟨rd,dx,lt,lc,lp,s,st,rfl,R,hz,hne,q⟩:=h;refine⟨_,(zab (zaE (za9 (pv 0) (m_finish_signs T) hr zat (zaa (zan T.gCOMPARISON) zad))) (zab (zaw (zbD (zcZ (zaj (pv 0) rfl) (fun _=>rfl))) (zac (za7 T hr zby (zaa (zaj (pv 0) rfl) zad))) zal) (zab (zas (i:=1) sc_close_bracket.nd rfl (Or.inl rfl) (zau zax (zau zaG (zaj (pv 0) rfl) (zcc zbz zah) (fun _ _=>rfl)) zah (fun _ _=>rfl))) (zab (zas (i:=2) sc_close_bracket.nd rfl (Or.inl rfl) (zau zax (zau zaG (zaj (pv 0) rfl) (zcc zbz zah) (fun _ _=>rfl)) zah (fun _ _=>rfl))) (zab (zaw (PW.pt (zcK (zak zaK (pv 1) zaB (zao _)) (zcf (zak zcd (pv 2) (zan T.gPARTS_OF_IF) (zao _))))) (zac (za7 T hr zby (zaa (zaj (pv 0) rfl) zad))) zal) (zab (zaw (zak zei (pv 1) zaB (zao _)) (zac (zaE (zbx zAh zAs zAr zaU (zaj (pv 0) rfl) (zaa (zaY (zaa zaB (zaa (pv 1) (zaa (pv 2) zad)))) zad)))) zal) (zab (zaE (zcq zAh zBn zBm zcs (zaj (pv 0) rfl))) (zac (zbs (pv 0) zah zc8))))))))),?_⟩
  try dsimp only[zaI]
  walk_at "";refine zay R.o rfl ?_;walk_at "";refine⟨rd,dx,lt,lc,lp,s,st,1,rfl,zAi _,R,hz,fun H1 sb1 R1 hz1=>?_⟩;have hlow:=zgF 1 st.d st.c;generalize fin 1 st.c st.d=cd at q R1 hz1 hlow;obtain⟨c,d⟩:=cd;dsimp only at q R1 hz1 hlow;have ho1:=R1.o;have hzz:c.length+d.length<=st.p:=hz1;have hl1:1<=st.s.length:=List.length_pos_iff.mpr hne;walk_at "";cases d with
  | nil =>
   refine⟨false,.inl ⟨[],SqL.of (R1.empty rfl),rfl⟩,?_⟩;refine itP rfl ?_;walk_at "";exact⟨_,rfl,(Mis.from q sb1).at⟩
  | cons pd d =>
   obtain⟨f,k,rfl⟩:=znl hlow;obtain⟨ps,v,e1,Pd',p3⟩:=R1.top rfl;obtain⟨a,xs,rfl,ea,ip⟩:=Pd'.ex;obtain rfl:xs=[.int 0,.str (zgx f),.int (k:Nat)]:=ip;refine⟨true,.inl ⟨_,SqL.of e1,by simp⟩,?_⟩;refine itN (by decide) ?_;walk_at "";refine zaQ (SqL.of e1) (zbq _ _) ?_;walk_at "";refine zaq (SqT.of ea) (i:=1) (v:=.str (zgx f)) rfl ?_;walk_at "";refine zaQ (SqL.of e1) (zbq _ _) ?_;walk_at "";refine zaq (SqT.of ea) (i:=2) (v:=.int (k:Nat)) rfl ?_;walk_at "";rw[zpp];have done:∀H2 c2,Sb [rd,lc,lp] H H2->RdAt A H2 rd dx lt lc lp s ⟨st.p,st.s,c2,.br f k::d⟩->c2.length+d.length<=st.p+1->(∀H',Sb [rd,lc,lp] H H'->RdAt A H' rd dx lt lc lp s ⟨st.p+1,st.s.tail,c2,d⟩->Sz ⟨st.p+1,st.s.tail,c2,d⟩->st.p<st.p+1->Q .non H') ->
     zgL (zgM (zpL K "list" zpT (zcJ K (zaX 0) "pending"))) (zeV K (zaX 0) (tC (.int 1)) zm0 "place") {nx:=fun _ H'=>Q .non H',rt:=Q} [some (.ref rd),some (.str (zgx f)),some (.int (k:Nat))] H2:=fun H2 c2 sb2 R2 hc2 q2=>by
    have ho2:=R2.o;obtain⟨ps2,v2,f1,_,g3⟩:=R2.top rfl;walk_at "";refine za1 (SqL.of f1) ?_;refine zdL f1 ?_;have R3:=R2.pop T rfl f1 g3;walk_at "";refine zbN R3.o T.clcRd T.ncRd_place rfl ?_;walk_at "";refine zbt (fs:=[]) R3.o ?_;rw[zce];have R4:=R3.adv T 1 hl1 (((st.p:Nat):Int)+1) (by dsimp only;omega);rw[List.drop_one] at R4;exact q2 _ ((sb2.trans (zaM (by simp))).trans (zaM (by simp))) R4 hc2 (zCo _)
   by_cases hf:f=some .iff
   ·refine itP (zBh hf) ?_;walk_at "";subst hf;refine zbg (fun h1=>?_) (fun h1=>?_)
    ·have hk:k<3:=by have:=zAf h1;omega
     have eq':closeB st.p st.s.tail (c,.br (some .iff) k::d)=.error st.p:=by unfold closeB;dsimp only;rw[if_pos ⟨rfl,hk⟩]
     rw[eq'] at q;walk_at "";exact⟨_,rfl,(Mis.from q sb1).at⟩
    ·have hk:¬k<3:=by have:=zAv (zAm h1);omega
     have eq':closeB st.p st.s.tail (c,.br (some .iff) k::d)=.ok (false,⟨st.p+1,st.s.tail,c++[.fu .iff k],d⟩):=by unfold closeB;dsimp only;rw[if_neg (fun z=>hk z.2)]
     rw[eq'] at q;walk_at "";rw[zng];refine itP rfl ?_;obtain⟨cs,ec,pc⟩:=R1.c;have hcl:cs.length<sizeLine:=by
      have h1:=pc.1;have h3:=R1.le;have h4:=R1.z;dsimp only at h1 h3;rw[sizeLine_eq];omega
     walk_at "";refine za1 (SqL.of ec) ?_;walk_at "";refine⟨zar (by simp),fun l hl=>?_⟩;obtain⟨H2,e,s2,e2⟩:=zap hl _;rw[<-e];clear e;walk_at "";refine zaP (s2 _ _ ec) hcl ?_;have I2:ItemAt A H2 (.ref l) (.fu .iff k):=⟨l,_,rfl,e2,rfl⟩;have R2:=(R1.same s2).push T (s2 _ _ ec) I2 hz1;refine done _ _ ((sb1.trans (Sb.of s2)).trans (zaM (by simp))) R2 ?_ q;show(c++[_]).length+d.length<=st.p+1;rw[zAa,zAt];simp only[zAb] at hzz;omega
   ·refine itN (by rw[zBq hf];decide) ?_;refine itN (by decide) ?_;walk_at "";rw[zng];rcases f with _ | f
    ·refine itN (by decide) ?_;refine done H1 c sb1 R1 ?_ q;simp only[zAb] at hzz;omega
    ·have hff:¬f=.iff:=fun z=>hf (by rw[z]);have eq':closeB st.p st.s.tail (c,.br (some f) k::d)=.ok (false,⟨st.p+1,st.s.tail,c++[.fu f k],d⟩):=by unfold closeB;dsimp only;rw[if_neg (fun z=>hff z.1)]
     rw[eq'] at q;refine itP rfl ?_;obtain⟨cs,ec,pc⟩:=R1.c;have hcl:cs.length<sizeLine:=by
      have h1:=pc.1;have h3:=R1.le;have h4:=R1.z;dsimp only at h1 h3;rw[sizeLine_eq];omega
     walk_at "";refine za1 (SqL.of ec) ?_;walk_at "";refine⟨zar (by simp),fun l hl=>?_⟩;obtain⟨H2,e,s2,e2⟩:=zap hl _;rw[<-e];clear e;walk_at "";refine zaP (s2 _ _ ec) hcl ?_;have I2:ItemAt A H2 (.ref l) (.fu f k):=⟨l,_,rfl,e2,rfl⟩;have R2:=(R1.same s2).push T (s2 _ _ ec) I2 hz1;refine done _ _ ((sb1.trans (Sb.of s2)).trans (zaM (by simp))) R2 ?_ q;show(c++[_]).length+d.length<=st.p+1;rw[zAa,zAt];simp only[zAb] at hzz;omega
theorem zqn{to ti:TE}{t:zpa}{v:V}{σ:St}{H:Hp}{R:St->Hp->Prop}(h:to σ H fun o H1=>ti σ H1 fun i H2=>t o i v H2 fun H3=>R σ H3):zqz to ti t v σ H R:=h
inductive zer(A:Ad)(vs:List V)(H:Hp)(Q:VK)(E:XK):Prop
 | mk rd dx lt lc lp s st (_:vs=[.ref rd]) (_:RdAt A H rd dx lt lc lp s st) (_:Sz st) (_:st.s≠[]) (_:zmk A H rd dx lt lc lp s st Q E (nextP st.p st.s.tail (fin 1 st.c st.d)))
theorem sc_begin_next_part:zam ["self", "name", "parts"] ["self"] (zag zcy):=by walk_at "sc"
theorem m_begin_next_part(T:Txt P w K mg A):CaM P w K mg base (CXE P w) A.cRd "begin_next_part" 3 ["self"] (zer A):=by
 refine zbv T.m_begin_next_part T.clcRd sc_begin_next_part (fun _ _ _ _ h=>?_) fun f _ A' _ s H vs Q E hr h=>?_
 ·obtain⟨rd,dx,lt,lc,lp,s,st,rfl,_⟩:=h;rfl
 ·obtain⟨rd,dx,lt,lc,lp,s,st,rfl,R,hz,hne,q⟩:=h;refine⟨_,(zab (zaE (za9 (pv 0) (m_finish_signs T) hr zat (zaa (zan T.gCOMPARISON) zad))) (zab (zaw (PW.pt (zcz (zbD (zcZ (zaj (pv 0) rfl) (fun _=>rfl))) (zbV (zak zaK (zau zax (zau zaG (zaj (pv 0) rfl) (zcc zbz zah) (fun _ _=>rfl)) zah (fun _ _=>rfl)) zaB (zao _))))) (zac (za7 T hr zby (zaa (zaj (pv 0) rfl) zad))) zal) (zab (zas (i:=1) sc_begin_next_part.nd rfl (Or.inl rfl) (zau zax (zau zaG (zaj (pv 0) rfl) (zcc zbz zah) (fun _ _=>rfl)) zah (fun _ _=>rfl))) (zab (zas (i:=2) sc_begin_next_part.nd rfl (Or.inl rfl) (zau zax (zau zaG (zaj (pv 0) rfl) (zcc zbz zah) (fun _ _=>rfl)) zah (fun _ _=>rfl))) (zab (zaw (PW.pt (zcK (zak zaK (pv 1) zaB (zao _)) (zcf (zak zaK (pv 2) (zan T.gPARTS_OF_IF) (zao _))))) (zac (za7 T hr zby (zaa (zaj (pv 0) rfl) zad))) zal) (zab (zpW (zaY (zaa (zan T.gBRACKET) (zaa (pv 1) (zaa (zaD zbf (pv 2) zah) zad)))) (zp0 (zaj (pv 0) rfl) (zcc zbz zah) zmS)) (zac (zbs (pv 0) zah zc8)))))))),?_⟩
  try dsimp only[zaI]
  walk_at "";refine zay R.o rfl ?_;walk_at "";refine⟨rd,dx,lt,lc,lp,s,st,1,rfl,zAi _,R,hz,fun H1 sb1 R1 hz1=>?_⟩;have hlow:=zgF 1 st.d st.c;generalize fin 1 st.c st.d=cd at q R1 hz1 hlow;obtain⟨c,d⟩:=cd;dsimp only at q R1 hz1 hlow;have ho1:=R1.o;have hzz:c.length+d.length<=st.p:=hz1;have hl1:1<=st.s.length:=List.length_pos_iff.mpr hne;walk_at "";cases d with
  | nil =>
   refine⟨false,.inl ⟨[],SqL.of (R1.empty rfl),rfl⟩,?_⟩;refine itP rfl ?_;refine itP rfl ?_;walk_at "";exact⟨_,rfl,(Mis.from q sb1).at⟩
  | cons pd d =>
   obtain⟨f,k,rfl⟩:=znl hlow;obtain⟨ps,v,e1,Pd',p3⟩:=R1.top rfl;obtain⟨a,xs,rfl,ea,ip⟩:=Pd'.ex;obtain rfl:xs=[.int 0,.str (zgx f),.int (k:Nat)]:=ip;refine⟨true,.inl ⟨_,SqL.of e1,by simp⟩,?_⟩;refine itN (by decide) ?_;walk_at "";refine zaQ (SqL.of e1) (zbq _ _) ?_;walk_at "";refine zaq (SqT.of ea) (i:=1) (v:=.str (zgx f)) rfl ?_;walk_at "";rw[zng];rcases f with _ | f
   ·refine itP rfl ?_;walk_at "";exact⟨_,rfl,(Mis.from q sb1).at⟩
   ·refine itN (by simp) ?_;walk_at "";refine zaQ (SqL.of e1) (zbq _ _) ?_;walk_at "";refine zaq (SqT.of ea) (i:=1) (v:=.str (zgx (some f))) rfl ?_;walk_at "";refine zaQ (SqL.of e1) (zbq _ _) ?_;walk_at "";refine zaq (SqT.of ea) (i:=2) (v:=.int (k:Nat)) rfl ?_;walk_at "";rw[zpp];have done:¬(f=.iff/\k=3)->zgL (zkg (zlJ (za2 (tC (.int 0)) (za2 (zaX 1) (za2 (tOp (rI0 fun i j=>.int (i+j)) (zaX 2) (tC (.int 1))) zbT)))) (zqz (zcJ K (zaX 0) "pending") (tUn (rU fun i=>.int (-i)) (tC (.int 1))) zpn)) (zeV K (zaX 0) (tC (.int 1)) zm0 "place") {nx:=fun _ H'=>Q .non H',rt:=Q} [some (.ref rd),some (.str (zgx (some f))),some (.int (k:Nat))] H1:=fun hno=>by
     have eq':nextP st.p st.s.tail (c,.br (some f) k::d)=.ok (true,⟨st.p+1,st.s.tail,c,.br (some f) (k+1)::d⟩):=by unfold nextP;dsimp only;rw[if_neg hno]
     rw[eq'] at q;walk_at "";refine⟨zar (by simp),fun l hl=>?_⟩;obtain⟨H2,e,s2,e2⟩:=zap hl _;rw[<-e];clear e;have R2:=R1.same s2;have ho2:=R2.o;obtain⟨hx1,hx2⟩:=zmT (ps:=ps) (v:=.ref a) (u:=.ref l);refine zqn ?_;walk_at "";refine⟨lp,_,-1,_,rfl,rfl,s2 _ _ e1,hx1,?_⟩;rw[hx2];have R3:=R2.pop T rfl (s2 _ _ e1) (p3.mono fun a b z=>z.keep (zaC s2));have k3:=R2.keep T (zaM (H:=H2) (o:=.lst ps) (show lp∈[rd,lc,lp] by simp));have P3:PdAt A (upd H2 lp (.lst ps)) (.ref l) (.br (some f) (k+1)):=⟨l,_,rfl,k3 _ _ e2 trivial,by show _=_;congr 3⟩;have hz3:Sz ⟨st.p,st.s,c,d⟩:=by show c.length+d.length<=st.p;simp only[zAb] at hzz;omega
     have R4:=R3.pend T upd_same P3 hz3;rw[upd_upd] at R4;dsimp only;walk_at "";refine zbN R4.o T.clcRd T.ncRd_place rfl ?_;walk_at "";refine zbt (fs:=[]) R4.o ?_;rw[zce];have R5:=R4.adv T 1 hl1 (((st.p:Nat):Int)+1) (by dsimp only;omega);rw[List.drop_one] at R5;refine q _ (((sb1.trans (Sb.of s2)).trans (zaM (by simp))).trans (zaM (by simp))) R5 ?_ (zCo _);show c.length+(d.length+1)<=st.p+1;simp only[zAb] at hzz;omega
    by_cases hf:f=.iff
    ·subst hf;refine itP rfl ?_;walk_at "";by_cases hk:k=3
     ·refine itP (by rw[hk];exact zBh rfl) ?_;have eq':nextP st.p st.s.tail (c,.br (some .iff) k::d)=.error st.p:=by unfold nextP;dsimp only;rw[if_pos ⟨rfl,hk⟩]
      rw[eq'] at q;walk_at "";exact⟨_,rfl,(Mis.from q sb1).at⟩
     ·refine itN (fun z=>hk (by have:=zAf z;injection this with this;omega)) ?_;exact done (fun z=>hk z.2)
    ·refine itN (fun z=>hf (by have:=zAf z;injection this)) ?_;refine itN (by decide) ?_;exact done (fun z=>hf z.1)
end
section
variable{P:Program}{w:World}{K:PySem.W.Frag}{mg:Str->Option Value}{base:Heap}{A:Ad}
theorem isRng_last{c:List Item}{it:Item}:zfZ (c++[it])=decide (zqc it=("range" : Str)):=by
 unfold zfZ;rw[zDy];cases it<;>first | rfl | decide
theorem zpG(g:Sg):1<=tight g/\tight g<=3:=by rcases g with o | o<;>cases o<;>decide
theorem zmQ{s:Sg07.Bytes}{g:Sg}{n:Nat}(h:zbr s=some (g,n)):n=(zbm g).length/\n<=s.length/\1<=n:=by
 rw[zfo] at h;obtain⟨g',hg,e⟩:=Option.map_eq_some_iff.mp h;obtain⟨rfl,rfl⟩:=Prod.mk.inj e;have h1:=List.find?_some hg;refine⟨rfl,(List.isPrefixOf_iff_prefix.mp h1).length_le,?_⟩;rcases g' with o | o<;>cases o<;>decide +kernel
inductive ziE(A:Ad)(vs:List V)(H:Hp)(Q:VK)(E:XK):Prop
 | mk rd dx lt lc lp s st (_:vs=[.ref rd]) (_:RdAt A H rd dx lt lc lp s st) (_:Sz st) (_:st.c≠[]) (_:zmk A H rd dx lt lc lp s st Q E (zd9 st))
theorem sc_read_sign:zam ["self", "sign", "tightness"] ["self"] (zag zfO):=by walk_at "sc"
theorem m_read_sign(T:Txt P w K mg A):CaM P w K mg base (CXE P w) A.cRd "read_sign" 3 ["self"] (ziE A):=by
 refine zbv T.m_read_sign T.clcRd sc_read_sign (fun _ _ _ _ h=>?_) fun f _ A' _ s H vs Q E hr h=>?_
 ·obtain⟨rd,dx,lt,lc,lp,s,st,rfl,_⟩:=h;rfl
 ·obtain⟨rd,dx,lt,lc,lp,s,st,rfl,R,hz,hne,q⟩:=h;have ho:=R.o;refine⟨_,(zab (zas (i:=1) sc_read_sign.nd rfl (Or.inl rfl) (zav (zmg T) hr zat (zaa (zaj (pv 0) rfl) (zaa (zaj (pv 0) rfl) zad)))) (zab (zaw (PW.pt (zcz (zbJ (zkw (pv 1))) (zbV (zak zaK (zau zax (zau zaG (zaj (pv 0) rfl) (zcc zbz zah) (fun _ _=>rfl)) zah (fun _ _=>rfl)) zaB (zao _))))) (zac (za7 T hr zby (zaa (zaj (pv 0) rfl) zad))) zal) (zab (zas (i:=2) sc_read_sign.nd rfl (Or.inl rfl) (zav (zdP T) hr zat (zaa (pv 1) zad))) (zab (zaE (za9 (pv 0) (m_finish_signs T) hr zat (zaa (zaF (zcV rfl) (by rfl) T.bmax PyProof.Rows.boot_max (zaa (pv 2) (zaa (zan T.gADDITION) zad))) zad))) (zab (zaw (PW.pt (zcK (zak zaK (pv 2) (zan T.gCOMPARISON) (zao _)) (zcK (zcZ (zaj (pv 0) rfl) (fun _=>rfl)) (zcf (zak zaK (zau zax (zau zaG (zaj (pv 0) rfl) (zcc zbz zah) (fun _ _=>rfl)) zah (fun _ _=>rfl)) (zan T.gCOMPARISON) (zao _)))))) (zac (za7 T hr zby (zaa (zaj (pv 0) rfl) zad))) zal) (zab (zaE (zbx zAh zAs zAr zaU (zaj (pv 0) rfl) (zaa (zaY (zaa (pv 2) (zaa (zaY (zaa zaB (zaa (pv 1) zad))) zad))) zad))) (zac (zbs (pv 0) (zaF zaL (by rfl) T.blen PySem.boot_len (zaa (zav (zcL T) hr zat (zaa (pv 1) zad)) zad)) zc8)))))))),?_⟩
  try dsimp only[zaI]
  walk_at "";refine⟨lt,s,st.p,rfl,SqL.of R.t,fun H1 s1=>?_⟩;rw[<-R.rest];have R1:=R.same s1;have ho1:=R1.o;unfold zd9 at q;cases es:zbr st.s with
  | none =>
   rw[es] at q;dsimp only;walk_at "";refine itP rfl ?_;refine itP rfl ?_;walk_at "";exact⟨_,rfl,(Mis.from q (Sb.of s1)).at⟩
  | some x =>
   obtain⟨g,n⟩:=x;obtain⟨hn,hle,hn1⟩:=zmQ es;rw[es] at q;dsimp only at q ⊢;walk_at "";refine itN (by simp) ?_;obtain⟨cs,ec,pc⟩:=R1.c;obtain⟨it,c',ecc⟩:∃it c',st.c=c'++[it]:=⟨st.c.getLast hne,st.c.dropLast,(List.dropLast_concat_getLast hne).symm⟩;rw[ecc] at pc;obtain⟨v,cs',rfl,I,pc'⟩:=pc.snoc_inv;obtain⟨a,xs,rfl,ea,iy⟩:=I.ex;walk_at "";refine zaQ (SqL.of ec) (zbq _ _) ?_;walk_at "";refine zaq (SqT.of ea) (zhm iy) ?_;walk_at "";have er:decide (V.str (zqc it)=V.str "range")=zfZ st.c:=by
    rw[ecc,isRng_last,decide_eq_decide];exact⟨fun z=>by injection z,fun z=>by rw[z]⟩
   rw[er];cases hr:zfZ st.c with
   | true =>
    rw[hr] at q;refine itP rfl ?_;walk_at "";exact⟨_,rfl,(Mis.from q (Sb.of s1)).at⟩
   | false =>
    rw[hr,if_neg zAc] at q;refine itN zAc ?_;walk_at "";refine⟨g,rfl,fun H2 s2=>?_⟩;have R2:=R1.same s2;have ho2:=R2.o;walk_at "";refine zay R2.o rfl ?_;walk_at "";refine⟨_,_,rfl,?_⟩;have em:(if (2:Int) > ((tight g:Nat):Int) then(2:Int) else((tight g:Nat):Int))=((max (tight g) 2:Nat):Int):=maxI (tight g) 2;rw[em];walk_at "";refine⟨rd,dx,lt,lc,lp,s,st,max (tight g) 2,rfl,by omega,R2,hz,fun H3 sb3 R3 hz3=>?_⟩;have hlow:=zgF (max (tight g) 2) st.d st.c;generalize fin (max (tight g) 2) st.c st.d=cd at q R3 hz3 hlow;obtain⟨c,d⟩:=cd;dsimp only at q R3 hz3 hlow;have ho3:=R3.o;have hzz:c.length+d.length<=st.p:=hz3;have sbA:=((Sb.of (l:=[rd,lc,lp]) s1).trans (Sb.of s2)).trans sb3;have htg:=zpG g;have done:¬(tight g=1/\zpF d=true)->zgL (zgM (tBM K "list" zgz (zcJ K (zaX 0) "pending") (za2 (zlJ (za2 (zaX 2) (za2 (zlJ (za2 (tC (.str "sign")) (za2 (zaX 1) zbT))) zbT))) zbT))) (zeV K (zaX 0) (tCB (fun xs H Q=>∃p ys,xs=[.ref p]/\(SqL K H p ys\/SqT K H p ys)/\Q (.int ys.length) H) (za2 (zod zdq E0 (za2 (zaX 1) zbT)) zbT)) zm0 "place") {nx:=fun _ H'=>Q .non H',rt:=Q} [some (.ref rd),some (.str (zdm g)),some (.int ((tight g:Nat):Int))] H3:=fun hno=>by
     rw[if_neg hno] at q;obtain⟨ps,e2,p2⟩:=R3.d;have hcl:ps.length<sizeLine:=by
      have h1:=p2.1;have h3:=R3.le;have h4:=R3.z;rw[zCf] at h1;dsimp only at h1 h3;rw[sizeLine_eq];omega
     walk_at "";refine za1 (SqL.of e2) ?_;walk_at "";refine⟨zar (by simp),fun l0 hl0=>?_⟩;obtain⟨H4,e,s4,e4⟩:=zap hl0 _;rw[<-e];clear e;walk_at "";refine⟨zar (by simp),fun l hl=>?_⟩;obtain⟨H5,e,s5,e5⟩:=zap hl _;rw[<-e];clear e;walk_at "";have R5:=(R3.same s4).same s5;refine zaP (s5 _ _ (s4 _ _ e2)) hcl ?_;have P5:PdAt A H5 (.ref l) (.sgn g):=⟨l,_,rfl,e5,_,⟨l0,_,rfl,s5 _ _ e4,rfl⟩,rfl⟩;have R6:=R5.pend T (s5 _ _ (s4 _ _ e2)) P5 hz3;walk_at "";refine zbN R6.o T.clcRd T.ncRd_place rfl ?_;walk_at "";refine⟨g,rfl,fun l2 H7 s7 hl2 e7=>?_⟩;refine⟨_,_,rfl,.inl (SqL.of e7),?_⟩;have R7:=R6.same s7;walk_at "";refine zbt (fs:=[]) R7.o ?_;rw[zce,bl_length,<-hn];have R8:=R7.adv T n hle (((st.p:Nat):Int)+((n:Nat):Int)) (by dsimp only;omega);refine q _ (((((sbA.trans (Sb.of s4)).trans (Sb.of s5)).trans (zaM (by simp))).trans (Sb.of s7)).trans (zaM (by simp))) R8 ?_ ?_
     ·show c.length+(d.length+1)<=st.p+n;omega
     ·show st.p<st.p+n;omega
    walk_at "";refine zbg (fun h1=>?_) (fun h1=>?_)
    ·have ht1:tight g=1:=by have:=zAf h1;injection this with this;omega
     walk_at "";cases d with
     | nil =>
      refine⟨false,.inl ⟨[],SqL.of (R3.empty rfl),rfl⟩,?_⟩;refine itN zAc ?_;refine itN zAc ?_;exact done (fun z=>by cases z.2)
     | cons pd d =>
      obtain⟨ps,v,e1,Pd',p3⟩:=R3.top rfl;obtain⟨a,xs,rfl,ea,ip⟩:=Pd'.ex;refine⟨true,.inl ⟨_,SqL.of e1,by simp⟩,?_⟩;refine itP rfl ?_;walk_at "";refine zaQ (SqL.of e1) (zbq _ _) ?_;walk_at "";refine zaq (SqT.of ea) (zm8 ip) ?_;walk_at "";by_cases hp1:pd.t=1
      ·refine itP (by rw[hp1];exact zBh rfl) ?_;rw[if_pos ⟨ht1,by show(pd.t == 1)=true;rw[hp1];rfl⟩] at q;walk_at "";exact⟨_,rfl,(Mis.from q sbA).at⟩
      ·refine itN (fun z=>hp1 (by have:=zAf z;injection this with this;omega)) ?_;exact done (fun z=>hp1 (by have:=z.2;exact eq_of_beq this))
    ·refine itN zAc ?_;exact done (fun z=>h1 (by rw[z.1];exact zBh rfl))
end
section
variable{P:Program}{w:World}{K:PySem.W.Frag}{mg:Str->Option Value}{base:Heap}{A:Ad}
theorem znS{p:Nat}{t:Sg07.Bytes}{cd:List Item×List Pd}{w:Bool}{st':Rst}(h:closeB p t cd=.ok (w,st')):w=false:=by
 unfold closeB at h
 repeat' split at h
 all_goals first|(cases h;rfl) | cases h
theorem zll{p:Nat}{t:Sg07.Bytes}{cd:List Item×List Pd}{w:Bool}{st':Rst}(h:nextP p t cd=.ok (w,st')):w=true:=by
 unfold nextP at h
 repeat' split at h
 all_goals first|(cases h;rfl) | cases h
theorem zk4{st:Rst}{w:Bool}{st':Rst}(h:zd9 st=.ok (w,st')):w=true:=by
 unfold zd9 at h
 repeat' split at h
 all_goals first|(cases h;rfl) | cases h
theorem zpx{l:Nat}:∀(d:List Pd) (c:List Item),c≠[]->(fin l c d).1≠[]
 | [],c,h=>h
 | p::d,c,h=>by
  by_cases hp:l<=p.t
  ·rw[zch hp];exact zpx d _ (by simp)
  ·rw[zb5 (by omega)];exact h
theorem znT{p:Nat}{t:Sg07.Bytes}{cd:List Item×List Pd}{w:Bool}{st':Rst}(hc:cd.1≠[])(h:closeB p t cd=.ok (w,st')):st'.c≠[]:=by
 unfold closeB at h
 repeat' split at h
 all_goals first|(cases h;done)|(cases h;first | exact hc | simp)
theorem zrU{st st':Rst}(hc:st.c≠[])(h:gon st=.ok (false,st')):st'.c≠[]:=by
 unfold gon at h;split at h
 ·exact znT (zpx _ _ hc) h
 ·split at h
  ·have:=zll h;cases this
  ·have:=zk4 h;cases this
theorem zo8{st st':Rst}{w:Bool}{e:Nat}(h:zbR st e=.ok (w,st')):st'.c≠[]:=by
 unfold zbR at h
 repeat' split at h
 all_goals first|(cases h;done)|(cases h;simp)
theorem zsm{st st':Rst}(h:bf st=.ok (false,st')):st'.c≠[]:=by
 rw[zpy] at h;split at h
 ·cases h
 ·split at h
  ·cases h
  ·split at h
   ·cases h;simp
   ·unfold nmd at h;split at h
    ·cases h
    ·exact zo8 h
theorem zqI{st:Rst}{r:Except Nat (List Item)}(hd:dgh st.s=true)(h:Run false st r):r=.error st.p:=by
 cases es:st.s with
 | nil=>rw[es] at hd;cases hd
 | cons b t =>
  rw[es] at hd;have hd':Sg07.digit b=true:=hd;obtain⟨h1,h2,h3,h4,h5,_,_⟩:=zf5 (r:=t) hd';have e:gon st=.error st.p:=by
   unfold gon;rw[es,if_neg h4,if_neg h5];unfold zd9;rw[es,zh8 h1 h2 h3]
  cases h with
  | stop h=>rw[es] at h;cases h
  | gerr h g=>rw[e] at g;cases g;rfl
  | gok h g _=>rw[e] at g;cases g
def zr2(A:Ad)(H:Hp)(rd dx lt lc lp:Addr)(s:Sg07.Bytes)(st:Rst)(Q:VK)(E:XK)(x:Except Nat (Bool×Rst)):Prop:=match x with
 | .error e=>Mis A [rd,lc,lp] H E e
 | .ok (w,st')=>∀H',Sb [rd,lc,lp] H H'->RdAt A H' rd dx lt lc lp s st'->Sz st'->st.p<st'.p->Q (.bl w) H'
inductive zmK(A:Ad)(vs:List V)(H:Hp)(Q:VK)(E:XK):Prop
 | mk rd dx lt lc lp s st (_:vs=[.ref rd]) (_:RdAt A H rd dx lt lc lp s st) (_:Sz st) (_:st.c≠[]) (_:st.s≠[]) (_:zr2 A H rd dx lt lc lp s st Q E (gon st))
theorem zmV:zam ["self"] ["self"] (zag zk6):=by walk_at "sc"
theorem m_go_on(T:Txt P w K mg A):CaM P w K mg base (CXE P w) A.cRd "go_on" 4 ["self"] (zmK A):=by
 refine zbv T.m_go_on T.clcRd zmV (fun _ _ _ _ h=>?_) fun f _ A' _ s H vs Q E hr h=>?_
 ·obtain⟨rd,dx,lt,lc,lp,s,st,rfl,_⟩:=h;rfl
 ·obtain⟨rd,dx,lt,lc,lp,s,st,rfl,R,hz,hc,hs,q⟩:=h;have ho:=R.o;refine⟨_,(zab (zaw (zak zaK (zaR (pv 0) (m_ahead T) hr zat) (zan T.gCLOSING) (zao _)) (zab (zaE (zaR (pv 0) (m_close_bracket T) hr za4)) (zac (zai zbS))) zal) (zab (zaw (zak zaK (zaR (pv 0) (m_ahead T) hr zat) (zan T.gCOMMA) (zao _)) (zac (zaE (zaR (pv 0) (m_begin_next_part T) hr za4))) (zac (zaE (zaR (pv 0) (m_read_sign T) hr za4)))) (zac (zai zbS)))),?_⟩
  try dsimp only[zaI]
  walk_at "";refine zay R.o rfl ?_;walk_at "";refine⟨rd,dx,lt,lc,lp,s,st,rfl,R,?_⟩;walk_at "";unfold gon at q;refine zbg (fun h1=>?_) (fun h1=>?_)
  ·have hh:st.s.head?=some 41:=ahd_byte.mp (by have:=zAf h1;injection this);rw[if_pos hh] at q;walk_at "";refine zay R.o rfl ?_;walk_at "";refine⟨rd,dx,lt,lc,lp,s,st,rfl,R,hz,hs,?_⟩;unfold zmk;cases ec:closeB st.p st.s.tail (fin 1 st.c st.d) with
   | error e=>rw[ec] at q;exact q
   | ok x =>
    obtain⟨w',st'⟩:=x;obtain rfl:=znS ec;rw[ec] at q;intro H' sb R' z lt';walk_at "";exact q H' sb R' z lt'
  ·have hh:¬st.s.head?=some 41:=fun z=>h1 (by rw[ahd_byte.mpr z];exact zBh rfl);rw[if_neg hh] at q;walk_at "";refine zay R.o rfl ?_;walk_at "";refine⟨rd,dx,lt,lc,lp,s,st,rfl,R,?_⟩;walk_at "";refine zbg (fun h2=>?_) (fun h2=>?_)
   ·have hh2:st.s.head?=some 44:=ahd_byte.mp (by have:=zAf h2;injection this);rw[if_pos hh2] at q;walk_at "";refine zay R.o rfl ?_;walk_at "";refine⟨rd,dx,lt,lc,lp,s,st,rfl,R,hz,hs,?_⟩;unfold zmk;cases ec:nextP st.p st.s.tail (fin 1 st.c st.d) with
    | error e=>rw[ec] at q;exact q
    | ok x =>
     obtain⟨w',st'⟩:=x;obtain rfl:=zll ec;rw[ec] at q;intro H' sb R' z lt';walk_at "";exact q H' sb R' z lt'
   ·have hh2:¬st.s.head?=some 44:=fun z=>h2 (by rw[ahd_byte.mpr z];exact zBh rfl);rw[if_neg hh2] at q;walk_at "";refine zay R.o rfl ?_;walk_at "";refine⟨rd,dx,lt,lc,lp,s,st,rfl,R,hz,hc,?_⟩;unfold zmk;cases ec:zd9 st with
    | error e=>rw[ec] at q;exact q
    | ok x =>
     obtain⟨w',st'⟩:=x;obtain rfl:=zk4 ec;rw[ec] at q;intro H' sb R' z lt';walk_at "";exact q H' sb R' z lt'
inductive zgc(A:Ad)(vs:List V)(H:Hp)(Q:VK)(E:XK):Prop
 | mk rd dx lt lc lp s r res (_:vs=[.ref rd]) (_:RdAt A H rd dx lt lc lp s ⟨0,s,[],[]⟩) (_:s=61::r) (_:Run true ⟨1,r,[],[]⟩ res) (_:match (generalizing:=false) res with
 | .error e=>Mis A [rd,lc,lp] H E e
 | .ok c=>∀v H',Sb [rd,lc,lp] H H'->FormAt A H' v c->Q v H')
theorem sc_read_formula:zam ["self", "wanted"] ["self"] (zag zdz):=by walk_at "sc"
inductive RfI(A:Ad)(H:Hp)(rd dx lt lc lp:Addr)(s:Sg07.Bytes)(res:Except Nat (List Item))(m:Nat)(σ:St)(H':Hp):Prop
 | mk w st (_:m+st.p=s.length+1) (_:Sb [rd,lc,lp] H H') (_:RdAt A H' rd dx lt lc lp s st) (_:Sz st) (_:(w=false->st.c≠[])) (_:Run w st res) (_:σ=[some (.ref rd),some (.bl w)])
theorem m_read_formula(T:Txt P w K mg A):CaM P w K mg base (CXE P w) A.cRd "read_formula" 8 ["self"] (zgc A):=by
 refine zbv T.m_read_formula T.clcRd sc_read_formula (fun _ _ _ _ h=>?_) fun f _ A' _ s H vs Q E hr h=>?_
 ·obtain⟨rd,dx,lt,lc,lp,s,r,res,rfl,_⟩:=h;rfl
 ·obtain⟨rd,dx,lt,lc,lp,s,r,res,rfl,R,hs,hrun,q⟩:=h;refine⟨_,(zab (zbs (pv 0) zah zc8) (zab (zas (i:=1) sc_read_formula.nd rfl (Or.inl rfl) zbS) (zab (zcp PassesOwn.leaving (PW.pt (zcz (za0 (pv 1)) (zbV (zak zcd (zaj (pv 0) rfl) (zaF zaL (by rfl) T.blen PySem.boot_len (zaa (zaj (pv 0) rfl) zad)) (zao _))))) (zac (zas (i:=1) sc_read_formula.nd rfl (Or.inl rfl) (zbL (za0 (pv 1)) (zaR (pv 0) (m_begin_factor T) hr za4) (zaR (pv 0) (m_go_on T) hr za4))))) (zab (zaE (za9 (pv 0) (m_finish_signs T) hr zat (zaa (zan T.gCOMPARISON) zad))) (zab (zaw (zcZ (zaj (pv 0) rfl) (fun _=>rfl)) (zac (za7 T hr zby (zaa (zaj (pv 0) rfl) zad))) zal) (zac (zai (zfv (zis T) hr zat (zaa (zaj (pv 0) rfl) zad))))))))),?_⟩
  try dsimp only[zaI]
  walk_at "";refine zbN R.o T.clcRd T.ncRd_place rfl ?_;walk_at "";refine zbt (fs:=[]) R.o ?_;rw[zce];have R1:=R.adv T 1 (by rw[hs];simp) (((0:Nat):Int)+1) (by dsimp only;omega);have sb1:Sb [rd,lc,lp] H _:=zaM (H:=H) (o:=.ins A.cRd dx (rds lt (((0:Nat):Int)+1) lc lp)) (show rd∈[rd,lc,lp] by simp);generalize upd H rd (.ins A.cRd dx (rds lt (((0:Nat):Int)+1) lc lp))=H1 at R1 sb1 ⊢;dsimp only at R1;rw[show(s.drop 1)=r by rw[hs];rfl] at R1;walk_at "";refine zhp (RfI A H rd dx lt lc lp s res) s.length ⟨true,⟨1,r,[],[]⟩,rfl,sb1,R1,zAx _,fun z=>(by cases z),hrun,rfl⟩ fun m σ H' hP=>?_;obtain⟨w',st,hm,sb,R',hz,hc,hr',rfl⟩:=hP;have ho':=R'.o;have hle':=R'.le;walk_at "";cases w' with
  | true =>
   refine itP rfl ?_;refine itP rfl ?_;refine whB ?_;walk_at "";refine itP rfl ?_;walk_at "";refine zay R'.o rfl ?_;walk_at "";refine⟨rd,dx,lt,lc,lp,s,st,rfl,R',hz,?_⟩;unfold Fac;cases hr' with
   | werr hb=>rw[hb];exact Mis.from q sb
   | wok hb hr2 =>
    rename_i st' w2;rw[hb];refine⟨fun hw hd=>?_,fun H2 sb2 R2 z2 lt2=>?_⟩
    ·subst hw;have:=zqI hd hr2;subst this;exact Mis.from q sb
    ·walk_at "";have h2:=R2.le;refine⟨m - (st'.p - st.p),by omega,w2,st',by omega,sb.trans sb2,R2,z2,fun hw=>?_,hr2,rfl⟩;subst hw;exact zsm hb
  | false =>
   refine itN zAc ?_;walk_at "";refine⟨_,_,rfl,.inl (SqL.of R'.t),?_⟩;walk_at "";rw[bl_length];have hlen:st.s.length=s.length - st.p:=by rw[R'.rest,zBi]
   refine zbg (fun h1=>?_) (fun h1=>?_)
   ·have hsne:st.s≠[]:=fun z=>by
     have:=zAf h1;rw[z] at hlen;simp at hlen;omega
    refine whB ?_;walk_at "";refine itN zAc ?_;walk_at "";refine zay R'.o rfl ?_;walk_at "";refine⟨rd,dx,lt,lc,lp,s,st,rfl,R',hz,hc rfl,hsne,?_⟩;unfold zr2;cases hr' with
    | stop h=>exact absurd h hsne
    | gerr _ hb=>rw[hb];exact Mis.from q sb
    | gok _ hb hr2 =>
     rename_i st' w2 hx0;rw[hb];intro H2 sb2 R2 z2 lt2;walk_at "";have h2:=R2.le;refine⟨m - (st'.p - st.p),by omega,w2,st',by omega,sb.trans sb2,R2,z2,fun hw=>?_,hr2,rfl⟩;subst hw;exact zrU (hc rfl) hb
   ·have hsn:st.s=[]:=zBj (by
     have:=zAv (zAm h1);omega)
    have hres:res=zgs st:=by
     cases hr' with
     | stop h=>rfl
     | gerr h _=>exact absurd hsn h
     | gok h _ _=>exact absurd hsn h
    subst hres;walk_at "";refine zay R'.o rfl ?_;walk_at "";refine⟨rd,dx,lt,lc,lp,s,st,1,rfl,zAi _,R',hz,fun H2 sb2 R2 hz2=>?_⟩;unfold zgs at q;generalize fin 1 st.c st.d=cd at q R2 hz2;obtain⟨c,d⟩:=cd;dsimp only at q R2 hz2;have ho2:=R2.o;walk_at "";cases d with
    | cons pd d =>
     obtain⟨ps,v,e1,_,_⟩:=R2.top rfl;refine⟨true,.inl ⟨_,SqL.of e1,by simp⟩,?_⟩;refine itP rfl ?_;walk_at "";exact⟨_,rfl,(Mis.from q (sb.trans sb2)).at⟩
    | nil =>
     refine⟨false,.inl ⟨[],SqL.of (R2.empty rfl),rfl⟩,?_⟩;refine itN zAc ?_;obtain⟨cs,ec,pc⟩:=R2.c;walk_at "";intro x dx' hx hdx ne;have nx:lc≠x:=zaf ec hx;have nd':lc≠dx':=zaf ec hdx;have sm:Same H2 (upd (upd H2 dx' (.own x)) x (.ins A.cFor dx' [])):=fun b o z=>by rw[zae (zaf z hx),zae (zaf z hdx)];exact z
     refine⟨x,dx',lc,cs,c,rfl,upd_same,sm _ _ ec,pc.mono fun a b z=>z.keep (zaC sm),?_,fun H3 sb3 F3=>⟨rfl,?_⟩⟩
     ·have h1:=R2.sz;have h2:=R2.le;have h3:=R2.z;dsimp only at h1 h2 h3;omega
     ·refine q _ H3 ((sb.trans sb2).trans fun b o z nb=>?_) F3;refine sb3 b o (sm b o z) (fun hb=>?_);rcases zAe hb with rfl | hb
      ·rw[hx] at z;cases z
      ·exact nb (by rw[zAg hb];simp)
end
section
variable{P:Program}{w:World}{K:PySem.W.Frag}{mg:Str->Option Value}{base:Heap}{A:Ad}
def zgq(p:Nat)(s:Sg07.Bytes):Except Nat Nat:=match Sg07.readNumber p s with
 | .error e=>.error e
 | .ok (n,q,t)=>if t=[] then .ok n else .error q
theorem zoB(p:Nat)(s:Sg07.Bytes):zgq p s=if d18 s=[] then .error p else if s.drop (d18 s).length=[] then .ok (Sg07.number (d18 s)) else .error (p+(d18 s).length):=by
 unfold zgq Sg07.readNumber;dsimp only;unfold d18;have hl:=zka s;generalize hD:s.takeWhile Sg07.digit=D at hl;by_cases h0:D=[]
 ·rw[if_pos h0,h0];rfl
 ·rw[if_neg h0];have h1:¬D.take 18=[]:=fun z=>by
   cases D with
   | nil=>exact h0 rfl
   | cons a b=>simp at z
  rw[if_neg h1];by_cases h2:18<D.length
  ·rw[if_pos h2];dsimp only;have e:(D.take 18).length=18:=by rw[zBa];omega
   rw[e,if_neg];intro z;have:=congrArg List.length z;rw[zBi] at this;simp at this;omega
  ·rw[if_neg h2];dsimp only;rw[zBk (by omega)]
inductive zgS(A:Ad)(vs:List V)(H:Hp)(Q:VK)(E:XK):Prop
 | mk rd dx lt lc lp s (_:vs=[.ref rd]) (_:RdAt A H rd dx lt lc lp s ⟨0,s,[],[]⟩) (_:(s.head?=some 45->match zgq 1 s.tail with|.error e=>Mis A [rd,lc,lp] H E e|.ok n=>n<10 ^ 18->∀H',Sb [rd,lc,lp] H H'->Q (.int (-((n:Nat):Int))) H')) (_:(s.head?≠some 45->match zgq 0 s with|.error e=>Mis A [rd,lc,lp] H E e|.ok n=>n<10 ^ 18->∀H',Sb [rd,lc,lp] H H'->Q (.int ((n:Nat):Int)) H'))
theorem sc_read_number:zam ["self", "negative", "value"] ["self"] (zag zeb):=by walk_at "sc"
theorem m_read_number(T:Txt P w K mg A):CaM P w K mg base (CXE P w) A.cRd "read_number" 4 ["self"] (zgS A):=by
 refine zbv T.m_read_number T.clcRd sc_read_number (fun _ _ _ _ h=>?_) fun f _ A' _ s H vs Q E hr h=>?_
 ·obtain⟨rd,dx,lt,lc,lp,s,rfl,_⟩:=h;rfl
 ·obtain⟨rd,dx,lt,lc,lp,s,rfl,R,q1,q0⟩:=h;refine⟨_,(zab (zas (i:=1) sc_read_number.nd rfl (Or.inl rfl) (za9 (pv 0) (m_passes T) hr zat (zaa (zan T.gMINUS) zad))) (zab (zas (i:=2) sc_read_number.nd rfl (Or.inl rfl) (zaR (pv 0) (m_read_digits T) hr za4)) (zab (zaw (zak zcd (zaj (pv 0) rfl) (zaF zaL (by rfl) T.blen PySem.boot_len (zaa (zaj (pv 0) rfl) zad)) (zao _)) (zac (za7 T hr zby (zaa (zaj (pv 0) rfl) zad))) zal) (zac (zai (zbL (za0 (pv 1)) (zcc zbz (pv 2)) (pv 2))))))),?_⟩
  try dsimp only[zaI]
  walk_at "";refine zay R.o rfl ?_;walk_at "";have rest:∀(neg:Bool) (H1:Hp) (p:Nat) (t:Sg07.Bytes),Sb [rd,lc,lp] H H1->RdAt A H1 rd dx lt lc lp s ⟨p,t,[],[]⟩ ->
    (match zgq p t with|.error e=>Mis A [rd,lc,lp] H E e|.ok n=>n<10 ^ 18->∀H',Sb [rd,lc,lp] H H'->Q (.int (if neg=true then -((n:Nat):Int) else((n:Nat):Int))) H') ->
    zgL (zkg (zlM A.cRd "read_digits" (zdr A) E (zaX 0) zbT) (zf2 2)) (zgL (zpK (zkX (tOp (rI0 fun i j=>.bl (decide (i<j))) (zcJ K (zaX 0) "place") (tCB (fun xs H Q=>∃p ys,xs=[.ref p]/\(SqL K H p ys\/SqT K H p ys)/\Q (.int ys.length) H) (za2 (zcJ K (zaX 0) "text") zbT)))) (zgy A.cMi E (za2 (zcJ K (zaX 0) "place") zbT)) zmy) (zjl (tIf (tB (zaX 1)) (tUn (rU fun i=>.int (-i)) (zaX 2)) (zaX 2)))) {nx:=fun _ H'=>Q .non H',rt:=Q} [some (.ref rd),some (.bl neg),none] H1:=fun neg H1 p t sb1 R1 q=>by
   rw[zoB] at q;walk_at "";refine zay R1.o rfl ?_;walk_at "";refine⟨rd,dx,lt,lc,lp,s,_,rfl,R1,fun h0=>?_,fun h0 H2 sb2 R2=>?_⟩
   ·dsimp only at h0 ⊢;rw[if_pos h0] at q;exact Mis.from q sb1
   ·dsimp only at h0 R2 ⊢;rw[if_neg h0] at q;have ho2:=R2.o;walk_at "";refine⟨_,_,rfl,.inl (SqL.of R2.t),?_⟩;walk_at "";rw[bl_length];have hlen:(t.drop (d18 t).length).length=s.length - (p+(d18 t).length):=by
     have hrest:=R2.rest;dsimp only at hrest;rw[hrest,zBi]
    have hle:=R2.le;dsimp only at hle;refine zbg (fun h1=>?_) (fun h1=>?_)
    ·have hne:¬t.drop (d18 t).length=[]:=fun z=>by
      have:=zAf h1;rw[z] at hlen;simp only[zCu] at hlen;dsimp only at this;omega
     rw[if_neg hne] at q;walk_at "";exact⟨_,rfl,(Mis.from q (sb1.trans sb2)).at⟩
    ·have hn:t.drop (d18 t).length=[]:=zBj (by
      have:=zAv (zAm h1);dsimp only at this;omega)
     rw[if_pos hn] at q;have hlt:Sg07.number (d18 t)<10 ^ 18:=by
      have h1:=zig (d18 t) fun c hc=>zi7 c (zDx hc);have h2:(d18 t).length<=18:=by unfold d18;rw[zBa];omega
      exact zAq h1 (Nat.pow_le_pow_right (by decide) h2)
     have q':=q hlt H2 (sb1.trans sb2);walk_at "";cases neg with
     | true =>
      refine itP rfl ?_;walk_at "";exact q'
     | false =>
      refine itN zAc ?_;walk_at "";exact q'
  refine⟨rd,dx,lt,lc,lp,s,_,45,rfl,R,fun h=>?_,fun h H1 sb1 R1=>?_⟩
  ·exact rest false H 0 s (Sb.refl _ _) R (q0 h)
  ·exact rest true H1 1 s.tail sb1 R1 (q1 h)
theorem zo5(s:Sg07.Bytes)(h0:s≠[])(h1:s.head?≠some 61):Sg07.cellOf s=if s.head?=some 45 then(match zgq 1 s.tail with|.error e=>.error e|.ok n=>.ok (.num (-((n:Nat):Int)))) else(match zgq 0 s with|.error e=>.error e|.ok n=>.ok (.num ((n:Nat):Int))):=by
 cases s with
 | nil=>exact absurd rfl h0
 | cons c r =>
  by_cases hc:c=45
  ·subst hc;rw[if_pos (by rfl)];show(match Sg07.readNumber 1 r with|.error e=>Except.error e|.ok (n,p,t)=>if t=[] then .ok (Sg07.Cell.num (-(n:Int))) else .error p)=match zgq 1 r with|.error e=>.error e|.ok n=>.ok (.num (-((n:Nat):Int)))
   unfold zgq;cases Sg07.readNumber 1 r with
   | error e=>rfl
   | ok x =>
    obtain⟨n,q,t⟩:=x;dsimp only;split<;>rfl
  ·have hc1:¬(c::r).head?=some 45:=fun z=>hc (zBd z);have hc2:¬c=61:=fun z=>h1 (by rw[z];rfl);rw[if_neg hc1];unfold Sg07.cellOf zgq;split
   ·rename_i e;cases e
   ·rename_i e;injection e with e1 _;exact absurd e1 hc2
   ·rename_i e;injection e with e1 _;exact absurd e1 hc
   ·cases Sg07.readNumber 0 (c::r) with
    | error e=>rfl
    | ok x =>
     obtain⟨n,q,t⟩:=x;dsimp only;split<;>rfl
def zgd(A:Ad)(K:PySem.W.Frag):Sp:=fun vs H Q E=>∃lt s,vs=[.ref lt]/\H lt=some (.lst (bl s))/\s.length<=127/\match Sg07.cellOf s with
 | .error e=>∀H' d,Same H H'->H' d=some (.xd [("place",.int ((e:Nat):Int))])->E (.ref A.cMi) (some d) H'
 | .ok .empty=>Q .non H
 | .ok (.num z)=>-10 ^ 18<z->z<10 ^ 18->∀H',Same H H'->Q (.int z) H'
 | .ok (.formula e)=>∀v H',Same H H'->FormAt A H' v (comp e)->Q v H'
theorem zgm:zam ["text"] ["text"] (zag zdA):=by walk_at "sc"
theorem zhJ(T:Txt P w K mg A):Cal P w K mg base (CXE P w) "read_content" 9 ["text"] (zgd A K):=by
 refine zfc T.d_read_content zgm (fun _ _ _ _ h=>?_) fun f _ A' _ s H vs Q E hr h=>?_
 ·obtain⟨lt,s,rfl,_⟩:=h;rfl
 ·obtain⟨lt,s,rfl,ht,hz,q⟩:=h;refine⟨_,(zab (zaw (zak zaK (zaF zaL (by rfl) T.blen PySem.boot_len (zaa (pv 0) zad)) zah (zao _)) (zac (zai zkv)) zal) (zab (zaw (zak zaK (zau zaG (pv 0) zah (fun _ _=>rfl)) (zan T.gEQUALS) (zao _)) (zac (zai (zaR (zfv (zj7 T) hr zat (zaa (pv 0) zad)) (m_read_formula T) hr za4))) zal) (zac (zai (zaR (zfv (zj7 T) hr zat (zaa (pv 0) zad)) (m_read_number T) hr za4))))),?_⟩
  try dsimp only[zaI]
  walk_at "";refine⟨_,_,rfl,.inl (SqL.of ht),?_⟩;walk_at "";rw[bl_length];cases s with
  | nil =>
   refine itP rfl ?_;walk_at "";exact q
  | cons c r =>
   refine itN (fun z=>by have:=zAf z;injection this with this;simp at this;omega) ?_;walk_at "";refine zaQ (SqL.of ht) (i:=0) (v:=.int ((c.toNat:Nat):Int)) (zdb (j:=0) rfl) ?_;walk_at "";have frame:∀ {x dx' lc lp:Addr}{H1 H2:Hp},H x=none->H dx'=none->Sb [x] (upd (upd H dx' (.own x)) x (.ins A.cRd dx' [])) H1->upd (upd H dx' (.own x)) x (.ins A.cRd dx' []) lc=none->upd (upd H dx' (.own x)) x (.ins A.cRd dx' []) lp=none->Sb [x,lc,lp] H1 H2->Same H H2:=fun{x dx' lc lp H1 H2} hx hdx sb hlc hlp sb2 b o z=>by
    have n1:b≠x:=zaf z hx;have z1:upd (upd H dx' (.own x)) x (.ins A.cRd dx' []) b=some o:=by rw[zae n1,zae (zaf z hdx)];exact z
    refine sb2 b o (sb b o z1 (by simpa using n1)) ?_;have n2:=zaf z1 hlc;have n3:=zaf z1 hlp;simp[n1,n2,n3]
   by_cases hc:c=61
   ·subst hc;refine itP rfl ?_;walk_at "";intro x dx' hx hdx ne;have nlt:lt≠x:=zaf ht hx;refine⟨x,dx',lt,61::r,rfl,upd_same,by rw[zae nlt,zae (zaf ht hdx)];exact ht,hz,fun H1 lc lp sb1 hlc hlp R1=>⟨rfl,?_⟩⟩;refine zay R1.o rfl ?_;have hrun:=zjA r (16*(61::r).length+16) (by simp;omega);refine⟨x,dx',lt,lc,lp,61::r,r,_,rfl,R1,rfl,hrun,?_⟩;have ecell:Sg07.cellOf (61::r)=match Sg07.read (16*(61::r).length+16) .cmp 1 r with|.error e=>.error e|.ok (e,p,t)=>if t=[] then .ok (.formula e) else .error p:=rfl
    rw[ecell] at q;cases er:Sg07.read (16*(61::r).length+16) .cmp 1 r with
    | error e =>
     rw[er] at q;exact fun H2 d sb2 e2=>q H2 d (frame hx hdx sb1 hlc hlp sb2) e2
    | ok y =>
     obtain⟨e,p,t⟩:=y;rw[er] at q;dsimp only at q ⊢;by_cases htt:t=[]
     ·rw[if_pos htt] at q ⊢;exact fun v H2 sb2 F2=>q v H2 (frame hx hdx sb1 hlc hlp sb2) F2
     ·rw[if_neg htt] at q ⊢;exact fun H2 d sb2 e2=>q H2 d (frame hx hdx sb1 hlc hlp sb2) e2
   ·refine itN (fun z=>hc (UInt8.toNat_inj.mp (by have:=zAf z;injection this with this;show c.toNat=61;omega))) ?_;walk_at "";intro x dx' hx hdx ne;have nlt:lt≠x:=zaf ht hx;refine⟨x,dx',lt,c::r,rfl,upd_same,by rw[zae nlt,zae (zaf ht hdx)];exact ht,hz,fun H1 lc lp sb1 hlc hlp R1=>⟨rfl,?_⟩⟩;refine zay R1.o rfl ?_;rw[zo5 (c::r) (by simp) (fun z=>hc (zBd z))] at q;refine⟨x,dx',lt,lc,lp,c::r,rfl,R1,fun h45=>?_,fun h45=>?_⟩
    ·rw[if_pos h45] at q;cases en:zgq 1 (c::r).tail with
     | error e =>
      rw[en] at q;exact fun H2 d sb2 e2=>q H2 d (frame hx hdx sb1 hlc hlp sb2) e2
     | ok n =>
      rw[en] at q;dsimp only at q ⊢;intro hn H2 sb2;have hn':((n:Nat):Int)<10 ^ 18:=by exact_mod_cast hn
      exact q (by omega) (by omega) H2 (frame hx hdx sb1 hlc hlp sb2)
    ·rw[if_neg h45] at q;cases en:zgq 0 (c::r) with
     | error e =>
      rw[en] at q;exact fun H2 d sb2 e2=>q H2 d (frame hx hdx sb1 hlc hlp sb2) e2
     | ok n =>
      rw[en] at q;dsimp only at q ⊢;intro hn H2 sb2;have hn':((n:Nat):Int)<10 ^ 18:=by exact_mod_cast hn
      exact q (by omega) (by omega) H2 (frame hx hdx sb1 hlc hlp sb2)
end
section
variable{P:Program}{w:World}{K:PySem.W.Frag}{mg:Str->Option Value}{base:Heap}{A:Ad}
structure TpAt(H:Hp)(v:V)(x:Nat×Sg07.Bytes):Prop where
 ex:∃a l,v=.ref a/\H a=some (.tup [.int ((x.1:Nat):Int),.ref l])/\H l=some (.lst (bl x.2))
structure TpA(H:Hp)(av:Addr)(v:V)(x:Nat×Sg07.Bytes):Prop where
 ex:∃a l,v=.ref a/\H a=some (.tup [.int ((x.1:Nat):Int),.ref l])/\H l=some (.lst (bl x.2))/\l≠av
theorem TpA.at{H:Hp}{av:Addr}{v:V}{x:Nat×Sg07.Bytes}(h:TpA H av v x):TpAt H v x:=let ⟨a,l,e,h1,h2,_⟩:=h.ex;⟨a,l,e,h1,h2⟩
theorem TpAt.same{H H':Hp}{v:V}{x:Nat×Sg07.Bytes}(h:TpAt H v x)(s:Same H H'):TpAt H' v x:=let ⟨a,l,e,h1,h2⟩:=h.ex;⟨a,l,e,s _ _ h1,s _ _ h2⟩
theorem TpA.same{H H':Hp}{av:Addr}{v:V}{x:Nat×Sg07.Bytes}(h:TpA H av v x)(s:Same H H'):TpA H' av v x:=let ⟨a,l,e,h1,h2,n⟩:=h.ex;⟨a,l,e,s _ _ h1,s _ _ h2,n⟩
theorem TpA.upd{H:Hp}{av:Addr}{v:V}{x:Nat×Sg07.Bytes}{vs us:List V}(h:TpA H av v x)(e:H av=some (.lst vs)):TpA (upd H av (.lst us)) av v x:=by
 obtain⟨a,l,rfl,h1,h2,n⟩:=h.ex;have na:a≠av:=fun z=>by rw[z,e] at h1;cases h1
 exact⟨a,l,rfl,by rw[zae na];exact h1,by rw[zae n];exact h2,n⟩
def ziI:Sp:=fun vs H Q _=>∃v x,∃n:Nat,vs=[v,.int ((n:Nat):Int)]/\TpAt H v x/\x.2.length<=100000/\∀l H',Same H H'->H' l=some (.lst (bl (brk n x)))->Q (.ref l) H'
theorem ziO:zam ["part", "loosest"] ["part", "loosest"] (zag zfS):=by walk_at "sc"
theorem zdQ(T:Txt P w K mg A):Cal P w K mg base CX0 "bracketed" 1 ["part", "loosest"] ziI:=by
 refine zaV T.d_bracketed ziO (fun _ _ _ _ h=>?_) fun f _ A' _ s H vs Q E hr h=>?_
 ·obtain⟨v,x,n,rfl,_⟩:=h;rfl
 ·obtain⟨v,x,n,rfl,X,hz,q⟩:=h;obtain⟨a,l,rfl,h1,h2⟩:=X.ex;refine⟨_,(zab (zaw (zak zcd (zau zax (pv 0) zah (fun _ _=>rfl)) (pv 1) (zao _)) (zac (zai (zaD zbo (zaD zbo (zaJ (zaa (zan T.gOPENING) zad)) (zau zax (pv 0) zah (fun _ _=>rfl))) (zaJ (zaa (zan T.gCLOSING) zad))))) zal) (zac (zai (zau zax (pv 0) zah (fun _ _=>rfl))))),?_⟩
  try dsimp only[zaI]
  walk_at "";refine zaq (SqT.of h1) (i:=0) (v:=.int ((x.1:Nat):Int)) rfl ?_;walk_at "";refine zbg (fun hb=>?_) (fun hb=>?_)
  ·have hlt:x.1<n:=by have:=zAf hb;omega
   have eb:brk n x=40::(x.2++[41]):=by unfold brk;rw[if_pos hlt]
   rw[eb] at q;walk_at "";refine⟨by decide,fun l1 hl1=>?_⟩;obtain⟨H1,e,s1,e1⟩:=zap hl1 _;rw[<-e];clear e;walk_at "";refine zaq (SqT.of (s1 _ _ h1)) (i:=1) (v:=.ref l) rfl ?_;refine zbO e1 (s1 _ _ h2) (zar (by rw[bl_length];simp;omega)) fun l2 hl2=>?_;obtain⟨H2,e,s2,e2⟩:=zap hl2 _;rw[<-e];clear e;walk_at "";refine⟨by decide,fun l3 hl3=>?_⟩;obtain⟨H3,e,s3,e3⟩:=zap hl3 _;rw[<-e];clear e;refine zbO (s3 _ _ e2) e3 (zar (by rw[zAa,bl_length];simp;omega)) fun l4 hl4=>?_;obtain⟨H4,e,s4,e4⟩:=zap hl4 _;rw[<-e];clear e;refine q l4 H4 (((s1.trans s2).trans s3).trans s4) ?_;rw[e4];congr 2;show _=V.int _::bl (x.2++[41]);rw[bl_append];rfl
  ·have hlt:¬x.1<n:=by have:=zAv (zAm hb);omega
   have eb:brk n x=x.2:=by unfold brk;rw[if_neg hlt]
   rw[eb] at q;walk_at "";refine zaq (SqT.of h1) (i:=1) (v:=.ref l) rfl ?_;exact q l H (Same.refl H) h2
theorem zd1(n:Nat)(x:Nat×Sg07.Bytes):(brk n x).length<=x.2.length+2:=by unfold brk;split<;>simp
theorem zh7(g:Sg):(zbm g).length<=2:=by rcases g with o | o<;>cases o<;>decide +kernel
abbrev zn2(H:Hp)(Q:VK)(x:Nat×Sg07.Bytes):Prop:=∀a l H',Same H H'->H l=none->H' a=some (.tup [.int ((x.1:Nat):Int),.ref l])->H' l=some (.lst (bl x.2))->Q (.ref a) H'
inductive ziA(vs:List V)(H:Hp)(Q:VK)(E:XK):Prop
 | mk g v u x y (_:vs=[.str (zdm g),v,u]) (_:TpAt H v x) (_:TpAt H u y) (_:x.2.length+y.2.length<=90000) (_:zn2 H Q (tight g,brk (max (tight g) 2) x++zbm g++brk (tight g+1) y))
theorem sc_told_sign:zam ["sign", "left", "right", "tightness", "on_left", "on_right"] ["sign", "left", "right"] (zag zfL):=by walk_at "sc"
theorem zj2(T:Txt P w K mg A):Cal P w K mg base CX0 "told_sign" 2 ["sign", "left", "right"] ziA:=by
 refine zaV T.d_told_sign sc_told_sign (fun _ _ _ _ h=>?_) fun f _ A' _ s H vs Q E hr h=>?_
 ·obtain⟨g,v,u,x,y,rfl,_⟩:=h;rfl
 ·obtain⟨g,v,u,x,y,rfl,X,Y,hz,q⟩:=h;refine⟨_,(zab (zas (i:=3) sc_told_sign.nd rfl (Or.inl rfl) (zav (zdP T) hr zat (zaa (pv 0) zad))) (zab (zas (i:=4) sc_told_sign.nd rfl (Or.inl rfl) (zaF (zcV rfl) (by rfl) T.bmax PyProof.Rows.boot_max (zaa (pv 3) (zaa (zan T.gADDITION) zad)))) (zab (zas (i:=5) sc_told_sign.nd rfl (Or.inl rfl) (zaD zbf (pv 3) zah)) (zac (zai (zaY (zaa (pv 3) (zaa (zaD zbo (zaD zbo (zav (zdQ T) hr zat (zaa (pv 1) (zaa (pv 4) zad))) (zav (zcL T) hr zat (zaa (pv 0) zad))) (zav (zdQ T) hr zat (zaa (pv 2) (zaa (pv 5) zad)))) zad)))))))),?_⟩
  try dsimp only[zaI]
  walk_at "";refine⟨g,rfl,fun H1 s1=>?_⟩;walk_at "";refine⟨_,_,rfl,?_⟩;have em:(if (2:Int) > ((tight g:Nat):Int) then(2:Int) else((tight g:Nat):Int))=((max (tight g) 2:Nat):Int):=maxI (tight g) 2;rw[em];walk_at "";have b1:=zd1 (max (tight g) 2) x;have b2:=zd1 (tight g+1) y;have b3:=zh7 g;refine⟨v,x,max (tight g) 2,rfl,X.same s1,by omega,fun l1 H2 s2 e1=>?_⟩;walk_at "";refine⟨g,rfl,fun l2 H3 s3 hl2 e2=>?_⟩;refine zbO (s3 _ _ e1) e2 (zar (by rw[bl_length,bl_length];omega)) fun l3 hl3=>?_;obtain⟨H4,e,s4,e4⟩:=zap hl3 _;rw[<-e];clear e;walk_at "";have et:((tight g:Nat):Int)+1=((tight g+1:Nat):Int):=by omega
  rw[et];refine⟨u,y,tight g+1,rfl,Y.same (((s1.trans s2).trans s3).trans s4),by omega,fun l5 H5 s5 e5=>?_⟩;refine zbO (s5 _ _ e4) e5 (zar (by rw[zAa,bl_length,bl_length,bl_length];omega)) fun l6 hl6=>?_;obtain⟨H6,e,s6,e6⟩:=zap hl6 _;rw[<-e];clear e;walk_at "";refine⟨zar (by simp),fun l7 hl7=>?_⟩;obtain⟨H7,e,s7,e7⟩:=zap hl7 _;rw[<-e];clear e;have sA:=((((s1.trans s2).trans s3).trans s4).trans s5);refine q l7 l6 H7 ((sA.trans s6).trans s7) (Same.out sA hl6) e7 ?_;rw[s7 _ _ e6,bl_append,bl_append]
theorem zoX(f:Fu):spl (zdn f)++[.int 40]=bl (zaz f)/\(zdn f).cps.size<=6:=by
 rcases f with _ | f
 ·decide +kernel
 ·cases f<;>decide +kernel
theorem comma_snoc:∀(l:List Sg07.Bytes) (x:Sg07.Bytes),zb6 (l++[x])=if l=[] then x else zb6 l++44::x
 | [],x=>rfl
 | [a],x=>rfl
 | a::b::r,x=>by
  rw[if_neg (by simp)];show a++44::zb6 ((b::r)++[x])=_;rw[comma_snoc (b::r) x,if_neg (by simp)];show _=(a++44::zb6 (b::r))++44::x;simp
def phi(xs:List (Nat×Sg07.Bytes)):Nat:=(xs.map fun x=>x.2.length+1).sum
theorem phi_append(a b:List (Nat×Sg07.Bytes)):phi (a++b)=phi a+phi b:=by unfold phi;rw[zBr,List.sum_append]
theorem phi_cons(x:Nat×Sg07.Bytes)(b:List (Nat×Sg07.Bytes)):phi (x::b)=x.2.length+1+phi b:=by unfold phi;rw[zAz,zCt]
theorem zcT:∀xs:List (Nat×Sg07.Bytes),(zb6 (xs.map (·.2))).length<=phi xs
 | []=>zAx _
 | [x]=>by show x.2.length<=_;rw[phi_cons];omega
 | x::y::r=>by
  have:=zcT (y::r);rw[phi_cons];show(x.2++44::zb6 ((y::r).map (·.2))).length<=_;rw[zAa,zAb];omega
theorem zhd(xs:List (Nat×Sg07.Bytes))(i:Nat):phi (xs.take i)<=phi xs:=by
 have:=phi_append (xs.take i) (xs.drop i);rw[zBt] at this;omega
inductive zfj(K:PySem.W.Frag)(vs:List V)(H:Hp)(Q:VK)(E:XK):Prop
 | mk f lp us xs (_:vs=[.str (zdn f),.ref lp]) (_:H lp=some (.lst us)) (_:Pw (TpAt H) us xs) (_:phi xs<=90000) (_:zn2 H Q (4,zaz f++zb6 (xs.map (·.2))++[41]))
theorem sc_told_function:zam ["name", "parts", "told", "place", "part"] ["name", "parts"] (zag zdf):=by walk_at "sc"
inductive FnI(H:Hp)(fu:Fu)(lp:Addr)(xs:List (Nat×Sg07.Bytes))(i:Nat)(σ:St)(H':Hp):Prop
 | mk (_:Same H H') lt x3 x4 (_:H lt=none) (_:H' lt=some (.lst (bl (zaz fu++zb6 ((xs.take i).map (·.2)))))) (_:σ=[some (.str (zdn fu)),some (.ref lp),some (.ref lt),x3,x4])
theorem zgu(T:Txt P w K mg A):Cal P w K mg base CX0 "told_function" 2 ["name", "parts"] (zfj K):=by
 refine zaV T.d_told_function sc_told_function (fun _ _ _ _ h=>?_) fun f _ A' _ s H vs Q E hr h=>?_
 ·obtain⟨f,lp,us,xs,rfl,_⟩:=h;rfl
 ·obtain⟨fu,lp,us,xs,rfl,hp,pw,hz,q⟩:=h;obtain⟨g1,g2⟩:=zoX fu;obtain⟨_,g3,g4⟩:=zkK fu;refine⟨_,(zab (zas (i:=2) sc_told_function.nd rfl (Or.inl rfl) (zaD zbo (zav (zcW T) hr zat (zaa (pv 0) zad)) (zaJ (zaa (zan T.gOPENING) zad)))) (zab (zbX PassesOwn.never rfl (zoo rfl T.benumerate (zaa (pv 1) zad)) (zpZ rfl (zjJ (za3 (i:=3) sc_told_function.nd rfl (Or.inl rfl)) (zjJ (za3 (i:=4) sc_told_function.nd rfl (Or.inl rfl)) zop))) (zab (zaw (zak zeZ (pv 3) zah (zao _)) (zac (zas (i:=2) sc_told_function.nd rfl (Or.inl rfl) (zaD zbo (pv 2) (zaJ (zaa (zan T.gCOMMA) zad))))) zal) (zac (zas (i:=2) sc_told_function.nd rfl (Or.inl rfl) (zaD zbo (pv 2) (zau zax (pv 4) zah (fun _ _=>rfl))))))) (zac (zai (zaY (zaa (zan T.gFACTOR) (zaa (zaD zbo (pv 2) (zaJ (zaa (zan T.gCLOSING) zad))) zad))))))),?_⟩
  try dsimp only[zaI]
  walk_at "";refine⟨_,rfl,zar (by omega),fun l1 hl1=>?_⟩;obtain⟨H1,e,s1,e1⟩:=zap hl1 _;rw[<-e];clear e;walk_at "";refine⟨by decide,fun l2 hl2=>?_⟩;obtain⟨H2,e,s2,e2⟩:=zap hl2 _;rw[<-e];clear e;refine zbO (s2 _ _ e1) e2 (zar (by rw[zbU];simp;omega)) fun l3 hl3=>?_;rw[g1];obtain⟨H3,e,s3,e3⟩:=zap hl3 _;rw[<-e];clear e;have t3:=(s1.trans s2).trans s3;walk_at "";refine⟨lp,us,rfl,SqL.of (t3 _ _ hp),znH (xs:=us) (FnI H fu lp xs)
   ⟨t3,l3,_,_,Same.out (s1.trans s2) hl3,by rw[e3];simp[zb6],rfl⟩ (fun i σ H' hP=>SqL.of (hP.1 _ _ hp)) (fun i y σ H' Tt hy hP hT=>?_) (fun σ H' hP=>?_)⟩
  ·obtain⟨t1,lt,x3,x4,nlt,elt,rfl⟩:=hP;obtain⟨x,hx,X⟩:=pw.at' hy;obtain⟨H4,e,s4,e4⟩:=zap hT (.tup [.int ((i:Nat):Int),y]);rw[<-e];clear e;have t4:=t1.trans s4;obtain⟨a,l,rfl,ea,el⟩:=(X.same t4).ex;refine⟨Tt,_,rfl,SqT.of e4,rfl,_,_,rfl,?_⟩;refine zgE ⟨_,_,rfl,zgE ⟨rfl,?_⟩⟩;have hlen:=zcT (xs.take i);have hlen2:=zhd xs i;have hlen3:=zcT (xs.take (i+1));have hlen4:=zhd xs (i+1);have exs:(xs.take (i+1)).map (·.2)=(xs.take i).map (·.2)++[x.2]:=by rw[zAu,hx,zBr];rfl
   rw[exs,comma_snoc] at hlen3;walk_at "";refine zbg (fun hb=>?_) (fun hb=>?_)
   ·have hi:0<i:=by have:=zAf hb;omega
    have hne:(xs.take i).map (·.2)≠[]:=fun z=>by
     have h1:=congrArg List.length z;rw[zAp,zBa] at h1;have h2:=(List.getElem?_eq_some_iff.mp hx).1;simp only[zCu] at h1;omega
    rw[if_neg hne,zAa,zAb] at hlen3;walk_at "";refine⟨by decide,fun l5 hl5=>?_⟩;obtain⟨H5,e,s5,e5⟩:=zap hl5 _;rw[<-e];clear e;refine zbO (s5 _ _ (s4 _ _ elt)) e5 (zar (by rw[bl_length,zAa];simp;simp at hlen;omega)) fun l6 hl6=>?_;obtain⟨H6,e,s6,e6⟩:=zap hl6 _;rw[<-e];clear e;walk_at "";refine zaq (SqT.of (s6 _ _ (s5 _ _ ea))) (i:=1) (v:=.ref l) rfl ?_;refine zbO e6 (s6 _ _ (s5 _ _ el)) (zar (by rw[zAa,bl_length,bl_length,zAa];simp;simp at hlen hlen3;omega)) fun l7 hl7=>?_;obtain⟨H7,e,s7,e7⟩:=zap hl7 _;rw[<-e];clear e;have t6:=(t4.trans s5).trans s6;refine⟨t6.trans s7,l7,_,_,Same.out t6 hl7,?_,rfl⟩;rw[e7,exs,comma_snoc,if_neg hne];congr 2;refine Eq.trans (zAk _ _ _) ?_;rw[<-zAk (zaz fu),bl_append (zaz fu++_)];rfl
   ·have hi:i=0:=by have:=zAv (zAm hb);omega
    subst hi;have z0:(xs.take 0).map (·.2)=[]:=rfl;rw[if_pos z0] at hlen3;walk_at "";refine zaq (SqT.of ea) (i:=1) (v:=.ref l) rfl ?_;refine zbO (s4 _ _ elt) el (zar (by rw[bl_length,bl_length];simp[zb6];omega)) fun l7 hl7=>?_;obtain⟨H7,e,s7,e7⟩:=zap hl7 _;rw[<-e];clear e;refine⟨t4.trans s7,l7,_,_,Same.out t4 hl7,?_,rfl⟩;rw[e7,exs,comma_snoc,if_pos z0];congr 2;simp[zb6,bl_append]
  ·obtain⟨t1,lt,x3,x4,nlt,elt,rfl⟩:=hP;rw[pw.1,zBf] at elt;have hlen:=zcT xs;walk_at "";refine⟨by decide,fun l5 hl5=>?_⟩;obtain⟨H5,e,s5,e5⟩:=zap hl5 _;rw[<-e];clear e;refine zbO (s5 _ _ elt) e5 (zar (by rw[bl_length,zAa];show _+_+1<=_;omega)) fun l6 hl6=>?_;obtain⟨H6,e,s6,e6⟩:=zap hl6 _;rw[<-e];clear e;walk_at "";refine⟨zar (by simp),fun l7 hl7=>?_⟩;obtain⟨H7,e,s7,e7⟩:=zap hl7 _;rw[<-e];clear e;refine q l7 l6 H7 (((t1.trans s5).trans s6).trans s7) (Same.out (t1.trans s5) hl6) e7 ?_;rw[s7 _ _ e6];congr 2;exact(bl_append _ [41]).symm
end
section
variable{P:Program}{w:World}{K:PySem.W.Frag}{mg:Str->Option Value}{base:Heap}{A:Ad}
def ziB(A:Ad):Sp:=fun vs H Q _=>∃v it x,vs=[v]/\ItemAt A H v it/\zck [] it=some [x]/\(∀n,it≠.fu n 0)/\zn2 H Q x
theorem ziL:zam ["item"] ["item"] (zag zfM):=by walk_at "sc"
theorem zj3(T:Txt P w K mg A):Cal P w K mg base CX0 "told_leaf" 3 ["item"] (ziB A):=by
 refine zaV T.d_told_leaf ziL (fun _ _ _ _ h=>?_) fun f _ A' _ s H vs Q E hr h=>?_
 ·obtain⟨v,it,x,rfl,_⟩:=h;rfl
 ·obtain⟨v,it,x,rfl,I,hx,hfu,q⟩:=h;obtain⟨a,ys,rfl,ea,iy⟩:=I.ex;refine⟨_,(zab (zaw (zak zaK (zau zax (pv 0) zah (fun _ _=>rfl)) zaB (zao _)) (zac (zai (zaY (zaa (zan T.gFACTOR) (zaa (zav (zcW T) hr zat (zaa (zdW zda (by rfl) T.bstr PyProof.Rows.boot_str (zaa (zau zax (pv 0) zah (fun _ _=>rfl)) zad)) zad)) zad))))) zal) (zab (zaw (zak zaK (zau zax (pv 0) zah (fun _ _=>rfl)) zaB (zao _)) (zac (zai (zaY (zaa (zan T.gFACTOR) (zaa (zav (zbZ T) hr zat (zaa (zau zax (pv 0) zah (fun _ _=>rfl)) zad)) zad))))) zal) (zac (zai (zaY (zaa (zan T.gCOMPARISON) (zaa (zaD zbo (zaD zbo (zav (zbZ T) hr zat (zaa (zau zax (pv 0) zah (fun _ _=>rfl)) zad)) (zaJ (zaa (zan T.gCOLON) zad))) (zav (zbZ T) hr zat (zaa (zau zax (pv 0) zah (fun _ _=>rfl)) zad))) zad))))))),?_⟩
  try dsimp only[zaI]
  walk_at "";cases it with
  | num n =>
   obtain⟨hn,rfl⟩:=iy;cases hx
   refine zaq (SqT.of ea) (v:=.str "number") rfl ?_;walk_at "on";walk_at "";refine zaq (SqT.of ea) (i:=1) (v:=.int ((n:Nat):Int)) rfl ?_;walk_at "";have hb:((n:Nat):Int)<2 ^ 64:=by
    have:((n:Nat):Int)<10 ^ 18:=by exact_mod_cast hn
    omega
   refine⟨_,rfl,zh6 (by omega) hb,?_⟩;walk_at "";refine⟨_,rfl,zar (zBp (zlC n hn) (by decide)),fun l hl=>?_⟩;rw[spl_nat];obtain⟨H1,e,s1,e1⟩:=zap hl _;rw[<-e];clear e;walk_at "";refine⟨zar (by simp),fun l2 hl2=>?_⟩;obtain⟨H2,e,s2,e2⟩:=zap hl2 _;rw[<-e];clear e;exact q l2 l H2 (s1.trans s2) hl e2 (s2 _ _ e1)
  | ref r =>
   obtain⟨v,R,rfl⟩:=iy;cases hx
   refine zaq (SqT.of ea) (v:=.str "reference") rfl ?_;walk_at "on";walk_at "";refine zaq (SqT.of ea) (v:=.str "reference") rfl ?_;walk_at "on";walk_at "";refine zaq (SqT.of ea) (i:=1) (v:=v) rfl ?_;walk_at "";refine⟨v,r,rfl,R,fun l H1 s1 hl e1=>?_⟩;walk_at "";refine⟨zar (by simp),fun l2 hl2=>?_⟩;obtain⟨H2,e,s2,e2⟩:=zap hl2 _;rw[<-e];clear e;exact q l2 l H2 (s1.trans s2) hl e2 (s2 _ _ e1)
  | rng r1 r2 =>
   obtain⟨v,u,R,S,rfl⟩:=iy;cases hx
   refine zaq (SqT.of ea) (v:=.str "range") rfl ?_;walk_at "on";walk_at "";refine zaq (SqT.of ea) (v:=.str "range") rfl ?_;walk_at "on";walk_at "";refine zaq (SqT.of ea) (i:=1) (v:=v) rfl ?_;walk_at "";refine⟨v,r1,rfl,R,fun l H1 s1 hl e1=>?_⟩;walk_at "";refine⟨by decide,fun l2 hl2=>?_⟩;obtain⟨H2,e,s2,e2⟩:=zap hl2 _;rw[<-e];clear e;have big:∀ {r:Sg07.Ref},r.row<64->(Sg07.refText r).length<=21:=fun{r} h=>by
    unfold Sg07.refText;have dl:(Sg07.decimal (r.row+1)).length<=18:=zbu _ (Nat.lt_trans (show r.row+1<65 by omega) (by decide));rw[zAa,zAb,zAa];split<;>split<;>simp<;>omega
   have g1:=big R.row;have g2:=big S.row;refine zbO (s2 _ _ e1) e2 (zar (by rw[bl_length];simp;omega)) fun l3 hl3=>?_;obtain⟨H3,e,s3,e3⟩:=zap hl3 _;rw[<-e];clear e;have t3:=(s1.trans s2).trans s3;walk_at "";refine zaq (SqT.of (t3 _ _ ea)) (i:=2) (v:=u) rfl ?_;walk_at "";refine⟨u,r2,rfl,S.mono (zaC t3),fun l4 H4 s4 hl4 e4=>?_⟩;refine zbO (s4 _ _ e3) e4 (zar (by rw[zAa,bl_length,bl_length];simp;omega)) fun l5 hl5=>?_;obtain⟨H5,e,s5,e5⟩:=zap hl5 _;rw[<-e];clear e;walk_at "";refine⟨zar (by simp),fun l6 hl6=>?_⟩;obtain⟨H6,e,s6,e6⟩:=zap hl6 _;rw[<-e];clear e;have t4:=t3.trans s4;refine q l6 l5 H6 ((t4.trans s5).trans s6) (Same.out t4 hl5) e6 ?_;rw[s6 _ _ e5];congr 2;show _=bl (Sg07.refText r1++58::Sg07.refText r2);rw[bl_append];exact zAk _ _ _
  | neg=>cases hx
  | sgn g=>cases hx
  | fu f k =>
   exfalso;unfold zck at hx;dsimp only at hx;by_cases hk:k<=([]:List (Nat×Sg07.Bytes)).length
   ·have:k=0:=by simpa using hk
    subst this;exact hfu f rfl
   ·rw[if_neg hk] at hx;cases hx
theorem zdG{r:Sg07.Ref}(h:r.row<64):(Sg07.refText r).length<=21:=by
 unfold Sg07.refText;have dl:(Sg07.decimal (r.row+1)).length<=18:=zbu _ (Nat.lt_trans (show r.row+1<65 by omega) (by decide));rw[zAa,zAb,zAa];split<;>split<;>simp<;>omega
theorem zld(xs:List (Nat×Sg07.Bytes)):phi xs.reverse=phi xs:=by
 induction xs with
 | nil=>rfl
 | cons x r ih=>rw[zBg,phi_append,ih,phi_cons,phi_cons];show _+(_+0)=_;omega
theorem zlN{H:Hp}{v:V}{it:Item}(I:ItemAt A H v it){st st':List (Nat×Sg07.Bytes)}(h:zck st it=some st'):phi st'<=phi st+50:=by
 obtain⟨a,ys,rfl,ea,iy⟩:=I.ex;cases it with
 | num n=>cases h;rw[phi_cons];have:=zbu n iy.1;dsimp only;omega
 | ref r=>obtain⟨v,R,rfl⟩:=iy;cases h;rw[phi_cons];have:=zdG R.row;dsimp only;omega
 | rng r1 r2 =>
  obtain⟨v,u,R,S,rfl⟩:=iy;cases h
  rw[phi_cons];have:=zdG R.row;have:=zdG S.row;dsimp only;rw[zAa,zAb];omega
 | neg =>
  cases st with
  | nil=>cases h
  | cons x st =>
   cases h
   rw[phi_cons,phi_cons];have:=zd1 4 x;dsimp only;rw[zAb];omega
 | sgn g =>
  match st,h with
  | [],h=>cases h
  | [x],h=>cases h
  | y::x::st,h =>
   cases h
   rw[phi_cons,phi_cons,phi_cons];have:=zd1 (max (tight g) 2) x;have:=zd1 (tight g+1) y;have:=zh7 g;dsimp only;rw[zAa,zAa];omega
 | fu f k =>
  unfold zck at h;dsimp only at h;split at h
  ·cases h
   rw[phi_cons];have h1:=zcT (st.take k).reverse;rw[zld,List.map_reverse] at h1;have h2:=phi_append (st.take k) (st.drop k);rw[zBt] at h2;obtain⟨_,_,h3⟩:=zkK f;dsimp only;rw[zAa,zAa,List.map_reverse,zAt];omega
  ·cases h
end
section
variable{P:Program}{w:World}{K:PySem.W.Frag}{mg:Str->Option Value}{base:Heap}{A:Ad}
theorem zhB(xs:List V)(n:Nat):zeB xs (some ((n:Nat):Int)) none=xs.drop n:=by
 unfold zeB;rw[HT.sIx_nat,HT.sIx_none];by_cases h:n<=xs.length
 ·rw[Nat.min_eq_left h,zBk (by rw[zBi];exact zAi _)]
 ·rw[Nat.min_eq_right (by omega),zCl (zAi _),zCl (by omega)];simp
theorem znQ(xs:List V)(n:Nat):zeB xs none (some ((n:Nat):Int))=xs.take n:=by
 unfold zeB;rw[HT.sIx_nat,HT.sIx_none,zEb];by_cases h:n<=xs.length
 ·rw[Nat.min_eq_left h];rfl
 ·rw[Nat.min_eq_right (by omega),zBk (by omega),zBk (by omega)]
theorem zjD{α:Type}(l:List α)(k:Nat)(h:k<=l.length):l.reverse.drop (l.length - k)=(l.take k).reverse:=by
 rw[List.drop_reverse];congr 2;omega
theorem zjC{α:Type}(l:List α)(k:Nat)(h:k<=l.length):l.reverse.take (l.length - k)=(l.drop k).reverse:=by
 rw[List.take_reverse];congr 2;omega
def zf_(A:Ad):Sp:=fun vs H Q _=>∃v e,vs=[v]/\FormAt A H v (comp e)/\∀l H',Same H H'->H l=none->H' l=some (.lst (bl (61::Sg07.textOf e)))->(Sg07.textOf e).length<=20000->Q (.ref l) H'
theorem sc_told_formula:zam ["formula", "stack", "item", "right", "left", "start", "parts"] ["formula"] (zag zdv):=by walk_at "sc"
inductive TfI(A:Ad)(ex:Sg07.Expr)(H:Hp)(a:Addr)(i:Nat)(σ:St)(H':Hp):Prop
 | mk (_:Same H H') stk vs st x2 x3 x4 x5 x6 (_:steps zck [] ((comp ex).take i)=some st) (_:H stk=none) (_:H' stk=some (.lst vs)) (_:Pw (TpA H' stk) vs st.reverse) (_:phi st<=50*i) (_:σ=[some (.ref a),some (.ref stk),x2,x3,x4,x5,x6])
theorem zhH(T:Txt P w K mg A):Cal P w K mg base CX0 "told_formula" 4 ["formula"] (zf_ A):=by
 refine zaV T.d_told_formula sc_told_formula (fun _ _ _ _ h=>?_) fun f _ A' _ s H vs Q E hr h=>?_
 ·obtain⟨v,e,rfl,_⟩:=h;rfl
 ·obtain⟨v,ex,rfl,F0,q⟩:=h;obtain⟨a,dx,lc,d,xs,kvs,o1,o2,rfl,ha,hlc,hd,hcode,hneed⟩:=F0.ex;have hlen:=F0.len;have htx:=zoa ex;refine⟨_,(zab (zas (i:=1) sc_told_formula.nd rfl (Or.inl rfl) (zaJ zad)) (zab (zbX PassesOwn.never rfl (zbA (zaj (pv 0) rfl)) (za3 (i:=2) sc_told_formula.nd rfl (Or.inl rfl)) (zac (zaw (zak zaK (zau zax (pv 2) zah (fun _ _=>rfl)) zaB (zao _)) (zab (zas (i:=3) sc_told_formula.nd rfl (Or.inl rfl) (zcq zAh zBn zBm zcs (pv 1))) (zab (zas (i:=4) sc_told_formula.nd rfl (Or.inl rfl) (zcq zAh zBn zBm zcs (pv 1))) (zac (zaE (zbx zAh zAs zAr zaU (pv 1) (zaa (zav (zj2 T) hr zat (zaa (zau zax (pv 2) zah (fun _ _=>rfl)) (zaa (pv 4) (zaa (pv 3) zad)))) zad)))))) (zac (zaw (zak zaK (zau zax (pv 2) zah (fun _ _=>rfl)) zaB (zao _)) (zac (zaE (zbx zAh zAs zAr zaU (pv 1) (zaa (zaY (zaa (zan T.gFACTOR) (zaa (zaD zbo (zaJ (zaa (zan T.gMINUS) zad)) (zav (zdQ T) hr zat (zaa (zcq zAh zBn zBm zcs (pv 1)) (zaa (zan T.gFACTOR) zad)))) zad))) zad)))) (zac (zaw (zak zaK (zau zax (pv 2) zah (fun _ _=>rfl)) zaB (zao _)) (zab (zas (i:=5) sc_told_formula.nd rfl (Or.inl rfl) (zaD zca (zaF zaL (by rfl) T.blen PySem.boot_len (zaa (pv 1) zad)) (zau zax (pv 2) zah (fun _ _=>rfl)))) (zab (zas (i:=6) sc_told_formula.nd rfl (Or.inl rfl) (zb3 zcw (pv 1) (zbK (pv 5)) zeX)) (zac (zas (i:=1) sc_told_formula.nd rfl (Or.inl rfl) (zaD zbo (zb3 zcw (pv 1) zeX (zbK (pv 5))) (zaJ (zaa (zav (zgu T) hr zat (zaa (zau zax (pv 2) zah (fun _ _=>rfl)) (zaa (pv 6) zad))) zad))))))) (zac (zaE (zbx zAh zAs zAr zaU (pv 1) (zaa (zav (zj3 T) hr zat (zaa (pv 2) zad)) zad))))))))))) (zac (zai (zaD zbo (zaJ (zaa (zan T.gEQUALS) zad)) (zau zax (zau zaG (pv 1) zah (fun _ _=>rfl)) zah (fun _ _=>rfl))))))),?_⟩
  try dsimp only[zaI]
  walk_at "";refine⟨by decide,fun stk hstk=>?_⟩;obtain⟨H1,e,s1,e1⟩:=zap hstk _;rw[<-e];clear e;walk_at "";refine zbh (s1 _ _ ha) T.clcFor T.ncFor_code rfl ?_;refine⟨_,rfl,⟨xs,.inl (.inr ⟨o1,s1 _ _ hlc⟩)⟩,zbP (xs:=xs) (TfI A ex H a)
   ⟨s1,stk,[],[],_,_,_,_,_,rfl,hstk,e1,Pw.nil,zAx _,rfl⟩ (fun i σ H' _ hP=>.inl (.inr ⟨o1,hP.1 _ _ hlc⟩)) (fun i y σ H' hy hP=>?_) (fun σ H' hP=>?_)⟩
  ·obtain⟨t1,stk,vs,st,x2,x3,x4,x5,x6,hst,nstk,estk,pw,hphi,rfl⟩:=hP;obtain⟨it,hit,I0⟩:=hcode.at' hy;have I:=I0.keep (zaC t1);obtain⟨st0,st',h0,h1,h2⟩:=zjm htx hit;rw[hst] at h0;cases h0;have hphi':=zlN I h1;have hic:i<(comp ex).length:=(List.getElem?_eq_some_iff.mp hit).1;have hsz:phi st<=10000:=by omega
   have pwl:vs.length=st.length:=by have:=pw.1;rw[zCf] at this;exact this
   have hvl:vs.length<=10000:=by
    have:∀l:List (Nat×Sg07.Bytes),l.length<=phi l:=fun l=>by
     induction l with
     | nil=>exact zAi _
     | cons x r ih=>rw[phi_cons,zAb];omega
    have:=this st;omega
   obtain⟨ai,ys,rfl,ea,iy⟩:=I.ex;have enm:=zhm iy;have lay:∀(H2:Hp) (us:List V) (st2:List (Nat×Sg07.Bytes)) (x:Nat×Sg07.Bytes),Same H H2->H2 stk=some (.lst us)->us.length<=10000->Pw (TpA H2 stk) us st2.reverse->st'=x::st2 ->
     ∀aa l H3,Same H2 H3->H2 l=none->H3 aa=some (.tup [.int ((x.1:Nat):Int),.ref l])->H3 l=some (.lst (bl x.2))->H3 stk=some (.lst us)/\us.length<sizeLine/\Same H (upd H3 stk (.lst (us++[.ref aa])))/\Pw (TpA (upd H3 stk (.lst (us++[.ref aa]))) stk) (us++[.ref aa]) st'.reverse:=fun H2 us st2 x tt eu hu pu est aa l H3 s3 hl e3 e4=>by
    have nl':l≠stk:=(zaf eu hl).symm;have na:aa≠stk:=fun z=>by rw[z,s3 _ _ eu] at e3;cases e3
    refine⟨s3 _ _ eu,by rw[sizeLine_eq];omega,fun b o z=>?_,?_⟩
    ·rw[zae (zaf z nstk)];exact s3 _ _ (tt _ _ z)
    ·rw[est,zBg];refine Pw.snoc (pu.mono fun p r z=>(z.same s3).upd (s3 _ _ eu)) ⟨aa,l,rfl,by rw[zae na];exact e3,by rw[zae nl'];exact e4,nl'⟩
   walk_at "";cases it with
   | sgn g =>
    obtain rfl:ys=[.str "sign",.str (zdm g)]:=iy;refine zaq (SqT.of ea) (v:=.str "sign") rfl ?_;walk_at "on";walk_at ""
    match st,h1,pw,pwl,hsz,hphi,hphi',hst with
    | [],h1,_,_,_,_,_,_=>cases h1
    | [x],h1,_,_,_,_,_,_=>cases h1
    | y0::x::st2,h1,pw,pwl,hsz,hphi,hphi',hst =>
     cases h1
     rw[zBg] at pw;obtain⟨vy,us,rfl,Y,pw2⟩:=pw.snoc_inv;rw[zBg] at pw2;obtain⟨vx,us,rfl,X,pw3⟩:=pw2.snoc_inv;refine za1 (SqL.of estk) ?_;refine zdL estk ?_;walk_at "";refine za1 (SqL.of upd_same) ?_;refine zdL upd_same ?_;rw[upd_upd];have Y2:=Y.upd (us:=us) estk;have X2:=X.upd (us:=us) estk;have pw4:Pw (TpA (upd H' stk (.lst us)) stk) us st2.reverse:=pw3.mono fun p r z=>z.upd estk;have tt:Same H (upd H' stk (.lst us)):=fun b o z=>by rw[zae (zaf z nstk)];exact t1 _ _ z
     have nai:ai≠stk:=fun z=>by rw[z,estk] at ea;cases ea
     walk_at "";refine za1 (SqL.of upd_same) ?_;walk_at "";refine zaq (SqT.of (by rw[zae nai];exact ea)) (i:=1) (v:=.str (zdm g)) rfl ?_;walk_at "";rw[phi_cons,phi_cons] at hsz;refine⟨g,_,_,x,y0,rfl,X2.at,Y2.at,by omega,?_⟩;intro aa l H3 s3 hl e3 e4;walk_at "";obtain⟨k1,k2,k3,k4⟩:=lay _ us st2 _ tt upd_same (by simp at hvl;omega) pw4 rfl aa l H3 s3 hl e3 e4;refine zaP k1 k2 ?_;exact⟨k3,stk,_,_,_,_,_,_,_,h2,nstk,upd_same,k4,by omega,rfl⟩
   | neg =>
    obtain rfl:ys=[.str "negation"]:=iy;refine zaq (SqT.of ea) (v:=.str "negation") rfl ?_;walk_at "on";walk_at "";refine zaq (SqT.of ea) (v:=.str "negation") rfl ?_;walk_at "on";walk_at ""
    match st,h1,pw,pwl,hsz,hphi,hphi',hst with
    | [],h1,_,_,_,_,_,_=>cases h1
    | x::st2,h1,pw,pwl,hsz,hphi,hphi',hst =>
     cases h1
     rw[zBg] at pw;obtain⟨vx,us,rfl,X,pw2⟩:=pw.snoc_inv;refine za1 (SqL.of estk) ?_;walk_at "";refine⟨by decide,fun l1 hl1=>?_⟩;obtain⟨H2,e,s2,e2⟩:=zap hl1 _;rw[<-e];clear e;walk_at "";refine za1 (SqL.of (s2 _ _ estk)) ?_;refine zdL (s2 _ _ estk) ?_;have X2:=(X.same s2).upd (us:=us) (s2 _ _ estk);have pw3:Pw (TpA (upd H2 stk (.lst us)) stk) us st2.reverse:=pw2.mono fun p r z=>(z.same s2).upd (s2 _ _ estk);have tt:Same H (upd H2 stk (.lst us)):=fun b o z=>by rw[zae (zaf z nstk)];exact s2 _ _ (t1 _ _ z)
     have n1:l1≠stk:=(zaf estk hl1).symm;walk_at "";rw[phi_cons] at hsz;have b1:=zd1 4 x;refine⟨_,x,4,rfl,X2.at,by omega,fun l3 H3 s3 e3=>?_⟩;refine zbO (s3 _ _ (by rw[zae n1];exact e2)) e3 (zar (by rw[bl_length];simp;omega)) fun l4 hl4=>?_;obtain⟨H4,e,s4,e4⟩:=zap hl4 _;rw[<-e];clear e;walk_at "";refine⟨zar (by simp),fun l5 hl5=>?_⟩;obtain⟨H5,e,s5,e5⟩:=zap hl5 _;rw[<-e];clear e;walk_at "";obtain⟨k1,k2,k3,k4⟩:=lay _ us st2 (4,45::brk 4 x) tt upd_same (by simp at hvl;omega) pw3 rfl l5 l4 H5 ((s3.trans s4).trans s5) (Same.out s3 hl4) e5 (s5 _ _ e4);refine zaP k1 k2 ?_;exact⟨k3,stk,_,_,_,_,_,_,_,h2,nstk,upd_same,k4,by omega,rfl⟩
   | fu f k =>
    obtain rfl:ys=[.str "function",.str (zdn f),.int (k:Nat)]:=iy;refine zaq (SqT.of ea) (v:=.str "function") rfl ?_;walk_at "on";walk_at "";refine zaq (SqT.of ea) (v:=.str "function") rfl ?_;walk_at "on";walk_at "";refine zaq (SqT.of ea) (v:=.str "function") rfl ?_;walk_at "on";walk_at "";unfold zck at h1;dsimp only at h1;by_cases hk:k<=st.length
    ·rw[if_pos hk] at h1;cases h1
     refine⟨_,_,rfl,.inl (SqL.of estk),?_⟩;walk_at "";refine zaq (SqT.of ea) (i:=2) (v:=.int (k:Nat)) rfl ?_;walk_at "";have es:((vs.length:Nat):Int) - ((k:Nat):Int)=((st.length - k:Nat):Int):=by rw[pwl];omega
     rw[es];walk_at "";refine zf0 (SqL.of estk) fun l1 hl1=>?_;rw[zhB];obtain⟨H2,e,s2,e2⟩:=zap hl1 _;rw[<-e];clear e;walk_at "";refine zf0 (SqL.of (s2 _ _ estk)) fun l3 hl3=>?_;rw[znQ];obtain⟨H3,e,s3,e3⟩:=zap hl3 _;rw[<-e];clear e;have t3:=s2.trans s3;walk_at "";refine zaq (SqT.of (t3 _ _ ea)) (i:=1) (v:=.str (zdn f)) rfl ?_;walk_at "";have pwd:=pw.drop (st.length - k);rw[zjD st k hk] at pwd;have pwt:=pw.take (st.length - k);rw[zjC st k hk] at pwt;have hp1:phi (st.take k).reverse<=90000:=by rw[zld];have:=zhd st k;omega
     refine⟨f,l1,_,(st.take k).reverse,rfl,s3 _ _ e2,pwd.mono fun p r z=>(z.same t3).at,hp1,fun aa l H4 s4 hl e4 e5=>?_⟩;walk_at "";refine⟨zar (by simp),fun l5 hl5=>?_⟩;obtain⟨H5,e,s5,e6⟩:=zap hl5 _;rw[<-e];clear e;refine zbO (s5 _ _ (s4 _ _ e3)) e6 (zar (by rw[zBa];simp;omega)) fun l6 hl6=>?_;obtain⟨H6,e,s6,e7⟩:=zap hl6 _;rw[<-e];clear e;have t6:=((t3.trans s4).trans s5);walk_at "";refine⟨(t1.trans t6).trans s6,l6,_,_,_,_,_,_,_,h2,Same.out (t1.trans t6) hl6,e7,?_,by omega,rfl⟩;rw[zBg];refine Pw.snoc (pwt.mono fun p r z=>?_) ⟨aa,l,rfl,s6 _ _ (s5 _ _ e4),s6 _ _ (s5 _ _ e5),?_⟩
     ·obtain⟨b1,b2,rfl,c1,c2,_⟩:=z.ex;exact⟨b1,b2,rfl,s6 _ _ (t6 _ _ c1),s6 _ _ (t6 _ _ c2),zaf (t6 _ _ c2) hl6⟩
     ·exact zaf (s5 _ _ e5) hl6
    ·rw[if_neg hk] at h1;cases h1
   | num n =>
    have en:atI ys 0=some (.str "number"):=enm;refine zaq (SqT.of ea) en ?_;walk_at "on";walk_at "";refine zaq (SqT.of ea) en ?_;walk_at "on";walk_at "";refine zaq (SqT.of ea) en ?_;walk_at "on";walk_at "";refine za1 (SqL.of estk) ?_;walk_at "";cases h1
    refine⟨_,_,_,rfl,I,rfl,(fun n z=>(by cases z)),fun aa l H3 s3 hl e3 e4=>?_⟩;walk_at "";obtain⟨k1,k2,k3,k4⟩:=lay H' vs st _ t1 estk hvl pw rfl aa l H3 s3 hl e3 e4;refine zaP k1 k2 ?_;exact⟨k3,stk,_,_,_,_,_,_,_,h2,nstk,upd_same,k4,by omega,rfl⟩
   | ref r =>
    have en:atI ys 0=some (.str "reference"):=enm;refine zaq (SqT.of ea) en ?_;walk_at "on";walk_at "";refine zaq (SqT.of ea) en ?_;walk_at "on";walk_at "";refine zaq (SqT.of ea) en ?_;walk_at "on";walk_at "";refine za1 (SqL.of estk) ?_;walk_at "";cases h1
    refine⟨_,_,_,rfl,I,rfl,(fun n z=>(by cases z)),fun aa l H3 s3 hl e3 e4=>?_⟩;walk_at "";obtain⟨k1,k2,k3,k4⟩:=lay H' vs st _ t1 estk hvl pw rfl aa l H3 s3 hl e3 e4;refine zaP k1 k2 ?_;exact⟨k3,stk,_,_,_,_,_,_,_,h2,nstk,upd_same,k4,by omega,rfl⟩
   | rng r1 r2 =>
    have en:atI ys 0=some (.str "range"):=enm;refine zaq (SqT.of ea) en ?_;walk_at "on";walk_at "";refine zaq (SqT.of ea) en ?_;walk_at "on";walk_at "";refine zaq (SqT.of ea) en ?_;walk_at "on";walk_at "";refine za1 (SqL.of estk) ?_;walk_at "";cases h1
    refine⟨_,_,_,rfl,I,rfl,(fun n z=>(by cases z)),fun aa l H3 s3 hl e3 e4=>?_⟩;walk_at "";obtain⟨k1,k2,k3,k4⟩:=lay H' vs st _ t1 estk hvl pw rfl aa l H3 s3 hl e3 e4;refine zaP k1 k2 ?_;exact⟨k3,stk,_,_,_,_,_,_,_,h2,nstk,upd_same,k4,by omega,rfl⟩
  ·obtain⟨t1,stk,vs,st,x2,x3,x4,x5,x6,hst,nstk,estk,pw,hphi,rfl⟩:=hP;rw[hcode.1,zBf,htx] at hst;cases hst
   obtain⟨v,us,rfl,X,pw2⟩:=pw.cons_inv;obtain⟨b1,b2,rfl,c1,c2,_⟩:=X.ex;obtain rfl:us=[]:=zBj pw2.1;rw[phi_cons] at hphi;have hcl:=hcode.1;dsimp only at hphi;walk_at "";refine⟨by decide,fun l1 hl1=>?_⟩;obtain⟨H2,e,s2,e2⟩:=zap hl1 _;rw[<-e];clear e;walk_at "";refine zaQ (SqL.of (s2 _ _ estk)) (i:=0) (v:=.ref b1) rfl ?_;walk_at "";refine zaq (SqT.of (s2 _ _ c1)) (i:=1) (v:=.ref b2) rfl ?_;have hb:(Sg07.textOf ex).length<=20000:=by omega
   refine zbO e2 (s2 _ _ c2) (zar (by rw[bl_length];simp;omega)) fun l3 hl3=>?_;obtain⟨H3,e,s3,e3⟩:=zap hl3 _;rw[<-e];clear e;exact q l3 H3 ((t1.trans s2).trans s3) (Same.out (t1.trans s2) hl3) e3 hb
end
section
variable{P:Program}{w:World}{K:PySem.W.Frag}{mg:Str->Option Value}{base:Heap}{A:Ad}
def CtAt(A:Ad)(H:Hp)(v:V):Sg07.Cell->Prop
 | .empty=>v=.non
 | .num z=>v=.int z/\-10 ^ 18<z/\z<10 ^ 18
 | .formula e=>FormAt A H v (comp e)
theorem CtAt.keep{H H':Hp}{v:V}{c:Sg07.Cell}(h:CtAt A H v c)(k:Keep A H H'):CtAt A H' v c:=by
 cases c with
 | empty=>exact h
 | num z=>exact h
 | formula e=>exact FormAt.keep h k
theorem zoK(z:Int)(h1:-10 ^ 18<z)(h2:z<10 ^ 18):(Sg07.ascii (toString z)).length<=20:=by
 unfold Sg07.ascii;rw[zAp];have nat:∀n:Nat,n<10 ^ 18->(toString n).toList.length<=18:=fun n hn=>by
  have:=zbu n hn;unfold Sg07.decimal Sg07.ascii at this;rw[zAp] at this;exact this
 cases z with
 | ofNat n =>
  have hn:n<10 ^ 18:=by
   have:((n:Nat):Int)<10 ^ 18:=h2;exact_mod_cast this
  exact zBp (nat n hn) (by decide)
 | negSucc n =>
  have e:(toString (Int.negSucc n)).toList='-'::(toString (n+1)).toList:=by
   show("-" ++ toString (n+1)).toList=_;rw[String.toList_append];rfl
  have hn:n+1<10 ^ 18:=by
   have:-(((n+1:Nat)):Int) > -10 ^ 18:=by
    have e2:Int.negSucc n=-((n+1:Nat):Int):=rfl;rw[<-e2];exact h1
   have:((n+1:Nat):Int)<10 ^ 18:=by omega
   exact_mod_cast this
  rw[e,zAb];have:=nat (n+1) hn;omega
theorem zoJ{z:Int}(h1:-10 ^ 18<z)(h2:z<10 ^ 18):z.natAbs.log2<1920:=by
 by_cases h:z.natAbs=0
 ·rw[h];decide
 ·have:=(Nat.log2_lt h).mpr (show z.natAbs<2 ^ 64 by omega);omega
def zr7:Sg07.Cell->Bool
 | .formula _=>true
 | _=>false
theorem zim(T:Txt P w K mg A){H:Hp}{v:V}{c:Sg07.Cell}{R:Bool->Prop}(h:CtAt A H v c)(q:R (zr7 c)):∃t b,TyK K H v t/\PySem.W.kitOne K t (.ref A.cFor)=some b/\R b:=by
 cases c with
 | empty=>obtain rfl:=(show v=.non from h);exact⟨_,_,.inl .non,T.isF.2.2,q⟩
 | num z=>obtain⟨rfl,_⟩:=h;exact⟨_,_,.inl (.int z),T.isF.2.1,q⟩
 | formula e =>
  obtain⟨a,dx,lc,d,xs,kvs,o1,o2,rfl,ha,_⟩:=(show FormAt A H v (comp e) from h).ex;exact⟨_,_,.inl (.ins ha T.clcFor T.tyFor.1 T.tyGet.1 T.tyGet.2 T.tyFor.2),T.isF.1,q⟩
def zga(A:Ad):Sp:=fun vs H Q _=>∃v c,vs=[v]/\CtAt A H v c/\∀l H',Same H H'->H l=none->H' l=some (.lst (bl (Sg07.cellText c)))->(Sg07.cellText c).length<=20001->Q (.ref l) H'
theorem zgk:zam ["content"] ["content"] (zag zdw):=by walk_at "sc"
theorem zhI(T:Txt P w K mg A):Cal P w K mg base CX0 "told_content" 5 ["content"] (zga A):=by
 refine zaV T.d_told_content zgk (fun _ _ _ _ h=>?_) fun f _ A' _ s H vs Q E hr h=>?_
 ·obtain⟨v,c,rfl,_⟩:=h;rfl
 ·obtain⟨v,c,rfl,C,q⟩:=h;refine⟨_,(zab (zaw (zbJ (zkw (pv 0))) (zac (zai (zaJ zad))) zal) (zab (zaw (za0 (zeY T.bisinstance (pv 0) T.gFormula)) (zac (zai (zav (zhH T) hr zat (zaa (pv 0) zad)))) zal) (zac (zai (zav (zcW T) hr zat (zaa (zdW zda (by rfl) T.bstr PyProof.Rows.boot_str (zaa (pv 0) zad)) zad)))))),?_⟩
  try dsimp only[zaI]
  walk_at "";cases c with
  | empty =>
   obtain rfl:=(show v=.non from C);refine itP rfl ?_;walk_at "";refine⟨by decide,fun l hl=>?_⟩;obtain⟨H1,e,s1,e1⟩:=zap hl _;rw[<-e];clear e;exact q l H1 s1 hl e1 (zAx _)
  | num z =>
   have C':=C;obtain⟨rfl,z1,z2⟩:=C;refine itN (by simp) ?_;walk_at "";refine zim T C' ?_;walk_at "";refine itN zAc ?_;walk_at "";refine⟨_,rfl,zoJ z1 z2,?_⟩;walk_at "";have hl20:=zoK z z1 z2;refine⟨_,rfl,zar (by rw[<-zbU,spl_int,bl_length];omega),fun l hl=>?_⟩;rw[spl_int];obtain⟨H1,e,s1,e1⟩:=zap hl _;rw[<-e];clear e;exact q l H1 s1 hl e1 (by show(Sg07.ascii (toString z)).length<=_;omega)
  | formula ex =>
   have hne:¬decide (v=.non)=true:=fun z=>by
    obtain⟨a,dx,lc,d,xs,kvs,o1,o2,rfl,_⟩:=(show FormAt A H v (comp ex) from C).ex;have:=zAf z;cases this
   refine itN hne ?_;walk_at "";refine zim T C ?_;walk_at "";refine itP rfl ?_;walk_at "";refine⟨v,ex,rfl,C,fun l H1 s1 hl e1 hz=>?_⟩;exact q l H1 s1 hl e1 (by show(Sg07.textOf ex).length+1<=_;omega)
end
section
variable{P:Program}{w:World}{K:PySem.W.Frag}{mg:Str->Option Value}{base:Heap}{A:Ad}
def SvAt(K:PySem.W.Frag)(H:Hp)(v:V):Sv->Prop
 | .w x=>WAt K H v x
 | .l xs=>∃l o vs,v=.ref l/\H l=some (.frz o (.lst vs))/\Pw (WAt K H) vs xs
theorem SvAt.keep{H H':Hp}{v:V}{x:Sv}(h:SvAt K H v x)(k:Keep A H H'):SvAt K H' v x:=by
 cases x with
 | w x=>exact WAt.keep h k
 | l xs=>obtain⟨l,o,vs,e,h1,h2⟩:=h;exact⟨l,o,vs,e,k _ _ h1 trivial,h2.mono fun a b z=>z.keep k⟩
inductive zlQ(K:PySem.W.Frag)(vs:List V)(H:Hp)(Q:VK)(E:XK):Prop
 | mk lp v0 v1 v2 a b c (_:vs=[.ref lp]) (_:H lp=some (.lst [v0,v1,v2])) (_:WAt K H v0 a) (_:WAt K H v1 b) (_:WAt K H v2 c) (_:∀v,WAt K H v (ifW a b c)->Q v H)
theorem zlT:zam ["parts"] ["parts"] (zag zjy):=by walk_at "sc"
theorem znY(T:Txt P w K mg A):Cal P w K mg base CX0 "chosen" 1 ["parts"] (zlQ K):=by
 refine zaV T.d_chosen zlT (fun _ _ _ _ h=>?_) fun f _ A' _ s H vs Q E hr h=>?_
 ·obtain⟨lp,v0,v1,v2,a,b,c,rfl,_⟩:=h;rfl
 ·obtain⟨lp,v0,v1,v2,a,b',c,rfl,hl,W0,W1,W2,q⟩:=h;obtain⟨a0,rfl,h0⟩:=W0.ex;refine⟨_,(zab (zaw (zak zei (zau zax (zau zaG (pv 0) zah (fun _ _=>rfl)) zah (fun _ _=>rfl)) zah (zao _)) (zac (zai (zau zaG (pv 0) zah (fun _ _=>rfl)))) zal) (zac (zai (zbL (zak zei (zau zax (zau zaG (pv 0) zah (fun _ _=>rfl)) zah (fun _ _=>rfl)) zah (zao _)) (zau zaG (pv 0) zah (fun _ _=>rfl)) (zau zaG (pv 0) zah (fun _ _=>rfl)))))),?_⟩
  try dsimp only[zaI]
  walk_at "";refine zaQ (SqL.of hl) (i:=0) (v:=.ref a0) rfl ?_;walk_at "";cases a with
  | error e =>
   refine zaq h0 rfl ?_;walk_at "";refine itP (zfD W0.ok) ?_;walk_at "";refine zaQ (SqL.of hl) (i:=0) (v:=.ref a0) rfl ?_;exact q _ W0
  | ok z =>
   refine zaq h0 rfl ?_;walk_at "on";walk_at "";refine zaQ (SqL.of hl) (i:=0) (v:=.ref a0) rfl ?_;walk_at "";refine zaq h0 (i:=1) (v:=.int z) rfl ?_;walk_at "";have q:∀v,WAt K H v (if z≠0 then b' else c)->Q v H:=q;refine zbg (fun hb=>?_) (fun hb=>?_)
   ·have hz:z≠0:=fun e=>by subst e;exact absurd hb (by decide)
    rw[if_pos hz] at q;walk_at "";refine zaQ (SqL.of hl) (i:=1) (v:=v1) rfl ?_;exact q _ W1
   ·have hz:¬z≠0:=fun e=>hb (by
     have:¬V.int z=V.int 0:=fun w=>e (by injection w);simp[this])
    rw[if_neg hz] at q;walk_at "";refine zaQ (SqL.of hl) (i:=2) (v:=v2) rfl ?_;exact q _ W2
def zhS(A:Ad)(K:PySem.W.Frag):Sp:=fun vs H Q _=>∃lp us xs,vs=[.ref lp]/\H lp=some (.lst us)/\Pw (SvAt K H) us xs/\(xs.flatMap Sv.all).length<=300000/\∀l H' ws,Same H H'->H l=none->H' l=some (.lst ws)->Pw (WAt K H') ws (xs.flatMap Sv.all)->Q (.ref l) H'
theorem sc_all_worths:zam ["parts", "worths", "part"] ["parts"] (zag zeU):=by walk_at "sc"
theorem zje(T:Txt P w K mg A):Cal P w K mg base CX0 "all_worths" 1 ["parts"] (zhS A K):=by
 refine zaV T.d_all_worths sc_all_worths (fun _ _ _ _ h=>?_) fun f _ A' _ s H vs Q E hr h=>?_
 ·obtain⟨lp,us,xs,rfl,_⟩:=h;rfl
 ·obtain⟨lp,us,xs,rfl,hp,pw,hz,q⟩:=h;refine⟨_,(zab (zas (i:=1) sc_all_worths.nd rfl (Or.inl rfl) (zaJ zad)) (zab (zbX PassesOwn.never rfl (zbA (pv 0)) (za3 (i:=2) sc_all_worths.nd rfl (Or.inl rfl)) (zac (zaw (za0 (zov T.bisinstance (pv 2) T.blist PyProof.Rows.boot_list)) (zac (zaE (zbx zAh zCs zCr zoG (pv 1) (zaa (pv 2) zad)))) (zac (zaE (zbx zAh zAs zAr zaU (pv 1) (zaa (pv 2) zad))))))) (zac (zai (pv 1))))),?_⟩
  try dsimp only[zaI]
  walk_at "";refine⟨by decide,fun l hl=>?_⟩;obtain⟨H1,e,s1,e1⟩:=zap hl _;rw[<-e];clear e;walk_at "";refine⟨_,rfl,⟨_,SqL.of (s1 _ _ hp)⟩,zbP (xs:=us) (fun i σ H'=>Same H H'/\∃ws x2,H' l=some (.lst ws)/\Pw (WAt K H') ws ((xs.take i).flatMap Sv.all)/\σ=[some (.ref lp),some (.ref l),x2])
   ⟨s1,[],_,e1,Pw.nil,rfl⟩ (fun i σ H' _ hP=>SqL.of (hP.1 _ _ hp)) (fun i y σ H' hy hP=>?_) (fun σ H' hP=>?_)⟩
  ·obtain⟨t1,ws,x2,el,pws,rfl⟩:=hP;obtain⟨x,hx,X0⟩:=pw.at' hy;have X:=X0.keep (zaC (A:=A) t1);have etk:(xs.take (i+1)).flatMap Sv.all=(xs.take i).flatMap Sv.all++x.all:=by rw[zAu,hx,zBc];simp
   have hsz:((xs.take (i+1)).flatMap Sv.all).length<=300000:=by
    have h4:xs.flatMap Sv.all=(xs.take (i+1)).flatMap Sv.all++(xs.drop (i+1)).flatMap Sv.all:=by rw[<-zBc,zBt]
    rw[h4,zAa] at hz;omega
   rw[etk,zAa] at hsz;have wl:=pws.1;have kk:∀ws',Keep A H' (upd H' l (.lst ws')):=fun ws'=>zbj el (fun z=>z);have fr:∀ws',Same H (upd H' l (.lst ws')):=fun ws' b o z=>by rw[zae (zaf z hl)];exact t1 _ _ z
   walk_at "";cases x with
   | w x =>
    obtain⟨a,rfl,ha⟩:=WAt.ex X;refine⟨_,_,.inr ⟨a,_,rfl,rfl,ha⟩,T.isL.2,?_⟩;walk_at "";refine itN zAc ?_;walk_at "";refine za1 (SqL.of el) ?_;walk_at "";refine zaP el (by rw[sizeLine_eq];omega) ?_;refine⟨fr _,_,_,upd_same,?_,rfl⟩;rw[etk];exact(pws.snoc (show WAt K H' (.ref a) x from X)).mono fun p r z=>z.keep (kk _)
   | l xs' =>
    obtain⟨l2,o,vs2,rfl,e2,pw2⟩:=X;refine⟨_,_,.inl (.frz e2),T.isL.1,?_⟩;walk_at "";refine itP rfl ?_;walk_at "";refine za1 (SqL.of el) ?_;walk_at "";have l2':=pw2.1;have:(Sv.l xs').all.length=xs'.length:=rfl;refine zqs el (.inr ⟨o,e2⟩) (by rw[sizeLine_eq];omega) ?_;refine⟨fr _,_,_,upd_same,?_,rfl⟩;rw[etk];exact(pws.app pw2).mono fun p r z=>z.keep (kk _)
  ·obtain⟨t1,ws,x2,el,pws,rfl⟩:=hP;rw[pw.1,zBf] at pws;walk_at "";exact q l H' ws t1 hl el pws
end
section
variable{P:Program}{w:World}{K:PySem.W.Frag}{mg:Str->Option Value}{base:Heap}{A:Ad}
theorem znd:∀zs:List Int,oks (zs.map Except.ok)=.ok zs
 | []=>rfl
 | z::zs=>by show(oks (zs.map Except.ok)).map _=_;rw[znd zs];rfl
theorem zlj:∀(zs:List Int) (e:Nat) (r:List Sg07.Worth),oks (zs.map Except.ok++.error e::r)=.error e
 | [],e,r=>rfl
 | z::zs,e,r=>by show(oks (zs.map Except.ok++.error e::r)).map _=_;rw[zlj zs e r];rfl
theorem zel:∀(r:List Int) (a:Int),r.foldl min a∈a::r
 | [],a=>by simp
 | b::r,a=>by
  have:=zel r (min a b);rw[zDd];rcases zAe this with h | h
  ·rw[h];rcases Int.le_total a b with h | h
   ·rw[Int.min_eq_left h];simp
   ·rw[Int.min_eq_right h];simp
  ·exact zAd _ (zAd _ h)
theorem ze4:∀(r:List Int) (a:Int),∀y∈a::r,r.foldl min a<=y
 | [],a,y,h=>by simp at h;rw[h];exact Int.le_refl _
 | b::r,a,y,h=>by
  rw[zDd];have h1:=ze4 r (min a b);rcases zAe h with rfl | h
  ·exact Int.le_trans (h1 _ zAo) (Int.min_le_left _ _)
  ·rcases zAe h with rfl | h
   ·exact Int.le_trans (h1 _ zAo) (Int.min_le_right _ _)
   ·exact h1 _ (zAd _ h)
theorem zem:∀(r:List Int) (a:Int),r.foldl max a∈a::r
 | [],a=>by simp
 | b::r,a=>by
  have:=zem r (max a b);rw[zDd];rcases zAe this with h | h
  ·rw[h];rcases Int.le_total a b with h | h
   ·rw[Int.max_eq_right h];simp
   ·rw[Int.max_eq_left h];simp
  ·exact zAd _ (zAd _ h)
theorem ze5:∀(r:List Int) (a:Int),∀y∈a::r,y<=r.foldl max a
 | [],a,y,h=>by simp at h;rw[h];exact Int.le_refl _
 | b::r,a,y,h=>by
  rw[zDd];have h1:=ze5 r (max a b);rcases zAe h with rfl | h
  ·exact Int.le_trans (Int.le_max_left _ _) (h1 _ zAo)
  ·rcases zAe h with rfl | h
   ·exact Int.le_trans (Int.le_max_right _ _) (h1 _ zAo)
   ·exact h1 _ (zAd _ h)
theorem znj{ns:List Int}{m:Int}(h1:m∈ns)(h2:∀y∈ns,m<=y):Sg07.made .min ns=.ok m:=by
 cases ns with
 | nil=>cases h1
 | cons a r =>
  show Except.ok (r.foldl min a)=_;have:=ze4 r a m h1;have:=h2 _ (zel r a);congr 1;omega
theorem znk{ns:List Int}{m:Int}(h1:m∈ns)(h2:∀y∈ns,y<=m):Sg07.made .max ns=.ok m:=by
 cases ns with
 | nil=>cases h1
 | cons a r =>
  show Except.ok (r.foldl max a)=_;have:=ze5 r a m h1;have:=h2 _ (zem r a);congr 1;omega
inductive ziD(A:Ad)(K:PySem.W.Frag)(vs:List V)(H:Hp)(Q:VK)(E:XK):Prop
 | mk f lp us xs (_:vs=[.str (zqE f),.ref lp]) (_:H lp=some (.lst us)) (_:Pw (SvAt K H) us xs) (_:(xs.flatMap Sv.all).length<=300000) (_:∀v H',Same H H'->WAt K H' v ((oks (xs.flatMap Sv.all)).bind (Sg07.made f))->Q v H')
theorem sc_summed_up:zam ["name", "parts", "worths", "worth", "values"] ["name", "parts"] (zag zdy):=by walk_at "sc"
inductive SuI(H1:Hp)(fn:Sg07.Fn)(lp l:Addr)(W:List Sg07.Worth)(i:Nat)(σ:St)(H':Hp):Prop
 | mk (_:H'=H1) (_:(∃zs:List Int,W.take i=zs.map Except.ok)) x3 x4 (_:σ=[some (.str (zqE fn)),some (.ref lp),some (.ref l),x3,x4])
theorem zj4(T:Txt P w K mg A):Cal P w K mg base CX0 "summed_up" 2 ["name", "parts"] (ziD A K):=by
 refine zaV T.d_summed_up sc_summed_up (fun _ _ _ _ h=>?_) fun f _ A' _ s H vs Q E hr h=>?_
 ·obtain⟨f,lp,us,xs,rfl,_⟩:=h;rfl
 ·obtain⟨fn,lp,us,xs,rfl,hp,pw,hz,q⟩:=h;refine⟨_,(zab (zas (i:=2) sc_summed_up.nd rfl (Or.inl rfl) (zav (zje T) hr zat (zaa (pv 1) zad))) (zab (zbX PassesOwn.never rfl (zbA (pv 2)) (za3 (i:=3) sc_summed_up.nd rfl (Or.inl rfl)) (zac (zaw (zak zei (zau zax (pv 3) zah (fun _ _=>rfl)) zah (zao _)) (zac (zai (pv 3))) zal))) (zab (zjG (te:=tOp (zlX K) (zaX 3) (tC (.int 1))) (i:=4) rfl sc_summed_up.nd rfl rfl (zk0 rfl rfl rfl (by decide +kernel)) (zbA (pv 2)) (zcu (N:=["name", "parts", "worths", "worth", "values"]) (sc:=zag zdy) (own:=[("worth",3)]) (by decide +kernel)) (fun _ _ _ _ _=>(za3 (i:=3) sc_summed_up.nd rfl (Or.inl rfl))) (fun _ _ _ _ _=>zgA) (fun _ _ _ _ _=>(zau zax (pv 3) zah (fun _ _=>rfl)))) (zab (zaw (zak zaK (pv 0) zaB (zao _)) (zac (zai (zav (za5 T) hr zat (zaa (zaF (zqN rfl) (by rfl) T.bsum PyProof.Rows.boot_sum (zaa (pv 4) zad)) zad)))) zal) (zab (zaw (zak zaK (pv 0) zaB (zao _)) (zac (zai (zaY (zaa zah (zaa (zor rfl T.bmin (pv 4) zah) zad))))) zal) (zab (zaw (zak zaK (pv 0) zaB (zao _)) (zac (zai (zaY (zaa zah (zaa (zot rfl T.bmax (pv 4) zah) zad))))) zal) (zac (zai (zaY (zaa zah (zaa (zaF zaL (by rfl) T.blen PySem.boot_len (zaa (pv 4) zad)) zad))))))))))),?_⟩
  try dsimp only[zaI]
  walk_at "";refine⟨lp,us,xs,rfl,hp,pw,hz,fun l H1 ws s1 hl e1 pws=>?_⟩;generalize xs.flatMap Sv.all=W at hz q pws;walk_at "";refine⟨_,rfl,⟨_,SqL.of e1⟩,zbP (xs:=ws) (SuI H1 fn lp l W)
   ⟨rfl,⟨[],rfl⟩,_,_,rfl⟩ (fun i σ H' _ hP=>by rw[hP.1];exact SqL.of e1) (fun i y σ H' hy hP=>?_) (fun σ H' hP=>?_)⟩
  ·obtain⟨rfl,⟨zs,hzs⟩,x3,x4,rfl⟩:=hP;obtain⟨x,hx,X⟩:=pws.at' hy;obtain⟨a,rfl,ha⟩:=X.ex;walk_at "";cases x with
   | error e =>
    refine zaq ha rfl ?_;walk_at "";refine itP (zfD X.ok) ?_;walk_at "";have eW:W=zs.map Except.ok++.error e::W.drop (i+1):=by
     have hi:=(List.getElem?_eq_some_iff.mp hx);rw[<-hzs,<-hi.2,<-zBo hi.1,zBt]
    refine q _ _ s1 ?_;rw[eW,zlj];exact X
   | ok z =>
    refine zaq ha rfl ?_;walk_at "on";refine⟨rfl,⟨zs++[z],by rw[zAu,hzs,hx,zBr];rfl⟩,_,_,rfl⟩
  ·obtain⟨rfl,⟨zs,hzs⟩,x3,x4,rfl⟩:=hP;rw[pws.1,zBf] at hzs;subst hzs;rw[znd] at q;have q:∀v H'',Same H H''->WAt K H'' v (Sg07.made fn zs)->Q v H'':=q;have hin:∀z∈zs,inB z:=fun z hz'=>by
    obtain⟨i,hi⟩:=zEa hz';obtain⟨v,_,X⟩:=pws.at (i:=i) (b:=.ok z) (by rw[zBl,hi];rfl);exact X.ok
   walk_at "";refine⟨_,rfl,⟨_,SqL.of e1⟩,fun D hD=>?_⟩;have nD:l≠D:=zaf e1 hD;refine zi0 (xs:=ws) (fun i H2=>H2=upd H' D (.lst ((zs.take i).map V.int))) rfl (fun i H2 _ e=>by rw[e];exact SqL.of (by rw[zae nD];exact e1)) (fun i y H2 hy e=>?_) (fun H2 e=>?_)
   ·subst e;obtain⟨x,hx,X⟩:=pws.at' hy;rw[zBl] at hx;obtain⟨z,hz',rfl⟩:=Option.map_eq_some_iff.mp hx;obtain⟨a,rfl,ha⟩:=X.ex;have ha2:SqT K (upd H' D (.lst ((zs.take i).map V.int))) a [.int 0,.int z]:=zgP ha fun o q' _=>by rw[zae (zaf q' hD)];exact q'
    walk_at "";refine⟨rfl,?_⟩;walk_at "";refine zhY ?_;walk_at "";refine zaq ha2 (i:=1) (v:=.int z) rfl ?_;refine⟨_,upd_same,?_,?_⟩
    ·have h1:=(List.getElem?_eq_some_iff.mp hz').1;rw[zAp] at hz;rw[zAp,zBa,sizeLine_eq];omega
    ·rw[upd_upd,zAu,hz',zBr];rfl
   ·subst e;have el:ws.length=zs.length:=by rw[pws.1,zAp]
    rw[el,zBf];obtain⟨H2,e,s2,e2⟩:=zap hD (.lst (zs.map V.int));rw[<-e];clear e;have t2:=s1.trans s2;walk_at "";cases fn with
    | sum =>
     walk_at "on";walk_at "";refine⟨_,zs,rfl,SqL.of e2,?_⟩;walk_at "";exact⟨_,rfl,fun v H3 s3 w=>q v H3 (t2.trans s3) w⟩
    | min =>
     walk_at "on";walk_at "";dsimp only;walk_at "";refine⟨_,zs,rfl,SqL.of e2,fun h0=>?_,fun m h1 h2=>?_⟩
     ·walk_at "";refine⟨zar (by simp),fun l3 hl3=>?_⟩;refine q _ _ (t2.trans (zaN hl3)) ?_;rw[h0];exact zb1 (by decide)
     ·walk_at "";refine⟨zar (by simp),fun l3 hl3=>?_⟩;refine q _ _ (t2.trans (zaN hl3)) ?_;rw[znj h1 h2];exact zb1 (hin m h1)
    | max =>
     walk_at "on";walk_at "";dsimp only;walk_at "";refine⟨_,zs,rfl,SqL.of e2,fun h0=>?_,fun m h1 h2=>?_⟩
     ·walk_at "";refine⟨zar (by simp),fun l3 hl3=>?_⟩;refine q _ _ (t2.trans (zaN hl3)) ?_;rw[h0];exact zb1 (by decide)
     ·walk_at "";refine⟨zar (by simp),fun l3 hl3=>?_⟩;refine q _ _ (t2.trans (zaN hl3)) ?_;rw[znk h1 h2];exact zb1 (hin m h1)
    | count =>
     walk_at "on";walk_at "";refine⟨_,_,rfl,.inl (SqL.of e2),?_⟩;walk_at "";refine⟨zar (by simp),fun l3 hl3=>?_⟩;refine q _ _ (t2.trans (zaN hl3)) ?_;rw[zAp];rw[zAp] at hz;exact zb1 (by constructor<;>omega)
inductive zdp(A:Ad)(K:PySem.W.Frag)(vs:List V)(H:Hp)(Q:VK)(E:XK):Prop
 | mk f lp us xs x (_:vs=[.str (zdn f),.ref lp]) (_:H lp=some (.lst us)) (_:Pw (SvAt K H) us xs) (_:(xs.flatMap Sv.all).length<=300000) (_:fuW f xs=some x) (_:∀v H',Same H H'->WAt K H' v x->Q v H')
theorem zdu:zam ["name", "parts"] ["name", "parts"] (zag zcb):=by walk_at "sc"
theorem zd7(T:Txt P w K mg A):Cal P w K mg base CX0 "worth_of_function" 3 ["name", "parts"] (zdp A K):=by
 refine zaV T.d_worth_of_function zdu (fun _ _ _ _ h=>?_) fun f _ A' _ s H vs Q E hr h=>?_
 ·obtain⟨f,lp,us,xs,x,rfl,_⟩:=h;rfl
 ·obtain⟨fu,lp,us,xs,x,rfl,hp,pw,hz,hf,q⟩:=h;refine⟨_,(zab (zaw (zak zaK (pv 0) zaB (zao _)) (zac (zai (zav (znY T) hr zat (zaa (pv 1) zad)))) zal) (zac (zai (zav (zj4 T) hr zat (zaa (pv 0) (zaa (pv 1) zad)))))),?_⟩
  try dsimp only[zaI]
  walk_at "";cases fu with
  | iff =>
   walk_at "on";walk_at ""
   match xs,hf,pw with
   | [.w a,.w b,.w c],hf,pw =>
    cases hf
    obtain⟨v0,us,rfl,W0,pw⟩:=pw.cons_inv;obtain⟨v1,us,rfl,W1,pw⟩:=pw.cons_inv;obtain⟨v2,us,rfl,W2,pw⟩:=pw.cons_inv;obtain rfl:us=[]:=zBj pw.1;exact⟨lp,v0,v1,v2,a,b,c,rfl,hp,W0,W1,W2,fun v w=>q v H (Same.refl H) w⟩
  | fn f =>
   cases hf
   have hne:¬decide (V.str (zdn (.fn f))=V.str "IF")=true:=by cases f<;>decide
   refine itN hne ?_;walk_at "";exact⟨f,lp,us,xs,rfl,hp,pw,hz,q⟩
end
section
variable{P:Program}{w:World}{K:PySem.W.Frag}{mg:Str->Option Value}{base:Heap}{A:Ad}
section
variable{κ:Type}[DecidableEq κ]
theorem zla{kvs:List (κ×V)}{k:κ}{v:V}{p:κ×V}(h:p∈zbk kvs k v):p∈kvs\/p=(k,v):=by
 unfold zbk at h;split at h
 ·obtain⟨p',hp',rfl⟩:=List.mem_map.mp h;split
  ·rename_i e;exact .inr (by rw[e])
  ·exact .inl hp'
 ·rcases zAw h with h | h
  ·exact .inl h
  ·exact .inr (zAg h)
theorem zeF{kvs:List (κ×V)}{k:κ}{v:V}(h:zaO kvs k=some v):(k,v)∈kvs:=by
 unfold zaO at h;obtain⟨p,hp,rfl⟩:=Option.map_eq_some_iff.mp h;have h1:=List.find?_some hp;have h2:=zDg hp;rw[<-zAf h1];exact h2
end
def rgW(S:Sg07.Sheet)(a b:Sg07.Ref):List Sg07.Worth:=((Sg07.cellsOf a b).filter fun c=>!Sg07.isEmpty (S c)).map (wS S)
structure zjf(r:Sg07.Ref):Prop where
 row:r.row<64
 col:r.column<16
theorem zjY{a b a' b':Sg07.Ref}(ha:zjf a)(hb:zjf b)(ha':zjf a')(hb':zjf b')(e1:a.cell=a'.cell)(e2:b.cell=b'.cell):Sg07.cellsOf a b=Sg07.cellsOf a' b':=by
 unfold Sg07.Ref.cell Sg07.COLUMNS at e1 e2;have h1:=ha.col;have h2:=hb.col;have h3:=ha'.col;have h4:=hb'.col;have r1:a.row=a'.row:=by omega
 have c1:a.column=a'.column:=by omega
 have r2:b.row=b'.row:=by omega
 have c2:b.column=b'.column:=by omega
 unfold Sg07.cellsOf;rw[r1,c1,r2,c2]
abbrev kns(d1 d2:Addr):List (Str×V):=[("cells",.ref d1),("ranges",.ref d2)]
structure CsOk(K:PySem.W.Frag)(H:Hp)(S:Sg07.Sheet)(kv:List (Key×V)):Prop where
 mem:∀p∈kv,∃c:Nat,p.1=.inl (c:Int)/\c<1024/\Sg07.isEmpty (S c)=false/\WAt K H p.2 (wS S c)
 nd:(kv.map (·.1)).Nodup
structure RgOk(K:PySem.W.Frag)(H:Hp)(S:Sg07.Sheet)(kv:List (List Key×V)):Prop where
 mem:∀p∈kv,∃a b:Sg07.Ref,zjf a/\zjf b/\p.1=[.inl (a.cell:Int),.inl (b.cell:Int)]/\SvAt K H p.2 (.l (rgW S a b))
 nd:(kv.map (·.1)).Nodup
structure KnAt(A:Ad)(K:PySem.W.Frag)(H:Hp)(kn dx d1 d2:Addr)(kv1:List (Key×V))(S:Sg07.Sheet):Prop where
 o:H kn=some (.ins A.cWo dx (kns d1 d2))
 c:H d1=some (.dK kv1)
 r:∃kv2,H d2=some (.dT kv2)/\RgOk K H S kv2
 cs:CsOk K H S kv1
theorem zc_{a:Sg07.Ref}(h:zjf a):a.cell<1024:=by
 unfold Sg07.Ref.cell Sg07.COLUMNS;have:=h.row;have:=h.col;omega
theorem RgOk.len{H:Hp}{S:Sg07.Sheet}{kv:List (List Key×V)}(h:RgOk K H S kv):kv.length<=1048576:=by
 let f:List Key->Nat:=fun k=>match k with
  | [.inl a,.inl b]=>a.toNat*1024+b.toNat
  | _=>0
 have e:(kv.map fun p=>f p.1).length=kv.length:=zAp _;rw[<-e];refine zc1 1048576 _ ?_ fun x hx=>?_
 ·have nd:=h.nd;have mem:=h.mem;clear e;induction kv with
  | nil=>exact zCj
  | cons p r ih =>
   rw[zAz] at nd ⊢;rw[List.nodup_cons] at nd ⊢;refine⟨fun hm=>nd.1 ?_,ih ⟨fun q hq=>mem q (zAd _ hq),nd.2⟩ nd.2 fun q hq=>mem q (zAd _ hq)⟩;obtain⟨q,hq,eq'⟩:=List.mem_map.mp hm;obtain⟨a,b,ha,hb,e1,_⟩:=mem p zAo;obtain⟨a',b',ha',hb',e2,_⟩:=mem q (zAd _ hq);have l1:=zc_ ha;have l2:=zc_ hb;have l3:=zc_ ha';have l4:=zc_ hb';rw[e1,e2] at eq';have eq2:a'.cell*1024+b'.cell=a.cell*1024+b.cell:=by
    have:f [.inl (a'.cell:Int),.inl (b'.cell:Int)]=a'.cell*1024+b'.cell:=by show(a'.cell:Int).toNat*1024+(b'.cell:Int).toNat=_;omega
    have h2:f [.inl (a.cell:Int),.inl (b.cell:Int)]=a.cell*1024+b.cell:=by show(a.cell:Int).toNat*1024+(b.cell:Int).toNat=_;omega
    rw[this,h2] at eq';exact eq'
   refine List.mem_map.mpr ⟨q,hq,?_⟩;rw[e1,e2,show a'.cell=a.cell by omega,show b'.cell=b.cell by omega]
 ·obtain⟨p,hp,rfl⟩:=List.mem_map.mp hx;obtain⟨a,b,ha,hb,e1,_⟩:=h.mem p hp;have l1:=zc_ ha;have l2:=zc_ hb;show f p.1<_;rw[e1];show(a.cell:Int).toNat*1024+(b.cell:Int).toNat<1048576;omega
theorem RgOk.keep{H H':Hp}{S:Sg07.Sheet}{kv:List (List Key×V)}(h:RgOk K H S kv)(k:Keep A H H'):RgOk K H' S kv:=
 ⟨fun p hp=>let ⟨a,b,h1,h2,h3,h4⟩:=h.mem p hp;⟨a,b,h1,h2,h3,h4.keep k⟩,h.nd⟩
theorem CsOk.keep{H H':Hp}{S:Sg07.Sheet}{kv:List (Key×V)}(h:CsOk K H S kv)(k:Keep A H H'):CsOk K H' S kv:=
 ⟨fun p hp=>let ⟨c,h1,h2,h3,h4⟩:=h.mem p hp;⟨c,h1,h2,h3,h4.keep k⟩,h.nd⟩
theorem KnAt.same{H H':Hp}{kn dx d1 d2:Addr}{kv1:List (Key×V)}{S:Sg07.Sheet}(h:KnAt A K H kn dx d1 d2 kv1 S)(s:Same H H'):KnAt A K H' kn dx d1 d2 kv1 S:=
 ⟨s _ _ h.o,s _ _ h.c,let ⟨kv2,e,r⟩:=h.r;⟨kv2,s _ _ e,r.keep (zaC (A:=A) s)⟩,h.cs.keep (zaC (A:=A) s)⟩
theorem KnAt.n12{H:Hp}{kn dx d1 d2:Addr}{kv1:List (Key×V)}{S:Sg07.Sheet}(h:KnAt A K H kn dx d1 d2 kv1 S):d1≠d2/\kn≠d1/\kn≠d2:=by
 obtain⟨kv2,e,_⟩:=h.r;refine⟨fun z=>?_,fun z=>?_,fun z=>?_⟩
 ·have:=h.c;rw[z,e] at this;cases this
 ·have:=h.c;rw[<-z,h.o] at this;cases this
 ·have:=e;rw[<-z,h.o] at this;cases this
theorem KnAt.other{H H':Hp}{kn dx d1 d2 x:Addr}{kv1:List (Key×V)}{S:Sg07.Sheet}(h:KnAt A K H kn dx d1 d2 kv1 S)(s:Sb [x] H H')(n:x≠kn/\x≠d1/\x≠d2)(k:Keep A H H'):KnAt A K H' kn dx d1 d2 kv1 S:=
 ⟨s _ _ h.o (by simp[n.1.symm]),s _ _ h.c (by simp[n.2.1.symm]),let ⟨kv2,e,r⟩:=h.r;⟨kv2,s _ _ e (by simp[n.2.2.symm]),r.keep k⟩,h.cs.keep k⟩
section
variable{H:Hp}{kn dx d1 d2:Addr}{R:V->Prop}
theorem zek(T:Txt P w K mg A)(h:H kn=some (.ins A.cWo dx (kns d1 d2)))(q:R (.ref d1)):∃a C dx fs v,V.ref kn=.ref a/\H a=some (.ins C dx fs)/\Cls K C/\NoAttr K C "cells" /\ fs.lookup ("cells" : Str)=some v/\R v:=zbh h T.clcWo T.ncWo_cells (by rfl) q
theorem zlr(T:Txt P w K mg A)(h:H kn=some (.ins A.cWo dx (kns d1 d2)))(q:R (.ref d2)):∃a C dx fs v,V.ref kn=.ref a/\H a=some (.ins C dx fs)/\Cls K C/\NoAttr K C "ranges" /\ fs.lookup ("ranges" : Str)=some v/\R v:=zbh h T.clcWo T.ncWo_ranges (by rfl) q
end
def zdt(A:Ad):Sp:=fun vs H Q _=>∃p dx,vs=[.ref p]/\H p=some (.ins A.cWo dx [])/\∀H' d1 d2,Sb [p] H H'->H d1=none->H d2=none->H' p=some (.ins A.cWo dx (kns d1 d2))->H' d1=some (.dK [])->H' d2=some (.dT [])->Q .non H'
theorem zg1:zam ["self"] ["self"] (zag zef):=by walk_at "sc"
theorem zj6(T:Txt P w K mg A):CaC P w K mg base CX0 "Worths" A.cWo 1 ["self"] (zdt A):=by
 refine zjc T.i_Worths zg1 (fun _ _ _ _ h=>?_) fun f _ A' _ s H vs Q E hr h=>?_
 ·obtain⟨p,dx,rfl,_⟩:=h;rfl
 ·obtain⟨p,dx,rfl,hp,q⟩:=h;refine⟨_,(zab (zbE (pv 0) zhe rfl) (zac (zbE (pv 0) zm7 rfl))),?_⟩
  try dsimp only[zaI]
  walk_at "";intro d1 h1;walk_at "";have n1:p≠d1:=zaf hp h1;refine za_ (by rw[zae n1];exact hp) T.clcWo T.ncWo_cells (by decide) ?_;walk_at "";intro d2 h2;walk_at "";have n2:p≠d2:=zaf upd_same h2;have n3:d1≠d2:=zaf (show _=some (HO.dK []) from by rw[zae n1.symm];exact upd_same) h2;refine za_ (by rw[zae n2];exact upd_same) T.clcWo T.ncWo_ranges (by show 1<1000;decide) ?_;have h2':H d2=none:=by rw[zae n2.symm,zae n3.symm] at h2;exact h2
  refine q _ d1 d2 (fun b o z nb=>?_) h1 h2' ?_ ?_ ?_
  ·have n0:b≠p:=fun e=>nb (by simp[e]);rw[zae n0,zae (zaf z h2'),zae n0,zae (zaf z h1)];exact z
  ·rw[upd_same];rfl
  ·rw[zae n1.symm,zae n3,zae n1.symm];exact upd_same
  ·rw[zae n2.symm];exact upd_same
end
section
variable{P:Program}{w:World}{K:PySem.W.Frag}{mg:Str->Option Value}{base:Heap}{A:Ad}
def Kno(S:Sg07.Sheet)(kv1:List (Key×V))(l:List Nat):Prop:=∀c∈l,Sg07.isEmpty (S c)=false->(zaO kv1 (.inl (c:Int))).isSome=true
theorem zgC{H:Hp}{kn dx d1 d2:Addr}{kv1:List (Key×V)}{S:Sg07.Sheet}(h:KnAt A K H kn dx d1 d2 kv1 S){c:Nat}{v:V}(e:zaO kv1 (.inl (c:Int))=some v):Sg07.isEmpty (S c)=false/\WAt K H v (wS S c):=by
 obtain⟨c',e1,_,e3,e4⟩:=h.cs.mem _ (zeF e);have:c=c':=by have:=zBy e1;omega
 subst this;exact⟨e3,e4⟩
inductive zep(A:Ad)(K:PySem.W.Frag)(vs:List V)(H:Hp)(Q:VK)(E:XK):Prop
 | mk v1 v2 a b kn dx d1 d2 kv1 S (_:vs=[v1,v2,.ref kn]) (_:RefAt A H v1 a) (_:RefAt A H v2 b) (_:KnAt A K H kn dx d1 d2 kv1 S) (_:Kno S kv1 (Sg07.cellsOf a b)) (_:∀v H',Sb [d2] H H'->KnAt A K H' kn dx d1 d2 kv1 S->SvAt K H' v (.l (rgW S a b))->Q v H')
theorem sc_worths_of_range:zam ["first", "last", "known", "ends", "cell"] ["first", "last", "known"] (zag zbI):=by walk_at "sc"
theorem zfd(T:Txt P w K mg A):Cal P w K mg base CX0 "worths_of_range" 2 ["first", "last", "known"] (zep A K):=by
 refine zaV T.d_worths_of_range sc_worths_of_range (fun _ _ _ _ h=>?_) fun f _ A' _ s H vs Q E hr h=>?_
 ·obtain⟨v1,v2,a,b,kn,dx,d1,d2,kv1,S,rfl,_⟩:=h;rfl
 ·obtain⟨v1,v2,a,b',kn,dx,d1,d2,kv1,S,rfl,R1,R2,N,hk,q⟩:=h;have ok1:zjf a:=⟨R1.row,R1.col⟩;have ok2:zjf b':=⟨R2.row,R2.col⟩;refine⟨_,(zab (zas (i:=3) sc_worths_of_range.nd rfl (Or.inl rfl) (zaY (zaa (zav (zd0 T) hr zat (zaa (pv 0) zad)) (zaa (zav (zd0 T) hr zat (zaa (pv 1) zad)) zad)))) (zab (zaw (zbJ (zbY (zba hr) (pv 3) (zaj (pv 2) rfl))) (zac (zku (zcA (zba hr) (zaj (pv 2) rfl) (pv 3) (zle (tt:=tB (zmC (zaX 4) (zcJ K (zaX 2) "cells"))) (te:=zkZ (zcJ K (zaX 2) "cells") (zaX 4)) rfl sc_worths_of_range.nd (zbA (zav (zdk T) hr zat (zaa (pv 0) (zaa (pv 1) zad)))) (zcu (N:=["first", "last", "known", "ends", "cell"]) (sc:=zag zbI) (own:=[("cell",4)]) (by decide +kernel)) (fun _ _ _ _ _=>(za3 (i:=4) sc_worths_of_range.nd rfl (Or.inl rfl))) (fun _ _ _ _ _=>(ziQ (zbJ (ziS (zba hr) (pv 4) (zaj (pv 2) rfl))))) (fun _ _ _ _ _=>(zcB (zba hr) (zaj (pv 2) rfl) (pv 4) (fun _ _=>rfl)))) rfl))) zal) (zac (zai (zcB (zba hr) (zaj (pv 2) rfl) (pv 3) (fun _ _=>rfl)))))),?_⟩
  try dsimp only[zaI]
  walk_at "";refine⟨v1,a,rfl,R1,?_⟩;walk_at "";refine⟨v2,b',rfl,R2,?_⟩;walk_at "";refine⟨zar (by simp),fun te hte=>?_⟩;obtain⟨H1,e,s1,e1⟩:=zap hte _;rw[<-e];clear e;have N1:=N.same s1;obtain⟨kv2,er,ro⟩:=N1.r;have e1':H1 te=some (.tup ([(.inl ((a.cell:Nat):Int):Key),.inl ((b'.cell:Nat):Int)].map kV)):=e1;walk_at "";refine zlr T N1.o ?_;refine⟨d2,_,rfl,zkP (.inl er) e1',?_⟩;walk_at "";cases hv:zaO kv2 [(.inl ((a.cell:Nat):Int):Key),.inl ((b'.cell:Nat):Int)] with
  | some v =>
   refine itN (by simp) ?_;walk_at "";refine zlr T N1.o ?_;walk_at "";refine⟨d2,v,rfl,by rw[<-hv];exact zkP (.inl er) e1',?_⟩;obtain⟨a',b'',o1,o2,ek,sv⟩:=ro.mem _ (zeF hv);have ek':[(.inl ((a.cell:Nat):Int):Key),.inl ((b'.cell:Nat):Int)]=[.inl ((a'.cell:Nat):Int),.inl ((b''.cell:Nat):Int)]:=ek;have ea:a.cell=a'.cell:=by injection ek' with e _;have:=zBy e;omega
   have eb:b'.cell=b''.cell:=by injection ek' with _ e;injection e with e _;have:=zBy e;omega
   have:rgW S a' b''=rgW S a b':=by unfold rgW;rw[zjY o1 o2 ok1 ok2 ea.symm eb.symm]
   rw[this] at sv;exact q v H1 (Sb.of s1) N1 sv
  | none =>
   refine itP rfl ?_;dsimp only;refine znA ?_;dsimp only;walk_at "";refine⟨v1,v2,a,b',rfl,R1.mono (zaC s1),R2.mono (zaC s1),fun lc H2 s2 hlc e2=>?_⟩;have N2:=N1.same s2;refine⟨_,rfl,⟨_,SqL.of e2⟩,fun D hD=>?_⟩;have nD:lc≠D:=zaf e2 hD;refine zi0 (xs:=nl (Sg07.cellsOf a b')) (fun i H3=>∃vs,H3=upd H2 D (.lst vs)/\vs.length<=i/\Pw (WAt K H2) vs ((((Sg07.cellsOf a b').take i).filter fun c=>!Sg07.isEmpty (S c)).map (wS S))) ⟨[],rfl,zAi _,Pw.nil⟩ (fun i H3 _ e=>by obtain⟨vs,e,_⟩:=e;rw[e];exact SqL.of (by rw[zae nD];exact e2)) (fun i y H3 hy e=>?_) (fun H3 e=>?_)
   ·obtain⟨vs,rfl,hlen,pw⟩:=e;have hy2:∃n:Nat,(Sg07.cellsOf a b')[i]?=some n/\y=.int (n:Int):=by
     unfold nl at hy;rw[zBl] at hy;obtain⟨n,hn,rfl⟩:=Option.map_eq_some_iff.mp hy;exact⟨n,hn,rfl⟩
    obtain⟨n,hn,rfl⟩:=hy2;have hmem:n∈Sg07.cellsOf a b':=zBs hn;have sD:Same H2 (upd H2 D (.lst vs)):=fun b o z=>by rw[zae (zaf z hD)];exact z
    have N3:=N2.same sD;have etk:(((Sg07.cellsOf a b').take (i+1)).filter fun c=>!Sg07.isEmpty (S c)).map (wS S)=((((Sg07.cellsOf a b').take i).filter fun c=>!Sg07.isEmpty (S c)).map (wS S))++(if Sg07.isEmpty (S n)=true then[] else[wS S n]):=by
     rw[zAu,hn,zEe,zBr];congr 1;cases hne:Sg07.isEmpty (S n)<;>simp[hne]
    walk_at "";refine⟨rfl,?_⟩;walk_at "";refine zek T N3.o ?_;refine⟨d1,_,rfl,zbc (k:=.inl ((n:Nat):Int)) (.inl N3.c),?_⟩;walk_at "";cases hvn:zaO kv1 (.inl ((n:Nat):Int)) with
    | some v =>
     obtain⟨he,W⟩:=zgC N2 hvn;refine itP rfl ?_;walk_at "";refine zek T N3.o ?_;walk_at "";refine⟨d1,v,rfl,by rw[<-hvn];exact zbc (k:=.inl ((n:Nat):Int)) (.inl N3.c),?_⟩;have hcl:(Sg07.cellsOf a b').length<=1024:=by
      rw[zc9 R1.row R2.row R1.col R2.col];have:=zcH (a:=a) (b:=b') R1.col R2.col (max a.row b'.row+1 - min a.row b'.row);have h1:=R1.row;have h2:=R2.row;unfold zcI at this;omega
     have hil:=(List.getElem?_eq_some_iff.mp hn).1;refine⟨vs,upd_same,by rw[sizeLine_eq];omega,vs++[v],by rw[upd_upd],by rw[zAa,zAt];omega,?_⟩;rw[etk,he,if_neg zAc];exact pw.snoc W
    | none =>
     refine itN zAc ?_;have he:Sg07.isEmpty (S n)=true:=by
      cases z:Sg07.isEmpty (S n) with
      | true=>rfl
      | false=>have:=hk n hmem z;rw[hvn] at this;cases this
     refine⟨vs,rfl,by omega,?_⟩;rw[etk,he,if_pos rfl,zBz];exact pw
   ·obtain⟨vs,rfl,hlen,pw⟩:=e;rw[nl_length,zBf] at pw;obtain⟨H3,e,s3,e3⟩:=zap hD (.lst vs);rw[<-e];clear e;have N3:=N2.same s3;obtain⟨kv3,er3,ro3⟩:=N3.r;have t3:=s2.trans s3;have ekv:kv3=kv2:=by rw[t3 _ _ er] at er3;cases er3;rfl
    subst ekv;walk_at "";refine zlr T N3.o ?_;walk_at "";have hl2:=ro3.len;refine zoO er3 (t3 _ _ e1') (by rw[sizeLine_eq];omega) ?_;have nD2:D≠d2:=fun z=>by rw[z,er3] at e3;cases e3
    refine⟨D,.lst vs,by rw[zae nD2];exact e3,trivial,fun od=>?_⟩;obtain⟨m1,m2,m3⟩:=N3.n12;have nte:te≠d2:=fun z=>by have:=t3 _ _ e1';rw[z,er3] at this;cases this
    have nDte:D≠te:=fun z=>by rw[z,t3 _ _ e1'] at e3;cases e3
    have nD1:D≠d1:=fun z=>by rw[z,N3.c] at e3;cases e3
    have nDk:D≠kn:=fun z=>by rw[z,N3.o] at e3;cases e3
    generalize hH4:upd (upd H3 d2 (.dT (zbk kv3 [(.inl ((a.cell:Nat):Int):Key),.inl ((b'.cell:Nat):Int)] (.ref D)))) D (.frz od (.lst vs))=H4;have k4:Keep A H3 H4:=fun b o z i=>by
     have nb1:b≠D:=fun e=>by rw[e,e3] at z;cases z;exact i
     have nb2:b≠d2:=fun e=>by rw[e,er3] at z;cases z;exact i
     rw[<-hH4,zae nb1,zae nb2];exact z
    have sb4:Sb [d2] H H4:=fun b o z nb=>by
     have z3:=t3 _ _ (s1 _ _ z);have nb2:b≠d2:=fun e=>nb (by simp[e]);have nb1:b≠D:=zaf (s2 _ _ (s1 _ _ z)) hD;rw[<-hH4,zae nb1,zae nb2];exact z3
    have ed2:H4 d2=some (.dT (zbk kv3 [(.inl ((a.cell:Nat):Int):Key),.inl ((b'.cell:Nat):Int)] (.ref D))):=by rw[<-hH4,zae nD2.symm];exact upd_same
    have eD:H4 D=some (.frz od (.lst vs)):=by rw[<-hH4];exact upd_same
    have svD:SvAt K H4 (.ref D) (.l (rgW S a b')):=⟨D,od,vs,rfl,eD,pw.mono fun p r z=>(z.same s3).keep k4⟩;have N4:KnAt A K H4 kn dx d1 d2 kv1 S:=by
     refine⟨by rw[<-hH4,zae nDk.symm,zae m3];exact N3.o,by rw[<-hH4,zae nD1.symm,zae m1];exact N3.c,⟨_,ed2,?_,zdV ro3.nd⟩,N3.cs.keep k4⟩;intro p hp;rcases zla hp with hp | rfl
     ·obtain⟨a',b'',h1,h2,h3,h4⟩:=ro3.mem p hp;exact⟨a',b'',h1,h2,h3,h4.keep k4⟩
     ·exact⟨a,b',ok1,ok2,rfl,svD⟩
    try dsimp only
    walk_at "";refine zlr T N4.o ?_;walk_at "";have et4:H4 te=some (.tup ([(.inl ((a.cell:Nat):Int):Key),.inl ((b'.cell:Nat):Int)].map kV)):=by rw[<-hH4,zae nDte.symm,zae nte];exact t3 _ _ e1'
    refine⟨d2,.ref D,rfl,?_,q _ H4 sb4 N4 svD⟩;have:=zkP (k:=[(.inl ((a.cell:Nat):Int):Key),.inl ((b'.cell:Nat):Int)]) (.inl ed2) et4;rw[zeG,if_pos rfl] at this;exact this
end
section
variable{P:Program}{w:World}{K:PySem.W.Frag}{mg:Str->Option Value}{base:Heap}{A:Ad}
inductive zfh(A:Ad)(K:PySem.W.Frag)(vs:List V)(H:Hp)(Q:VK)(E:XK):Prop
 | mk v it x kn dx d1 d2 kv1 S (_:vs=[v,.ref kn]) (_:ItemAt A H v it) (_:KnAt A K H kn dx d1 d2 kv1 S) (_:Kno S kv1 (zaA it)) (_:zcN (wS S) (rgW S) [] it=some [x]) (_:(∀f,it≠.fu f 0)) (_:∀v' H',Sb [d2] H H'->KnAt A K H' kn dx d1 d2 kv1 S->SvAt K H' v' x->Q v' H')
theorem zfp:zam ["item", "known"] ["item", "known"] (zag zdd):=by walk_at "sc"
theorem zgt(T:Txt P w K mg A):Cal P w K mg base CX0 "worth_of_leaf" 3 ["item", "known"] (zfh A K):=by
 refine zaV T.d_worth_of_leaf zfp (fun _ _ _ _ h=>?_) fun f _ A' _ s H vs Q E hr h=>?_
 ·obtain⟨v,it,x,kn,dx,d1,d2,kv1,S,rfl,_⟩:=h;rfl
 ·obtain⟨v,it,x,kn,dx,d1,d2,kv1,S,rfl,I,N,hk,hx,hfu,q⟩:=h;obtain⟨a,ys,rfl,ea,iy⟩:=I.ex;refine⟨_,(zab (zaw (zak zaK (zau zax (pv 0) zah (fun _ _=>rfl)) zaB (zao _)) (zac (zai (zaY (zaa zah (zaa (zau zax (pv 0) zah (fun _ _=>rfl)) zad))))) zal) (zab (zaw (zak zaK (zau zax (pv 0) zah (fun _ _=>rfl)) zaB (zao _)) (zac (zai (zjK (zba hr) (zaj (pv 1) rfl) (zav (zd0 T) hr zat (zaa (zau zax (pv 0) zah (fun _ _=>rfl)) zad)) (zb2 T.gNOTHING) ⟨rfl,rfl,rfl,rfl⟩))) zal) (zac (zai (zav (zfd T) hr zat (zaa (zau zax (pv 0) zah (fun _ _=>rfl)) (zaa (zau zax (pv 0) zah (fun _ _=>rfl)) (zaa (pv 1) zad)))))))),?_⟩
  try dsimp only[zaI]
  walk_at "";cases it with
  | num n =>
   obtain⟨hn,rfl⟩:=iy;cases hx
   refine zaq (SqT.of ea) (v:=.str "number") rfl ?_;walk_at "on";walk_at "";refine zaq (SqT.of ea) (i:=1) (v:=.int ((n:Nat):Int)) rfl ?_;walk_at "";refine⟨zar (by simp),fun l hl=>?_⟩;have s1:=zaN (o:=.tup [.int 0,.int ((n:Nat):Int)]) hl;have hb:((n:Nat):Int)<10 ^ 18:=by exact_mod_cast hn
   exact q _ _ (Sb.of s1) (N.same s1) (zb1 (by constructor<;>omega))
  | ref r =>
   obtain⟨v,R,rfl⟩:=iy;cases hx
   refine zaq (SqT.of ea) (v:=.str "reference") rfl ?_;walk_at "on";walk_at "";refine zaq (SqT.of ea) (v:=.str "reference") rfl ?_;walk_at "on";walk_at "";refine zek T N.o ?_;refine⟨d1,rfl,.inl ⟨kv1,.inl N.c⟩,?_⟩;walk_at "";refine zaq (SqT.of ea) (i:=1) (v:=v) rfl ?_;walk_at "";refine⟨v,r,rfl,R,?_⟩;walk_at "";refine⟨_,zbc (k:=.inl ((r.cell:Nat):Int)) (.inl N.c),?_⟩;cases hv:zaO kv1 (.inl ((r.cell:Nat):Int)) with
   | some u =>
    obtain⟨_,W⟩:=zgC N hv;exact q u H (Sb.refl _ _) N W
   | none =>
    have he:Sg07.isEmpty (S r.cell)=true:=by
     cases z:Sg07.isEmpty (S r.cell) with
     | true=>rfl
     | false=>have:=hk r.cell (List.mem_singleton.mpr rfl) z;rw[hv] at this;cases this
    refine q _ H (Sb.refl _ _) N ?_;show WAt K H _ (wS S r.cell);unfold wS;rw[if_pos he];exact⟨⟨_,rfl,T.tNone.sq H⟩,by show inB 0;decide⟩
  | rng r1 r2 =>
   obtain⟨v,u,R,R2,rfl⟩:=iy;cases hx
   refine zaq (SqT.of ea) (v:=.str "range") rfl ?_;walk_at "on";walk_at "";refine zaq (SqT.of ea) (v:=.str "range") rfl ?_;walk_at "on";walk_at "";refine zaq (SqT.of ea) (i:=1) (v:=v) rfl ?_;walk_at "";refine zaq (SqT.of ea) (i:=2) (v:=u) rfl ?_;walk_at "";exact⟨v,u,r1,r2,kn,dx,d1,d2,kv1,S,rfl,R,R2,N,hk,q⟩
  | neg=>cases hx
  | sgn g=>cases hx
  | fu f k =>
   exfalso;unfold zcN at hx;dsimp only at hx;by_cases hk:k<=([]:List Sv).length
   ·have:k=0:=by simpa using hk
    subst this;exact hfu f rfl
   ·rw[if_neg hk] at hx;cases hx
def SvS(x:Sv):Prop:=x.all.length<=1024
theorem zjn{H:Hp}{v:V}{it:Item}(I:ItemAt A H v it){S:Sg07.Sheet}{st st':List Sv}(hs:∀x∈st,SvS x)(h:zcN (wS S) (rgW S) st it=some st'):st'.length<=st.length+1/\∀x∈st',SvS x:=by
 have one:∀x:Sg07.Worth,SvS (.w x):=fun x=>by show 1<=1024;decide
 have add:∀(x:Sg07.Worth) (l:List Sv),(∀y∈l,SvS y)->∀y∈Sv.w x::l,SvS y:=fun x l hl y hy=>by
  rcases zAe hy with rfl | hy
  ·exact one _
  ·exact hl y hy
 cases it with
 | num n=>cases h;exact⟨zAi _,add _ _ hs⟩
 | ref r=>cases h;exact⟨zAi _,add _ _ hs⟩
 | rng a b =>
  cases h
  refine⟨zAi _,fun x hx=>?_⟩;rcases zAe hx with rfl | hx
  ·show(rgW S a b).length<=1024;unfold rgW;rw[zAp];have h1:=zc4 I;exact zBp (zDu _ _) h1
  ·exact hs x hx
 | neg =>
  match st,h,hs with
  | .w a::st,h,hs =>
   cases h
   exact⟨by simp,add _ _ fun x hx=>hs x (zAd _ hx)⟩
 | sgn g =>
  match st,h,hs with
  | .w b::.w a::st,h,hs =>
   cases h
   exact⟨by simp,add _ _ fun x hx=>hs x (zAd _ (zAd _ hx))⟩
 | fu f k =>
  unfold zcN at h;dsimp only at h;split at h
  ·obtain⟨y,hy,rfl⟩:=Option.map_eq_some_iff.mp h;refine⟨by rw[zAb,zBi];omega,fun x hx=>?_⟩;rcases zAe hx with rfl | hx
   ·exact one _
   ·exact hs x (List.mem_of_mem_drop hx)
  ·cases h
theorem zk1:∀st:List Sv,(∀x∈st,SvS x)->(st.flatMap Sv.all).length<=1024*st.length
 | [],_=>by simp
 | x::c,h=>by
  rw[zCn,zAa,zAb,Nat.mul_succ];have h1:x.all.length<=1024:=h x zAo;have:=zk1 c fun y hy=>h y (zAd _ hy);omega
end
section
variable{P:Program}{w:World}{K:PySem.W.Frag}{mg:Str->Option Value}{base:Heap}{A:Ad}
theorem ze1{xs:List V}:¬Imm A (.lst xs):=fun z=>z
inductive zd3(A:Ad)(K:PySem.W.Frag)(vs:List V)(H:Hp)(Q:VK)(E:XK):Prop
 | mk v e kn dx d1 d2 kv1 S (_:vs=[v,.ref kn]) (_:FormAt A H v (comp e)) (_:KnAt A K H kn dx d1 d2 kv1 S) (_:Kno S kv1 (Sg07.needs e)) (_:∀v' H',Sb [d2] H H'->KnAt A K H' kn dx d1 d2 kv1 S->WAt K H' v' (Sg07.worth S (wS S) e)->Q v' H')
theorem sc_worth_of_formula:zam ["formula", "known", "stack", "item", "right", "left", "start", "parts"] ["formula", "known"] (zag zcl):=by walk_at "sc"
inductive WfI(A:Ad)(K:PySem.W.Frag)(ex:Sg07.Expr)(H:Hp)(kn dx d1 d2 a:Addr)(kv1:List (Key×V))(S:Sg07.Sheet)(i:Nat)(σ:St)(H':Hp):Prop
 | mk (_:Sb [d2] H H') (_:KnAt A K H' kn dx d1 d2 kv1 S) stk vs st x3 x4 x5 x6 x7 (_:steps (zcN (wS S) (rgW S)) [] ((comp ex).take i)=some st) (_:H stk=none) (_:H' stk=some (.lst vs)) (_:Pw (SvAt K H') vs st.reverse) (_:st.length<=i) (_:(∀x∈st,SvS x)) (_:σ=[some (.ref a),some (.ref kn),some (.ref stk),x3,x4,x5,x6,x7])
theorem zeC(T:Txt P w K mg A):Cal P w K mg base CX0 "worth_of_formula" 5 ["formula", "known"] (zd3 A K):=by
 refine zaV T.d_worth_of_formula sc_worth_of_formula (fun _ _ _ _ h=>?_) fun f _ A' _ s H vs Q E hr h=>?_
 ·obtain⟨v,e,kn,dx,d1,d2,kv1,S,rfl,_⟩:=h;rfl
 ·obtain⟨v,ex,kn,dx,d1,d2,kv1,S,rfl,F0,N,hk,q⟩:=h;obtain⟨a,dxf,lc,d,xs,kvs,o1,o2,rfl,ha,hlc,hd,hcode,hneed⟩:=F0.ex;have hlen:=F0.len;have htx:=zo0 (S:=S) (w:=wS S) (R:=rgW S) (fun c hc=>by unfold wS;rw[if_pos hc]) (fun a b=>rfl) ex;rw[<-nd_expr ex] at hk;refine⟨_,(zab (zas (i:=2) sc_worth_of_formula.nd rfl (Or.inl rfl) (zaJ zad)) (zab (zbX PassesOwn.never rfl (zbA (zaj (pv 0) rfl)) (za3 (i:=3) sc_worth_of_formula.nd rfl (Or.inl rfl)) (zac (zaw (zak zaK (zau zax (pv 3) zah (fun _ _=>rfl)) zaB (zao _)) (zab (zas (i:=4) sc_worth_of_formula.nd rfl (Or.inl rfl) (zcq zAh zBn zBm zcs (pv 2))) (zab (zas (i:=5) sc_worth_of_formula.nd rfl (Or.inl rfl) (zcq zAh zBn zBm zcs (pv 2))) (zac (zaE (zbx zAh zAs zAr zaU (pv 2) (zaa (zav (znX T) hr zat (zaa (zau zax (pv 3) zah (fun _ _=>rfl)) (zaa (pv 5) (zaa (pv 4) zad)))) zad)))))) (zac (zaw (zak zaK (zau zax (pv 3) zah (fun _ _=>rfl)) zaB (zao _)) (zac (zaE (zbx zAh zAs zAr zaU (pv 2) (zaa (zav (zmh T) hr zat (zaa (zcq zAh zBn zBm zcs (pv 2)) zad)) zad)))) (zac (zaw (zak zaK (zau zax (pv 3) zah (fun _ _=>rfl)) zaB (zao _)) (zab (zas (i:=6) sc_worth_of_formula.nd rfl (Or.inl rfl) (zaD zca (zaF zaL (by rfl) T.blen PySem.boot_len (zaa (pv 2) zad)) (zau zax (pv 3) zah (fun _ _=>rfl)))) (zab (zas (i:=7) sc_worth_of_formula.nd rfl (Or.inl rfl) (zb3 zcw (pv 2) (zbK (pv 6)) zeX)) (zac (zas (i:=2) sc_worth_of_formula.nd rfl (Or.inl rfl) (zaD zbo (zb3 zcw (pv 2) zeX (zbK (pv 6))) (zaJ (zaa (zav (zd7 T) hr zat (zaa (zau zax (pv 3) zah (fun _ _=>rfl)) (zaa (pv 7) zad))) zad))))))) (zac (zaE (zbx zAh zAs zAr zaU (pv 2) (zaa (zav (zgt T) hr zat (zaa (pv 3) (zaa (pv 1) zad))) zad))))))))))) (zac (zai (zau zaG (pv 2) zah (fun _ _=>rfl)))))),?_⟩
  try dsimp only[zaI]
  walk_at "";refine⟨by decide,fun stk hstk=>?_⟩;obtain⟨H1,e,s1,e1⟩:=zap hstk _;rw[<-e];clear e;walk_at "";refine zbh (s1 _ _ ha) T.clcFor T.ncFor_code rfl ?_;have keep0:∀ {H'},Sb [d2] H H'->Keep A H H':=fun{H'} sb=>sb.keep fun b hb o z i=>by
   obtain⟨kv2,e2,_⟩:=N.r;rw[zAg hb,e2] at z;cases z;exact i
  refine⟨_,rfl,⟨xs,.inl (.inr ⟨o1,s1 _ _ hlc⟩)⟩,zbP (xs:=xs) (WfI A K ex H kn dx d1 d2 a kv1 S)
   ⟨Sb.of s1,N.same s1,stk,[],[],_,_,_,_,_,rfl,hstk,e1,Pw.nil,zAx _,fun x hx=>(by cases hx),rfl⟩ (fun i σ H' _ hP=>.inl (.inr ⟨o1,keep0 hP.1 _ _ hlc trivial⟩)) (fun i y σ H' hy hP=>?_) (fun σ H' hP=>?_)⟩
  ·obtain⟨t1,N1,stk,vs,st,x3,x4,x5,x6,x7,hst,nstk,estk,pw,hsl,hss,rfl⟩:=hP;obtain⟨it,hit,I0⟩:=hcode.at' hy;have I:=I0.keep (keep0 t1);obtain⟨st0,st',h0,h1,h2⟩:=zjm htx hit;rw[hst] at h0;cases h0;obtain⟨hl',hs'⟩:=zjn I hss h1;have hic:i<(comp ex).length:=(List.getElem?_eq_some_iff.mp hit).1;have pwl:vs.length=st.length:=by have:=pw.1;rw[zCf] at this;exact this
   have hkit:Kno S kv1 (zaA it):=fun c hc=>hk c (List.mem_flatMap.mpr ⟨it,zBs hit,hc⟩);obtain⟨ai,ys,rfl,ea,iy⟩:=I.ex;have enm:=zhm iy;obtain⟨kv2,er,_⟩:=N1.r;have nst:∀ {H2:Hp}{us:List V},KnAt A K H2 kn dx d1 d2 kv1 S->H2 stk=some (.lst us)->stk≠kn/\stk≠d1/\stk≠d2:=fun{H2 us} N2 e2=>by
    obtain⟨kv2',er',_⟩:=N2.r;refine⟨fun z=>?_,fun z=>?_,fun z=>?_⟩
    ·rw[z,N2.o] at e2;cases e2
    ·rw[z,N2.c] at e2;cases e2
    ·rw[z,er'] at e2;cases e2
   have lay:∀(H2 H3:Hp) (us:List V) (st2:List Sv) (x:Sv) (u:V),Sb [d2] H H2->KnAt A K H2 kn dx d1 d2 kv1 S->H2 stk=some (.lst us)->us.length<=200->Pw (SvAt K H2) us st2.reverse->st'=x::st2->Sb [d2] H2 H3->KnAt A K H3 kn dx d1 d2 kv1 S->SvAt K H3 u x ->
     H3 stk=some (.lst us)/\us.length<sizeLine/\Sb [d2] H (upd H3 stk (.lst (us++[u])))/\KnAt A K (upd H3 stk (.lst (us++[u]))) kn dx d1 d2 kv1 S/\Pw (SvAt K (upd H3 stk (.lst (us++[u])))) (us++[u]) st'.reverse:=fun H2 H3 us st2 x u tt N2 eu hu pu est s3 N3 sv=>by
    have n2:=nst N2 eu;have e3:H3 stk=some (.lst us):=s3 _ _ eu (by simp[n2.2.2]);have k23:Keep A H2 H3:=s3.keep fun b hb o z i=>by
     obtain⟨kv2',er',_⟩:=N2.r;rw[zAg hb,er'] at z;cases z;exact i
    have k3:Keep A H3 (upd H3 stk (.lst (us++[u]))):=zbj e3 ze1;refine⟨e3,by rw[sizeLine_eq];omega,fun b o z nb=>?_,N3.other (zaM (by simp)) n2 k3,?_⟩
    ·rw[zae (zaf z nstk)];exact s3 _ _ (tt _ _ z nb) nb
    ·rw[est,zBg];exact(pu.mono fun p r z=>(z.keep k23).keep k3).snoc (sv.keep k3)
   walk_at "";cases it with
   | sgn g =>
    obtain rfl:ys=[.str "sign",.str (zdm g)]:=iy;refine zaq (SqT.of ea) (v:=.str "sign") rfl ?_;walk_at "on";walk_at ""
    match st,h1,pw,pwl,hst,hsl,hl',hss with
    | .w y0::.w x::st2,h1,pw,pwl,hst,hsl,hl',hss =>
     cases h1
     rw[zBg] at pw;obtain⟨vy,us,rfl,Y,pw2⟩:=pw.snoc_inv;rw[zBg] at pw2;obtain⟨vx,us,rfl,X,pw3⟩:=pw2.snoc_inv;refine za1 (SqL.of estk) ?_;refine zdL estk ?_;walk_at "";refine za1 (SqL.of upd_same) ?_;refine zdL upd_same ?_;rw[upd_upd];have k2:Keep A H' (upd H' stk (.lst us)):=zbj estk ze1;have N2:=N1.other (zaM (by simp)) (nst N1 estk) k2;have tt:Sb [d2] H (upd H' stk (.lst us)):=fun b o z nb=>by rw[zae (zaf z nstk)];exact t1 _ _ z nb
     walk_at "";refine za1 (SqL.of upd_same) ?_;walk_at "";refine zaq (SqT.of (k2 _ _ ea trivial)) (i:=1) (v:=.str (zdm g)) rfl ?_;walk_at "";refine⟨g,_,_,x,y0,rfl,SvAt.keep (x:=.w x) X k2,SvAt.keep (x:=.w y0) Y k2,fun u H3 s3 W3=>?_⟩;walk_at "";obtain⟨j1,j2,j3,j4,j5⟩:=lay _ H3 us st2 (.w (zij g x y0)) u tt N2 upd_same (by simp at pwl hsl;omega) (pw3.mono fun p r z=>z.keep k2) rfl (Sb.of s3) (N2.same s3) W3;refine zaP j1 j2 ?_;exact⟨j3,j4,stk,_,_,_,_,_,_,_,h2,nstk,upd_same,j5,by omega,hs',rfl⟩
   | neg =>
    obtain rfl:ys=[.str "negation"]:=iy;refine zaq (SqT.of ea) (v:=.str "negation") rfl ?_;walk_at "on";walk_at "";refine zaq (SqT.of ea) (v:=.str "negation") rfl ?_;walk_at "on";walk_at ""
    match st,h1,pw,pwl,hst,hsl,hl',hss with
    | .w x::st2,h1,pw,pwl,hst,hsl,hl',hss =>
     cases h1
     rw[zBg] at pw;obtain⟨vx,us,rfl,X,pw2⟩:=pw.snoc_inv;refine za1 (SqL.of estk) ?_;walk_at "";refine za1 (SqL.of estk) ?_;refine zdL estk ?_;have k2:Keep A H' (upd H' stk (.lst us)):=zbj estk ze1;have N2:=N1.other (zaM (by simp)) (nst N1 estk) k2;have tt:Sb [d2] H (upd H' stk (.lst us)):=fun b o z nb=>by rw[zae (zaf z nstk)];exact t1 _ _ z nb
     walk_at "";refine⟨_,x,rfl,SvAt.keep (x:=.w x) X k2,fun u H3 s3 W3=>?_⟩;walk_at "";obtain⟨j1,j2,j3,j4,j5⟩:=lay _ H3 us st2 (.w (x.bind fun z=>Sg07.fits (-z))) u tt N2 upd_same (by simp at pwl hsl;omega) (pw2.mono fun p r z=>z.keep k2) rfl (Sb.of s3) (N2.same s3) W3;refine zaP j1 j2 ?_;exact⟨j3,j4,stk,_,_,_,_,_,_,_,h2,nstk,upd_same,j5,by omega,hs',rfl⟩
   | fu f k =>
    obtain rfl:ys=[.str "function",.str (zdn f),.int (k:Nat)]:=iy;refine zaq (SqT.of ea) (v:=.str "function") rfl ?_;walk_at "on";walk_at "";refine zaq (SqT.of ea) (v:=.str "function") rfl ?_;walk_at "on";walk_at "";refine zaq (SqT.of ea) (v:=.str "function") rfl ?_;walk_at "on";walk_at "";unfold zcN at h1;dsimp only at h1;by_cases hkk:k<=st.length
    ·rw[if_pos hkk] at h1;obtain⟨x,hx,rfl⟩:=Option.map_eq_some_iff.mp h1;refine⟨_,_,rfl,.inl (SqL.of estk),?_⟩;walk_at "";refine zaq (SqT.of ea) (i:=2) (v:=.int (k:Nat)) rfl ?_;walk_at "";have es:((vs.length:Nat):Int) - ((k:Nat):Int)=((st.length - k:Nat):Int):=by rw[pwl];omega
     rw[es];walk_at "";refine zf0 (SqL.of estk) fun l1 hl1=>?_;rw[zhB];obtain⟨H2,e,s2,e2⟩:=zap hl1 _;rw[<-e];clear e;walk_at "";refine zf0 (SqL.of (s2 _ _ estk)) fun l3 hl3=>?_;rw[znQ];obtain⟨H3,e,s3,e3⟩:=zap hl3 _;rw[<-e];clear e;have t3:=s2.trans s3;walk_at "";refine zaq (SqT.of (t3 _ _ ea)) (i:=1) (v:=.str (zdn f)) rfl ?_;walk_at "";have pwd:=pw.drop (st.length - k);rw[zjD st k hkk] at pwd;have pwt:=pw.take (st.length - k);rw[zjC st k hkk] at pwt;have hp1:((st.take k).reverse.flatMap Sv.all).length<=300000:=by
      have:=zk1 (st.take k).reverse fun x hx=>hss x (zDx (List.mem_reverse.mp hx));rw[zCf,zBa] at this;omega
     refine⟨f,l1,_,(st.take k).reverse,x,rfl,s3 _ _ e2,pwd.mono fun p r z=>z.keep (zaC (A:=A) t3),hp1,hx,fun u H4 s4 W4=>?_⟩;walk_at "";refine⟨zar (by simp),fun l5 hl5=>?_⟩;obtain⟨H5,e,s5,e6⟩:=zap hl5 _;rw[<-e];clear e;refine zbO (s5 _ _ (s4 _ _ e3)) e6 (zar (by rw[zBa];simp;omega)) fun l6 hl6=>?_;obtain⟨H6,e,s6,e7⟩:=zap hl6 _;rw[<-e];clear e;have t6:=((t3.trans s4).trans s5);have tA:=t6.trans s6;walk_at "";have nl6:H l6=none:=by
      cases z:H l6 with
      | none=>rfl
      | some o =>
       by_cases hb:l6=d2
       ·rw[hb,t6 _ _ er] at hl6;cases hl6
       ·rw[t6 _ _ (t1 _ _ z (by simp[hb]))] at hl6;cases hl6
     refine⟨t1.trans (Sb.of tA),N1.same tA,l6,_,_,_,_,_,_,_,h2,nl6,e7,?_,by omega,hs',rfl⟩;rw[zBg];exact(pwt.mono fun p r z=>z.keep (zaC (A:=A) tA)).snoc (show WAt K H6 u x from W4.same (s5.trans s6))
    ·rw[if_neg hkk] at h1;cases h1
   | num n =>
    have en:atI ys 0=some (.str "number"):=enm;refine zaq (SqT.of ea) en ?_;walk_at "on";walk_at "";refine zaq (SqT.of ea) en ?_;walk_at "on";walk_at "";refine zaq (SqT.of ea) en ?_;walk_at "on";walk_at "";refine za1 (SqL.of estk) ?_;walk_at "";cases h1
    refine⟨_,_,_,kn,dx,d1,d2,kv1,S,rfl,I,N1,hkit,rfl,(fun n z=>(by cases z)),fun u H3 s3 N3 W3=>?_⟩;walk_at "";obtain⟨j1,j2,j3,j4,j5⟩:=lay H' H3 vs st _ u t1 N1 estk (by omega) pw rfl s3 N3 W3;refine zaP j1 j2 ?_;exact⟨j3,j4,stk,_,_,_,_,_,_,_,h2,nstk,upd_same,j5,by omega,hs',rfl⟩
   | ref r =>
    have en:atI ys 0=some (.str "reference"):=enm;refine zaq (SqT.of ea) en ?_;walk_at "on";walk_at "";refine zaq (SqT.of ea) en ?_;walk_at "on";walk_at "";refine zaq (SqT.of ea) en ?_;walk_at "on";walk_at "";refine za1 (SqL.of estk) ?_;walk_at "";cases h1
    refine⟨_,_,_,kn,dx,d1,d2,kv1,S,rfl,I,N1,hkit,rfl,(fun n z=>(by cases z)),fun u H3 s3 N3 W3=>?_⟩;walk_at "";obtain⟨j1,j2,j3,j4,j5⟩:=lay H' H3 vs st _ u t1 N1 estk (by omega) pw rfl s3 N3 W3;refine zaP j1 j2 ?_;exact⟨j3,j4,stk,_,_,_,_,_,_,_,h2,nstk,upd_same,j5,by omega,hs',rfl⟩
   | rng r1 r2 =>
    have en:atI ys 0=some (.str "range"):=enm;refine zaq (SqT.of ea) en ?_;walk_at "on";walk_at "";refine zaq (SqT.of ea) en ?_;walk_at "on";walk_at "";refine zaq (SqT.of ea) en ?_;walk_at "on";walk_at "";refine za1 (SqL.of estk) ?_;walk_at "";cases h1
    refine⟨_,_,_,kn,dx,d1,d2,kv1,S,rfl,I,N1,hkit,rfl,(fun n z=>(by cases z)),fun u H3 s3 N3 W3=>?_⟩;walk_at "";obtain⟨j1,j2,j3,j4,j5⟩:=lay H' H3 vs st _ u t1 N1 estk (by omega) pw rfl s3 N3 W3;refine zaP j1 j2 ?_;exact⟨j3,j4,stk,_,_,_,_,_,_,_,h2,nstk,upd_same,j5,by omega,hs',rfl⟩
  ·obtain⟨t1,N1,stk,vs,st,x3,x4,x5,x6,x7,hst,nstk,estk,pw,hsl,hss,rfl⟩:=hP;rw[hcode.1,zBf,htx] at hst;cases hst
   obtain⟨v,us,rfl,X,pw2⟩:=pw.cons_inv;obtain rfl:us=[]:=zBj pw2.1;walk_at "";refine zaQ (SqL.of estk) (i:=0) (v:=v) rfl ?_;exact q v H' t1 N1 X
end
section
variable{P:Program}{w:World}{K:PySem.W.Frag}{mg:Str->Option Value}{base:Heap}{A:Ad}
abbrev shs(dc kn:Addr):List (Str×V):=[("contents",.ref dc),("known",.ref kn)]
structure CtOk(A:Ad)(H:Hp)(S:Sg07.Sheet)(kv:List (Key×V)):Prop where
 mem:∀p∈kv,∃c:Nat,p.1=.inl (c:Int)/\c<1024/\Sg07.isEmpty (S c)=false/\CtAt A H p.2 (S c)
 sup:∀c,Sg07.isEmpty (S c)=false->(zaO kv (.inl (c:Int))).isSome=true
 nd:(kv.map (·.1)).Nodup
structure ShAt(A:Ad)(K:PySem.W.Frag)(H:Hp)(sh dx dc kn dk d1 d2:Addr)(kvc kv1:List (Key×V))(S:Sg07.Sheet):Prop where
 o:H sh=some (.ins A.cSh dx (shs dc kn))
 c:H dc=some (.dK kvc)
 cs:CtOk A H S kvc
 k:KnAt A K H kn dk d1 d2 kv1 S
 n:dc≠d1
section
variable{H H':Hp}{sh dx dc kn dk d1 d2:Addr}{kvc kv1:List (Key×V)}{S:Sg07.Sheet}
theorem CtOk.keep(h:CtOk A H S kvc)(k:Keep A H H'):CtOk A H' S kvc:=⟨fun p hp=>let ⟨c,h1,h2,h3,h4⟩:=h.mem p hp;⟨c,h1,h2,h3,h4.keep k⟩,h.sup,h.nd⟩
theorem CtOk.get(h:CtOk A H S kvc)(c:Nat):(zaO kvc (.inl (c:Int))=none/\S c=.empty)\/∃v,zaO kvc (.inl (c:Int))=some v/\c<1024/\Sg07.isEmpty (S c)=false/\CtAt A H v (S c):=by
 cases e:zaO kvc (.inl (c:Int)) with
 | none =>
  refine .inl ⟨rfl,?_⟩;cases z:Sg07.isEmpty (S c) with
  | true=>cases hs:S c with
   | empty=>rfl
   | num n=>rw[hs] at z;cases z
   | formula x=>rw[hs] at z;cases z
  | false=>have:=h.sup c z;rw[e] at this;cases this
 | some v =>
  obtain⟨c',e1,e2,e3,e4⟩:=h.mem _ (zeF e);have:c=c':=by have:=zBy e1;omega
  subst this;exact .inr ⟨v,rfl,e2,e3,e4⟩
theorem zoY{v:V}{e:Sg07.Expr}(h:FormAt A H v (comp e)):∀d∈Sg07.needs e,d<1024:=by
 obtain⟨a,dxf,lc,d,xs,kvs,o1,o2,rfl,ha,hlc,hd,hcode,hneed⟩:=h.ex;intro d hd;rw[<-nd_expr e] at hd;obtain⟨it,hit,hdi⟩:=List.mem_flatMap.mp hd;obtain⟨i,hi⟩:=zEa hit;obtain⟨v,_,I⟩:=hcode.at hi;obtain⟨a,ys,rfl,ea,iy⟩:=I.ex;cases it with
 | ref r =>
  obtain⟨u,R,rfl⟩:=iy;rw[zAg hdi];exact zc_ ⟨R.row,R.col⟩
 | rng r1 r2 =>
  obtain⟨u,u2,R,R2,rfl⟩:=iy;have hdi:d∈Sg07.cellsOf r1 r2:=hdi;rw[zc9 R.row R2.row R.col R2.col] at hdi;obtain⟨i,hi,hd2⟩:=List.mem_flatMap.mp hdi;obtain⟨j,hj,rfl⟩:=List.mem_map.mp hd2;have h1:=List.mem_range.mp hi;have h2:=List.mem_range.mp hj;have:=R.row;have:=R2.row;have:=R.col;have:=R2.col;omega
 | num n=>cases hdi
 | neg=>cases hdi
 | sgn g=>cases hdi
 | fu f k=>cases hdi
theorem ShAt.bnd(h:ShAt A K H sh dx dc kn dk d1 d2 kvc kv1 S):Bnd S:=fun c d hd=>by
 rcases h.cs.get c with⟨_,e⟩|⟨v,_,_,_,C⟩
 ·rw[e] at hd;cases hd
 ·cases es:S c with
  | empty=>rw[es] at hd;cases hd
  | num z=>rw[es] at hd;cases hd
  | formula x=>rw[es] at hd C;exact zoY C d hd
theorem ShAt.same(h:ShAt A K H sh dx dc kn dk d1 d2 kvc kv1 S)(s:Same H H'):ShAt A K H' sh dx dc kn dk d1 d2 kvc kv1 S:=⟨s _ _ h.o,s _ _ h.c,h.cs.keep (zaC s),h.k.same s,h.n⟩
theorem zlo{kv:List (Key×V)}(nd:(kv.map (·.1)).Nodup)(mem:∀p∈kv,∃c:Nat,p.1=.inl (c:Int)/\c<1024):kv.length<=1024:=by
 let f:Key->Nat:=fun k=>match k with
  | .inl a=>a.toNat
  | _=>0
 have e:(kv.map fun p=>f p.1).length=kv.length:=zAp _;rw[<-e];refine zc1 1024 _ ?_ fun x hx=>?_
 ·clear e;induction kv with
  | nil=>exact zCj
  | cons p r ih =>
   rw[zAz] at nd ⊢;rw[List.nodup_cons] at nd ⊢;refine⟨fun hm=>nd.1 ?_,ih nd.2 fun q hq=>mem q (zAd _ hq)⟩;obtain⟨q,hq,eq'⟩:=List.mem_map.mp hm;obtain⟨a,e1,_⟩:=mem p zAo;obtain⟨b,e2,_⟩:=mem q (zAd _ hq);rw[e1,e2] at eq';have eq2:b=a:=by have:(b:Int).toNat=(a:Int).toNat:=eq';omega
   refine List.mem_map.mpr ⟨q,hq,?_⟩;rw[e1,e2,eq2]
 ·obtain⟨p,hp,rfl⟩:=List.mem_map.mp hx;obtain⟨a,e1,l1⟩:=mem p hp;show f p.1<_;rw[e1];show(a:Int).toNat<1024;omega
theorem CtOk.len(h:CtOk A H S kvc):kvc.length<=1024:=zlo h.nd fun p hp=>let ⟨c,h1,h2,_⟩:=h.mem p hp;⟨c,h1,h2⟩
theorem CsOk.len(h:CsOk K H S kvc):kvc.length<=1024:=zlo h.nd fun p hp=>let ⟨c,h1,h2,_⟩:=h.mem p hp;⟨c,h1,h2⟩
variable{R:V->Prop}
theorem zdi(T:Txt P w K mg A)(h:H sh=some (.ins A.cSh dx (shs dc kn)))(q:R (.ref dc)):∃a C dx fs v,V.ref sh=.ref a/\H a=some (.ins C dx fs)/\Cls K C/\NoAttr K C "contents" /\ fs.lookup ("contents" : Str)=some v/\R v:=zbh h T.clcSh T.ncSh_contents (by rfl) q
theorem zf1(T:Txt P w K mg A)(h:H sh=some (.ins A.cSh dx (shs dc kn)))(q:R (.ref kn)):∃a C dx fs v,V.ref sh=.ref a/\H a=some (.ins C dx fs)/\Cls K C/\NoAttr K C "known" /\ fs.lookup ("known" : Str)=some v/\R v:=zbh h T.clcSh T.ncSh_known (by rfl) q
end
theorem znr{H:Hp}{kn dk d1 d2:Addr}{S:Sg07.Sheet}(h1:H kn=some (.ins A.cWo dk (kns d1 d2)))(h2:H d1=some (.dK []))(h3:H d2=some (.dT [])):KnAt A K H kn dk d1 d2 [] S:=
 ⟨h1,h2,⟨[],h3,fun p hp=>(by cases hp),zCj⟩,fun p hp=>(by cases hp),zCj⟩
def zhR(A:Ad)(K:PySem.W.Frag):Sp:=fun vs H Q _=>∃sh dx,vs=[.ref sh]/\H sh=some (.ins A.cSh dx [])/\∀H' dc kn dk d1 d2,Sb [sh] H H'->ShAt A K H' sh dx dc kn dk d1 d2 [] [] Sg07.blank->Q .non H'
theorem zhW:zam ["self"] ["self"] (zag zeT):=by walk_at "sc"
theorem zo7(T:Txt P w K mg A):CaC P w K mg base CX0 "Sheet" A.cSh 3 ["self"] (zhR A K):=by
 refine zjc T.i_Sheet zhW (fun _ _ _ _ h=>?_) fun f _ A' _ s H vs Q E hr h=>?_
 ·obtain⟨sh,dx,rfl,_⟩:=h;rfl
 ·obtain⟨sh,dx,rfl,hs,q⟩:=h;refine⟨_,(zab (zbE (pv 0) zhe rfl) (zac (zbE (pv 0) (ziR (zj6 T) hr zat) rfl))),?_⟩
  try dsimp only[zaI]
  walk_at "";intro dc hdc;walk_at "";have n1:sh≠dc:=zaf hs hdc;refine za_ (by rw[zae n1];exact hs) T.clcSh T.ncSh_contents (by decide) ?_;generalize hH1:upd (upd H dc (.dK [])) sh (.ins A.cSh dx (zbW "contents" (.ref dc) []))=H1;have esh:H1 sh=some (.ins A.cSh dx [("contents",.ref dc)]):=by rw[<-hH1];exact upd_same
  have edc:H1 dc=some (.dK []):=by rw[<-hH1,zae n1.symm];exact upd_same
  have sb1:Sb [sh] H H1:=fun b o z nb=>by
   have nb1:b≠sh:=fun e=>nb (by simp[e]);rw[<-hH1,zae nb1,zae (zaf z hdc)];exact z
  walk_at "";intro kn dk hkn hdk ne;have sm:Same H1 (upd (upd H1 dk (.own kn)) kn (.ins A.cWo dk [])):=fun b o z=>by rw[zae (zaf z hkn),zae (zaf z hdk)];exact z
  refine⟨kn,dk,rfl,upd_same,fun H2 d1 d2 sb2 g1 g2 f1 f2 f3=>⟨rfl,?_⟩⟩;have nk:∀b o,H1 b=some o->H2 b=some o:=fun b o z=>sb2 b o (sm b o z) (by simp;exact zaf z hkn);walk_at "";refine za_ (nk _ _ esh) T.clcSh T.ncSh_known (by show 1<1000;decide) ?_;have m1:sh≠kn:=zaf esh hkn;have m2:sh≠d1:=fun z=>by have:=nk _ _ esh;rw[z,f2] at this;cases this
  have m3:sh≠d2:=fun z=>by have:=nk _ _ esh;rw[z,f3] at this;cases this
  have m4:dc≠d1:=zaf (sm _ _ edc) g1;refine q _ dc kn dk d1 d2 (fun b o z nb=>?_) ⟨by rw[upd_same];rfl,by rw[zae n1.symm];exact nk _ _ edc,⟨fun p hp=>(by cases hp),fun c hc=>(by cases hc),zCj⟩,znr (by rw[zae m1.symm];exact f1) (by rw[zae m2.symm];exact f2) (by rw[zae m3.symm];exact f3),m4⟩;have nb1:b≠sh:=fun e=>nb (by simp[e]);rw[zae nb1];exact nk _ _ (sb1 _ _ z nb)
end
section
variable{P:Program}{w:World}{K:PySem.W.Frag}{mg:Str->Option Value}{base:Heap}{A:Ad}
theorem zfu(S:Sg07.Sheet)(c:Nat)(x:Sg07.Cell):Sg07.put S c x c=x:=by unfold Sg07.put;rw[if_pos rfl]
theorem zet(S:Sg07.Sheet){c d:Nat}(x:Sg07.Cell)(h:d≠c):Sg07.put S c x d=S d:=by unfold Sg07.put;rw[if_neg h]
theorem znR{H:Hp}{S:Sg07.Sheet}{kvc:List (Key×V)}{c:Nat}{v:V}{x:Sg07.Cell}(h:CtOk A H S kvc)(hc:c<1024)(hx:Sg07.isEmpty x=false)(C:CtAt A H v x):CtOk A H (Sg07.put S c x) (zbk kvc (.inl (c:Int)) v):=by
 refine⟨fun p hp=>?_,fun d hd=>?_,zdV h.nd⟩
 ·unfold zbk at hp;have other:∀p∈kvc,p.1≠.inl (c:Int)->∃c':Nat,p.1=.inl (c':Int)/\c'<1024/\Sg07.isEmpty (Sg07.put S c x c')=false/\CtAt A H p.2 (Sg07.put S c x c'):=fun p hp ne=>by
   obtain⟨c',e1,e2,e3,e4⟩:=h.mem p hp;have n:c'≠c:=fun z=>ne (by rw[e1,z]);exact⟨c',e1,e2,by rw[zet _ _ n];exact e3,by rw[zet _ _ n];exact e4⟩
  split at hp
  ·obtain⟨p',hp',rfl⟩:=List.mem_map.mp hp;by_cases e:p'.1=.inl (c:Int)
   ·rw[if_pos e];exact⟨c,e,hc,by rw[zfu];exact hx,by rw[zfu];exact C⟩
   ·rw[if_neg e];exact other p' hp' e
  ·rename_i hn;rcases zAw hp with hp | hp
   ·exact other p hp fun e=>hn (List.any_eq_true.mpr ⟨p,hp,zBh e⟩)
   ·rw[zAg hp];exact⟨c,rfl,hc,by rw[zfu];exact hx,by rw[zfu];exact C⟩
 ·rw[zeG];split
  ·rfl
  ·rename_i ne;have n:d≠c:=fun z=>ne (by rw[z]);rw[zet _ _ n] at hd;exact h.sup d hd
theorem zmt{kvs:List (Key×V)}{k j:Key}(h:j≠k):zaO (zdj kvs k) j=zaO kvs j:=by
 induction kvs with
 | nil=>rfl
 | cons p r ih =>
  unfold zdj at ih ⊢;rw[List.filter_cons];by_cases e:p.1=k
  ·rw[if_neg (by simp[e]),ih,za8 (fun z=>h (z.symm.trans e))]
  ·rw[if_pos (by simp[e])];by_cases e2:p.1=j
   ·rw[zbd e2,zbd e2]
   ·rw[za8 e2,za8 e2,ih]
theorem zo4{H:Hp}{S:Sg07.Sheet}{kvc:List (Key×V)}{c:Nat}(h:CtOk A H S kvc):CtOk A H (Sg07.put S c .empty) (zdj kvc (.inl (c:Int))):=by
 refine⟨fun p hp=>?_,fun d hd=>?_,?_⟩
 ·unfold zdj at hp;obtain⟨hp,ne⟩:=List.mem_filter.mp hp;have ne:p.1≠.inl (c:Int):=zAf ne;obtain⟨c',e1,e2,e3,e4⟩:=h.mem p hp;have n:c'≠c:=fun z=>ne (by rw[e1,z]);exact⟨c',e1,e2,by rw[zet _ _ n];exact e3,by rw[zet _ _ n];exact e4⟩
 ·by_cases n:d=c
  ·subst n;rw[zfu] at hd;cases hd
  ·rw[zet _ _ n] at hd;rw[zmt (fun z=>n (by have:=zBy z;omega))];exact h.sup d hd
 ·unfold zdj;exact List.Nodup.sublist (List.Sublist.map _ List.filter_sublist) h.nd
theorem zo3{H:Hp}{S:Sg07.Sheet}{kvc:List (Key×V)}{c:Nat}(h:CtOk A H S kvc)(e:S c=.empty):CtOk A H (Sg07.put S c .empty) kvc:=by
 have:Sg07.put S c .empty=S:=by
  funext d;by_cases n:d=c
  ·subst n;rw[zfu,e]
  ·rw[zet _ _ n]
 rw[this];exact h
inductive zkk(A:Ad)(K:PySem.W.Frag)(vs:List V)(H:Hp)(Q:VK)(E:XK):Prop
 | mk sh dx dc kn dk d1 d2 kvc kv1 S (c:Nat) v x (_:vs=[.ref sh,.int (c:Int),v]) (_:ShAt A K H sh dx dc kn dk d1 d2 kvc kv1 S) (_:c<1024) (_:CtAt A H v x) (_:∀H' kn' dk' d1' d2' kvc',Keep A H H'->ShAt A K H' sh dx dc kn' dk' d1' d2' kvc' [] (Sg07.put S c x)->Sb [sh,dc] H H'->Q .non H')
theorem zpP:zam ["self", "cell", "content"] ["self", "cell", "content"] (zag zpj):=by walk_at "sc"
theorem m_put(T:Txt P w K mg A):CaM P w K mg base CX0 A.cSh "put" 3 ["self", "cell", "content"] (zkk A K):=by
 refine zbG T.m_put T.clcSh zpP (fun _ _ _ _ h=>?_) fun f _ A' _ s H vs Q E hr h=>?_
 ·obtain⟨sh,dx,dc,kn,dk,d1,d2,kvc,kv1,S,c,v,x,rfl,_⟩:=h;rfl
 ·obtain⟨sh,dx,dc,kn,dk,d1,d2,kvc,kv1,S,c,v,x,rfl,N,hc,C,q⟩:=h;have nsd:sh≠dc:=fun z=>by have:=N.o;rw[z,N.c] at this;cases this
  have nimS:∀ {dx':Addr}{fs:List (Str×V)},¬Imm A (.ins A.cSh dx' fs):=fun{dx' fs} z=>by
   rcases z with z | z
   ·exact T.neSh.1 z
   ·exact T.neSh.2 z.1
  have nimD:∀ {kvs:List (Key×V)},¬Imm A (.dK kvs):=fun{kvs} z=>z;have fin:∀(H1:Hp) (kvc':List (Key×V)),Sb [dc] H H1->Keep A H H1->H1 dc=some (.dK kvc')->CtOk A H1 (Sg07.put S c x) kvc'->zpQ K (zaX 0) (zlK A.cWo (zdt A) E0 zbT) "known" {nx:=fun _ H'=>Q .non H',rt:=Q} [some (.ref sh),some (.int (c:Int)),some v] H1:=fun H1 kvc' sb1 k1 edc ok=>by
   have esh:H1 sh=some (.ins A.cSh dx (shs dc kn)):=sb1 _ _ N.o (by simp[nsd]);walk_at "";intro kn' dk' hkn hdk ne;have sm:Same H1 (upd (upd H1 dk' (.own kn')) kn' (.ins A.cWo dk' [])):=fun b o z=>by rw[zae (zaf z hkn),zae (zaf z hdk)];exact z
   refine⟨kn',dk',rfl,upd_same,fun H2 e1 e2 sb2 g1 g2 f1 f2 f3=>⟨rfl,?_⟩⟩;have nk:Same H1 H2:=fun b o z=>sb2 b o (sm b o z) (by simp;exact zaf z hkn);walk_at "";refine za_ (nk _ _ esh) T.clcSh T.ncSh_known (by show 2<1000;decide) ?_;have m1:sh≠kn':=zaf esh hkn;have m2:sh≠e1:=fun z=>by have:=nk _ _ esh;rw[z,f2] at this;cases this
   have m3:sh≠e2:=fun z=>by have:=nk _ _ esh;rw[z,f3] at this;cases this
   have m4:dc≠e1:=zaf (sm _ _ edc) g1;have k2:Keep A H2 (upd H2 sh (.ins A.cSh dx (zbW "known" (.ref kn') (shs dc kn)))):=zbj (nk _ _ esh) nimS;have kA:=(zaC (A:=A) nk).trans k2;refine q _ kn' dk' e1 e2 kvc' (k1.trans kA) ⟨by rw[upd_same];rfl,by rw[zae nsd.symm];exact nk _ _ edc,ok.keep kA,znr (by rw[zae m1.symm];exact f1) (by rw[zae m2.symm];exact f2) (by rw[zae m3.symm];exact f3),m4⟩ fun b o z nb=>?_;have nb1:b≠sh:=fun e=>nb (by simp[e]);have nb2:b≠dc:=fun e=>nb (by simp[e]);rw[zae nb1];exact nk _ _ (sb1 _ _ z (by simp[nb2]))
  refine⟨_,(zab (zaw (zbJ (zkw (pv 2))) (zac (zaE (zm6 (zaj (pv 0) rfl) (pv 1) zkv ⟨rfl,rfl,rfl,rfl⟩))) (zac (zcA (zba hr) (zaj (pv 0) rfl) (pv 1) (pv 2) rfl))) (zac (zbE (pv 0) (ziR (zj6 T) hr zat) rfl))),?_⟩
  try dsimp only[zaI]
  walk_at "";cases x with
  | empty =>
   obtain rfl:=(show v=.non from C);refine itP rfl ?_;walk_at "";refine zdi T N.o ?_;refine⟨dc,rfl,.inl ⟨kvc,.inl N.c⟩,?_⟩;walk_at "";refine⟨kvc,.inl (c:Int),N.c,rfl,fun u hu=>?_,fun hu=>?_⟩
   ·have k1:Keep A H (upd H dc (.dK (zdj kvc (.inl (c:Int))))):=zbj N.c nimD;exact fin _ _ (zaM (by simp)) k1 upd_same ((zo4 N.cs).keep k1)
   ·have e:S c=.empty:=by
     rcases N.cs.get c with⟨_,e⟩|⟨u,hu2,_⟩
     ·exact e
     ·rw[hu] at hu2;cases hu2
    exact fin H kvc (Sb.refl _ _) (Keep.refl A H) N.c (zo3 N.cs e)
  | num z =>
   have C':=C;obtain⟨rfl,_,_⟩:=C;refine itN (by simp) ?_;walk_at "";refine zdi T N.o ?_;walk_at "";have k1:Keep A H (upd H dc (.dK (zbk kvc (.inl (c:Int)) (.int z)))):=zbj N.c nimD;have hl:=N.cs.len;refine zcF (k:=.inl (c:Int)) N.c (by rw[sizeLine_eq];omega) ?_;exact fin _ _ (zaM (by simp)) k1 upd_same ((znR N.cs hc rfl C').keep k1)
  | formula ex =>
   have hne:¬decide (v=.non)=true:=fun z=>by
    obtain⟨a,dx,lc,d,xs,kvs,o1,o2,rfl,_⟩:=(show FormAt A H v (comp ex) from C).ex;have:=zAf z;cases this
   refine itN hne ?_;walk_at "";refine zdi T N.o ?_;walk_at "";have k1:Keep A H (upd H dc (.dK (zbk kvc (.inl (c:Int)) v))):=zbj N.c nimD;have hl:=N.cs.len;refine zcF (k:=.inl (c:Int)) N.c (by rw[sizeLine_eq];omega) ?_;exact fin _ _ (zaM (by simp)) k1 upd_same ((znR N.cs hc rfl C).keep k1)
end
section
variable{P:Program}{w:World}{K:PySem.W.Frag}{mg:Str->Option Value}{base:Heap}{A:Ad}
theorem zhw{H:Hp}{v:V}{c:List Item}(h:FormAt A H v c):∃a dx lc d kvs o2,v=.ref a/\H a=some (.ins A.cFor dx (ffs lc d))/\H d=some (.frz o2 (.dK kvs))/\NeedOk kvs (c.flatMap zaA)/\kvs.length<=204800:=by
 obtain⟨a,dxf,lc,d,xs,kvs,o1,o2,rfl,ha,hlc,hd,hcode,hneed⟩:=h.ex;exact⟨a,dxf,lc,d,kvs,o2,rfl,ha,hd,hneed,zBp hneed.len (zhC hcode h.len)⟩
theorem zkJ(T:Txt P w K mg A){H:Hp}{a dx lc d:Addr}{R:V->Prop}(h:H a=some (.ins A.cFor dx (ffs lc d)))(q:R (.ref d)):∃a' C dx fs v,V.ref a=.ref a'/\H a'=some (.ins C dx fs)/\Cls K C/\NoAttr K C "needed" /\ fs.lookup ("needed" : Str)=some v/\R v:=zbh h T.clcFor T.ncFor_needed (by rfl) q
abbrev zsk(S:Sg07.Sheet)(c:Nat)(ds:List Nat):Prop:=∀d,d∈ds↔d∈Sg07.needsOf (S c)/\Sg07.isEmpty (S d)=false
inductive zgh(A:Ad)(K:PySem.W.Frag)(vs:List V)(H:Hp)(Q:VK)(E:XK):Prop
 | mk sh dx dc kn dk d1 d2 kvc kv1 S (c:Nat) (_:vs=[.ref sh,.int (c:Int)]) (_:ShAt A K H sh dx dc kn dk d1 d2 kvc kv1 S) (_:Sg07.isEmpty (S c)=false) (_:∀l H' ds,Same H H'->H l=none->H' l=some (.lst (nl ds))->zsk S c ds->ds.length<=204800->Q (.ref l) H')
theorem sc_filled_needs:zam ["self", "cell", "content", "other"] ["self", "cell"] (zag zcn):=by walk_at "sc"
theorem m_filled_needs(T:Txt P w K mg A):CaM P w K mg base CX0 A.cSh "filled_needs" 1 ["self", "cell"] (zgh A K):=by
 refine zbG T.m_filled_needs T.clcSh sc_filled_needs (fun _ _ _ _ h=>?_) fun f _ A' _ s H vs Q E hr h=>?_
 ·obtain⟨sh,dx,dc,kn,dk,d1,d2,kvc,kv1,S,c,rfl,_⟩:=h;rfl
 ·obtain⟨sh,dx,dc,kn,dk,d1,d2,kvc,kv1,S,c,rfl,N,he,q⟩:=h;refine⟨_,(zab (zas (i:=2) sc_filled_needs.nd rfl (Or.inl rfl) (zcB (zba hr) (zaj (pv 0) rfl) (pv 1) (fun _ _=>rfl))) (zab (zaw (zbD (za0 (zeY T.bisinstance (pv 2) T.gFormula))) (zac (zai (zaJ zad))) zal) (zac (zai (zle (tt:=tB (zmC (zaX 3) (zcJ K (zaX 0) "contents"))) (te:=zaX 3) rfl sc_filled_needs.nd (zlc (zaj (pv 2) rfl)) (zcu (N:=["self", "cell", "content", "other"]) (sc:=zag zcn) (own:=[("other",3)]) (by decide +kernel)) (fun _ _ _ _ _=>(za3 (i:=3) sc_filled_needs.nd rfl (Or.inl rfl))) (fun _ _ _ _ _=>(ziQ (zbJ (ziS (zba hr) (pv 3) (zaj (pv 0) rfl))))) (fun _ _ _ _ _=>(pv 3))))))),?_⟩
  try dsimp only[zaI]
  walk_at "";refine zdi T N.o ?_;walk_at "";rcases N.cs.get c with⟨_,e⟩|⟨v,hv,hc,_,C⟩
  ·rw[e] at he;cases he
  refine⟨dc,v,rfl,by rw[<-hv];exact zbc (k:=.inl (c:Int)) (.inl N.c),?_⟩;walk_at "";refine zim T C ?_;walk_at "";cases es:S c with
  | empty=>rw[es] at he;cases he
  | num z =>
   refine itP rfl ?_;walk_at "";refine⟨by decide,fun l hl=>?_⟩;refine q l _ [] (zaN hl) hl upd_same (fun d=>?_) (zAx _);rw[es];simp[Sg07.needsOf]
  | formula ex =>
   rw[es] at C;obtain⟨a,dxf,lc,d,kvs,o2,rfl,ha,hd,hneed,hlen⟩:=zhw (show FormAt A H v (comp ex) from C);rw[nd_expr] at hneed;refine itN (by show¬(!true)=true;decide) ?_;walk_at "";refine zkJ T ha ?_;refine⟨d,o2,rfl,.inl ⟨kvs,hd,fun D hD=>?_⟩⟩;have nd':d≠D:=zaf hd hD;refine zlm (fun i H3=>∃ds,H3=upd H D (.lst (nl ds))/\ds.length<=i/\∀e,e∈ds↔(∃p∈kvs.take i,p.1=(.inl (e:Int):Key))/\Sg07.isEmpty (S e)=false) ⟨[],rfl,zAi _,fun e=>by simp⟩ (fun i H3 hP=>by obtain⟨ds,rfl,_⟩:=hP;rw[zae nd'];exact hd) (fun i k v H3 hk hP=>?_) (fun H3 hP=>?_)
   ·obtain⟨ds,rfl,hl,hds⟩:=hP;obtain⟨n,ek,hn⟩:=hneed.sub (k,v) (zBs hk);have ek:k=.inl (n:Int):=ek;subst ek;have sD:Same H (upd H D (.lst (nl ds))):=fun b o z=>by rw[zae (zaf z hD)];exact z
    have N3:=N.same sD;have etk:kvs.take (i+1)=kvs.take i++[(.inl (n:Int),v)]:=by rw[zAu,hk];rfl
    walk_at "";refine⟨rfl,?_⟩;walk_at "";refine zdi T N3.o ?_;refine⟨dc,_,rfl,zbc (k:=.inl (n:Int)) (.inl N3.c),?_⟩;walk_at "";rcases N.cs.get n with⟨hv0,e0⟩|⟨u,hu,_,e0,_⟩
    ·rw[hv0];refine itN zAc ?_;refine⟨ds,rfl,by omega,fun e=>?_⟩;rw[hds e,etk];constructor
     ·rintro⟨⟨p,hp,e1⟩,e2⟩;exact⟨⟨p,zAj _ hp,e1⟩,e2⟩
     ·rintro⟨⟨p,hp,e1⟩,e2⟩;rcases zAw hp with hp | hp
      ·exact⟨⟨p,hp,e1⟩,e2⟩
      ·rw[zAg hp] at e1;have:n=e:=by have:=zBy e1;omega
       rw[<-this,e0] at e2;cases e2
    ·rw[hu];refine itP rfl ?_;walk_at "";have hil:=(List.getElem?_eq_some_iff.mp hk).1;refine⟨nl ds,upd_same,by rw[nl_length,sizeLine_eq];omega,ds++[n],by rw[upd_upd,zbn];rfl,by rw[zAa,zAt];omega,fun e=>?_⟩;rw[List.mem_append,hds e,etk];constructor
     ·rintro(⟨⟨p,hp,e1⟩,e2⟩ | h)
      ·exact⟨⟨p,zAj _ hp,e1⟩,e2⟩
      ·rw[zAg h];exact⟨⟨(.inl (n:Int),v),by simp,rfl⟩,e0⟩
     ·rintro⟨⟨p,hp,e1⟩,e2⟩;rcases zAw hp with hp | hp
      ·exact .inl ⟨⟨p,hp,e1⟩,e2⟩
      ·rw[zAg hp] at e1;have:n=e:=by have:=zBy e1;omega
       exact .inr (by rw[this];simp)
   ·obtain⟨ds,rfl,hl,hds⟩:=hP;rw[zBf] at hds;refine q D _ ds (zaN hD) hD upd_same (fun e=>?_) (by omega);rw[hds e,es];show _↔e∈Sg07.needs ex/\_;refine and_congr_left fun _=>⟨fun⟨p,hp,e1⟩=>?_,fun hm=>?_⟩
    ·obtain⟨n,e2,hn⟩:=hneed.sub p hp;rw[e1] at e2;have:e=n:=by have:=zBy e2;omega
     rw[this];exact hn
    ·obtain⟨u,hu⟩:=Option.isSome_iff_exists.mp (hneed.sup e hm);exact⟨_,zeF hu,rfl⟩
inductive zd4(A:Ad)(K:PySem.W.Frag)(vs:List V)(H:Hp)(Q:VK)(E:XK):Prop
 | mk sh dx dc kn dk d1 d2 kvc kv1 S (c:Nat) (_:vs=[.ref sh,.int (c:Int)]) (_:ShAt A K H sh dx dc kn dk d1 d2 kvc kv1 S) (_:Sg07.isEmpty (S c)=false) (_:Kno S kv1 (Sg07.needsOf (S c))) (_:∀v H',Sb [d2] H H'->ShAt A K H' sh dx dc kn dk d1 d2 kvc kv1 S->WAt K H' v (cw S (wS S) c)->Q v H')
theorem sc_worth_from_needs:zam ["self", "cell", "content"] ["self", "cell"] (zag zcm):=by walk_at "sc"
theorem m_worth_from_needs(T:Txt P w K mg A):CaM P w K mg base CX0 A.cSh "worth_from_needs" 6 ["self", "cell"] (zd4 A K):=by
 refine zbG T.m_worth_from_needs T.clcSh sc_worth_from_needs (fun _ _ _ _ h=>?_) fun f _ A' _ s H vs Q E hr h=>?_
 ·obtain⟨sh,dx,dc,kn,dk,d1,d2,kvc,kv1,S,c,rfl,_⟩:=h;rfl
 ·obtain⟨sh,dx,dc,kn,dk,d1,d2,kvc,kv1,S,c,rfl,N,he,hk,q⟩:=h;refine⟨_,(zab (zas (i:=2) sc_worth_from_needs.nd rfl (Or.inl rfl) (zcB (zba hr) (zaj (pv 0) rfl) (pv 1) (fun _ _=>rfl))) (zab (zaw (za0 (zeY T.bisinstance (pv 2) T.gFormula)) (zac (zai (zav (zeC T) hr zat (zaa (pv 2) (zaa (zaj (pv 0) rfl) zad))))) zal) (zac (zai (zaY (zaa zah (zaa (pv 2) zad))))))),?_⟩
  try dsimp only[zaI]
  walk_at "";refine zdi T N.o ?_;walk_at "";rcases N.cs.get c with⟨_,e⟩|⟨v,hv,hc,_,C⟩
  ·rw[e] at he;cases he
  refine⟨dc,v,rfl,by rw[<-hv];exact zbc (k:=.inl (c:Int)) (.inl N.c),?_⟩;walk_at "";refine zim T C ?_;walk_at "";cases es:S c with
  | empty=>rw[es] at he;cases he
  | num z =>
   rw[es] at C;obtain⟨rfl,z1,z2⟩:=C;refine itN zAc ?_;walk_at "";refine⟨zar (by simp),fun l hl=>?_⟩;have s1:=zaN (o:=.tup [.int 0,.int z]) hl;refine q _ _ (Sb.of s1) (N.same s1) ?_;unfold cw;rw[es];exact zb1 (by constructor<;>omega)
  | formula ex =>
   rw[es] at C hk;refine itP rfl ?_;walk_at "";refine zf1 T N.o ?_;walk_at "";refine⟨v,ex,kn,dk,d1,d2,kv1,S,rfl,C,N.k,hk,fun u H1 sb1 N1 W1=>?_⟩;obtain⟨kv2,er,_⟩:=N.k.r;have k1:Keep A H H1:=sb1.keep fun b hb o z i=>by rw[zAg hb,er] at z;cases z;exact i
   have n1:sh≠d2:=fun z=>by have:=N.o;rw[z,er] at this;cases this
   have n2:dc≠d2:=fun z=>by have:=N.c;rw[z,er] at this;cases this
   refine q u H1 sb1 ⟨sb1 _ _ N.o (by simp[n1]),sb1 _ _ N.c (by simp[n2]),N.cs.keep k1,N1,N.n⟩ ?_;unfold cw;rw[es];exact W1
end
section
variable{P:Program}{w:World}{K:PySem.W.Frag}{mg:Str->Option Value}{base:Heap}{A:Ad}
def zj_(a:Sg07.Ans):List V:=.int a.code::a.out.map V.int
def zmj(A:Ad)(K:PySem.W.Frag)(H:Hp)(sh dx dc d1 d2:Addr)(r:Sg07.Ans×Sg07.Sheet)(Q:VK):Prop:=∀l H' kn dk d1' d2' kvc kv1,Sb [sh,dc,d1,d2] H H'->H l=none->ShAt A K H' sh dx dc kn dk d1' d2' kvc kv1 r.2->H' l=some (.lst (zj_ r.1))->Q (.ref l) H'
theorem zlB{H:Hp}{S:Sg07.Sheet}{kvc:List (Key×V)}(h:CtOk A H S kvc)(c:Nat):∃v,(zaO kvc (.inl (c:Int))).getD .non=v/\CtAt A H v (S c):=by
 rcases h.get c with⟨hv,e⟩|⟨u,hu,_,_,C⟩
 ·exact⟨.non,by rw[hv];rfl,by rw[e];rfl⟩
 ·exact⟨u,by rw[hu];rfl,C⟩
theorem zeu{z:Int}(h:Sg07.ok z=true):∃c:Nat,z=(c:Int)/\c<1024/\z.toNat=c:=by
 unfold Sg07.ok at h;simp only[zBx,decide_eq_true_iff] at h;exact⟨z.toNat,by omega,by omega,rfl⟩
inductive ziC(A:Ad)(K:PySem.W.Frag)(vs:List V)(H:Hp)(Q:VK)(E:XK):Prop
 | mk sh dx dc kn dk d1 d2 kvc kv1 S z m (_:vs=[.ref sh,.int z,.int m]) (_:ShAt A K H sh dx dc kn dk d1 d2 kvc kv1 S) (_:zmj A K H sh dx dc d1 d2 (Sg07.does S (.text z m)) Q)
theorem sc_tell_cell:zam ["self", "cell", "most", "told"] ["self", "cell", "most"] (zag zfN):=by walk_at "sc"
theorem m_tell_cell(T:Txt P w K mg A):CaM P w K mg base CX0 A.cSh "tell_cell" 6 ["self", "cell", "most"] (ziC A K):=by
 refine zbG T.m_tell_cell T.clcSh sc_tell_cell (fun _ _ _ _ h=>?_) fun f _ A' _ s H vs Q E hr h=>?_
 ·obtain⟨sh,dx,dc,kn,dk,d1,d2,kvc,kv1,S,z,m,rfl,_⟩:=h;rfl
 ·obtain⟨sh,dx,dc,kn,dk,d1,d2,kvc,kv1,S,z,m,rfl,N,q⟩:=h;have wrong:(Sg07.ok z=false\/m<0\/1024<m)->(1<=sizeLine/\∀l,H l=none->Q (.ref l) (upd H l (.lst [.int (-5000)]))):=fun hb=>by
   refine⟨by decide,fun l hl=>?_⟩;have s1:=zaN (o:=.lst [.int (-5000)]) hl;refine q l _ kn dk d1 d2 kvc kv1 (Sb.of s1) hl (N.same s1) ?_;unfold Sg07.does;dsimp only;rw[if_pos hb,upd_same];rfl
  refine⟨_,(zab (zaw (PW.pt (zcz (zbD (za0 (zav (zb0 T) hr zat (zaa (pv 1) zad)))) (zcz (zak zcd (pv 2) zah (zao _)) (zbV (zak zeZ (pv 2) (zan T.gGREATEST_MOST) (zao _)))))) (zac (zai (zaJ (zaa (zan T.gREFUSED) zad)))) zal) (zab (zas (i:=3) sc_tell_cell.nd rfl (Or.inl rfl) (zav (zhI T) hr zat (zaa (zjL (zba hr) (zaj (pv 0) rfl) (pv 1) ⟨rfl,rfl,rfl,rfl⟩) zad))) (zab (zaw (zak zeZ (zaF zaL (by rfl) T.blen PySem.boot_len (zaa (pv 3) zad)) (pv 2) (zao _)) (zac (zai (zaJ (zaa (zaF zaL (by rfl) T.blen PySem.boot_len (zaa (pv 3) zad)) zad)))) zal) (zac (zai (zaD zbo (zaJ (zaa (zaF zaL (by rfl) T.blen PySem.boot_len (zaa (pv 3) zad)) zad)) (pv 3))))))),?_⟩
  try dsimp only[zaI]
  walk_at "";refine⟨z,rfl,?_⟩;walk_at "";cases hok:Sg07.ok z with
  | false =>
   refine itP rfl ?_;refine itP rfl ?_;walk_at "";exact wrong (.inl hok)
  | true =>
   refine itN (by decide) ?_;walk_at "";refine zbg (fun h1=>?_) (fun h1=>?_)
   ·refine itP rfl ?_;walk_at "";exact wrong (.inr (.inl (zAf h1)))
   ·walk_at "";refine zbg (fun h2=>?_) (fun h2=>?_)
    ·walk_at "";exact wrong (.inr (.inr (zAf h2)))
    ·have h1':=zAv (zAm h1);have h2':=zAv (zAm h2);obtain⟨c,rfl,hc,ecn⟩:=zeu hok;walk_at "";refine zdi T N.o ?_;refine⟨dc,rfl,.inl ⟨kvc,.inl N.c⟩,?_⟩;walk_at "";refine⟨_,zbc (k:=.inl (c:Int)) (.inl N.c),?_⟩;obtain⟨v,ev,C⟩:=zlB N.cs c;rw[ev];walk_at "";refine⟨v,S c,rfl,C,fun l1 H1 s1 hl1 e1 hz=>?_⟩;have ed:Sg07.does S (.text (c:Int) m)=(⟨((Sg07.cellText (S c)).length:Int),if ((Sg07.cellText (S c)).length:Int)<=m then(Sg07.cellText (S c)).map fun(b:UInt8)=>(b.toNat:Int) else[]⟩,S):=by
      unfold Sg07.does;dsimp only;have hno:¬(Sg07.ok (c:Int)=false\/m<0\/1024<m):=fun hb=>by
       rcases hb with hb | hb | hb
       ·rw[hok] at hb;cases hb
       ·omega
       ·omega
      rw[if_neg hno,zBu]
     rw[ed] at q;walk_at "";refine⟨_,_,rfl,.inl (SqL.of e1),?_⟩;walk_at "";rw[bl_length];refine zbg (fun h3=>?_) (fun h3=>?_)
     ·have h3':m<((Sg07.cellText (S c)).length:Int):=zAf h3;walk_at "";refine⟨_,_,rfl,.inl (SqL.of e1),?_⟩;walk_at "";rw[bl_length];refine⟨zar (by simp),fun l2 hl2=>?_⟩;obtain⟨H2,e,s2,e2⟩:=zap hl2 _;rw[<-e];clear e;have t2:=s1.trans s2;refine q l2 H2 kn dk d1 d2 kvc kv1 (Sb.of t2) (Same.out s1 hl2) (N.same t2) ?_;rw[e2];show _=some (HO.lst (zj_ ⟨_,if _ then _ else _⟩));rw[if_neg (by omega)];rfl
     ·have h3':=zAv (zAm h3);walk_at "";refine⟨_,_,rfl,.inl (SqL.of e1),?_⟩;walk_at "";rw[bl_length];refine⟨zar (by simp),fun l2 hl2=>?_⟩;obtain⟨H2,e,s2,e2⟩:=zap hl2 _;rw[<-e];clear e;walk_at "";refine zbO e2 (s2 _ _ e1) (zar (by rw[bl_length];show 1+_<=_;omega)) fun l3 hl3=>?_;obtain⟨H3,e,s3,e3⟩:=zap hl3 _;rw[<-e];clear e;have t2:=s1.trans s2;have t3:=t2.trans s3;refine q l3 H3 kn dk d1 d2 kvc kv1 (Sb.of t3) (Same.out t2 hl3) (N.same t3) ?_;rw[e3];show _=some (HO.lst (zj_ ⟨_,if _ then _ else _⟩));rw[if_pos (by omega)];unfold zj_ bl;rw[zCm];rfl
theorem zqf{n i:Nat}{C:Addr}{tb:XK->TS}{th:TS}{D:zdc}{σ:St}{H:Hp}(h:tb (znJ n i C th D.rt) D σ H):zpd n i C tb th D σ H:=h
theorem zqe{C:Addr}{f:Str}{ta:TE}{σ:St}{H:Hp}{Q:VK}(h:ta σ H fun x H1=>∃e d fs v,x=.ref e/\H1 e=some (.ext (XU e C (some d)))/\H1 d=some (.xd fs)/\fs.lookup f=some v/\Q v H1):zpc C f ta σ H Q:=h
inductive zjp(A:Ad)(K:PySem.W.Frag)(vs:List V)(H:Hp)(Q:VK)(E:XK):Prop
 | mk sh dx dc kn dk d1 d2 kvc kv1 S z lt s (_:vs=[.ref sh,.int z,.ref lt]) (_:ShAt A K H sh dx dc kn dk d1 d2 kvc kv1 S) (_:H lt=some (.lst (bl s))) (_:zmj A K H sh dx dc d1 d2 (Sg07.does S (.set z s)) Q)
theorem sc_set_cell:zam ["self", "cell", "text", "content", "refusal"] ["self", "cell", "text"] (zag zg4):=by walk_at "sc"
theorem m_set_cell(T:Txt P w K mg A):CaM P w K mg base CX0 A.cSh "set_cell" 10 ["self", "cell", "text"] (zjp A K):=by
 refine zbG T.m_set_cell T.clcSh sc_set_cell (fun _ _ _ _ h=>?_) fun f _ A' _ s H vs Q E hr h=>?_
 ·obtain⟨sh,dx,dc,kn,dk,d1,d2,kvc,kv1,S,z,lt,s,rfl,_⟩:=h;rfl
 ·obtain⟨sh,dx,dc,kn,dk,d1,d2,kvc,kv1,S,z,lt,tx,rfl,N,ht,q⟩:=h;have wrong:(Sg07.ok z=false\/127<tx.length)->(1<=sizeLine/\∀l,H l=none->Q (.ref l) (upd H l (.lst [.int (-5000)]))):=fun hb=>by
   refine⟨by decide,fun l hl=>?_⟩;have s1:=zaN (o:=.lst [.int (-5000)]) hl;unfold Sg07.does at q;dsimp only at q;rw[if_pos hb] at q;exact q l _ kn dk d1 d2 kvc kv1 (Sb.of s1) hl (N.same s1) upd_same
  refine⟨_,(zab (zaw (PW.pt (zcz (zbD (za0 (zav (zb0 T) hr zat (zaa (pv 1) zad)))) (zbV (zak zeZ (zaF zaL (by rfl) T.blen PySem.boot_len (zaa (pv 2) zad)) (zan T.gLONGEST_TEXT) (zao _))))) (zac (zai (zaJ (zaa (zan T.gREFUSED) zad)))) zal) (zab (zol (i:=4) T.xcMi rfl T.gMisplaced rfl rfl rfl sc_set_cell.nd rfl rfl (fun xe pn E hp=>zac (zas (i:=3) sc_set_cell.nd rfl (Or.inl rfl) (zav (zhJ T) hr hp (zaa (pv 2) zad)))) (fun e pn=>zac (zai (zaJ (zaa (zaD zca (zcc zbz zah) (zoq (pv 4) rfl T.xcMi T.noPlace (by kernel_rfl))) zad))))) (zab (zaE (za9 (pv 0) (m_put T) hr zat (zaa (pv 1) (zaa (pv 3) zad)))) (zac (zai (zaJ (zaa zah zad))))))),?_⟩
  try dsimp only[zaI]
  walk_at "";refine⟨z,rfl,?_⟩;walk_at "";cases hok:Sg07.ok z with
  | false =>
   refine itP rfl ?_;refine itP rfl ?_;walk_at "";exact wrong (.inl hok)
  | true =>
   refine itN (by decide) ?_;walk_at "";refine⟨_,_,rfl,.inl (SqL.of ht),?_⟩;walk_at "";rw[bl_length];refine zbg (fun h1=>?_) (fun h1=>?_)
   ·walk_at "";exact wrong (.inr (by have:=zAf h1;omega))
   ·have h1':=zAv (zAm h1);obtain⟨c,rfl,hc,ecn⟩:=zeu hok;have hno:¬(Sg07.ok (c:Int)=false\/127<tx.length):=fun hb=>by
     rcases hb with hb | hb
     ·rw[hok] at hb;cases hb
     ·omega
    have ed:Sg07.does S (.set (c:Int) tx)=match Sg07.cellOf tx with
      | .ok x=>(Sg07.says 0,Sg07.put S c x)
      | .error p=>(Sg07.says (-1 - (p:Int)),S):=by
     unfold Sg07.does;dsimp only;rw[if_neg hno,zBu];rfl
    rw[ed] at q;walk_at "";refine zqf ?_;walk_at "";have done:∀(v:V) (x:Sg07.Cell) (H1:Hp),Sg07.cellOf tx=.ok x->Same H H1->CtAt A H1 v x->zgL (zgM (zlM A.cSh "put" (zkk A K) E0 (zaX 0) (za2 (zaX 1) (za2 (zaX 3) zbT)))) (zjl (zlL (za2 (tC (.int 0)) zbT))) {nx:=fun _ H'=>Q .non H',rt:=Q} [some (.ref sh),some (.int (c:Int)),some (.ref lt),some v,none] H1:=fun v x H1 ex s1 C=>by
     rw[ex] at q;have N1:=N.same s1;walk_at "";refine zay N1.o rfl ?_;walk_at "";refine⟨sh,dx,dc,kn,dk,d1,d2,kvc,kv1,S,c,v,x,rfl,N1,hc,C,fun H2 kn' dk' d1' d2' kvc' k2 N2 sb2=>?_⟩;walk_at "";refine⟨by decide,fun l hl=>?_⟩;obtain⟨H3,e,s3,e3⟩:=zap hl _;rw[<-e];clear e;have sbA:Sb [sh,dc,d1,d2] H H2:=fun b o z nb=>sb2 b o (s1 _ _ z) (fun hm=>nb (by simp at hm ⊢;rcases hm with h | h<;>simp[h]));have nl0:H l=none:=by
      cases zz:H l with
      | none=>rfl
      | some o =>
       have h2:∃o',H2 l=some o':=by
        by_cases e1:l=sh
        ·exact⟨_,by rw[e1];exact N2.o⟩
        ·by_cases e2:l=dc
         ·exact⟨_,by rw[e2];exact N2.c⟩
         ·exact⟨_,sb2 _ _ (s1 _ _ zz) (by simp[e1,e2])⟩
       obtain⟨o',h2⟩:=h2;rw[hl] at h2;cases h2
     exact q l H3 kn' dk' d1' d2' kvc' [] (sbA.trans (Sb.of s3)) nl0 (N2.same s3) e3
    refine⟨lt,tx,rfl,ht,by omega,?_⟩;cases ec:Sg07.cellOf tx with
    | error p =>
     rw[ec] at q;dsimp only;intro H1 d s1 e1;refine⟨rfl,fun ee he=>?_⟩;obtain⟨H2,e,s2,e2⟩:=zap he _;rw[<-e];clear e;walk_at "";refine zqe ?_;walk_at "";refine⟨ee,d,_,.int ((p:Nat):Int),rfl,e2,s2 _ _ e1,rfl,?_⟩;walk_at "";refine⟨zar (by simp),fun l hl=>?_⟩;obtain⟨H3,e,s3,e3⟩:=zap hl _;rw[<-e];clear e;have t3:=(s1.trans s2).trans s3;exact q l H3 kn dk d1 d2 kvc kv1 (Sb.of t3) (Same.out (s1.trans s2) hl) (N.same t3) e3
    | ok x =>
     cases x with
     | empty=>exact done .non .empty H ec (Same.refl H) rfl
     | num z =>
      dsimp only;intro z1 z2 H1 s1;exact done (.int z) (.num z) H1 ec s1 ⟨rfl,z1,z2⟩
     | formula ex =>
      dsimp only;intro v H1 s1 F1;exact done v (.formula ex) H1 ec s1 F1
end
section
variable{P:Program}{w:World}{K:PySem.W.Frag}{mg:Str->Option Value}{base:Heap}{A:Ad}
abbrev ik(c:Nat):Key:=.inl (c:Int)
theorem ze2{kvs:List (Key×V)}{sn:List Nat}(h:kvs.map (·.1)=sn.map ik)(c:Nat):(zaO kvs (ik c)).isSome=decide (c∈sn):=by
 rw[<-zcM,zCg,decide_eq_true_iff,List.any_eq_true];constructor
 ·rintro⟨p,hp,e⟩;have:p.1∈kvs.map (·.1):=zCp hp;rw[h,zAf e] at this;obtain⟨d,hd,e2⟩:=List.mem_map.mp this;have:d=c:=by have:=zBy e2;omega
  rw[<-this];exact hd
 ·intro hc;have:ik c∈kvs.map (·.1):=by rw[h];exact zCp hc
  obtain⟨p,hp,e⟩:=List.mem_map.mp this;exact⟨p,hp,zBh e⟩
theorem zns{kvs:List (Key×V)}{sn:List Nat}{c:Nat}{v:V}(h:kvs.map (·.1)=sn.map ik)(hc:c∉sn):(zbk kvs (ik c) v).map (·.1)=(sn++[c]).map ik:=by
 have hn:zaO kvs (ik c)=none:=by
  cases e:zaO kvs (ik c) with
  | none=>rfl
  | some u=>have:=ze2 h c;rw[e] at this;exact absurd (zAf this.symm) hc
 rw[zjF _ hn,zBr,h,zBr];rfl
inductive zjt(A:Ad)(K:PySem.W.Frag)(vs:List V)(H:Hp)(Q:VK)(E:XK):Prop
 | mk sh dx dc kn dk d1 d2 kvc kv1 S (a b:Nat) (_:vs=[.ref sh,.int (a:Int),.int (b:Int)]) (_:ShAt A K H sh dx dc kn dk d1 d2 kvc kv1 S) (_:∀r H',Same H H'->(r=true↔Sg07.Leads S a b)->Q (.bl r) H')
theorem znm{S:Sg07.Sheet}{a b:Nat}(h:Sg07.Leads S a b):S a≠.empty:=fun e=>by
 induction h with
 | step a b hd=>rw[e] at hd;cases hd
 | on a b c _ _ i _=>exact i e
theorem sc_comes_to:zam ["self", "start", "goal", "todo", "seen", "content", "onward", "cell"] ["self", "start", "goal"] (zag zes):=by walk_at "sc"
inductive CtJ(H:Hp)(sh lt ds af D:Addr)(ts' sn ow:List Nat)(a gl:Nat)(j:Nat)(σ:St)(H4:Hp):Prop
 | mk (_:Same H H4) (_:H4 lt=some (.lst (nl ts'))) (_:H4 D=some (.lst (nl ow))) (_:(∃kv4,H4 ds=some (.dK kv4)/\kv4.map (·.1)=(sn++ow.take j).map ik)) x7 (_:σ=[some (.ref sh),some (.int (a:Int)),some (.int (gl:Int)),some (.ref lt),some (.ref ds),some (.ref af),some (.ref D),x7])
inductive CtI(H:Hp)(sh lt ds:Addr)(S:Sg07.Sheet)(a gl:Nat)(m:Nat)(σ:St)(H':Hp):Prop
 | mk (ts sn:List Nat) kvs x5 x6 x7 (_:m=2*(1024 - sn.length)+ts.length) (_:m<=2047) (_:Same H H') (_:H' lt=some (.lst (nl ts))) (_:H' ds=some (.dK kvs)) (_:kvs.map (·.1)=sn.map ik) (_:sn.Nodup) (_:(∀c∈sn,c<1024/\Sg07.isEmpty (S c)=false/\(c=a\/Sg07.Leads S a c))) (_:(∀t∈ts,t∈sn)) (_:a∈sn) (_:(∀x∈sn,x∉ts->∀d∈Sg07.needsOf (S x),d≠gl/\(Sg07.isEmpty (S d)=false->d∈sn))) (_:σ=[some (.ref sh),some (.int (a:Int)),some (.int (gl:Int)),some (.ref lt),some (.ref ds),x5,x6,x7])
theorem m_comes_to(T:Txt P w K mg A):CaM P w K mg base CX0 A.cSh "comes_to" 1 ["self", "start", "goal"] (zjt A K):=by
 refine zbG T.m_comes_to T.clcSh sc_comes_to (fun _ _ _ _ h=>?_) fun f _ A' _ s H vs Q E hr h=>?_
 ·obtain⟨sh,dx,dc,kn,dk,d1,d2,kvc,kv1,S,a,b,rfl,_⟩:=h;rfl
 ·obtain⟨sh,dx,dc,kn,dk,d1,d2,kvc,kv1,S,a,gl,rfl,N,q⟩:=h;refine⟨_,(zab (zaw (zbJ (zbY (zba hr) (pv 1) (zaj (pv 0) rfl))) (zac (zai zbS)) zal) (zab (zas (i:=3) sc_comes_to.nd rfl (Or.inl rfl) (zaJ (zaa (pv 1) zad))) (zab (zas (i:=4) sc_comes_to.nd rfl (Or.inr rfl) (zlg (zjI (pv 1) zbS zlb) rfl rfl (by simp) (by decide))) (zab (zcp PassesOwn.never (zcZ (pv 3) (fun _=>rfl)) (zab (zas (i:=5) sc_comes_to.nd rfl (Or.inl rfl) (zcB (zba hr) (zaj (pv 0) rfl) (zcq zAh zBn zBm zcs (pv 3)) (fun _ _=>rfl))) (zab (zaw (zbD (za0 (zeY T.bisinstance (pv 5) T.gFormula))) (zac zfV) zal) (zab (zaw (zbJ (ziS (zba hr) (pv 2) (zaj (pv 5) rfl))) (zac (zai zbS)) zal) (zab (zjG (tt:=zpM (tB (zmC (zaX 7) (zcJ K (zaX 0) "contents"))) (tB (ziz (zaX 7) (zaX 4)))) (te:=zaX 7) (i:=6) rfl sc_comes_to.nd rfl rfl (zk0 rfl rfl rfl (by decide +kernel)) (zlc (zaj (pv 5) rfl)) (zcu (N:=["self", "start", "goal", "todo", "seen", "content", "onward", "cell"]) (sc:=zag zes) (own:=[("cell",7)]) (by decide +kernel)) (fun _ _ _ _ _=>(za3 (i:=7) sc_comes_to.nd rfl (Or.inl rfl))) (fun _ _ _ _ _=>(ziQ (PW.pt (zcK (zbJ (ziS (zba hr) (pv 7) (zaj (pv 0) rfl))) (zcf (zbJ (zbY (zba hr) (pv 7) (pv 4)))))))) (fun _ _ _ _ _=>(pv 7))) (zab (zbX PassesOwn.never rfl (zbA (pv 6)) (za3 (i:=7) sc_comes_to.nd rfl (Or.inl rfl)) (zac (zcA (zba hr) (pv 4) (pv 7) zbS rfl))) (zac (zaE (zbx zAh zCs zCr zfy (pv 3) (zaa (pv 6) zad)))))))))) (zac (zai zbS)))))),?_⟩
  try dsimp only[zaI]
  walk_at "";refine zdi T N.o ?_;refine⟨dc,_,rfl,zbc (k:=ik a) (.inl N.c),?_⟩;walk_at "";rcases N.cs.get a with⟨hv0,e0⟩|⟨v0,hv0,ha,he0,_⟩
  ·rw[show zaO kvc (ik a)=none from hv0];refine itP rfl ?_;walk_at "";exact q false H (Same.refl H) ⟨fun z=>(by cases z),fun hl=>absurd e0 (znm hl)⟩
  rw[show zaO kvc (ik a)=some v0 from hv0];refine itN (by simp) ?_;walk_at "";refine⟨zar (by simp),fun lt hlt=>?_⟩;obtain⟨H1,e,s1,e1⟩:=zap hlt _;rw[<-e];clear e;walk_at "";intro ds hds;refine zhq rfl ?_;refine i_c ?_;refine⟨upd_same,[(ik a,.bl true)],rfl,by show 1<=15;decide,?_⟩;rw[upd_upd];have em:zev [] [(ik a,V.bl true)]=[(ik a,V.bl true)]:=rfl;rw[em];obtain⟨H2,e,s2,e2⟩:=zap hds _;rw[<-e];clear e;have t2:=s1.trans s2;have hds':H ds=none:=Same.out s1 hds;have nld:lt≠ds:=zaf e1 hds;walk_at "";refine zhp (CtI H sh lt ds S a gl) 2047
   ⟨[a],[a],_,_,_,_,rfl,zAi _,t2,s2 _ _ e1,e2,rfl,by simp,fun c hc=>(by rw[zAg hc];exact⟨ha,he0,.inl rfl⟩),fun t ht=>ht,by simp,fun x hx hn=>absurd hx hn,rfl⟩ fun m σ H' hP=>?_
  obtain⟨ts,sn,kvs,x5,x6,x7,hm,hm2,t',elt,eds,hkeys,hnd,hsn,hts,hst,hcl,rfl⟩:=hP;have N':=N.same t';walk_at "";rcases zDv ts with rfl|⟨ts',t,rfl⟩
  ·refine⟨false,.inl ⟨[],SqL.of elt,rfl⟩,?_⟩;refine itN zAc ?_;dsimp only;walk_at "";refine q false H' t' ⟨fun z=>(by cases z),fun hl=>?_⟩;have:=znf (S:=S) (goal:=gl) (C:=fun x=>x∈sn) (fun x hx d hd=>hcl x hx (by simp) d hd) hl hst;exact absurd rfl this.1
  ·rw[zDw] at *;have elt':H' lt=some (.lst (nl ts'++[.int (t:Int)])):=by rw[elt,zbn];rfl
   obtain⟨ht1,ht2,ht3⟩:=hsn t (hts t (by simp));refine⟨true,.inl ⟨_,SqL.of elt',by simp⟩,?_⟩;refine itP rfl ?_;refine whB ?_;walk_at "";refine zdi T N'.o ?_;walk_at "";refine za1 (SqL.of elt') ?_;refine zdL elt' ?_;have frm:∀ {o:HO},Same H (upd H' lt o):=fun{o} b u z=>by rw[zae (zaf z hlt)];exact t' _ _ z
   have N2:=N.same (frm (o:=.lst (nl ts')));rcases N.cs.get t with⟨_,e0⟩|⟨v,hv,_,_,C0⟩
   ·rw[e0] at ht2;cases ht2
   have C:=C0.keep (zaC (A:=A) (frm (o:=.lst (nl ts'))));refine⟨dc,v,rfl,by rw[<-hv];exact zbc (k:=ik t) (.inl N2.c),?_⟩;walk_at "";refine zim T C ?_;walk_at "";have eds2:upd H' lt (.lst (nl ts')) ds=some (.dK kvs):=by rw[zae nld.symm];exact eds
   rw[zAa,zAt] at hm;cases es:S t with
   | empty=>rw[es] at ht2;cases ht2
   | num z =>
    refine itP rfl ?_;refine zps ?_;refine⟨2*(1024 - sn.length)+ts'.length,by omega,ts',sn,kvs,_,_,_,rfl,by omega,frm,upd_same,eds2,hkeys,hnd,hsn,fun u hu=>hts u (zAj _ hu),hst,fun x hx hn d hd=>?_,rfl⟩;by_cases ex:x=t
    ·subst ex;rw[es] at hd;cases hd
    ·exact hcl x hx (by simp[hn,ex]) d hd
   | formula fx =>
    rw[es] at C;obtain⟨af,dxf,lc,dn,nkv,o2,rfl,haf,hdn,hneed,hlen⟩:=zhw (show FormAt A _ v (comp fx) from C);rw[nd_expr] at hneed;refine itN (by show¬(!true)=true;decide) ?_;walk_at "";refine zkJ T haf ?_;refine⟨dn,_,rfl,zbc (k:=ik gl) (.inr ⟨o2,hdn⟩),?_⟩;walk_at "";rw[show(zaO nkv (ik gl)).isSome=decide (gl∈Sg07.needs fx) from hneed.has gl];have hneeds:Sg07.needsOf (S t)=Sg07.needs fx:=by rw[es];rfl
    by_cases hg:gl∈Sg07.needs fx
    ·refine itP (zBh hg) ?_;walk_at "";refine q true _ frm ⟨fun _=>?_,fun _=>rfl⟩;have st:Sg07.Leads S t gl:=.step t gl (by rw[hneeds];exact hg);rcases ht3 with rfl | h3
     ·exact st
     ·exact .on a t gl h3 st
    ·refine itN (by rw[zBq hg];decide) ?_;walk_at "";refine zkJ T haf ?_;refine⟨dn,o2,rfl,.inl ⟨nkv,hdn,fun D hD=>?_⟩⟩;generalize hH2:upd H' lt (.lst (nl ts'))=H2 at *;have frm2:Same H H2:=by rw[<-hH2];exact frm
     have elt2:H2 lt=some (.lst (nl ts')):=by rw[<-hH2];exact upd_same
     have ndn:dn≠D:=zaf hdn hD;refine zlm (fun i H3=>∃ow,H3=upd H2 D (.lst (nl ow))/\ow.length<=i/\ow.Nodup/\∀e,e∈ow↔(∃p∈nkv.take i,p.1=ik e)/\Sg07.isEmpty (S e)=false/\e∉sn) ⟨[],rfl,zAi _,zCj,fun e=>by simp⟩ (fun i H3 hP=>by obtain⟨ow,rfl,_⟩:=hP;rw[zae ndn];exact hdn) (fun i k u H3 hk hP=>?_) (fun H3 hP=>?_)
     ·obtain⟨ow,rfl,hl,hnw,how⟩:=hP;obtain⟨n,ek,hn⟩:=hneed.sub (k,u) (zBs hk);have ek:k=ik n:=ek;subst ek;have sD:Same H2 (upd H2 D (.lst (nl ow))):=fun b o z=>by rw[zae (zaf z hD)];exact z
      have N3:=N2.same sD;have etk:nkv.take (i+1)=nkv.take i++[(ik n,u)]:=by rw[zAu,hk];rfl
      have fresh:¬ ∃p∈nkv.take i,p.1=ik n:=fun⟨p,hp,e1⟩=>by
       have hil:=(List.getElem?_eq_some_iff.mp hk);have h1:((nkv.take i++[(ik n,u)]).map (·.1)).Nodup:=by rw[<-etk];exact List.Nodup.sublist (List.Sublist.map _ (zEh _ _)) hneed.nd
       rw[zBr,List.nodup_append] at h1;exact h1.2.2 (ik n) (by rw[<-e1];exact zCp hp) (ik n) (by simp) rfl
      have skip:(Sg07.isEmpty (S n)=true\/n∈sn)->∀e,e∈ow↔(∃p∈nkv.take (i+1),p.1=ik e)/\Sg07.isEmpty (S e)=false/\e∉sn:=fun hs e=>by
       rw[how e,etk];constructor
       ·rintro⟨⟨p,hp,e1⟩,e2⟩;exact⟨⟨p,zAj _ hp,e1⟩,e2⟩
       ·rintro⟨⟨p,hp,e1⟩,e2,e3⟩;rcases zAw hp with hp | hp
        ·exact⟨⟨p,hp,e1⟩,e2,e3⟩
        ·rw[zAg hp] at e1;have:n=e:=by have:=zBy e1;omega
         subst this;rcases hs with hs | hs
         ·rw[hs] at e2;cases e2
         ·exact absurd hs e3
      walk_at "";refine⟨rfl,?_⟩;walk_at "";refine zdi T N3.o ?_;refine⟨dc,_,rfl,zbc (k:=ik n) (.inl N3.c),?_⟩;walk_at "";rcases N.cs.get n with⟨hv0',e0'⟩|⟨u',hu',_,e0',_⟩
      ·rw[show zaO kvc (ik n)=none from hv0'];refine itN zAc ?_;refine itN zAc ?_;exact⟨ow,rfl,by omega,hnw,skip (.inl (by rw[e0'];rfl))⟩
      ·rw[show zaO kvc (ik n)=some u' from hu'];refine itP rfl ?_;walk_at "";refine⟨ds,_,rfl,zbc (k:=ik n) (.inl (sD _ _ eds2)),?_⟩;walk_at "";rw[ze2 hkeys n];by_cases hin:n∈sn
       ·refine itN (by rw[zBh hin];decide) ?_;exact⟨ow,rfl,by omega,hnw,skip (.inr hin)⟩
       ·refine itP (by rw[zBq hin];rfl) ?_;walk_at "";have hil:=(List.getElem?_eq_some_iff.mp hk).1;refine⟨nl ow,upd_same,by rw[nl_length,sizeLine_eq];omega,ow++[n],by rw[upd_upd,zbn];rfl,by rw[zAa,zAt];omega,?_,fun e=>?_⟩
        ·refine List.nodup_append.mpr ⟨hnw,by simp,fun x hx y hy=>?_⟩;rw[zAg hy];intro z;subst z;exact fresh ((how x).mp hx).1
        ·rw[List.mem_append,how e,etk];constructor
         ·rintro(⟨⟨p,hp,e1⟩,e2⟩ | h)
          ·exact⟨⟨p,zAj _ hp,e1⟩,e2⟩
          ·rw[zAg h];exact⟨⟨(ik n,u),by simp,rfl⟩,e0',hin⟩
         ·rintro⟨⟨p,hp,e1⟩,e2,e3⟩;rcases zAw hp with hp | hp
          ·exact .inl ⟨⟨p,hp,e1⟩,e2,e3⟩
          ·rw[zAg hp] at e1;have:n=e:=by have:=zBy e1;omega
           exact .inr (by rw[this];simp)
     ·obtain⟨ow,rfl,hl,hnw,how⟩:=hP;rw[zBf] at how;have how2:∀e,e∈ow↔e∈Sg07.needs fx/\Sg07.isEmpty (S e)=false/\e∉sn:=fun e=>by
       rw[how e];refine and_congr_left fun _=>⟨fun⟨p,hp,e1⟩=>?_,fun hm=>?_⟩
       ·obtain⟨n,e2,hn⟩:=hneed.sub p hp;rw[e1] at e2;have:e=n:=by have:=zBy e2;omega
        rw[this];exact hn
       ·obtain⟨u,hu⟩:=Option.isSome_iff_exists.mp (hneed.sup e hm);exact⟨_,zeF hu,rfl⟩
      obtain⟨H3,e,s3,e3⟩:=zap hD (.lst (nl ow));rw[<-e];clear e;have t3:=frm2.trans s3;have nlD:lt≠D:=zaf elt2 hD;have ndD:ds≠D:=zaf eds2 hD;have hD0:H D=none:=Same.out frm2 hD;have hnd2:(sn++ow).Nodup:=List.nodup_append.mpr ⟨hnd,hnw,fun x hx y hy z=>(by subst z;exact((how2 x).mp hy).2.2 hx)⟩;have hlt2:∀c∈sn++ow,c<1024:=fun c hc=>by
       rcases zAw hc with hc | hc
       ·exact(hsn c hc).1
       ·rcases N.cs.get c with⟨_,e0⟩|⟨_,_,h1,_⟩
        ·have:=((how2 c).mp hc).2.1;rw[e0] at this;cases this
        ·exact h1
      have hlen2:sn.length+ow.length<=1024:=by have:=zc1 1024 _ hnd2 hlt2;rw[zAa] at this;exact this
      walk_at "";refine⟨D,rfl,⟨_,SqL.of e3⟩,zbP (xs:=nl ow) (CtJ H sh lt ds af D ts' sn ow a gl)
       ⟨t3,s3 _ _ elt2,e3,⟨kvs,s3 _ _ eds2,by simpa using hkeys⟩,_,rfl⟩ (fun j σ H4 _ hP=>SqL.of hP.3) (fun j y σ H4 hy hP=>?_) (fun σ H4 hP=>?_)⟩
      ·obtain⟨t4,el4,eD4,⟨kv4,ed4,hk4⟩,x7,rfl⟩:=hP;have hy2:∃n:Nat,ow[j]?=some n/\y=.int (n:Int):=by
        unfold nl at hy;rw[zBl] at hy;obtain⟨n,hn,rfl⟩:=Option.map_eq_some_iff.mp hy;exact⟨n,hn,rfl⟩
       obtain⟨n,hn,rfl⟩:=hy2;have hl4:kv4.length=(sn++ow.take j).length:=by have:=congrArg List.length hk4;rw[zAp,zAp] at this;exact this
       have hnin:n∉sn++ow.take j:=fun hm=>by
        rcases zAw hm with hm | hm
        ·exact((how2 n).mp (zBs hn)).2.2 hm
        ·have h1:(ow.take (j+1)).Nodup:=List.Nodup.sublist (zEh _ _) hnw;rw[zAu,hn,List.nodup_append] at h1;exact h1.2.2 n hm n (by simp) rfl
       walk_at "";rw[zAa,zBa] at hl4;refine zcF (k:=ik n) ed4 (by rw[sizeLine_eq];omega) ?_;refine⟨fun b o z=>?_,by rw[zae nld];exact el4,by rw[zae ndD.symm];exact eD4,⟨_,upd_same,?_⟩,_,rfl⟩
       ·rw[zae (zaf z hds')];exact t4 _ _ z
       ·rw[zns hk4 hnin,zAu,hn,zAk];rfl
      ·obtain⟨t4,el4,eD4,⟨kv4,ed4,hk4⟩,x7,rfl⟩:=hP;rw[nl_length,zBf] at hk4;walk_at "";refine za1 (SqL.of el4) ?_;walk_at "";refine znC el4 eD4 (zar (by rw[nl_length,nl_length];omega)) ?_;refine⟨2*(1024 - (sn++ow).length)+(ts'++ow).length,by rw[zAa,zAa];omega,ts'++ow,sn++ow,kv4,_,_,_,rfl,by rw[zAa,zAa];omega,fun b o z=>?_,by rw[upd_same,zbn],by rw[zae nld.symm];exact ed4,hk4,hnd2,fun c hc=>?_,fun u hu=>?_,zAj _ hst,fun x hx hn d hd=>?_,rfl⟩
       ·rw[zae (zaf z hlt)];exact t4 _ _ z
       ·rcases zAw hc with hc | hc
        ·exact hsn c hc
        ·obtain⟨h1,h2,_⟩:=(how2 c).mp hc;refine⟨hlt2 c (zAl _ hc),h2,.inr ?_⟩;have st:Sg07.Leads S t c:=.step t c (by rw[hneeds];exact h1);rcases ht3 with rfl | h3
         ·exact st
         ·exact .on a t c h3 st
       ·rcases zAw hu with hu | hu
        ·exact zAj _ (hts u (zAj _ hu))
        ·exact zAl _ hu
       ·rcases zAw hx with hx | hx
        ·by_cases ex:x=t
         ·subst ex;rw[hneeds] at hd;refine⟨fun z=>hg (by rw[<-z];exact hd),fun hne=>?_⟩;by_cases hin:d∈sn
          ·exact zAj _ hin
          ·exact zAl _ ((how2 d).mpr ⟨hd,hne,hin⟩)
         ·obtain⟨h1,h2⟩:=hcl x hx (fun hm=>by
           rcases zAw hm with hm | hm
           ·exact hn (zAj _ hm)
           ·exact ex (zAg hm)) d hd
          exact⟨h1,fun z=>zAj _ (h2 z)⟩
        ·exact absurd (zAl _ hx) hn
end
section
variable{P:Program}{w:World}{K:PySem.W.Frag}{mg:Str->Option Value}{base:Heap}{A:Ad}
inductive zhQ(A:Ad)(K:PySem.W.Frag)(vs:List V)(H:Hp)(Q:VK)(E:XK):Prop
 | mk sh dx dc kn dk d1 d2 kvc kv1 S z m (_:vs=[.ref sh,.int z,.int m]) (_:ShAt A K H sh dx dc kn dk d1 d2 kvc kv1 S) (_:zmj A K H sh dx dc d1 d2 (Sg07.does S (.needs z m)) Q)
theorem zhU:zam ["self", "cell", "other"] ["self", "cell", "other"] (zag zeR):=by walk_at "sc"
theorem m_needs_cell(T:Txt P w K mg A):CaM P w K mg base CX0 A.cSh "needs_cell" 2 ["self", "cell", "other"] (zhQ A K):=by
 refine zbG T.m_needs_cell T.clcSh zhU (fun _ _ _ _ h=>?_) fun f _ A' _ s H vs Q E hr h=>?_
 ·obtain⟨sh,dx,dc,kn,dk,d1,d2,kvc,kv1,S,z,m,rfl,_⟩:=h;rfl
 ·obtain⟨sh,dx,dc,kn,dk,d1,d2,kvc,kv1,S,z,m,rfl,N,q⟩:=h;have wrong:(Sg07.ok z=false\/Sg07.ok m=false)->(1<=sizeLine/\∀l,H l=none->Q (.ref l) (upd H l (.lst [.int (-5000)]))):=fun hb=>by
   refine⟨by decide,fun l hl=>?_⟩;have s1:=zaN (o:=.lst [.int (-5000)]) hl;refine q l _ kn dk d1 d2 kvc kv1 (Sb.of s1) hl (N.same s1) ?_;unfold Sg07.does;dsimp only;rw[if_pos hb,upd_same];rfl
  refine⟨_,(zab (zaw (PW.pt (zcz (zbD (za0 (zav (zb0 T) hr zat (zaa (pv 1) zad)))) (zbV (zbD (za0 (zav (zb0 T) hr zat (zaa (pv 2) zad))))))) (zac (zai (zaJ (zaa (zan T.gREFUSED) zad)))) zal) (zac (zai (zaJ (zaa (zbL (za0 (za9 (pv 0) (m_comes_to T) hr zat (zaa (pv 1) (zaa (pv 2) zad)))) zah zah) zad))))),?_⟩
  try dsimp only[zaI]
  walk_at "";refine⟨z,rfl,?_⟩;walk_at "";cases hok:Sg07.ok z with
  | false =>
   refine itP rfl ?_;refine itP rfl ?_;walk_at "";exact wrong (.inl hok)
  | true =>
   refine itN (by decide) ?_;walk_at "";refine⟨m,rfl,?_⟩;walk_at "";cases hok2:Sg07.ok m with
   | false =>
    refine itP rfl ?_;walk_at "";exact wrong (.inr hok2)
   | true =>
    refine itN (by decide) ?_;obtain⟨a,rfl,ha,ea⟩:=zeu hok;obtain⟨b',rfl,hb,eb⟩:=zeu hok2;walk_at "";refine zay N.o rfl ?_;walk_at "";refine⟨sh,dx,dc,kn,dk,d1,d2,kvc,kv1,S,a,b',rfl,N,fun r H1 s1 hr=>?_⟩;walk_at "";have ed:Sg07.does S (.needs (a:Int) (b':Int))=(if r=true then Sg07.says 1 else Sg07.says 0,S):=by
     unfold Sg07.does;dsimp only;rw[if_neg (by rw[hok,hok2];simp),zBu,zBu];have:((Sg07.leadsTo S a).contains b'=true)↔r=true:=by rw[List.contains_iff_mem,zjS N.bnd];exact hr.symm
     by_cases h:r=true
     ·rw[if_pos (this.mpr h),if_pos h]
     ·rw[if_neg (fun z=>h (this.mp z)),if_neg h]
    rw[ed] at q;cases r with
    | true =>
     refine itP rfl ?_;walk_at "";refine⟨by decide,fun l hl=>?_⟩;obtain⟨H2,e,s2,e2⟩:=zap hl _;rw[<-e];clear e;have t2:=s1.trans s2;exact q l H2 kn dk d1 d2 kvc kv1 (Sb.of t2) (Same.out s1 hl) (N.same t2) e2
    | false =>
     refine itN zAc ?_;walk_at "";refine⟨by decide,fun l hl=>?_⟩;obtain⟨H2,e,s2,e2⟩:=zap hl _;rw[<-e];clear e;have t2:=s1.trans s2;exact q l H2 kn dk d1 d2 kvc kv1 (Sb.of t2) (Same.out s1 hl) (N.same t2) e2
end
section
variable{P:Program}{w:World}{K:PySem.W.Frag}{mg:Str->Option Value}{base:Heap}{A:Ad}
section
variable{H H':Hp}{sh dx dc kn dk d1 d2:Addr}{kvc kv0 kv1:List (Key×V)}{S:Sg07.Sheet}
theorem zgX{x:Addr}{u o:HO}(N0:ShAt A K H sh dx dc kn dk d1 d2 kvc kv0 S)(hx:H x=none)(N:ShAt A K H' sh dx dc kn dk d1 d2 kvc kv1 S)(hu:H' x=some u)(ni:¬Imm A u):ShAt A K (upd H' x o) sh dx dc kn dk d1 d2 kvc kv1 S:=by
 have k:Keep A H' (upd H' x o):=zbj hu ni;obtain⟨kv2,e2,_⟩:=N0.k.r;have n2:x≠d2:=(zaf e2 hx).symm;exact⟨by rw[zae (zaf N0.o hx)];exact N.o,by rw[zae (zaf N0.c hx)];exact N.c,N.cs.keep k,N.k.other (zaM (by simp)) ⟨(zaf N0.k.o hx).symm,(zaf N0.k.c hx).symm,n2⟩ k,N.n⟩
theorem zmO{c:Nat}{v:V}(N:ShAt A K H sh dx dc kn dk d1 d2 kvc kv1 S)(W:WAt K H v (wS S c))(hc:c<1024)(he:Sg07.isEmpty (S c)=false):ShAt A K (upd H d1 (.dK (zbk kv1 (ik c) v))) sh dx dc kn dk d1 d2 kvc (zbk kv1 (ik c) v) S:=by
 have k:Keep A H (upd H d1 (.dK (zbk kv1 (ik c) v))):=zbj N.k.c (fun z=>z);obtain⟨n12,nk1,nk2⟩:=N.k.n12;have ns:sh≠d1:=fun z=>by have:=N.o;rw[z,N.k.c] at this;cases this
 obtain⟨kv2,e2,r2⟩:=N.k.r;refine⟨by rw[zae ns];exact N.o,by rw[zae N.n];exact N.c,N.cs.keep k,⟨by rw[zae nk1];exact N.k.o,upd_same,⟨kv2,by rw[zae n12.symm];exact e2,r2.keep k⟩,fun p hp=>?_,zdV N.k.cs.nd⟩,N.n⟩;rcases zla hp with hp | rfl
 ·exact(N.k.cs.keep k).mem p hp
 ·exact⟨c,rfl,hc,he,W.keep k⟩
abbrev zi2(kv1:List (Key×V))(x:Nat):Bool:=(zaO kv1 (ik x)).isSome
theorem zi1(kv1:List (Key×V))(c:Nat)(v:V)(x:Nat):zi2 (zbk kv1 (ik c) v) x=(zi2 kv1 x||decide (x=c)):=by
 unfold zi2;rw[zeG];by_cases e:x=c
 ·rw[if_pos (by rw[e]),zBh e,Bool.or_true];rfl
 ·rw[if_neg (fun z=>e (by have:=zBy z;omega)),zBq e,Bool.or_false]
def wsI:Sg07.Worth->List Int
 | .ok z=>[0,z]
 | .error e=>[(e:Int),0]
theorem zqX(x:Sg07.Worth):wv x=(wsI x).map V.int:=by cases x<;>rfl
theorem zkW(x:Sg07.Worth):wsI x=[1,0]↔x=.error 1:=by
 cases x with
 | ok z=>exact⟨fun h=>(by have:=(List.cons.inj h).1;omega),fun h=>(by cases h)⟩
 | error e=>exact⟨fun h=>by
   have:=(List.cons.inj h).1;rw[show e=1 by omega],fun h=>by cases h;rfl⟩
theorem setL_at{L:Nat->List Nat}{c:Nat}{l:List Nat}:zcY L c l c=l:=if_pos rfl
structure WkAt(H H':Hp)(lt ds:Addr)(r stn:List Nat)(L:Nat->List Nat)(adr:Nat->Addr):Prop where
 p:H' lt=some (.lst (nl r.reverse))
 s:H' ds=some (.dK (stn.map fun c=>(ik c,.ref (adr c))))
 l:∀c∈r,H' (adr c)=some (.lst (nl (L c)))
 q:∀c∈r,c∈stn/\H (adr c)=none/\adr c≠lt
 j:∀x∈r,∀y∈r,adr x=adr y->x=y
variable{lt ds:Addr}{r stn:List Nat}{L:Nat->List Nat}{adr:Nat->Addr}
theorem WkAt.sb(h:WkAt H H' lt ds r stn L adr){l:List Addr}{H2:Hp}(hl:∀b∈l,H b≠none)(h1:H lt=none)(h2:H ds=none)(s:Sb l H' H2):WkAt H H2 lt ds r stn L adr:=
 ⟨s _ _ h.p fun z=>hl _ z h1,s _ _ h.s fun z=>hl _ z h2,fun c hc=>s _ _ (h.l c hc) fun z=>hl _ z (h.q c hc).2.1,h.q,h.j⟩
theorem zmH(adr:Nat->Addr)(stn:List Nat):(stn.map fun c=>((ik c,.ref (adr c)):Key×V)).map (·.1)=stn.map ik:=by rw[zCm];rfl
theorem zkh(adr:Nat->Addr)(c:Nat):∀(stn:List Nat),c∈stn->zaO (stn.map fun c=>((ik c,.ref (adr c)):Key×V)) (ik c)=some (.ref (adr c))
 | [],h=>(by cases h)
 | a::r,h=>by
  rw[zAz];by_cases e:a=c
  ·subst e;exact zbd rfl
  ·rw[za8 (fun z=>e (by have:=zBy z;omega))];exact zkh adr c r ((zAe h).resolve_left (fun z=>e z.symm))
theorem zpN(adr:Nat->Addr){stn:List Nat}{d:Nat}(l:Addr)(hd:d∉stn):zbk (stn.map fun c=>((ik c,.ref (adr c)):Key×V)) (ik d) (.ref l)=(stn++[d]).map fun c=>((ik c,.ref (if c=d then l else adr c)):Key×V):=by
 have hn:zaO (stn.map fun c=>((ik c,.ref (adr c)):Key×V)) (ik d)=none:=by
  cases e:zaO (stn.map fun c=>((ik c,.ref (adr c)):Key×V)) (ik d) with
  | none=>rfl
  | some u=>have:=ze2 (zmH adr stn) d;rw[e] at this;exact absurd (zAf this.symm) hd
 rw[zjF _ hn,zBr];congr 1
 ·refine zCk fun x hx=>?_;rw[if_neg fun e=>hd (by rw[<-e];exact hx)]
 ·show _=[(ik d,V.ref (if d=d then l else adr d))];rw[if_pos rfl]
end
inductive zjo(A:Ad)(K:PySem.W.Frag)(vs:List V)(H:Hp)(Q:VK)(E:XK):Prop
 | mk sh dx dc kn dk d1 d2 kvc kv1 S (c:Nat) (_:vs=[.ref sh,.int (c:Int)]) (_:ShAt A K H sh dx dc kn dk d1 d2 kvc kv1 S) (_:Sg07.isEmpty (S c)=false) (_:zaO kv1 (ik c)=none) (_:∀H' kv1',Sb [d1,d2] H H'->ShAt A K H' sh dx dc kn dk d1 d2 kvc kv1' S->(zaO kv1' (ik c)).isSome=true->Q .non H')
theorem sc_work_out:zam ["self", "start", "path", "still_to_go", "cell", "other", "passed"] ["self", "start"] (zag zg3):=by walk_at "sc"
inductive WoR(A:Ad)(K:PySem.W.Frag)(H:Hp)(sh dx dc kn dk d1 d2 lt ds:Addr)(kvc kv1':List (Key×V))(S:Sg07.Sheet)(a c:Nat)(r:List Nat)(x5:Option V)(j:Nat)(σ:St)(H6:Hp):Prop
 | mk (_:Sb [d1,d2] H H6) (_:(∃kv6,ShAt A K H6 sh dx dc kn dk d1 d2 kvc kv6 S/\(∀x,zi2 kv1' x=true->zi2 kv6 x=true)/\∀x∈(c::r).reverse.take j,zi2 kv6 x=true)) (_:H6 lt=some (.lst (nl (c::r).reverse))) x6 (_:σ=[some (.ref sh),some (.int (a:Int)),some (.ref lt),some (.ref ds),some (.int (c:Int)),x5,x6])
inductive WoI(A:Ad)(K:PySem.W.Frag)(H:Hp)(sh dx dc kn dk d1 d2 lt ds:Addr)(kvc:List (Key×V))(S:Sg07.Sheet)(a:Nat)(m:Nat)(σ:St)(H':Hp):Prop
 | mk r L adr stn kv1' x4 x5 x6 (_:m=(1024 - stn.length)*204802+zgO L r+r.length) (_:Sb [d1,d2] H H') (_:ShAt A K H' sh dx dc kn dk d1 d2 kvc kv1' S) (_:WkAt H H' lt ds r stn L adr) (_:stn.Nodup) (_:(∀c∈stn,c<1024)) (_:(∀c∈stn,c∈r\/zi2 kv1' c=true)) (_:Pth S (zi2 kv1') L r none) (_:a∈stn) (_:σ=[some (.ref sh),some (.int (a:Int)),some (.ref lt),some (.ref ds),x4,x5,x6])
theorem m_work_out(T:Txt P w K mg A):CaM P w K mg base CX0 A.cSh "work_out" 7 ["self", "start"] (zjo A K):=by
 refine zbG T.m_work_out T.clcSh sc_work_out (fun _ _ _ _ h=>?_) fun f _ A' _ s H vs Q E hr h=>?_
 ·obtain⟨sh,dx,dc,kn,dk,d1,d2,kvc,kv1,S,c,rfl,_⟩:=h;rfl
 ·obtain⟨sh,dx,dc,kn,dk,d1,d2,kvc,kv1,S,a,rfl,N,hea,hka,q⟩:=h;have hB:=N.bnd;have lt_of:∀c,Sg07.isEmpty (S c)=false->c<1024:=fun c he=>by
   rcases N.cs.get c with⟨_,e⟩|⟨_,_,h,_⟩
   ·rw[e] at he;cases he
   ·exact h
  have dd:∀b∈[d1,d2],H b≠none:=fun b hb z=>by
   obtain⟨kv2,e2,_⟩:=N.k.r;rcases zAe hb with rfl | hb
   ·rw[N.k.c] at z;cases z
   ·rw[zAg hb,e2] at z;cases z
  refine⟨_,(zab (zas (i:=2) sc_work_out.nd rfl (Or.inl rfl) (zaJ (zaa (pv 1) zad))) (zab (zas (i:=3) sc_work_out.nd rfl (Or.inl rfl) (zlg (zjI (pv 1) (za9 (pv 0) (m_filled_needs T) hr zat (zaa (pv 1) zad)) zlb) rfl rfl (by simp) (by decide))) (zac (zcp PassesOwn.never (zcZ (pv 2) (fun _=>rfl)) (zab (zas (i:=4) sc_work_out.nd rfl (Or.inl rfl) (zau zaG (pv 2) (zcc zbz zah) (fun _ _=>rfl))) (zab (zaw (zbD (zcZ (zcB (zba hr) (pv 3) (pv 4) (fun _ _=>rfl)) (fun _=>rfl))) (zab (zcA (zba hr) (zaj (zaj (pv 0) rfl) rfl) (pv 4) (za9 (pv 0) (m_worth_from_needs T) hr zat (zaa (pv 4) zad)) rfl) (zab (zaE (zcq zAh zBn zBm zcs (pv 2))) (zac zfV))) zal) (zab (zas (i:=5) sc_work_out.nd rfl (Or.inl rfl) (zcq zAh zBn zBm zcs (zcB (zba hr) (pv 3) (pv 4) (fun _ _=>rfl)))) (zac (zaw (PW.pt (zcK (zbJ (zbY (zba hr) (pv 5) (zaj (zaj (pv 0) rfl) rfl))) (zcf (zbJ (zbY (zba hr) (pv 5) (pv 3)))))) (zab (zaE (zbx zAh zAs zAr zaU (pv 2) (zaa (pv 5) zad))) (zac (zcA (zba hr) (pv 3) (pv 5) (za9 (pv 0) (m_filled_needs T) hr zat (zaa (pv 5) zad)) rfl))) (zac (zaw (zak (znc hr.units) (zjK (zba hr) (zaj (zaj (pv 0) rfl) rfl) (pv 5) (zb2 T.gRING) ⟨rfl,rfl,rfl,rfl⟩) (zb2 T.gRING) (zao _)) (zab (zbX PassesOwn.never rfl (zbA (pv 2)) (za3 (i:=6) sc_work_out.nd rfl (Or.inl rfl)) (zac (zcA (zba hr) (zaj (zaj (pv 0) rfl) rfl) (pv 6) (zb2 T.gRING) rfl))) (zac zon)) zal))))))))))),?_⟩
  try dsimp only[zaI]
  walk_at "";refine⟨zar (by simp),fun lt hlt=>?_⟩;obtain⟨H1,e,s1,e1⟩:=zap hlt _;rw[<-e];clear e;walk_at "";intro ds hds;refine zhq rfl ?_;have hds':H ds=none:=Same.out s1 hds;have nld:lt≠ds:=zaf e1 hds;obtain⟨H2,e,s2,e2⟩:=zap hds _;rw[<-e];clear e;walk_at "";refine zay (N.same (s1.trans s2)).o rfl ?_;walk_at "";refine⟨sh,dx,dc,kn,dk,d1,d2,kvc,kv1,S,a,rfl,N.same (s1.trans s2),hea,fun l0 H3 ds0 s3 hl0 el0 hf0 hn0=>?_⟩;refine⟨s3 _ _ e2,[(ik a,.ref l0)],rfl,by show 1<=15;decide,?_⟩;have t3:=(s1.trans s2).trans s3;have em:zev [] [(ik a,V.ref l0)]=[(ik a,V.ref l0)]:=rfl;rw[em];have hl0':H l0=none:=Same.out (s1.trans s2) hl0;have nl0:l0≠lt:=(zaf (s2 _ _ e1) hl0).symm;have nl1:l0≠ds:=(zaf e2 hl0).symm;walk_at "";refine zhp (WoI A K H sh dx dc kn dk d1 d2 lt ds kvc S a) _
   ⟨[a],fun _=>ds0,fun _=>l0,[a],kv1,_,_,_,rfl,fun b o z nb=>by rw[zae (zaf z hds')];exact t3 _ _ z,zgX N hds' (N.same t3) (s3 _ _ e2) (fun z=>z),⟨by rw[zae nld];exact s3 _ _ (s2 _ _ e1),upd_same,fun c hc=>by rw[zae nl1];exact el0,fun c hc=>⟨hc,hl0',nl0⟩,fun x hx y hy _=>by rw[zAg hx,zAg hy]⟩,by simp,fun c hc=>by rw[zAg hc];exact lt_of a hea,fun c hc=>.inl hc,?_,by simp,rfl⟩ fun m σ H' hP=>?_
  ·refine⟨trivial,by simp,lt_of a hea,hea,by show(zaO kv1 (ik a)).isSome=false;rw[hka];rfl,fun d e=>(by cases e),fun d hd=>(hf0 d).mp hd,fun d hd e=>.inl ((hf0 d).mpr ⟨hd,e⟩)⟩
  obtain⟨r,L,adr,stn,kv1',x4,x5,x6,hm,sb',N',W,hnd,hlt4,hst,hp,has,rfl⟩:=hP;walk_at "";cases r with
  | nil =>
   refine⟨false,.inl ⟨[],SqL.of W.p,rfl⟩,?_⟩;refine itN zAc ?_;dsimp only;exact q H' kv1' sb' N' ((hst a has).resolve_left (by simp))
  | cons c r =>
   have C:=hp.2;have ep:H' lt=some (.lst (nl r.reverse++[.int (c:Int)])):=by rw[W.p,zBg,zbn];rfl
   have hcr:c∈c::r:=zAo;have hcs:=(W.q c hcr).1;have elc:=W.l c hcr;have nal:=(W.q c hcr).2.2;have ha0:=(W.q c hcr).2.1;have nad:adr c≠ds:=fun z=>by have:=W.s;rw[<-z,elc] at this;cases this
   have nr:∀x∈r,adr x≠adr c:=fun x hx z=>C.out (by rw[<-W.j x (zAd _ hx) c hcr z];exact hx);refine⟨true,.inl ⟨_,SqL.of ep,by simp⟩,?_⟩;refine itP rfl ?_;refine whB ?_;walk_at "";refine zaQ (SqL.of ep) (zbq _ _) ?_;walk_at "";refine⟨ds,_,rfl,by rw[<-zkh adr c stn hcs];exact zbc (k:=ik c) (.inl W.s),?_⟩;rcases zDv (L c) with hl|⟨l,d,hl⟩
   ·
    rw[hl] at elc;obtain⟨hv,ew,hkn⟩:=hp.top hB hl;refine⟨false,.inl ⟨[],SqL.of elc,rfl⟩,?_⟩;refine itP rfl ?_;walk_at "";refine zay N'.o rfl ?_;walk_at "";refine⟨sh,dx,dc,kn,dk,d1,d2,kvc,kv1',S,c,rfl,N',C.ne,fun e he hn=>hkn e he hn,fun v H4 sb4 N4 W4=>?_⟩;rw[ew] at W4;have sb4':Sb [d1,d2] H' H4:=fun b o z nb=>sb4 b o z fun hm=>nb (zAd _ hm);walk_at "";refine zf1 T N4.o ?_;refine zek T N4.k.o ?_;walk_at "";refine zcF (k:=ik c) N4.k.c (by have:=N4.k.cs.len;rw[sizeLine_eq];omega) ?_;have N5:=zmO N4 W4 C.lt C.ne;obtain⟨H5,e,s5,e5⟩:=zqF (H:=H4) (l:=d1) (.dK (zbk kv1' (ik c) v));rw[<-e] at N5 ⊢;clear e;have sb5:Sb [d1,d2] H' H5:=sb4'.trans fun b o z nb=>s5 b o z fun hm=>nb (by simp_all);have W5:=W.sb dd hlt hds' sb5;have ep5:H5 lt=some (.lst (nl r.reverse++[.int (c:Int)])):=by rw[W5.p,zBg,zbn];rfl
    walk_at "";refine za1 (SqL.of ep5) ?_;refine zdL ep5 ?_;walk_at "";refine⟨(1024 - stn.length)*204802+zgO L r+r.length,by rw[hm,sumL_cons,zAb];omega,r,L,adr,stn,_,_,_,_,rfl,fun b o z nb=>?_,zgX N hlt N5 ep5 (fun z=>z),⟨upd_same,by rw[zae nld.symm];exact W5.s,fun x hx=>?_,fun x hx=>W.q x (zAd _ hx),fun x hx y hy=>W.j x (zAd _ hx) y (zAd _ hy)⟩,hnd,hlt4,fun x hx=>?_,hp.pop ⟨_,hv⟩ (zi1 kv1' c v),has,rfl⟩
    ·rw[zae (zaf z hlt)];exact sb5 _ _ (sb' _ _ z nb) nb
    ·rw[zae (W.q x (zAd _ hx)).2.2];exact W5.l x (zAd _ hx)
    ·rw[zi1];rcases hst x hx with h | h
     ·rcases zAe h with rfl | h
      ·exact .inr (by simp)
      ·exact .inl h
     ·exact .inr (by rw[h];rfl)
   ·
    rw[zDw] at hl;have elc':H' (adr c)=some (.lst (nl l++[.int (d:Int)])):=by rw[elc,hl,zbn];rfl
    obtain⟨hdn,hde⟩:=C.lf d (by rw[hl];simp);have hdl:=lt_of d hde;refine⟨true,.inl ⟨_,SqL.of elc',by simp⟩,?_⟩;refine itN (by simp) ?_;walk_at "";refine⟨ds,_,rfl,by rw[<-zkh adr c stn hcs];exact zbc (k:=ik c) (.inl W.s),?_⟩;walk_at "";refine za1 (SqL.of elc') ?_;refine zdL elc' ?_;have N5:ShAt A K (upd H' (adr c) (.lst (nl l))) sh dx dc kn dk d1 d2 kvc kv1' S:=zgX N ha0 N' elc' (fun z=>z);have sb5:Sb [d1,d2] H (upd H' (adr c) (.lst (nl l))):=fun b o z nb=>by rw[zae (zaf z ha0)];exact sb' _ _ z nb
    have W5:WkAt H (upd H' (adr c) (.lst (nl l))) lt ds (c::r) stn (zcY L c l) adr:=⟨by rw[zae nal.symm];exact W.p,by rw[zae nad.symm];exact W.s,fun x hx=>by
     rcases zAe hx with rfl | hx
     ·rw[upd_same,setL_at]
     ·rw[zae (nr x hx),zdU fun e=>C.out (by rw[<-e];exact hx)];exact W.l x (zAd _ hx),W.q,W.j⟩
    have hsum:zgO (zcY L c l) (c::r)+1=zgO L (c::r):=by
     rw[sumL_cons,sumL_cons,zgN (L':=zcY L c l) (L:=L) fun x hx=>zdU fun e=>C.out (by rw[<-e];exact hx),hl,zAa,setL_at,zAt];omega
    generalize upd H' (adr c) (.lst (nl l))=H5 at *;walk_at "";refine zf1 T N5.o ?_;refine zek T N5.k.o ?_;refine⟨d1,_,rfl,zbc (k:=ik d) (.inl N5.k.c),?_⟩;walk_at "";have ring:∀(Dn:zdc) (x5 x6:Option V),Dn.rt=Q->(∀p∈c::r,wS S p=.error 1)->zgL (zkf (zls K (zaX 2)) (zf2 6) (zmX (zcJ K (zcJ K (zaX 0) "known") "cells") (zaX 6) (tC (.ref A.tRing)))) zmx Dn [some (.ref sh),some (.int (a:Int)),some (.ref lt),some (.ref ds),some (.int (c:Int)),x5,x6] H5:=fun Dn x5 x6 hD hr1=>by
     walk_at "";refine⟨lt,rfl,⟨_,SqL.of W5.p⟩,zbP (xs:=nl (c::r).reverse) (WoR A K H sh dx dc kn dk d1 d2 lt ds kvc kv1' S a c r x5)
      ⟨sb5,⟨kv1',N5,fun x h=>h,fun x hx=>(by simp at hx)⟩,W5.p,_,rfl⟩ (fun j σ H6 _ hP=>SqL.of hP.3) (fun j y σ H6 hy hP=>?_) (fun σ H6 hP=>?_)⟩
     ·obtain⟨sb6,⟨kv6,N6,hk1,hk2⟩,ep6,x6,rfl⟩:=hP;have hy2:∃n:Nat,(c::r).reverse[j]?=some n/\y=.int (n:Int):=by
       unfold nl at hy;rw[zBl] at hy;obtain⟨n,hn,rfl⟩:=Option.map_eq_some_iff.mp hy;exact⟨n,hn,rfl⟩
      obtain⟨n,hn,rfl⟩:=hy2;have hnr:n∈c::r:=List.mem_reverse.mp (zBs hn);obtain⟨_,hn1,hn2⟩:=hp.un n hnr;have Wn:WAt K H6 (.ref A.tRing) (wS S n):=by rw[hr1 n hnr];exact⟨⟨A.tRing,rfl,T.tRing.sq H6⟩,Nat.one_pos⟩
      walk_at "";refine zf1 T N6.o ?_;refine zek T N6.k.o ?_;walk_at "";refine zcF (k:=ik n) N6.k.c (by have:=N6.k.cs.len;rw[sizeLine_eq];omega) ?_;refine⟨fun b o z nb=>?_,⟨_,zmO N6 Wn hn1 hn2,fun x h=>by rw[zi1,hk1 x h];rfl,fun x hx=>?_⟩,by rw[zae (zaf N.k.c hlt).symm];exact ep6,_,rfl⟩
      ·rw[zae fun e=>nb (by rw[e];simp)];exact sb6 _ _ z nb
      ·rw[zi1];rw[zAu,hn] at hx;rcases zAw hx with hx | hx
       ·rw[hk2 x hx];rfl
       ·rw[zBh (by simpa using hx),Bool.or_true]
     ·obtain⟨sb6,⟨kv6,N6,hk1,hk2⟩,ep6,x6,rfl⟩:=hP;rw[nl_length,zBf] at hk2;walk_at "";rw[hD];refine q H6 kv6 sb6 N6 ?_;rcases hst a has with h | h
      ·exact hk2 a (List.mem_reverse.mpr h)
      ·exact hk1 a h
    cases hk:zaO kv1' (ik d) with
    | some v =>
     refine itN (by simp) ?_;refine itN (by simp) ?_;walk_at "";refine zf1 T N5.o ?_;refine zek T N5.k.o ?_;refine⟨d1,rfl,.inl ⟨kv1',.inl N5.k.c⟩,?_⟩;walk_at "";refine⟨_,zbc (k:=ik d) (.inl N5.k.c),?_⟩;rw[hk];obtain⟨_,Wd⟩:=zgC N5.k hk;obtain⟨b,rfl,hb⟩:=Wd.ex;have edw:wS S d=Sg07.worthOf S d:=by unfold wS;rw[hde];rfl
     rw[zqX] at hb;refine i_c ?_;refine zpr (ms:=[1,0]) hb (T.tRing.sq H5) ?_;walk_at "";by_cases h1:wS S d=.error 1
     ·refine itP (by rw[zBh ((zkW _).mpr h1)]) ?_;exact ring _ _ _ rfl (hp.ring hB hdn (.inl ⟨hdl,by rw[<-edw];exact h1⟩))
     ·refine itN (by rw[zBq (fun z=>h1 ((zkW _).mp z))];decide) ?_;walk_at "";have hv:∃x,Val S d x:=(zpC hB hdl).resolve_right (by rw[<-edw];exact h1);exact⟨_,by rw[hm,<-hsum];exact zAq (zCo _) (by omega),c::r,zcY L c l,adr,stn,kv1',_,_,_,rfl,sb5,N5,W5,hnd,hlt4,hst,hp.take hl (.inl ⟨by show(zaO kv1' (ik d)).isSome=true;rw[hk];rfl,hv⟩) (fun e z=>(by cases z)),has,rfl⟩
    | none =>
     refine itP rfl ?_;walk_at "";refine⟨ds,_,rfl,zbc (k:=ik d) (.inl W5.s),?_⟩;walk_at "";rw[ze2 (zmH adr stn) d];have hkd:zi2 kv1' d=false:=by show(zaO kv1' (ik d)).isSome=false;rw[hk];rfl
     by_cases hin:d∈stn
     ·refine itN (by rw[zBh hin];decide) ?_;walk_at "";refine zf1 T N5.o ?_;refine zek T N5.k.o ?_;refine⟨d1,rfl,.inl ⟨kv1',.inl N5.k.c⟩,?_⟩;walk_at "";refine⟨_,zbc (k:=ik d) (.inl N5.k.c),?_⟩;rw[hk];refine i_c ?_;refine zpr (ns:=[1,0]) (ms:=[1,0]) (T.tRing.sq H5) (T.tRing.sq H5) ?_;walk_at "";refine itP rfl ?_;exact ring _ _ _ rfl (hp.ring hB hdn (.inr ((hst d hin).resolve_right (by rw[hkd];decide))))
     ·refine itP (by rw[zBq hin];rfl) ?_;have hdr:d∉c::r:=fun z=>hin (W.q d z).1;have hpt:=hp.take (o:=some d) hl (.inr rfl) (fun e z=>(by cases z;rfl));have hlen:stn.length+1<=1024:=by
       have:=zc1 1024 (d::stn) (List.nodup_cons.mpr ⟨hin,hnd⟩) fun x hx=>by
        rcases zAe hx with rfl | hx
        ·exact hdl
        ·exact hlt4 x hx
       rw[zAb] at this;exact this
      walk_at "";refine za1 (SqL.of W5.p) ?_;have hrl:(c::r).length<=1024:=zc1 1024 _ hp.nd fun x hx=>(hp.un x hx).2.1;walk_at "";refine zaP W5.p (by rw[nl_length,zCf,sizeLine_eq];omega) ?_;have N6:ShAt A K (upd H5 lt (.lst (nl (c::r).reverse++[.int (d:Int)]))) sh dx dc kn dk d1 d2 kvc kv1' S:=zgX N hlt N5 W5.p (fun z=>z);have ep6:upd H5 lt (.lst (nl (c::r).reverse++[.int (d:Int)])) lt=some (.lst (nl (d::c::r).reverse)):=by rw[upd_same,zBg (a:=d),zbn];rfl
      have kp6:∀b,b≠lt->upd H5 lt (.lst (nl (c::r).reverse++[.int (d:Int)])) b=H5 b:=fun b n=>zae n;generalize upd H5 lt (.lst (nl (c::r).reverse++[.int (d:Int)]))=H6 at *;walk_at "";refine zay N6.o rfl ?_;walk_at "";refine⟨sh,dx,dc,kn,dk,d1,d2,kvc,kv1',S,d,rfl,N6,hde,fun l1 H7 ds1 s7 hl1 el1 hf1 hn1=>?_⟩;walk_at "";have es7:H7 ds=some (.dK (stn.map fun c=>(ik c,.ref (adr c)))):=s7 _ _ (by rw[kp6 _ nld.symm];exact W5.s);refine zcF (k:=ik d) es7 (by rw[zAp,sizeLine_eq];omega) ?_;rw[zpN adr l1 hin];have hl1':H l1=none:=by
       cases zz:H l1 with
       | none=>rfl
       | some o =>
        have n1:l1≠lt:=zaf zz hlt;by_cases m1:l1∈[d1,d2]
        ·obtain⟨kv2,e2,_⟩:=N6.k.r;rcases zAe m1 with rfl | m1
         ·rw[N6.k.c] at hl1;cases hl1
         ·rw[zAg m1,e2] at hl1;cases hl1
        ·have:=sb5 _ _ zz m1;rw[<-kp6 _ n1,hl1] at this;cases this
      have nl1:l1≠lt:=(zaf ep6 hl1).symm;have nl2:l1≠ds:=fun z=>by have:=W5.s;rw[<-kp6 _ nld.symm,<-z,hl1] at this;cases this
      have sb8:Sb [d1,d2] H (upd H7 ds (.dK ((stn++[d]).map fun c=>((ik c,.ref (if c=d then l1 else adr c)):Key×V)))):=fun b o z nb=>by
       rw[zae (zaf z hds')];exact s7 _ _ (by rw[kp6 _ (zaf z hlt)];exact sb5 _ _ z nb)
      refine⟨(1024 - (stn++[d]).length)*204802+zgO (zcY (zcY L c l) d ds1) (d::c::r)+(d::c::r).length,?_,d::c::r,zcY (zcY L c l) d ds1,fun x=>if x=d then l1 else adr x,stn++[d],kv1',_,_,_,rfl,sb8,zgX N hds' (N6.same s7) es7 (fun z=>z),⟨by rw[zae nld];exact s7 _ _ ep6,upd_same,fun x hx=>?_,fun x hx=>?_,fun x hx y hy e=>?_⟩,?_,fun x hx=>?_,fun x hx=>?_,hpt.push hdr hdl hde hkd hf1,zAj _ has,rfl⟩
      ·rw[hm,<-hsum,zAa,zAt,sumL_cons (zcY (zcY L c l) d ds1),setL_at,zgN (L':=zcY (zcY L c l) d ds1) (L:=zcY L c l) fun x hx=>zdU fun e=>hdr (by rw[<-e];exact hx),zAb (a:=d)];omega
      ·by_cases ex:x=d
       ·subst ex;rw[if_pos rfl,zae nl2,setL_at];exact el1
       ·have hx:=(zAe hx).resolve_left ex;have q5:=W.q x hx;have n2:adr x≠ds:=fun z=>by have:=W5.s;rw[<-z,W5.l x hx] at this;cases this
        rw[if_neg ex,zae n2,zdU ex];exact s7 _ _ (by rw[kp6 _ q5.2.2];exact W5.l x hx)
      ·by_cases ex:x=d
       ·subst ex;rw[if_pos rfl];exact⟨by simp,hl1',nl1⟩
       ·have hx:=(zAe hx).resolve_left ex;rw[if_neg ex];exact⟨zAj _ (W.q x hx).1,(W.q x hx).2⟩
      ·have fr:∀x∈c::r,adr x≠l1:=fun x hx z=>by
        have:=W5.l x hx;rw[<-kp6 _ (W.q x hx).2.2,z,hl1] at this;cases this
       by_cases ex:x=d
       ·by_cases ey:y=d
        ·rw[ex,ey]
        ·rw[if_pos ex,if_neg ey] at e;exact absurd e.symm (fr y ((zAe hy).resolve_left ey))
       ·by_cases ey:y=d
        ·rw[if_neg ex,if_pos ey] at e;exact absurd e (fr x ((zAe hx).resolve_left ex))
        ·rw[if_neg ex,if_neg ey] at e;exact W.j x ((zAe hx).resolve_left ex) y ((zAe hy).resolve_left ey) e
      ·exact List.nodup_append.mpr ⟨hnd,by simp,fun x hx y hy z=>hin (by rw[<-zAg hy,<-z];exact hx)⟩
      ·rcases zAw hx with hx | hx
       ·exact hlt4 x hx
       ·rw[zAg hx];exact hdl
      ·rcases zAw hx with hx | hx
       ·exact(hst x hx).imp (zAd _) id
       ·rw[zAg hx];exact .inl zAo
end
section
variable{P:Program}{w:World}{K:PySem.W.Frag}{mg:Str->Option Value}{base:Heap}{A:Ad}
def zoI:List Int->Int
 | 1::_::k::_=>3+k
 | 2::_=>2
 | _=>3
theorem zlv{l r:List Int}{p:Nat}{x:Int}(h:l.drop p=x::r):(l.map V.int)[p]?=some (.int x):=by
 rw[zBl,<-List.head?_drop,h];rfl
inductive zeL(K:PySem.W.Frag)(vs:List V)(H:Hp)(Q:VK)(E:XK):Prop
 | mk lc (l:List Int) (p:Nat) x r (_:vs=[.ref lc,.int (p:Int)]) (_:SqL K H lc (l.map V.int)) (_:l.drop p=x::r) (_:(x=1->∃y k s,r=y::k::s)) (_:Q (.int (zoI (x::r))) H)
theorem zeN:zam ["calls", "place"] ["calls", "place"] (zag zcQ):=by walk_at "sc"
theorem zfH(T:Txt P w K mg A):Cal P w K mg base CX0 "length_of_call" 1 ["calls", "place"] (zeL K):=by
 refine zaV T.d_length_of_call zeN (fun _ _ _ _ h=>?_) fun f _ A' _ s H vs Q E hr h=>?_
 ·obtain⟨lc,l,p,x,r,rfl,_⟩:=h;rfl
 ·obtain⟨lc,l,p,x,r,rfl,hs,hd,h1,q⟩:=h;have e0:=zlv hd;refine⟨_,(zab (zaw (zak zaK (zau zaG (pv 0) (pv 1) (fun _ _=>rfl)) (zan T.gSET) (zao _)) (zac (zai (zaD zbf zah (zau zaG (pv 0) (zaD zbf (pv 1) zah) (fun _ _=>rfl))))) zal) (zab (zaw (zak zaK (zau zaG (pv 0) (pv 1) (fun _ _=>rfl)) (zan T.gGET) (zao _)) (zac (zai zah)) zal) (zac (zai zah)))),?_⟩
  try dsimp only[zaI]
  walk_at "";refine zaQ hs (zdb e0) ?_;walk_at "";by_cases hx:x=1
  ·subst hx;obtain⟨y,k,s,rfl⟩:=h1 rfl;refine itP rfl ?_;walk_at "";have e2:(l.map V.int)[p+2]?=some (.int k):=by
    refine zlv (r:=s) ?_;rw[<-zCy,hd];rfl
   have ep:(p:Int)+2=((p+2:Nat):Int):=by omega
   rw[ep];refine zaQ hs (zdb e2) ?_;walk_at "";exact q
  ·refine itN (fun z=>hx (by have:=zAf z;injection this)) ?_;walk_at "";refine zaQ hs (zdb e0) ?_;walk_at "";by_cases hx2:x=2
   ·subst hx2;refine itP rfl ?_;walk_at "";exact q
   ·refine itN (fun z=>hx2 (by have:=zAf z;injection this)) ?_;walk_at "";have:zoI (x::r)=3:=by
     unfold zoI;split
     ·rename_i e;injection e with e1 _;exact absurd e1 hx
     ·rename_i e;injection e with e1 _;exact absurd e1 hx2
     ·rfl
    rw[this] at q;exact q
end
section
variable{P:Program}{w:World}{K:PySem.W.Frag}{mg:Str->Option Value}{base:Heap}{A:Ad}
inductive zjs(A:Ad)(K:PySem.W.Frag)(vs:List V)(H:Hp)(Q:VK)(E:XK):Prop
 | mk sh dx dc kn dk d1 d2 kvc kv1 S z (_:vs=[.ref sh,.int z]) (_:ShAt A K H sh dx dc kn dk d1 d2 kvc kv1 S) (_:zmj A K H sh dx dc d1 d2 (Sg07.does S (.get z)) Q)
theorem sc_get_cell:zam ["self", "cell", "worth"] ["self", "cell"] (zag zg7):=by walk_at "sc"
theorem m_get_cell(T:Txt P w K mg A):CaM P w K mg base CX0 A.cSh "get_cell" 8 ["self", "cell"] (zjs A K):=by
 refine zbG T.m_get_cell T.clcSh sc_get_cell (fun _ _ _ _ h=>?_) fun f _ A' _ s H vs Q E hr h=>?_
 ·obtain⟨sh,dx,dc,kn,dk,d1,d2,kvc,kv1,S,z,rfl,_⟩:=h;rfl
 ·obtain⟨sh,dx,dc,kn,dk,d1,d2,kvc,kv1,S,z,rfl,N,q⟩:=h;refine⟨_,(zab (zaw (zbD (za0 (zav (zb0 T) hr zat (zaa (pv 1) zad)))) (zac (zai (zaJ (zaa (zan T.gREFUSED) zad)))) zal) (zab (zaw (zbJ (zbY (zba hr) (pv 1) (zaj (pv 0) rfl))) (zac (zai (zaJ (zaa (zan T.gEMPTY) zad)))) zal) (zab (zaw (zbJ (zbY (zba hr) (pv 1) (zaj (zaj (pv 0) rfl) rfl))) (zac (zaE (za9 (pv 0) (m_work_out T) hr zat (zaa (pv 1) zad)))) zal) (zab (zas (i:=2) sc_get_cell.nd rfl (Or.inl rfl) (zcB (zba hr) (zaj (zaj (pv 0) rfl) rfl) (pv 1) (fun _ _=>rfl))) (zac (zai (zbL (zak zaK (zau zax (pv 2) zah (fun _ _=>rfl)) zah (zao _)) (zaJ (zaa zah (zaa (zau zax (pv 2) zah (fun _ _=>rfl)) zad))) (zaJ (zaa (zau zax (pv 2) zah (fun _ _=>rfl)) zad))))))))),?_⟩
  try dsimp only[zaI]
  walk_at "";refine⟨z,rfl,?_⟩;walk_at "";cases hok:Sg07.ok z with
  | false =>
   refine itP rfl ?_;walk_at "";refine⟨by decide,fun l hl=>?_⟩;have s1:=zaN (o:=.lst [.int (-5000)]) hl;refine q l _ kn dk d1 d2 kvc kv1 (Sb.of s1) hl (N.same s1) ?_;unfold Sg07.does;dsimp only;rw[if_pos hok,upd_same];rfl
  | true =>
   refine itN (by decide) ?_;obtain⟨c,rfl,hc,ec⟩:=zeu hok;walk_at "";refine zdi T N.o ?_;refine⟨dc,_,rfl,zbc (k:=ik c) (.inl N.c),?_⟩;walk_at "";rcases N.cs.get c with⟨hv0,e0⟩|⟨v0,hv0,_,he0,_⟩
   ·rw[show zaO kvc (ik c)=none from hv0];refine itP rfl ?_;walk_at "";refine⟨by decide,fun l hl=>?_⟩;have s1:=zaN (o:=.lst [.int 4]) hl;refine q l _ kn dk d1 d2 kvc kv1 (Sb.of s1) hl (N.same s1) ?_;unfold Sg07.does;dsimp only;rw[if_neg (by rw[hok];simp),zBu,if_pos (by rw[e0];rfl),upd_same];rfl
   ·rw[show zaO kvc (ik c)=some v0 from hv0];refine itN (by simp) ?_;have fin:∀(H1:Hp) (kv1':List (Key×V)),Sb [d1,d2] H H1->ShAt A K H1 sh dx dc kn dk d1 d2 kvc kv1' S->(zaO kv1' (ik c)).isSome=true->zgL (zkg (zkZ (zcJ K (zcJ K (zaX 0) "known") "cells") (zaX 1)) (zf2 2)) (zjl (tIf (zkX (tOp rEq (tOp (zlX K) (zaX 2) (tC (.int 0))) (tC (.int 0)))) (zlL (za2 (tC (.int 0)) (za2 (tOp (zlX K) (zaX 2) (tC (.int 1))) zbT))) (zlL (za2 (tOp (zlX K) (zaX 2) (tC (.int 0))) zbT)))) {nx:=fun _ H'=>Q .non H',rt:=Q} [some (.ref sh),some (.int (c:Int)),none] H1:=fun H1 kv1' sb1 N1 hs=>by
     obtain⟨v,hv⟩:=Option.isSome_iff_exists.mp hs;obtain⟨_,W⟩:=zgC N1.k hv;obtain⟨a,rfl,ha⟩:=W.ex;walk_at "";refine zf1 T N1.o ?_;refine zek T N1.k.o ?_;walk_at "";refine⟨d1,_,rfl,by rw[<-hv];exact zbc (k:=ik c) (.inl N1.k.c),?_⟩;have ew:wS S c=Sg07.worthOf S c:=by unfold wS;rw[he0];rfl
     have ed:Sg07.does S (.get (c:Int))=(match Sg07.worthOf S c with|.ok z=>⟨0,[z]⟩|.error e=>Sg07.says (e:Int),S):=by
      unfold Sg07.does;dsimp only;rw[if_neg (by rw[hok];simp),zBu,if_neg (by rw[he0];simp)];cases Sg07.worthOf S c<;>rfl
     rw[ed] at q;have hok':=W.ok;rw[ew] at ha hok';have sbA:Sb [sh,dc,d1,d2] H H1:=fun b o z nb=>sb1 b o z (fun hm=>nb (by simp at hm ⊢;rcases hm with h | h<;>simp[h]));have out:∀l,H1 l=none->H l=none:=fun l hl=>by
      cases zz:H l with
      | none=>rfl
      | some o =>
       have h2:∃o',H1 l=some o':=by
        by_cases e1:l=d1
        ·exact⟨_,by rw[e1];exact N1.k.c⟩
        ·by_cases e2:l=d2
         ·obtain⟨kv2,er,_⟩:=N1.k.r;exact⟨_,by rw[e2];exact er⟩
         ·exact⟨_,sb1 _ _ zz (by simp[e1,e2])⟩
       obtain⟨o',h2⟩:=h2;rw[hl] at h2;cases h2
     walk_at "";cases hw:Sg07.worthOf S c with
     | ok z =>
      rw[hw] at ha q;refine zaq ha rfl ?_;walk_at "on";walk_at "";refine zaq ha (i:=1) (v:=.int z) rfl ?_;walk_at "";refine⟨zar (by simp),fun l hl=>?_⟩;obtain⟨H2,e,s2,e2⟩:=zap hl _;rw[<-e];clear e;exact q l H2 kn dk d1 d2 kvc kv1' (sbA.trans (Sb.of s2)) (out l hl) (N1.same s2) e2
     | error e =>
      rw[hw] at ha q hok';refine zaq ha rfl ?_;walk_at "";refine itN (fun z=>by have:=zfD (e:=e) hok';rw[z] at this;cases this) ?_;walk_at "";refine zaq ha (i:=0) (v:=.int ((e:Nat):Int)) rfl ?_;walk_at "";refine⟨zar (by simp),fun l hl=>?_⟩;obtain⟨H2,e',s2,e2⟩:=zap hl _;rw[<-e'];clear e';exact q l H2 kn dk d1 d2 kvc kv1' (sbA.trans (Sb.of s2)) (out l hl) (N1.same s2) e2
    walk_at "";refine zf1 T N.o ?_;refine zek T N.k.o ?_;refine⟨d1,_,rfl,zbc (k:=ik c) (.inl N.k.c),?_⟩;walk_at "";cases hk:zaO kv1 (ik c) with
    | some u =>
     refine itN (by simp) ?_;exact fin H kv1 (Sb.refl _ _) N (by rw[hk];rfl)
    | none =>
     refine itP rfl ?_;walk_at "";refine zay N.o rfl ?_;walk_at "";exact⟨sh,dx,dc,kn,dk,d1,d2,kvc,kv1,S,c,rfl,N,he0,hk,fun H1 kv1' sb1 N1 hs=>fin H1 kv1' sb1 N1 hs⟩
end
section
variable{P:Program}{w:World}{K:PySem.W.Frag}{mg:Str->Option Value}{base:Heap}{A:Ad}
theorem zqg{n:Nat}{C:Addr}{tb:XK->TS}{th:TS}{D:zdc}{σ:St}{H:Hp}(h:tb (znK n C th D.rt) D σ H):zpe n C tb th D σ H:=h
inductive ziH(A:Ad)(K:PySem.W.Frag)(vs:List V)(H:Hp)(Q:VK)(E:XK):Prop
 | mk sh dx dc kn dk d1 d2 kvc kv1 S z m (_:vs=[.ref sh,.int z,.int m]) (_:ShAt A K H sh dx dc kn dk d1 d2 kvc kv1 S) (_:zmj A K H sh dx dc d1 d2 (Sg07.does S (.copy z m)) Q)
theorem sc_copy_cell:zam ["self", "source", "goal", "content", "right", "down"] ["self", "source", "goal"] (zag zfR):=by walk_at "sc"
theorem m_copy_cell(T:Txt P w K mg A):CaM P w K mg base CX0 A.cSh "copy_cell" 6 ["self", "source", "goal"] (ziH A K):=by
 refine zbG T.m_copy_cell T.clcSh sc_copy_cell (fun _ _ _ _ h=>?_) fun f _ A' _ s H vs Q E hr h=>?_
 ·obtain⟨sh,dx,dc,kn,dk,d1,d2,kvc,kv1,S,z,m,rfl,_⟩:=h;rfl
 ·obtain⟨sh,dx,dc,kn,dk,d1,d2,kvc,kv1,S,z,m,rfl,N,q⟩:=h;have wrong:(Sg07.ok z=false\/Sg07.ok m=false)->(1<=sizeLine/\∀l,H l=none->Q (.ref l) (upd H l (.lst [.int (-5000)]))):=fun hb=>by
   refine⟨by decide,fun l hl=>?_⟩;have s1:=zaN (o:=.lst [.int (-5000)]) hl;unfold Sg07.does at q;dsimp only at q;rw[if_pos hb] at q;exact q l _ kn dk d1 d2 kvc kv1 (Sb.of s1) hl (N.same s1) upd_same
  refine⟨_,(zab (zaw (PW.pt (zcz (zbD (za0 (zav (zb0 T) hr zat (zaa (pv 1) zad)))) (zbV (zbD (za0 (zav (zb0 T) hr zat (zaa (pv 2) zad))))))) (zac (zai (zaJ (zaa (zan T.gREFUSED) zad)))) zal) (zab (zas (i:=3) sc_copy_cell.nd rfl (Or.inl rfl) (zjL (zba hr) (zaj (pv 0) rfl) (pv 1) ⟨rfl,rfl,rfl,rfl⟩)) (zab (zaw (za0 (zeY T.bisinstance (pv 3) T.gFormula)) (zab (zas (i:=4) sc_copy_cell.nd rfl (Or.inl rfl) (zaD zca (zaD zm_ (pv 2) (zan T.gCOLUMNS)) (zaD zm_ (pv 1) (zan T.gCOLUMNS)))) (zab (zas (i:=5) sc_copy_cell.nd rfl (Or.inl rfl) (zaD zca (zaD zlh (pv 2) (zan T.gCOLUMNS)) (zaD zlh (pv 1) (zan T.gCOLUMNS)))) (zac (zom T.xcOf rfl T.gOffSheet rfl rfl rfl (fun xe pn E hp=>zac (zas (i:=3) sc_copy_cell.nd rfl (Or.inl rfl) (zav (zgv T) hr hp (zaa (pv 3) (zaa (pv 4) (zaa (pv 5) zad)))))) (fun e pn=>zac (zai (zaJ (zaa (zan T.gLEFT_SHEET) zad)))))))) zal) (zab (zaE (za9 (pv 0) (m_put T) hr zat (zaa (pv 2) (zaa (pv 3) zad)))) (zac (zai (zaJ (zaa zah zad)))))))),?_⟩
  try dsimp only[zaI]
  walk_at "";refine⟨z,rfl,?_⟩;walk_at "";cases hok:Sg07.ok z with
  | false =>
   refine itP rfl ?_;refine itP rfl ?_;walk_at "";exact wrong (.inl hok)
  | true =>
   refine itN (by decide) ?_;walk_at "";refine⟨m,rfl,?_⟩;walk_at "";cases hok2:Sg07.ok m with
   | false =>
    refine itP rfl ?_;walk_at "";exact wrong (.inr hok2)
   | true =>
    refine itN (by decide) ?_;obtain⟨c,rfl,hc,ecn⟩:=zeu hok;obtain⟨g,rfl,hg,egn⟩:=zeu hok2;have ed:Sg07.does S (.copy (c:Int) (g:Int))=match Sg07.copied c g (S c) with
      | some x=>(Sg07.says 0,Sg07.put S g x)
      | none=>(Sg07.says (-1),S):=by
     unfold Sg07.does;dsimp only;rw[if_neg (by rw[hok,hok2];simp),zBu,zBu];rfl
    rw[ed] at q;walk_at "";refine zdi T N.o ?_;refine⟨dc,rfl,.inl ⟨kvc,.inl N.c⟩,?_⟩;walk_at "";refine⟨_,zbc (k:=.inl (c:Int)) (.inl N.c),?_⟩;obtain⟨v,ev,C⟩:=zlB N.cs c;rw[ev];walk_at "";refine zim T C ?_;have done:∀(v:V) (x:Sg07.Cell) (H1:Hp) (x4 x5:Option V),Sg07.copied c g (S c)=some x->Same H H1->CtAt A H1 v x->zgL (zgM (zlM A.cSh "put" (zkk A K) E0 (zaX 0) (za2 (zaX 2) (za2 (zaX 3) zbT)))) (zjl (zlL (za2 (tC (.int 0)) zbT))) {nx:=fun _ H'=>Q .non H',rt:=Q} [some (.ref sh),some (.int (c:Int)),some (.int (g:Int)),some v,x4,x5] H1:=fun v x H1 x4 x5 ex s1 C=>by
     rw[ex] at q;have N1:=N.same s1;walk_at "";refine zay N1.o rfl ?_;walk_at "";refine⟨sh,dx,dc,kn,dk,d1,d2,kvc,kv1,S,g,v,x,rfl,N1,hg,C,fun H2 kn' dk' d1' d2' kvc' k2 N2 sb2=>?_⟩;walk_at "";refine⟨by decide,fun l hl=>?_⟩;obtain⟨H3,e,s3,e3⟩:=zap hl _;rw[<-e];clear e;have sbA:Sb [sh,dc,d1,d2] H H2:=fun b o z nb=>sb2 _ _ (s1 _ _ z) fun hm=>nb (by
      rcases zAe hm with rfl | hm
      ·simp
      ·rw[zAg hm];simp)
     have nl0:H l=none:=by
      cases zz:H l with
      | none=>rfl
      | some o =>
       have h2:∃o',H2 l=some o':=by
        by_cases e1:l=sh
        ·exact⟨_,by rw[e1];exact N2.o⟩
        ·by_cases e2:l=dc
         ·exact⟨_,by rw[e2];exact N2.c⟩
         ·exact⟨_,sb2 _ _ (s1 _ _ zz) (by simp[e1,e2])⟩
       obtain⟨o',h2⟩:=h2;rw[hl] at h2;cases h2
     exact q l H3 kn' dk' d1' d2' kvc' [] (sbA.trans (Sb.of s3)) nl0 (N2.same s3) e3
    walk_at "";cases es:S c with
    | empty =>
     rw[es] at C;refine itN zAc ?_;exact done v .empty H none none (by rw[es];rfl) (Same.refl H) C
    | num n =>
     rw[es] at C;refine itN zAc ?_;exact done v (.num n) H none none (by rw[es];rfl) (Same.refl H) C
    | formula ex =>
     rw[es] at C;refine itP rfl ?_;walk_at "";refine zhr (by decide) ?_;walk_at "";refine zhr (by decide) ?_;walk_at "";refine zhr (by constructor<;>decide) ?_;walk_at "";refine zhr (by constructor<;>decide) ?_;walk_at "";dsimp only;refine zqg ?_;walk_at "";have e1:((g:Int) % 16 - (c:Int) % 16)=((g % Sg07.COLUMNS:Nat) - (c % Sg07.COLUMNS:Nat):Int):=by unfold Sg07.COLUMNS;omega
     have e2:((g:Int) / 16 - (c:Int) / 16)=((g / Sg07.COLUMNS:Nat) - (c / Sg07.COLUMNS:Nat):Int):=by unfold Sg07.COLUMNS;omega
     refine⟨v,comp ex,_,_,rfl,C,?_⟩;rw[e1,e2,mv_expr];have ecp:Sg07.copied c g (S c)=(Sg07.moved ((g / Sg07.COLUMNS:Nat) - (c / Sg07.COLUMNS:Nat):Int) ((g % Sg07.COLUMNS:Nat) - (c % Sg07.COLUMNS:Nat):Int) ex).map .formula:=by rw[es];rfl
     cases hmv:Sg07.moved ((g / Sg07.COLUMNS:Nat) - (c / Sg07.COLUMNS:Nat):Int) ((g % Sg07.COLUMNS:Nat) - (c % Sg07.COLUMNS:Nat):Int) ex with
     | some ex' =>
      rw[hmv] at ecp;intro v' H1 s1 F1;exact done v' (.formula ex') H1 _ _ ecp s1 F1
     | none =>
      rw[hmv] at ecp;rw[ecp] at q;intro H1 s1;refine⟨rfl,?_⟩;walk_at "";refine⟨by decide,fun l hl=>?_⟩;obtain⟨H3,e,s3,e3⟩:=zap hl _;rw[<-e];clear e;have t3:=s1.trans s3;exact q l H3 kn dk d1 d2 kvc kv1 (Sb.of t3) (Same.out s1 hl) (N.same t3) e3
end
section
variable{P:Program}{w:World}{K:PySem.W.Frag}{mg:Str->Option Value}{base:Heap}{A:Ad}
inductive CallIs:List Int->Sg07.Call->Prop
 | set (x k:Int) (b:Sg07.Bytes):CallIs (1::x::k::ib b) (.set x b)
 | get (x:Int):CallIs [2,x] (.get x)
 | text (x y:Int):CallIs [3,x,y] (.text x y)
 | copy (x y:Int):CallIs [4,x,y] (.copy x y)
 | needs (x y:Int):CallIs [5,x,y] (.needs x y)
inductive ziJ(A:Ad)(K:PySem.W.Frag)(vs:List V)(H:Hp)(Q:VK)(E:XK):Prop
 | mk sh dx dc kn dk d1 d2 kvc kv1 S lc l c (_:vs=[.ref sh,.ref lc]) (_:ShAt A K H sh dx dc kn dk d1 d2 kvc kv1 S) (_:H lc=some (.lst (l.map V.int))) (_:CallIs l c) (_:zmj A K H sh dx dc d1 d2 (Sg07.does S c) Q)
theorem ziP:zam ["sheet", "call"] ["sheet", "call"] (zag zfT):=by walk_at "sc"
theorem zj5(T:Txt P w K mg A):Cal P w K mg base CX0 "answer_to" 11 ["sheet", "call"] (ziJ A K):=by
 refine zaV T.d_answer_to ziP (fun _ _ _ _ h=>?_) fun f _ A' _ s H vs Q E hr h=>?_
 ·obtain⟨sh,dx,dc,kn,dk,d1,d2,kvc,kv1,S,lc,l,c,rfl,_⟩:=h;rfl
 ·obtain⟨sh,dx,dc,kn,dk,d1,d2,kvc,kv1,S,lc,l,c,rfl,N,hl,hc,q⟩:=h;refine⟨_,(zab (zaw (zak zaK (zau zaG (pv 1) zah (fun _ _=>rfl)) (zan T.gSET) (zao _)) (zac (zai (za9 (pv 0) (m_set_cell T) hr zat (zaa (zau zaG (pv 1) zah (fun _ _=>rfl)) (zaa (zb3 zcw (pv 1) (zbK zah) zeX) zad))))) zal) (zab (zaw (zak zaK (zau zaG (pv 1) zah (fun _ _=>rfl)) (zan T.gGET) (zao _)) (zac (zai (za9 (pv 0) (m_get_cell T) hr zat (zaa (zau zaG (pv 1) zah (fun _ _=>rfl)) zad)))) zal) (zab (zaw (zak zaK (zau zaG (pv 1) zah (fun _ _=>rfl)) (zan T.gTEXT) (zao _)) (zac (zai (za9 (pv 0) (m_tell_cell T) hr zat (zaa (zau zaG (pv 1) zah (fun _ _=>rfl)) (zaa (zau zaG (pv 1) zah (fun _ _=>rfl)) zad))))) zal) (zab (zaw (zak zaK (zau zaG (pv 1) zah (fun _ _=>rfl)) (zan T.gCOPY) (zao _)) (zac (zai (za9 (pv 0) (m_copy_cell T) hr zat (zaa (zau zaG (pv 1) zah (fun _ _=>rfl)) (zaa (zau zaG (pv 1) zah (fun _ _=>rfl)) zad))))) zal) (zac (zai (za9 (pv 0) (m_needs_cell T) hr zat (zaa (zau zaG (pv 1) zah (fun _ _=>rfl)) (zaa (zau zaG (pv 1) zah (fun _ _=>rfl)) zad))))))))),?_⟩
  try dsimp only[zaI]
  walk_at "";cases hc with
  | set x k b' =>
   refine zaQ (SqL.of hl) (i:=0) (v:=.int 1) (zdb (j:=0) rfl) ?_;walk_at "on";walk_at "";refine zay N.o rfl ?_;walk_at "";refine zaQ (SqL.of hl) (i:=1) (v:=.int x) (zdb (j:=1) rfl) ?_;walk_at "";refine zf0 (SqL.of hl) fun l1 hl1=>?_;have ec:zeB ((1::x::k::ib b').map V.int) (some (3:Int)) none=bl b':=by
    have:=zhB ((1::x::k::ib b').map V.int) 3;rw[zj8];exact this
   rw[ec];obtain⟨H1,e,s1,e1⟩:=zap hl1 _;rw[<-e];clear e;walk_at "";refine⟨sh,dx,dc,kn,dk,d1,d2,kvc,kv1,S,x,l1,b',rfl,N.same s1,e1,fun l2 H2 kn' dk' d1' d2' kvc' kv1' sb hl2 N2 e2=>?_⟩;exact q l2 H2 kn' dk' d1' d2' kvc' kv1' ((Sb.of s1).trans sb) (Same.out s1 hl2) N2 e2
  | get x =>
   refine zaQ (SqL.of hl) (i:=0) (v:=.int 2) rfl ?_;walk_at "on";walk_at "";refine zaQ (SqL.of hl) (i:=0) (v:=.int 2) rfl ?_;walk_at "on";walk_at "";refine zay N.o rfl ?_;walk_at "";refine zaQ (SqL.of hl) (i:=1) (v:=.int x) rfl ?_;walk_at "";exact⟨sh,dx,dc,kn,dk,d1,d2,kvc,kv1,S,x,rfl,N,q⟩
  | text x y =>
   refine zaQ (SqL.of hl) (i:=0) (v:=.int 3) rfl ?_;walk_at "on";walk_at "";refine zaQ (SqL.of hl) (i:=0) (v:=.int 3) rfl ?_;walk_at "on";walk_at "";refine zaQ (SqL.of hl) (i:=0) (v:=.int 3) rfl ?_;walk_at "on";walk_at "";refine zay N.o rfl ?_;walk_at "";refine zaQ (SqL.of hl) (i:=1) (v:=.int x) rfl ?_;walk_at "";refine zaQ (SqL.of hl) (i:=2) (v:=.int y) rfl ?_;walk_at "";exact⟨sh,dx,dc,kn,dk,d1,d2,kvc,kv1,S,x,y,rfl,N,q⟩
  | copy x y =>
   refine zaQ (SqL.of hl) (i:=0) (v:=.int 4) rfl ?_;walk_at "on";walk_at "";refine zaQ (SqL.of hl) (i:=0) (v:=.int 4) rfl ?_;walk_at "on";walk_at "";refine zaQ (SqL.of hl) (i:=0) (v:=.int 4) rfl ?_;walk_at "on";walk_at "";refine zaQ (SqL.of hl) (i:=0) (v:=.int 4) rfl ?_;walk_at "on";walk_at "";refine zay N.o rfl ?_;walk_at "";refine zaQ (SqL.of hl) (i:=1) (v:=.int x) rfl ?_;walk_at "";refine zaQ (SqL.of hl) (i:=2) (v:=.int y) rfl ?_;walk_at "";exact⟨sh,dx,dc,kn,dk,d1,d2,kvc,kv1,S,x,y,rfl,N,q⟩
  | needs x y =>
   refine zaQ (SqL.of hl) (i:=0) (v:=.int 5) rfl ?_;walk_at "on";walk_at "";refine zaQ (SqL.of hl) (i:=0) (v:=.int 5) rfl ?_;walk_at "on";walk_at "";refine zaQ (SqL.of hl) (i:=0) (v:=.int 5) rfl ?_;walk_at "on";walk_at "";refine zaQ (SqL.of hl) (i:=0) (v:=.int 5) rfl ?_;walk_at "on";walk_at "";refine zay N.o rfl ?_;walk_at "";refine zaQ (SqL.of hl) (i:=1) (v:=.int x) rfl ?_;walk_at "";refine zaQ (SqL.of hl) (i:=2) (v:=.int y) rfl ?_;walk_at "";exact⟨sh,dx,dc,kn,dk,d1,d2,kvc,kv1,S,x,y,rfl,N,q⟩
end
theorem zrl{l:List Int}(h:l.all (fun(z:Int)=>decide (0<=z)&&decide (z<=255))=true):ib (l.map fun(z:Int)=>UInt8.ofNat z.toNat)=l:=by
 unfold ib;rw[zCm];have:∀z∈l,((fun c:UInt8=>((c.toNat:Nat):Int))∘fun(z:Int)=>UInt8.ofNat z.toNat) z=z:=fun z hz=>by
  have h1:=List.all_eq_true.mp h z hz;simp only[zBx,decide_eq_true_iff] at h1;show(((UInt8.ofNat z.toNat).toNat:Nat):Int)=z;rw[UInt8.toNat_ofNat_of_lt' (by show z.toNat<256;omega)];omega
 rw[zCk this,List.map_id']
theorem zmf{p:Int}{r:List Int}{c:List (List Int)}{t:List Int}(h:PyFlat.call PySg07.shape (p::r)=some (c,t))(ha:Sg07Neutral.asked1 (PySg07.whole c)=true) :
  ∃cl n,CallIs ((p::r).take n) cl/\Sg07Neutral.callOf (PySg07.whole c)=some cl/\((n:Nat):Int)=zoI (p::r)/\t=(p::r).drop n/\n<=(p::r).length/\1<=n/\(p=1->∃y k s,r=y::k::s):=by
 rcases zl_ h with⟨rfl,x,k,s,rfl,hk,hl,rfl,rfl⟩|⟨rfl,x,rfl,rfl⟩|⟨hp,x,y,rfl,rfl⟩
 ·have hb:(s.take k.toNat).all (fun(z:Int)=>decide (0<=z)&&decide (z<=255))=true:=by
   have h2:Sg07Neutral.asked1 [[1,x],s.take k.toNat]=true:=ha;exact(Bool.and_eq_true_iff.mp (Bool.and_eq_true_iff.mp (show(_&&(_&&_))=true from h2)).2).1
  have e:=zrl hb;refine⟨.set x ((s.take k.toNat).map fun(z:Int)=>UInt8.ofNat z.toNat),3+k.toNat,?_,rfl,?_,?_,?_,by omega,fun _=>⟨x,k,s,rfl⟩⟩
  ·have:=CallIs.set x k ((s.take k.toNat).map fun(z:Int)=>UInt8.ofNat z.toNat);rw[e] at this;rw[show 3+k.toNat=k.toNat+3 by omega];exact this
  ·show _=3+k;omega
  ·rw[show 3+k.toNat=k.toNat+3 by omega];rfl
  ·simp;omega
 ·refine⟨.get x,2,CallIs.get x,rfl,rfl,rfl,by simp,by decide,fun z=>by cases z⟩
 ·rcases hp with rfl | rfl | rfl
  ·exact⟨.text x y,3,CallIs.text x y,rfl,rfl,rfl,by simp,by decide,fun z=>by cases z⟩
  ·exact⟨.copy x y,3,CallIs.copy x y,rfl,rfl,rfl,by simp,by decide,fun z=>by cases z⟩
  ·exact⟨.needs x y,3,CallIs.needs x y,rfl,rfl,rfl,by simp,by decide,fun z=>by cases z⟩
theorem zo9(S:Sg07.Sheet)(c:Sg07.Call):(Sg07.does S c).1.out.length<=1024:=by
 cases c with
 | set z s =>
  unfold Sg07.does;dsimp only;split
  ·exact zAx _
  ·split<;>exact zAx _
 | get z =>
  unfold Sg07.does;dsimp only;split
  ·exact zAx _
  ·split
   ·exact zAx _
   ·split
    ·show 1<=1024;decide
    ·exact zAx _
 | text z m =>
  unfold Sg07.does;dsimp only;split
  ·exact zAx _
  ·rename_i hno;dsimp only;split
   ·rw[zAp];omega
   ·exact zAx _
 | copy a b =>
  unfold Sg07.does;dsimp only;split
  ·exact zAx _
  ·split<;>exact zAx _
 | needs a b =>
  unfold Sg07.does;dsimp only;split
  ·exact zAx _
  ·split<;>exact zAx _
section
variable{P:Program}{w:World}{K:PySem.W.Frag}{mg:Str->Option Value}{base:Heap}{A:Ad}
def Fz(K:PySem.W.Frag)(H:Hp)(a:Addr)(xs:List V):Prop:=(∃o,H a=some (.frz o (.lst xs)))\/∀H',SqL K H' a xs
theorem Fz.sq{H:Hp}{a:Addr}{xs:List V}(h:Fz K H a xs):SqL K H a xs:=h.elim (fun⟨o,e⟩=>.inl (.inr ⟨o,e⟩)) fun z=>z H
theorem Fz.sb{H H':Hp}{a:Addr}{xs:List V}{l:List Addr}(h:Fz K H a xs)(s:Sb l H H')(n:∀o,H a=some (.frz o (.lst xs))->a∉l):Fz K H' a xs:=h.imp (fun⟨o,e⟩=>⟨o,s _ _ e (n o e)⟩) id
theorem Fz.same{H H':Hp}{a:Addr}{xs:List V}(h:Fz K H a xs)(s:Same H H'):Fz K H' a xs:=h.imp (fun⟨o,e⟩=>⟨o,s _ _ e⟩) id
def zkp(A:Ad)(K:PySem.W.Frag):Sp:=fun vs H Q _=>∃lc,∃l:List Int,vs=[.ref lc]/\Fz K H lc (l.map V.int)/\PySg07.answers_asked l=true/\∀lt H',H' lt=some (.lst ((PySg07.answers l).map V.int))->Q (.ref lt) H'
theorem sc_answers:zam ["calls", "sheet", "told", "place", "behind", "answer"] ["calls"] (zag zft):=by walk_at "sc"
inductive AnI(A:Ad)(K:PySem.W.Frag)(lc lt sh dx:Addr)(l:List Int)(cs0:List (List (List Int)))(m:Nat)(σ:St)(H':Hp):Prop
 | mk (p:Nat) (dc kn dk d1 d2:Addr) (kvc kv1:List (Key×V)) (S:Sg07.Sheet) (f:Nat) (cs:List (List (List Int))) (done:List Int) (x4 x5:Option V) (_:m+p=l.length) (_:Fz K H' lc (l.map V.int)) (_:H' lt=some (.lst (done.map V.int))) (_:ShAt A K H' sh dx dc kn dk d1 d2 kvc kv1 S) (_:PyFlat.calls PySg07.shape f (l.drop p)=some cs) (_:(∀c∈cs,Sg07Neutral.asked1 (PySg07.whole c)=true)) (_:PyFlat.told (PyFlat.played Sg07Neutral.step Sg07Neutral.start (cs0.map PySg07.whole))=done++PyFlat.told (PyFlat.played Sg07Neutral.step S (cs.map PySg07.whole))) (_:done.length+1030*cs.length<=412000) (_:σ=[some (.ref lc),some (.ref sh),some (.ref lt),some (.int (p:Int)),x4,x5])
theorem zkL(T:Txt P w K mg A){f:Addr}{fd:FuncData}(F:Fun K "answers" "answers" zft f fd):zdR P w K mg base CX0 12 f fd ["calls"] (zkp A K):=by
 refine F.ok sc_answers (fun vs H Q E h=>?_) (fun cdv A' outer s H vs Q E hr h=>?_)
 ·obtain⟨lc,l,rfl,_⟩:=h;rfl
 ·obtain⟨lc,l,rfl,hl,hask,q⟩:=h;have hask':∃cs,PyFlat.calls PySg07.shape l.length l=some cs/\cs.length<=400/\(∀c∈cs,Sg07Neutral.asked1 (PySg07.whole c)=true)/\PySg07.answers l=PyFlat.told (PyFlat.played Sg07Neutral.step Sg07Neutral.start (cs.map PySg07.whole)):=by
   unfold PySg07.answers_asked PySg07.calls at hask;unfold PySg07.answers PySg07.calls;cases hc:PyFlat.calls PySg07.shape l.length l with
   | none=>rw[hc] at hask;cases hask
   | some cs =>
    rw[hc] at hask;dsimp only at hask ⊢;rw[zBx] at hask;have h1:=hask.1;have h2:=hask.2;unfold PyFlat.atMost at h1;unfold Sg07Neutral.asked at h2;rw[zBx] at h2;refine⟨cs,rfl,?_,fun c hcc=>List.all_eq_true.mp h2.1 _ (zCp hcc),rfl⟩;have:=zAf h1;rw[zAp] at this;exact this
  obtain⟨cs0,hcs0,hn0,has0,htot⟩:=hask';rw[htot] at q;clear htot hask;refine⟨_,(zab (zas (i:=1) sc_answers.nd rfl (Or.inl rfl) (ziR (zo7 T) hr zat)) (zab (zas (i:=2) sc_answers.nd rfl (Or.inl rfl) (zaJ zad)) (zab (zas (i:=3) sc_answers.nd rfl (Or.inl rfl) zah) (zab (zcp PassesOwn.never (zak zcd (pv 3) (zaF zaL (by rfl) T.blen PySem.boot_len (zaa (pv 0) zad)) (zao _)) (zab (zas (i:=4) sc_answers.nd rfl (Or.inl rfl) (zaD zbf (pv 3) (zav (zfH T) hr zat (zaa (pv 0) (zaa (pv 3) zad))))) (zab (zas (i:=5) sc_answers.nd rfl (Or.inl rfl) (zav (zj5 T) hr zat (zaa (pv 1) (zaa (zb3 zcw (pv 0) (zbK (pv 3)) (zbK (pv 4))) zad)))) (zab (zaE (zbx zAh zAs zAr zaU (pv 2) (zaa (zaF zaL (by rfl) T.blen PySem.boot_len (zaa (pv 5) zad)) zad))) (zab (zaE (zbx zAh zCs zCr zfy (pv 2) (zaa (pv 5) zad))) (zac (zas (i:=3) sc_answers.nd rfl (Or.inl rfl) (pv 4)))))))) (zac (zai (pv 2))))))),?_⟩
  try dsimp only[zaI]
  walk_at "";intro sh dx hsh hdx ne;have sm0:Same H (upd (upd H dx (.own sh)) sh (.ins A.cSh dx [])):=fun b o z=>by rw[zae (zaf z hsh),zae (zaf z hdx)];exact z
  refine⟨sh,dx,rfl,upd_same,fun H1 dc kn dk d1 d2 sb1 N1=>⟨rfl,?_⟩⟩;have hl1:Fz K H1 lc (l.map V.int):=hl.sb (fun b o z nb=>sb1 b o (sm0 b o z) nb) fun o e=>by simp;exact zaf e hsh
  walk_at "";refine⟨by decide,fun lt hlt=>?_⟩;obtain⟨H2,e,s2,e2⟩:=zap hlt _;rw[<-e];clear e;walk_at "";refine zhp (AnI A K lc lt sh dx l (cs0:List (List (List Int)))) l.length
   ⟨0,dc,kn,dk,d1,d2,[],[],Sg07.blank,l.length,cs0,[],_,_,rfl,hl1.same s2,e2,N1.same s2,hcs0,has0,rfl,by simp;omega,rfl⟩ fun m σ H' hP=>?_
  obtain⟨p,dc,kn,dk,d1,d2,kvc,kv1,S,f',cs,done,x4,x5,hm,hl',elt,N,hcs,has,htot,hsz,rfl⟩:=hP;walk_at "";refine⟨_,_,rfl,.inl (hl'.sq),?_⟩;walk_at "";rw[zAp];refine zbg (fun h1=>?_) (fun h1=>?_)
  ·have hp:p<l.length:=by have:=zAf h1;omega
   refine whB ?_;obtain⟨x,r,hd⟩:∃x r,l.drop p=x::r:=⟨l[p],l.drop (p+1),zBo hp⟩;rw[hd] at hcs;obtain⟨g,c,t,cs',hcall,hcs',rfl⟩:=zkT hcs;obtain⟨cl,n,hcl,hof,hn,ht,hnl,hn1,hx1⟩:=zmf hcall (has c zAo);walk_at "";refine⟨lc,l,p,x,r,rfl,hl'.sq,hd,hx1,?_⟩;walk_at "";rw[<-hn];refine zf0 (hl'.sq) fun l1 hl1'=>?_;have ec:zeB (l.map V.int) (some ((p:Nat):Int)) (some (((p:Nat):Int)+((n:Nat):Int)))=((x::r).take n).map V.int:=by rw[zlA,<-hd,List.map_take,List.map_drop]
   rw[ec];obtain⟨H3,e,s3,e3⟩:=zap hl1' _;rw[<-e];clear e;have N3:=N.same s3;walk_at "";refine⟨sh,dx,dc,kn,dk,d1,d2,kvc,kv1,S,l1,_,cl,rfl,N3,e3,hcl,fun l2 H4 kn' dk' d1' d2' kvc' kv1' sb4 hl2 N4 e4=>?_⟩;have notin:∀ {b:Addr}{u:HO},H3 b=some u->((∃ys,u=.lst ys)\/∃o ys,u=.frz o (.lst ys))->b∉[sh,dc,d1,d2]:=fun{b u} eb hu hm=>by
    obtain⟨kv2,er,_⟩:=N3.k.r;simp only[zEd,List.not_mem_nil,or_false] at hm;rcases hm with rfl | rfl | rfl | rfl
    ·rw[N3.o] at eb;cases eb;rcases hu with⟨_,z⟩|⟨_,_,z⟩<;>cases z
    ·rw[N3.c] at eb;cases eb;rcases hu with⟨_,z⟩|⟨_,_,z⟩<;>cases z
    ·rw[N3.k.c] at eb;cases eb;rcases hu with⟨_,z⟩|⟨_,_,z⟩<;>cases z
    ·rw[er] at eb;cases eb;rcases hu with⟨_,z⟩|⟨_,_,z⟩<;>cases z
   have hl4:=(hl'.same s3).sb sb4 fun o e=>notin e (.inr ⟨_,_,rfl⟩);have elt4:=sb4 _ _ (s3 _ _ elt) (notin (s3 _ _ elt) (.inl ⟨_,rfl⟩));have n2:lt≠l2:=zaf (s3 _ _ elt) hl2;have al:=zo9 S cl;simp only[zAb] at hsz;walk_at "";refine za1 (SqL.of elt4) ?_;walk_at "";refine⟨_,_,rfl,.inl (SqL.of e4),?_⟩;walk_at "";refine zaP elt4 (by rw[zAp,sizeLine_eq];omega) ?_;walk_at "";refine za1 (SqL.of upd_same) ?_;walk_at "";refine znC upd_same (by rw[zae n2.symm];exact e4) (zar (by unfold zj_;rw[zAa,zAp,zAb,zAb,zAp];simp;omega)) ?_;rw[upd_upd];walk_at "";have hdl:(l.drop p).length=l.length - p:=zBi;rw[hd] at hdl;have k4:Keep A H4 (upd H4 lt (.lst (done.map V.int++[.int ((zj_ (Sg07.does S cl).1).length:Int)]++zj_ (Sg07.does S cl).1))):=zbj elt4 ze1;have m1:lt≠sh:=fun z=>by rw[z,N4.o] at elt4;cases elt4
   have m2:lt≠dc:=fun z=>by rw[z,N4.c] at elt4;cases elt4
   have m3:lt≠kn':=fun z=>by rw[z,N4.k.o] at elt4;cases elt4
   have m4:lt≠d1':=fun z=>by rw[z,N4.k.c] at elt4;cases elt4
   have m5:lt≠d2':=fun z=>by obtain⟨kv2,er,_⟩:=N4.k.r;rw[z,er] at elt4;cases elt4
   have estep:Sg07Neutral.step S (PySg07.whole c)=((Sg07.does S cl).2,(Sg07.does S cl).1.code::(Sg07.does S cl).1.out):=by unfold Sg07Neutral.step;rw[hof]
   refine⟨l.length - (p+n),by omega,p+n,dc,kn',dk',d1',d2',kvc',kv1',(Sg07.does S cl).2,g,cs',done++((((Sg07.does S cl).1.code::(Sg07.does S cl).1.out).length:Int)::(Sg07.does S cl).1.code::(Sg07.does S cl).1.out),some (.int ((p:Int)+(n:Int))),some (.ref l2),by omega,hl4.sb (zaM (List.mem_singleton.mpr rfl)) (fun o e z=>by rw[zAg z,elt4] at e;cases e),?_,?_,?_,fun c' hc'=>has c' (zAd _ hc'),?_,?_,?_⟩
   ·rw[upd_same];congr 2;unfold zj_;rw[zAk,zBr,zAz,zAz,zAb,zAb,zAp];rfl
   ·exact⟨by rw[zae m1.symm];exact N4.o,by rw[zae m2.symm];exact N4.c,N4.cs.keep k4,N4.k.other (zaM (by simp)) ⟨m3,m4,m5⟩ k4,N4.n⟩
   ·rw[<-zCy,hd,<-ht];exact hcs'
   ·rw[htot,zAz];show done++PyFlat.told ((Sg07Neutral.step S (PySg07.whole c)).2::PyFlat.played Sg07Neutral.step (Sg07Neutral.step S (PySg07.whole c)).1 (cs'.map PySg07.whole))=_;rw[estep,told_cons,zAk]
   ·rw[zAa,zAb,zAb];omega
   ·rw[Int.natCast_add];rfl
  ·have hp:p=l.length:=by have:=zAv (zAm h1);omega
   rw[hp,List.drop_length] at hcs;have:cs=[]:=by
    cases f' with
    | zero=>cases hcs;rfl
    | succ f=>cases hcs;rfl
   subst this
   try dsimp only
   walk_at "";rw[htot] at q;refine q lt H' ?_;rw[elt];simp[PyFlat.played,PyFlat.told]
end
end Rs
namespace Rs
open PySem L2 PySem.W PyProof.Rows
theorem zil:∀ {vs:List Value}{ns:List Int},Vals (ns.map V.int) vs->IntsAre vs ns
 | [],[],_=>.nil
 | [],_::_,h=>nomatch h
 | _::_,[],h=>nomatch h
 | v::vs,n::ns,.cons r t=>by
  obtain⟨tk,rfl⟩:=r;exact .cons n tk (zil t)
theorem zk9{R:WRecords}{cl:Str->Option Addr}{h:Heap}:∀ {vs:List Value}{ns:List Int},IntsAre vs ns->ReadsAllW R cl h vs (ns.map WData.int) []
 | _,_,.nil=>.nil
 | _,_,.cons n t z=>.cons (.int n t) (zk9 z)
theorem zlO{P:Program}{w:World}{K:PySem.W.Frag}{mg mb:Str->Option Value}{k:Nat}{fa a:Addr}{fd:FuncData}{x:Str}{sp:Sp}{s₁:Shared}{vs:List Value}{ns rs:List Int}
  (KX:K.In s₁.heap) (hns:s₁.heap.Ns mainGlobals mg) (hb:s₁.heap.Ns builtinsNs mb) (hbb:∀x:Str,x ≠ "__name__" -> mb x=bootBuiltins x) (hlim:s₁.heap.NoLimit) (hg:s₁.gens=#[])
  (ha:s₁.heap.get? a=some {cls:=.type "list",data:=.seq vs.toArray}) (hi:IntsAre vs ns) (hl:ns.length<=sizeLine) (hr:Room k callerA)
  (F:∀base:Heap,K.In base->base.Ns mainGlobals mg->zdR P w K mg base CX0 k fa fd [x] sp) (hbind:Binds K fd [x] [])
  (hsp:∀H:Hp,Fz K H a (ns.map V.int)->sp [.ref a] H (fun v H'=>∃l,v=.ref l/\H' l=some (.lst (rs.map V.int))) fun _ _ _=>False) :
  codeAny (model P w) callerA (.call (.ref fa) ⟨[.ref a],[]⟩) (fun r s'=>∃l its n,r=.ok (.ret (.ref l))/\s'.heap.get? l=some {cls:=.type "list",data:=.seq (List.toArray its) n}/\IntsAre its rs/\OldK s₁.heap s'.heap/\s'.os=s₁.os/\AllBare s'.gens) s₁:=by
 have rv:=zh1 hi;have lenV:=hi.length;have core:∀H:Hp,(∀b,H b=none\/∃o xs,H b=some (.frz o (.lst xs)))->Fz K H a (ns.map V.int)->HOk P w H s₁.heap->(∀b,H b≠none->b=a)->(H a≠none->K.lookup a=none) ->
   codeAny (model P w) callerA (.call (.ref fa) ⟨[.ref a],[]⟩) (fun r s'=>∃l its n,r=.ok (.ret (.ref l))/\s'.heap.get? l=some {cls:=.type "list",data:=.seq (List.toArray its) n}/\IntsAre its rs/\OldK s₁.heap s'.heap/\s'.os=s₁.os/\AllBare s'.gens) s₁:=by
  intro H hO hS hok hA hK;have base_of:∀ {b:Addr}{o:Obj},s₁.heap.get? b=some o->H b=none->(zi3 s₁.heap H).get? b=some o:=fun e n=>znE e n;have noA:∀ {b:Addr}{o:Obj}{es:Array DictEntry}{ep:Nat},s₁.heap.get? b=some o->o.data=.dict es ep->H b=none:=fun{b o es ep} e d=>by
   cases q:H b with
   | none=>rfl
   | some u =>
    have e':b=a:=hA b (by rw[q];simp);subst e';rw[ha] at e;cases e;have d':Data.seq vs.toArray _=Data.dict es ep:=d;cases d'
  have nsK:∀ {b:Addr}{m:Str->Option Value},s₁.heap.Ns b m->(zi3 s₁.heap H).Ns b m:=fun{b m} ⟨o,es,ep,e,d,r⟩=>⟨o,es,ep,base_of e (noA e d),d,r⟩;have hKb:K.In (zi3 s₁.heap H):=fun b o e=>base_of (KX b o e) (by
   cases q:H b with
   | none=>rfl
   | some u =>
    have e':b=a:=hA b (by rw[q];simp);subst e';rw[hK (by rw[q];simp)] at e;cases e)
  have hM:Mod K mg (zi3 s₁.heap H):=⟨hKb,nsK hns,⟨mb,nsK hb,hbb⟩,let ⟨mc,h1,h2⟩:=hlim;⟨mc,nsK h1,h2⟩⟩;have e0:Env0 P w K mg (zi3 s₁.heap H) callerA [] s₁ H:=⟨rfl,hM,fun b o e=>zoA e,zDf (zl9 _ _),trivial,fun b hb=>absurd (show b∈([]:List Addr) from hb) (by simp),hok,.of_eq hg⟩;refine codeAny_mono ((F _ hKb (nsK hns)).run callerA [] s₁ H ⟨[.ref a],[]⟩ [.ref a] [.ref a] _ _ hr e0 (hbind s₁ [.ref a] KX rfl) (.cons rfl .nil) (hsp H hS)) fun r s' h=>?_;cases r with
  | error e=>exact False.elim h
  | ok fl =>
   cases fl with
   | next=>exact False.elim h
   | brk=>exact False.elim h
   | cont=>exact False.elim h
   | ret u =>
    obtain⟨v,H',os,bare,un,hok',r',l,q,ql⟩:=h;subst q;obtain rfl:u=Value.ref l:=r';obtain⟨_,its,n,ri,el⟩:=hok' l _ ql;refine⟨l,its,n,rfl,el,zil ri,OldK.of_keep fun b o e=>?_,os,bare⟩;cases q:H b with
    | none=>exact un.keep b o e q (by intro z;exact absurd (show b∈([]:List Addr) from z) (by simp)) (by simp)
    | some u =>
     rcases hO b with z|⟨ob,xs,z⟩
     ·rw[q] at z;cases z
     ·have z2:=un.frzs b ob _ z;obtain⟨e1,_⟩:=hok b _ z;obtain⟨e2,_⟩:=hok' b _ z2;rw[e] at e1;cases e1;exact e2
 cases hk:K.lookup a with
 | some o =>
  have e:=KX a o hk;rw[ha] at e;cases e
  refine core (fun _=>none) (fun _=>.inl rfl) (.inr fun H'=>.inr ⟨_,vs.toArray,_,hk,rfl,rfl,rfl,by rw[zAn,lenV];exact hl,by simpa using rv⟩) (fun b u z=>by have z':(none:Option HO)=some u:=z;cases z') (fun b z=>absurd rfl z) fun z=>absurd rfl z
 | none =>
  refine core (fun b=>if b=a then some (.frz {cls:=.type "list",data:=.seq vs.toArray} (.lst (ns.map V.int))) else none) (fun b=>?_) (.inl ⟨{cls:=.type "list",data:=.seq vs.toArray},if_pos rfl⟩) (fun b u z=>?_) (fun b z=>?_) fun _=>hk
  ·by_cases hb:b=a
   ·exact .inr ⟨_,_,if_pos hb⟩
   ·exact .inl (if_neg hb)
  ·by_cases hb:b=a
   ·have z':=(if_pos hb).symm.trans z;cases z'
    subst hb;exact⟨ha,by rw[zAp];exact hl,vs,_,rv,ha⟩
   ·have z':=(if_neg hb).symm.trans z;cases z'
  ·by_cases hb:b=a
   ·exact hb
   ·exact absurd (if_neg hb) z
theorem walk:Big:=by
 intro k1 q loose XP YP d K hdf hY hT;intro w s₀ s₁ mg mb G Y fa o pm cd doc dV kV ho hd hcd hD hmg hg args vals as hpre hlay hrd hwl hlo;obtain⟨a,hw,hask,rfl⟩:=(OpenSpec.pre_iff k1 args).mp hpre;obtain⟨l,u⟩:=a;have hwl:WellAll w.params s₁.heap vals [WData.list ((l:List Int).map WData.int)]:=hwl;have hlen:(l:List Int).length<=31000:=by
  have h1:=(Codec.and_of (show(_&&_)=true from hw)).1;have h2:=(Codec.and_of (show(_&&_)=true from h1)).1;exact(Codec.inNat_iff.mp h2).2
 cases hwl with
 | cons w1 w2 =>
  cases w2
  cases w1 with
  | list hobj hall =>
   have KX:=hY w _ Y;obtain⟨A,hfa,T⟩:=hT w mg fa _ KX G.T.g hmg;obtain⟨f,fd,hm,Fn,hb⟩:=T.d_answers.ex;have e:=hfa.symm.trans hm;cases e
   refine enter_call (codeAny_mono (zlO KX G.T.g G.T.b G.T.builtins G.T.nolimit hg hobj (Att.ints_of_wellAll l _ hall) (zBp hlen (by decide)) ⟨rfl,by decide,by decide⟩ (fun base _ _=>zkL T Fn) hb (rs:=PySg07.answers l) fun H hS=>⟨_,l,rfl,hS,hask,fun lt H' e=>⟨lt,rfl,e⟩⟩) fun r s' hq=>?_);obtain⟨lr,its,n,rfl,el,hits,h2,h3,h4⟩:=hq;exact⟨.inl ⟨.ref lr,.list ((PySg07.answers l).map WData.int),[lr],rfl,fun _=>rfl,.list el rfl rfl (by simpa using zk9 hits),(OpenSpec.post_iff k1 hw _ _).mpr rfl,fun h=>absurd h zAc⟩,h2,h3,h4⟩
end Rs
theorem PySem.Challenge.cw_ringsheet_s01_answers_holds : PySem.Challenge.rw_ringsheet_s01_answers.Holds := by
 exact Rs.hd Rs.walk
