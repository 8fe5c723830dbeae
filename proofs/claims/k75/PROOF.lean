import PyProof.Rows.All
import Wide.All
import OpenK.AllK
import Wide.FinOn
import Lean
import PyProof.EqAt
import PyProof.EqKinds
import PyProof.TupleCall
import PyProof.NeData
import PyProof.AttrMissHeap
import PyProof.FactsAll.enumerate_1
import KE.KDictOf
import PyProof.EnumMake
import PyProof.Rows.SumAny
import PyProof.Rows.StrJoin2
import PyProof.Rows.CountFlat
import PyProof.Rows.FoldWordsD
import PyProof.Rows.SeqMore2
import PyProof.Rows.MinMaxN
import PyProof.Rows.StrInSeq3
import PyProof.Rows.ReprR
import PyProof.StrLawsRepr
import PyProof.DictItems
import KE.KPairComp
import PyProof.StrOps2
import PyProof.Rows.SeqMore
import PySem.Challenge.RW_pointways_k75_ties_told_twice
set_option genSizeOfSpec false
noncomputable section
set_option Elab.async false
set_option linter.all false
set_option maxRecDepth 100000
def qlS:=@PySem.wpAny_bind
def qlT:=@List.getElem?_eq_some_iff
def qlU:=@PySem.Heap.get?_push_of_some
def qlV:=@PySem.wpAny_pure
def qlW:=@PySem.Heap.lt_size
def qlX:=@List.mem_of_getElem?
def qlY:=@Nat.le_refl
def qlZ:=@List.mem_cons_of_mem
def ql0:=@PySem.Heap.get?_push_size
def ql1:=@List.mem_cons
def ql2:=@List.length_map
def ql3:=@Nat.ne_of_lt
def ql4:=@List.take_length
def ql5:=@Nat.lt_of_lt_of_le
def ql6:=@List.mem_cons_self
def ql7:=@List.length_take
def ql8:=@PySem.boot_len
def ql9:=@List.getElem?_append_left
def ql_:=@Bool.false_ne_true
def qma:=@List.getElem?_append_right
def qmb:=@List.length_append
def qmc:=@List.getElem?_map
def qmd:=@List.mem_filter
def qme:=@List.not_mem_nil
def qmf:=@List.size_toArray
def qmg:=@List.getElem?_eq_getElem
def qmh:=@List.mem_append
def qmi:=@List.mem_append_right
def qmj:=@List.map_cons
def qmk:=@List.all_eq_true
def qml:=@List.length_cons
def qmm:=@PySem.Heap.size_push
def qmn:=@of_decide_eq_true
def qmo:=@decide_eq_true_eq
def qmp:=@Option.some.inj
def qmq:=@Nat.le_trans
def qmr:=@congrArg
def qms:=@List.map_append
def qmt:=@PySem.wpAny_mono
def qmu:=@List.mem_singleton
def qmv:=@PySem.W.mg_of
def qmw:=@List.mem_map
def qmx:=@PySem.F.plain_min_loop
def qmy:=@List.append_nil
def qmz:=@decide_eq_true
def qmA:=@decide_eq_false
def qmB:=@PySem.Heap.SameBut.update
def qmC:=@List.mem_append_left
def qmD:=@PySem.wpAny_field
def qmE:=@PyProof.Rows.callWith_type1
def qmF:=@PySem.wpAny_holding
def qmG:=@PySem.mem_of_lookup
def qmH:=@PySem.Around.under_plainId
def qmI:=@PySem.Heap.get?_update_self
def qmJ:=@PySem.W.mg_none_of
def qmK:=@Nat.zero_le
def qmL:=@Nat.pow_le_pow_right
def qmM:=@PySem.F.plainAttrs_list
def qmN:=@Nat.lt_irrefl
def qmO:=@List.nodup_cons
def qmP:=@of_decide_eq_false
def qmQ:=@PySem.wpAny_seqItems
def qmR:=@PySem.codeAny_builtin
def qmS:=@PySem.wpAny_Call_Name_kw
def qmT:=@Nat.lt_succ_self
def qmU:=@PySem.PassesOwn.never
def qmV:=@PySem.codeAny_mono
def qmW:=@PySem.wpAny_setField_rec
def qmX:=@or_false
def qmY:=@Nat.ne_of_gt
def qmZ:=@PySem.wpAny_truthy_bool
def qm0:=@PySem.wpAny_pyIter_list
def qm1:=@List.eq_nil_of_length_eq_zero
def qm2:=@List.length_pos_of_mem
def qm3:=@Bool.false_eq_true
def qm4:=@Bool.eq_iff_iff
def qm5:=@PySem.wpAny_tryCatch
def qm6:=@PySem.wpAny_updateSeq
def qm7:=@PySem.plainId_quiet
def qm8:=@List.length_filter_le
def qm9:=@PySem.wpAny_callSpecial?_slot
def qm_:=@List.filter_append
def qna:=@PySem.Heap.get?_update_other
def qnb:=@PySem.wpAny_call_entry
def qnc:=@List.filter_cons
def qnd:=@List.replicate_succ
def qne:=@Nat.lt_succ_of_lt
def qnf:=@PySem.wpAny_loadPart_at
def qng:=@PySem.F.slot_list_append
def qnh:=@PySem.F.type_list_append
def qni:=@List.mem_zipIdx_iff_getElem?
def qnj:=@List.lookup_cons
def qnk:=@List.replicate_succ'
def qnl:=@PySem.wpAny_standAt
def qnm:=@Array.getElem?_eq_some_iff
def qnn:=@PySem.F.entry_min_loop
def qnp:=@PySem.wpAny_letGo
def qnq:=@Classical.byContradiction
def qnr:=@List.mem_iff_getElem?
def qns:=@PySem.F.slot_enumerate_next
def qnt:=@PySem.wpAny_pyIter_tuple
def qnu:=@Nat.le_add_right
def qnv:=@List.getElem?_take_of_lt
def qnw:=@List.mem_range
def qnx:=@Ne.symm
def qny:=@List.append_assoc
def qnz:=@PySem.wpAny_newObj_type
def qnA:=@eq_true
def qnB:=@beq_eq_false_iff_ne
def qnC:=@PyProof.Rows.F.plain_set_update_loop
def qnD:=@PySem.wpAny_isSubtype_exc
def qnE:=@PySem.F.plain_extend_loop
def qnF:=@List.map_congr_left
def qnG:=@PySem.wpAny_nextOf_list_item
def qnH:=@Nat.succ.inj
def qnI:=@List.sum_cons
def qnJ:=@Bool.and_eq_true
def qnK:=@PySem.F.slot_tuple_iterator_next
def qnL:=@PySem.Obj.data_mapFields
def qnM:=@PySem.wpAny_passesOwn
def qnN:=@PySem.F.slot_zip_next
def qnO:=@Nat.le_of_lt
def qnP:=@PySem.codeAny_call_builtin
def qnQ:=@PySem.wpAny_call
def qnR:=@List.any_cons
def qnS:=@PySem.wpAny_comprehension_free
def qnT:=@of_eq_true
def qnU:=@Array.getElem?_setIfInBounds_ne
def qnV:=@List.getElem?_cons_succ
def qnW:=@List.exists_mem_of_length_pos
def qnX:=@List.getElem?_set_self
def qnY:=@PySem.Calls.spliced_cons
def qnZ:=@Nat.lt_of_le_of_lt
def qn0:=@PySem.tupleKind_room_in1
def qn1:=@Nat.zero_add
def qn2:=@PySem.wpAny_rule
def qn3:=@Nat.lt_of_succ_lt_succ
def qn4:=@List.find?_cons
def qn5:=@Nat.min_eq_left
def qn6:=@PySem.W.kia_one
def qn7:=@List.length_singleton
def qn8:=@PySem.Obj.isFreed_of_fields
def qn9:=@PySem.builtinLookup_eq_fast
def qn_:=@PySem.F.slot_enumerate_iter
def qoa:=@List.getElem?_eq_none
def qob:=@List.flatten_cons
def qoc:=@PySem.W.hideAll_none
def qod:=@Int.fdiv_eq_ediv_of_nonneg
def qoe:=@List.mem_iff_getElem
def qof:=@PySem.wpAny_setField
def qog:=@List.getElem_mem
def qoh:=@List.filterMap_cons
def qoi:=@Array.length_toList
def qoj:=@List.filter_eq_self
namespace L2
open PySem PySem.Spec PyProof.Rows
abbrev Key:=Sum Int Str
def rT:Key->Value->Bool
  | .inl k,v=>Value.isInt k v
  | .inr x,v=>Value.isStrOf x v
def qjf (w:World):Key->Int
  | .inl k=>hashInt k
  | .inr x=>hashStr w x
theorem c7:∀{k:Key} {v:Value},rT k v=true->(∃i t,k=Sum.inl i/\v=Value.int i t)\/(∃x t,k=Sum.inr x/\v=Value.str x t)
  | .inl i,v,h=>by
    obtain⟨t,e⟩:=Value.isInt_shape (k:=i) (v:=v) h;exact .inl ⟨i,t,rfl,e⟩
  | .inr x,v,h=>by
    obtain⟨t,e⟩:=Value.isStrOf_shape (x:=x) (v:=v) h;exact .inr ⟨x,t,rfl,e⟩
theorem Gy (i:Int) (t:Tok):rT (.inl i) (.int i t)=true:=by simp[rT,Value.isInt]
theorem Gz (x:Str) (t:Tok):rT (.inr x) (.str x t)=true:=by simp[rT,Value.isStrOf]
theorem qcY (a b:Int):decide ((Sum.inl a:Key)=Sum.inl b)=(a == b):=by
  by_cases e:a=b
  ·subst e;simp
  ·have h:¬(Sum.inl a:Key)=Sum.inl b:=λq=>e (Sum.inl.inj q);rw[qmA h];exact(qnB.mpr e).symm
theorem qcZ (a b:Str):decide ((Sum.inr a:Key)=Sum.inr b)=decide (a=b):=by
  by_cases e:a=b
  ·subst e;simp
  ·have h:¬(Sum.inr a:Key)=Sum.inr b:=λq=>e (Sum.inr.inj q);rw[qmA h,qmA e]
theorem qc0 (a:Int) (b:Str):decide ((Sum.inl a:Key)=Sum.inr b)=false:=qmA (λq=>nomatch q)
theorem qc1 (a:Str) (b:Int):decide ((Sum.inr a:Key)=Sum.inl b)=false:=qmA (λq=>nomatch q)
def bJ (prog:Program) (w:World):PySem.KeyKind prog w Key where
  is:=rT
  hash:=qjf w
  inj:=λv a b ha hb=>by
    rcases c7 ha with⟨i,t,rfl,rfl⟩ | ⟨x,t,rfl,rfl⟩
    . rcases c7 hb with⟨j,u,rfl,e⟩ | ⟨y,u,rfl,e⟩
      ·injection e with e1 _;rw[e1]
      ·exact nomatch e
    . rcases c7 hb with⟨j,u,rfl,e⟩ | ⟨y,u,rfl,e⟩
      ·exact nomatch e
      ·injection e with e1 _;rw[e1]
  byValue:=λk v h=>by
    rcases c7 h with⟨i,t,rfl,rfl⟩ | ⟨x,t,rfl,rfl⟩ <;> rfl
  pyHash:=λhv h=>by
    rcases c7 hv with⟨i,t,rfl,rfl⟩ | ⟨x,t,rfl,rfl⟩
    ·exact wpAny_pyHash_int h
    ·exact wpAny_pyHash_str h
  eqBool:=λhu hv h=>by
    rcases c7 hu with⟨i,t,rfl,rfl⟩ | ⟨x,t,rfl,rfl⟩
    . rcases c7 hv with⟨j,u,rfl,rfl⟩ | ⟨y,u,rfl,rfl⟩
      ·rw[qcY] at h;exact wpAny_eqBool_int h
      ·rw[qc0] at h;exact SeqAt.EqAt.int_str i t y u _ _ _ _ h
    . rcases c7 hv with⟨j,u,rfl,rfl⟩ | ⟨y,u,rfl,rfl⟩
      ·rw[qc1] at h;exact SeqAt.EqAt.str_int x t j u _ _ _ _ h
      ·rw[qcZ] at h;exact wpAny_eqBool_str h
  «strs»:=λk x t v h=>by
    rcases c7 h with⟨i,u,rfl,e⟩ | ⟨y,u,rfl,e⟩
    ·exact nomatch e
    ·injection e with e1 _;subst e1;cases v <;> rfl
theorem zN (prog:Program) (w:World) (i:Int) (t:Tok):(bJ prog w).is (.inl i) (.int i t)=true:=Gy i t
theorem Lb (prog:Program) (w:World) (x:Str) (t:Tok):(bJ prog w).is (.inr x) (.str x t)=true:=Gz x t
inductive V where
  | non | bl (b:Bool) | int (i:Int) | str (x:Str) | V1 (b:Array UInt8) | flt (b:UInt64) | ref (a:Addr) | ty (n:String)
  deriving DecidableEq
def RelV:V->Value->Prop
  | .non,u=>u=Value.none
  | .bl b,u=>u=Value.bool b
  | .int i,u=>∃t,u=Value.int i t
  | .str x,u=>∃t,u=Value.str x t
  | .V1 b,u=>∃t,u=Value.bytes b t
  | .flt b,u=>∃t,u=Value.float b t
  | .ref a,u=>u=Value.ref a
  | .ty n,u=>u=Value.type n
abbrev Vals:List V->List Value->Prop:=Paired RelV
theorem Vals.length {xs:List V} {us:List Value} (r:Vals xs us):xs.length=us.length:=Paired.length r
theorem Vals.get:∀{xs:List V} {us:List Value} {i:Nat} {x:V},Vals xs us->xs[i]? = some x->∃u,us[i]? = some u/\RelV x u
  | _,_,_,_,.nil,e=>by simp at e
  | _,_,0,_,.cons r _,e=>by simp at e;subst e;exact⟨_,rfl,r⟩
  | _,_,i+1,x,.cons _ t,e=>by
    obtain⟨u,h1,h2⟩:=Vals.get (i:=i) (x:=x) t (by simpa using e);exact⟨u,by simpa using h1,h2⟩
theorem Vals.set {x:V} {u:Value} (r:RelV x u):∀{xs:List V} {us:List Value} (i:Nat),Vals xs us->Vals (xs.set i x) (us.set i u)
  | _,_,_,.nil=>.nil
  | _,_,0,.cons _ t=>.cons r t
  | _,_,i+1,.cons q t=>.cons q (Vals.set r i t)
theorem Vals.append:∀{xs ys:List V} {us ws:List Value},Vals xs us->Vals ys ws->Vals (xs++ys) (us++ws)
  | _,_,_,_,.nil,s=>s
  | _,_,_,_,.cons r t,s=>.cons r (Vals.append t s)
theorem Vals.take:∀{xs:List V} {us:List Value} (n:Nat),Vals xs us->Vals (xs.take n) (us.take n)
  | _,_,0,_=>.nil
  | _,_,_+1,.nil=>.nil
  | _,_,n+1,.cons r t=>.cons r (Vals.take n t)
theorem Vals.drop:∀{xs:List V} {us:List Value} (n:Nat),Vals xs us->Vals (xs.drop n) (us.drop n)
  | _,_,0,r=>r
  | _,_,_+1,.nil=>.nil
  | _,_,n+1,.cons _ t=>Vals.drop n t
def mO:Option V->Option Value->Prop
  | some v,some u=>RelV v u
  | none,none=>True
  | _,_=>False
def KV {κ:Type}:List (κ×V)->List (κ×Value)->Prop:=Paired fun(p:κ×V) (q:κ×Value)=>p.1=q.1/\RelV p.2 q.2
def kV:Key->V
  | .inl i=>.int i
  | .inr x=>.str x
inductive HO where
  | lst (xs:List V)
  | tup (xs:List V)
  | dK (kvs:List (Key×V)) | dT (kvs:List (List Key×V))
  | set (S:Int->Bool) (n:Nat)
  | ins (C dx:Addr) (fs:List (Str×V))
  | own (x:Addr)
  | xd (fs:List (Str×V))
  | met (f x:Addr)
  | rng (lo hi:Int)
  | Ld (o:Obj) (u:HO)
  | Aq (ps:Array Value)
  | ext (φ:Heap->Prop)
abbrev Hp:=Addr->Option HO
def upd (H:Hp) (a:Addr) (o:HO):Hp:=λb=>if b=a then some o else H b
theorem ak {H:Hp} {a:Addr} {o:HO}:upd H a o a=some o:=by unfold upd;rw[if_pos rfl]
theorem aB {H:Hp} {a b:Addr} {o:HO} (h:b≠a):upd H a o b=H b:=by unfold upd;rw[if_neg h]
theorem jg {H:Hp} {a b:Addr} {o u:HO} (h:H a=some o) (h':H b=some u) (d:o≠u):a≠b:=by
  intro e;subst e;rw[h] at h';exact d (qmp h')
theorem aL {H:Hp} {a b:Addr} {o:HO} (h:H a=some o) (h':H b=none):a≠b:=by
  intro e;subst e;rw[h] at h';cases h'
section
variable (P:Program) (w:World)
def bZ (H:Hp) (h:Heap) (a:Addr):HO->Prop
  | .lst xs=>xs.length<=sizeLine/\∃(its:List Value) (n:Nat),Vals xs its/\h.get? a=some {cls:=.type "list",data:=.seq its.toArray n}
  | .tup xs=>xs.length<=sizeLine/\∃its:List Value,Vals xs its/\IsTup h a its.toArray
  | .dK kvs=>kvs.length<=sizeLine/\(a == sysModules)=false/\∃vs,KV kvs vs/\h.DictOf (bJ P w) a vs
  | .dT kvs=>kvs.length<=sizeLine/\(a == sysModules)=false/\∃xs:List (List Key×Addr×Value),
      Paired (fun(p:List Key×V) (q:List Key×Addr×Value)=>p.1=q.1/\H q.2.1=some (.tup (p.1.map kV))/\RelV p.2 q.2.2) kvs xs/\
      ∃o es ep,h.get? a=some o/\o.ExactDict/\o.data = .dict es ep/\es.toList=xs.map (entryOfKey (tupleKind (bJ P w)))/\(xs.map (·.1)).Nodup
  | .set S n=>h.SetOf (intKind P w) a S n
  | .ins C dx fs=>H dx=some (.own a)/\fs.length<=1000/\dx≠a/\h.get? a=some (W.instObj C dx)/\
      ∃mA,h.Ns1 dx mA/\(∀f,mO (fs.lookup f) (mA f))/\PySem.Within mA (fs.map (·.1))
  | .own _=>∃o,h.get? a=some o
  | .xd fs=>∃mA,h.Ns1 a mA/\∀f,mO (fs.lookup f) (mA f)
  | .rng lo hi=>∃t u v,h.get? a=some {cls:=.type "range",data:=.fields #[.int lo t,.int hi u,.int 1 v]}
  | .Ld o u=>h.get? a=some o/\bZ H h a u
  | .Aq ps=>h.get? a=some {cls:=.none,data:=.fields ps}
  | .met f x=>h.get? a=some (W.methodObj (.ref f) (.ref x))
  | .ext φ=>φ h/\(∃o,h.get? a=some o)/\∀h1 h2:Heap,φ h1->(∀o,h1.get? a=some o->h2.get? a=some o)->φ h2
def rW (H:Hp) (h:Heap):Prop:=∀a o,H a=some o->bZ P w H h a o
end
section
variable {P:Program} {w:World} {H H':Hp} {h h':Heap} {a:Addr} {o:HO}
theorem bZ.lt (x:bZ P w H h a o):a<h.objs.size:=by
  cases o with
  | lst xs=>obtain⟨_,_,_,_,e⟩:=x;exact qlW e
  | tup xs=>obtain⟨_,_,_,p⟩:=x;exact p.lt
  | dK kvs=>obtain⟨_,_,_,_,o,_,_,e,_⟩:=x;exact qlW e
  | dT kvs=>obtain⟨_,_,_,_,o,_,_,e,_⟩:=x;exact qlW e
  | set S n=>obtain⟨o,_,_,_,e,_⟩:=x;exact qlW e
  | ins C dx fs=>obtain⟨_,_,_,e,_⟩:=x;exact qlW e
  | own y=>obtain⟨_,e⟩:=x;exact qlW e
  | xd fs=>obtain⟨_,⟨_,_,_,e,_⟩,_⟩:=x;exact qlW e
  | rng lo hi=>obtain⟨_,_,_,e⟩:=x;exact qlW e
  | Ld ob u=>obtain⟨e,_⟩:=x;exact qlW e
  | Aq ps=>exact qlW (show h.get? a=some _ from x)
  | met f y=>exact qlW (show h.get? a=some _ from x)
  | ext φ=>obtain⟨_,⟨_,e⟩,_⟩:=x;exact qlW e
theorem Paired.qc2 {α β:Type} {F G:α->β->Prop}:∀{l₁:List α} {l₂:List β},Paired F l₁ l₂->(∀a b,F a b->G a b)->Paired G l₁ l₂
  | _,_,.nil,_=>.nil
  | _,_,.cons r t,f=>.cons (f _ _ r) (Paired.qc2 t f)
theorem bZ.stay (x:bZ P w H h a o) (k:∀b u,(b=a\/H b=some (.own a))->h.get? b=some u->h'.get? b=some u)
    (ho:∀b,H b=some (.own a)->H' b=some (.own a)) (ht:∀b xs,H b=some (.tup xs)->H' b=some (.tup xs)):bZ P w H' h' a o:=by
  induction o with
  | lst xs=>obtain⟨z,its,n,r,e⟩:=x;exact⟨z,its,n,r,k _ _ (.inl rfl) e⟩
  | tup xs=>obtain⟨z,its,r,ob,e,c⟩:=x;exact⟨z,its,r,ob,k _ _ (.inl rfl) e,c⟩
  | dK kvs=>obtain⟨z,y,vs,r,ob,es,ep,e,c⟩:=x;exact⟨z,y,vs,r,ob,es,ep,k _ _ (.inl rfl) e,c⟩
  | dT kvs=>
    obtain⟨z,y,xs,r,ob,es,ep,e,c⟩:=x;exact⟨z,y,xs,Paired.qc2 r λp q z=>⟨z.1,ht _ _ z.2.1,z.2.2⟩,ob,es,ep,k _ _ (.inl rfl) e,c⟩
  | set S n=>obtain⟨ob,es,ep,t,e,c⟩:=x;exact⟨ob,es,ep,t,k _ _ (.inl rfl) e,c⟩
  | ins C dx fs=>
    obtain⟨d,z,ne,e,mA,⟨od,es,ep,e2,c⟩,r⟩:=x;exact⟨ho _ d,z,ne,k _ _ (.inl rfl) e,mA,⟨od,es,ep,k _ _ (.inr d) e2,c⟩,r⟩
  | own y=>obtain⟨ob,e⟩:=x;exact⟨ob,k _ _ (.inl rfl) e⟩
  | xd fs=>obtain⟨mA,⟨od,es,ep,e,c⟩,r⟩:=x;exact⟨mA,⟨od,es,ep,k _ _ (.inl rfl) e,c⟩,r⟩
  | rng lo hi=>obtain⟨t,u,v,e⟩:=x;exact⟨t,u,v,k _ _ (.inl rfl) e⟩
  | Ld ob u ih=>obtain⟨e,q⟩:=x;exact⟨k _ _ (.inl rfl) e,ih q⟩
  | Aq ps=>
    have e:h.get? a=some {cls:=.none,data:=.fields ps}:=x;show h'.get? a=some {cls:=.none,data:=.fields ps};exact k a _ (.inl rfl) e
  | met f y=>
    have e:h.get? a=some (W.methodObj (.ref f) (.ref y)):=x;show h'.get? a=some (W.methodObj (.ref f) (.ref y));exact k a _ (.inl rfl) e
  | ext φ=>obtain⟨p,⟨o,e⟩,st⟩:=x;exact⟨st _ _ p λo q=>k _ _ (.inl rfl) q,⟨o,k _ _ (.inl rfl) e⟩,st⟩
theorem rW.lt (x:rW P w H h) (e:H a=some o):a<h.objs.size:=(x a o e).lt
theorem rW.fresh (x:rW P w H h) (e:h.objs.size<=a):H a=none:=by
  cases q:H a with
  | none=>rfl
  | some u=>exact absurd (ql5 (x.lt q) e) (qmN _)
theorem rW.kept (x:rW P w H h) (k:∀b u,h.get? b=some u->h'.get? b=some u):rW P w H h':=λa o e=>
  (x a o e).stay (λb u _ q=>k b u q) (λ_ q=>q) λ_ _ q=>q
theorem rW.laid (x:rW P w H h) (k:∀b u,h.get? b=some u->h'.get? b=some u) (hp:h.objs.size<=a) (new:bZ P w (upd H a o) h' a o):rW P w (upd H a o) h':=λb u e=>by
  have hn:=x.fresh hp
  by_cases hb:b=a
  ·subst hb;rw[ak] at e;cases e;exact new
  ·rw[aB hb] at e;exact(x b u e).stay (λc v _ q=>k c v q) (λc q=>by rw[aB (aL q hn)];exact q) λc xs q=>by rw[aB (aL q hn)];exact q
end
def Rd (H:Hp) (a:Addr) (u:HO):Prop:=H a=some u\/∃o,H a=some (.Ld o u)
theorem Rd.ok {P:Program} {w:World} {H:Hp} {h:Heap} {a:Addr} {u:HO} (r:Rd H a u) (x:rW P w H h):bZ P w H h a u:=by
  rcases r with r | ⟨o,r⟩
  ·exact x a u r
  ·obtain⟨_,q⟩:=x a _ r;exact q
def Mut:Option HO->Prop
  | some (.lst _)=>True
  | some (.dK _)=>True
  | some (.dT _)=>True
  | some (.set _ _)=>True
  | some (.ins _ _ _)=>True
  | some (.ext _)=>True
  | _=>False
section
variable {P:Program} {w:World} {H:Hp} {h h':Heap} {x e:Addr} {o':HO}
theorem rW.write (ok:rW P w H h) (mu:Mut (H x)) (he:e=x\/H e=some (.own x)) (k:∀b u,b≠e->h.get? b=some u->h'.get? b=some u) (heo:∃u,h'.get? e=some u)
    (new:bZ P w (upd H x o') h' x o'):rW P w (upd H x o') h':=λb u q=>by
  have qfr:∀c y,H c=some (.own y)->c≠x:=λc y r z=>by subst z;rw[r] at mu;exact mu
  have qjg:∀c xs,H c=some (.tup xs)->c≠x:=λc xs r z=>by subst z;rw[r] at mu;exact mu
  by_cases hb:b=x
  ·subst hb;rw[ak] at q;cases q;exact new
  . rw[aB hb] at q
    by_cases hbe:b=e
    . have q':H b=some (.own x):=by
        rcases he with z | z
        ·exact absurd (hbe.trans z) hb
        ·rw[hbe];exact z
      rw[q] at q';cases q';obtain⟨v,hv⟩:=heo;exact⟨v,by rw[hbe];exact hv⟩
    . refine(ok b u q).stay (λc v hc r=>k c v ?_ r) (λc r=>by rw[aB (qfr c b r)];exact r) λc xs r=>by rw[aB (qjg c xs r)];exact r
      rcases hc with rfl | hc
      ·exact hbe
      . rintro rfl
        rcases he with z | z
        ·exact qfr c b hc z
        ·rw[hc] at z;cases z;exact hb rfl
end
structure Un (fs ex:List Addr) (H H':Hp) (h h':Heap):Prop where
  keep:∀b o,h.get? b=some o->H b=none->b∉fs->b∉ex->h'.get? b=some o
  slot:∀b o,h.get? b=some o->H b=none->b∈fs->b∉ex->∃sl,h'.get? b=some {o with slots:=sl}
  free:∀b o,h.get? b=some o->H b=none->b∉ex->H' b=none
  there:∀b o,h.get? b=some o->b∉ex->∃o',h'.get? b=some o'
  tups:∀b xs,H b=some (.tup xs)->H' b=some (.tup xs)
  qm:∀b o u,H b=some (.Ld o u)->H' b=some (.Ld o u)
  qp:∀b ps,H b=some (.Aq ps)->∃more,H' b=some (.Aq (ps++more))
section
variable {fs fs' ex ex':List Addr} {H H1 H2:Hp} {h h1 h2 h':Heap} {a x e:Addr} {o:HO}
theorem Un.any (u:Un fs ex H H1 h h1) {b:Addr} {ob:Obj} (q:h.get? b=some ob) (n:H b=none) (hx:b∉ex):∃sl,h1.get? b=some {ob with slots:=sl}:=by
  by_cases hb:b∈fs
  ·exact u.slot b ob q n hb hx
  ·exact⟨ob.slots,u.keep b ob q n hb hx⟩
theorem Un.kept (k:∀b u,h.get? b=some u->h'.get? b=some u):Un fs ex H H h h':=
  ⟨λb ob q _ _ _=>k b ob q,λb ob q _ _ _=>⟨ob.slots,k b ob q⟩,λ_ _ _ n _=>n,λb ob q _=>⟨ob,k b ob q⟩,λ_ _ q=>q,λ_ _ _ q=>q,λ_ ps q=>⟨#[],by rw[q];simp⟩⟩
theorem Un.refl:Un fs ex H H h h:=Un.kept λ_ _ q=>q
theorem Un.laid (k:∀b u,h.get? b=some u->h'.get? b=some u) (hp:h.objs.size<=a) (hn:H a=none):Un fs ex H (upd H a o) h h' where
  keep:=λb u q _ _ _=>k b u q
  slot:=λb u q _ _ _=>⟨u.slots,k b u q⟩
  free:=λb u q n _=>by rw[aB (ql3 (ql5 (qlW q) hp))];exact n
  there:=λb u q _=>⟨u,k b u q⟩
  tups:=λb xs q=>by rw[aB (aL q hn)];exact q
  qm:=λb u xs q=>by rw[aB (aL q hn)];exact q
  qp:=λb ps q=>⟨#[],by rw[aB (aL q hn),q];simp⟩
theorem Un.write (mu:Mut (H x)) (he:e=x\/H e=some (.own x)) (k:∀b u,b≠e->h.get? b=some u->h'.get? b=some u) (heo:∃u,h'.get? e=some u):Un fs ex H (upd H x o) h h':=by
  have hx:∀b,H b=none->b≠x:=λb n z=>by subst z;rw[n] at mu;exact mu
  have hb:∀b,H b=none->b≠e:=λb n z=>by
    subst z
    rcases he with r | r
    ·exact hx b n r
    ·rw[n] at r;cases r
  have hm:∀b u,H b=some u->¬Mut (some u)->b≠x:=λb u q nm z=>by subst z;rw[q] at mu;exact nm mu
  refine⟨λb u q n _ _=>k b u (hb b n) q,λb u q n _ _=>⟨u.slots,k b u (hb b n) q⟩,λb u q n _=>by rw[aB (hx b n)];exact n,λb u q _=>?_,
    λb xs q=>by rw[aB (hm b _ q λz=>z)];exact q,λb u xs q=>by rw[aB (hm b _ q λz=>z)];exact q,λb ps q=>⟨#[],by rw[aB (hm b _ q λz=>z),q];simp⟩⟩
  by_cases hbe:b=e
  ·subst hbe;exact heo
  ·exact⟨u,k b u hbe q⟩
end
def trk (h:Heap) (H:Hp):List Addr:=(List.range h.objs.size).filter λa=>(H a).isSome
def BK (h:Heap) (H:Hp):Heap:=W.hideAll h (trk h H)
theorem TF (h:Heap) (H:Hp):(BK h H).objs.size=h.objs.size:=W.hideAll_size _ _
theorem V9 {h:Heap} {H:Hp} {b:Addr} {o:Obj} (e:h.get? b=some o) (n:H b=none):(BK h H).get? b=some o:=
  W.hideAll_get _ e λhm=>by
    have q:(H b).isSome=true:=(qmd.mp hm).2;rw[n] at q;simp at q
theorem qad {h:Heap} {H:Hp} {b:Addr} {o:Obj} (e:(BK h H).get? b=some o):h.get? b=some o/\H b=none:=by
  have e':h.get? b=some o:=W.of_hideAll (trk h H) e;refine⟨e',?_⟩;cases q:H b with
  | none=>rfl
  | some x=>
    have hm:b∈trk h H:=qmd.mpr ⟨qnw.mpr (qlW e'),by simp[q]⟩;have z:(BK h H).get? b=none:=qoc (trk h H) hm;rw[z] at e;cases e
def qae (g h:Heap) (L:Addr):List (Addr×Obj):=(List.range h.objs.size).filterMap λa=>if a=L\/(g.get? a).isSome=true then none else (h.get? a).map λo=>(a,o)
def rest (g h:Heap) (L d:Addr):List (Addr×Obj):=(qae g h L).filter λp=>decide (p.1≠d)
structure Mod (K:W.Frag) (mg:Str->Option Value) (base:Heap):Prop where
  V_:K.In base
  glob:base.Ns mainGlobals mg
  blt:∃mb,base.Ns builtinsNs mb/\∀x:Str,x≠ "__name__" ->mb x=bootBuiltins x
  nolimit:base.NoLimit
set_option genInjectivity false in
structure Cx where
  prog:Program
  w:World
  K:W.Frag
  mg:Str->Option Value
  base:Heap
  A:Around
  N:List Str
  s₀:Shared
  H₀:Hp
  env:Env
  outer:List Env
  stack:List Env
  ex:List Addr
  fn:Str->Bool
  calm:Bool
  pn:List (Addr×Obj)
  xe:Value->Shared->Prop
def frs (l:List Env):List Addr:=l.filterMap (·.frame)
abbrev Cx.fs (X:Cx):List Addr:=frs X.outer
def Vis (sc:Scope) (x:Str):Prop:=sc.names.lookup x=some .local\/sc.names.lookup x=some .cell\/sc.names.lookup x=some .free
def Loc (sc:Scope) (x:Str):Prop:=sc.names.lookup x=some .local\/sc.names.lookup x=some .cell
def Look (env:Env) (h:Heap) (m:Str->Option Value) (x:Str) (u:Value):Prop:=
  (env.kindOf x=some .local/\m x=some u)\/((env.kindOf x=some .cell\/env.kindOf x=some .free)/\∃c,env.cells.lookup x=some c/\h.IsCell c (some u))
structure Cx.Ok (X:Cx):Prop where
  mod:Mod X.K X.mg X.base
  kind:X.env.scope.kind = .function
  glob:X.env.globals=mainGlobals
  blt:X.env.builtins=builtinsNs
  above:X.s₀.heap.objs.size<=X.env.locals
  inj:∀x y c,X.env.cells.lookup x=some c->X.env.cells.lookup y=some c->x=y
  has:∀x,(X.env.kindOf x=some .cell\/X.env.kindOf x=some .free)->∃c,X.env.cells.lookup x=some c
  cab:∀x c,X.fn x=true->X.env.cells.lookup x=some c->X.s₀.heap.objs.size<=c
  hd:X.calm=true->X.A.handled=none
  frames:X.A.frames=some X.stack
  stk:X.stack=X.outer\/(X.stack=X.env::X.outer/\X.env.frame=some X.env.locals)
  exf:∀b∈X.ex,b≠X.env.locals/\∀x c,X.env.cells.lookup x=some c->c≠b
  bs:∀b o,X.base.get? b=some o->X.s₀.heap.get? b=some o/\X.H₀ b=none
  TJ:X.base.objs.size<=X.s₀.heap.objs.size
  Le:∀b o,X.base.get? b=some o->b∉X.ex
  Im:∀b∈X.ex,b∉X.fs
  rY:X.s₀.heap.FunFrames X.base X.outer
  Wa:∀b∈X.fs,X.H₀ b=none
structure Inv (X:Cx) (p_:List (Addr×Obj)) (σ:List (Option V)) (H:Hp) (s:Shared):Prop where
  ok:X.Ok
  os:s.os=X.s₀.os
  bare:AllBare s.gens
  base:Un X.fs X.ex X.H₀ H X.s₀.heap s.heap
  loc:∃m,s.heap.Ns X.env.locals m/\∀(i:Nat) (x:Str) (v:V),X.N[i]? = some x->σ[i]? = some (some v)->Vis X.env.scope x->∃u,RelV v u/\Look X.env s.heap m x u
  cell:∀x c,X.env.cells.lookup x=some c->∃v,s.heap.IsCell c v
  free:H X.env.locals=none
  gj:∀x c,X.env.cells.lookup x=some c->H c=none
  pin:∀p∈X.pn++p_,s.heap.get? p.1=some p.2/\H p.1=none/\p.1≠X.env.locals/\p.1∉X.fs/\∀v,p.2.data≠.cell v
  hok:rW X.prog X.w H s.heap
  len:σ.length=X.N.length
section
variable {X:Cx} {p_:List (Addr×Obj)} {σ:List (Option V)} {H H':Hp} {s:Shared} {h':Heap}
theorem Cx.Ok.qjh (ok:X.Ok) {b:Addr} {o:Obj} (e:X.base.get? b=some o):b∉X.fs:=λhb=>by
  have:=(ok.rY.mem hb).1;rw[e] at this;cases this
theorem Inv.bs (I:Inv X p_ σ H s):∀b o,X.base.get? b=some o->s.heap.get? b=some o/\H b=none:=λb o e=>
  ⟨I.base.keep b o (I.ok.bs b o e).1 (I.ok.bs b o e).2 (I.ok.qjh e) (I.ok.Le b o e),I.base.free b o (I.ok.bs b o e).1 (I.ok.bs b o e).2 (I.ok.Le b o e)⟩
theorem Inv.bk (I:Inv X p_ σ H s):∀b o,X.base.get? b=some o->s.heap.get? b=some o:=λb o e=>(I.bs b o e).1
theorem Inv.mod (I:Inv X p_ σ H s):Mod X.K X.mg X.base:=I.ok.mod
theorem Inv.pP (I:Inv X p_ σ H s):X.K.In s.heap:=I.ok.mod.V_.keeps I.bk
theorem Inv.lt (I:Inv X p_ σ H s):X.env.locals<s.heap.objs.size:=let ⟨_,hn,_⟩:=I.loc;hn.lt
theorem Inv.sz (I:Inv X p_ σ H s):X.s₀.heap.objs.size<=s.heap.objs.size:=qmq I.ok.above (qnO I.lt)
theorem Inv.qji (I:Inv X p_ σ H s) {a:Addr} (h:s.heap.objs.size<=a):a∉X.fs:=λhb=>by
  obtain⟨_,o,ho,_⟩:=I.ok.rY.mem hb;exact absurd (ql5 (qlW ho) (qmq I.sz h)) (qmN _)
theorem Inv.cne (I:Inv X p_ σ H s):∀x c,X.env.cells.lookup x=some c->c≠X.env.locals:=λx c e z=>by
  obtain⟨v,o,ho,hd⟩:=I.cell x c e;obtain⟨m,⟨o',es,ep,ho',hd',_⟩,_⟩:=I.loc;rw[z,ho'] at ho;cases ho;rw[hd'] at hd;cases hd
theorem Inv.rY (I:Inv X p_ σ H s):s.heap.FunFrames X.base X.outer:=by
  have all:∀(l:List Env),(∀b∈frs l,b∈X.fs)->X.s₀.heap.FunFrames X.base l->s.heap.FunFrames X.base l:=by
    intro l
    induction l with
    | nil=>intro _ _;trivial
    | cons env r ih=>
      intro hs hl;obtain⟨hk,⟨L,o,hf,hn,ho,hd⟩,hr⟩:=hl;have hL:L∈X.fs:=hs L (by unfold frs;rw[qoh,hf];exact ql6);obtain⟨sl,e⟩:=I.base.slot L o ho (I.ok.Wa L hL) hL λz=>I.ok.Im L z hL;exact⟨hk,⟨L,_,hf,hn,e,hd⟩,ih (λb hb=>hs b (by unfold frs;rw[qoh,hf];exact qlZ _ hb)) hr⟩
  exact all X.outer (λ_ hb=>hb) I.ok.rY
theorem Inv.stack (I:Inv X p_ σ H s):s.heap.FunFrames X.base X.stack:=by
  rcases I.ok.stk with e | ⟨e,hf⟩
  ·rw[e];exact I.rY
  ·rw[e];obtain⟨m,hn,_⟩:=I.loc;refine .cons (by rw[I.ok.kind];decide) hf hn ?_ I.rY;exact Heap.get?_none_of_le (qmq I.ok.TJ I.ok.above)
theorem Inv.vA (I:Inv X p_ σ H s):∀b∈frs X.stack,b∈X.env.locals::X.fs:=λb hb=>by
  rcases I.ok.stk with e | ⟨e,hf⟩
  ·rw[e] at hb;exact qlZ _ hb
  ·rw[e] at hb;unfold frs at hb;rw[qoh,hf] at hb;exact hb
theorem Inv.Ba (I:Inv X p_ σ H s):∀b∈frs X.stack,H b=none:=λb hb=>by
  rcases ql1.mp (I.vA b hb) with e | hb
  ·rw[e];exact I.free
  ·obtain⟨_,o,ho,_⟩:=I.ok.rY.mem hb;exact I.base.free b o ho (I.ok.Wa b hb) λz=>I.ok.Im b z hb
theorem Inv.step {g':Array GenState} {t':Nat} {d':Drawn} {ch:List Addr} (I:Inv X p_ σ H s)
    (hch:∀b∈ch,(b∈X.ex\/X.s₀.heap.objs.size<=b)/\b≠X.env.locals/\(∀x c,X.env.cells.lookup x=some c->c≠b)/\∀p∈X.pn++p_,p.1≠b)
    (keep:∀b o,b≠X.env.locals->b∉X.fs->b∉ch->s.heap.get? b=some o->H b=none->h'.get? b=some o)
    (slot:∀b o,b≠X.env.locals->b∈X.fs->b∉ch->s.heap.get? b=some o->H b=none->∃sl,h'.get? b=some {o with slots:=sl}) (free:∀b o,b∉ch->s.heap.get? b=some o->H b=none->H' b=none)
    (there:∀b o,b∉ch->s.heap.get? b=some o->∃o',h'.get? b=some o')
    (tups:∀b xs,H b=some (.tup xs)->H' b=some (.tup xs)) (qm:∀b o u,H b=some (.Ld o u)->H' b=some (.Ld o u)) (qp:∀b ps,H b=some (.Aq ps)->∃more,H' b=some (.Aq (ps++more)))
    (ns:∀m,s.heap.Ns X.env.locals m->h'.Ns X.env.locals m) (hok:rW X.prog X.w H' h') (hg:AllBare g') :
    Inv X p_ σ H' {s with heap:=h',gens:=g',drawn:=d',toks:=t'}:=by
  have neL:∀b o,X.s₀.heap.get? b=some o->b≠X.env.locals:=λb o e=>ql3 (ql5 (qlW e) I.ok.above);have neC:∀b o,X.s₀.heap.get? b=some o->b∉X.ex->b∉ch:=λb o e hx hb=>by
    rcases(hch b hb).1 with z | z
    ·exact hx z
    ·exact absurd (ql5 (qlW e) z) (qmN _)
  have cellK:∀x c,X.env.cells.lookup x=some c->∀v,s.heap.IsCell c v->h'.IsCell c v:=λx c e v ⟨o,ho,hd⟩=>by
    have nch:c∉ch:=λz=>(hch c z).2.2.1 x c e rfl
    by_cases hc:c∈X.fs
    ·obtain⟨sl,q⟩:=slot c o (I.cne x c e) hc nch ho (I.gj x c e);exact⟨_,q,hd⟩
    ·exact⟨o,keep c o (I.cne x c e) hc nch ho (I.gj x c e),hd⟩
  refine⟨I.ok,I.os,hg,⟨λb o e n hb hx=>?_,λb o e n hb hx=>?_,λb o e n hx=>?_,λb o e hx=>?_,λb xs e=>tups b xs (I.base.tups b xs e),λb o xs e=>qm b o xs (I.base.qm b o xs e),λb ps e=>?_⟩,?_,λx c e=>?_,?_,λx c e=>?_,λp hp=>?_,hok,I.len⟩
  ·exact keep b o (neL b o e) hb (neC b o e hx) (I.base.keep b o e n hb hx) (I.base.free b o e n hx)
  ·obtain⟨sl,e1⟩:=I.base.slot b o e n hb hx;obtain⟨sl',e2⟩:=slot b _ (neL b o e) hb (neC b o e hx) e1 (I.base.free b o e n hx);exact⟨sl',e2⟩
  ·obtain⟨o',e1⟩:=I.base.there b o e hx;exact free b o' (neC b o e hx) e1 (I.base.free b o e n hx)
  ·obtain⟨o',e1⟩:=I.base.there b o e hx;exact there b o' (neC b o e hx) e1
  ·obtain⟨m1,e1⟩:=I.base.qp b ps e;obtain⟨m2,e2⟩:=qp b _ e1;exact⟨m1++m2,by rw[e2,Array.append_assoc]⟩
  . obtain⟨m,hn,hl⟩:=I.loc;refine⟨m,ns m hn,λi x v e1 e2 e3=>?_⟩;obtain⟨u,r,l⟩:=hl i x v e1 e2 e3;refine⟨u,r,?_⟩
    rcases l with l | ⟨k,c,e,z⟩
    ·exact .inl l
    ·exact .inr ⟨k,c,e,cellK x c e _ z⟩
  ·obtain⟨v,z⟩:=I.cell x c e;exact⟨v,cellK x c e v z⟩
  ·obtain⟨m,⟨o,_,_,ho,_⟩,_⟩:=I.loc;exact free _ o (λz=>(hch _ z).2.1 rfl) ho I.free
  ·obtain⟨v,o,ho,hd⟩:=I.cell x c e;exact free c o (λz=>(hch c z).2.2.1 x c e rfl) ho (I.gj x c e)
  ·obtain⟨e,n,ne,nf,d⟩:=I.pin p hp;have nch:p.1∉ch:=λz=>(hch p.1 z).2.2.2 p hp rfl;exact⟨keep p.1 p.2 ne nf nch e n,free p.1 p.2 nch e n,ne,nf,d⟩
theorem Inv.un {t':Nat} (I:Inv X p_ σ H s) (u:Un X.fs [] H H' s.heap h') (hok:rW X.prog X.w H' h'):Inv X p_ σ H' {s with heap:=h',toks:=t'}:=by
  obtain⟨m,⟨o,es,ep,ho,r⟩,_⟩:=id I.loc;obtain⟨sl,hL⟩:=u.any ho I.free (by simp);exact I.step (g':=s.gens) (d':=s.drawn) (ch:=[]) (λ_ z=>nomatch z) (λb o _ hb _ e n=>u.keep b o e n hb (by simp)) (λb o _ hb _ e n=>u.slot b o e n hb (by simp)) (λb o _ e n=>u.free b o e n (by simp)) (λb o _ e=>u.there b o e (by simp)) u.tups u.qm u.qp (λm' hm=>by
    obtain⟨o',es',ep',ho',r'⟩:=hm;rw[ho] at ho';cases ho';exact⟨_,es',ep',hL,r'⟩) hok I.bare
theorem Inv.call {g':Array GenState} {t':Nat} {d':Drawn} {ch:List Addr} (I:Inv X p_ σ H s) (u:Un (frs X.stack) ch H H' s.heap h') (hok:rW X.prog X.w H' h') (hg:AllBare g')
    (hch:∀b∈ch,(b∈X.ex\/X.s₀.heap.objs.size<=b)/\b≠X.env.locals/\(∀x c,X.env.cells.lookup x=some c->c≠b)/\∀p∈X.pn++p_,p.1≠b) :
    Inv X p_ σ H' {s with heap:=h',gens:=g',drawn:=d',toks:=t'}:=by
  obtain⟨m,⟨o,es,ep,ho,r⟩,_⟩:=id I.loc;obtain⟨sl,hL⟩:=u.any ho I.free λz=>(hch _ z).2.1 rfl;exact I.step (ch:=ch) hch (λb o hL hb hc e n=>u.keep b o e n (λz=>(ql1.mp (I.vA b z)).elim hL hb) hc) (λb o _ _ hc e n=>u.any e n hc) (λb o hc e n=>u.free b o e n hc) (λb o hc e=>u.there b o e hc) u.tups u.qm u.qp (λm' hm=>by
    obtain⟨o',es',ep',ho',r'⟩:=hm;rw[ho] at ho';cases ho';exact⟨_,es',ep',hL,r'⟩) hok hg
theorem Inv.turned {t':Nat} {it:Addr} (I:Inv X p_ σ H s) (k:∀b o,b≠it->s.heap.get? b=some o->h'.get? b=some o) (hn:H it=none) (hL:it≠X.env.locals)
    (h1:it∈X.ex\/X.s₀.heap.objs.size<=it) (h2:∀x c,X.env.cells.lookup x=some c->c≠it) (h3:∀p∈X.pn++p_,p.1≠it):Inv X p_ σ H {s with heap:=h',toks:=t'}:=by
  have nit:∀b u,H b=some u->b≠it:=λb u e z=>by rw[z,hn] at e;cases e
  refine I.step (g':=s.gens) (d':=s.drawn) (ch:=[it]) (λb hb=>?_) (λb o _ _ hc e _=>k b o (λz=>hc (by simp[z])) e) (λb o _ _ hc e _=>⟨o.slots,k b o (λz=>hc (by simp[z])) e⟩) (λ_ _ _ _ n=>n)
    (λb o hc e=>⟨o,k b o (λz=>hc (by simp[z])) e⟩) (λ_ _ e=>e) (λ_ _ _ e=>e) (λb ps e=>⟨#[],by rw[e];simp⟩) (λm hm=>?_) (λb u e=>?_) I.bare
  . have e:b=it:=by simpa using hb
    subst e;exact⟨h1,hL,h2,h3⟩
  ·obtain⟨o,es,ep,ho,r⟩:=hm;exact⟨o,es,ep,k _ o (qnx hL) ho,r⟩
  . refine(I.hok b u e).stay (λc v hc q=>k c v ?_ q) (λ_ q=>q) λ_ _ q=>q
    rcases hc with z | z
    ·rw[z];exact nit b u e
    ·exact nit c _ z
theorem Inv.tok (I:Inv X p_ σ H s) (t:Nat):Inv X p_ σ H {s with toks:=t}:=I.un (h':=s.heap) (t':=t) Un.refl I.hok
theorem Inv.kept {t':Nat} (I:Inv X p_ σ H s) (k:∀b u,s.heap.get? b=some u->h'.get? b=some u):Inv X p_ σ H {s with heap:=h',toks:=t'}:=I.un (Un.kept k) (I.hok.kept k)
theorem Inv.laid {a:Addr} {o:HO} {t':Nat} (I:Inv X p_ σ H s) (k:∀b u,s.heap.get? b=some u->h'.get? b=some u) (hp:s.heap.objs.size<=a) (new:bZ X.prog X.w (upd H a o) h' a o) :
    Inv X p_ σ (upd H a o) {s with heap:=h',toks:=t'}:=I.un (Un.laid k hp (I.hok.fresh hp)) (I.hok.laid k hp new)
theorem Inv.write {x e:Addr} {o:HO} {t':Nat} (I:Inv X p_ σ H s) (mu:Mut (H x)) (he:e=x\/H e=some (.own x)) (k:∀b u,b≠e->s.heap.get? b=some u->h'.get? b=some u) (heo:∃u,h'.get? e=some u)
    (new:bZ X.prog X.w (upd H x o) h' x o):Inv X p_ σ (upd H x o) {s with heap:=h',toks:=t'}:=I.un (Un.write mu he k heo) (I.hok.write mu he k heo new)
theorem Inv.Rt {BL:List (Addr×Obj)} (I:Inv X p_ σ H s) (h:∀p∈BL,s.heap.get? p.1=some p.2/\H p.1=none/\p.1≠X.env.locals/\p.1∉X.fs/\∀v,p.2.data≠.cell v):Inv X BL σ H s:=
  ⟨I.ok,I.os,I.bare,I.base,I.loc,I.cell,I.free,I.gj,λp hp=>(qmh.mp hp).elim (λz=>I.pin p (qmC _ z)) (h p),I.hok,I.len⟩
theorem BP {N:List Str} (hN:N.Nodup) {i j:Nat} {x:Str} (a:N[i]? = some x) (b:N[j]? = some x):i=j:=by
  obtain⟨h1,e1⟩:=qlT.mp a;obtain⟨h2,e2⟩:=qlT.mp b;exact(List.getElem_inj hN).mp (e1.trans e2.symm)
theorem pQ {M:Model} {A:Around} {E:Value->Shared->Prop} {i:Nat} {x:Str} {v:V} {u:Value} {Q:Unit->Shared->Prop} (I:Inv X p_ σ H s) (hN:X.N.Nodup) (hi:X.N[i]? = some x) (hx:Loc X.env.scope x) (r:RelV v u)
    (h:∀s',Inv X p_ (σ.set i (some v)) H s'->(∃a,Heap.SameBut a s.heap s'.heap/\(a=X.env.locals\/X.env.cells.lookup x=some a))->Q () s') (hf:X.fn x=true\/X.env.scope.names.lookup x=some .local:=by first | exact .inl rfl | exact .inr rfl | assumption):wpAny M A (storeName X.env x u) Q E s:=by
  obtain⟨m,hn,hl⟩:=id I.loc;have hcls:(X.env.scope.kind == .class || (X.env.scope.kind == .module && X.env.locals != X.env.globals))=false:=by rw[I.ok.kind];rfl
  have hiσ:i<σ.length:=by rw[I.len];exact(qlT.mp hi).1
  have cne:=I.cne;have tracked:∀{a:Addr} {h':Heap},(∃o,s.heap.get? a=some o/\H a=none)->Heap.SameBut a s.heap h'->rW X.prog X.w H h':=λ{a h'} ha hs b ob e=>by
    obtain⟨_,_,hfree⟩:=ha;refine(I.hok b ob e).stay (λc w' hc q=>(hs.2 c ?_).trans q) (λ_ q=>q) λ_ _ q=>q;rintro rfl
    rcases hc with rfl | hc
    ·rw[hfree] at e;cases e
    ·rw[hfree] at hc;cases hc
  rcases hx with hk | hk
  . refine wpAny_storeName_local hk hn (λh' hn' hs=>?_) hcls;obtain⟨oL,_,_,hoL,_⟩:=id hn;refine h _ ⟨I.ok,I.os,I.bare,⟨λb o e n hb hx=>?_,λb o e n hb hx=>?_,I.base.free,λb o e hx=>?_,I.base.tups,I.base.qm,I.base.qp⟩,⟨_,hn',λj y v' e1 e2 e3=>?_⟩,λy c e=>?_,I.free,I.gj,λp hp=>?_,tracked ⟨oL,hoL,I.free⟩ hs,by simpa using I.len⟩ ⟨_,hs,.inl rfl⟩
    ·exact(hs.2 b (ql3 (ql5 (qlW e) I.ok.above))).trans (I.base.keep b o e n hb hx)
    ·obtain⟨sl,e1⟩:=I.base.slot b o e n hb hx;exact⟨sl,(hs.2 b (ql3 (ql5 (qlW e) I.ok.above))).trans e1⟩
    ·obtain⟨o',e1⟩:=I.base.there b o e hx;exact⟨o',(hs.2 b (ql3 (ql5 (qlW e) I.ok.above))).trans e1⟩
    . by_cases hj:j=i
      ·subst hj;rw[hi] at e1;cases e1;rw[qnX hiσ] at e2;cases e2;exact⟨u,r,.inl ⟨hk,by simp⟩⟩
      . rw[List.getElem?_set_ne (qnx hj)] at e2;obtain⟨u',r',q⟩:=hl j y v' e1 e2 e3;refine⟨u',r',?_⟩
        rcases q with⟨k,e⟩ | ⟨k,c,e,z⟩
        ·refine .inl ⟨k,?_⟩;have:y≠x:=λe=>hj (BP hN e1 (e▸hi));simp[this,e]
        ·exact .inr ⟨k,c,e,z.sameBut hs (cne y c e)⟩
    ·obtain⟨w',z⟩:=I.cell y c e;exact⟨w',z.sameBut hs (cne y c e)⟩
    ·obtain⟨e,n,ne,nf,d⟩:=I.pin p hp;exact⟨(hs.2 p.1 ne).trans e,n,ne,nf,d⟩
  . have hfn:X.fn x=true:=by
      rcases hf with z | z
      ·exact z
      ·rw[z] at hk;cases hk
    obtain⟨c,hc⟩:=I.ok.has x (.inl hk);obtain⟨w',z⟩:=I.cell x c hc;refine wpAny_storeName_cell I.ok.kind hk hc z (λh' hc' hs=>?_);obtain⟨oc,hoc,qjj⟩:=id z;refine h {s with heap:=h'} ⟨I.ok,I.os,I.bare,⟨λb o e n hb hx=>?_,λb o e n hb hx=>?_,I.base.free,λb o e hx=>?_,I.base.tups,I.base.qm,I.base.qp⟩,⟨m,hn.sameBut hs (qnx (cne x c hc)),λj y v' e1 e2 e3=>?_⟩,λy c' e=>?_,I.free,I.gj,λp hp=>?_,tracked ⟨oc,hoc,I.gj x c hc⟩ hs,by simpa using I.len⟩ ⟨c,hs,.inr hc⟩
    ·exact(hs.2 b (ql3 (ql5 (qlW e) (I.ok.cab x c hfn hc)))).trans (I.base.keep b o e n hb hx)
    ·obtain⟨sl,e1⟩:=I.base.slot b o e n hb hx;exact⟨sl,(hs.2 b (ql3 (ql5 (qlW e) (I.ok.cab x c hfn hc)))).trans e1⟩
    ·obtain⟨o',e1⟩:=I.base.there b o e hx;exact⟨o',(hs.2 b (ql3 (ql5 (qlW e) (I.ok.cab x c hfn hc)))).trans e1⟩
    . by_cases hj:j=i
      ·subst hj;rw[hi] at e1;cases e1;rw[qnX hiσ] at e2;cases e2;exact⟨u,r,.inr ⟨.inl hk,c,hc,hc'⟩⟩
      . rw[List.getElem?_set_ne (qnx hj)] at e2;obtain⟨u',r',q⟩:=hl j y v' e1 e2 e3;refine⟨u',r',?_⟩
        rcases q with q | ⟨k,c',e,z'⟩
        ·exact .inl q
        ·refine .inr ⟨k,c',e,z'.sameBut hs ?_⟩;rintro rfl;exact hj (BP hN e1 (I.ok.inj _ _ _ e hc▸hi))
    . by_cases hcc:c'=c
      ·subst hcc;exact⟨_,hc'⟩
      ·obtain⟨w2,z2⟩:=I.cell y c' e;exact⟨w2,z2.sameBut hs hcc⟩
    ·obtain⟨e,n,ne,nf,d⟩:=I.pin p hp;refine⟨(hs.2 p.1 ?_).trans e,n,ne,nf,d⟩;intro q;rw[q,hoc] at e;have q':oc=p.2:=qmp e;exact d w' (by rw[<- q'];exact qjj)
theorem BW {M:Model} {A:Around} {E:Value->Shared->Prop} {i:Nat} {x:Str} {v:V} {u:Value} {Q:Unit->Shared->Prop} (I:Inv X p_ σ H s) (hN:X.N.Nodup) (hi:X.N[i]? = some x) (hx:Loc X.env.scope x) (r:RelV v u)
    (h:∀s',Inv X p_ (σ.set i (some v)) H s'->Q () s') (hf:X.fn x=true\/X.env.scope.names.lookup x=some .local:=by first | exact .inl rfl | exact .inr rfl | assumption):wpAny M A (storeName X.env x u) Q E s:=
  pQ I hN hi hx r (λs' I' _=>h s' I') hf
theorem Inv.call' {s':Shared} {ch:List Addr} (I:Inv X p_ σ H s) (ho:s'.os=s.os) (u:Un (frs X.stack) ch H H' s.heap s'.heap) (hok:rW X.prog X.w H' s'.heap) (hg:AllBare s'.gens)
    (hch:∀b∈ch,(b∈X.ex\/X.s₀.heap.objs.size<=b)/\b≠X.env.locals/\(∀x c,X.env.cells.lookup x=some c->c≠b)/\∀p∈X.pn++p_,p.1≠b):Inv X p_ σ H' s':=by
  obtain⟨h',g',d',t',o'⟩:=s';have e:o'=s.os:=ho;subst e;exact I.call (g':=g') (t':=t') (d':=d') u hok hg hch
end
abbrev XK:=Value->Option Addr->Hp->Prop
abbrev St:=List (Option V)
abbrev VK:=V->Hp->Prop
abbrev TE:=St->Hp->VK->Prop
abbrev TT:=St->Hp->(Bool->Hp->Prop)->Prop
abbrev TA:=St->Hp->(List V->Hp->Prop)->Prop
structure Ends where
  nx:St->Hp->Prop
  rt:VK
  bk:St->Hp->Prop:=λ_ _=>False
  ct:St->Hp->Prop:=λ_ _=>False
abbrev TS:=Ends->St->Hp->Prop
def EP (X:Cx) (p_:List (Addr×Obj)) (σ:St) (Q:VK) (u:Value) (s':Shared):Prop:=∃v H',Inv X p_ σ H' s'/\RelV v u/\Q v H'
def TP (X:Cx) (p_:List (Addr×Obj)) (σ:St) (Q:Bool->Hp->Prop) (b:Bool) (s':Shared):Prop:=∃H',Inv X p_ σ H' s'/\Q b H'
def AP (X:Cx) (p_:List (Addr×Obj)) (σ:St) (Q:List V->Hp->Prop) (us:List Value) (s':Shared):Prop:=∃vs H',Inv X p_ σ H' s'/\Vals vs us/\Q vs H'
def SP (X:Cx) (p_:List (Addr×Obj)) (D:Ends) (f:Flow) (s':Shared):Prop:=
  match f with
  | .next=>∃σ' H',Inv X p_ σ' H' s'/\D.nx σ' H'
  | .brk=>∃σ' H',Inv X p_ σ' H' s'/\D.bk σ' H'
  | .cont=>∃σ' H',Inv X p_ σ' H' s'/\D.ct σ' H'
  | .ret u=>∃v σ' H',Inv X p_ σ' H' s'/\RelV v u/\D.rt v H'
def PE (X:Cx) (e:Expr) (t:TE):Prop:=
  ∀(p_:List (Addr×Obj)) (s:Shared) (σ:St) (H:Hp) (Q:VK),Inv X p_ σ H s->t σ H Q->wpAny (model X.prog X.w) X.A (eval e X.env) (EP X p_ σ Q) X.xe s
def PT (X:Cx) (e:Expr) (t:TT):Prop:=
  ∀(p_:List (Addr×Obj)) (s:Shared) (σ:St) (H:Hp) (Q:Bool->Hp->Prop),Inv X p_ σ H s->t σ H Q->wpAny (model X.prog X.w) X.A (isTrue e X.env (eval e X.env)) (TP X p_ σ Q) X.xe s
def PW (X:Cx) (e:Expr) (t:TT):Prop:=
  ∀(whole:Sem Value) (p_:List (Addr×Obj)) (s:Shared) (σ:St) (H:Hp) (Q:Bool->Hp->Prop),Inv X p_ σ H s->t σ H Q->wpAny (model X.prog X.w) X.A (isTrue e X.env whole) (TP X p_ σ Q) X.xe s
theorem PW.pt {X:Cx} {e:Expr} {t:TT} (h:PW X e t):PT X e t:=h _
def PA (X:Cx) (es:List Expr) (t:TA):Prop:=
  ∀(pos:Pos) (p_:List (Addr×Obj)) (s:Shared) (σ:St) (H:Hp) (Q:List V->Hp->Prop),Inv X p_ σ H s->t σ H Q->wpAny (model X.prog X.w) X.A (spliced (backTo pos (starEach es X.env))) (AP X p_ σ Q) X.xe s
def PS (X:Cx) (st:Stmt) (t:TS):Prop:=
  ∀(p_:List (Addr×Obj)) (s:Shared) (σ:St) (H:Hp) (D:Ends),Inv X p_ σ H s->t D σ H->wpAny (model X.prog X.w) X.A (exec st X.env) (SP X p_ D) X.xe s
def GC (X:Cx) (st:List Stmt) (t:TS):Prop:=
  ∀(p_:List (Addr×Obj)) (s:Shared) (σ:St) (H:Hp) (D:Ends),Inv X p_ σ H s->t D σ H->wpAny (model X.prog X.w) X.A (execs st X.env) (SP X p_ D) X.xe s
theorem bY {α:Type} {t:Sem α} {Q Q':α->Shared->Prop} {M:Model} {A:Around} {E:Value->Shared->Prop} {s:Shared} (h:wpAny M A t Q E s) (hQ:∀a s,Q a s->Q' a s):wpAny M A t Q' E s:=qmt h hQ λ_ _ x=>x
section
variable {X:Cx}
def qaf (i:Nat):TE:=λσ H Q=>∃v,σ[i]? = some (some v)/\Q v H
def tC (v:V):TE:=λ_ H Q=>Q v H
theorem Wb {i:Nat} {x:Str} {pos:Pos} (hN:X.N[i]? = some x) (hv:Vis X.env.scope x) (hd:(x == ("__debug__" : Str))=false:=by decide) (hcd:(x == ("__classdict__" : Str))=false:=by decide):PE X (.Name x pos) (qaf i):=by
  intro p_ s σ H Q I h;obtain⟨v,e,h⟩:=h;obtain⟨m,hn,hl⟩:=I.loc;obtain⟨u,r,l⟩:=hl i x v hN e hv;have fin:EP X p_ σ Q u s:=⟨v,H,I,r,h⟩
  rcases l with⟨hk,hm⟩ | ⟨hk,c,hc,hcell⟩
  ·exact wpAny_Name (wpAny_loadName_local I.ok.kind hk hn hm fin) hd
  . rcases hk with hk | hk
    ·exact wpAny_Name (wpAny_loadName_cell I.ok.kind hk hc hcell fin) hd
    ·exact wpAny_Name (wpAny_loadName_free I.ok.kind hk hc hcell fin hcd) hd
theorem aK {i j pos}:PE X (.Constant (.int i) j pos) (tC (.int i)):=λ_ _ _ H _ I h=>wpAny_Constant_int ⟨.int i,H,I.tok _,⟨_,rfl⟩,h⟩
theorem pR {b j pos}:PE X (.Constant (.bool b) j pos) (tC (.bl b)):=λ_ _ _ H _ I h=>Constant_bool ⟨.bl b,H,I,rfl,h⟩
theorem Wc {j pos}:PE X (.Constant .none j pos) (tC .non):=λ_ _ _ H _ I h=>Constant_none ⟨.non,H,I,rfl,h⟩
theorem O2 {x j pos}:PE X (.Constant (.str x) j pos) (tC (.str x)):=λ_ _ _ H _ I h=>Calls.Constant_str ⟨.str x,H,I.tok _,⟨_,rfl⟩,h⟩
def Gl (X:Cx) (x:Str):Prop:=X.env.kindOf x=some .globalImplicit
theorem qt {E:Value->Shared->Prop} {p_:List (Addr×Obj)} {s:Shared} {σ:St} {H:Hp} {x:Str} {u:Value} {pos:Pos} {Q:Value->Shared->Prop} (I:Inv X p_ σ H s) (hg:Gl X x) (hm:X.mg x=some u) (h:Q u s)
    (hd:(x == ("__debug__" : Str))=false:=by decide):wpAny (model X.prog X.w) X.A (eval (.Name x pos) X.env) Q E s:=
  Calls.Name_function_global I.ok.kind hg (Calls.loadGlobal_global (by rw[I.ok.glob];exact I.mod.glob.keeps I.bk) hm h) hd
theorem jh {E:Value->Shared->Prop} {p_:List (Addr×Obj)} {s:Shared} {σ:St} {H:Hp} {x:Str} {u:Value} {pos:Pos} {Q:Value->Shared->Prop} (I:Inv X p_ σ H s) (hg:Gl X x) (hm:X.mg x=none) (hv:bootBuiltins x=some u) (h:Q u s)
    (hn:x≠ "__name__" :=by decide) (hd:(x == ("__debug__" : Str))=false:=by decide):wpAny (model X.prog X.w) X.A (eval (.Name x pos) X.env) Q E s:=by
  obtain⟨mb,h1,h2⟩:=I.mod.blt;exact Calls.Name_function_global I.ok.kind hg (Calls.loadGlobal_builtin (by rw[I.ok.glob];exact I.mod.glob.keeps I.bk) hm (by rw[I.ok.blt];exact h1.keeps I.bk) ((h2 x hn).trans hv) h) hd
theorem wD {x:Str} {v:V} {u:Value} {pos:Pos} (hg:Gl X x) (hm:X.mg x=some u) (r:RelV v u) (hd:(x == ("__debug__" : Str))=false:=by decide):PE X (.Name x pos) (tC v):=
  λ_ _ _ H _ I h=>qt I hg hm ⟨v,H,I,r,h⟩ hd
theorem lW {x:Str} {v:V} {u:Value} {pos:Pos} (hg:Gl X x) (hm:X.mg x=none) (hv:bootBuiltins x=some u) (r:RelV v u) (hn:x≠ "__name__" :=by decide) (hd:(x == ("__debug__" : Str))=false:=by decide):PE X (.Name x pos) (tC v):=
  λ_ _ _ H _ I h=>jh I hg hm hv ⟨v,H,I,r,h⟩ hn hd
variable {a b:Expr} {ta tb:TE} {pos:Pos}
def PC (X:Cx) (op:CmpOp) (a b:Expr) (t:TE):Prop:=
  ∀(p_:List (Addr×Obj)) (s:Shared) (σ:St) (H:Hp) (Q:VK),Inv X p_ σ H s->t σ H Q->
    wpAny (model X.prog X.w) X.A (eval a X.env) (λv s₁=>wpAny (model X.prog X.w) X.A (eval b X.env) (λu s₂=>wpAny (model X.prog X.w) X.A (compareOp op v u) (EP X p_ σ Q) X.xe s₂) X.xe s₁) X.xe s
theorem Lg (b:Expr) {op:CmpOp} (h:op≠.In) (h2:op≠.NotIn):behindInMarks op b=false:=by
  have e1:(op == CmpOp.In)=false:=by cases op <;> first | rfl | exact absurd rfl h
  have e2:(op == CmpOp.NotIn)=false:=by cases op <;> first | rfl | exact absurd rfl h2
  cases b <;> simp[behindInMarks,e1,e2]
def tB (t:TE):TT:=λσ H Q=>t σ H λx H1=>∃c,x = .bl c/\Q c H1
theorem qc3 {op:CmpOp} {t:TE} (h:PC X op a b t) (h1:behindInMarks op b=false:=by first | exact Lg _ (by decide) (by decide) | rfl):PT X (.Compare a [op] [b] pos) (tB t):=by
  intro p_ s σ H Q I hw;refine wpAny_isTrue_Compare1 (bY (h p_ s σ H _ I hw) λv s1 h1=>bY h1 λu s2 h2=>bY h2 λc s3 zz=>?_) h1;obtain⟨x,H1,I1,r1,q1⟩:=zz;obtain⟨d,rfl,q⟩:=q1;cases r1;exact qmZ ⟨H1,I1,q⟩
theorem qc4 {e:Expr} {t:TE} (h:PE X e t) (he:∀whole,isTrue e X.env whole=(do let v <- whole;standAt e.pos;holding [v] (truthy v)):=by intro _;rfl):PT X e (tB t):=by
  intro p_ s σ H Q I hw;refine isTrue_plain (bY (h p_ s σ H _ I hw) λv s1 zz=>?_) (he _);obtain⟨x,H1,I1,r1,q1⟩:=zz;obtain⟨d,rfl,q⟩:=q1;cases r1;exact qmZ ⟨H1,I1,q⟩
variable {tA tB':TT} {rest:List Expr}
def qfs (t u:TT):TT:=λσ H Q=>t σ H λc H1=>if c=true then u σ H1 Q else Q false H1
def tOr (t u:TT):TT:=λσ H Q=>t σ H λc H1=>if c=true then Q true H1 else u σ H1 Q
def qft (t:TT):TT:=λσ H Q=>t σ H λc H1=>Q (!c) H1
theorem Bb (ha:PT X a tA):PW X (.BoolOp .And [a] pos) tA:=by
  intro wh p_ s σ H Q I h;refine isTrue_and (bY (ha p_ s σ H Q I h) λc s1 e=>?_);cases c with
  | true=>exact isTrue_and_nil e
  | false=>exact e
theorem lD (ha:PT X a tA):PW X (.BoolOp .Or [a] pos) tA:=by
  intro wh p_ s σ H Q I h;refine isTrue_or (bY (ha p_ s σ H Q I h) λc s1 e=>?_);cases c with
  | false=>exact isTrue_or_nil e
  | true=>exact e
theorem Io (ha:PT X a tA) (hb:PW X (.BoolOp .And (b::rest) pos) tB'):PW X (.BoolOp .And (a::b::rest) pos) (qfs tA tB'):=by
  intro wh p_ s σ H Q I h;refine isTrue_and (bY (ha p_ s σ H _ I h) λc s1 zz=>?_);obtain⟨H1,I1,q1⟩:=zz;cases c with
  | true=>exact hb wh p_ s1 σ H1 Q I1 q1
  | false=>exact⟨H1,I1,q1⟩
theorem rJ (ha:PT X a tA) (hb:PW X (.BoolOp .Or (b::rest) pos) tB'):PW X (.BoolOp .Or (a::b::rest) pos) (tOr tA tB'):=by
  intro wh p_ s σ H Q I h;refine isTrue_or (bY (ha p_ s σ H _ I h) λc s1 zz=>?_);obtain⟨H1,I1,q1⟩:=zz;cases c with
  | true=>exact⟨H1,I1,q1⟩
  | false=>exact hb wh p_ s1 σ H1 Q I1 q1
theorem dI (ha:PT X a tA):PT X (.UnaryOp .Not a pos) (qft tA):=by
  intro p_ s σ H Q I h;exact isTrue_not (ha p_ s σ H (λc H1=>Q (!c) H1) I h)
def Wd (ta tb:TE):TE:=λσ H Q=>ta σ H λx H1=>∃c,x = .bl c/\if c=true then tb σ H1 Q else Q (.bl false) H1
def Wf (ta:TE):TE:=λσ H Q=>ta σ H λx H1=>∃c,x = .bl c/\Q (.bl (!c)) H1
theorem rZ {op} {t:TE} (h:PE X a t):PE X (.BoolOp op [a] pos) t:=λp_ s σ H Q I hw=>BoolOp_one (h p_ s σ H Q I hw)
theorem qc5 (ha:PE X a ta) (hb:PE X (.BoolOp .And (b::rest) pos) tb):PE X (.BoolOp .And (a::b::rest) pos) (Wd ta tb):=by
  intro p_ s σ H Q I h;refine BoolOp_and (bY (ha p_ s σ H _ I h) λv s1 zz=>?_);obtain⟨x,H1,I1,r1,q1⟩:=zz;obtain⟨c,rfl,q1⟩:=q1;cases r1;refine qmZ ?_;cases c with
  | true=>exact hb p_ s1 σ H1 Q I1 q1
  | false=>exact⟨.bl false,H1,I1,rfl,q1⟩
theorem qc6 (ha:PE X a ta):PE X (.UnaryOp .Not a pos) (Wf ta):=by
  intro p_ s σ H Q I h;refine UnaryOp_ (bY (ha p_ s σ H _ I h) λv s1 zz=>?_);obtain⟨x,H1,I1,r1,q1⟩:=zz;obtain⟨c,rfl,q1⟩:=q1;cases r1;exact not_of (qmZ ⟨.bl (!c),H1,I1,rfl,q1⟩)
def tIf (t:TT) (ta tb:TE):TE:=λσ H Q=>t σ H λc H1=>if c=true then ta σ H1 Q else tb σ H1 Q
theorem BX {c:Expr} (hc:PT X c tA) (ha:PE X a ta) (hb:PE X b tb):PE X (.IfExp c a b pos) (tIf tA ta tb):=by
  intro p_ s σ H Q I h;refine wpAny_IfExp (bY (hc p_ s σ H _ I h) λd s1 zz=>?_);obtain⟨H1,I1,q1⟩:=zz;cases d with
  | true=>exact ha p_ s1 σ H1 Q I1 q1
  | false=>exact hb p_ s1 σ H1 Q I1 q1
end
def aX (K:W.Frag) (H:Hp) (a:Addr) (xs:List V):Prop:=
  Rd H a (.lst xs)\/
    ∃(o:Obj) (its:Array Value) (n:Nat),K.lookup a=some o/\o.cls = .type "list" /\o.dict=none/\o.data = .seq its n/\its.size<=sizeLine/\Vals xs its.toList
def dO (K:W.Frag) (H:Hp) (a:Addr) (xs:List V):Prop:=
  Rd H a (.tup xs)\/
    ∃(o:Obj) (its:Array Value) (n:Nat),K.lookup a=some o/\o.cls = .type "tuple" /\o.data = .seq its n/\its.size<=sizeLine/\Vals xs its.toList
def qjk:Value->Option V
  | .none=>some .non
  | .bool b=>some (.bl b)
  | .int i _=>some (.int i)
  | .str x _=>some (.str x)
  | .bytes b _=>some (.V1 b)
  | .float b _=>some (.flt b)
  | .ref a=>some (.ref a)
  | .type n=>some (.ty n)
  | _=>none
theorem RelV.abs {x:V} {u:Value} (r:RelV x u):qjk u=some x:=by
  cases x with
  | non=>cases r;rfl
  | bl _=>cases r;rfl
  | int _=>obtain⟨t,rfl⟩:=r;rfl
  | str _=>obtain⟨t,rfl⟩:=r;rfl
  | V1 _=>obtain⟨t,rfl⟩:=r;rfl
  | flt _=>obtain⟨t,rfl⟩:=r;rfl
  | ref _=>cases r;rfl
  | ty _=>cases r;rfl
theorem RelV.inj {x y:V} {u:Value} (r:RelV x u) (q:RelV y u):x=y:=qmp (r.abs.symm.trans q.abs)
theorem Vals.inj:∀{xs ys:List V} {us:List Value},Vals xs us->Vals ys us->xs=ys
  | _,_,_,.nil,.nil=>rfl
  | _,_,_,.cons r t,.cons r' t'=>by rw[r.inj r',Vals.inj t t']
section
variable {X:Cx} {p_:List (Addr×Obj)} {σ:St} {H:Hp} {s:Shared} {a:Addr} {xs ys:List V}
theorem aX.of {K:W.Frag} (h:H a=some (.lst xs)):aX K H a xs:=.inl (.inl h)
theorem dO.of {K:W.Frag} (h:H a=some (.tup xs)):dO K H a xs:=.inl (.inl h)
theorem Inv.list (I:Inv X p_ σ H s) (h:aX X.K H a xs):∃its:List Value,Vals xs its/\PlainL s.heap a its.toArray/\xs.length<=sizeLine:=by
  rcases h with h | ⟨o,its,n,hk,hc,hd,hs,hz,r⟩
  ·obtain⟨z,its,n,r,e⟩:=h.ok I.hok;exact⟨its,r,⟨_,n,e,rfl,rfl,rfl⟩,z⟩
  ·refine⟨its.toList,r,⟨o,n,I.pP a o hk,hc,hd,by simpa using hs⟩,?_⟩;have e:=r.length;simp only[qoi] at e;omega
theorem Inv.tuple (I:Inv X p_ σ H s) (h:dO X.K H a xs):∃its:List Value,Vals xs its/\IsTup s.heap a its.toArray/\xs.length<=sizeLine:=by
  rcases h with h | ⟨o,its,n,hk,hc,hs,hz,r⟩
  ·obtain⟨z,its,r,p⟩:=h.ok I.hok;exact⟨its,r,p,z⟩
  ·refine⟨its.toList,r,⟨o,I.pP a o hk,hc,n,by simpa using hs⟩,?_⟩;have e:=r.length;simp only[qoi] at e;omega
theorem Inv.su (I:Inv X p_ σ H s) (h:aX X.K H a xs) (h':aX X.K H a ys):xs=ys:=by
  obtain⟨its,r,⟨o,n,e,_,_,d⟩,_⟩:=I.list h;obtain⟨its',r',⟨o',n',e',_,_,d'⟩,_⟩:=I.list h';rw[e] at e';cases e';rw[d] at d';injection d' with d1 _;have:its=its':=by simpa using qmr Array.toList d1
  subst this;exact r.inj r'
theorem Inv.GD (I:Inv X p_ σ H s) (h:dO X.K H a xs) (h':dO X.K H a ys):xs=ys:=by
  obtain⟨its,r,⟨o,e,_,n,d⟩,_⟩:=I.tuple h;obtain⟨its',r',⟨o',e',_,n',d'⟩,_⟩:=I.tuple h';rw[e] at e';cases e';rw[d] at d';injection d' with d1 _;have:its=its':=by simpa using qmr Array.toList d1
  subst this;exact r.inj r'
end
abbrev Cx.wish (X:Cx) (E:Value->Shared->Prop):Cx:={X with xe:=E}
abbrev Cx.Ru (X:Cx):Cx:=X.wish λ_ _=>False
theorem Cx.Ok.wish {X:Cx} (ok:X.Ok) (E:Value->Shared->Prop):(X.wish E).Ok:=
  ⟨ok.mod,ok.kind,ok.glob,ok.blt,ok.above,ok.inj,ok.has,ok.cab,ok.hd,ok.frames,ok.stk,ok.exf,ok.bs,ok.TJ,ok.Le,ok.Im,ok.rY,ok.Wa⟩
theorem Cx.Ok.sy {X:Cx} {E:Value->Shared->Prop} (ok:(X.wish E).Ok):X.Ok:=
  ⟨ok.mod,ok.kind,ok.glob,ok.blt,ok.above,ok.inj,ok.has,ok.cab,ok.hd,ok.frames,ok.stk,ok.exf,ok.bs,ok.TJ,ok.Le,ok.Im,ok.rY,ok.Wa⟩
section
variable {X:Cx} {p_:List (Addr×Obj)} {σ:St} {H:Hp} {s:Shared} {E:Value->Shared->Prop}
theorem Inv.wish (I:Inv X p_ σ H s) (E:Value->Shared->Prop):Inv (X.wish E) p_ σ H s:=⟨I.ok.wish E,I.os,I.bare,I.base,I.loc,I.cell,I.free,I.gj,I.pin,I.hok,I.len⟩
theorem Inv.sy (I:Inv (X.wish E) p_ σ H s):Inv X p_ σ H s:=⟨I.ok.sy,I.os,I.bare,I.base,I.loc,I.cell,I.free,I.gj,I.pin,I.hok,I.len⟩
theorem SP.sy {D:Ends} {f:Flow} {s':Shared} (h:SP (X.wish E) p_ D f s'):SP X p_ D f s':=by
  cases f with
  | next=>obtain⟨σ',H',I,q⟩:=h;exact⟨σ',H',I.sy,q⟩
  | brk=>obtain⟨σ',H',I,q⟩:=h;exact⟨σ',H',I.sy,q⟩
  | cont=>obtain⟨σ',H',I,q⟩:=h;exact⟨σ',H',I.sy,q⟩
  | ret u=>obtain⟨v,σ',H',I,r,q⟩:=h;exact⟨v,σ',H',I.sy,r,q⟩
theorem GC.Ru {st:List Stmt} {t:TS} (h:GC X.Ru st t):GC X st t:=λp_ s σ H D I hw=>
  qmt (h p_ s σ H D (I.wish _) hw) (λ_ _ q=>q.sy) λ_ _ z=>False.elim z
end
section
variable {X:Cx} {st:Stmt} {rest:List Stmt} {t u:TS} {e:Expr} {te:TE} {pos:Pos}
def qch:TS:=λD σ H=>D.nx σ H
def qc7 (t u:TS):TS:=λD σ H=>t {D with nx:=u D} σ H
theorem bG:GC X [] qch:=λ_ _ σ H _ I h=>wpAny_execs_nil ⟨σ,H,I,h⟩
theorem aC (h1:PS X st t) (h2:GC X rest u):GC X (st::rest) (qc7 t u):=by
  intro p_ s σ H D I h;refine wpAny_execs_cons (bY (h1 p_ s σ H {D with nx:=u D} I h) λf s1 q=>?_);cases f with
  | next=>
    obtain⟨σ',H',I',q⟩:=q;exact h2 p_ s1 σ' H' D I' q
  | ret v=>exact q
  | brk=>exact q
  | cont=>exact q
theorem aD (h1:PS X st t):GC X [st] t:=by
  intro p_ s σ H D I h;refine wpAny_execs_cons (bY (h1 p_ s σ H D I h) λf s1 q=>?_);cases f with
  | next=>exact wpAny_execs_nil q
  | ret v=>exact q
  | brk=>exact q
  | cont=>exact q
theorem Inv.quiet {p_:List (Addr×Obj)} {σ:St} {H:Hp} {s:Shared} (I:Inv X p_ σ H s):interactive X.env=false:=by simp[interactive,I.ok.kind]
def qci (te:TE):TS:=λD σ H=>te σ H λ_ H1=>D.nx σ H1
theorem fG (he:PE X e te) (hs:swapsWith e none pos.line X.env=pure false:=by rfl):PS X (.Expr e pos) (qci te):=by
  intro p_ s σ H D I h;refine wpAny_Expr_any (bY (he p_ s σ H _ I h) λv s1 zz=>?_) I.quiet hs;obtain⟨x,H1,I1,r1,q1⟩:=zz;exact⟨σ,H1,I1,q1⟩
def qfu (te:TE):TS:=λD σ H=>te σ H D.rt
theorem aZ (he:PE X e te):PS X (.Return (some e) pos) (qfu te):=by
  intro p_ s σ H D I h;refine wpAny_Return_some (bY (he p_ s σ H _ I h) λv s1 zz=>?_);obtain⟨x,H1,I1,r1,q1⟩:=zz;exact⟨x,σ,H1,I1,r1,q1⟩
def qfv (c:TT) (t u:TS):TS:=λD σ H=>c σ H λb H1=>if b=true then t D σ H1 else u D σ H1
theorem dJ {c:Expr} {a b:List Stmt} {tc:TT} (hc:PT X c tc) (ha:GC X a t) (hb:GC X b u):PS X (.If c a b pos) (qfv tc t u):=by
  intro p_ s σ H D I h;refine wpAny_If (bY (hc p_ s σ H _ I h) λd s1 zz=>?_);obtain⟨H1,I1,q1⟩:=zz;cases d with
  | true=>exact ha p_ s1 σ H1 D I1 q1
  | false=>exact hb p_ s1 σ H1 D I1 q1
def Wg:TS:=λ_ _ _=>False
theorem iu:PS X st Wg:=λ_ _ _ _ _ _ h=>h.elim
end
abbrev TG:=V->St->Hp->(St->Hp->Prop)->Prop
abbrev K6:=List V->St->Hp->(St->Hp->Prop)->Prop
def PG (X:Cx) (target:Expr) (t:TG):Prop:=
  ∀(p_:List (Addr×Obj)) (s:Shared) (σ:St) (H:Hp) (v:V) (u:Value) (Q:St->Hp->Prop),Inv X p_ σ H s->RelV v u->t v σ H Q->
    wpAny (model X.prog X.w) X.A (assign target X.env u) (λ_ s'=>∃σ' H',Inv X p_ σ' H' s'/\Q σ' H') X.xe s
def fP (X:Cx) (ts:List Expr) (t:K6):Prop:=
  ∀(p_:List (Addr×Obj)) (s:Shared) (σ:St) (H:Hp) (vs:List V) (us:List Value) (Q:St->Hp->Prop),Inv X p_ σ H s->Vals vs us->t vs σ H Q->
    wpAny (model X.prog X.w) X.A (assignInOrder ((assignEach ts X.env).map (·.2)) us) (λ_ s'=>∃σ' H',Inv X p_ σ' H' s'/\Q σ' H') X.xe s
abbrev TQ:=V->V->V->Hp->(Hp->Prop)->Prop
def TV (X:Cx) (t:TQ):Prop:=
  ∀(p_:List (Addr×Obj)) (s:Shared) (σ:St) (H:Hp) (o i v:V) (ov iv u:Value) (Q:Hp->Prop),Inv X p_ σ H s->RelV o ov->RelV i iv->RelV v u->t o i v H Q->
    wpAny (model X.prog X.w) X.A (setItem ov iv u) (λ_ s'=>∃H',Inv X p_ σ H' s'/\Q H') X.xe s
abbrev TIp:=V->V->Hp->VK->Prop
def PIp (X:Cx) (op:Operator) (t:TIp):Prop:=
  ∀(p_:List (Addr×Obj)) (s:Shared) (σ:St) (H:Hp) (x y:V) (v u:Value) (Q:VK),Inv X p_ σ H s->RelV x v->RelV y u->t x y H Q->
    wpAny (model X.prog X.w) X.A (inplaceOp op v u) (EP X p_ σ Q) X.xe s
section
variable {X:Cx} {pos:Pos}
def Lh (i:Nat):TG:=λv σ H Q=>Q (σ.set i (some v)) H
theorem aJ {i:Nat} {x:Str} (hN:X.N.Nodup) (hi:X.N[i]? = some x) (hx:Loc X.env.scope x) (hf:X.fn x=true\/X.env.scope.names.lookup x=some .local:=by first | exact .inl rfl | exact .inr rfl | assumption):PG X (.Name x pos) (Lh i):=by
  intro p_ s σ H v u Q I r h;exact wpAny_assign_Name (BW I hN hi hx r (λs' I'=>⟨_,H,I',h⟩) hf)
def qc8:K6:=λvs σ H Q=>vs=[]/\Q σ H
def Wh (t:TG) (u:K6):K6:=λvs σ H Q=>∃v r,vs=v::r/\t v σ H λσ' H'=>u r σ' H' Q
theorem cH:fP X [] qc8:=by
  intro p_ s σ H vs us Q I r h;obtain⟨e,h⟩:=h;subst e;cases r;exact assignInOrder_nil ⟨σ,H,I,h⟩
theorem aU {e:Expr} {es:List Expr} {t:TG} {u:K6} (h1:PG X e t) (h2:fP X es u)
    (hs:(assignEach (e::es) X.env).map (·.2)=assign e X.env::(assignEach es X.env).map (·.2):=by rfl):fP X (e::es) (Wh t u):=by
  intro p_ s σ H vs us Q I r h;obtain⟨v,vr,e1,h⟩:=h;subst e1;cases r with
  | cons r rr=>
    rw[hs];refine assignInOrder_cons (bY (h1 p_ s σ H _ _ _ I r h) λ_ s1 zz=>?_);obtain⟨σ1,H1,I1,q1⟩:=zz;exact h2 p_ s1 σ1 H1 _ _ Q I1 rr q1
def qag (K:W.Frag) (n:Nat) (t:K6):TG:=λv σ H Q=>∃a xs,v = .ref a/\dO K H a xs/\xs.length=n/\t xs σ H Q
theorem qc9 {es:List Expr} {k:Nat} {t:K6} {n:Nat} (hc:X.calm=true) (h:fP X es t)
    (hn:(assignEach es X.env).length=n:=by rfl) (hst:(assignEach es X.env).findIdx? (·.1)=none:=by rfl):PG X (.Tuple es k pos) (qag X.K n t):=by
  intro p_ s σ H v u Q I r hw;obtain⟨a,xs,e1,hq,hl,hw⟩:=hw;subst e1;cases r;obtain⟨its,rv,ht,hz⟩:=I.tuple hq;refine assign_Tuple_tuple (I.ok.hd hc) ht (by simp[hn,<- hl,rv.length]) hst λh' hx=>?_;have I1:Inv X p_ σ H {s with heap:=h'}:=I.kept (t':=s.toks) λb o e=>hx b o (ql3 (qlW e)) e;exact h p_ _ σ H xs _ Q I1 (by simpa using rv) hw
def qfw (to ti:TE) (t:TQ):TG:=λv σ H Q=>to σ H λo H1=>ti σ H1 λi H2=>t o i v H2 λH3=>Q σ H3
theorem Wi {o i:Expr} {to ti:TE} {t:TQ} (ho:PE X o to) (hi:PE X i ti) (hs:TV X t)
    (ha:∀v,assign (.Subscript o i pos) X.env v=(do
      let ov <- holding [v] (eval o X.env)
      let iv <- holding [v,ov] (eval i X.env)
      standAt pos
      holding [v,ov,iv] (setItem ov iv v)
      release [v,ov,iv] []):=by intro _;rfl):PG X (.Subscript o i pos) (qfw to ti t):=by
  intro p_ s σ H v u Q I r h;rw[ha];refine qlS (qmF (bY (ho p_ s σ H _ I h) λov s1 zz=>?_));obtain⟨x,H1,I1,r1,q1⟩:=zz;refine qlS (qmF (bY (hi p_ s1 σ H1 _ I1 q1) λiv s2 zz=>?_));obtain⟨y,H2,I2,r2,q2⟩:=zz;refine qlS (qnl (qlS (qmF (bY (hs p_ s2 σ H2 x y v ov iv u _ I2 r1 r2 r q2) λ_ s3 zz=>?_))));obtain⟨H3,I3,q3⟩:=zz;exact wpAny_release ⟨σ,H3,I3,q3⟩
def TX (te:TE) (g:TG):TS:=λD σ H=>te σ H λx H1=>g x σ H1 D.nx
theorem Ip {tg e:Expr} {te:TE} {g:TG} (he:PE X e te) (hg:PG X tg g) (hs:swapsWithSole [tg] e pos.line X.env=pure false:=by rfl) (hw:swappedStores [tg] e X.env=pure none:=by rfl)
    (h1:(assignEach [tg] X.env).map (·.2)=[assign tg X.env]:=by rfl):PS X (.Assign [tg] e pos) (TX te g):=by
  intro p_ s σ H D I h;refine wpAny_Assign_stores (bY (he p_ s σ H _ I h) λv s1 zz=>?_) hs hw;obtain⟨x,H1,I1,r1,q1⟩:=zz;rw[h1];exact bY (hg p_ s1 σ H1 x v _ I1 r1 q1) λ_ s2 q=>q
theorem bC {i:Nat} {x:Str} {e:Expr} {te:TE} {pos':Pos} (hN:X.N.Nodup) (hi:X.N[i]? = some x) (hx:Loc X.env.scope x) (he:PE X e te) (hs:swapsWith e (some (.Name x pos')) pos.line X.env=pure false:=by rfl) (hf:X.fn x=true\/X.env.scope.names.lookup x=some .local:=by first | exact .inl rfl | exact .inr rfl | assumption) :
    PS X (.Assign [.Name x pos'] e pos) (TX te (Lh i)):=by
  intro p_ s σ H D I h;refine wpAny_Assign_Name (bY (he p_ s σ H _ I h) λv s1 zz=>?_) hs;obtain⟨y,H1,I1,r1,q1⟩:=zz;exact BW I1 hN hi hx r1 (λs2 I2=>⟨_,H1,I2,q1⟩) hf
def qc_ (i:Nat) (te:TE) (ti:TIp):TS:=λD σ H=>∃x,σ[i]? = some (some x)/\te σ H λy H1=>ti x y H1 λz H2=>D.nx (σ.set i (some z)) H2
theorem qda {i:Nat} {x:Str} {e:Expr} {te:TE} {op:Operator} {ti:TIp} {pos':Pos} (hN:X.N.Nodup) (hi:X.N[i]? = some x) (hx:Loc X.env.scope x) (he:PE X e te) (ho:PIp X op ti) (hf:X.fn x=true\/X.env.scope.names.lookup x=some .local:=by first | exact .inl rfl | exact .inr rfl | assumption) :
    PS X (.AugAssign (.Name x pos') op e pos) (qc_ i te ti):=by
  intro p_ s σ H D I h;obtain⟨v,e1,h⟩:=h;obtain⟨m,hn,hl⟩:=I.loc;have vis:Vis X.env.scope x:=by rcases hx with k | k;exact .inl k;exact .inr (.inl k)
  obtain⟨u,r,l⟩:=hl i x v hi e1 vis;refine wpAny_AugAssign_Name ?_;have go:wpAny (model X.prog X.w) X.A (eval e X.env) (λw s₂=>wpAny (model X.prog X.w) X.A (inplaceOp op u w) (λr s₃=>wpAny (model X.prog X.w) X.A (storeName X.env x r) (λ_=>SP X p_ D .next) X.xe s₃) X.xe s₂) X.xe s:=by
    refine bY (he p_ s σ H _ I h) λw s1 zz=>?_;obtain⟨y,H1,I1,r1,q1⟩:=zz;refine bY (ho p_ s1 σ H1 v y u w _ I1 r r1 q1) λz s2 zz=>?_;obtain⟨zv,H2,I2,r2,q2⟩:=zz;exact BW I2 hN hi hx r2 (λs3 I3=>⟨_,H2,I3,q2⟩) hf
  rcases l with⟨hk,hm⟩ | ⟨hk,c,hc,hcell⟩
  ·exact wpAny_loadName_local I.ok.kind hk hn hm go
  . rcases hk with hk | hk
    ·exact wpAny_loadName_cell I.ok.kind hk hc hcell go
    . rcases hx with k | k
      ·have:X.env.scope.names.lookup x=some .free:=hk;rw[k] at this;cases this
      ·have:X.env.scope.names.lookup x=some .free:=hk;rw[k] at this;cases this
def ipI (f:Int->Int->Int):TIp:=λx y H Q=>∃i j,x = .int i/\y = .int j/\Q (.int (f i j)) H
theorem qdb:PIp X .Add (ipI λi j=>i+j):=by
  intro p_ s σ H x y v u Q I r1 r2 h;obtain⟨i,j,e1,e2,q⟩:=h;subst e1;subst e2;obtain⟨t,rfl⟩:=r1;obtain⟨t',rfl⟩:=r2;exact iadd_int ⟨.int _,H,I.tok _,⟨_,rfl⟩,q⟩
end
section
variable {X:Cx} {pos:Pos}
def Ir (c:TT) (tb:TS):TS:=λD σ H=>∃g8:Nat->St->Hp->Prop,(∃m,g8 m σ H)/\∀m σ H,g8 m σ H->
  c σ H λb H1=>if b=true then ∃N:St->Hp->Prop,(∀σ' H',N σ' H'->∃m',m'<m/\g8 m' σ' H')/\tb {D with nx:=N,ct:=N,bk:=D.nx} σ H1 else D.nx σ H1
theorem Li {c:Expr} {body:List Stmt} {tc:TT} {tb:TS} (hp:PassesOwn (model X.prog X.w) X.A X.env X.xe) (hc:PT X c tc) (hb:GC X body tb):PS X (.While c body [] pos) (Ir tc tb):=by
  intro p_ s σ H D I h;obtain⟨g8,⟨m0,w0⟩,turn⟩:=h;refine wpAny_While (codeAny_whileLoop (λn s'=>∃σ' H',Inv X p_ σ' H' s'/\g8 n σ' H') ?_ m0 ⟨σ,H,I,w0⟩);rintro n s1 ⟨σ1,H1,I1,w1⟩;refine qnM hp (bY (hc p_ s1 σ1 H1 _ I1 (turn n σ1 H1 w1)) λb s2 zz=>?_);obtain⟨H2,I2,q2⟩:=zz;cases b with
  | true=>
    obtain⟨N,hN,q2⟩:=q2;rw[if_pos rfl];refine qnM hp (bY (hb p_ s2 σ1 H2 _ I2 q2) λf s3 q3=>?_);cases f with
    | next=>
      obtain⟨σ3,H3,I3,n3⟩:=q3;obtain⟨m',hm,w3⟩:=hN σ3 H3 n3;exact⟨m',hm,σ3,H3,I3,w3⟩
    | cont=>
      obtain⟨σ3,H3,I3,n3⟩:=q3;obtain⟨m',hm,w3⟩:=hN σ3 H3 n3;exact⟨m',hm,σ3,H3,I3,w3⟩
    | brk=>exact q3
    | ret v=>exact q3
  | false=>
    rw[if_neg ql_];exact wpAny_execs_nil ⟨σ1,H2,I2,q2⟩
end
structure It where
  go:Nat->Hp->Prop
  Wj:Nat->Hp->V->Hp->Prop
  stop:Nat->Hp->Prop
def iK (X:Cx) (p_:List (Addr×Obj)) (H:Hp) (b:Addr):Prop:=
  H b=none/\b≠X.env.locals/\b∉X.fs/\(b∈X.ex\/X.s₀.heap.objs.size<=b)/\(∀x c,X.env.cells.lookup x=some c->c≠b)/\∀p∈X.pn++p_,p.1≠b
theorem Inv.Ar {X:Cx} {p_:List (Addr×Obj)} {σ:St} {H H':Hp} {s:Shared} {b:Addr} (I:Inv X p_ σ H s) (hb:s.heap.objs.size<=b) (hn:H' b=none):iK X p_ H' b:=by
  refine⟨hn,qmY (ql5 I.lt hb),I.qji hb,.inr (qmq I.sz hb),λx c e z=>?_,λp hp z=>?_⟩
  ·obtain⟨v,q⟩:=I.cell x c e;exact absurd (ql5 q.lt (by rw[z];exact hb)) (qmN _)
  ·exact absurd (ql5 (qlW (I.pin p hp).1) (by rw[z];exact hb)) (qmN _)
structure Turn (P:Program) (w:World) (K:W.Frag) (tg:Expr) (J:It) (fp:List Addr) (it:Addr) (tn:Nat->Heap->Prop):Prop where
  mem:it∈fp
  obj:∀i h,tn i h->∀b∈fp,∃o,h.get? b=some o/\∀v,o.data≠.cell v
  keep:∀i h h',tn i h->(∀b∈fp,∀o,h.get? b=some o->h'.get? b=some o)->tn i h'
  item:∀(X:Cx),X.prog=P->X.w=w->X.K=K->X.calm=true->∀(i:Nat) (p_:List (Addr×Obj)) (s:Shared) (σ:St) (H:Hp) (E:Value->Shared->Prop),Inv X p_ σ H s->(∀b∈fp,iK X p_ H b)->tn i s.heap->J.go i H->
    wpAny (model P w) X.A (pyNext (.ref it)) (λr s1=>∃u,r=some u/\
      wpAny (model P w) X.A (letOwnedTupleGo tg (.ref it) u) (λ_ s2=>∃x H',Inv X p_ σ H' s2/\RelV x u/\J.Wj i H x H'/\tn (i+1) s2.heap/\∀b∈fp,H' b=none) E s1) E s
  done:∀(X:Cx),X.prog=P->X.w=w->X.K=K->X.calm=true->∀(i:Nat) (p_:List (Addr×Obj)) (s:Shared) (σ:St) (H:Hp) (E:Value->Shared->Prop),Inv X p_ σ H s->(∀b∈fp,iK X p_ H b)->tn i s.heap->J.stop i H->
    wpAny (model P w) X.A (pyNext (.ref it)) (λr s1=>r=none/\Inv X p_ σ H s1) E s
  self:∀(A:Around) (i:Nat) (s:Shared) (Q:Value->Shared->Prop) (E:Value->Shared->Prop),tn i s.heap->Q (.ref it) s->wpAny (model P w) A (pyIter (.ref it)) Q E s
abbrev TI:=St->Hp->(It->Hp->Prop)->Prop
def PIE (X:Cx) (p_:List (Addr×Obj)) (σ:St) (tg:Expr) (R:It->Hp->Prop) (itv:Value) (s2:Shared):Prop:=
  ∃(it:Addr) (fp:List Addr) (tn:Nat->Heap->Prop) (J:It) (H':Hp),itv = .ref it/\Inv X p_ σ H' s2/\Turn X.prog X.w X.K tg J fp it tn/\tn 0 s2.heap/\(∀b∈fp,iK X p_ H' b)/\R J H'
def PI (X:Cx) (tg iter:Expr) (wi:TI):Prop:=
  ∀(p_:List (Addr×Obj)) (s:Shared) (σ:St) (H:Hp) (R:It->Hp->Prop),Inv X p_ σ H s->wi σ H R->
    wpAny (model X.prog X.w) X.A (eval iter X.env) (λv s1=>wpAny (model X.prog X.w) X.A (pyIter v) (PIE X p_ σ tg R) X.xe s1) X.xe s
theorem Wk {M:Model} {A:Around} {E:Value->Shared->Prop} {s:Shared} {tg:Expr} {it:Addr} {u:Value} {o:Obj} {n:String} {vs:Array Value} {Q:Unit->Shared->Prop} (ho:s.heap.get? it=some o) (hc:o.cls = .type n) (hd:o.data = .fields vs)
    (hn : ["enumerate", "zip", "dict_itemiterator", "dict_reverseitemiterator", "odict_iterator", "itertools.zip_longest", "itertools.pairwise"].contains n=false) (hQ:Q () s):wpAny M A (letOwnedTupleGo tg (.ref it) u) Q E s:=by
  unfold letOwnedTupleGo;cases tg <;> first
    | exact qlV hQ
    | (cases u <;> first
        | exact qlV hQ
        | (refine qlS (wpAny_load ho ?_)
           rw[hc,hd];show wpAny M A (if (["enumerate", "zip", "dict_itemiterator", "dict_reverseitemiterator", "odict_iterator", "itertools.zip_longest", "itertools.pairwise"].contains n && vs[0]? == some (rawInt _))=true then _ else _) Q E s
           rw[if_neg (by intro h;rw[hn,Bool.false_and] at h;cases h)];exact qlV hQ))
def V2 (K:W.Frag) (a:Addr):It:=
  ⟨λi H=>∃xs x,aX K H a xs/\xs[i]? = some x,λi H x H'=>H'=H/\∀xs,aX K H a xs->xs[i]? = some x,λi H=>∃xs,aX K H a xs/\xs.length<=i⟩
def Itt (K:W.Frag) (a:Addr):It:=
  ⟨λi H=>∃xs x,dO K H a xs/\xs[i]? = some x,λi H x H'=>H'=H/\∀xs,dO K H a xs->xs[i]? = some x,λi H=>∃xs,dO K H a xs/\xs.length<=i⟩
def Oz (lo:Int) (n:Nat):It:=⟨λi _=>i<n,λi H x H'=>H'=H/\x = .int (lo+i),λi _=>n<=i⟩
theorem GF {P:Program} {w:World} {K:W.Frag} {tg:Expr} (a it:Addr):Turn P w K tg (V2 K a) [it] it (λi h=>h.IsListIter it a i) where
  mem:=by simp
  obj:=λi h st b hb=>by
    have e:b=it:=by simpa using hb
    subst e;obtain⟨o,e,c,d⟩:=st;exact⟨o,e,λv z=>by rw[d] at z;cases z⟩
  keep:=λi h h' st k=>st.at λo e=>k it (by simp) o e
  item:=by
    intro X hP hw hK hc i p_ s σ H E I hf st hg;subst hP hw hK;obtain⟨xs,x,hq,hx⟩:=hg;obtain⟨its,rv,p,hz⟩:=I.list hq;obtain⟨u,hu,ru⟩:=rv.get hx;obtain⟨f0,f1,f2,f3,f4,f5⟩:=hf it (by simp);refine wpAny_pyNext_list_item st p.isList (x:=u) (by simpa using hu) λh' st' sb=>?_;have I1:Inv X p_ σ H {s with heap:=h'}:=I.turned (t':=s.toks) (λb o hb e=>(sb.2 b hb).trans e) f0 f1 f3 f4 f5;obtain⟨o,e,c,d⟩:=id st';exact⟨u,rfl,Wk (s:={s with heap:=h'}) e c d (by decide) ⟨x,H,I1,ru,⟨rfl,λys hy=>by rw[I.su hy hq];exact hx⟩,st',λb hb=>(hf b hb).1⟩⟩
  done:=by
    intro X hP hw hK hc i p_ s σ H E I hf st hg;subst hP hw hK;obtain⟨xs,hq,hx⟩:=hg;obtain⟨its,rv,p,hz⟩:=I.list hq;obtain⟨f0,f1,f2,f3,f4,f5⟩:=hf it (by simp);have hl:=rv.length;exact wpAny_pyNext_list_end (I.ok.hd hc) st p.isList (by simp;omega) λh' eb=>⟨rfl,I.turned (t':=s.toks) (λb o hb e=>eb b o hb e) f0 f1 f3 f4 f5⟩
  self:=λ_ _ _ _ _ st h=>wpAny_pyIter_listiter st h
theorem BZ {P:Program} {w:World} {K:W.Frag} {tg:Expr} (a it:Addr):Turn P w K tg (Itt K a) [it] it (λi h=>h.IsTupleIter it a i) where
  mem:=by simp
  obj:=λi h st b hb=>by
    have e:b=it:=by simpa using hb
    subst e;obtain⟨o,e,c,d⟩:=st;exact⟨o,e,λv z=>by rw[d] at z;cases z⟩
  keep:=λi h h' st k=>st.at λo e=>k it (by simp) o e
  item:=by
    intro X hP hw hK hc i p_ s σ H E I hf st hg;subst hP hw hK;obtain⟨xs,x,hq,hx⟩:=hg;obtain⟨its,rv,p,hz⟩:=I.tuple hq;obtain⟨u,hu,ru⟩:=rv.get hx;obtain⟨f0,f1,f2,f3,f4,f5⟩:=hf it (by simp);refine wpAny_pyNext_tuple_item st (show s.heap.IsTuple a its.toArray from p) (x:=u) (by simpa using hu) λh' st' sb=>?_;have I1:Inv X p_ σ H {s with heap:=h'}:=I.turned (t':=s.toks) (λb o hb e=>(sb.2 b hb).trans e) f0 f1 f3 f4 f5;obtain⟨o,e,c,d⟩:=id st';exact⟨u,rfl,Wk (s:={s with heap:=h'}) e c d (by decide) ⟨x,H,I1,ru,⟨rfl,λys hy=>by rw[I.GD hy hq];exact hx⟩,st',λb hb=>(hf b hb).1⟩⟩
  done:=by
    intro X hP hw hK hc i p_ s σ H E I hf st hg;subst hP hw hK;obtain⟨xs,hq,hx⟩:=hg;obtain⟨its,rv,p,hz⟩:=I.tuple hq;obtain⟨f0,f1,f2,f3,f4,f5⟩:=hf it (by simp);have hl:=rv.length;exact wpAny_pyNext_tuple_end (I.ok.hd hc) st (show s.heap.IsTuple a its.toArray from p) (by simp;omega) λh' eb=>⟨rfl,I.turned (t':=s.toks) (λb o hb e=>eb b o hb e) f0 f1 f3 f4 f5⟩
  self:=λ_ _ _ _ _ st h=>wpAny_pyIter_tupleiter st h
theorem O4 {P:Program} {w:World} {K:W.Frag} {tg:Expr} (it:Addr) (lo:Int) (n:Nat):Turn P w K tg (Oz lo n) [it] it (λi h=>IsRangeIter h it (lo+(i:Nat) * 1) ((n:Int) - (i:Nat)) 1) where
  mem:=by simp
  obj:=λi h st b hb=>by
    have e:b=it:=by simpa using hb
    subst e;exact⟨_,st,λv z=>by
      have z':Data.fields _=Data.cell v:=z;cases z'⟩
  keep:=λi h h' st k=>k it (by simp) _ st
  item:=by
    intro X hP hw hK hc i p_ s σ H E I hf st hg;subst hP hw hK;obtain⟨f0,f1,f2,f3,f4,f5⟩:=hf it (by simp);have g8:=Walks.range (prog:=X.prog) (w:=X.w) (I.ok.hd hc) it lo 1 n;refine g8.item i s _ _ hg st λv h' tk hv st' kk=>?_;obtain⟨t,rfl⟩:=hv;have I1:Inv X p_ σ H {s with heap:=h',toks:=tk}:=I.turned (λb o hb e=>kk b o (by simpa using hb) e) f0 f1 f3 f4 f5;refine⟨_,rfl,Wk (s:={s with heap:=h',toks:=tk}) (n:= "range_iterator") st' rfl rfl (by decide) ⟨.int (lo+i),H,I1,⟨t,?_⟩,⟨rfl,rfl⟩,st',λb hb=>(hf b hb).1⟩⟩;rw[Int.mul_one]
  done:=by
    intro X hP hw hK hc i p_ s σ H E I hf st hg;subst hP hw hK;obtain⟨f0,f1,f2,f3,f4,f5⟩:=hf it (by simp);exact wpAny_pyNext_range_end (I.ok.hd hc) st (by have:n<=i:=hg;omega) λh' eb=>⟨rfl,I.turned (t':=s.toks) (λb o hb e=>eb b o hb e) f0 f1 f3 f4 f5⟩
  self:=λ_ _ _ _ _ st h=>wpAny_pyIter_rangeiter st h
section
variable {X:Cx} {tg:Expr}
def Rv (K:W.Frag) (tl:TE):TI:=λσ H R=>tl σ H λx H1=>∃a,x = .ref a/\(∃xs,aX K H1 a xs)/\R (V2 K a) H1
def qdc (K:W.Frag) (tl:TE):TI:=λσ H R=>tl σ H λx H1=>∃a,x = .ref a/\(∃xs,dO K H1 a xs)/\R (Itt K a) H1
theorem qah {l:Expr} {tl:TE} (hl:PE X l tl):PI X tg l (Rv X.K tl):=by
  intro p_ s σ H R I h;refine bY (hl p_ s σ H _ I h) λv s1 zz=>?_;obtain⟨x,H1,I1,r1,q1⟩:=zz;obtain⟨a,e,⟨xs,hq⟩,q⟩:=q1;subst e;cases r1;obtain⟨its,rv,p,hz⟩:=I1.list hq;refine qm0 p.isList ?_;refine⟨s1.heap.objs.size,[s1.heap.objs.size],_,_,H1,rfl,I1.kept (t':=s1.toks) λb o e=>qlU _ e,GF a _,⟨_,ql0 _ rfl,rfl,rfl⟩,λb hb=>?_,q⟩;have e:b=s1.heap.objs.size:=by simpa using hb
  subst e;exact I1.Ar (qlY _) (I1.hok.fresh (qlY _))
theorem qdd {l:Expr} {tl:TE} (hl:PE X l tl):PI X tg l (qdc X.K tl):=by
  intro p_ s σ H R I h;refine bY (hl p_ s σ H _ I h) λv s1 zz=>?_;obtain⟨x,H1,I1,r1,q1⟩:=zz;obtain⟨a,e,⟨xs,hq⟩,q⟩:=q1;subst e;cases r1;obtain⟨its,rv,p,hz⟩:=I1.tuple hq;refine qnt (show s1.heap.IsTuple a its.toArray from p) ?_;refine⟨s1.heap.objs.size,[s1.heap.objs.size],_,_,H1,rfl,I1.kept (t':=s1.toks) λb o e=>qlU _ e,BZ a _,⟨_,ql0 _ rfl,rfl,rfl⟩,λb hb=>?_,q⟩;have e:b=s1.heap.objs.size:=by simpa using hb
  subst e;exact I1.Ar (qlY _) (I1.hok.fresh (qlY _))
theorem Lj {p_:List (Addr×Obj)} {σ:St} {H:Hp} {s:Shared} {R:It->Hp->Prop} {E:Value->Shared->Prop} {lo hi:Int} {t u v:Tok} {tk:Nat} (I:Inv X p_ σ H s) (h1 : -(2 ^ 62)<=lo) (h2:lo<2 ^ 62) (h3 : -(2 ^ 62)<=hi) (h4:hi<2 ^ 62)
    (q:R (Oz lo (hi - lo).toNat) H):wpAny (model X.prog X.w) X.A (pyIter (.ref s.heap.objs.size)) (PIE X p_ σ tg R) E {s with heap:=s.heap.push {cls:=.type "range",data:=.fields #[.int lo t,.int hi u,.int 1 v]},toks:=tk}:=by
  refine wpAny_pyIter_range (IsRange.new ..) (small_one h1 h2 h3 h4) ?_;have I1:Inv X p_ σ H {s with heap:=s.heap.push {cls:=.type "range",data:=.fields #[.int lo t,.int hi u,.int 1 v]},toks:=tk}:=I.kept λb o e=>qlU _ e;refine⟨(s.heap.push {cls:=.type "range",data:=.fields #[.int lo t,.int hi u,.int 1 v]}).objs.size,[(s.heap.push {cls:=.type "range",data:=.fields #[.int lo t,.int hi u,.int 1 v]}).objs.size],_,_,H,rfl,
    I1.kept (t':=tk) λb o e=>qlU _ e,O4 _ lo (hi - lo).toNat,?_,λb hb=>?_,q⟩
  . have e1:lo+((0:Nat):Int) * 1=lo:=by simp
    have e2:(((hi - lo).toNat:Nat):Int) - ((0:Nat):Int)=Builtin.Range.rangeSize lo hi 1:=by rw[rangeSize_one];split <;> omega
    show IsRangeIter _ _ (lo+((0:Nat):Int) * 1) ((((hi - lo).toNat:Nat):Int) - ((0:Nat):Int)) 1;rw[e1,e2];exact ql0 _ rfl
  . have e:b=(s.heap.push {cls:=.type "range",data:=.fields #[.int lo t,.int hi u,.int 1 v]}).objs.size:=by simpa using hb
    subst e;exact I1.Ar (qlY _) (I1.hok.fresh (qlY _))
def Wm (ta:TA):TI:=λσ H R=>ta σ H λvs H1=>∃j:Int,vs=[.int j]/\-(2 ^ 62)<=j/\j<2 ^ 62/\R (Oz 0 j.toNat) H1
def Wn (ta:TA):TI:=λσ H R=>ta σ H λvs H1=>∃i j:Int,vs=[.int i,.int j]/\(-(2 ^ 62)<=i/\i<2 ^ 62/\-(2 ^ 62)<=j/\j<2 ^ 62)/\R (Oz i (j - i).toNat) H1
theorem uh {a:Expr} {ta:TA} {p pos:Pos} (hg:Gl X "range") (hm:X.mg "range" = none) (ha:PA X [a] ta) (hs:starEach [a] X.env=[(false,eval a X.env)]:=by rfl):PI X tg (.Call (.Name "range" p) [a] [] pos) (Wm ta):=by
  intro p_ s σ H R I h;refine Call_ (jh I hg hm boot_range (qmE (bY (ha pos p_ s σ H _ I h) λus s1 zz=>?_) hs rfl));obtain⟨vs,H1,I1,r1,q1⟩:=zz;obtain⟨j,e,q1,q2,q⟩:=q1;subst e;cases r1 with
  | cons r rr=>
    cases rr;obtain⟨t,rfl⟩:=r;exact call_range_1 (Lj I1 (by omega) (by omega) q1 q2 (by simpa using q))
theorem GJ {a b:Expr} {ta:TA} {p pos:Pos} (hg:Gl X "range") (hm:X.mg "range" = none) (ha:PA X [a,b] ta) (hs:starEach [a,b] X.env=[(false,eval a X.env),(false,eval b X.env)]:=by rfl) (hs2:starEach [b] X.env=[(false,eval b X.env)]:=by rfl) :
    PI X tg (.Call (.Name "range" p) [a,b] [] pos) (Wn ta):=by
  intro p_ s σ H R I h;refine Call_ (jh I hg hm boot_range (qmE (bY (ha pos p_ s σ H _ I h) λus s1 zz=>?_) (by rw[hs,hs2]) (by rw[hs2];rfl)));obtain⟨vs,H1,I1,r1,q1⟩:=zz;obtain⟨i,j,e,⟨q1,q2,q3,q4⟩,q⟩:=q1;subst e;cases r1 with
  | cons r rr=>
    cases rr with
    | cons r' rr=>
      cases rr;obtain⟨t,rfl⟩:=r;obtain⟨t',rfl⟩:=r';exact call_range_2 (Lj I1 q1 q2 q3 q4 q)
def qfx (wi:TI) (g:TG) (tb:TS):TS:=λD σ H=>wi σ H λJ H1=>∃g8:Nat->Nat->St->Hp->Prop,(∃m,g8 0 m σ H1)/\∀i m σ H,g8 i m σ H->
  (J.stop i H/\D.nx σ H)\/(J.go i H/\∃N:St->Hp->Prop,(∀σ' H',N σ' H'->∃m',m'<m/\g8 (i+1) m' σ' H')/\∀x H',J.Wj i H x H'->g x σ H' λσ2 H2=>tb {D with nx:=N,ct:=N,bk:=D.nx} σ2 H2)
def vB (fp:List Addr) (h:Heap):List (Addr×Obj):=fp.filterMap λb=>(h.get? b).map λo=>(b,o)
theorem gk {fp:List Addr} {h:Heap} {b:Addr} {o:Obj} (hb:b∈fp) (e:h.get? b=some o):(b,o)∈vB fp h:=List.mem_filterMap.mpr ⟨b,hb,by rw[e];rfl⟩
theorem TY {fp:List Addr} {h:Heap} {p:Addr×Obj} (hp:p∈vB fp h):p.1∈fp/\h.get? p.1=some p.2:=by
  obtain⟨b,hb,e⟩:=List.mem_filterMap.mp hp;cases q:h.get? b with
  | none=>rw[q] at e;cases e
  | some o=>
    rw[q] at e;have e':(b,o)=p:=qmp e;subst e';exact⟨hb,q⟩
theorem Inv.pinned {p_:List (Addr×Obj)} {σ:St} {H:Hp} {s:Shared} {fp:List Addr} (I:Inv X p_ σ H s) (hf:∀b∈fp,iK X p_ H b) (ho:∀b∈fp,∃o,s.heap.get? b=some o/\∀v,o.data≠.cell v):Inv X (p_++vB fp s.heap) σ H s:=
  I.Rt λp hp=>(qmh.mp hp).elim (λz=>I.pin p (qmi _ z)) λz=>by
    obtain⟨hb,e⟩:=TY z;obtain⟨f0,f1,f2,_⟩:=hf p.1 hb;obtain⟨o,e',d⟩:=ho p.1 hb;rw[e] at e';cases e';exact⟨e,f0,f1,f2,d⟩
theorem Inv.pU {p_ pl:List (Addr×Obj)} {σ:St} {H:Hp} {s:Shared} (I:Inv X (p_++pl) σ H s):Inv X p_ σ H s:=I.Rt λp hp=>I.pin p (qmi _ (qmC _ hp))
theorem jH {iter:Expr} {body:List Stmt} {wi:TI} {g:TG} {tb:TS} {pos:Pos} (hp:PassesOwn (model X.prog X.w) X.A X.env X.xe) (hc:X.calm=true) (hi:PI X tg iter wi) (hg:PG X tg g) (hb:GC X body tb)
    (hs:∀x,foldedSetIterable iter X.env x=pure x:=by intro _;rfl):PS X (.For tg iter body [] pos) (qfx wi g tb):=by
  intro p_ s σ H D I h;refine wpAny_For (bY (hi p_ s σ H _ I h) λv s1 h1=>bY h1 λitv s2 h2=>?_) hs;obtain⟨it,fp,tn,J,H2,e,I2,T,st2,f2,g8,⟨m0,w0⟩,turn⟩:=h2;subst e;have stat:∀{H':Hp},(∀b∈fp,H' b=none)->∀b∈fp,iK X p_ H' b:=λhn b hb=>⟨hn b hb,(f2 b hb).2⟩;refine codeAny_forLoop_any (λn s'=>∃i σ' H',Inv X p_ σ' H' s'/\tn i s'.heap/\(∀b∈fp,H' b=none)/\g8 i n σ' H') ?_ m0 ⟨0,σ,H2,I2,st2,λb hb=>(f2 b hb).1,w0⟩;rintro n s3 ⟨i,σ3,H3,I3,st3,Wo,w3⟩
  rcases turn i n σ3 H3 w3 with⟨stop,qn⟩ | ⟨go,N,hN,step⟩
  ·refine qnM hp (bY (T.done X rfl rfl rfl hc i p_ s3 σ3 H3 X.xe I3 (stat Wo) st3 stop) λr s4 zz=>?_);obtain⟨hr,I4⟩:=zz;subst hr;exact wpAny_execs_nil ⟨σ3,H3,I4,qn⟩
  . refine qnM hp (bY (T.item X rfl rfl rfl hc i p_ s3 σ3 H3 X.xe I3 (stat Wo) st3 go) λr s4 zz=>?_);obtain⟨u,hr,h4⟩:=zz;subst hr;refine qnM hp (bY h4 λ_ s5 zz=>?_);obtain⟨x,H5,I5,r5,y5,O5,fr5⟩:=zz;have I5':=I5.pinned (stat fr5) (T.obj _ _ O5);refine qnM hp (bY (hg _ s5 σ3 H5 x u _ I5' r5 (step x H5 y5)) λ_ s6 zz=>?_);obtain⟨σ6,H6,I6,q6⟩:=zz;refine qnM hp (bY (hb _ s6 σ6 H6 _ I6 q6) λf s7 q7=>?_);have again:∀{σ7:St} {H7:Hp},Inv X (p_++vB fp s5.heap) σ7 H7 s7->N σ7 H7->∃m,m<n/\∃i σ' H',Inv X p_ σ' H' s7/\tn i s7.heap/\(∀b∈fp,H' b=none)/\g8 i m σ' H':=λ{σ7 H7} I7 n7=>by
      obtain⟨m',hm,w7⟩:=hN σ7 H7 n7;refine⟨m',hm,i+1,σ7,H7,I7.pU,T.keep _ _ _ O5 λb hb o e=>(I7.pin (b,o) (qmi _ (qmi _ (gk hb e)))).1,λb hb=>?_,w7⟩;obtain⟨o,e,d⟩:=T.obj _ _ O5 b hb;exact(I7.pin (b,o) (qmi _ (qmi _ (gk hb e)))).2.1
    cases f with
    | next=>obtain⟨σ7,H7,I7,n7⟩:=q7;exact again I7 n7
    | cont=>obtain⟨σ7,H7,I7,n7⟩:=q7;exact again I7 n7
    | brk=>obtain⟨σ7,H7,I7,q7⟩:=q7;exact⟨σ7,H7,I7.pU,q7⟩
    | ret v=>obtain⟨x7,σ7,H7,I7,r7,q7⟩:=q7;exact⟨x7,σ7,H7,I7.pU,r7,q7⟩
end
theorem Wq {K:W.Frag} {a:Addr} {xs:List V} {g:TG} {tb:TS} {D:Ends} {σ:St} {H:Hp} (Pv:Nat->St->Hp->Prop) (h0:Pv 0 σ H) (hl:∀i σ H,i<=xs.length->Pv i σ H->aX K H a xs)
    (hs:∀i x σ H,xs[i]? = some x->Pv i σ H->g x σ H λσ2 H2=>tb {D with nx:=Pv (i+1),ct:=Pv (i+1),bk:=D.nx} σ2 H2) (hd:∀σ H,Pv xs.length σ H->D.nx σ H) :
    ∃g8:Nat->Nat->St->Hp->Prop,(∃m,g8 0 m σ H)/\∀i m σ H,g8 i m σ H->
      ((V2 K a).stop i H/\D.nx σ H)\/((V2 K a).go i H/\∃N:St->Hp->Prop,(∀σ' H',N σ' H'->∃m',m'<m/\g8 (i+1) m' σ' H')/\∀x H',(V2 K a).Wj i H x H'->g x σ H' λσ2 H2=>tb {D with nx:=N,ct:=N,bk:=D.nx} σ2 H2):=by
  refine⟨λi m σ H=>m=xs.length - i/\i<=xs.length/\Pv i σ H,⟨xs.length,by simp,qmK _,h0⟩,?_⟩;rintro i m σ H ⟨rfl,hi,p⟩;have q:=hl i σ H hi p
  by_cases hlt:i<xs.length
  ·refine .inr ⟨⟨xs,xs[i],q,by simp[hlt]⟩,Pv (i+1),λσ' H' p'=>⟨xs.length - (i+1),by omega,rfl,hlt,p'⟩,λx H' y=>?_⟩;obtain⟨e,y⟩:=y;subst e;exact hs i x σ _ (y xs q) p
  . have e:i=xs.length:=by omega
    subst e;exact .inl ⟨⟨xs,q,qlY _⟩,hd σ H p⟩
theorem qai {K:W.Frag} {a:Addr} {xs:List V} {g:TG} {tb:TS} {D:Ends} {σ:St} {H:Hp} (Pv:Nat->St->Hp->Prop) (h0:Pv 0 σ H) (hl:∀i σ H,i<=xs.length->Pv i σ H->dO K H a xs)
    (hs:∀i x σ H,xs[i]? = some x->Pv i σ H->g x σ H λσ2 H2=>tb {D with nx:=Pv (i+1),ct:=Pv (i+1),bk:=D.nx} σ2 H2) (hd:∀σ H,Pv xs.length σ H->D.nx σ H) :
    ∃g8:Nat->Nat->St->Hp->Prop,(∃m,g8 0 m σ H)/\∀i m σ H,g8 i m σ H->
      ((Itt K a).stop i H/\D.nx σ H)\/((Itt K a).go i H/\∃N:St->Hp->Prop,(∀σ' H',N σ' H'->∃m',m'<m/\g8 (i+1) m' σ' H')/\∀x H',(Itt K a).Wj i H x H'->g x σ H' λσ2 H2=>tb {D with nx:=N,ct:=N,bk:=D.nx} σ2 H2):=by
  refine⟨λi m σ H=>m=xs.length - i/\i<=xs.length/\Pv i σ H,⟨xs.length,by simp,qmK _,h0⟩,?_⟩;rintro i m σ H ⟨rfl,hi,p⟩;have q:=hl i σ H hi p
  by_cases hlt:i<xs.length
  ·refine .inr ⟨⟨xs,xs[i],q,by simp[hlt]⟩,Pv (i+1),λσ' H' p'=>⟨xs.length - (i+1),by omega,rfl,hlt,p'⟩,λx H' y=>?_⟩;obtain⟨e,y⟩:=y;subst e;exact hs i x σ _ (y xs q) p
  . have e:i=xs.length:=by omega
    subst e;exact .inl ⟨⟨xs,q,qlY _⟩,hd σ H p⟩
theorem T3 {lo:Int} {n:Nat} {g:TG} {tb:TS} {D:Ends} {σ:St} {H:Hp} (Pv:Nat->St->Hp->Prop) (h0:Pv 0 σ H)
    (hs:∀i σ H,i<n->Pv i σ H->g (.int (lo+i)) σ H λσ2 H2=>tb {D with nx:=Pv (i+1),ct:=Pv (i+1),bk:=D.nx} σ2 H2) (hd:∀σ H,Pv n σ H->D.nx σ H) :
    ∃g8:Nat->Nat->St->Hp->Prop,(∃m,g8 0 m σ H)/\∀i m σ H,g8 i m σ H->
      ((Oz lo n).stop i H/\D.nx σ H)\/((Oz lo n).go i H/\∃N:St->Hp->Prop,(∀σ' H',N σ' H'->∃m',m'<m/\g8 (i+1) m' σ' H')/\∀x H',(Oz lo n).Wj i H x H'->g x σ H' λσ2 H2=>tb {D with nx:=N,ct:=N,bk:=D.nx} σ2 H2):=by
  refine⟨λi m σ H=>m=n - i/\i<=n/\Pv i σ H,⟨n,by simp,qmK _,h0⟩,?_⟩;rintro i m σ H ⟨rfl,hi,p⟩
  by_cases hlt:i<n
  ·refine .inr ⟨hlt,Pv (i+1),λσ' H' p'=>⟨n - (i+1),by omega,rfl,hlt,p'⟩,λx H' y=>?_⟩;obtain⟨e,y⟩:=y;subst e y;exact hs i σ _ hlt p
  . have e:i=n:=by omega
    subst e;exact .inl ⟨qlY _,hd σ H p⟩
theorem Wr {c:TT} {tb:TS} {D:Ends} {σ:St} {H:Hp} (Pv:St->Hp->Prop) (μ:St->Hp->Nat) (h0:Pv σ H)
    (hs:∀σ H,Pv σ H->c σ H λb H1=>if b=true then tb {D with nx:=λσ' H'=>Pv σ' H'/\μ σ' H'<μ σ H,ct:=λσ' H'=>Pv σ' H'/\μ σ' H'<μ σ H,bk:=D.nx} σ H1 else D.nx σ H1)
    (mono:∀σ H Q Q',(∀b H1,Q b H1->Q' b H1)->c σ H Q->c σ H Q'):Ir c tb D σ H:=by
  refine⟨λm σ H=>m=μ σ H/\Pv σ H,⟨_,rfl,h0⟩,?_⟩;rintro m σ H ⟨rfl,p⟩;refine mono σ H _ _ (λb H1 q=>?_) (hs σ H p);cases b with
  | true=>exact⟨_,λσ' H' ⟨p',l⟩=>⟨_,l,rfl,p'⟩,q⟩
  | false=>exact q
abbrev R2:=V->V->Hp->VK->Prop
def gb (X:Cx) (f:Value->Value->Sem Value) (r:R2):Prop:=
  ∀(p_:List (Addr×Obj)) (s:Shared) (σ:St) (H:Hp) (x y:V) (v u:Value) (Q:VK),Inv X p_ σ H s->RelV x v->RelV y u->r x y H Q->
    wpAny (model X.prog X.w) X.A (f v u) (EP X p_ σ Q) X.xe s
def UnR (X:Cx) (f:Value->Sem Value) (r:V->Hp->VK->Prop):Prop:=
  ∀(p_:List (Addr×Obj)) (s:Shared) (σ:St) (H:Hp) (x:V) (v:Value) (Q:VK),Inv X p_ σ H s->RelV x v->r x H Q->
    wpAny (model X.prog X.w) X.A (f v) (EP X p_ σ Q) X.xe s
def cj (X:Cx) (f:Value) (r:List V->Hp->VK->Prop):Prop:=
  ∀(p_:List (Addr×Obj)) (s:Shared) (σ:St) (H:Hp) (xs:List V) (us:List Value) (Q:VK),Inv X p_ σ H s->Vals xs us->r xs H Q->
    wpAny (model X.prog X.w) X.A (call f us) (EP X p_ σ Q) X.xe s
def V3 (r:R2) (ta tb:TE):TE:=λσ H Q=>ta σ H λx H1=>tb σ H1 λy H2=>r x y H2 Q
def tUn (r:V->Hp->VK->Prop) (ta:TE):TE:=λσ H Q=>ta σ H λx H1=>r x H1 Q
def rI (C:Int->Int->Prop) (g:Int->Int->V):R2:=λx y H Q=>∃i j,x = .int i/\y = .int j/\C i j/\Q (g i j) H
def rI0 (g:Int->Int->V):R2:=λx y H Q=>∃i j,x = .int i/\y = .int j/\Q (g i j) H
def rU (g:Int->V):V->Hp->VK->Prop:=λx H Q=>∃i,x = .int i/\Q (g i) H
section
variable {X:Cx} {a b c:Expr} {ta tb tc:TE} {pos:Pos}
theorem qde (ha:PE X a ta) (hb:PE X b tb) {p_:List (Addr×Obj)} {s:Shared} {σ:St} {H:Hp} {R:V->V->Hp->Prop} (I:Inv X p_ σ H s)
    (h:ta σ H λx H1=>tb σ H1 λy H2=>R x y H2) {Q:Value->Shared->Prop} {f:Value->Value->Sem Value}
    (hf:∀v u s2 x y H2,Inv X p_ σ H2 s2->RelV x v->RelV y u->R x y H2->wpAny (model X.prog X.w) X.A (f v u) Q X.xe s2) :
    wpAny (model X.prog X.w) X.A (eval a X.env) (λv s₁=>wpAny (model X.prog X.w) X.A (eval b X.env) (λu s₂=>wpAny (model X.prog X.w) X.A (f v u) Q X.xe s₂) X.xe s₁) X.xe s:=by
  refine bY (ha p_ s σ H _ I h) λv s1 zz=>?_;obtain⟨x,H1,I1,r1,q1⟩:=zz;refine bY (hb p_ s1 σ H1 _ I1 q1) λu s2 zz=>?_;obtain⟨y,H2,I2,r2,q2⟩:=zz;exact hf v u s2 x y H2 I2 r1 r2 q2
theorem bT {op:Operator} {r:R2} (ho:gb X (binaryOp op) r) (ha:PE X a ta) (hb:PE X b tb):PE X (.BinOp a op b pos) (V3 r ta tb):=by
  intro p_ s σ H Q I h;exact wpAny_BinOp (qde ha hb I h λv u s2 x y H2 I2 rx ry q=>ho p_ s2 σ H2 x y v u Q I2 rx ry q)
theorem qfy {op:UnaryOp} {r:V->Hp->VK->Prop} (ho:UnR X (unaryOp op) r) (ha:PE X a ta):PE X (.UnaryOp op a pos) (tUn r ta):=by
  intro p_ s σ H Q I h;refine UnaryOp_ (bY (ha p_ s σ H _ I h) λv s1 zz=>?_);obtain⟨x,H1,I1,r1,q1⟩:=zz;exact ho p_ s1 σ H1 x v Q I1 r1 q1
theorem opI {f:Value->Value->Sem Value} {C:Int->Int->Prop} {g:Int->Int->Int}
    (rule:∀(i j:Int) (t u:Tok) (s:Shared) (Q:Value->Shared->Prop) (E:Value->Shared->Prop),C i j->Q (.int (g i j) s.toks) {s with toks:=s.toks+1}->wpAny (model X.prog X.w) X.A (f (.int i t) (.int j u)) Q E s) :
    gb X f (rI C λi j=>.int (g i j)):=by
  intro p_ s σ H x y v u Q I rx ry h;obtain⟨i,j,rfl,rfl,hc,q⟩:=h;obtain⟨t,rfl⟩:=rx;obtain⟨t',rfl⟩:=ry;exact rule i j t t' s _ _ hc ⟨.int (g i j),H,I.tok _,⟨_,rfl⟩,q⟩
theorem qdf {f:Value->Value->Sem Value} {g:Int->Int->Int}
    (rule:∀(i j:Int) (t u:Tok) (s:Shared) (Q:Value->Shared->Prop) (E:Value->Shared->Prop),Q (.int (g i j) s.toks) {s with toks:=s.toks+1}->wpAny (model X.prog X.w) X.A (f (.int i t) (.int j u)) Q E s) :
    gb X f (rI0 λi j=>.int (g i j)):=by
  intro p_ s σ H x y v u Q I rx ry h;obtain⟨i,j,rfl,rfl,q⟩:=h;obtain⟨t,rfl⟩:=rx;obtain⟨t',rfl⟩:=ry;exact rule i j t t' s _ _ ⟨.int (g i j),H,I.tok _,⟨_,rfl⟩,q⟩
theorem qaj {f:Value->Value->Sem Value} {g:Int->Int->Bool}
    (rule:∀(i j:Int) (t u:Tok) (s:Shared) (Q:Value->Shared->Prop) (E:Value->Shared->Prop),Q (.bool (g i j)) s->wpAny (model X.prog X.w) X.A (f (.int i t) (.int j u)) Q E s) :
    gb X f (rI0 λi j=>.bl (g i j)):=by
  intro p_ s σ H x y v u Q I rx ry h;obtain⟨i,j,rfl,rfl,q⟩:=h;obtain⟨t,rfl⟩:=rx;obtain⟨t',rfl⟩:=ry;exact rule i j t t' s _ _ ⟨.bl (g i j),H,I,rfl,q⟩
@[simp] def T7 (i j:Int):Prop:=0<j/\j<1073741824
@[simp] def qak (i j:Int):Prop:=0<=j/\j<=1000000/\i.natAbs<2 ^ 64
@[simp] def qal (i j:Int):Prop:=(-(2 ^ 64)<i/\i<2 ^ 64)\/(-(2 ^ 64)<j/\j<2 ^ 64)
theorem qal.ok {i j:Int} (h:qal i j):IntMulOk i j:=by
  rcases h with⟨h1,h2⟩ | ⟨h1,h2⟩
  ·exact .of_left (intBits_le_64 h1 h2)
  ·exact .of_right (intBits_le_64 h1 h2)
theorem two_pow_nn (k:Nat):(0:Int)<=2 ^ k:=by
  rw[two_pow_cast];exact Int.natCast_nonneg _
theorem qdg:gb X (binaryOp .Add) (rI0 λi j=>.int (i+j)):=qdf λ_ _ _ _ _ _ _ q=>add_int q
theorem qdh:gb X (binaryOp .Sub) (rI0 λi j=>.int (i - j)):=qdf λ_ _ _ _ _ _ _ q=>sub_int q
theorem qdi:gb X (binaryOp .Mult) (rI qal λi j=>.int (i * j)):=opI λ_ _ _ _ _ _ _ hc q=>mul_int q hc.ok
theorem qam:gb X (binaryOp .FloorDiv) (rI T7 λi j=>.int (i / j)):=opI λi j _ _ _ _ _ hc q=>by
  have h1:(0:Int)<j:=hc.1;have h2:j<1073741824:=hc.2;exact floordiv_int (by omega) (by rw[qod i (by omega)];exact q) (.inl (PyProof.noPylong_small (by omega)))
theorem qdj:gb X (binaryOp .Mod) (rI (λ_ j=>0<j) λi j=>.int (i % j)):=opI λi j _ _ _ _ _ hc q=>by
  have h1:(0:Int)<j:=hc;exact mod_int' (by omega) (by rw[Int.fmod_eq_emod_of_nonneg i (by omega)];exact q)
theorem qdk:gb X (binaryOp .Pow) (rI qak λi j=>.int (i ^ j.toNat)):=opI λ_ _ _ _ _ _ _ hc q=>pow_int_small hc.1 hc.2.1 hc.2.2 q
theorem qdl:gb X (binaryOp .LShift) (rI qak λi j=>.int (i * 2 ^ j.toNat)):=opI λ_ _ _ _ _ _ _ hc q=>lshift_int_small hc.1 hc.2.1 hc.2.2 q
theorem qdm:gb X (binaryOp .RShift) (rI (λ_ j=>0<=j) λi j=>.int (i / 2 ^ j.toNat)):=opI λi j _ _ _ _ _ hc q=>
  rshift_int hc (by rw[qod i (two_pow_nn _)];exact q)
theorem qdn:gb X (binaryOp .BitAnd) (rI0 λi j=>.int (Builtin.bitAnd i j)):=qdf λ_ _ _ _ _ _ _ q=>and_int q
theorem unI {f:Value->Sem Value} {g:Int->Int}
    (rule:∀(i:Int) (t:Tok) (s:Shared) (Q:Value->Shared->Prop) (E:Value->Shared->Prop),Q (.int (g i) s.toks) {s with toks:=s.toks+1}->wpAny (model X.prog X.w) X.A (f (.int i t)) Q E s) :
    UnR X f (rU λi=>.int (g i)):=by
  intro p_ s σ H x v Q I rx h;obtain⟨i,rfl,q⟩:=h;obtain⟨t,rfl⟩:=rx;exact rule i t s _ _ ⟨.int (g i),H,I.tok _,⟨_,rfl⟩,q⟩
theorem qdo:UnR X (unaryOp .USub) (rU λi=>.int (-i)):=unI λ_ _ _ _ _ q=>neg_int q
end
def Av:V->V->Bool
  | .non,.non=>true | .non,.int _=>true | .int _,.non=>true | .non,.bl _=>true | .bl _,.non=>true | .non,.str _=>true | .str _,.non=>true
  | .int _,.int _=>true | .bl _,.bl _=>true | .str _,.str _=>true | .V1 _,.V1 _=>true
  | .int _,.str _=>true | .str _,.int _=>true | .bl _,.str _=>true | .str _,.bl _=>true
  | _,_=>false
def rEq:R2:=λx y H Q=>Av x y=true/\Q (.bl (decide (x=y))) H
def rNe:R2:=λx y H Q=>Av x y=true/\Q (.bl (!decide (x=y))) H
theorem Rw {i j:Int}:decide (V.int i=V.int j)=(i == j):=by
  rw[qm4];simp
theorem Ws {i j:Bool}:decide (V.bl i=V.bl j)=(i == j):=by
  rw[qm4];simp
theorem Rx {i j:Str}:decide (V.str i=V.str j)=(i == j):=by
  rw[qm4];simp
theorem Ry {i j:Array UInt8}:decide (V.V1 i=V.V1 j)=(i.toList == j.toList):=by
  rw[qm4];cases i;cases j;simp
section
variable {X:Cx} {a b c:Expr} {ta tb tc:TE} {pos:Pos}
theorem b_ {p_:List (Addr×Obj)} {σ:St} {H:Hp} {s:Shared} {Q:VK} {k k':Bool} (I:Inv X p_ σ H s) (q:Q (.bl k) H) (e:k=k'):EP X p_ σ Q (.bool k') s:=by
  subst e;exact⟨.bl k,H,I,rfl,q⟩
theorem qfz:gb X (compareOp .Eq) rEq:=by
  intro p_ s σ H x y v u Q I rx ry h;obtain⟨hs,q⟩:=h;cases x with
  | non=>
    cases rx;cases y with
    | non=>cases ry;exact PySem.EqNone.eq_none_none (b_ I q (by simp))
    | bl j=>cases ry;exact PySem.EqNone.eq_none_bool (b_ I q (by simp))
    | int j=>obtain⟨t',rfl⟩:=ry;exact PySem.EqNone.eq_none_int (b_ I q (by simp))
    | str j=>obtain⟨t',rfl⟩:=ry;exact PySem.EqNone.eq_none_str (b_ I q (by simp))
    | _=>exact absurd (show false=true from hs) ql_
  | bl i=>
    cases rx;cases y with
    | non=>cases ry;exact PySem.EqNone.eq_bool_none (b_ I q (by simp))
    | bl j=>cases ry;exact eq_bool (b_ I q Ws)
    | str j=>obtain⟨t',rfl⟩:=ry;exact PySem.EqMixed.eq_bool_str (b_ I q (by simp))
    | _=>exact absurd (show false=true from hs) ql_
  | int i=>
    obtain⟨t,rfl⟩:=rx;cases y with
    | non=>cases ry;exact PySem.EqNone.eq_int_none (b_ I q (by simp))
    | int j=>obtain⟨t',rfl⟩:=ry;exact eq_int (b_ I q Rw)
    | str j=>obtain⟨t',rfl⟩:=ry;exact PySem.EqMixed.eq_int_str (b_ I q (by simp))
    | _=>exact absurd (show false=true from hs) ql_
  | str i=>
    obtain⟨t,rfl⟩:=rx;cases y with
    | non=>cases ry;exact PySem.EqNone.eq_str_none (b_ I q (by simp))
    | bl j=>cases ry;exact PySem.EqMixed.eq_str_bool (b_ I q (by simp))
    | int j=>obtain⟨t',rfl⟩:=ry;exact PySem.EqMixed.eq_str_int (b_ I q (by simp))
    | str j=>obtain⟨t',rfl⟩:=ry;exact eq_str (b_ I q Rx)
    | _=>exact absurd (show false=true from hs) ql_
  | V1 i=>
    obtain⟨t,rfl⟩:=rx;cases y with
    | V1 j=>obtain⟨t',rfl⟩:=ry;exact W.eq_bytes (b_ I q Ry)
    | _=>exact absurd (show false=true from hs) ql_
  | _=>cases y <;> exact absurd (show false=true from hs) ql_
theorem qfA:gb X (compareOp .NotEq) rNe:=by
  intro p_ s σ H x y v u Q I rx ry h;obtain⟨hs,q⟩:=h;cases x with
  | non=>
    cases rx;cases y with
    | non=>cases ry;exact PySem.EqNone.ne_none_none (b_ I q (by simp))
    | bl j=>cases ry;exact PySem.EqNone.ne_none_bool (b_ I q (by simp))
    | int j=>obtain⟨t',rfl⟩:=ry;exact PySem.EqNone.ne_none_int (b_ I q (by simp))
    | str j=>obtain⟨t',rfl⟩:=ry;exact PySem.EqNone.ne_none_str (b_ I q (by simp))
    | _=>exact absurd (show false=true from hs) ql_
  | bl i=>
    cases rx;cases y with
    | non=>cases ry;exact PySem.EqNone.ne_bool_none (b_ I q (by simp))
    | bl j=>cases ry;exact ne_bool (b_ I q (qmr not Ws))
    | str j=>obtain⟨t',rfl⟩:=ry;exact PySem.EqMixed.ne_bool_str (b_ I q (by simp))
    | _=>exact absurd (show false=true from hs) ql_
  | int i=>
    obtain⟨t,rfl⟩:=rx;cases y with
    | non=>cases ry;exact PySem.EqNone.ne_int_none (b_ I q (by simp))
    | int j=>obtain⟨t',rfl⟩:=ry;exact ne_int (b_ I q (qmr not Rw))
    | str j=>obtain⟨t',rfl⟩:=ry;exact PySem.EqMixed.ne_int_str (b_ I q (by simp))
    | _=>exact absurd (show false=true from hs) ql_
  | str i=>
    obtain⟨t,rfl⟩:=rx;cases y with
    | non=>cases ry;exact PySem.EqNone.ne_str_none (b_ I q (by simp))
    | bl j=>cases ry;exact PySem.EqMixed.ne_str_bool (b_ I q (by simp))
    | int j=>obtain⟨t',rfl⟩:=ry;exact PySem.EqMixed.ne_str_int (b_ I q (by simp))
    | str j=>obtain⟨t',rfl⟩:=ry;exact ne_str (b_ I q (qmr not Rx))
    | _=>exact absurd (show false=true from hs) ql_
  | V1 i=>
    obtain⟨t,rfl⟩:=rx;cases y with
    | V1 j=>obtain⟨t',rfl⟩:=ry;exact W.ne_bytes (b_ I q (qmr not Ry))
    | _=>exact absurd (show false=true from hs) ql_
  | _=>cases y <;> exact absurd (show false=true from hs) ql_
theorem qfB:gb X (compareOp .Lt) (rI0 λi j=>.bl (decide (i<j))):=qaj λ_ _ _ _ _ _ _ q=>lt_int q
theorem qfC:gb X (compareOp .LtE) (rI0 λi j=>.bl (decide (i<=j))):=qaj λ_ _ _ _ _ _ _ q=>le_int q
theorem qfD:gb X (compareOp .Gt) (rI0 λi j=>.bl (decide (j<i))):=qaj λ_ _ _ _ _ _ _ q=>gt_int q
theorem qfE:gb X (compareOp .GtE) (rI0 λi j=>.bl (decide (j<=i))):=qaj λ_ _ _ _ _ _ _ q=>ge_int q
theorem T8:gb X (compareOp .In) (λx y H Q=>∃i j,x = .str i/\y = .str j/\Q (.bl (!(Builtin.Str.occurrences j i 0 j.length 1).isEmpty)) H):=by
  intro p_ s σ H x y v u Q I rx ry h;obtain⟨i,j,rfl,rfl,q⟩:=h;obtain⟨t,rfl⟩:=rx;obtain⟨t',rfl⟩:=ry;exact in_str (b_ I q rfl)
theorem qdp:gb X (compareOp .Is) (λx y H Q=>y = .non/\Q (.bl (decide (x = .non))) H):=by
  intro p_ s σ H x y v u Q I rx ry h;obtain⟨rfl,q⟩:=h;cases ry;refine is_none_gen (b_ I q ?_);cases x <;> first
    | (cases rx;rfl)
    | (obtain⟨t,rfl⟩:=rx;rfl)
theorem gb.or {f:Value->Value->Sem Value} {r r':R2} (h:gb X f r) (h':gb X f r'):gb X f (λx y H Q=>r x y H Q\/r' x y H Q):=by
  intro p_ s σ H x y v u Q I rx ry q
  rcases q with q | q
  ·exact h p_ s σ H x y v u Q I rx ry q
  ·exact h' p_ s σ H x y v u Q I rx ry q
theorem bK (b:Expr) {op:CmpOp} (h:op≠.In:=by decide) (h2:op≠.NotIn:=by decide):behindInMarks op b=false:=by
  have e1:(op == CmpOp.In)=false:=by cases op <;> first | rfl | exact absurd rfl h
  have e2:(op == CmpOp.NotIn)=false:=by cases op <;> first | rfl | exact absurd rfl h2
  cases b <;> simp[behindInMarks,e1,e2]
theorem gO {op:CmpOp} {r:R2} (ho:gb X (compareOp op) r) (ha:PE X a ta) (hb:PE X b tb) (hm:behindInMarks op b=false):PE X (.Compare a [op] [b] pos) (V3 r ta tb):=by
  intro p_ s σ H Q I h;exact wpAny_Compare1 (qde ha hb I h λv u s2 x y H2 I2 rx ry q=>ho p_ s2 σ H2 x y v u Q I2 rx ry q) hm
def Rz (t:TE):TT:=λσ H Q=>t σ H λx H'=>∃k,x = .bl k/\Q k H'
theorem qan {op:CmpOp} {r:R2} (ho:gb X (compareOp op) r) (ha:PE X a ta) (hb:PE X b tb) (hm:behindInMarks op b=false):PT X (.Compare a [op] [b] pos) (Rz (V3 r ta tb)):=by
  intro p_ s σ H Q I h;refine wpAny_isTrue_Compare1 (bY (ha p_ s σ H _ I h) λv s1 ⟨x,H1,I1,r1,q1⟩=>bY (hb p_ s1 σ H1 _ I1 q1) λu s2 ⟨y,H2,I2,r2,q2⟩=>
    bY (ho p_ s2 σ H2 x y v u _ I2 r1 r2 q2) λc s3 ⟨z,H3,I3,r3,k,e,q3⟩=>?_) hm
  subst e;cases r3;exact qmZ ⟨H3,I3,q3⟩
def Iu (r r':R2) (ta tb tc:TE):TE:=λσ H Q=>ta σ H λx H1=>tb σ H1 λy H2=>r x y H2 λz H3=>∃k,z = .bl k/\
  (if k=true then tc σ H3 λw' H4=>r' y w' H4 Q else Q (.bl false) H3)
theorem Wt {op op':CmpOp} {r r':R2} (ho:gb X (compareOp op) r) (ho':gb X (compareOp op') r') (ha:PE X a ta) (hb:PE X b tb) (hc:PE X c tc)
    (hm:lastMarks [op,op'] [b,c]=false:=by with_unfolding_all rfl):PE X (.Compare a [op,op'] [b,c] pos) (Iu r r' ta tb tc):=by
  intro p_ s σ H Q I h;refine Compare_chain (bY (ha p_ s σ H _ I h) λv s1 ⟨x,H1,I1,r1,q1⟩=>chain_link (bY (hb p_ s1 σ H1 _ I1 q1) λu s2 ⟨y,H2,I2,r2,q2⟩=>
    bY (ho p_ s2 σ H2 x y v u _ I2 r1 r2 q2) λd s3 ⟨z,H3,I3,r3,k,e,q3⟩=>?_)) hm
  subst e;cases r3;refine qmZ ?_;cases k with
  | false=>exact ite_ff ⟨.bl false,H3,I3,rfl,q3⟩
  | true=>exact ite_tt (chain_last (bY (hc p_ s3 σ H3 _ I3 q3) λw' s4 ⟨z',H4,I4,r4,q4⟩=>ho' p_ s4 σ H4 y z' u w' Q I4 r2 r4 q4))
theorem Wu {op op':CmpOp} {r r':R2} (ho:gb X (compareOp op) r) (ho':gb X (compareOp op') r') (ha:PE X a ta) (hb:PE X b tb) (hc:PE X c tc)
    (hm:lastMarks [op,op'] [b,c]=false:=by with_unfolding_all rfl):PT X (.Compare a [op,op'] [b,c] pos) (Rz (Iu r r' ta tb tc)):=by
  intro p_ s σ H Q I h;refine isTrue_chain (bY (ha p_ s σ H _ I h) λv s1 ⟨x,H1,I1,r1,q1⟩=>test_link (bY (hb p_ s1 σ H1 _ I1 q1) λu s2 ⟨y,H2,I2,r2,q2⟩=>
    bY (ho p_ s2 σ H2 x y v u _ I2 r1 r2 q2) λd s3 ⟨z,H3,I3,r3,k,e,q3⟩=>?_)) hm
  subst e;cases r3;refine qmZ ?_;cases k with
  | false=>
    obtain⟨k',e',q'⟩:=q3;cases e';exact ite_ff ⟨H3,I3,q'⟩
  | true=>
    refine ite_tt (test_last (bY (hc p_ s3 σ H3 _ I3 q3) λw' s4 ⟨z',H4,I4,r4,q4⟩=>bY (ho' p_ s4 σ H4 y z' u w' _ I4 r2 r4 q4) λd' s5 ⟨z2,H5,I5,r5,k2,e2,q5⟩=>?_));subst e2;cases r5;exact qmZ ⟨H5,I5,q5⟩
theorem vC:(sizeLine:Nat)<2 ^ 63:=by rw[sizeLine_eq];decide
theorem O6:gb X (binaryOp .Add) (λx y H Q=>∃i j,x = .str i/\y = .str j/\i.length+j.length<=sizeLine/\Q (.str (i++j)) H):=by
  intro p_ s σ H x y v u Q I rx ry h;obtain⟨i,j,rfl,rfl,hz,q⟩:=h;obtain⟨t,rfl⟩:=rx;obtain⟨t',rfl⟩:=ry;exact add_str (λt' tk=>⟨.str (i++j),H,I.tok _,⟨_,rfl⟩,q⟩) hz
theorem vals1 {x:V} {us:List Value} (r:Vals [x] us):∃u,us=[u]/\RelV x u:=by
  cases r with
  | cons r1 r2=>cases r2;exact⟨_,rfl,r1⟩
theorem vals2 {x y:V} {us:List Value} (r:Vals [x,y] us):∃u w',us=[u,w']/\RelV x u/\RelV y w':=by
  cases r with
  | cons r1 r2=>
    cases r2 with
    | cons r3 r4=>cases r4;exact⟨_,_,rfl,r1,r3⟩
theorem Wv:cj X (.builtin "abs") (λxs H Q=>∃i,xs=[.int i]/\Q (.int (if i<0 then -i else i)) H):=by
  intro p_ s σ H xs us Q I r h;obtain⟨i,rfl,q⟩:=h;obtain⟨u,rfl,t,rfl⟩:=vals1 r;exact call_abs_int λu tk=>⟨.int (if i<0 then -i else i),H,I.tok _,⟨_,rfl⟩,q⟩
theorem T9 (hc:X.calm=true):cj X (.builtin "max") (λxs H Q=>∃i j,xs=[.int i,.int j]/\Q (.int (if j > i then j else i)) H):=by
  intro p_ s σ H xs us Q I r h;obtain⟨i,j,rfl,q⟩:=h;obtain⟨u,w',rfl,⟨t,rfl⟩,⟨t',rfl⟩⟩:=vals2 r;refine max_two_ints (I.ok.hd hc) λh' tk k=>⟨_,H,I.kept k,?_,q⟩
  by_cases hj:j > i
  ·rw[if_pos hj,if_pos hj];exact⟨_,rfl⟩
  ·rw[if_neg hj,if_neg hj];exact⟨_,rfl⟩
theorem T_ (hc:X.calm=true):cj X (.builtin "min") (λxs H Q=>∃i j,xs=[.int i,.int j]/\Q (.int (if j<i then j else i)) H):=by
  intro p_ s σ H xs us Q I r h;obtain⟨i,j,rfl,q⟩:=h;obtain⟨u,w',rfl,⟨t,rfl⟩,⟨t',rfl⟩⟩:=vals2 r;refine min_two_ints (I.ok.hd hc) λh' tk k=>⟨_,H,I.kept k,?_,q⟩
  by_cases hj:j<i
  ·rw[if_pos hj,if_pos hj];exact⟨_,rfl⟩
  ·rw[if_neg hj,if_neg hj];exact⟨_,rfl⟩
theorem Ua:cj X (.type "int") (λxs H Q=>(∃i,xs=[.int i]/\Q (.int i) H)\/∃k,xs=[.bl k]/\Q (.int (if k then 1 else 0)) H):=by
  intro p_ s σ H xs us Q I r h
  rcases h with⟨i,rfl,q⟩ | ⟨k,rfl,q⟩
  ·obtain⟨u,rfl,t,rfl⟩:=vals1 r;exact call_int_int ⟨.int i,H,I,⟨_,rfl⟩,q⟩
  ·obtain⟨u,rfl,r1⟩:=vals1 r;cases r1;exact call_int_bool ⟨.int (if k then 1 else 0),H,I.tok _,⟨_,rfl⟩,q⟩
theorem Lk:cj X (.builtin "divmod") (λxs H Q=>∃i j,xs=[.int i,.int j]/\T7 i j/\∀p,H p=none->Q (.ref p) (upd H p (.tup [.int (i / j),.int (i % j)]))):=by
  intro p_ s σ H xs us Q I r h;obtain⟨i,j,rfl,⟨h1,h2⟩,q⟩:=h;obtain⟨u,w',rfl,⟨t,rfl⟩,⟨t',rfl⟩⟩:=vals2 r;refine divmod_int (by omega) ?_ (.inl (PyProof.noPylong_small (by omega)));rw[qod i (by omega),Int.fmod_eq_emod_of_nonneg i (by omega)];have hn:H s.heap.objs.size=none:=I.hok.fresh (qlY _);refine⟨.ref s.heap.objs.size,_,?_,rfl,q _ hn⟩;refine I.laid (λb o e=>qlU _ e) (qlY _) ⟨by simp only[qml,List.length_nil];rw[sizeLine_eq];decide,[.int (i / j) s.toks,.int (i % j) (s.toks+1)],.cons ⟨_,rfl⟩ (.cons ⟨_,rfl⟩ .nil),?_⟩;exact⟨_,ql0 s.heap rfl,rfl,0,rfl⟩
end
structure O7 (h:Heap) (x dx C:Addr) (mA:Str->Option Value):Prop where
  obj:h.get? x=some (W.instObj C dx)
  ns:h.Ns1 dx mA
  ne:dx≠x
theorem GK {h:Heap} {dx:Addr} {mA:Str->Option Value} (n:h.Ns1 dx mA):∃od,h.get? dx=some od/\∀name,W.lookIn name od=some (mA name):=by
  obtain⟨o,es,ep,ho,hd,hk,_,hm⟩:=n;refine⟨o,ho,λname=>?_⟩;have e:=hm name;unfold nsFind findBy at e;rw[<- Array.find?_toList] at e;unfold W.lookIn;rw[hd];dsimp only;split
  ·rename_i y q;rw[q] at e;exact qmr some e
  . rename_i q;rw[q] at e;have a:es.toList.any (·.refKey)=false:=by
      rw[List.any_eq_false];intro y hy;obtain⟨z,t,hkey⟩:=hk y (Array.mem_toList_iff.mp hy);simp[DictEntry.refKey,hkey]
    have a':¬es.toList.any (·.refKey)=true:=by rw[a];exact ql_
    rw[if_neg a'];exact qmr some e
theorem O7.look {h:Heap} {x dx C:Addr} {mA:Str->Option Value} (I:O7 h x dx C mA):∃od,W.InstAt h x (W.instObj C dx) C (some od)/\∀name,W.lookIn name od=some (mA name):=
  let ⟨od,ho,hl⟩:=GK I.ns
  ⟨od,⟨I.obj,rfl,rfl,ho⟩,hl⟩
section
variable {prog:Program} {w:World} {A:Around} {E:Value->Shared->Prop} {s:Shared} {K:W.Frag} {x dx C f:Addr} {mA:Str->Option Value} {name:Str} {v:Value}
theorem get_map {expr:Bool} {Q:Value->Shared->Prop} (X:K.In s.heap) (I:O7 s.heap x dx C mA) (hg:W.plainGet K C name=true) (hh:W.hasDictIn K C=true)
    (ha:W.findIn K (.ref C) name=some none) (hv:mA name=some v) (hv':W.handedIn v=true) (h:Q v {s with toks:=s.toks+1}) :
    wpAny (model prog w) A (getAttr (.ref x) name expr) Q E s:=by
  obtain⟨od,J,hl⟩:=I.look;exact W.get_value X J (W.plainGet_of hg).1 (W.findObj_own hh ha rfl (by rw[hl,hv])) hv' h
theorem Ww {pl:Sem Bool} {Q:Value×List Value->Shared->Prop} (X:K.In s.heap) (I:O7 s.heap x dx C mA) (hg:W.plainGet K C name=true)
    (hf:W.findIn K (.ref C) name=some (some (.ref f))) (ht:W.isFn K (.ref f)=true) (hv:mA name=none) (h:Q (.ref f,[.ref x]) s) :
    wpAny (model prog w) A (getMethod (.ref x) name pl) Q E s:=by
  obtain⟨od,J,hl⟩:=I.look;exact W.method_fn X J (W.plainGet_of hg).1 (W.plainGet_of hg).2 hf (beq_iff_eq.mp ht) (by show(W.lookIn name od).map (·.isSome)=some false;rw[hl,hv];rfl) h
theorem qao {ns:List Str} {Q:Unit->Shared->Prop} (X:K.In s.heap) (I:O7 s.heap x dx C mA)
    (hs:W.findIn K (.ref C) "__setattr__" = some (some (.builtin "object.__setattr__"))) (hp:W.plainOver K C=true) (ht:W.takerIn K C name=some none) (hh:W.hasDictIn K C=true)
    (hw:PySem.Within mA ns) (hsz:ns.length<=sizeLine)
    (h:∀h',O7 h' x dx C (λy=>if y=name then some v else mA y)->Heap.SameBut dx s.heap h'->Q () {s with heap:=h',toks:=s.toks+2}) :
    wpAny (model prog w) A (setAttr (.ref x) name v) Q E s:=by
  obtain⟨od,J,hl⟩:=I.look;refine W.set_plain X J hs (W.osa_open (s:={s with toks:=s.toks+1}) (r:=none) X J hp ht λb=>?_);obtain⟨cd,hc,hd'⟩:=W.any_some hh;have hx:s.heap.get? x=some ⟨.ref C,some dx,.plain,#[]⟩:=I.obj;refine qlS (qlV (qlS (qlS (wpAny_loadPart hx (qlS (W.Looks.here (s:={s with toks:=s.toks+1}) (W.looks_clsIn X hc) ?_))))));rw[hd'];refine qlV (a:=some dx) (qlS (qlV (qlS ?_)));refine wpAny_nsSet1 (s:={s with toks:=s.toks+1}) I.ns λh' hn2 hs2=>?_;obtain⟨oD,esD,epD,hoD,hdD,hcD⟩:=hn2.count (PySem.Within.cons name v hw);refine qlS (wpAny_lookBehind hoD (by rw[hdD];exact pastItsLine_dict (qmq hcD (by rw[qml];omega))) ?_);exact qlV (h _ ⟨(hs2.2 _ (qnx I.ne)).trans I.obj,hn2,I.ne⟩ hs2)
theorem Wx {R:Result->Shared->Prop} {vs:List Value} {kw:List (Str×Value)} (X:K.In s.heap) (hm:W.makesIn K C=true)
    (hi:W.findIn K (.ref C) "__init__" = some (some (.ref f))) (hf:W.typeIn K (.ref f)=some (.type "function"))
    (h:codeAny (model prog w) (A.under (.builtin "type.__call__" ⟨.ref C::vs,kw⟩)) (.call (.ref f) ⟨.ref (s.heap.objs.size+1)::vs,kw⟩) (W.InitBack (s.heap.objs.size+1) R)
      {s with heap:=(s.heap.push W.emptyDict).push (W.instObj C s.heap.objs.size)}) :
    codeAny (model prog w) A (.call (.ref C) ⟨vs,kw⟩) R s:=by
  obtain⟨hh,g,d,t,os⟩:=s;exact W.make_core (W.makes_of X hm) (W.looks_findIn X hi) (λself=>W.bind_fn X self hf) (.inl rfl) h
end
def oR (f:Str) (v:V):List (Str×V)->List (Str×V)
  | []=>[(f,v)]
  | (g,x)::r=>if g=f then (g,v)::r else (g,x)::oR f v r
theorem sE (f g:Str) (v:V):∀fs:List (Str×V),(oR f v fs).lookup g=if g=f then some v else fs.lookup g
  | []=>by
    show List.lookup g [(f,v)]=_
    by_cases h:g=f
    ·have hb:(g == f)=true:=beq_iff_eq.mpr h;simp only[List.lookup,hb,if_pos h]
    ·have hb:(g == f)=false:=qnB.mpr h;simp only[List.lookup,hb,if_neg h]
  | (k,x)::r=>by
    have ih:=sE f g v r;rw[show oR f v ((k,x)::r)=(if k=f then (k,v)::r else (k,x)::oR f v r) from rfl]
    by_cases hk:k=f
    . rw[if_pos hk]
      by_cases h:g=k
      ·have hb:(g == k)=true:=beq_iff_eq.mpr h;simp only[List.lookup,hb,if_pos (h.trans hk)]
      ·have hb:(g == k)=false:=qnB.mpr h;simp only[List.lookup,hb,if_neg (λe:g=f=>h (e.trans hk.symm))]
    . rw[if_neg hk]
      by_cases h:g=k
      ·have hb:(g == k)=true:=beq_iff_eq.mpr h;simp only[List.lookup,hb,if_neg (λe:g=f=>hk (h.symm.trans e))]
      ·have hb:(g == k)=false:=qnB.mpr h;simp only[List.lookup,hb];exact ih
theorem yO (f:Str) (v:V):∀fs:List (Str×V),f∈(oR f v fs).map (·.1)/\∀g,g∈fs.map (·.1)->g∈(oR f v fs).map (·.1)
  | []=>⟨by simp[oR],λg h=>by simp at h⟩
  | (k,x)::r=>by
    obtain⟨i1,i2⟩:=yO f v r;rw[show oR f v ((k,x)::r)=(if k=f then (k,v)::r else (k,x)::oR f v r) from rfl]
    by_cases hk:k=f
    ·rw[if_pos hk];subst hk;exact⟨by simp,λg h=>by simpa using h⟩
    . rw[if_neg hk];refine⟨?_,λg h=>?_⟩
      ·rw[qmj];exact qlZ _ i1
      . rw[qmj] at h ⊢
        rcases ql1.mp h with e | e
        ·exact ql1.mpr (.inl e)
        ·exact qlZ _ (i2 g e)
theorem zO (f:Str) (v:V):∀fs:List (Str×V),(oR f v fs).length<=fs.length+1
  | []=>by simp[oR]
  | (k,x)::r=>by
    have ih:=zO f v r;rw[show oR f v ((k,x)::r)=(if k=f then (k,v)::r else (k,x)::oR f v r) from rfl]
    by_cases hk:k=f
    ·rw[if_pos hk,qml,qml];omega
    ·rw[if_neg hk,qml,qml];omega
theorem mO.some_of {v:V} {o:Option Value} (r:mO (some v) o):∃u,o=some u/\RelV v u:=by
  cases o with
  | none=>exact(show False from r).elim
  | some u=>exact⟨u,rfl,r⟩
theorem mO.none_of {o:Option Value} (r:mO none o):o=none:=by
  cases o with
  | none=>rfl
  | some u=>exact(show False from r).elim
theorem GP {v:V} {u:Value} (r:RelV v u):W.handedIn u=true:=by
  cases v with
  | non=>cases (show u=Value.none from r);rfl
  | bl b=>cases (show u=Value.bool b from r);rfl
  | int i=>obtain⟨t,e⟩:=(show ∃t,u=Value.int i t from r);cases e;rfl
  | str x=>obtain⟨t,e⟩:=(show ∃t,u=Value.str x t from r);cases e;rfl
  | V1 b=>obtain⟨t,e⟩:=(show ∃t,u=Value.bytes b t from r);cases e;rfl
  | flt b=>obtain⟨t,e⟩:=(show ∃t,u=Value.float b t from r);cases e;rfl
  | ref a=>cases (show u=Value.ref a from r);rfl
  | ty n=>cases (show u=Value.type n from r);rfl
section
variable {P:Program} {w:World} {H H':Hp} {h h':Heap} {a C dx:Addr} {fs fs':List (Str×V)}
theorem wF (hok:rW P w H h) (e:H a=some (.ins C dx fs)):∃mA,O7 h a dx C mA/\(∀f,mO (fs.lookup f) (mA f))/\PySem.Within mA (fs.map (·.1))/\fs.length<=1000/\H dx=some (.own a):=by
  obtain⟨d,z,ne,ob,mA,n,r,q⟩:=(show bZ P w H h a (.ins C dx fs) from hok a _ e);exact⟨mA,⟨ob,n,ne⟩,r,q,z,d⟩
end
structure Cls (K:W.Frag) (C:Addr):Prop where
  pg:W.plainGet K C Str.empty=true
  hd:W.hasDictIn K C=true
  po:W.plainOver K C=true
  sa:W.findIn K (.ref C) "__setattr__" = some (some (.builtin "object.__setattr__"))
theorem Cls.get {K:W.Frag} {C:Addr} (c:Cls K C) (f:Str):W.plainGet K C f=true:=c.pg
def lE (K:W.Frag) (C:Addr) (f:Str):Prop:=W.findIn K (.ref C) f=some none
theorem lE.taker {K:W.Frag} {C:Addr} {f:Str} (n:lE K C f):W.takerIn K C f=some none:=by
  unfold W.takerIn;rw[show W.findIn K (.ref C) f=some none from n];rfl
structure Meth (K:W.Frag) (C:Addr) (m:Str) (f:Addr):Prop where
  at_:W.findIn K (.ref C) m=some (some (.ref f))
  fn:W.isFn K (.ref f)=true
  kp:W.keepIn K (.ref f)=true
section
variable {X:Cx} {p_:List (Addr×Obj)} {σ:St} {H:Hp} {s:Shared} {a C dx:Addr} {fs:List (Str×V)} {f:Str} {v:V} {A:Around} {E:Value->Shared->Prop}
theorem O8 {b:Bool} {Q:Value->Shared->Prop} (I:Inv X p_ σ H s) (e:H a=some (.ins C dx fs)) (c:Cls X.K C) (n:lE X.K C f) (l:fs.lookup f=some v)
    (h:∀u s',Inv X p_ σ H s'->RelV v u->Q u s'):wpAny (model X.prog X.w) A (getAttr (.ref a) f b) Q E s:=by
  obtain⟨mA,O,r,_,_,_⟩:=wF I.hok e;obtain⟨u,hu,ru⟩:=mO.some_of (v:=v) (o:=mA f) (by rw[<- l];exact r f);exact get_map I.pP O (c.get f) c.hd n hu (GP ru) (h u _ (I.tok _) ru)
theorem O9 {m:Str} {g:Addr} {pl:Sem Bool} {Q:Value×List Value->Shared->Prop} (I:Inv X p_ σ H s) (e:H a=some (.ins C dx fs)) (c:Cls X.K C) (k:Meth X.K C m g) (l:fs.lookup m=none)
    (h:Q (.ref g,[.ref a]) s):wpAny (model X.prog X.w) A (getMethod (.ref a) m pl) Q E s:=by
  obtain⟨mA,O,r,_,_,_⟩:=wF I.hok e;have hn:mA m=none:=mO.none_of (by rw[<- l];exact r m);exact Ww I.pP O (c.get m) k.at_ k.fn hn h
theorem O_ {y:V} {u:Value} {Q:Unit->Shared->Prop} (I:Inv X p_ σ H s) (e:H a=some (.ins C dx fs)) (c:Cls X.K C) (n:lE X.K C f) (hl:fs.length<1000) (ry:RelV y u)
    (h:∀s',Inv X p_ σ (upd H a (.ins C dx (oR f y fs))) s'->Q () s'):wpAny (model X.prog X.w) A (setAttr (.ref a) f u) Q E s:=by
  obtain⟨mA,O,r,wi,_,ho⟩:=wF I.hok e;have hz:(fs.map (·.1)).length<=sizeLine:=by rw[ql2,sizeLine_eq];omega
  refine qao I.pP O c.sa c.po n.taker c.hd wi hz λh' O' sb=>h _ ?_;have hd:∃o,h'.get? dx=some o:=let ⟨o,_,_,e',_⟩:=O'.ns;⟨o,e'⟩;refine I.write (x:=a) (e:=dx) (by rw[e];exact True.intro) (.inr ho) (λb q hb z=>(sb.2 b hb).trans z) hd ?_;refine⟨by rw[aB O.ne];exact ho,?_,O.ne,O'.obj,_,O'.ns,λg=>?_,λg hg=>?_⟩
  ·have:=zO f y fs;omega
  . show mO ((oR f y fs).lookup g) (if g=f then some u else mA g)
    rw[sE]
    by_cases q:g=f
    ·rw[if_pos q,if_pos q];exact ry
    ·rw[if_neg q,if_neg q];exact r g
  . by_cases q:g=f
    ·rw[q];exact(yO f y fs).1
    . refine(yO f y fs).2 g (wi g λz=>hg ?_);show(if g=f then some u else mA g)=none
      rw[if_neg q];exact z
theorem Inv.made (I:Inv X p_ σ H s):Inv X p_ σ (upd (upd H s.heap.objs.size (.own (s.heap.objs.size+1))) (s.heap.objs.size+1) (.ins C s.heap.objs.size []))
    {s with heap:=(s.heap.push W.emptyDict).push (W.instObj C s.heap.objs.size)}:=by
  have e1:(s.heap.push W.emptyDict).get? s.heap.objs.size=some W.emptyDict:=ql0 s.heap rfl;have e2:((s.heap.push W.emptyDict).push (W.instObj C s.heap.objs.size)).get? (s.heap.objs.size+1)=some (W.instObj C s.heap.objs.size):=by
    have:=ql0 (s.heap.push W.emptyDict) (o:=W.instObj C s.heap.objs.size) rfl
    rwa [qmm] at this
  have e3:(s.heap.push W.emptyDict).Ns s.heap.objs.size (λ_=>none):=⟨W.emptyDict,#[],_,e1,rfl,(λe he=>absurd he (by simp)),λ_=>rfl⟩;have I1:=I.laid (a:=s.heap.objs.size) (o:=.own (s.heap.objs.size+1)) (h':=s.heap.push W.emptyDict) (t':=s.toks) (λb u q=>qlU _ q) (qlY _) ⟨_,e1⟩;refine I1.laid (a:=s.heap.objs.size+1) (o:=.ins C s.heap.objs.size []) (t':=s.toks) (λb u q=>qlU _ q) (Nat.le_of_eq (qmm _ _)) ?_;have ne:s.heap.objs.size≠s.heap.objs.size+1:=ql3 (qmT _);refine⟨by rw[aB ne,ak],qmK _,ne,e2,λ_=>none,(Heap.Ns1.of_empty e3).at λo q=>qlU _ q,λ_=>True.intro,λy hy=>absurd rfl hy⟩
theorem RB {prog:Program} {w:World} {env:Env} {e:Expr} {f:Str} {pos:Pos} {s:Shared} {Q:Value->Shared->Prop} (hb:attributeBase e f env (eval e env)=eval e env)
    (h:wpAny (model prog w) A (eval e env) (λo s₁=>wpAny (model prog w) A (getAttr o f true) Q E s₁) E s):wpAny (model prog w) A (eval (.Attribute e f pos) env) Q E s:=
  Attribute_any_ h (by rw[arm_eval_Attribute,hb])
end
def qap (K:W.Frag) (ta:TE) (f:Str):TE:=λσ H Q=>ta σ H λx H1=>∃a C dx fs v,x = .ref a/\H1 a=some (.ins C dx fs)/\Cls K C/\lE K C f/\fs.lookup f=some v/\Q v H1
def qdq (K:W.Frag) (ta tv:TE) (f:Str):TS:=λD σ H=>tv σ H λy H1=>ta σ H1 λx H2=>∃a C dx fs,x = .ref a/\H2 a=some (.ins C dx fs)/\Cls K C/\lE K C f/\fs.length<1000/\
  D.nx σ (upd H2 a (.ins C dx (oR f y fs)))
section
variable {X:Cx} {o e value:Expr} {f:Str} {pos pos' tpos:Pos} {ta tv:TE}
theorem qdr (he:PE X e ta) (hb:attributeBase e f X.env (eval e X.env)=eval e X.env):PE X (.Attribute e f pos) (qap X.K ta f):=by
  intro p_ s σ H Q I h;refine RB hb (bY (he p_ s σ H _ I h) λu s1 zz=>?_);obtain⟨x,H1,I1,rx,a,C,dx,fs,v,ex,ea,c,n,l,q⟩:=zz;subst ex;obtain rfl:u=Value.ref a:=rx;exact O8 I1 ea c n l λu' s2 I2 ru=>⟨v,H1,I2,ru,q⟩
theorem qds (ha:PE X o ta) (hv:PE X value tv) (hs:swapsWith value (some (.Attribute o f pos')) pos.line X.env=pure false):PS X (.Assign [.Attribute o f pos'] value pos) (qdq X.K ta tv f):=by
  intro p_ s σ H D I h;refine plainObj_wpAny_Assign_Attribute (bY (hv p_ s σ H _ I h) λu s1 ⟨y,H1,I1,ry,q⟩=>bY (ha p_ s1 σ H1 _ I1 q) λov s2 ⟨x,H2,I2,rx,a,C,dx,fs,ex,ea,c,n,l,q2⟩=>?_) hs;subst ex;obtain rfl:ov=Value.ref a:=rx;exact O_ I2 ea c n l ry λs3 I3=>⟨σ,_,I3,q2⟩
end
section
variable {X:Cx} {p_:List (Addr×Obj)} {σ:St} {H:Hp} {s:Shared} {A:Around} {E:Value->Shared->Prop} {Q:Value->Shared->Prop} {c:Value} {b:Bool}
inductive lF (K:W.Frag) (H:Hp):V->Value->Prop where
  | non:lF K H .non (.type "NoneType")
  | bl (x:Bool):lF K H (.bl x) (.type "bool")
  | int (i:Int):lF K H (.int i) (.type "int")
  | str (x:Str):lF K H (.str x) (.type "str")
  | flt (x:UInt64):lF K H (.flt x) (.type "float")
  | lst {a:Addr} {xs:List V} (e:H a=some (.lst xs)):lF K H (.ref a) (.type "list")
  | Ld {a:Addr} {o:Obj} {xs:List V} (e:H a=some (.Ld o (.lst xs))):lF K H (.ref a) (.type "list")
  | tup {a:Addr} {xs:List V} (e:H a=some (.tup xs)):lF K H (.ref a) (.type "tuple")
  | dK {a:Addr} {kvs:List (Key×V)} (e:H a=some (.dK kvs)):lF K H (.ref a) (.type "dict")
  | dT {a:Addr} {kvs:List (List Key×V)} (e:H a=some (.dT kvs)):lF K H (.ref a) (.type "dict")
  | ins {a C dx:Addr} {fs:List (Str×V)} (e:H a=some (.ins C dx fs)) (cl:Cls K C) (ha:W.findIn K (.ref C) "__class__" = some (some (.builtin "object.__class__")))
      (hn:W.specialIn K (.builtin "object.__class__") "__get__" = some (some (.builtin "getset_descriptor.__get__"))) (htk:W.takesIn K (.builtin "object.__class__")=some true)
      (hm:W.mroIn K C (.type "object")=some true):lF K H (.ref a) (.ref C)
theorem Ub {x:V} {u t:Value} (I:Inv X p_ σ H s) (rx:RelV x u) (ty:lF X.K H x t) (e:W.kitOne X.K t c=some b) (h:∀tk,Q (.bool b) {s with toks:=tk}) :
    wpAny (model X.prog X.w) A (call (.builtin "isinstance") [u,c]) Q E s:=by
  cases ty with
  | non=>cases (show u=Value.none from rx);exact qn6 W.kitx_none I.pP True.intro e (λz=>nomatch z) h
  | bl y=>cases (show u=Value.bool y from rx);exact qn6 W.kitx_bool I.pP True.intro e (λz=>nomatch z) h
  | int i=>obtain⟨t,q⟩:=(show ∃t,u=Value.int i t from rx);cases q;exact qn6 W.kitx_int I.pP True.intro e (λz=>nomatch z) h
  | str y=>obtain⟨t,q⟩:=(show ∃t,u=Value.str y t from rx);cases q;exact qn6 W.kitx_str I.pP True.intro e (λz=>nomatch z) h
  | flt y=>obtain⟨t,q⟩:=(show ∃t,u=Value.float y t from rx);cases q;exact qn6 W.kitx_float I.pP True.intro e (λz=>nomatch z) h
  | @lst a xs ea=>
    cases (show u=Value.ref a from rx);obtain⟨_,_,n,_,h1⟩:=(show bZ X.prog X.w H s.heap a (.lst xs) from I.hok a _ ea);exact qn6 W.kitx_list I.pP ⟨_,h1,rfl⟩ e (λz=>nomatch z) h
  | @Ld a ob xs ea=>
    cases (show u=Value.ref a from rx);obtain⟨_,_,_,n,_,h1⟩:=(show bZ X.prog X.w H s.heap a (.Ld ob (.lst xs)) from I.hok a _ ea);exact qn6 W.kitx_list I.pP ⟨_,h1,rfl⟩ e (λz=>nomatch z) h
  | @tup a xs ea=>
    cases (show u=Value.ref a from rx);obtain⟨_,_,_,p⟩:=(show bZ X.prog X.w H s.heap a (.tup xs) from I.hok a _ ea);obtain⟨o,h1,h2,_⟩:=p;exact qn6 W.kitx_tuple I.pP ⟨o,h1,h2⟩ e (λz=>nomatch z) h
  | @dK a kvs ea=>
    cases (show u=Value.ref a from rx);obtain⟨_,_,vs,_,p⟩:=(show bZ X.prog X.w H s.heap a (.dK kvs) from I.hok a _ ea);obtain⟨o,es,ep,h1,h2,_⟩:=p;exact qn6 W.kitx_dict I.pP ⟨o,h1,h2.1⟩ e (λz=>nomatch z) h
  | @dT a kvs ea=>
    cases (show u=Value.ref a from rx);obtain⟨_,_,xs,_,o,es,ep,h1,h2,_⟩:=(show bZ X.prog X.w H s.heap a (.dT kvs) from I.hok a _ ea);exact qn6 W.kitx_dict I.pP ⟨o,h1,h2.1⟩ e (λz=>nomatch z) h
  | @ins a C dx fs ea cl ha hn htk hm=>
    cases (show u=Value.ref a from rx);obtain⟨mA,O,_⟩:=wF I.hok ea;obtain⟨od,J,_⟩:=O.look;exact qn6 (W.kitx_own (cl.get _) cl.hd ha hn htk hm) I.pP J e (λz=>nomatch z) h
end
structure fQ (k:Nat) (A:Around):Prop where
  hd:A.handled=none
  dp:A.depth+3 * k+5<recursionLimit
  un:A.units+16 * k+200<cLine
  gd:A.guards=some []
theorem fQ.mono {j k:Nat} {A:Around} (r:fQ k A) (h:j<=k):fQ j A:=⟨r.hd,by have:=r.dp;omega,by have:=r.un;omega,r.gd⟩
theorem fQ.d {j k:Nat} {A:Around} (r:fQ k A) (h:j<=k:=by decide):fQ j A:=r.mono h
theorem fQ.deeper {k:Nat} {A:Around} (r:fQ (k+1) A) (env:Env):fQ k (A.deeper env):=
  ⟨r.hd,by have:=r.dp;show A.depth+1+3 * k+5<_;omega,by have:=r.un;show A.units+3+16 * k+200<_;omega,r.gd⟩
theorem fQ.in1 {k:Nat} {A:Around} (r:fQ (k+1) A):fQ k A.in1:=
  ⟨r.hd,by have:=r.dp;show A.depth+3 * k+5<_;omega,by have:=r.un;show A.units+1+16 * k+200<_;omega,r.gd⟩
theorem Pa {A:Around} {C:Addr} {us:List Value} {kw:List (Str×Value)}:(A.under (.builtin "type.__call__" ⟨.ref C::us,kw⟩)).depth=A.depth+1:=by
  first | rfl | simp[Around.under,Code.weight,Code.isCreation,Code.isGuard,Code.isCaller,Code.frames,Code.isFrame,guardIds]
theorem Pb {A:Around} {C:Addr} {us:List Value} {kw:List (Str×Value)}:(A.under (.builtin "type.__call__" ⟨.ref C::us,kw⟩)).units=A.units+1:=by
  first | rfl | simp[Around.under,Code.cUnits,Code.frames,Code.isFrame]
theorem Ln {A:Around} {C:Addr} {us:List Value} {kw:List (Str×Value)}:(A.under (.builtin "type.__call__" ⟨.ref C::us,kw⟩)).guards=A.guards:=by
  first | rfl | simp[Around.under,Code.isGuard,guardIds]
theorem fQ.make {k:Nat} {A:Around} (r:fQ (k+1) A) (C:Addr) (us:List Value) (kw:List (Str×Value)):fQ k (A.under (.builtin "type.__call__" ⟨.ref C::us,kw⟩)):=
  ⟨r.hd,by have:=r.dp;rw[Pa];omega,by have:=r.un;rw[Pb];omega,by rw[Ln];exact r.gd⟩
theorem fQ.depth {k:Nat} {A:Around} (r:fQ k A):A.depth<recursionLimit:=by have:=r.dp;omega
theorem fQ.units {k:Nat} {A:Around} (r:fQ k A):A.units+64<cLine:=by have:=r.un;omega
def Iv:TA:=λ_ H Q=>Q [] H
def zP (ta:TE) (tr:TA):TA:=λσ H Q=>ta σ H λx H1=>tr σ H1 λxs H2=>Q (x::xs) H2
section
variable {X:Cx} {e:Expr} {es:List Expr} {te:TE} {t:TA} {pos:Pos}
theorem ao:PA X [] Iv:=λ_ _ _ _ H Q I h=>Calls.spliced_nil ⟨[],H,I,.nil,h⟩
theorem aj (ha:PE X e te) (hr:PA X es t) (hs:starEach (e::es) X.env=(false,eval e X.env)::starEach es X.env:=by rfl):PA X (e::es) (zP te t):=by
  intro pos p_ s σ H Q I h;rw[hs];show wpAny _ _ (spliced ((false,eval e X.env)::backTo pos (starEach es X.env))) _ _ s;refine qnY (bY (ha p_ s σ H _ I h) λu s1 zz=>?_);obtain⟨x,H1,I1,r1,q1⟩:=zz;refine bY (hr pos p_ s1 σ H1 _ I1 q1) λus s2 zz=>?_;obtain⟨xs,H2,I2,r2,q2⟩:=zz;exact⟨x::xs,H2,I2,.cons r1 r2,q2⟩
def qfF (t:TA):TE:=λσ H Q=>t σ H λxs H1=>xs.length<=sizeLine/\∀p,H1 p=none->Q (.ref p) (upd H1 p (.tup xs))
def qfG (t:TA):TE:=λσ H Q=>t σ H λxs H1=>xs.length<=sizeLine/\∀p,H1 p=none->Q (.ref p) (upd H1 p (.lst xs))
theorem iM {x1} (h:PA X es t):PE X (.Tuple es x1 pos) (qfF t):=by
  intro p_ s σ H Q I hq;refine wpAny_Tuple_spliced (bY (h pos p_ s σ H _ I hq) λus s1 zz=>?_);obtain⟨xs,H1,I1,r,z,q⟩:=zz;refine⟨by rw[<- r.length];exact z,?_⟩;have hf:H1 s1.heap.objs.size=none:=I1.hok.fresh (qlY _);refine⟨.ref s1.heap.objs.size,upd H1 s1.heap.objs.size (.tup xs),I1.laid (t':=s1.toks) (λb u e=>qlU _ e) (qlY _) ?_,rfl,q _ hf⟩;exact⟨z,us,r,⟨_,ql0 _ rfl,rfl,_,rfl⟩⟩
theorem dX (h:PA X es t):PE X (.List es pos) (qfG t):=by
  intro p_ s σ H Q I hq;refine wpAny_List_spliced (bY (h pos p_ s σ H _ I hq) λus s1 zz=>?_);obtain⟨xs,H1,I1,r,z,q⟩:=zz;refine⟨by rw[<- r.length];exact z,?_⟩;have hf:H1 s1.heap.objs.size=none:=I1.hok.fresh (qlY _);refine⟨.ref s1.heap.objs.size,upd H1 s1.heap.objs.size (.lst xs),I1.laid (t':=s1.toks) (λb u e=>qlU _ e) (qlY _) ?_,rfl,q _ hf⟩;exact⟨z,us,0,r,ql0 _ rfl⟩
end
abbrev Sp:=List V->Hp->VK->XK->Prop
abbrev Wy:=List Env->Hp->Shared->XK->Value->Shared->Prop
structure B_ (P:Program) (w:World) (K:W.Frag) (mg:Str->Option Value) (base:Heap) (A:Around) (outer:List Env) (s:Shared) (H:Hp):Prop where
  frames:A.frames=some outer
  mod:Mod K mg base
  bs:∀b o,base.get? b=some o->s.heap.get? b=some o/\H b=none
  TJ:base.objs.size<=s.heap.objs.size
  rY:s.heap.FunFrames base outer
  Wa:∀b∈frs outer,H b=none
  hok:rW P w H s.heap
  bare:AllBare s.gens
def CE (outer:List Env) (P:Program) (w:World) (H:Hp) (s:Shared) (Q:VK) (u:Value) (s':Shared):Prop:=
  ∃v H',s'.os=s.os/\AllBare s'.gens/\Un (frs outer) [] H H' s.heap s'.heap/\rW P w H' s'.heap/\RelV v u/\Q v H'
def CR (CX:Wy) (outer:List Env) (P:Program) (w:World) (H:Hp) (s:Shared) (Q:VK) (E:XK) (r:Result) (s':Shared):Prop:=
  match r with
  | .ok (.ret u)=>CE outer P w H s Q u s'
  | .ok _=>False
  | .error e=>CX outer H s E e s'
structure bN (P:Program) (w:World) (K:W.Frag) (mg:Str->Option Value) (base:Heap) (CX:Wy) (k:Nat) (f:Addr) (fd:FuncData) (ps:List Str) (sp:Sp):Prop where
  len:∀vs H Q E,sp vs H Q E->vs.length=ps.length
  run:∀(A:Around) (outer:List Env) (s:Shared) (H:Hp) (args:Args) (us:List Value) (vs:List V) (Q:VK) (E:XK),fQ k A->B_ P w K mg base A outer s H->BindsTo s fd args (ps.zip us)->Vals vs us->sp vs H Q E->
    codeAny (model P w) A (.call (.ref f) args) (CR CX outer P w H s Q E) s
theorem B_.make {P:Program} {w:World} {K:W.Frag} {mg:Str->Option Value} {base:Heap} {A:Around} {outer:List Env} {s:Shared} {H:Hp} (e:B_ P w K mg base A outer s H) (C:Addr) (us:List Value) (kw:List (Str×Value)) :
    B_ P w K mg base (A.under (.builtin "type.__call__" ⟨.ref C::us,kw⟩)) outer s H:=⟨by first | exact e.frames | (simpa [Around.under,Code.envs,Code.isFrame,pushEnvs] using e.frames),e.mod,e.bs,e.TJ,e.rY,e.Wa,e.hok,e.bare⟩
theorem B_.in1 {P:Program} {w:World} {K:W.Frag} {mg:Str->Option Value} {base:Heap} {A:Around} {outer:List Env} {s:Shared} {H:Hp} (e:B_ P w K mg base A outer s H) :
    B_ P w K mg base A.in1 outer s H:=⟨e.frames,e.mod,e.bs,e.TJ,e.rY,e.Wa,e.hok,e.bare⟩
section
variable {X:Cx} {p_:List (Addr×Obj)} {σ:St} {H:Hp} {s s':Shared}
theorem Inv.env0 (I:Inv X p_ σ H s):B_ X.prog X.w X.K X.mg X.base X.A X.stack s H:=
  ⟨I.ok.frames,I.ok.mod,I.bs,qmq I.ok.TJ I.sz,I.stack,I.Ba,I.hok,I.bare⟩
theorem Inv.after {Q:VK} {u:Value} (I:Inv X p_ σ H s) (h:CE X.stack X.prog X.w H s Q u s'):EP X p_ σ Q u s':=by
  obtain⟨v,H',os,bare,un,hok,r,q⟩:=h;obtain⟨hh,g,d,t,os'⟩:=s';obtain rfl:os'=s.os:=os;exact⟨v,H',I.call (h':=hh) (g':=g) (d':=d) (t':=t) (ch:=[]) un hok bare (λb z=>absurd z (by simp)),r,q⟩
end
def Wz (sp:Sp) (yN:List V) (E:XK) (t:TA):TE:=λσ H Q=>t σ H λvs H1=>sp (vs++yN) H1 Q E
def WD (C:Addr) (m:Str) (sp:Sp) (yN:List V) (E:XK) (ta:TE) (t:TA):TE:=λσ H Q=>ta σ H λx H1=>∃a dx fs,x = .ref a/\H1 a=some (.ins C dx fs)/\fs.lookup m=none/\
  t σ H1 λvs H2=>sp (x::(vs++yN)) H2 Q E
def WK (C:Addr) (sp:Sp) (yN:List V) (E:XK) (t:TA):TE:=λσ H Q=>t σ H λvs H1=>∀x dx,H1 x=none->H1 dx=none->dx≠x->
  sp (.ref x::(vs++yN)) (upd (upd H1 dx (.own x)) x (.ins C dx [])) (λv H2=>v = .non/\Q (.ref x) H2) E
def Binds (K:W.Frag) (fd:FuncData) (ps:List Str) (ds:List Value):Prop:=
  ∀(s:Shared) (us:List Value),K.In s.heap->(us++ds).length=ps.length->BindsTo s fd ⟨us,[]⟩ (ps.zip (us++ds))
theorem Binds.all {K:W.Frag} {fd:FuncData} {ps:List Str} (h:∀us:List Value,us.length=ps.length->bindArgs fd ⟨us,[]⟩=pure (ps.zip us)):Binds K fd ps []:=λs us _ hl=>by
  rw[qmy] at hl ⊢;exact .of_eq (h us hl)
def Passes (CX:Wy) (X:Cx) (E:XK):Prop:=∀(p_:List (Addr×Obj)) (σ:St) (H:Hp) (s:Shared) (e:Value) (s':Shared),Inv X p_ σ H s->CX X.stack H s E e s'->X.xe e s'
section
variable {X:Cx} {CX:Wy} {k:Nat} {f C:Addr} {fd:FuncData} {ps:List Str} {sp:Sp} {yN:List V} {ds:List Value} {E:XK} {x m:Str} {p pos apos:Pos} {e o:Expr} {es:List Expr} {ta:TE} {t:TA}
theorem WL {p_:List (Addr×Obj)} {σ:St} {H:Hp} {s:Shared} {Q:VK} {us:List Value} {vs:List V} (F:bN X.prog X.w X.K X.mg X.base CX k f fd ps sp) (hr:fQ k X.A) (hb:Binds X.K fd ps ds) (hd:Vals yN ds) (hx:Passes CX X E)
    (I:Inv X p_ σ H s) (r:Vals vs us) (h:sp (vs++yN) H Q E):wpAny (model X.prog X.w) X.A (call (.ref f) us) (EP X p_ σ Q) X.xe s:=by
  have r2:Vals (vs++yN) (us++ds):=r.append hd;have hl:(us++ds).length=ps.length:=by rw[<- r2.length];exact F.len _ _ _ _ h
  refine qnQ (qmV (F.run X.A X.stack s H ⟨us,[]⟩ (us++ds) (vs++yN) Q E hr I.env0 (hb s us I.pP hl) r2 h) λr s' hq=>?_);cases r with
  | error e=>exact hx p_ σ H s e s' I hq
  | ok fl=>
    cases fl with
    | ret u=>exact I.after hq
    | next=>exact False.elim hq
    | brk=>exact False.elim hq
    | cont=>exact False.elim hq
theorem aG (F:bN X.prog X.w X.K X.mg X.base CX k f fd ps sp) (hr:fQ k X.A) (hg:Gl X x) (hm:X.mg x=some (.ref f)) (hk:W.keepIn X.K (.ref f)=true) (hb:Binds X.K fd ps ds) (hd:Vals yN ds) (hx:Passes CX X E)
    (ha:PA X (e::es) t) (hdb:(x == ("__debug__" : Str))=false:=by decide) (he:starEach (e::es) X.env=(false,eval e X.env)::starEach es X.env:=by rfl) (hpl:(backTo pos (starEach es X.env)).any (·.1)=false:=by rfl) :
    PE X (.Call (.Name x p) (e::es) [] pos) (Wz sp yN E t):=by
  intro p_ s σ H Q I h;refine qmS (qt I hg hm ?_ hdb);refine W.callWith_K (h₀:=X.base) I.ok.mod.V_ hk (bY (ha pos p_ s σ H _ I h) λus s1 zz=>?_) he hpl;obtain⟨vs,H1,I1,r,q⟩:=zz;refine⟨I1.pP,?_⟩;exact WL F hr hb hd hx I1 r q
theorem cT {pl:Sem Bool} (he:PE X o ta) (c:Cls X.K C) (hm:Meth X.K C m f) (F:bN X.prog X.w X.K X.mg X.base CX k f fd ps sp) (hr:fQ k X.A) (hb:Binds X.K fd ps ds) (hd:Vals yN ds) (hx:Passes CX X E)
    (ht:eval (.Call (.Attribute o m apos) [] [] pos) X.env=(do
      let ov <- eval o X.env
      standAt apos.atName
      let (f,first) <- holding [ov] (getMethod ov m pl)
      callWith pos f first (backTo pos (starEach [] X.env)) (backToKw pos (keywordEach [] X.env))):=by rfl) :
    PE X (.Call (.Attribute o m apos) [] [] pos) (WD C m sp yN E ta Iv):=by
  intro p_ s σ H Q I h;refine W.methodCall_KW (pl:=pl) (bY (he p_ s σ H _ I h) λu s1 zz=>?_) ht;obtain⟨x,H1,I1,rx,a,dx,fs,ex,ea,l,q⟩:=zz;subst ex;obtain rfl:u=Value.ref a:=rx;refine O9 I1 ea c hm l ?_;exact W.callWith_K0 (first:=[.ref a]) I1.pP hm.kp (WL (us:=[.ref a]) (vs:=[.ref a]) F hr hb hd hx I1 (.cons rfl .nil) q)
structure Mk (K:W.Frag) (C f:Addr):Prop where
  makes:W.makesIn K C=true
  init:W.findIn K (.ref C) "__init__" = some (some (.ref f))
  fn:W.isFn K (.ref f)=true
  kp:W.keepIn K (.ref C)=true
theorem WM {p_:List (Addr×Obj)} {σ:St} {H:Hp} {s:Shared} {Q:VK} {us:List Value} {vs:List V} (M:Mk X.K C f) (F:bN X.prog X.w X.K X.mg X.base CX k f fd ps sp) (hr:fQ (k+1) X.A) (hb:Binds X.K fd ps ds) (hd:Vals yN ds)
    (hx:Passes CX X E) (I:Inv X p_ σ H s) (r:Vals vs us)
    (h:∀x dx,H x=none->H dx=none->dx≠x->sp (.ref x::(vs++yN)) (upd (upd H dx (.own x)) x (.ins C dx [])) (λv H2=>v = .non/\Q (.ref x) H2) E) :
    wpAny (model X.prog X.w) X.A (call (.ref C) us) (EP X p_ σ Q) X.xe s:=by
  have hq:=h (s.heap.objs.size+1) s.heap.objs.size (I.hok.fresh (Nat.le_succ _)) (I.hok.fresh (qlY _)) (ql3 (qmT _));have I2:=Inv.made (C:=C) I;have r2:Vals (V.ref (s.heap.objs.size+1)::(vs++yN)) (Value.ref (s.heap.objs.size+1)::(us++ds)):=.cons rfl (r.append hd);have hl:(Value.ref (s.heap.objs.size+1)::us++ds).length=ps.length:=by
    have e:=r2.length;rw[F.len _ _ _ _ hq] at e;exact e.symm
  refine qnQ (Wx (f:=f) I.pP M.makes M.init (beq_iff_eq.mp M.fn) (qmV (F.run _ X.stack _ _ ⟨Value.ref (s.heap.objs.size+1)::us,[]⟩ (Value.ref (s.heap.objs.size+1)::(us++ds)) _ _ E (hr.make C us [])
    (I2.env0.make C us []) (hb _ (Value.ref (s.heap.objs.size+1)::us) I2.pP hl) r2 hq) λr s' hq'=>?_))
  cases r with
  | error e=>exact hx p_ σ _ _ e s' I2 hq'
  | ok fl=>
    cases fl with
    | ret u=>
      obtain⟨v,H',I3,rv,ev,q3⟩:=I2.after hq';subst ev;exact⟨rv,⟨V.ref (s.heap.objs.size+1),H',I3,rfl,q3⟩⟩
    | next=>exact False.elim hq'
    | brk=>exact False.elim hq'
    | cont=>exact False.elim hq'
theorem qaq (M:Mk X.K C f) (F:bN X.prog X.w X.K X.mg X.base CX k f fd ps sp) (hr:fQ (k+1) X.A) (hg:Gl X x) (hm:X.mg x=some (.ref C)) (hb:Binds X.K fd ps ds) (hd:Vals yN ds) (hx:Passes CX X E)
    (ha:PA X (e::es) t) (hdb:(x == ("__debug__" : Str))=false:=by decide) (he:starEach (e::es) X.env=(false,eval e X.env)::starEach es X.env:=by rfl) (hpl:(backTo pos (starEach es X.env)).any (·.1)=false:=by rfl) :
    PE X (.Call (.Name x p) (e::es) [] pos) (WK C sp yN E t):=by
  intro p_ s σ H Q I h;refine qmS (qt I hg hm ?_ hdb);refine W.callWith_K (h₀:=X.base) I.ok.mod.V_ M.kp (bY (ha pos p_ s σ H _ I h) λus s1 zz=>?_) he hpl;obtain⟨vs,H1,I1,r,q⟩:=zz;refine⟨I1.pP,?_⟩;exact WM M F hr hb hd hx I1 r q
end
structure aO (N P:List Str) (sc:Scope):Prop where
  kind:sc.kind = .function
  co:sc.isCoroutine=false
  gen:sc.isGenerator=false
  nd:N.Nodup
  pre:N.take P.length=P
  par:∀x∈P,sc.names.lookup x=some .local\/sc.names.lookup x=some .cell
  qdt:∀y∈sc.names,y.2≠.free
theorem GQ {kindOf:Str->Option NameKind} {x:Str}:∀{binds:List (Str×Value)} {m:Str->Option Value},(∀v,(x,v)∉binds)->bindL kindOf binds m x=m x
  | [],_,_=>rfl
  | (n,v)::r,m,h=>by
    unfold bindL;rw[GQ λw hw=>h w (qlZ _ hw)];split
    . have:x≠n:=by rintro rfl;exact h v ql6
      simp[this]
    ·rfl
theorem GR {kindOf:Str->Option NameKind} {x:Str}:∀{binds:List (Str×Value)} {m:Str->Option Value},(∀v,(x,v)∉binds)->bindC kindOf binds m x=m x
  | [],_,_=>rfl
  | (n,v)::r,m,h=>by
    unfold bindC;rw[GR λw hw=>h w (qlZ _ hw)];split
    ·rfl
    . have:x≠n:=by rintro rfl;exact h v ql6
      simp[this]
theorem GX {kindOf:Str->Option NameKind} {x:Str} {v:Value}:∀{P:List Str} {vs:List Value} {i:Nat} {m:Str->Option Value},P.Nodup->P[i]? = some x->vs[i]? = some v->kindOf x=some .local->
    bindL kindOf (P.zip vs) m x=some v
  | [],_,_,_,_,h,_,_=>by simp at h
  | _::_,[],_,_,_,_,h,_=>by simp at h
  | p::P,w::vs,0,m,nd,h1,h2,hk=>by
    simp at h1 h2;subst h1;subst h2;show bindL kindOf ((p,w)::P.zip vs) m p=_;unfold bindL;rw[GQ λv hv=>(qmO.mp nd).1 (List.of_mem_zip hv).1,if_pos hk];simp
  | p::P,w::vs,i+1,m,nd,h1,h2,hk=>by
    show bindL kindOf ((p,w)::P.zip vs) m x=_;unfold bindL;exact GX (i:=i) (qmO.mp nd).2 (by simpa using h1) (by simpa using h2) hk
theorem GZ {kindOf:Str->Option NameKind} {x:Str} {v:Value}:∀{P:List Str} {vs:List Value} {i:Nat} {m:Str->Option Value},P.Nodup->P[i]? = some x->vs[i]? = some v->kindOf x≠some .local->
    bindC kindOf (P.zip vs) m x=some v
  | [],_,_,_,_,h,_,_=>by simp at h
  | _::_,[],_,_,_,_,h,_=>by simp at h
  | p::P,w::vs,0,m,nd,h1,h2,hk=>by
    simp at h1 h2;subst h1;subst h2;show bindC kindOf ((p,w)::P.zip vs) m p=_;unfold bindC;rw[GR λv hv=>(qmO.mp nd).1 (List.of_mem_zip hv).1,if_neg hk];simp
  | p::P,w::vs,i+1,m,nd,h1,h2,hk=>by
    show bindC kindOf ((p,w)::P.zip vs) m x=_;unfold bindC;exact GZ (i:=i) (qmO.mp nd).2 (by simpa using h1) (by simpa using h2) hk
def start (N:List Str) (vs:List V):St:=vs.map some++List.replicate (N.length - vs.length) none
def aq (CX:Wy) (P:Program) (w:World) (K:W.Frag) (mg:Str->Option Value) (base:Heap) (N:List Str) (qual:Str) (scope:Scope) (f:Addr) (cd:Value) (A:Around) (outer:List Env) (s:Shared) (H:Hp) (E:XK):Cx where
  prog:=P
  w:=w
  K:=K
  mg:=mg
  base:=base
  A:=A.deeper (envOfC qual scope s.heap.objs.size f cd)
  N:=N
  s₀:=s
  H₀:=H
  env:=envOfC qual scope s.heap.objs.size f cd
  outer:=outer
  stack:=envOfC qual scope s.heap.objs.size f cd::outer
  ex:=[]
  calm:=true
  fn:=λ_=>true
  pn:=[]
  xe:=λe s'=>wpAny (model P w) (A.deeper (envOfC qual scope s.heap.objs.size f cd)) (leaving (envOfC qual scope s.heap.objs.size f cd) e) (λ_ s''=>CX outer H s E e s'') (λe' s''=>CX outer H s E e' s'') s'
theorem Lq {sc:Scope} {n:Nat} {x:Str} (h:sc.names.lookup x=some .cell):∃c,(cellsFrom n sc.names []).lookup x=some c:=by
  have q:=W.cellsFrom_some sc.names n [] (.inl h);exact Option.isSome_iff_exists.mp q
theorem G3 {CX:Wy} {P:Program} {w:World} {K:W.Frag} {mg:Str->Option Value} {base:Heap} {N ps:List Str} {qual:Str} {scope:Scope} {f:Addr} {cd:Value} {A:Around} {outer:List Env} {s s1:Shared} {H:Hp} {E:XK} {us:List Value} {vs:List V}
    (S:aO N ps scope) (hd:A.handled=none) (e0:B_ P w K mg base A outer s H) (hl:vs.length=ps.length) (r:Vals vs us)
    (x:InCallC s s.heap.objs.size (bindL (envOfC qual scope s.heap.objs.size f cd).kindOf (ps.zip us) λ_=>none) (cellsFrom (s.heap.objs.size+1) scope.names []) (bindC (envOfC qual scope s.heap.objs.size f cd).kindOf (ps.zip us) λ_=>none) s1) :
    Inv (aq CX P w K mg base N qual scope f cd A outer s H E) [] (start N vs) H s1:=by
  have hpl:ps.length<=N.length:=by have:=qmr List.length S.pre;rw[ql7] at this;omega
  obtain⟨h1,tk,rfl,hk⟩:=x.done;have noA:∀b:Addr,b∉(aq CX P w K mg base N qual scope f cd A outer s H E).ex:=λb z=>absurd (show b∈([]:List Addr) from z) (by simp);refine⟨⟨e0.mod,S.kind,rfl,rfl,qlY _,λy z c h1 h2=>?_,λy hy=>?_,λy c _ h=>?_,λ_=>hd,Around.frames_deeper e0.frames,.inr ⟨rfl,rfl⟩,λb z=>absurd z (noA b),e0.bs,e0.TJ,λb _ _=>noA b,λb z=>absurd z (noA b),e0.rY,e0.Wa⟩,
    rfl,e0.bare,Un.kept hk,⟨_,x.toInCall.ns,λi y v h1 h2 h3=>?_⟩,λy c h=>⟨_,x.cell y c h⟩,e0.hok.fresh (qlY _),λy c h=>?_,λp hp=>absurd (show p∈([]:List (Addr×Obj)) from hp) (by simp),e0.hok.kept hk,?_⟩
  ·exact name_of_addr x.apart (qmG h1) (qmG h2)
  . have hy:scope.names.lookup y=some .cell\/scope.names.lookup y=some .free:=hy
    rcases hy with hy | hy
    ·exact Lq hy
    ·exact absurd rfl (S.qdt _ (qmG hy))
  ·exact qnO (x.above y c (qmG h))
  . have hi:i<vs.length:=by
      unfold start at h2
      by_cases hi:i<vs.length
      ·exact hi
      ·rw[qma (by simpa using hi)] at h2;rw[List.getElem?_replicate] at h2;split at h2 <;> cases h2
    have ha:vs[i]? = some v:=by
      unfold start at h2;rw[ql9 (by simpa using hi),qmc] at h2;cases e:vs[i]? with
      | none=>rw[e] at h2;cases h2
      | some a=>rw[e] at h2;cases h2;rfl
    obtain⟨u,hu,rv⟩:=r.get ha;have hp:ps[i]? = some y:=by
      rw[<- S.pre,qnv (by omega)];exact h1
    have ndP:ps.Nodup:=by rw[<- S.pre];exact S.nd.sublist (List.take_sublist _ _)
    refine⟨u,rv,?_⟩
    rcases S.par y (qlX hp) with k | k
    ·exact .inl ⟨k,GX ndP hp hu k⟩
    ·obtain⟨c,e⟩:=Lq (n:=s.heap.objs.size+1) k;refine .inr ⟨.inl k,c,e,?_⟩;have q:=x.cell y c e;rw[GZ ndP hp hu (by show scope.names.lookup y≠_;rw[k];decide)] at q;exact q
  ·exact e0.hok.fresh (qnO (x.above y c (qmG h)))
  ·unfold start;show _=N.length;rw[qmb,ql2,List.length_replicate];omega
theorem WQ {CX:Wy} {P:Program} {w:World} {K:W.Frag} {mg:Str->Option Value} {base:Heap} {k:Nat} {f:Addr} {name qual:Str} {params:Arguments} {body:List Stmt} {scope:Scope} {dV kV doc pm cdv ct oc:Value} {an od:Option Addr}
    {osl:Array (Option Value)} {N ps:List Str} {sp:Sp} (lk:K.lookup f=some ⟨oc,od,.func (W.fnOf name qual params body scope dV kV doc pm an cdv ct),osl⟩) (hcd:W.codeIn K cdv qual=true) (S:aO N ps scope)
    (len:∀vs H Q E,sp vs H Q E->vs.length=ps.length)
    (hbody:∀(A:Around) (outer:List Env) (s:Shared) (H:Hp) (vs:List V) (Q:VK) (E:XK),fQ k (A.deeper (envOfC qual scope s.heap.objs.size f cdv))->sp vs H Q E->
      ∃t,GC (aq CX P w K mg base N qual scope f cdv A outer s H E) body t/\t {nx:=λ_ H'=>Q .non H',rt:=Q} (start N vs) H) :
    bN P w K mg base CX (k+1) f (W.fnOf name qual params body scope dV kV doc pm an cdv ct) ps sp:=by
  refine⟨len,λA outer s H args us vs Q E hr e0 hb r hsp=>?_⟩;have hl:=len _ _ _ _ hsp;have KX:K.In s.heap:=e0.mod.V_.keeps λb o e=>(e0.bs b o e).1;have lim:s.heap.NoLimit:=e0.mod.nolimit.keeps λb o e=>(e0.bs b o e).1;have hkind:∀y∈ps.zip us,scope.names.lookup y.1=some .local\/(scope.names.lookup y.1=some .cell/\((cellsFrom (s.heap.objs.size+1) scope.names []).lookup y.1).isSome=true):=λ⟨n,v⟩ hy=>by
    rcases S.par n (List.of_mem_zip hy).1 with q | q
    ·exact .inl q
    ·exact .inr ⟨q,W.cellsFrom_some _ _ _ (.inl q)⟩
  refine codeAny_call_function hr.depth (KX _ _ lk) rfl S.co S.gen rfl (W.codeRec_of KX hcd) (hb _ _ _ _ ?_);refine wpAny_newFunctionEnv_cells S.kind hkind λenv he s1 x=>?_;subst he;refine⟨lim.keeps x.toInCall.keep,codeAny_func ?_⟩;obtain⟨t,ht,hq⟩:=hbody A outer s H vs Q E (hr.deeper _) hsp;have I:Inv (aq CX P w K mg base N qual scope f cdv A outer s H E) [] (start N vs) H s1:=G3 S hr.hd e0 hl r x;refine qmt (ht [] s1 (start N vs) H _ I hq) (λfl s' hs=>?_) λe s' hs=>hs;have fin:∀{σ':St} {H':Hp} {v:V} {u:Value},Inv (aq CX P w K mg base N qual scope f cdv A outer s H E) [] σ' H' s'->RelV v u->Q v H'->CE outer P w H s Q u s':=
    λ{σ' H' v u} J rv q=>⟨v,H',J.os,J.bare,J.base,J.hok,rv,q⟩
  cases fl with
  | ret u=>
    obtain⟨v,σ',H',J,rv,q⟩:=hs;exact fin J rv q
  | next=>
    obtain⟨σ',H',J,q⟩:=hs;exact fin (v:=V.non) (u:=Value.none) J rfl q
  | brk=>
    obtain⟨_,_,_,q⟩:=hs;exact False.elim q
  | cont=>
    obtain⟨_,_,_,q⟩:=hs;exact False.elim q
section
variable {X:Cx} {x:Str} {p pos:Pos} {e:Expr} {es:List Expr} {t:TA} {id T:String} {r:List V->Hp->VK->Prop}
def tCB (r:List V->Hp->VK->Prop) (t:TA):TE:=λσ H Q=>t σ H λvs H1=>r vs H1 Q
theorem aM (hc:cj X (.builtin id) r) (hg:Gl X x) (hm:X.mg x=none) (hv:bootBuiltins x=some (.builtin id)) (ha:PA X (e::es) t) (hn:x≠ "__name__" :=by decide) (hdb:(x == ("__debug__" : Str))=false:=by decide)
    (he:starEach (e::es) X.env=(false,eval e X.env)::starEach es X.env:=by rfl) (hpl:(backTo pos (starEach es X.env)).any (·.1)=false:=by rfl):PE X (.Call (.Name x p) (e::es) [] pos) (tCB r t):=by
  intro p_ s σ H Q I h;refine qmS (jh I hg hm hv ?_ hn hdb);refine PyProof.Rows.callWith_builtin1 (bY (ha pos p_ s σ H _ I h) λus s1 zz=>?_) he hpl;obtain⟨vs,H1,I1,r1,q1⟩:=zz;exact hc p_ s1 σ H1 vs us Q I1 r1 q1
theorem iW (hc:cj X (.type T) r) (hg:Gl X x) (hm:X.mg x=none) (hv:bootBuiltins x=some (.type T)) (ha:PA X (e::es) t) (hn:x≠ "__name__" :=by decide) (hdb:(x == ("__debug__" : Str))=false:=by decide)
    (he:starEach (e::es) X.env=(false,eval e X.env)::starEach es X.env:=by rfl) (hpl:(backTo pos (starEach es X.env)).any (·.1)=false:=by rfl):PE X (.Call (.Name x p) (e::es) [] pos) (tCB r t):=by
  intro p_ s σ H Q I h;refine qmS (jh I hg hm hv ?_ hn hdb);refine qmE (bY (ha pos p_ s σ H _ I h) λus s1 zz=>?_) he hpl;obtain⟨vs,H1,I1,r1,q1⟩:=zz;exact hc p_ s1 σ H1 vs us Q I1 r1 q1
end
end L2
namespace HT
open PySem PyProof.Rows
section
variable {prog:Program} {w:World} {A:Around} {E:Value->Shared->Prop} {s:Shared}
def Iw (n d:Nat):Option Int->Nat
  | none=>d
  | some v=>if v<0 then (v+(n:Int)).toNat else min v.toNat n
end
end HT
namespace L2
open PySem PySem.Spec PyProof.Rows
abbrev TO:=St->Hp->(Option Int->Hp->Prop)->Prop
def PO (X:Cx) (e:Option Expr) (t:TO):Prop:=
  ∀(p_:List (Addr×Obj)) (s:Shared) (σ:St) (H:Hp) (Q:Option Int->Hp->Prop),Inv X p_ σ H s->t σ H Q->
    wpAny (model X.prog X.w) X.A (evalPart e X.env) (λu s'=>∃o H',Inv X p_ σ H' s'/\IsPart u o/\Q o H') X.xe s
def WR (t:TE):TO:=λσ H Q=>t σ H λx H1=>∃i,x = .int i/\Q (some i) H1
section
variable {X:Cx} {e:Expr} {te:TE} {lo hi:Option Expr} {tl th:TO} {pos p2:Pos}
theorem RD (h:PE X e te):PO X (some e) (WR te):=by
  intro p_ s σ H Q I hw;rw[evalPart_some];refine bY (h p_ s σ H _ I hw) λu s1 zz=>?_;obtain⟨x,H1,I1,r1,q1⟩:=zz;obtain⟨i,rfl,q⟩:=q1;obtain⟨t,rfl⟩:=r1;exact⟨some i,H1,I1,.int i t,q⟩
def SlR (X:Cx) (r:V->Option Int->Option Int->Hp->VK->Prop):Prop:=
  ∀(p_:List (Addr×Obj)) (s:Shared) (σ:St) (H:Hp) (x:V) (v vl vu:Value) (lo hi:Option Int) (sl:Addr) (Q:VK),Inv X p_ σ H s->RelV x v->s.heap.IsSliceOf sl vl vu .none->IsPart vl lo->IsPart vu hi->r x lo hi H Q->
    ∃T id,typeLookup (.type T) "__getitem__" = pure (some (.builtin id))/\s.TypeIs v T/\wpAny (model X.prog X.w) X.A (getItem v (.ref sl)) (EP X p_ σ Q) X.xe s
def tSl (r:V->Option Int->Option Int->Hp->VK->Prop) (te:TE) (tl th:TO):TE:=λσ H Q=>te σ H λx H1=>tl σ H1 λl H2=>th σ H2 λu H3=>r x l u H3 Q
theorem WT {r:V->Option Int->Option Int->Hp->VK->Prop} (hr:SlR X r) (he:PE X e te) (hl:PO X lo tl) (hu:PO X hi th):PE X (.Subscript e (.Slice lo hi none p2) pos) (tSl r te tl th):=by
  intro p_ s σ H Q I h;refine Subscript_ (bY (he p_ s σ H _ I h) λv s1 zz=>?_);obtain⟨x,H1,I1,r1,q1⟩:=zz;refine wpAny_Slice (bY (hl p_ s1 σ H1 _ I1 q1) λvl s2 ⟨l,H2,I2,pl,q2⟩=>bY (hu p_ s2 σ H2 _ I2 q2) λvu s3 ⟨u,H3,I3,pu,q3⟩=>?_);rw[evalPart_none];refine qlV ?_;have I4:Inv X p_ σ H3 {s3 with heap:=s3.heap.push {cls:=.type "slice",data:=.fields #[vl,vu,.none]}}:=I3.kept (t':=s3.toks) λb ob q=>qlU _ q;obtain⟨T,id,hT,ht,hg⟩:=hr p_ {s3 with heap:=s3.heap.push {cls:=.type "slice",data:=.fields #[vl,vu,.none]}} σ H3 x v vl vu l u s3.heap.objs.size Q I4 r1 (Heap.IsSliceOf.new ..) pl pu q3;show wpAny (model X.prog X.w) X.A (subscriptTail e (.Slice lo hi none p2) v (.ref s3.heap.objs.size)) (EP X p_ σ Q) X.xe {s3 with heap:=s3.heap.push {cls:=.type "slice",data:=.fields #[vl,vu,.none]}};exact tail_any (ops:=[.ref s3.heap.objs.size,v]) ht hT hg (by with_unfolding_all rfl)
def yP (xs:List V) (lo hi:Option Int):List V:=(xs.drop (HT.Iw xs.length 0 lo)).take (HT.Iw xs.length xs.length hi - HT.Iw xs.length 0 lo)
theorem Lr (xs:List V) (lo hi:Option Int):(yP xs lo hi).length<=xs.length:=by
  unfold yP;rw[ql7,List.length_drop];omega
end
def WW (n:Nat) (i:Int):Option Nat:=if 0<=i then (if i<n then some i.toNat else none) else if -(n:Int)<=i then some (i+n).toNat else none
def Fl {α:Type} (xs:List α) (i:Int):Option α:=(WW xs.length i).bind λj=>xs[j]?
theorem RG {n:Nat} {i:Int} {j:Nat} (h:WW n i=some j):seqIndex? i n=some j/\j<n/\-(n:Int)<=i/\i<n:=by
  unfold WW at h
  by_cases h0:0<=i
  . rw[if_pos h0] at h
    by_cases h1:i<n
    ·rw[if_pos h1] at h;have e:i.toNat=j:=qmp h;exact⟨by rw[seqIndex_of h0 h1,e],by omega,by omega,h1⟩
    ·rw[if_neg h1] at h;cases h
  . rw[if_neg h0] at h
    by_cases h1 : -(n:Int)<=i
    ·rw[if_pos h1] at h;have e:(i+n).toNat=j:=qmp h;exact⟨by rw[seqIndex_neg (by omega) h1,e],by omega,h1,by omega⟩
    ·rw[if_neg h1] at h;cases h
theorem Iz {α:Type} {xs:List α} {i:Int} {v:α} (h:Fl xs i=some v):∃j,seqIndex? i xs.length=some j/\xs[j]? = some v/\j<xs.length/\-(xs.length:Int)<=i/\i<xs.length:=by
  unfold Fl at h;cases e:WW xs.length i with
  | none=>rw[e] at h;cases h
  | some j=>
    rw[e] at h;obtain⟨h1,h2,h3,h4⟩:=RG e;exact⟨j,h1,h,h2,h3,h4⟩
theorem bH {α:Type} {xs:List α} {j:Nat} {v:α} (h:xs[j]? = some v):Fl xs (j:Int)=some v:=by
  have hj:j<xs.length:=(qlT.mp h).1;have e:WW xs.length (j:Int)=some j:=by
    unfold WW;rw[if_pos (by omega),if_pos (by omega)];simp
  unfold Fl;rw[e];exact h
def qar (b:Expr):Prop:=∀o i,subscripted b false o i=operate [o,i] (getItem o i)
def WX (X:Cx) (r:R2):Prop:=
  ∀(value slice:Expr) (p_:List (Addr×Obj)) (s:Shared) (σ:St) (H:Hp) (x y:V) (v u:Value) (Q:VK),Inv X p_ σ H s->RelV x v->RelV y u->r x y H Q->
    subscripted slice false v u=operate [v,u] (getItem v u)->wpAny (model X.prog X.w) X.A (subscriptTail value slice v u) (EP X p_ σ Q) X.xe s
def Pg (X:Cx) (id:String) (r:V->List V->Hp->VK->Prop):Prop:=
  ∀(p_:List (Addr×Obj)) (s:Shared) (σ:St) (H:Hp) (x:V) (xs:List V) (v:Value) (us:List Value) (Q:VK),Inv X p_ σ H s->RelV x v->Vals xs us->r x xs H Q->
    wpAny (model X.prog X.w) X.A (call (.builtin id) (v::us)) (EP X p_ σ Q) X.xe s
section
variable {X:Cx} {a b:Expr} {ta tb:TE} {pos:Pos}
theorem cR {r:R2} (hr:WX X r) (ha:PE X a ta) (hb:PE X b tb) (hs:qar b):PE X (.Subscript a b pos) (V3 r ta tb):=by
  intro p_ s σ H Q I h;exact Subscript_ (qde ha hb I h λv u s2 x y H2 I2 rx ry q=>hr a b p_ s2 σ H2 x y v u Q I2 rx ry q (hs _ _))
def qjl (K:W.Frag):R2:=λx y H Q=>∃p xs i v,x = .ref p/\y = .int i/\aX K H p xs/\Fl xs i=some v/\Q v H
def qjm (K:W.Frag):R2:=λx y H Q=>∃p xs i v,x = .ref p/\y = .int i/\dO K H p xs/\Fl xs i=some v/\Q v H
def qfH:R2:=λx y H Q=>∃z i c,x = .str z/\y = .int i/\z.length<=sizeLine/\Fl z.cps.toList i=some c/\Q (.str ⟨#[c]⟩) H
theorem qas:WX X (qjl X.K):=by
  intro value slice p_ s σ H x y v u Q I rx ry h hs;obtain⟨p,xs,i,z,rfl,rfl,hq,he,q⟩:=h;cases rx;obtain⟨t,rfl⟩:=ry;obtain⟨its,r,pl,hz⟩:=I.list hq;obtain⟨j,h1,h2,h3,h4,h5⟩:=Iz he;obtain⟨w,ew,WY⟩:=r.get h2;have hl:=r.length;have hn:=vC;have fin:EP X p_ σ Q w s:=⟨z,H,I,WY,q⟩
  by_cases h0:0<=i
  . have hj:i.toNat=j:=by
      rw[seqIndex_of h0 h5] at h1;exact qmp h1
    exact item_listR pl.isList h0 (by omega) (by rw[hj];simpa using ew) fin hs
  . have hj:(i+(its.toArray.size:Int)).toNat=j:=by
      rw[seqIndex_neg (by omega) h4] at h1;rw[qmf,<- hl];exact qmp h1
    exact subscriptTail_builtinR (x:=w) pl.isList.typeIs slot_list_getitem.lookup
      (wpAny_getItem_list_neg (Q:=λr s'=>r=w/\EP X p_ σ Q r s') pl.isList (by omega) (by rw[qmf] <;> omega) (by omega) (by rw[hj];simpa using ew) ⟨rfl,fin⟩) hs
theorem qdu:WX X (qjm X.K):=by
  intro value slice p_ s σ H x y v u Q I rx ry h hs;obtain⟨p,xs,i,z,rfl,rfl,hq,he,q⟩:=h;cases rx;obtain⟨t,rfl⟩:=ry;obtain⟨its,r,pl,hz⟩:=I.tuple hq;obtain⟨j,h1,h2,h3,h4,h5⟩:=Iz he;obtain⟨w,ew,WY⟩:=r.get h2;have hl:=r.length;have hn:=vC;have fin:EP X p_ σ Q w s:=⟨z,H,I,WY,q⟩;exact subscriptTail_builtinR (x:=w) pl.typeIs slot_tuple_getitem.lookup
    (getItem_tuple (j:=j) (Q:=λr s'=>r=w/\EP X p_ σ Q r s') pl (by omega) (by omega) (by rw[qmf,<- hl];exact h1) (by simpa using ew) ⟨rfl,fin⟩) hs
theorem qdv:WX X qfH:=by
  intro value slice p_ s σ H x y v u Q I rx ry h hs;obtain⟨z,i,c,rfl,rfl,hz,he,q⟩:=h;obtain⟨t,rfl⟩:=rx;obtain⟨t',rfl⟩:=ry;obtain⟨j,h1,h2,h3,h4,h5⟩:=Iz he;have hl:z.cps.toList.length=z.length:=by simp[Str.length]
  rw[hl] at h1 h4 h5;have hn:=vC;exact tail_any (typeIs_str s z t) slot_str_getitem.lookup (getItem_str (c:=c) (by
    have e1:decide (i < -(2 ^ 63:Int))=false:=qmA (by omega);have e2:decide (i≥2 ^ 63)=false:=qmA (by omega);rw[e1,e2,Bool.or_false]) (by rw[h1];simpa using h2) ⟨.str ⟨#[c]⟩,H,I.tok _,⟨_,rfl⟩,q⟩) hs
theorem Ph (its:List Value) (n j:Nat) (u:Value):Obj.mapSeq (·.setIfInBounds j u) {cls:=.type "list",data:=.seq its.toArray n}={cls:=.type "list",data:=.seq (its.set j u).toArray n}:=by
  simp[Obj.mapSeq]
theorem Inv.lst {p_:List (Addr×Obj)} {σ:St} {H:Hp} {s:Shared} {p:Addr} {xs:List V} (I:Inv X p_ σ H s) (h:H p=some (.lst xs)) :
    ∃(its:List Value) (n:Nat),Vals xs its/\s.heap.get? p=some {cls:=.type "list",data:=.seq its.toArray n}/\xs.length<=sizeLine:=by
  obtain⟨z,its,n,r,e⟩:=I.hok p _ h;exact⟨its,n,r,e,z⟩
theorem Inv.qdw {p_:List (Addr×Obj)} {σ:St} {H:Hp} {s:Shared} {p:Addr} {xs ys:List V} {its its':List Value} {n n':Nat} {f:Obj->Obj} (I:Inv X p_ σ H s) (h:H p=some (.lst xs))
    (ho:s.heap.get? p=some {cls:=.type "list",data:=.seq its.toArray n}) (hf:f {cls:=.type "list",data:=.seq its.toArray n}={cls:=.type "list",data:=.seq its'.toArray n'}) (r:Vals ys its') (hz:ys.length<=sizeLine) (t:Nat) :
    Inv X p_ σ (upd H p (.lst ys)) {s with heap:=s.heap.update p f,toks:=t}:=by
  have e:(s.heap.update p f).get? p=some {cls:=.type "list",data:=.seq its'.toArray n'}:=by
    rw[qmI f ho (by rw[hf] <;> rfl),hf]
  refine I.write (x:=p) (e:=p) (by rw[h];trivial) (.inl rfl) (λb u hb q=>(qna _ _ (qnx hb)).trans q) ⟨_,e⟩ ?_;exact⟨hz,its',n',r,e⟩
def qcj:V->V->V->Hp->(Hp->Prop)->Prop:=λo i v H Q=>∃p xs k j,o = .ref p/\i = .int k/\H p=some (.lst xs)/\WW xs.length k=some j/\Q (upd H p (.lst (xs.set j v)))
theorem set_list:TV X qcj:=by
  intro p_ s σ H o i v ov iv u Q I ro ri rv h;obtain⟨p,xs,k,j,rfl,rfl,hp,hj,q⟩:=h;cases ro;obtain⟨t,rfl⟩:=ri;obtain⟨its,n,r,ho,hz⟩:=I.lst hp;obtain⟨h1,h2,h3,h4⟩:=RG hj;have hl:=r.length;have hn:=vC;have I':Inv X p_ σ (upd H p (.lst (xs.set j v))) {s with heap:=s.heap.update p (Obj.mapSeq (·.setIfInBounds j u))}:=
    I.qdw hp ho (Ph its n j u) (r.set rv j) (by rw[List.length_set];exact hz) s.toks
  by_cases h0:0<=k
  . have hk:k.toNat=j:=by
      rw[seqIndex_of h0 h4] at h1;exact qmp h1
    exact W.ki_setAt ho h0 (by omega) (by rw[qmf,<- hl];exact h4) (by rw[hk];exact⟨_,I',q⟩)
  . have hk:(k+(its.toArray.size:Int)).toNat=j:=by
      rw[seqIndex_neg (by omega) h3] at h1;rw[qmf,<- hl];exact qmp h1
    exact W.ki_setBack ho (by omega) (by rw[qmf,<- hl];exact h3) (by omega) (by rw[hk];exact⟨_,I',q⟩)
theorem IK (lo hi:Option Int) (n:Nat):(sliceBounds lo hi none n).1=((HT.Iw n 0 lo:Nat):Int)/\(sliceBounds lo hi none n).2.1=((HT.Iw n n hi:Nat):Int)/\(sliceBounds lo hi none n).2.2=1:=by
  refine⟨?_,?_,rfl⟩
  . cases lo with
    | none=>simp[sliceBounds,HT.Iw]
    | some i=>
      simp only[sliceBounds,HT.Iw,Option.getD_none,show(1:Int) > 0 by decide,if_true]
      by_cases h:i<0
      ·simp only[h,if_true] <;> omega
      ·simp only[h,if_false] <;> omega
  . cases hi with
    | none=>simp[sliceBounds,HT.Iw]
    | some i=>
      simp only[sliceBounds,HT.Iw,Option.getD_none,show(1:Int) > 0 by decide,if_true]
      by_cases h:i<0
      ·simp only[h,if_true] <;> omega
      ·simp only[h,if_false] <;> omega
theorem Fp (its:List Value) (lo hi:Option Int):slicePick its.toArray lo hi none=((its.drop (HT.Iw its.length 0 lo)).take (HT.Iw its.length its.length hi - HT.Iw its.length 0 lo)).toArray:=by
  obtain⟨h1,h2,h3⟩:=IK lo hi its.toArray.size;unfold slicePick;rw[h1,h2,h3];simp only[sliceRange_one,pick_run,qmf] <;> rfl
def qat (K:W.Frag):V->Option Int->Option Int->Hp->VK->Prop:=λx lo hi H Q=>∃a xs,x = .ref a/\aX K H a xs/\∀p,H p=none->Q (.ref p) (upd H p (.lst (yP xs lo hi)))
theorem qau:SlR X (qat X.K):=by
  intro p_ s σ H x v vl vu lo hi sl Q I rx hs pl pu h;obtain⟨a,xs,rfl,hx,q⟩:=h;cases rx;obtain⟨its,r,ht,hz⟩:=I.list hx;have hlen:=r.length;refine⟨"list",_,slot_list_getitem.lookup,ht.isList.typeIs,?_⟩;refine wpAny_getItem_list_slice ht.isList hs pl pu .none (by simp) ?_ (by rw[qmf] <;> omega);rw[Fp,<- hlen];refine⟨.ref s.heap.objs.size,_,I.laid (t':=s.toks) (o:=.lst (yP xs lo hi)) (λb ob q=>qlU _ q) (qlY _) ?_,rfl,q _ (I.hok.fresh (qlY _))⟩;exact⟨qmq (Lr xs lo hi) hz,_,0,(r.drop (HT.Iw xs.length 0 lo)).take (HT.Iw xs.length xs.length hi - HT.Iw xs.length 0 lo),ql0 _ rfl⟩
def ji:V->Bool
  | .non=>true
  | .bl _=>true
  | .int _=>true
  | .str _=>true
  | _=>false
def Uc:V->V->Bool
  | .non,.non=>true
  | .bl a,.bl b=>a == b
  | .bl a,.int b=>(if a then 1 else 0) == b
  | .int a,.bl b=>a == (if b then 1 else 0)
  | .int a,.int b=>a == b
  | .str a,.str b=>a == b
  | _,_=>false
theorem qdx {A:Around} {s:Shared} {y x:V} {u v:Value} (ry:RelV y u) (rx:RelV x v) (fy:ji y=true) (fx:ji x=true):SeqAt.EqAt A s u v (Uc y x):=by
  cases y with
  | non=>
    cases ry;cases x with
    | non=>cases rx;exact SeqAt.EqAt.same _
    | bl b=>cases rx;exact SeqAt.EqAt.none_bool b
    | int b=>obtain⟨t,rfl⟩:=rx;exact SeqAt.EqAt.none_int b t
    | str b=>obtain⟨t,rfl⟩:=rx;exact SeqAt.EqAt.none_str b t
    | _=>exact absurd (show false=true from fx) ql_
  | bl a=>
    cases ry;cases x with
    | non=>cases rx;exact SeqAt.EqAt.bool_none a
    | bl b=>cases rx;exact SeqAt.EqAt.bool_bool a b
    | int b=>obtain⟨t,rfl⟩:=rx;exact SeqAt.EqAt.bool_int a b t
    | str b=>obtain⟨t,rfl⟩:=rx;exact SeqAt.EqAt.bool_str a b t
    | _=>exact absurd (show false=true from fx) ql_
  | int a=>
    obtain⟨t',rfl⟩:=ry;cases x with
    | non=>cases rx;exact SeqAt.EqAt.int_none a t'
    | bl b=>cases rx;exact SeqAt.EqAt.int_bool a t' b
    | int b=>obtain⟨t,rfl⟩:=rx;exact SeqAt.EqAt.int_int a t' b t
    | str b=>obtain⟨t,rfl⟩:=rx;exact SeqAt.EqAt.int_str a t' b t
    | _=>exact absurd (show false=true from fx) ql_
  | str a=>
    obtain⟨t',rfl⟩:=ry;cases x with
    | non=>cases rx;exact SeqAt.EqAt.str_none a t'
    | bl b=>cases rx;exact SeqAt.EqAt.str_bool a t' b
    | int b=>obtain⟨t,rfl⟩:=rx;exact SeqAt.EqAt.str_int a t' b t
    | str b=>obtain⟨t,rfl⟩:=rx;exact SeqAt.EqAt.str_str a t' b t
    | _=>exact absurd (show false=true from fx) ql_
  | _=>exact absurd (show false=true from fy) ql_
def Pj (x:V) (u:Value):Bool:=match u with
  | .none=>Uc .non x
  | .bool b=>Uc (.bl b) x
  | .int i _=>Uc (.int i) x
  | .str z _=>Uc (.str z) x
  | _=>false
theorem W0 {x y:V} {u:Value} (r:RelV y u) (f:ji y=true):Pj x u=Uc y x:=by
  cases y with
  | non=>cases r;rfl
  | bl b=>cases r;rfl
  | int i=>obtain⟨t,rfl⟩:=r;rfl
  | str z=>obtain⟨t,rfl⟩:=r;rfl
  | _=>exact absurd (show false=true from f) ql_
theorem wG {x:V}:∀{xs:List V} {us:List Value},Vals xs us->xs.all ji=true->us.any (Pj x)=xs.any λy=>Uc y x
  | _,_,.nil,_=>rfl
  | y::xs,u::us,.cons r t,f=>by
    rw[List.all_cons,qnJ] at f;rw[qnR,qnR,W0 r f.1,wG t f.2]
theorem sG {A:Around} {s:Shared} {x:V} {v:Value} (rx:RelV x v) (fx:ji x=true):∀{xs:List V} {us:List Value},Vals xs us->xs.all ji=true->∀u∈us,SeqAt.EqAt A s u v (Pj x u)
  | _,_,.nil,_=>λu hu=>by cases hu
  | y::xs,u::us,.cons r t,f=>λu' hu=>by
    rw[List.all_cons,qnJ] at f
    rcases ql1.mp hu with rfl | hu
    ·rw[W0 r f.1];exact qdx r rx f.1 fx
    ·exact sG rx fx t f.2 u' hu
def inV (x:V) (xs:List V):Bool:=xs.any λy=>Uc y x
def rIn (K:W.Frag) (neg:Bool):R2:=λx y H Q=>∃p xs,y = .ref p/\(aX K H p xs\/dO K H p xs)/\ji x=true/\xs.all ji=true/\Q (.bl (if neg then !inV x xs else inV x xs)) H
theorem Ud:gb X (compareOp .In) (rIn X.K false):=by
  intro p_ s σ H x y v u Q I rx ry h;obtain⟨p,xs,rfl,hq,fx,fs,q⟩:=h;cases ry
  rcases hq with hq | hq
  ·obtain⟨its,r,pl,hz⟩:=I.list hq;refine SeqAt.in_listAt (Pj x) pl.isList (λw hw=>sG rx fx r fs w (by simpa using hw)) ⟨.bl _,H,I,rfl,?_⟩;rw[show its.toArray.any (Pj x)=its.any (Pj x) by simp,wG r fs];exact q
  ·obtain⟨its,r,pl,hz⟩:=I.tuple hq;refine SeqAt.in_tupleAt (Pj x) pl (λw hw=>sG rx fx r fs w (by simpa using hw)) ⟨.bl _,H,I,rfl,?_⟩;rw[show its.toArray.any (Pj x)=its.any (Pj x) by simp,wG r fs];exact q
theorem IV:gb X (compareOp .NotIn) (rIn X.K true):=by
  intro p_ s σ H x y v u Q I rx ry h;obtain⟨p,xs,rfl,hq,fx,fs,q⟩:=h;cases ry
  rcases hq with hq | hq
  ·obtain⟨its,r,pl,hz⟩:=I.list hq;refine SeqAt.notIn_listAt (Pj x) pl.isList (λw hw=>sG rx fx r fs w (by simpa using hw)) ⟨.bl _,H,I,rfl,?_⟩;rw[show its.toArray.any (Pj x)=its.any (Pj x) by simp,wG r fs];exact q
  ·obtain⟨its,r,pl,hz⟩:=I.tuple hq;refine SeqAt.notIn_tupleAt (Pj x) pl (λw hw=>sG rx fx r fs w (by simpa using hw)) ⟨.bl _,H,I,rfl,?_⟩;rw[show its.toArray.any (Pj x)=its.any (Pj x) by simp,wG r fs];exact q
theorem IW:gb X (compareOp .NotIn) (λx y H Q=>∃i j,x = .str i/\y = .str j/\Q (.bl (!(!(Builtin.Str.occurrences j i 0 j.length 1).isEmpty))) H):=by
  intro p_ s σ H x y v u Q I rx ry h;obtain⟨i,j,rfl,rfl,q⟩:=h;obtain⟨t,rfl⟩:=rx;obtain⟨t',rfl⟩:=ry;exact notIn_str ⟨.bl _,H,I,rfl,q⟩
theorem I_:cj X (.builtin "len") (λxs H Q=>∃p ys,xs=[.ref p]/\(aX X.K H p ys\/dO X.K H p ys)/\Q (.int ys.length) H):=by
  intro p_ s σ H xs us Q I r h;obtain⟨p,ys,rfl,hq,q⟩:=h;obtain⟨u,rfl,rx⟩:=vals1 r;cases rx;have hn:=vC
  rcases hq with hq | hq
  ·obtain⟨its,r',pl,hz⟩:=I.list hq;have hlen:=r'.length;exact Calls.call_len_list pl.isList (by simp only[qmf] <;> omega) ⟨.int ys.length,H,I.tok _,⟨s.toks+1,by rw[qmf,hlen]⟩,q⟩
  ·obtain⟨its,r',pl,hz⟩:=I.tuple hq;have hlen:=r'.length;exact len_tuple pl (by simp only[qmf] <;> omega) ⟨.int ys.length,H,I.tok _,⟨s.toks+1,by rw[qmf,hlen]⟩,q⟩
theorem Ja:cj X (.builtin "len") (λxs H Q=>∃z,xs=[.str z]/\z.length<=sizeLine/\Q (.int z.length) H):=by
  intro p_ s σ H xs us Q I r h;obtain⟨z,rfl,hz,q⟩:=h;obtain⟨u,rfl,t,rfl⟩:=vals1 r;have hn:=vC;exact len_str (by omega) ⟨.int z.length,H,I.tok _,⟨_,rfl⟩,q⟩
theorem Jb:cj X (.type "list") (λxs H Q=>∃p ys,xs=[.ref p]/\(aX X.K H p ys\/dO X.K H p ys)/\∀l,H l=none->Q (.ref l) (upd H l (.lst ys))):=by
  intro p_ s σ H xs us Q I r h;obtain⟨p,ys,rfl,hq,q⟩:=h;obtain⟨u,rfl,rx⟩:=vals1 r;cases rx;have fin:∀(its:List Value),Vals ys its->ys.length<=sizeLine->∀(h':Heap) (c':Nat),(∀b o',s.heap.get? b=some o'->h'.get? b=some o')->
      h'.get? s.heap.objs.size=some {cls:=.type "list",dict:=none,data:=.seq its.toArray c',slots:=#[]}->EP X p_ σ Q (.ref s.heap.objs.size) {s with heap:=h'}:=λits r' hz h' c' kp e=>
    ⟨.ref s.heap.objs.size,_,I.laid (t':=s.toks) kp (qlY _) (show bZ X.prog X.w _ h' _ (.lst ys) from⟨hz,its,c',r',e⟩),rfl,q _ (I.hok.fresh (qlY _))⟩
  rcases hq with hq | hq
  ·obtain⟨its,r',pl,hz⟩:=I.list hq;have hlen:=r'.length;obtain⟨o,ho,hc,n,hd⟩:=pl.isList;exact call_list_seq p (.inl rfl) ho hc hd (λh' c' kp e=>fin its r' hz h' c' kp e) (by simp only[qmf] <;> omega)
  ·obtain⟨its,r',pl,hz⟩:=I.tuple hq;have hlen:=r'.length;obtain⟨o,ho,hc,n,hd⟩:=pl;exact call_list_seq p (.inr rfl) ho hc hd (λh' c' kp e=>fin its r' hz h' c' kp e) (by simp only[qmf] <;> omega)
theorem Fq:cj X (.type "tuple") (λxs H Q=>∃p ys,xs=[.ref p]/\((aX X.K H p ys/\∀l,H l=none->Q (.ref l) (upd H l (.tup ys)))\/(dO X.K H p ys/\Q (.ref p) H))):=by
  intro p_ s σ H xs us Q I r h;obtain⟨p,ys,rfl,h⟩:=h;obtain⟨u,rfl,rx⟩:=vals1 r;cases rx
  rcases h with⟨hq,q⟩ | ⟨hq,q⟩
  . obtain⟨its,r',pl,hz⟩:=I.list hq;have hlen:=r'.length;refine call_tuple_list pl.isList (λh' kp=>?_) (by simp only[qmf] <;> omega);have I1:Inv X p_ σ H {s with heap:=h'}:=I.kept (t':=s.toks) kp;have I2:Inv X p_ σ (upd H h'.objs.size (.tup ys)) {s with heap:=h'.push {cls:=.type "tuple",data:=.seq its.toArray}}:=
      I1.laid (t':=s.toks) (λb o e=>qlU _ e) (qlY _) (show bZ X.prog X.w _ _ _ (.tup ys) from⟨hz,its,r',IsTup.new _ _⟩)
    exact⟨.ref h'.objs.size,_,I2,rfl,q _ (I1.hok.fresh (qlY _))⟩
  ·obtain⟨its,r',pl,hz⟩:=I.tuple hq;exact call_tuple_same pl ⟨.ref p,H,I,rfl,q⟩
def tyV (K:W.Frag) (T:String) (x:V) (H:Hp):Prop:=match x with
  | .str _=>T = "str"
  | .int _=>T = "int"
  | .ref p=>(T = "list" /\∃xs,aX K H p xs)\/(T = "tuple" /\∃o,K.lookup p=some o/\o.cls = .type "tuple" /\o.dict=none)\/
      (T = "dict" /\((∃kvs,H p=some (.dK kvs))\/∃kvs,H p=some (.dT kvs)))\/(T = "set" /\∃S n,H p=some (.set S n))
  | _=>False
theorem qdy {p_:List (Addr×Obj)} {σ:St} {H:Hp} {s:Shared} {T:String} {x:V} {v:Value} (I:Inv X p_ σ H s) (r:RelV x v) (ty:tyV X.K T x H) :
    s.TypeIs v T/\∀a,v = .ref a->∃ob,s.heap.get? a=some ob/\ob.dict=none:=by
  cases x with
  | str z=>
    obtain⟨t,rfl⟩:=r;cases (show T = "str" from ty);exact⟨typeIs_str s z t,λ_ e=>nomatch e⟩
  | int i=>
    obtain⟨t,rfl⟩:=r;cases (show T = "int" from ty);exact⟨typeIs_int s i t,λ_ e=>nomatch e⟩
  | ref p=>
    cases r
    rcases ty with⟨rfl,xs,hq⟩ | ⟨rfl,o,hk,hc,hd⟩ | ⟨rfl,hk⟩ | ⟨rfl,S,n,hk⟩
    ·obtain⟨its,_,pl,_⟩:=I.list hq;refine⟨pl.isList.typeIs,λa e=>?_⟩;cases e;obtain⟨o,n,e,c,hd,_⟩:=pl;exact⟨o,e,hd⟩
    ·refine⟨⟨o,I.pP p o hk,hc⟩,λa e=>?_⟩;cases e;exact⟨o,I.pP _ o hk,hd⟩
    . have z:∃o,s.heap.get? p=some o/\o.ExactDict:=by
        rcases hk with⟨kvs,hk⟩ | ⟨kvs,hk⟩
        ·obtain⟨_,_,_,_,o,_,_,e,ex,_⟩:=I.hok p _ hk;exact⟨o,e,ex⟩
        ·obtain⟨_,_,_,_,o,_,_,e,ex,_⟩:=I.hok p _ hk;exact⟨o,e,ex⟩
      obtain⟨o,e,ex⟩:=z;refine⟨⟨o,e,ex.1⟩,λa e2=>?_⟩;cases e2;exact⟨o,e,ex.2.1⟩
    ·obtain⟨o,_,_,_,e,ex,_⟩:=I.hok p _ hk;refine⟨⟨o,e,ex.1⟩,λa e2=>?_⟩;cases e2;exact⟨o,e,ex.2.1⟩
  | _=>exact False.elim ty
def tBM (K:W.Frag) (T:String) (r:V->List V->Hp->VK->Prop) (to:TE) (t:TA):TE:=λσ H Q=>to σ H λx H1=>tyV K T x H1/\t σ H1 λxs H2=>r x xs H2 Q
variable {o e:Expr} {es:List Expr} {to:TE} {t:TA} {name:Str} {apos cpos:Pos} {T id:String} {r:V->List V->Hp->VK->Prop}
theorem qfI (pa:PlainAttrs T) (slot:Slot T name id) (hty:typeOf (.builtin id)=pure (.type "method_descriptor")) (hm:Pg X id r) (ho:PE X o to) (ha:PA X (e::es) t)
    (hbase:attributeBase o name X.env (eval o X.env)=eval o X.env:=by rfl)
    (hfew:((backTo cpos (starEach (e::es) X.env)).all (λx=>!x.1) && (backToKw cpos (keywordEach [] X.env)).all (λx=>x.1.isSome)
      && decide ((e::es).length+([]:List Keyword).length+(if ([]:List Keyword).isEmpty then 0 else 1)<30))=true:=by rfl)
    (hline:(apos.endLine == cpos.line)=true:=by rfl) (hs:starEach (e::es) X.env=(false,eval e X.env)::starEach es X.env:=by rfl) (hplain:(backTo cpos (starEach es X.env)).any (·.1)=false:=by rfl) :
    PE X (.Call (.Attribute o name apos) (e::es) [] cpos) (tBM X.K T r to t):=by
  intro p_ s σ H Q I h;refine wpAny_Call_method_late hbase hfew hline rfl (bY (ho p_ s σ H _ I h) λv s1 zz=>?_);obtain⟨x,H1,I1,r1,ty,q1⟩:=zz;obtain⟨h1,h2⟩:=qdy I1 r1 ty;refine⟨T,id,pa,slot,hty,h1,h2,?_⟩;have hA:=ha cpos p_ s1 σ H1 _ I1 q1;rw[hs] at hA ⊢;refine Calls.callWith_builtin (by show(false || (backTo cpos (starEach es X.env)).any (·.1))=false;rw[hplain] <;> rfl) (Calls.evalArgs_plain ?_)
  refine bY hA λus s2 zz=>?_;obtain⟨vs,H2,I2,r2,q2⟩:=zz;exact hm p_ s2 σ H2 x vs v us Q I2 r1 r2 q2
end
def MtM (X:Cx) (id:String) (r:V->List V->Hp->VK->Prop):Prop:=
  ∀(p_:List (Addr×Obj)) (s:Shared) (σ:St) (H:Hp) (x:V) (xs:List V) (v:Value) (us:List Value) (Q:VK),Inv X p_ σ H s->RelV x v->Vals xs us->r x xs H Q->
    wpAny (model X.prog X.w) X.A (call (.builtin id) (v::us)) (EP X p_ σ Q) X.xe s
theorem Vals.one {x:V} {us:List Value} (h:Vals [x] us):∃u,us=[u]/\RelV x u:=vals1 h
theorem Vals.two {x y:V} {us:List Value} (h:Vals [x,y] us):∃u v,us=[u,v]/\RelV x u/\RelV y v:=vals2 h
theorem Vals.rep {xs:List V} {us:List Value} (h:Vals xs us):∀k:Nat,Vals (List.replicate k xs).flatten (List.replicate k us).flatten
  | 0=>.nil
  | k+1=>by
    rw[qnd,qnd,qob,qob];exact Vals.append h (Vals.rep h k)
theorem foldl_rep (its:List Value):∀(k:Nat) (acc:List Value),
    List.foldl (λx1 x2=>x1++x2) acc.toArray (List.replicate k its.toArray)=(acc++(List.replicate k its).flatten).toArray
  | 0,acc=>by simp
  | k+1,acc=>by
    have e:acc.toArray++its.toArray=(acc++its).toArray:=by simp
    have e2:(acc++its)++(List.replicate k its).flatten=acc++(List.replicate (k+1) its).flatten:=by
      rw[qnd,qob,qny]
    rw[<- e2,<- foldl_rep its k (acc++its),<- e,qnd,List.foldl_cons]
section
variable {X:Cx} {p_:List (Addr×Obj)} {σ:St} {H:Hp} {s:Shared} {l b:Addr} {xs ys zs:List V}
theorem Inv.qfJ {its its':List Value} {n:Nat} {f:Array Value->Array Value} {t':Nat} (I:Inv X p_ σ H s) (hH:H l=some (.lst xs))
    (e:s.heap.get? l=some {cls:=.type "list",data:=.seq its.toArray n}) (hf:f its.toArray=its'.toArray) (hv:Vals ys its') (hz:ys.length<=sizeLine) :
    Inv X p_ σ (upd H l (.lst ys)) {s with heap:=s.heap.update l (Obj.mapSeq f),toks:=t'}:=by
  have q:=PySem.IsL.update e f;rw[hf] at q;refine I.write (x:=l) (e:=l) (by rw[hH];exact trivial) (.inl rfl) (λb' u hb hu=>(qna s.heap (Obj.mapSeq f) (qnx hb)).trans hu) ⟨_,q⟩ ?_;exact⟨hz,its',_,hv,q⟩
theorem Inv.Ue {its:List Value} {t':Nat} (I:Inv X p_ σ H s) (hv:Vals ys its) (hz:ys.length<=sizeLine) :
    Inv X p_ σ (upd H s.heap.objs.size (.lst ys)) {s with heap:=s.heap.push {cls:=.type "list",data:=.seq its.toArray},toks:=t'}:=
  I.laid (λ_ _ q=>qlU _ q) (qlY _) ⟨hz,its,0,hv,ql0 _ rfl⟩
theorem Inv.fresh (I:Inv X p_ σ H s):H s.heap.objs.size=none:=I.hok.fresh (qlY _)
theorem Inv.Ug (I:Inv X p_ σ H s) (hH:H l=some (.lst xs)):xs.length<=sizeLine/\∃(its:List Value) (n:Nat),Vals xs its/\xs.length=its.length/\s.heap.get? l=some {cls:=.type "list",data:=.seq its.toArray n}:=by
  obtain⟨z,its,n,r,e⟩:=I.hok l _ hH;exact⟨z,its,n,r,r.length,e⟩
theorem W2 {n:Nat} (h:n<=sizeLine):Builtin.List.listTooLong n=false:=by
  unfold Builtin.List.listTooLong;exact qmA (by omega)
end
section
variable {X:Cx}
def Jc:V->List V->Hp->VK->Prop:=λx vs H Q=>∃l xs y,x = .ref l/\vs=[y]/\H l=some (.lst xs)/\xs.length<sizeLine/\Q .non (upd H l (.lst (xs++[y])))
theorem yQ:MtM X "list.append" Jc:=by
  intro p_ s σ H x vs v us Q I rx rv h;obtain⟨l,xs,y,rfl,rfl,hH,hz,q⟩:=h;cases rx;obtain⟨u,rfl,ru⟩:=rv.one;obtain⟨z,its,n,r,hl,e⟩:=I.Ug hH;refine call_meets F.slot_list_append ⟨_,e,rfl⟩ F.entry_list_append (F.args_list_append_2 _ _) (PySem.list_append l its.toArray n u (by rw[qmf];omega)) ⟨e,?_⟩;refine⟨.non,_,I.qfJ (its':=its++[u]) hH e (by simp) (r.append (.cons ru .nil)) ?_,rfl,q⟩;rw[qmb,qn7];omega
def qfK:R2:=λx y H Q=>∃l b xs zs,x = .ref l/\y = .ref b/\H l=some (.lst xs)/\H b=some (.lst zs)/\xs.length+zs.length<=sizeLine/\∀p,H p=none->Q (.ref p) (upd H p (.lst (xs++zs)))
theorem qdz:gb X (binaryOp .Add) qfK:=by
  intro p_ s σ H x y v u Q I rx ry h;obtain⟨l,b,xs,zs,rfl,rfl,hH,hB,hz,q⟩:=h;cases rx;cases ry;obtain⟨z,its,n,r,hl,e⟩:=I.Ug hH;obtain⟨z2,its2,n2,r2,hl2,e2⟩:=I.Ug hB;refine PySem.P.add_list e e2 ?_ (by rw[qmf,qmf];omega);have ea:its.toArray++its2.toArray=(its++its2).toArray:=by simp
  rw[ea];exact⟨.ref _,_,I.Ue (t':=s.toks) (r.append r2) (by rw[qmb];omega),rfl,q _ I.fresh⟩
def qjn:R2:=λx y H Q=>∃l k xs,x = .ref l/\y = .int k/\H l=some (.lst xs)/\-(2 ^ 63)<=k/\k<2 ^ 63/\xs.length * k.toNat<=sizeLine/\
  ∀p,H p=none->Q (.ref p) (upd H p (.lst (List.replicate k.toNat xs).flatten))
theorem len_rep {α:Type} (xs:List α) (k:Nat):(List.replicate k xs).flatten.length=k * xs.length:=by
  induction k with
  | zero=>simp
  | succ k ih=>rw[qnd,qob,qmb,ih,Nat.succ_mul,Nat.add_comm]
theorem qdA:gb X (binaryOp .Mult) qjn:=by
  intro p_ s σ H x y v u Q I rx ry h;obtain⟨l,k,xs,rfl,rfl,hH,h1,h2,hz,q⟩:=h;cases rx;obtain⟨t,rfl⟩:=ry;obtain⟨z,its,n,r,hl,e⟩:=I.Ug hH;have hlen:its.toArray.size * k.toNat<=sizeLine:=by rw[qmf,<- hl];exact hz
  have hcap:¬its.toArray.size * k.toNat > (2 ^ 63 - 1) / 8:=by
    have:(sizeLine:Nat)<=(2 ^ 63 - 1) / 8:=by decide
    omega
  have hfit:¬(!Builtin.List.listFitsIndex k)=true:=by
    rw[fitsIndex_both h1 h2];exact ql_
  have qfL:¬Builtin.List.listTooLong (its.toArray.size * k.toNat)=true:=by
    rw[W2 hlen];exact ql_
  have hnew:List.foldl (λx1 x2=>x1++x2) #[] (List.replicate (if its.toArray.isEmpty=true then 0 else k.toNat) its.toArray)=(List.replicate k.toNat its).flatten.toArray:=by
    have f0:∀m:Nat,List.foldl (λx1 x2=>x1++x2) #[] (List.replicate m its.toArray)=(List.replicate m its).flatten.toArray:=λm=>by
      have:=foldl_rep its m [];rw[List.nil_append] at this;exact this
    rw[f0];cases its with
    | nil=>simp
    | cons a r'=>rw[if_neg (by simp)]
  refine wpAny_binaryOp_repeat_ref (T:= "list") (U:= "int") (by decide) ⟨_,e,rfl⟩ (λs'=>typeIs_int s' k t) noFill_list_mul F.fills_int_mul F.slot_int_rmul repeat_list F.slot_int_index.lookup
    (call_meets F.slot_int_rmul (typeIs_int s k t) F.entry_int_rmul (F.args_int_rmul_2 _ _) (int___rmul___int_list k t l its.toArray n)
      ⟨e,rfl,⟨_,e,rfl⟩,call_meets F.slot_list_mul ⟨_,e,rfl⟩ F.entry_list_mul (F.args_list_mul_2 _ _) (AutoListH.list___mul___list_int_3 l its.toArray n k t hfit hcap qfL) ⟨e,?_⟩⟩)
  rw[hnew];exact⟨.ref _,_,I.Ue (t':=s.toks) (r.rep k.toNat) (by rw[len_rep,Nat.mul_comm];exact hz),rfl,q _ I.fresh⟩
end
end L2
namespace Att
open PySem PySem.W PySem.Calls PyProof.Rows
theorem Aw {P:Params} {h:Heap}:∀(ns:List Int) (vs:List Value),WellAll P h vs (ns.map WData.int)->IntsAre vs ns:=by
  intro ns
  induction ns with
  | nil=>
    intro vs w;rw[List.map_nil] at w;cases w;exact .nil
  | cons n ns ih=>
    intro vs w;rw[qmj] at w;cases w with
    | cons a b=>
      cases a;exact .cons _ _ (ih _ b)
theorem Uh {l:OpenLaw} {n:Nat} (hn:l.most=some n) {P:Params} {h:Heap} {args:List WData} {vals:List Value}
    (hpre:l.row.toRowW.claim.pre args=true) (hwl:WellAll P h vals args) :
    ∃a vs ns,vals=[Value.ref a]/\args=[WData.list (ns.map WData.int)]/\h.get? a=some {cls:=.type "list",data:=.seq vs.toArray}/\IntsAre vs ns/\ns.length<=n:=by
  have hsh:WShape.hasAll [] args [.list .int]=true:=(pre_splitW hpre).1;have hc:l.pre.holds [] {args:=args}=true:=(pre_splitW hpre).2;obtain⟨d,r,rfl,h1,h2⟩:=hasAllW_cons hsh;obtain rfl:=hasAllW_nil h2;obtain⟨xs,rfl,h3⟩:=hasW_list h1;obtain⟨ns,rfl⟩:=items_int h3;have hlen:ns.length<=n:=by
    unfold OpenLaw.pre at hc;have h4:(WTm.not (.lt (.lit (.int (n:Int))) (.len (.arg 0)))).holds [] {args:=[.list (ns.map .int)]}=true:=by
      have h4:=(holds_andW hc).1;rw[hn] at h4;exact h4
    have h5:=condW_of h4 (w_not (w_lt w_lit (w_len_list (w_arg rfl))));rw[ql2] at h5;refine Nat.le_of_not_lt λq=>?_;have q':(n:Int)<((ns.length:Nat):Int):=by omega
    first
      | (rw[qmz q'] at h5;exact absurd h5 (by decide))
      | (simp at h5;omega)
  cases hwl with
  | cons w1 w2=>
    cases w2;cases w1 with
    | list ho hall=>exact⟨_,_,ns,rfl,rfl,ho,Aw ns _ hall,hlen⟩
theorem Ui (l:OpenLaw) (args:List WData):l.row.toRowW.claim.post args (.bool true) args=true:=
  postW_of (r:=l.row.toRowW) (X:=(true == true))
    (show WShape.has [] (.bool true) .bool=true by first | rfl | decide | simp[WShape.has,WShape.arms,WShape.armsAll])
    (show(WTm.eq .res (.lit (.bool true))).value [] {args:=args,res:=some (.bool true),after:=args}=some (.bool (true == true)) from w_eq_bool (w_res rfl) w_lit) rfl
theorem Ls {l:OpenLaw} {n:Nat} {q:Program} {loose:List Str} {XP:(Str->Option Value)->Heap->Prop} {YP:World->Heap->Prop} {d:DefRec}
    (hn:l.most=some n) (hdf:d.params.defaults=[])
    (call:∀(w:World) (s₀ s₁:Shared) (mg mb:Str->Option Value) (fa:Addr) (o:Obj) (pm cd doc:Value) (a:Addr) (vs:List Value) (ns:List Int),
      Ground q loose [] XP w s₀ mg mb s₁.heap->YP w s₁.heap->
      s₁.heap.get? fa=some o->o.data = .func (docDef d.name d.params d.body d.scope pm cd doc)->s₁.heap.CodeRec cd d.name->mg d.name=some (.ref fa)->
      s₁.heap.get? a=some {cls:=.type "list",data:=.seq vs.toArray}->IntsAre vs ns->ns.length<=n->s₁.gens = #[]->
      codeAny (model l.prog w) callerA (.call (.ref fa) ⟨[.ref a],[]⟩) (λr s'=>r = .ok (.ret (.bool true))/\OldK s₁.heap s'.heap/\s'.os=s₁.os/\AllBare s'.gens) s₁) :
    WalkO q loose XP YP l.row.toRowW d [] (λf vs=>PySem.call f vs):=by
  intro w s₀ s₁ mg mb G Y fa o pm cd doc dV kV ho hd hcd hD hmg hg args vals as hpre hlay hrd hwl hlo;obtain rfl:dV = .none:=Dflts.none hD hdf;obtain rfl:kV = .none:=Dflts.noKw hD;obtain⟨a,vs,ns,rfl,rfl,hobj,hints,hlen⟩:=Uh hn hpre hwl;refine enter_call (qmV (call w s₀ s₁ mg mb fa o pm cd doc a vs ns G Y ho (fd_plain hd) hcd hmg hobj hints hlen hg) λr s' hq=>?_);obtain⟨rfl,h2,h3,h4⟩:=hq;exact⟨.inl ⟨.bool true,.bool true,[],rfl,λ_=>rfl,.bool true,Ui l _,λ_=>⟨List.Pairwise.nil,λ_ hm=>(nomatch hm)⟩⟩,h2,h3,h4⟩
end Att
namespace L2
open PySem PySem.Spec PyProof.Rows
theorem G4:∀{vs:List Value} {ns:List Int},IntsAre vs ns->Vals (ns.map V.int) vs
  | _,_,.nil=>.nil
  | _,_,.cons n t h=>.cons ⟨t,rfl⟩ (G4 h)
def inClass (s:Stmt) (j:Nat):Stmt:=match s with
  | .ClassDef _ _ _ body _ _ _ _ _ _ _=>body.getD j (.Pass ⟨0,0,0,0⟩)
  | _=>.Pass ⟨0,0,0,0⟩
def nA (s:Stmt):Arguments:=match s with
  | .FunctionDef _ a _ _ _ _ _ _ _ _=>a
  | _=>{posonlyargs:=[],args:=[],vararg:=none,kwonlyargs:=[],kw_defaults:=[],kwarg:=none,defaults:=[]}
def gQ (s:Stmt):List Stmt:=match s with
  | .FunctionDef _ _ b _ _ _ _ _ _ _=>b
  | _=>[]
def aA (s:Stmt):Scope:=match s with
  | .FunctionDef _ _ _ _ _ _ sc _ _ _=>sc
  | _=>{kind:=.function,names:=[],isGenerator:=false,isCoroutine:=false}
abbrev ig:Wy:=λ_ _ _ _ _ _=>False
abbrev E0:XK:=λ_ _ _=>False
theorem aR {X:Cx}:Passes ig X E0:=λ_ _ _ _ _ _ _ h=>h.elim
structure cD (K:W.Frag) (x qual:Str) (st:Stmt) (f:Addr) (fd:FuncData):Prop where
  ex:∃(oc:Value) (od:Option Addr) (kV doc pm:Value) (an:Option Addr) (cdv ct:Value) (osl:Array (Option Value)),
    fd=W.fnOf x qual (nA st) (gQ st) (aA st) .none kV doc pm an cdv ct/\K.lookup f=some ⟨oc,od,.func fd,osl⟩/\W.codeIn K cdv qual=true
  kp:W.keepIn K (.ref f)=true
section
variable {P:Program} {w:World} {K:W.Frag} {mg:Str->Option Value} {base:Heap}
theorem cD.ok {x qual:Str} {st:Stmt} {f:Addr} {fd:FuncData} {N ps:List Str} {k:Nat} {sp:Sp} (F:cD K x qual st f fd) (S:aO N ps (aA st)) (len:∀vs H Q E,sp vs H Q E->vs.length=ps.length)
    (hbody:∀(cdv:Value) (A:Around) (outer:List Env) (s:Shared) (H:Hp) (vs:List V) (Q:VK) (E:XK),fQ k (A.deeper (envOfC qual (aA st) s.heap.objs.size f cdv))->sp vs H Q E->
      ∃t,GC (aq ig P w K mg base N qual (aA st) f cdv A outer s H E).Ru (gQ st) t/\t {nx:=λ_ H'=>Q .non H',rt:=Q} (start N vs) H):bN P w K mg base ig (k+1) f fd ps sp:=by
  obtain⟨oc,od,kV,doc,pm,an,cdv,ct,osl,rfl,lk,hcd⟩:=F.ex;refine WQ lk hcd S len λA outer s H vs Q E hr hsp=>?_;obtain⟨t,h,q⟩:=hbody cdv A outer s H vs Q E hr hsp;exact⟨t,h.Ru,q⟩
theorem cD.binds {x qual:Str} {st:Stmt} {f:Addr} {fd:FuncData} {ps:List Str} (F:cD K x qual st f fd)
    (h:∀(kV doc pm:Value) (an:Option Addr) (cdv ct:Value) (us:List Value),us.length=ps.length->bindArgs (W.fnOf x qual (nA st) (gQ st) (aA st) .none kV doc pm an cdv ct) ⟨us,[]⟩=pure (ps.zip us)):Binds K fd ps []:=by
  obtain⟨oc,od,kV,doc,pm,an,cdv,ct,osl,rfl,lk,hcd⟩:=F.ex;exact .all (h kV doc pm an cdv ct)
theorem Pk {x qual:Str} {st:Stmt} {f:Addr} {oc:Value} {od an:Option Addr} {osl:Array (Option Value)} {kV doc pm cdv ct:Value} (l:K.lookup f=some ⟨oc,od,.func (W.fnOf x qual (nA st) (gQ st) (aA st) .none kV doc pm an cdv ct),osl⟩)
    (c:W.codeIn K cdv qual=true) (k:W.keepIn K (.ref f)=true):cD K x qual st f (W.fnOf x qual (nA st) (gQ st) (aA st) .none kV doc pm an cdv ct):=⟨⟨oc,od,kV,doc,pm,an,cdv,ct,osl,rfl,l,c⟩,k⟩
end
theorem Ca {A:Around} {k:Nat} (hr:fQ k A):A.units+1<cLine:=qnZ (Nat.add_le_add_left (by decide:1<=64) _) hr.units
section
variable {X:Cx}
theorem pv (i:Nat) {x:Str} {pos:Pos} (hN:X.N[i]? = some x:=by rfl) (hv:Vis X.env.scope x:=by first | exact Or.inl rfl | exact Or.inr (Or.inl rfl) | exact Or.inr (Or.inr rfl)) (hd:(x == ("__debug__" : Str))=false:=by decide)
    (hcd:(x == ("__classdict__" : Str))=false:=by decide):PE X (.Name x pos) (qaf i):=Wb hN hv hd hcd
end
def Same (H H':Hp):Prop:=∀b o,H b=some o->H' b=some o
theorem Same.refl (H:Hp):Same H H:=λ_ _ h=>h
theorem Same.trans {H H1 H2:Hp} (a:Same H H1) (b:Same H1 H2):Same H H2:=λc o h=>b c o (a c o h)
theorem Same.free {H H':Hp} (e:Same H H') {l:Addr} (h:H' l=Option.none):H l=Option.none:=by
  cases q:H l with
  | none=>rfl
  | some o=>
    rw[e l o q] at h;cases h
theorem Same.seq {K:W.Frag} {H H':Hp} {a:Addr} {xs:List V} (e:Same H H') (h:aX K H a xs):aX K H' a xs:=by
  rcases h with(h | ⟨o,h⟩) | h
  ·exact .inl (.inl (e _ _ h))
  ·exact .inl (.inr ⟨o,e _ _ h⟩)
  ·exact .inr h
def oU (env:Env) (cs:List (Str×Addr)) (p:Str×NameKind):List (Str×Addr):=if p.2 == .free then (p.1,(env.cells.lookup p.1).getD 0)::cs else cs
def Jd (env:Env) (names:List (Str×NameKind)):List (Str×Addr):=names.foldl (oU env) []
theorem zQ {α β:Type} (f:α->β->Sem (ForInStep β)) (g:β->α->β):∀(l:List α) (b:β),(∀x∈l,∀b,f x b=pure (.yield (g b x)))->forIn l b f=pure (l.foldl g b)
  | [],_,_=>rfl
  | x::l,b,h=>by
    rw[List.forIn_cons,h x ql6,pure_bind];exact zQ f g l (g b x) λy hy=>h y (qlZ _ hy)
theorem iC {sc:Scope} {env:Env} (h:∀x,(x,NameKind.free)∈sc.names->∃c,env.cells.lookup x=some c):closureFor sc env=pure (Jd env sc.names):=by
  simp only[closureFor];rw[zQ _ (oU env) sc.names [] (λp hp cs=>by
    obtain⟨n,k⟩:=p;cases k with
    | free=>
      obtain⟨c,hc⟩:=h n hp;simp only[oU,cellOf,hc,beq_self_eq_true,if_true,Option.getD_some,pure_bind]
    | _=>simp only[oU];rfl)]
  rfl
theorem wH {env:Env}:∀(names:List (Str×NameKind)) (acc:List (Str×Addr)) (x:Str) (c:Addr),(∀x,(x,NameKind.free)∈names->∃c,env.cells.lookup x=some c)->(∀x c,(x,c)∈acc->env.cells.lookup x=some c)->
    (x,c)∈names.foldl (oU env) acc->env.cells.lookup x=some c
  | [],_,x,c,_,h,m=>h x c m
  | (n,k)::r,acc,x,c,hf,h,m=>by
    refine wH r (oU env acc (n,k)) x c (λy hy=>hf y (qlZ _ hy)) (λy d hy=>?_) m;unfold oU at hy;split at hy
    . rename_i hk;have hk':k = .free:=by simpa using hk
      subst hk';obtain⟨e,he⟩:=hf n ql6
      rcases ql1.mp hy with z | z
      ·cases z;show env.cells.lookup n=some _;rw[he];rfl
      ·exact h y d z
    ·exact h y d hy
theorem yR {env:Env} {x:Str}:∀(names:List (Str×NameKind)) (acc:List (Str×Addr)),((x,NameKind.free)∈names\/(acc.lookup x).isSome=true)->((names.foldl (oU env) acc).lookup x).isSome=true
  | [],_,h=>h.elim (λz=>nomatch z) id
  | (n,k)::r,acc,h=>by
    refine yR r (oU env acc (n,k)) ?_
    by_cases hm:(x,NameKind.free)∈r
    ·exact .inl hm
    . refine .inr ?_;unfold oU
      rcases h with h | h
      . rcases ql1.mp h with z | z
        ·cases z;simp[qnj]
        ·exact absurd z hm
      . split
        ·simp only[qnj];cases x == n <;> simp[h]
        ·exact h
def Cd (env:Env) (sc:Scope) (C:Addr):List (Str×Addr):=cellsFrom (C+1) sc.names (Jd env sc.names)
theorem iw {x:Str}:∀(names:List (Str×NameKind)) (n:Nat) (acc:List (Str×Addr)),(x,NameKind.cell)∈names\/(acc.lookup x).isSome=true->((cellsFrom n names acc).lookup x).isSome=true
  | [],_,_,h=>h.elim (λz=>nomatch z) id
  | (y,k)::r,n,acc,h=>by
    unfold cellsFrom;split
    . refine iw r (n+1) ((y,n)::acc) ?_
      by_cases hm:(x,NameKind.cell)∈r
      ·exact .inl hm
      . refine .inr ?_
        rcases h with h | h
        . rcases ql1.mp h with z | z
          ·cases z;simp[qnj]
          ·exact absurd z hm
        ·simp only[qnj];cases x == y <;> simp[h]
    . rename_i hk;refine iw r n acc ?_
      rcases h with h | h
      . rcases ql1.mp h with z | z
        ·cases z;exact absurd rfl hk
        ·exact .inl z
      ·exact .inr h
theorem Pn:∀(names:List (Str×NameKind)) (h:Heap) (acc:List (Str×Addr)) (x:Str) (c:Addr),(x,c)∈cellsFrom h.objs.size names acc->(x,c)∈acc\/(h.objs.size<=c/\(pushCells h names).IsCell c none)
  | [],_,_,_,_,m=>.inl m
  | (n,k)::r,h,acc,x,c,m=>by
    unfold cellsFrom at m;unfold pushCells;split at m
    . rename_i hk;rw[if_pos hk];have m':(x,c)∈cellsFrom (h.push {cls:=.type "cell",data:=.cell none}).objs.size r ((n,h.objs.size)::acc):=by rw[qmm];exact m
      rcases Pn r (h.push {cls:=.type "cell",data:=.cell none}) _ x c m' with z | ⟨z1,z2⟩
      . rcases ql1.mp z with e | e
        ·cases e;exact .inr ⟨qlY _,⟨_,pushCells_keeps _ _ _ _ (ql0 _ rfl),rfl⟩⟩
        ·exact .inl e
      ·rw[qmm] at z1;exact .inr ⟨by omega,z2⟩
    ·rename_i hk;rw[if_neg hk];exact Pn r h acc x c m
theorem Pq {n0:Nat} {x:Str}:∀(names:List (Str×NameKind)) (n:Nat) (acc:List (Str×Addr)) (c:Addr),((x,NameKind.cell)∈names\/∀d,acc.lookup x=some d->n0<=d)->n0<=n->(cellsFrom n names acc).lookup x=some c->n0<=c
  | [],_,_,c,h,_,e=>h.elim (λz=>nomatch z) λz=>z c e
  | (y,k)::r,n,acc,c,h,hn,e=>by
    unfold cellsFrom at e;split at e
    . refine Pq r (n+1) ((y,n)::acc) c ?_ (by omega) e
      by_cases hm:(x,NameKind.cell)∈r
      ·exact .inl hm
      . refine .inr λd hd=>?_
        by_cases hxy:x=y
        . subst hxy;have hnd:n=d:=by simpa [qnj] using hd
          rw[<- hnd];exact hn
        . have hb:(x == y)=false:=by simpa using hxy
          simp only[qnj,hb] at hd
          rcases h with h | h
          . rcases ql1.mp h with z | z
            ·cases z;exact absurd rfl hxy
            ·exact absurd z hm
          ·exact h d hd
    . rename_i hk;refine Pq r n acc c ?_ hn e
      rcases h with h | h
      . rcases ql1.mp h with z | z
        ·cases z;exact absurd rfl hk
        ·exact .inl z
      ·exact .inr h
theorem Pr:∀(names:List (Str×NameKind)) (n:Nat) (acc:List (Str×Addr)),(∀y d,(y,d)∈acc->d<n)->(∀y z d,(y,d)∈acc->(z,d)∈acc->y=z)->
    ∀y z d,(y,d)∈cellsFrom n names acc->(z,d)∈cellsFrom n names acc->y=z
  | [],_,_,_,h=>h
  | (x,k)::r,n,acc,hl,h=>by
    unfold cellsFrom;split
    . refine Pr r (n+1) ((x,n)::acc) (λy d hm=>?_) λy z d h1 h2=>?_
      . rcases ql1.mp hm with e | e
        ·cases e;exact qmT _
        ·exact qne (hl y d e)
      . rcases ql1.mp h1 with e1 | e1 <;> rcases ql1.mp h2 with e2 | e2
        ·cases e1;cases e2;rfl
        ·cases e1;exact absurd (hl z n e2) (qmN _)
        ·cases e2;exact absurd (hl y n e1) (qmN _)
        ·exact h y z d e1 e2
    ·exact Pr r n acc hl h
abbrev zR:Value->Shared->Prop:=λ_ _=>False
theorem Lw {prog:Program} {w:World} {A:Around} {R:Result->Shared->Prop} {s:Shared} {elt target iter:Expr} {ifs:List Expr} {scope:Scope} {pos:Pos} {it acc:Value} {env:Env} (I:Nat->Shared->Prop)
    (turn:∀n s,I n s->wpAny (model prog w) A (pyNext it) (λr s₁=>match r with
      | none=>R (.ok .next) s₁
      | some v=>wpAny (model prog w) A (letOwnedTupleGo target it v) (λ_ s₂=>wpAny (model prog w) A (assign target env v) (λ_ s₃=>
          wpAny (model prog w) A (forIn ifs true λc r=>if r=true then do let ok <- isTrue c env (eval c env);pure (ForInStep.yield ok) else pure (ForInStep.yield r)) (λok s₄=>
            if ok=true then wpAny (model prog w) A (eval elt env) (λx s₅=>
              wpAny (model prog w) A (call (.builtin "list.append") [acc,x]) (λ_ s₆=>∃m,m<n/\I m s₆) zR s₅) zR s₄
            else ∃m,m<n/\I m s₄) zR s₃) zR s₂) zR s₁) zR s)
    (n:Nat) (h:I n s):codeAny (model prog w) A (.compLoop (.ListComp elt [⟨target,iter,ifs,0⟩] scope pos) 0 it acc env) R s:=by
  refine codeAny_loop rfl I (λn s hI=>?_) n h;show wpAny _ A ((compTurn (.ListComp elt [⟨target,iter,ifs,0⟩] scope pos) 0 it acc env).onRaise (λx=>do noteFrame x env;theTreesLotGoes x)) _ _ s
  refine wpAny_noted ?_;rw[compTurn_list];refine qlS (qnl (qlS (qmt (turn n s hI) (λr s₁ h₁=>?_) λ_ _ h'=>h'.elim)));cases r with
  | none=>exact qlV h₁
  | some v=>
    refine qlS (qmt h₁ (λ_ s₂ h₂=>?_) λ_ _ h'=>h'.elim);refine qlS (qmt h₂ (λ_ s₃ h₃=>qlS (qmt h₃ (λok s₄ h₄=>?_) λ_ _ h'=>h'.elim)) λ_ _ h'=>h'.elim);cases ok with
    | false=>exact qlV ⟨rfl,h₄⟩
    | true=>
      exact qlS (qlS (qmt h₄ (λx s₅ h₅=>qlS (qmt h₅ (λ_ s₆ h₆=>qlV (qlV ⟨rfl,h₆⟩)) λ_ _ h'=>h'.elim)) λ_ _ h'=>h'.elim))
def bw (X:Cx) (sc:Scope) (N:List Str) (C:Addr) (s:Shared) (H:Hp) (fp:List Addr) (pn:List (Addr×Obj)):Cx:=
  {X with env:=compEnvC sc (Cd X.env sc C) C X.env,N:=N,s₀:=s,H₀:=H,outer:=X.stack,ex:=fp,fn:=λx=>sc.names.any λp=>p.1 == x && p.2 == .cell,pn:=pn,xe:=zR}
theorem mQ {sc:Scope} {env:Env} (x:Str):(relabel sc env).names.lookup x=(sc.names.lookup x).map λk=>if (k == NameKind.free && env.scope.kind == .function && env.kindOf x == some .cell)=true then NameKind.cell else k:=by
  unfold relabel;show List.lookup x (sc.names.map _)=_
  induction sc.names with
  | nil=>rfl
  | cons p r ih=>
    obtain⟨n,k⟩:=p;rw[qmj];have e1:(if (k == NameKind.free && env.scope.kind == .function && env.kindOf n == some .cell)=true then (n,NameKind.cell) else (n,k))=(n,if (k == NameKind.free && env.scope.kind == .function && env.kindOf n == some .cell)=true then NameKind.cell else k):=by split <;> rfl
    show List.lookup x ((if (k == NameKind.free && env.scope.kind == .function && env.kindOf n == some .cell)=true then (n,NameKind.cell) else (n,k))::_)=_
    rw[e1]
    by_cases hx:x=n
    ·subst hx;simp only[qnj,beq_self_eq_true,Option.map_some]
    . have hb:(x == n)=false:=by simpa using hx
      simp only[qnj,hb];exact ih
structure aN (ps sc:Scope) (pN own:List Str) (caps:List Nat) (N:List Str):Prop where
  kind:sc.kind = .function
  uniq:∀p∈sc.names,sc.names.lookup p.1=some p.2
  nd:N.Nodup
  names:N=own++caps.map λj=>pN.getD j ""
  free:∀p∈sc.names,p.2 = .free->ps.names.lookup p.1=some .cell\/ps.names.lookup p.1=some .free
  qfM:∀j∈caps,j<pN.length/\sc.names.lookup (pN.getD j "")=some .free
def stC (own:List Str) (caps:List Nat) (σ:St):St:=own.map (λ_=>none)++caps.map λj=>(σ[j]?).getD none
section
variable {X:Cx} {p_:List (Addr×Obj)} {σ:St} {H:Hp} {s:Shared} {ps sc:Scope} {own pN:List Str} {caps:List Nat} {N:List Str} {fp:List Addr}
theorem aN.cells (S:aN ps sc pN own caps N) (hps:X.env.scope=ps) (ok:X.Ok):∀x,(x,NameKind.free)∈sc.names->∃c,X.env.cells.lookup x=some c:=λx hx=>by
  refine ok.has x ?_;show X.env.scope.names.lookup x=_\/X.env.scope.names.lookup x=_;rw[hps];exact S.free (x,.free) hx rfl
theorem Ce (hfr:∀x,(x,NameKind.free)∈sc.names->∃c,X.env.cells.lookup x=some c) {C:Addr} {x:Str} {c:Addr} {h:Heap} (hC:C+1=h.objs.size) (m:(x,c)∈Cd X.env sc C):X.env.cells.lookup x=some c\/(h.objs.size<=c/\(pushCells h sc.names).IsCell c none):=by
  unfold Cd at m;rw[hC] at m
  rcases Pn sc.names h _ x c m with z | z
  ·exact .inl (wH sc.names [] x c hfr (λ_ _ z=>nomatch z) z)
  ·exact .inr z
theorem Je (I:Inv X p_ σ H s) (hps:X.env.scope=ps) (S:aN ps sc pN own caps N) (hf:∀b∈fp,iK X p_ H b) (ho:∀b∈fp,∃o,s.heap.get? b=some o/\∀v,o.data≠.cell v) :
    (bw X sc N s.heap.objs.size s H fp (X.pn++p_)).Ok where
  mod:=I.ok.mod
  kind:=S.kind
  glob:=I.ok.glob
  blt:=I.ok.blt
  above:=qlY _
  inj:=λx y c h1 h2=>by
    have cl:∀y d,(y,d)∈Jd X.env sc.names->X.env.cells.lookup y=some d:=λy d m=>wH sc.names [] y d (S.cells hps I.ok) (λ_ _ z=>nomatch z) m;refine Pr sc.names (s.heap.objs.size+1) (Jd X.env sc.names) (λy d m=>?_) (λy z d m1 m2=>I.ok.inj y z d (cl y d m1) (cl z d m2)) x y c (qmG h1) (qmG h2);obtain⟨v,q⟩:=I.cell y d (cl y d m);exact qne q.lt
  has:=λx hx=>by
    have hx1:(relabel sc X.env).names.lookup x=some .cell\/(relabel sc X.env).names.lookup x=some .free:=hx;have hx':(x,NameKind.cell)∈sc.names\/(x,NameKind.free)∈sc.names:=by
      rw[mQ] at hx1;cases e:sc.names.lookup x with
      | none=>rw[e] at hx1;simp at hx1
      | some k=>
        rw[e] at hx1;have hm:=qmG e;cases k with
        | free=>exact .inr hm
        | cell=>exact .inl hm
        | _=>simp at hx1
    have q:((cellsFrom (s.heap.objs.size+1) sc.names (Jd X.env sc.names)).lookup x).isSome=true:=by
      rcases hx' with z | z
      ·exact iw sc.names _ _ (.inl z)
      ·exact iw sc.names _ _ (.inr (yR sc.names [] (.inl z)))
    exact Option.isSome_iff_exists.mp q
  cab:=λx c hx h=>by
    have hx':(x,NameKind.cell)∈sc.names:=by
      have hx:(sc.names.any λp=>p.1 == x && p.2 == .cell)=true:=hx;obtain⟨⟨a,b⟩,hm,he⟩:=List.any_eq_true.mp hx;simp at he;obtain⟨rfl,rfl⟩:=he;exact hm
    exact Pq (n0:=s.heap.objs.size) sc.names (s.heap.objs.size+1) (Jd X.env sc.names) c (.inl hx') (Nat.le_succ _) h
  hd:=I.ok.hd
  frames:=I.ok.frames
  stk:=.inl rfl
  exf:=λb hb=>by
    obtain⟨o,e,_⟩:=ho b hb;refine⟨ql3 (qlW e),λx c h z=>?_⟩;subst z
    rcases Ce (S.cells hps I.ok) (h:=s.heap.push {cls:=.type "dict",data:=.dict #[]}) (by rw[qmm]) (qmG h) with q | ⟨q,_⟩
    ·exact(hf c hb).2.2.2.2.1 x c q rfl
    ·rw[qmm] at q;exact absurd (ql5 (ql5 (qlW e) (Nat.le_succ _)) q) (qmN _)
  bs:=I.bs
  TJ:=qmq I.ok.TJ I.sz
  Le:=λb o e hb=>by
    rcases(hf b hb).2.2.2.1 with z | z
    ·exact I.ok.Le b o e z
    ·exact absurd (ql5 (qlW e) (qmq I.ok.TJ z)) (qmN _)
  Im:=λb hb z=>by
    rcases ql1.mp (I.vA b z) with q | q
    ·exact(hf b hb).2.1 q
    ·exact(hf b hb).2.2.1 q
  rY:=I.stack
  Wa:=I.Ba
def blockAt (sc:Scope) (s:Shared):Shared:={s with heap:=pushCells (s.heap.push {cls:=.type "dict",data:=.dict #[]}) sc.names}
theorem Lx (I:Inv X p_ σ H s) (hps:X.env.scope=ps) (hpN:X.N=pN) (S:aN ps sc pN own caps N) (hf:∀b∈fp,iK X p_ H b) (ho:∀b∈fp,∃o,s.heap.get? b=some o/\∀v,o.data≠.cell v) :
    Inv (bw X sc N s.heap.objs.size s H fp (X.pn++p_)) [] (stC own caps σ) H (blockAt sc s):=by
  have hk:∀b o,s.heap.get? b=some o->(blockAt sc s).heap.get? b=some o:=λb o e=>pushCells_keeps _ _ b o (qlU _ e);have hns:(blockAt sc s).heap.Ns s.heap.objs.size λ_=>none:=(Heap.Ns.new s.heap (.type "dict")).keeps (pushCells_keeps _ _);have hcl:∀x c,(Cd X.env sc s.heap.objs.size).lookup x=some c->X.env.cells.lookup x=some c\/(s.heap.objs.size+1<=c/\(blockAt sc s).heap.IsCell c none):=λx c e=>by
    rcases Ce (S.cells hps I.ok) (h:=s.heap.push {cls:=.type "dict",data:=.dict #[]}) (by rw[qmm]) (qmG e) with q | ⟨q,r⟩
    ·exact .inl q
    ·rw[qmm] at q;exact .inr ⟨q,r⟩
  refine⟨Je I hps S hf ho,rfl,I.bare,Un.kept hk,⟨_,hns,λi x v e1 e2 e3=>?_⟩,λx c e=>?_,I.hok.fresh (qlY _),λx c e=>?_,λp hp=>?_,I.hok.kept hk,?_⟩
  . have e1':N[i]? = some x:=e1;rw[S.names] at e1';unfold stC at e2
    by_cases hi:i<own.length
    . rw[ql9 (by simpa using hi),qmc] at e2;cases q:own[i]? with
      | none=>rw[q] at e2;cases e2
      | some y=>rw[q] at e2;cases e2
    . rw[qma (by omega),qmc] at e1';rw[qma (by simp;omega),qmc] at e2;simp only[ql2] at e2;cases q:caps[i - own.length]? with
      | none=>rw[q] at e2;cases e2
      | some j=>
        rw[q] at e1' e2;have qfN:pN.getD j "" = x:=qmp e1';have e2':(σ[j]?).getD none=some v:=qmp e2;have hj:σ[j]? = some (some v):=by
          cases z:σ[j]? with
          | none=>rw[z] at e2';cases e2'
          | some o=>rw[z] at e2';exact qmr some e2'
        obtain⟨hlt,hfree⟩:=S.qfM j (qlX q);rw[qfN] at hfree;have hNj:X.N[j]? = some x:=by
          rw[hpN,<- qfN];simp[List.getD,qmg hlt]
        have qfO:=S.free (x,.free) (qmG hfree) rfl;have vis:Vis X.env.scope x:=by rw[hps];exact .inr qfO
        obtain⟨m,hn,hl⟩:=I.loc;obtain⟨u,r,l⟩:=hl j x v hNj hj vis;refine⟨u,r,.inr ?_⟩;have hkind:(relabel sc X.env).names.lookup x=some .cell\/(relabel sc X.env).names.lookup x=some .free:=by
          rw[mQ,hfree];show some (if _ then _ else _)=_\/some (if _ then _ else _)=_
          split
          ·exact .inl rfl
          ·exact .inr rfl
        refine⟨hkind,?_⟩;have hcell:X.env.kindOf x=some .cell\/X.env.kindOf x=some .free:=by
          show X.env.scope.names.lookup x=_\/X.env.scope.names.lookup x=_;rw[hps];exact qfO
        rcases l with⟨hloc,_⟩ | ⟨_,c,hc,hcv⟩
        ·rcases hcell with z | z <;> (rw[hloc] at z;cases z)
        . have q2:((Cd X.env sc s.heap.objs.size).lookup x).isSome=true:=iw sc.names _ _ (.inr (yR sc.names [] (.inl (qmG hfree))));obtain⟨d,hd⟩:=Option.isSome_iff_exists.mp q2;refine⟨d,hd,?_⟩
          rcases hcl x d hd with z | ⟨z,_⟩
          ·rw[hc] at z;cases z;exact hcv.keeps hk
          ·
            exfalso;have hnc:(x,NameKind.cell)∉sc.names:=λhm=>by
              have:=S.uniq _ hm;rw[hfree] at this;cases this
            have hmem:=qmG hd;have qjo:∀(names:List (Str×NameKind)) (n:Nat) (acc:List (Str×Addr)),(x,NameKind.cell)∉names->(cellsFrom n names acc).lookup x=acc.lookup x:=by
              intro names
              induction names with
              | nil=>intro _ _ _;rfl
              | cons p r ih=>
                intro n acc hm;obtain⟨y,k⟩:=p;unfold cellsFrom;split
                . rename_i hkk;have hkk':k = .cell:=by simpa using hkk
                  subst hkk';rw[ih _ _ λz=>hm (qlZ _ z)];have hxy:(x == y)=false:=by
                    cases hb:x == y with
                    | false=>rfl
                    | true=>exact absurd (by rw[beq_iff_eq.mp hb];exact ql6) hm
                  simp only[qnj,hxy]
                ·exact ih _ _ λz=>hm (qlZ _ z)
            have e5:(Jd X.env sc.names).lookup x=some d:=(qjo sc.names _ _ hnc).symm.trans hd;have e6:=wH sc.names [] x d (S.cells hps I.ok) (λ_ _ z=>nomatch z) (qmG e5);rw[hc] at e6;cases e6;exact absurd (ql5 (ql5 hcv.lt (Nat.le_succ _)) z) (qmN _)
  . rcases hcl x c e with z | ⟨_,z⟩
    ·obtain⟨v,q⟩:=I.cell x c z;exact⟨v,q.keeps hk⟩
    ·exact⟨_,z⟩
  . rcases hcl x c e with z | ⟨z,_⟩
    ·exact I.gj x c z
    ·exact I.hok.fresh (by omega)
  . rw[qmy] at hp;obtain⟨e,n,ne,nf,d⟩:=I.pin p hp;refine⟨hk _ _ e,n,ql3 (qlW e),λz=>?_,d⟩
    rcases ql1.mp (I.vA p.1 z) with q | q
    ·exact ne q
    ·exact nf q
  ·show(stC own caps σ).length=N.length;rw[S.names];simp[stC]
theorem G5 (I:Inv X p_ σ H s) (hf:∀b∈fp,iK X p_ H b) {C:Addr} {pn:List (Addr×Obj)} {BL:List (Addr×Obj)} {σ':St} {H':Hp} {s':Shared} (I':Inv (bw X sc N C s H fp pn) BL σ' H' s'):Inv X p_ σ H' s':=
  I.call' (ch:=fp) I'.os I'.base I'.hok I'.bare λb hb=>⟨(hf b hb).2.2.2.1,(hf b hb).2.1,(hf b hb).2.2.2.2.1,(hf b hb).2.2.2.2.2⟩
end
def Uj (X:Cx) (ifs:List Expr) (t:TT):Prop:=
  ∀(p_:List (Addr×Obj)) (s:Shared) (σ:St) (H:Hp) (Q:Bool->Hp->Prop),Inv X p_ σ H s->t σ H Q->
    wpAny (model X.prog X.w) X.A (forIn ifs true λc r=>if r=true then do let ok <- isTrue c X.env (eval c X.env);pure (ForInStep.yield ok) else pure (ForInStep.yield r)) (TP X p_ σ Q) X.xe s
def qfP:TT:=λ_ H Q=>Q true H
theorem bM {X:Cx}:Uj X [] qfP:=λ_ _ _ H _ I h=>wpAny_tests_nil ⟨H,I,h⟩
theorem jj {X:Cx} {c:Expr} {t:TT} (h:PT X c t):Uj X [c] t:=λp_ s σ H Q I hw=>wpAny_tests_one (h p_ s σ H Q I hw)
def lX (own:List Str) (caps:List Nat) (J:It) (g:TG) (tt:TT) (te:TE) (D:Addr) (σ:St) (H:Hp) (Q:Hp->Prop):Prop:=
  ∃g8:Nat->Nat->St->Hp->Prop,(∃m,g8 0 m (stC own caps σ) H)/\∀i m σ' H',g8 i m σ' H'->
    (J.stop i H'/\Q H')\/(J.go i H'/\∃N:St->Hp->Prop,(∀σ2 H2,N σ2 H2->∃m',m'<m/\g8 (i+1) m' σ2 H2)/\∀x H2,J.Wj i H' x H2->g x σ' H2 λσ2 H3=>tt σ2 H3 λb H4=>
      if b=true then te σ2 H4 λy H5=>∃ys,H5 D=some (.lst ys)/\ys.length<sizeLine/\N σ2 (upd H5 D (.lst (ys++[y]))) else N σ2 H4)
def RJ (own:List Str) (caps:List Nat) (wi:TI) (g:TG) (tt:TT) (te:TE):TE:=λσ H Q=>wi σ H λJ H1=>∀D,H1 D=none->lX own caps J g tt te D σ (upd H1 D (.lst [])) (Q (.ref D))
theorem wI {M:Model} {A:Around} {E:Value->Shared->Prop} {s:Shared} {sc:Scope} {g:Addr} {cl:List (Str×Addr)} {qual:Str} {env:Env} {Q:Env->Shared->Prop}
    (h:Q (newEnv sc s.heap.objs.size g (cellsFrom (s.heap.objs.size+1) sc.names cl) qual none .none (some env) builtinsNs) (blockAt sc s)):wpAny M A (newFunctionEnv sc g cl [] qual none .none (some env)) Q E s:=by
  simp only[newFunctionEnv,Option.isSome_some,if_true];refine qlS (wpAny_alloc ?_);refine qlS (wpAny_layCells _ (λname kind cells=>by cases hkc:kind == NameKind.cell <;> simp[hkc]) _ _ _ _ ?_);rw[show({s with heap:=s.heap.push {cls:=.type "dict",data:=.dict #[]}}:Shared).heap.objs.size=s.heap.objs.size+1 from qmm ..];rw[List.forIn_nil];exact qlS (qlV (qlV h))
def wJ (X:Cx) (p_:List (Addr×Obj)) (σ:St) (Q:Hp->Prop) (C:Addr) (r:Result) (s':Shared):Prop:=
  ∃H',r = .ok .next/\Inv X p_ σ H' s'/\(∃m,s'.heap.Ns C m)/\iK X p_ H' C/\Q H'
section
variable {X:Cx} {ps sc:Scope} {own pN:List Str} {caps:List Nat} {N:List Str}
theorem Cg {p_:List (Addr×Obj)} {σ:St} {H:Hp} {s:Shared} {E:Value->Shared->Prop} {elt tg iter:Expr} {ifs:List Expr} {pos:Pos} {J:It} {fp:List Addr} {it D:Addr} {tn:Nat->Heap->Prop} {g:TG} {tt:TT} {te:TE} {Q:Hp->Prop}
    (I:Inv X p_ σ H s) (hps:X.env.scope=ps) (hpN:X.N=pN) (S:aN ps sc pN own caps N) (T:Turn X.prog X.w X.K tg J fp it tn) (st:tn 0 s.heap) (hf:∀b∈fp,iK X p_ H b) (hc:X.calm=true)
    (hg:∀C s H fp pn,PG (bw X sc N C s H fp pn) tg g) (ht:∀C s H fp pn,Uj (bw X sc N C s H fp pn) ifs tt) (he:∀C s H fp pn,PE (bw X sc N C s H fp pn) elt te)
    (h:lX own caps J g tt te D σ H Q) :
    wpAny (model X.prog X.w) X.A (newFunctionEnv sc X.env.globals (Jd X.env sc.names) [] X.env.qual none .none (some X.env)) (λcenv s4=>
      codeAny (model X.prog X.w) X.A (.compStart (.ListComp elt [⟨tg,iter,ifs,0⟩] sc pos) 0 (.ref it) (.ref D) {cenv with scope:=relabel sc X.env}) (wJ X p_ σ Q cenv.locals) s4) E s:=by
  obtain⟨g8,⟨m0,w0⟩,turn⟩:=h;refine wI ?_;have ho:=T.obj 0 _ st;have I0:=Lx I hps hpN S hf ho;have ok':=Je I hps S hf ho;have hk:∀b o,s.heap.get? b=some o->(blockAt sc s).heap.get? b=some o:=λb o e=>pushCells_keeps _ _ b o (qlU _ e);have st0:tn 0 (blockAt sc s).heap:=T.keep 0 _ _ st λb _ o e=>hk b o e;have stat:∀{H':Hp},(∀b∈fp,H' b=none)->∀b∈fp,iK (bw X sc N s.heap.objs.size s H fp (X.pn++p_)) [] H' b:=λhn b hb=>
    ⟨hn b hb,(ok'.exf b hb).1,ok'.Im b hb,.inl hb,(ok'.exf b hb).2,λp hp=>(hf b hb).2.2.2.2.2 p (by rw[qmy] at hp;exact hp)⟩
  have loop:codeAny (model X.prog X.w) X.A (.compLoop (.ListComp elt [⟨tg,iter,ifs,0⟩] sc pos) 0 (.ref it) (.ref D) (bw X sc N s.heap.objs.size s H fp (X.pn++p_)).env) (wJ X p_ σ Q s.heap.objs.size) (blockAt sc s):=by
    refine Lw (λn s'=>∃i σ' H',Inv (bw X sc N s.heap.objs.size s H fp (X.pn++p_)) [] σ' H' s'/\tn i s'.heap/\(∀b∈fp,H' b=none)/\g8 i n σ' H') ?_ m0 ⟨0,_,H,I0,st0,λb hb=>(hf b hb).1,w0⟩;rintro n s3 ⟨i,σ3,H3,I3,st3,Wo,w3⟩
    rcases turn i n σ3 H3 w3 with⟨stop,qn⟩ | ⟨go,N',hN,step⟩
    ·refine bY (T.done (bw X sc N s.heap.objs.size s H fp (X.pn++p_)) rfl rfl rfl hc i [] s3 σ3 H3 zR I3 (stat Wo) st3 stop) λr s4 zz=>?_;obtain⟨hr,I4⟩:=zz;subst hr;obtain⟨m,hn,_⟩:=I4.loc;exact⟨H3,rfl,G5 I hf I4,⟨m,hn⟩,I.Ar (qlY _) I4.free,qn⟩
    . refine bY (T.item (bw X sc N s.heap.objs.size s H fp (X.pn++p_)) rfl rfl rfl hc i [] s3 σ3 H3 zR I3 (stat Wo) st3 go) λr s4 zz=>?_;obtain⟨u,hr,h4⟩:=zz;subst hr;refine bY h4 λ_ s5 zz=>?_;obtain⟨x,H5,I5,r5,y5,O5,fr5⟩:=zz;have I5':=I5.pinned (stat fr5) (T.obj _ _ O5);refine bY (hg _ _ _ _ _ _ s5 σ3 H5 x u _ I5' r5 (step x H5 y5)) λ_ s6 zz=>?_;obtain⟨σ6,H6,I6,q6⟩:=zz;refine bY (ht _ _ _ _ _ _ s6 σ6 H6 _ I6 q6) λb s7 zz=>?_;obtain⟨H7,I7,q7⟩:=zz;have again:∀{σ8:St} {H8:Hp} {s8:Shared},Inv (bw X sc N s.heap.objs.size s H fp (X.pn++p_)) ([]++vB fp s5.heap) σ8 H8 s8->N' σ8 H8->
          ∃m,m<n/\∃i σ' H',Inv (bw X sc N s.heap.objs.size s H fp (X.pn++p_)) [] σ' H' s8/\tn i s8.heap/\(∀b∈fp,H' b=none)/\g8 i m σ' H':=λ{σ8 H8 s8} I8 n8=>by
        obtain⟨m',hm,w8⟩:=hN σ8 H8 n8;refine⟨m',hm,i+1,σ8,H8,I8.pU,T.keep _ _ _ O5 λb hb o e=>(I8.pin (b,o) (qmi _ (qmi _ (gk hb e)))).1,λb hb=>?_,w8⟩;obtain⟨o,e,d⟩:=T.obj _ _ O5 b hb;exact(I8.pin (b,o) (qmi _ (qmi _ (gk hb e)))).2.1
      cases b with
      | false=>
        rw[if_neg ql_] at q7 ⊢;exact again I7 q7
      | true=>
        rw[if_pos rfl] at q7 ⊢;refine bY (he _ _ _ _ _ _ s7 σ6 H7 _ I7 q7) λv s8 zz=>?_;obtain⟨y,H8,I8,r8,ys,hD,hz,n8⟩:=zz;refine bY (yQ (X:=bw X sc N s.heap.objs.size s H fp (X.pn++p_)) _ s8 σ6 H8 (.ref D) [y] (.ref D) [v] (λ_ H9=>N' σ6 H9) I8 rfl (.cons r8 .nil) ⟨D,ys,y,rfl,rfl,hD,hz,n8⟩) λ_ s9 zz=>?_;obtain⟨_,H9,I9,_,n9⟩:=zz;exact again I9 n9
  exact codeAny_compStart_list loop (T.self X.A 0 _ _ _ st0 loop)
variable {elt tg iter:Expr} {ifs:List Expr} {pos:Pos} {wi:TI} {g:TG} {tt:TT} {te:TE}
theorem aN.locs (S:aN ps sc pN own caps N):∀x∈sc.names,x.2 = .local->sc.names.lookup x.1=some .local:=λx hx e=>by rw[<- e];exact S.uniq x hx
theorem bU (hps:X.env.scope=ps) (hpN:X.N=pN) (S:aN ps sc pN own caps N) (hc:X.calm=true) (hi:PI X tg iter wi)
    (hg:∀C s H fp pn,PG (bw X sc N C s H fp pn) tg g) (ht:∀C s H fp pn,Uj (bw X sc N C s H fp pn) ifs tt) (he:∀C s H fp pn,PE (bw X sc N C s H fp pn) elt te)
    (hs:∀x,foldedSetIterable iter X.env x=pure x:=by intro _;rfl):PE X (.ListComp elt [⟨tg,iter,ifs,0⟩] sc pos) (RJ own caps wi g tt te):=by
  intro p_ s σ H Q I h;rw[eval_ListComp];refine qnS (use:=none) rfl hs (iC (S.cells hps I.ok)) S.kind S.locs (bY (hi p_ s σ H _ I h) λv s1 h1=>bY h1 λitv s2 h2=>?_);obtain⟨it,fp,tn,J,H2,e,I2,T,st2,f2,q⟩:=h2;subst e;have fr:H2 s2.heap.objs.size=none:=I2.fresh;refine qnz ?_;have I3:Inv X p_ σ (upd H2 s2.heap.objs.size (.lst [])) {s2 with heap:=s2.heap.push {cls:=.type "list",data:=.seq ([]:List Value).toArray},toks:=s2.toks}:=I2.Ue (its:=[]) (ys:=[]) .nil (qmK _);have f3:∀b∈fp,iK X p_ (upd H2 s2.heap.objs.size (.lst [])) b:=λb hb=>by
    obtain⟨o,e,_⟩:=T.obj 0 _ st2 b hb;exact⟨by rw[aB (ql3 (qlW e))];exact(f2 b hb).1,(f2 b hb).2⟩
  refine bY (Cg (iter:=iter) (pos:=pos) I3 hps hpN S T (T.keep 0 _ _ st2 λb _ o e=>qlU _ e) f3 hc hg ht he (q _ fr)) λcenv s4 h4=>?_;refine qmV h4 λr s5 ⟨H5,hr,I5,⟨m,hn⟩,f5,q5⟩=>?_;subst hr;refine⟨m,hn,λh' hs'=>?_⟩;have I6:Inv X p_ σ H5 {s5 with heap:=h',toks:=s5.toks}:=I5.turned (it:=cenv.locals) (λb o hb e=>(hs'.2 b hb).trans e) f5.1 f5.2.1 f5.2.2.2.1 f5.2.2.2.2.1 f5.2.2.2.2.2;exact⟨.ref s2.heap.objs.size,H5,I6,rfl,q5⟩
theorem gw {i:Nat} {y:Str} {py spos:Pos} (hN:X.N.Nodup) (hy:X.N[i]? = some y) (hl:X.env.scope.names.lookup y=some .local) (hps:X.env.scope=ps) (hpN:X.N=pN) (S:aN ps sc pN own caps N) (hc:X.calm=true) (hi:PI X tg iter wi)
    (hg:∀C s H fp pn,PG (bw X sc N C s H fp pn) tg g) (ht:∀C s H fp pn,Uj (bw X sc N C s H fp pn) ifs tt) (he:∀C s H fp pn,PE (bw X sc N C s H fp pn) elt te)
    (hsw:swapsWith (.ListComp elt [⟨tg,iter,ifs,0⟩] sc pos) (some (.Name y py)) spos.line X.env=pure true:=by rfl)
    (hs:∀x,foldedSetIterable iter X.env x=pure x:=by intro _;rfl):PS X (.Assign [.Name y py] (.ListComp elt [⟨tg,iter,ifs,0⟩] sc pos) spos) (TX (RJ own caps wi g tt te) (Lh i)):=by
  intro p_ s σ H D0 I h;rw[exec_Assign_Name_used _ _ _ _ hsw];refine qlS (qnl (qlS ?_));show wpAny _ X.A (do let _ <- comprehension (.ListComp elt [⟨tg,iter,ifs,0⟩] sc pos) sc X.env _ (newList []) false (eval iter X.env) (some (assign (.Name y py) X.env))) _ _ s
  refine qlS (qmt (qnS (use:=some (assign (.Name y py) X.env)) (Q:=λ_ s'=>SP X p_ D0 .next s') rfl hs (iC (S.cells hps I.ok)) S.kind S.locs
    (bY (hi p_ s σ H _ I h) λv s1 h1=>bY h1 λitv s2 h2=>?_)) (λ_ s' hq=>qlV (qlV hq)) λ_ _ e=>e)
  obtain⟨it,fp,tn,J,H2,e,I2,T,st2,f2,q⟩:=h2;subst e;have fr:H2 s2.heap.objs.size=none:=I2.fresh;refine qnz ?_;have I3:Inv X p_ σ (upd H2 s2.heap.objs.size (.lst [])) {s2 with heap:=s2.heap.push {cls:=.type "list",data:=.seq ([]:List Value).toArray},toks:=s2.toks}:=I2.Ue (its:=[]) (ys:=[]) .nil (qmK _);have f3:∀b∈fp,iK X p_ (upd H2 s2.heap.objs.size (.lst [])) b:=λb hb=>by
    obtain⟨o,e,_⟩:=T.obj 0 _ st2 b hb;exact⟨by rw[aB (ql3 (qlW e))];exact(f2 b hb).1,(f2 b hb).2⟩
  refine bY (Cg (iter:=iter) (pos:=pos) I3 hps hpN S T (T.keep 0 _ _ st2 λb _ o e=>qlU _ e) f3 hc hg ht he (q _ fr)) λcenv s4 h4=>?_;refine qmV h4 λr s5 ⟨H5,hr,I5,⟨m,hn⟩,f5,q5⟩=>?_;subst hr;show wpAny _ X.A (assign (.Name y py) X.env (.ref s2.heap.objs.size)) _ _ _;refine wpAny_assign_Name (pQ I5 hN hy (.inl hl) (v:=.ref s2.heap.objs.size) rfl (λs6 I6 hsb=>?_) (.inr hl));obtain⟨a,sb,ha⟩:=hsb;have hne:cenv.locals≠a:=by
    rcases ha with z | z
    ·rw[z];exact f5.2.1
    ·exact λe=>f5.2.2.2.2.1 y a z e.symm
  refine⟨m,hn.sameBut sb hne,λh' hs'=>?_⟩;have I7:Inv X p_ (σ.set i (some (.ref s2.heap.objs.size))) H5 {s6 with heap:=h',toks:=s6.toks}:=I6.turned (it:=cenv.locals) (λb o hb e=>(hs'.2 b hb).trans e) f5.1 f5.2.1 f5.2.2.2.1 f5.2.2.2.2.1 f5.2.2.2.2.2;exact⟨_,H5,I7,q5⟩
end
section
variable {X:Cx} {p_:List (Addr×Obj)} {σ:St} {H:Hp} {s:Shared} {h':Heap}
theorem Inv.nC {t':Nat} {ch:List Addr} (I:Inv X p_ σ H s) (k:∀b o,b∉ch->s.heap.get? b=some o->h'.get? b=some o) (hf:∀b∈ch,iK X p_ H b):Inv X p_ σ H {s with heap:=h',toks:=t'}:=by
  refine I.step (g':=s.gens) (d':=s.drawn) (ch:=ch) (λb hb=>⟨(hf b hb).2.2.2.1,(hf b hb).2.1,(hf b hb).2.2.2.2.1,(hf b hb).2.2.2.2.2⟩) (λb o _ _ hc e _=>k b o hc e) (λb o _ _ hc e _=>⟨o.slots,k b o hc e⟩) (λ_ _ _ _ n=>n)
    (λb o hc e=>⟨o,k b o hc e⟩) (λ_ _ e=>e) (λ_ _ _ e=>e) (λb ps e=>⟨#[],by rw[e];simp⟩) (λm hm=>?_) (λb u e=>?_) I.bare
  ·obtain⟨o,es,ep,ho,r⟩:=hm;exact⟨o,es,ep,k _ o (λz=>(hf _ z).2.1 rfl) ho,r⟩
  . refine(I.hok b u e).stay (λc v hc q=>k c v (λz=>?_) q) (λ_ q=>q) λ_ _ q=>q;have hn:=(hf c z).1
    rcases hc with y | y
    ·rw[y,e] at hn;cases hn
    ·rw[y] at hn;cases hn
end
def Its (x:Str):It:=⟨λi _=>i<x.cps.size,λi H v H'=>H'=H/\∃c,x.cps[i]? = some c/\v = .str ⟨#[c]⟩,λi _=>x.cps.size<=i⟩
theorem W3 {P:Program} {w:World} {K:W.Frag} {tg:Expr} (x:Str) (t:Tok) (it:Addr):Turn P w K tg (Its x) [it] it (λi h=>h.IsStrIter it (strIterType x) x t i) where
  mem:=by simp
  obj:=λi h st b hb=>by
    have e:b=it:=by simpa using hb
    subst e;obtain⟨o,e,c,d⟩:=st;exact⟨o,e,λv z=>by rw[d] at z;cases z⟩
  keep:=λi h h' st k=>by
    obtain⟨o,e,c,d⟩:=st;exact⟨o,k it (by simp) o e,c,d⟩
  item:=by
    intro X hP hw hK hc i p_ s σ H E I hf st hg;subst hP hw hK;obtain⟨f0,f1,f2,f3,f4,f5⟩:=hf it (by simp);have hx:x.cps[i]? = some (x.cps[i]'hg):=Array.getElem?_eq_getElem hg;have fin:∀h',h'.IsStrIter it (strIterType x) x t (i+1)->Heap.SameBut it s.heap h'->∃u,(some (Value.str ⟨#[x.cps[i]'hg]⟩ s.toks))=some u/\
        wpAny (model X.prog X.w) X.A (letOwnedTupleGo tg (.ref it) u) (λ_ s2=>∃y H',Inv X p_ σ H' s2/\RelV y u/\(Its x).Wj i H y H'/\s2.heap.IsStrIter it (strIterType x) x t (i+1)/\∀b∈[it],H' b=none) E {s with heap:=h',toks:=s.toks+1}:=λh' st' sb=>by
      have I1:Inv X p_ σ H {s with heap:=h',toks:=s.toks+1}:=I.turned (λb o hb e=>(sb.2 b hb).trans e) f0 f1 f3 f4 f5;refine⟨_,rfl,?_⟩;have res:∃y H',Inv X p_ σ H' {s with heap:=h',toks:=s.toks+1}/\RelV y (Value.str ⟨#[x.cps[i]'hg]⟩ s.toks)/\(Its x).Wj i H y H'/\h'.IsStrIter it (strIterType x) x t (i+1)/\∀b∈[it],H' b=none:=
        ⟨.str ⟨#[x.cps[i]'hg]⟩,H,I1,⟨_,rfl⟩,⟨rfl,_,hx,rfl⟩,st',λb hb=>(hf b hb).1⟩
      unfold letOwnedTupleGo;cases tg <;> exact qlV res
    by_cases ha:x.cps.all (· < 128)=true
    . have ey:strIterType x = "str_ascii_iterator" :=by unfold strIterType;rw[if_pos ha]
      rw[ey] at st;exact wpAny_pyNext_ascii_item st hx λh' st' sb=>fin h' (by rw[ey];exact st') sb
    . have ey:strIterType x = "str_iterator" :=by unfold strIterType;rw[if_neg ha]
      rw[ey] at st;exact wpAny_pyNext_wide_item st hx λh' st' sb=>fin h' (by rw[ey];exact st') sb
  done:=by
    intro X hP hw hK hc i p_ s σ H E I hf st hg;subst hP hw hK;obtain⟨f0,f1,f2,f3,f4,f5⟩:=hf it (by simp);have hx:x.cps[i]? = none:=Array.getElem?_eq_none hg
    by_cases ha:x.cps.all (· < 128)=true
    . have ey:strIterType x = "str_ascii_iterator" :=by unfold strIterType;rw[if_pos ha]
      rw[ey] at st;exact wpAny_pyNext_ascii_end (I.ok.hd hc) st hx λh' eb=>⟨rfl,I.turned (t':=s.toks) (λb o hb e=>eb b o hb e) f0 f1 f3 f4 f5⟩
    . have ey:strIterType x = "str_iterator" :=by unfold strIterType;rw[if_neg ha]
      rw[ey] at st;exact wpAny_pyNext_wide_end (I.ok.hd hc) st hx λh' eb=>⟨rfl,I.turned (t':=s.toks) (λb o hb e=>eb b o hb e) f0 f1 f3 f4 f5⟩
  self:=λA i s Q E st h=>by
    by_cases ha:x.cps.all (· < 128)=true
    . have ey:strIterType x = "str_ascii_iterator" :=by unfold strIterType;rw[if_pos ha]
      rw[ey] at st;exact wpAny_pyIter_striter_ascii st h
    . have ey:strIterType x = "str_iterator" :=by unfold strIterType;rw[if_neg ha]
      rw[ey] at st;exact wpAny_pyIter_striter_wide st h
section
variable {X:Cx} {tg:Expr}
def qdB (tl:TE):TI:=λσ H R=>tl σ H λx H1=>∃z,x = .str z/\R (Its z) H1
theorem qdC {l:Expr} {tl:TE} (hl:PE X l tl):PI X tg l (qdB tl):=by
  intro p_ s σ H R I h;refine bY (hl p_ s σ H _ I h) λv s1 zz=>?_;obtain⟨x,H1,I1,r1,q1⟩:=zz;obtain⟨z,e,q⟩:=q1;subst e;obtain⟨t,rfl⟩:=r1;refine wpAny_pyIter_strU ?_;refine⟨s1.heap.objs.size,[s1.heap.objs.size],_,_,H1,rfl,I1.kept (t':=s1.toks) λb o e=>qlU _ e,W3 z t _,⟨_,ql0 _ rfl,rfl,rfl⟩,λb hb=>?_,q⟩;have e:b=s1.heap.objs.size:=by simpa using hb
  subst e;exact I1.Ar (qlY _) (I1.hok.fresh (qlY _))
end
def Itz (K:W.Frag) (a b:Addr):It:=
  ⟨λi H=>∃xs ys x y,aX K H a xs/\aX K H b ys/\xs[i]? = some x/\ys[i]? = some y,
   λi H v H'=>∃t x y,v = .ref t/\H t=none/\H'=upd H t (.tup [x,y])/\(∀xs,aX K H a xs->xs[i]? = some x)/\∀ys,aX K H b ys->ys[i]? = some y,
   λi H=>∃xs ys,aX K H a xs/\aX K H b ys/\(xs.length<=i\/ys.length<=i)⟩
structure qfQ (z TI TO i1 i2 a b:Addr) (i:Nat) (h:Heap):Prop where
  hz:IsZip h z TI TO .none
  hI:IsPair h TI (.ref i1) (.ref i2)
  hO:∃p q,IsPair h TO p q
  h1:h.IsListIter i1 a i
  h2:h.IsListIter i2 b i
theorem aQ {h:Heap} {a b:Addr} {o u:Obj} {T U:String} (ha:h.get? a=some o) (hb:h.get? b=some u) (ca:o.cls = .type T) (cb:u.cls = .type U) (hne:T≠U):a≠b:=λe=>by
  subst e;rw[ha] at hb;cases hb;rw[ca] at cb;injection cb with e2;exact hne e2
theorem W4 {P:Program} {w:World} {K:W.Frag} {es:List Expr} {k:Nat} {pos:Pos} {z TI TO i1 i2 a b:Addr} (n12:i1≠i2) (nT:TI≠TO) :
    Turn P w K (.Tuple es k pos) (Itz K a b) [z,TI,TO,i1,i2] z (qfQ z TI TO i1 i2 a b) where
  mem:=by simp
  obj:=λi h st c hc=>by
    simp only[ql1,qme,qmX] at hc
    rcases hc with rfl | rfl | rfl | rfl | rfl
    ·exact⟨_,st.hz,λv e=>nomatch e⟩
    ·exact⟨_,st.hI,λv e=>nomatch e⟩
    ·obtain⟨p,q,e⟩:=st.hO;exact⟨_,e,λv e=>nomatch e⟩
    ·obtain⟨o,e,_,d⟩:=st.h1;exact⟨o,e,λv y=>by rw[d] at y;cases y⟩
    ·obtain⟨o,e,_,d⟩:=st.h2;exact⟨o,e,λv y=>by rw[d] at y;cases y⟩
  keep:=λi h h' st kk=>by
    obtain⟨p,q,e⟩:=st.hO;exact⟨kk z (by simp) _ st.hz,kk TI (by simp) _ st.hI,⟨p,q,kk TO (by simp) _ e⟩,st.h1.at λo e=>kk i1 (by simp) o e,st.h2.at λo e=>kk i2 (by simp) o e⟩
  item:=by
    intro X hP hw hK hc i p_ s σ H E I hf st hg;subst hP hw hK;obtain⟨xs,ys,x,y,qa,qb,hx,hy⟩:=hg;obtain⟨its,rv,pl,hz1⟩:=I.list qa;obtain⟨its',rv',pl',hz2⟩:=I.list qb;obtain⟨u,hu,ru⟩:=rv.get hx;obtain⟨u',hu',ru'⟩:=rv'.get hy;obtain⟨p,q,hTO⟩:=st.hO;obtain⟨oa,ea,ca,_⟩:=id pl.isList;obtain⟨ob,eb,cb,_⟩:=id pl'.isList;obtain⟨o1,e1,c1,_⟩:=id st.h1;obtain⟨o2,e2,c2,_⟩:=id st.h2;have D:ZipApart z TI TO i1 i2 a b:=
      ⟨aQ st.hI st.hz rfl rfl (by decide),aQ hTO st.hz rfl rfl (by decide),aQ e1 st.hz c1 rfl (by decide),aQ e2 st.hz c2 rfl (by decide),nT,aQ st.hI e1 rfl c1 (by decide),aQ st.hI e2 rfl c2 (by decide),
        aQ hTO e1 rfl c1 (by decide),aQ hTO e2 rfl c2 (by decide),n12,aQ ea st.hz ca rfl (by decide),aQ ea hTO ca rfl (by decide),aQ ea e1 ca c1 (by decide),aQ ea e2 ca c2 (by decide),
        aQ eb st.hz cb rfl (by decide),aQ eb hTO cb rfl (by decide),aQ eb e1 cb c1 (by decide),aQ eb e2 cb c2 (by decide)⟩
    refine wpAny_pyNext_zip_item D st.hz st.hI hTO st.h1 st.h2 pl.isList pl'.isList (x:=u) (y:=u') (by simpa using hu) (by simpa using hu') λh' a1 a2 a3 a4 a5 a6 kk=>?_;refine⟨_,rfl,wpAny_letOwnedTupleGo_zip a1 λh2 b1 sb=>?_⟩;have lt:∀{c o},s.heap.get? c=some o->s.heap.objs.size≠c:=λe=>qmY (qlW e);have hn:H s.heap.objs.size=none:=I.hok.fresh (qlY _);have Pu:∀c o,c∉[z,TI,TO,i1,i2]->s.heap.get? c=some o->h2.get? c=some o:=λc o hc e=>by
      simp only[ql1,qme,qmX,not_or] at hc;exact(sb.2 c hc.1).trans (kk c o hc.1 hc.2.2.1 hc.2.2.2.1 hc.2.2.2.2 e)
    have I1:Inv X p_ σ H {s with heap:=h2,toks:=s.toks}:=I.nC Pu hf;have wK:IsPair h2 s.heap.objs.size u u':=sb.extBut _ _ (lt st.hz) a5;have I2:Inv X p_ σ (upd H s.heap.objs.size (.tup [x,y])) {s with heap:=h2,toks:=s.toks}:=by
      have hfr:H s.heap.objs.size=none:=hn;refine⟨I1.ok,I1.os,I1.bare,⟨I1.base.keep,I1.base.slot,λc o e n hx=>?_,I1.base.there,λc zs e=>?_,λc o v e=>?_,λc qs e=>?_⟩,I1.loc,I1.cell,?_,λv c e=>?_,λv hv=>?_,?_,I1.len⟩
      . rw[aB (λe'=>?_)]
        ·exact I1.base.free c o e n hx
        ·exact absurd (ql5 (qlW e) I.sz) (by rw[e'];exact qmN _)
      ·have e':=I1.base.tups c zs e;rw[aB (aL e' hfr)];exact e'
      ·have e':=I1.base.qm c o v e;rw[aB (aL e' hfr)];exact e'
      ·obtain⟨m,e'⟩:=I1.base.qp c qs e;exact⟨m,by rw[aB (aL e' hfr)];exact e'⟩
      ·rw[aB (ql3 I.lt)];exact I1.free
      ·obtain⟨w',qc⟩:=I.cell v c e;rw[aB (ql3 qc.lt)];exact I1.gj v c e
      ·obtain⟨f1,f2,f3⟩:=I1.pin v hv;refine⟨f1,?_,f3⟩;rw[aB (ql3 (qlW (I.pin v hv).1))];exact f2
      . intro c v e
        by_cases hcs:c=s.heap.objs.size
        ·subst hcs;rw[ak] at e;cases e;exact⟨by show 2<=sizeLine;rw[sizeLine_eq];decide,[u,u'],.cons ru (.cons ru' .nil),⟨_,wK,rfl,0,rfl⟩⟩
        . rw[aB hcs] at e;refine(I1.hok c v e).stay (λ_ _ _ qq=>qq) (λd qd=>?_) λd zs qd=>?_
          ·rw[aB (aL qd hfr)];exact qd
          ·rw[aB (aL qd hfr)];exact qd
    refine⟨.ref s.heap.objs.size,_,I2,rfl,⟨s.heap.objs.size,x,y,rfl,hn,rfl,λxs' q'=>by rw[I.su q' qa];exact hx,λys' q'=>by rw[I.su q' qb];exact hy⟩,?_,λc hcm=>?_⟩
    ·exact⟨b1,sb.extBut _ _ D.TIz (kk _ _ D.TIz D.TITO D.TIi1 D.TIi2 st.hI),⟨_,_,sb.extBut _ _ D.TOz a2⟩,a3.extBut sb.extBut D.i1z,a4.extBut sb.extBut D.i2z⟩
    . have hne:c≠s.heap.objs.size:=by
        simp only[ql1,qme,qmX] at hcm
        rcases hcm with rfl | rfl | rfl | rfl | rfl
        ·exact(lt st.hz).symm
        ·exact(lt st.hI).symm
        ·exact(lt hTO).symm
        ·exact(lt e1).symm
        ·exact(lt e2).symm
      rw[aB hne];exact(hf c hcm).1
  done:=by
    intro X hP hw hK hc i p_ s σ H E I hf st hg;subst hP hw hK;obtain⟨xs,ys,qa,qb,hl⟩:=hg;obtain⟨its,rv,pl,hz1⟩:=I.list qa;obtain⟨its',rv',pl',hz2⟩:=I.list qb;obtain⟨p,q,hTO⟩:=st.hO;obtain⟨oa,ea,ca,_⟩:=id pl.isList;obtain⟨ob,eb,cb,_⟩:=id pl'.isList;obtain⟨o1,e1,c1,_⟩:=id st.h1;obtain⟨o2,e2,c2,_⟩:=id st.h2;have D:ZipApart z TI TO i1 i2 a b:=
      ⟨aQ st.hI st.hz rfl rfl (by decide),aQ hTO st.hz rfl rfl (by decide),aQ e1 st.hz c1 rfl (by decide),aQ e2 st.hz c2 rfl (by decide),nT,aQ st.hI e1 rfl c1 (by decide),aQ st.hI e2 rfl c2 (by decide),
        aQ hTO e1 rfl c1 (by decide),aQ hTO e2 rfl c2 (by decide),n12,aQ ea st.hz ca rfl (by decide),aQ ea hTO ca rfl (by decide),aQ ea e1 ca c1 (by decide),aQ ea e2 ca c2 (by decide),
        aQ eb st.hz cb rfl (by decide),aQ eb hTO cb rfl (by decide),aQ eb e1 cb c1 (by decide),aQ eb e2 cb c2 (by decide)⟩
    have l1:=rv.length;have l2:=rv'.length;refine wpAny_pyNext_zip_end (I.ok.hd hc) D st.hz st.hI hTO st.h1 st.h2 pl.isList pl'.isList ?_ λh' kk=>⟨rfl,I.nC (t':=s.toks) (λc o hcm e=>?_) hf⟩
    . rcases hl with hl | hl
      ·exact .inl (by simp;omega)
      ·exact .inr (by simp;omega)
    ·simp only[ql1,qme,qmX,not_or] at hcm;exact kk c o hcm.1 hcm.2.2.1 hcm.2.2.2.1 hcm.2.2.2.2 e
  self:=λ_ _ _ _ _ st h=>wpAny_pyIter_zip st.hz h
section
variable {X:Cx}
def qav (K:W.Frag) (t:TA):TI:=λσ H R=>t σ H λvs H1=>∃a b xs ys,vs=[.ref a,.ref b]/\aX K H1 a xs/\aX K H1 b ys/\R (Itz K a b) H1
theorem boot_zip:bootBuiltins "zip" = some (.type "zip"):=by decide+kernel
theorem qdD {es:List Expr} {k:Nat} {pos':Pos} {a b:Expr} {ta:TA} {p pos:Pos} (hg:Gl X "zip") (hm:X.mg "zip" = none) (ha:PA X [a,b] ta)
    (hs:starEach [a,b] X.env=[(false,eval a X.env),(false,eval b X.env)]:=by rfl) (hs2:starEach [b] X.env=[(false,eval b X.env)]:=by rfl) :
    PI X (.Tuple es k pos') (.Call (.Name "zip" p) [a,b] [] pos) (qav X.K ta):=by
  intro p_ s σ H R I h;refine Call_ (jh I hg hm boot_zip (qmE (bY (ha pos p_ s σ H _ I h) λus s1 zz=>?_) (by rw[hs,hs2]) (by rw[hs2];rfl)));obtain⟨vs,H1,I1,r1,q1⟩:=zz;obtain⟨l1,l2,xs,ys,e,qa,qb,q⟩:=q1;subst e;obtain⟨u,v,rfl,r,r'⟩:=r1.two;obtain rfl:u=Value.ref l1:=r;obtain rfl:v=Value.ref l2:=r';obtain⟨its,rv,pl,hz1⟩:=I1.list qa;obtain⟨its',rv',pl',hz2⟩:=I1.list qb;refine call_zip_2 pl.isList pl'.isList λh' b1 b2 b3 b4 b5 b6 kk=>?_;refine wpAny_pyIter_zip (s:={s1 with heap:=h'}) b1 ?_;have I2:Inv X p_ σ H1 {s1 with heap:=h'}:=I1.kept (t':=s1.toks) kk;refine⟨s1.heap.objs.size+4,[s1.heap.objs.size+4,s1.heap.objs.size+2,s1.heap.objs.size+3,s1.heap.objs.size,s1.heap.objs.size+1],_,_,H1,rfl,I2,W4 (ql3 (qmT _)) (ql3 (qmT (s1.heap.objs.size+2))),⟨b1,b2,⟨_,_,b3⟩,b4,b5⟩,λc hc=>?_,q⟩;have hle:s1.heap.objs.size<=c:=by
    simp only[ql1,qme,qmX] at hc
    rcases hc with rfl | rfl | rfl | rfl | rfl <;> first | exact qnu _ _ | exact qlY _
  exact I1.Ar hle (I1.hok.fresh hle)
end
section
variable {X:Cx} {p_:List (Addr×Obj)} {σ:St} {H:Hp} {s:Shared}
theorem lF.kit {x:V} {u t:Value} (I:Inv X p_ σ H s) (rx:RelV x u) (ty:lF X.K H x t):∃Φ,W.KitX X.K u t Φ/\Φ s.heap/\u≠.builtin "__main__.__loader__#opaque" :=by
  cases ty with
  | non=>cases (show u=Value.none from rx);exact⟨_,W.kitx_none,True.intro,λz=>nomatch z⟩
  | bl y=>cases (show u=Value.bool y from rx);exact⟨_,W.kitx_bool,True.intro,λz=>nomatch z⟩
  | int i=>obtain⟨t,q⟩:=(show ∃t,u=Value.int i t from rx);cases q;exact⟨_,W.kitx_int,True.intro,λz=>nomatch z⟩
  | str y=>obtain⟨t,q⟩:=(show ∃t,u=Value.str y t from rx);cases q;exact⟨_,W.kitx_str,True.intro,λz=>nomatch z⟩
  | flt y=>obtain⟨t,q⟩:=(show ∃t,u=Value.float y t from rx);cases q;exact⟨_,W.kitx_float,True.intro,λz=>nomatch z⟩
  | @lst a xs ea=>
    cases (show u=Value.ref a from rx);obtain⟨_,_,n,_,h1⟩:=(show bZ X.prog X.w H s.heap a (.lst xs) from I.hok a _ ea);exact⟨_,W.kitx_list,⟨_,h1,rfl⟩,λz=>nomatch z⟩
  | @Ld a ob xs ea=>
    cases (show u=Value.ref a from rx);obtain⟨_,_,_,n,_,h1⟩:=(show bZ X.prog X.w H s.heap a (.Ld ob (.lst xs)) from I.hok a _ ea);exact⟨_,W.kitx_list,⟨_,h1,rfl⟩,λz=>nomatch z⟩
  | @tup a xs ea=>
    cases (show u=Value.ref a from rx);obtain⟨_,_,_,p⟩:=(show bZ X.prog X.w H s.heap a (.tup xs) from I.hok a _ ea);obtain⟨o,h1,h2,_⟩:=p;exact⟨_,W.kitx_tuple,⟨o,h1,h2⟩,λz=>nomatch z⟩
  | @dK a kvs ea=>
    cases (show u=Value.ref a from rx);obtain⟨_,_,vs,_,p⟩:=(show bZ X.prog X.w H s.heap a (.dK kvs) from I.hok a _ ea);obtain⟨o,es,ep,h1,h2,_⟩:=p;exact⟨_,W.kitx_dict,⟨o,h1,h2.1⟩,λz=>nomatch z⟩
  | @dT a kvs ea=>
    cases (show u=Value.ref a from rx);obtain⟨_,_,xs,_,o,es,ep,h1,h2,_⟩:=(show bZ X.prog X.w H s.heap a (.dT kvs) from I.hok a _ ea);exact⟨_,W.kitx_dict,⟨o,h1,h2.1⟩,λz=>nomatch z⟩
  | @ins a C dx fs ea cl ha hn htk hm=>
    cases (show u=Value.ref a from rx);obtain⟨mA,O,_⟩:=wF I.hok ea;obtain⟨od,J,_⟩:=O.look;exact⟨_,W.kitx_own (cl.get _) cl.hd ha hn htk hm,J,λz=>nomatch z⟩
theorem Uk:cj X (.builtin "isinstance") (λxs H Q=>∃x n t b,xs=[x,.ty n]/\lF X.K H x t/\W.kitOne X.K t (.type n)=some b/\Q (.bl b) H):=by
  intro p_ s σ H xs us Q I r h;obtain⟨x,n,t,b,rfl,ty,e,q⟩:=h;obtain⟨u,v,rfl,rx,rc⟩:=r.two;obtain rfl:v=Value.type n:=rc;exact Ub I rx ty e λtk=>⟨.bl b,H,I.tok tk,rfl,q⟩
theorem Ul:cj X (.builtin "isinstance") (λxs H Q=>∃x p m n t b,xs=[x,.ref p]/\H p=some (.tup [.ty m,.ty n])/\lF X.K H x t/\W.kitAny X.K t [.type m,.type n]=some b/\Q (.bl b) H):=by
  intro p_ s σ H xs us Q I r h;obtain⟨x,p,m,n,t,b,rfl,hp,ty,e,q⟩:=h;obtain⟨u,v,rfl,rx,rc⟩:=r.two;obtain rfl:v=Value.ref p:=rc;obtain⟨Φ,Z,hΦ,hne⟩:=ty.kit I rx;obtain⟨_,its,rv,o,e1,e2,k,e3⟩:=(show bZ X.prog X.w H s.heap p (.tup [.ty m,.ty n]) from I.hok p _ hp);obtain⟨u1,u2,rfl,r1,r2⟩:=rv.two;obtain rfl:u1=Value.type m:=r1;obtain rfl:u2=Value.type n:=r2;obtain⟨c,dd,dt,sl⟩:=o;replace e2:c = .type "tuple" :=e2;replace e3:dt = .seq [Value.type m,Value.type n].toArray k:=e3;subst e2 e3;exact W.kia_tup Z I.pP hΦ e1 e hne λtk=>⟨.bl b,H,I.tok tk,rfl,q⟩
theorem boot_isinstance:bootBuiltins "isinstance" = some (.builtin "isinstance"):=by decide+kernel
theorem boot_str:bootBuiltins "str" = some (.type "str"):=by decide+kernel
theorem boot_list:bootBuiltins "list" = some (.type "list"):=by decide+kernel
theorem boot_tuple:bootBuiltins "tuple" = some (.type "tuple"):=by decide+kernel
theorem G6:bootBuiltins "int" = some (.type "int"):=by decide+kernel
theorem Px:bootBuiltins "bool" = some (.type "bool"):=by decide+kernel
theorem Py:bootBuiltins "dict" = some (.type "dict"):=by decide+kernel
theorem G7:bootBuiltins "set" = some (.type "set"):=by decide+kernel
end
mutual
def Is (K:W.Frag) (H:Hp):PyData->V->Prop
  | .none,v=>v = .non
  | .bool b,v=>v = .bl b
  | .int i,v=>v = .int i
  | .str x,v=>v = .str x
  | .list ds,v=>∃a xs,v = .ref a/\aX K H a xs/\sH K H ds xs
  | .tuple ds,v=>∃a xs,v = .ref a/\dO K H a xs/\sH K H ds xs
  | .dict _,_=>False
def sH (K:W.Frag) (H:Hp):List PyData->List V->Prop
  | [],vs=>vs=[]
  | d::ds,vs=>∃v r,vs=v::r/\Is K H d v/\sH K H ds r
end
section
variable {X:Cx} {p_:List (Addr×Obj)} {σ:St} {H:Hp} {s:Shared}
mutual
theorem Is.reads (I:Inv X p_ σ H s):∀(d:PyData) (v:V) (u:Value),Is X.K H d v->RelV v u->∃as,Reads s.heap u d as
  | .none,v,u,h,r=>by
    simp only[Is] at h;subst h;cases r;exact⟨_,.none⟩
  | .bool b,v,u,h,r=>by
    simp only[Is] at h;subst h;cases r;exact⟨_,.bool b⟩
  | .int i,v,u,h,r=>by
    simp only[Is] at h;subst h;obtain⟨t,rfl⟩:=r;exact⟨_,.int i t⟩
  | .str x,v,u,h,r=>by
    simp only[Is] at h;subst h;obtain⟨t,rfl⟩:=r;exact⟨_,.str x t⟩
  | .list ds,v,u,h,r=>by
    simp only[Is] at h;obtain⟨a,xs,rfl,hq,hs⟩:=h;cases r;obtain⟨its,rv,pl,hz⟩:=I.list hq;obtain⟨o,e,c,n,dt⟩:=pl.isList;obtain⟨as,ra⟩:=sH.reads I ds xs its hs rv;exact⟨_,.list e c dt (by simpa using ra)⟩
  | .tuple ds,v,u,h,r=>by
    simp only[Is] at h;obtain⟨a,xs,rfl,hq,hs⟩:=h;cases r;obtain⟨its,rv,pl,hz⟩:=I.tuple hq;obtain⟨o,e,c,n,dt⟩:=pl;obtain⟨as,ra⟩:=sH.reads I ds xs its hs rv;exact⟨_,.tuple e c dt (by simpa using ra)⟩
  | .dict _,v,u,h,r=>by
    simp only[Is] at h
theorem sH.reads (I:Inv X p_ σ H s):∀(ds:List PyData) (vs:List V) (us:List Value),sH X.K H ds vs->Vals vs us->∃as,ReadsAll s.heap us ds as
  | [],vs,us,h,r=>by
    simp only[sH] at h;subst h;cases r;exact⟨_,.nil⟩
  | d::ds,vs,us,h,r=>by
    simp only[sH] at h;obtain⟨v,vr,rfl,h1,h2⟩:=h;cases r with
    | cons r1 r2=>
      obtain⟨as,ra⟩:=Is.reads I d v _ h1 r1;obtain⟨bs,rb⟩:=sH.reads I ds vr _ h2 r2;exact⟨_,.cons ra rb⟩
end
theorem qdE:gb X (compareOp .Eq) (λx y H Q=>∃d e,Is X.K H d x/\Is X.K H e y/\d.canLay0=true/\e.canLay0=true/\X.A.units+min d.depth e.depth<cLine/\Q (.bl (PyData.eqv d e)) H):=by
  intro p_ s σ H x y v u Q I rx ry h;obtain⟨d,e,hx,hy,h1,h2,hu,q⟩:=h;obtain⟨as,ra⟩:=hx.reads I d x v rx;obtain⟨bs,rb⟩:=hy.reads I e y u ry;exact SeqAt.compareEq_reads ra rb h1 h2 hu ⟨.bl _,H,I,rfl,q⟩
end
section
variable {X:Cx}
def Jf:V->List V->Hp->VK->Prop:=λx vs H Q=>∃l xs i y,x = .ref l/\vs=[.int i,y]/\H l=some (.lst xs)/\0<=i/\i<=xs.length/\xs.length<sizeLine/\Q .non (upd H l (.lst (xs.take i.toNat++y::xs.drop i.toNat)))
theorem Vals.ins {y:V} {u:Value} (ru:RelV y u):∀{xs:List V} {us:List Value} (i:Nat),Vals xs us->Vals (xs.take i++y::xs.drop i) (us.take i++u::us.drop i):=λi r=>(r.take i).append (.cons ru (r.drop i))
theorem Um:MtM X "list.insert" Jf:=by
  intro p_ s σ H x vs v us Q I rx rv h;obtain⟨l,xs,i,y,rfl,rfl,hH,h0,hi,hz,q⟩:=h;cases rx;obtain⟨u1,u,rfl,⟨t,rfl⟩,ru⟩:=rv.two;obtain⟨z,its,n,r,hl,e⟩:=I.Ug hH;have hn:=vC;have hfit:¬(!Builtin.List.listFitsIndex i)=true:=by
    unfold Builtin.List.listFitsIndex;simp;omega
  refine call_meets F.slot_list_insert ⟨_,e,rfl⟩ F.entry_list_insert (F.args_list_insert_3 _ _ _) (PySem.AutoListH.list_insert_list_int_val_1 l its.toArray n i t u hfit (by rw[qmf];omega)) ⟨e,?_⟩;refine⟨.non,_,I.qfJ (its':=its.take i.toNat++u::its.drop i.toNat) hH e ?_ (r.ins ru i.toNat) ?_,rfl,q⟩
  . have hm:min i.toNat its.length=i.toNat:=by omega
    simp only[qmf];rw[if_neg (by omega),hm];apply Array.toList_inj.mp;simp;exact List.take_of_length_le (by simp)
  ·simp;omega
end
section
variable {X:Cx}
def sI:List V->List Bool->Prop
  | [],bs=>bs=[]
  | x::xs,bs=>∃b r,bs=b::r/\x = .bl b/\sI xs r
theorem sI.get:∀{xs:List V} {bs:List Bool} {its:List Value},sI xs bs->Vals xs its->xs.length=bs.length/\∀(i:Nat) (v:Value),its[i]? = some v->v = .bool (bs.getD i false)
  | [],bs,its,h,r=>by
    cases h;cases r;exact⟨rfl,λi v e=>by simp at e⟩
  | x::xs,bs,its,h,r=>by
    obtain⟨b,br,rfl,rfl,h⟩:=h;cases r with
    | cons r1 r2=>
      obtain⟨h1,h2⟩:=sI.get h r2;refine⟨by simp[h1],λi v e=>?_⟩;cases i with
      | zero=>
        simp at e;subst e;exact r1
      | succ i=>
        simp at e;simpa using h2 i v e
theorem range_all (bs:List Bool):(List.range bs.length).all (λi=>bs.getD i false)=bs.all id:=by
  rw[qm4,qmk,qmk];constructor
  ·intro h b hb;obtain⟨i,hi,rfl⟩:=qoe.mp hb;have:=h i (qnw.mpr hi);simpa [List.getD,hi] using this
  ·intro h i hi;have hi':=qnw.mp hi;have:=h bs[i] (qog hi');simpa [List.getD,hi'] using this
theorem Uo (hc:X.calm=true):cj X (.builtin "all") (λxs H Q=>∃a ys bs,xs=[.ref a]/\H a=some (.lst ys)/\sI ys bs/\Q (.bl (bs.all id)) H):=by
  intro p_ s σ H xs us Q I r h;obtain⟨a,ys,bs,rfl,ha,hb,q⟩:=h;obtain⟨u,rfl,ru⟩:=r.one;obtain rfl:u=Value.ref a:=ru;obtain⟨z,its,n,rv,hl,e⟩:=I.Ug ha;obtain⟨h1,h2⟩:=hb.get rv;have hL:s.heap.IsList a its.toArray:=⟨_,e,rfl,n,rfl⟩;refine call_all_walk ?_;refine qm0 hL ?_;have hne:a≠s.heap.objs.size:=ql3 (qlW e);have hL2:(s.heap.push {cls:=.type "list_iterator",data:=.fields #[.ref a,.int 0 0]}).IsList a its.toArray:=⟨_,qlU _ e,rfl,n,rfl⟩;refine⟨s.heap.objs.size,_,_,_,_,_,λi=>bs.getD i false,rfl,Walks.list (by exact I.ok.hd hc) s.heap.objs.size a hne its.toArray,⟨⟨_,ql0 _ rfl,rfl,rfl⟩,hL2⟩,λi v s' Q' E' hP hQ=>?_,λh' tk kk=>?_⟩
  ·obtain rfl:=h2 i v (by simpa using hP);exact qmZ hQ
  . have e2:(List.range its.toArray.size).all (λi=>bs.getD i false)=bs.all id:=by
      rw[qmf,<- hl,h1];exact range_all bs
    rw[e2];refine⟨.bl _,H,?_,rfl,q⟩;exact I.kept (h':=h') (t':=tk) λb o eb=>kk b o (by simp;exact ql3 (qlW eb)) (qlU _ eb)
end
def Jg (l:List Key) (k:Key):Bool:=l.any λx=>decide (x=k)
theorem W5 {l:List Key} {k:Key}:Jg l k=true↔k∈l:=by
  unfold Jg;rw[List.any_eq_true];constructor
  ·rintro⟨x,hx,e⟩;have e':=qmn e;subst e';exact hx
  ·intro h;exact⟨k,h,qmz rfl⟩
theorem W6 (l:List Key) (x k:Key):Jg (l++[x]) k=(Jg l k || decide (k=x)):=by
  unfold Jg;rw[List.any_append];simp only[qnR,List.any_nil,Bool.or_false];congr 1;exact decide_eq_decide.mpr ⟨λe=>e.symm,λe=>e.symm⟩
def yS (acc:List Key) (k:Key):List Key:=if Jg acc k=true then acc else acc++[k]
def Fo (val:Nat->Key) (i:Nat):List Key:=((List.range i).map val).foldl yS []
theorem wL (val:Nat->Key) (i:Nat):Fo val (i+1)=yS (Fo val i) (val i):=by
  unfold Fo;rw[List.range_succ,qms,List.foldl_append];rfl
theorem W7 (val:Nat->Key):∀i,(Fo val i).length<=i
  | 0=>qlY _
  | i+1=>by
    rw[wL];have ih:=W7 val i;unfold yS;split
    ·omega
    ·rw[qmb,qn7];omega
theorem Pz (val:Nat->Key):∀n,(∀i j,i<n->j<n->val i=val j->i=j)->(Fo val n).length=n/\∀k,k∈Fo val n->∃i,i<n/\val i=k
  | 0,_=>⟨rfl,λk h=>by simp[Fo] at h⟩
  | n+1,h=>by
    obtain⟨h1,h2⟩:=Pz val n λi j hi hj=>h i j (by omega) (by omega);have hnot:¬Jg (Fo val n) (val n)=true:=λhm=>by
      obtain⟨i,hi,e⟩:=h2 _ (W5.mp hm);have:=h i n (by omega) (by omega) e;omega
    rw[wL];unfold yS;rw[if_neg hnot];refine⟨by simp[h1],λk hk=>?_⟩
    rcases qmh.mp hk with z | z
    ·obtain⟨i,hi,e⟩:=h2 k z;exact⟨i,by omega,e⟩
    ·exact⟨n,by omega,(qmu.mp z).symm⟩
theorem qaw {k:Key} {v:Value} (h:rT k v=true):v.scannable=true:=by
  rcases c7 h with⟨i,t,rfl,rfl⟩ | ⟨x,t,rfl,rfl⟩ <;> rfl
theorem Ly {P:Program} {w:World} {h:Heap} {a:Addr} {S S':Key->Bool} {n n':Nat} (x:h.SetOf (bJ P w) a S n) (e:∀k,S k=S' k) (en:n=n'):h.SetOf (bJ P w) a S' n':=by
  have:S=S':=funext e;subst this;subst en;exact x
abbrev nF (P:Program) (w:World) (h:Heap) (a:Addr) (l:List Key):Prop:=h.SetOf (bJ P w) a (Jg l) l.length
theorem nF.at {P:Program} {w:World} {h h':Heap} {a:Addr} {l:List Key} (x:nF P w h a l) (k:∀o,h.get? a=some o->h'.get? a=some o):nF P w h' a l:=by
  obtain⟨o,es,ep,t,e,r⟩:=x;exact⟨o,es,ep,t,k o e,r⟩
theorem G8 {P:Program} {w:World} {h:Heap} {a:Addr} {led:Bool} (e:h.get? a=some {cls:=.type "set",dict:=none,data:=.set #[] 0 (.fresh 0 0 led)}):nF P w h a []:=
  ⟨_,#[],0,.fresh 0 0 led,e,⟨rfl,rfl,rfl⟩,rfl,(λx hx=>by simp at hx),(λk=>by simp[Jg]),(by unfold scanBound;decide),(by cases led <;> rfl),rfl⟩
section
variable {P:Program} {w:World} {A:Around} {R:Result->Shared->Prop} {I:Addr} {fp wr:List Addr} {n:Nat} {PP:Nat->Value->Prop} {St:Nat->Heap->Prop}
theorem Lz (g8:Walks P w A.in1 I fp wr n PP St) (S:Addr) (hSf:S∉fp) (val:Nat->Key) (hval:∀i v,PP i v->rT (val i) v=true) (hb:n+1<scanBound) :
    ∀(k i:Nat) (s:Shared),n - i=k->i<=n->St i s.heap->nF P w s.heap S (Fo val i)->
      (∀h' tk,(∀b o,b≠S->b∉wr->s.heap.get? b=some o->h'.get? b=some o)->nF P w h' S (Fo val n)->R (.ok (.ret .none)) {s with heap:=h',toks:=tk})->
      codeAny (model P w) A (.builtin "set.update.loop" ⟨[.ref S,.ref I],[]⟩) R s:=by
  have hSw:S∉wr:=λh=>hSf (g8.sub _ h);intro k
  induction k with
  | zero=>
    intro i s hk hi hst hS hR;obtain rfl:i=n:=by omega
    refine qmR PyProof.Rows.F.entry_set_update_loop ?_;rw[qmH qnC _];show wpAny _ A.in1 (pyNext (.ref I) >>= _) _ _ s;refine qlS (g8.done s _ _ hst λh' tk hm=>?_);exact qlV (hR h' tk (λb o _ hb e=>hm b o hb e) (hS.at λo e=>hm S o hSw e))
  | succ k ih=>
    intro i s hk hi hst hS hR;have hlt:i<n:=by omega
    refine qmR PyProof.Rows.F.entry_set_update_loop ?_;rw[qmH qnC _];show wpAny _ A.in1 (pyNext (.ref I) >>= _) _ _ s;refine qlS (g8.item i s _ _ hlt hst λv h' tk hP hst' hm=>?_);have hkey:(bJ P w).is (val i) v=true:=hval i v hP;have hS':nF P w h' S (Fo val i):=hS.at λo e=>hm S o hSw e;show wpAny _ A.in1 (holding [v] (setAdd S v) >>= _) _ _ _;refine qlS (qmF ?_);unfold setAdd;refine qmF (qlS ((bJ P w).pyHash (k:=val i) hkey ?_));have hroom:(Fo val i).length+1<scanBound:=by have:=W7 val i;omega
    refine wpAny_setAddHashed_of (knd:=bJ P w) (s:={s with heap:=h',toks:=tk+1}) hkey (qaw (hval i v hP)) hS' hroom λh2 hsb hS2=>?_;have hSi:nF P w h2 S (Fo val (i+1)):=by
      refine Ly hS2 (λk'=>?_) ?_
      . rw[wL];unfold yS;split
        . rename_i hm1
          by_cases e:k'=val i
          ·rw[e,hm1];rfl
          ·rw[qmA e,Bool.or_false]
        ·exact(W6 _ _ _).symm
      . rw[wL];unfold yS;split
        ·rfl
        ·rw[qmb,qn7]
    refine qlV ⟨qm7 qnC _,ih (i+1) _ (by omega) hlt (g8.frame _ h' _ hst' λb hb o e=>?_) hSi λh3 tk3 hm3 hS3=>?_⟩
    ·exact(hsb.2 b (λz:b=S=>hSf (by rw[<- z];exact hb))).trans e
    ·refine hR h3 tk3 (λb o hbS hbw e=>hm3 b o hbS hbw ?_) hS3;exact(hsb.2 b hbS).trans (hm b o hbw e)
end
theorem Ft:isSubtype (.type "list") (.type "set")=pure false:=by rw[isSubtype_type];kernel_rfl
theorem yU:isSubtype (.type "list") (.type "frozenset")=pure false:=by rw[isSubtype_type];kernel_rfl
set_option maxHeartbeats 4000000 in
theorem LC {P:Program} {w:World} {A:Around} {E:Value->Shared->Prop} {s:Shared} {l:Addr} {its:Array Value} {val:Nat->Key} {Q:Value->Shared->Prop}
    (hh:A.handled=none) (hl:s.heap.IsList l its) (hval:∀i v,its[i]? = some v->rT (val i) v=true) (hb:its.size+1<scanBound)
    (h:∀(g:Heap) (tk:Nat),nF P w g s.heap.objs.size (Fo val its.size)->(∀b o,s.heap.get? b=some o->g.get? b=some o)->Q (.ref s.heap.objs.size) {s with heap:=g,toks:=tk}) :
    wpAny (model P w) A (call (.type "set") [.ref l]) Q E s:=by
  obtain⟨c,tl,hmro⟩:=PySem.F.called_set.mro;have q1:=PySem.F.called_set.made;have q2:=PySem.F.called_set.sub;refine qnQ (codeAny_of_tree ?_);show wpAny _ _ (callAny (.type "set") _) _ _ s;refine qlV ⟨Code.quiet_builtin _ (by decide+kernel),qmR PySem.F.entry_type_call ?_⟩;rw[Around.under_plain (weight_type_call_type "set" [.ref l] []) rfl];have q3:=PySem.F.called_set.notType;have q4:=PySem.F.called_set.canCreate;have q5:=PySem.F.typeCall_set_1 (.ref l)
  repeat (any_goals (first | assumption | wp_step))
  refine qmV (code_set_new_1 (.ref l) (E:=E) (Q₁:=λob s1=>∃led:Bool,ob = .ref s.heap.objs.size/\s1={s with heap:=s.heap.push {cls:=.type "set",dict:=none,data:=.set #[] 0 (.fresh 0 0 led)}}) λled=>⟨led,rfl,rfl⟩) λr s1 hr=>?_;cases r with
  | error e=>exact hr
  | ok fl=>
    cases fl with
    | ret ob=>
      obtain⟨led,rfl,rfl⟩:=hr;have new:(s.heap.push {cls:=.type "set",dict:=none,data:=.set #[] 0 (.fresh 0 0 led)}).get? s.heap.objs.size=some {cls:=.type "set",dict:=none,data:=.set #[] 0 (.fresh 0 0 led)}:=ql0 _ rfl;have ty:Shared.TypeIs {s with heap:=s.heap.push {cls:=.type "set",dict:=none,data:=.set #[] 0 (.fresh 0 0 led)}} (.ref s.heap.objs.size) "set" :=⟨_,new,rfl⟩;have q6:=PySem.F.called_set.init.lookup;have q7:=PySem.F.called_set.init.bind (.ref s.heap.objs.size)
      repeat (any_goals (first | assumption | wp_step))
      refine qmV (qnP (R:=wants (λr s2=>r = .none/\∃g tk,s2={s with heap:=g,toks:=tk}/\nF P w g s.heap.objs.size (Fo val its.size)/\(∀b o,s.heap.get? b=some o->g.get? b=some o)) E)
        PySem.F.called_set.init.plain PySem.F.entry_set_init (check_set_init_1 ty ?_)) λr2 s2 hr2=>?_
      . obtain⟨ol,ho,hcl,nl,hdl⟩:=hl;obtain⟨oc,od,odt,osl⟩:=ol;simp only at hcl hdl;subst hcl;subst hdl;have ho2:(s.heap.push {cls:=.type "set",dict:=none,data:=.set #[] 0 (.fresh 0 0 led)}).get? l=some {cls:=.type "list",dict:=od,data:=.seq its nl,slots:=osl}:=qlU _ ho;have q8:=Ft;have q9:=yU;have q10:(Value.type "list" == Value.type "dict")=false:=by decide
        have hl1:(s.heap.push {cls:=.type "set",dict:=none,data:=.set #[] 0 (.fresh 0 0 led)}).IsList l its:=⟨_,ho2,rfl,nl,rfl⟩;unfold Builtin.«set.__init__» noKeywords Builtin.Frozenset.updateFrom;generalize hPI:pyIter=PI
        wp_walk
        subst hPI;refine qm0 hl1 ?_;refine qlS (wpAny_runValue ?_);have lt1:l<s.heap.objs.size:=qlW ho;have hh3:A.in1.in1.in1.handled=none:=by simp[hh]
        have ne1:l≠(s.heap.push {cls:=.type "set",dict:=none,data:=.set #[] 0 (.fresh 0 0 led)}).objs.size:=by
          rw[qmm];exact ql3 (qne lt1)
        have nf:s.heap.objs.size∉[(s.heap.push {cls:=.type "set",dict:=none,data:=.set #[] 0 (.fresh 0 0 led)}).objs.size,l]:=by
          rw[qmm];simp only[ql1,qmu,qme,qmX,not_or];exact⟨ql3 (qmT _),qmY lt1⟩
        refine Lz (Walks.list hh3 _ l ne1 its) s.heap.objs.size nf val hval hb (its.size - 0) 0 _ (by omega) (qmK _) ⟨⟨_,ql0 _ rfl,rfl,rfl⟩,hl1.push _⟩ ?hS0 ?hR
        case hS0=>
          have hget:((s.heap.push {cls:=.type "set",dict:=none,data:=.set #[] 0 (.fresh 0 0 led)}).push {cls:=.type "list_iterator",data:=.fields #[.ref l,.int 0 0]}).get? s.heap.objs.size
              = some {cls:=.type "set",dict:=none,data:=.set #[] 0 (.fresh 0 0 led)}:=qlU _ new
          exact G8 hget
        case hR=>
          intro g tk hm hS;show wpAny _ _ _ _ _ _;refine qlV ?_;show wpAny _ _ (ret Value.none) _ _ _;refine qlV ⟨rfl,g,tk,rfl,hS,λb o e=>?_⟩;have lb:b<s.heap.objs.size:=qlW e;refine hm b o (ql3 lb) ?_ (qlU _ (qlU _ e));simp only[ql1,qme,qmX];rw[qmm];exact ql3 (qne lb)
      . cases r2 with
        | error e=>exact hr2
        | ok fl2=>
          cases fl2 with
          | ret r=>
            obtain⟨rfl,g,tk,rfl,hS,hk⟩:=hr2
            repeat (any_goals (first | assumption | wp_step))
            exact h _ _ hS hk
          | _=>exact hr2.elim
    | _=>exact hr.elim
theorem Ci:isSubtype (.type "tuple") (.type "set")=pure false:=by rw[isSubtype_type];kernel_rfl
theorem wM:isSubtype (.type "tuple") (.type "frozenset")=pure false:=by rw[isSubtype_type];kernel_rfl
set_option maxHeartbeats 4000000 in
theorem Jh {P:Program} {w:World} {A:Around} {E:Value->Shared->Prop} {s:Shared} {l:Addr} {its:Array Value} {val:Nat->Key} {Q:Value->Shared->Prop}
    (hh:A.handled=none) (hl:s.heap.IsTuple l its) (hval:∀i v,its[i]? = some v->rT (val i) v=true) (hb:its.size+1<scanBound)
    (h:∀(g:Heap) (tk:Nat),nF P w g s.heap.objs.size (Fo val its.size)->(∀b o,s.heap.get? b=some o->g.get? b=some o)->Q (.ref s.heap.objs.size) {s with heap:=g,toks:=tk}) :
    wpAny (model P w) A (call (.type "set") [.ref l]) Q E s:=by
  obtain⟨c,tl,hmro⟩:=PySem.F.called_set.mro;have q1:=PySem.F.called_set.made;have q2:=PySem.F.called_set.sub;refine qnQ (codeAny_of_tree ?_);show wpAny _ _ (callAny (.type "set") _) _ _ s;refine qlV ⟨Code.quiet_builtin _ (by decide+kernel),qmR PySem.F.entry_type_call ?_⟩;rw[Around.under_plain (weight_type_call_type "set" [.ref l] []) rfl];have q3:=PySem.F.called_set.notType;have q4:=PySem.F.called_set.canCreate;have q5:=PySem.F.typeCall_set_1 (.ref l)
  repeat (any_goals (first | assumption | wp_step))
  refine qmV (code_set_new_1 (.ref l) (E:=E) (Q₁:=λob s1=>∃led:Bool,ob = .ref s.heap.objs.size/\s1={s with heap:=s.heap.push {cls:=.type "set",dict:=none,data:=.set #[] 0 (.fresh 0 0 led)}}) λled=>⟨led,rfl,rfl⟩) λr s1 hr=>?_;cases r with
  | error e=>exact hr
  | ok fl=>
    cases fl with
    | ret ob=>
      obtain⟨led,rfl,rfl⟩:=hr;have new:(s.heap.push {cls:=.type "set",dict:=none,data:=.set #[] 0 (.fresh 0 0 led)}).get? s.heap.objs.size=some {cls:=.type "set",dict:=none,data:=.set #[] 0 (.fresh 0 0 led)}:=ql0 _ rfl;have ty:Shared.TypeIs {s with heap:=s.heap.push {cls:=.type "set",dict:=none,data:=.set #[] 0 (.fresh 0 0 led)}} (.ref s.heap.objs.size) "set" :=⟨_,new,rfl⟩;have q6:=PySem.F.called_set.init.lookup;have q7:=PySem.F.called_set.init.bind (.ref s.heap.objs.size)
      repeat (any_goals (first | assumption | wp_step))
      refine qmV (qnP (R:=wants (λr s2=>r = .none/\∃g tk,s2={s with heap:=g,toks:=tk}/\nF P w g s.heap.objs.size (Fo val its.size)/\(∀b o,s.heap.get? b=some o->g.get? b=some o)) E)
        PySem.F.called_set.init.plain PySem.F.entry_set_init (check_set_init_1 ty ?_)) λr2 s2 hr2=>?_
      . obtain⟨ol,ho,hcl,nl,hdl⟩:=hl;obtain⟨oc,od,odt,osl⟩:=ol;simp only at hcl hdl;subst hcl;subst hdl;have ho2:(s.heap.push {cls:=.type "set",dict:=none,data:=.set #[] 0 (.fresh 0 0 led)}).get? l=some {cls:=.type "tuple",dict:=od,data:=.seq its nl,slots:=osl}:=qlU _ ho;have q8:=Ci;have q9:=wM;have q10:(Value.type "tuple" == Value.type "dict")=false:=by decide
        have hl1:(s.heap.push {cls:=.type "set",dict:=none,data:=.set #[] 0 (.fresh 0 0 led)}).IsTuple l its:=⟨_,ho2,rfl,nl,rfl⟩;unfold Builtin.«set.__init__» noKeywords Builtin.Frozenset.updateFrom;generalize hPI:pyIter=PI
        wp_walk
        subst hPI;refine qnt hl1 ?_;refine qlS (wpAny_runValue ?_);have lt1:l<s.heap.objs.size:=qlW ho;have hh3:A.in1.in1.in1.handled=none:=by simp[hh]
        have ne1:l≠(s.heap.push {cls:=.type "set",dict:=none,data:=.set #[] 0 (.fresh 0 0 led)}).objs.size:=by
          rw[qmm];exact ql3 (qne lt1)
        have nf:s.heap.objs.size∉[(s.heap.push {cls:=.type "set",dict:=none,data:=.set #[] 0 (.fresh 0 0 led)}).objs.size,l]:=by
          rw[qmm];simp only[ql1,qmu,qme,qmX,not_or];exact⟨ql3 (qmT _),qmY lt1⟩
        refine Lz (Walks.tuple hh3 _ l ne1 its) s.heap.objs.size nf val hval hb (its.size - 0) 0 _ (by omega) (qmK _) ⟨⟨_,ql0 _ rfl,rfl,rfl⟩,⟨_,qlU _ ho2,rfl,nl,rfl⟩⟩ ?hS0 ?hR
        case hS0=>
          have hget:((s.heap.push {cls:=.type "set",dict:=none,data:=.set #[] 0 (.fresh 0 0 led)}).push {cls:=.type "tuple_iterator",data:=.fields #[.ref l,.int 0 0]}).get? s.heap.objs.size
              = some {cls:=.type "set",dict:=none,data:=.set #[] 0 (.fresh 0 0 led)}:=qlU _ new
          exact G8 hget
        case hR=>
          intro g tk hm hS;show wpAny _ _ _ _ _ _;refine qlV ?_;show wpAny _ _ (ret Value.none) _ _ _;refine qlV ⟨rfl,g,tk,rfl,hS,λb o e=>?_⟩;have lb:b<s.heap.objs.size:=qlW e;refine hm b o (ql3 lb) ?_ (qlU _ (qlU _ e));simp only[ql1,qme,qmX];rw[qmm];exact ql3 (qne lb)
      . cases r2 with
        | error e=>exact hr2
        | ok fl2=>
          cases fl2 with
          | ret r=>
            obtain⟨rfl,g,tk,rfl,hS,hk⟩:=hr2
            repeat (any_goals (first | assumption | wp_step))
            exact h _ _ hS hk
          | _=>exact hr2.elim
    | _=>exact hr.elim
def qax (P:Program) (w:World) (a:Addr) (l:List Key):HO:=.ext λh=>nF P w h a l
section
variable {X:Cx}
def keysOf:List V->List Key
  | []=>[]
  | .int i::r=>.inl i::keysOf r
  | .str x::r=>.inr x::keysOf r
  | _::r=>keysOf r
def isKey:V->Bool
  | .int _=>true
  | .str _=>true
  | _=>false
theorem Ji:∀{xs:List V} {its:List Value},xs.all isKey=true->Vals xs its->(keysOf xs).length=its.length/\∀(i:Nat) (v:Value),its[i]? = some v->rT ((keysOf xs).getD i (.inl 0)) v=true
  | [],_,_,.nil=>⟨rfl,λi v e=>by simp at e⟩
  | x::xs,u::us,h,.cons r1 r2=>by
    rw[List.all_cons,qnJ] at h;obtain⟨h1,h2⟩:=Ji h.2 r2;cases x with
    | int i=>
      obtain⟨t,rfl⟩:=r1;refine⟨by simp[keysOf,h1],λj v e=>?_⟩;cases j with
      | zero=>simp at e;subst e;exact Gy i t
      | succ j=>simp at e;simpa [keysOf] using h2 j v e
    | str z=>
      obtain⟨t,rfl⟩:=r1;refine⟨by simp[keysOf,h1],λj v e=>?_⟩;cases j with
      | zero=>simp at e;subst e;exact Gz z t
      | succ j=>simp at e;simpa [keysOf] using h2 j v e
    | _=>exact absurd (show false=true from h.1) ql_
theorem G9 (hc:X.calm=true):cj X (.type "set") (λxs H Q=>∃a ys,xs=[.ref a]/\(aX X.K H a ys\/dO X.K H a ys)/\ys.all isKey=true/\ys.length+1<scanBound/\
    ∀p,H p=none->Q (.ref p) (upd H p (qax X.prog X.w p (Fo (λi=>(keysOf ys).getD i (.inl 0)) ys.length)))):=by
  intro p_ s σ H xs us Q I r h;obtain⟨a,ys,rfl,hq,hk,hb,q⟩:=h;obtain⟨u,rfl,ru⟩:=r.one;obtain rfl:u=Value.ref a:=ru;have fin:∀(g:Heap) (tk:Nat),nF X.prog X.w g s.heap.objs.size (Fo (λi=>(keysOf ys).getD i (.inl 0)) ys.length)->(∀b o,s.heap.get? b=some o->g.get? b=some o)->EP X p_ σ Q (.ref s.heap.objs.size) {s with heap:=g,toks:=tk}:=λg tk hS kk=>by
    have hn:H s.heap.objs.size=none:=I.hok.fresh (qlY _);refine⟨.ref s.heap.objs.size,_,I.laid (o:=qax X.prog X.w s.heap.objs.size (Fo (λi=>(keysOf ys).getD i (.inl 0)) ys.length)) (λb o e=>kk b o e) (qlY _) ⟨hS,?_,λh1 h2 p k=>p.at k⟩,rfl,q _ hn⟩;obtain⟨o,_,_,_,e,_⟩:=hS;exact⟨o,e⟩
  rcases hq with hq | hq
  . obtain⟨its,rv,pl,hz⟩:=I.list hq;obtain⟨h1,h2⟩:=Ji hk rv;have hl:=rv.length;refine LC (val:=λi=>(keysOf ys).getD i (.inl 0)) (I.ok.hd hc) pl.isList (λi v e=>h2 i v (by simpa using e)) (by rw[qmf];omega) λg tk hS kk=>fin g tk ?_ kk;have ez:its.toArray.size=ys.length:=by rw[qmf,hl]
    rw[ez] at hS;exact hS
  . obtain⟨its,rv,pl,hz⟩:=I.tuple hq;obtain⟨h1,h2⟩:=Ji hk rv;have hl:=rv.length;refine Jh (val:=λi=>(keysOf ys).getD i (.inl 0)) (I.ok.hd hc) (show s.heap.IsTuple a its.toArray from pl) (λi v e=>h2 i v (by simpa using e)) (by rw[qmf];omega) λg tk hS kk=>fin g tk ?_ kk;have ez:its.toArray.size=ys.length:=by rw[qmf,hl]
    rw[ez] at hS;exact hS
theorem G_:cj X (.builtin "len") (λxs H Q=>∃a l,xs=[.ref a]/\H a=some (qax X.prog X.w a l)/\Q (.int l.length) H):=by
  intro p_ s σ H xs us Q I r h;obtain⟨a,l,rfl,ha,q⟩:=h;obtain⟨u,rfl,ru⟩:=r.one;obtain rfl:u=Value.ref a:=ru;obtain⟨⟨o,es,ep,t,e,ex,hd,_,_,hsz,hf,hn⟩,_⟩:=(show bZ X.prog X.w H s.heap a (qax X.prog X.w a l) from I.hok a _ ha);refine call_len_set e ex hd hf (by unfold scanBound at hsz;omega) ⟨.int l.length,H,I.tok _,⟨_,by rw[hn]⟩,q⟩
end
section
variable {X:Cx}
def qfR:R2:=λx y H Q=>∃i j,x = .str i/\y = .str j/\i.length+j.length<=sizeLine/\Q (.str (i++j)) H
def qjp:R2:=λx y H Q=>∃i j,x = .str i/\y = .str j/\Q (.bl (!(Builtin.Str.occurrences j i 0 j.length 1).isEmpty)) H
def qay:R2:=λx y H Q=>∃i j,x = .str i/\y = .str j/\Q (.bl (!(!(Builtin.Str.occurrences j i 0 j.length 1).isEmpty))) H
def qaz (K:W.Frag):R2:=λx y H Q=>rIn K false x y H Q\/qjp x y H Q
def Jj (K:W.Frag):R2:=λx y H Q=>rIn K true x y H Q\/qay x y H Q
theorem qdF:gb X (compareOp .In) (qaz X.K):=Ud.or T8
theorem Uq:gb X (compareOp .NotIn) (Jj X.K):=IV.or IW
def qdG (K:W.Frag):R2:=λx y H Q=>∃p xs i v,x = .ref p/\y = .int i/\(aX K H p xs\/dO K H p xs)/\Fl xs i=some v/\Q v H
theorem ixQ:WX X (qdG X.K):=by
  intro value slice p_ s σ H x y v u Q I rx ry h hs;obtain⟨p,xs,i,z,e1,e2,hq | hq,e3,q⟩:=h
  ·exact qas value slice p_ s σ H x y v u Q I rx ry ⟨p,xs,i,z,e1,e2,hq,e3,q⟩ hs
  ·exact qdu value slice p_ s σ H x y v u Q I rx ry ⟨p,xs,i,z,e1,e2,hq,e3,q⟩ hs
def qck (K:W.Frag):List V->Hp->VK->Prop:=λxs H Q=>∃p ys,xs=[.ref p]/\(aX K H p ys\/dO K H p ys)/\Q (.int ys.length) H
def qcl:List V->Hp->VK->Prop:=λxs H Q=>∃z,xs=[.str z]/\z.length<=sizeLine/\Q (.int z.length) H
variable {K:W.Frag}
theorem qjq (hK:X.K=K):WX X (qdG K):=by subst hK;exact ixQ
theorem inK (hK:X.K=K):gb X (compareOp .In) (qaz K):=by subst hK;exact qdF
theorem qdH (hK:X.K=K):gb X (compareOp .NotIn) (Jj K):=by subst hK;exact Uq
theorem qfS (hK:X.K=K):cj X (.builtin "len") (qck K):=by subst hK;exact I_
theorem qfT:cj X (.builtin "len") qcl:=Ja
def RK (K:W.Frag):List V->Hp->VK->Prop:=λxs H Q=>∃p ys,xs=[.ref p]/\(aX K H p ys\/dO K H p ys)/\∀l,H l=none->Q (.ref l) (upd H l (.lst ys))
theorem qaA (hK:X.K=K):cj X (.type "list") (RK K):=by subst hK;exact Jb
def qcm (K:W.Frag):List V->Hp->VK->Prop:=λxs H Q=>∃x n t b,xs=[x,.ty n]/\lF K H x t/\W.kitOne K t (.type n)=some b/\Q (.bl b) H
theorem qfU (hK:X.K=K):cj X (.builtin "isinstance") (qcm K):=by subst hK;exact Uk
def qcn (K:W.Frag):List V->Hp->VK->Prop:=λxs H Q=>∃x p m n t b,xs=[x,.ref p]/\H p=some (.tup [.ty m,.ty n])/\lF K H x t/\W.kitAny K t [.type m,.type n]=some b/\Q (.bl b) H
theorem qfV (hK:X.K=K):cj X (.builtin "isinstance") (qcn K):=by subst hK;exact Ul
theorem cI (hK:X.K=K) {es:List Expr} {k:Nat} {pos:Pos} {t:K6} {n:Nat} (hc:X.calm=true) (h:fP X es t)
    (hn:(assignEach es X.env).length=n:=by rfl) (hst:(assignEach es X.env).findIdx? (·.1)=none:=by rfl):PG X (.Tuple es k pos) (qag K n t):=by subst hK;exact qc9 hc h hn hst
theorem bB (hK:X.K=K) {tg l:Expr} {tl:TE} (hl:PE X l tl):PI X tg l (Rv K tl):=by subst hK;exact qah hl
theorem qaB (hK:X.K=K) {tg l:Expr} {tl:TE} (hl:PE X l tl):PI X tg l (qdc K tl):=by subst hK;exact qdd hl
theorem Jk (hK:X.K=K) {e:Expr} {ta:TE} {f:Str} {pos:Pos} (he:PE X e ta) (hb:attributeBase e f X.env (eval e X.env)=eval e X.env):PE X (.Attribute e f pos) (qap K ta f):=by subst hK;exact qdr he hb
theorem mR (hK:X.K=K) {o e:Expr} {es:List Expr} {to:TE} {t:TA} {name:Str} {apos cpos:Pos} {T id:String} {r:V->List V->Hp->VK->Prop} (pa:PlainAttrs T) (slot:Slot T name id) (hty:typeOf (.builtin id)=pure (.type "method_descriptor")) (hm:Pg X id r) (ho:PE X o to) (ha:PA X (e::es) t)
    (hbase:attributeBase o name X.env (eval o X.env)=eval o X.env:=by rfl)
    (hfew:((backTo cpos (starEach (e::es) X.env)).all (λx=>!x.1) && (backToKw cpos (keywordEach [] X.env)).all (λx=>x.1.isSome)
      && decide ((e::es).length+([]:List Keyword).length+(if ([]:List Keyword).isEmpty then 0 else 1)<30))=true:=by rfl)
    (hline:(apos.endLine == cpos.line)=true:=by rfl) (hs:starEach (e::es) X.env=(false,eval e X.env)::starEach es X.env:=by rfl) (hplain:(backTo cpos (starEach es X.env)).any (·.1)=false:=by rfl) :
    PE X (.Call (.Attribute o name apos) (e::es) [] cpos) (tBM K T r to t):=by subst hK;exact qfI pa slot hty hm ho ha hbase hfew hline hs hplain
theorem gR:bootBuiltins "all" = some (.builtin "all"):=by decide+kernel
theorem boot_max:bootBuiltins "max" = some (.builtin "max"):=by decide+kernel
theorem boot_min:bootBuiltins "min" = some (.builtin "min"):=by decide+kernel
theorem boot_abs:bootBuiltins "abs" = some (.builtin "abs"):=by decide+kernel
theorem boot_divmod:bootBuiltins "divmod" = some (.builtin "divmod"):=by decide+kernel
end
structure Nm (mg:Str->Option Value):Prop where
  len:mg "len" = none
  max:mg "max" = none
  min:mg "min" = none
  abs:mg "abs" = none
  divmod:mg "divmod" = none
  range:mg "range" = none
  zip:mg "zip" = none
  list:mg "list" = none
  tuple:mg "tuple" = none
  int:mg "int" = none
  str:mg "str" = none
  set:mg "set" = none
  all:mg "all" = none
  isinstance:mg "isinstance" = none
section
variable {K:W.Frag} {own:List Str} {caps:List Nat} {g:TG} {tt:TT} {te:TE} {D:Addr} {σ:St} {H:Hp} {Q:Hp->Prop}
abbrev Hf (g:TG) (tt:TT) (te:TE) (D:Addr) (N:St->Hp->Prop) (x:V) (σ:St) (H:Hp):Prop:=
  g x σ H λσ2 H3=>tt σ2 H3 λb H4=>if b=true then te σ2 H4 λy H5=>∃ys,H5 D=some (.lst ys)/\ys.length<sizeLine/\N σ2 (upd H5 D (.lst (ys++[y]))) else N σ2 H4
theorem Hg {l:Addr} {xs:List V} (Pv:Nat->St->Hp->Prop) (h0:Pv 0 (stC own caps σ) H) (hl:∀i σ H,i<=xs.length->Pv i σ H->aX K H l xs)
    (hs:∀i x σ H,xs[i]? = some x->Pv i σ H->Hf g tt te D (Pv (i+1)) x σ H) (hd:∀σ H,Pv xs.length σ H->Q H):lX own caps (V2 K l) g tt te D σ H Q:=by
  refine⟨λi m σ H=>m=xs.length - i/\i<=xs.length/\Pv i σ H,⟨xs.length,by simp,qmK _,h0⟩,?_⟩;rintro i m σ H ⟨rfl,hi,p⟩;have q:=hl i σ H hi p
  by_cases hlt:i<xs.length
  ·refine .inr ⟨⟨xs,xs[i],q,by simp[hlt]⟩,Pv (i+1),λσ' H' p'=>⟨xs.length - (i+1),by omega,rfl,hlt,p'⟩,λx H' y=>?_⟩;obtain⟨e,y⟩:=y;subst e;exact hs i x σ _ (y xs q) p
  . have e:i=xs.length:=by omega
    subst e;exact .inl ⟨⟨xs,q,qlY _⟩,hd σ H p⟩
theorem W8 {l:Addr} {xs:List V} (Pv:Nat->St->Hp->Prop) (h0:Pv 0 (stC own caps σ) H) (hl:∀i σ H,i<=xs.length->Pv i σ H->dO K H l xs)
    (hs:∀i x σ H,xs[i]? = some x->Pv i σ H->Hf g tt te D (Pv (i+1)) x σ H) (hd:∀σ H,Pv xs.length σ H->Q H):lX own caps (Itt K l) g tt te D σ H Q:=by
  refine⟨λi m σ H=>m=xs.length - i/\i<=xs.length/\Pv i σ H,⟨xs.length,by simp,qmK _,h0⟩,?_⟩;rintro i m σ H ⟨rfl,hi,p⟩;have q:=hl i σ H hi p
  by_cases hlt:i<xs.length
  ·refine .inr ⟨⟨xs,xs[i],q,by simp[hlt]⟩,Pv (i+1),λσ' H' p'=>⟨xs.length - (i+1),by omega,rfl,hlt,p'⟩,λx H' y=>?_⟩;obtain⟨e,y⟩:=y;subst e;exact hs i x σ _ (y xs q) p
  . have e:i=xs.length:=by omega
    subst e;exact .inl ⟨⟨xs,q,qlY _⟩,hd σ H p⟩
theorem PB {lo:Int} {n:Nat} (Pv:Nat->St->Hp->Prop) (h0:Pv 0 (stC own caps σ) H)
    (hs:∀i σ H,i<n->Pv i σ H->Hf g tt te D (Pv (i+1)) (.int (lo+i)) σ H) (hd:∀σ H,Pv n σ H->Q H):lX own caps (Oz lo n) g tt te D σ H Q:=by
  refine⟨λi m σ H=>m=n - i/\i<=n/\Pv i σ H,⟨n,by simp,qmK _,h0⟩,?_⟩;rintro i m σ H ⟨rfl,hi,p⟩
  by_cases hlt:i<n
  ·refine .inr ⟨hlt,Pv (i+1),λσ' H' p'=>⟨n - (i+1),by omega,rfl,hlt,p'⟩,λx H' y=>?_⟩;obtain⟨e,y⟩:=y;subst e y;exact hs i σ _ hlt p
  . have e:i=n:=by omega
    subst e;exact .inl ⟨qlY _,hd σ H p⟩
theorem W9 {z:Str} (Pv:Nat->St->Hp->Prop) (h0:Pv 0 (stC own caps σ) H)
    (hs:∀i c σ H,z.cps[i]? = some c->Pv i σ H->Hf g tt te D (Pv (i+1)) (.str ⟨#[c]⟩) σ H) (hd:∀σ H,Pv z.cps.size σ H->Q H):lX own caps (Its z) g tt te D σ H Q:=by
  refine⟨λi m σ H=>m=z.cps.size - i/\i<=z.cps.size/\Pv i σ H,⟨z.cps.size,by simp,qmK _,h0⟩,?_⟩;rintro i m σ H ⟨rfl,hi,p⟩
  by_cases hlt:i<z.cps.size
  ·refine .inr ⟨hlt,Pv (i+1),λσ' H' p'=>⟨z.cps.size - (i+1),by omega,rfl,hlt,p'⟩,λx H' y=>?_⟩;obtain⟨e,c,hc,rfl⟩:=y;subst e;exact hs i c σ _ hc p
  . have e:i=z.cps.size:=by omega
    subst e;exact .inl ⟨qlY _,hd σ H p⟩
theorem W_ {l1 l2:Addr} {xs ys:List V} (Pv:Nat->St->Hp->Prop) (h0:Pv 0 (stC own caps σ) H) (he:xs.length=ys.length) (hl:∀i σ H,i<=xs.length->Pv i σ H->aX K H l1 xs/\aX K H l2 ys)
    (hs:∀i x y t σ H,xs[i]? = some x->ys[i]? = some y->H t=none->Pv i σ H->Hf g tt te D (Pv (i+1)) (.ref t) σ (upd H t (.tup [x,y]))) (hd:∀σ H,Pv xs.length σ H->Q H):lX own caps (Itz K l1 l2) g tt te D σ H Q:=by
  refine⟨λi m σ H=>m=xs.length - i/\i<=xs.length/\Pv i σ H,⟨xs.length,by simp,qmK _,h0⟩,?_⟩;rintro i m σ H ⟨rfl,hi,p⟩;obtain⟨q1,q2⟩:=hl i σ H hi p
  by_cases hlt:i<xs.length
  . have hlt2:i<ys.length:=by omega
    refine .inr ⟨⟨xs,ys,xs[i],ys[i],q1,q2,by simp[hlt],by simp[hlt2]⟩,Pv (i+1),λσ' H' p'=>⟨xs.length - (i+1),by omega,rfl,hlt,p'⟩,λx H' y=>?_⟩;obtain⟨t,u,v,rfl,ht,rfl,e1,e2⟩:=y;exact hs i u v t σ H (e1 xs q1) (e2 ys q2) ht p
  . have e:i=xs.length:=by omega
    subst e;exact .inl ⟨⟨xs,ys,q1,q2,.inl (qlY _)⟩,hd σ H p⟩
end
def LK (b:Bool) (K:W.Frag) (H:Hp) (p:Addr) (xs:List V):Prop:=match b with | true=>aX K H p xs | false=>dO K H p xs
def Itq (b:Bool) (K:W.Frag) (p:Addr):It:=match b with | true=>V2 K p | false=>Itt K p
def qdI (K:W.Frag) (tl:TE):TI:=λσ H R=>tl σ H λx H1=>∃b p,x = .ref p/\(∃xs,LK b K H1 p xs)/\R (Itq b K p) H1
theorem nG {X:Cx} {K:W.Frag} (hK:X.K=K) {tg l:Expr} {tl:TE} (hl:PE X l tl):PI X tg l (qdI K tl):=by
  intro p_ s σ H R I h;refine bY (hl p_ s σ H _ I h) λv s1 zz=>?_;obtain⟨x,H1,I1,r1,q1⟩:=zz;obtain⟨b,p,e,hq,q⟩:=q1;subst e;subst hK;cases b with
  | true=>
    cases r1;obtain⟨xs,hq⟩:=hq;obtain⟨its,rv,pl,hz⟩:=I1.list hq;refine qm0 pl.isList ?_;refine⟨s1.heap.objs.size,[s1.heap.objs.size],_,_,H1,rfl,I1.kept (t':=s1.toks) λb o e=>qlU _ e,GF p _,⟨_,ql0 _ rfl,rfl,rfl⟩,λb hb=>?_,q⟩;have e:b=s1.heap.objs.size:=by simpa using hb
    subst e;exact I1.Ar (qlY _) (I1.hok.fresh (qlY _))
  | false=>
    cases r1;obtain⟨xs,hq⟩:=hq;obtain⟨its,rv,pl,hz⟩:=I1.tuple hq;refine qnt (show s1.heap.IsTuple p its.toArray from pl) ?_;refine⟨s1.heap.objs.size,[s1.heap.objs.size],_,_,H1,rfl,I1.kept (t':=s1.toks) λb o e=>qlU _ e,BZ p _,⟨_,ql0 _ rfl,rfl,rfl⟩,λb hb=>?_,q⟩;have e:b=s1.heap.objs.size:=by simpa using hb
    subst e;exact I1.Ar (qlY _) (I1.hok.fresh (qlY _))
section
variable {K:W.Frag} {own:List Str} {caps:List Nat} {g:TG} {tt:TT} {te:TE} {D:Addr} {σ:St} {H:Hp} {Q:Hp->Prop}
theorem Xa {b:Bool} {l:Addr} {xs:List V} (Pv:Nat->St->Hp->Prop) (h0:Pv 0 (stC own caps σ) H) (hl:∀i σ H,i<=xs.length->Pv i σ H->LK b K H l xs)
    (hs:∀i x σ H,xs[i]? = some x->Pv i σ H->Hf g tt te D (Pv (i+1)) x σ H) (hd:∀σ H,Pv xs.length σ H->Q H):lX own caps (Itq b K l) g tt te D σ H Q:=by
  cases b with
  | true=>exact Hg Pv h0 hl hs hd
  | false=>exact W8 Pv h0 hl hs hd
end
theorem au {H:Hp} {p:Addr} {o:HO} (h:H p=none):Same H (upd H p o):=λb u e=>by rw[aB (aL e h)];exact e
theorem aW {H H':Hp} {p:Addr} {o:HO} (s:Same H H') (h:H p=none):Same H (upd H' p o):=λb u e=>by rw[aB (aL e h)];exact s b u e
def Sq (H:Hp) (p:Addr) (xs:List V):Prop:=H p=some (.lst xs)\/H p=some (.tup xs)
theorem Sq.q {K:W.Frag} {H:Hp} {p:Addr} {xs:List V} (h:Sq H p xs):aX K H p xs\/dO K H p xs:=h.elim (λe=>.inl (aX.of e)) λe=>.inr (dO.of e)
theorem Sq.b {H:Hp} {p:Addr} {xs:List V} (h:Sq H p xs):∃b,∀K H',Same H H'->LK b K H' p xs:=h.elim (λe=>⟨true,λ_ _ s=>aX.of (s _ _ e)⟩) λe=>⟨false,λ_ _ s=>dO.of (s _ _ e)⟩
theorem Sq.same {H H':Hp} {p:Addr} {xs:List V} (h:Sq H p xs) (s:Same H H'):Sq H' p xs:=h.elim (λe=>.inl (s _ _ e)) λe=>.inr (s _ _ e)
theorem Sq.ty {K:W.Frag} {H:Hp} {p:Addr} {xs:List V} (h:Sq H p xs):lF K H (.ref p) (.type "list")\/lF K H (.ref p) (.type "tuple"):=h.elim (λe=>.inl (.lst e)) λe=>.inr (.tup e)
theorem pW {α:Type} (f:α->Bool):∀l:List α,sI (l.map λc=>.bl (f c)) (l.map f)
  | []=>rfl
  | c::l=>⟨f c,l.map f,rfl,rfl,pW f l⟩
theorem PJ {α:Type} (f:α->Bool) (l:List α):(l.map f).all id=l.all f:=by
  rw[List.all_map];rfl
theorem take_one {α:Type} {l:List α} {i:Nat} {x:α} (h:l[i]? = some x):l.take (i+1)=l.take i++[x]:=by
  rw[List.take_succ,h];rfl
def RL:List V->Hp->VK->Prop:=λxs H Q=>∃p ys,xs=[.ref p]/\Sq H p ys/\∀l H',H' l=some (.tup ys)->Same H H'->Q (.ref l) H'
theorem Xb {X:Cx}:cj X (.type "tuple") RL:=by
  intro p_ s σ H xs us Q I r h;obtain⟨p,ys,rfl,hq,q⟩:=h;refine Fq p_ s σ H _ us Q I r ⟨p,ys,rfl,?_⟩
  rcases hq with e | e
  ·exact .inl ⟨aX.of e,λl hl=>q l _ ak (au hl)⟩
  ·exact .inr ⟨dO.of e,q p H e (Same.refl H)⟩
def qdJ (J:It) (g:TG) (tb:TS):TS:=λD σ H=>∃g8:Nat->Nat->St->Hp->Prop,(∃m,g8 0 m σ H)/\∀i m σ H,g8 i m σ H->
      (J.stop i H/\D.nx σ H)\/(J.go i H/\∃N:St->Hp->Prop,(∀σ' H',N σ' H'->∃m',m'<m/\g8 (i+1) m' σ' H')/\∀x H',J.Wj i H x H'->g x σ H' λσ2 H2=>tb {D with nx:=N,ct:=N,bk:=D.nx} σ2 H2)
theorem bV {H:Hp} {b p:Addr} {o u:HO} (h:H b=some o) (n:H p=none):upd H p u b=some o:=by rw[aB (aL h n)];exact h
theorem wN {H:Hp} {b p:Addr} {o o' u:HO} (h:H b=some o) (n:H p=some o') (d:o≠o'):upd H p u b=some o:=by
  rw[aB (λe=>d (by subst e;rw[h] at n;exact qmp n))];exact h
theorem cg {H H':Hp} {b:Addr} (s:Same H H') (h:H' b=none):H b=none:=by
  cases e:H b with
  | none=>rfl
  | some o=>rw[s b o e] at h;cases h
def But (p:Addr) (H H':Hp):Prop:=∀b o,b≠p->H b=some o->H' b=some o
theorem But.refl (p:Addr) (H:Hp):But p H H:=λ_ _ _ e=>e
theorem But.trans {p:Addr} {H H1 H2:Hp} (x:But p H H1) (y:But p H1 H2):But p H H2:=λb o hb e=>y b o hb (x b o hb e)
theorem But.new {p q:Addr} {H H':Hp} {u:HO} (x:But p H H') (h:H q=none):But p H (upd H' q u):=λb o hb e=>by
  rw[aB (aL e h)];exact x b o hb e
theorem But.of {p:Addr} {H H':Hp} (x:Same H H'):But p H H':=λb o _ e=>x b o e
theorem But.same {p:Addr} {H H1 H2:Hp} (x:But p H H1) (y:Same H1 H2):But p H H2:=λb o hb e=>y b o (x b o hb e)
theorem But.none {p b:Addr} {H H':Hp} {u:HO} (x:But p H H') (hp:H' p=some u) (h:H' b = .none):H b = .none:=by
  cases e:H b with
  | none=>rfl
  | some o=>
    have hb:b≠p:=λz=>by subst z;rw[hp] at h;cases h
    rw[x b o hb e] at h;cases h
theorem RM {α:Type} {xs:List α} {i:Int} (h0:0<=i) (h1:i<xs.length):∃v,xs[i.toNat]? = some v/\Fl xs i=some v:=by
  obtain⟨j,rfl⟩:∃j:Nat,i=j:=⟨i.toNat,by omega⟩;have hj:j<xs.length:=by omega
  exact⟨xs[j],by simp[hj],bH (by simp[hj])⟩
theorem qdK {d e n:Int} (h0:0<=d) (h1:d<n) (h2:0<=e) (h3:e<n - 1):0<=(d+1+e) % n/\(d+1+e) % n<n/\(d+1+e) % n≠d:=by
  refine⟨Int.emod_nonneg _ (by omega),Int.emod_lt_of_pos _ (by omega),?_⟩
  by_cases h:d+1+e<n
  ·rw[Int.emod_eq_of_lt (by omega) h];omega
  . have z:d+1+e=(d+1+e - n)+n * 1:=by omega
    rw[z,Int.add_mul_emod_self_left,Int.emod_eq_of_lt (by omega) (by omega)];omega
theorem iQ {xs:List Str} {i:Nat} {x:V} (h:(xs.map V.str)[i]? = some x):∃z,xs[i]? = some z/\x = .str z:=by
  rw[qmc] at h;cases e:xs[i]? with
  | none=>rw[e] at h;cases h
  | some z=>rw[e] at h;exact⟨z,rfl,(qmp h).symm⟩
theorem Cj {α:Type} {xs:List α} (h:xs.Nodup) {i j:Nat} {x:α} (hi:xs[i]? = some x) (hj:xs[j]? = some x):i=j:=by
  obtain⟨h1,e1⟩:=qlT.mp hi;obtain⟨h2,e2⟩:=qlT.mp hj;exact(List.getElem_inj h).mp (e1.trans e2.symm)
def isL (c:Nat):Bool:=!(Builtin.Str.occurrences ("abcdefghijklmnopqrstuvwxyz" : Str) ⟨#[c]⟩ 0 ("abcdefghijklmnopqrstuvwxyz" : Str).length 1).isEmpty
def nameB (x:Str):Bool:=decide (1<=x.length) && decide (x.length<=4) && x.cps.toList.all isL
theorem Xc:∀n<26,isL (97+n)=true:=by decide+kernel
theorem PK:∀n:Nat,n<26->Fl (Str.ofString "abcdefghijklmnopqrstuvwxyz").cps.toList (n:Int)=some (97+n):=by decide+kernel
theorem zU:(Str.ofString "abcdefghijklmnopqrstuvwxyz").length<=sizeLine:=by decide+kernel
theorem sJ {i:Int} (h0:0<=i) (h1:i<26):∃n:Nat,i=n/\n<26/\Fl (Str.ofString "abcdefghijklmnopqrstuvwxyz").cps.toList i=some (97+n):=
  ⟨i.toNat,by omega,by omega,by
    obtain⟨n,rfl⟩:∃n:Nat,i=n:=⟨i.toNat,by omega⟩;exact PK n (by omega)⟩
structure qu (c:Nat) (k:Nat) (x:Str):Prop where
  len:x.length=k
  fst:x.cps[0]? = some c
  all:x.cps.toList.all isL=true
theorem qu.one {n:Nat} (h:n<26):qu (97+n) 1 ⟨#[97+n]⟩:=⟨rfl,rfl,by simp[Xc n h]⟩
theorem qu.name {c k:Nat} {x:Str} (h:qu c k x) (h1:1<=k) (h4:k<=4):nameB x=true:=by
  unfold nameB;rw[h.len,h.all];simp;omega
section
variable {κ:Type} [DecidableEq κ]
def kh (kvs:List (κ×V)) (k:κ):Option V:=(kvs.find? λkv=>decide (kv.1=k)).map (·.2)
def putK (kvs:List (κ×V)) (k:κ) (v:V):List (κ×V):=
  if (kvs.any λkv=>decide (kv.1=k))=true then kvs.map (λkv=>if kv.1=k then (kv.1,v) else kv) else kvs++[(k,v)]
theorem wO {p:κ×V} {r:List (κ×V)} {k:κ} (e:p.1=k):kh (p::r) k=some p.2:=by simp[kh,qn4,e]
theorem wQ {p:κ×V} {r:List (κ×V)} {k:κ} (e:¬p.1=k):kh (p::r) k=kh r k:=by simp[kh,qn4,e]
theorem Ck (k:κ):∀kvs:List (κ×V),(kvs.any λkv=>decide (kv.1=k))=(kh kvs k).isSome
  | []=>rfl
  | p::r=>by
    rw[qnR]
    by_cases e:p.1=k
    ·simp only[wO e,qmz e,Bool.true_or,Option.isSome_some]
    ·rw[wQ e,qmA e,Bool.false_or];exact Ck k r
theorem sO (kvs:List (κ×V)) (k:κ) (v:V):(putK kvs k v).length<=kvs.length+1:=by
  unfold putK;split
  ·rw[ql2];omega
  ·rw[qmb,qml,List.length_nil];omega
theorem Xd {kvs:List (κ×V)} {k:κ} (v:V) (h:kh kvs k=none):putK kvs k v=kvs++[(k,v)]:=by
  unfold putK;rw[Ck,h];exact if_neg (by decide)
theorem mO.pX {o:Option V} {u:Option Value} (r:mO o u):o.isSome=u.isSome:=by
  cases o with
  | none=>cases u with
    | none=>rfl
    | some _=>exact(show False from r).elim
  | some _=>cases u with
    | none=>exact(show False from r).elim
    | some _=>rfl
theorem mO.getD {o:Option V} {u:Option Value} {d:V} {d':Value} (r:mO o u) (rd:RelV d d'):RelV (o.getD d) (u.getD d'):=by
  cases o with
  | none=>cases u with
    | none=>exact rd
    | some _=>exact(show False from r).elim
  | some _=>cases u with
    | none=>exact(show False from r).elim
    | some _=>exact r
theorem KV.val {kvs:List (κ×V)} {vs:List (κ×Value)} (r:KV kvs vs) (k:κ):mO (kh kvs k) (valueAt vs k):=by
  unfold KV at r
  induction r with
  | nil=>exact True.intro
  | @cons p q ps qs h t ih=>
    obtain⟨h1,h2⟩:=h
    by_cases e:p.1=k
    . have e':q.1=k:=h1.symm.trans e;have b:valueAt (q::qs) k=some q.2:=by simp[valueAt,qn4,e']
      rw[wO e,b];exact h2
    . have e':¬q.1=k:=λz=>e (h1.trans z);have b:valueAt (q::qs) k=valueAt qs k:=by simp[valueAt,qn4,e']
      rw[wQ e,b];exact ih
theorem KV.any {kvs:List (κ×V)} {vs:List (κ×Value)} (r:KV kvs vs) (k:κ):(kvs.any λkv=>decide (kv.1=k))=vs.any λkv=>decide (kv.1=k):=by
  unfold KV at r
  induction r with
  | nil=>rfl
  | cons h t ih=>rw[qnR,qnR,ih,h.1]
theorem KV.repl {kvs:List (κ×V)} {vs:List (κ×Value)} (r:KV kvs vs) (k:κ) {y:V} {u:Value} (ry:RelV y u) :
    KV (kvs.map λkv=>if kv.1=k then (kv.1,y) else kv) (vs.map λkv=>if kv.1=k then (kv.1,u) else kv):=by
  unfold KV at r ⊢
  induction r with
  | nil=>exact .nil
  | @cons p q ps qs h t ih=>
    rw[qmj,qmj];refine .cons ?_ ih;obtain⟨h1,h2⟩:=h
    by_cases e:p.1=k
    ·rw[if_pos e,if_pos (h1.symm.trans e)];exact⟨h1,ry⟩
    ·rw[if_neg e,if_neg (λz=>e (h1.trans z))];exact⟨h1,h2⟩
theorem KV.put {kvs:List (κ×V)} {vs:List (κ×Value)} (r:KV kvs vs) (k:κ) {y:V} {u:Value} (ry:RelV y u):KV (putK kvs k y) (stored vs k u):=by
  unfold putK stored;rw[r.any k]
  by_cases e:(vs.any λkv=>decide (kv.1=k))=true
  ·rw[if_pos e,if_pos e];exact r.repl k ry
  ·rw[if_neg e,if_neg e];exact Paired.snoc r ⟨rfl,ry⟩
theorem KV.length {kvs:List (κ×V)} {vs:List (κ×Value)} (r:KV kvs vs):kvs.length=vs.length:=Paired.length r
end
theorem Cm {P:Program} {w:World} {k:Key} {u:Value} (r:RelV (kV k) u):(bJ P w).is k u=true:=by
  cases k with
  | inl i=>obtain⟨t,e⟩:=(show ∃t,u=Value.int i t from r);subst e;exact zN P w i t
  | inr x=>obtain⟨t,e⟩:=(show ∃t,u=Value.str x t from r);subst e;exact Lb P w x t
theorem Hh {P:Program} {w:World}:∀{ks:List Key} {us:List Value},Vals (ks.map kV) us->ItemsAre (bJ P w) ks us
  | [],_,r=>by rw[List.map_nil] at r;cases r;exact .nil
  | k::ks,_,r=>by
    rw[qmj] at r;cases r with
    | cons h t=>exact .cons (Cm h) (Hh t)
abbrev KT (H:Hp):List (List Key×V)->List (List Key×Addr×Value)->Prop:=Paired λp q=>p.1=q.1/\H q.2.1=some (.tup (p.1.map kV))/\RelV p.2 q.2.2
theorem KT.val {H:Hp} {kvs:List (List Key×V)} {xs:List (List Key×Addr×Value)} (r:KT H kvs xs) (k:List Key):mO (kh kvs k) ((atKey xs k).map (·.2)):=by
  induction r with
  | nil=>exact True.intro
  | @cons p q ps qs h t ih=>
    obtain⟨h1,_,h2⟩:=h
    by_cases e:p.1=k
    . have e':q.1=k:=h1.symm.trans e;have b:atKey (q::qs) k=some q.2:=by simp[atKey,qn4,e']
      rw[wO e,b];exact h2
    . have e':¬q.1=k:=λz=>e (h1.trans z);have b:atKey (q::qs) k=atKey qs k:=by simp[atKey,qn4,e']
      rw[wQ e,b];exact ih
theorem KT.repl {H:Hp} {kvs:List (List Key×V)} {xs:List (List Key×Addr×Value)} (r:KT H kvs xs) (k:List Key) {y:V} {u:Value} (ry:RelV y u) :
    KT H (kvs.map λkv=>if kv.1=k then (kv.1,y) else kv) (xs.map (putAt k u)):=by
  induction r with
  | nil=>exact .nil
  | @cons p q ps qs h t ih=>
    rw[qmj,qmj];refine .cons ?_ ih;obtain⟨h1,h2,h3⟩:=h;unfold putAt
    by_cases e:p.1=k
    ·rw[if_pos e,if_pos (h1.symm.trans e)];exact⟨h1,h2,ry⟩
    ·rw[if_neg e,if_neg (λz=>e (h1.trans z))];exact⟨h1,h2,h3⟩
theorem KT.put {H:Hp} {kvs:List (List Key×V)} {xs:List (List Key×Addr×Value)} (r:KT H kvs xs) (k:List Key) {b:Addr} {y:V} {u:Value} (hb:H b=some (.tup (k.map kV))) (ry:RelV y u) :
    KT H (putK kvs k y) (storedH xs k b u):=by
  have e:(kvs.any λkv=>decide (kv.1=k))=(atKey xs k).isSome:=by
    rw[Ck,(r.val k).pX,Option.isSome_map]
  unfold putK storedH;rw[e]
  by_cases q:(atKey xs k).isSome=true
  ·rw[if_pos q,if_pos q];exact r.repl k ry
  ·rw[if_neg q,if_neg q];exact Paired.snoc r ⟨rfl,hb,ry⟩
theorem KT.keeps {H H':Hp} {kvs:List (List Key×V)} {xs:List (List Key×Addr×Value)} (r:KT H kvs xs) (ht:∀b ys,H b=some (.tup ys)->H' b=some (.tup ys)):KT H' kvs xs:=
  Paired.qc2 r λ_ _ z=>⟨z.1,ht _ _ z.2.1,z.2.2⟩
section
variable {P:Program} {w:World} {H:Hp} {h:Heap} {a:Addr}
theorem qco {u:HO} (ok:rW P w H h) (e:Rd H a u):bZ P w H h a u:=e.ok ok
theorem Cp {kvs:List (Key×V)} (ok:rW P w H h) (e:Rd H a (.dK kvs)):kvs.length<=sizeLine/\(a == sysModules)=false/\∃vs,KV kvs vs/\h.DictOf (bJ P w) a vs:=
  show bZ P w H h a (.dK kvs) from qco ok e
theorem Xe {kvs:List (Key×V)} (ok:rW P w H h) (e:H a=some (.dK kvs)):kvs.length<=sizeLine/\(a == sysModules)=false/\∃vs,KV kvs vs/\h.DictOf (bJ P w) a vs:=Cp ok (.inl e)
theorem yV {ks:List Key} (ok:rW P w H h) (e:H a=some (.tup (ks.map kV))):(tupleKind (bJ P w)).is h ks a:=by
  obtain⟨_,its,r,o,h1,h2,n,h3⟩:=(show bZ P w H h a (.tup (ks.map kV)) from ok a _ e);exact⟨o,its.toArray,n,h1,h2,h3,by simpa using Hh r⟩
theorem Cq {kvs:List (List Key×V)} (ok:rW P w H h) (e:Rd H a (.dT kvs)):kvs.length<=sizeLine/\(a == sysModules)=false/\
    ∃xs,KT H kvs xs/\h.DictOfH (tupleKind (bJ P w)) a xs:=by
  obtain⟨z,y,xs,r,o,es,ep,h1,h2,h3,h4,h5⟩:=(show bZ P w H h a (.dT kvs) from qco ok e);refine⟨z,y,xs,r,o,es,ep,h1,h2,h3,h4,λx hx=>?_,h5⟩;have all:∀{l:List (List Key×V)} {m:List (List Key×Addr×Value)},KT H l m->∀x∈m,(tupleKind (bJ P w)).is h x.1 x.2.1:=by
    intro l m q
    induction q with
    | nil=>intro x hx;exact nomatch hx
    | @cons p q ps qs hq t ih=>
      intro x hx
      rcases ql1.mp hx with e | hx
      ·subst e;exact yV ok (by rw[<- hq.1];exact hq.2.1)
      ·exact ih x hx
  exact all r x hx
theorem qfW {kvs:List (List Key×V)} (ok:rW P w H h) (e:H a=some (.dT kvs)):kvs.length<=sizeLine/\(a == sysModules)=false/\
    ∃xs,KT H kvs xs/\h.DictOfH (tupleKind (bJ P w)) a xs:=Cq ok (.inl e)
end
def jk (H:Hp) (a:Addr) (y:V) (r:Option V):Prop:=
  (∃kvs k,Rd H a (.dK kvs)/\y=kV k/\r=kh kvs k)\/∃kvs k b,Rd H a (.dT kvs)/\y = .ref b/\H b=some (.tup (k.map kV))/\r=kh kvs k
def Jl (H:Hp) (a:Addr) (y v:V) (H':Hp):Prop:=
  (∃kvs k,H a=some (.dK kvs)/\y=kV k/\kvs.length<sizeLine/\H'=upd H a (.dK (putK kvs k v)))\/
  ∃kvs k b,H a=some (.dT kvs)/\y = .ref b/\H b=some (.tup (k.map kV))/\kvs.length<sizeLine/\H'=upd H a (.dT (putK kvs k v))
theorem jk.k {H:Hp} {a:Addr} {kvs:List (Key×V)} {k:Key} (e:H a=some (.dK kvs)):jk H a (kV k) (kh kvs k):=.inl ⟨kvs,k,.inl e,rfl,rfl⟩
theorem Jl.k {H:Hp} {a:Addr} {kvs:List (Key×V)} {k:Key} {v:V} (e:H a=some (.dK kvs)) (hl:kvs.length<sizeLine):Jl H a (kV k) v (upd H a (.dK (putK kvs k v))):=.inl ⟨kvs,k,e,rfl,hl,rfl⟩
section
variable {X:Cx} {p_:List (Addr×Obj)} {σ:St} {H:Hp} {s:Shared} {a:Addr} {y v:V} {u r:Value} {o:Option V} {A:Around} {E:Value->Shared->Prop}
theorem Inv.big (I:Inv X p_ σ H s):sysModules<s.heap.objs.size:=by
  have h:mainGlobals<s.heap.objs.size:=(I.mod.glob.keeps I.bk).lt;exact Nat.lt_trans (by decide) h
theorem Ur {Q:Value->Shared->Prop} (hu:A.units+1<cLine) (I:Inv X p_ σ H s) (g:jk H a y (some v)) (ry:RelV y u) (h:∀w' s',Inv X p_ σ H s'->RelV v w'->Q w' s') :
    wpAny (model X.prog X.w) A (getItem (.ref a) u) Q E s:=by
  rcases g with⟨kvs,k,e,ey,l⟩ | ⟨kvs,k,b,e,ey,eb,l⟩
  ·subst ey;obtain⟨z,hd,vs,rel,dd⟩:=Cp I.hok e;obtain⟨w',hw,WY⟩:=mO.some_of (v:=v) (o:=valueAt vs k) (by rw[l];exact rel.val k);exact wpAny_getItem_of (Cm ry) dd.mapOf hw (h w' _ (I.tok _) WY)
  . subst ey;cases (show u=Value.ref b from ry);obtain⟨z,hd,xs,rel,dd⟩:=Cq I.hok e;obtain⟨w',hw,WY⟩:=mO.some_of (v:=v) (o:=(atKey xs k).map (·.2)) (by rw[l];exact rel.val k);obtain⟨p,hp,hp2⟩:=Option.map_eq_some_iff.mp hw;refine wpAny_getItem_heap (qn0 hu) (yV I.hok eb) dd hp ?_;rw[hp2];exact h w' _ (I.tok _) WY
theorem qjr {Q:Value->Shared->Prop} (hu:A.units+1<cLine) (I:Inv X p_ σ H s) (g:jk H a y o) (ry:RelV y u) (h:∀s',Inv X p_ σ H s'->Q (.bool o.isSome) s') :
    wpAny (model X.prog X.w) A (compareOp .In u (.ref a)) Q E s:=by
  rcases g with⟨kvs,k,e,ey,l⟩ | ⟨kvs,k,b,e,ey,eb,l⟩
  ·subst ey;obtain⟨z,hd,vs,rel,dd⟩:=Cp I.hok e;refine wpAny_in_of (Cm ry) hd dd.mapOf ?_;rw[<- (rel.val k).pX,<- l];exact h _ (I.tok _)
  ·subst ey;cases (show u=Value.ref b from ry);obtain⟨z,hd,xs,rel,dd⟩:=Cq I.hok e;refine wpAny_in_heap (qn0 hu) (yV I.hok eb) hd dd ?_;have q:=(rel.val k).pX;rw[Option.isSome_map] at q;rw[<- q,<- l];exact h _ (I.tok _)
theorem qaC {Q:Value->Shared->Prop} (hu:A.units+1<cLine) (I:Inv X p_ σ H s) (g:jk H a y o) (ry:RelV y u) (h:∀s',Inv X p_ σ H s'->Q (.bool (!o.isSome)) s') :
    wpAny (model X.prog X.w) A (compareOp .NotIn u (.ref a)) Q E s:=by
  rcases g with⟨kvs,k,e,ey,l⟩ | ⟨kvs,k,b,e,ey,eb,l⟩
  ·subst ey;obtain⟨z,hd,vs,rel,dd⟩:=Cp I.hok e;refine wpAny_notIn_of (Cm ry) hd dd.mapOf ?_;rw[<- (rel.val k).pX,<- l];exact h _ (I.tok _)
  ·subst ey;cases (show u=Value.ref b from ry);obtain⟨z,hd,xs,rel,dd⟩:=Cq I.hok e;refine wpAny_notIn_heap (qn0 hu) (yV I.hok eb) hd dd ?_;have q:=(rel.val k).pX;rw[Option.isSome_map] at q;rw[<- q,<- l];exact h _ (I.tok _)
theorem Jm {h':Heap} {t':Nat} {ob:HO} (I:Inv X p_ σ H s) (mu:Mut (H a)) (hs:Heap.SameBut a s.heap h') (he:∃q,h'.get? a=some q) (new:bZ X.prog X.w (upd H a ob) h' a ob) :
    Inv X p_ σ (upd H a ob) {s with heap:=h',toks:=t'}:=
  I.write (x:=a) (e:=a) mu (.inl rfl) (λb q hb z=>(hs.2 b hb).trans z) he new
theorem Xf {P:Program} {w:World} {H':Hp} {h':Heap} {kvs:List (Key×V)} {vs:List (Key×Value)} (z:kvs.length<=sizeLine) (hd:(a == sysModules)=false) (rel:KV kvs vs) (dd:h'.DictOf (bJ P w) a vs) :
    bZ P w H' h' a (.dK kvs):=⟨z,hd,vs,rel,dd⟩
theorem Us {H':Hp} {Q:Unit->Shared->Prop} (hu:A.units+1<cLine) (I:Inv X p_ σ H s) (g:Jl H a y v H') (ry:RelV y u) (rv:RelV v r) (h:∀s',Inv X p_ σ H' s'->Q () s') :
    wpAny (model X.prog X.w) A (setItem (.ref a) u r) Q E s:=by
  rcases g with⟨kvs,k,e,ey,l,eH⟩ | ⟨kvs,k,b,e,ey,eb,l,eH⟩
  . subst ey eH;obtain⟨z,hd,vs,rel,dd⟩:=Xe I.hok e;have hz:vs.length<=sizeLine:=by rw[<- rel.length];exact z
    have hl:(putK kvs k v).length<=sizeLine:=by have:=sO kvs k v;omega
    refine wpAny_setItem_pairs (hsz:=hz) (Cm ry) dd λh' dd' hs=>h _ ?_;have he:∃q,h'.get? a=some q:=let ⟨q,_,_,hq,_⟩:=dd';⟨q,hq⟩;exact Jm I (by rw[e];exact True.intro) hs he (Xf hl hd (rel.put k rv) dd')
  . subst ey eH;cases (show u=Value.ref b from ry);obtain⟨z,hd,xs,rel,dd⟩:=qfW I.hok e;have hz:xs.length<=sizeLine:=by rw[<- Paired.length rel];exact z
    have hl:(putK kvs k v).length<=sizeLine:=by have:=sO kvs k v;omega
    refine wpAny_setItem_heap (hsz:=hz) (qn0 hu) (yV I.hok eb) dd λh' dd' hs=>h _ ?_;obtain⟨q,es,ep,hq,h2,h3,h4,_,h5⟩:=dd';refine Jm I (by rw[e];exact True.intro) hs ⟨q,hq⟩ ⟨hl,hd,_,(rel.put k eb rv).keeps λc ys ec=>?_,q,es,ep,hq,h2,h3,h4,h5⟩;rw[aB (jg ec e (λz=>nomatch z))];exact ec
end
def qfX (i:Expr):Prop:=∀ov iv,subscripted i false ov iv=operate [ov,iv] (getItem ov iv)
theorem qaD {prog:Program} {w:World} {A:Around} {E:Value->Shared->Prop} {s:Shared} {env:Env} {value slice:Expr} {pos:Pos} {T id:String} {Q:Value->Shared->Prop}
    (hl:typeLookup (.type T) "__getitem__" = pure (some (.builtin id))) (hs:qfX slice)
    (h:wpAny (model prog w) A (eval value env) (λo s₁=>wpAny (model prog w) A (eval slice env) (λi s₂=>s₂.TypeIs o T/\wpAny (model prog w) A (getItem o i) Q E s₂) E s₁) E s) :
    wpAny (model prog w) A (eval (.Subscript value slice pos) env) Q E s:=by
  refine Subscript_ (qmt h (λo s₁ h₁=>qmt h₁ (λi s₂ h₂=>?_) λ_ _ x=>x) λ_ _ x=>x);obtain⟨hT,h₂⟩:=h₂;unfold subscriptTail;refine qlS ?_;rw[getitemInPython_of_ne hT.not_modules];refine qlS (wpAny_specialOf hT hl ?_);have fin:wpAny (model prog w) A (subscripted slice false o i) (λr s₃=>wpAny (model prog w) A (letTemporaryGo value o r >>= λ_=>pure r) Q E s₃) E s₂:=by
    rw[hs o i];exact wpAny_operating (qmt h₂ (λr s₃ h₃=>qlS (wpAny_letTemporaryGo (qlV h₃))) λ_ _ x=>x)
  first
    | exact qlV (qlS fin)
    | exact qlS (qlV (qlS fin))
    | exact qlS fin
theorem LQ {X:Cx} {p_:List (Addr×Obj)} {σ:St} {H:Hp} {s:Shared} {a:Addr} {y:V} {o:Option V} (I:Inv X p_ σ H s) (g:jk H a y o):s.TypeIs (.ref a) "dict" :=by
  rcases g with⟨kvs,k,e,_,_⟩ | ⟨kvs,k,b,e,_,_,_⟩
  ·obtain⟨_,_,vs,_,dd⟩:=Cp I.hok e;exact dd.typeIs
  ·obtain⟨_,_,xs,_,dd⟩:=Cq I.hok e;exact dd.typeIs
def Xg (td ty:TE):TE:=λσ H Q=>td σ H λx H1=>ty σ H1 λy H2=>∃a v,x = .ref a/\jk H2 a y (some v)/\Q v H2
def qdL (ty td:TE):TE:=λσ H Q=>ty σ H λy H1=>td σ H1 λx H2=>∃a o,x = .ref a/\jk H2 a y o/\Q (.bl o.isSome) H2
def Jo (ty td:TE):TE:=λσ H Q=>ty σ H λy H1=>td σ H1 λx H2=>∃a o,x = .ref a/\jk H2 a y o/\Q (.bl (!o.isSome)) H2
def Xh (td ty tv:TE):TS:=λD σ H=>tv σ H λv H1=>td σ H1 λx H2=>ty σ H2 λy H3=>∃a H4,x = .ref a/\Jl H3 a y v H4/\D.nx σ H4
section
variable {X:Cx} {o i e value:Expr} {pos pos' tpos:Pos} {td ty tv:TE}
theorem RN (hu:X.A.units+1<cLine) (ho:PE X o td) (hi:PE X i ty) (hs:qfX i):PE X (.Subscript o i pos) (Xg td ty):=by
  intro p_ s σ H Q I h;refine qaD PySem.F.slot_dict_getitem.lookup hs (bY (ho p_ s σ H _ I h) λu s1 ⟨x,H1,I1,rx,q1⟩=>bY (hi p_ s1 σ H1 _ I1 q1) λiv s2 ⟨y,H2,I2,ry,a,v,ex,g,q2⟩=>?_);subst ex;obtain rfl:u=Value.ref a:=rx;exact⟨LQ I2 g,Ur hu I2 g ry λw' s3 I3 WY=>⟨v,H2,I3,WY,q2⟩⟩
theorem qdM (hu:X.A.units+1<cLine) (hi:PE X i ty) (ho:PE X o td):PC X .In i o (qdL ty td):=by
  intro p_ s σ H Q I h;refine bY (hi p_ s σ H _ I h) λiv s1 ⟨y,H1,I1,ry,q1⟩=>bY (ho p_ s1 σ H1 _ I1 q1) λu s2 ⟨x,H2,I2,rx,a,ov,ex,g,q2⟩=>?_;subst ex;obtain rfl:u=Value.ref a:=rx;exact qjr hu I2 g ry λs3 I3=>⟨.bl ov.isSome,H2,I3,rfl,q2⟩
theorem Ut (hu:X.A.units+1<cLine) (hi:PE X i ty) (ho:PE X o td):PC X .NotIn i o (Jo ty td):=by
  intro p_ s σ H Q I h;refine bY (hi p_ s σ H _ I h) λiv s1 ⟨y,H1,I1,ry,q1⟩=>bY (ho p_ s1 σ H1 _ I1 q1) λu s2 ⟨x,H2,I2,rx,a,ov,ex,g,q2⟩=>?_;subst ex;obtain rfl:u=Value.ref a:=rx;exact qaC hu I2 g ry λs3 I3=>⟨.bl (!ov.isSome),H2,I3,rfl,q2⟩
theorem qaE (hu:X.A.units+1<cLine) (ho:PE X o td) (hi:PE X i ty) (hv:PE X value tv) (hs:swapsWith value (some (.Subscript o i pos')) pos.line X.env=pure false) :
    PS X (.Assign [.Subscript o i pos'] value pos) (Xh td ty tv):=by
  intro p_ s σ H D I h;refine wpAny_Assign_Subscript (bY (hv p_ s σ H _ I h) λr s1 ⟨v,H1,I1,rv,q1⟩=>bY (ho p_ s1 σ H1 _ I1 q1) λu s2 ⟨x,H2,I2,rx,q2⟩=>bY (hi p_ s2 σ H2 _ I2 q2) λiv s3 ⟨y,H3,I3,ry,a,H4,ex,g,q3⟩=>?_) hs;subst ex;obtain rfl:u=Value.ref a:=rx;exact Us hu I3 g ry rv λs4 I4=>⟨σ,H4,I4,q3⟩
end
theorem Xi {P:Program} {w:World} {H:Hp} (h:Heap) (hb:sysModules<h.objs.size):bZ P w H (h.push {cls:=.type "dict",data:=.dict #[]}) h.objs.size (.dK []):=
  ⟨qmK _,qnB.mpr (qnx (ql3 hb)),[],.nil,Heap.DictOf.new h⟩
def vD:List (TE×TE)->St->Hp->(List (V×V)->Hp->Prop)->Prop
  | [],_,H,Q=>Q [] H
  | (tk,tv)::r,σ,H,Q=>tk σ H λx H1=>tv σ H1 λy H2=>vD r σ H2 λps H3=>Q ((x,y)::ps) H3
abbrev VV:List (V×V)->List (Value×Value)->Prop:=Paired λp q=>RelV p.1 q.1/\RelV p.2 q.2
def PPs (X:Cx) (pos:Pos) (keys:List (Option Expr)) (values:List Expr) (V4:List (TE×TE)):Prop:=
  ∀(p_:List (Addr×Obj)) (s:Shared) (σ:St) (H:Hp) (Q:List (V×V)->Hp->Prop),Inv X p_ σ H s->vD V4 σ H Q->
    wpAny (model X.prog X.w) X.A (evalPairs (pairTrees keys values X.env pos)) (λvs s'=>∃ps H',Inv X p_ σ H' s'/\VV ps vs/\Q ps H') X.xe s
theorem qaF {X:Cx} {pos:Pos}:PPs X pos [] [] []:=λp_ s σ H Q I h=>pairTrees_nil_walk ⟨[],H,I,.nil,h⟩
theorem Xj {X:Cx} {pos:Pos} {k v:Expr} {ks:List (Option Expr)} {vs:List Expr} {tk tv:TE} {V4:List (TE×TE)} (hk:PE X k tk) (hv:PE X v tv) (hr:PPs X pos ks vs V4) :
    PPs X pos (some k::ks) (v::vs) ((tk,tv)::V4):=λp_ s σ H Q I h=>
  pairTrees_cons_walk (bY (hk p_ s σ H _ I h) λu s1 ⟨x,H1,I1,rx,q1⟩=>bY (hv p_ s1 σ H1 _ I1 q1) λw2 s2 ⟨y,H2,I2,ry,q2⟩=>
    bY (hr p_ s2 σ H2 _ I2 q2) λws s3 ⟨ps,H3,I3,rel,q3⟩=>⟨(x,y)::ps,H3,I3,.cons ⟨rx,ry⟩ rel,q3⟩)
def vG (kvs more:List (Key×V)):List (Key×V):=more.foldl (λacc kv=>putK acc kv.1 kv.2) kvs
theorem KV.merge:∀{more:List (Key×V)} {rs:List (Key×Value)} {kvs:List (Key×V)} {vs:List (Key×Value)},KV more rs->KV kvs vs->KV (vG kvs more) (merged vs rs):=by
  intro more rs kvs vs r;unfold KV at r
  induction r generalizing kvs vs with
  | nil=>intro q;exact q
  | @cons p q ps qs h t ih=>
    intro r0;have e:KV (putK kvs p.1 p.2) (stored vs q.1 q.2):=by
      have:=r0.put p.1 h.2;rw[<- h.1];exact this
    exact ih e
theorem uO:∀(more kvs:List (Key×V)),(vG kvs more).length<=kvs.length+more.length
  | [],kvs=>by show kvs.length<=kvs.length+0;omega
  | p::r,kvs=>by
    have h1:=uO r (putK kvs p.1 p.2);have h2:=sO kvs p.1 p.2;show(vG (putK kvs p.1 p.2) r).length<=_;rw[qml];omega
theorem Cr {P:Program} {w:World}:∀{kvs:List (Key×V)} {ws:List (Value×Value)},VV (kvs.map λkv=>(kV kv.1,kv.2)) ws->∃rs,Carries (bJ P w) ws rs/\KV kvs rs
  | [],_,r=>by rw[List.map_nil] at r;cases r;exact⟨[],True.intro,.nil⟩
  | p::kvs,_,r=>by
    rw[qmj] at r;cases r with
    | @cons a b as bs h t=>
      obtain⟨rs,c,q⟩:=Cr (P:=P) (w:=w) t;obtain⟨b1,b2⟩:=b;exact⟨(p.1,b2)::rs,⟨Cm h.1,rfl,c⟩,.cons ⟨rfl,h.2⟩ q⟩
def qcp (V4:List (TE×TE)):TE:=λσ H Q=>∀p,H p=none->vD V4 σ (upd H p (.dK [])) λps H2=>H2 p=some (.dK [])/\∃kvs:List (Key×V),ps=kvs.map (λkv=>(kV kv.1,kv.2))/\kvs.length<=15/\Q (.ref p) (upd H2 p (.dK (vG [] kvs)))
theorem qaG {X:Cx} {pos:Pos} {keys:List (Option Expr)} {values:List Expr} {V4:List (TE×TE)} (h:PPs X pos keys values V4) (hall:keys.all (·.isSome)=true) (hl:keys.length=values.length) (h0:keys≠[])
    (h15:keys.length<=15):PE X (.Dict keys values pos) (qcp V4):=by
  intro p_ s σ H Q I q;have hn:=I.hok.fresh (qlY s.heap.objs.size);have I1:=I.laid (a:=s.heap.objs.size) (o:=.dK []) (h':=s.heap.push {cls:=.type "dict",data:=.dict #[]}) (t':=s.toks) (λ_ _ q=>qlU _ q) (qlY _) (Xi s.heap I.big);refine wpAny_Dict_walk (knd:=bJ X.prog X.w) hall hl h0 h15 (bY (h p_ _ σ _ _ I1 (q _ hn)) λws s2 zz=>?_);obtain⟨ps,H2,I2,rel,e,kvs,ep,lk,q2⟩:=zz;subst ep;obtain⟨rs,c,rk⟩:=Cr (P:=X.prog) (w:=X.w) rel;obtain⟨z,hd,vs0,r0,dd⟩:=Xe I2.hok e;cases r0;refine⟨rs,c,dd,λh' dd' hs=>⟨.ref s.heap.objs.size,_,?_,rfl,q2⟩⟩;have hz:(vG [] kvs).length<=sizeLine:=by
    have h1:=uO kvs [];rw[List.length_nil] at h1;rw[sizeLine_eq];omega
  have he:∃q,h'.get? s.heap.objs.size=some q:=let ⟨q,_,_,hq,_⟩:=dd';⟨q,hq⟩;exact Jm I2 (by rw[e];exact True.intro) hs he (Xf hz hd (rk.merge .nil) dd')
structure M2 (X:Cx) (o:Expr) (m:Str) (apos:Pos) (e f:Expr) (cpos:Pos):Prop where
  base:attributeBase o m X.env (eval o X.env)=eval o X.env
  few:((backTo cpos (starEach [e,f] X.env)).all (λx=>!x.1) && (backToKw cpos (keywordEach [] X.env)).all (λx=>x.1.isSome)
    && decide (([e,f]:List Expr).length+([]:List Keyword).length+(if ([]:List Keyword).isEmpty then 0 else 1)<30))=true
  line:(apos.endLine == cpos.line)=true
  trees:backTo cpos (starEach [e,f] X.env)=[(false,eval e X.env),(false,eval f X.env)]
def IsD (H:Hp) (a:Addr):Prop:=(∃kvs,Rd H a (.dK kvs))\/∃kvs,Rd H a (.dT kvs)
theorem qdN {X:Cx} {p_:List (Addr×Obj)} {σ:St} {H:Hp} {s:Shared} {a:Addr} (I:Inv X p_ σ H s) (d:IsD H a) :
    s.TypeIs (.ref a) "dict" /\(∀b,Value.ref a = .ref b->∃ob,s.heap.get? b=some ob/\ob.dict=none)/\(a == sysModules)=false:=by
  rcases d with⟨kvs,e⟩ | ⟨kvs,e⟩
  ·obtain⟨_,hd,vs,_,dd⟩:=Cp I.hok e;refine⟨dd.typeIs,λb q=>?_,hd⟩;cases q;obtain⟨ob,_,_,h1,h2,_⟩:=dd;exact⟨ob,h1,h2.2.1⟩
  ·obtain⟨_,hd,xs,_,dd⟩:=Cq I.hok e;refine⟨dd.typeIs,λb q=>?_,hd⟩;cases q;obtain⟨ob,_,_,h1,h2,_⟩:=dd;exact⟨ob,h1,h2.2.1⟩
section
variable {X:Cx} {p_:List (Addr×Obj)} {σ:St} {H:Hp} {s:Shared} {a:Addr} {y d:V} {u r:Value} {o:Option V} {A:Around} {E:Value->Shared->Prop}
theorem qdO {Q:Value->Shared->Prop} (hu:A.units+1<cLine) (I:Inv X p_ σ H s) (g:jk H a y o) (ry:RelV y u) (rd:RelV d r) (h:∀w' s',Inv X p_ σ H s'->RelV (o.getD d) w'->Q w' s') :
    wpAny (model X.prog X.w) A (call (.builtin "dict.get") [.ref a,u,r]) Q E s:=by
  rcases g with⟨kvs,k,e,ey,l⟩ | ⟨kvs,k,b,e,ey,eb,l⟩
  ·subst ey;obtain⟨z,hd,vs,rel,dd⟩:=Cp I.hok e;refine call_meetsIn PySem.F.slot_dict_get dd.typeIs PySem.F.entry_dict_get (PySem.F.args_dict_get_3 _ _ _) (meets_dict_get_default (bJ X.prog X.w) a (Cm ry) hd r) ⟨_,dd.mapOf,h _ _ (I.tok _) ?_⟩;rw[l];exact(rel.val k).getD rd
  ·subst ey;cases (show u=Value.ref b from ry);obtain⟨z,hd,xs,rel,dd⟩:=Cq I.hok e;refine call_meetsIn PySem.F.slot_dict_get dd.typeIs PySem.F.entry_dict_get (PySem.F.args_dict_get_3 _ _ _) (meetsH_dict_get_default (tupleKind (bJ X.prog X.w)) a b hd r) ⟨qn0 hu,k,xs,yV I.hok eb,dd,h _ _ (I.tok _) ?_⟩;rw[l];exact(rel.val k).getD rd
end
def PN (td ty tx:TE):TE:=λσ H Q=>td σ H λx H1=>∃a,x = .ref a/\IsD H1 a/\ty σ H1 λy H2=>tx σ H2 λz H3=>∃o,jk H3 a y o/\Q (o.getD z) H3
section
variable {X:Cx} {o e f:Expr} {apos cpos:Pos} {td ty tx:TE}
theorem LR (hu:X.A.units+1<cLine) (ho:PE X o td) (he:PE X e ty) (hf:PE X f tx) (m:M2 X o "get" apos e f cpos):PE X (.Call (.Attribute o "get" apos) [e,f] [] cpos) (PN td ty tx):=by
  intro p_ s σ H Q I h;refine wpAny_Call_method m.base m.few m.line PySem.F.plainAttrs_dict PySem.F.slot_dict_get PySem.F.type_dict_get (bY (ho p_ s σ H _ I h) λu s1 zz=>?_);obtain⟨x,H1,I1,rx,a,ex,d,q1⟩:=zz;subst ex;obtain rfl:u=Value.ref a:=rx;obtain⟨t1,t2,_⟩:=qdN I1 d;refine⟨t1,t2,?_⟩;rw[m.trees];refine Calls.callWith_builtin rfl (Calls.evalArgs_plain (qnY (bY (he p_ s1 σ H1 _ I1 q1) λiv s2 ⟨y,H2,I2,ry,q2⟩=>
    qnY (bY (hf p_ s2 σ H2 _ I2 q2) λfv s3 ⟨z,H3,I3,rz,ov,g,q3⟩=>Calls.spliced_nil ?_))))
  exact qdO hu I3 g ry rz λw' s4 I4 WY=>⟨_,H3,I4,WY,q3⟩
end
structure Nm2 (mg:Str->Option Value):Prop where
  enumerate:mg "enumerate" = none
  any:mg "any" = none
  dict:mg "dict" = none
  sorted:mg "sorted" = none
  repr:mg "repr" = none
  bool:mg "bool" = none
theorem Inv.RP {X:Cx} {p_:List (Addr×Obj)} {σ:St} {H:Hp} {s:Shared} {h2:Heap} {t':Nat} {x y:V} {u u':Value} (I:Inv X p_ σ H s) (I1:Inv X p_ σ H {s with heap:=h2,toks:=t'}) (ru:RelV x u) (ru':RelV y u')
    (wK:h2.get? s.heap.objs.size=some {cls:=.type "tuple",data:=.seq #[u,u']}):Inv X p_ σ (upd H s.heap.objs.size (.tup [x,y])) {s with heap:=h2,toks:=t'}:=by
  have hfr:H s.heap.objs.size=none:=I.hok.fresh (qlY _);refine⟨I1.ok,I1.os,I1.bare,⟨I1.base.keep,I1.base.slot,λc o e n hx=>?_,I1.base.there,λc zs e=>?_,λc o v e=>?_,λc qs e=>?_⟩,I1.loc,I1.cell,?_,λv c e=>?_,λv hv=>?_,?_,I1.len⟩
  . rw[aB (λe'=>?_)]
    ·exact I1.base.free c o e n hx
    ·exact absurd (ql5 (qlW e) I.sz) (by rw[e'];exact qmN _)
  ·have e':=I1.base.tups c zs e;rw[aB (aL e' hfr)];exact e'
  ·have e':=I1.base.qm c o v e;rw[aB (aL e' hfr)];exact e'
  ·obtain⟨m,e'⟩:=I1.base.qp c qs e;exact⟨m,by rw[aB (aL e' hfr)];exact e'⟩
  ·rw[aB (ql3 I.lt)];exact I1.free
  ·obtain⟨w',qc⟩:=I.cell v c e;rw[aB (ql3 qc.lt)];exact I1.gj v c e
  ·obtain⟨f1,f2,f3⟩:=I1.pin v hv;refine⟨f1,?_,f3⟩;rw[aB (ql3 (qlW (I.pin v hv).1))];exact f2
  . intro c v e
    by_cases hcs:c=s.heap.objs.size
    ·subst hcs;rw[ak] at e;cases e;exact⟨by show 2<=sizeLine;rw[sizeLine_eq];decide,[u,u'],.cons ru (.cons ru' .nil),⟨_,wK,rfl,0,rfl⟩⟩
    . rw[aB hcs] at e;refine(I1.hok c v e).stay (λ_ _ _ qq=>qq) (λd qd=>?_) λd zs qd=>?_
      ·rw[aB (aL qd hfr)];exact qd
      ·rw[aB (aL qd hfr)];exact qd
def Ite (K:W.Frag) (a:Addr):It:=
  ⟨λi H=>∃xs x,aX K H a xs/\xs[i]? = some x,
   λi H v H'=>∃t x,v = .ref t/\H t=none/\H'=upd H t (.tup [.int i,x])/\∀xs,aX K H a xs->xs[i]? = some x,
   λi H=>∃xs,aX K H a xs/\xs.length<=i⟩
structure qdP (e it a:Addr) (i:Nat) (h:Heap):Prop where
  he:∃old,IsEnum h e it i old
  hi:h.IsListIter it a i
theorem Uu {P:Program} {w:World} {K:W.Frag} {es:List Expr} {k:Nat} {pos:Pos} {e it a:Addr} (nei:e≠it) :
    Turn P w K (.Tuple es k pos) (Ite K a) [e,it] e (qdP e it a) where
  mem:=by simp
  obj:=λi h st c hc=>by
    simp only[ql1,qme,qmX] at hc
    rcases hc with rfl | rfl
    ·obtain⟨old,q⟩:=st.he;exact⟨_,q,λv e=>nomatch e⟩
    ·obtain⟨o,e,_,d⟩:=st.hi;exact⟨o,e,λv y=>by rw[d] at y;cases y⟩
  keep:=λi h h' st kk=>by
    obtain⟨old,q⟩:=st.he;exact⟨⟨old,kk e (by simp) _ q⟩,st.hi.at λo z=>kk it (by simp) o z⟩
  item:=by
    intro X hP hw hK hc i p_ s σ H E I hf st hg;subst hP hw hK;obtain⟨xs,x,qa,hx⟩:=hg;obtain⟨its,rv,pl,hz1⟩:=I.list qa;obtain⟨u,hu,ru⟩:=rv.get hx;obtain⟨old,hE⟩:=st.he;obtain⟨o1,e1,c1,_⟩:=id st.hi;refine wpAny_pyNext_enum_item hE st.hi pl.isList (x:=u) (by simpa using hu) nei λh' a1 a2 a3 a4 kk=>?_;refine⟨_,rfl,wpAny_letOwnedTupleGo_enum a1 λh2 b1 sb=>?_⟩;have lt:∀{c o},s.heap.get? c=some o->s.heap.objs.size≠c:=λe=>qmY (qlW e);have hn:H s.heap.objs.size=none:=I.hok.fresh (qlY _);have Pu:∀c o,c∉[e,it]->s.heap.get? c=some o->h2.get? c=some o:=λc o hc z=>by
      simp only[ql1,qme,qmX,not_or] at hc;exact(sb.2 c hc.1).trans (kk c o hc.1 hc.2 z)
    have I1:Inv X p_ σ H {s with heap:=h2,toks:=s.toks+1}:=I.nC Pu hf;have wK:=sb.extBut _ _ (lt hE) a3;have I2:Inv X p_ σ (upd H s.heap.objs.size (.tup [.int i,x])) {s with heap:=h2,toks:=s.toks+1}:=I.RP I1 ⟨_,rfl⟩ ru wK;refine⟨.ref s.heap.objs.size,_,I2,rfl,⟨s.heap.objs.size,x,rfl,hn,rfl,λxs' q'=>by rw[I.su q' qa];exact hx⟩,?_,λc hcm=>?_⟩
    ·exact⟨⟨_,b1⟩,a2.extBut sb.extBut nei.symm⟩
    . have hne:c≠s.heap.objs.size:=by
        simp only[ql1,qme,qmX] at hcm
        rcases hcm with rfl | rfl
        ·exact(lt hE).symm
        ·exact(lt e1).symm
      rw[aB hne];exact(hf c hcm).1
  done:=by
    intro X hP hw hK hc i p_ s σ H E I hf st hg;subst hP hw hK;obtain⟨xs,qa,hl⟩:=hg;obtain⟨its,rv,pl,hz1⟩:=I.list qa;obtain⟨old,hE⟩:=st.he;have l1:=rv.length;refine wpAny_pyNext_enum_end (I.ok.hd hc) hE st.hi pl.isList (by simp;omega) λh' kk=>⟨rfl,I.nC (t':=s.toks) (λc o hcm z=>?_) hf⟩;simp only[ql1,qme,qmX,not_or] at hcm;exact kk c o hcm.2 z
  self:=λ_ _ _ _ _ st h=>by
    obtain⟨old,q⟩:=st.he;exact wpAny_pyIter_enum q h
section
variable {X:Cx} {K:W.Frag}
def Xk (K:W.Frag) (t:TA):TI:=λσ H R=>t σ H λvs H1=>∃a xs,vs=[.ref a]/\aX K H1 a xs/\R (Ite K a) H1
theorem yW:bootBuiltins "enumerate" = some (.type "enumerate"):=by decide+kernel
theorem wR (hK:X.K=K) {es:List Expr} {k:Nat} {pos':Pos} {a:Expr} {ta:TA} {p pos:Pos} (hg:Gl X "enumerate") (hm:X.mg "enumerate" = none) (ha:PA X [a] ta)
    (hs:starEach [a] X.env=[(false,eval a X.env)]:=by rfl) :
    PI X (.Tuple es k pos') (.Call (.Name "enumerate" p) [a] [] pos) (Xk K ta):=by
  subst hK;intro p_ s σ H R I h;refine Call_ (jh I hg hm yW (qmE (bY (ha pos p_ s σ H _ I h) λus s1 zz=>?_) (by rw[hs];rfl) (by rfl)));obtain⟨vs,H1,I1,r1,q1⟩:=zz;obtain⟨l1,xs,e,qa,q⟩:=q1;subst e;obtain⟨u,rfl,r⟩:=vals1 r1;obtain rfl:u=Value.ref l1:=r;obtain⟨its,rv,pl,hz1⟩:=I1.list qa;refine call_enumerate_list pl.isList λh' b1 b2 b3 kk=>?_;refine wpAny_pyIter_enum (s:={s1 with heap:=h'}) b1 ?_;have I2:Inv X p_ σ H1 {s1 with heap:=h'}:=I1.kept (t':=s1.toks) kk;refine⟨s1.heap.objs.size+1,[s1.heap.objs.size+1,s1.heap.objs.size],_,_,H1,rfl,I2,Uu (Nat.succ_ne_self _),⟨⟨_,b1⟩,b2⟩,λc hc=>?_,q⟩;have hle:s1.heap.objs.size<=c:=by
    simp only[ql1,qme,qmX] at hc
    rcases hc with rfl | rfl <;> first | exact qnu _ _ | exact qlY _
  exact I1.Ar hle (I1.hok.fresh hle)
end
section
variable {X:Cx} {K:W.Frag} {tg:Expr}
theorem qaH (hK:X.K=K) {es:List Expr} {k:Nat} {pos':Pos} {a b:Expr} {ta:TA} {p pos:Pos} (hg:Gl X "zip") (hm:X.mg "zip" = none) (ha:PA X [a,b] ta)
    (hs:starEach [a,b] X.env=[(false,eval a X.env),(false,eval b X.env)]:=by rfl) (hs2:starEach [b] X.env=[(false,eval b X.env)]:=by rfl) :
    PI X (.Tuple es k pos') (.Call (.Name "zip" p) [a,b] [] pos) (qav K ta):=by subst hK;exact qdD hg hm ha hs hs2
theorem RQ (hK:X.K=K) {o value:Expr} {ta tv:TE} {f:Str} {pos pos':Pos} (ha:PE X o ta) (hv:PE X value tv) (hs:swapsWith value (some (.Attribute o f pos')) pos.line X.env=pure false):PS X (.Assign [.Attribute o f pos'] value pos) (qdq K ta tv f):=by subst hK;exact qds ha hv hs
end
@[simp ↓] theorem qjs (i:Nat) σ H Q:qaf i σ H Q=(∃v,σ[i]? = some (some v)/\Q v H):=rfl
@[simp ↓] theorem qlq (v:V) z0 H Q:tC v z0 H Q=(Q v H):=rfl
@[simp ↓] theorem qlr (t:TE) σ H Q:tB t σ H Q=(t σ H λx H1=>∃c,x = .bl c/\Q c H1):=rfl
@[simp ↓] theorem qjt (t:TT) σ H Q:qft t σ H Q=(t σ H λc H1=>Q (!c) H1):=rfl
@[simp ↓] theorem qia (ta:TE) σ H Q:Wf ta σ H Q=(ta σ H λx H1=>∃c,x = .bl c/\Q (.bl (!c)) H1):=rfl
@[simp ↓] theorem qib D σ H:qch  D σ H=(D.nx σ H):=rfl
@[simp ↓] theorem qju (t u:TS) D σ H:qc7 t u D σ H=(t {D with nx:=u D} σ H):=rfl
@[simp ↓] theorem qic (te:TE) D σ H:qci te D σ H=(te σ H λ_ H1=>D.nx σ H1):=rfl
@[simp ↓] theorem qjv (te:TE) D σ H:qfu te D σ H=(te σ H D.rt):=rfl
@[simp ↓] theorem qfY z0 z1 z2:Wg  z0 z1 z2=(False):=rfl
@[simp ↓] theorem qid (i:Nat) v σ H Q:Lh i v σ H Q=(Q (σ.set i (some v)) H):=rfl
@[simp ↓] theorem qjw vs σ H Q:qc8  vs σ H Q=(vs=[]/\Q σ H):=rfl
@[simp ↓] theorem qie (t:TG) (u:K6) vs σ H Q:Wh t u vs σ H Q=(∃v r,vs=v::r/\t v σ H λσ' H'=>u r σ' H' Q):=rfl
@[simp ↓] theorem qjx (K:W.Frag) (n:Nat) (t:K6) v σ H Q:qag K n t v σ H Q=(∃a xs,v = .ref a/\dO K H a xs/\xs.length=n/\t xs σ H Q):=rfl
@[simp ↓] theorem qjy (to ti:TE) (t:TQ) v σ H Q:qfw to ti t v σ H Q=(to σ H λo H1=>ti σ H1 λi H2=>t o i v H2 λH3=>Q σ H3):=rfl
@[simp ↓] theorem qjz (te:TE) (g:TG) D σ H:TX te g D σ H=(te σ H λx H1=>g x σ H1 D.nx):=rfl
@[simp ↓] theorem qjA (i:Nat) (te:TE) (ti:TIp) D σ H:qc_ i te ti D σ H=(∃x,σ[i]? = some (some x)/\te σ H λy H1=>ti x y H1 λz H2=>D.nx (σ.set i (some z)) H2):=rfl
@[simp ↓] theorem qkV (f:Int->Int->Int) x y H Q:ipI f x y H Q=(∃i j,x = .int i/\y = .int j/\Q (.int (f i j)) H):=rfl
@[simp ↓] theorem qif (K:W.Frag) (tl:TE) σ H R:Rv K tl σ H R=(tl σ H λx H1=>∃a,x = .ref a/\(∃xs,aX K H1 a xs)/\R (V2 K a) H1):=rfl
@[simp ↓] theorem qjB (K:W.Frag) (tl:TE) σ H R:qdc K tl σ H R=(tl σ H λx H1=>∃a,x = .ref a/\(∃xs,dO K H1 a xs)/\R (Itt K a) H1):=rfl
@[simp ↓] theorem qig (ta:TA) σ H R:Wm ta σ H R=(ta σ H λvs H1=>∃j:Int,vs=[.int j]/\-(2 ^ 62)<=j/\j<2 ^ 62/\R (Oz 0 j.toNat) H1):=rfl
@[simp ↓] theorem qih (ta:TA) σ H R:Wn ta σ H R=(ta σ H λvs H1=>∃i j:Int,vs=[.int i,.int j]/\(-(2 ^ 62)<=i/\i<2 ^ 62/\-(2 ^ 62)<=j/\j<2 ^ 62)/\R (Oz i (j - i).toNat) H1):=rfl
@[simp ↓] theorem qkW (r:R2) (ta tb:TE) σ H Q:V3 r ta tb σ H Q=(ta σ H λx H1=>tb σ H1 λy H2=>r x y H2 Q):=rfl
@[simp ↓] theorem qkX (r:V->Hp->VK->Prop) (ta:TE) σ H Q:tUn r ta σ H Q=(ta σ H λx H1=>r x H1 Q):=rfl
@[simp ↓] theorem qii (t:TE) σ H Q:Rz t σ H Q=(t σ H λx H'=>∃k,x = .bl k/\Q k H'):=rfl
@[simp ↓] theorem qjC (K:W.Frag) (ta:TE) (f:Str) σ H Q:qap K ta f σ H Q=(ta σ H λx H1=>∃a C dx fs v,x = .ref a/\H1 a=some (.ins C dx fs)/\Cls K C/\lE K C f/\fs.lookup f=some v/\Q v H1):=rfl
@[simp ↓] theorem qjD (K:W.Frag) (ta tv:TE) (f:Str) D σ H:qdq K ta tv f D σ H=(tv σ H λy H1=>ta σ H1 λx H2=>∃a C dx fs,x = .ref a/\H2 a=some (.ins C dx fs)/\Cls K C/\lE K C f/\fs.length<1000/\D.nx σ (upd H2 a (.ins C dx (oR f y fs)))):=rfl
@[simp ↓] theorem qjE z0 H Q:Iv  z0 H Q=(Q [] H):=rfl
@[simp ↓] theorem qij (ta:TE) (tr:TA) σ H Q:zP ta tr σ H Q=(ta σ H λx H1=>tr σ H1 λxs H2=>Q (x::xs) H2):=rfl
@[simp ↓] theorem qjF (t:TA) σ H Q:qfF t σ H Q=(t σ H λxs H1=>xs.length<=sizeLine/\∀p,H1 p=none->Q (.ref p) (upd H1 p (.tup xs))):=rfl
@[simp ↓] theorem qjG (t:TA) σ H Q:qfG t σ H Q=(t σ H λxs H1=>xs.length<=sizeLine/\∀p,H1 p=none->Q (.ref p) (upd H1 p (.lst xs))):=rfl
@[simp ↓] theorem qkY (r:List V->Hp->VK->Prop) (t:TA) σ H Q:tCB r t σ H Q=(t σ H λvs H1=>r vs H1 Q):=rfl
@[simp ↓] theorem qik (t:TE) σ H Q:WR t σ H Q=(t σ H λx H1=>∃i,x = .int i/\Q (some i) H1):=rfl
@[simp ↓] theorem qkZ (r:V->Option Int->Option Int->Hp->VK->Prop) (te:TE) (tl th:TO) σ H Q:tSl r te tl th σ H Q=(te σ H λx H1=>tl σ H1 λl H2=>th σ H2 λu H3=>r x l u H3 Q):=rfl
@[simp ↓] theorem qk0 (K:W.Frag) (T:String) (r:V->List V->Hp->VK->Prop) (to:TE) (t:TA) σ H Q:tBM K T r to t σ H Q=(to σ H λx H1=>tyV K T x H1/\t σ H1 λxs H2=>r x xs H2 Q):=rfl
@[simp ↓] theorem qjH z0 H Q:qfP  z0 H Q=(Q true H):=rfl
@[simp ↓] theorem qjI (tl:TE) σ H R:qdB tl σ H R=(tl σ H λx H1=>∃z,x = .str z/\R (Its z) H1):=rfl
@[simp ↓] theorem qjJ (K:W.Frag) (t:TA) σ H R:qav K t σ H R=(t σ H λvs H1=>∃a b xs ys,vs=[.ref a,.ref b]/\aX K H1 a xs/\aX K H1 b ys/\R (Itz K a b) H1):=rfl
@[simp ↓] theorem qjK (K:W.Frag) (tl:TE) σ H R:qdI K tl σ H R=(tl σ H λx H1=>∃b p,x = .ref p/\(∃xs,LK b K H1 p xs)/\R (Itq b K p) H1):=rfl
structure qjL (Q:VK) where
  n:Nat
structure qdQ (g:TG) (tb:TS) (D:Ends) where
  n:Nat
structure qfZ (c:TT) (tb:TS) (D:Ends) where
  n:Nat
structure qaI (g:TG) (tt:TT) (te:TE) (Q:Hp->Prop) where
  n:Nat
structure PX (A B:Prop) where
  n:Nat
def Uv (sp:Sp) (vs:List V) (H:Hp) (Q:VK) (d:qjL Q) (E:XK):Prop:=sp vs H Q E
def tFr (J:It) (g:TG) (tb:TS) (D:Ends) (d:qdQ g tb D) (σ:St) (H:Hp):Prop:=qdJ J g tb D σ H
def tWh (c:TT) (tb:TS) (D:Ends) (d:qfZ c tb D) (σ:St) (H:Hp):Prop:=Ir c tb D σ H
def tCm (own:List Str) (caps:List Nat) (J:It) (g:TG) (tt:TT) (te:TE) (Q:Hp->Prop) (d:qaI g tt te Q) (D:Addr) (σ:St) (H:Hp):Prop:=lX own caps J g tt te D σ H Q
def fj (b:Bool) (A B:Prop) (d:PX A B):Prop:=if b=true then A else B
@[simp] theorem qk1 (A B:Prop) (d:PX A B):fj true A B d=A:=rfl
@[simp] theorem qk2 (A B:Prop) (d:PX A B):fj false A B d=B:=rfl
theorem fj.of {b:Bool} {A B:Prop} {d:PX A B} (h1:b=true->A) (h2:b=false->B):fj b A B d:=by
  cases b with
  | true=>exact h1 rfl
  | false=>exact h2 rfl
theorem fj.pos {b:Bool} {A B:Prop} {d:PX A B} (h:b=true) (h1:A):fj b A B d:=by subst h;exact h1
theorem fj.neg {b:Bool} {A B:Prop} {d:PX A B} (h:b=false) (h1:B):fj b A B d:=by subst h;exact h1
@[simp ↓] theorem qil (sp:Sp) (yN:List V) (E:XK) (t:TA) (σ:St) (H:Hp) (Q:VK):Wz sp yN E t σ H Q=t σ H λvs H1=>Uv sp (vs++yN) H1 Q ⟨0⟩ E:=rfl
@[simp ↓] theorem qim (C:Addr) (m:Str) (sp:Sp) (yN:List V) (E:XK) (ta:TE) (t:TA) (σ:St) (H:Hp) (Q:VK):WD C m sp yN E ta t σ H Q=ta σ H λx H1=>∃a dx fs,x = .ref a/\H1 a=some (.ins C dx fs)/\fs.lookup m=none/\t σ H1 λvs H2=>Uv sp (x::(vs++yN)) H2 Q ⟨0⟩ E:=rfl
@[simp ↓] theorem qin (C:Addr) (sp:Sp) (yN:List V) (E:XK) (t:TA) (σ:St) (H:Hp) (Q:VK):WK C sp yN E t σ H Q=t σ H λvs H1=>∀x dx,H1 x=none->H1 dx=none->dx≠x->
  Uv sp (.ref x::(vs++yN)) (upd (upd H1 dx (.own x)) x (.ins C dx [])) (λv H2=>v = .non/\Q (.ref x) H2) ⟨0⟩ E:=rfl
@[simp ↓] theorem qjM (wi:TI) (g:TG) (tb:TS) (D:Ends) (σ:St) (H:Hp):qfx wi g tb D σ H=wi σ H λJ H1=>tFr J g tb D ⟨0⟩ σ H1:=rfl
@[simp ↓] theorem qf0 (c:TT) (tb:TS) (D:Ends) (σ:St) (H:Hp):Ir c tb D σ H=tWh c tb D ⟨0⟩ σ H:=rfl
@[simp ↓] theorem qio (own:List Str) (caps:List Nat) (wi:TI) (g:TG) (tt:TT) (te:TE) (σ:St) (H:Hp) (Q:VK):RJ own caps wi g tt te σ H Q=wi σ H λJ H1=>∀D,H1 D=none->tCm own caps J g tt te (Q (.ref D)) ⟨0⟩ D σ (upd H1 D (.lst [])):=rfl
@[simp ↓] theorem qjN (c:TT) (t u:TS) (D:Ends) (σ:St) (H:Hp):qfv c t u D σ H=c σ H λb H1=>fj b (t D σ H1) (u D σ H1) ⟨0⟩:=rfl
@[simp ↓] theorem qk3 (c:TT) (t u:TE) (σ:St) (H:Hp) (Q:VK):tIf c t u σ H Q=c σ H λb H1=>fj b (t σ H1 Q) (u σ H1 Q) ⟨0⟩:=rfl
@[simp ↓] theorem qjO (t u:TT) (σ:St) (H:Hp) (Q:Bool->Hp->Prop):qfs t u σ H Q=t σ H λc H1=>fj c (u σ H1 Q) (Q false H1) ⟨0⟩:=rfl
@[simp ↓] theorem qk4 (t u:TT) (σ:St) (H:Hp) (Q:Bool->Hp->Prop):tOr t u σ H Q=t σ H λc H1=>fj c (Q true H1) (u σ H1 Q) ⟨0⟩:=rfl
@[simp ↓] theorem qip (ta tb:TE) (σ:St) (H:Hp) (Q:VK):Wd ta tb σ H Q=ta σ H λx H1=>∃c,x = .bl c/\fj c (tb σ H1 Q) (Q (.bl false) H1) ⟨0⟩:=rfl
@[simp ↓] theorem qf1 (r r':R2) (ta tb tc:TE) (σ:St) (H:Hp) (Q:VK):Iu r r' ta tb tc σ H Q=ta σ H λx H1=>tb σ H1 λy H2=>r x y H2 λz H3=>∃k,z = .bl k/\fj k (tc σ H3 λz H4=>r' y z H4 Q) (Q (.bl false) H3) ⟨0⟩:=rfl
def zV (g:TG) (tt:TT) (te:TE) (D:Addr) (N:St->Hp->Prop) (x:V) (σ:St) (H:Hp):Prop:=
  g x σ H λσ2 H3=>tt σ2 H3 λb H4=>fj b (te σ2 H4 λy H5=>∃ys,H5 D=some (.lst ys)/\ys.length<sizeLine/\N σ2 (upd H5 D (.lst (ys++[y])))) (N σ2 H4) ⟨0⟩
@[simp ↓] theorem qiq (g:TG) (tt:TT) (te:TE) (D:Addr) (N:St->Hp->Prop) (x:V) (σ:St) (H:Hp):zV g tt te D N x σ H =
  (g x σ H λσ2 H3=>tt σ2 H3 λb H4=>fj b (te σ2 H4 λy H5=>∃ys,H5 D=some (.lst ys)/\ys.length<sizeLine/\N σ2 (upd H5 D (.lst (ys++[y])))) (N σ2 H4) ⟨0⟩):=rfl
@[simp ↓] theorem qjP {α:Type} (a b:α) (R:α->α->Prop):(∃v w,[a,b]=[v,w]/\R v w)=R a b:=by
  refine propext ⟨?_,λh=>⟨a,b,rfl,h⟩⟩;rintro⟨_,_,e,h⟩;cases e;exact h
@[simp] theorem qir {α β:Type} (a:α) (b:β) (R:α->β->Prop):(∃v w,(a=v/\b=w)/\R v w)=R a b:=by
  refine propext ⟨?_,λh=>⟨a,b,⟨rfl,rfl⟩,h⟩⟩;rintro⟨_,_,⟨rfl,rfl⟩,h⟩;exact h
@[simp] theorem sz0:(0<=sizeLine)=True:=qnA (by decide)
@[simp] theorem sz1:(1<=sizeLine)=True:=qnA (by decide)
@[simp] theorem sz2:(2<=sizeLine)=True:=qnA (by decide)
@[simp] theorem sz3:(3<=sizeLine)=True:=qnA (by decide)
@[simp] theorem sz4:(4<=sizeLine)=True:=qnA (by decide)
@[simp] theorem sz5:(5<=sizeLine)=True:=qnA (by decide)
@[simp] theorem sz6:(6<=sizeLine)=True:=qnA (by decide)
@[simp] theorem sz7:(7<=sizeLine)=True:=qnA (by decide)
@[simp] theorem sz8:(8<=sizeLine)=True:=qnA (by decide)
@[simp] theorem sz9:(9<=sizeLine)=True:=qnA (by decide)
@[simp] theorem qls:(10<=sizeLine)=True:=qnA (by decide)
@[simp] theorem qlt:(11<=sizeLine)=True:=qnA (by decide)
@[simp] theorem qlu:(12<=sizeLine)=True:=qnA (by decide)
@[simp] theorem qlv:(13<=sizeLine)=True:=qnA (by decide)
@[simp] theorem qlw:(14<=sizeLine)=True:=qnA (by decide)
@[simp] theorem qlx:(15<=sizeLine)=True:=qnA (by decide)
@[simp] theorem qly:(16<=sizeLine)=True:=qnA (by decide)
@[simp] theorem qlz:(17<=sizeLine)=True:=qnA (by decide)
@[simp] theorem qlA:(18<=sizeLine)=True:=qnA (by decide)
@[simp] theorem qlB:(19<=sizeLine)=True:=qnA (by decide)
@[simp] theorem Cu:(20<=sizeLine)=True:=qnA (by decide)
@[simp] theorem qis (i j:Int):Av (.int i) (.int j)=true:=rfl
@[simp] theorem qit (i j:Str):Av (.str i) (.str j)=true:=rfl
@[simp] theorem qiu (i j:Bool):Av (.bl i) (.bl j)=true:=rfl
@[simp] theorem qiv (i:Int) (j:Str):Av (.int i) (.str j)=true:=rfl
@[simp] theorem qiw (i:Int) (j:Str):Av (.str j) (.int i)=true:=rfl
@[simp] theorem qf2 (K:W.Frag) (p:Addr) (H:Hp):tyV K "list" (.ref p) H=(∃xs,aX K H p xs):=by simp[tyV]
@[simp] theorem qix (K:W.Frag) (p:Str) (H:Hp):tyV K "str" (.str p) H=True:=by simp[tyV]
section
variable {K:W.Frag} {l:Addr} {xs:List V} {g:TG} {tb:TS} {D:Ends} {d:qdQ g tb D} {σ:St} {H:Hp}
theorem Xl (xs:List V) (Pv:Nat->St->Hp->Prop) (h0:Pv 0 σ H) (hl:∀i σ H,i<=xs.length->Pv i σ H->aX K H l xs)
    (hs:∀i x σ H,xs[i]? = some x->Pv i σ H->g x σ H λσ2 H2=>tb {D with nx:=Pv (i+1),ct:=Pv (i+1),bk:=D.nx} σ2 H2) (hd:∀σ H,Pv xs.length σ H->D.nx σ H):tFr (V2 K l) g tb D d σ H:=Wq Pv h0 hl hs hd
theorem frT (xs:List V) (Pv:Nat->St->Hp->Prop) (h0:Pv 0 σ H) (hl:∀i σ H,i<=xs.length->Pv i σ H->dO K H l xs)
    (hs:∀i x σ H,xs[i]? = some x->Pv i σ H->g x σ H λσ2 H2=>tb {D with nx:=Pv (i+1),ct:=Pv (i+1),bk:=D.nx} σ2 H2) (hd:∀σ H,Pv xs.length σ H->D.nx σ H):tFr (Itt K l) g tb D d σ H:=qai Pv h0 hl hs hd
theorem frR {lo:Int} {n:Nat} (Pv:Nat->St->Hp->Prop) (h0:Pv 0 σ H)
    (hs:∀i σ H,i<n->Pv i σ H->g (.int (lo+i)) σ H λσ2 H2=>tb {D with nx:=Pv (i+1),ct:=Pv (i+1),bk:=D.nx} σ2 H2) (hd:∀σ H,Pv n σ H->D.nx σ H):tFr (Oz lo n) g tb D d σ H:=T3 Pv h0 hs hd
end
section
variable {K:W.Frag} {own:List Str} {caps:List Nat} {g:TG} {tt:TT} {te:TE} {D l l1 l2:Addr} {σ:St} {H:Hp} {Q:Hp->Prop} {d:qaI g tt te Q}
theorem K7 (xs:List V) (Pv:Nat->St->Hp->Prop) (h0:Pv 0 (stC own caps σ) H) (hl:∀i σ H,i<=xs.length->Pv i σ H->aX K H l xs)
    (hs:∀i x σ H,xs[i]? = some x->Pv i σ H->zV g tt te D (Pv (i+1)) x σ H) (hd:∀σ H,Pv xs.length σ H->Q H):tCm own caps (V2 K l) g tt te Q d D σ H:=Hg Pv h0 hl hs hd
theorem cmQ {b:Bool} (xs:List V) (Pv:Nat->St->Hp->Prop) (h0:Pv 0 (stC own caps σ) H) (hl:∀i σ H,i<=xs.length->Pv i σ H->LK b K H l xs)
    (hs:∀i x σ H,xs[i]? = some x->Pv i σ H->zV g tt te D (Pv (i+1)) x σ H) (hd:∀σ H,Pv xs.length σ H->Q H):tCm own caps (Itq b K l) g tt te Q d D σ H:=Xa Pv h0 hl hs hd
theorem cmR {lo:Int} {n:Nat} (Pv:Nat->St->Hp->Prop) (h0:Pv 0 (stC own caps σ) H)
    (hs:∀i σ H,i<n->Pv i σ H->zV g tt te D (Pv (i+1)) (.int (lo+i)) σ H) (hd:∀σ H,Pv n σ H->Q H):tCm own caps (Oz lo n) g tt te Q d D σ H:=PB Pv h0 hs hd
theorem cmS {z:Str} (Pv:Nat->St->Hp->Prop) (h0:Pv 0 (stC own caps σ) H)
    (hs:∀i c σ H,z.cps[i]? = some c->Pv i σ H->zV g tt te D (Pv (i+1)) (.str ⟨#[c]⟩) σ H) (hd:∀σ H,Pv z.cps.size σ H->Q H):tCm own caps (Its z) g tt te Q d D σ H:=W9 Pv h0 hs hd
theorem cmZ (xs ys:List V) (Pv:Nat->St->Hp->Prop) (h0:Pv 0 (stC own caps σ) H) (he:xs.length=ys.length) (hl:∀i σ H,i<=xs.length->Pv i σ H->aX K H l1 xs/\aX K H l2 ys)
    (hs:∀i x y t σ H,xs[i]? = some x->ys[i]? = some y->H t=none->Pv i σ H->zV g tt te D (Pv (i+1)) (.ref t) σ (upd H t (.tup [x,y]))) (hd:∀σ H,Pv xs.length σ H->Q H):tCm own caps (Itz K l1 l2) g tt te Q d D σ H:=W_ Pv h0 he hl hs hd
end
theorem Cv {c:Bool} {t u:TS} {D:Ends} {σ:St} {H:Hp} {d:PX (t D σ H) (u D σ H)} (R:St->Hp->Prop) (hc:∀σ H,R σ H->D.nx σ H)
    (h:∀N:St->Hp->Prop,(∀σ H,R σ H->N σ H)->fj c (t {D with nx:=N} σ H) (u {D with nx:=N} σ H) ⟨0⟩):fj c (t D σ H) (u D σ H) d:=h D.nx hc
theorem wU {α β:Type} {f:α->β} {ys zs:List β} (h:ys.Perm zs):∀l:List α,zs=l.map f->∃l':List α,l'.Perm l/\ys=l'.map f:=by
  induction h with
  | nil=>
    intro l e;cases l with
    | nil=>exact⟨[],.nil,rfl⟩
    | cons a l=>cases e
  | cons x _ ih=>
    intro l e;cases l with
    | nil=>cases e
    | cons a l=>
      simp only[qmj,List.cons.injEq] at e;obtain⟨l',p,e'⟩:=ih l e.2;exact⟨a::l',p.cons a,by rw[e',e.1,qmj]⟩
  | swap x y _=>
    intro l e
    match l,e with
    | a::b::l,e=>
      simp only[qmj,List.cons.injEq] at e;exact⟨b::a::l,.swap ..,by rw[e.1,e.2.1,e.2.2];rfl⟩
  | trans _ _ ih1 ih2=>
    intro l e;obtain⟨l',p,e'⟩:=ih2 l e;obtain⟨l2,p2,e2⟩:=ih1 l' e';exact⟨l2,p2.trans p,e2⟩
theorem Xm {α:Type} {xs:List α} {k:Nat} (h2:2<=xs.length) (hk:k<xs.length):∃j x,j≠k/\xs[j]? = some x/\Fl xs ((k:Int) - 1)=some x:=by
  cases k with
  | zero=>
    have hj:xs.length - 1<xs.length:=by omega
    refine⟨xs.length - 1,xs[xs.length - 1],by omega,by simp[hj],?_⟩;unfold Fl WW;rw[if_neg (by omega),if_pos (by omega)];have e:(((0:Nat):Int) - 1+xs.length).toNat=xs.length - 1:=by omega
    show xs[(((0:Nat):Int) - 1+xs.length).toNat]? = _;rw[e];simp[hj]
  | succ k=>
    have hj:k<xs.length:=by omega
    have e:((k+1:Nat):Int) - 1=(k:Int):=by omega
    rw[e];exact⟨k,xs[k],by omega,by simp[hj],bH (by simp[hj])⟩
end L2
namespace L2
open PySem
theorem Fv (K:W.Frag):W.kitOne K (.type "list") (.type "list")=some true:=by simp[W.kitOne]
theorem Jp (K:W.Frag):W.kitOne K (.type "list") (.type "int")=some false:=by simp[W.kitOne];rfl
theorem Fw (K:W.Frag):W.kitOne K (.type "list") (.type "bool")=some false:=by simp[W.kitOne];rfl
theorem Fx (K:W.Frag):W.kitOne K (.type "tuple") (.type "int")=some false:=by simp[W.kitOne];rfl
theorem Cw (K:W.Frag):W.kitOne K (.type "tuple") (.type "bool")=some false:=by simp[W.kitOne];rfl
theorem zW (K:W.Frag):W.kitOne K (.type "str") (.type "str")=some true:=by simp[W.kitOne]
theorem L_ (K:W.Frag):W.kitOne K (.type "str") (.type "int")=some false:=by simp[W.kitOne];rfl
theorem Jq (K:W.Frag):W.kitOne K (.type "str") (.type "bool")=some false:=by simp[W.kitOne];rfl
theorem Ma (K:W.Frag):W.kitOne K (.type "int") (.type "int")=some true:=by simp[W.kitOne]
theorem Jr (K:W.Frag):W.kitOne K (.type "int") (.type "bool")=some false:=by simp[W.kitOne];rfl
theorem Js (K:W.Frag):W.kitOne K (.type "bool") (.type "int")=some true:=by simp[W.kitOne];rfl
theorem Fy (K:W.Frag):W.kitOne K (.type "bool") (.type "bool")=some true:=by simp[W.kitOne]
theorem Jt (K:W.Frag):W.kitOne K (.type "dict") (.type "int")=some false:=by simp[W.kitOne];rfl
theorem Fz (K:W.Frag):W.kitOne K (.type "dict") (.type "bool")=some false:=by simp[W.kitOne];rfl
theorem yX (K:W.Frag):W.kitOne K (.type "NoneType") (.type "int")=some false:=by simp[W.kitOne];rfl
theorem wV (K:W.Frag):W.kitOne K (.type "NoneType") (.type "bool")=some false:=by simp[W.kitOne];rfl
end L2
namespace L2
open PySem PySem.Spec PyProof.Rows
section
variable {X:Cx} {K:W.Frag}
def qf3 (K:W.Frag):R2:=λx y H Q=>∃d e,Is K H d x/\Is K H e y/\d.canLay0=true/\e.canLay0=true/\d.depth<=64/\Q (.bl (PyData.eqv d e)) H
theorem qdR (hK:X.K=K) (hu:X.A.units+64<cLine):gb X (compareOp .Eq) (qf3 K):=by
  subst hK;intro p_ s σ H x y v u Q I rx ry h;obtain⟨d,e,h1,h2,h3,h4,h5,q⟩:=h;exact qdE p_ s σ H x y v u Q I rx ry ⟨d,e,h1,h2,h3,h4,by omega,q⟩
end
def iy (xs:List Str):List PyData:=xs.map PyData.str
theorem Ju {K:W.Frag} {H:Hp}:∀xs:List Str,sH K H (iy xs) (xs.map V.str)
  | []=>rfl
  | x::xs=>⟨_,_,rfl,rfl,Ju xs⟩
theorem qaJ (c:Nat):isL c=decide (c∈("abcdefghijklmnopqrstuvwxyz" : Str).cps.toList):=PySem.StrLaws.found_one _ c
theorem qdS {c:Nat} (h:isL c=true):c<128:=by
  rw[qaJ] at h;have h':=qmn h;have key:∀x∈("abcdefghijklmnopqrstuvwxyz" : Str).cps.toList,x<128:=by decide+kernel
  exact key c h'
theorem qaK {x:Str} (h:nameB x=true):PyData.strOk x=true:=by
  unfold nameB at h;simp only[qnJ] at h;have h2:=h.2;unfold PyData.strOk;rw[<- Array.all_toList];rw[qmk] at h2 ⊢;intro c hc;have:=qdS (h2 c hc);exact qmz (by omega)
theorem Mf:∀xs:List Str,(∀x∈xs,PyData.strOk x=true)->PyData.canLayAll0 (iy xs)=true
  | [],_=>by simp[iy,PyData.canLayAll0]
  | x::xs,h=>by
    have:=Mf xs λy hy=>h y (qlZ _ hy);simp[iy] at this;simp[iy,PyData.canLayAll0,PyData.canLay0,this,h x ql6]
theorem Mg:∀xs:List Str,PyData.depthAll (iy xs)<=1
  | []=>by simp[iy,PyData.depthAll]
  | x::xs=>by
    have:=Mg xs;simp[iy] at this;simp[iy,PyData.depthAll,PyData.depth,this]
@[simp ↓] theorem qiy (td ty:TE) (σ:St) (H:Hp) (Q:VK):Xg td ty σ H Q=(td σ H λx H1=>ty σ H1 λy H2=>∃a v,x = .ref a/\jk H2 a y (some v)/\Q v H2):=rfl
@[simp ↓] theorem qjQ (ty td:TE) (σ:St) (H:Hp) (Q:VK):qdL ty td σ H Q=(ty σ H λy H1=>td σ H1 λx H2=>∃a o,x = .ref a/\jk H2 a y o/\Q (.bl o.isSome) H2):=rfl
@[simp ↓] theorem qfg (ty td:TE) (σ:St) (H:Hp) (Q:VK):Jo ty td σ H Q=(ty σ H λy H1=>td σ H1 λx H2=>∃a o,x = .ref a/\jk H2 a y o/\Q (.bl (!o.isSome)) H2):=rfl
@[simp ↓] theorem qiz (td ty tv:TE) (D:Ends) (σ:St) (H:Hp):Xh td ty tv D σ H=(tv σ H λv H1=>td σ H1 λx H2=>ty σ H2 λy H3=>∃a H4,x = .ref a/\Jl H3 a y v H4/\D.nx σ H4):=rfl
@[simp ↓] theorem qiA (V4:List (TE×TE)) (σ:St) (H:Hp) (Q:VK):qcp V4 σ H Q=(∀p,H p=none->vD V4 σ (upd H p (.dK [])) λps H2=>H2 p=some (.dK [])/\∃kvs:List (Key×V),ps=kvs.map (λkv=>(kV kv.1,kv.2))/\kvs.length<=15/\Q (.ref p) (upd H2 p (.dK (vG [] kvs)))):=rfl
@[simp ↓] theorem qf4 (σ:St) (H:Hp) (Q:List (V×V)->Hp->Prop):vD [] σ H Q=Q [] H:=rfl
@[simp ↓] theorem qf5 (tk tv:TE) (r:List (TE×TE)) (σ:St) (H:Hp) (Q:List (V×V)->Hp->Prop):vD ((tk,tv)::r) σ H Q=(tk σ H λx H1=>tv σ H1 λy H2=>vD r σ H2 λps H3=>Q ((x,y)::ps) H3):=rfl
@[simp ↓] theorem qf6 (td ty tx:TE) (σ:St) (H:Hp) (Q:VK):PN td ty tx σ H Q=(td σ H λx H1=>∃a,x = .ref a/\IsD H1 a/\ty σ H1 λy H2=>tx σ H2 λz H3=>∃o,jk H3 a y o/\Q (o.getD z) H3):=rfl
@[simp ↓] theorem qiB (K:W.Frag) (t:TA) (σ:St) (H:Hp) (R:It->Hp->Prop):Xk K t σ H R=(t σ H λvs H1=>∃a xs,vs=[.ref a]/\aX K H1 a xs/\R (Ite K a) H1):=rfl
theorem qf7 {H:Hp} {a:Addr} {kvs:List (Key×V)} (i:Int) (e:H a=some (.dK kvs)):jk H a (.int i) (kh kvs (Sum.inl i)):=jk.k (k:=Sum.inl i) e
theorem qf8 {H:Hp} {a:Addr} {kvs:List (Key×V)} (x:Str) (e:H a=some (.dK kvs)):jk H a (.str x) (kh kvs (Sum.inr x)):=jk.k (k:=Sum.inr x) e
theorem qjR {H:Hp} {a:Addr} {kvs:List (Key×V)} {v:V} (x:Str) (e:H a=some (.dK kvs)) (hl:kvs.length<sizeLine):Jl H a (.str x) v (upd H a (.dK (putK kvs (Sum.inr x) v))):=Jl.k (k:=Sum.inr x) e hl
theorem isD {H:Hp} {a:Addr} {kvs:List (Key×V)} (e:H a=some (.dK kvs)):IsD H a:=.inl ⟨kvs,.inl e⟩
section
variable {K:W.Frag} {l:Addr} {g:TG} {tb:TS} {D:Ends} {d:qdQ g tb D} {σ:St} {H:Hp}
theorem frE (xs:List V) (Pv:Nat->St->Hp->Prop) (h0:Pv 0 σ H) (hl:∀i σ H,i<=xs.length->Pv i σ H->aX K H l xs)
    (hs:∀i x t σ H,xs[i]? = some x->H t=none->Pv i σ H->g (.ref t) σ (upd H t (.tup [.int i,x])) λσ2 H2=>tb {D with nx:=Pv (i+1),ct:=Pv (i+1),bk:=D.nx} σ2 H2) (hd:∀σ H,Pv xs.length σ H->D.nx σ H):tFr (Ite K l) g tb D d σ H:=by
  refine⟨λi m σ H=>m=xs.length - i/\i<=xs.length/\Pv i σ H,⟨xs.length,by simp,qmK _,h0⟩,?_⟩;rintro i m σ H ⟨rfl,hi,p⟩;have q:=hl i σ H hi p
  by_cases hlt:i<xs.length
  ·refine .inr ⟨⟨xs,xs[i],q,by simp[hlt]⟩,Pv (i+1),λσ' H' p'=>⟨xs.length - (i+1),by omega,rfl,hlt,p'⟩,λx H' y=>?_⟩;obtain⟨t,u,rfl,ht,rfl,e⟩:=y;exact hs i u t σ H (e xs q) ht p
  . have e:i=xs.length:=by omega
    subst e;exact .inl ⟨⟨xs,q,qlY _⟩,hd σ H p⟩
end
section
variable {K:W.Frag} {own:List Str} {caps:List Nat} {g:TG} {tt:TT} {te:TE} {D l:Addr} {σ:St} {H:Hp} {Q:Hp->Prop} {d:qaI g tt te Q}
theorem cmE (xs:List V) (Pv:Nat->St->Hp->Prop) (h0:Pv 0 (stC own caps σ) H) (hl:∀i σ H,i<=xs.length->Pv i σ H->aX K H l xs)
    (hs:∀i x t σ H,xs[i]? = some x->H t=none->Pv i σ H->zV g tt te D (Pv (i+1)) (.ref t) σ (upd H t (.tup [.int i,x]))) (hd:∀σ H,Pv xs.length σ H->Q H):tCm own caps (Ite K l) g tt te Q d D σ H:=by
  refine⟨λi m σ H=>m=xs.length - i/\i<=xs.length/\Pv i σ H,⟨xs.length,by simp,qmK _,h0⟩,?_⟩;rintro i m σ H ⟨rfl,hi,p⟩;have q:=hl i σ H hi p
  by_cases hlt:i<xs.length
  ·refine .inr ⟨⟨xs,xs[i],q,by simp[hlt]⟩,Pv (i+1),λσ' H' p'=>⟨xs.length - (i+1),by omega,rfl,hlt,p'⟩,λx H' y=>?_⟩;obtain⟨t,u,rfl,ht,rfl,e⟩:=y;exact hs i u t σ H (e xs q) ht p
  . have e:i=xs.length:=by omega
    subst e;exact .inl ⟨⟨xs,q,qlY _⟩,hd σ H p⟩
end
section
variable {c:TT} {tb:TS} {D:Ends} {d:qfZ c tb D} {σ:St} {H:Hp}
theorem whB (Pv:St->Hp->Prop) (μ:St->Hp->Nat) (h0:Pv σ H)
    (hs:∀σ H,Pv σ H->c σ H λb H1=>fj b (tb {D with nx:=λσ' H'=>Pv σ' H'/\μ σ' H'<μ σ H,ct:=λσ' H'=>Pv σ' H'/\μ σ' H'<μ σ H,bk:=D.nx} σ H1) (D.nx σ H1) ⟨0⟩)
    (mono:∀σ H Q Q',(∀b H1,Q b H1->Q' b H1)->c σ H Q->c σ H Q'):tWh c tb D d σ H:=Wr Pv μ h0 hs mono
end
end L2
namespace L2
open PySem
inductive RT {α:Type} (R:α->α->Prop):α->α->Prop where
  | refl (a:α):RT R a a
  | tail {a b c:α}:RT R a b->R b c->RT R a c
theorem RT.one {α:Type} {R:α->α->Prop} {a b:α} (h:R a b):RT R a b:=.tail (.refl a) h
theorem RT.trans {α:Type} {R:α->α->Prop} {a b c:α} (h:RT R a b) (h2:RT R b c):RT R a c:=by
  induction h2 with
  | refl=>exact h
  | tail _ r ih=>exact .tail ih r
abbrev nH:=Nat×Str×Str
def lR (S:List nH) (a b:Str):Prop:=∃n,(n,a,b)∈S
def Jv (fx:Nat->Option Int) (e:Str×Str) (k:Nat):List nH:=
  (if (fx k).getD 0=0 then [(k,e.1,e.2)] else [])++(if (fx k).getD 1=1 then [(k,e.2,e.1)] else [])
def fH (fx:Nat->Option Int):List (Str×Str)->Nat->List nH
  | [],_=>[]
  | e::r,k=>Jv fx e k++fH fx r (k+1)
theorem sS (fx:Nat->Option Int):∀(l m:List (Str×Str)) (k:Nat),fH fx (l++m) k=fH fx l k++fH fx m (k+l.length)
  | [],m,k=>by simp[fH]
  | e::l,m,k=>by
    simp only[List.cons_append,fH,sS fx l m (k+1),qny,qml];rw[show k+1+l.length=k+(l.length+1) by omega]
theorem Jw (fx:Nat->Option Int) {ps:List (Str×Str)} {i:Nat} {e:Str×Str} (h:ps[i]? = some e):fH fx (ps.take (i+1)) 0=fH fx (ps.take i) 0++Jv fx e i:=by
  have hi:i<ps.length:=(qlT.mp h).1;rw[take_one h,sS,ql7,qn5 (qnO hi),qn1];simp[fH]
end L2
namespace L2
open PySem PySem.Spec PyProof.Rows
def bI {β:Type} (R:Hp->V->β->Prop) (H:Hp) (vs:List V) (bs:List β):Prop:=vs.length=bs.length/\∀(i:Nat) v b,vs[i]? = some v->bs[i]? = some b->R H v b
section
variable {β:Type} {R:Hp->V->β->Prop} {H H':Hp} {vs:List V} {bs:List β}
theorem bI.nil:bI R H [] []:=⟨rfl,λi v b h=>by simp at h⟩
theorem bI.keep (h:bI R H vs bs) (k:∀v b,R H v b->R H' v b):bI R H' vs bs:=⟨h.1,λi v b h1 h2=>k v b (h.2 i v b h1 h2)⟩
theorem bI.at (h:bI R H vs bs) {i:Nat} {v:V} (hv:vs[i]? = some v):∃b,bs[i]? = some b/\R H v b:=by
  have hi:i<bs.length:=by rw[<- h.1];exact(qlT.mp hv).1
  exact⟨bs[i],by simp[hi],h.2 i v _ hv (by simp[hi])⟩
theorem bI.snoc {v:V} {b:β} (h:bI R H vs bs) (hv:R H v b):bI R H (vs++[v]) (bs++[b]):=by
  refine⟨by simp[h.1],λi u d h1 h2=>?_⟩
  by_cases hi:i<vs.length
  ·rw[ql9 hi] at h1;rw[ql9 (by rw[<- h.1];exact hi)] at h2;exact h.2 i u d h1 h2
  . rw[qma (by omega)] at h1;rw[qma (by rw[<- h.1];omega),<- h.1] at h2;cases hk:i - vs.length with
    | zero=>
      rw[hk] at h1 h2;cases h1;cases h2;exact hv
    | succ j=>
      rw[hk] at h1;simp at h1
end
def Mh (H:Hp) (v:V) (s:nH):Prop:=∃t,v = .ref t/\H t=some (.tup [.int s.1,.str s.2.1,.str s.2.2])
def qf9 (H:Hp) (v:V) (c:List Str):Prop:=∃t,v = .ref t/\H t=some (.lst (c.map V.str))
abbrev dZ:=bI Mh
abbrev qw:=bI qf9
def d7 (H H':Hp):Prop:=∀b xs,H b=some (.tup xs)->H' b=some (.tup xs)
theorem d7.of {H H':Hp} (s:Same H H'):d7 H H':=λb xs e=>s b _ e
theorem d7.set {H:Hp} {p:Addr} {o u:HO} (h:H p=some o) (hn:∀xs,o≠.tup xs):d7 H (upd H p u):=λb xs e=>by
  rw[aB (λz=>by subst z;rw[h] at e;exact hn xs (qmp e))];exact e
theorem Mh.keep {H H':Hp} (k:d7 H H'):∀v s,Mh H v s->Mh H' v s:=λv s ⟨t,e,h⟩=>⟨t,e,k _ _ h⟩
theorem dZ.keep {H H':Hp} {vs:List V} {S:List nH} (h:dZ H vs S) (k:d7 H H'):dZ H' vs S:=bI.keep h (Mh.keep k)
theorem qw.same {H H':Hp} {vs:List V} {S:List (List Str)} (h:qw H vs S) (k:Same H H'):qw H' vs S:=bI.keep h λv s ⟨t,e,q⟩=>⟨t,e,k _ _ q⟩
def qf_ (H:Hp) (d:Addr) (fx:Nat->Option Int):Prop:=∃kvs,H d=some (.dK kvs)/\∀k:Nat,kh kvs (Sum.inl (k:Int))=(fx k).map V.int
theorem Mi (o:Option Int) (x:Int):(o.map V.int).getD (.int x) = .int (o.getD x):=by cases o <;> rfl
end L2
namespace L2
open PySem
inductive rK (S:List nH) (a:Str):List Nat->List Str->Str->Prop where
  | nil:rK S a [] [a] a
  | snoc {w:List Nat} {vs:List Str} {b c:Str} {n:Nat}:rK S a w vs b->(n,b,c)∈S->rK S a (w++[n]) (vs++[c]) c
theorem rK.reach {S:List nH} {a:Str} {w:List Nat} {vs:List Str} {b:Str} (h:rK S a w vs b):RT (lR S) a b:=by
  induction h with
  | nil=>exact .refl _
  | snoc _ q ih=>exact .tail ih ⟨_,q⟩
inductive Walk (S:List nH) (a:Str):Nat->Str->Prop where
  | nil:Walk S a 0 a
  | snoc {k:Nat} {b c:Str} {n:Nat}:Walk S a k b->(n,b,c)∈S->Walk S a (k+1) c
theorem Walk.of {S:List nH} {a b:Str} (h:RT (lR S) a b):∃k,Walk S a k b:=by
  induction h with
  | refl=>exact⟨0,.nil⟩
  | tail _ q ih=>
    obtain⟨k,hk⟩:=ih;obtain⟨n,hn⟩:=q;exact⟨k+1,.snoc hk hn⟩
abbrev BR:=List (Str×List Nat)
structure OD (S:List nH) (a:Str) (at_:Nat) (R:BR):Prop where
  st:R[0]? = some (a,[])
  nd:(R.map (·.1)).Nodup
  pth:∀y w,(y,w)∈R->∃vs,rK S a w vs y/\vs.Nodup/\∀v∈vs,v∈R.map (·.1)
  cl:∀(i:Nat) y w,i<at_->R[i]? = some (y,w)->∀n c,(n,y,c)∈S->∃w',(c,w')∈R/\w'.length<=w.length+1
  mono:∀(i j:Nat) y w z u,i<=j->R[i]? = some (y,w)->R[j]? = some (z,u)->w.length<=u.length
  bd:∀(y:Str) (w:List Nat) z u,R[at_]? = some (y,w)->(z,u)∈R->u.length<=w.length+1
structure lG (S T:List nH) (a:Str) (at_:Nat) (h:Str) (wh:List Nat) (R:BR):Prop where
  bf:OD S a at_ R
  hr:R[at_]? = some (h,wh)
  md:∀n c,(n,h,c)∈T->∃w',(c,w')∈R/\w'.length<=wh.length+1
theorem OD.begin (S:List nH) (a:Str):OD S a 0 [(a,[])]:=by
  refine⟨rfl,by simp,?_,by intro i y w h;omega,?_,?_⟩
  ·intro y w h;simp at h;obtain⟨rfl,rfl⟩:=h;exact⟨[y],.nil,by simp,by simp⟩
  . intro i j y w z u hij h1 h2;have hi:i=0:=by have:=(qlT.mp h1).1;simp at this;omega
    have hj:j=0:=by have:=(qlT.mp h2).1;simp at this;omega
    subst hi hj;rw[h1] at h2;cases h2;exact qlY _
  ·intro y w z u h1 h2;simp at h1 h2;rw[h2.2,<- h1.2];simp
theorem lG.enter {S:List nH} {a:Str} {at_:Nat} {h:Str} {wh:List Nat} {R:BR} (b:OD S a at_ R) (hr:R[at_]? = some (h,wh)):lG S [] a at_ h wh R:=⟨b,hr,by simp⟩
theorem lG.skip {S T:List nH} {a:Str} {at_:Nat} {h:Str} {wh:List Nat} {R:BR} (b:lG S T a at_ h wh R) {s:nH} (hs:s.2.1=h->s.2.2∈R.map (·.1)):lG S (T++[s]) a at_ h wh R:=by
  refine⟨b.bf,b.hr,λn c hm=>?_⟩
  rcases qmh.mp hm with q | q
  ·exact b.md n c q
  ·simp at q;subst q;obtain⟨⟨c',w'⟩,hw,e⟩:=qmw.mp (hs rfl);simp only at e;subst e;exact⟨w',hw,b.bf.bd _ _ _ _ b.hr hw⟩
theorem lG.add {S T:List nH} {a:Str} {at_:Nat} {h:Str} {wh:List Nat} {R:BR} (b:lG S T a at_ h wh R) {n:Nat} {c:Str} (hS:(n,h,c)∈S) (hc:¬c∈R.map (·.1)):lG S (T++[(n,h,c)]) a at_ h wh (R++[(c,wh++[n])]):=by
  obtain⟨⟨st,nd,pth,cl,mono,bd⟩,hr,md⟩:=b;have hat:at_<R.length:=(qlT.mp hr).1;have ml:∀{i:Nat} {x},i<R.length->(R++[(c,wh++[n])])[i]? = some x->R[i]? = some x:=λhi e=>by rwa [ql9 hi] at e
  have last:∀{i:Nat} {x},¬i<R.length->(R++[(c,wh++[n])])[i]? = some x->x=(c,wh++[n]):=λhi e=>by
    rw[qma (by omega)] at e;cases hk:_ - R.length with
    | zero=>rw[hk] at e;simp at e;exact e.symm
    | succ k=>rw[hk] at e;simp at e
  refine⟨⟨?_,?_,?_,?_,?_,?_⟩,?_,?_⟩
  ·rw[ql9 (by omega)];exact st
  ·rw[qms,List.nodup_append];refine⟨nd,by simp,?_⟩;intro x hx y hy e;simp at hy;subst hy;exact hc (e▸hx)
  . intro y w hy
    rcases qmh.mp hy with q | q
    ·obtain⟨vs,h1,h2,h3⟩:=pth y w q;exact⟨vs,h1,h2,λv hv=>by rw[qms];exact qmC _ (h3 v hv)⟩
    . simp at q;obtain⟨rfl,rfl⟩:=q;obtain⟨vs,h1,h2,h3⟩:=pth h wh (qlX hr);refine⟨vs++[y],.snoc h1 hS,?_,?_⟩
      ·rw[List.nodup_append];refine⟨h2,by simp,?_⟩;intro x hx z hz e;simp at hz;subst hz;exact hc (e▸h3 x hx)
      . intro v hv;rw[qms]
        rcases qmh.mp hv with q | q
        ·exact qmC _ (h3 v q)
        ·simp at q;subst q;simp
  ·intro i y w hi e m c' hm;obtain⟨w',q1,q2⟩:=cl i y w hi (ml (by omega) e) m c' hm;exact⟨w',qmC _ q1,q2⟩
  . intro i j y w z u hij h1 h2
    by_cases hj:j<R.length
    ·exact mono i j y w z u hij (ml (by omega) h1) (ml hj h2)
    . have e2:=last hj h2;cases e2
      by_cases hi:i<R.length
      ·have:=bd h wh y w hr (qlX (ml hi h1));simp;exact this
      ·have e1:=last hi h1;cases e1;exact qlY _
  . intro y w z u h1 h2;have h1':=ml hat h1;rw[hr] at h1';cases h1'
    rcases qmh.mp h2 with q | q
    ·exact bd _ _ z u hr q
    ·simp at q;rw[q.2];simp
  ·rw[ql9 hat];exact hr
  . intro m c' hm
    rcases qmh.mp hm with q | q
    ·obtain⟨w',q1,q2⟩:=md m c' q;exact⟨w',qmC _ q1,q2⟩
    ·simp at q;obtain⟨rfl,rfl⟩:=q;exact⟨wh++[m],by simp,by simp⟩
theorem lG.leave {S:List nH} {a:Str} {at_:Nat} {h:Str} {wh:List Nat} {R:BR} (b:lG S S a at_ h wh R):OD S a (at_+1) R:=by
  obtain⟨⟨st,nd,pth,cl,mono,bd⟩,hr,md⟩:=b;refine⟨st,nd,pth,?_,mono,?_⟩
  . intro i y w hi e n c hm
    by_cases hia:i=at_
    ·subst hia;rw[hr] at e;cases e;exact md n c hm
    ·exact cl i y w (by omega) e n c hm
  ·intro y w z u h1 h2;have q1:=bd h wh z u hr h2;have q2:=mono at_ (at_+1) h wh y w (by omega) hr h1;omega
theorem OD.all {S:List nH} {a:Str} {R:BR} (b:OD S a R.length R) {k:Nat} {y:Str} (h:Walk S a k y):∃w,(y,w)∈R/\w.length<=k:=by
  induction h with
  | nil=>exact⟨[],qlX b.st,qlY _⟩
  | @snoc k b' c n _ q ih=>
    obtain⟨w,h1,h2⟩:=ih;obtain⟨i,hi⟩:=qnr.mp h1;obtain⟨w',h3,h4⟩:=b.cl i b' w (qlT.mp hi).1 hi n c q;exact⟨w',h3,by omega⟩
theorem OD.iff {S:List nH} {a:Str} {R:BR} (b:OD S a R.length R) (y:Str):y∈R.map (·.1)↔RT (lR S) a y:=by
  constructor
  ·intro h;obtain⟨⟨z,w⟩,h1,e⟩:=qmw.mp h;simp only at e;subst e;obtain⟨vs,p,_⟩:=b.pth z w h1;exact p.reach
  ·intro h;obtain⟨k,hk⟩:=Walk.of h;obtain⟨w,h1,_⟩:=b.all hk;exact qmw.mpr ⟨(y,w),h1,rfl⟩
theorem OD.sub {S:List nH} {a:Str} {i:Nat} {R:BR} (b:OD S a i R) {xs:List Str} (ha:a∈xs) (hS:∀s∈S,s.2.2∈xs):∀y∈R.map (·.1),y∈xs:=by
  intro y h;obtain⟨⟨z,w⟩,h1,e⟩:=qmw.mp h;simp only at e;subst e;obtain⟨vs,p,_⟩:=b.pth z w h1;cases p with
  | nil=>exact ha
  | snoc _ q=>exact hS _ q
theorem jJ {α:Type} [DecidableEq α]:∀{l xs:List α},l.Nodup->(∀y∈l,y∈xs)->l.length<=xs.length
  | [],_,_,_=>qmK _
  | y::l,xs,hn,hs=>by
    obtain⟨h1,h2⟩:=qmO.mp hn;have hy:y∈xs:=hs y ql6;have:=jJ (l:=l) (xs:=xs.erase y) h2 λz hz=>(List.mem_erase_of_ne (fun(e:z=y)=>h1 (e▸hz))).mpr (hs z (qlZ _ hz));rw[List.length_erase_of_mem hy] at this;have h0:0<xs.length:=qm2 hy;simp only[qml];omega
theorem rK.len {S:List nH} {a:Str} {w:List Nat} {vs:List Str} {b:Str} (h:rK S a w vs b):vs.length=w.length+1:=by
  induction h with
  | nil=>rfl
  | snoc _ _ ih=>simp[ih]
theorem OD.qjS {S:List nH} {a:Str} {i:Nat} {R:BR} (b:OD S a i R) {y:Str} {w:List Nat} (h:(y,w)∈R):w.length<R.length:=by
  obtain⟨vs,p,nd,sub⟩:=b.pth y w h;have h1:=jJ nd sub;have h2:=p.len;simp at h1;omega
def qjT (H:Hp) (kv:Key×V) (yw:Str×List Nat):Prop:=kv.1=Sum.inr yw.1/\∃p,kv.2 = .ref p/\H p=some (.lst (yw.2.map λn:Nat=>V.int n))
structure eX (H:Hp) (kvs:List (Key×V)) (R:BR):Prop where
  len:kvs.length=R.length
  ok:∀(i:Nat) kv yw,kvs[i]? = some kv->R[i]? = some yw->qjT H kv yw
theorem eX.keep {H H':Hp} {kvs:List (Key×V)} {R:BR} (h:eX H kvs R) (k:∀(p:Addr) (w:List Nat),H p=some (.lst (w.map λn:Nat=>V.int n))->H' p=some (.lst (w.map λn:Nat=>V.int n))):eX H' kvs R:=
  ⟨h.len,λi kv yw h1 h2=>by
    obtain⟨e,p,e2,q⟩:=h.ok i kv yw h1 h2;exact⟨e,p,e2,k _ _ q⟩⟩
theorem eX.none {H:Hp} {kvs:List (Key×V)} {R:BR} (h:eX H kvs R) {y:Str} (hy:¬y∈R.map (·.1)):kh kvs (Sum.inr y)=Option.none:=by
  unfold kh;rw[List.find?_eq_none.mpr]
  ·rfl
  . intro kv hk;obtain⟨i,hi⟩:=qnr.mp hk;have hl:i<R.length:=by rw[<- h.len];exact(qlT.mp hi).1
    obtain⟨e,_⟩:=h.ok i kv R[i] hi (by simp[hl]);simp only[qmo];intro z;rw[e] at z;cases z;exact hy (qmw.mpr ⟨R[i],qog hl,rfl⟩)
theorem eX.some {H:Hp} {kvs:List (Key×V)} {R:BR} (h:eX H kvs R) (nd:(R.map (·.1)).Nodup) {y:Str} {w:List Nat} (hy:(y,w)∈R):∃p,kh kvs (Sum.inr y)=Option.some (.ref p)/\H p=Option.some (.lst (w.map λn:Nat=>V.int n)):=by
  obtain⟨i,hi⟩:=qnr.mp hy;have hl:i<kvs.length:=by rw[h.len];exact(qlT.mp hi).1
  have hk:kvs[i]? = Option.some kvs[i]:=by simp[hl]
  unfold kh;have hf:∃kv,kvs.find? (λkv=>decide (kv.1=Sum.inr y))=Option.some kv:=by
    cases e:kvs.find? (λkv=>decide (kv.1=Sum.inr y)) with
    | some kv=>exact⟨kv,rfl⟩
    | none=>
      have:=List.find?_eq_none.mp e kvs[i] (qog hl);obtain⟨e1,_⟩:=h.ok i _ _ hk hi;simp[e1] at this
  obtain⟨kv,hkv⟩:=hf;rw[hkv];have hm:=List.mem_of_find?_eq_some hkv;have hp:=List.find?_some hkv;simp only[qmo] at hp;obtain⟨j,hj⟩:=qnr.mp hm;have hlj:j<R.length:=by rw[<- h.len];exact(qlT.mp hj).1
  obtain⟨e1,p,e2,e3⟩:=h.ok j kv R[j] hj (by simp[hlj]);rw[hp] at e1;have ey:R[j].1=y:=(Sum.inr.inj e1).symm;have ej:j=i:=Cj nd (x:=y) (by rw[qmc,show R[j]? = Option.some R[j] by simp[hlj]];simp[ey]) (by rw[qmc,hi];rfl);subst ej;have:R[j]=(y,w):=by
    have:=hi;simp[hlj] at this;exact this
  rw[this] at e3;exact⟨p,by simp[e2],e3⟩
theorem eX.has {H:Hp} {kvs:List (Key×V)} {R:BR} (h:eX H kvs R) (nd:(R.map (·.1)).Nodup) (y:Str):(kh kvs (Sum.inr y)).isSome=decide (y∈R.map (·.1)):=by
  by_cases hy:y∈R.map (·.1)
  ·obtain⟨⟨z,w⟩,h1,e⟩:=qmw.mp hy;simp only at e;subst e;obtain⟨p,e,_⟩:=h.some nd h1;rw[e,qmz hy];rfl
  ·rw[h.none hy,qmA hy];rfl
theorem eX.qjU {H:Hp} {kvs:List (Key×V)} {R:BR} (h:eX H kvs R) (nd:(R.map (·.1)).Nodup) (y:Str):(kh kvs (Sum.inr y)).isNone = !decide (y∈R.map (·.1)):=by
  rw[<- h.has nd y];cases kh kvs (Sum.inr y) <;> rfl
theorem eX.snoc {H:Hp} {kvs:List (Key×V)} {R:BR} {y:Str} {w:List Nat} {p:Addr} (h:eX H kvs R) (hp:H p=Option.some (.lst (w.map λn:Nat=>V.int n))):eX H (kvs++[(Sum.inr y,.ref p)]) (R++[(y,w)]):=by
  refine⟨by simp[h.len],λi kv yw h1 h2=>?_⟩
  by_cases hi:i<kvs.length
  ·rw[ql9 hi] at h1;rw[ql9 (by rw[<- h.len];exact hi)] at h2;exact h.ok i kv yw h1 h2
  . rw[qma (by omega)] at h1;rw[qma (by rw[<- h.len];omega),<- h.len] at h2;cases hk:i - kvs.length with
    | zero=>
      rw[hk] at h1 h2;cases h1;cases h2;exact⟨rfl,p,rfl,hp⟩
    | succ j=>
      rw[hk] at h1;simp at h1
def qga (i:Nat) (σ:St):Nat:=match σ[i]? with | some (some (V.int n))=>(10 - n).toNat | _=>0
theorem dg (x:Str) (xs:List Str):inV (.str x) (xs.map V.str)=decide (x∈xs):=by
  unfold inV;rw[List.any_map,qm4,List.any_eq_true,qmo];constructor
  ·rintro⟨y,hy,e⟩;simp[Uc] at e;exact e▸hy
  ·intro h;exact⟨x,h,by simp[Uc]⟩
theorem fW (xs:List Str):(xs.map V.str).all ji=true:=by
  rw[List.all_map,qmk];intro x _;rfl
end L2
namespace L2
open PySem PySem.Spec PyProof.Rows
@[simp] theorem qiC (i:Int):Av (.int i) .non=true:=rfl
@[simp] theorem qiD (i:Int):Av .non (.int i)=true:=rfl
@[simp] theorem qiE (i:Str):Av (.str i) .non=true:=rfl
theorem Mj:∀a b:List Str,PyData.eqvAll (iy a) (iy b)=decide (a=b)
  | [],[]=>rfl
  | [],y::b=>by simp[iy,PyData.eqvAll]
  | x::a,[]=>by simp[iy,PyData.eqvAll]
  | x::a,y::b=>by
    show(PyData.eqv (.str x) (.str y) && PyData.eqvAll (iy a) (iy b))=_;rw[Mj a b,qm4];simp[PyData.eqv]
end L2
namespace L2
open PySem
def lH {α β:Type} (f:α->Nat->List β):List α->Nat->List β
  | [],_=>[]
  | e::r,k=>f e k++lH f r (k+1)
theorem zZ {α β:Type} (f:α->Nat->List β):∀(l m:List α) (k:Nat),lH f (l++m) k=lH f l k++lH f m (k+l.length)
  | [],m,k=>by simp[lH]
  | e::l,m,k=>by
    simp only[List.cons_append,lH,zZ f l m (k+1),qny,qml];rw[show k+1+l.length=k+(l.length+1) by omega]
theorem yZ {α β:Type} (f:α->Nat->List β) {ps:List α} {i:Nat} {e:α} (h:ps[i]? = some e):lH f (ps.take (i+1)) 0=lH f (ps.take i) 0++f e i:=by
  have hi:i<ps.length:=(qlT.mp h).1;rw[take_one h,zZ,ql7,qn5 (qnO hi),qn1];simp[lH]
theorem sU {α β:Type} {f:α->Nat->List β} (hf:∀e k,(f e k).length<=1):∀(ps:List α) (k:Nat),(lH f ps k).length<=ps.length
  | [],_=>by simp[lH]
  | e::r,k=>by
    have h1:=sU hf r (k+1);have h2:=hf e k;simp only[lH,qmb,qml];omega
def dY (c:List Str) (e:Str×Str) (k:Nat):List Nat:=if (e.1∈c↔e.2∈c) then [] else [k]
def cu (c:List Str) (ps:List (Str×Str)):List Nat:=lH (dY c) ps 0
theorem vH (c:List Str) (e:Str×Str) (k:Nat):(dY c e k).length<=1:=by
  unfold dY;split <;> simp
theorem P0 {xs c:List Str} (hx:xs.Nodup) (hc:c.Nodup) (h:∀x∈c,x∈xs):(xs.filter λy=>decide (y∈c)).length=c.length:=by
  refine Nat.le_antisymm (jJ (hx.filter _) λy hy=>?_) (jJ hc λy hy=>?_)
  ·exact qmn (qmd.mp hy).2
  ·exact qmd.mpr ⟨h y hy,qmz hy⟩
end L2
set_option maxHeartbeats 4000000
namespace L2
open PySem PySem.Spec PyProof.Rows
section
variable {prog:Program} {w:World} {A:Around} {E:Value->Shared->Prop} {s:Shared}
theorem Xn {a:Addr} {Q:Option Obj->Shared->Prop} (h:Q (s.heap.get? a) s):wpAny (model prog w) A (loadIfAlive a) Q E s:=λΓ p _=>by
  show Sem.wp _ _ (Sem.loadIfAlive a Sem.pure) _ _ _ _;rw[Sem.wp_loadIfAlive];exact h
def kj (b:Bool) (it l:Addr) (items:Array Value) (i:Nat) (h:Heap):Prop:=match b with
  | true=>h.IsListIter it l i/\h.IsList l items
  | false=>h.IsTupleIter it l i/\h.IsTuple l items
theorem qdT {b:Bool} {it l:Addr} {items:Array Value} {i:Nat} {h:Heap} (st:kj b it l items i h):l≠it:=by
  cases b with
  | true=>
    obtain⟨⟨o,e,c,_⟩,⟨u,e',c',_⟩⟩:=st;exact aQ e' e c' c (by decide)
  | false=>
    obtain⟨⟨o,e,c,_⟩,⟨u,e',c',_⟩⟩:=st;exact aQ e' e c' c (by decide)
theorem Xo {b:Bool} {it l:Addr} {items:Array Value} {i:Nat} {h:Heap} (st:kj b it l items i h):∃o T,h.get? it=some o/\o.cls = .type T/\T≠ "enumerate" :=by
  cases b with
  | true=>obtain⟨⟨o,e,c,_⟩,_⟩:=st;exact⟨o,_,e,c,by decide⟩
  | false=>obtain⟨⟨o,e,c,_⟩,_⟩:=st;exact⟨o,_,e,c,by decide⟩
theorem qcq {b:Bool} {it l:Addr} {items:Array Value} {i:Nat} {h:Heap} (st:kj b it l items i h):∃o T,h.get? l=some o/\o.cls = .type T/\T≠ "enumerate" :=by
  cases b with
  | true=>obtain⟨_,⟨o,e,c,_⟩⟩:=st;exact⟨o,_,e,c,by decide⟩
  | false=>obtain⟨_,⟨o,e,c,_⟩⟩:=st;exact⟨o,_,e,c,by decide⟩
theorem wW {b:Bool} {it l:Addr} {items:Array Value} {i:Nat} {h h':Heap} (st:kj b it l items i h) (k1:∀o,h.get? it=some o->h'.get? it=some o) (k2:∀o,h.get? l=some o->h'.get? l=some o):kj b it l items i h':=by
  cases b with
  | true=>obtain⟨⟨o,e,c⟩,⟨u,e',c'⟩⟩:=st;exact⟨⟨o,k1 _ e,c⟩,⟨u,k2 _ e',c'⟩⟩
  | false=>obtain⟨⟨o,e,c⟩,⟨u,e',c'⟩⟩:=st;exact⟨⟨o,k1 _ e,c⟩,⟨u,k2 _ e',c'⟩⟩
theorem Cy {b:Bool} {it l:Addr} {items:Array Value} {i:Nat} {x:Value} {Q:Value->Shared->Prop} (st:kj b it l items i s.heap) (hx:items[i]? = some x)
    (hQ:∀h',kj b it l items (i+1) h'->Heap.SameBut it s.heap h'->Q x {s with heap:=h'}):wpAny (model prog w) A (Builtin.SmallTypes.nextOf (.ref it)) Q E s:=by
  have ne:=qdT st;cases b with
  | true=>
    obtain⟨h1,h2⟩:=st;refine qnG h1 h2 hx λh' a1 a2=>hQ h' ⟨a1,?_⟩ a2;obtain⟨u,e',c'⟩:=h2;exact⟨u,(a2.2 _ ne).trans e',c'⟩
  | false=>
    obtain⟨h1,h2⟩:=st;obtain⟨o,ho,hc,hd⟩:=id h1;obtain⟨ol,hol,hcl,nl,hdl⟩:=id h2;unfold Builtin.SmallTypes.nextOf;refine qlS (qm9 (name:=Str.ofString "__next__") h1.typeIs qnK (qnb qnK h1.typeIs F.entry_tuple_iterator_next ?_ (F.args_tuple_iterator_next_1 _)));show wpAny (model prog w) _ (field (.ref it) 0 >>= _) _ _ s;refine qlS (qmD ho hd (x:=.ref l) rfl ?_);show wpAny (model prog w) _ (if (Value.ref l == Value.none)=true then _ else _) _ _ s
    rw[if_neg (λz=>by cases z)];show wpAny (model prog w) _ (field (.ref it) 1 >>= _) _ _ s;refine qlS (qmD ho hd (x:=.int i 0) rfl ?_);show wpAny (model prog w) _ (seqItems? (.ref l) >>= _) _ _ s;refine qlS (qmQ hol hdl ?_);simp only[Int.toNat_natCast,hx];refine qlS (qof ho hd (by simp) (qlV ⟨x,rfl,qlV (hQ _ ⟨?_,?_⟩ (qmB ..))⟩))
    ·exact⟨_,qmI _ ho (qn8 (qnL hd _)),(Obj.cls_mapFields ..).trans hc,by rw[qnL hd];simp[rawInt]⟩
    ·exact⟨ol,((qmB ..).2 _ ne).trans hol,hcl,nl,hdl⟩
theorem Xp {b:Bool} {it l:Addr} {items:Array Value} {i:Nat} {Q:Value->Shared->Prop} (hh:A.handled=none) (st:kj b it l items i s.heap) (hx:items[i]? = none)
    (hE:∀h' e,Heap.ExtBut it s.heap h'->(∃o,h'.get? e=some o/\o.cls = .type "StopIteration")->E (.ref e) {s with heap:=h'}):wpAny (model prog w) A (Builtin.SmallTypes.nextOf (.ref it)) Q E s:=by
  cases b with
  | true=>exact wpAny_nextOf_list_end hh st.1 st.2 hx hE
  | false=>
    obtain⟨h1,h2⟩:=st;obtain⟨o,ho,hc,hd⟩:=id h1;obtain⟨ol,hol,hcl,nl,hdl⟩:=id h2;unfold Builtin.SmallTypes.nextOf;refine qlS (qm9 (name:=Str.ofString "__next__") h1.typeIs qnK (qnb qnK h1.typeIs F.entry_tuple_iterator_next ?_ (F.args_tuple_iterator_next_1 _)));show wpAny (model prog w) _ (field (.ref it) 0 >>= _) _ _ s;refine qlS (qmD ho hd (x:=.ref l) rfl ?_);show wpAny (model prog w) _ (if (Value.ref l == Value.none)=true then _ else _) _ _ s
    rw[if_neg (λz=>by cases z)];show wpAny (model prog w) _ (field (.ref it) 1 >>= _) _ _ s;refine qlS (qmD ho hd (x:=.int i 0) rfl ?_);show wpAny (model prog w) _ (seqItems? (.ref l) >>= _) _ _ s;refine qlS (qmQ hol hdl ?_);simp only[Int.toNat_natCast,hx];refine qlS (qn2 (qlS (qof ho hd (by simp) ?_)));show wpAny (model prog w) _ (newExc (.type "StopIteration") [] >>= _) _ _ _;refine qlS ?_;simp only[newExc,newTuple];refine qlS (qnz ?_ (by size_fits));refine qlS (m:=firstArgMember _ _) (wpAny_of_eq (a:=Value.none) (by first | rfl | (simp only[firstArgMember];rfl)) ?_)
    refine qnz ?_ (by size_fits);simp only[raiseNew];refine qlS (wpAny_handled ?_)
    first | rw[show A.in1.handled=none from hh] | rw[hh]
    refine qlS (qlV (wpAny_throw ?_));exact hE _ _ (((qmB ..).extBut.push _).push _) ⟨_,ql0 _ rfl,rfl⟩
def iD (h:Heap) (e it:Addr) (i:Int):Prop:=∃f0 f1 old,h.get? e=some {cls:=.type "enumerate",dict:=none,data:=.fields #[f0,f1,.ref it,rawInt i,.none,old],slots:=#[]}/\(f0 = .none\/∃a:Int,f0=rawInt a)
theorem qaL {e it r:Addr} {i:Int} {x f0 f1 old:Value} {Q:PySem.Fin->Shared->Prop} (he:s.heap.get? e=some {cls:=.type "enumerate",dict:=none,data:=.fields #[f0,f1,.ref it,rawInt i,.none,old],slots:=#[]}) (hf:f0 = .none\/∃a:Int,f0=rawInt a)
    (hQ:∀h',iD h' e it i->Heap.SameBut e s.heap h'->Q (.done (.ret (.ref r))) {s with heap:=h'}) :
    wpAny (model prog w) A (Builtin.SmallTypes.ownedTupleIsFree (.ref e) >>= λb=>if b=true then (rule "enumerate.__next__.owned-tuple-again" >>= λ_=>field (.ref e) 5 >>= λo=>setField (.ref e) 5 x >>= λ_=>Builtin.SmallTypes.ownedTupleHandOut (.ref e) (.ref r) >>= λ_=>letGo [o] [.ref r] >>= λ_=>ret (.ref r)) else ret (.ref r)) Q E s:=by
  have out:wpAny (model prog w) A (rule "enumerate.__next__.owned-tuple-again" >>= λ_=>field (.ref e) 5 >>= λo=>setField (.ref e) 5 x >>= λ_=>Builtin.SmallTypes.ownedTupleHandOut (.ref e) (.ref r) >>= λ_=>letGo [o] [.ref r] >>= λ_=>ret (.ref r)) Q E s:=by
    refine qlS (qn2 ?_);refine qlS (qmD he rfl (x:=old) rfl ?_);refine qlS (qmW he (by simp) λh5 he5 hs5=>?_);refine qlS ?_;unfold Builtin.SmallTypes.ownedTupleHandOut;refine qlS (qmW he5 (by simp) λh6 he6 hs6=>?_);refine qmW he6 (by simp) λh7 he7 hs7=>?_;refine qlS (qnp (qlV (hQ h7 ⟨rawInt r,.bool false,x,he7,.inr ⟨_,rfl⟩⟩ ?_)));exact⟨hs7.1.trans (hs6.1.trans hs5.1),λc hc=>(hs7.2 c hc).trans ((hs6.2 c hc).trans (hs5.2 c hc))⟩
  refine qlS ?_;unfold Builtin.SmallTypes.ownedTupleIsFree;refine qlS (qmD he rfl (x:=f0) rfl ?_)
  rcases hf with rfl | ⟨a,rfl⟩
  ·exact qlV out
  . show wpAny (model prog w) A (loadIfAlive a.toNat >>= _) _ _ s;refine qlS (Xn ?_);cases hl:s.heap.get? a.toNat with
    | none=>exact qlV out
    | some ob=>
      show wpAny (model prog w) A (field (.ref e) 1 >>= _) _ _ s;refine qlS (qmD he rfl (x:=f1) rfl ?_)
      by_cases hb:(f1 != .bool true)=true
      ·rw[if_pos hb];refine qlS (qmW he (by simp) λh5 he5 hs5=>?_);exact qlV (qlV (hQ h5 ⟨rawInt a,.bool true,old,he5,.inr ⟨_,rfl⟩⟩ hs5))
      ·rw[if_neg hb];exact qlV (qlV (hQ s.heap ⟨rawInt a,f1,old,he,.inr ⟨_,rfl⟩⟩ ⟨rfl,λ_ _=>rfl⟩))
theorem Cz {b:Bool} {e it l:Addr} {i:Nat} {items:Array Value} {x:Value} {Q:Option Value->Shared->Prop}
    (he:iD s.heap e it i) (st:kj b it l items i s.heap) (hx:items[i]? = some x)
    (hQ:∀h',iD h' e it ((i:Int)+1)->kj b it l items (i+1) h'->h'.get? s.heap.objs.size=some {cls:=.type "tuple",data:=.seq #[.int i s.toks,x]}->
      (∀c o,c≠e->c≠it->s.heap.get? c=some o->h'.get? c=some o)->Q (some (.ref s.heap.objs.size)) {s with heap:=h',toks:=s.toks+1}) :
    wpAny (model prog w) A (pyNext (.ref e)) Q E s:=by
  obtain⟨f0,f1,old,he,hf⟩:=he;obtain⟨oi,Ti,hoi,hci,hTi⟩:=Xo st;obtain⟨ol,Tl,hol,hcl,hTl⟩:=qcq st;have hne:it≠e:=aQ hoi he hci rfl hTi;have hnl:l≠e:=aQ hol he hcl rfl hTl;have hT:s.TypeIs (.ref e) "enumerate" :=⟨_,he,rfl⟩;unfold pyNext;refine qlS (wpAny_attempt (qm9 (name:=Str.ofString "__next__") hT qns (qnb qns hT F.entry_enumerate_next ?_ (F.args_enumerate_next_1 _))));obtain⟨hp,g,d,tk,os⟩:=s;show wpAny (model prog w) _ (field (.ref e) 2 >>= _) _ _ _;refine qlS (qmD he rfl (x:=.ref it) rfl ?_);refine qlS (Cy st hx λh1 st1 hs1=>?_);replace hs1:Heap.SameBut it hp h1:=hs1;have FJ:=(hs1.2 e hne.symm).trans he;show wpAny (model prog w) _ (field (.ref e) 3 >>= _) _ _ ⟨h1,g,d,tk,os⟩;refine qlS (qmD FJ rfl (x:=rawInt i) rfl ?_);show wpAny (model prog w) _ (field (.ref e) 4 >>= _) _ _ ⟨h1,g,d,tk,os⟩;refine qlS (qmD FJ rfl (x:=.none) rfl ?_);show wpAny (model prog w) _ (mkInt i >>= _) _ _ ⟨h1,g,d,tk,os⟩;refine qlS (wpAny_mkInt ?_);show wpAny (model prog w) _ (setField (.ref e) 3 (rawInt ((i:Int)+1)) >>= _) _ _ ⟨h1,g,d,tk+1,os⟩;refine qlS (qmW FJ (by simp) λh2 he2 hs2=>?_);replace hs2:Heap.SameBut e h1 h2:=hs2;show wpAny (model prog w) _ (setField (.ref e) 4 .none >>= _) _ _ ⟨h2,g,d,tk+1,os⟩;refine qlS (qmW he2 (by simp) λh3 he3 hs3=>?_);replace hs3:Heap.SameBut e h2 h3:=hs3;show wpAny (model prog w) _ (newTuple [.int i tk,x] >>= _) _ _ ⟨h3,g,d,tk+1,os⟩;refine qlS (wpAny_newTuple ?_);have hsz:h3.objs.size=hp.objs.size:=by rw[hs3.1,hs2.1,hs1.1]
  have hel:e<hp.objs.size:=qlW he;have he4:(h3.push {cls:=.type "tuple",data:=.seq #[.int i tk,x]}).get? e=some {cls:=.type "enumerate",dict:=none,data:=.fields #[f0,f1,.ref it,rawInt ((i:Int)+1),.none,old],slots:=#[]}:=qlU _ he3;have ht4:(h3.push {cls:=.type "tuple",data:=.seq #[.int i tk,x]}).get? hp.objs.size=some {cls:=.type "tuple",data:=.seq #[.int i tk,x]}:=by rw[<- hsz];exact ql0 _ rfl
  have hk4:∀c o,c≠e->c≠it->hp.get? c=some o->(h3.push {cls:=.type "tuple",data:=.seq #[.int i tk,x]}).get? c=some o:=λc o h1 h2 h3=>qlU _ (hs3.extBut c o h1 (hs2.extBut c o h1 (hs1.extBut c o h2 h3)));have st4:kj b it l items (i+1) (h3.push {cls:=.type "tuple",data:=.seq #[.int i tk,x]}):=wW st1 (λo z=>qlU _ (hs3.extBut _ _ hne (hs2.extBut _ _ hne z))) (λo z=>qlU _ (hs3.extBut _ _ hnl (hs2.extBut _ _ hnl z)));refine qaL (s:=⟨h3.push {cls:=.type "tuple",data:=.seq #[.int i tk,x]},g,d,tk+1,os⟩) he4 hf λh5 hE5 hs5=>⟨_,rfl,qlV ?_⟩;rw[show(Shared.mk h3 g d (tk+1) os).heap.objs.size=hp.objs.size from hsz];refine hQ h5 hE5 (wW st4 (λo z=>(hs5.2 _ hne).trans z) (λo z=>(hs5.2 _ hnl).trans z)) ((hs5.2 _ (qmY hel)).trans ht4) λc o h1 h2 h3=>(hs5.2 c h1).trans (hk4 c o h1 h2 h3)
end
end L2
namespace PySem
open Sem (wp)
theorem sV:typeLookup (.type "enumerate") "__getattr__" = pure none:=by rw[typeLookup_type,qn9];kernel_rfl
theorem wX:typeLookup (.type "enumerate") "keys" = pure none:=by rw[typeLookup_type,qn9];kernel_rfl
theorem mU:entryFor table "enumerate.__getattribute__" = some Builtin.«object.__getattribute__»:=
  entryFor_alias (id':= "object.__getattribute__") (by kernel_rfl) (by decide+kernel) (by decide+kernel) (by kernel_rfl)
theorem Jx (a:Addr) (xs:Array Value) (sl:Array (Option Value)) (name:Str) (u:Tok) (hmiss:typeLookup (.type "enumerate") name=pure none) (hname:(["__module__", "__name__", "__qualname__", "__doc__", "__annotations__"]:List Str).contains name=false) (hsz:name.length+100<=sizeLine:=by size_fits) :
    Meets (Builtin.«object.__getattribute__» ⟨[.ref a,.str name u],[]⟩) (λA R s=>s.heap.get? a=some {cls:=.type "enumerate",dict:=none,data:=.fields xs,slots:=sl}/\raisesAttr (.ref a) name A R s):=
  Meets.of_wp λprog w A R s hs=>by
    obtain⟨hp,g,d,tk,os⟩:=s;obtain⟨hx,hs⟩:=hs;have hT:(⟨hp,g,d,tk,os⟩:Shared).TypeIs (.ref a) "enumerate" :=⟨_,hx,rfl⟩;unfold Builtin.«object.__getattribute__»
    repeat (any_goals (first | assumption | wp_step))
    simp only[hname,qm3,if_false]
    repeat (any_goals (first | assumption | wp_step))
    exact wpAny_raiseAttrError hs.1 hs.2 (attrMsg_fits (by decide+kernel) hsz)
theorem Jy {prog:Program} {w:World} {A:Around} {E:Value->Shared->Prop} {s:Shared} {a:Addr} {xs:Array Value} {Q:Option Value->Shared->Prop}
    (hx:s.heap.get? a=some {cls:=.type "enumerate",dict:=none,data:=.fields xs,slots:=#[]}) (hA:A.handled=none)
    (h:∀h' tk,(∀b o,s.heap.get? b=some o->h'.get? b=some o)->Q none {s with heap:=h',toks:=tk}) :
    wpAny (model prog w) A (getAttr? (.ref a) "keys") Q E s:=by
  obtain⟨hp,g,d,tk,os⟩:=s;have hT:∀tk',(⟨hp,g,d,tk',os⟩:Shared).TypeIs (.ref a) "enumerate" :=λ_=>⟨_,hx,rfl⟩;have f1:=sub_AttributeError;have f3:=F.slot_enumerate_getattribute.lookup;have f4:=F.slot_enumerate_getattribute.bind (.ref a);have f5:=sV;have hname:(["__module__", "__name__", "__qualname__", "__doc__", "__annotations__"]:List Str).contains "keys" = false:=by decide
  unfold getAttr? getAttrBy? getAttrBy
  repeat (any_goals (first | assumption | exact hT _ | ((with_reducible show wpAny _ _ (call (Value.builtin "enumerate.__getattribute__") _ _) _ _ _);refine call_meets F.slot_enumerate_getattribute (hT _) mU (F.args_enumerate_getattribute_2 _ _) (Jx a xs #[] "keys" _ wX hname) ⟨hx,hA,λh' tk' e hx'=>?_⟩) | wp_step))
  obtain⟨t',u',he⟩:=hx'.there;show wpAny _ _ (getattributeRaised _ _ _ _ _ _ _) _ _ _;unfold getattributeRaised
  repeat (any_goals (first | assumption | wp_step))
  exact h _ _ hx'.of.keeps
end PySem
namespace PySem
open Sem (wp)
open AutoSeq1 (wpAny_loadPart')
theorem wY (l:Addr) (items:Array Value) (n:Nat) (dct:Option Addr) (sl:Array (Option Value)) :
    Meets (Builtin.«enumerate.__new__» ⟨[.type "enumerate",.ref l],[]⟩) (λ_ R s=>s.heap.get? l=some {cls:=.type "tuple",dict:=dct,data:=.seq items n,slots:=sl}/\
      R (.ok (.ret (.ref (s.heap.push {cls:=.type "tuple_iterator",data:=.fields #[.ref l,.int 0 0]}).objs.size)))
        {s with heap:=(s.heap.push {cls:=.type "tuple_iterator",data:=.fields #[.ref l,.int 0 0]}).push {cls:=.type "enumerate",data:=.fields #[.none,.bool false,.ref s.heap.objs.size,rawInt 0,.none,.none]}}):=
  .of_wp λprog w A R s h=>by
    obtain⟨hp,g,d,tk,os⟩:=s;obtain⟨hl,h⟩:=h;have hsub:=sub_enumerate;have hL:Heap.IsTuple (Shared.heap ⟨hp,g,d,tk,os⟩) l items:=⟨_,hl,rfl,n,rfl⟩
    wp_walk using wpAny_loadPart' hl
    refine wpAny_stack_any λst=>qlV ?_;split
    . rename_i c _ _ _ _ _;cases (c == Value.type "enumerate")
      . wp_walk using wpAny_loadPart' hl,qnt hL
        exact⟨_,rfl,h⟩
      . wp_walk using wpAny_loadPart' hl,qnt hL
        exact⟨_,rfl,h⟩
    . wp_walk using wpAny_loadPart' hl,qnt hL
      exact⟨_,rfl,h⟩
section
variable {prog:Program} {w:World} {A:Around} {E:Value->Shared->Prop} {s:Shared}
theorem nJ {b:Bool} {l:Addr} {items:Array Value} {Q:Value->Shared->Prop} (hL:match b with | true=>s.heap.IsList l items | false=>s.heap.IsTuple l items)
    (h:∀h',L2.iD h' (s.heap.objs.size+1) s.heap.objs.size 0->L2.kj b s.heap.objs.size l items 0 h'->h'.objs.size=s.heap.objs.size+2->
      (∀b o,s.heap.get? b=some o->h'.get? b=some o)->Q (.ref (s.heap.objs.size+1)) {s with heap:=h'}) :
    wpAny (model prog w) A (call (.type "enumerate") [.ref l]) Q E s:=by
  cases b with
  | true=>
    exact call_enumerate_list hL λh' b1 b2 b3 kk=>h h' ⟨_,_,_,b1,.inl rfl⟩ ⟨b2,hL.at λo z=>kk _ _ z⟩ b3 kk
  | false=>
    obtain⟨⟨c,dct,dt,sl⟩,hl,hc,n,hd⟩:=id hL;replace hc:c = .type "tuple" :=hc;replace hd:dt = .seq items n:=hd;subst hc hd;refine callType_new F.called_enumerate (by decide) (F.typeCall_enumerate_1 _) (F.newCall_enumerate_1 _) (λobj=>F.args_object_init_2 obj _) F.entry_enumerate_new
      (wY l items n dct sl) ⟨hl,?_⟩
    have hz:(s.heap.push {cls:=.type "tuple_iterator",data:=.fields #[.ref l,.int 0 0]}).objs.size=s.heap.objs.size+1:=qmm ..;show _/\_;rw[hz];have he:L2.iD ((s.heap.push {cls:=.type "tuple_iterator",data:=.fields #[.ref l,.int 0 0]}).push
        {cls:=.type "enumerate",data:=.fields #[.none,.bool false,.ref s.heap.objs.size,rawInt 0,.none,.none]}) (s.heap.objs.size+1) s.heap.objs.size 0:=by
      have:=ql0 (s.heap.push {cls:=.type "tuple_iterator",data:=.fields #[.ref l,.int 0 0]})
        (o:={cls:=.type "enumerate",data:=.fields #[.none,.bool false,.ref s.heap.objs.size,rawInt 0,.none,.none]}) rfl
      rw[hz] at this;exact⟨_,_,_,this,.inl rfl⟩
    obtain⟨_,_,_,he',_⟩:=id he;have kk:∀b o,s.heap.get? b=some o->((s.heap.push {cls:=.type "tuple_iterator",data:=.fields #[.ref l,.int 0 0]}).push
        {cls:=.type "enumerate",data:=.fields #[.none,.bool false,.ref s.heap.objs.size,rawInt 0,.none,.none]}).get? b=some o:=λb o x=>qlU _ (qlU _ x)
    refine⟨⟨_,he',rfl⟩,h _ he ⟨⟨_,qlU _ (ql0 _ rfl),rfl,rfl⟩,⟨_,kk _ _ hl,rfl,n,rfl⟩⟩ (by rw[qmm,hz]) kk⟩
end
end PySem
namespace L2
open PySem PySem.Spec PyProof.Rows
section
variable {prog:Program} {w:World} {A:Around} {E:Value->Shared->Prop} {s:Shared}
theorem CG {b:Bool} {e it l:Addr} {i:Nat} {items:Array Value} {Q:Option Value->Shared->Prop} (hh:A.handled=none)
    (he:iD s.heap e it i) (st:kj b it l items i s.heap) (hx:items[i]? = none)
    (hQ:∀h',Heap.ExtBut it s.heap h'->Q none {s with heap:=h'}):wpAny (model prog w) A (pyNext (.ref e)) Q E s:=by
  obtain⟨f0,f1,old,he,hf⟩:=he;have hT:s.TypeIs (.ref e) "enumerate" :=⟨_,he,rfl⟩;unfold pyNext;refine qlS (wpAny_attempt (qm9 (name:=Str.ofString "__next__") hT qns
    (qnb qns hT F.entry_enumerate_next ?_ (F.args_enumerate_next_1 _))))
  show wpAny _ _ (field (.ref e) 2 >>= _) _ _ _;refine qlS (qmD he rfl (x:=.ref it) rfl ?_);refine qlS (Xp hh st hx λh' x he' hx'=>?_);obtain⟨o,ho,hc⟩:=hx';refine qlS (wpAny_isInstance (T:= "StopIteration") (b:=true) ⟨o,ho,hc⟩ isSubtype_stop ?_);exact qlV (hQ _ he')
end
theorem wZ:entryFor table "dict.update.loop" = some Builtin.«dict.update.loop»:=entryFor_of_fast (by kernel_rfl)
theorem lY:plainId "dict.update.loop" = true:=by decide+kernel
def nums {α:Type}:Nat->List α->List (Key×α)
  | _,[]=>[]
  | n,x::xs=>(Sum.inl (n:Int),x)::nums (n+1) xs
theorem CJ {α:Type}:∀(n:Nat) (xs:List α),(nums n xs).length=xs.length
  | _,[]=>rfl
  | n,x::xs=>by rw[nums,qml,qml,CJ]
theorem Ml {α:Type}:∀(n:Nat) (xs:List α) (y:α),nums n (xs++[y])=nums n xs++[(Sum.inl ((n+xs.length:Nat):Int),y)]
  | n,[],y=>rfl
  | n,x::xs,y=>by
    rw[List.cons_append,nums,Ml (n+1) xs y,nums,List.cons_append,qml,Nat.add_right_comm,Nat.add_assoc]
theorem Mp {α:Type}:∀(n:Nat) (xs:List α) (m:Nat),(nums n xs).any (λkv=>decide (kv.1=(Sum.inl (m:Int):Key)))=true->n<=m/\m<n+xs.length
  | n,[],m,h=>by simp[nums] at h
  | n,x::xs,m,h=>by
    rw[nums,qnR,Bool.or_eq_true] at h
    rcases h with h | h
    . have h1:=qmn h;injection h1 with h1;have h2:n=m:=by omega
      subst h2;simp
    ·have:=Mp (n+1) xs m h;rw[qml];omega
theorem qaM:∀{ys:List V} {its:List Value} (n:Nat),Vals ys its->KV (nums n ys) (nums n its):=by
  intro ys its n r
  induction r generalizing n with
  | nil=>exact .nil
  | cons h t ih=>exact .cons ⟨rfl,h⟩ (ih (n+1))
section
variable {P:Program} {w:World} {A:Around} {R:Result->Shared->Prop} {b:Bool} {e it l D:Addr} {its:List Value}
theorem qaN (hh:A.handled=none) (h1:D≠e) (h2:D≠it) (h3:D≠l) (hs:its.length<=sizeLine) :
    ∀(k i:Nat) (s:Shared),its.length - i=k->i<=its.length->iD s.heap e it i->kj b it l its.toArray i s.heap->s.heap.DictOf (bJ P w) D (nums 0 (its.take i))->
      (∀h' tk,(∀c o,c≠D->c≠e->c≠it->s.heap.get? c=some o->h'.get? c=some o)->h'.DictOf (bJ P w) D (nums 0 its)->R (.ok (.ret .none)) {s with heap:=h',toks:=tk})->
      codeAny (model P w) A (.builtin "dict.update.loop" ⟨[.ref D,.ref e,rawInt i,.none],[]⟩) R s:=by
  intro k
  induction k with
  | zero=>
    intro i s hk hi hE hst hD hR;obtain rfl:i=its.length:=by omega
    refine qmR wZ ?_;rw[qmH lY _];show wpAny _ A.in1 (pyNext (.ref e) >>= _) _ _ s;refine qlS (CG (A:=A.in1) hh hE hst (by simp) λh' hm=>?_);refine qlS (qlV ?_);refine qlV (hR h' s.toks (λc o c1 c2 c3 z=>hm c o c3 z) ?_);rw[ql4] at hD;exact hD.extBut hm h2
  | succ k ih=>
    intro i s hk hi hE hst hD hR;have hlt:i<its.length:=by omega
    refine qmR wZ ?_;rw[qmH lY _];show wpAny _ A.in1 (pyNext (.ref e) >>= _) _ _ s;refine qlS (Cz hE hst (x:=its[i]) (by simp[hlt]) λh' hE' hst' ht hm=>?_);have hT:(Shared.mk h' s.gens s.drawn (s.toks+1) s.os).TypeIs (.ref s.heap.objs.size) "tuple" :=⟨_,ht,rfl⟩;show wpAny _ A.in1 (holding _ _ >>= _) _ _ _;refine qlS (qmF ?_);refine qlS (qm5 ?_);unfold Builtin.Dict.pairItems;refine qlS (wpAny_typeOf hT ?_);rw[if_pos (by decide)];refine qlS (qmQ ht rfl ?_);refine qlV ?_;show wpAny _ A.in1 (holding _ (dictSet D (.int i s.toks) its[i])) _ _ _;refine qmF ?_;have hD':h'.DictOf (bJ P w) D (nums 0 (its.take i)):=by
      obtain⟨o,es,ep,ho,r⟩:=hD;exact⟨o,es,ep,hm D o h1 h2 ho,r⟩
    refine wpAny_dictSet_pairs (knd:=bJ P w) (k:=Sum.inl (i:Int)) (s:=Shared.mk h' s.gens s.drawn (s.toks+1) s.os) (zN P w i s.toks) hD' (λh2' hD2 hsb=>?_) (by rw[CJ,ql7];omega);have ei:(i:Int)+1=((i+1:Nat):Int):=by omega
    have est:stored (nums 0 (its.take i)) (Sum.inl (i:Int)) its[i]=nums 0 (its.take (i+1)):=by
      unfold stored;rw[if_neg (λz=>?_)]
      ·rw[List.take_succ_eq_append_getElem hlt,Ml,ql7,qn5 (by omega),qn1]
      ·have:=Mp _ _ _ z;rw[ql7] at this;omega
    rw[est] at hD2;rw[ei] at hE';refine qlV ⟨qm7 lY _,?_⟩;show codeAny _ A (.builtin "dict.update.loop" ⟨[.ref D,.ref e,rawInt ((i:Int)+1),.none],[]⟩) _ _;rw[ei];refine ih (i+1) _ (by omega) hlt ?_ (wW hst' (λo z=>(hsb.2 _ h2.symm).trans z) (λo z=>(hsb.2 _ h3.symm).trans z)) hD2 λh3' tk hm3 jE=>?_
    ·obtain⟨f0,f1,old,q,hf⟩:=hE';exact⟨f0,f1,old,(hsb.2 _ h1.symm).trans q,hf⟩
    ·exact hR h3' tk (λc o c1 c2 c3 z=>hm3 c o c1 c2 c3 ((hsb.2 c c1).trans (hm c o c2 c3 z))) jE
end
section
variable {P:Program} {w:World} {A:Around} {E:Value->Shared->Prop} {s:Shared} {b:Bool} {e it l:Addr} {its:List Value}
theorem Jz {Q:Value->Shared->Prop} (hT:s.TypeIs (.ref e) "enumerate") (h:Q (.ref e) s):wpAny (model P w) A (pyIter (.ref e)) Q E s:=by
  refine wpAny_pyIter_slot hT qn_ (qnb qn_ hT F.entry_enumerate_iter ?_ (F.args_enumerate_iter_1 _));show wpAny _ _ (ret (.ref e)) _ _ s;exact qlV ⟨_,rfl, "enumerate",_,hT,qns.lookup,h⟩
theorem qaO {Q:Value->Shared->Prop} (hh:A.handled=none) (hE:iD s.heap e it 0) (hst:kj b it l its.toArray 0 s.heap) (hs:its.length<=sizeLine)
    (h:∀h' tk,(∀c o,c≠e->c≠it->s.heap.get? c=some o->h'.get? c=some o)->h'.DictOf (bJ P w) s.heap.objs.size (nums 0 its)->Q (.ref s.heap.objs.size) {s with heap:=h',toks:=tk}) :
    wpAny (model P w) A (call (.type "dict") [.ref e]) Q E s:=by
  obtain⟨f0,f1,old,he,hf⟩:=hE;obtain⟨oi,Ti,hoi,hci,hTi⟩:=Xo hst;obtain⟨ol,Tl,hol,hcl,hTl⟩:=qcq hst;refine callType_codes (Q₁:=λobj s₁=>obj = .ref s.heap.objs.size/\s₁={s with heap:=s.heap.push {cls:=.type "dict",data:=.dict #[]}}) F.kt_called_dict (F.kt_typeCall_dict_1 _) F.entry_dict_init (kt_code_dict_new _ ⟨rfl,rfl⟩) ?_;rintro obj s₁ ⟨rfl,rfl⟩;have hnew:(s.heap.push {cls:=.type "dict",data:=.dict #[]}).DictOf (bJ P w) s.heap.objs.size []:=Heap.DictOf.new s.heap;have kp:∀c o,s.heap.get? c=some o->(s.heap.push {cls:=.type "dict",data:=.dict #[]}).get? c=some o:=λc o z=>qlU _ z;have ne:∀{c o},s.heap.get? c=some o->s.heap.objs.size≠c:=λz=>qmY (qlW z);have hT:(Shared.mk (s.heap.push {cls:=.type "dict",data:=.dict #[]}) s.gens s.drawn s.toks s.os).TypeIs (.ref e) "enumerate" :=⟨_,kp _ _ he,rfl⟩;refine⟨hnew.typeIs,F.args_dict_init_2 _ _,?_⟩;unfold Builtin.«dict.__init__»;refine qlS ?_;unfold Builtin.Dict.selfAndRest;refine qlS (wpAny_notOrdered_dict hnew.typeIs ?_);show wpAny _ _ (pure (s.heap.objs.size,[Value.ref e])) _ _ _;refine qlV ?_;show wpAny _ _ (Builtin.Dict.updateFrom "dict.__init__" s.heap.objs.size (.ref e) [] .none) _ _ _;unfold Builtin.Dict.updateFrom;refine qlS (wpAny_typeOf hT ?_);rw[if_pos (by decide)];show wpAny (model P w) A.in1.in1 (getAttr? (.ref e) "keys" >>= _) _ _ _;refine qlS (Jy (A:=A.in1.in1) (kp _ _ he) hh λh1 tk1 k1=>?_);have FJ:=k1 _ _ (kp _ _ he);have hT1:(Shared.mk h1 s.gens s.drawn tk1 s.os).TypeIs (.ref e) "enumerate" :=⟨_,FJ,rfl⟩;simp only[Option.isNone_none,if_true];refine qlS (qn2 ?_);refine qlS (Jz (s:=Shared.mk h1 s.gens s.drawn tk1 s.os) hT1 ?_);refine qlV ⟨qm7 lY _,?_⟩;have hD1:h1.DictOf (bJ P w) s.heap.objs.size []:=by
    obtain⟨o,es,ep,ho,r⟩:=hnew;exact⟨o,es,ep,k1 _ o ho,r⟩
  refine qaN (A:=A.in1) (b:=b) (l:=l) (it:=it) hh (ne he) (ne hoi) (ne hol) hs its.length 0 _ (by omega) (qmK _) ⟨f0,f1,old,FJ,hf⟩ (wW hst (λo z=>k1 _ _ (kp _ _ z)) (λo z=>k1 _ _ (kp _ _ z))) (by simpa [nums] using hD1) λh' tk hm hD=>⟨rfl,h h' tk (λc o c1 c2 z=>hm c o (ne z).symm c1 c2 (k1 _ _ (kp _ _ z))) hD⟩
end
section
variable {X:Cx} {K:W.Frag}
def tDE (K:W.Frag) (t:TA):TE:=λσ H Q=>t σ H λvs H1=>∃a xs,vs=[.ref a]/\(aX K H1 a xs\/dO K H1 a xs)/\∀p,H1 p=none->Q (.ref p) (upd H1 p (.dK (nums 0 xs)))
@[simp ↓] theorem qk5 (K:W.Frag) (t:TA) σ H Q:tDE K t σ H Q=(t σ H λvs H1=>∃a xs,vs=[.ref a]/\(aX K H1 a xs\/dO K H1 a xs)/\∀p,H1 p=none->Q (.ref p) (upd H1 p (.dK (nums 0 xs)))):=rfl
theorem Mq (hK:X.K=K) (hc:X.calm=true) {a:Expr} {ta:TA} {p p2 pos pos2:Pos} (hg1:Gl X "dict") (hm1:X.mg "dict" = none) (hg2:Gl X "enumerate") (hm2:X.mg "enumerate" = none) (ha:PA X [a] ta)
    (hs:starEach [a] X.env=[(false,eval a X.env)]:=by rfl)
    (hs1:starEach [.Call (.Name "enumerate" p2) [a] [] pos2] X.env=[(false,eval (.Call (.Name "enumerate" p2) [a] [] pos2) X.env)]:=by rfl) :
    PE X (.Call (.Name "dict" p) [.Call (.Name "enumerate" p2) [a] [] pos2] [] pos) (tDE K ta):=by
  subst hK;intro p_ s σ H Q I h;refine qmS (jh I hg1 hm1 Py ?_ (by decide) (by decide));refine qmE ?_ (by rw[hs1];rfl) (by rfl);rw[hs1];show wpAny _ _ (spliced ((false,eval (.Call (.Name "enumerate" p2) [a] [] pos2) X.env)::[])) _ _ s;refine qnY ?_;refine qmS (jh I hg2 hm2 yW ?_ (by decide) (by decide));refine qmE (bY (ha pos2 p_ s σ H _ I h) λus s1 zz=>?_) (by rw[hs];rfl) (by rfl);obtain⟨vs,H1,I1,r1,q1⟩:=zz;obtain⟨l1,xs,rfl,qa,q⟩:=q1;obtain⟨u,rfl,r⟩:=vals1 r1;obtain rfl:u=Value.ref l1:=r;have go:∃(b:Bool) (its:List Value),Vals xs its/\its.length<=sizeLine/\(match b with | true=>s1.heap.IsList l1 its.toArray | false=>s1.heap.IsTuple l1 its.toArray):=by
    rcases qa with qa | qa
    ·obtain⟨its,rv,pl,hz⟩:=I1.list qa;exact⟨true,its,rv,by rw[<- rv.length];exact hz,pl.isList⟩
    ·obtain⟨its,rv,pl,hz⟩:=I1.tuple qa;exact⟨false,its,rv,by rw[<- rv.length];exact hz,pl⟩
  obtain⟨b,its,rv,hz,hL⟩:=go;refine nJ (b:=b) hL λh' b1 b2 b3 kk=>?_;refine Calls.spliced_nil ?_;refine qaO (s:={s1 with heap:=h'}) (b:=b) (I1.ok.hd hc) b1 b2 hz λh2 tk km hD=>?_;have Pu:∀c o,s1.heap.get? c=some o->h2.get? c=some o:=λc o z=>km c o (ql3 (qne (qlW z))) (ql3 (qlW z)) (kk c o z);have hle:s1.heap.objs.size<=h'.objs.size:=by rw[b3];omega
  have hf:H1 h'.objs.size=none:=I1.hok.fresh hle;refine⟨.ref h'.objs.size,_,I1.laid (o:=.dK (nums 0 xs)) (t':=tk) Pu hle ?_,rfl,q _ hf⟩;refine(show bZ _ _ _ _ _ (.dK (nums 0 xs)) from⟨by rw[CJ,rv.length];exact hz,?_,nums 0 its,qaM 0 rv,hD⟩);have h1:=I1.big;have h2:sysModules<h'.objs.size:=ql5 h1 hle;exact qnB.mpr (qmY h2)
end
structure Nm3 (mg:Str->Option Value):Prop where
  sum:mg "sum" = none
theorem boot_sum:bootBuiltins "sum" = some (.builtin "sum"):=by decide+kernel
theorem w5:∀{ys:List Str} {us:List Value},Vals (ys.map V.str) us->StrsAre us ys
  | [],_,r=>by rw[List.map_nil] at r;cases r;exact .nil
  | y::ys,_,r=>by
    rw[qmj] at r;cases r with
    | cons h t=>
      obtain⟨k,rfl⟩:=h;exact .cons y k (w5 t)
theorem Mr:∀{ns:List Int} {us:List Value},Vals (ns.map V.int) us->∃l:List (Int×Tok),us.toArray=intItems l.toArray/\l.map (·.1)=ns
  | [],_,r=>by rw[List.map_nil] at r;cases r;exact⟨[],by simp[intItems],rfl⟩
  | y::ys,_,r=>by
    rw[qmj] at r;cases r with
    | @cons _ _ _ us h t=>
      obtain⟨k,rfl⟩:=h;obtain⟨l,h1,h2⟩:=Mr t;refine⟨(y,k)::l,?_,by rw[qmj,h2]⟩;have:us=l.map λp=>Value.int p.1 p.2:=by simpa [intItems] using qmr Array.toList h1
      rw[this];simp[intItems]
section
variable {X:Cx} {K:W.Frag}
def rJoin:V->List V->Hp->VK->Prop:=λx xs H Q=>∃(sep:Str) (l:Addr) (ys:List Str),x = .str sep/\xs=[.ref l]/\H l=some (.lst (ys.map V.str))/\(ys.map (·.length)).sum+ys.length * sep.length<=16777216/\Q (.str (Txt.join sep ys)) H
theorem qaP:Pg X "str.join" rJoin:=by
  intro p_ s σ H x xs v us Q I rx rs q;obtain⟨sep,l,ys,rfl,rfl,hl,hz,q⟩:=q;obtain⟨u,rfl,ru⟩:=rs.one;obtain rfl:u=Value.ref l:=ru;obtain⟨t,rfl⟩:=rx;obtain⟨its,rv,pl,hz1⟩:=I.list (aX.of hl);exact join_list pl.isList (by simpa using w5 rv) hz λt' k=>⟨.str _,H,I.tok _,⟨t',rfl⟩,q⟩
def Xq (K:W.Frag):V->List V->Hp->VK->Prop:=λx xs H Q=>∃(l:Addr) (ys:List Str) (k:Str),x = .ref l/\xs=[.str k]/\aX K H l (ys.map V.str)/\Q (.int (ys.count k:Nat)) H
theorem uP (k:Str):∀ys:List Str,countIn (.str k) (ys.map PyData.str)=((ys.count k:Nat):Int)
  | []=>rfl
  | y::ys=>by
    rw[countIn_strs_sum,qmj,qnI,<- countIn_strs_sum,uP k ys,List.count_cons]
    by_cases h:(y == k)=true
    ·rw[if_pos h,if_pos h];omega
    ·rw[if_neg h,if_neg h];omega
theorem Xr (hK:X.K=K):Pg X "list.count" (Xq K):=by
  subst hK;intro p_ s σ H x xs v us Q I rx rs q;obtain⟨l,ys,k,rfl,rfl,hl,q⟩:=q;obtain⟨u,rfl,ru⟩:=rs.one;obtain⟨t,rfl⟩:=ru;obtain rfl:v=Value.ref l:=rx;obtain⟨its,rv,pl,hz1⟩:=I.list hl;refine count_list_strs pl.isList (w5 rv) ?_;rw[uP];exact⟨.int _,H,I.tok _,⟨_,rfl⟩,q⟩
def qgb (K:W.Frag):List V->Hp->VK->Prop:=λxs H Q=>∃(l:Addr) (ns:List Int),xs=[.ref l]/\aX K H l (ns.map V.int)/\Q (.int ns.sum) H
theorem Uw (hK:X.K=K) (hc:X.calm=true):cj X (.builtin "sum") (qgb K):=by
  subst hK;intro p_ s σ H xs us Q I r h;obtain⟨l,ns,rfl,hl,q⟩:=h;obtain⟨u,rfl,ru⟩:=r.one;obtain rfl:u=Value.ref l:=ru;obtain⟨its,rv,pl,hz1⟩:=I.list hl;obtain⟨ls,e1,e2⟩:=Mr rv;have hL:=pl.isList;rw[e1] at hL;refine sum_intListG (I.ok.hd hc) hL λh' tk t' kk=>⟨.int _,H,I.kept (t':=tk) kk,⟨t',rfl⟩,?_⟩;rw[preSum_eq,List.take_of_length_le (by simp)];rw[show(ls.toArray.toList.map (·.1))=ns from e2];exact q
theorem qjV (hK:X.K=K):SlR X (qat K):=by subst hK;exact qau
@[simp ↓] theorem qiF (K:W.Frag) x lo hi H Q:qat K x lo hi H Q=(∃a xs,x = .ref a/\aX K H a xs/\∀p,H p=none->Q (.ref p) (upd H p (.lst (yP xs lo hi)))):=rfl
theorem Hi:∀(xs:List Str) (a:Array Nat),(xs.foldl (λacc p=>acc++(Str.ofString "").cps++p.cps) a).toList=a.toList++xs.flatMap (·.cps.toList)
  | [],a=>by simp
  | x::xs,a=>by
    rw[List.foldl_cons,Hi xs];rw[show(Str.ofString "").cps = #[] from rfl,Array.append_empty];simp
theorem Ux (ys:List Str):(Txt.join (Str.ofString "") ys).cps.toList=ys.flatMap (·.cps.toList):=by
  cases ys with
  | nil=>rfl
  | cons x xs=>
    show(List.foldl _ x.cps xs).toList=_;exact(Hi xs x.cps).trans (by simp)
theorem sW:∀(ys:List Str),(∀y∈ys,∃n,n<26/\y=⟨#[97+n]⟩)->(ys.flatMap (·.cps.toList)).length=ys.length/\(ys.flatMap (·.cps.toList)).all isL=true/\(ys.map (·.length)).sum=ys.length
  | [],_=>by simp
  | y::ys,h=>by
    obtain⟨n,hn,rfl⟩:=h y (ql6 ..);obtain⟨h1,h2,h3⟩:=sW ys λz hz=>h z (qlZ _ hz);refine⟨by simp only[List.flatMap_cons,qmb,qml,h1];simp;omega,by rw[List.flatMap_cons,List.all_append,h2];simp[Xc n hn],?_⟩;rw[qmj,qnI,h3,qml];show 1+_=_;omega
theorem qu.glue {c k:Nat} {x:Str} (h:qu c k x) (hk:0<k) {ys:List Str} (hy:∀y∈ys,∃n,n<26/\y=⟨#[97+n]⟩):qu c (k+ys.length) (x++Txt.join (Str.ofString "") ys):=by
  obtain⟨h1,h2,h3⟩:=h;obtain⟨y1,y2,_⟩:=sW ys hy;have e:=Ux ys;have hs:x.cps.size=k:=h1;refine⟨?_,?_,?_⟩
  ·show(x.cps++(Txt.join (Str.ofString "") ys).cps).size=_;rw[Array.size_append,hs,<- qoi,e,y1]
  ·show(x.cps++(Txt.join (Str.ofString "") ys).cps)[0]? = _;rw[Array.getElem?_append_left (by omega)];exact h2
  ·show(x.cps++(Txt.join (Str.ofString "") ys).cps).toList.all isL=true;rw[Array.toList_append,List.all_append,h3,e,y2];rfl
end
section
variable {X:Cx} {sc0 sc:Scope} {N0 own N:List Str} {caps:List Nat} {elt tg iter:Expr} {ifs:List Expr} {pos:Pos} {wi:TI} {g:TG} {tt:TT} {te:TE}
theorem Xu {C0 s0 H0 fp0 pn0} (S:aN sc0 sc N0 own caps N) (hc:(bw X sc0 N0 C0 s0 H0 fp0 pn0).calm=true) (hi:PI (bw X sc0 N0 C0 s0 H0 fp0 pn0) tg iter wi)
    (hg:∀C s H fp pn,PG (bw (bw X sc0 N0 C0 s0 H0 fp0 pn0) sc N C s H fp pn) tg g) (ht:∀C s H fp pn,Uj (bw (bw X sc0 N0 C0 s0 H0 fp0 pn0) sc N C s H fp pn) ifs tt) (he:∀C s H fp pn,PE (bw (bw X sc0 N0 C0 s0 H0 fp0 pn0) sc N C s H fp pn) elt te)
    (hs:∀x,foldedSetIterable iter (bw X sc0 N0 C0 s0 H0 fp0 pn0).env x=pure x:=by intro _;rfl):PE (bw X sc0 N0 C0 s0 H0 fp0 pn0) (.ListComp elt [⟨tg,iter,ifs,0⟩] sc pos) (RJ own caps wi g tt te):=by
  have S':aN (relabel sc0 X.env) sc N0 own caps N:=by
    refine⟨S.kind,S.uniq,S.nd,S.names,λp hp e=>?_,S.qfM⟩;rw[mQ]
    rcases S.free p hp e with h | h
    ·rw[h];exact .inl rfl
    . rw[h];simp only[Option.map_some];split
      ·exact .inl rfl
      ·exact .inr rfl
  exact bU (ps:=relabel sc0 X.env) (pN:=N0) rfl rfl S' hc hi hg ht he hs
end
def vI (n:Int) (e:Str×Str):Str:=if n=0 then e.1 else e.2
def lZ (n:Int) (e:Str×Str):Str:=if n=0 then e.2 else e.1
def jl:List Int->List (Str×Str)->Nat->List nH
  | n::ns,e::ps,k=>(k,vI n e,lZ n e)::jl ns ps (k+1)
  | _,_,_=>[]
theorem Xv (fx:Nat->Option Int):∀(ps:List (Str×Str)) (ns:List Int) (k:Nat),(∀i,fx (k+i)=ns[i]?)->ns.length=ps.length->(∀n∈ns,0<=n/\n<=1)->fH fx ps k=jl ns ps k
  | [],ns,k,_,hl,_=>by
    have:ns=[]:=List.length_eq_zero_iff.mp hl;subst this;rfl
  | e::ps,[],k,_,hl,_=>by simp at hl
  | e::ps,n::ns,k,hf,hl,h01=>by
    have h0:=hf 0;rw[Nat.add_zero] at h0;have hn:=h01 n ql6;have ih:=Xv fx ps ns (k+1) (λi=>by rw[show k+1+i=k+(i+1) by omega,hf (i+1)];simp) (by simpa using hl) λm hm=>h01 m (qlZ _ hm);rw[fH,jl,ih];unfold Jv vI lZ;rw[h0];have:n=0\/n=1:=by omega
    rcases this with rfl | rfl <;> simp
def dU:List Int->List (Str×Str)->List Str
  | n::ns,e::ps=>lZ n e::dU ns ps
  | _,_=>[]
def pY (c:List Str):List Int->List (Str×Str)->Nat
  | n::ns,e::ps=>(if ¬vI n e∈c/\lZ n e∈c then 1 else 0)+pY c ns ps
  | _,_=>0
def P_ (c:List Str) (ps:List (Str×Str)):Nat:=(ps.filter λe=>decide (e.1∈c) && decide (e.2∈c)).length
theorem RV:∀(ns:List Int) (ps:List (Str×Str)) (k:Nat),(jl ns ps k).map (·.2.2)=dU ns ps
  | [],_,_=>by simp[jl,dU]
  | n::ns,[],_=>by simp[jl,dU]
  | n::ns,e::ps,k=>by rw[jl,dU,qmj,RV ns ps]
theorem RW (c:List Str):∀(ns:List Int) (ps:List (Str×Str)) (k:Nat),((jl ns ps k).filter λst=>decide (¬st.2.1∈c/\st.2.2∈c)).length=pY c ns ps
  | [],_,_=>by simp[jl,pY]
  | n::ns,[],_=>by simp[jl,pY]
  | n::ns,e::ps,k=>by
    rw[jl,pY,qnc,<- RW c ns ps (k+1)]
    by_cases h:¬vI n e∈c/\lZ n e∈c
    ·rw[if_pos h,if_pos (qmz h),qml];omega
    ·rw[if_neg h,if_neg (by rw[qmA h];simp)];omega
theorem w6:∀(ns:List Int) (ps:List (Str×Str)) (c:List Str),ns.length=ps.length->((dU ns ps).filter λx=>decide (x∈c)).length=P_ c ps+pY c ns ps
  | [],[],c,_=>by simp[dU,P_,pY]
  | [],e::ps,c,h=>by simp at h
  | n::ns,[],c,h=>by simp at h
  | n::ns,e::ps,c,h=>by
    have ih:=w6 ns ps c (by simpa using h);unfold P_ at ih ⊢;rw[dU,pY,qnc,qnc];unfold lZ vI
    by_cases h1:e.1∈c <;> by_cases h2:e.2∈c <;> by_cases hn:n=0 <;> simp[h1,h2,hn] <;> omega
theorem vJ (k:Str):∀{vs:List Value} {ys:List Str},StrsAre vs ys->∀(j:Nat) (h1:j<vs.length) (h2:j<ys.length),isStrOf k vs[j]=(ys[j] == k)
  | _,_,.cons n t _,0,_,_=>rfl
  | _,_,.cons n t r,j+1,h1,h2=>vJ k r j (qn3 h1) (qn3 h2)
theorem CK {k:Str}:∀{ys:List Str} {j:Nat},j<ys.idxOf k->∀(h2:j<ys.length),(ys[j] == k)=false
  | n::r,0,h,_=>by
    by_cases e:n=k
    ·subst e;simp at h
    ·simpa using e
  | n::r,j+1,h,h2=>by
    by_cases e:n=k
    ·subst e;simp at h
    . have hb:(n == k)=false:=by simpa using e
      have h':j<r.idxOf k:=by
        rw[List.idxOf_cons,hb] at h;exact qn3 h
      exact CK h' (qn3 h2)
theorem Ms:∀{vs:List Value} {ys:List Str},StrsAre vs ys->vs.length=ys.length
  | _,_,.nil=>rfl
  | _,_,.cons _ _ r=>qmr (· + 1) (Ms r)
section
variable {X:Cx} {K:W.Frag}
def Xw (K:W.Frag):V->List V->Hp->VK->Prop:=λx xs H Q=>∃(l:Addr) (ys:List Str) (k:Str),x = .ref l/\xs=[.str k]/\aX K H l (ys.map V.str)/\k∈ys/\Q (.int (ys.idxOf k:Nat)) H
theorem Xx (hK:X.K=K):Pg X "list.index" (Xw K):=by
  subst hK;intro p_ s σ H x xs v us Q I rx rs q;obtain⟨l,ys,k,rfl,rfl,hl,hk,q⟩:=q;obtain⟨u,rfl,ru⟩:=rs.one;obtain⟨t,rfl⟩:=ru;obtain rfl:v=Value.ref l:=rx;obtain⟨its,rv,pl,hz1⟩:=I.list hl;have hi:=w5 rv;obtain⟨⟨cls,dd,data,sl⟩,ho,hc,n,hd⟩:=pl.isList;simp only at hc hd;subst hc hd;have hlen:=Ms hi;have hj:ys.idxOf k<ys.length:=List.idxOf_lt_length_iff.mpr hk;have hz2:ys.length<=sizeLine:=by simpa using hz1
  have hs:sizeLine=2 ^ 24:=rfl;refine call_meets PySem.F.slot_list_index ⟨_,ho,rfl⟩ PySem.F.entry_list_index (PySem.F.args_list_index_2 _ _)
    (SeqAt.list_indexAt l its.toArray n dd sl (.str k t) (isStrOf k) (ys.idxOf k) (by simpa [hlen] using hj) (by omega) ?_ ?_) ⟨ho,λy hy=>(eq_isStrOf k t hi y (by simpa using hy)).at _ _,⟨.int _,H,I.tok _,⟨_,rfl⟩,q⟩⟩
  ·show isStrOf k its[ys.idxOf k]=true;rw[vJ k hi _ (by omega) hj];simpa using List.getElem_idxOf hj
  ·intro j hjs hlt;show isStrOf k its[j]=false;rw[vJ k hi j (by simpa using hjs) (by omega)];exact CK hlt _
end
def isInt (x:V) (R:Int->Prop):Prop:=match x with | .int i=>R i | _=>False
def isStr (x:V) (R:Str->Prop):Prop:=match x with | .str i=>R i | _=>False
def qz (x:V) (R:Bool->Prop):Prop:=match x with | .bl i=>R i | _=>False
def isRef (x:V) (R:Addr->Prop):Prop:=match x with | .ref i=>R i | _=>False
def Uy (x:V) (R:String->Prop):Prop:=match x with | .ty n=>R n | _=>False
def ar0 (xs:List V) (R:Prop):Prop:=match xs with | []=>R | _=>False
def ar1 (xs:List V) (R:V->Prop):Prop:=match xs with | [x]=>R x | _=>False
def ar2 (xs:List V) (R:V->V->Prop):Prop:=match xs with | [x,y]=>R x y | _=>False
def arH (xs:List V) (R:V->List V->Prop):Prop:=match xs with | x::r=>R x r | []=>False
def getSt:St->Nat->(V->Prop)->Prop
  | [],_,_=>False
  | o::_,0,R=>match o with | some v=>R v | none=>False
  | _::σ,n+1,R=>getSt σ n R
@[simp ↓] theorem qiG (i:Int) R:isInt (.int i) R=R i:=rfl
@[simp ↓] theorem qiH (i:Str) R:isStr (.str i) R=R i:=rfl
@[simp ↓] theorem qjW (i:Bool) R:qz (.bl i) R=R i:=rfl
@[simp ↓] theorem qiI (i:Addr) R:isRef (.ref i) R=R i:=rfl
@[simp ↓] theorem qjX (i:String) R:Uy (.ty i) R=R i:=rfl
@[simp ↓] theorem qk6 R:ar0 [] R=R:=rfl
@[simp ↓] theorem qk7 x R:ar1 [x] R=R x:=rfl
@[simp ↓] theorem qk8 x y R:ar2 [x,y] R=R x y:=rfl
@[simp ↓] theorem qk9 x r R:arH (x::r) R=R x r:=rfl
@[simp ↓] theorem qiJ v σ R:getSt (some v::σ) 0 R=R v:=rfl
@[simp ↓] theorem qiK o σ n R:getSt (o::σ) (n+1) R=getSt σ n R:=rfl
theorem isInt.out {x:V} {R} (h:isInt x R):∃i,x = .int i/\R i:=by cases x <;> first | exact⟨_,rfl,h⟩ | exact h.elim
theorem isStr.out {x:V} {R} (h:isStr x R):∃i,x = .str i/\R i:=by cases x <;> first | exact⟨_,rfl,h⟩ | exact h.elim
theorem qz.out {x:V} {R} (h:qz x R):∃i,x = .bl i/\R i:=by cases x <;> first | exact⟨_,rfl,h⟩ | exact h.elim
theorem isRef.out {x:V} {R} (h:isRef x R):∃i,x = .ref i/\R i:=by cases x <;> first | exact⟨_,rfl,h⟩ | exact h.elim
theorem Uy.out {x:V} {R} (h:Uy x R):∃i,x = .ty i/\R i:=by cases x <;> first | exact⟨_,rfl,h⟩ | exact h.elim
theorem ar0.out {xs:List V} {R} (h:ar0 xs R):xs=[]/\R:=by cases xs <;> first | exact⟨rfl,h⟩ | exact h.elim
theorem ar1.out {xs:List V} {R} (h:ar1 xs R):∃x,xs=[x]/\R x:=by
  match xs,h with
  | [x],h=>exact⟨x,rfl,h⟩
theorem ar2.out {xs:List V} {R} (h:ar2 xs R):∃x y,xs=[x,y]/\R x y:=by
  match xs,h with
  | [x,y],h=>exact⟨x,y,rfl,h⟩
theorem arH.out {xs:List V} {R} (h:arH xs R):∃x r,xs=x::r/\R x r:=by cases xs <;> first | exact⟨_,_,rfl,h⟩ | exact h.elim
theorem getSt.out:∀{σ:St} {i:Nat} {R},getSt σ i R->∃v,σ[i]? = some (some v)/\R v
  | [],_,_,h=>h.elim
  | some v::_,0,_,h=>⟨v,rfl,h⟩
  | none::_,0,_,h=>h.elim
  | _::σ,n+1,R,h=>by
    obtain⟨v,e,q⟩:=getSt.out (σ:=σ) (i:=n) h;exact⟨v,by simpa using e,q⟩
section
variable {X:Cx}
theorem PE.mono {e:Expr} {t t':TE} (o:PE X e t) (h:∀{σ H Q},t' σ H Q->t σ H Q):PE X e t':=λp_ s σ H Q I q=>o p_ s σ H Q I (h q)
theorem PS.mono {e:Stmt} {t t':TS} (o:PS X e t) (h:∀{D σ H},t' D σ H->t D σ H):PS X e t':=λp_ s σ H D I q=>o p_ s σ H D I (h q)
theorem fP.mono {e:List Expr} {t t':K6} (o:fP X e t) (h:∀{v σ H Q},t' v σ H Q->t v σ H Q):fP X e t':=λp_ s σ H v u Q I r q=>o p_ s σ H v u Q I r (h q)
theorem gb.mono {f:Value->Value->Sem Value} {r r':R2} (o:gb X f r) (h:∀{x y H Q},r' x y H Q->r x y H Q):gb X f r':=λp_ s σ H x y v u Q I rx ry q=>o p_ s σ H x y v u Q I rx ry (h q)
theorem UnR.mono {f:Value->Sem Value} {r r':V->Hp->VK->Prop} (o:UnR X f r) (h:∀{x H Q},r' x H Q->r x H Q):UnR X f r':=λp_ s σ H x v Q I rx q=>o p_ s σ H x v Q I rx (h q)
theorem cj.mono {f:Value} {r r':List V->Hp->VK->Prop} (o:cj X f r) (h:∀{x H Q},r' x H Q->r x H Q):cj X f r':=λp_ s σ H x v Q I rx q=>o p_ s σ H x v Q I rx (h q)
theorem Pg.mono {f:String} {r r':V->List V->Hp->VK->Prop} (o:Pg X f r) (h:∀{x y H Q},r' x y H Q->r x y H Q):Pg X f r':=λp_ s σ H x y v u Q I rx ry q=>o p_ s σ H x y v u Q I rx ry (h q)
theorem WX.mono {r r':R2} (o:WX X r) (h:∀{x y H Q},r' x y H Q->r x y H Q):WX X r':=λa b p_ s σ H x y v u Q I rx ry q z=>o a b p_ s σ H x y v u Q I rx ry (h q) z
theorem SlR.mono {r r':V->Option Int->Option Int->Hp->VK->Prop} (o:SlR X r) (h:∀{x lo hi H Q},r' x lo hi H Q->r x lo hi H Q):SlR X r':=λp_ s σ H x v vl vu lo hi sl Q I rx z1 z2 z3 q=>o p_ s σ H x v vl vu lo hi sl Q I rx z1 z2 z3 (h q)
theorem PIp.mono {op:Operator} {r r':TIp} (o:PIp X op r) (h:∀{x y H Q},r' x y H Q->r x y H Q):PIp X op r':=λp_ s σ H x y v u Q I rx ry q=>o p_ s σ H x y v u Q I rx ry (h q)
theorem TV.mono {r r':TQ} (o:TV X r) (h:∀{x y z H Q},r' x y z H Q->r x y z H Q):TV X r':=λp_ s σ H o' i v ov iv u Q I a b c q=>o p_ s σ H o' i v ov iv u Q I a b c (h q)
end
def fVar (i:Nat):TE:=λσ H Q=>getSt σ i λv=>Q v H
@[simp ↓] theorem qjY (i:Nat) σ H Q:fVar i σ H Q=getSt σ i (λv=>Q v H):=rfl
theorem qdU {i:Nat} {σ H Q} (h:fVar i σ H Q):qaf i σ H Q:=getSt.out h
def jK:List Str->List V->St
  | _::N,v::vs=>some v::jK N vs
  | _::N,[]=>none::jK N []
  | [],_=>[]
@[simp ↓] theorem qfh n N v vs:jK (n::N) (v::vs)=some v::jK N vs:=rfl
@[simp ↓] theorem qfi n N:jK (n::N) []=none::jK N []:=rfl
@[simp ↓] theorem qgc vs:jK [] vs=[]:=by cases vs <;> rfl
theorem pZ:∀(N:List Str) (vs:List V),vs.length<=N.length->jK N vs=start N vs
  | [],[],_=>rfl
  | [],_::_,h=>by simp at h
  | n::N,[],_=>by
    rw[jK,pZ N [] (by simp)];simp[start,qnd]
  | n::N,v::vs,h=>by
    rw[jK,pZ N vs (by simpa using h)];simp[start]
def Qa (g:Int->Int->V):R2:=λx y H Q=>isInt x λi=>isInt y λj=>Q (g i j) H
def fI (C:Int->Int->Prop) (g:Int->Int->V):R2:=λx y H Q=>isInt x λi=>isInt y λj=>C i j/\Q (g i j) H
def fU (g:Int->V):V->Hp->VK->Prop:=λx H Q=>isInt x λi=>Q (g i) H
@[simp ↓] theorem qk_ g x y H Q:Qa g x y H Q=(isInt x λi=>isInt y λj=>Q (g i j) H):=rfl
@[simp ↓] theorem qlC C g x y H Q:fI C g x y H Q=(isInt x λi=>isInt y λj=>C i j/\Q (g i j) H):=rfl
@[simp ↓] theorem qlD g x H Q:fU g x H Q=(isInt x λi=>Q (g i) H):=rfl
theorem CN {g:Int->Int->V} {x y H Q} (h:Qa g x y H Q):rI0 g x y H Q:=by
  obtain⟨i,rfl,h1⟩:=isInt.out h;obtain⟨j,rfl,h2⟩:=isInt.out h1;exact⟨i,j,rfl,rfl,h2⟩
theorem Uz {C} {g:Int->Int->V} {x y H Q} (h:fI C g x y H Q):rI C g x y H Q:=by
  obtain⟨i,rfl,h1⟩:=isInt.out h;obtain⟨j,rfl,h2⟩:=isInt.out h1;exact⟨i,j,rfl,rfl,h2⟩
theorem qjZ {g:Int->V} {x H Q} (h:fU g x H Q):rU g x H Q:=by
  obtain⟨i,rfl,h⟩:=isInt.out h;exact⟨i,rfl,h⟩
def fEq:R2:=λx y H Q=>match x,y with
  | .int i,.int j=>Q (.bl (decide (i=j))) H
  | .str i,.str j=>Q (.bl (decide (i=j))) H
  | .bl i,.bl j=>Q (.bl (decide (i=j))) H
  | x,y=>Av x y=true/\Q (.bl (decide (x=y))) H
def fNe:R2:=λx y H Q=>match x,y with
  | .int i,.int j=>∃k,decide (i=j) = !k/\Q (.bl k) H
  | .str i,.str j=>∃k,decide (i=j) = !k/\Q (.bl k) H
  | .bl i,.bl j=>∃k,decide (i=j) = !k/\Q (.bl k) H
  | x,y=>Av x y=true/\∃k,decide (x=y) = !k/\Q (.bl k) H
@[simp ↓] theorem qla i j H Q:fEq (.int i) (.int j) H Q=Q (.bl (decide (i=j))) H:=rfl
@[simp ↓] theorem qlb i j H Q:fEq (.str i) (.str j) H Q=Q (.bl (decide (i=j))) H:=rfl
@[simp ↓] theorem qlc i j H Q:fEq (.bl i) (.bl j) H Q=Q (.bl (decide (i=j))) H:=rfl
@[simp ↓] theorem qld i j H Q:fNe (.int i) (.int j) H Q=∃k,decide (i=j) = !k/\Q (.bl k) H:=rfl
@[simp ↓] theorem qle i j H Q:fNe (.str i) (.str j) H Q=∃k,decide (i=j) = !k/\Q (.bl k) H:=rfl
@[simp ↓] theorem qlf i j H Q:fNe (.bl i) (.bl j) H Q=∃k,decide (i=j) = !k/\Q (.bl k) H:=rfl
theorem CP {b:Bool} {R:Bool->Prop} (h:∃k,b = !k/\R k):R (!b):=by
  obtain⟨k,e,q⟩:=h;rw[e,Bool.not_not];exact q
theorem qgd {x y H Q} (h:fEq x y H Q):rEq x y H Q:=by
  unfold fEq at h;split at h
  ·exact⟨rfl,by simpa using h⟩
  ·exact⟨rfl,by simpa using h⟩
  ·exact⟨rfl,by simpa using h⟩
  ·exact h
theorem qge {x y H Q} (h:fNe x y H Q):rNe x y H Q:=by
  unfold fNe at h;split at h
  ·exact⟨rfl,by simpa using CP (R:=λk=>Q (.bl k) H) h⟩
  ·exact⟨rfl,by simpa using CP (R:=λk=>Q (.bl k) H) h⟩
  ·exact⟨rfl,by simpa using CP (R:=λk=>Q (.bl k) H) h⟩
  ·exact⟨h.1,CP (R:=λk=>Q (.bl k) H) h.2⟩
def Xy:R2:=λx y H Q=>isStr x λi=>isStr y λj=>i.length+j.length<=sizeLine/\Q (.str (i++j)) H
@[simp ↓] theorem qiL x y H Q:Xy x y H Q=(isStr x λi=>isStr y λj=>i.length+j.length<=sizeLine/\Q (.str (i++j)) H):=rfl
theorem qaQ {x y H Q} (h:Xy x y H Q):qfR x y H Q:=by
  obtain⟨i,rfl,h1⟩:=isStr.out h;obtain⟨j,rfl,h2⟩:=isStr.out h1;exact⟨i,j,rfl,rfl,h2⟩
def qdV:R2:=λx y H Q=>isRef x λl=>isRef y λb=>∃xs,H l=some (.lst xs)/\∃zs,H b=some (.lst zs)/\xs.length+zs.length<=sizeLine/\∀p,H p=none->Q (.ref p) (upd H p (.lst (xs++zs)))
@[simp ↓] theorem qj0 x y H Q:qdV x y H Q=(isRef x λl=>isRef y λb=>∃xs,H l=some (.lst xs)/\∃zs,H b=some (.lst zs)/\xs.length+zs.length<=sizeLine/\∀p,H p=none->Q (.ref p) (upd H p (.lst (xs++zs)))):=rfl
theorem qdW {x y H Q} (h:qdV x y H Q):qfK x y H Q:=by
  obtain⟨i,rfl,h0⟩:=isRef.out h;obtain⟨j,rfl,xs,h1,zs,h2,h3⟩:=isRef.out h0;exact⟨i,j,xs,zs,rfl,rfl,h1,h2,h3⟩
def qgf:R2:=λx y H Q=>isRef x λl=>isInt y λk=>∃xs,H l=some (.lst xs)/\-(2 ^ 63)<=k/\k<2 ^ 63/\xs.length * k.toNat<=sizeLine/\∀p,H p=none->Q (.ref p) (upd H p (.lst (List.replicate k.toNat xs).flatten))
def p7 (t:TE):TT:=λσ H Q=>t σ H λx H'=>qz x λk=>Q k H'
@[simp ↓] theorem qiM (t:TE) σ H Q:p7 t σ H Q=(t σ H λx H'=>qz x λk=>Q k H'):=rfl
def Xz (ta:TE):TE:=λσ H Q=>ta σ H λx H1=>qz x λc=>Q (.bl (!c)) H1
@[simp ↓] theorem qiN (ta:TE) σ H Q:Xz ta σ H Q=(ta σ H λx H1=>qz x λc=>Q (.bl (!c)) H1):=rfl
def XD (ta tb:TE):TE:=λσ H Q=>ta σ H λx H1=>qz x λc=>fj c (tb σ H1 Q) (Q (.bl false) H1) ⟨0⟩
@[simp ↓] theorem qiO (ta tb:TE) σ H Q:XD ta tb σ H Q=(ta σ H λx H1=>qz x λc=>fj c (tb σ H1 Q) (Q (.bl false) H1) ⟨0⟩):=rfl
def JB (r r':R2) (ta tb tc:TE):TE:=λσ H Q=>ta σ H λx H1=>tb σ H1 λy H2=>r x y H2 λz H3=>qz z λk=>fj k (tc σ H3 λw' H4=>r' y w' H4 Q) (Q (.bl false) H3) ⟨0⟩
@[simp ↓] theorem qgg (r r':R2) (ta tb tc:TE) σ H Q:JB r r' ta tb tc σ H Q=(ta σ H λx H1=>tb σ H1 λy H2=>r x y H2 λz H3=>qz z λk=>fj k (tc σ H3 λw' H4=>r' y w' H4 Q) (Q (.bl false) H3) ⟨0⟩):=rfl
section
variable {X:Cx} {K:W.Frag} {a b c:Expr} {ta tb tc:TE} {tA:TT} {pos:Pos}
theorem aH (i:Nat) {x:Str} {pos:Pos} (hN:X.N[i]? = some x:=by rfl) (hv:Vis X.env.scope x:=by first | exact Or.inl rfl | exact Or.inr (Or.inl rfl) | exact Or.inr (Or.inr rfl)) (hd:(x == ("__debug__" : Str))=false:=by decide)
    (hcd:(x == ("__classdict__" : Str))=false:=by decide):PE X (.Name x pos) (fVar i):=(Wb hN hv hd hcd).mono qdU
theorem jm:gb X (binaryOp .Add) (Qa λi j=>.int (i+j)):=qdg.mono CN
theorem nM:gb X (binaryOp .Sub) (Qa λi j=>.int (i - j)):=qdh.mono CN
theorem oV:gb X (compareOp .Lt) (Qa λi j=>.bl (decide (i<j))):=qfB.mono CN
theorem qC:gb X (compareOp .LtE) (Qa λi j=>.bl (decide (i<=j))):=qfC.mono CN
theorem sX:gb X (compareOp .Gt) (Qa λi j=>.bl (decide (j<i))):=qfD.mono CN
theorem qdX:gb X (compareOp .GtE) (Qa λi j=>.bl (decide (j<=i))):=qfE.mono CN
theorem lJ:gb X (compareOp .Eq) fEq:=qfz.mono qgd
theorem vK:gb X (compareOp .NotEq) fNe:=qfA.mono qge
theorem Mt:gb X (binaryOp .Add) Xy:=O6.mono qaQ
theorem xg:gb X (binaryOp .Add) qdV:=qdz.mono qdW
theorem qaR:UnR X (unaryOp .USub) (fU λi=>.int (-i)):=qdo.mono qjZ
theorem xq (x:V) (R:Bool->Prop):qz x R=(∃k,x = .bl k/\R k):=propext ⟨qz.out,λ⟨k,e,q⟩=>by subst e;exact q⟩
theorem XF (x:V) (R:Int->Prop):isInt x R=(∃k,x = .int k/\R k):=propext ⟨isInt.out,λ⟨k,e,q⟩=>by subst e;exact q⟩
theorem Mu (x:V) (R:Addr->Prop):isRef x R=(∃k,x = .ref k/\R k):=propext ⟨isRef.out,λ⟨k,e,q⟩=>by subst e;exact q⟩
theorem XH (x:V) (R:Str->Prop):isStr x R=(∃k,x = .str k/\R k):=propext ⟨isStr.out,λ⟨k,e,q⟩=>by subst e;exact q⟩
theorem qdY (x:List V) (R:V->List V->Prop):arH x R=(∃k j,x=k::j/\R k j):=propext ⟨arH.out,λ⟨k,j,e,q⟩=>by subst e;exact q⟩
theorem Mv (t:TE):p7 t=Rz t:=by
  funext σ H Q
  exact qmr (t σ H) (funext λx=>funext λH'=>xq _ _)
theorem qcr (t:TE):p7 t=tB t:=by
  funext σ H Q
  exact qmr (t σ H) (funext λx=>funext λH'=>xq _ _)
theorem XJ (t:TE):Xz t=Wf t:=by
  funext σ H Q
  exact qmr (t σ H) (funext λx=>funext λH'=>xq _ _)
theorem XM (t u:TE):XD t u=Wd t u:=by
  funext σ H Q
  exact qmr (t σ H) (funext λx=>funext λH'=>xq _ _)
theorem Hj (r r':R2) (ta tb tc:TE):JB r r' ta tb tc=Iu r r' ta tb tc:=by
  funext σ H Q
  exact qmr (ta σ H) (funext λx=>funext λH1=>qmr (tb σ H1) (funext λy=>funext λH2=>qmr (r x y H2) (funext λz=>funext λH3=>xq _ _)))
theorem bh {op:CmpOp} {r:R2} (ho:gb X (compareOp op) r) (ha:PE X a ta) (hb:PE X b tb) (hm:behindInMarks op b=false):PT X (.Compare a [op] [b] pos) (p7 (V3 r ta tb)):=Mv _▸qan ho ha hb hm
theorem RX {op:CmpOp} {t:TE} (h:PC X op a b t) (h1:behindInMarks op b=false:=by first | exact Lg _ (by decide) (by decide) | rfl):PT X (.Compare a [op] [b] pos) (p7 t):=qcr _▸qc3 h h1
theorem cJ {e:Expr} {t:TE} (h:PE X e t) (he:∀whole,isTrue e X.env whole=(do let v <- whole;standAt e.pos;holding [v] (truthy v)):=by intro _;rfl):PT X e (p7 t):=qcr _▸qc4 h he
theorem za {op op':CmpOp} {r r':R2} (ho:gb X (compareOp op) r) (ho':gb X (compareOp op') r') (ha:PE X a ta) (hb:PE X b tb) (hc:PE X c tc)
    (hm:lastMarks [op,op'] [b,c]=false:=by with_unfolding_all rfl):PE X (.Compare a [op,op'] [b,c] pos) (JB r r' ta tb tc):=Hj _ _ _ _ _▸Wt ho ho' ha hb hc hm
theorem zc {op op':CmpOp} {r r':R2} (ho:gb X (compareOp op) r) (ho':gb X (compareOp op') r') (ha:PE X a ta) (hb:PE X b tb) (hc:PE X c tc)
    (hm:lastMarks [op,op'] [b,c]=false:=by with_unfolding_all rfl):PT X (.Compare a [op,op'] [b,c] pos) (p7 (JB r r' ta tb tc)):=by
  rw[Mv,Hj];exact Wu ho ho' ha hb hc hm
theorem qaS (ha:PE X a ta):PE X (.UnaryOp .Not a pos) (Xz ta):=XJ _▸qc6 ha
theorem nO {rest:List Expr} (ha:PE X a ta) (hb:PE X (.BoolOp .And (b::rest) pos) tb):PE X (.BoolOp .And (a::b::rest) pos) (XD ta tb):=XM _ _▸qc5 ha hb
end
def qdZ (K:W.Frag):R2:=λx y H Q=>isRef x λp=>isInt y λi=>∃xs,(aX K H p xs\/dO K H p xs)/\∃v,Fl xs i=some v/\Q v H
@[simp ↓] theorem qj1 (K:W.Frag) x y H Q:qdZ K x y H Q=(isRef x λp=>isInt y λi=>∃xs,(aX K H p xs\/dO K H p xs)/\∃v,Fl xs i=some v/\Q v H):=rfl
theorem qd0 {K:W.Frag} {x y H Q} (h:qdZ K x y H Q):qdG K x y H Q:=by
  obtain⟨p,rfl,h1⟩:=isRef.out h;obtain⟨i,rfl,xs,h2,v,h3,h4⟩:=isInt.out h1;exact⟨p,xs,i,v,rfl,rfl,h2,h3,h4⟩
def qd1  : R2:=λx y H Q=>isStr x λz=>isInt y λi=>z.length<=sizeLine/\∃c,Fl z.cps.toList i=some c/\Q (.str ⟨#[c]⟩) H
@[simp ↓] theorem qj2  x y H Q:qd1 x y H Q=(isStr x λz=>isInt y λi=>z.length<=sizeLine/\∃c,Fl z.cps.toList i=some c/\Q (.str ⟨#[c]⟩) H):=rfl
theorem qd2  {x y H Q} (h:qd1 x y H Q):qfH x y H Q:=by
  obtain⟨z,rfl,h1⟩:=isStr.out h;obtain⟨i,rfl,h2,c,h3,h4⟩:=isInt.out h1;exact⟨z,i,c,rfl,rfl,h2,h3,h4⟩
def xr (K:W.Frag):List V->Hp->VK->Prop:=λxs H Q=>ar1 xs λx=>isRef x λp=>∃ys,(aX K H p ys\/dO K H p ys)/\Q (.int ys.length) H
@[simp ↓] theorem qiP (K:W.Frag) xs H Q:xr K xs H Q=(ar1 xs λx=>isRef x λp=>∃ys,(aX K H p ys\/dO K H p ys)/\Q (.int ys.length) H):=rfl
theorem qaT {K:W.Frag} {xs H Q} (h:xr K xs H Q):qck K xs H Q:=by
  obtain⟨x,rfl,h1⟩:=ar1.out h;obtain⟨p,rfl,ys,h2,h3⟩:=isRef.out h1;exact⟨p,ys,rfl,h2,h3⟩
def XQ  : List V->Hp->VK->Prop:=λxs H Q=>ar1 xs λx=>isStr x λz=>z.length<=sizeLine/\Q (.int z.length) H
@[simp ↓] theorem qiQ  xs H Q:XQ xs H Q=(ar1 xs λx=>isStr x λz=>z.length<=sizeLine/\Q (.int z.length) H):=rfl
theorem qaU  {xs H Q} (h:XQ xs H Q):qcl xs H Q:=by
  obtain⟨x,rfl,h1⟩:=ar1.out h;obtain⟨p,rfl,h2⟩:=isStr.out h1;exact⟨p,rfl,h2⟩
def JC (K:W.Frag):List V->Hp->VK->Prop:=λxs H Q=>ar1 xs λx=>isRef x λp=>∃ys,(aX K H p ys\/dO K H p ys)/\∀l,H l=none->Q (.ref l) (upd H l (.lst ys))
@[simp ↓] theorem qfj (K:W.Frag) xs H Q:JC K xs H Q=(ar1 xs λx=>isRef x λp=>∃ys,(aX K H p ys\/dO K H p ys)/\∀l,H l=none->Q (.ref l) (upd H l (.lst ys))):=rfl
theorem UG {K:W.Frag} {xs H Q} (h:JC K xs H Q):RK K xs H Q:=by
  obtain⟨x,rfl,h1⟩:=ar1.out h;obtain⟨p,rfl,ys,h2,h3⟩:=isRef.out h1;exact⟨p,ys,rfl,h2,h3⟩
def JD  : List V->Hp->VK->Prop:=λxs H Q=>ar1 xs λx=>isRef x λp=>∃ys,Sq H p ys/\∀l H',H' l=some (.tup ys)->Same H H'->Q (.ref l) H'
@[simp ↓] theorem qfk  xs H Q:JD xs H Q=(ar1 xs λx=>isRef x λp=>∃ys,Sq H p ys/\∀l H',H' l=some (.tup ys)->Same H H'->Q (.ref l) H'):=rfl
theorem UJ  {xs H Q} (h:JD xs H Q):RL xs H Q:=by
  obtain⟨x,rfl,h1⟩:=ar1.out h;obtain⟨p,rfl,ys,h2,h3⟩:=isRef.out h1;exact⟨p,ys,rfl,h2,h3⟩
def XR (K:W.Frag):List V->Hp->VK->Prop:=λxs H Q=>ar2 xs λx y=>Uy y λn=>∃t,lF K H x t/\∃b,W.kitOne K t (.type n)=some b/\Q (.bl b) H
@[simp ↓] theorem qiR (K:W.Frag) xs H Q:XR K xs H Q=(ar2 xs λx y=>Uy y λn=>∃t,lF K H x t/\∃b,W.kitOne K t (.type n)=some b/\Q (.bl b) H):=rfl
theorem qaV {K:W.Frag} {xs H Q} (h:XR K xs H Q):qcm K xs H Q:=by
  obtain⟨x,y,rfl,h1⟩:=ar2.out h;obtain⟨n,rfl,t,h2,b,h3,h4⟩:=Uy.out h1;exact⟨x,n,t,b,rfl,h2,h3,h4⟩
def XS (K:W.Frag):List V->Hp->VK->Prop:=λxs H Q=>ar2 xs λx y=>isRef y λp=>∃m n,H p=some (.tup [.ty m,.ty n])/\∃t,lF K H x t/\∃b,W.kitAny K t [.type m,.type n]=some b/\Q (.bl b) H
@[simp ↓] theorem qiS (K:W.Frag) xs H Q:XS K xs H Q=(ar2 xs λx y=>isRef y λp=>∃m n,H p=some (.tup [.ty m,.ty n])/\∃t,lF K H x t/\∃b,W.kitAny K t [.type m,.type n]=some b/\Q (.bl b) H):=rfl
theorem qaW {K:W.Frag} {xs H Q} (h:XS K xs H Q):qcn K xs H Q:=by
  obtain⟨x,y,rfl,h1⟩:=ar2.out h;obtain⟨p,rfl,m,n,h0,t,h2,b,h3,h4⟩:=isRef.out h1;exact⟨x,p,m,n,t,b,rfl,h0,h2,h3,h4⟩
def fIn (K:W.Frag):R2:=λx y H Q=>isRef y λp=>∃xs,(aX K H p xs\/dO K H p xs)/\ji x=true/\(∀z∈xs,ji z=true)/\Q (.bl (inV x xs)) H
@[simp ↓] theorem qlg (K:W.Frag) x y H Q:fIn K x y H Q=(isRef y λp=>∃xs,(aX K H p xs\/dO K H p xs)/\ji x=true/\(∀z∈xs,ji z=true)/\Q (.bl (inV x xs)) H):=rfl
theorem qgh {K:W.Frag} {x y H Q} (h:fIn K x y H Q):qaz K x y H Q:=by
  obtain⟨p,rfl,xs,h1,h2,h3,h4⟩:=isRef.out h;exact .inl ⟨p,xs,rfl,h1,h2,qmk.mpr h3,h4⟩
def Qc (K:W.Frag):R2:=λx y H Q=>isRef y λp=>∃xs,(aX K H p xs\/dO K H p xs)/\ji x=true/\(∀z∈xs,ji z=true)/\∃k,inV x xs = !k/\Q (.bl k) H
@[simp ↓] theorem qgi (K:W.Frag) x y H Q:Qc K x y H Q=(isRef y λp=>∃xs,(aX K H p xs\/dO K H p xs)/\ji x=true/\(∀z∈xs,ji z=true)/\∃k,inV x xs = !k/\Q (.bl k) H):=rfl
theorem X3 {K:W.Frag} {x y H Q} (h:Qc K x y H Q):Jj K x y H Q:=by
  obtain⟨p,rfl,xs,h1,h2,h3,h4⟩:=isRef.out h;exact .inl ⟨p,xs,rfl,h1,h2,qmk.mpr h3,CP (R:=λk=>Q (.bl k) H) h4⟩
def qd3 (K:W.Frag):R2:=λx y H Q=>isStr x λi=>isStr y λj=>Q (.bl (!(Builtin.Str.occurrences j i 0 j.length 1).isEmpty)) H
@[simp ↓] theorem qj3 (K:W.Frag) x y H Q:qd3 K x y H Q=(isStr x λi=>isStr y λj=>Q (.bl (!(Builtin.Str.occurrences j i 0 j.length 1).isEmpty)) H):=rfl
theorem qd4 {K:W.Frag} {x y H Q} (h:qd3 K x y H Q):qaz K x y H Q:=by
  obtain⟨i,rfl,h1⟩:=isStr.out h;obtain⟨j,rfl,h2⟩:=isStr.out h1;exact .inr ⟨i,j,rfl,rfl,h2⟩
def JF  : V->List V->Hp->VK->Prop:=λx vs H Q=>isRef x λl=>ar1 vs λy=>∃xs,H l=some (.lst xs)/\xs.length<sizeLine/\Q .non (upd H l (.lst (xs++[y])))
@[simp ↓] theorem qfl  x vs H Q:JF x vs H Q=(isRef x λl=>ar1 vs λy=>∃xs,H l=some (.lst xs)/\xs.length<sizeLine/\Q .non (upd H l (.lst (xs++[y])))):=rfl
theorem UL  {x vs H Q} (h:JF x vs H Q):Jc x vs H Q:=by
  obtain⟨l,rfl,h1⟩:=isRef.out h;obtain⟨y,rfl,xs,h2,h3⟩:=ar1.out h1;exact⟨l,xs,y,rfl,rfl,h2,h3⟩
def JG  : V->List V->Hp->VK->Prop:=λx vs H Q=>isRef x λl=>ar2 vs λj y=>isInt j λi=>∃xs,H l=some (.lst xs)/\0<=i/\i<=xs.length/\xs.length<sizeLine/\Q .non (upd H l (.lst (xs.take i.toNat++y::xs.drop i.toNat)))
@[simp ↓] theorem qfm  x vs H Q:JG x vs H Q=(isRef x λl=>ar2 vs λj y=>isInt j λi=>∃xs,H l=some (.lst xs)/\0<=i/\i<=xs.length/\xs.length<sizeLine/\Q .non (upd H l (.lst (xs.take i.toNat++y::xs.drop i.toNat)))):=rfl
theorem UW  {x vs H Q} (h:JG x vs H Q):Jf x vs H Q:=by
  obtain⟨l,rfl,h1⟩:=isRef.out h;obtain⟨j,y,rfl,h2⟩:=ar2.out h1;obtain⟨i,rfl,xs,h3⟩:=isInt.out h2;exact⟨l,xs,i,y,rfl,rfl,h3⟩
def X4  : V->List V->Hp->VK->Prop:=λx vs H Q=>isStr x λsep=>ar1 vs λy=>isRef y λl=>∃ys:List Str,H l=some (.lst (ys.map V.str))/\(ys.map (·.length)).sum+ys.length * sep.length<=16777216/\Q (.str (Txt.join sep ys)) H
@[simp ↓] theorem qiT  x vs H Q:X4 x vs H Q=(isStr x λsep=>ar1 vs λy=>isRef y λl=>∃ys:List Str,H l=some (.lst (ys.map V.str))/\(ys.map (·.length)).sum+ys.length * sep.length<=16777216/\Q (.str (Txt.join sep ys)) H):=rfl
theorem qaX  {x vs H Q} (h:X4 x vs H Q):rJoin x vs H Q:=by
  obtain⟨sep,rfl,h1⟩:=isStr.out h;obtain⟨y,rfl,h2⟩:=ar1.out h1;obtain⟨l,rfl,ys,h3⟩:=isRef.out h2;exact⟨sep,l,ys,rfl,rfl,h3⟩
def Qd (K:W.Frag):V->List V->Hp->VK->Prop:=λx vs H Q=>isRef x λl=>ar1 vs λy=>isStr y λk=>∃ys:List Str,aX K H l (ys.map V.str)/\Q (.int (ys.count k:Nat)) H
@[simp ↓] theorem qgj (K:W.Frag) x vs H Q:Qd K x vs H Q=(isRef x λl=>ar1 vs λy=>isStr y λk=>∃ys:List Str,aX K H l (ys.map V.str)/\Q (.int (ys.count k:Nat)) H):=rfl
theorem X5 {K:W.Frag} {x vs H Q} (h:Qd K x vs H Q):Xq K x vs H Q:=by
  obtain⟨l,rfl,h1⟩:=isRef.out h;obtain⟨y,rfl,h2⟩:=ar1.out h1;obtain⟨k,rfl,ys,h3⟩:=isStr.out h2;exact⟨l,ys,k,rfl,rfl,h3⟩
def Qe (K:W.Frag):V->List V->Hp->VK->Prop:=λx vs H Q=>isRef x λl=>ar1 vs λy=>isStr y λk=>∃ys:List Str,aX K H l (ys.map V.str)/\k∈ys/\Q (.int (ys.idxOf k:Nat)) H
@[simp ↓] theorem qgk (K:W.Frag) x vs H Q:Qe K x vs H Q=(isRef x λl=>ar1 vs λy=>isStr y λk=>∃ys:List Str,aX K H l (ys.map V.str)/\k∈ys/\Q (.int (ys.idxOf k:Nat)) H):=rfl
theorem X6 {K:W.Frag} {x vs H Q} (h:Qe K x vs H Q):Xw K x vs H Q:=by
  obtain⟨l,rfl,h1⟩:=isRef.out h;obtain⟨y,rfl,h2⟩:=ar1.out h1;obtain⟨k,rfl,ys,h3⟩:=isStr.out h2;exact⟨l,ys,k,rfl,rfl,h3⟩
def qd5 (K:W.Frag):List V->Hp->VK->Prop:=λxs H Q=>ar1 xs λx=>isRef x λl=>∃ns:List Int,aX K H l (ns.map V.int)/\Q (.int ns.sum) H
@[simp ↓] theorem qj4 (K:W.Frag) xs H Q:qd5 K xs H Q=(ar1 xs λx=>isRef x λl=>∃ns:List Int,aX K H l (ns.map V.int)/\Q (.int ns.sum) H):=rfl
theorem qd6 {K:W.Frag} {xs H Q} (h:qd5 K xs H Q):qgb K xs H Q:=by
  obtain⟨x,rfl,h1⟩:=ar1.out h;obtain⟨l,rfl,ns,h2⟩:=isRef.out h1;exact⟨l,ns,rfl,h2⟩
def qd7 (K:W.Frag):R2:=λx y H Q=>∃d,Is K H d x/\∃e,Is K H e y/\d.canLay0=true/\e.canLay0=true/\d.depth<=64/\Q (.bl (PyData.eqv d e)) H
@[simp ↓] theorem qj5 (K:W.Frag) x y H Q:qd7 K x y H Q=(∃d,Is K H d x/\∃e,Is K H e y/\d.canLay0=true/\e.canLay0=true/\d.depth<=64/\Q (.bl (PyData.eqv d e)) H):=rfl
theorem qd8 {K:W.Frag} {x y H Q} (h:qd7 K x y H Q):qf3 K x y H Q:=by
  obtain⟨d,h1,e,h2,h3,h4,h5,h6⟩:=h;exact⟨d,e,h1,h2,h3,h4,h5,h6⟩
def qd9  : List V->Hp->VK->Prop:=λxs H Q=>ar1 xs λx=>isInt x λi=>Q (.int (if i<0 then -i else i)) H
@[simp ↓] theorem qj6  xs H Q:qd9 xs H Q=(ar1 xs λx=>isInt x λi=>Q (.int (if i<0 then -i else i)) H):=rfl
theorem qd_  {xs H Q} (h:qd9 xs H Q):(λxs H Q=>∃i,xs=[.int i]/\Q (.int (if i<0 then -i else i)) H:List V->Hp->VK->Prop) xs H Q:=by
  obtain⟨x,rfl,h1⟩:=ar1.out h;obtain⟨i,rfl,h2⟩:=isInt.out h1;exact⟨i,rfl,h2⟩
def X7  : List V->Hp->VK->Prop:=λxs H Q=>ar2 xs λx y=>isInt x λi=>isInt y λj=>Q (.int (if j > i then j else i)) H
@[simp ↓] theorem qiU  xs H Q:X7 xs H Q=(ar2 xs λx y=>isInt x λi=>isInt y λj=>Q (.int (if j > i then j else i)) H):=rfl
theorem qaY  {xs H Q} (h:X7 xs H Q):(λxs H Q=>∃i j,xs=[.int i,.int j]/\Q (.int (if j > i then j else i)) H:List V->Hp->VK->Prop) xs H Q:=by
  obtain⟨x,y,rfl,h1⟩:=ar2.out h;obtain⟨i,rfl,h2⟩:=isInt.out h1;obtain⟨j,rfl,h3⟩:=isInt.out h2;exact⟨i,j,rfl,h3⟩
def X8  : List V->Hp->VK->Prop:=λxs H Q=>ar2 xs λx y=>isInt x λi=>isInt y λj=>Q (.int (if j<i then j else i)) H
@[simp ↓] theorem qiV  xs H Q:X8 xs H Q=(ar2 xs λx y=>isInt x λi=>isInt y λj=>Q (.int (if j<i then j else i)) H):=rfl
theorem qaZ  {xs H Q} (h:X8 xs H Q):(λxs H Q=>∃i j,xs=[.int i,.int j]/\Q (.int (if j<i then j else i)) H:List V->Hp->VK->Prop) xs H Q:=by
  obtain⟨x,y,rfl,h1⟩:=ar2.out h;obtain⟨i,rfl,h2⟩:=isInt.out h1;obtain⟨j,rfl,h3⟩:=isInt.out h2;exact⟨i,j,rfl,h3⟩
def JH  : List V->Hp->VK->Prop:=λxs H Q=>ar2 xs λx y=>isInt x λi=>isInt y λj=>T7 i j/\∀p,H p=none->Q (.ref p) (upd H p (.tup [.int (i / j),.int (i % j)]))
@[simp ↓] theorem qfn  xs H Q:JH xs H Q=(ar2 xs λx y=>isInt x λi=>isInt y λj=>T7 i j/\∀p,H p=none->Q (.ref p) (upd H p (.tup [.int (i / j),.int (i % j)]))):=rfl
theorem U0  {xs H Q} (h:JH xs H Q):(λxs H Q=>∃i j,xs=[.int i,.int j]/\T7 i j/\∀p,H p=none->Q (.ref p) (upd H p (.tup [.int (i / j),.int (i % j)])):List V->Hp->VK->Prop) xs H Q:=by
  obtain⟨x,y,rfl,h1⟩:=ar2.out h;obtain⟨i,rfl,h2⟩:=isInt.out h1;obtain⟨j,rfl,h3⟩:=isInt.out h2;exact⟨i,j,rfl,h3⟩
def qea  : List V->Hp->VK->Prop:=λxs H Q=>ar1 xs λx=>isRef x λa=>∃ys,H a=some (.lst ys)/\∃bs,sI ys bs/\Q (.bl (bs.all id)) H
@[simp ↓] theorem qj7  xs H Q:qea xs H Q=(ar1 xs λx=>isRef x λa=>∃ys,H a=some (.lst ys)/\∃bs,sI ys bs/\Q (.bl (bs.all id)) H):=rfl
theorem qeb  {xs H Q} (h:qea xs H Q):(λxs H Q=>∃a ys bs,xs=[.ref a]/\H a=some (.lst ys)/\sI ys bs/\Q (.bl (bs.all id)) H:List V->Hp->VK->Prop) xs H Q:=by
  obtain⟨x,rfl,h1⟩:=ar1.out h;obtain⟨a,rfl,ys,h2,bs,h3,h4⟩:=isRef.out h1;exact⟨a,ys,bs,rfl,h2,h3,h4⟩
def RZ:List V->Hp->VK->Prop:=λxs H Q=>ar1 xs λx=>match x with | .int i=>Q (.int i) H | .bl k=>Q (.int (if k=true then 1 else 0)) H | _=>False
@[simp ↓] theorem qiW i H Q:RZ [.int i] H Q=Q (.int i) H:=rfl
@[simp ↓] theorem qiX k H Q:RZ [.bl k] H Q=Q (.int (if k=true then 1 else 0)) H:=rfl
theorem qa0 {xs H Q} (h:RZ xs H Q):(λxs H Q=>(∃i,xs=[.int i]/\Q (.int i) H)\/∃k,xs=[.bl k]/\Q (.int (if k then 1 else 0)) H:List V->Hp->VK->Prop) xs H Q:=by
  obtain⟨x,rfl,h1⟩:=ar1.out h;cases x with
  | int i=>exact .inl ⟨i,rfl,h1⟩
  | bl k=>exact .inr ⟨k,rfl,h1⟩
  | _=>exact h1.elim
def X_:TQ:=λo i v H Q=>isRef o λp=>isInt i λk=>∃xs,H p=some (.lst xs)/\∃j,WW xs.length k=some j/\Q (upd H p (.lst (xs.set j v)))
@[simp ↓] theorem qiY o i v H Q:X_ o i v H Q=(isRef o λp=>isInt i λk=>∃xs,H p=some (.lst xs)/\∃j,WW xs.length k=some j/\Q (upd H p (.lst (xs.set j v)))):=rfl
theorem qa1 {o i v H Q} (h:X_ o i v H Q):qcj o i v H Q:=by
  obtain⟨p,rfl,h1⟩:=isRef.out h;obtain⟨k,rfl,xs,h2,j,h3,h4⟩:=isInt.out h1;exact⟨p,xs,k,j,rfl,rfl,h2,h3,h4⟩
def qec (K:W.Frag):V->Option Int->Option Int->Hp->VK->Prop:=λx lo hi H Q=>isRef x λa=>∃xs,aX K H a xs/\∀p,H p=none->Q (.ref p) (upd H p (.lst (yP xs lo hi)))
@[simp ↓] theorem qj8 (K:W.Frag) x lo hi H Q:qec K x lo hi H Q=(isRef x λa=>∃xs,aX K H a xs/\∀p,H p=none->Q (.ref p) (upd H p (.lst (yP xs lo hi)))):=rfl
theorem qee {K:W.Frag} {x lo hi H Q} (h:qec K x lo hi H Q):qat K x lo hi H Q:=by
  obtain⟨a,rfl,xs,h1⟩:=isRef.out h;exact⟨a,xs,rfl,h1⟩
def qgl:K6:=λvs σ H Q=>ar0 vs (Q σ H)
def qcs (t:TG) (u:K6):K6:=λvs σ H Q=>arH vs λv r=>t v σ H λσ' H'=>u r σ' H' Q
def qgm (K:W.Frag) (n:Nat) (t:K6):TG:=λv σ H Q=>isRef v λa=>∃xs,dO K H a xs/\xs.length=n/\t xs σ H Q
@[simp ↓] theorem qj9 vs σ H Q:qgl vs σ H Q=ar0 vs (Q σ H):=rfl
@[simp ↓] theorem qiZ t u vs σ H Q:qcs t u vs σ H Q=(arH vs λv r=>t v σ H λσ' H'=>u r σ' H' Q):=rfl
@[simp ↓] theorem qj_ K n t v σ H Q:qgm K n t v σ H Q=(isRef v λa=>∃xs,dO K H a xs/\xs.length=n/\t xs σ H Q):=rfl
theorem eY {vs σ H Q} (h:qgl vs σ H Q):qc8 vs σ H Q:=ar0.out h
theorem aV (t:TG) (u:K6):qcs t u=Wh t u:=by
  funext vs σ H Q
  exact qdY _ _
theorem cM (K:W.Frag) (n:Nat) (t:K6):qgm K n t=qag K n t:=by
  funext v σ H Q
  refine propext ⟨λh=>?_,λ⟨a,xs,e,h⟩=>by subst e;exact⟨xs,h⟩⟩;obtain⟨a,rfl,xs,h1⟩:=isRef.out h;exact⟨a,xs,rfl,h1⟩
def qef (f:Int->Int->Int):TIp:=λx y H Q=>isInt x λi=>isInt y λj=>Q (.int (f i j)) H
@[simp ↓] theorem qka f x y H Q:qef f x y H Q=(isInt x λi=>isInt y λj=>Q (.int (f i j)) H):=rfl
theorem qeg {f:Int->Int->Int} {x y H Q} (h:qef f x y H Q):ipI f x y H Q:=by
  obtain⟨i,rfl,h1⟩:=isInt.out h;obtain⟨j,rfl,h2⟩:=isInt.out h1;exact⟨i,j,rfl,rfl,h2⟩
def qgn (i:Nat) (te:TE) (ti:TIp):TS:=λD σ H=>getSt σ i λx=>te σ H λy H1=>ti x y H1 λz H2=>D.nx (σ.set i (some z)) H2
@[simp ↓] theorem qkb i te ti D σ H:qgn i te ti D σ H=(getSt σ i λx=>te σ H λy H1=>ti x y H1 λz H2=>D.nx (σ.set i (some z)) H2):=rfl
theorem qeh {i:Nat} {te:TE} {ti:TIp} {D σ H} (h:qgn i te ti D σ H):qc_ i te ti D σ H:=getSt.out h
def Yb (K:W.Frag) (tl:TE):TI:=λσ H R=>tl σ H λx H1=>isRef x λa=>(∃xs,aX K H1 a xs)/\R (V2 K a) H1
def qct (K:W.Frag) (tl:TE):TI:=λσ H R=>tl σ H λx H1=>isRef x λp=>∃b,(∃xs,LK b K H1 p xs)/\R (Itq b K p) H1
def qcu (tl:TE):TI:=λσ H R=>tl σ H λx H1=>isStr x λz=>R (Its z) H1
def Yc (ta:TA):TI:=λσ H R=>ta σ H λvs H1=>ar1 vs λv=>isInt v λj=>-(2 ^ 62)<=j/\j<2 ^ 62/\R (Oz 0 j.toNat) H1
def Yd (ta:TA):TI:=λσ H R=>ta σ H λvs H1=>ar2 vs λv w=>isInt v λi=>isInt w λj=>(-(2 ^ 62)<=i/\i<2 ^ 62/\-(2 ^ 62)<=j/\j<2 ^ 62)/\R (Oz i (j - i).toNat) H1
def qcv (K:W.Frag) (t:TA):TI:=λσ H R=>t σ H λvs H1=>ar2 vs λx y=>isRef x λa=>isRef y λb=>(∃xs,aX K H1 a xs)/\(∃ys,aX K H1 b ys)/\R (Itz K a b) H1
def Ye (K:W.Frag) (t:TA):TI:=λσ H R=>t σ H λvs H1=>ar1 vs λx=>isRef x λa=>(∃xs,aX K H1 a xs)/\R (Ite K a) H1
@[simp ↓] theorem qgo K tl σ H R:Yb K tl σ H R=(tl σ H λx H1=>isRef x λa=>(∃xs,aX K H1 a xs)/\R (V2 K a) H1):=rfl
@[simp ↓] theorem qi0 K tl σ H R:qct K tl σ H R=(tl σ H λx H1=>isRef x λp=>∃b,(∃xs,LK b K H1 p xs)/\R (Itq b K p) H1):=rfl
@[simp ↓] theorem qi1 tl σ H R:qcu tl σ H R=(tl σ H λx H1=>isStr x λz=>R (Its z) H1):=rfl
@[simp ↓] theorem qgp ta σ H R:Yc ta σ H R=(ta σ H λvs H1=>ar1 vs λv=>isInt v λj=>-(2 ^ 62)<=j/\j<2 ^ 62/\R (Oz 0 j.toNat) H1):=rfl
@[simp ↓] theorem qgq ta σ H R:Yd ta σ H R=(ta σ H λvs H1=>ar2 vs λv w=>isInt v λi=>isInt w λj=>(-(2 ^ 62)<=i/\i<2 ^ 62/\-(2 ^ 62)<=j/\j<2 ^ 62)/\R (Oz i (j - i).toNat) H1):=rfl
@[simp ↓] theorem qi2 K t σ H R:qcv K t σ H R=(t σ H λvs H1=>ar2 vs λx y=>isRef x λa=>isRef y λb=>(∃xs,aX K H1 a xs)/\(∃ys,aX K H1 b ys)/\R (Itz K a b) H1):=rfl
@[simp ↓] theorem qgr K t σ H R:Ye K t σ H R=(t σ H λvs H1=>ar1 vs λx=>isRef x λa=>(∃xs,aX K H1 a xs)/\R (Ite K a) H1):=rfl
theorem bx (K:W.Frag) (tl:TE):Yb K tl=Rv K tl:=by
  funext σ H R
  exact qmr (tl σ H) (funext λx=>funext λH1=>Mu _ _)
theorem kE (K:W.Frag) (tl:TE):qct K tl=qdI K tl:=by
  funext σ H R
  refine qmr (tl σ H) (funext λx=>funext λH1=>propext ⟨λh=>?_,λ⟨b,p,e,h⟩=>by subst e;exact⟨b,h⟩⟩);obtain⟨p,rfl,b,h1⟩:=isRef.out h;exact⟨b,p,rfl,h1⟩
theorem Yg (tl:TE):qcu tl=qdB tl:=by
  funext σ H R
  exact qmr (tl σ H) (funext λx=>funext λH1=>XH _ _)
theorem um (ta:TA):Yc ta=Wm ta:=by
  funext σ H R
  refine qmr (ta σ H) (funext λx=>funext λH1=>propext ⟨λh=>?_,λ⟨b,e,h⟩=>by subst e;exact h⟩);obtain⟨v,rfl,h1⟩:=ar1.out h;obtain⟨i,rfl,h2⟩:=isInt.out h1;exact⟨i,rfl,h2⟩
theorem Hl (ta:TA):Yd ta=Wn ta:=by
  funext σ H R
  refine qmr (ta σ H) (funext λx=>funext λH1=>propext ⟨λh=>?_,λ⟨b,c,e,h⟩=>by subst e;exact h⟩);obtain⟨v,w,rfl,h1⟩:=ar2.out h;obtain⟨i,rfl,h2⟩:=isInt.out h1;obtain⟨j,rfl,h3⟩:=isInt.out h2;exact⟨i,j,rfl,h3⟩
theorem Yh (K:W.Frag) (t:TA):qcv K t=qav K t:=by
  funext σ H R
  refine qmr (t σ H) (funext λx=>funext λH1=>propext ⟨λh=>?_,λ⟨a,b,xs,ys,e,h1,h2,h3⟩=>by subst e;exact⟨⟨xs,h1⟩,⟨ys,h2⟩,h3⟩⟩);obtain⟨v,w,rfl,h1⟩:=ar2.out h;obtain⟨i,rfl,h2⟩:=isRef.out h1;obtain⟨j,rfl,⟨xs,h3⟩,⟨ys,h4⟩,h5⟩:=isRef.out h2;exact⟨i,j,xs,ys,rfl,h3,h4,h5⟩
theorem qe (K:W.Frag) (t:TA):Ye K t=Xk K t:=by
  funext σ H R
  refine qmr (t σ H) (funext λx=>funext λH1=>propext ⟨λh=>?_,λ⟨a,xs,e,h1,h3⟩=>by subst e;exact⟨⟨xs,h1⟩,h3⟩⟩);obtain⟨v,rfl,h1⟩:=ar1.out h;obtain⟨i,rfl,⟨xs,h3⟩,h5⟩:=isRef.out h1;exact⟨i,xs,rfl,h3,h5⟩
def Yi (sp:Sp) (E:XK) (t:TA):TE:=λσ H Q=>t σ H λvs H1=>Uv sp vs H1 Q ⟨0⟩ E
@[simp ↓] theorem qi3 sp E t σ H Q:Yi sp E t σ H Q=(t σ H λvs H1=>Uv sp vs H1 Q ⟨0⟩ E):=rfl
theorem aF (sp:Sp) (E:XK) (t:TA):Yi sp E t=Wz sp [] E t:=by
  funext σ H Q
  exact qmr (t σ H) (funext λvs=>funext λH1=>by rw[qmy];rfl)
def qcw (C:Addr) (m:Str) (sp:Sp) (E:XK) (ta:TE) (t:TA):TE:=λσ H Q=>ta σ H λx H1=>isRef x λa=>∃dx fs,H1 a=some (.ins C dx fs)/\fs.lookup m=none/\t σ H1 λvs H2=>Uv sp (.ref a::vs) H2 Q ⟨0⟩ E
@[simp ↓] theorem qi4 C m sp E ta t σ H Q:qcw C m sp E ta t σ H Q=(ta σ H λx H1=>isRef x λa=>∃dx fs,H1 a=some (.ins C dx fs)/\fs.lookup m=none/\t σ H1 λvs H2=>Uv sp (.ref a::vs) H2 Q ⟨0⟩ E):=rfl
theorem cU (C:Addr) (m:Str) (sp:Sp) (E:XK) (ta:TE) (t:TA):qcw C m sp E ta t=WD C m sp [] E ta t:=by
  funext σ H Q
  refine qmr (ta σ H) (funext λx=>funext λH1=>propext ⟨λh=>?_,λ⟨a,dx,fs,e,h1,h2,h3⟩=>?_⟩)
  ·obtain⟨a,rfl,dx,fs,h1,h2,h3⟩:=isRef.out h;refine⟨a,dx,fs,rfl,h1,h2,?_⟩;simp only[qmy];exact h3
  ·subst e;refine⟨dx,fs,h1,h2,?_⟩;simp only[qmy] at h3;exact h3
def qcx (C:Addr) (sp:Sp) (E:XK) (t:TA):TE:=λσ H Q=>t σ H λvs H1=>∀x dx,H1 x=none->H1 dx=none->dx≠x->
  Uv sp (.ref x::vs) (upd (upd H1 dx (.own x)) x (.ins C dx [])) (λv H2=>v = .non/\Q (.ref x) H2) ⟨0⟩ E
@[simp ↓] theorem qi5 C sp E t σ H Q:qcx C sp E t σ H Q=(t σ H λvs H1=>∀x dx,H1 x=none->H1 dx=none->dx≠x->
  Uv sp (.ref x::vs) (upd (upd H1 dx (.own x)) x (.ins C dx [])) (λv H2=>v = .non/\Q (.ref x) H2) ⟨0⟩ E):=rfl
theorem Yj (C:Addr) (sp:Sp) (E:XK) (t:TA):qcx C sp E t=WK C sp [] E t:=by
  funext σ H Q
  refine qmr (t σ H) (funext λvs=>funext λH1=>?_);simp only[qmy];rfl
def qgs (K:W.Frag) (ta:TE) (f:Str):TE:=λσ H Q=>ta σ H λx H1=>isRef x λa=>∃C dx fs,H1 a=some (.ins C dx fs)/\Cls K C/\lE K C f/\∃v,fs.lookup f=some v/\Q v H1
@[simp ↓] theorem qkc K ta f σ H Q:qgs K ta f σ H Q=(ta σ H λx H1=>isRef x λa=>∃C dx fs,H1 a=some (.ins C dx fs)/\Cls K C/\lE K C f/\∃v,fs.lookup f=some v/\Q v H1):=rfl
theorem JK (K:W.Frag) (ta:TE) (f:Str):qgs K ta f=qap K ta f:=by
  funext σ H Q
  refine qmr (ta σ H) (funext λx=>funext λH1=>propext ⟨λh=>?_,λ⟨a,C,dx,fs,v,e,h1,h2,h3,h4⟩=>by subst e;exact⟨C,dx,fs,h1,h2,h3,v,h4⟩⟩);obtain⟨a,rfl,C,dx,fs,h1,h2,h3,v,h4⟩:=isRef.out h;exact⟨a,C,dx,fs,v,rfl,h1,h2,h3,h4⟩
def qcy (td ty:TE):TE:=λσ H Q=>td σ H λx H1=>ty σ H1 λy H2=>isRef x λa=>∃v,jk H2 a y (some v)/\Q v H2
def qgt (ty td:TE):TE:=λσ H Q=>ty σ H λy H1=>td σ H1 λx H2=>isRef x λa=>∃o,jk H2 a y o/\Q (.bl o.isSome) H2
def R0 (ty td:TE):TE:=λσ H Q=>ty σ H λy H1=>td σ H1 λx H2=>isRef x λa=>∃o,jk H2 a y o/\Q (.bl o.isNone) H2
def qcz (td ty tv:TE):TS:=λD σ H=>tv σ H λv H1=>td σ H1 λx H2=>ty σ H2 λy H3=>isRef x λa=>∃H4,Jl H3 a y v H4/\D.nx σ H4
def Yk (td ty tx:TE):TE:=λσ H Q=>td σ H λx H1=>isRef x λa=>IsD H1 a/\ty σ H1 λy H2=>tx σ H2 λz H3=>∃o,jk H3 a y o/\Q (o.getD z) H3
@[simp ↓] theorem qi6 td ty σ H Q:qcy td ty σ H Q=(td σ H λx H1=>ty σ H1 λy H2=>isRef x λa=>∃v,jk H2 a y (some v)/\Q v H2):=rfl
@[simp ↓] theorem qkd ty td σ H Q:qgt ty td σ H Q=(ty σ H λy H1=>td σ H1 λx H2=>isRef x λa=>∃o,jk H2 a y o/\Q (.bl o.isSome) H2):=rfl
@[simp ↓] theorem qfo ty td σ H Q:R0 ty td σ H Q=(ty σ H λy H1=>td σ H1 λx H2=>isRef x λa=>∃o,jk H2 a y o/\Q (.bl o.isNone) H2):=rfl
@[simp ↓] theorem qi7 td ty tv D σ H:qcz td ty tv D σ H=(tv σ H λv H1=>td σ H1 λx H2=>ty σ H2 λy H3=>isRef x λa=>∃H4,Jl H3 a y v H4/\D.nx σ H4):=rfl
@[simp ↓] theorem qgu td ty tx σ H Q:Yk td ty tx σ H Q=(td σ H λx H1=>isRef x λa=>IsD H1 a/\ty σ H1 λy H2=>tx σ H2 λz H3=>∃o,jk H3 a y o/\Q (o.getD z) H3):=rfl
theorem JL {x:V} {β:Type} {R:Addr->β->Prop}:(isRef x λa=>∃b,R a b)=(∃a b,x = .ref a/\R a b):=propext ⟨λh=>by obtain⟨a,rfl,b,h1⟩:=isRef.out h;exact⟨a,b,rfl,h1⟩,λ⟨a,b,e,h⟩=>by subst e;exact⟨b,h⟩⟩
theorem Mw (td ty:TE):qcy td ty=Xg td ty:=by
  funext σ H Q
  exact qmr (td σ H) (funext λx=>funext λH1=>qmr (ty σ H1) (funext λy=>funext λH2=>JL))
theorem qa2 (ty td:TE):qgt ty td=qdL ty td:=by
  funext σ H Q
  exact qmr (ty σ H) (funext λx=>funext λH1=>qmr (td σ H1) (funext λy=>funext λH2=>JL))
theorem Qf (ty td:TE):R0 ty td=Jo ty td:=by
  funext σ H Q
  refine qmr (ty σ H) (funext λx=>funext λH1=>qmr (td σ H1) (funext λy=>funext λH2=>?_));rw[JL];simp only[Option.not_isSome]
theorem Yl (td ty tv:TE):qcz td ty tv=Xh td ty tv:=by
  funext D σ H
  exact qmr (tv σ H) (funext λv=>funext λH1=>qmr (td σ H1) (funext λx=>funext λH2=>qmr (ty σ H2) (funext λy=>funext λH3=>JL)))
theorem Ho (td ty tx:TE):Yk td ty tx=PN td ty tx:=by
  funext σ H Q
  exact qmr (td σ H) (funext λx=>funext λH1=>Mu _ _)
def qcA (t:TE):TO:=λσ H Q=>t σ H λx H1=>isInt x λi=>Q (some i) H1
@[simp ↓] theorem qi8 t σ H Q:qcA t σ H Q=(t σ H λx H1=>isInt x λi=>Q (some i) H1):=rfl
theorem Mx (t:TE):qcA t=WR t:=by
  funext σ H Q
  exact qmr (t σ H) (funext λx=>funext λH1=>XF _ _)
section
variable {X:Cx} {K:W.Frag}
theorem PE.eqv {e:Expr} {t t':TE} (o:PE X e t) (h:t'=t):PE X e t':=h▸o
theorem PC.eqv {op:CmpOp} {a b:Expr} {t t':TE} (o:PC X op a b t) (h:t'=t):PC X op a b t':=h▸o
theorem PS.eqv {e:Stmt} {t t':TS} (o:PS X e t) (h:t'=t):PS X e t':=h▸o
theorem PG.eqv {e:Expr} {t t':TG} (o:PG X e t) (h:t'=t):PG X e t':=h▸o
theorem fP.eqv {e:List Expr} {t t':K6} (o:fP X e t) (h:t'=t):fP X e t':=h▸o
theorem PI.eqv {tg e:Expr} {t t':TI} (o:PI X tg e t) (h:t'=t):PI X tg e t':=h▸o
theorem PO.eqv {e:Option Expr} {t t':TO} (o:PO X e t) (h:t'=t):PO X e t':=h▸o
theorem xG:gb X (binaryOp .Mult) (fI qal λi j=>.int (i * j)):=qdi.mono Uz
theorem xH:gb X (binaryOp .FloorDiv) (fI T7 λi j=>.int (i / j)):=qam.mono Uz
theorem qD:gb X (binaryOp .Mod) (fI (λ_ j=>0<j) λi j=>.int (i % j)):=qdj.mono Uz
theorem qa3:gb X (binaryOp .Pow) (fI qak λi j=>.int (i ^ j.toNat)):=qdk.mono Uz
theorem qa4:gb X (binaryOp .LShift) (fI qak λi j=>.int (i * 2 ^ j.toNat)):=qdl.mono Uz
theorem qa5:gb X (binaryOp .RShift) (fI (λ_ j=>0<=j) λi j=>.int (i / 2 ^ j.toNat)):=qdm.mono Uz
theorem dh (hK:X.K=K):WX X (qdZ K):=(qjq hK).mono qd0
theorem R3:WX X qd1:=qdv.mono qd2
theorem CQ (hK:X.K=K):gb X (compareOp .In) (fIn K):=(inK hK).mono qgh
theorem qke (hK:X.K=K):gb X (compareOp .In) (qd3 K):=(inK hK).mono qd4
theorem qa6 (hK:X.K=K):gb X (compareOp .NotIn) (Qc K):=(qdH hK).mono X3
theorem qei (hK:X.K=K) (hu:X.A.units+64<cLine):gb X (compareOp .Eq) (qd7 K):=(qdR hK hu).mono qd8
theorem bO (hK:X.K=K):cj X (.builtin "len") (xr K):=(qfS hK).mono qaT
theorem qej:cj X (.builtin "len") XQ:=qfT.mono qaU
theorem CT (hK:X.K=K):cj X (.type "list") (JC K):=(qaA hK).mono UG
theorem Hq:cj X (.type "tuple") JD:=Xb.mono UJ
theorem CV (hK:X.K=K):cj X (.builtin "isinstance") (XR K):=(qfU hK).mono qaV
theorem Ym (hK:X.K=K):cj X (.builtin "isinstance") (XS K):=(qfV hK).mono qaW
theorem gU (hc:X.calm=true):cj X (.builtin "all") qea:=(Uo hc).mono qeb
theorem Qg:cj X (.type "int") RZ:=Ua.mono qa0
theorem Hr:cj X (.builtin "abs") qd9:=Wv.mono qd_
theorem CW (hc:X.calm=true):cj X (.builtin "max") X7:=(T9 hc).mono qaY
theorem Qh (hc:X.calm=true):cj X (.builtin "min") X8:=(T_ hc).mono qaZ
theorem JM:cj X (.builtin "divmod") JH:=Lk.mono U0
theorem Hs (hK:X.K=K) (hc:X.calm=true):cj X (.builtin "sum") (qd5 K):=(Uw hK hc).mono qd6
theorem jL:Pg X "list.append" JF:=Pg.mono (r:=Jc) yQ UL
theorem Qi:Pg X "list.insert" JG:=Pg.mono (r:=Jf) Um UW
theorem Yn:Pg X "str.join" X4:=qaP.mono qaX
theorem Ht (hK:X.K=K):Pg X "list.count" (Qd K):=(Xr hK).mono X5
theorem U3 (hK:X.K=K):Pg X "list.index" (Qe K):=(Xx hK).mono X6
theorem qgv (hK:X.K=K):SlR X (qec K):=(qjV hK).mono qee
theorem Hu:TV X X_:=set_list.mono qa1
theorem qa7:PIp X .Add (qef λi j=>i+j):=qdb.mono qeg
end
theorem getSt.imp {σ:St} {i:Nat} {R R':V->Prop} (f:∀v,R v->R' v):getSt σ i R->getSt σ i R':=by
  induction σ generalizing i with
  | nil=>exact λh=>h.elim
  | cons o σ ih=>
    cases i with
    | zero=>cases o with
      | none=>exact λh=>h.elim
      | some v=>exact f v
    | succ n=>exact ih
theorem isInt.imp {x:V} {R R':Int->Prop} (f:∀v,R v->R' v):isInt x R->isInt x R':=by cases x <;> first | exact f _ | exact λh=>h.elim
theorem isRef.imp {x:V} {R R':Addr->Prop} (f:∀v,R v->R' v):isRef x R->isRef x R':=by cases x <;> first | exact f _ | exact λh=>h.elim
theorem qz.imp {x:V} {R R':Bool->Prop} (f:∀v,R v->R' v):qz x R->qz x R':=by cases x <;> first | exact f _ | exact λh=>h.elim
theorem Mz {K:W.Frag} {g:Int->Int->V} {i j:Nat}:∀(σ:St) (H:Hp) (Q Q':Bool->Hp->Prop),(∀(b:Bool) (H1:Hp),Q b H1->Q' b H1)->p7 (V3 (Qa g) (fVar i) (tCB (xr K) (zP (fVar j) Iv))) σ H Q->p7 (V3 (Qa g) (fVar i) (tCB (xr K) (zP (fVar j) Iv))) σ H Q':=
  λ_ _ _ _ f h=>getSt.imp (λ_ h=>getSt.imp (λ_ h=>isRef.imp (λ_ ⟨ys,h1,h2⟩=>⟨ys,h1,isInt.imp (λ_ h=>isInt.imp (λ_ h=>qz.imp (λ_ h=>f _ _ h) h) h) h2⟩) h) h) h
theorem cD.lK {P:Program} {w:World} {K:W.Frag} {mg:Str->Option Value} {base:Heap} {x qual:Str} {st:Stmt} {f:Addr} {fd:FuncData} {N ps:List Str} {k:Nat} {sp:Sp} (F:cD K x qual st f fd) (S:aO N ps (aA st)) (len:∀vs H Q E,sp vs H Q E->vs.length=ps.length)
    (hbody:∀(cdv:Value) (A:Around) (outer:List Env) (s:Shared) (H:Hp) (vs:List V) (Q:VK) (E:XK),fQ k (A.deeper (envOfC qual (aA st) s.heap.objs.size f cdv))->sp vs H Q E->
      ∃t,GC (aq ig P w K mg base N qual (aA st) f cdv A outer s H E).Ru (gQ st) t/\t {nx:=λ_ H'=>Q .non H',rt:=Q} (jK N vs) H):bN P w K mg base ig (k+1) f fd ps sp:=by
  refine F.ok S len λcdv A outer s H vs Q E hr h=>?_;obtain⟨t,h1,h2⟩:=hbody cdv A outer s H vs Q E hr h;refine⟨t,h1,?_⟩;have hl:=len _ _ _ _ h;have hp:ps.length<=N.length:=by have:=qmr List.length S.pre;rw[ql7] at this;omega
  rw[pZ N vs (by omega)] at h2;exact h2
abbrev two (elt t0 i0:Expr) (f0:List Expr) (t1 i1:Expr) (f1:List Expr) (sc:Scope) (pos:Pos):Expr:=.ListComp elt [⟨t0,i0,f0,0⟩,⟨t1,i1,f1,0⟩] sc pos
section
variable {prog:Program} {w:World} {A:Around} {R:Result->Shared->Prop} {s:Shared} {elt t0 i0 t1 i1:Expr} {f0 f1:List Expr} {sc:Scope} {pos:Pos} {it acc:Value} {env:Env}
theorem JN:compTurn (two elt t0 i0 f0 t1 i1 f1 sc pos) 0 it acc env=(do
      standAt i0.pos
      match <- pyNext it with
      | none=>pure (.done .next)
      | some v=>
        letOwnedTupleGo t0 it v
        assign t0 env v
        let mut ok:=true
        for c in f0 do
          if ok then ok <- isTrue c env (eval c env)
        if ok then
          let x <- eval i1 env
          standAt i1.pos
          let x <- foldedSetIterable i1 env x
          let _ <- runOwn (.compStart (two elt t0 i0 f0 t1 i1 f1 sc pos) 1 (<- holding [x] (pyIter x)) acc env) env
        again (.compLoop (two elt t0 i0 f0 t1 i1 f1 sc pos) 0 it acc env)):=by rfl
theorem MF:compTurn (two elt t0 i0 f0 t1 i1 f1 sc pos) 1 it acc env=(do
      standAt i1.pos
      match <- pyNext it with
      | none=>pure (.done .next)
      | some v=>
        letOwnedTupleGo t1 it v
        assign t1 env v
        let mut ok:=true
        for c in f1 do
          if ok then ok <- isTrue c env (eval c env)
        if ok then
          (do let _ <- call (.builtin "list.append") [acc,<- eval elt env])
        again (.compLoop (two elt t0 i0 f0 t1 i1 f1 sc pos) 1 it acc env)):=by rfl
theorem qa8 (I:Nat->Shared->Prop)
    (turn:∀n s,I n s->wpAny (model prog w) A (pyNext it) (λr s₁=>match r with
      | none=>R (.ok .next) s₁
      | some v=>wpAny (model prog w) A (letOwnedTupleGo t1 it v) (λ_ s₂=>wpAny (model prog w) A (assign t1 env v) (λ_ s₃=>
          wpAny (model prog w) A (forIn f1 true λc r=>if r=true then do let ok <- isTrue c env (eval c env);pure (ForInStep.yield ok) else pure (ForInStep.yield r)) (λok s₄=>
            if ok=true then wpAny (model prog w) A (eval elt env) (λx s₅=>
              wpAny (model prog w) A (call (.builtin "list.append") [acc,x]) (λ_ s₆=>∃m,m<n/\I m s₆) zR s₅) zR s₄
            else ∃m,m<n/\I m s₄) zR s₃) zR s₂) zR s₁) zR s)
    (n:Nat) (h:I n s):codeAny (model prog w) A (.compLoop (two elt t0 i0 f0 t1 i1 f1 sc pos) 1 it acc env) R s:=by
  refine codeAny_loop rfl I (λn s hI=>?_) n h;show wpAny _ A ((compTurn (two elt t0 i0 f0 t1 i1 f1 sc pos) 1 it acc env).onRaise (λx=>do noteFrame x env;theTreesLotGoes x)) _ _ s
  refine wpAny_noted ?_;rw[MF];refine qlS (qnl (qlS (qmt (turn n s hI) (λr s₁ h₁=>?_) λ_ _ h'=>h'.elim)));cases r with
  | none=>exact qlV h₁
  | some v=>
    refine qlS (qmt h₁ (λ_ s₂ h₂=>?_) λ_ _ h'=>h'.elim);refine qlS (qmt h₂ (λ_ s₃ h₃=>qlS (qmt h₃ (λok s₄ h₄=>?_) λ_ _ h'=>h'.elim)) λ_ _ h'=>h'.elim);cases ok with
    | false=>exact qlV ⟨rfl,h₄⟩
    | true=>
      exact qlS (qlS (qmt h₄ (λx s₅ h₅=>qlS (qmt h₅ (λ_ s₆ h₆=>qlV (qlV ⟨rfl,h₆⟩)) λ_ _ h'=>h'.elim)) λ_ _ h'=>h'.elim))
theorem Yo (hs:∀x,foldedSetIterable i1 env x=pure x) (I:Nat->Shared->Prop)
    (turn:∀n s,I n s->wpAny (model prog w) A (pyNext it) (λr s₁=>match r with
      | none=>R (.ok .next) s₁
      | some v=>wpAny (model prog w) A (letOwnedTupleGo t0 it v) (λ_ s₂=>wpAny (model prog w) A (assign t0 env v) (λ_ s₃=>
          wpAny (model prog w) A (forIn f0 true λc r=>if r=true then do let ok <- isTrue c env (eval c env);pure (ForInStep.yield ok) else pure (ForInStep.yield r)) (λok s₄=>
            if ok=true then wpAny (model prog w) A (eval i1 env) (λx s₅=>wpAny (model prog w) A (pyIter x) (λit1 s₆=>
              codeAny (model prog w) A (.compStart (two elt t0 i0 f0 t1 i1 f1 sc pos) 1 it1 acc env) (λr s₇=>r = .ok .next/\∃m,m<n/\I m s₇) s₆) zR s₅) zR s₄
            else ∃m,m<n/\I m s₄) zR s₃) zR s₂) zR s₁) zR s)
    (n:Nat) (h:I n s):codeAny (model prog w) A (.compLoop (two elt t0 i0 f0 t1 i1 f1 sc pos) 0 it acc env) R s:=by
  refine codeAny_loop rfl I (λn s hI=>?_) n h;show wpAny _ A ((compTurn (two elt t0 i0 f0 t1 i1 f1 sc pos) 0 it acc env).onRaise (λx=>do noteFrame x env;theTreesLotGoes x)) _ _ s
  refine wpAny_noted ?_;rw[JN];refine qlS (qnl (qlS (qmt (turn n s hI) (λr s₁ h₁=>?_) λ_ _ h'=>h'.elim)));cases r with
  | none=>exact qlV h₁
  | some v=>
    refine qlS (qmt h₁ (λ_ s₂ h₂=>?_) λ_ _ h'=>h'.elim);refine qlS (qmt h₂ (λ_ s₃ h₃=>qlS (qmt h₃ (λok s₄ h₄=>?_) λ_ _ h'=>h'.elim)) λ_ _ h'=>h'.elim);cases ok with
    | false=>exact qlV ⟨rfl,h₄⟩
    | true=>
      refine qlS (qmt h₄ (λx s₅ h₅=>qlS (qnl (qlS (wpAny_of_eq (hs x) (qlS (qmF (qmt h₅ (λit1 s₆ h₆=>qlS (wpAny_runOwn (qmV h₆ λr s₇ h₇=>?_))) λ_ _ h'=>h'.elim))))))) λ_ _ h'=>h'.elim);obtain⟨rfl,h₇⟩:=h₇;exact qlV ⟨rfl,h₇⟩
theorem Yp (h0:codeAny (model prog w) A (.compLoop (two elt t0 i0 f0 t1 i1 f1 sc pos) 1 it acc env) R s)
    (h:wpAny (model prog w) A (pyIter it) (λit' s'=>codeAny (model prog w) A (.compLoop (two elt t0 i0 f0 t1 i1 f1 sc pos) 1 it' acc env) R s')
      (notedBy (model prog w) A env λx s'=>R (.error x) s') s) :
    codeAny (model prog w) A (.compStart (two elt t0 i0 f0 t1 i1 f1 sc pos) 1 it acc env) R s:=by
  refine codeAny_of_tree ?_;show wpAny _ _ ((compStart (two elt t0 i0 f0 t1 i1 f1 sc pos) 1 it acc env).onRaise (λx=>do noteFrame x env;standAt theWindowsPlace)) _ _ s
  refine wpAny_notedAt ?_;unfold compStart;show wpAny _ _ (ask >>= _) _ _ s;refine qlS (wpAny_askSetting (wpAny_ite ?_));split
  . first
      | exact qlS (qlV (qlV (And.intro rfl h0)))
      | exact qlV (And.intro rfl h0)
  . first
      | exact qlS (qn2 (qlS (qnl (qlS (qmt h (λit' s' h'=>qlV (And.intro rfl h')) λ_ _ x=>x)))))
      | (refine qlS (qn2 ?_);show wpAny _ _ (standAt i1.pos >>= _) _ _ s;exact qlS (qnl (qlS (qmt h (λit' s' h'=>qlV (And.intro rfl h')) λ_ _ x=>x))))
end
def qgw (J:It) (g:TG) (tt:TT) (te:TE) (D:Addr) (σ:St) (H:Hp) (Nx:St->Hp->Prop):Prop:=
  ∃g8:Nat->Nat->St->Hp->Prop,(∃m,g8 0 m σ H)/\∀i m σ' H',g8 i m σ' H'->
    (J.stop i H'/\Nx σ' H')\/(J.go i H'/\∃N:St->Hp->Prop,(∀σ2 H2,N σ2 H2->∃m',m'<m/\g8 (i+1) m' σ2 H2)/\∀x H2,J.Wj i H' x H2->g x σ' H2 λσ2 H3=>tt σ2 H3 λb H4=>
      if b=true then te σ2 H4 λy H5=>∃ys,H5 D=some (.lst ys)/\ys.length<sizeLine/\N σ2 (upd H5 D (.lst (ys++[y]))) else N σ2 H4)
def qcB (own:List Str) (caps:List Nat) (J:It) (g:TG) (tt:TT) (K8:TI) (g2:TG) (Hv:TT) (te:TE) (D:Addr) (σ:St) (H:Hp) (Q:Hp->Prop):Prop:=
  ∃g8:Nat->Nat->St->Hp->Prop,(∃m,g8 0 m (stC own caps σ) H)/\∀i m σ' H',g8 i m σ' H'->
    (J.stop i H'/\Q H')\/(J.go i H'/\∃N:St->Hp->Prop,(∀σ2 H2,N σ2 H2->∃m',m'<m/\g8 (i+1) m' σ2 H2)/\∀x H2,J.Wj i H' x H2->g x σ' H2 λσ2 H3=>tt σ2 H3 λb H4=>
      if b=true then K8 σ2 H4 λJ2 H5=>qgw J2 g2 Hv te D σ2 H5 N else N σ2 H4)
def Qj (own:List Str) (caps:List Nat) (wi:TI) (g:TG) (tt:TT) (K8:TI) (g2:TG) (Hv:TT) (te:TE):TE:=λσ H Q=>wi σ H λJ H1=>∀D,H1 D=none->qcB own caps J g tt K8 g2 Hv te D σ (upd H1 D (.lst [])) (Q (.ref D))
section
variable {X:Cx} {ps sc:Scope} {own pN:List Str} {caps:List Nat} {N:List Str} {elt t0 i0 t1 i1:Expr} {f0 f1:List Expr} {pos:Pos} {wi K8:TI} {g g2:TG} {tt Hv:TT} {te:TE}
theorem Yq {Y:Cx} {p_:List (Addr×Obj)} {σ:St} {H:Hp} {s:Shared} {J:It} {fp:List Addr} {it D:Addr} {tn:Nat->Heap->Prop} {Nx:St->Hp->Prop} (hx:Y.xe=zR)
    (I:Inv Y p_ σ H s) (T:Turn Y.prog Y.w Y.K t1 J fp it tn) (st:tn 0 s.heap) (hf:∀b∈fp,iK Y p_ H b) (hc:Y.calm=true)
    (hg:PG Y t1 g2) (ht:Uj Y f1 Hv) (he:PE Y elt te) (h:qgw J g2 Hv te D σ H Nx) :
    codeAny (model Y.prog Y.w) Y.A (.compStart (two elt t0 i0 f0 t1 i1 f1 sc pos) 1 (.ref it) (.ref D) Y.env) (λr s'=>r = .ok .next/\∃σ' H',Inv Y p_ σ' H' s'/\Nx σ' H') s:=by
  obtain⟨g8,⟨m0,w0⟩,turn⟩:=h;have stat:∀{H':Hp},(∀b∈fp,H' b=none)->∀b∈fp,iK Y p_ H' b:=λhn b hb=>⟨hn b hb,(hf b hb).2⟩;have loop:codeAny (model Y.prog Y.w) Y.A (.compLoop (two elt t0 i0 f0 t1 i1 f1 sc pos) 1 (.ref it) (.ref D) Y.env) (λr s'=>r = .ok .next/\∃σ' H',Inv Y p_ σ' H' s'/\Nx σ' H') s:=by
    refine qa8 (λn s'=>∃i σ' H',Inv Y p_ σ' H' s'/\tn i s'.heap/\(∀b∈fp,H' b=none)/\g8 i n σ' H') ?_ m0 ⟨0,_,H,I,st,λb hb=>(hf b hb).1,w0⟩;rintro n s3 ⟨i,σ3,H3,I3,st3,Wo,w3⟩
    rcases turn i n σ3 H3 w3 with⟨stop,qn⟩ | ⟨go,N',hN,step⟩
    ·refine bY (T.done Y rfl rfl rfl hc i p_ s3 σ3 H3 zR I3 (stat Wo) st3 stop) λr s4 zz=>?_;obtain⟨hr,I4⟩:=zz;subst hr;exact⟨rfl,σ3,H3,I4,qn⟩
    . refine bY (T.item Y rfl rfl rfl hc i p_ s3 σ3 H3 zR I3 (stat Wo) st3 go) λr s4 zz=>?_;obtain⟨u,hr,h4⟩:=zz;subst hr;refine bY h4 λ_ s5 zz=>?_;obtain⟨x,H5,I5,r5,y5,O5,fr5⟩:=zz;have I5':=I5.pinned (stat fr5) (T.obj _ _ O5);have hg':=hg _ s5 σ3 H5 x u _ I5' r5 (step x H5 y5);rw[hx] at hg';refine bY hg' λ_ s6 zz=>?_;obtain⟨σ6,H6,I6,q6⟩:=zz;have ht':=ht _ s6 σ6 H6 _ I6 q6;rw[hx] at ht';refine bY ht' λb s7 zz=>?_;obtain⟨H7,I7,q7⟩:=zz;have again:∀{σ8:St} {H8:Hp} {s8:Shared},Inv Y (p_++vB fp s5.heap) σ8 H8 s8->N' σ8 H8->
          ∃m,m<n/\∃i σ' H',Inv Y p_ σ' H' s8/\tn i s8.heap/\(∀b∈fp,H' b=none)/\g8 i m σ' H':=λ{σ8 H8 s8} I8 n8=>by
        obtain⟨m',hm,w8⟩:=hN σ8 H8 n8;refine⟨m',hm,i+1,σ8,H8,I8.pU,T.keep _ _ _ O5 λb hb o e=>(I8.pin (b,o) (qmi _ (qmi _ (gk hb e)))).1,λb hb=>?_,w8⟩;obtain⟨o,e,d⟩:=T.obj _ _ O5 b hb;exact(I8.pin (b,o) (qmi _ (qmi _ (gk hb e)))).2.1
      cases b with
      | false=>
        rw[if_neg ql_] at q7 ⊢;exact again I7 q7
      | true=>
        rw[if_pos rfl] at q7 ⊢;have he':=he _ s7 σ6 H7 _ I7 q7;rw[hx] at he';refine bY he' λv s8 zz=>?_;obtain⟨y,H8,I8,r8,ys,hD,hz,n8⟩:=zz;have ha:=yQ (X:=Y) _ s8 σ6 H8 (.ref D) [y] (.ref D) [v] (λ_ H9=>N' σ6 H9) I8 rfl (.cons r8 .nil) ⟨D,ys,y,rfl,rfl,hD,hz,n8⟩;rw[hx] at ha;refine bY ha λ_ s9 zz=>?_;obtain⟨_,H9,I9,_,n9⟩:=zz;exact again I9 n9
  exact Yp loop (T.self Y.A 0 _ _ _ st loop)
theorem z7 {p_:List (Addr×Obj)} {σ:St} {H:Hp} {s:Shared} {E:Value->Shared->Prop} {J:It} {fp:List Addr} {it D:Addr} {tn:Nat->Heap->Prop} {Q:Hp->Prop}
    (I:Inv X p_ σ H s) (hps:X.env.scope=ps) (hpN:X.N=pN) (S:aN ps sc pN own caps N) (T:Turn X.prog X.w X.K t0 J fp it tn) (st:tn 0 s.heap) (hf:∀b∈fp,iK X p_ H b) (hc:X.calm=true)
    (hg:∀C s H fp pn,PG (bw X sc N C s H fp pn) t0 g) (ht:∀C s H fp pn,Uj (bw X sc N C s H fp pn) f0 tt) (hi:∀C s H fp pn,PI (bw X sc N C s H fp pn) t1 i1 K8)
    (hg2:∀C s H fp pn,PG (bw X sc N C s H fp pn) t1 g2) (wC:∀C s H fp pn,Uj (bw X sc N C s H fp pn) f1 Hv) (he:∀C s H fp pn,PE (bw X sc N C s H fp pn) elt te)
    (hs:∀(env:Env) x,foldedSetIterable i1 env x=pure x) (h:qcB own caps J g tt K8 g2 Hv te D σ H Q) :
    wpAny (model X.prog X.w) X.A (newFunctionEnv sc X.env.globals (Jd X.env sc.names) [] X.env.qual none .none (some X.env)) (λcenv s4=>
      codeAny (model X.prog X.w) X.A (.compStart (two elt t0 i0 f0 t1 i1 f1 sc pos) 0 (.ref it) (.ref D) {cenv with scope:=relabel sc X.env}) (wJ X p_ σ Q cenv.locals) s4) E s:=by
  obtain⟨g8,⟨m0,w0⟩,turn⟩:=h;refine wI ?_;have ho:=T.obj 0 _ st;have I0:=Lx I hps hpN S hf ho;have ok':=Je I hps S hf ho;have hk:∀b o,s.heap.get? b=some o->(blockAt sc s).heap.get? b=some o:=λb o e=>pushCells_keeps _ _ b o (qlU _ e);have st0:tn 0 (blockAt sc s).heap:=T.keep 0 _ _ st λb _ o e=>hk b o e;have stat:∀{H':Hp},(∀b∈fp,H' b=none)->∀b∈fp,iK (bw X sc N s.heap.objs.size s H fp (X.pn++p_)) [] H' b:=λhn b hb=>
    ⟨hn b hb,(ok'.exf b hb).1,ok'.Im b hb,.inl hb,(ok'.exf b hb).2,λp hp=>(hf b hb).2.2.2.2.2 p (by rw[qmy] at hp;exact hp)⟩
  have loop:codeAny (model X.prog X.w) X.A (.compLoop (two elt t0 i0 f0 t1 i1 f1 sc pos) 0 (.ref it) (.ref D) (bw X sc N s.heap.objs.size s H fp (X.pn++p_)).env) (wJ X p_ σ Q s.heap.objs.size) (blockAt sc s):=by
    refine Yo (hs _) (λn s'=>∃i σ' H',Inv (bw X sc N s.heap.objs.size s H fp (X.pn++p_)) [] σ' H' s'/\tn i s'.heap/\(∀b∈fp,H' b=none)/\g8 i n σ' H') ?_ m0 ⟨0,_,H,I0,st0,λb hb=>(hf b hb).1,w0⟩;rintro n s3 ⟨i,σ3,H3,I3,st3,Wo,w3⟩
    rcases turn i n σ3 H3 w3 with⟨stop,qn⟩ | ⟨go,N',hN,step⟩
    ·refine bY (T.done (bw X sc N s.heap.objs.size s H fp (X.pn++p_)) rfl rfl rfl hc i [] s3 σ3 H3 zR I3 (stat Wo) st3 stop) λr s4 zz=>?_;obtain⟨hr,I4⟩:=zz;subst hr;obtain⟨m,hn,_⟩:=I4.loc;exact⟨H3,rfl,G5 I hf I4,⟨m,hn⟩,I.Ar (qlY _) I4.free,qn⟩
    . refine bY (T.item (bw X sc N s.heap.objs.size s H fp (X.pn++p_)) rfl rfl rfl hc i [] s3 σ3 H3 zR I3 (stat Wo) st3 go) λr s4 zz=>?_;obtain⟨u,hr,h4⟩:=zz;subst hr;refine bY h4 λ_ s5 zz=>?_;obtain⟨x,H5,I5,r5,y5,O5,fr5⟩:=zz;have I5':=I5.pinned (stat fr5) (T.obj _ _ O5);refine bY (hg _ _ _ _ _ _ s5 σ3 H5 x u _ I5' r5 (step x H5 y5)) λ_ s6 zz=>?_;obtain⟨σ6,H6,I6,q6⟩:=zz;refine bY (ht _ _ _ _ _ _ s6 σ6 H6 _ I6 q6) λb s7 zz=>?_;obtain⟨H7,I7,q7⟩:=zz;have again:∀{σ8:St} {H8:Hp} {s8:Shared},Inv (bw X sc N s.heap.objs.size s H fp (X.pn++p_)) ([]++vB fp s5.heap) σ8 H8 s8->N' σ8 H8->
          ∃m,m<n/\∃i σ' H',Inv (bw X sc N s.heap.objs.size s H fp (X.pn++p_)) [] σ' H' s8/\tn i s8.heap/\(∀b∈fp,H' b=none)/\g8 i m σ' H':=λ{σ8 H8 s8} I8 n8=>by
        obtain⟨m',hm,w8⟩:=hN σ8 H8 n8;refine⟨m',hm,i+1,σ8,H8,I8.pU,T.keep _ _ _ O5 λb hb o e=>(I8.pin (b,o) (qmi _ (qmi _ (gk hb e)))).1,λb hb=>?_,w8⟩;obtain⟨o,e,d⟩:=T.obj _ _ O5 b hb;exact(I8.pin (b,o) (qmi _ (qmi _ (gk hb e)))).2.1
      cases b with
      | false=>
        rw[if_neg ql_] at q7 ⊢;exact again I7 q7
      | true=>
        rw[if_pos rfl] at q7 ⊢;refine bY (hi _ _ _ _ _ _ s7 σ6 H7 _ I7 q7) λv s8 h8=>bY h8 λitv s9 h9=>?_;obtain⟨it2,fp2,tn2,J2,H9,e9,I9,T2,st9,f9,q9⟩:=h9;subst e9;refine qmV (Yq (i0:=i0) (f0:=f0) (t0:=t0) (i1:=i1) (pos:=pos) (sc:=sc) rfl I9 T2 st9 f9 hc (hg2 _ _ _ _ _) (wC _ _ _ _ _) (he _ _ _ _ _) q9) λr z8 zz=>?_;obtain⟨hr,σ10,H10,I10,n10⟩:=zz;exact⟨hr,again I10 n10⟩
  exact codeAny_compStart_list loop (T.self X.A 0 _ _ _ st0 loop)
theorem Yr (hps:X.env.scope=ps) (hpN:X.N=pN) (S:aN ps sc pN own caps N) (hc:X.calm=true) (hi0:PI X t0 i0 wi)
    (hg:∀C s H fp pn,PG (bw X sc N C s H fp pn) t0 g) (ht:∀C s H fp pn,Uj (bw X sc N C s H fp pn) f0 tt) (hi:∀C s H fp pn,PI (bw X sc N C s H fp pn) t1 i1 K8)
    (hg2:∀C s H fp pn,PG (bw X sc N C s H fp pn) t1 g2) (wC:∀C s H fp pn,Uj (bw X sc N C s H fp pn) f1 Hv) (he:∀C s H fp pn,PE (bw X sc N C s H fp pn) elt te)
    (hs0:∀x,foldedSetIterable i0 X.env x=pure x:=by intro _;rfl) (hs:∀(env:Env) x,foldedSetIterable i1 env x=pure x:=by intro _ _;rfl):PE X (two elt t0 i0 f0 t1 i1 f1 sc pos) (Qj own caps wi g tt K8 g2 Hv te):=by
  intro p_ s σ H Q I h;rw[eval_ListComp];refine qnS (use:=none) rfl hs0 (iC (S.cells hps I.ok)) S.kind S.locs (bY (hi0 p_ s σ H _ I h) λv s1 h1=>bY h1 λitv s2 h2=>?_);obtain⟨it,fp,tn,J,H2,e,I2,T,st2,f2,q⟩:=h2;subst e;have fr:H2 s2.heap.objs.size=none:=I2.fresh;refine qnz ?_;have I3:Inv X p_ σ (upd H2 s2.heap.objs.size (.lst [])) {s2 with heap:=s2.heap.push {cls:=.type "list",data:=.seq ([]:List Value).toArray},toks:=s2.toks}:=I2.Ue (its:=[]) (ys:=[]) .nil (qmK _);have f3:∀b∈fp,iK X p_ (upd H2 s2.heap.objs.size (.lst [])) b:=λb hb=>by
    obtain⟨o,e,_⟩:=T.obj 0 _ st2 b hb;exact⟨by rw[aB (ql3 (qlW e))];exact(f2 b hb).1,(f2 b hb).2⟩
  refine bY (z7 (i0:=i0) (pos:=pos) I3 hps hpN S T (T.keep 0 _ _ st2 λb _ o e=>qlU _ e) f3 hc hg ht hi hg2 wC he hs (q _ fr)) λcenv s4 h4=>?_;refine qmV h4 λr s5 ⟨H5,hr,I5,⟨m,hn⟩,f5,q5⟩=>?_;subst hr;refine⟨m,hn,λh' hs'=>?_⟩;have I6:Inv X p_ σ H5 {s5 with heap:=h',toks:=s5.toks}:=I5.turned (it:=cenv.locals) (λb o hb e=>(hs'.2 b hb).trans e) f5.1 f5.2.1 f5.2.2.2.1 f5.2.2.2.2.1 f5.2.2.2.2.2;exact⟨.ref s2.heap.objs.size,H5,I6,rfl,q5⟩
theorem MJ {i:Nat} {y:Str} {py spos:Pos} (hN:X.N.Nodup) (hy:X.N[i]? = some y) (hl:X.env.scope.names.lookup y=some .local) (hps:X.env.scope=ps) (hpN:X.N=pN) (S:aN ps sc pN own caps N) (hc:X.calm=true) (hi0:PI X t0 i0 wi)
    (hg:∀C s H fp pn,PG (bw X sc N C s H fp pn) t0 g) (ht:∀C s H fp pn,Uj (bw X sc N C s H fp pn) f0 tt) (hi:∀C s H fp pn,PI (bw X sc N C s H fp pn) t1 i1 K8)
    (hg2:∀C s H fp pn,PG (bw X sc N C s H fp pn) t1 g2) (wC:∀C s H fp pn,Uj (bw X sc N C s H fp pn) f1 Hv) (he:∀C s H fp pn,PE (bw X sc N C s H fp pn) elt te)
    (hsw:swapsWith (two elt t0 i0 f0 t1 i1 f1 sc pos) (some (.Name y py)) spos.line X.env=pure true:=by rfl)
    (hs0:∀x,foldedSetIterable i0 X.env x=pure x:=by intro _;rfl) (hs:∀(env:Env) x,foldedSetIterable i1 env x=pure x:=by intro _ _;rfl):PS X (.Assign [.Name y py] (two elt t0 i0 f0 t1 i1 f1 sc pos) spos) (TX (Qj own caps wi g tt K8 g2 Hv te) (Lh i)):=by
  intro p_ s σ H D0 I h;rw[exec_Assign_Name_used _ _ _ _ hsw];refine qlS (qnl (qlS ?_));show wpAny _ X.A (do let _ <- comprehension (two elt t0 i0 f0 t1 i1 f1 sc pos) sc X.env _ (newList []) false (eval i0 X.env) (some (assign (.Name y py) X.env))) _ _ s
  refine qlS (qmt (qnS (use:=some (assign (.Name y py) X.env)) (Q:=λ_ s'=>SP X p_ D0 .next s') rfl hs0 (iC (S.cells hps I.ok)) S.kind S.locs
    (bY (hi0 p_ s σ H _ I h) λv s1 h1=>bY h1 λitv s2 h2=>?_)) (λ_ s' hq=>qlV (qlV hq)) λ_ _ e=>e)
  obtain⟨it,fp,tn,J,H2,e,I2,T,st2,f2,q⟩:=h2;subst e;have fr:H2 s2.heap.objs.size=none:=I2.fresh;refine qnz ?_;have I3:Inv X p_ σ (upd H2 s2.heap.objs.size (.lst [])) {s2 with heap:=s2.heap.push {cls:=.type "list",data:=.seq ([]:List Value).toArray},toks:=s2.toks}:=I2.Ue (its:=[]) (ys:=[]) .nil (qmK _);have f3:∀b∈fp,iK X p_ (upd H2 s2.heap.objs.size (.lst [])) b:=λb hb=>by
    obtain⟨o,e,_⟩:=T.obj 0 _ st2 b hb;exact⟨by rw[aB (ql3 (qlW e))];exact(f2 b hb).1,(f2 b hb).2⟩
  refine bY (z7 (i0:=i0) (pos:=pos) I3 hps hpN S T (T.keep 0 _ _ st2 λb _ o e=>qlU _ e) f3 hc hg ht hi hg2 wC he hs (q _ fr)) λcenv s4 h4=>?_;refine qmV h4 λr s5 ⟨H5,hr,I5,⟨m,hn⟩,f5,q5⟩=>?_;subst hr;show wpAny _ X.A (assign (.Name y py) X.env (.ref s2.heap.objs.size)) _ _ _;refine wpAny_assign_Name (pQ I5 hN hy (.inl hl) (v:=.ref s2.heap.objs.size) rfl (λs6 I6 hsb=>?_) (.inr hl));obtain⟨a,sb,ha⟩:=hsb;have hne:cenv.locals≠a:=by
    rcases ha with z | z
    ·rw[z];exact f5.2.1
    ·exact λe=>f5.2.2.2.2.1 y a z e.symm
  refine⟨m,hn.sameBut sb hne,λh' hs'=>?_⟩;have I7:Inv X p_ (σ.set i (some (.ref s2.heap.objs.size))) H5 {s6 with heap:=h',toks:=s6.toks}:=I6.turned (it:=cenv.locals) (λb o hb e=>(hs'.2 b hb).trans e) f5.1 f5.2.1 f5.2.2.2.1 f5.2.2.2.2.1 f5.2.2.2.2.2;exact⟨_,H5,I7,q5⟩
end
def qek (Nx:St->Hp->Prop):Ends:={nx:=Nx,ct:=Nx,bk:=Nx,rt:=λ_ _=>False}
def qgx (Q:Hp->Prop):Ends:={nx:=λ_ H=>Q H,ct:=λ_ H=>Q H,bk:=λ_ H=>Q H,rt:=λ_ _=>False}
def tbI (tt:TT) (te:TE) (D:Addr):TS:=λE σ H=>tt σ H λb H4=>fj b (te σ H4 λy H5=>∃ys,H5 D=some (.lst ys)/\ys.length<sizeLine/\E.nx σ (upd H5 D (.lst (ys++[y])))) (E.nx σ H4) ⟨0⟩
def tbO (tt:TT) (K8:TI) (g2:TG) (Hv:TT) (te:TE) (D:Addr):TS:=λE σ H=>tt σ H λb H4=>fj b (K8 σ H4 λJ2 H5=>tFr J2 g2 (tbI Hv te D) (qek E.nx) ⟨0⟩ σ H5) (E.nx σ H4) ⟨0⟩
@[simp ↓] theorem qlh (tt:TT) (te:TE) (D:Addr) (E:Ends) (σ:St) (H:Hp):tbI tt te D E σ H=tt σ H λb H4=>fj b (te σ H4 λy H5=>∃ys,H5 D=some (.lst ys)/\ys.length<sizeLine/\E.nx σ (upd H5 D (.lst (ys++[y])))) (E.nx σ H4) ⟨0⟩:=rfl
@[simp ↓] theorem qli (tt:TT) (K8:TI) (g2:TG) (Hv:TT) (te:TE) (D:Addr) (E:Ends) (σ:St) (H:Hp):tbO tt K8 g2 Hv te D E σ H=tt σ H λb H4=>fj b (K8 σ H4 λJ2 H5=>tFr J2 g2 (tbI Hv te D) (qek E.nx) ⟨0⟩ σ H5) (E.nx σ H4) ⟨0⟩:=rfl
@[simp] theorem qi9 (Nx:St->Hp->Prop):(qek Nx).nx=Nx:=rfl
@[simp] theorem qi_ (Q:Hp->Prop):(qgx Q).nx=λ_ H=>Q H:=rfl
@[simp ↓] theorem qgy (own:List Str) (caps:List Nat) (wi:TI) (g:TG) (tt:TT) (K8:TI) (g2:TG) (Hv:TT) (te:TE) (σ:St) (H:Hp) (Q:VK) :
    Qj own caps wi g tt K8 g2 Hv te σ H Q=wi σ H λJ H1=>∀D,H1 D=none->tFr J g (tbO tt K8 g2 Hv te D) (qgx (Q (.ref D))) ⟨0⟩ (stC own caps σ) (upd H1 D (.lst [])):=rfl
end L2
namespace L2
section
variable {α:Type} [DecidableEq α]
def lU (f:α->Int) (X:α->Bool):List α->Int
  | []=>0
  | x::l=>(if X x=true then f x else 0)+lU f X l
def Ys (X:α->Bool):List (α×α)->Int
  | []=>0
  | e::l=>(if X e.1=true/\X e.2=true then 1 else 0)+Ys X l
def zf (X Y:α->Bool) (x:α):Bool:=X x || Y x
def JQ (X Y:α->Bool) (x:α):Bool:=X x && Y x
def Yt (X:α->Bool) (x:α):Bool:=!X x
def allB (_:α):Bool:=true
theorem JR (f:α->Int) (X Y:α->Bool):∀l,lU f (zf X Y) l+lU f (JQ X Y) l=lU f X l+lU f Y l
  | []=>rfl
  | x::l=>by
    have:=JR f X Y l;simp only[lU,zf,JQ] at this ⊢
    by_cases h1:X x=true <;> by_cases h2:Y x=true <;> simp[h1,h2] <;> omega
theorem R4 (X Y:α->Bool):∀l:List (α×α),Ys X l+Ys Y l<=Ys (zf X Y) l+Ys (JQ X Y) l
  | []=>Int.le_refl _
  | e::l=>by
    have:=R4 X Y l;simp only[Ys,zf,JQ] at this ⊢
    by_cases h1:X e.1=true <;> by_cases h2:Y e.1=true <;> by_cases h3:X e.2=true <;> by_cases h4:Y e.2=true <;> simp[h1,h2,h3,h4] <;> omega
theorem uo {f g:α->Int} {X Y:α->Bool}:∀{l:List α},(∀x∈l,X x=Y x)->(∀x∈l,X x=true->f x=g x)->lU f X l=lU g Y l
  | [],_,_=>rfl
  | x::l,h,k=>by
    have:=uo (l:=l) (λy hy=>h y (qlZ _ hy)) λy hy=>k y (qlZ _ hy);simp only[lU];rw[this,<- h x ql6]
    by_cases hx:X x=true
    ·rw[if_pos hx,if_pos hx,k x ql6 hx]
    ·rw[if_neg hx,if_neg hx]
theorem CZ (f:α->Int):∀l:List α,lU f (λ_=>false) l=0
  | []=>rfl
  | x::l=>by
    simp only[lU];rw[CZ f l];simp
theorem qa9 {f:α->Int} {X Y:α->Bool} {l:List α} (h:∀x∈l,X x=true->Y x=false):lU f (zf X Y) l=lU f X l+lU f Y l:=by
  have a:=JR f X Y l;have b:lU f (JQ X Y) l=0:=by
    rw[<- CZ f l];refine uo (λx hx=>?_) λ_ _ _=>rfl;unfold JQ;cases e:X x
    ·rfl
    ·rw[h x hx e];rfl
  omega
def vL (xs:List α) (X:α->Bool):Prop:=(∃x∈xs,X x=true)/\∃x∈xs,X x=false
def uQ (xs:List α) (ps:List (α×α)) (c k:Int) (m:α->Int):Prop:=∀X,vL xs X->c * Ys X ps+k<=lU m X xs
def qF (xs:List α) (ps:List (α×α)) (c k:Int) (m:α->Int) (X:α->Bool):Prop:=vL xs X/\lU m X xs=c * Ys X ps+k
theorem U4 {xs:List α} {ps:List (α×α)} {c k:Int} {m:α->Int} (hc:0<=c) (h:uQ xs ps c k m) {X Y:α->Bool} (hX:qF xs ps c k m X) (hY:qF xs ps c k m Y) {z u:α} (hz:z∈xs) (hu:u∈xs) (zX:X z=true) (zY:Y z=true) (uX:X u=false) (uY:Y u=false):qF xs ps c k m (zf X Y):=by
  have l1:vL xs (zf X Y):=⟨⟨z,hz,by simp[zf,zX]⟩,⟨u,hu,by simp[zf,uX,uY]⟩⟩;have l2:vL xs (JQ X Y):=⟨⟨z,hz,by simp[JQ,zX,zY]⟩,⟨u,hu,by simp[JQ,uX]⟩⟩;have h1:=h _ l1;have h2:=h _ l2;have h3:=JR m X Y xs;have h4:=R4 X Y ps;have h5:=hX.2;have h6:=hY.2;have h7:=Int.mul_le_mul_of_nonneg_left h4 hc;rw[Int.mul_add,Int.mul_add] at h7;exact⟨l1,by omega⟩
def qa_ (xs:List α) (F:List (α->Bool)):Prop:=F.Pairwise λX Y=>∀x∈xs,X x=true->Y x=false
theorem zj {xs:List α} {ps:List (α×α)} {c k:Int} {m:α->Int} (hc:0<=c) (h:uQ xs ps c k m) {u:α} (hu:u∈xs):∀(F:List (α->Bool)) (T:α->Bool),qa_ xs F->(∀X∈F,qF xs ps c k m X/\X u=false)->qF xs ps c k m T->T u=false->
    ∃F',qa_ xs F'/\(∀X∈F',qF xs ps c k m X/\X u=false)/\∀x∈xs,(∃X∈F',X x=true)↔(T x=true\/∃X∈F,X x=true)
  | [],T,_,_,hT,hTu=>⟨[T],List.pairwise_singleton _ _,λX hX=>by rw[qmu] at hX;subst hX;exact⟨hT,hTu⟩,λx _=>by simp⟩
  | Y::F,T,hD,hF,hT,hTu=>by
    have hD':=List.pairwise_cons.mp hD;have hY:=hF Y ql6
    by_cases hz:∃z∈xs,T z=true/\Y z=true
    ·obtain⟨z,hz,zT,zY⟩:=hz;obtain⟨F',a,b,d⟩:=zj hc h hu F (zf T Y) hD'.2 (λX hX=>hF X (qlZ _ hX)) (U4 hc h hT hY.1 hz hu zT zY hTu hY.2) (by simp[zf,hTu,hY.2]);refine⟨F',a,b,λx hx=>?_⟩;rw[d x hx];simp[zf,or_assoc]
    . obtain⟨F',a,b,d⟩:=zj hc h hu F T hD'.2 (λX hX=>hF X (qlZ _ hX)) hT hTu;refine⟨Y::F',List.pairwise_cons.mpr ⟨λX hX x hx hYx=>?_,a⟩,λX hX=>?_,λx hx=>?_⟩
      . cases e:X x with
        | false=>rfl
        | true=>
          rcases(d x hx).mp ⟨X,hX,e⟩ with t | ⟨Z,hZ,t⟩
          ·exact absurd ⟨x,hx,t,hYx⟩ hz
          ·rw[hD'.1 Z hZ x hx hYx] at t;cases t
      . rcases ql1.mp hX with rfl | hX
        ·exact hY
        ·exact b X hX
      . constructor
        . rintro⟨X,hX,e⟩
          rcases ql1.mp hX with rfl | hX
          ·exact .inr ⟨X,ql6,e⟩
          . rcases(d x hx).mp ⟨X,hX,e⟩ with t | ⟨Z,hZ,t⟩
            ·exact .inl t
            ·exact .inr ⟨Z,qlZ _ hZ,t⟩
        . rintro(t | ⟨Z,hZ,t⟩)
          ·obtain⟨X,hX,e⟩:=(d x hx).mpr (.inl t);exact⟨X,qlZ _ hX,e⟩
          . rcases ql1.mp hZ with rfl | hZ
            ·exact⟨Z,ql6,t⟩
            ·obtain⟨X,hX,e⟩:=(d x hx).mpr (.inr ⟨Z,hZ,t⟩);exact⟨X,qlZ _ hX,e⟩
theorem Hw {xs:List α} {ps:List (α×α)} {c k:Int} {m:α->Int} (hc:0<=c) (h:uQ xs ps c k m) {u:α} (hu:u∈xs):∀L:List α,(∀v∈L,v∈xs)->(∀v∈L,∃T,qF xs ps c k m T/\T v=true/\T u=false)->
    ∃F,qa_ xs F/\(∀X∈F,qF xs ps c k m X/\X u=false)/\∀v∈L,∃X∈F,X v=true
  | [],_,_=>⟨[],List.Pairwise.nil,by simp,by simp⟩
  | v::L,hs,hL=>by
    obtain⟨F,a,b,d⟩:=Hw hc h hu L (λw hw=>hs w (qlZ _ hw)) λw hw=>hL w (qlZ _ hw);obtain⟨T,t1,t2,t3⟩:=hL v ql6;obtain⟨F',a',b',d'⟩:=zj hc h hu F T a b t1 t3;refine⟨F',a',b',λw hw=>?_⟩
    rcases ql1.mp hw with rfl | hw'
    ·exact(d' w (hs w ql6)).mpr (.inl t2)
    ·exact(d' w (hs w hw)).mpr (.inr (d w hw'))
def anyB (F:List (α->Bool)) (x:α):Bool:=F.any λX=>X x
theorem R5 {f g:α->Int} {xs:List α} (P:Int->Int->Prop) (h0:P 0 0) (hadd:∀a b c d,P a b->P c d->P (a+c) (b+d)):∀{F:List (α->Bool)},qa_ xs F->(∀X∈F,P (lU f X xs) (lU g X xs))->P (lU f (anyB F) xs) (lU g (anyB F) xs)
  | [],_,_=>by
    have e:∀h:α->Int,lU h (anyB []) xs=0:=λh=>by
      rw[<- CZ h xs];exact uo (λ_ _=>rfl) λ_ _ _=>rfl
    rw[e,e];exact h0
  | X::F,hD,hF=>by
    have hD':=List.pairwise_cons.mp hD;have ih:=R5 P h0 hadd hD'.2 λY hY=>hF Y (qlZ _ hY);have e:∀h:α->Int,lU h (anyB (X::F)) xs=lU h X xs+lU h (anyB F) xs:=λh=>by
      rw[<- qa9 (Y:=anyB F)]
      ·exact uo (λ_ _=>by simp[anyB,zf]) λ_ _ _=>rfl
      ·intro x hx e;unfold anyB;rw[List.any_eq_false];intro Y hY;rw[hD'.1 Y hY x hx e];simp
    rw[e,e];exact hadd _ _ _ _ (hF X ql6) ih
theorem R6 (f:α->Int) (X:α->Bool):∀l,lU f allB l=lU f X l+lU f (Yt X) l
  | []=>rfl
  | x::l=>by
    have:=R6 f X l;simp only[lU,allB,Yt] at this ⊢
    by_cases h1:X x=true <;> simp[h1] <;> omega
theorem R7 {f:α->Int} {X:α->Bool} {u:α} (hu:f u % 2=1) (hX:X u=true):∀{l:List α},l.Nodup->(∀x∈l,x≠u->X x=true->f x % 2=0)->lU f X l % 2=if u∈l then 1 else 0
  | [],_,_=>rfl
  | x::l,nd,h=>by
    have nd':=qmO.mp nd;have ih:=R7 hu hX nd'.2 λy hy=>h y (qlZ _ hy);simp only[lU]
    by_cases e:x=u
    ·subst e;rw[if_neg nd'.1] at ih;rw[if_pos hX,if_pos ql6];omega
    . have h1:=h x ql6 e;have:(u∈x::l)=(u∈l):=by
        rw[ql1];exact propext ⟨λz=>z.resolve_left λz=>e z.symm,.inr⟩
      simp only[this];rw[<- ih]
      by_cases hx:X x=true
      ·rw[if_pos hx];have:=h1 hx;omega
      ·rw[if_neg hx];omega
theorem qba {xs:List α} {ps:List (α×α)} {k:Int} {m:α->Int} (nd:xs.Nodup) (h:uQ xs ps 2 (2 * k) m) (hV:lU m allB xs % 2=0) {u:α} (hu:u∈xs) (ho:m u % 2=1) :
    ∃v∈xs,v≠u/\m v % 2=1/\∀X,vL xs X->X v=true->X u=false->2 * Ys X ps+2 * k<lU m X xs:=by
  apply qnq;intro hno;have hT:∀v∈xs.filter (λv=>decide (v≠u/\m v % 2=1)),∃T,qF xs ps 2 (2 * k) m T/\T v=true/\T u=false:=λv hv=>by
    rw[qmd,qmo] at hv;apply qnq;intro h2;refine hno ⟨v,hv.1,hv.2.1,hv.2.2,λX hX hXv hXu=>?_⟩;have h3:=h X hX;apply qnq;intro h4;exact h2 ⟨X,⟨hX,by omega⟩,hXv,hXu⟩
  obtain⟨F,a,b,d⟩:=Hw (by decide) h hu _ (λv hv=>(qmd.mp hv).1) hT;have e1:lU m (anyB F) xs % 2=0:=R5 (f:=m) (g:=m) (λi _=>i % 2=0) rfl (λa b c d h1 h2=>by omega) a λX hX=>by
    have:=(b X hX).1.2;rw[this];omega
  have e2:=R7 (f:=m) (X:=Yt (anyB F)) (u:=u) ho (by
    unfold Yt anyB;rw[List.any_eq_false.mpr]
    ·rfl
    ·intro X hX;rw[(b X hX).2];simp) nd λx hx hne hX=>by
    apply qnq;intro h2;obtain⟨X,hX1,hX2⟩:=d x (by
      rw[qmd,qmo];exact⟨hx,hne,by omega⟩)
    unfold Yt anyB at hX;rw[List.any_eq_true.mpr ⟨X,hX1,hX2⟩] at hX;cases hX
  rw[if_pos hu] at e2;have e3:=R6 m (anyB F) xs;omega
def zm (m:α->Int) (u v:α) (x:α):Int:=if x=u then m u+1 else if x=v then m v - 1 else m x
theorem Bc {m:α->Int} {u v:α} (huv:v≠u) {X:α->Bool}:∀{l:List α},l.Nodup->lU (zm m u v) X l=lU m X l+(if u∈l/\X u=true then 1 else 0) - (if v∈l/\X v=true then 1 else 0)
  | [],_=>by simp[lU]
  | x::l,nd=>by
    have nd':=qmO.mp nd;have ih:=Bc (m:=m) huv (X:=X) nd'.2;simp only[lU,ql1];rw[ih]
    by_cases e1:x=u
    ·subst e1;have n1:¬v=x:=huv;cases e:X x <;> simp[zm,nd'.1,n1,e] <;> omega
    . by_cases e2:x=v
      ·subst e2;have n1:¬u=x:=λz=>huv z.symm;cases e:X x <;> simp[zm,nd'.1,n1,e,huv] <;> omega
      ·have n1:¬u=x:=λz=>e1 z.symm;have n2:¬v=x:=λz=>e2 z.symm;simp[zm,e1,e2,n1,n2];omega
theorem qel {xs:List α} {ps:List (α×α)} {k:Int} (nd:xs.Nodup):∀(n:Nat) (m:α->Int),(xs.filter λx=>decide (m x % 2=1)).length<=n->uQ xs ps 2 (2 * k) m->lU m allB xs % 2=0->
    ∃g:α->Int,(∀x∈xs,2 * g x=m x\/(m x % 2=1/\(2 * g x=m x+1\/2 * g x=m x - 1)))/\uQ xs ps 1 k g/\2 * lU g allB xs=lU m allB xs:=by
  have done:∀m:α->Int,(∀x∈xs,m x % 2=0)->uQ xs ps 2 (2 * k) m->lU m allB xs % 2=0->∃g:α->Int,(∀x∈xs,2 * g x=m x\/(m x % 2=1/\(2 * g x=m x+1\/2 * g x=m x - 1)))/\uQ xs ps 1 k g/\2 * lU g allB xs=lU m allB xs:=by
    intro m h0 h hV;have e:∀X,∀l:List α,(∀x∈l,m x % 2=0)->2 * lU (λx=>m x / 2) X l=lU m X l:=by
      intro X l
      induction l with
      | nil=>intro _;rfl
      | cons x l ih=>
        intro hl;have h1:=ih λy hy=>hl y (qlZ _ hy);have h2:=hl x ql6;simp only[lU]
        by_cases hx:X x=true
        ·rw[if_pos hx,if_pos hx];omega
        ·rw[if_neg hx,if_neg hx];omega
    refine⟨λx=>m x / 2,λx hx=>.inl ?_,λX hX=>?_,e allB xs h0⟩
    ·have:=h0 x hx;show 2 * (m x / 2)=m x;omega
    ·have h1:=h X hX;have h2:=e X xs h0;omega
  intro n
  induction n with
  | zero=>
    intro m hn h hV;refine done m (λx hx=>?_) h hV;have:xs.filter (λx=>decide (m x % 2=1))=[]:=qm1 (by omega);rw[List.filter_eq_nil_iff] at this;have:=this x hx;rw[qmo] at this;omega
  | succ n ih=>
    intro m hn h hV
    by_cases hu:∃u∈xs,m u % 2=1
    . obtain⟨u,hu,ho⟩:=hu;obtain⟨v,hv,hvu,hvo,hfree⟩:=qba nd h hV hu ho;have eu:zm m u v u=m u+1:=by simp[zm]
      have ev:zm m u v v=m v - 1:=by simp[zm,hvu]
      have eo:∀x,x≠u->x≠v->zm m u v x=m x:=λx h1 h2=>by simp[zm,h1,h2]
      obtain⟨g,g1,g2,g3⟩:=ih (zm m u v) (by
        have:(xs.filter λx=>decide (zm m u v x % 2=1)).length<(xs.filter λx=>decide (m x % 2=1)).length:=by
          rw[show xs.filter (λx=>decide (zm m u v x % 2=1))=(xs.filter λx=>decide (m x % 2=1)).filter (λx=>decide (x≠u/\x≠v)) from by
            rw[List.filter_filter];refine List.filter_congr λx hx=>?_;rw[qm4,qnJ,qmo,qmo,qmo]
            by_cases h1:x=u
            . subst h1;rw[eu];constructor
              ·intro z;omega
              ·rintro⟨⟨z,_⟩,_⟩;exact absurd rfl z
            . by_cases h2:x=v
              . subst h2;rw[ev];constructor
                ·intro z;omega
                ·rintro⟨⟨_,z⟩,_⟩;exact absurd rfl z
              ·rw[eo x h1 h2];exact⟨λz=>⟨⟨h1,h2⟩,z⟩,λz=>z.2⟩]
          rw[List.length_filter_lt_length_iff_exists];refine⟨u,by rw[qmd,qmo];exact⟨hu,ho⟩,by simp⟩
        omega) (λX hX=>by
        have h1:=h X hX;rw[Bc hvu nd]
        by_cases xv:X v=true
        . by_cases xu:X u=true
          ·rw[if_pos ⟨hu,xu⟩,if_pos ⟨hv,xv⟩];omega
          ·have h2:=hfree X hX xv (by simpa using xu);rw[if_neg λz=>xu z.2,if_pos ⟨hv,xv⟩];omega
        . rw[if_neg λz:v∈xs/\X v=true=>xv z.2]
          by_cases xu:X u=true
          ·rw[if_pos ⟨hu,xu⟩];omega
          ·rw[if_neg λz:u∈xs/\X u=true=>xu z.2];omega) (by
        rw[Bc hvu nd,if_pos ⟨hu,rfl⟩,if_pos ⟨hv,rfl⟩];omega)
      refine⟨g,λx hx=>?_,g2,?_⟩
      . have:=g1 x hx
        by_cases h1:x=u
        . subst h1;rw[eu] at this
          refine Or.inr ?_
          omega
        . by_cases h2:x=v
          . subst h2;rw[ev] at this
            refine Or.inr ?_
            omega
          ·rw[eo x h1 h2] at this;exact this
      ·rw[g3,Bc hvu nd,if_pos ⟨hu,rfl⟩,if_pos ⟨hv,rfl⟩];omega
    ·refine done m (λx hx=>?_) h hV;have:¬m x % 2=1:=λz=>hu ⟨x,hx,z⟩;omega
end
end L2
namespace L2
open PySem PySem.Spec PyProof.Rows
mutual
def mj (H:Hp):PyData->V->Prop
  | .none,v=>v = .non
  | .bool b,v=>v = .bl b
  | .int i,v=>v = .int i
  | .str x,v=>v = .str x
  | .list ds,v=>∃a xs,v = .ref a/\H a=some (.lst xs)/\bL H ds xs
  | .tuple ds,v=>∃a xs,v = .ref a/\H a=some (.tup xs)/\bL H ds xs
  | .dict kvs,v=>kvs=[]/\∃a,v = .ref a/\H a=some (.dK [])
def bL (H:Hp):List PyData->List V->Prop
  | [],vs=>vs=[]
  | d::ds,vs=>∃v r,vs=v::r/\mj H d v/\bL H ds r
end
mutual
theorem mj.same {H H':Hp} (s:Same H H'):∀(d:PyData) (v:V),mj H d v->mj H' d v
  | .none,v,h=>by simp only[mj] at h ⊢;exact h
  | .bool b,v,h=>by simp only[mj] at h ⊢;exact h
  | .int i,v,h=>by simp only[mj] at h ⊢;exact h
  | .str x,v,h=>by simp only[mj] at h ⊢;exact h
  | .list ds,v,h=>by
    simp only[mj] at h ⊢;obtain⟨a,xs,e,h1,h2⟩:=h;exact⟨a,xs,e,s _ _ h1,bL.same s ds xs h2⟩
  | .tuple ds,v,h=>by
    simp only[mj] at h ⊢;obtain⟨a,xs,e,h1,h2⟩:=h;exact⟨a,xs,e,s _ _ h1,bL.same s ds xs h2⟩
  | .dict kvs,v,h=>by
    simp only[mj] at h ⊢;obtain⟨e0,a,e,h1⟩:=h;exact⟨e0,a,e,s _ _ h1⟩
theorem bL.same {H H':Hp} (s:Same H H'):∀(ds:List PyData) (vs:List V),bL H ds vs->bL H' ds vs
  | [],vs,h=>by simp only[bL] at h ⊢;exact h
  | d::ds,vs,h=>by
    simp only[bL] at h ⊢;obtain⟨v,r,e,h1,h2⟩:=h;exact⟨v,r,e,mj.same s d v h1,bL.same s ds r h2⟩
end
theorem bL.ints (H:Hp):∀ns:List Int,bL H (ns.map PyData.int) (ns.map V.int)
  | []=>by simp[bL]
  | n::ns=>by simp only[qmj,bL];exact⟨_,_,rfl,by simp[mj],bL.ints H ns⟩
theorem bL.length {H:Hp}:∀{ds:List PyData} {xs:List V},bL H ds xs->ds.length=xs.length
  | [],_,h=>by simp only[bL] at h;subst h;rfl
  | d::ds,_,h=>by
    simp only[bL] at h;obtain⟨v,r,rfl,h1,h2⟩:=h;simp[bL.length h2]
theorem bL.at {H:Hp}:∀{ds:List PyData} {xs:List V} {i:Nat} {v:V},bL H ds xs->xs[i]? = some v->∃d,ds[i]? = some d/\mj H d v
  | [],_,i,v,h,e=>by simp only[bL] at h;subst h;simp at e
  | d::ds,_,0,v,h,e=>by
    simp only[bL] at h;obtain⟨w,r,rfl,h1,h2⟩:=h;simp at e;subst e;exact⟨d,rfl,h1⟩
  | d::ds,_,i+1,v,h,e=>by
    simp only[bL] at h;obtain⟨w,r,rfl,h1,h2⟩:=h;exact bL.at (i:=i) h2 (by simpa using e)
def hid (p:Addr) (H:Hp):Hp:=λb=>if b=p then none else H b
theorem JT {p b:Addr} {H:Hp} {o:HO} (h:b≠p) (e:H b=some o):hid p H b=some o:=by
  unfold hid;rw[if_neg h];exact e
section
variable {X:Cx} {p_:List (Addr×Obj)} {σ:St} {H:Hp} {s:Shared} {K:W.Frag}
theorem Qk {P:Program} {w:World} {h:Heap} {a:Addr} (ok:rW P w H h) (e:H a=some (.dK [])):Reads h (.ref a) (.dict []) [a]/\(a == sysModules)=false:=by
  obtain⟨_,hd,vs,kv,o,es,ep,h1,h2,h3,_,h5,_⟩:=Xe ok e;refine⟨?_,hd⟩;have ev:vs=[]:=by cases kv;rfl
  subst ev;have el:es.toList=[]:=by
    generalize es.toList=l at h5;cases h5;rfl
  have:=Reads.dict (kvs:=[]) (as:=[]) (bs:=[]) h1 h2.1 h3 (by rw[el];exact .nil) (by rw[el];exact .nil);exact this
mutual
theorem mj.reads (I:Inv X p_ σ H s):∀(d:PyData) (v:V) (u:Value),mj H d v->RelV v u->∃as,Reads s.heap u d as
  | .none,v,u,h,r=>by
    simp only[mj] at h;subst h;cases r;exact⟨_,.none⟩
  | .bool b,v,u,h,r=>by
    simp only[mj] at h;subst h;cases r;exact⟨_,.bool b⟩
  | .int i,v,u,h,r=>by
    simp only[mj] at h;subst h;obtain⟨t,rfl⟩:=r;exact⟨_,.int i t⟩
  | .str x,v,u,h,r=>by
    simp only[mj] at h;subst h;obtain⟨t,rfl⟩:=r;exact⟨_,.str x t⟩
  | .list ds,v,u,h,r=>by
    simp only[mj] at h;obtain⟨a,xs,rfl,hq,hs⟩:=h;cases r;obtain⟨its,rv,pl,hz⟩:=I.list (aX.of hq);obtain⟨o,e,c,n,dt⟩:=pl.isList;obtain⟨as,ra⟩:=bL.reads I ds xs its hs rv;exact⟨_,.list e c dt (by simpa using ra)⟩
  | .tuple ds,v,u,h,r=>by
    simp only[mj] at h;obtain⟨a,xs,rfl,hq,hs⟩:=h;cases r;obtain⟨its,rv,pl,hz⟩:=I.tuple (dO.of hq);obtain⟨o,e,c,n,dt⟩:=pl;obtain⟨as,ra⟩:=bL.reads I ds xs its hs rv;exact⟨_,.tuple e c dt (by simpa using ra)⟩
  | .dict kvs,v,u,h,r=>by
    simp only[mj] at h;obtain⟨rfl,a,rfl,h1⟩:=h;cases r;exact⟨_,(Qk I.hok h1).1⟩
theorem bL.reads (I:Inv X p_ σ H s):∀(ds:List PyData) (vs:List V) (us:List Value),bL H ds vs->Vals vs us->∃as,ReadsAll s.heap us ds as
  | [],vs,us,h,r=>by
    simp only[bL] at h;subst h;cases r;exact⟨_,.nil⟩
  | d::ds,vs,us,h,r=>by
    simp only[bL] at h;obtain⟨v,vr,rfl,h1,h2⟩:=h;cases r with
    | cons r1 r2=>
      obtain⟨as,ra⟩:=mj.reads I d v _ h1 r1;obtain⟨bs,rb⟩:=bL.reads I ds vr _ h2 r2;exact⟨_,.cons ra rb⟩
end
end
section
variable {prog:Program} {w:World} {A:Around} {E:Value->Shared->Prop} {s:Shared}
theorem C_ {e it:Addr} {i:Int} {Q:Value->Shared->Prop} (he:iD s.heap e it i) (h:Q (.ref e) s):wpAny (model prog w) A (pyIter (.ref e)) Q E s:=by
  obtain⟨f0,f1,old,he,_⟩:=he;have hT:s.TypeIs (.ref e) "enumerate" :=⟨_,he,rfl⟩;refine wpAny_pyIter_slot hT qn_ (qnb qn_ hT F.entry_enumerate_iter (?_:wpAny _ _ (ret (.ref e)) _ _ s) (F.args_enumerate_iter_1 _));exact qlV ⟨_,rfl, "enumerate",_,hT,qns.lookup,h⟩
theorem Yu {elts:List Expr} {x1} {pos:Pos} {e it a:Addr} {i:Int} {Q:Unit->Shared->Prop} (he:iD s.heap e it i)
    (hQ:∀h',iD h' e it i->Heap.SameBut e s.heap h'->Q () {s with heap:=h'}):wpAny (model prog w) A (letOwnedTupleGo (.Tuple elts x1 pos) (.ref e) (.ref a)) Q E s:=by
  obtain⟨f0,f1,old,he,hf⟩:=he;unfold letOwnedTupleGo;refine qlS (wpAny_load he ?_);dsimp only;split
  ·refine qlS (qn2 ?_);exact qmW (a:=e) he (by simp) λh' z hs'=>hQ h' ⟨.none,f1,old,z,.inl rfl⟩ hs'
  ·exact qlV (hQ s.heap ⟨f0,f1,old,he,hf⟩ ⟨rfl,λ_ _=>rfl⟩)
end
def qbb (b:Bool) (K:W.Frag) (a:Addr):It:=
  ⟨λi H=>∃xs x,LK b K H a xs/\xs[i]? = some x,
   λi H v H'=>∃t x,v = .ref t/\H t=none/\H'=upd H t (.tup [.int i,x])/\∀xs,LK b K H a xs->xs[i]? = some x,
   λi H=>∃xs,LK b K H a xs/\xs.length<=i⟩
def LtB (b:Bool) (h:Heap) (a:Addr) (items:Array Value):Prop:=match b with
  | true=>h.IsList a items
  | false=>h.IsTuple a items
theorem Inv.qem {X:Cx} {p_:List (Addr×Obj)} {σ:St} {H:Hp} {s:Shared} (I:Inv X p_ σ H s) {b:Bool} {a:Addr} {xs:List V} (h:LK b X.K H a xs) :
    ∃its:List Value,Vals xs its/\its.length<=sizeLine/\LtB b s.heap a its.toArray:=by
  cases b with
  | true=>
    obtain⟨its,rv,pl,hz⟩:=I.list h;exact⟨its,rv,by rw[<- rv.length];exact hz,pl.isList⟩
  | false=>
    obtain⟨its,rv,pl,hz⟩:=I.tuple h;exact⟨its,rv,by rw[<- rv.length];exact hz,pl⟩
theorem Inv.Yv {X:Cx} {p_:List (Addr×Obj)} {σ:St} {H:Hp} {s:Shared} (I:Inv X p_ σ H s) {b:Bool} {a:Addr} {xs ys:List V} (h:LK b X.K H a xs) (q:LK b X.K H a ys):xs=ys:=by
  cases b with
  | true=>exact I.su h q
  | false=>exact I.GD h q
def V5 (b:Bool) (it a:Addr) (i:Nat) (h:Heap):Prop:=match b with
  | true=>h.IsListIter it a i
  | false=>h.IsTupleIter it a i
theorem V5.src {b:Bool} {it a:Addr} {items:Array Value} {i:Nat} {h:Heap} (st:V5 b it a i h) (q:LtB b h a items):kj b it a items i h:=by
  cases b with
  | true=>exact⟨st,q⟩
  | false=>exact⟨st,q⟩
theorem V5.of {b:Bool} {it a:Addr} {items:Array Value} {i:Nat} {h:Heap} (st:kj b it a items i h):V5 b it a i h:=by
  cases b with
  | true=>exact st.1
  | false=>exact st.1
theorem V5.keep {b:Bool} {it a:Addr} {i:Nat} {h h':Heap} (st:V5 b it a i h) (k:∀o,h.get? it=some o->h'.get? it=some o):V5 b it a i h':=by
  cases b with
  | true=>obtain⟨o,e,c⟩:=st;exact⟨o,k _ e,c⟩
  | false=>obtain⟨o,e,c⟩:=st;exact⟨o,k _ e,c⟩
theorem V5.obj {b:Bool} {it a:Addr} {i:Nat} {h:Heap} (st:V5 b it a i h):∃o,h.get? it=some o/\∀v,o.data≠.cell v:=by
  cases b with
  | true=>obtain⟨o,e,_,d⟩:=(show h.IsListIter it a i from st);exact⟨o,e,λv y=>by rw[d] at y;cases y⟩
  | false=>obtain⟨o,e,_,d⟩:=(show h.IsTupleIter it a i from st);exact⟨o,e,λv y=>by rw[d] at y;cases y⟩
structure qgz (b:Bool) (e it a:Addr) (i:Nat) (h:Heap):Prop where
  he:iD h e it i
  hi:V5 b it a i h
theorem Ql {b:Bool} {P:Program} {w:World} {K:W.Frag} {es:List Expr} {k:Nat} {pos:Pos} {e it a:Addr} (nei:e≠it) :
    Turn P w K (.Tuple es k pos) (qbb b K a) [e,it] e (qgz b e it a) where
  mem:=by simp
  obj:=λi h st c hc=>by
    simp only[ql1,qme,qmX] at hc
    rcases hc with rfl | rfl
    ·obtain⟨f0,f1,old,q,_⟩:=st.he;exact⟨_,q,λv e=>nomatch e⟩
    ·exact st.hi.obj
  keep:=λi h h' st kk=>by
    obtain⟨f0,f1,old,q,hf⟩:=st.he;exact⟨⟨f0,f1,old,kk e (by simp) _ q,hf⟩,st.hi.keep λo z=>kk it (by simp) o z⟩
  item:=by
    intro X hP hw hK hc i p_ s σ H E I hf st hg;subst hP hw hK;obtain⟨xs,x,qa,hx⟩:=hg;obtain⟨its,rv,hz,pl⟩:=I.qem qa;obtain⟨u,hu,ru⟩:=rv.get hx;obtain⟨f0,f1,old,hE,_⟩:=id st.he;obtain⟨o1,e1,_⟩:=st.hi.obj;refine Cz st.he (st.hi.src pl) (x:=u) (by simpa using hu) λh' a1 a2 a3 kk=>?_;refine⟨_,rfl,Yu (s:={s with heap:=h',toks:=s.toks+1}) a1 λh2 b1 sb=>?_⟩;have lt:∀{c o},s.heap.get? c=some o->s.heap.objs.size≠c:=λe=>qmY (qlW e);have hn:H s.heap.objs.size=none:=I.hok.fresh (qlY _);have Pu:∀c o,c∉[e,it]->s.heap.get? c=some o->h2.get? c=some o:=λc o hc z=>by
      simp only[ql1,qme,qmX,not_or] at hc;exact(sb.2 c hc.1).trans (kk c o hc.1 hc.2 z)
    have I1:Inv X p_ σ H {s with heap:=h2,toks:=s.toks+1}:=I.nC Pu hf;have wK:=sb.extBut _ _ (lt hE) a3;have I2:Inv X p_ σ (upd H s.heap.objs.size (.tup [.int i,x])) {s with heap:=h2,toks:=s.toks+1}:=I.RP I1 ⟨_,rfl⟩ ru wK;refine⟨.ref s.heap.objs.size,_,I2,rfl,⟨s.heap.objs.size,x,rfl,hn,rfl,λxs' q'=>by rw[I.Yv q' qa];exact hx⟩,?_,λc hcm=>?_⟩
    ·exact⟨b1,(V5.of a2).keep λo z=>(sb.2 it nei.symm).trans z⟩
    . have hne:c≠s.heap.objs.size:=by
        simp only[ql1,qme,qmX] at hcm
        rcases hcm with rfl | rfl
        ·exact(lt hE).symm
        ·exact(lt e1).symm
      rw[aB hne];exact(hf c hcm).1
  done:=by
    intro X hP hw hK hc i p_ s σ H E I hf st hg;subst hP hw hK;obtain⟨xs,qa,hl⟩:=hg;obtain⟨its,rv,hz,pl⟩:=I.qem qa;have l1:=rv.length;refine CG (I.ok.hd hc) st.he (st.hi.src pl) (by simp;omega) λh' kk=>⟨rfl,I.nC (t':=s.toks) (λc o hcm z=>?_) hf⟩;simp only[ql1,qme,qmX,not_or] at hcm;exact kk c o hcm.2 z
  self:=λ_ _ _ _ _ st h=>C_ st.he h
section
variable {X:Cx} {K:W.Frag}
def R8 (K:W.Frag) (t:TA):TI:=λσ H R=>t σ H λvs H1=>ar1 vs λx=>isRef x λa=>∃b,(∃xs,LK b K H1 a xs)/\R (qbb b K a) H1
@[simp ↓] theorem qfp K t σ H R:R8 K t σ H R=(t σ H λvs H1=>ar1 vs λx=>isRef x λa=>∃b,(∃xs,LK b K H1 a xs)/\R (qbb b K a) H1):=rfl
theorem Yw (hK:X.K=K) {es:List Expr} {k:Nat} {pos':Pos} {a:Expr} {ta:TA} {p pos:Pos} (hg:Gl X "enumerate") (hm:X.mg "enumerate" = none) (ha:PA X [a] ta)
    (hs:starEach [a] X.env=[(false,eval a X.env)]:=by rfl) :
    PI X (.Tuple es k pos') (.Call (.Name "enumerate" p) [a] [] pos) (R8 K ta):=by
  subst hK;intro p_ s σ H R I h;refine Call_ (jh I hg hm yW (qmE (bY (ha pos p_ s σ H _ I h) λus s1 zz=>?_) (by rw[hs];rfl) (by rfl)));obtain⟨vs,H1,I1,r1,q1⟩:=zz;obtain⟨v,rfl,q2⟩:=ar1.out q1;obtain⟨l1,rfl,b,⟨xs,qa⟩,q⟩:=isRef.out q2;obtain⟨u,rfl,r⟩:=vals1 r1;obtain rfl:u=Value.ref l1:=r;obtain⟨its,rv,hz,pl⟩:=I1.qem qa;refine nJ (b:=b) (items:=its.toArray) (by cases b <;> exact pl) λh' b1 b2 b3 kk=>?_;refine C_ (s:={s1 with heap:=h'}) b1 ?_;have I2:Inv X p_ σ H1 {s1 with heap:=h'}:=I1.kept (t':=s1.toks) kk;refine⟨s1.heap.objs.size+1,[s1.heap.objs.size+1,s1.heap.objs.size],_,_,H1,rfl,I2,Ql (Nat.succ_ne_self _),⟨b1,V5.of b2⟩,λc hc=>?_,q⟩;have hle:s1.heap.objs.size<=c:=by
    simp only[ql1,qme,qmX] at hc
    rcases hc with rfl | rfl <;> first | exact qnu _ _ | exact qlY _
  exact I1.Ar hle (I1.hok.fresh hle)
end
section
variable {K:W.Frag} {own:List Str} {caps:List Nat} {g:TG} {tt:TT} {te:TE} {D l:Addr} {σ:St} {H:Hp} {Q:Hp->Prop} {d:qaI g tt te Q}
theorem qkf {b:Bool} (xs:List V) (Pv:Nat->St->Hp->Prop) (h0:Pv 0 (stC own caps σ) H) (hl:∀i σ H,i<=xs.length->Pv i σ H->LK b K H l xs)
    (hs:∀i x t σ H,xs[i]? = some x->H t=none->Pv i σ H->zV g tt te D (Pv (i+1)) (.ref t) σ (upd H t (.tup [.int i,x]))) (hd:∀σ H,Pv xs.length σ H->Q H):tCm own caps (qbb b K l) g tt te Q d D σ H:=by
  refine⟨λi m σ H=>m=xs.length - i/\i<=xs.length/\Pv i σ H,⟨xs.length,by simp,qmK _,h0⟩,?_⟩;rintro i m σ H ⟨rfl,hi,p⟩;have q:=hl i σ H hi p
  by_cases hlt:i<xs.length
  ·refine .inr ⟨⟨xs,xs[i],q,by simp[hlt]⟩,Pv (i+1),λσ' H' p'=>⟨xs.length - (i+1),by omega,rfl,hlt,p'⟩,λx H' y=>?_⟩;obtain⟨t,u,rfl,ht,rfl,e⟩:=y;exact hs i u t σ H (e xs q) ht p
  . have:i=xs.length:=by omega
    subst this;exact .inl ⟨⟨xs,q,qlY _⟩,hd σ H p⟩
end
theorem Dc {f:Array Value->Array Value} {o:Obj}:(Obj.mapFields f o).dict=o.dict:=by
  obtain⟨c,d,dat,sl⟩:=o;cases dat <;> rfl
def Trc (base h:Heap) (e:Addr) (cls:Value×Option Addr) (fl:Value) (T:Addr):Prop:=
  ∃oe vs oT ts,h.get? e=some oe/\(oe.cls,oe.dict)=cls/\oe.data = .fields vs/\vs[2]? = some .none/\vs[1]? = some (.ref T)/\base.get? T=none/\T≠e/\h.get? T=some oT/\oT.data = .fields ts/\ts[3]? = some fl
structure Stn (base:Heap) (l:List Env) (e:Addr) (cls:Value×Option Addr) (fl:Value) (h h':Heap):Prop where
  stays:base.StaysIn h'
  frames:h'.FunFrames base l
  trc:∃T,Trc base h' e cls fl T
  slots:h.UpToSlots h'
section
variable {M:Model} {A:Around} {E:Value->Shared->Prop} {s:Shared} {base:Heap} {env:Env} {outer l:List Env} {L e:Addr} {Q:Unit->Shared->Prop}
theorem R9 {oe:Obj} {vs:Array Value} {head:Value} {had:Bool} (fr:A.frames=some (env::outer)) (ff:s.heap.FunFrames base (env::outer)) (lf:env.frame=some L) (ee:s.heap.get? e=some oe)
    (st:base.StaysIn s.heap) (nb:base.get? e=none) (de:oe.data = .fields vs) (v2:vs[2]? = some .none) (hq:∀h',Stn base (env::outer) e (oe.cls,oe.dict) (rawInt L) s.heap h'->Q () {s with heap:=h'}) :
    wpAny M A (do let a <- frameOf env;let pl <- entryPlaceOf L had;let b <- EntryCells.newEntry head a .none (rawInt L) .none pl;setField (.ref e) 1 b) Q E s:=by
  have sz2:2<vs.size:=(qnm.mp v2).1;have ne:e∉frs (env::outer):=λz=>by
    obtain⟨_,o,y,d⟩:=ff.mem z;rw[ee] at y;cases y;exact d vs de
  refine qlS (wpAny_frameOf_fun fr ff lf λg1 x1=>?_);refine qlS (wpAny_entryPlaceOf λpl okp=>?_);unfold EntryCells.newEntry newFields;refine qlS (qnz ?_ (okp.sizeOk5 _ _ _ _ _));have e1:g1.get? e=some oe:=(x1.2.1 e ne).trans ee;have st1:base.StaysIn g1:=λb o z=>(x1.2.1 b λy=>by rw[(ff.mem y).1] at z;cases z).trans (st b o z);generalize hR:({cls:=.type "traceback",dict:=none,data:=.fields ([head,.ref L,.none,rawInt L,.none]++(if pl.isEmpty then List.replicate 6 Value.none else pl)).toArray}:Obj)=R
  have dR:∃ts,R.data = .fields ts/\ts[3]? = some (rawInt L)/\R.isFreed=false:=by
    subst hR;exact⟨_,rfl,by simp,rfl⟩
  obtain⟨ts,dR,tR,fR⟩:=dR;have e2:=qlU (h:=g1) R e1;refine qof e2 de (Nat.lt_of_succ_lt sz2) (hq _ ?_);have Te:g1.objs.size≠e:=qmY (qlW e1);have keep:∀{b o},b≠e->g1.get? b=some o->((g1.push R).update e (Obj.mapFields (·.setIfInBounds 1 (Value.ref g1.objs.size)))).get? b=some o:=λ{b o} nb z=>by
    rw[qna _ _ (qnx nb)];exact qlU _ z
  have nr:∀{b o},s.heap.get? b=some o->(∀us,o.data≠.fields us)->b≠e:=λ{b o} z d y=>by
    rw[y,ee] at z;cases z;exact d vs de
  have d3:=qnL de (·.setIfInBounds 1 (Value.ref g1.objs.size));refine⟨λb o z=>keep (λy=>by rw[y,nb] at z;cases z) (st1 b o z),ff.of_keeps λb o z d=>?_,⟨g1.objs.size,?_⟩,λb o z d=>?_⟩
  ·obtain⟨sl,y⟩:=x1.2.2 b o z;exact⟨_,keep (nr z d) y,rfl⟩
  . refine⟨_,_,R,ts,qmI _ e2 (qn8 d3),by rw[Obj.cls_mapFields,Dc],d3,?_,?_,st1.fresh,Te,?_,dR,tR⟩
    ·rw[qnU (by decide)];exact v2
    ·simp[Nat.lt_of_succ_lt sz2]
    ·rw[qna _ _ (qnx Te)];exact ql0 g1 fR
  ·obtain⟨sl,y⟩:=x1.2.2 b o z;exact⟨sl,keep (nr z d) y⟩
theorem Qm {oe:Obj} {vs:Array Value} (fr:A.frames=some (env::outer)) (ff:s.heap.FunFrames base (env::outer)) (lf:env.frame=some L) (ee:s.heap.get? e=some oe)
    (st:base.StaysIn s.heap) (nb:base.get? e=none) (de:oe.data = .fields vs) (v1:vs[1]? = some .none) (v2:vs[2]? = some .none) (hq:∀h',Stn base (env::outer) e (oe.cls,oe.dict) (rawInt L) s.heap h'->Q () {s with heap:=h'}) :
    wpAny M A (noteFrame (.ref e) env) Q E s:=by
  unfold noteFrame;simp only[lf];refine qlS (qmD ee de v1 ?_);rw[if_neg (by decide)];exact R9 fr ff lf ee st nb de v2 hq
theorem Hx {cls:Value×Option Addr} {T:Addr} (fr:A.frames=some (env::outer)) (ff:s.heap.FunFrames base (env::outer)) (lf:env.frame=some L) (tr:Trc base s.heap e cls .none T)
    (st:base.StaysIn s.heap) (nb:base.get? e=none) (hq:∀h',Stn base (env::outer) e cls (rawInt L) s.heap h'->Q () {s with heap:=h'}) :
    wpAny M A (noteFrame (.ref e) env) Q E s:=by
  obtain⟨oe,vs,oT,ts,ee,rfl,de,v2,v1,nT,Te,eT,dT,t3⟩:=tr;unfold noteFrame;simp only[lf];refine qlS (qmD ee de v1 ?_);rw[if_pos (by simp)];refine qlS (qmD eT dT t3 ?_);rw[if_neg (by simp[rawInt])];refine qlS (qof eT dT (qnm.mp t3).1 ?_);have oth:∀{b},b≠T->(s.heap.update T (Obj.mapFields (·.setIfInBounds 3 Value.none))).get? b=s.heap.get? b:=λn=>qna _ _ (qnx n);have nr:∀{b o},s.heap.get? b=some o->(∀us,o.data≠.fields us)->b≠T:=λ{b o} z d y=>by
    rw[y,eT] at z;cases z;exact d ts dT
  refine R9 (s:={s with heap:=s.heap.update T (Obj.mapFields (·.setIfInBounds 3 Value.none))}) fr (ff.of_keeps λb o z d=>⟨o,(oth (nr z d)).trans z,rfl⟩) lf ((oth (qnx Te)).trans ee) (λb o z=>(oth λy=>by rw[y,nT] at z;cases z).trans (st b o z)) nb de v2 λh' x=>hq h' ⟨x.stays,x.frames,x.trc,λb o z d=>x.slots b o ((oth (nr z d)).trans z) d⟩
theorem Dd {cls:Value×Option Addr} {fl:Value} {T:Addr} (ff:s.heap.FunFrames base l) (tr:Trc base s.heap e cls fl T) (st:base.StaysIn s.heap) (hq:∀h',Stn base l e cls .none s.heap h'->Q () {s with heap:=h'}) :
    wpAny M A (setFlight (.ref e) none) Q E s:=by
  obtain⟨oe,vs,oT,ts,ee,rfl,de,v2,v1,nT,Te,eT,dT,t3⟩:=tr;have z3:3<ts.size:=(qnm.mp t3).1;unfold setFlight;refine qlS (qmD ee de v1 ?_);rw[if_pos (by simp)];refine qof eT dT z3 (hq _ ?_);have oth:∀{b} (f:Obj->Obj),b≠T->(s.heap.update T f).get? b=s.heap.get? b:=λf n=>qna _ _ (qnx n);have nr:∀{b o},s.heap.get? b=some o->(∀us,o.data≠.fields us)->b≠T:=λ{b o} z d y=>by
    rw[y,eT] at z;cases z;exact d ts dT
  refine⟨λb o z=>(oth _ λy=>by rw[y,nT] at z;cases z).trans (st b o z),ff.of_keeps λb o z d=>⟨o,(oth _ (nr z d)).trans z,rfl⟩,⟨T,oe,vs,_,_,(oth _ (qnx Te)).trans ee,rfl,de,v2,v1,nT,Te,qmI _ eT (qn8 (qnL dT _)),qnL dT _,?_⟩,λb o z d=>⟨o.slots,(oth _ (nr z d)).trans z⟩⟩;simp[z3]
theorem R_ {cls:Value×Option Addr} (note:∀Q':Unit->Shared->Prop,(∀h',Stn base (env::outer) e cls (rawInt L) s.heap h'->Q' () {s with heap:=h'})->wpAny M A (noteFrame (.ref e) env) Q' E s)
    (hq:∀h',Stn base (env::outer) e cls .none s.heap h'->Q () {s with heap:=h'}):wpAny M A (leaving env (.ref e)) Q E s:=by
  unfold leaving;refine qlS (note _ λh1 x1=>?_);obtain⟨T,tr⟩:=x1.trc;exact Dd (s:={s with heap:=h1}) x1.frames tr x1.stays λh2 x2=>hq h2 ⟨x2.stays,x2.frames,x2.trc,x1.slots.trans x2.slots⟩
end
structure Hy (h0 h:Heap) (H:Hp) (a C:Addr) (od:Option Addr):Prop where
  new:h0.get? a=none
  un:H a=none
  ob:∃oe vs,h.get? a=some oe/\(oe.cls,oe.dict)=(Value.ref C,od)/\oe.data = .fields vs/\vs[2]? = some .none/\(vs[1]? = some .none\/
    ∃T oT ts,vs[1]? = some (.ref T)/\T≠a/\h0.get? T=none/\H T=none/\h.get? T=some oT/\oT.data = .fields ts/\ts[3]? = some .none)
structure Yx (h0 h:Heap) (H:Hp) (a C:Addr) (od:Option Addr) (T:Addr):Prop where
  new:h0.get? a=none
  newT:h0.get? T=none
  un:H a=none
  unT:H T=none
  ob:∃oe vs oT ts,h.get? a=some oe/\(oe.cls,oe.dict)=(Value.ref C,od)/\oe.data = .fields vs/\vs[2]? = some .none/\vs[1]? = some (.ref T)/\T≠a/\h.get? T=some oT/\oT.data = .fields ts/\ts[3]? = some .none
theorem Yx.in {h0 h:Heap} {H:Hp} {a C T:Addr} {od:Option Addr} (x:Yx h0 h H a C od T):Hy h0 h H a C od:=by
  obtain⟨h1,h2,h3,h4,oe,vs,oT,ts,t1,t2,t3,t4,t5,t6,t7⟩:=x;exact⟨h1,h3,oe,vs,t1,t2,t3,t4,.inr ⟨T,oT,ts,t5,t6,h2,h4,t7⟩⟩
def V6 (P:Program) (w:World):Wy:=λouter H s E e s'=>∃(a C:Addr) (od:Option Addr) (H':Hp),e = .ref a/\s'.os=s.os/\AllBare s'.gens/\Un (frs outer) [] H H' s.heap s'.heap/\rW P w H' s'.heap/\(∃T,Yx s.heap s'.heap H' a C od T)/\E (.ref C) od H'
theorem Yy {P:Program} {w:World} {H:Hp} {h:Heap} (x:rW P w H h) {b:Addr} (e:h.get? b=none):H b=none:=by
  cases q:H b with
  | none=>rfl
  | some u=>
    obtain⟨o,eo⟩:∃o,h.get? b=some o:=by
      have:=x b u q;cases u with
      | lst xs=>obtain⟨_,_,_,_,e⟩:=this;exact⟨_,e⟩
      | tup xs=>obtain⟨_,_,_,o,e,_⟩:=this;exact⟨_,e⟩
      | dK kvs=>obtain⟨_,_,_,_,o,_,_,e,_⟩:=this;exact⟨_,e⟩
      | dT kvs=>obtain⟨_,_,_,_,o,_,_,e,_⟩:=this;exact⟨_,e⟩
      | set S n=>obtain⟨o,_,_,_,e,_⟩:=this;exact⟨_,e⟩
      | ins C dx fs=>obtain⟨_,_,_,e,_⟩:=this;exact⟨_,e⟩
      | own y=>obtain⟨_,e⟩:=this;exact⟨_,e⟩
      | xd fs=>obtain⟨_,⟨_,_,_,e,_⟩,_⟩:=this;exact⟨_,e⟩
      | rng lo hi=>obtain⟨_,_,_,e⟩:=this;exact⟨_,e⟩
      | Ld ob u=>obtain⟨e,_⟩:=this;exact⟨_,e⟩
      | Aq ps=>exact⟨_,(show h.get? b=some _ from this)⟩
      | met f y=>exact⟨_,(show h.get? b=some _ from this)⟩
      | ext φ=>obtain⟨_,⟨o,e⟩,_⟩:=this;exact⟨_,e⟩
    rw[e] at eo;cases eo
section
variable {X:Cx} {p_:List (Addr×Obj)} {σ:St} {H:Hp} {s:Shared}
theorem Inv.old (I:Inv X p_ σ H s) (hex:X.ex=[]) {b:Addr} (e:s.heap.get? b=none):X.s₀.heap.get? b=none:=by
  cases q:X.s₀.heap.get? b with
  | none=>rfl
  | some o=>
    obtain⟨o',eo⟩:=I.base.there b o q (by rw[hex];simp);rw[e] at eo;cases eo
theorem Sd (I:Inv X p_ σ H s) (hex:X.ex=[]) {a C:Addr} {od:Option Addr} {l:List Addr} (hl:∀b∈l,b∈frs X.stack\/(X.s₀.heap.get? b=none/\H b=none)) (ha:X.s₀.heap.get? a=none) (hH:H a=none) (hs:∀b∈frs X.stack,b∈l)
    {E:XK} (hE:E (.ref C) od H) {h':Heap} (x:Stn (W.hideAll s.heap l) X.stack a (.ref C,od) .none s.heap h'):V6 X.prog X.w X.outer X.H₀ X.s₀ E (.ref a) {s with heap:=h'}:=by
  obtain⟨k1,k2,⟨T,oe,vs,oT,ts,t1,t2,t3,t4,tt,t5,t6,t7,t8,t9⟩,k4⟩:=x;have nl:∀{b:Addr} {o:Obj},b∉l->s.heap.get? b=some o->h'.get? b=some o:=λhb e=>k1 _ _ (W.hideAll_get _ e hb);have qgA:∀{b:Addr} {o:Obj},X.s₀.heap.get? b=some o->b∉X.fs->b∉l:=λ{b o} e hb hm=>by
    rcases hl b hm with z | ⟨z,_⟩
    . rcases ql1.mp (I.vA b z) with z | z
      ·rw[z] at e;exact absurd (qlW e) (Nat.not_lt.mpr I.ok.above)
      ·exact hb z
    ·rw[z] at e;cases e
  have trL:∀{b:Addr} {u:HO},H b=some u->b∉l:=λ{b u} e hm=>by
    rcases hl b hm with z | ⟨_,z⟩
    ·rw[I.Ba b z] at e;cases e
    ·rw[z] at e;cases e
  have fsl:∀{b:Addr} {o:Obj},b∈X.fs->s.heap.get? b=some o->∃sl,h'.get? b=some {o with slots:=sl}:=λ{b o} hb e=>by
    obtain⟨_,o2,e2,hd⟩:=I.rY.mem hb;rw[e] at e2;cases e2;exact k4 b o e hd
  have Ru:∀b:Addr,b∉X.ex:=λb=>by rw[hex];simp
  refine⟨a,C,od,H,rfl,I.os,I.bare,⟨λb o e n hb _=>?_,λb o e n hb _=>?_,λb o e n _=>I.base.free b o e n (Ru b),λb o e _=>?_,I.base.tups,I.base.qm,I.base.qp⟩,λb u e=>?_,⟨T,ha,?_,hH,?_,oe,vs,oT,ts,t1,t2,t3,t4,tt,t6,t7,t8,t9⟩,hE⟩
  ·exact nl (qgA e hb) (I.base.keep b o e n hb (Ru b))
  ·obtain⟨sl,e2⟩:=I.base.slot b o e n hb (Ru b);obtain⟨sl',e3⟩:=fsl hb e2;exact⟨sl',e3⟩
  . obtain⟨o',e2⟩:=I.base.there b o e (Ru b)
    by_cases hb:b∈X.fs
    ·obtain⟨sl,e3⟩:=fsl hb e2;exact⟨_,e3⟩
    ·exact⟨o',nl (qgA e hb) e2⟩
  . refine(I.hok b u e).stay (λc v hc q=>?_) (λc q=>q) λc xs q=>q
    rcases hc with rfl | hc
    ·exact nl (trL e) q
    ·exact nl (trL hc) q
  all_goals
    have hT:T∉frs X.stack:=λhm=>by
      obtain⟨_,o2,e2,hd⟩:=k2.mem hm;rw[t7] at e2;cases e2;exact hd _ t8
    have cs:s.heap.get? T=none\/(X.s₀.heap.get? T=none/\H T=none):=by
      cases q:s.heap.get? T with
      | none=>exact .inl rfl
      | some o=>
        by_cases hm:T∈l
        ·exact .inr ((hl T hm).resolve_left hT)
        ·rw[W.hideAll_get _ q hm] at t5;cases t5
  ·exact cs.elim (λz=>I.old hex z) λz=>z.1
  ·exact cs.elim (λz=>Yy I.hok z) λz=>z.2
theorem Yz (I:Inv X p_ σ H s) (hst:X.stack=X.env::X.outer) (hfr:X.env.frame=some X.env.locals) (hex:X.ex=[]) {a C:Addr} {od:Option Addr} (x:Hy X.s₀.heap s.heap H a C od) {E:XK} (hE:E (.ref C) od H) {E':Value->Shared->Prop} :
    wpAny (model X.prog X.w) X.A (leaving X.env (.ref a)) (λ_ s''=>V6 X.prog X.w X.outer X.H₀ X.s₀ E (.ref a) s'') E' s:=by
  obtain⟨new,un,oe,vs,he,hc,hd,h0,hT⟩:=x;have fr:=I.ok.frames;rw[hst] at fr;have qcC:∀l:List Addr,s.heap.FunFrames (W.hideAll s.heap (frs X.stack++l)) (X.env::X.outer):=λl=>by
    rw[<- hst];exact W.funFrames_hide I.stack λenv he b hb=>qmC _ (List.mem_filterMap.mpr ⟨env,he,hb⟩)
  rcases hT with h1 | ⟨T,oT,ts,h1,h2,h3,h4,h5,h6,h7⟩
  . refine R_ (base:=W.hideAll s.heap (frs X.stack++[a])) (λQ' q=>Qm fr (qcC _) hfr he (λb o e=>W.of_hideAll _ e) (qoc _ (by simp)) hd h1 h0 q) λh' hL=>?_;rw[hc,<- hst] at hL;refine Sd I hex (λb hb=>?_) new un (λb hb=>qmC _ hb) hE hL
    rcases qmh.mp hb with z | z
    ·exact .inl z
    ·rw[qmu.mp z];exact .inr ⟨new,un⟩
  . refine R_ (base:=W.hideAll s.heap (frs X.stack++[a,T])) (cls:=(.ref C,od)) (λQ' q=>Hx fr (qcC _) hfr (T:=T) ⟨oe,vs,oT,ts,he,hc,hd,h0,h1,qoc _ (by simp),h2,h5,h6,h7⟩ (λb o e=>W.of_hideAll _ e) (qoc _ (by simp)) q) λh' hL=>?_;rw[<- hst] at hL;refine Sd I hex (λb hb=>?_) new un (λb hb=>qmC _ hb) hE hL
    rcases qmh.mp hb with z | z
    ·exact .inl z
    . simp only[ql1,qme,qmX] at z
      rcases z with rfl | rfl
      ·exact .inr ⟨new,un⟩
      ·exact .inr ⟨h3,h4⟩
theorem Hy.back {h0 h1 h:Heap} {H:Hp} {a C:Addr} {od:Option Addr} (x:Hy h1 h H a C od) (k:∀b,h1.get? b=none->h0.get? b=none):Hy h0 h H a C od:=by
  obtain⟨new,un,oe,vs,he,hc,hd,h2,hT⟩:=x;refine⟨k _ new,un,oe,vs,he,hc,hd,h2,?_⟩
  rcases hT with h1 | ⟨T,oT,ts,h1,h2,h3,h4,h5⟩
  ·exact .inl h1
  ·exact .inr ⟨T,oT,ts,h1,h2,k _ h3,h4,h5⟩
def Lets (X:Cx) (E:XK):Prop:=∀(p_:List (Addr×Obj)) (σ:St) (H:Hp) (s:Shared) (a C:Addr) (od:Option Addr),Inv X p_ σ H s->Hy X.s₀.heap s.heap H a C od->E (.ref C) od H->X.xe (.ref a) s
theorem Sg {P:Program} {w:World} {K:W.Frag} {mg:Str->Option Value} {base:Heap} {N:List Str} {qual:Str} {scope:Scope} {f:Addr} {cd:Value} {A:Around} {outer:List Env} {s:Shared} {H:Hp} {E:XK} :
    Lets (aq (V6 P w) P w K mg base N qual scope f cd A outer s H E) E:=λp_ σ H1 s1 a C od I x hE=>Yz I rfl rfl rfl x hE
theorem Lets.passes {X:Cx} {E:XK} (h:Lets X E) (hex:X.ex=[]):Passes (V6 X.prog X.w) X E:=λp_ σ H s e s' I hx=>by
  obtain⟨a,C,od,H',rfl,ho,hg,un,hok,⟨T,ex⟩,hE⟩:=hx;have I':Inv X p_ σ H' s':=I.call' (ch:=[]) ho un hok hg λb z=>(nomatch z);exact h p_ σ H' s' a C od I' (ex.in.back λb e=>I.old hex e) hE
theorem qbc {K:W.Frag} {h:Heap} {C:Addr} {bmB:List Value} {newId:String} (X:K.In h) (q:W.excIn K C bmB newId=true) :
    ∃bm N nm q bs hdct sn sub ab col dd k0 k1 k2 k3 k5 mN,h.get? C=some (excClassObj nm q C N bs bm hdct sn sub ab col dd k0 k1 k2 k3 k5 newId)/\h.Ns N mN/\mN "__init__" = none/\OwnTail h bmB bm/\∀v b,W.mroIn K C v=some b->(Value.ref C::bm).contains v=b:=by
  unfold W.excIn at q;split at q
  . rename_i dd cd sl ho;split at q
    . rename_i C' bm k0 k1 k2 k3 n k5 hm hs;simp only[qnJ,beq_iff_eq,Bool.not_eq_true'] at q;obtain⟨⟨⟨⟨⟨rfl,rfl⟩,hdel⟩,ht⟩,hok⟩,hni⟩:=q;obtain⟨nm,bs,mro,ns,qn,hd,sn,sub,ab,col,del⟩:=cd;dsimp only at hm hdel hok hni;subst hm hdel;obtain rfl:sl = #[k0,k1,k2,k3,some (.builtin n),k5]:=by
        obtain⟨l⟩:=sl;simp only at hs;rw[hs]
      exact⟨bm,ns,nm,qn,bs,hd,sn,sub,ab,col,dd,k0,k1,k2,k3,k5,_,X _ _ ho,.of_isNs (W.isNs_of_in X hok),W.nsMap_none_of_in X hok hni,W.tail_of_in X ht,λv b e=>by
        unfold W.mroIn W.clsIn at e;rw[ho] at e;simpa using e⟩
    ·cases q
  ·cases q
abbrev nQ:List Value:=[.type "ValueError",.type "Exception",.type "BaseException",.type "object"]
def YB (K:W.Frag) (C:Addr):Prop:=W.excIn K C nQ "ValueError.__new__" = true
theorem cD.okE {P:Program} {w:World} {K:W.Frag} {mg:Str->Option Value} {base:Heap} {x qual:Str} {st:Stmt} {f:Addr} {fd:FuncData} {N ps:List Str} {k:Nat} {sp:Sp} (F:cD K x qual st f fd) (S:aO N ps (aA st)) (len:∀vs H Q E,sp vs H Q E->vs.length=ps.length)
    (hbody:∀(cdv:Value) (A:Around) (outer:List Env) (s:Shared) (H:Hp) (vs:List V) (Q:VK) (E:XK),fQ k (A.deeper (envOfC qual (aA st) s.heap.objs.size f cdv))->sp vs H Q E->
      ∃t,GC (aq (V6 P w) P w K mg base N qual (aA st) f cdv A outer s H E) (gQ st) t/\t {nx:=λ_ H'=>Q .non H',rt:=Q} (start N vs) H):bN P w K mg base (V6 P w) (k+1) f fd ps sp:=by
  obtain⟨oc,od,kV,doc,pm,an,cdv,ct,osl,rfl,lk,hcd⟩:=F.ex;exact WQ lk hcd S len λA outer s H vs Q E hr hsp=>hbody cdv A outer s H vs Q E hr hsp
theorem Inv.gone {X:Cx} {p_:List (Addr×Obj)} {σ:St} {H:Hp} {s:Shared} {h':Heap} {t':Nat} {ch:List Addr} (I:Inv X p_ σ H s) (hex:X.ex=[])
    (hch:∀b∈ch,X.s₀.heap.get? b=none/\H b=none/\(∀vs o,s.heap.get? b=some o->o.data = .fields vs->True)/\(∃o vs,s.heap.get? b=some o/\o.data = .fields vs)/\∀p∈X.pn++p_,p.1≠b)
    (k1:∀b o,b∉frs X.stack->b∉ch->s.heap.get? b=some o->h'.get? b=some o) (k2:∀b o,s.heap.get? b=some o->(∀vs,o.data≠.fields vs)->∃sl,h'.get? b=some {o with slots:=sl}) :
    Inv X p_ σ H {s with heap:=h',toks:=t'}:=by
  have nf:∀{b o},s.heap.get? b=some o->(∀vs,o.data≠.fields vs)->b∉ch:=λ{b o} e hd hb=>by
    obtain⟨_,_,_,⟨o2,vs,e2,d2⟩,_⟩:=hch b hb;rw[e] at e2;cases e2;exact hd vs d2
  have fsl:∀{b:Addr} {o:Obj},b∈frs X.stack->s.heap.get? b=some o->∃sl,h'.get? b=some {o with slots:=sl}:=λ{b o} hb e=>by
    obtain⟨_,o2,e2,hd⟩:=I.stack.mem hb;rw[e] at e2;cases e2;exact k2 b o e hd
  have ex1:∀{b:Addr} {o:Obj},b∉ch->s.heap.get? b=some o->∃o',h'.get? b=some o':=λ{b o} hb e=>by
    by_cases hf:b∈frs X.stack
    ·obtain⟨sl,z⟩:=fsl hf e;exact⟨_,z⟩
    ·exact⟨o,k1 b o hf hb e⟩
  have old:∀{b:Addr} {o:Obj},X.s₀.heap.get? b=some o->b∉ch:=λe hb=>by
    rw[(hch _ hb).1] at e;cases e
  have qkg:∀{b:Addr} {o:Obj},X.s₀.heap.get? b=some o->b∉X.fs->b∉frs X.stack:=λ{b o} e hb hm=>by
    rcases ql1.mp (I.vA b hm) with z | z
    ·rw[z] at e;exact absurd (qlW e) (Nat.not_lt.mpr I.ok.above)
    ·exact hb z
  have Ru:∀b:Addr,b∉X.ex:=λb=>by rw[hex];simp
  have cells:∀{c:Addr} {v:Option Value},s.heap.IsCell c v->h'.IsCell c v:=λ{c v} ⟨o,e,d⟩=>by
    obtain⟨sl,z⟩:=k2 c o e (λvs q=>by rw[d] at q;cases q);exact⟨_,z,d⟩
  have subs:∀{b:Addr},b∈X.fs->b∈frs X.stack:=λ{b} hb=>by
    rcases I.ok.stk with e | ⟨e,hf⟩
    ·rw[e];exact hb
    ·rw[e];show b∈List.filterMap _ (X.env::X.outer);rw[qoh,hf];exact qlZ _ hb
  refine⟨I.ok,I.os,I.bare,⟨λb o e n hb hx=>?_,λb o e n hb hx=>?_,I.base.free,λb o e hx=>?_,I.base.tups,I.base.qm,I.base.qp⟩,?_,λx c e=>?_,I.free,I.gj,λp hp=>?_,λb u e=>?_,I.len⟩
  ·exact k1 b o (qkg e hb) (old e) (I.base.keep b o e n hb hx)
  ·obtain⟨sl,z⟩:=I.base.slot b o e n hb hx;obtain⟨sl',z'⟩:=fsl (subs hb) z;exact⟨sl',z'⟩
  ·obtain⟨o',z⟩:=I.base.there b o e hx;exact ex1 (old e) z
  . obtain⟨m,⟨o,es,ep,e,d,r⟩,q⟩:=I.loc;obtain⟨sl,z⟩:=k2 _ o e (λvs y=>by rw[d] at y;cases y);refine⟨m,⟨_,es,ep,z,d,r⟩,λi x v e1 e2 e3=>?_⟩;obtain⟨u,rv,l⟩:=q i x v e1 e2 e3;refine⟨u,rv,?_⟩
    rcases l with l | ⟨kd,c,ec,y⟩
    ·exact .inl l
    ·exact .inr ⟨kd,c,ec,cells y⟩
  ·obtain⟨v,z⟩:=I.cell x c e;exact⟨v,cells z⟩
  . obtain⟨e,n,ne,nfs,d⟩:=I.pin p hp;refine⟨k1 _ _ (λhm=>?_) (λhm=>(hch _ hm).2.2.2.2 p hp rfl) e,n,ne,nfs,d⟩
    rcases ql1.mp (I.vA _ hm) with z | z
    ·exact ne z
    ·exact nfs z
  . have no:∀{c:Addr} {u:HO},H c=some u->c∉frs X.stack/\c∉ch:=λ{c u} q=>⟨λhm=>(by rw[I.Ba _ hm] at q;cases q),λhm=>(by rw[(hch _ hm).2.1] at q;cases q)⟩;refine(I.hok b u e).stay (λc v hc q=>?_) (λc q=>q) λc xs q=>q
    rcases hc with rfl | hc
    ·exact k1 _ _ (no e).1 (no e).2 q
    ·exact k1 _ _ (no hc).1 (no hc).2 q
end
end L2
namespace L2
open PySem PySem.Spec PySem.W PyProof.Rows
section
variable {prog:Program} {w:World} {A:Around} {E:Value->Shared->Prop} {K:W.Frag} {h:Heap} {g:Array GenState} {d:Drawn} {t:Nat} {os:OsState} {x C:Addr}
structure qja (K:W.Frag) (C:Addr):Prop where
  ga:findIn K (.ref C) "__getattribute__" = some (some (.builtin "BaseException.__getattribute__"))
  gn:findIn K (.ref C) "__getattr__" = some none
  cl:findIn K (.ref C) "__class__" = some (some (.builtin "object.__class__"))
  sp:specialIn K (.builtin "object.__class__") "__get__" = some (some (.builtin "getset_descriptor.__get__"))
  tk:takesIn K (.builtin "object.__class__")=some true
  mo:mroIn K C (.type "object")=some true
  mb:mroIn K C (.type "BaseException")=some true
def vM (x C:Addr) (h:Heap):Prop:=∃ox vs,h.get? x=some ox/\ox.cls = .ref C/\ox.data = .fields vs/\vs[2]? = some .none
theorem vM.type {M:Model} (e:vM x C h):Looks M h (typeOf (.ref x)) (.ref C):=by
  obtain⟨ox,vs,h1,h2,_⟩:=e;exact h2▸(Looks.ld h1).andThen .now
end
end L2
namespace L2
open PySem PySem.Spec PyProof.Rows
def Cx.caught (X:Cx) (a:Addr):Cx:={X with A:=X.A.mark (some (.ref a)),calm:=false,xe:=λ_ _=>False}
def Cx.tried (X:Cx) (pn:List (Addr×Obj)) (xe:Value->Shared->Prop):Cx:={X with pn:=pn,xe:=xe}
section
variable {X:Cx} {p_:List (Addr×Obj)} {σ:St} {H:Hp} {s:Shared}
theorem Inv.caught (I:Inv X p_ σ H s) (a:Addr):Inv (X.caught a) p_ σ H s:=
  ⟨⟨I.ok.mod,I.ok.kind,I.ok.glob,I.ok.blt,I.ok.above,I.ok.inj,I.ok.has,I.ok.cab,λz=>(nomatch z),I.ok.frames,I.ok.stk,I.ok.exf,I.ok.bs,I.ok.TJ,I.ok.Le,I.ok.Im,I.ok.rY,I.ok.Wa⟩,I.os,I.bare,I.base,I.loc,I.cell,I.free,I.gj,I.pin,I.hok,I.len⟩
theorem Inv.uncaught {a:Addr} {s':Shared} (I:Inv X p_ σ H s) {σ':St} {H':Hp} (J:Inv (X.caught a) p_ σ' H' s'):Inv X p_ σ' H' s':=
  ⟨I.ok,J.os,J.bare,J.base,J.loc,J.cell,J.free,J.gj,J.pin,J.hok,J.len⟩
theorem Inv.tried (I:Inv X p_ σ H s) (xe:Value->Shared->Prop):Inv (X.tried (X.pn++p_) xe) [] σ H s:=
  ⟨⟨I.ok.mod,I.ok.kind,I.ok.glob,I.ok.blt,I.ok.above,I.ok.inj,I.ok.has,I.ok.cab,I.ok.hd,I.ok.frames,I.ok.stk,I.ok.exf,I.ok.bs,I.ok.TJ,I.ok.Le,I.ok.Im,I.ok.rY,I.ok.Wa⟩,I.os,I.bare,I.base,I.loc,I.cell,I.free,I.gj,λp hp=>I.pin p (by rw[qmy] at hp;exact hp),I.hok,I.len⟩
theorem Inv.xJ {xe:Value->Shared->Prop} {BL:List (Addr×Obj)} {s':Shared} (I:Inv X p_ σ H s) {σ':St} {H':Hp} (J:Inv (X.tried (X.pn++p_) xe) BL σ' H' s'):Inv X p_ σ' H' s':=
  ⟨I.ok,J.os,J.bare,J.base,J.loc,J.cell,J.free,J.gj,λp hp=>J.pin p (qmC _ hp),J.hok,J.len⟩
def Takes (X:Cx) (pn:List (Addr×Obj)) (xe:Value->Shared->Prop) (R:St->Addr->Option Addr->Hp->Prop):Prop:=
  ∀(p_:List (Addr×Obj)) (σ:St) (H:Hp) (s:Shared) (a C:Addr) (od:Option Addr) (T:Addr),Inv (X.tried pn xe) p_ σ H s->Yx X.s₀.heap s.heap H a C od T->(∀p∈pn,p.1≠a/\p.1≠T)->R σ C od H->xe (.ref a) s
def YC (sp:Sp) (R:St->Addr->Option Addr->Hp->Prop) (t:TA):TE:=λσ H Q=>t σ H λvs H1=>Uv sp vs H1 Q ⟨0⟩ (λv od H'=>∃C,v = .ref C/\R σ C od H')
@[simp ↓] theorem qgB sp R t σ H Q:YC sp R t σ H Q=t σ H λvs H1=>Uv sp vs H1 Q ⟨0⟩ (λv od H'=>∃C,v = .ref C/\R σ C od H'):=rfl
theorem YD {k:Nat} {f:Addr} {fd:FuncData} {ps:List Str} {sp:Sp} {x:Str} {p pos:Pos} {e:Expr} {es:List Expr} {t:TA} {pn:List (Addr×Obj)} {xe:Value->Shared->Prop} {R:St->Addr->Option Addr->Hp->Prop}
    (hx:Takes X pn xe R) (hex:X.ex=[]) (F:bN X.prog X.w X.K X.mg X.base (V6 X.prog X.w) k f fd ps sp) (hr:fQ k X.A) (hg:Gl X x) (hm:X.mg x=some (.ref f)) (hk:W.keepIn X.K (.ref f)=true) (hb:Binds X.K fd ps [])
    (ha:PA (X.tried pn xe) (e::es) t) (hdb:(x == ("__debug__" : Str))=false:=by decide) (he:starEach (e::es) X.env=(false,eval e X.env)::starEach es X.env:=by rfl) (hpl:(backTo pos (starEach es X.env)).any (·.1)=false:=by rfl) :
    PE (X.tried pn xe) (.Call (.Name x p) (e::es) [] pos) (YC sp R t):=by
  intro p_ s σ H Q I h;refine qmS (qt I hg hm ?_ hdb);refine W.callWith_K (h₀:=X.base) I.ok.mod.V_ hk (bY (ha pos p_ s σ H _ I h) λus s1 zz=>?_) he hpl;obtain⟨vs,H1,I1,r,q⟩:=zz;refine⟨I1.pP,?_⟩;have hl:us.length=ps.length:=by rw[<- r.length];exact F.len _ _ _ _ q
  have hbd:=hb s1 us I1.pP (by rw[qmy];exact hl);rw[qmy] at hbd;refine qnQ (qmV (F.run X.A X.stack s1 H1 ⟨us,[]⟩ us vs Q _ hr I1.env0 hbd r q) λrr s' hq=>?_);cases rr with
  | error e=>
    obtain⟨a,C,od,H',rfl,ho,hgn,un,hok,⟨T,ex⟩,C',e2,hR⟩:=hq;cases e2;have I':Inv (X.tried pn xe) p_ σ H' s':=I1.call' (ch:=[]) ho un hok hgn λb z=>(nomatch z);have old:∀b,s1.heap.get? b=none->X.s₀.heap.get? b=none:=λb z=>I1.old hex z;refine hx p_ σ H' s' a C od T I' ⟨old _ ex.new,old _ ex.newT,ex.un,ex.unT,ex.ob⟩ (λp hp=>?_) hR;have e1:=(I1.pin p (qmC _ hp)).1;exact⟨λz=>(by rw[z,ex.new] at e1;cases e1),λz=>(by rw[z,ex.newT] at e1;cases e1)⟩
  | ok fl=>
    cases fl with
    | ret u=>exact I1.after hq
    | next=>exact False.elim hq
    | brk=>exact False.elim hq
    | cont=>exact False.elim hq
def vN (x C:Addr) (od:Option Addr) (h:Heap):Prop:=∃ox vs,h.get? x=some ox/\(ox.cls,ox.dict)=(Value.ref C,od)/\ox.data = .fields vs/\vs[2]? = some .none
theorem vN.at {x C:Addr} {od:Option Addr} {h:Heap} (e:vN x C od h):vM x C h:=by
  obtain⟨ox,vs,h1,h2,h3,h4⟩:=e;exact⟨ox,vs,h1,qmr Prod.fst h2,h3,h4⟩
def JV (a C:Addr) (od:Option Addr):HO:=.ext λh=>vN a C od h
def Hz (K:W.Frag) (C:Addr):Prop:=∀h,K.In h->∃bm N nm q bs hdct sn sub ab col dd k0 k1 k2 k3 k5,h.get? C=some (excClassObj nm q C N bs bm hdct sn sub ab col dd k0 k1 k2 k3 k5 "ValueError.__new__")/\∀v b,W.mroIn K C v=some b->(Value.ref C::bm).contains v=b
theorem Inv.track {a C:Addr} {od:Option Addr} (I:Inv X p_ σ H s) (hex:X.ex=[]) (new:X.s₀.heap.get? a=none) (un:H a=none) (e:vN a C od s.heap) (hp:∀p∈X.pn++p_,p.1≠a):Inv X p_ σ (upd H a (JV a C od)) s:=by
  have nf:∀{b o},s.heap.get? b=some o->(∀vs,o.data≠.fields vs)->b≠a:=λ{b o} eb hd z=>by
    subst z;obtain⟨ox,vs,h1,_,h3,_⟩:=e;rw[eb] at h1;cases h1;exact hd vs h3
  have Ru:∀b:Addr,b∉X.ex:=λb=>by rw[hex];simp
  have old:∀{b o},X.s₀.heap.get? b=some o->b≠a:=λ{b o} eb z=>by
    rw[z,new] at eb;cases eb
  have ne:∀{b:Addr} {u:HO},H b=some u->b≠a:=λ{b u} q z=>by
    rw[z,un] at q;cases q
  refine⟨I.ok,I.os,I.bare,⟨λb o eb n hb hx=>I.base.keep b o eb n hb hx,I.base.slot,λb o eb n hx=>?_,I.base.there,λb xs q=>?_,λb o u q=>?_,λb ps q=>?_⟩,I.loc,I.cell,?_,λx c q=>?_,λp hpp=>?_,λb u q=>?_,I.len⟩
  ·rw[aB (old eb)];exact I.base.free b o eb n hx
  ·have z:=I.base.tups b xs q;rw[aB (ne z)];exact z
  ·have z:=I.base.qm b o u q;rw[aB (ne z)];exact z
  ·obtain⟨m,z⟩:=I.base.qp b ps q;exact⟨m,by rw[aB (ne z)];exact z⟩
  ·obtain⟨m,⟨o,es,ep,eo,d,r⟩,_⟩:=I.loc;rw[aB (nf eo λvs y=>by rw[d] at y;cases y)];exact I.free
  ·obtain⟨v,o,eo,d⟩:=I.cell x c q;rw[aB (nf eo λvs y=>by rw[d] at y;cases y)];exact I.gj x c q
  ·obtain⟨f1,f2,f3⟩:=I.pin p hpp;refine⟨f1,?_,f3⟩;rw[aB (hp p hpp)];exact f2
  . by_cases hb:b=a
    ·subst hb;rw[ak] at q;cases q;obtain⟨ox,vs,h1,h2,h3,_⟩:=id e;exact⟨e,⟨ox,h1⟩,λh1 h2 ⟨ox,vs,a1,a2,a3⟩ k=>⟨ox,vs,k _ a1,a2,a3⟩⟩
    . rw[aB hb] at q;refine(I.hok b u q).stay (λc v _ z=>z) (λc z=>?_) λc xs z=>?_
      ·rw[aB (ne z)];exact z
      ·rw[aB (ne z)];exact z
theorem U5 {M:Model} {A:Around} {E:Value->Shared->Prop} {i:Nat} {n:Str} {v:V} {Q:Unit->Shared->Prop} (I:Inv X p_ σ H s) (hN:X.N.Nodup) (hi:X.N[i]? = some n) (hl:X.env.scope.names.lookup n=some .local) (hv:σ[i]? = some (some v))
    (h:∀s',Inv X p_ (σ.set i none) H s'->Q () s'):wpAny M A (unbindName X.env n) Q E s:=by
  obtain⟨m,hn,q⟩:=id I.loc;obtain⟨u,rv,l⟩:=q i n v hi hv (.inl hl);have hm:m n=some u:=by
    rcases l with⟨_,l⟩ | ⟨k,c,_⟩
    ·exact l
    . rcases k with k | k
      ·have:X.env.kindOf n=some .local:=hl;rw[k] at this;cases this
      ·have:X.env.kindOf n=some .local:=hl;rw[k] at this;cases this
  have hcls:(X.env.scope.kind == .class || (X.env.scope.kind == .module && X.env.locals != X.env.globals))=false:=by rw[I.ok.kind];rfl
  have hiσ:i<σ.length:=by rw[I.len];exact(qlT.mp hi).1
  refine wpAny_unbindName_local hl hn hm hcls λh' u' hn' hs=>?_;obtain⟨oL,_,_,hoL,_⟩:=id hn;have loc:∀b o,X.s₀.heap.get? b=some o->b≠X.env.locals:=λb o e=>ql3 (ql5 (qlW e) I.ok.above);refine h _ ⟨I.ok,I.os,I.bare,⟨λb o e n hb hx=>?_,λb o e n hb hx=>?_,I.base.free,λb o e hx=>?_,I.base.tups,I.base.qm,I.base.qp⟩,⟨_,hn',λj y v' e1 e2 e3=>?_⟩,λy c e=>?_,I.free,I.gj,λp hp=>?_,λb ob e=>?_,by simpa using I.len⟩
  ·exact(hs.2 b (loc b o e)).trans (I.base.keep b o e n hb hx)
  ·obtain⟨sl,z⟩:=I.base.slot b o e n hb hx;exact⟨sl,(hs.2 b (loc b o e)).trans z⟩
  ·obtain⟨o',z⟩:=I.base.there b o e hx;exact⟨o',(hs.2 b (loc b o e)).trans z⟩
  . have hj:j≠i:=λz=>by
      subst z;rw[qnX hiσ] at e2;cases e2
    rw[List.getElem?_set_ne (qnx hj)] at e2;obtain⟨u2,r2,l2⟩:=q j y v' e1 e2 e3;refine⟨u2,r2,?_⟩
    rcases l2 with⟨k,e⟩ | ⟨k,c,e,z⟩
    ·have:y≠n:=λe=>hj (BP hN e1 (e▸hi));exact .inl ⟨k,by simp[this,e]⟩
    ·exact .inr ⟨k,c,e,z.sameBut hs (I.cne y c e)⟩
  ·obtain⟨w',z⟩:=I.cell y c e;exact⟨w',z.sameBut hs (I.cne y c e)⟩
  ·obtain⟨e,n,ne,nf,d⟩:=I.pin p hp;exact⟨(hs.2 p.1 ne).trans e,n,ne,nf,d⟩
  . have no:∀{c:Addr} {u:HO},H c=some u->c≠X.env.locals:=λ{c u} q z=>by
      rw[z,I.free] at q;cases q
    refine(I.hok b ob e).stay (λc w' hc q=>(hs.2 c ?_).trans q) (λ_ q=>q) λ_ _ q=>q
    rcases hc with rfl | hc
    ·exact no e
    ·exact no hc
end
section
variable {X:Cx} {p_:List (Addr×Obj)} {σ:St} {H:Hp} {s:Shared} {a:Addr}
end
theorem cD.qgC {P:Program} {w:World} {K:W.Frag} {mg:Str->Option Value} {base:Heap} {x qual:Str} {st:Stmt} {f:Addr} {fd:FuncData} {N ps:List Str} {k:Nat} {sp:Sp} (F:cD K x qual st f fd) (S:aO N ps (aA st)) (len:∀vs H Q E,sp vs H Q E->vs.length=ps.length)
    (hbody:∀(cdv:Value) (A:Around) (outer:List Env) (s:Shared) (H:Hp) (vs:List V) (Q:VK) (E:XK),fQ k (A.deeper (envOfC qual (aA st) s.heap.objs.size f cdv))->sp vs H Q E->
      ∃t,GC (aq (V6 P w) P w K mg base N qual (aA st) f cdv A outer s H E) (gQ st) t/\t {nx:=λ_ H'=>Q .non H',rt:=Q} (jK N vs) H):bN P w K mg base (V6 P w) (k+1) f fd ps sp:=by
  refine F.okE S len λcdv A outer s H vs Q E hr h=>?_;obtain⟨t,h1,h2⟩:=hbody cdv A outer s H vs Q E hr h;refine⟨t,h1,?_⟩;have hl:=len _ _ _ _ h;have hp:ps.length<=N.length:=by have:=qmr List.length S.pre;rw[ql7] at this;omega
  rw[pZ N vs (by omega)] at h2;exact h2
theorem qgD {P:Program} {w:World} {X:Cx}:Passes (V6 P w) X E0:=λ_ _ _ _ _ _ _ h=>by
  obtain⟨_,_,_,_,_,_,_,_,_,_,z⟩:=h;exact z.elim
end L2
namespace L2
open PySem PySem.Spec PySem.W PyProof.Rows
section
variable {prog:Program} {w:World} {A:Around} {E:Value->Shared->Prop} {K:W.Frag} {h:Heap} {g:Array GenState} {d:Drawn} {t:Nat} {os:OsState}
variable {nm q:Str} {C N:Addr} {bs bm:List Value} {hdct:Bool} {sn:List Str} {sub:List Value} {ab:Bool} {col:Option Bool} {dd:Option Addr} {k0 k1 k2 k3 k5:Option Value}
theorem JW {rest:List Value} {f:Addr} {Q:PySem.Fin->Shared->Prop} (X:K.In h) (T:OwnTail h nQ bm) (hi:findIn K (.ref C) "__init__" = some (some (.ref f))) (hf:typeIn K (.ref f)=some (.type "function"))
    (hC:h.get? C=some (excClassObj nm q C N bs bm hdct sn sub ab col dd k0 k1 k2 k3 k5 "ValueError.__new__"))
    (hq:∀h' e,Heap.MadeExcOf h h' e (.ref C) rest->wpAny (model prog w) A (call (.ref f) (.ref e::rest)) (λr s'=>r = .none/\Q (.done (.ret (.ref e))) s') E ⟨h',g,d,t,os⟩) (hz:rest.length<=sizeLine) :
    wpAny (model prog w) A (Builtin.«type.__call__» ⟨.ref C::rest,[]⟩) Q E ⟨h,g,d,t,os⟩:=by
  have F:=PySem.F.excBase_ValueError
  repeat (first | with_reducible refine qnf hC ?_ | with_reducible refine wpAny_madeBy_exc hC ?_ | wp_step)
  refine codeAny_call_builtin_code (Code.quiet_builtin _ F.quiet) (wpAny_check_new_subT F T hC (codeAny_exc_new_subT F T hC ?_ hz));show wpAny _ _ _ _ _ _;generalize hG:(h.push {cls:=.type "tuple",data:=.seq rest.toArray}).push {cls:=.ref C,data:=.fields #[.ref h.objs.size,.none,.none,.none,.bool false,.none]}=G;have kp:∀b o,h.get? b=some o->G.get? b=some o:=λb o e=>by
    rw[<- hG];exact qlU _ (qlU _ e)
  have hget:G.get? (h.objs.size+1)=some {cls:=.ref C,data:=.fields #[.ref h.objs.size,.none,.none,.none,.bool false,.none]}:=by
    rw[<- hG]
    heap_get
  have hT:G.get? h.objs.size=some {cls:=.type "tuple",data:=.seq rest.toArray}:=by
    rw[<- hG];exact qlU _ (Heap.get?_push_at rfl rfl)
  have X1:K.In G:=λb o e=>kp b o (X b o e);have hC1:=kp _ _ hC;have hcC:(Value.ref C::bm).contains (.ref C)=true:=by simp
  unfold isInstance
  repeat (first | with_reducible refine qnf hget ?_ | (with_reducible refine qnD hC1 ?_;rw[hcC]) | wp_step)
  show wpAny _ _ (typeLookup (.ref C) _) _ _ _;refine(looks_findIn (M:=model prog w) X1 hi).at ?_;refine qmF (qlS ?_);unfold bindSpecial;refine qlS ((looks_typeIn (M:=model prog w) X1 hf).at ?_);rw[if_pos (by decide)];refine qlV (qlS (qmt (hq G (h.objs.size+1) ⟨kp,Heap.get?_none_of_le (Nat.le_succ _),h.objs.size,hget,Heap.get?_none_of_le (qlY _),hT⟩) (λr s' hr=>?_) λ_ _ x=>x));obtain⟨rfl,hQ⟩:=hr
  wp_walk
  exact hQ
theorem qbd {rest:List Value} {f:Addr} {Q:Value->Shared->Prop} (X:K.In h) (T:OwnTail h nQ bm) (hi:findIn K (.ref C) "__init__" = some (some (.ref f))) (hf:typeIn K (.ref f)=some (.type "function"))
    (hC:h.get? C=some (excClassObj nm q C N bs bm hdct sn sub ab col dd k0 k1 k2 k3 k5 "ValueError.__new__"))
    (hq:∀h' e,Heap.MadeExcOf h h' e (.ref C) rest->wpAny (model prog w) (A.under (.builtin "type.__call__" ⟨.ref C::rest,[]⟩)) (call (.ref f) (.ref e::rest)) (λr s'=>r = .none/\Q (.ref e) s') E ⟨h',g,d,t,os⟩) (hz:rest.length<=sizeLine) :
    wpAny (model prog w) A (call (.ref C) rest) Q E ⟨h,g,d,t,os⟩:=by
  have f1:=tc_lookup;have f2:=tc_bind (.ref C);have hT:(⟨h,g,d,t,os⟩:Shared).TypeIs (.ref C) "type" :=⟨_,hC,rfl⟩;refine qnQ (codeAny_of_tree ?_);show wpAny _ _ (callAny (.ref C) _) _ _ _
  repeat (any_goals (first | assumption | with_reducible refine qnf hC ?_ | wp_step))
  refine⟨rfl,codeAny_call_builtin_at (Code.quiet_builtin _ (by decide+kernel)) entry_typeCall (wpAny_check_type_call_sub hC (JW X T hi hf hC (λh' e hm=>?_) hz))⟩;exact hq h' e hm
theorem qbe {rest:List Value} {e t0:Addr} {oe:Obj} {vs:Array Value} {Q:Value->Shared->Prop} (T:OwnTail h nQ bm)
    (hC:h.get? C=some (excClassObj nm q C N bs bm hdct sn sub ab col dd k0 k1 k2 k3 k5 "ValueError.__new__")) (he:h.get? e=some oe) (hc:oe.cls = .ref C) (hd:oe.data = .fields vs) (h0:vs[0]? = some (.ref t0))
    (hq:∀h' t1,(∀b o,b≠e->h.get? b=some o->h'.get? b=some o)->h'.get? e=some {oe with data:=.fields (vs.setIfInBounds 0 (.ref t1))}->Q .none ⟨h',g,d,t,os⟩) (hz:rest.length<=sizeLine) :
    wpAny (model prog w) A (call (.builtin "ValueError.__init__") (.ref e::rest)) Q E ⟨h,g,d,t,os⟩:=by
  have F:=PySem.F.excBase_ValueError;refine qnQ (qnP F.init.plain F.initEntry (wpAny_check_init_subT F T hC he hc ?_));have FJ:(h.push {cls:=.type "tuple",data:=.seq rest.toArray}).get? e=some oe:=qlU _ he;unfold Builtin.«BaseException.__init__» Builtin.BaseException.bexcPut
  repeat (first | with_reducible refine qmD FJ hd h0 ?_ | with_reducible refine qof FJ hd (qnm.mp h0).1 ?_ | wp_step)
  have d3:=qnL hd (·.setIfInBounds 0 (Value.ref h.objs.size));refine hq _ h.objs.size (λb o hb z=>?_) ?_
  ·rw[qna _ _ (qnx hb)];exact qlU _ z
  ·refine(qmI _ FJ (qn8 d3)).trans (qmr some ?_);obtain⟨c,dct,dat,sl⟩:=oe;cases hd;rfl
def MK (x C:Addr) (od:Option Addr) (h:Heap):Prop:=∃ox vs t0,h.get? x=some ox/\ox.cls = .ref C/\ox.data = .fields vs/\vs[0]? = some (.ref t0)/\vs[1]? = some .none/\vs[2]? = some .none/\ox.dict=od
theorem MK.at {x C:Addr} {od:Option Addr} {h:Heap} (e:MK x C od h):vM x C h:=by
  obtain⟨ox,vs,t0,h1,h2,h3,_,_,h5,_⟩:=e;exact⟨ox,vs,h1,h2,h3,h5⟩
structure Qn (K:W.Frag) (C:Addr):Prop where
  ga:findIn K (.ref C) "__getattribute__" = some (some (.builtin "BaseException.__getattribute__"))
  gn:findIn K (.ref C) "__getattr__" = some none
  mb:mroIn K C (.type "BaseException")=some true
  hd:hasDictIn K C=true
theorem YF {M:Model} {x:Addr} {nameV:Value} {Q:Unit->Shared->Prop} (X:K.In h) (I:vM x C h) (hb:mroIn K C (.type "BaseException")=some true) (hq:Q () ⟨h,g,d,t,os⟩) :
    wpAny M A (checkBuiltinCall "BaseException.__getattribute__" ⟨[.ref x,nameV],[]⟩) Q E ⟨h,g,d,t,os⟩:=by
  have hk:builtinKind "BaseException.__getattribute__" = some .slot:=by decide+kernel
  have hs:splitId "BaseException.__getattribute__" = some ("BaseException", "__getattribute__"):=by decide+kernel
  have L0:=I.type (M:=M);have L1:=looks_mroIn (M:=M) X hb;have ha:=F.args_bexc_ga (.ref x) nameV;simp only[checkBuiltinCall,hk,hs];refine qlS ?_;unfold isInstance
  repeat (first | with_reducible refine L0.at ?_ | with_reducible refine L1.at ?_ | wp_step)
  exact hq
theorem qbf {x dx:Addr} {mA:Str->Option Value} (e:vN x C (some dx) h) (hn:h.Ns1 dx mA):∃ox od,W.InstAt h x ox C (some od)/\∀name,W.lookIn name od=some (mA name):=by
  obtain⟨ox,vs,h1,h26,h3,_⟩:=e;have h2:ox.cls = .ref C:=qmr Prod.fst h26;have h6:ox.dict=some dx:=qmr Prod.snd h26;obtain⟨od,ho,hl⟩:=GK hn;refine⟨ox,od,⟨h1,h2,?_,?_⟩,hl⟩
  ·unfold W.notCls;rw[h3]
  ·rw[h6];exact ho
theorem qen {x dx:Addr} {mA:Str->Option Value} {name:Str} {v:Value} {expr:Bool} {Q:Value->Shared->Prop} {s:Shared} (X:K.In s.heap) (e:vN x C (some dx) s.heap) (hn:s.heap.Ns1 dx mA) (G:Qn K C) (ha:findIn K (.ref C) name=some none)
    (hv:mA name=some v) (hv':handedIn v=true) (h:Q v {s with toks:=s.toks+1}):wpAny (model prog w) A (getAttr (.ref x) name expr) Q E s:=by
  obtain⟨ox,od,I,hl⟩:=qbf e hn;obtain⟨hp,g,d,t,os⟩:=s;dsimp only at X e hn h I;have hf:findObj K C (some od) name=some (.value v):=findObj_own G.hd ha rfl (by rw[hl,hv]);have L0:=I.type (M:=model prog w);have L1:=looks_findIn (M:=model prog w) X G.ga;have L2:=looks_findIn (M:=model prog w) X G.gn;have L3:=looks_find (M:=model prog w) X I hf;have f3:=(F.attrBase_ValueError.ga).bind (.ref x);have hx2:(Value.builtin "BaseException.__getattribute__" == Value.builtin "object.__getattribute__")=false:=by decide+kernel
  have hx1:(onTheHeap (Value.ref C) && Value.builtin "BaseException.__getattribute__" == Value.builtin "object.__getattribute__")=false:=by rw[hx2];rfl
  unfold getAttr getAttrBy
  repeat (any_goals (first | assumption | with_reducible refine L0.at ?_ | with_reducible refine L1.at ?_ | with_reducible refine L2.at ?_ | wp_step))
  rw[show(expr && onTheHeap (Value.builtin "BaseException.__getattribute__"))=false from Bool.and_false _,if_neg (by decide)];unfold boundAndCalled;rw[f3];refine qlS (qlV ?_);show wpAny _ _ (call (.builtin "BaseException.__getattribute__") [.ref x,.str name t]) _ _ _;refine qnQ (qnP F.attrBase_ValueError.ga.plain F.entry_bexc_ga (YF X e.at G.mb ?_))
  repeat (any_goals (first | assumption | with_reducible refine L0.at ?_ | with_reducible refine L3.at ?_ | wp_step))
  show wpAny _ _ (handedOut v) _ _ _;rw[handedOut_of hv'];exact qlV h
structure Df (K:W.Frag) (C PE:Addr):Prop where
  sa:findIn K (.ref C) "__setattr__" = some (some (.builtin "object.__setattr__"))
  mo:mroIn K C (.type "object")=some true
  cl:∃cd,clsIn K C=some cd/\cd.mro = .ref C::.ref PE::nQ/\cd.hasDict=true
theorem qeo {x PE:Addr} {name:Str} {tk:Tok} {v:Value} {R:Result->Shared->Prop} (X:K.In h) (I:vM x C h) (S:Df K C PE) (ha:findIn K (.ref C) name=some none)
    (hq:wpAny (model prog w) A.in1 (Builtin.ObjectAttr.storeInOwnDict (.ref x) (.ref C) (.str name tk) name v false)
      (λfin s'=>match fin with | .done f=>R (.ok f) s' | .again c'=>c'.quiet=true/\codeAny (model prog w) A c' R s') (λe s'=>R (.error e) s') ⟨h,g,d,t,os⟩) :
    codeAny (model prog w) A (.call (.builtin "object.__setattr__") ⟨[.ref x,.str name tk,v],[]⟩) R ⟨h,g,d,t,os⟩:=by
  have SF:=PySem.F.store_object;obtain⟨cd,hc,hm,_⟩:=S.cl;have L0:=I.type (M:=model prog w);have sub:Looks (model prog w) h (isInstance (.ref x) (.type "object")) true:=L0.andThen (looks_mroIn X S.mo);refine qnP SF.slot.plain SF.entry (@check_slot (model prog w) _ _ ⟨h,g,d,t,os⟩ "object.__setattr__" "object" "__setattr__" (.ref x) [.str name tk,v] [] _ SF.kind SF.split sub (SF.args (.ref x) (.str name tk) v) ?_);have Lm:Looks (model prog w) h (mroOf (.ref C)) cd.mro:=(looks_clsIn X hc).andThen .now;rw[osa_eq,refuse_eq];refine qlS (qlS (Looks.here (s:=⟨h,g,d,t,os⟩) L0 (qlS (Looks.here (s:=⟨h,g,d,t,os⟩) Lm ?_))));rw[hm,refuseLoop_ref,refuseLoop_ref,PySem.F.store_ValueError.passes];exact qlV (qlS (Looks.here (s:=⟨h,g,d,t,os⟩) L0 (qlS (Looks.here (s:=⟨h,g,d,t,os⟩) (looks_findIn X ha) (qlS (qlV hq))))))
theorem qep {x PE:Addr} {name:Str} {v:Value} {Q:Unit->Shared->Prop} {s:Shared} (X:K.In s.heap) (I:vM x C s.heap) (S:Df K C PE) (ha:findIn K (.ref C) name=some none)
    (hq:∀A':Around,wpAny (model prog w) A' (Builtin.ObjectAttr.storeInOwnDict (.ref x) (.ref C) (.str name s.toks) name v false) (λfin s'=>fin = .done (.ret .none)/\Q () s') (λe s'=>False) {s with toks:=s.toks+1}) :
    wpAny (model prog w) A (setAttr (.ref x) name v) Q E s:=by
  have L0:=I.type (M:=model prog w);refine qlS (wpAny_mkText (qlS (qlS (qlS (L0 _ _ _ _ (λ_ _ e=>e) (looks_findIn X S.sa _ _ _ _ (λ_ _ e=>e) (qmF ?_)))))));rw[PySem.F.store_object.slot.bind];refine qlS (qlV (qlS (qnQ (qmV (qeo (A:=A) (tk:=s.toks) (v:=v) (R:=λr s'=>match r with | .ok (.ret _)=>Q () s' | .ok _=>False | .error e=>False) X I S ha (qmt (hq _) (λfin s' z=>?_) λe s' z=>z)) λr s' z=>?_))))
  ·obtain⟨rfl,z⟩:=z;exact z
  ·rcases r with e | (v | _ | _ | _) <;> first | exact z.elim | exact qlV (qlV z)
theorem qbg {x:Addr} {name:Str} {tk:Tok} {v:Value} {Q:PySem.Fin->Shared->Prop} {cd:ClassData} (X:K.In h) (e:MK x C none h) (hc:clsIn K C=some cd) (hd:cd.hasDict=true)
    (hq:∀h' t',h'.Ns1 h.objs.size (λy=>if y=name then some v else none)->(∀b o,b≠x->h.get? b=some o->h'.get? b=some o)->MK x C (some h.objs.size) h'->Q (.done (.ret .none)) ⟨h',g,d,t',os⟩) :
    wpAny (model prog w) A (Builtin.ObjectAttr.storeInOwnDict (.ref x) (.ref C) (.str name tk) name v false) Q E ⟨h,g,d,t,os⟩:=by
  obtain⟨ox,vs,t0,h1,h2,h3,h40,h41,h42,h6⟩:=e;obtain⟨oc,odi,oda,osl⟩:=ox;cases h2;cases h3;cases h6;refine qlS (qlV (qlS (qlS (wpAny_loadPart h1 (qlS (Looks.here (s:=⟨h,g,d,t,os⟩) (looks_clsIn X hc) ?_))))));rw[hd,if_neg (by decide)];show wpAny _ _ (if (!true || !typeHasDict (Value.ref C))=true then pure none else _) _ _ _
  rw[if_neg (by simp[typeHasDict])];have hxs:x≠h.objs.size:=ql3 (qlW h1);have h1':(h.push {cls:=.type "dict",data:=.dict #[]}).get? x=some ⟨.ref C,none,.fields vs,osl⟩:=qlU _ h1;refine qlS (wpAny_alloc' ?_);refine qlS (wpAny_update' h1' ?_);refine qlV ?_;generalize hG:((h.push {cls:=.type "dict",data:=.dict #[]}).update x λo=>{cls:=o.cls,dict:=some h.objs.size,data:=o.data,slots:=o.slots})=G;have g1:G.get? h.objs.size=some {cls:=.type "dict",data:=.dict #[]}:=by
    rw[<- hG];exact(Heap.get?_update_ne _ _ _ _ hxs.symm).trans (Heap.get?_push_at rfl rfl)
  have g2:G.get? x=some ⟨.ref C,some h.objs.size,.fields vs,osl⟩:=by
    rw[<- hG];exact qmI _ h1' rfl
  have g3:∀b o,b≠x->h.get? b=some o->G.get? b=some o:=λb o hb z=>by
    rw[<- hG];exact(Heap.get?_update_ne _ _ _ _ hb).trans (qlU _ z)
  have hnd:G.Ns h.objs.size (λ_=>none):=⟨_,#[],_,g1,rfl,λe he=>absurd he (by simp),λ_=>rfl⟩;show wpAny _ _ (Builtin.ObjectAttr.storeInDict h.objs.size (.str name tk) name v) _ _ _;unfold Builtin.ObjectAttr.storeInDict Builtin.ObjectAttr.newKeyGuard;refine qlS (qlV (qlS (wpAny_nsSet1 (Heap.Ns1.of_empty hnd) λh' hn' hs=>?_)));obtain⟨oD,esD,epD,hoD,hdD,hcD⟩:=hn'.count (Within.cons name v Within.nil);refine qlS (wpAny_lookBehind hoD (by rw[hdD];exact pastItsLine_dict (qmq hcD (by rw[qml,List.length_nil,sizeLine_eq];omega))) ?_);exact qlV (hq _ _ hn' (λb o hb z=>(hs.2 b (ql3 (qlW z))).trans (g3 b o hb z)) ⟨_,vs,t0,(hs.2 x hxs).trans g2,rfl,rfl,h40,h41,h42,rfl⟩)
end
end L2
namespace L2
open PySem PySem.Spec PyProof.Rows
def kI (x C:Addr) (od:Option Addr):HO:=.ext λh=>MK x C od h
def zp (dx:Addr) (fs:List (Str×V)):HO:=.ext λh=>fs.length<=1000/\∃mA,h.Ns1 dx mA/\(∀f,mO (fs.lookup f) (mA f))/\PySem.Within mA (fs.map (·.1))
section
variable {P:Program} {w:World} {H:Hp} {h:Heap} {x C dx:Addr} {od:Option Addr} {fs:List (Str×V)}
theorem JX (e:MK x C od h):bZ P w H h x (kI x C od):=by
  obtain⟨ox,vs,t0,h1,h2⟩:=id e;exact⟨e,⟨ox,h1⟩,λg1 g2 ⟨ox,vs,t0,a1,a2⟩ k=>⟨ox,vs,t0,k _ a1,a2⟩⟩
theorem JZ (ok:rW P w H h) (e:H x=some (kI x C od)):MK x C od h:=((show bZ P w H h x (kI x C od) from ok _ _ e)).1
theorem qbh {mA:Str->Option Value} (hl:fs.length<=1000) (hn:h.Ns1 dx mA) (hr:∀f,mO (fs.lookup f) (mA f)) (hw:PySem.Within mA (fs.map (·.1))):bZ P w H h dx (zp dx fs):=by
  obtain⟨o,es,ep,h1,h2⟩:=id hn;exact⟨⟨hl,mA,hn,hr,hw⟩,⟨o,h1⟩,λg1 g2 ⟨c,mB,⟨o,es,ep,a1,a2⟩,b⟩ k=>⟨c,mB,⟨o,es,ep,k _ a1,a2⟩,b⟩⟩
theorem qbi (ok:rW P w H h) (e:H dx=some (zp dx fs)):fs.length<=1000/\∃mA,h.Ns1 dx mA/\(∀f,mO (fs.lookup f) (mA f))/\PySem.Within mA (fs.map (·.1)):=((show bZ P w H h dx (zp dx fs) from ok _ _ e)).1
theorem qeq {o:HO} (e:H x=some o):upd H x o=H:=funext λb=>by
  by_cases hb:b=x
  ·subst hb;rw[ak,e]
  ·rw[aB hb]
end
section
variable {X:Cx} {p_:List (Addr×Obj)} {σ:St} {H:Hp} {s:Shared}
theorem Inv.qer {a:Addr} {ob:HO} (I:Inv X p_ σ H s) (hex:X.ex=[]) (new:X.s₀.heap.get? a=none) (un:H a=none) (e:∃ox vs,s.heap.get? a=some ox/\ox.data = .fields vs) (ok:bZ X.prog X.w (upd H a ob) s.heap a ob) (hp:∀p∈X.pn++p_,p.1≠a):Inv X p_ σ (upd H a ob) s:=by
  have nf:∀{b o},s.heap.get? b=some o->(∀vs,o.data≠.fields vs)->b≠a:=λ{b o} eb hd z=>by
    subst z;obtain⟨ox,vs,h1,h3⟩:=e;rw[eb] at h1;cases h1;exact hd vs h3
  have old:∀{b o},X.s₀.heap.get? b=some o->b≠a:=λ{b o} eb z=>by
    rw[z,new] at eb;cases eb
  have ne:∀{b:Addr} {u:HO},H b=some u->b≠a:=λ{b u} q z=>by
    rw[z,un] at q;cases q
  refine⟨I.ok,I.os,I.bare,⟨λb o eb n hb hx=>I.base.keep b o eb n hb hx,I.base.slot,λb o eb n hx=>?_,I.base.there,λb xs q=>?_,λb o u q=>?_,λb ps q=>?_⟩,I.loc,I.cell,?_,λx c q=>?_,λp hpp=>?_,λb u q=>?_,I.len⟩
  ·rw[aB (old eb)];exact I.base.free b o eb n hx
  ·have z:=I.base.tups b xs q;rw[aB (ne z)];exact z
  ·have z:=I.base.qm b o u q;rw[aB (ne z)];exact z
  ·obtain⟨m,z⟩:=I.base.qp b ps q;exact⟨m,by rw[aB (ne z)];exact z⟩
  ·obtain⟨m,⟨o,es,ep,eo,d,r⟩,_⟩:=I.loc;rw[aB (nf eo λvs y=>by rw[d] at y;cases y)];exact I.free
  ·obtain⟨v,o,eo,d⟩:=I.cell x c q;rw[aB (nf eo λvs y=>by rw[d] at y;cases y)];exact I.gj x c q
  ·obtain⟨f1,f2,f3⟩:=I.pin p hpp;refine⟨f1,?_,f3⟩;rw[aB (hp p hpp)];exact f2
  . by_cases hb:b=a
    ·subst hb;rw[ak] at q;cases q;exact ok
    . rw[aB hb] at q;refine(I.hok b u q).stay (λc v _ z=>z) (λc z=>?_) λc xs z=>?_
      ·rw[aB (ne z)];exact z
      ·rw[aB (ne z)];exact z
theorem Inv.qgE {e C:Addr} {args:List Value} {h':Heap} (I:Inv X p_ σ H s) (hex:X.ex=[]) (mk:Heap.MadeExcOf s.heap h' e (.ref C) args):H e=none/\Inv X p_ σ (upd H e (kI e C none)) {s with heap:=h'}:=by
  have un:=Yy I.hok mk.new;obtain⟨t0,ht,_⟩:=mk.there;have I2:Inv X p_ σ H {s with heap:=h',toks:=s.toks}:=I.kept mk.keeps;refine⟨un,I2.qer hex (I.old hex mk.new) un ⟨_,_,ht,rfl⟩ (JX ⟨_,_,t0,ht,rfl,rfl,rfl,rfl,rfl,rfl⟩) λp hp z=>?_⟩;have e1:=(I.pin p hp).1;rw[z,mk.new] at e1;cases e1
end
structure XMk (K:W.Frag) (C B f:Addr):Prop where
  ob:∃nm q N bs hdct sn sub ab col dd k0 k1 k2 k3 k5,K.lookup C=some (excClassObj nm q C N bs (.ref B::nQ) hdct sn sub ab col dd k0 k1 k2 k3 k5 "ValueError.__new__")
  pe:YB K B
  pm:∃cd,W.clsIn K B=some cd/\cd.mro = .ref B::nQ
  init:W.findIn K (.ref C) "__init__" = some (some (.ref f))
  fn:W.typeIn K (.ref f)=some (.type "function")
  kp:W.keepIn K (.ref C)=true
theorem XMk.tail {K:W.Frag} {C B f:Addr} {h:Heap} (M:XMk K C B f) (X:K.In h):OwnTail h nQ (.ref B::nQ):=by
  obtain⟨bm,N,nm,qn,bs,hdct,sn,sub,ab,col,dd,k0,k1,k2,k3,k5,mN,hC0,hN0,hni,T0,_⟩:=qbc X M.pe;obtain⟨cd,h1,h2⟩:=M.pm;have e:bm=nQ:=by
    unfold W.clsIn at h1;split at h1
    ·rename_i c' d' cd' sl' ho;cases h1;have z:=X _ _ ho;rw[hC0] at z;cases z;simpa using h2
    ·cases h1
  subst e;exact .own hC0 hN0 hni .base
section
variable {X:Cx} {C B f:Addr} {x:Str} {np p pos apos:Pos} {e:Expr} {es:List Expr} {t:TA}
structure qgF (K:W.Frag) (B:Addr):Prop where
  sg:W.specialIn K (.ref B) "__getattribute__" = some (some (.builtin "type.__getattribute__"))
  rd:W.readsIn K B (.type "type")=true
  fc:W.findCls K (.ref B) (.type "type") "__init__" = some (.val (.builtin "ValueError.__init__"))
def qcD (C:Addr) (t:TA):TE:=λσ H Q=>t σ H λvs H1=>ar2 vs λv y=>isRef v λa=>∃od,H1 a=some (kI a C od)/\Q .non H1
@[simp ↓] theorem qjb C t σ H Q:qcD C t σ H Q=t σ H λvs H1=>ar2 vs λv y=>isRef v λa=>∃od,H1 a=some (kI a C od)/\Q .non H1:=rfl
theorem qbj {pl:Sem Bool} (M:XMk X.K C B f) (N:qgF X.K B) (hg:Gl X x) (hm:X.mg x=some (.ref B)) (ha:PA X (e::es) t) (hdb:(x == ("__debug__" : Str))=false:=by decide)
    (he:starEach (e::es) X.env=(false,eval e X.env)::starEach es X.env:=by rfl) (hpl:(backTo pos (starEach es X.env)).any (·.1)=false:=by rfl)
    (ht:eval (.Call (.Attribute (.Name x np) "__init__" apos) (e::es) [] pos) X.env=(do
      let ov <- eval (.Name x np) X.env
      standAt apos.atName
      let (f,first) <- holding [ov] (getMethod ov "__init__" pl)
      callWith pos f first (backTo pos (starEach (e::es) X.env)) (backToKw pos (keywordEach [] X.env))):=by rfl) :
    PE X (.Call (.Attribute (.Name x np) "__init__" apos) (e::es) [] pos) (qcD C t):=by
  intro p_ s σ H Q I h;refine W.methodCall_KW (pl:=pl) (qt I hg hm ?_ hdb) ht;refine W.method_cls I.pP N.sg (W.cls_value I.pP N.rd N.fc rfl ?_);have I0:Inv X p_ σ H {s with toks:=s.toks+1}:=I.tok _;refine PyProof.Rows.callWith_builtin1 (bY (ha pos p_ _ σ H _ I0 h) λus s1 zz=>?_) he hpl;obtain⟨vs,H1,I1,r,q⟩:=zz;obtain⟨v,y,rfl,q⟩:=ar2.out q;obtain⟨a,rfl,od,ea,q⟩:=isRef.out q;obtain⟨u1,u2,rfl,r1,r2⟩:=r.two;obtain rfl:u1=Value.ref a:=r1;obtain⟨nm,qn,N,bs,hdct,sn,sub,ab,col,dd,k0,k1,k2,k3,k5,hC⟩:=M.ob;have T:=M.tail I1.pP;have hC1:=I1.pP _ _ hC;obtain⟨ox,vs,t0,h1,h2,h3,h4,h5,h6,h7⟩:=JZ I1.hok ea;obtain⟨hh,g,d,tk,os⟩:=s1;refine qbe T hC1 h1 h2 h3 h4 (λh' t1 keep he'=>?_) (by show 1<=sizeLine;decide);have sz:0<vs.size:=(qnm.mp h4).1;have new:MK a C od h':=⟨_,vs.setIfInBounds 0 (.ref t1),t1,he',h2,rfl,by simp[sz],by rw[qnU (by decide)];exact h5,by rw[qnU (by decide)];exact h6,h7⟩;have I2:Inv X p_ σ (upd H1 a (kI a C od)) {(⟨hh,g,d,tk,os⟩:Shared) with heap:=h',toks:=tk}:=I1.write (x:=a) (e:=a) (by rw[ea];exact True.intro) (.inl rfl) keep ⟨_,he'⟩ (JX new);rw[qeq ea] at I2;exact⟨.non,H1,I2,rfl,q⟩
end
section
variable {X:Cx} {C B:Addr} {o value:Expr} {f:Str} {pos pos':Pos} {ta tv:TE}
def sX0 (C:Addr) (ta tv:TE) (f:Str):TS:=λD σ H=>tv σ H λy H1=>ta σ H1 λx H2=>isRef x λa=>H2 a=some (kI a C none)/\∀dx,H2 dx=none->D.nx σ (upd (upd H2 dx (zp dx [(f,y)])) a (kI a C (some dx)))
@[simp ↓] theorem qlj C ta tv f D σ H:sX0 C ta tv f D σ H=tv σ H λy H1=>ta σ H1 λx H2=>isRef x λa=>H2 a=some (kI a C none)/\∀dx,H2 dx=none->D.nx σ (upd (upd H2 dx (zp dx [(f,y)])) a (kI a C (some dx))):=rfl
theorem qgG (S:Df X.K C B) (hn:W.findIn X.K (.ref C) f=some none) (ha:PE X o ta) (hv:PE X value tv) (hs:swapsWith value (some (.Attribute o f pos')) pos.line X.env=pure false):PS X (.Assign [.Attribute o f pos'] value pos) (sX0 C ta tv f):=by
  intro p_ s σ H D I h;refine plainObj_wpAny_Assign_Attribute (bY (hv p_ s σ H _ I h) λu s1 z1=>?_) hs;obtain⟨y,H1,I1,ry,q⟩:=z1;refine bY (ha p_ s1 σ H1 _ I1 q) λov s2 z2=>?_;obtain⟨x,H2,I2,rx,q2⟩:=z2;obtain⟨a,rfl,ea,q2⟩:=isRef.out q2;obtain rfl:ov=Value.ref a:=rx;have E0:=JZ I2.hok ea;obtain⟨cd,hc,_,hd⟩:=S.cl;have V_:=I2.pP;refine qep V_ E0.at S hn λA'=>?_;obtain⟨hh,g,d,tk,os⟩:=s2;refine qbg V_ E0 hc hd λh' t' hns keep E1=>⟨rfl,?_⟩;have hf:H2 hh.objs.size=none:=I2.hok.fresh (qlY _);obtain⟨oD,es,ep,eD,rest⟩:=id hns;obtain⟨ox,_,_,ex1,_⟩:=id E0;have axs:a≠hh.objs.size:=ql3 (qlW ex1);have nfr:oD.isFreed=false:=(Heap.get?_some_iff.mp eD).2;have hgD:(hh.push oD).get? hh.objs.size=some oD:=ql0 hh nfr;have hns':(hh.push oD).Ns1 hh.objs.size (λy'=>if y'=f then some u else none):=⟨oD,es,ep,hgD,rest⟩
  have rel:∀f',mO ([(f,y)].lookup f') (if f'=f then some u else none):=λf'=>by
    have e:=sE f f' y [];rw[show[(f,y)].lookup f'=(oR f y []).lookup f' from rfl,e]
    by_cases z:f'=f
    ·rw[if_pos z,if_pos z];exact ry
    ·rw[if_neg z,if_neg z];exact True.intro
  have wi:PySem.Within (λy'=>if y'=f then some u else none) ([(f,y)].map (·.1)):=Within.cons f u Within.nil
  have I3:Inv X p_ σ (upd H2 hh.objs.size (zp hh.objs.size [(f,y)])) {(⟨hh,g,d,tk,os⟩:Shared) with heap:=hh.push oD,toks:=tk}:=I2.laid (λb o z=>qlU _ z) (qlY _) (qbh (by show(1:Nat)<=1000;decide) hns' rel wi);have I4:Inv X p_ σ (upd (upd H2 hh.objs.size (zp hh.objs.size [(f,y)])) a (kI a C (some hh.objs.size))) {(⟨hh.push oD,g,d,tk,os⟩:Shared) with heap:=h',toks:=t'}:=by
    refine I3.write (x:=a) (e:=a) (by rw[aB axs,ea];exact True.intro) (.inl rfl) (λb o hb z=>?_) ?_ (JX E1)
    . by_cases hbs:b=hh.objs.size
      ·subst hbs;rw[hgD] at z;cases z;exact eD
      ·rw[Heap.get?_push_ne _ _ _ hbs] at z;exact keep b o hb z
    ·obtain⟨ox',_,_,z,_⟩:=id E1;exact⟨_,z⟩
  exact⟨σ,_,I4,q2 _ hf⟩
end
inductive Lf:V->PyData->Prop
  | non:Lf .non .none
  | bl (b):Lf (.bl b) (.bool b)
  | int (i):Lf (.int i) (.int i)
  | str (x):Lf (.str x) (.str x)
inductive Sh:List (Str×V)->List (PyData×PyData)->Prop
  | nil:Sh [] []
  | cons {x v d ks kvs}:Lf v d->Sh ks kvs->Sh ((x,v)::ks) ((.str x,d)::kvs)
section
variable {X:Cx} {p_:List (Addr×Obj)} {σ:St} {H:Hp} {s:Shared}
inductive Shw (H:Hp):PyData->V->Prop
  | thg {d v}:mj H d v->d.hasDict=false->Shw H d v
  | dic {a ks kvs}:Sh ks kvs->H a=some (.dK (ks.map λe=>((Sum.inr e.1:Key),e.2)))->Shw H (.dict kvs) (.ref a)
end
structure Sml (k n:Nat) (d:PyData):Prop where
  sh:d.showable=true
  dp:d.depth<=k
  ln:d.shown.length<=n
end L2
namespace L2
open PySem PySem.Spec
section
variable {σ:St} {H:Hp} {p:Addr}
variable {φ:PyData->Prop}
structure big (t:TE) (σ:St) (H:Hp) (Q:VK):Prop where
  out:t σ H Q
end
end L2
namespace L2
open PySem
end L2
namespace L2
open PySem PySem.Spec PyProof.Rows PySem.SeqAt
structure XC (K:W.Frag) (C B:Addr):Prop where
  cl:∃cd,W.clsIn K C=some cd/\cd.mro = .ref C::.ref B::nQ/\cd.hasDict=true
  ty:W.typeIn K (.ref C)=some (.type "type")
  ga:W.findIn K (.ref C) "__getattribute__" = some (some (.builtin "BaseException.__getattribute__"))
  gn:W.findIn K (.ref C) "__getattr__" = some none
  gc:W.findIn K (.ref C) "__class__" = some (some (.builtin "object.__class__"))
  kp:W.keepIn K (.ref C)=true
section
variable {K:W.Frag} {C D B:Addr}
theorem XC.mro (c:XC K C B) (v:Value):W.mroIn K C v=some ((Value.ref C::Value.ref B::nQ).contains v):=by
  obtain⟨cd,h1,h2,_⟩:=c.cl;unfold W.mroIn;rw[h1,Option.bind_some,h2];rfl
theorem XC.get (c:XC K C B):Qn K C:=by
  obtain⟨cd,h1,_,h3⟩:=c.cl;refine⟨c.ga,c.gn,by rw[c.mro];simp,?_⟩;unfold W.hasDictIn;rw[h1];exact h3
theorem XC.set (c:XC K C B) (sa:W.findIn K (.ref C) "__setattr__" = some (some (.builtin "object.__setattr__"))):Df K C B:=by
  obtain⟨cd,h1,h2,h3⟩:=c.cl;exact⟨sa,by rw[c.mro];simp,cd,h1,h2,h3⟩
end
def J0:List Addr->Bool
  | []=>true
  | a::l=>!l.contains a && J0 l
theorem HB:∀{l:List Addr},J0 l=true->l.Nodup
  | [],_=>List.Pairwise.nil
  | a::l,h=>by
    simp only[J0,qnJ,Bool.not_eq_true',List.contains_eq_mem,decide_eq_false_iff_not] at h;exact qmO.mpr ⟨h.1,HB h.2⟩
def ar3 (vs:List V) (R:V->V->V->Prop):Prop:=match vs with
  | [u,v,w]=>R u v w
  | _=>False
@[simp ↓] theorem qlk u v w R:ar3 [u,v,w] R=R u v w:=rfl
end L2
namespace L2
open PySem PySem.Spec PyProof.Rows
section
variable {M:Model} {A:Around} {E:Value->Shared->Prop} {s:Shared} {env:Env}
variable {nm q:Str} {C N:Addr} {bs bm:List Value} {hdct:Bool} {sn:List Str} {sub:List Value} {ab:Bool} {col:Option Bool} {dd:Option Addr} {k0 k1 k2 k3 k5:Option Value} {newId:String}
theorem qbk {x:Sem Value} {Q:Flow->Shared->Prop} (hh:A.handled=none)
    (h:wpAny M A x (λv s1=>∃(a C:Addr) (oe:Obj) (vs:Array Value) (nm q:Str) (N:Addr) (bs bm:List Value) (hdct:Bool) (sn:List Str) (sub:List Value) (ab:Bool) (col:Option Bool) (dd:Option Addr) (k0 k1 k2 k3 k5:Option Value) (newId:String),v = .ref a/\bm.contains (.type "BaseException")=true/\
      s1.heap.get? C=some (excClassObj nm q C N bs bm hdct sn sub ab col dd k0 k1 k2 k3 k5 newId)/\s1.heap.get? a=some oe/\oe.cls = .ref C/\oe.data = .fields vs/\vs[1]? = some .none/\E (.ref a) s1) E s) :
    wpAny M A (raiseStmt env (some x) none) Q E s:=by
  unfold raiseStmt;refine qlS (qmt h (λv s1 z=>?_) λ_ _ x=>x);obtain⟨a,C,oe,vs,nm,q,N,bs,bm,hdct,sn,sub,ab,col,dd,k0,k1,k2,k3,k5,newId,rfl,hb,hC,he,hc,hd,h1,hE⟩:=z;have hcB:(Value.ref C::bm).contains (.type "BaseException")=true:=by rw[List.contains_cons,hb,Bool.or_true]
  obtain⟨hp,g,d,tk,os⟩:=s1;obtain⟨oc,odd,oda,osl⟩:=oe;cases hc;cases hd
  repeat (first | with_reducible refine qnf he ?_ | with_reducible refine qnf hC ?_ | (with_reducible refine qnD hC ?_;rw[hcB]) | wp_step)
  rw[h1];refine qlV ?_;rw[if_neg (by decide)];exact qlV (wpAny_raiseNew_none hh hE)
end
section
variable {X:Cx} {p_:List (Addr×Obj)} {σ:St} {H:Hp} {s:Shared}
theorem Inv.qkh {a:Addr} {φ:Heap->Prop} (I:Inv X p_ σ H s) (ea:H a=some (.ext φ)):Inv X p_ σ (hid a H) s:=by
  have ne:∀{b:Addr} {u:HO},hid a H b=some u->b≠a/\H b=some u:=λ{b u} z=>by
    unfold hid at z;split at z
    ·cases z
    ·rename_i h;exact⟨h,z⟩
  have kp:∀{b:Addr} {u:HO},b≠a->H b=some u->hid a H b=some u:=λh z=>JT h z;have nn:∀{b:Addr},H b=none->hid a H b=none:=λ{b} z=>by
    unfold hid;split
    ·rfl
    ·exact z
  refine⟨I.ok,I.os,I.bare,⟨I.base.keep,I.base.slot,λb o eb n hx=>nn (I.base.free b o eb n hx),I.base.there,λb xs q=>?_,λb o u q=>?_,λb ps q=>?_⟩,I.loc,I.cell,nn I.free,λx c q=>nn (I.gj x c q),λp hpp=>?_,λb u q=>?_,I.len⟩
  ·have z:=I.base.tups b xs q;exact kp (λy=>by rw[y,ea] at z;cases z) z
  ·have z:=I.base.qm b o u q;exact kp (λy=>by rw[y,ea] at z;cases z) z
  ·obtain⟨m,z⟩:=I.base.qp b ps q;exact⟨m,kp (λy=>by rw[y,ea] at z;cases z) z⟩
  ·obtain⟨f1,f2,f3⟩:=I.pin p hpp;exact⟨f1,nn f2,f3⟩
  . obtain⟨hb,q'⟩:=ne q;refine(I.hok b u q').stay (λc v _ z=>z) (λc z=>?_) λc xs z=>?_
    ·exact kp (λy=>by rw[y,ea] at z;cases z) z
    ·exact kp (λy=>by rw[y,ea] at z;cases z) z
end
section
variable {X:Cx} {E:XK} {k:Nat} {C B f:Addr} {fd:FuncData} {ps:List Str} {sp:Sp} {x:Str} {np cpos pos:Pos} {e:Expr} {es:List Expr} {t:TA}
def Ss (C:Addr) (sp:Sp) (E:XK) (t:TA):TS:=λ_ σ H=>t σ H λvs H1=>vs.length<=sizeLine/\∀a,H1 a=none->Uv sp (.ref a::vs) (upd H1 a (kI a C none)) (λv H2=>v = .non/\∃od,H2 a=some (kI a C od)/\E (.ref C) od (hid a H2)) ⟨0⟩ E0
@[simp ↓] theorem qfq C sp E t D σ H:Ss C sp E t D σ H=t σ H λvs H1=>vs.length<=sizeLine/\∀a,H1 a=none->Uv sp (.ref a::vs) (upd H1 a (kI a C none)) (λv H2=>v = .non/\∃od,H2 a=some (kI a C od)/\E (.ref C) od (hid a H2)) ⟨0⟩ E0:=rfl
theorem U6 (hL:Lets X E) (hex:X.ex=[]) (hc:X.calm=true) (M:XMk X.K C B f) (F:bN X.prog X.w X.K X.mg X.base ig k f fd ps sp) (hr:fQ (k+1) X.A) (hg:Gl X x) (hm:X.mg x=some (.ref C)) (hb:Binds X.K fd ps [])
    (ha:PA X (e::es) t) (hdb:(x == ("__debug__" : Str))=false:=by decide) (he:starEach (e::es) X.env=(false,eval e X.env)::starEach es X.env:=by rfl) (hpl:(backTo cpos (starEach es X.env)).any (·.1)=false:=by rfl) :
    PS X (.Raise (some (.Call (.Name x np) (e::es) [] cpos)) none pos) (Ss C sp E t):=by
  intro p_ s σ H D I h;show wpAny _ _ (do standAt pos;raiseStmt X.env (some (do let v <- eval (.Call (.Name x np) (e::es) [] cpos) X.env;standAt pos;pure v)) none) _ _ s
  refine qlS (qnl (qbk (I.ok.hd hc) (qlS ?_)));refine qmt (Q:=λv s1=>∃(a C:Addr) (oe:Obj) (vs:Array Value) (nm q:Str) (N:Addr) (bs bm:List Value) (hdct:Bool) (sn:List Str) (sub:List Value) (ab:Bool) (col:Option Bool) (dd:Option Addr) (k0 k1 k2 k3 k5:Option Value) (newId:String),v = .ref a/\bm.contains (.type "BaseException")=true/\
      s1.heap.get? C=some (excClassObj nm q C N bs bm hdct sn sub ab col dd k0 k1 k2 k3 k5 newId)/\s1.heap.get? a=some oe/\oe.cls = .ref C/\oe.data = .fields vs/\vs[1]? = some .none/\X.xe (.ref a) s1) ?_ (λv s1 z=>qlS (qnl (qlV z))) λ_ _ z=>z
  refine qmS (qt I hg hm ?_ hdb);refine W.callWith_K (h₀:=X.base) I.ok.mod.V_ M.kp (bY (ha cpos p_ s σ H _ I h) λus s1 zz=>?_) he hpl;obtain⟨vs,H1,I1,r,hz,q⟩:=zz;refine⟨I1.pP,?_⟩;obtain⟨nm,qn,N,bs,hdct,sn,sub,ab,col,dd,k0,k1,k2,k3,k5,hC⟩:=M.ob;have T:=M.tail I1.pP;have hC1:=I1.pP _ _ hC;have V_:=I1.pP;obtain⟨hh,g,d,tk,os⟩:=s1;refine qbd V_ T M.init M.fn hC1 (λh' a mk=>?_) (by show us.length<=_;rw[<- r.length];exact hz);have new:X.s₀.heap.get? a=none:=I1.old hex mk.new;obtain⟨un,I2⟩:=I1.qgE hex mk;have hq:=q a un;have r2:Vals (V.ref a::vs) (Value.ref a::us):=.cons rfl r;have hl:(Value.ref a::us).length=ps.length:=by rw[<- r2.length];exact F.len _ _ _ _ hq
  have hbd:=hb _ (Value.ref a::us) I2.pP (by rw[qmy];exact hl);rw[qmy] at hbd;refine qnQ (qmV (F.run _ X.stack _ _ ⟨Value.ref a::us,[]⟩ (Value.ref a::us) _ _ _ (hr.make C us []) (I2.env0.make C us []) hbd r2 hq) λrr s' hq'=>?_);cases rr with
  | error z=>exact False.elim hq'
  | ok fl=>
    cases fl with
    | ret u=>
      obtain⟨v,H',I3,rv,ev,od,ea,hE⟩:=I2.after hq';subst ev;obtain⟨ox,ws,t0,g1,g2,g3,g4,g5,g6,g7⟩:=JZ I3.hok ea;refine⟨rv,a,C,ox,ws,nm,qn,N,bs,_,hdct,sn,sub,ab,col,dd,k0,k1,k2,k3,k5,_,rfl,?_,I3.pP _ _ hC,g1,g2,g3,g5,?_⟩
      ·simp[nQ]
      ·refine hL p_ σ (hid a H') s' a C od (I3.qkh ea) ⟨new,?_,ox,ws,g1,by rw[g2,g7],g3,g6,.inl g5⟩ hE;unfold hid;rw[if_pos rfl]
    | next=>exact False.elim hq'
    | brk=>exact False.elim hq'
    | cont=>exact False.elim hq'
end
theorem Hz.ofX {K:W.Frag} {C B f:Addr} (M:XMk K C B f) (c:XC K C B):Hz K C:=λh X=>by
  obtain⟨nm,qn,N,bs,hdct,sn,sub,ab,col,dd,k0,k1,k2,k3,k5,hC⟩:=M.ob;exact⟨_,N,nm,qn,bs,hdct,sn,sub,ab,col,dd,k0,k1,k2,k3,k5,X _ _ hC,λv b e=>by rw[c.mro] at e;exact qmp e⟩
theorem Dg (a b c:Value):checkTypeCall "zip" ⟨[a,b,c],[]⟩=pure ():=by kernel_rfl
theorem FN (a b c:Value):checkBuiltinCall "zip.__new__" ⟨[.type "zip",a,b,c],[]⟩=pure ():=by kernel_rfl
theorem vO (a b c d:Value):argsOk "object.__init__" ⟨[a,b,c,d],[]⟩:=by
  unfold argsOk;rw[signature?_of (id:= "object.__init__") (n:=['_', '_', 't', 'i', 'n', 'i', '_', '_']) (o:=['t', 'c', 'e', 'j', 'b', 'o']) (by kernel_rfl) F.owner_object];kernel_rfl
theorem Qo:typeLookup (.type "zip") "__len__" = pure none:=by rw[typeLookup_type,qn9];kernel_rfl
theorem MN:typeLookup (.type "zip") "__length_hint__" = pure none:=by rw[typeLookup_type,qn9];kernel_rfl
abbrev Bf (h:Heap) (z TI TO:Addr) (f0:Value) (b:Bool):Prop:=
  h.get? z=some {cls:=.type "zip",dict:=none,data:=.fields #[f0,.bool b,.bool false,.ref TI,.ref TO],slots:=#[]}
abbrev bW (h:Heap) (T:Addr) (a b c:Value):Prop:=h.get? T=some {cls:=.type "tuple",data:=.seq #[a,b,c]}
def z_ (b:Bool) (h:Heap) (it l:Addr) (i:Nat):Prop:=match b with
  | true=>h.IsListIter it l i
  | false=>h.IsTupleIter it l i
def HD (b:Bool) (h:Heap) (l:Addr) (items:Array Value):Prop:=match b with
  | true=>h.IsList l items
  | false=>h.IsTuple l items
theorem z_.at {b:Bool} {h h':Heap} {it l:Addr} {i:Nat} (x:z_ b h it l i) (k:∀o,h.get? it=some o->h'.get? it=some o):z_ b h' it l i:=by
  cases b with
  | true=>obtain⟨o,e,c⟩:=x;exact⟨o,k _ e,c⟩
  | false=>obtain⟨o,e,c⟩:=x;exact⟨o,k _ e,c⟩
theorem HD.at {b:Bool} {h h':Heap} {l:Addr} {items:Array Value} (x:HD b h l items) (k:∀o,h.get? l=some o->h'.get? l=some o):HD b h' l items:=by
  cases b with
  | true=>obtain⟨o,e,c⟩:=x;exact⟨o,k _ e,c⟩
  | false=>obtain⟨o,e,c⟩:=x;exact⟨o,k _ e,c⟩
theorem z_.extBut {b:Bool} {h h':Heap} {it l c:Addr} {i:Nat} (x:z_ b h it l i) (k:Heap.ExtBut c h h') (n:it≠c):z_ b h' it l i:=x.at λo e=>k _ _ n e
theorem HD.extBut {b:Bool} {h h':Heap} {l c:Addr} {items:Array Value} (x:HD b h l items) (k:Heap.ExtBut c h h') (n:l≠c):HD b h' l items:=x.at λo e=>k _ _ n e
theorem z_.ob {b:Bool} {h:Heap} {it l:Addr} {i:Nat} (x:z_ b h it l i):∃o,h.get? it=some o:=by
  cases b with
  | true=>obtain⟨o,e,c⟩:=x;exact⟨o,e⟩
  | false=>obtain⟨o,e,c⟩:=x;exact⟨o,e⟩
theorem HD.ob {b:Bool} {h:Heap} {l:Addr} {items:Array Value} (x:HD b h l items):∃o,h.get? l=some o:=by
  cases b with
  | true=>obtain⟨o,e,c⟩:=x;exact⟨o,e⟩
  | false=>obtain⟨o,e,c⟩:=x;exact⟨o,e⟩
theorem z_.ne {b:Bool} {h:Heap} {it l c:Addr} {i:Nat} {o:Obj} {T:String} (x:z_ b h it l i) (e:h.get? c=some o) (k:o.cls = .type T) (n:T≠ "list_iterator" /\T≠ "tuple_iterator"):c≠it:=by
  cases b with
  | true=>obtain⟨u,e',c',_⟩:=x;exact aQ e e' k c' n.1
  | false=>obtain⟨u,e',c',_⟩:=x;exact aQ e e' k c' n.2
theorem HD.ne {b:Bool} {h:Heap} {l c:Addr} {items:Array Value} {o:Obj} {T:String} (x:HD b h l items) (e:h.get? c=some o) (k:o.cls = .type T) (n:T≠ "list" /\T≠ "tuple"):l≠c:=by
  cases b with
  | true=>obtain⟨u,e',c',_⟩:=x;exact aQ e' e c' k n.1.symm
  | false=>obtain⟨u,e',c',_⟩:=x;exact aQ e' e c' k n.2.symm
theorem z_.nel {b:Bool} {h:Heap} {it l l':Addr} {i:Nat} {items:Array Value} (x:z_ b h it l i) (y:HD b h l' items):l'≠it:=by
  cases b with
  | true=>obtain⟨u,e',c',_⟩:=x;obtain⟨o,e,c,_⟩:=y;exact aQ e e' c c' (by decide)
  | false=>obtain⟨u,e',c',_⟩:=x;obtain⟨o,e,c,_⟩:=y;exact aQ e e' c c' (by decide)
theorem MP {prog:Program} {w:World} {A:Around} {E:Value->Shared->Prop} {s:Shared} {b:Bool} {it l:Addr} {items:Array Value} {i:Nat} {x:Value} {Q:Value->Shared->Prop} (h1:z_ b s.heap it l i) (h2:HD b s.heap l items) (hx:items[i]? = some x)
    (hQ:∀h',z_ b h' it l (i+1)->Heap.SameBut it s.heap h'->Q x {s with heap:=h'}):wpAny (model prog w) A (Builtin.SmallTypes.nextOf (.ref it)) Q E s:=by
  cases b with
  | true=>exact Cy (b:=true) ⟨h1,h2⟩ hx λh' a1 a2=>hQ h' a1.1 a2
  | false=>exact Cy (b:=false) ⟨h1,h2⟩ hx λh' a1 a2=>hQ h' a1.1 a2
structure Z3D (z TI TO i1 i2 i3 l1 l2 l3:Addr):Prop where
  TIz:TI≠z
  TOz:TO≠z
  i1z:i1≠z
  i2z:i2≠z
  i3z:i3≠z
  TITO:TI≠TO
  TIi1:TI≠i1
  TIi2:TI≠i2
  qgH:TI≠i3
  TOi1:TO≠i1
  TOi2:TO≠i2
  YG:TO≠i3
  i12:i1≠i2
  i13:i1≠i3
  i23:i2≠i3
  l1:l1≠z/\l1≠TO/\l1≠i1/\l1≠i2/\l1≠i3
  l2:l2≠z/\l2≠TO/\l2≠i1/\l2≠i2/\l2≠i3
  l3:l3≠z/\l3≠TO/\l3≠i1/\l3≠i2/\l3≠i3
section
variable {prog:Program} {w:World} {A:Around} {E:Value->Shared->Prop} {s:Shared}
theorem qes {T:Addr} {a b c x:Value} {k:Nat} {Q:Unit->Shared->Prop} (hT:bW s.heap T a b c)
    (h:∀h',h'.get? T=some {cls:=.type "tuple",data:=.seq ((#[a,b,c]:Array Value).setIfInBounds k x)}->Heap.SameBut T s.heap h'->Q () {s with heap:=h'}) :
    wpAny (model prog w) A (updateSeq T (·.setIfInBounds k x)) Q E s:=by
  refine qm6 hT rfl (h _ ?_ (qmB ..));rw[qmI _ hT rfl];simp[Obj.mapSeq]
theorem M4 {a:Addr} {Q:Option Obj->Shared->Prop} (h:Q (s.heap.get? a) s):wpAny (model prog w) A (loadIfAlive a) Q E s:=λΓ p _=>by
  unfold loadIfAlive;rw[Sem.wp_loadIfAlive];exact h
theorem YH {b3:Bool} {z TI TO i1 i2 i3 l1 l2 l3:Addr} {xs ys zs:Array Value} {x y v a b c:Value} {Q:Value->Shared->Prop} (D:Z3D z TI TO i1 i2 i3 l1 l2 l3)
    (hz:Bf s.heap z TI TO .none false) (hTI:bW s.heap TI (.ref i1) (.ref i2) (.ref i3)) (hTO:bW s.heap TO a b c)
    (h1:s.heap.IsListIter i1 l1 0) (h2:s.heap.IsListIter i2 l2 0) (h3:z_ b3 s.heap i3 l3 0) (hl1:s.heap.IsList l1 xs) (hl2:s.heap.IsList l2 ys) (hl3:HD b3 s.heap l3 zs) (hx:xs[0]? = some x) (hy:ys[0]? = some y) (hv:zs[0]? = some v)
    (hQ:∀h',Bf h' z TI TO (rawInt s.heap.objs.size) false->bW h' TO x y v->h'.IsListIter i1 l1 1->h'.IsListIter i2 l2 1->z_ b3 h' i3 l3 1->bW h' s.heap.objs.size x y v->h'.objs.size=s.heap.objs.size+1->
      (∀d o,d≠z->d≠TO->d≠i1->d≠i2->d≠i3->s.heap.get? d=some o->h'.get? d=some o)->Q (.ref s.heap.objs.size) {s with heap:=h'}) :
    wpAny (model prog w) A (Builtin.«zip.__next__» ⟨[.ref z],[]⟩) (λfin s'=>∃v,fin = .done (.ret v)/\Q v s') E s:=by
  show wpAny _ _ (field (.ref z) 2 >>= _) _ _ _;refine qlS (qmD hz rfl (x:=.bool false) rfl ?_);show wpAny _ _ (field (.ref z) 3 >>= _) _ _ _;refine qlS (qmD hz rfl (x:=.ref TI) rfl ?_);refine qlS (qmQ hTI rfl ?_);show wpAny _ _ (Builtin.SmallTypes.ownedTupleIsFree (.ref z) >>= _) _ _ _;refine qlS ?_;unfold Builtin.SmallTypes.ownedTupleIsFree;refine qlS (qmD hz rfl (x:=.none) rfl (qlV ?_));simp only[if_true];refine qlS (qn2 ?_);refine qlS (qmD hz rfl (x:=.ref TO) rfl ?_);refine qlS (qmW hz (by simp) λh₁ hz₁ hs₁=>?_);replace hz₁:Bf h₁ z TI TO .ellipsis false:=hz₁;refine qlS ?_;simp only[List.zipIdx_cons,List.zipIdx_nil,List.forIn_cons,List.forIn_nil];have qki:bW h₁ TO a b c:=hs₁.extBut _ _ D.TOz hTO;refine qlS (qlS (wpAny_onRaise ?_));show wpAny _ _ (Builtin.SmallTypes.nextOf (.ref i1) >>= _) _ _ _;refine qlS (qnG (h1.extBut hs₁.extBut D.i1z) (hl1.extBut hs₁.extBut D.l1.1) hx λh₂ h1₂ hs₂=>qlV ?_);have k₂:∀d o,d≠z->d≠TO->d≠i1->d≠i2->d≠i3->s.heap.get? d=some o->h₂.get? d=some o:=λd o d1 d2 d3 d4 d5 e=>hs₂.extBut _ _ d3 (hs₁.extBut _ _ d1 e);have hTO₂:bW h₂ TO a b c:=hs₂.extBut _ _ D.TOi1 qki;refine qlS (qmQ hTO₂ rfl ?_);refine qlS (qes hTO₂ λh₃ hTO₃ hs₃=>?_);replace hTO₃:bW h₃ TO x b c:=hTO₃;refine qlS (qnp (qlV ?_));refine qlS (qlS (wpAny_onRaise ?_));show wpAny _ _ (Builtin.SmallTypes.nextOf (.ref i2) >>= _) _ _ _;refine qlS (qnG (((h2.extBut hs₁.extBut D.i2z).extBut hs₂.extBut D.i12.symm).extBut hs₃.extBut D.TOi2.symm)
    (((hl2.extBut hs₁.extBut D.l2.1).extBut hs₂.extBut D.l2.2.2.1).extBut hs₃.extBut D.l2.2.1) hy λh₄ h2₄ hs₄=>qlV ?_)
  have hTO₄:bW h₄ TO x b c:=hs₄.extBut _ _ D.TOi2 hTO₃;refine qlS (qmQ hTO₄ rfl ?_);refine qlS (qes hTO₄ λh₅ hTO₅ hs₅=>?_);replace hTO₅:bW h₅ TO x y c:=hTO₅;refine qlS (qnp (qlV ?_));refine qlS (qlS (wpAny_onRaise ?_));show wpAny _ _ (Builtin.SmallTypes.nextOf (.ref i3) >>= _) _ _ _;refine qlS (MP (((((h3.extBut hs₁.extBut D.i3z).extBut hs₂.extBut D.i13.symm).extBut hs₃.extBut D.YG.symm).extBut hs₄.extBut D.i23.symm).extBut hs₅.extBut D.YG.symm)
    (((((hl3.extBut hs₁.extBut D.l3.1).extBut hs₂.extBut D.l3.2.2.1).extBut hs₃.extBut D.l3.2.1).extBut hs₄.extBut D.l3.2.2.2.1).extBut hs₅.extBut D.l3.2.1) hv λh₆ h3₆ hs₆=>qlV ?_)
  have qgI:bW h₆ TO x y c:=hs₆.extBut _ _ D.YG hTO₅;refine qlS (qmQ qgI rfl ?_);refine qlS (qes qgI λh₇ qbl hs₇=>?_);replace qbl:bW h₇ TO x y v:=qbl;refine qlS (qnp (qlV (qlV ?_)));refine qlS (qmQ qbl rfl ?_);refine qlS (wpAny_newTuple ?_);have hsz:h₇.objs.size=s.heap.objs.size:=by rw[hs₇.1,hs₆.1,hs₅.1,hs₄.1,hs₃.1,hs₂.1,hs₁.1]
  have hz₇:Bf h₇ z TI TO .ellipsis false:=hs₇.extBut _ _ D.TOz.symm (hs₆.extBut _ _ D.i3z.symm (hs₅.extBut _ _ D.TOz.symm (hs₄.extBut _ _ D.i2z.symm (hs₃.extBut _ _ D.TOz.symm (hs₂.extBut _ _ D.i1z.symm hz₁)))));have hk₇:∀d o,d≠z->d≠TO->d≠i1->d≠i2->d≠i3->s.heap.get? d=some o->h₇.get? d=some o:=λd o d1 d2 d3 d4 d5 e=>
    hs₇.extBut _ _ d2 (hs₆.extBut _ _ d5 (hs₅.extBut _ _ d2 (hs₄.extBut _ _ d4 (hs₃.extBut _ _ d2 (hs₂.extBut _ _ d3 (hs₁.extBut _ _ d1 e))))))
  have h1₇:h₇.IsListIter i1 l1 1:=((((h1₂.extBut hs₃.extBut D.TOi1.symm).extBut hs₄.extBut D.i12).extBut hs₅.extBut D.TOi1.symm).extBut hs₆.extBut D.i13).extBut hs₇.extBut D.TOi1.symm;have h2₇:h₇.IsListIter i2 l2 1:=((h2₄.extBut hs₅.extBut D.TOi2.symm).extBut hs₆.extBut D.i23).extBut hs₇.extBut D.TOi2.symm;have h3₇:z_ b3 h₇ i3 l3 1:=h3₆.extBut hs₇.extBut D.YG.symm;have hzlt:z<h₇.objs.size:=qlW hz₇;show wpAny _ _ (Builtin.SmallTypes.ownedTupleHandOut (.ref z) (.ref h₇.objs.size) >>= _) _ _ _;refine qlS ?_;unfold Builtin.SmallTypes.ownedTupleHandOut;have hz₈:Bf (h₇.push {cls:=.type "tuple",data:=.seq #[x,y,v]}) z TI TO .ellipsis false:=qlU _ hz₇;refine qlS (qmW hz₈ (by simp) λh₉ hz₉ hs₉=>?_);replace hz₉:Bf h₉ z TI TO (rawInt h₇.objs.size) false:=hz₉;refine qmW hz₉ (by simp) λh₁₀ qbm qet=>?_;replace qbm:Bf h₁₀ z TI TO (rawInt h₇.objs.size) false:=qbm;have up:∀d o,d≠z->h₇.get? d=some o->h₁₀.get? d=some o:=λd o d1 e=>qet.extBut _ _ d1 (hs₉.extBut _ _ d1 (qlU _ e));have hT:bW h₁₀ h₇.objs.size x y v:=qet.extBut _ _ (qmY hzlt) (hs₉.extBut _ _ (qmY hzlt) (ql0 _ rfl));have hz8:h₁₀.objs.size=h₇.objs.size+1:=by rw[qet.1,hs₉.1,qmm]
  rw[hsz] at qbm hT hz8;refine qlV ⟨_,rfl,?_⟩;show Q (.ref h₇.objs.size) _;rw[hsz];exact hQ h₁₀ qbm (up _ _ D.TOz qbl) (h1₇.at λo e=>up _ o D.i1z e) (h2₇.at λo e=>up _ o D.i2z e) (h3₇.at λo e=>up _ o D.i3z e) hT hz8 λd o d1 d2 d3 d4 d5 e=>up d o d1 (hk₇ d o d1 d2 d3 d4 d5 e)
theorem Sv {z TI TO T:Addr} {bo:Bool} {B:Bool->Shared->Prop} (hz:Bf s.heap z TI TO (rawInt T) bo)
    (h:∀h₁,Bf h₁ z TI TO (rawInt T) true->Heap.ExtBut z s.heap h₁->h₁.objs.size=s.heap.objs.size->B false {s with heap:=h₁}) :
    wpAny (model prog w) A (if (Value.bool bo != Value.bool true)=true then do
      setField (Value.ref z) 1 (Value.bool true)
      pure false
    else pure false) B E s:=by
  cases bo with
  | true=>
    rw[if_neg (by decide)];exact qlV (h s.heap hz (λ_ _ _ e=>e) rfl)
  | false=>
    rw[if_pos (by decide)];exact qlS (qmW hz (by simp) λh₁ hz₁ hs₁=>qlV (h h₁ hz₁ hs₁.extBut hs₁.1))
theorem qbn {b3:Bool} {z TI TO T i1 i2 i3 l1 l2 l3:Addr} {k:Nat} {bo:Bool} {oT:Obj} {xs ys zs:Array Value} {x y v:Value} {Q:Value->Shared->Prop} (D:Z3D z TI TO i1 i2 i3 l1 l2 l3)
    (hz:Bf s.heap z TI TO (rawInt T) bo) (hT:s.heap.get? T=some oT) (hTI:bW s.heap TI (.ref i1) (.ref i2) (.ref i3))
    (h1:s.heap.IsListIter i1 l1 k) (h2:s.heap.IsListIter i2 l2 k) (h3:z_ b3 s.heap i3 l3 k) (hl1:s.heap.IsList l1 xs) (hl2:s.heap.IsList l2 ys) (hl3:HD b3 s.heap l3 zs) (hx:xs[k]? = some x) (hy:ys[k]? = some y) (hv:zs[k]? = some v)
    (hQ:∀h',Bf h' z TI TO (rawInt T) true->h'.IsListIter i1 l1 (k+1)->h'.IsListIter i2 l2 (k+1)->z_ b3 h' i3 l3 (k+1)->bW h' s.heap.objs.size x y v->h'.objs.size=s.heap.objs.size+1->
      (∀d o,d≠z->d≠i1->d≠i2->d≠i3->s.heap.get? d=some o->h'.get? d=some o)->Q (.ref s.heap.objs.size) {s with heap:=h'}) :
    wpAny (model prog w) A (Builtin.«zip.__next__» ⟨[.ref z],[]⟩) (λfin s'=>∃v,fin = .done (.ret v)/\Q v s') E s:=by
  show wpAny _ _ (field (.ref z) 2 >>= _) _ _ _;refine qlS (qmD hz rfl (x:=.bool false) rfl ?_);show wpAny _ _ (field (.ref z) 3 >>= _) _ _ _;refine qlS (qmD hz rfl (x:=.ref TI) rfl ?_);refine qlS (qmQ hTI rfl ?_);show wpAny _ _ (Builtin.SmallTypes.ownedTupleIsFree (.ref z) >>= _) _ _ _;refine qlS ?_;unfold Builtin.SmallTypes.ownedTupleIsFree;refine qlS (qmD hz rfl (x:=rawInt T) rfl ?_);show wpAny _ _ (loadIfAlive T >>= _) _ _ _;refine qlS (M4 ?_);rw[hT];simp only[Option.isNone_some,qm3,if_false];refine qlS (qmD hz rfl (x:=.bool bo) rfl ?_);refine Sv hz λh₁ hz₁ hs₁ hn₁=>?_;simp only[qm3,if_false];refine qlS ?_;simp only[<- Array.forIn_toList,List.forIn_cons,List.forIn_nil];refine qlS (qlS (qmF ?_));show wpAny _ _ (Builtin.SmallTypes.nextOf (.ref i1) >>= _) _ _ _;refine qlS (qnG (h1.extBut hs₁ D.i1z) (hl1.extBut hs₁ D.l1.1) hx λh₂ h1₂ hs₂=>qlV ?_);refine qlV ?_;refine qlS (qlS (qmF ?_));show wpAny _ _ (Builtin.SmallTypes.nextOf (.ref i2) >>= _) _ _ _;refine qlS (qnG ((h2.extBut hs₁ D.i2z).extBut hs₂.extBut D.i12.symm) ((hl2.extBut hs₁ D.l2.1).extBut hs₂.extBut D.l2.2.2.1) hy λh₃ h2₃ hs₃=>qlV ?_);refine qlV ?_;refine qlS (qlS (qmF ?_));show wpAny _ _ (Builtin.SmallTypes.nextOf (.ref i3) >>= _) _ _ _;refine qlS (MP (((h3.extBut hs₁ D.i3z).extBut hs₂.extBut D.i13.symm).extBut hs₃.extBut D.i23.symm) (((hl3.extBut hs₁ D.l3.1).extBut hs₂.extBut D.l3.2.2.1).extBut hs₃.extBut D.l3.2.2.2.1) hv λh₄ h3₄ hs₄=>qlV ?_);refine qlV (qlV ?_);refine qlS (wpAny_newTuple ?_ (by show 3<=sizeLine;decide));have hsz:h₄.objs.size=s.heap.objs.size:=by rw[hs₄.1,hs₃.1,hs₂.1];exact hn₁
  have kk:∀d o,d≠z->d≠i1->d≠i2->d≠i3->s.heap.get? d=some o->h₄.get? d=some o:=λd o d1 d2 d3 d4 e=>hs₄.extBut _ _ d4 (hs₃.extBut _ _ d3 (hs₂.extBut _ _ d2 (hs₁ _ _ d1 e)));have hz₄:Bf h₄ z TI TO (rawInt T) true:=hs₄.extBut _ _ D.i3z.symm (hs₃.extBut _ _ D.i2z.symm (hs₂.extBut _ _ D.i1z.symm hz₁));have h1₄:h₄.IsListIter i1 l1 (k+1):=(h1₂.extBut hs₃.extBut D.i12).extBut hs₄.extBut D.i13;have h2₄:h₄.IsListIter i2 l2 (k+1):=h2₃.extBut hs₄.extBut D.i23;refine qlV ⟨_,rfl,?_⟩;show Q (.ref h₄.objs.size) _;rw[hsz];refine hQ (h₄.push {cls:=.type "tuple",data:=.seq #[x,y,v]}) (qlU _ hz₄) (h1₄.at λo e=>qlU _ e) (h2₄.at λo e=>qlU _ e) (h3₄.at λo e=>qlU _ e) (by rw[<- hsz];exact ql0 _ rfl) (by rw[qmm,hsz]) λd o d1 d2 d3 d4 e=>qlU _ (kk d o d1 d2 d3 d4 e)
theorem qeu {z TI TO T i1 i2 i3 l1 l2 l3:Addr} {k:Nat} {bo:Bool} {oT:Obj} {xs:Array Value} {Q:Fin->Shared->Prop} (hh:A.handled=none) (D:Z3D z TI TO i1 i2 i3 l1 l2 l3)
    (hz:Bf s.heap z TI TO (rawInt T) bo) (hT:s.heap.get? T=some oT) (hTI:bW s.heap TI (.ref i1) (.ref i2) (.ref i3))
    (h1:s.heap.IsListIter i1 l1 k) (hl1:s.heap.IsList l1 xs) (hx:xs[k]? = none)
    (hE:∀h' e,(∀d o,d≠z->d≠i1->s.heap.get? d=some o->h'.get? d=some o)->(∃o,h'.get? e=some o/\o.cls = .type "StopIteration")->E (.ref e) {s with heap:=h'}) :
    wpAny (model prog w) A (Builtin.«zip.__next__» ⟨[.ref z],[]⟩) Q E s:=by
  show wpAny _ _ (field (.ref z) 2 >>= _) _ _ _;refine qlS (qmD hz rfl (x:=.bool false) rfl ?_);show wpAny _ _ (field (.ref z) 3 >>= _) _ _ _;refine qlS (qmD hz rfl (x:=.ref TI) rfl ?_);refine qlS (qmQ hTI rfl ?_);show wpAny _ _ (Builtin.SmallTypes.ownedTupleIsFree (.ref z) >>= _) _ _ _;refine qlS ?_;unfold Builtin.SmallTypes.ownedTupleIsFree;refine qlS (qmD hz rfl (x:=rawInt T) rfl ?_);show wpAny _ _ (loadIfAlive T >>= _) _ _ _;refine qlS (M4 ?_);rw[hT];simp only[Option.isNone_some,qm3,if_false];refine qlS (qmD hz rfl (x:=.bool bo) rfl ?_);refine Sv hz λh₁ hz₁ hs₁ hn₁=>?_;simp only[qm3,if_false];refine qlS ?_;simp only[<- Array.forIn_toList,List.forIn_cons,List.forIn_nil];refine qlS (qlS (qmF ?_));show wpAny _ _ (Builtin.SmallTypes.nextOf (.ref i1) >>= _) _ _ _;exact qlS (wpAny_nextOf_list_end hh (h1.extBut hs₁ D.i1z) (hl1.extBut hs₁ D.l1.1) hx λh₂ e hs₂ he=>hE h₂ e (λd o d1 d2 x=>hs₂ _ _ d2 (hs₁ _ _ d1 x)) he)
theorem Qp {b3:Bool} {z TI TO i1 i2 i3 l1 l2 l3:Addr} {xs ys zs:Array Value} {x y v a b c:Value} {Q:Option Value->Shared->Prop} (D:Z3D z TI TO i1 i2 i3 l1 l2 l3)
    (hz:Bf s.heap z TI TO .none false) (hTI:bW s.heap TI (.ref i1) (.ref i2) (.ref i3)) (hTO:bW s.heap TO a b c)
    (h1:s.heap.IsListIter i1 l1 0) (h2:s.heap.IsListIter i2 l2 0) (h3:z_ b3 s.heap i3 l3 0) (hl1:s.heap.IsList l1 xs) (hl2:s.heap.IsList l2 ys) (hl3:HD b3 s.heap l3 zs) (hx:xs[0]? = some x) (hy:ys[0]? = some y) (hv:zs[0]? = some v)
    (hQ:∀h',Bf h' z TI TO (rawInt s.heap.objs.size) false->bW h' TO x y v->h'.IsListIter i1 l1 1->h'.IsListIter i2 l2 1->z_ b3 h' i3 l3 1->bW h' s.heap.objs.size x y v->h'.objs.size=s.heap.objs.size+1->
      (∀d o,d≠z->d≠TO->d≠i1->d≠i2->d≠i3->s.heap.get? d=some o->h'.get? d=some o)->Q (some (.ref s.heap.objs.size)) {s with heap:=h'}) :
    wpAny (model prog w) A (pyNext (.ref z)) Q E s:=by
  have hT:s.TypeIs (.ref z) "zip" :=⟨_,hz,rfl⟩;unfold pyNext;exact qlS (wpAny_attempt (qm9 (name:=Str.ofString "__next__") hT qnN
    (qnb qnN hT F.entry_zip_next
      (YH D hz hTI hTO h1 h2 h3 hl1 hl2 hl3 hx hy hv λh' a1 a2 a3 a4 a5 a6 a7 a8=>qlV (hQ h' a1 a2 a3 a4 a5 a6 a7 a8)) (F.args_zip_next_1 _))))
theorem U7 {b3:Bool} {z TI TO T i1 i2 i3 l1 l2 l3:Addr} {k:Nat} {bo:Bool} {oT:Obj} {xs ys zs:Array Value} {x y v:Value} {Q:Option Value->Shared->Prop} (D:Z3D z TI TO i1 i2 i3 l1 l2 l3)
    (hz:Bf s.heap z TI TO (rawInt T) bo) (hT:s.heap.get? T=some oT) (hTI:bW s.heap TI (.ref i1) (.ref i2) (.ref i3))
    (h1:s.heap.IsListIter i1 l1 k) (h2:s.heap.IsListIter i2 l2 k) (h3:z_ b3 s.heap i3 l3 k) (hl1:s.heap.IsList l1 xs) (hl2:s.heap.IsList l2 ys) (hl3:HD b3 s.heap l3 zs) (hx:xs[k]? = some x) (hy:ys[k]? = some y) (hv:zs[k]? = some v)
    (hQ:∀h',Bf h' z TI TO (rawInt T) true->h'.IsListIter i1 l1 (k+1)->h'.IsListIter i2 l2 (k+1)->z_ b3 h' i3 l3 (k+1)->bW h' s.heap.objs.size x y v->h'.objs.size=s.heap.objs.size+1->
      (∀d o,d≠z->d≠i1->d≠i2->d≠i3->s.heap.get? d=some o->h'.get? d=some o)->Q (some (.ref s.heap.objs.size)) {s with heap:=h'}) :
    wpAny (model prog w) A (pyNext (.ref z)) Q E s:=by
  have hTy:s.TypeIs (.ref z) "zip" :=⟨_,hz,rfl⟩;unfold pyNext;exact qlS (wpAny_attempt (qm9 (name:=Str.ofString "__next__") hTy qnN
    (qnb qnN hTy F.entry_zip_next
      (qbn D hz hT hTI h1 h2 h3 hl1 hl2 hl3 hx hy hv λh' a1 a3 a4 a5 a6 a7 a8=>qlV (hQ h' a1 a3 a4 a5 a6 a7 a8)) (F.args_zip_next_1 _))))
theorem next_end {z TI TO T i1 i2 i3 l1 l2 l3:Addr} {k:Nat} {bo:Bool} {oT:Obj} {xs:Array Value} {Q:Option Value->Shared->Prop} (hh:A.handled=none) (D:Z3D z TI TO i1 i2 i3 l1 l2 l3)
    (hz:Bf s.heap z TI TO (rawInt T) bo) (hT:s.heap.get? T=some oT) (hTI:bW s.heap TI (.ref i1) (.ref i2) (.ref i3))
    (h1:s.heap.IsListIter i1 l1 k) (hl1:s.heap.IsList l1 xs) (hx:xs[k]? = none)
    (hQ:∀h',(∀d o,d≠z->d≠i1->s.heap.get? d=some o->h'.get? d=some o)->Q none {s with heap:=h'}):wpAny (model prog w) A (pyNext (.ref z)) Q E s:=by
  have hTy:s.TypeIs (.ref z) "zip" :=⟨_,hz,rfl⟩;unfold pyNext;refine qlS (wpAny_attempt (qm9 (name:=Str.ofString "__next__") hTy qnN
    (qnb qnN hTy F.entry_zip_next (qeu hh D hz hT hTI h1 hl1 hx λh' e hk he=>?_) (F.args_zip_next_1 _))))
  obtain⟨o,ho,hc⟩:=he;refine qlS (wpAny_isInstance (T:= "StopIteration") (b:=true) ⟨o,ho,hc⟩ isSubtype_stop ?_);exact qlV (hQ _ hk)
theorem FP {z TI TO:Addr} {f0:Value} {bo:Bool} {Q:Value->Shared->Prop} (hz:Bf s.heap z TI TO f0 bo)
    (h:∀h₂ c,(∀b o,s.heap.get? b=some o->h₂.get? b=some o)->h₂.objs.size=s.heap.objs.size+1->h₂.get? s.heap.objs.size=some {cls:=.type "list",data:=.seq #[] c}->
      codeAny (model prog w) A.in1 (.builtin "list.extend.loop" ⟨[.ref s.heap.objs.size,.ref z,.none],[]⟩) (wants (λr s₂=>r = .none/\Q (.ref s.heap.objs.size) s₂) E) {s with heap:=h₂}) :
    wpAny (model prog w) A (call (.type "list") [.ref z]) Q E s:=by
  refine callType_codes (Q₁:=λobj s₁=>obj = .ref s.heap.objs.size/\s₁={s with heap:=s.heap.push {cls:=.type "list",data:=.seq #[]}}) F.called_list (F.typeCall_list_1 _) F.entry_list_init
    (code_list_new _ ⟨rfl,rfl⟩) λobj s₁ h₁=>?_
  obtain⟨rfl,rfl⟩:=h₁;have hS:(s.heap.push {cls:=.type "list",data:=.seq #[]}).get? s.heap.objs.size=some {cls:=.type "list",data:=.seq #[]}:=ql0 _ rfl;refine⟨⟨_,hS,rfl⟩,F.args_list_init_2 _ _,?_⟩;have hz1:Bf (s.heap.push {cls:=.type "list",data:=.seq #[]}) z TI TO f0 bo:=qlU _ hz;have hSz:s.heap.objs.size≠z:=qmY (qlW hz);have hn:(s.heap.push {cls:=.type "list",data:=.seq #[]}).objs.size=s.heap.objs.size+1:=qmm ..;have kk:∀b o,s.heap.get? b=some o->b≠s.heap.objs.size/\(s.heap.push {cls:=.type "list",data:=.seq #[]}).get? b=some o:=λb o e=>⟨ql3 (qlW e),qlU _ e⟩;generalize hg:s.heap.push {cls:=.type "list",data:=.seq #[]}=g at hS hz1 hn kk ⊢;clear hg;show wpAny _ _ (do let old <- Builtin.List.listItems (.ref s.heap.objs.size);Builtin.List.listUpdate (.ref s.heap.objs.size) (λ_=>#[]);letGo old.toList.reverse;Builtin.List.listExtendWith (.ref s.heap.objs.size) (.ref z) .none) _ _ _
  refine qlS ?_;unfold Builtin.List.listItems;refine qlS (qmQ hS rfl (qlV ?_));show wpAny _ _ (updateSeq s.heap.objs.size (λ_=>#[]) >>= λ_=>letGo (#[]:Array Value).toList.reverse >>= λ_=>Builtin.List.listExtendWith (.ref s.heap.objs.size) (.ref z) .none) _ _ _;refine qlS (qm6 hS rfl ?_);have hS₂:=qmI (Obj.mapSeq (λ_=>(#[]:Array Value))) hS rfl;have b2:=qmB g s.heap.objs.size (Obj.mapSeq (λ_=>(#[]:Array Value)));refine qlS (qnp ?_);have hz2:Bf (g.update s.heap.objs.size (Obj.mapSeq (λ_=>(#[]:Array Value)))) z TI TO f0 bo:=b2.extBut _ _ hSz.symm hz1;have hT2:Shared.TypeIs {s with heap:=g.update s.heap.objs.size (Obj.mapSeq (λ_=>(#[]:Array Value)))} (.ref z) "zip" :=⟨_,hz2,rfl⟩;unfold Builtin.List.listExtendWith;refine qlS (wpAny_typeOf hT2 ?_);have e1:Builtin.List.listSameRef (.ref s.heap.objs.size) (.ref z)=false:=by simp[Builtin.List.listSameRef,hSz]
  have e2:(Value.type "zip" == Value.type "list")=false:=by decide
  have e3:(Value.type "zip" == Value.type "tuple")=false:=by decide
  simp only[e1,e2,e3,Bool.or_false,qm3,if_false];refine qlS ?_;refine wpAny_pyIter_slot hT2 F.slot_zip_iter (qnb F.slot_zip_iter hT2 F.entry_zip_iter ?_ (F.args_zip_iter_1 _));show wpAny _ _ (ret (.ref z)) _ _ _;refine qlV ⟨_,rfl, "zip",_,hT2,qnN.lookup,?_⟩;refine qlS (qmF ?_);unfold Builtin.List.listLengthHint;refine qlS (wpAny_specialOf hT2 Qo ?_);show wpAny _ _ (specialOf (Value.ref z) (Str.ofString "__length_hint__") >>= _) _ _ _;refine qlS (wpAny_specialOf hT2 MN ?_);refine qlV ?_;show wpAny _ _ (rule "list.extend.makes-room" >>= λ_=>Builtin.List.listTouch (.ref s.heap.objs.size) >>= λ_=>
    again (.builtin "list.extend.loop" ⟨[.ref s.heap.objs.size,.ref z,.none],[]⟩)) _ _ _
  refine qlS (qn2 ?_);refine qlS ?_;show wpAny _ _ (updateSeq s.heap.objs.size (·.push .none) >>= λ_=>updateSeq s.heap.objs.size (·.pop)) _ _ _;refine qlS (qm6 hS₂ rfl ?_);have hS₃:=qmI (Obj.mapSeq (·.push Value.none)) hS₂ rfl;refine qm6 (hz:=by seq_fits) hS₃ rfl ?_;have hS₄:=qmI (Obj.mapSeq (·.pop)) hS₃ rfl;have b3:=qmB (g.update s.heap.objs.size (Obj.mapSeq (λ_=>(#[]:Array Value)))) s.heap.objs.size (Obj.mapSeq (·.push Value.none));have b4:=qmB ((g.update s.heap.objs.size (Obj.mapSeq (λ_=>(#[]:Array Value)))).update s.heap.objs.size (Obj.mapSeq (·.push Value.none))) s.heap.objs.size (Obj.mapSeq (·.pop));refine qlV ⟨qm7 qnE _,h _ _ (λb o e=>?_) ?_ hS₄⟩
  ·obtain⟨n1,e'⟩:=kk b o e;exact b4.extBut _ _ n1 (b3.extBut _ _ n1 (b2.extBut _ _ n1 e'))
  ·rw[b4.1,b3.1,b2.1];exact hn
end
abbrev qbo (h:Heap) (l1:Addr):Heap:=h.push {cls:=.type "list_iterator",data:=.fields #[.ref l1,.int 0 0]}
abbrev qbp (h:Heap) (l1 l2:Addr):Heap:=(qbo h l1).push {cls:=.type "list_iterator",data:=.fields #[.ref l2,.int 0 0]}
abbrev qbq (b:Bool) (h:Heap) (l1 l2 l3:Addr):Heap:=(qbp h l1 l2).push {cls:=.type (if b then "list_iterator" else "tuple_iterator"),data:=.fields #[.ref l3,.int 0 0]}
abbrev qbr (b:Bool) (h:Heap) (l1 l2 l3:Addr):Heap:=(qbq b h l1 l2 l3).push {cls:=.type "tuple",data:=.seq #[.ref h.objs.size,.ref (qbo h l1).objs.size,.ref (qbp h l1 l2).objs.size]}
abbrev qbs (b:Bool) (h:Heap) (l1 l2 l3:Addr):Heap:=(qbr b h l1 l2 l3).push {cls:=.type "tuple",data:=.seq #[.none,.none,.none]}
abbrev M5 (b:Bool) (h:Heap) (l1 l2 l3:Addr):Heap:=(qbs b h l1 l2 l3).push {cls:=.type "zip",data:=.fields #[.none,.bool false,.bool false,.ref (qbq b h l1 l2 l3).objs.size,.ref (qbr b h l1 l2 l3).objs.size]}
theorem YJ (b3:Bool) (l1 l2 l3:Addr) (xs ys zs:Array Value) :
    Meets (Builtin.«zip.__new__» ⟨[.type "zip",.ref l1,.ref l2,.ref l3],[]⟩) (λ_ R s=>s.heap.IsList l1 xs/\s.heap.IsList l2 ys/\HD b3 s.heap l3 zs/\
      R (.ok (.ret (.ref (qbs b3 s.heap l1 l2 l3).objs.size))) {s with heap:=M5 b3 s.heap l1 l2 l3}):=
  .of_wp λprog w A R s h=>by
    obtain⟨hp,g,d,tk,os⟩:=s;obtain⟨hl1,hl2,hl3,h⟩:=h;have hsub:=sub_zip;have hL1:Heap.IsList (Shared.heap ⟨hp,g,d,tk,os⟩) l1 xs:=hl1;have hL2:Heap.IsList (Shared.heap ⟨hp.push {cls:=.type "list_iterator",data:=.fields #[.ref l1,.int 0 0]},g,d,tk,os⟩) l2 ys:=Heap.IsList.push hl2 _;cases b3 with
    | true=>
      have YK:Heap.IsList (Shared.heap ⟨(hp.push {cls:=.type "list_iterator",data:=.fields #[.ref l1,.int 0 0]}).push {cls:=.type "list_iterator",data:=.fields #[.ref l2,.int 0 0]},g,d,tk,os⟩) l3 zs:=Heap.IsList.push (Heap.IsList.push hl3 _) _
      wp_walk using qm0 hL1,qm0 hL2,qm0 YK
      exact⟨_,rfl,h⟩
    | false=>
      have YK:Heap.IsTuple (Shared.heap ⟨(hp.push {cls:=.type "list_iterator",data:=.fields #[.ref l1,.int 0 0]}).push {cls:=.type "list_iterator",data:=.fields #[.ref l2,.int 0 0]},g,d,tk,os⟩) l3 zs:=HD.at (b:=false) hl3 λo e=>qlU _ (qlU _ e)
      wp_walk using qm0 hL1,qm0 hL2,qnt YK
      exact⟨_,rfl,h⟩
section
variable {prog:Program} {w:World} {A:Around} {E:Value->Shared->Prop} {s:Shared}
theorem Qq {b3:Bool} {l1 l2 l3:Addr} {xs ys zs:Array Value} {Q:Value->Shared->Prop} (hl1:s.heap.IsList l1 xs) (hl2:s.heap.IsList l2 ys) (hl3:HD b3 s.heap l3 zs)
    (h:∀h',Bf h' (s.heap.objs.size+5) (s.heap.objs.size+3) (s.heap.objs.size+4) .none false->bW h' (s.heap.objs.size+3) (.ref s.heap.objs.size) (.ref (s.heap.objs.size+1)) (.ref (s.heap.objs.size+2))->
      bW h' (s.heap.objs.size+4) .none .none .none->h'.IsListIter s.heap.objs.size l1 0->h'.IsListIter (s.heap.objs.size+1) l2 0->z_ b3 h' (s.heap.objs.size+2) l3 0->h'.objs.size=s.heap.objs.size+6->
      (∀c o,s.heap.get? c=some o->h'.get? c=some o)->Q (.ref (s.heap.objs.size+5)) {s with heap:=h'}) :
    wpAny (model prog w) A (call (.type "zip") [.ref l1,.ref l2,.ref l3]) Q E s:=by
  refine callType_new F.called_zip (by decide) (Dg _ _ _) (FN _ _ _) (λobj=>vO obj _ _ _) F.entry_zip_new
    (YJ b3 l1 l2 l3 xs ys zs) ⟨hl1,hl2,hl3,?_⟩
  have z1:(qbo s.heap l1).objs.size=s.heap.objs.size+1:=qmm ..;have z2:(qbp s.heap l1 l2).objs.size=s.heap.objs.size+2:=by rw[qmm,z1]
  have z3:(qbq b3 s.heap l1 l2 l3).objs.size=s.heap.objs.size+3:=by rw[qmm,z2]
  have z4:(qbr b3 s.heap l1 l2 l3).objs.size=s.heap.objs.size+4:=by rw[qmm,z3]
  have z5:(qbs b3 s.heap l1 l2 l3).objs.size=s.heap.objs.size+5:=by rw[qmm,z4]
  have z6:(M5 b3 s.heap l1 l2 l3).objs.size=s.heap.objs.size+6:=by rw[qmm,z5]
  have up:∀{g:Heap} {o:Obj} {c:Addr} {u:Obj},g.get? c=some u->(g.push o).get? c=some u:=λe=>qlU _ e;have g6:(M5 b3 s.heap l1 l2 l3).get? (qbs b3 s.heap l1 l2 l3).objs.size=some _:=ql0 _ rfl;have g5:(M5 b3 s.heap l1 l2 l3).get? (qbr b3 s.heap l1 l2 l3).objs.size=some _:=up (ql0 _ rfl);have g4:(M5 b3 s.heap l1 l2 l3).get? (qbq b3 s.heap l1 l2 l3).objs.size=some _:=up (up (ql0 _ rfl));have g3:(M5 b3 s.heap l1 l2 l3).get? (qbp s.heap l1 l2).objs.size=some _:=up (up (up (ql0 _ rfl)));have g2:(M5 b3 s.heap l1 l2 l3).get? (qbo s.heap l1).objs.size=some _:=up (up (up (up (ql0 _ rfl))));have g1:(M5 b3 s.heap l1 l2 l3).get? s.heap.objs.size=some _:=up (up (up (up (up (ql0 _ rfl)))));show _/\_;rw[z3,z4,z5] at g6;rw[z4] at g5;rw[z1,z2,z3] at g4;rw[z2] at g3;rw[z1] at g2;rw[z5];exact⟨⟨_,g6,rfl⟩,h _ g6 g4 g5 ⟨_,g1,rfl,rfl⟩ ⟨_,g2,rfl,rfl⟩ (by cases b3 <;> exact⟨_,g3,rfl,rfl⟩) z6 λc o x=>up (up (up (up (up (up x)))))⟩
end
theorem Inv.qev {X:Cx} {p_:List (Addr×Obj)} {σ:St} {H:Hp} {s:Shared} {h2:Heap} {t':Nat} {xs:List V} {us:List Value} (I:Inv X p_ σ H s) (I1:Inv X p_ σ H {s with heap:=h2,toks:=t'}) (ru:Vals xs us) (hl:xs.length<=sizeLine)
    (wK:h2.get? s.heap.objs.size=some {cls:=.type "tuple",data:=.seq us.toArray}):Inv X p_ σ (upd H s.heap.objs.size (.tup xs)) {s with heap:=h2,toks:=t'}:=by
  have hfr:H s.heap.objs.size=none:=I.hok.fresh (qlY _);refine⟨I1.ok,I1.os,I1.bare,⟨I1.base.keep,I1.base.slot,λc o e n hx=>?_,I1.base.there,λc zs e=>?_,λc o v e=>?_,λc qs e=>?_⟩,I1.loc,I1.cell,?_,λv c e=>?_,λv hv=>?_,?_,I1.len⟩
  . rw[aB (λe'=>?_)]
    ·exact I1.base.free c o e n hx
    ·exact absurd (ql5 (qlW e) I.sz) (by rw[e'];exact qmN _)
  ·have e':=I1.base.tups c zs e;rw[aB (aL e' hfr)];exact e'
  ·have e':=I1.base.qm c o v e;rw[aB (aL e' hfr)];exact e'
  ·obtain⟨m,e'⟩:=I1.base.qp c qs e;exact⟨m,by rw[aB (aL e' hfr)];exact e'⟩
  ·rw[aB (ql3 I.lt)];exact I1.free
  ·obtain⟨w',qc⟩:=I.cell v c e;rw[aB (ql3 qc.lt)];exact I1.gj v c e
  ·obtain⟨f1,f2,f3⟩:=I1.pin v hv;refine⟨f1,?_,f3⟩;rw[aB (ql3 (qlW (I.pin v hv).1))];exact f2
  . intro c v e
    by_cases hcs:c=s.heap.objs.size
    ·subst hcs;rw[ak] at e;cases e;exact⟨hl,us,ru,⟨_,wK,rfl,0,rfl⟩⟩
    . rw[aB hcs] at e;refine(I1.hok c v e).stay (λ_ _ _ qq=>qq) (λd qd=>?_) λd zs qd=>?_
      ·rw[aB (aL qd hfr)];exact qd
      ·rw[aB (aL qd hfr)];exact qd
def SqK (b:Bool) (K:W.Frag) (H:Hp) (l:Addr) (xs:List V):Prop:=match b with
  | true=>aX K H l xs
  | false=>dO K H l xs
theorem Inv.qbt {X:Cx} {p_:List (Addr×Obj)} {σ:St} {H:Hp} {s:Shared} {b:Bool} {l:Addr} {xs:List V} (I:Inv X p_ σ H s) (h:SqK b X.K H l xs):∃its:List Value,Vals xs its/\HD b s.heap l its.toArray/\xs.length<=sizeLine:=by
  cases b with
  | true=>obtain⟨its,r,p,z⟩:=I.list h;exact⟨its,r,p.isList,z⟩
  | false=>obtain⟨its,r,p,z⟩:=I.tuple h;exact⟨its,r,p,z⟩
def jM (H:Hp) (tv xs ys zs:List V) (k:Nat):Prop:=tv.length=k/\∀(i:Nat) (v:V),tv[i]? = some v->∃t x y z,v = .ref t/\xs[i]? = some x/\ys[i]? = some y/\zs[i]? = some z/\H t=some (.tup [x,y,z])
theorem SqK.same {b:Bool} {K:W.Frag} {H H':Hp} {l:Addr} {xs:List V} (h:SqK b K H l xs) (e:Same H H'):SqK b K H' l xs:=by
  cases b with
  | true=>exact e.seq h
  | false=>
    rcases h with(h | ⟨o,h⟩) | h
    ·exact .inl (.inl (e _ _ h))
    ·exact .inl (.inr ⟨o,e _ _ h⟩)
    ·exact .inr h
theorem jM.same {H H':Hp} {tv xs ys zs:List V} {k:Nat} (h:jM H tv xs ys zs k) (s:Same H H'):jM H' tv xs ys zs k:=⟨h.1,λi v e=>by
  obtain⟨t,x,y,z,a,b,c,d,f⟩:=h.2 i v e;exact⟨t,x,y,z,a,b,c,d,s _ _ f⟩⟩
theorem jM.snoc {H:Hp} {tv xs ys zs:List V} {k:Nat} {t:Addr} {x y z:V} (h:jM H tv xs ys zs k) (hx:xs[k]? = some x) (hy:ys[k]? = some y) (hz:zs[k]? = some z) (ht:H t=some (.tup [x,y,z])):jM H (tv++[.ref t]) xs ys zs (k+1):=by
  refine⟨by simp[h.1],λi v e=>?_⟩
  by_cases hi:i<tv.length
  ·rw[ql9 hi] at e;exact h.2 i v e
  . rw[qma (by omega)] at e;have h0:i - tv.length=0:=by
      have:=(qlT.mp e).1;simp at this;omega
    rw[h0] at e;simp at e;subst e;have:i=k:=by have:=h.1;omega
    subst this;exact⟨t,x,y,z,rfl,hx,hy,hz,ht⟩
section
variable {X:Cx} {p_:List (Addr×Obj)} {σ:St} {b3:Bool} {z TI TO i1 i2 i3 l1 l2 l3 S:Addr} {xs ys zs:List V} {R:Result->Shared->Prop}
theorem YL {X:Cx} {p_:List (Addr×Obj)} {H H':Hp} {b:Addr} (h:iK X p_ H b) (n:H' b=none):iK X p_ H' b:=⟨n,h.2⟩
theorem Sw {H:Hp} {s:Shared} {h':Heap} {t':Nat} {x y v:V} {a b c:Value} (I:Inv X p_ σ H s) (hf:∀d∈[z,TI,TO,i1,i2,i3,S],iK X p_ H d) (hlt:∀d∈[z,TI,TO,i1,i2,i3,S],d<s.heap.objs.size)
    (kk:∀d o,d∉[z,TI,TO,i1,i2,i3,S]->s.heap.get? d=some o->h'.get? d=some o) (rx:RelV x a) (ry:RelV y b) (rv:RelV v c) (ht:bW h' s.heap.objs.size a b c) :
    Inv X p_ σ (upd H s.heap.objs.size (.tup [x,y,v])) {s with heap:=h',toks:=t'}/\(∀d∈[z,TI,TO,i1,i2,i3,S],iK X p_ (upd H s.heap.objs.size (.tup [x,y,v])) d)/\Same H (upd H s.heap.objs.size (.tup [x,y,v]))/\H s.heap.objs.size=none:=by
  have hn:H s.heap.objs.size=none:=I.hok.fresh (qlY _);have I1:Inv X p_ σ H {s with heap:=h',toks:=t'}:=I.nC kk hf;refine⟨I.qev I1 (.cons rx (.cons ry (.cons rv .nil))) (by show 3<=sizeLine;decide) ht,λd hd=>YL (hf d hd) ?_,au hn,hn⟩;rw[aB (ql3 (hlt d hd))];exact(hf d hd).1
theorem qbu (hc:X.calm=true) {A:Around} (hh:A.handled=none) (n12:i1≠i2) (n13:i1≠i3) (n23:i2≠i3) (nT:TI≠TO) (n3:l3≠TO) (he:ys.length=xs.length) (he2:zs.length=xs.length) (hL:xs.length<=sizeLine) :
    ∀(r k:Nat) (H:Hp) (s:Shared) (tv:List V) (acc:Array Value) (cn:Nat) (T:Addr) (bo:Bool),xs.length - k=r->1<=k->k<=xs.length->Inv X p_ σ H s->(∀d∈[z,TI,TO,i1,i2,i3,S],iK X p_ H d)->aX X.K H l1 xs->aX X.K H l2 ys->SqK b3 X.K H l3 zs->
      Bf s.heap z TI TO (rawInt T) bo->(∃o,s.heap.get? T=some o)->T∉[z,TI,TO,i1,i2,i3,S]->bW s.heap TI (.ref i1) (.ref i2) (.ref i3)->(∃a b c,bW s.heap TO a b c)->s.heap.IsListIter i1 l1 k->s.heap.IsListIter i2 l2 k->z_ b3 s.heap i3 l3 k->
      s.heap.get? S=some {cls:=.type "list",data:=.seq acc cn}->Vals tv acc.toList->jM H tv xs ys zs k->
      (∀H' s' FQ acc' cn',Inv X p_ σ H' s'->iK X p_ H' S->s'.heap.get? S=some {cls:=.type "list",data:=.seq acc' cn'}->Vals FQ acc'.toList->jM H' FQ xs ys zs xs.length->Same H H'->R (.ok (.ret .none)) s')->
      codeAny (model X.prog X.w) A (.builtin "list.extend.loop" ⟨[.ref S,.ref z,.none],[]⟩) R s:=by
  intro r
  induction r with
  | zero=>
    intro k H s tv acc cn T bo hr h1k hk I hf q1 q2 q3 hz hT hTn hTI hTO w1 w2 w3 hS rv htr hR;obtain⟨oT,hT⟩:=hT;obtain⟨a,b,c,hTO⟩:=hTO;obtain⟨its,rv1,pl1,_⟩:=I.list q1;obtain⟨its2,rv2,pl2,_⟩:=I.list q2;obtain⟨qew,rv3,J_,_⟩:=I.qbt q3;obtain⟨oa,ea,ca,_⟩:=id pl1.isList;obtain⟨ob,eb,cb,_⟩:=id pl2.isList;obtain⟨o1,e1,c1,_⟩:=id w1;obtain⟨o2,e2,c2,_⟩:=id w2;obtain⟨o3,e3⟩:=w3.ob;have D:Z3D z TI TO i1 i2 i3 l1 l2 l3:=
      ⟨aQ hTI hz rfl rfl (by decide),aQ hTO hz rfl rfl (by decide),aQ e1 hz c1 rfl (by decide),aQ e2 hz c2 rfl (by decide),(w3.ne hz rfl (by decide)).symm,nT,aQ hTI e1 rfl c1 (by decide),aQ hTI e2 rfl c2 (by decide),w3.ne hTI rfl (by decide),
        aQ hTO e1 rfl c1 (by decide),aQ hTO e2 rfl c2 (by decide),w3.ne hTO rfl (by decide),n12,n13,n23,
        ⟨aQ ea hz ca rfl (by decide),aQ ea hTO ca rfl (by decide),aQ ea e1 ca c1 (by decide),aQ ea e2 ca c2 (by decide),w3.ne ea ca (by decide)⟩,
        ⟨aQ eb hz cb rfl (by decide),aQ eb hTO cb rfl (by decide),aQ eb e1 cb c1 (by decide),aQ eb e2 cb c2 (by decide),w3.ne eb cb (by decide)⟩,
        ⟨J_.ne hz rfl (by decide),n3,J_.ne e1 c1 (by decide),J_.ne e2 c2 (by decide),w3.nel J_⟩⟩
    have hin:k=xs.length:=by omega
    subst hin;have hSz:S≠z:=aQ hS hz rfl rfl (by decide);have hSi:S≠i1:=aQ hS e1 rfl c1 (by decide);have l1':=rv1.length;refine qmR F.entry_extend_loop ?_;rw[qmH qnE _];show wpAny _ _ (pyNext (.ref z) >>= _) _ _ s;refine qlS (next_end (A:=A.in1) hh D hz hT hTI w1 pl1.isList (by simp;omega) λh' kk=>?_);have I1:Inv X p_ σ H {s with heap:=h',toks:=s.toks}:=I.nC (ch:=[z,TI,TO,i1,i2,i3,S]) (λd o hd e=>kk d o (λx=>hd (by simp[x])) (λx=>hd (by simp[x])) e) hf;exact qlV (hR H _ tv acc cn I1 (hf S (by simp)) (kk _ _ hSz hSi hS) rv htr (Same.refl _))
  | succ r ih=>
    intro k H s tv acc cn T bo hr h1k hk I hf q1 q2 q3 hz hT hTn hTI hTO w1 w2 w3 hS rv htr hR;obtain⟨oT,hT⟩:=hT;obtain⟨a,b,c,hTO⟩:=hTO;obtain⟨its,rv1,pl1,_⟩:=I.list q1;obtain⟨its2,rv2,pl2,_⟩:=I.list q2;obtain⟨qew,rv3,J_,_⟩:=I.qbt q3;obtain⟨oa,ea,ca,_⟩:=id pl1.isList;obtain⟨ob,eb,cb,_⟩:=id pl2.isList;obtain⟨o1,e1,c1,_⟩:=id w1;obtain⟨o2,e2,c2,_⟩:=id w2;obtain⟨o3,e3⟩:=w3.ob;have D:Z3D z TI TO i1 i2 i3 l1 l2 l3:=
      ⟨aQ hTI hz rfl rfl (by decide),aQ hTO hz rfl rfl (by decide),aQ e1 hz c1 rfl (by decide),aQ e2 hz c2 rfl (by decide),(w3.ne hz rfl (by decide)).symm,nT,aQ hTI e1 rfl c1 (by decide),aQ hTI e2 rfl c2 (by decide),w3.ne hTI rfl (by decide),
        aQ hTO e1 rfl c1 (by decide),aQ hTO e2 rfl c2 (by decide),w3.ne hTO rfl (by decide),n12,n13,n23,
        ⟨aQ ea hz ca rfl (by decide),aQ ea hTO ca rfl (by decide),aQ ea e1 ca c1 (by decide),aQ ea e2 ca c2 (by decide),w3.ne ea ca (by decide)⟩,
        ⟨aQ eb hz cb rfl (by decide),aQ eb hTO cb rfl (by decide),aQ eb e1 cb c1 (by decide),aQ eb e2 cb c2 (by decide),w3.ne eb cb (by decide)⟩,
        ⟨J_.ne hz rfl (by decide),n3,J_.ne e1 c1 (by decide),J_.ne e2 c2 (by decide),w3.nel J_⟩⟩
    have hlt:k<xs.length:=by omega
    have hSz:S≠z:=aQ hS hz rfl rfl (by decide);have hS1:S≠i1:=aQ hS e1 rfl c1 (by decide);have hS2:S≠i2:=aQ hS e2 rfl c2 (by decide);have hS3:S≠i3:=w3.ne hS rfl (by decide);have hSI:TI≠S:=aQ hTI hS rfl rfl (by decide);have hSO:TO≠S:=aQ hTO hS rfl rfl (by decide);have hx:xs[k]? = some (xs[k]'hlt):=qmg hlt;have hy:ys[k]? = some (ys[k]'(by omega)):=qmg (by omega);have hv:zs[k]? = some (zs[k]'(by omega)):=qmg (by omega);obtain⟨u1,hu1,ru1⟩:=rv1.get hx;obtain⟨u2,hu2,ru2⟩:=rv2.get hy;obtain⟨u3,hu3,ru3⟩:=rv3.get hv;generalize xs[k]'hlt=x at hx ru1;generalize ys[k]'(by omega)=y at hy ru2;generalize zs[k]'(by omega)=v at hv ru3;have hsz:=rv.length;have htl:=htr.1;refine qmR F.entry_extend_loop ?_;rw[qmH qnE _];show wpAny _ _ (pyNext (.ref z) >>= _) _ _ s;refine qlS (U7 (A:=A.in1) D hz hT hTI w1 w2 w3 pl1.isList pl2.isList J_ (by simpa using hu1) (by simpa using hu2) (by simpa using hu3) λh' a1 a3 a4 a5 a6 a7 kk=>?_);have hS':=kk _ _ hSz hS1 hS2 hS3 hS;show wpAny _ _ (updateSeq S (·.push (.ref s.heap.objs.size)) >>= _) _ _ _;refine qlS ?_;have hnew:S≠s.heap.objs.size:=ql3 (qlW hS);have sb:=qmB h' S (Obj.mapSeq (·.push (Value.ref s.heap.objs.size)));have hacc:acc.size=k:=by rw[<- qoi];omega
    refine qm6 hS' rfl (qlV ⟨qm7 qnE _,?_⟩) (by rw[hacc];omega) (by show(acc.push _).size<=sizeLine+1;rw[Array.size_push,hacc];omega);have qex:bW h' TI (.ref i1) (.ref i2) (.ref i3):=kk _ _ D.TIz D.TIi1 D.TIi2 D.qgH hTI;have qey:bW h' TO a b c:=kk _ _ D.TOz D.TOi1 D.TOi2 D.YG hTO;simp only[ql1,qme,qmX,not_or] at hTn;obtain⟨J1,J2,J3,J4⟩:=Sw (t':=s.toks) (h':=h'.update S (Obj.mapSeq (·.push (Value.ref s.heap.objs.size)))) I hf (λd hd=>by
      simp only[ql1,qme,qmX] at hd
      rcases hd with rfl | rfl | rfl | rfl | rfl | rfl | rfl
      ·exact qlW hz
      ·exact qlW hTI
      ·exact qlW hTO
      ·exact qlW e1
      ·exact qlW e2
      ·exact qlW e3
      . exact qlW hS) (λd o hd e=>by
        simp only[ql1,qme,qmX,not_or] at hd;exact sb.extBut _ _ hd.2.2.2.2.2.2 (kk d o hd.1 hd.2.2.2.1 hd.2.2.2.2.1 hd.2.2.2.2.2.1 e)) ru1 ru2 ru3 (sb.extBut _ _ hnew.symm a6)
    refine ih (k+1) _ _ (tv++[.ref s.heap.objs.size]) (acc.push (.ref s.heap.objs.size)) _ T true (by omega) (by omega) (by omega) J1 J2 (J3.seq q1) (J3.seq q2) (q3.same J3) (sb.extBut _ _ hSz.symm a1) ⟨oT,sb.extBut _ _ hTn.2.2.2.2.2.2 (kk _ _ hTn.1 hTn.2.2.2.1 hTn.2.2.2.2.1 hTn.2.2.2.2.2.1 hT)⟩
      (by simp only[ql1,qme,qmX,not_or];exact hTn) (sb.extBut _ _ hSI qex) ⟨a,b,c,sb.extBut _ _ hSO qey⟩ (a3.extBut sb.extBut hS1.symm) (a4.extBut sb.extBut hS2.symm) (a5.extBut sb.extBut hS3.symm) (qmI _ hS' rfl) (by rw[Array.toList_push];exact rv.append (.cons rfl .nil)) ((htr.same J3).snoc hx hy hv ak) ?_
    intro H' s' FQ acc' cn' b1 b2 b3 b4 b5 b6;exact hR H' s' FQ acc' cn' b1 b2 b3 b4 b5 (J3.trans b6)
end
section
variable {X:Cx} {p_:List (Addr×Obj)} {σ:St} {b3:Bool} {z TI TO i1 i2 i3 l1 l2 l3 S:Addr} {xs ys zs:List V} {R:Result->Shared->Prop}
theorem YM (hc:X.calm=true) {A:Around} (hh:A.handled=none) (n12:i1≠i2) (n13:i1≠i3) (n23:i2≠i3) (nT:TI≠TO) (n3:l3≠TO) (he:ys.length=xs.length) (he2:zs.length=xs.length) (hL:xs.length<=sizeLine) (h0:0<xs.length)
    {H:Hp} {s:Shared} {cn:Nat} (I:Inv X p_ σ H s) (hf:∀d∈[z,TI,TO,i1,i2,i3,S],iK X p_ H d) (q1:aX X.K H l1 xs) (q2:aX X.K H l2 ys) (q3:SqK b3 X.K H l3 zs)
      (hz:Bf s.heap z TI TO .none false) (hTI:bW s.heap TI (.ref i1) (.ref i2) (.ref i3)) (hTO:bW s.heap TO .none .none .none) (w1:s.heap.IsListIter i1 l1 0) (w2:s.heap.IsListIter i2 l2 0) (w3:z_ b3 s.heap i3 l3 0)
      (hS:s.heap.get? S=some {cls:=.type "list",data:=.seq #[] cn})
      (hR:∀H' s' FQ acc' cn',Inv X p_ σ H' s'->iK X p_ H' S->s'.heap.get? S=some {cls:=.type "list",data:=.seq acc' cn'}->Vals FQ acc'.toList->jM H' FQ xs ys zs xs.length->Same H H'->R (.ok (.ret .none)) s') :
      codeAny (model X.prog X.w) A (.builtin "list.extend.loop" ⟨[.ref S,.ref z,.none],[]⟩) R s:=by
  obtain⟨its,rv1,pl1,_⟩:=I.list q1;obtain⟨its2,rv2,pl2,_⟩:=I.list q2;obtain⟨qew,rv3,J_,_⟩:=I.qbt q3;obtain⟨oa,ea,ca,_⟩:=id pl1.isList;obtain⟨ob,eb,cb,_⟩:=id pl2.isList;obtain⟨o1,e1,c1,_⟩:=id w1;obtain⟨o2,e2,c2,_⟩:=id w2;obtain⟨o3,e3⟩:=w3.ob;have D:Z3D z TI TO i1 i2 i3 l1 l2 l3:=
    ⟨aQ hTI hz rfl rfl (by decide),aQ hTO hz rfl rfl (by decide),aQ e1 hz c1 rfl (by decide),aQ e2 hz c2 rfl (by decide),(w3.ne hz rfl (by decide)).symm,nT,aQ hTI e1 rfl c1 (by decide),aQ hTI e2 rfl c2 (by decide),w3.ne hTI rfl (by decide),
      aQ hTO e1 rfl c1 (by decide),aQ hTO e2 rfl c2 (by decide),w3.ne hTO rfl (by decide),n12,n13,n23,
      ⟨aQ ea hz ca rfl (by decide),aQ ea hTO ca rfl (by decide),aQ ea e1 ca c1 (by decide),aQ ea e2 ca c2 (by decide),w3.ne ea ca (by decide)⟩,
      ⟨aQ eb hz cb rfl (by decide),aQ eb hTO cb rfl (by decide),aQ eb e1 cb c1 (by decide),aQ eb e2 cb c2 (by decide),w3.ne eb cb (by decide)⟩,
      ⟨J_.ne hz rfl (by decide),n3,J_.ne e1 c1 (by decide),J_.ne e2 c2 (by decide),w3.nel J_⟩⟩
  have hSz:S≠z:=aQ hS hz rfl rfl (by decide);have hS1:S≠i1:=aQ hS e1 rfl c1 (by decide);have hS2:S≠i2:=aQ hS e2 rfl c2 (by decide);have hS3:S≠i3:=w3.ne hS rfl (by decide);have hSI:TI≠S:=aQ hTI hS rfl rfl (by decide);have hSO:TO≠S:=aQ hTO hS rfl rfl (by decide);have hx:xs[0]? = some (xs[0]'h0):=qmg h0;have hy:ys[0]? = some (ys[0]'(by omega)):=qmg (by omega);have hv:zs[0]? = some (zs[0]'(by omega)):=qmg (by omega);obtain⟨u1,hu1,ru1⟩:=rv1.get hx;obtain⟨u2,hu2,ru2⟩:=rv2.get hy;obtain⟨u3,hu3,ru3⟩:=rv3.get hv;generalize xs[0]'h0=x at hx ru1;generalize ys[0]'(by omega)=y at hy ru2;generalize zs[0]'(by omega)=v at hv ru3;refine qmR F.entry_extend_loop ?_;rw[qmH qnE _];show wpAny _ _ (pyNext (.ref z) >>= _) _ _ s;refine qlS (Qp (A:=A.in1) D hz hTI hTO w1 w2 w3 pl1.isList pl2.isList J_ (by simpa using hu1) (by simpa using hu2) (by simpa using hu3) λh' a1 a2 a3 a4 a5 a6 a7 kk=>?_);have hS':=kk _ _ hSz hSO.symm hS1 hS2 hS3 hS;show wpAny _ _ (updateSeq S (·.push (.ref s.heap.objs.size)) >>= _) _ _ _;refine qlS ?_;have hnew:S≠s.heap.objs.size:=ql3 (qlW hS);have sb:=qmB h' S (Obj.mapSeq (·.push (Value.ref s.heap.objs.size)));refine qm6 hS' rfl (qlV ⟨qm7 qnE _,?_⟩);have qex:bW h' TI (.ref i1) (.ref i2) (.ref i3):=kk _ _ D.TIz D.TITO D.TIi1 D.TIi2 D.qgH hTI;have hlt:∀d∈[z,TI,TO,i1,i2,i3,S],d<s.heap.objs.size:=λd hd=>by
    simp only[ql1,qme,qmX] at hd
    rcases hd with rfl | rfl | rfl | rfl | rfl | rfl | rfl
    ·exact qlW hz
    ·exact qlW hTI
    ·exact qlW hTO
    ·exact qlW e1
    ·exact qlW e2
    ·exact qlW e3
    ·exact qlW hS
  obtain⟨J1,J2,J3,J4⟩:=Sw (t':=s.toks) (h':=h'.update S (Obj.mapSeq (·.push (Value.ref s.heap.objs.size)))) I hf hlt (λd o hd e=>by
      simp only[ql1,qme,qmX,not_or] at hd;exact sb.extBut _ _ hd.2.2.2.2.2.2 (kk d o hd.1 hd.2.2.1 hd.2.2.2.1 hd.2.2.2.2.1 hd.2.2.2.2.2.1 e)) ru1 ru2 ru3 (sb.extBut _ _ hnew.symm a6)
  have qey:∃a b c,bW h' TO a b c:=⟨_,_,_,a2⟩;refine qbu hc hh n12 n13 n23 nT n3 he he2 hL _ 1 _ _ [.ref s.heap.objs.size] #[.ref s.heap.objs.size] _ s.heap.objs.size false rfl (qlY _) (by omega) J1 J2 (J3.seq q1) (J3.seq q2) (q3.same J3) (sb.extBut _ _ hSz.symm a1) ⟨_,sb.extBut _ _ hnew.symm a6⟩
    (λhm=>qmN _ (hlt _ hm)) (sb.extBut _ _ hSI qex) (by obtain⟨a,b,c,e⟩:=qey;exact⟨a,b,c,sb.extBut _ _ hSO e⟩) (a3.extBut sb.extBut hS1.symm) (a4.extBut sb.extBut hS2.symm) (a5.extBut sb.extBut hS3.symm) (qmI _ hS' rfl) (.cons rfl .nil)
    (jM.snoc (tv:=[]) (k:=0) ⟨rfl,λi v e=>by simp at e⟩ hx hy hv ak) ?_
  intro H' s' FQ acc' cn' b1 b2 b3 b4 b5 b6;exact hR H' s' FQ acc' cn' b1 b2 b3 b4 b5 (J3.trans b6)
end
theorem Inv.qez {X:Cx} {p_:List (Addr×Obj)} {σ:St} {H:Hp} {s:Shared} {a:Addr} {ob:HO} (I:Inv X p_ σ H s) (new:X.s₀.heap.objs.size<=a) (fp:iK X p_ H a) (ok:bZ X.prog X.w (upd H a ob) s.heap a ob):Inv X p_ σ (upd H a ob) s:=by
  obtain⟨un,f1,f2,f3,f4,f5⟩:=fp;have old:∀{b o},X.s₀.heap.get? b=some o->b≠a:=λ{b o} eb z=>by
    have:=qlW eb;rw[z] at this;exact absurd (ql5 this new) (qmN _)
  have ne:∀{b:Addr} {u:HO},H b=some u->b≠a:=λ{b u} q z=>by
    rw[z,un] at q;cases q
  refine⟨I.ok,I.os,I.bare,⟨λb o eb n hb hx=>I.base.keep b o eb n hb hx,I.base.slot,λb o eb n hx=>?_,I.base.there,λb xs q=>?_,λb o u q=>?_,λb ps q=>?_⟩,I.loc,I.cell,?_,λx c q=>?_,λp hpp=>?_,λb u q=>?_,I.len⟩
  ·rw[aB (old eb)];exact I.base.free b o eb n hx
  ·have z:=I.base.tups b xs q;rw[aB (ne z)];exact z
  ·have z:=I.base.qm b o u q;rw[aB (ne z)];exact z
  ·obtain⟨m,z⟩:=I.base.qp b ps q;exact⟨m,by rw[aB (ne z)];exact z⟩
  ·rw[aB f1.symm];exact I.free
  ·rw[aB (f4 x c q)];exact I.gj x c q
  ·obtain⟨g1,g2,g3⟩:=I.pin p hpp;refine⟨g1,?_,g3⟩;rw[aB (f5 p hpp)];exact g2
  . by_cases hb:b=a
    ·subst hb;rw[ak] at q;cases q;exact ok
    . rw[aB hb] at q;refine(I.hok b u q).stay (λ_ _ _ qq=>qq) (λd qd=>?_) λd zs qd=>?_
      ·rw[aB (ne qd)];exact qd
      ·rw[aB (ne qd)];exact qd
def arT (xs:List V) (R:V->V->V->Prop):Prop:=match xs with | [x,y,z]=>R x y z | _=>False
@[simp ↓] theorem qll x y z R:arT [x,y,z] R=R x y z:=rfl
theorem arT.out {xs:List V} {R} (h:arT xs R):∃x y z,xs=[x,y,z]/\R x y z:=by
  match xs,h with
  | [x,y,z],h=>exact⟨x,y,z,rfl,h⟩
def tLZ (K:W.Frag) (ta:TA):TE:=λσ H Q=>ta σ H λvs H1=>arT vs λx y z=>isRef x λa=>isRef y λb=>isRef z λc=>∃(b3:Bool) (xs ys zs:List V),aX K H1 a xs/\aX K H1 b ys/\SqK b3 K H1 c zs/\0<xs.length/\ys.length=xs.length/\zs.length=xs.length/\
  ∀p tv H',H1 p=none->H' p=some (.lst tv)->jM H' tv xs ys zs xs.length->Same H1 H'->Q (.ref p) H'
@[simp ↓] theorem qlm K ta σ H Q:tLZ K ta σ H Q=(ta σ H λvs H1=>arT vs λx y z=>isRef x λa=>isRef y λb=>isRef z λc=>∃(b3:Bool) (xs ys zs:List V),aX K H1 a xs/\aX K H1 b ys/\SqK b3 K H1 c zs/\0<xs.length/\ys.length=xs.length/\zs.length=xs.length/\
  ∀p tv H',H1 p=none->H' p=some (.lst tv)->jM H' tv xs ys zs xs.length->Same H1 H'->Q (.ref p) H'):=rfl
theorem Qs {X:Cx} {K:W.Frag} (hK:X.K=K) (hc:X.calm=true) {a b c:Expr} {ta:TA} {p p2 pos pos2:Pos} (hg1:Gl X "list") (hm1:X.mg "list" = none) (hg2:Gl X "zip") (hm2:X.mg "zip" = none) (ha:PA X [a,b,c] ta)
    (hs:starEach [a,b,c] X.env=[(false,eval a X.env),(false,eval b X.env),(false,eval c X.env)]:=by rfl) (hs2:starEach [b,c] X.env=[(false,eval b X.env),(false,eval c X.env)]:=by rfl)
    (hs1:starEach [.Call (.Name "zip" p2) [a,b,c] [] pos2] X.env=[(false,eval (.Call (.Name "zip" p2) [a,b,c] [] pos2) X.env)]:=by rfl) :
    PE X (.Call (.Name "list" p) [.Call (.Name "zip" p2) [a,b,c] [] pos2] [] pos) (tLZ K ta):=by
  subst hK;intro p_ s σ H Q I h;refine qmS (jh I hg1 hm1 boot_list ?_ (by decide) (by decide));refine qmE ?_ (by rw[hs1];rfl) (by rfl);rw[hs1];show wpAny _ _ (spliced ((false,eval (.Call (.Name "zip" p2) [a,b,c] [] pos2) X.env)::[])) _ _ s;refine qnY ?_;refine qmS (jh I hg2 hm2 boot_zip ?_ (by decide) (by decide));refine qmE (bY (ha pos2 p_ s σ H _ I h) λus s1 z=>?_) (by rw[hs,hs2]) (by rw[hs2];rfl);obtain⟨vs,H1,I1,r1,q1⟩:=z;obtain⟨x,y,z,rfl,q2⟩:=arT.out q1;obtain⟨l1,rfl,q3⟩:=isRef.out q2;obtain⟨l2,rfl,q4⟩:=isRef.out q3;obtain⟨l3,rfl,bk,xs,ys,zs,k1,k2,k3,h0,e2,e3,q⟩:=isRef.out q4;obtain⟨u1,u2,u3,rfl,g1,g2,g3⟩:∃u1 u2 u3,us=[u1,u2,u3]/\RelV (.ref l1) u1/\RelV (.ref l2) u2/\RelV (.ref l3) u3:=by
    cases r1 with
    | cons ra r1=>
      cases r1 with
      | cons rb r1=>
        cases r1 with
        | cons rc r1=>
          cases r1;exact⟨_,_,_,rfl,ra,rb,rc⟩
  obtain rfl:u1=Value.ref l1:=g1;obtain rfl:u2=Value.ref l2:=g2;obtain rfl:u3=Value.ref l3:=g3;obtain⟨qlE,rv1,pl1,hz1⟩:=I1.list k1;obtain⟨its2,rv2,pl2,hz2⟩:=I1.list k2;obtain⟨qew,rv3,J_,hz3⟩:=I1.qbt k3;refine Qq pl1.isList pl2.isList J_ λh' b1 b2 b3 b4 b5 b6 b7 kk=>Calls.spliced_nil ?_;have I2:Inv X p_ σ H1 {s1 with heap:=h'}:=I1.kept (t':=s1.toks) kk;refine FP b1 λh₂ cn Pu hn2 hS=>?_;have hSn:({s1 with heap:=h'}:Shared).heap.objs.size=s1.heap.objs.size+6:=b7;generalize ({s1 with heap:=h'}:Shared).heap.objs.size=S at hSn hS hn2 ⊢;subst hSn;have I3:Inv X p_ σ H1 {s1 with heap:=h₂}:=I2.kept (t':=s1.toks) Pu;have fresh:∀d,s1.heap.objs.size<=d->iK X p_ H1 d:=λd hd=>I1.Ar hd (I1.hok.fresh hd);refine YM (z:=s1.heap.objs.size+5) (TI:=s1.heap.objs.size+3) (TO:=s1.heap.objs.size+4) (i1:=s1.heap.objs.size) (i2:=s1.heap.objs.size+1) (i3:=s1.heap.objs.size+2) hc (A:=X.A.in1) (I1.ok.hd hc) (ql3 (Nat.lt_add_of_pos_right (by decide))) (ql3 (Nat.lt_add_of_pos_right (by decide))) (ql3 (qmT (s1.heap.objs.size+1))) (ql3 (qmT (s1.heap.objs.size+3))) (by obtain⟨o,e⟩:=J_.ob;exact ql3 (ql5 (qlW e) (qnu _ _))) e2 e3 hz1 h0 I3 (λd hd=>fresh d ?_) k1 k2 k3 (Pu _ _ b1) (Pu _ _ b2) (Pu _ _ b3) (b4.at λo e=>Pu _ _ e) (b5.at λo e=>Pu _ _ e) (b6.at λo e=>Pu _ _ e) hS ?_
  . simp only[ql1,qme,qmX] at hd
    rcases hd with rfl | rfl | rfl | rfl | rfl | rfl | rfl <;> first | exact qnu _ _ | exact qlY _
  intro H' s' FQ acc' cn' J1 J2 J3 J4 J5 J6;have hl:=J4.length;have J7:=J5.1;refine⟨rfl,.ref _,upd H' (s1.heap.objs.size+6) (.lst FQ),J1.qez (qmq I1.sz (qnu _ _)) J2 ⟨by omega,acc'.toList,cn',J4,by simpa using J3⟩,rfl,q _ FQ _ (I1.hok.fresh (qnu _ _)) ak (J5.same (au J2.1)) (J6.trans (au J2.1))⟩
section
variable {X:Cx} {C B:Addr} {o:Expr} {f:Str} {pos:Pos} {ta:TE}
theorem qbw {P:Program} {w:World} {H:Hp} {h:Heap} {x C:Addr} {od:Option Addr} (hok:∀b u,H b=some u->bZ P w H h b u) (e:H x=some (JV x C od)):vN x C od h:=(hok x _ e).1
def YQ (C:Addr) (ta:TE) (f:Str):TE:=λσ H Q=>ta σ H λx H1=>isRef x λa=>∃dx fs,H1 a=some (JV a C (some dx))/\H1 dx=some (zp dx fs)/\∃v,fs.lookup f=some v/\Q v H1
@[simp ↓] theorem qgJ C ta f σ H Q:YQ C ta f σ H Q=ta σ H λx H1=>isRef x λa=>∃dx fs,H1 a=some (JV a C (some dx))/\H1 dx=some (zp dx fs)/\∃v,fs.lookup f=some v/\Q v H1:=rfl
theorem YS (G:Qn X.K C) (hn:W.findIn X.K (.ref C) f=some none) (he:PE X o ta) (hb:attributeBase o f X.env (eval o X.env)=eval o X.env):PE X (.Attribute o f pos) (YQ C ta f):=by
  intro p_ s σ H Q I h;refine RB hb (bY (he p_ s σ H _ I h) λu s1 z1=>?_);obtain⟨x,H1,I1,rx,q⟩:=z1;obtain⟨a,rfl,dx,fs,ea,ed,v,hv,q⟩:=isRef.out q;obtain rfl:u=Value.ref a:=rx;obtain⟨hl0,mA,hns,hr,hw⟩:=qbi I1.hok ed;obtain⟨u',hu,ru⟩:=mO.some_of (v:=v) (o:=mA f) (by rw[<- hv];exact hr f);exact qen I1.pP (qbw I1.hok ea) hns G hn hu (GP ru) ⟨v,H1,I1.tok _,ru,q⟩
end
section
variable {M:Model} {A:Around} {E:Value->Shared->Prop} {h:Heap} {g:Array GenState} {d:Drawn} {t:Nat} {os:OsState}
variable {nm q:Str} {C N:Addr} {bs bm:List Value} {hdct:Bool} {sn:List Str} {sub:List Value} {ab:Bool} {col:Option Bool} {dd:Option Addr} {k0 k1 k2 k3 k5:Option Value} {newId:String}
variable {nm' q':Str} {D N':Addr} {bs' bm':List Value} {qgK:Bool} {sn':List Str} {sub':List Value} {ab':Bool} {col':Option Bool} {dd':Option Addr} {j0 j1 j2 j3 j5:Option Value} {newId':String}
theorem Qt {e:Addr} {oe:Obj} {b:Bool} {Q:Bool->Shared->Prop} (hC:h.get? C=some (excClassObj nm q C N bs bm hdct sn sub ab col dd k0 k1 k2 k3 k5 newId))
    (hD:h.get? D=some (excClassObj nm' q' D N' bs' bm' qgK sn' sub' ab' col' dd' j0 j1 j2 j3 j5 newId')) (he:h.get? e=some oe) (hcls:oe.cls = .ref C) (hDB:(Value.ref D::bm').contains (.type "BaseException")=true) (hCD:(Value.ref C::bm).contains (.ref D)=b)
    (hq:Q b ⟨h,g,d,t,os⟩):wpAny M A (excMatches (.ref e) (.ref D)) Q E ⟨h,g,d,t,os⟩:=by
  have f:=tc_notTuple;unfold excMatches;cases b with
  | true=>
    repeat (first | (with_reducible refine qnf he ?_;rw[hcls]) | with_reducible refine qnf hD ?_ | (with_reducible refine qnD hD ?_;rw[hDB]) | (with_reducible refine qnD hC ?_;rw[hCD]) | wp_step)
    exact hq
  | false=>
    repeat (first | (with_reducible refine qnf he ?_;rw[hcls]) | with_reducible refine qnf hD ?_ | (with_reducible refine qnD hD ?_;rw[hDB]) | (with_reducible refine qnD hC ?_;rw[hCD]) | wp_step)
    exact hq
end
structure Clause (K:W.Frag) (D:Addr):Prop where
  ob:Hz K D
  be:W.mroIn K D (.type "BaseException")=some true
theorem Clause.of {K:W.Frag} {C B f:Addr} (M:XMk K C B f) (c:XC K C B):Clause K C:=⟨Hz.ofX M c,by rw[c.mro];simp⟩
def qcE (i:Nat) (ts:Addr->TS) (Dn:Ends) (σ1:St) (C:Addr) (od:Option Addr) (H1:Hp):Prop:=∀a,H1 a=none->
    ts a {nx:=λσ2 H2=>Dn.nx (σ2.set i none) H2,rt:=Dn.rt,bk:=λσ2 H2=>Dn.bk (σ2.set i none) H2,ct:=λσ2 H2=>Dn.ct (σ2.set i none) H2} (σ1.set i (some (.ref a))) (upd H1 a (JV a C od))
def Qu (c':Addr) (qual:Str):HO:=.ext λh=>h.CodeRec (.ref c') qual
def TabOk (pos:Pos) (qual:Str) (P:Addr) (H:Hp):Prop:=
  H P=some (.Aq #[])\/∃c',H P=some (.Aq #[rawInt pos.line,rawInt pos.col,.ref c'])/\H c'=some (Qu c' qual)
theorem TabOk.same {pos:Pos} {qual:Str} {P:Addr} {H H':Hp} (t:TabOk pos qual P H) (s:Same H H'):TabOk pos qual P H':=by
  rcases t with t | ⟨c,t,u⟩
  ·exact .inl (s _ _ t)
  ·exact .inr ⟨c,s _ _ t,s _ _ u⟩
theorem TabOk.but {pos:Pos} {qual:Str} {P p:Addr} {H H':Hp} {xs:List V} (t:TabOk pos qual P H) (hp:H p=some (.lst xs)) (s:But p H H'):TabOk pos qual P H':=by
  rcases t with t | ⟨c,t,u⟩
  ·exact .inl (s _ _ (jg t hp (by simp)) t)
  ·exact .inr ⟨c,s _ _ (jg t hp (by simp)) t,s _ _ (jg u hp (by simp[Qu])) u⟩
theorem qbx {P:Program} {w:World} {H:Hp} {h:Heap} {c':Addr} {qual:Str} (r:h.CodeRec (.ref c') qual):bZ P w H h c' (Qu c' qual):=by
  refine⟨r,?_,λh1 h2 r1 k=>?_⟩
  ·obtain⟨c,o,_,_,e,ho,_⟩:=r;cases e;exact⟨o,ho⟩
  ·obtain⟨c,o,vs,t,e,ho,d⟩:=r1;cases e;exact⟨c',o,vs,t,rfl,k o ho,d⟩
section
variable {P:Program} {w:World} {K:W.Frag} {mg:Str->Option Value} {base:Heap}
theorem qby {A:Around} {outer:List Env} {s:Shared} {H:Hp} {f c':Addr} {name qual:Str} {params:Arguments} {body:Expr} {scope:Scope} {pm ctv:Value} {N ps:List Str} {us:List Value} {vs:List V} {Q:VK} {k:Nat} {t:TE}
    (hr:fQ (k+1) A) (e0:B_ P w K mg base A outer s H) (ho:s.heap.get? f=some (W.kla_obj name qual params body scope [] pm c' ctv)) (hcd:s.heap.CodeRec (.ref c') qual) (S:aO N ps scope)
    (hb:bindArgs (W.kla_fn name qual params body scope [] pm (.ref c') ctv) ⟨us,[]⟩=pure (ps.zip us)) (r:Vals vs us) (hl:vs.length=ps.length)
    (ht:PE (aq ig P w K mg base N qual scope f (.ref c') A outer s H E0) body t) (hq:t (start N vs) H Q) :
    codeAny (model P w) A (.call (.ref f) ⟨us,[]⟩) (CR ig outer P w H s Q E0) s:=by
  have lim:s.heap.NoLimit:=e0.mod.nolimit.keeps λb o e=>(e0.bs b o e).1;have hkind:∀y∈ps.zip us,scope.names.lookup y.1=some .local\/(scope.names.lookup y.1=some .cell/\((cellsFrom (s.heap.objs.size+1) scope.names []).lookup y.1).isSome=true):=λ⟨n,v⟩ hy=>by
    rcases S.par n (List.of_mem_zip hy).1 with q | q
    ·exact .inl q
    ·exact .inr ⟨q,W.cellsFrom_some _ _ _ (.inl q)⟩
  refine W.kla_callFunE hr.depth ho rfl S.co S.gen rfl hcd ?_;rw[hb];refine qlV (wpAny_newFunctionEnv_cells S.kind hkind λenv he s1 x=>?_);subst he;refine⟨lim.keeps x.toInCall.keep,W.kla_codeExpr ?_⟩;have I:Inv (aq ig P w K mg base N qual scope f (.ref c') A outer s H E0) [] (start N vs) H s1:=G3 S hr.hd e0 hl r x;refine qmt (ht [] s1 (start N vs) H _ I hq) (λu s' hs=>?_) λe s' hs=>hs;obtain⟨v,H',J,rv,q⟩:=hs;exact⟨v,H',J.os,J.bare,J.base,J.hok,rv,q⟩
end
section
variable {X:Cx} {p_:List (Addr×Obj)} {σ:St} {H:Hp} {s:Shared}
theorem YT {M:Model} {A:Around} {E:Value->Shared->Prop} {Q:Value->Shared->Prop} {c P:Addr} {pos:Pos} {qual:Str} {params:Arguments} {body:Expr} {scope:Scope} {ln:Nat} (I:Inv X p_ σ H s) (hc:X.env.code = .ref c) (C:W.CodeHd X.base c P) (hb:X.base.BuiltinsAt X.mg P)
    (hT:TabOk pos qual P H) (hcl:closureFor scope X.env=pure [])
    (h:∀f c' pm ctv H' s',Inv X p_ σ H' s'->But P H H'->TabOk pos qual P H'->s'.heap.get? f=some (W.kla_obj "<lambda>" qual params body scope [] pm c' ctv)->s.heap.objs.size<=f->f<s'.heap.objs.size->H' f=none->H' c'=some (Qu c' qual)->Q (.ref f) s') :
    wpAny M A (makeFunction "<lambda>" qual params (.expr body) scope X.env [] [] [] pos ln) Q E s:=by
  have hg:s.heap.Ns mainGlobals X.mg:=I.ok.mod.glob.keeps I.bk;have hbs:s.heap.BuiltinsAt X.mg P:=by
    obtain⟨bm,o,h1,h2,h3,h4,h5,h6⟩:=hb;exact⟨bm,o,h1,h2,h3,h4,I.bk _ _ h5,h6⟩
  have hgP:∀{ps},H P=some (.Aq ps)->mainGlobals≠P:=λhP q=>by
    obtain⟨o,_,_,e,_⟩:=I.ok.mod.glob;have:=(I.bs _ _ e).2;rw[q,hP] at this;cases this
  rcases hT with hP | ⟨c',hP,hc'⟩
  . have gP:s.heap.get? P=some (W.tabObj #[]):=I.hok P _ hP;refine W.kla_makeFunction (mg:=X.mg) hcl I.ok.glob hg hc (C.keeps I.bk) gP trivial rfl (hgP hP) hbs λc' ctv h' tk hx hge hlt hrec htb=>?_;have hps:(#[]:Array Value)++#[rawInt pos.line,rawInt pos.col,.ref c'] = #[rawInt pos.line,rawInt pos.col,.ref c']:=by simp
    rw[hps] at htb;have nP:∀{b:Addr},H b=none->b≠P:=λe z=>by rw[z,hP] at e;cases e
    have nc:∀{b:Addr} {o:Obj},s.heap.get? b=some o->b≠c':=λe=>ql3 (ql5 (qlW e) hge);have nc2:∀{b:Addr} {o:HO},H b=some o->b≠c':=λe=>ql3 (ql5 (I.hok.lt e) hge);have hPc:P≠c':=nc2 hP;have kp:∀b o,b≠P->s.heap.get? b=some o->(h'.push (W.kla_obj "<lambda>" qual params body scope [] ((X.mg "__name__").getD .none) c' ctv)).get? b=some o:=λb o n e=>qlU _ (hx b o n e);have qgL:=qlU (W.kla_obj "<lambda>" qual params body scope [] ((X.mg "__name__").getD .none) c' ctv) htb;have at1:∀{b:Addr},b≠P->b≠c'->upd (upd H P (.Aq #[rawInt pos.line,rawInt pos.col,.ref c'])) c' (Qu c' qual) b=H b:=λn1 n2=>by rw[aB n2,aB n1]
    have atP:upd (upd H P (.Aq #[rawInt pos.line,rawInt pos.col,.ref c'])) c' (Qu c' qual) P=some (.Aq #[rawInt pos.line,rawInt pos.col,.ref c']):=by rw[aB hPc,ak]
    have J:Inv X p_ σ (upd (upd H P (.Aq #[rawInt pos.line,rawInt pos.col,.ref c'])) c' (Qu c' qual)) {s with heap:=h'.push (W.kla_obj "<lambda>" qual params body scope [] ((X.mg "__name__").getD .none) c' ctv),toks:=tk}:=by
      refine I.step (ch:=[]) (by simp) (λb o _ _ _ e n=>kp b o (nP n) e) (λb o _ _ _ e n=>⟨o.slots,kp b o (nP n) e⟩) (λb o _ e n=>?_) (λb o _ e=>?_) (λb xs e=>?_) (λb o u e=>?_) (λb ps e=>?_) (λm hm=>?_) (λb u e=>?_) I.bare
      ·rw[at1 (nP n) (nc e)];exact n
      . by_cases z:b=P
        ·exact⟨_,by rw[z];exact qgL⟩
        ·exact⟨o,kp b o z e⟩
      ·rw[at1 (jg e hP (by simp)) (nc2 e)];exact e
      ·rw[at1 (jg e hP (by simp)) (nc2 e)];exact e
      . by_cases z:b=P
        ·subst z;rw[hP] at e;cases e;exact⟨#[rawInt pos.line,rawInt pos.col,.ref c'],by rw[atP];simp⟩
        ·exact⟨#[],by rw[at1 z (nc2 e),e];simp⟩
      ·exact(hm.extBut hx (λz=>nP I.free z)).push _
      . by_cases z1:b=c'
        ·subst z1;rw[ak] at e;cases e;refine qbx ?_;obtain⟨c,o,vs,t,e,ho,d⟩:=hrec;exact⟨c,o,vs,t,e,qlU _ ho,d⟩
        . by_cases z2:b=P
          ·subst z2;rw[atP] at e;cases e;exact qgL
          . rw[at1 z2 z1] at e;refine(I.hok b u e).stay (λd v hd q=>kp d v ?_ q) (λd q=>by rw[at1 (jg q hP (by simp)) (nc2 q)];exact q) λd xs q=>by rw[at1 (jg q hP (by simp)) (nc2 q)];exact q
            rcases hd with rfl | hd
            ·exact z2
            ·exact jg hd hP (by simp)
    exact h _ c' _ ctv _ _ J (λb o n e=>by rw[at1 n (nc2 e)];exact e) (.inr ⟨c',atP,ak⟩) (ql0 _ rfl) (qmq hge (qnO hlt)) (by show h'.objs.size<(Heap.push h' _).objs.size;rw[qmm];exact qmT _)
      (by rw[at1 (λz=>?_) (qmY hlt)];exact I.hok.fresh (qmq hge (qnO hlt));exact absurd (I.hok.lt hP) (by rw[<- z];exact Nat.not_lt.mpr (qmq hge (qnO hlt)))) ak
  ·have gP:s.heap.get? P=some (W.tabObj #[rawInt pos.line,rawInt pos.col,.ref c']):=I.hok P _ hP;refine W.kla_makeFunctionHit (mg:=X.mg) (cv:=.ref c') hcl I.ok.glob hg hc (C.keeps I.bk) gP (by simp[TriplesOk,rawInt]) (by simp[codeAmong,rawInt]) hbs λctv h' tk hk hsz=>?_;exact h _ c' _ ctv H _ (I.kept λb o e=>qlU _ (hk b o e)) (λb o _ e=>e) (.inr ⟨c',hP,hc'⟩) (ql0 _ rfl) hsz (by show h'.objs.size<(Heap.push h' _).objs.size;rw[qmm];exact qmT _) (I.hok.fresh hsz) hc'
end
section
variable {X:Cx} {p_:List (Addr×Obj)} {σ:St} {H:Hp} {s:Shared}
structure Rec (X:Cx) (p_:List (Addr×Obj)) (H:Hp) (it:Addr):Prop where
  no:H it=none
  loc:it≠X.env.locals
  ab:X.s₀.heap.objs.size<=it
  cel:∀x c,X.env.cells.lookup x=some c->c≠it
  pin:∀p∈X.pn++p_,p.1≠it
theorem Inv.rcd (I:Inv X p_ σ H s) {it:Addr} (h:s.heap.objs.size<=it):Rec X p_ H it where
  no:=I.hok.fresh h
  loc:=qmY (ql5 I.lt h)
  ab:=qmq I.sz h
  cel:=λx c e z=>by
    obtain⟨v,o,ho,_⟩:=I.cell x c e;exact absurd (ql5 (qlW ho) h) (by rw[z];exact qmN _)
  pin:=λp hp z=>by
    have:=qlW (I.pin p hp).1;exact absurd (ql5 this h) (by rw[z];exact qmN _)
theorem Inv.turn {t':Nat} {it:Addr} {h':Heap} (I:Inv X p_ σ H s) (R:Rec X p_ H it) (k:∀b o,b≠it->s.heap.get? b=some o->h'.get? b=some o):Inv X p_ σ H {s with heap:=h',toks:=t'}:=
  I.turned k R.no R.loc (.inr R.ab) R.cel R.pin
def qcF (X:Cx) (p_:List (Addr×Obj)) (σ:St) (H:Hp) (n:Nat) (k:Int) (s:Shared) (u:Value) (s':Shared):Prop:=
  ∃t,u = .int k t/\Inv X p_ σ H s'/\∀b o,n<=b->H b=none->s.heap.get? b=some o->s'.heap.get? b=some o
theorem U8 {l q It S:Addr} {fo:Obj} {as:List Addr} {n:Nat} {R:Result->Shared->Prop} {kw:List (Str×Value)} (kf:Nat->Int) (hh:X.A.handled=none)
    (hl:∀s',Inv X p_ σ H s'->s'.heap.IsList l (as.map Value.ref).toArray) (hlI:l≠It) (hSI:S≠It) (hqI:q≠It) (hqS:q≠S) (nI:n<=It) (nS:n<=S) (nq:n<=q) (RI:Rec X p_ H It) (RS:Rec X p_ H S) (hq:H q=none)
    (turn:∀i a,as[i]? = some a->∀s',Inv X p_ σ H s'->s'.heap.get? q=some fo->wpAny (model X.prog X.w) X.A.in1 (call (.ref q) [.ref a]) (qcF X p_ σ H n (kf i) s') (λ_ _=>False) s')
    (hR:∀i a s',as[i]? = some a->(∀j,j<as.length->kf i<=kf j/\(j<i->kf i<kf j))->Inv X p_ σ H s'->R (.ok (.ret (.ref a))) s') :
    ∀(r j i:Nat) (s:Shared) (a:Addr) (tb:Tok) (c:Nat),as.length - (j+1)=r->j+1<=as.length->Inv X p_ σ H s->s.heap.get? q=some fo->
      s.heap.get? S=some (seqObj "list" #[.ref a,.int (kf i) tb] c)->s.heap.IsListIter It l (j+1)->as[i]? = some a->i<=j->(∀j',j'<=j->kf i<=kf j'/\(j'<i->kf i<kf j'))->
      codeAny (model X.prog X.w) X.A (.builtin "min.loop" ⟨[.ref It,.ref q,.ref S],kw⟩) R s:=by
  have hname:(toString "min" ++toString ".loop" : String) = "min.loop" :=by decide
  have g8:=Walks.list (prog:=X.prog) (w:=X.w) (A:=X.A.in1) hh It l hlI (as.map Value.ref).toArray;have hsz:(as.map Value.ref).toArray.size=as.length:=by simp
  intro r
  induction r with
  | zero=>
    intro j i s a tb c hr hj I hfo gS hit ha hij hbest;have hin:j+1=as.length:=by omega
    refine qmR qnn ?_;rw[qmH qmx _];show wpAny _ X.A.in1 (seqItems? (.ref S) >>= _) _ _ _;refine qlS (qmQ gS rfl ?_);show wpAny _ X.A.in1 (tryCatch (pyNext (.ref It)) _ >>= _) _ _ _;refine qlS (qm5 (g8.done _ _ _ ⟨by rw[hsz,<- hin];exact hit,hl s I⟩ λh' tk' hk'=>?_));have I1:=I.turn (t':=tk') RI (h':=h') λb o nb e=>hk' b o (by simpa using nb) e;have hS':=hk' S _ (by simpa using hSI) gS;have s1:=qmB h' S (Obj.mapSeq λ_=>(#[]:Array Value));show wpAny _ X.A.in1 (updateSeq S (λ_=>#[]) >>= _) _ _ _;refine qlS ?_;refine qm6 hS' rfl (qlS (qnp (qlV ?_)));exact hR i a _ ha (λj' hj'=>hbest j' (by omega)) (I1.turn (t':=tk') RS λb o nb e=>(s1.2 b nb).trans e)
  | succ r ih=>
    intro j i s a tb c hr hj I hfo gS hit ha hij hbest;have hlt:j+1<as.length:=by omega
    refine qmR qnn ?_;rw[qmH qmx _];show wpAny _ X.A.in1 (seqItems? (.ref S) >>= _) _ _ _;refine qlS (qmQ gS rfl ?_);show wpAny _ X.A.in1 (tryCatch (pyNext (.ref It)) _ >>= _) _ _ _;refine qlS (qm5 (g8.item (j+1) _ _ _ (by rw[hsz];exact hlt) ⟨hit,hl s I⟩ λv h' tk' hP hst' hk'=>?_));obtain⟨a2,ha2,hv⟩:∃a2,as[j+1]? = some a2/\Value.ref a2=v:=by simpa using hP
    subst hv;obtain⟨oI',hoI',hoc,hod⟩:=id hst'.1;have I1:=I.turn (t':=tk') RI (h':=h') λb o nb e=>hk' b o (by simpa using nb) e;have gS1:=hk' S _ (by simpa using hSI) gS;have gq1:=hk' q _ (by simpa using hqI) hfo;show wpAny _ X.A.in1 (tryCatch (holding [.ref a2] (call (.ref q) [.ref a2])) _ >>= _) _ _ _;refine qlS (qm5 (qmF (qmt (turn (j+1) a2 ha2 _ I1 gq1) (λx s2 he=>?_) λ_ _ hF=>hF.elim)));obtain⟨t2,rfl,I2,kp⟩:=he;have gS2:=kp S _ nS RS.no gS1;have gI2:=kp It _ nI RI.no hoI';have gq2:=kp q _ nq hq gq1;have hit2:s2.heap.IsListIter It l (j+1+1):=⟨oI',gI2,hoc,hod⟩;show wpAny _ X.A.in1 (tryCatch (holding [.ref a2,.int (kf (j+1)) t2] (richCompare .Lt (.int (kf (j+1)) t2) (.int (kf i) tb) >>= _)) _ >>= _) _ _ _;refine qlS (qm5 (qmF (qlS (CmpOf.ints_lt (prog:=X.prog) (w:=X.w) (A:=X.A.in1) (P:=λi v=>∃t,v = .int (kf i) t) kf (λi v h=>h) (j+1) i _ _ _ _ _ ⟨t2,rfl⟩ ⟨tb,rfl⟩ ?_))));refine qlS (qmF (qmZ ?_));refine qlS (qnp (qlV ?_))
    by_cases hb':kf (j+1)<kf i
    . have s1:=qmB s2.heap S (Obj.mapSeq λ_=>#[.ref a2,.int (kf (j+1)) t2]);obtain⟨c2,hc2⟩:∃c2,(s2.heap.update S (Obj.mapSeq λ_=>#[.ref a2,.int (kf (j+1)) t2])).get? S=some (seqObj "list" #[.ref a2,.int (kf (j+1)) t2] c2):=⟨_,get?_update_seq gS2 λ_=>#[.ref a2,.int (kf (j+1)) t2]⟩;simp only[hb',decide_true,if_true];refine qlS ?_;refine qm6 gS2 rfl (qlS (qnp ?_));rw[hname];refine qlV ⟨qm7 qmx _,ih (j+1) (j+1) _ a2 t2 c2 (by omega) hlt (I2.turn (t':=s2.toks) RS λb o nb e=>(s1.2 b nb).trans e) ((s1.2 q hqS).trans gq2) hc2 ⟨oI',(s1.2 It hSI.symm).trans gI2,hoc,hod⟩ ha2 (qlY _) λj' hj'=>?_⟩
      by_cases e:j'=j+1
      ·subst e;exact⟨Int.le_refl _,λh=>absurd h (qmN _)⟩
      ·have hb1:=(hbest j' (by omega)).1;exact⟨by omega,λ_=>by omega⟩
    . simp only[hb',decide_false,qm3,if_false];refine qlS (qnp ?_);rw[hname];refine qlV ⟨qm7 qmx _,ih (j+1) i _ a tb c (by omega) hlt I2 gq2 gS2 hit2 ha (by omega) λj' hj'=>?_⟩
      by_cases e:j'=j+1
      ·subst e;exact⟨by omega,λ_=>by omega⟩
      ·exact hbest j' (by omega)
theorem YW (a v u:Value):argsOk "min" ⟨[a],[(Str.ofString "key",v),(Str.ofString "default",u)]⟩:=by unfold argsOk;kernel_rfl
theorem YX {Q:Value->Shared->Prop} {l q:Addr} {fo:Obj} {as:List Addr} {n:Nat} (kf:Nat->Int) (hh:X.A.handled=none) (I:Inv X p_ σ H s)
    (hl:aX X.K H l (as.map V.ref)) (hn:n<=s.heap.objs.size) (nq:n<=q) (hq:H q=none) (hfo:s.heap.get? q=some fo)
    (turn:∀i a,as[i]? = some a->∀s',Inv X p_ σ H s'->s'.heap.get? q=some fo->wpAny (model X.prog X.w) X.A.in1 (call (.ref q) [.ref a]) (qcF X p_ σ H n (kf i) s') (λ_ _=>False) s')
    (hQ0:as=[]->∀s',Inv X p_ σ H s'->Q .none s')
    (hQ:∀i a s',as[i]? = some a->(∀j,j<as.length->kf i<=kf j/\(j<i->kf i<kf j))->Inv X p_ σ H s'->Q (.ref a) s') :
    wpAny (model X.prog X.w) X.A (call (.builtin "min") [.ref l] [(Str.ofString "key",.ref q),(Str.ofString "default",.none)]) Q X.xe s:=by
  have hname:(toString "min" ++toString ".loop" : String) = "min.loop" :=by decide
  have refs:∀{bs:List Addr} {its:List Value},Vals (bs.map V.ref) its->its=bs.map Value.ref:=λ{bs}=>by
    induction bs with
    | nil=>intro its r;cases r;rfl
    | cons b bs ih=>intro its r;cases r with | cons x y=>rw[ih y];cases x;rfl
  have hlist:∀s',Inv X p_ σ H s'->s'.heap.IsList l (as.map Value.ref).toArray:=λs' J=>by
    obtain⟨its,rv,pl,_⟩:=J.list hl;rw[<- refs rv];exact pl.isList
  have hls:=hlist _ I;obtain⟨ol,hol,_⟩:=id hls;have hll:l<s.heap.objs.size:=qlW hol;refine kmk_tree PySem.F.kind_min PySem.F.plain_min PySem.F.entry_min (YW _ _ _) ?_;show wpAny _ X.A.in1 (Builtin.Builtins.bindParams "min" ["key", "default"] 0 ⟨[],[(Str.ofString "key",.ref q),(Str.ofString "default",.none)]⟩ >>= _) _ _ s;refine qlS (wpAny_of_eq (show Builtin.Builtins.bindParams "min" ["key", "default"] 0 ⟨[],[(Str.ofString "key",.ref q),(Str.ofString "default",.none)]⟩=pure [some (.ref q),some .none] from rfl) ?_);refine qlS (qlV ?_);refine qlS (qm0 hls ?_);refine qlS (wpAny_newList ?_ (qmK _));rw[hname];generalize hoI:({cls:=.type "list_iterator",data:=.fields #[.ref l,.int 0 0]}:Obj)=oI;have hS:(s.heap.push oI).objs.size=s.heap.objs.size+1:=size_push' ..;have RI:Rec X p_ H s.heap.objs.size:=I.rcd (qlY _);have RS:Rec X p_ H (s.heap.push oI).objs.size:=I.rcd (by rw[hS];exact Nat.le_succ _);have hlI:l≠s.heap.objs.size:=ql3 hll;have hSI:(s.heap.push oI).objs.size≠s.heap.objs.size:=by rw[hS];exact qmY (qmT _)
  have hqs:q<s.heap.objs.size:=qlW hfo;have hqI:q≠s.heap.objs.size:=ql3 hqs;have hqS:q≠(s.heap.push oI).objs.size:=by rw[hS];exact ql3 (qne hqs)
  refine qlV ⟨qm7 qmx _,?_⟩;have IH:∀tk,Inv X p_ σ H {s with heap:=(s.heap.push oI).push (seqObj "list" #[] 0),toks:=tk}:=λtk=>I.kept λb x e=>qlU _ (qlU _ e);have gI:((s.heap.push oI).push (seqObj "list" #[] 0)).get? s.heap.objs.size=some oI:=qlU _ (ql0 _ (by rw[<- hoI];rfl));have gS:((s.heap.push oI).push (seqObj "list" #[] 0)).get? (s.heap.push oI).objs.size=some (seqObj "list" #[] 0):=ql0 _ rfl;have gq:((s.heap.push oI).push (seqObj "list" #[] 0)).get? q=some fo:=qlU _ (qlU _ hfo);have g8:=Walks.list (prog:=X.prog) (w:=X.w) (A:=X.A.in1) hh s.heap.objs.size l hlI (as.map Value.ref).toArray;have hsz:(as.map Value.ref).toArray.size=as.length:=by simp
  refine qmR qnn ?_;rw[qmH qmx _];show wpAny _ X.A.in1 (seqItems? (.ref _) >>= _) _ _ _;refine qlS (qmQ gS rfl ?_);show wpAny _ X.A.in1 (tryCatch (pyNext (.ref s.heap.objs.size)) _ >>= _) _ _ _;have YZ:((s.heap.push oI).push (seqObj "list" #[] 0)).IsListIter s.heap.objs.size l 0:=⟨_,gI,by rw[<- hoI],by rw[<- hoI];rfl⟩;cases has:as with
  | nil=>
    refine qlS (qm5 (g8.done _ _ _ ⟨by rw[hsz,has];exact YZ,hlist _ (IH _)⟩ λh' tk' hk'=>?_));have I1:=(IH s.toks).turn (t':=tk') RI (h':=h') λb o nb e=>hk' b o (by simpa using nb) e;refine qlS (qn2 (qlV ?_));exact hQ0 has _ I1
  | cons a0 as0=>
    have hne:0<as.length:=by rw[has];simp
    have ha0:as[0]? = some a0:=by rw[has];rfl
    refine qlS (qm5 (g8.item 0 _ _ _ (by rw[hsz];exact hne) ⟨YZ,hlist _ (IH _)⟩ λv h' tk' hP hst' hk'=>?_));obtain⟨a2,ha2,hv⟩:∃a2,as[0]? = some a2/\Value.ref a2=v:=by simpa using hP
    subst hv;obtain⟨oI',hoI',hoc,hod⟩:=id hst'.1;have I1:=(IH s.toks).turn (t':=tk') RI (h':=h') λb o nb e=>hk' b o (by simpa using nb) e;have gS1:=hk' _ _ (by simpa using hSI) gS;have gq1:=hk' q _ (by simpa using hqI) gq;show wpAny _ X.A.in1 (tryCatch (holding [.ref a2] (call (.ref q) [.ref a2])) _ >>= _) _ _ _;refine qlS (qm5 (qmF (qmt (turn 0 a2 ha2 _ I1 gq1) (λx s2 he=>?_) λ_ _ hF=>hF.elim)));obtain⟨t2,rfl,I2,kp⟩:=he;have nI:n<=s.heap.objs.size:=hn;have nS:n<=(s.heap.push oI).objs.size:=by rw[hS];exact Nat.le_succ_of_le hn
    have gS2:=kp _ _ nS RS.no gS1;have gI2:=kp _ _ nI RI.no hoI';have gq2:=kp q _ nq hq gq1;have s1:=qmB s2.heap (s.heap.push oI).objs.size (Obj.mapSeq λ_=>#[.ref a2,.int (kf 0) t2]);obtain⟨c2,hc2⟩:∃c2,(s2.heap.update (s.heap.push oI).objs.size (Obj.mapSeq λ_=>#[.ref a2,.int (kf 0) t2])).get? (s.heap.push oI).objs.size=some (seqObj "list" #[.ref a2,.int (kf 0) t2] c2):=⟨_,get?_update_seq gS2 λ_=>#[.ref a2,.int (kf 0) t2]⟩;show wpAny _ X.A.in1 (updateSeq (s.heap.push oI).objs.size (λ_=>#[.ref a2,.int (kf 0) t2]) >>= _) _ _ _;refine qlS ?_;refine qm6 gS2 rfl ?_;rw[hname];refine qlV ⟨qm7 qmx _,U8 kf hh hlist hlI hSI hqI hqS nI nS nq RI RS hq turn hQ _ 0 0 _ a2 t2 c2 rfl hne (I2.turn (t':=s2.toks) RS λb o nb e=>(s1.2 b nb).trans e) ((s1.2 q hqS).trans gq2) hc2 ⟨oI',(s1.2 _ hSI.symm).trans gI2,hoc,hod⟩ ha2 (qlY _) λj' hj'=>?_⟩;have e:j'=0:=by omega
    subst e;exact⟨Int.le_refl _,λh=>absurd h (qmN _)⟩
end
theorem aX.qeA {K:W.Frag} {H H':Hp} {P a:Addr} {xs:List V} {ps:Array Value} (h:aX K H a xs) (hP:H P=some (.Aq ps)) (b:But P H H'):aX K H' a xs:=by
  rcases h with(h | ⟨o,h⟩) | h
  ·exact .inl (.inl (b _ _ (jg h hP (by simp)) h))
  ·exact .inl (.inr ⟨o,b _ _ (jg h hP (by simp)) h⟩)
  ·exact .inr h
theorem dO.qeA {K:W.Frag} {H H':Hp} {P a:Addr} {xs:List V} {ps:Array Value} (h:dO K H a xs) (hP:H P=some (.Aq ps)) (b:But P H H'):dO K H' a xs:=by
  rcases h with(h | ⟨o,h⟩) | h
  ·exact .inl (.inl (b _ _ (jg h hP (by simp)) h))
  ·exact .inl (.inr ⟨o,b _ _ (jg h hP (by simp)) h⟩)
  ·exact .inr h
theorem TabOk.tb {pos:Pos} {qual:Str} {P:Addr} {H:Hp} (t:TabOk pos qual P H):∃ps,H P=some (.Aq ps):=by
  rcases t with t | ⟨c,t,_⟩
  ·exact⟨_,t⟩
  ·exact⟨_,t⟩
abbrev qbz (ap:Pos):Arguments:={posonlyargs:=[],args:=[{arg:= "row",annotation:=none,pos:=ap}],vararg:=none,kwonlyargs:=[],kw_defaults:=[],kwarg:=none,defaults:=[]}
abbrev M6:Scope:={kind:=.function,names:=[(Str.ofString "row",.local)],isGenerator:=false,isCoroutine:=false,more:=[]}
def qcG (K:W.Frag) (pos:Pos) (qual:Str) (P:Addr) (t:TA):TE:=λσ H Q=>t σ H λvs H1=>ar1 vs λx=>isRef x λl=>TabOk pos qual P H1/\∃(as:List Addr) (kf:Nat->Int),aX K H1 l (as.map V.ref)/\
  (∀i a,as[i]? = some a->∃r,dO K H1 a (V.int (kf i)::r))/\(as=[]->∀H2,But P H1 H2->TabOk pos qual P H2->Q .non H2)/\
  ∀i a,as[i]? = some a->(∀j,j<as.length->kf i<=kf j/\(j<i->kf i<kf j))->∀H2,But P H1 H2->TabOk pos qual P H2->Q (.ref a) H2
section
variable {X:Cx}
theorem U9:aO ["row"] ["row"] M6:=⟨rfl,rfl,rfl,by decide,rfl,by decide,by decide⟩
theorem qbA {K:W.Frag} {k:Nat} {c P:Addr} {e:Expr} {t:TA} {p pos lp ap np cp sp kp kp2 dp:Pos} {j j2:Nat} {qual:Str} (hK:X.K=K) (hr:fQ (k+2) X.A) (hc:X.env.code = .ref c) (C:W.CodeHd X.base c P) (hb:X.base.BuiltinsAt X.mg P)
    (hg:Gl X "min") (hm:X.mg "min" = none) (ha:PA X [e] t) (hqu:X.env.qual++ "<lambda>" = qual)
    (he:starEach [e] X.env=[(false,eval e X.env)]:=by rfl) :
    PE X (.Call (.Name "min" p) [e] [⟨some "key",.Lambda (qbz ap) (.Subscript (.Name "row" np) (.Constant (.int 0) j cp) sp) M6 lp,kp⟩,⟨some "default",.Constant .none j2 dp,kp2⟩] pos) (qcG K lp qual P t):=by
  subst hK hqu;intro p_ s σ H Q I h;refine qmS (jh I hg hm boot_min ?_);refine callWith_kw (bY (ha pos p_ s σ H _ I h) λus s1 zz=>?_) (by rw[he];rfl) (by rw[he];rfl);obtain⟨vs,H1,I1,r1,q1⟩:=zz;obtain⟨x,rfl,q2⟩:=ar1.out q1;obtain⟨l,e1,hT,as,kf,hl,hrow,q0,qq⟩:=isRef.out (x:=x) q2;subst e1;obtain⟨u,rfl,ru⟩:=r1.one;obtain rfl:u=Value.ref l:=ru;refine kws_cons (W.kla_eval rfl ?_);refine YT I1 hc C hb hT rfl λf c' pm ctv H2 s2 I2 hB hT2 hf hge hlt hnf hcq=>?_;refine kws_cons (Constant_none (kws_nil ?_));show wpAny _ X.A (call (.builtin "min") [.ref l] [(Str.ofString "key",.ref f),(Str.ofString "default",.none)]) _ _ s2;obtain⟨ps,hP⟩:=hT.tb;have below:∀b∈frs X.stack,b<s1.heap.objs.size:=λb hb=>by
    obtain⟨_,o,ho,_⟩:=I1.stack.mem hb;exact qlW ho
  refine YX kf hr.hd I2 (hl.qeA hP hB) (n:=s1.heap.objs.size) (qmq hge (qnO hlt)) hge hnf hf (λi a hi s3 I3 hf3=>?_) (λh0 s3 I3=>⟨.non,H2,I3,rfl,q0 h0 H2 hB hT2⟩) λi a s3 hi hm3 I3=>⟨.ref a,H2,I3,rfl,qq i a hi hm3 H2 hB hT2⟩;obtain⟨r,hra⟩:=hrow i a hi;have qkj:=hra.qeA hP hB;have run:=qby (Q:=λv H'=>v = .int (kf i)/\H'=H2) (vs:=[.ref a]) (us:=[.ref a]) (N:=["row"]) (ps:=["row"]) (k:=k) hr.in1 I3.env0.in1 hf3 (I3.hok c' _ hcq).1 U9 rfl (.cons rfl .nil) rfl
    (cR (dh (K:=X.K) rfl) (pv 0) aK (λ_ _=>rfl)) ⟨.ref a,rfl,?_⟩
  . refine qnQ (qmV run λr s4 hq=>?_);cases r with
    | error e=>exact hq.elim
    | ok fl=>
      cases fl with
      | next=>exact False.elim hq
      | brk=>exact False.elim hq
      | cont=>exact False.elim hq
      | ret u=>
        have un:Un (frs X.stack) [] H2 H2 s3.heap s4.heap:=by
          obtain⟨v,H',_,_,un,_,_,_,rfl⟩:=hq;exact un
        obtain⟨v,H',I4,rv,rfl,rfl⟩:=I3.after hq;obtain⟨t,rfl⟩:=rv;exact⟨t,rfl,I4,λb o hn hb e=>un.keep b o e hb (λz=>absurd (below b z) (Nat.not_lt.mpr hn)) (by simp)⟩
  ·exact⟨V.int (kf i)::r,.inr qkj,V.int (kf i),by simp[Fl,WW],rfl,rfl⟩
@[simp ↓] theorem qjc (K:W.Frag) (pos:Pos) (qual:Str) (P:Addr) (t:TA) σ H Q:qcG K pos qual P t σ H Q=(t σ H λvs H1=>ar1 vs λx=>isRef x λl=>TabOk pos qual P H1/\∃(as:List Addr) (kf:Nat->Int),aX K H1 l (as.map V.ref)/\
  (∀i a,as[i]? = some a->∃r,dO K H1 a (V.int (kf i)::r))/\(as=[]->∀H2,But P H1 H2->TabOk pos qual P H2->Q .non H2)/\
  ∀i a,as[i]? = some a->(∀j,j<as.length->kf i<=kf j/\(j<i->kf i<kf j))->∀H2,But P H1 H2->TabOk pos qual P H2->Q (.ref a) H2):=rfl
end
section
variable {X:Cx} {p_:List (Addr×Obj)} {σ:St} {H:Hp} {s:Shared}
theorem Sx {h h':Heap} {l S:Addr} {xs:Array Value} (hl:h.IsList l xs) (ne:l≠S) (sb:Heap.SameBut S h h'):h'.IsList l xs:=by
  obtain⟨o,ho,r⟩:=hl;exact⟨o,(sb.2 l ne).trans ho,r⟩
theorem U_ {l It S:Addr} {its:List Value} {R:Result->Shared->Prop} {kw:List (Str×Value)} (kf:Nat->Int) (hh:X.A.handled=none)
    (hkf:∀j v,its[j]? = some v->∃t,v=Value.int (kf j) t) (hlI:l≠It) (hlS:l≠S) (hSI:S≠It) (RI:Rec X p_ H It) (RS:Rec X p_ H S)
    (hR:∀i t s',i<its.length->(∀j,j<its.length->kf i<=kf j)->Inv X p_ σ H s'->R (.ok (.ret (.int (kf i) t))) s') :
    ∀(r j i:Nat) (s:Shared) (tb:Tok) (c:Nat),its.length - (j+1)=r->j+1<=its.length->Inv X p_ σ H s->s.heap.IsList l its.toArray->
      s.heap.get? S=some (seqObj "list" #[.int (kf i) tb,.int (kf i) tb] c)->s.heap.IsListIter It l (j+1)->i<=j->(∀j',j'<=j->kf i<=kf j')->
      codeAny (model X.prog X.w) X.A (.builtin "min.loop" ⟨[.ref It,.none,.ref S],kw⟩) R s:=by
  have hname:(toString "min" ++toString ".loop" : String) = "min.loop" :=by decide
  have g8:=Walks.list (prog:=X.prog) (w:=X.w) (A:=X.A.in1) hh It l hlI its.toArray;have hsz:its.toArray.size=its.length:=by simp
  intro r
  induction r with
  | zero=>
    intro j i s tb c hr hj I hl gS hit hij hbest;have hin:j+1=its.length:=by omega
    refine qmR qnn ?_;rw[qmH qmx _];show wpAny _ X.A.in1 (seqItems? (.ref S) >>= _) _ _ _;refine qlS (qmQ gS rfl ?_);show wpAny _ X.A.in1 (tryCatch (pyNext (.ref It)) _ >>= _) _ _ _;refine qlS (qm5 (g8.done _ _ _ ⟨by rw[hsz,<- hin];exact hit,hl⟩ λh' tk' hk'=>?_));have I1:=I.turn (t':=tk') RI (h':=h') λb o nb e=>hk' b o (by simpa using nb) e;have hS':=hk' S _ (by simpa using hSI) gS;have s1:=qmB h' S (Obj.mapSeq λ_=>(#[]:Array Value));show wpAny _ X.A.in1 (updateSeq S (λ_=>#[]) >>= _) _ _ _;refine qlS ?_;refine qm6 hS' rfl (qlS (qnp (qlV ?_)));exact hR i tb _ (by omega) (λj' hj'=>hbest j' (by omega)) (I1.turn (t':=tk') RS λb o nb e=>(s1.2 b nb).trans e)
  | succ r ih=>
    intro j i s tb c hr hj I hl gS hit hij hbest;have hlt:j+1<its.length:=by omega
    refine qmR qnn ?_;rw[qmH qmx _];show wpAny _ X.A.in1 (seqItems? (.ref S) >>= _) _ _ _;refine qlS (qmQ gS rfl ?_);show wpAny _ X.A.in1 (tryCatch (pyNext (.ref It)) _ >>= _) _ _ _;refine qlS (qm5 (g8.item (j+1) _ _ _ (by rw[hsz];exact hlt) ⟨hit,hl⟩ λv h' tk' hP hst' hk'=>?_));obtain⟨t2,rfl⟩:=hkf (j+1) v (by simpa using hP);obtain⟨oI',hoI',hoc,hod⟩:=id hst'.1;have I1:=I.turn (t':=tk') RI (h':=h') λb o nb e=>hk' b o (by simpa using nb) e;have gS1:=hk' S _ (by simpa using hSI) gS;show wpAny _ X.A.in1 (tryCatch (holding [.int (kf (j+1)) t2,.int (kf (j+1)) t2] (richCompare .Lt (.int (kf (j+1)) t2) (.int (kf i) tb) >>= _)) _ >>= _) _ _ _;refine qlS (qm5 (qmF (qlS (CmpOf.ints_lt (prog:=X.prog) (w:=X.w) (A:=X.A.in1) (P:=λi v=>∃t,v = .int (kf i) t) kf (λi v h=>h) (j+1) i _ _ _ _ _ ⟨t2,rfl⟩ ⟨tb,rfl⟩ ?_))));refine qlS (qmF (qmZ ?_));refine qlS (qnp (qlV ?_))
    by_cases hb':kf (j+1)<kf i
    . have s1:=qmB h' S (Obj.mapSeq λ_=>#[.int (kf (j+1)) t2,.int (kf (j+1)) t2]);obtain⟨c2,hc2⟩:∃c2,(h'.update S (Obj.mapSeq λ_=>#[.int (kf (j+1)) t2,.int (kf (j+1)) t2])).get? S=some (seqObj "list" #[.int (kf (j+1)) t2,.int (kf (j+1)) t2] c2):=⟨_,get?_update_seq gS1 λ_=>#[.int (kf (j+1)) t2,.int (kf (j+1)) t2]⟩;simp only[hb',decide_true,if_true];refine qlS ?_;refine qm6 gS1 rfl (qlS (qnp ?_));rw[hname];refine qlV ⟨qm7 qmx _,ih (j+1) (j+1) _ t2 c2 (by omega) hlt (I1.turn (t':=tk') RS λb o nb e=>(s1.2 b nb).trans e) (Sx hst'.2 hlS s1) hc2 ⟨oI',(s1.2 It hSI.symm).trans hoI',hoc,hod⟩ (qlY _) λj' hj'=>?_⟩
      by_cases e:j'=j+1
      ·subst e;exact Int.le_refl _
      ·have hb1:=hbest j' (by omega);omega
    . simp only[hb',decide_false,qm3,if_false];refine qlS (qnp ?_);rw[hname];refine qlV ⟨qm7 qmx _,ih (j+1) i _ tb c (by omega) hlt I1 hst'.2 gS1 ⟨oI',hoI',hoc,hod⟩ (by omega) λj' hj'=>?_⟩
      by_cases e:j'=j+1
      ·subst e;omega
      ·exact hbest j' (by omega)
theorem Va (a u:Value):argsOk "min" ⟨[a],[(Str.ofString "default",u)]⟩:=by unfold argsOk;kernel_rfl
theorem Y0 {Q:Value->Shared->Prop} {l:Addr} {d:Value} {ns:List Int} (hh:X.A.handled=none) (I:Inv X p_ σ H s) (hl:aX X.K H l (ns.map V.int))
    (hQ0:ns=[]->∀s',Inv X p_ σ H s'->Q d s') (hQ:∀m t s',m∈ns->(∀x∈ns,m<=x)->Inv X p_ σ H s'->Q (.int m t) s') :
    wpAny (model X.prog X.w) X.A (call (.builtin "min") [.ref l] [(Str.ofString "default",d)]) Q X.xe s:=by
  have hname:(toString "min" ++toString ".loop" : String) = "min.loop" :=by decide
  obtain⟨its,rv,pl,_⟩:=I.list hl;have hlen:its.length=ns.length:=by
    have h:∀{xs:List V} {us:List Value},Vals xs us->us.length=xs.length:=λ{xs us} h=>by induction h with | nil=>rfl | cons _ _ ih=>simp[ih]
    simpa using h rv
  have hkf:∀j v,its[j]? = some v->∃t,v=Value.int (ns.getD j 0) t:=by
    have h:∀{ns:List Int} {us:List Value},Vals (ns.map V.int) us->∀j v,us[j]? = some v->∃t,v=Value.int (ns.getD j 0) t:=by
      intro ns
      induction ns with
      | nil=>intro us h;cases h;intro j v hv;simp at hv
      | cons n ns ih=>
        intro us h;cases h with
        | cons x y=>
          intro j v hv;cases j with
          | zero=>
            simp at hv;subst hv;obtain⟨t,rfl⟩:=x;exact⟨t,rfl⟩
          | succ j=>simpa using ih y j v (by simpa using hv)
    exact h rv
  have hls:=pl.isList;obtain⟨ol,hol,_⟩:=id hls;have hll:l<s.heap.objs.size:=qlW hol;refine kmk_tree PySem.F.kind_min PySem.F.plain_min PySem.F.entry_min (Va _ _) ?_;show wpAny _ X.A.in1 (Builtin.Builtins.bindParams "min" ["key", "default"] 0 ⟨[],[(Str.ofString "default",d)]⟩ >>= _) _ _ s;refine qlS (wpAny_of_eq (show Builtin.Builtins.bindParams "min" ["key", "default"] 0 ⟨[],[(Str.ofString "default",d)]⟩=pure [none,some d] from rfl) ?_);refine qlS (qlV ?_);refine qlS (qm0 hls ?_);refine qlS (wpAny_newList ?_ (qmK _));rw[hname];generalize hoI:({cls:=.type "list_iterator",data:=.fields #[.ref l,.int 0 0]}:Obj)=oI;have hS:(s.heap.push oI).objs.size=s.heap.objs.size+1:=size_push' ..;have RI:Rec X p_ H s.heap.objs.size:=I.rcd (qlY _);have RS:Rec X p_ H (s.heap.push oI).objs.size:=I.rcd (by rw[hS];exact Nat.le_succ _);have hlI:l≠s.heap.objs.size:=ql3 hll;have hlS:l≠(s.heap.push oI).objs.size:=by rw[hS];exact ql3 (qne hll)
  have hSI:(s.heap.push oI).objs.size≠s.heap.objs.size:=by rw[hS];exact qmY (qmT _)
  refine qlV ⟨qm7 qmx _,?_⟩;have IH:∀tk,Inv X p_ σ H {s with heap:=(s.heap.push oI).push (seqObj "list" #[] 0),toks:=tk}:=λtk=>I.kept λb x e=>qlU _ (qlU _ e);have gI:((s.heap.push oI).push (seqObj "list" #[] 0)).get? s.heap.objs.size=some oI:=qlU _ (ql0 _ (by rw[<- hoI];rfl));have gS:((s.heap.push oI).push (seqObj "list" #[] 0)).get? (s.heap.push oI).objs.size=some (seqObj "list" #[] 0):=ql0 _ rfl;have hl2:((s.heap.push oI).push (seqObj "list" #[] 0)).IsList l its.toArray:=by
    obtain⟨o,ho,r⟩:=id hls;exact⟨o,qlU _ (qlU _ ho),r⟩
  have g8:=Walks.list (prog:=X.prog) (w:=X.w) (A:=X.A.in1) hh s.heap.objs.size l hlI its.toArray;have hsz:its.toArray.size=its.length:=by simp
  refine qmR qnn ?_;rw[qmH qmx _];show wpAny _ X.A.in1 (seqItems? (.ref _) >>= _) _ _ _;refine qlS (qmQ gS rfl ?_);show wpAny _ X.A.in1 (tryCatch (pyNext (.ref s.heap.objs.size)) _ >>= _) _ _ _;have YZ:((s.heap.push oI).push (seqObj "list" #[] 0)).IsListIter s.heap.objs.size l 0:=⟨_,gI,by rw[<- hoI],by rw[<- hoI];rfl⟩
  by_cases hn0:ns=[]
  . have h0:its.length=0:=by rw[hlen,hn0];rfl
    refine qlS (qm5 (g8.done _ _ _ ⟨by rw[hsz,h0];exact YZ,hl2⟩ λh' tk' hk'=>?_));have I1:=(IH s.toks).turn (t':=tk') RI (h':=h') λb o nb e=>hk' b o (by simpa using nb) e;refine qlS (qn2 (qlV ?_));exact hQ0 hn0 _ I1
  . have hne:0<its.length:=by
      rw[hlen];exact List.length_pos_iff.mpr hn0
    refine qlS (qm5 (g8.item 0 _ _ _ (by rw[hsz];exact hne) ⟨YZ,hl2⟩ λv h' tk' hP hst' hk'=>?_));obtain⟨t2,rfl⟩:=hkf 0 v (by simpa using hP);obtain⟨oI',hoI',hoc,hod⟩:=id hst'.1;have I1:=(IH s.toks).turn (t':=tk') RI (h':=h') λb o nb e=>hk' b o (by simpa using nb) e;have gS1:=hk' _ _ (by simpa using hSI) gS;have s1:=qmB h' (s.heap.push oI).objs.size (Obj.mapSeq λ_=>#[.int (ns.getD 0 0) t2,.int (ns.getD 0 0) t2]);obtain⟨c2,hc2⟩:∃c2,(h'.update (s.heap.push oI).objs.size (Obj.mapSeq λ_=>#[.int (ns.getD 0 0) t2,.int (ns.getD 0 0) t2])).get? (s.heap.push oI).objs.size=some (seqObj "list" #[.int (ns.getD 0 0) t2,.int (ns.getD 0 0) t2] c2):=⟨_,get?_update_seq gS1 λ_=>#[.int (ns.getD 0 0) t2,.int (ns.getD 0 0) t2]⟩;show wpAny _ X.A.in1 (updateSeq (s.heap.push oI).objs.size (λ_=>#[.int (ns.getD 0 0) t2,.int (ns.getD 0 0) t2]) >>= _) _ _ _;refine qlS ?_;refine qm6 gS1 rfl ?_;rw[hname];refine qlV ⟨qm7 qmx _,U_ (λj=>ns.getD j 0) hh hkf hlI hlS hSI RI RS (λi t s' hi hb J=>?_) _ 0 0 _ t2 c2 rfl hne (I1.turn (t':=tk') RS λb o nb e=>(s1.2 b nb).trans e) (Sx hst'.2 hlS s1) hc2 ⟨oI',(s1.2 _ hSI.symm).trans hoI',hoc,hod⟩ (qlY _) λj' hj'=>?_⟩
    ·refine hQ _ t s' (PySem.getD_mem (by omega)) (λx hx=>?_) J;obtain⟨j,hj,rfl⟩:=PySem.mem_getD hx;exact hb j (by omega)
    . have e:j'=0:=by omega
      subst e;exact Int.le_refl _
def qcH (K:W.Frag) (d:Int) (t:TA):TE:=λσ H Q=>t σ H λvs H1=>ar1 vs λx=>isRef x λl=>∃ns:List Int,aX K H1 l (ns.map V.int)/\(ns=[]->Q (.int d) H1)/\∀m,m∈ns->(∀x∈ns,m<=x)->Q (.int m) H1
@[simp ↓] theorem qjd (K:W.Frag) (d:Int) (t:TA) σ H Q:qcH K d t σ H Q=(t σ H λvs H1=>ar1 vs λx=>isRef x λl=>∃ns:List Int,aX K H1 l (ns.map V.int)/\(ns=[]->Q (.int d) H1)/\∀m,m∈ns->(∀x∈ns,m<=x)->Q (.int m) H1):=rfl
theorem qbB {K:W.Frag} {d:Int} {e:Expr} {t:TA} {p pos kp2 dp:Pos} {j2:Nat} (hK:X.K=K) (hc:X.calm=true)
    (hg:Gl X "min") (hm:X.mg "min" = none) (ha:PA X [e] t) (he:starEach [e] X.env=[(false,eval e X.env)]:=by rfl) :
    PE X (.Call (.Name "min" p) [e] [⟨some "default",.Constant (.int d) j2 dp,kp2⟩] pos) (qcH K d t):=by
  subst hK;intro p_ s σ H Q I h;refine qmS (jh I hg hm boot_min ?_);refine callWith_kw (bY (ha pos p_ s σ H _ I h) λus s1 zz=>?_) (by rw[he];rfl) (by rw[he];rfl);obtain⟨vs,H1,I1,r1,q1⟩:=zz;obtain⟨x,rfl,q2⟩:=ar1.out q1;obtain⟨l,e1,ns,hl,q0,qq⟩:=isRef.out (x:=x) q2;subst e1;obtain⟨u,rfl,ru⟩:=r1.one;obtain rfl:u=Value.ref l:=ru;refine kws_cons ?_;refine wpAny_Constant_int (kws_nil ?_);show wpAny _ X.A (call (.builtin "min") [.ref l] [(Str.ofString "default",.int d s1.toks)]) _ _ _;exact Y0 (I1.ok.hd hc) (I1.tok _) hl (λh0 s3 I3=>⟨.int d,H1,I3,⟨_,rfl⟩,q0 h0⟩) λm t s3 h1 h2 I3=>⟨.int m,H1,I3,⟨t,rfl⟩,qq m h1 h2⟩
end
end L2
namespace L2
open PySem
def xK (T:List nH) (h:Str) (wh:List Nat) (R:BR):BR:=T.foldl (λR s=>if s.2.1=h/\¬s.2.2∈R.map (·.1) then R++[(s.2.2,wh++[s.1])] else R) R
def zq (S:List nH) (a:Str):Nat->BR
  | 0=>[(a,[])]
  | n+1=>match (zq S a n)[n]? with
    | some x=>xK S x.1 x.2 (zq S a n)
    | none=>zq S a n
theorem Qv (T:List nH) (s:nH) (h:Str) (wh:List Nat) (R:BR):xK (T++[s]) h wh R=if s.2.1=h/\¬s.2.2∈(xK T h wh R).map (·.1) then xK T h wh R++[(s.2.2,wh++[s.1])] else xK T h wh R:=by
  unfold xK;rw[List.foldl_append];rfl
theorem Vb {S:List nH} {a:Str} {n:Nat} {h:Str} {wh:List Nat} (e:(zq S a n)[n]? = some (h,wh)):zq S a (n+1)=xK S h wh (zq S a n):=by
  show(match (zq S a n)[n]? with | some x=>xK S x.1 x.2 (zq S a n) | none=>zq S a n)=_
  rw[e]
def qkk (S:List nH) (a:Str) (R:BR):Prop:=zq S a R.length=R
def mq (H:Hp) (kvs:List (Key×V)):Prop:=∀kv∈kvs,∀p,kv.2 = .ref p->H p=none
theorem mq.at {H:Hp} {kvs:List (Key×V)} (h:mq H kvs) {k:Key} {p:Addr} (e:kh kvs k=some (.ref p)):H p=none:=by
  unfold kh at e;cases hf:kvs.find? λkv=>decide (kv.1=k) with
  | none=>rw[hf] at e;cases e
  | some kv=>
    rw[hf] at e;exact h kv (List.mem_of_find?_eq_some hf) p (qmp e)
theorem mq.snoc {H:Hp} {kvs:List (Key×V)} (h:mq H kvs) {k:Key} {p:Addr} (hp:H p=none):mq H (kvs++[(k,.ref p)]):=by
  intro kv hkv q hq
  rcases qmh.mp hkv with z | z
  ·exact h kv z q hq
  ·simp at z;subst z;cases hq;exact hp
theorem Ka:∀(ns:List Int) (ps:List (Str×Str)) (k j:Nat) (s:nH),(jl ns ps k)[j]? = some s↔∃n e,ns[j]? = some n/\ps[j]? = some e/\s=(k+j,vI n e,lZ n e)
  | [],ps,k,j,s=>by simp[jl]
  | n::ns,[],k,j,s=>by simp[jl]
  | n::ns,e::ps,k,0,s=>by simp[jl,eq_comm]
  | n::ns,e::ps,k,j+1,s=>by
    rw[jl,qnV,Ka ns ps (k+1) j s];simp only[qnV,show k+1+j=k+(j+1) by omega]
theorem sY {ns:List Int} {ps:List (Str×Str)} {s:nH}:s∈jl ns ps 0↔∃j n e,ns[j]? = some n/\ps[j]? = some e/\s=(j,vI n e,lZ n e):=by
  rw[qnr];constructor
  ·rintro⟨j,h⟩;obtain⟨n,e,h1,h2,h3⟩:=(Ka ns ps 0 j s).mp h;exact⟨j,n,e,h1,h2,by rw[h3,qn1]⟩
  ·rintro⟨j,n,e,h1,h2,h3⟩;exact⟨j,(Ka ns ps 0 j s).mpr ⟨n,e,h1,h2,by rw[h3,qn1]⟩⟩
def qbC (S:List nH) (f:List Str):Prop:=∀s∈S,s.2.1∈f->s.2.2∈f
structure Rch (S:List nH) (x:Str) (f:List Str):Prop where
  st:x∈f
  nd:f.Nodup
  rt:∀y∈f,RT (lR S) x y
structure qkl (S T:List nH) (x:Str) (f0 f:List Str):Prop where
  r0:f0.Nodup
  r:Rch S x f
  sub:∀y∈f0,y∈f
  le:f0.length<=f.length
  md:∀s∈T,s.2.1∈f0->s.2.2∈f
  cl:qbC S f0->f=f0
theorem qkm {m:Nat} (h:1<=m):(0:Int)<m:=by omega
theorem zlt {m b:Nat} {c:Int} (h:m<=b) (hb:(b:Int)<c):(m:Int)<c:=by omega
theorem zlo {f:Int} (h:0<=f) : -4611686018427387904<=f:=by omega
theorem zhi {f c:Int} (h:f<c) (hc:c<=4611686018427387904):f<4611686018427387904:=Int.lt_of_lt_of_le h hc
theorem qkn {f:Nat} : -4611686018427387904<=(f:Int):=by omega
theorem ztn {d:Int} {m b:Nat} (h0:0<=d) (h:d<m) (hb:m<=b):d.toNat+1<=b:=by omega
theorem qko {d:Int} (h:0<=d) (c:Int):c+d=max d 0+c:=by omega
theorem zsz {a b:Nat} (h:a<b) (hb:b<=20):a<sizeLine:=ql5 h (qmq hb (qnT Cu))
theorem qkp {a b:Nat} (h:a<=b) (hb:b<=20):a<=sizeLine:=qmq h (qmq hb (qnT Cu))
theorem z01 {d:Int} (h:0<=d) (h2:d<2):d=0\/d=1:=by omega
theorem z2 {n:Nat} (h:(1:Int)<n):2<=n:=by omega
theorem zk1 {k t:Nat} (h:t<=k):(0:Int)<k - t+1:=by omega
theorem zk2 {k t:Nat} {c:Int} (h:k<=20) (hc:21<c):(k:Int) - t+1<c:=by omega
theorem zk3 {f:Int} {k t p:Nat} (h0:0<=f) (h:f<k - t+1) (e:t=p):p+f.toNat<=k+0:=by omega
theorem zk4 {t p f k i:Nat} (e:t=p) (h:p+f<=k+i) (hi:i<f) (hk:k<=20):t<sizeLine:=by
  have:=qnT Cu;omega
theorem zk5 {p f k i:Nat} (h:p+f<=k+i) (hi:i<f) (hk:k<=20):p<=19:=by omega
theorem zk6 {p f k i:Nat} (h:p+f<=k+i):p+1+f<=k+(i+1):=by omega
theorem zk7 {p f k:Nat} (h:p+f<=k+f):p<=k:=Nat.le_of_add_le_add_right h
theorem qkq {lo i n:Nat} (h:i<n - lo):lo+i<n:=by omega
theorem zn1 {b i:Nat}:0<=((b:Int)+5 * i) % 26:=by omega
theorem zn2 {b i:Nat}:((b:Int)+5 * i) % 26<26:=by omega
theorem zn3 {b i c:Nat} (h:((b:Int)+5 * i) % 26=c):c=(b+5 * i) % 26:=by omega
theorem zn4 {j y:Nat} {e:Int} (h:j<e.toNat) (he:e<4) (hy:y=j):y<sizeLine:=by
  have:=qnT Cu;omega
theorem zn5 {y:Nat} {e:Int} (h:y=e.toNat) (he:e<4):y+y * 0<=16777216:=by omega
theorem zn6 {y:Nat} {e:Int} (h:y=e.toNat) (he:e<4):1+y<=4:=by omega
theorem zn7 {i j w b:Nat} (hi:i<w) (hj:j<w) (hij:i<j) (hw:w<=9) (z:(b+5 * j) % 26=(b+5 * i) % 26):False:=by omega
theorem zn8 {j w:Nat} (h:¬j<w) (h2:j - w=0):j=w:=by omega
theorem zpa (c:Int):0<=if 1000000000000000000<c then c - 1000000000000000000 else 0:=by split <;> omega
theorem zpb (c:Int) (k:Nat):0<=c % 2147483629+977 * (k:Int)+1:=by omega
theorem zpc (c:Int) {k:Nat} (h:k<100):c % 2147483629+977 * (k:Int)+1<4294967296:=by omega
theorem zs1 {s i t p:Nat} (h:s<=2 * i+1) (hi:i<t) (e:t=p) (hp:p<=20):s<sizeLine:=by
  have:60<sizeLine:=by decide
  omega
theorem zs2 {s i:Nat} (h:s<=2 * i+1):s+1<=2 * (i+1):=by omega
theorem zs3 {s t p:Nat} (h:s<=2 * t) (e:t=p) (hp:p<=20):s<=40:=by omega
end L2
namespace L2
open PySem PySem.Spec PyProof.Rows
variable {X:Cx}
@[simp ↓] theorem qkr x y H Q:qgf x y H Q=(isRef x λl=>isInt y λk=>∃xs,H l=some (.lst xs)/\-(2 ^ 63)<=k/\k<2 ^ 63/\xs.length * k.toNat<=sizeLine/\∀p,H p=none->Q (.ref p) (upd H p (.lst (List.replicate k.toNat xs).flatten))):=rfl
theorem qbD:gb X (binaryOp .Mult) qgf:=by
  refine qdA.mono λ{x y H Q} h=>?_;obtain⟨l,rfl,h1⟩:=isRef.out h;obtain⟨k,rfl,xs,h2⟩:=isInt.out h1;exact⟨l,k,xs,rfl,rfl,h2⟩
end L2
namespace L2
open PySem PySem.Spec PyProof.Rows
def M7 (i:Nat) (K:W.Frag) (D1:Addr) (t1:Addr->TS) (Dn:Ends):St->Addr->Option Addr->Hp->Prop:=λσ1 C od H1=>Hz K C/\W.mroIn K C (.ref D1)=some true/\qcE i t1 Dn σ1 C od H1
def qcI (i:Nat) (K:W.Frag) (D1:Addr) (t1:Addr->TS) (tb:(St->Addr->Option Addr->Hp->Prop)->TS):TS:=λDn σ H=>tb (M7 i K D1 t1 Dn) Dn σ H
@[simp ↓] theorem qje i K D1 t1 tb Dn σ H:qcI i K D1 t1 tb Dn σ H=tb (M7 i K D1 t1 Dn) Dn σ H:=rfl
section
variable {X:Cx} {body su1:List Stmt} {b1:Stmt} {i:Nat} {n c1:Str} {np1 hp1 pos:Pos} {D1:Addr} {t1:Addr->TS} {tb:(St->Addr->Option Addr->Hp->Prop)->TS}
theorem qbE (hst:X.stack=X.env::X.outer) (hfr:X.env.frame=some X.env.locals) (hex:X.ex=[]) (hN:X.N.Nodup) (hi:X.N[i]? = some n) (hl:X.env.scope.names.lookup n=some .local)
    (hb:∀R pn xe,Takes X pn xe R->GC (X.tried pn xe) body (tb R)) (hg1:Gl X c1) (hm1:X.mg c1=some (.ref D1)) (cl1:Clause X.K D1)
    (hs1:∀a,GC (X.caught a) (b1::su1) (t1 a)) (qks:(c1 == ("__debug__" : Str))=false:=by decide) :
    PS X (.Try body [.ExceptHandler (some (.Name c1 np1)) (some n) (b1::su1) hp1] [] [] pos) (qcI i X.K D1 t1 tb):=by
  intro p_ s σ H Dn I h;have hiσ:∀{σ':St} {H':Hp} {s':Shared},Inv X p_ σ' H' s'->i<σ'.length:=λJ=>by rw[J.len];exact(qlT.mp hi).1
  refine wpAny_Try_except (qmt (hb (M7 i X.K D1 t1 Dn) (X.pn++p_) (λe s1=>∃a C od T σ1 H1,e = .ref a/\Inv X p_ σ1 H1 s1/\Yx X.s₀.heap s1.heap H1 a C od T/\(∀p∈X.pn++p_,p.1≠a/\p.1≠T)/\M7 i X.K D1 t1 Dn σ1 C od H1) ?_ [] s σ H Dn (I.tried _) h) (λf s1 hf=>?_) λe s1 hx=>?_)
  ·intro BL σ1 H1 s1 a C od T J ex hp hR;exact⟨a,C,od,T,σ1,H1,rfl,I.xJ J,ex,hp,hR⟩
  . cases f with
    | next=>obtain⟨σ',H',J,q⟩:=hf;exact wpAny_execs_nil ⟨σ',H',I.xJ J,q⟩
    | brk=>obtain⟨σ',H',J,q⟩:=hf;exact⟨σ',H',I.xJ J,q⟩
    | cont=>obtain⟨σ',H',J,q⟩:=hf;exact⟨σ',H',I.xJ J,q⟩
    | ret u=>obtain⟨v,σ',H',J,r,q⟩:=hf;exact⟨v,σ',H',I.xJ J,r,q⟩
  . obtain⟨a,C,od,T,σ1,H1,rfl,J,ex,hp,clC,hR⟩:=hx;obtain⟨new,newT,un,unT,oe,vs,oT,tts,t1',t2',t3,t4,t5,t6,t7,t8,t9⟩:=ex;have fr:=J.ok.frames;rw[hst] at fr;have st0:(W.hideAll s1.heap (frs X.stack++[a,T])).StaysIn s1.heap:=λb o e=>W.of_hideAll _ e;have na:(W.hideAll s1.heap (frs X.stack++[a,T])).get? a=none:=qoc _ (by simp);have ff:s1.heap.FunFrames (W.hideAll s1.heap (frs X.stack++[a,T])) (X.env::X.outer):=by
      rw[<- hst];exact W.funFrames_hide J.stack λenv he b hb=>qmC _ (List.mem_filterMap.mpr ⟨env,he,hb⟩)
    have tr0:Trc (W.hideAll s1.heap (frs X.stack++[a,T])) s1.heap a (.ref C,od) .none T:=⟨oe,vs,oT,tts,t1',t2',t3,t4,t5,qoc _ (by simp),t6,t7,t8,t9⟩;have gone:∀(h':Heap),(W.hideAll s1.heap (frs X.stack++[a,T])).StaysIn h'->s1.heap.UpToSlots h'->Inv X p_ σ1 H1 {s1 with heap:=h'}:=λh' k1 k2=>by
      refine J.gone (t':=s1.toks) (ch:=[a,T]) hex (λb hb=>?_) (λb o hf hc e=>k1 b o (W.hideAll_get _ e (by rw[qmh];exact λz=>z.elim hf hc))) λb o e hd=>k2 b o e hd;simp only[ql1,qme,qmX] at hb
      rcases hb with rfl | rfl
      ·exact⟨new,un,λ_ _ _ _=>trivial,⟨oe,vs,t1',t3⟩,λp q=>(hp p q).1⟩
      ·exact⟨newT,unT,λ_ _ _ _=>trivial,⟨oT,tts,t7,t8⟩,λp q=>(hp p q).2⟩
    refine Hx fr ff hfr tr0 st0 na λh4 x4=>?_;obtain⟨T4,tr4⟩:=x4.trc;refine Dd (s:={s1 with heap:=h4}) x4.frames tr4 x4.stays λh5 x5=>?_;obtain⟨T5,tr5⟩:=x5.trc;have J5:=gone h5 x5.stays (x4.slots.trans x5.slots);obtain⟨oe5,vs5,oT5,ts5,u1,u2,u3,_⟩:=id tr5;obtain⟨bm,N,nm,q,bs,hdct,sn,sub,ab,col,dd,k0,k1,k2,k3,k5,hC,hmro⟩:=clC _ J5.pP;obtain⟨bm1,N1,nm1,q1,bs1,qln,sn1,qlF,ab1,qlG,dd1,j0,j1,j2,j3,j5,hD1,qkt⟩:=cl1.ob _ J5.pP;have run:∀{b₀:Stmt} {suite:List Stmt} {hpos:Pos} {ts:Addr->TS},(∀a,GC (X.caught a) (b₀::suite) (ts a))->qcE i ts Dn σ1 C od H1->
        codeAny (model X.prog X.w) (X.A.mark (some (.ref a))) (.handlers (.ref a) [.ExceptHandler none (some n) (b₀::suite) hpos] X.env) (λr s₂=>match r with
          | .ok f=>wpAny (model X.prog X.w) X.A (do bindName X.env n .none;unbindBehindTheSuite X.env n hpos) (λ_ s₃=>SP X p_ Dn f s₃) X.xe s₂
          | .error x=>cameBackBy (model X.prog X.w) X.A X.env X.xe x s₂) {s1 with heap:=h5}:=by
      intro b₀ suite hpos ts hsu hR;refine codeAny_handlers_suite_as ?_;refine Dd (s:={s1 with heap:=h5}) x5.frames tr5 x5.stays λh6 x6=>?_;have J6:=gone h6 x6.stays ((x4.slots.trans x5.slots).trans x6.slots);obtain⟨T6,oe6,vs6,oT6,ts6,v1,v2,v3,v4,_⟩:=x6.trc;have J7:=J6.track hex new un ⟨oe6,vs6,v1,v2,v3,v4⟩ λp q=>(hp p q).1;refine pQ J7 hN hi (.inl hl) (v:=.ref a) rfl (λs8 J8 _=>?_) (.inr hl);refine qmt (hsu a p_ s8 _ _ _ (J8.caught a) (hR a un)) (λf s9 hf=>?_) λ_ _ z=>False.elim z;show wpAny (model X.prog X.w) X.A (do bindName X.env n .none;unbindBehindTheSuite X.env n hpos) (λ_ s₃=>SP X p_ Dn f s₃) X.xe s9
      have go:∀{σ':St} {H':Hp} (Q':Shared->Prop),Inv X p_ σ' H' s9->(∀s',Inv X p_ (σ'.set i none) H' s'->Q' s')->wpAny (model X.prog X.w) X.A (do bindName X.env n .none;unbindBehindTheSuite X.env n hpos) (λ_ s₃=>Q' s₃) X.xe s9:=λ{σ' H'} Q' J9 hq=>by
        refine qlS ?_;unfold bindName;refine qlS (qmF (wpAny_point (qlS (pQ J9 hN hi (.inl hl) (v:=.non) rfl (λz8 J10 _=>wpAny_point ?_) (.inr hl)))));unfold unbindBehindTheSuite;refine wpAny_onRaise (U5 (v:=.non) J10 hN hi hl (qnX (hiσ J9)) λK9 J11=>?_);rw[List.set_set] at J11;exact hq K9 J11
      cases f with
      | next=>obtain⟨σ',H',J9,q⟩:=hf;exact go _ (I.uncaught J9) λs' J'=>⟨_,H',J',q⟩
      | brk=>obtain⟨σ',H',J9,q⟩:=hf;exact go _ (I.uncaught J9) λs' J'=>⟨_,H',J',q⟩
      | cont=>obtain⟨σ',H',J9,q⟩:=hf;exact go _ (I.uncaught J9) λs' J'=>⟨_,H',J',q⟩
      | ret u=>obtain⟨v,σ',H',J9,r,q⟩:=hf;exact go _ (I.uncaught J9) λs' J'=>⟨v,_,H',J',r,q⟩
    obtain⟨hCD,hR⟩:=hR;refine wpAny_handleBy_cons (codeAny_handlers_test (qt (J5.caught a) hg1 hm1 ?_ qks)) (by intro q;cases q);exact Qt hC hD1 u1 (qmr Prod.fst u2) (qkt _ _ cl1.be) (hmro _ _ hCD) (run hs1 hR)
end
structure qcJ (fd:FuncData) (base:Heap) (mg:Str->Option Value) (c P:Addr):Prop where
  cd:fd.code = .ref c
  hd:W.CodeHd base c P
  bt:base.BuiltinsAt mg P
theorem cD.okC {P:Program} {w:World} {K:W.Frag} {mg:Str->Option Value} {base:Heap} {x qual:Str} {st:Stmt} {f c:Addr} {fd:FuncData} {N ps:List Str} {k:Nat} {sp:Sp} (F:cD K x qual st f fd) (hc:fd.code = .ref c) (S:aO N ps (aA st)) (len:∀vs H Q E,sp vs H Q E->vs.length=ps.length)
    (hbody:∀(A:Around) (outer:List Env) (s:Shared) (H:Hp) (vs:List V) (Q:VK) (E:XK),fQ k (A.deeper (envOfC qual (aA st) s.heap.objs.size f (.ref c)))->sp vs H Q E->
      ∃t,GC (aq ig P w K mg base N qual (aA st) f (.ref c) A outer s H E).Ru (gQ st) t/\t {nx:=λ_ H'=>Q .non H',rt:=Q} (jK N vs) H):bN P w K mg base ig (k+1) f fd ps sp:=by
  obtain⟨oc,od,kV,doc,pm,an,cdv,ct,osl,rfl,lk,hcd⟩:=F.ex;obtain rfl:cdv = .ref c:=hc;refine WQ lk hcd S len λA outer s H vs Q E hr hsp=>?_;obtain⟨t,h,q⟩:=hbody A outer s H vs Q E hr hsp;refine⟨t,h.Ru,?_⟩;have hl:=len _ _ _ _ hsp;have hp:ps.length<=N.length:=by have:=qmr List.length S.pre;rw[ql7] at this;omega
  rw[pZ N vs (by omega)] at q;exact q
def qgM (P:Addr) (H:Hp):Prop:=∀b,b≠P->H b=none\/∃o xs,H b=some (.Ld o (.lst xs))
theorem Vc {P:Program} {w:World} {K:W.Frag} {mg mb:Str->Option Value} {CX:Wy} {k:Nat} {fa a c Pt:Addr} {fd:FuncData} {x:Str} {sp:Sp} {s₁:Shared} {vs:List Value} {ns:List Int}
    (KX:K.In s₁.heap) (hns:s₁.heap.Ns mainGlobals mg) (hb:s₁.heap.Ns builtinsNs mb) (hbb:∀x:Str,x≠ "__name__" ->mb x=bootBuiltins x) (hlim:s₁.heap.NoLimit) (hg:s₁.gens = #[])
    (ha:s₁.heap.get? a=some {cls:=.type "list",data:=.seq vs.toArray}) (hi:IntsAre vs ns) (hl:ns.length<=sizeLine) (hr:fQ k callerA)
    (hC:W.CodeHd s₁.heap c Pt) (hPt:s₁.heap.get? Pt=some (W.tabObj #[])) (hKP:K.lookup Pt=none) (hBA:s₁.heap.BuiltinsAt mg Pt)
    (F:∀base:Heap,K.In base->base.Ns mainGlobals mg->W.CodeHd base c Pt->base.BuiltinsAt mg Pt->bN P w K mg base CX k fa fd [x] sp) (hbind:∀(s:Shared) (u:Value),BindsTo s fd ⟨[u],[]⟩ [(x,u)])
    (hsp:∀H:Hp,H Pt=some (.Aq #[])->aX K H a (ns.map V.int)->sp [.ref a] H (λv _=>v = .bl true) λ_ _ _=>False)
    (hCX:∀H e s',CX [] H s₁ (λ_ _ _=>False) e s'->False) :
    codeAny (model P w) callerA (.call (.ref fa) ⟨[.ref a],[]⟩) (λr s'=>r = .ok (.ret (.bool true))/\OldK s₁.heap s'.heap/\s'.os=s₁.os/\AllBare s'.gens) s₁:=by
  have rv:=G4 hi;have lenV:=hi.length;have aP:a≠Pt:=λz=>by rw[z,hPt] at ha;cases ha
  have core:∀H:Hp,qgM Pt H->H Pt=some (.Aq #[])->aX K H a (ns.map V.int)->rW P w H s₁.heap->(∀b,H b≠none->b=a\/b=Pt)->(H a≠none->K.lookup a=none)->
      codeAny (model P w) callerA (.call (.ref fa) ⟨[.ref a],[]⟩) (λr s'=>r = .ok (.ret (.bool true))/\OldK s₁.heap s'.heap/\s'.os=s₁.os/\AllBare s'.gens) s₁:=by
    intro H hO hHP hS hok hA hK;have Bg:∀{b:Addr} {o:Obj},s₁.heap.get? b=some o->H b=none->(BK s₁.heap H).get? b=some o:=λe n=>V9 e n;have noA:∀{b:Addr} {o:Obj},s₁.heap.get? b=some o->(∀its n,o.data≠.seq its n)->o.cls≠.none->H b=none:=λ{b o} e d1 d2=>by
      cases q:H b with
      | none=>rfl
      | some u=>
        rcases hA b (by rw[q];simp) with e' | e'
        ·subst e';rw[ha] at e;cases e;exact absurd rfl (d1 _ _)
        ·subst e';rw[hPt] at e;cases e;exact absurd rfl d2
    have noD:∀{b:Addr} {o:Obj} {es:Array DictEntry} {ep:Nat},s₁.heap.get? b=some o->o.data = .dict es ep->H b=none:=λ{b o es ep} e d=>by
      cases q:H b with
      | none=>rfl
      | some u=>
        rcases hA b (by rw[q];simp) with e' | e'
        ·subst e';rw[ha] at e;cases e;cases d
        ·subst e';rw[hPt] at e;cases e;cases d
    have nsK:∀{b:Addr} {m:Str->Option Value},s₁.heap.Ns b m->(BK s₁.heap H).Ns b m:=λ{b m} ⟨o,es,ep,e,d,r⟩=>⟨o,es,ep,Bg e (noD e d),d,r⟩;have hKb:K.In (BK s₁.heap H):=λb o e=>Bg (KX b o e) (by
      cases q:H b with
      | none=>rfl
      | some u=>
        rcases hA b (by rw[q];simp) with e' | e'
        ·subst e';rw[hK (by rw[q];simp)] at e;cases e
        ·subst e';rw[hKP] at e;cases e)
    have hCb:W.CodeHd (BK s₁.heap H) c Pt:=by
      obtain⟨o,vs',file,tf,flags,tg,inF,text,tt,e1,e2,e3,r⟩:=hC;exact⟨o,vs',file,tf,flags,tg,inF,text,tt,Bg e1 (noA e1 (λ_ _ z=>by rw[e3] at z;cases z) (by rw[e2];simp)),e2,e3,r⟩
    have hBb:(BK s₁.heap H).BuiltinsAt mg Pt:=by
      obtain⟨bm,o,h1,h2,h3,h4,h5,h6,h7,h8⟩:=hBA;exact⟨bm,o,h1,h2,h3,h4,Bg h5 (noA h5 (λ_ _ z=>by rw[h8] at z;cases z) (by rw[h6];simp)),h6,h7,h8⟩
    have hM:Mod K mg (BK s₁.heap H):=⟨hKb,nsK hns,⟨mb,nsK hb,hbb⟩,let ⟨mc,h1,h2⟩:=hlim;⟨mc,nsK h1,h2⟩⟩;have e0:B_ P w K mg (BK s₁.heap H) callerA [] s₁ H:=⟨rfl,hM,λb o e=>qad e,Nat.le_of_eq (TF _ _),trivial,λb hb=>absurd (show b∈([]:List Addr) from hb) (by simp),hok,.of_eq hg⟩;refine qmV ((F _ hKb (nsK hns) hCb hBb).run callerA [] s₁ H ⟨[.ref a],[]⟩ [.ref a] [.ref a] _ _ hr e0 (hbind s₁ (.ref a)) (.cons rfl .nil) (hsp H hHP hS)) λr s' h=>?_;cases r with
    | error e=>exact(hCX H e s' h).elim
    | ok fl=>
      cases fl with
      | next=>exact False.elim h
      | brk=>exact False.elim h
      | cont=>exact False.elim h
      | ret u=>
        obtain⟨v,H',os,bare,un,hok',r',q⟩:=h;have q':v = .bl true:=q;subst q';obtain rfl:u=Value.bool true:=r';have kp:∀b o,b≠Pt->s₁.heap.get? b=some o->s'.heap.get? b=some o:=λb o nb e=>by
          cases q:H b with
          | none=>exact un.keep b o e q (by intro z;exact absurd (show b∈([]:List Addr) from z) (by simp)) (by simp)
          | some u=>
            rcases hO b nb with z | ⟨ob,xs,z⟩
            ·rw[q] at z;cases z
            ·have z2:=un.qm b ob _ z;obtain⟨e1,_⟩:=hok b _ z;obtain⟨e2,_⟩:=hok' b _ z2;rw[e] at e1;cases e1;exact e2
        obtain⟨more,hm⟩:=un.qp Pt _ hHP;have gP:s'.heap.get? Pt=some (W.tabObj (#[]++more)):=hok' Pt _ hm;refine⟨rfl,⟨λb o e=>?_,λb o e=>?_⟩,os,bare⟩
        . by_cases nb:b=Pt
          ·subst nb;rw[hPt] at e;cases e;exact .inr (.inl ⟨(hC.tab hPt).isCodeTable,rfl,#[],more,rfl,gP⟩)
          ·exact .inl (kp b o nb e)
        . by_cases nb:b=Pt
          ·exact⟨_,by rw[nb];exact gP⟩
          ·exact⟨o,kp b o nb e⟩
  cases hk:K.lookup a with
  | some o=>
    have e:=KX a o hk;rw[ha] at e;cases e;refine core (λb=>if b=Pt then some (.Aq #[]) else none) (λb nb=>.inl (if_neg nb)) (if_pos rfl) (.inr ⟨_,vs.toArray,_,hk,rfl,rfl,rfl,by rw[qmf,lenV];exact hl,by simpa using rv⟩) (λb u z=>?_) (λb z=>?_) λz=>absurd (if_neg aP) z
    . by_cases hb:b=Pt
      ·have z':=(if_pos hb).symm.trans z;cases z';subst hb;exact hPt
      ·have z':=(if_neg hb).symm.trans z;cases z'
    . by_cases hb:b=Pt
      ·exact .inr hb
      ·exact absurd (if_neg hb) z
  | none=>
    refine core (λb=>if b=Pt then some (.Aq #[]) else if b=a then some (.Ld {cls:=.type "list",data:=.seq vs.toArray} (.lst (ns.map V.int))) else none) (λb nb=>?_) (if_pos rfl)
      (.inl (.inr ⟨{cls:=.type "list",data:=.seq vs.toArray},(if_neg aP).trans (if_pos rfl)⟩)) (λb u z=>?_) (λb z=>?_) λ_=>hk
    . by_cases hb:b=a
      ·exact .inr ⟨_,_,(if_neg nb).trans (if_pos hb)⟩
      ·exact .inl ((if_neg nb).trans (if_neg hb))
    . by_cases hp:b=Pt
      ·have z':=(if_pos hp).symm.trans z;cases z';subst hp;exact hPt
      . by_cases hb:b=a
        ·have z':=((if_neg hp).trans (if_pos hb)).symm.trans z;cases z';subst hb;exact⟨ha,by rw[ql2];exact hl,vs,_,rv,ha⟩
        ·have z':=((if_neg hp).trans (if_neg hb)).symm.trans z;cases z'
    . by_cases hp:b=Pt
      ·exact .inr hp
      . by_cases hb:b=a
        ·exact .inl hb
        ·exact absurd ((if_neg hp).trans (if_neg hb)) z
theorem Y4 {l:W.OpenLaw} {n k:Nat} {q:Program} {loose:List Str} {XP:(Str->Option Value)->Heap->Prop} {YP:World->Heap->Prop} {d dt:DefRec} {K:Params->W.Frag} {CX:World->Wy} {sp:World->Sp} {x xt:Str} {c Pt:Addr}
    (hn:l.most=some n) (hn2:n<=sizeLine) (hdf:d.params.defaults=[]) (hr:fQ k callerA)
    (hY:∀(w:World) (h:Heap),YP w h->(K w.params).In h)
    (hrec:(recsOf q).find? (λe=>e.name == xt)=some dt) (htab:∀w:World,W.tabIn (K w.params) xt=some (c,Pt)) (hnt:∀w:World,W.noTabs (K w.params)=true)
    (F:∀(w:World) (mg:Str->Option Value) (fa:Addr) (h:Heap),(K w.params).In h->h.Ns mainGlobals mg->mg d.name=some (.ref fa)->
      ∃fd:FuncData,(∀(s:Shared) (u:Value),BindsTo s fd ⟨[u],[]⟩ [(x,u)])/\
        ∀base:Heap,(K w.params).In base->base.Ns mainGlobals mg->W.CodeHd base c Pt->base.BuiltinsAt mg Pt->bN l.prog w (K w.params) mg base (CX w) k fa fd [x] (sp w))
    (hsp:∀(w:World) (H:Hp) (a:Addr) (ns:List Int),ns.length<=n->H Pt=some (.Aq #[])->aX (K w.params) H a (ns.map V.int)->sp w [.ref a] H (λv _=>v = .bl true) λ_ _ _=>False)
    (hCX:∀(w:World) (H:Hp) (s:Shared) (e:Value) (s':Shared),CX w [] H s (λ_ _ _=>False) e s'->False) :
    W.WalkO q loose XP YP l.row.toRowW d [] (λf vs=>PySem.call f vs):=by
  refine Att.Ls hn hdf λw s₀ s₁ mg mb fa o pm cd doc a vs ns G Y ho hd hcd hmg hobj hints hlen hg=>?_;have KX:=hY w _ Y;obtain⟨fd,hb,hF⟩:=F w mg fa _ KX G.T.g hmg;obtain⟨hC,hPt⟩:=W.tab_of G.T KX hrec (htab w);have hKP:(K w.params).lookup Pt=none:=by
    cases e:(K w.params).lookup Pt with
    | none=>rfl
    | some ob=>
      have e1:=KX _ _ e;rw[hPt] at e1;cases e1;have h2:=qmk.mp (hnt w) _ (W.mem_of_lookupK e);exact absurd (show false=true from h2) ql_
  have hBA:s₁.heap.BuiltinsAt mg Pt:=by
    obtain⟨bm,ob,b1,b2,b3,b4,b5,b6⟩:=G.T.bmain;refine⟨bm,ob,b1,b2,λq=>?_,λq=>?_,b3,b4,b5,b6⟩
    ·obtain⟨o',es,ep,e,hd',_⟩:=G.T.g;rw[q,e] at b3;cases b3;rw[hd'] at b6;cases b6
    ·rw[q,hPt] at b3;cases b3;cases b4
  exact Vc KX G.T.g G.T.b G.T.builtins G.T.nolimit hg hobj hints (qmq hlen hn2) hr hC hPt hKP hBA hF hb (λH hO hS=>hsp w H a ns hlen hO hS) λH e s'=>hCX w H s₁ e s'
theorem Y5 {K:W.Frag} {x:Str} {f c P:Addr} {oc oc':Value} {od od':Option Addr} {sl sl':Array (Option Value)} {fd:FuncData} {vs:Array Value} (a:W.nsIn K mainGlobals x=some (some (.ref f))) (l:K.lookup f=some ⟨oc,od,.func fd,sl⟩)
    (e:fd.code = .ref c) (k:K.lookup c=some ⟨oc',od',.fields vs,sl'⟩) (v:vs[11]? = some (.ref P)):W.tabIn K x=some (c,P):=by
  unfold W.tabIn;rw[a];dsimp only;rw[l];dsimp only;rw[e];dsimp only;rw[k];dsimp only;rw[v]
end L2
local macro_rules | `(tactic| rfl') => `(tactic| exact ⟨rfl, by decide +kernel, by decide +kernel, rfl, by decide +kernel, by decide +kernel⟩)
local macro_rules | `(tactic| left) => `(tactic| simp -dsimp [L2.aq,L2.stC,-Bool.exists_bool,-List.map_take,-Prod.forall,-Prod.exists])
local macro_rules | `(tactic| symm) => `(tactic| decide +kernel)
local macro_rules | `(tactic| exists $H, $p, $v, $s:ident, $e:ident, $G:ident, $h) => `(tactic| (have $s : L2.Same $H (L2.upd $H $p $v) := L2.au $h; have $e : L2.upd $H $p $v $p = some $v := L2.ak; generalize L2.upd $H $p $v = $G at $s:ident $e:ident ⊢))
local macro_rules | `(tactic| exists $a, $b) => `(tactic| refine $a $b (fun $(Lean.mkIdent `vs) $(Lean.mkIdent `H) $(Lean.mkIdent `Q) $(Lean.mkIdent `E) $(Lean.mkIdent `h) => ?_) (fun $(Lean.mkIdent `cdv) $(Lean.mkIdent `A) $(Lean.mkIdent `outer) $(Lean.mkIdent `s) $(Lean.mkIdent `H) $(Lean.mkIdent `vs) $(Lean.mkIdent `Q) $(Lean.mkIdent `E) $(Lean.mkIdent `hr) $(Lean.mkIdent `h) => ?_))
local macro_rules | `(tactic| ac_rfl) => `(tactic| exact ⟨rfl, rfl, rfl, by decide +kernel, rfl, by decide +kernel, by decide +kernel⟩)
namespace K75
open PySem L2
def top (i:Nat):Stmt:=PySem.Challenge.pw_pointways_k75_ties_told_twice.main.body.getD i (.Pass ⟨0,0,0,0⟩)
abbrev sZ:Stmt:=inClass (top 7) 0
abbrev zu:Stmt:=top 14
abbrev vP:Stmt:=top 15
abbrev uq:Stmt:=top 16
abbrev mz:Stmt:=top 17
abbrev xM:Stmt:=top 18
abbrev qG:Stmt:=top 19
abbrev qH:Stmt:=inClass (top 20) 0
abbrev qI:Stmt:=inClass (top 20) 1
abbrev vQ:Stmt:=inClass (top 20) 2
abbrev vR:Stmt:=inClass (top 20) 3
abbrev tu:Stmt:=top 21
abbrev jU:Stmt:=top 22
abbrev tD:Stmt:=top 24
abbrev nR:Stmt:=top 25
abbrev vU:Stmt:=top 26
abbrev jV:Stmt:=top 27
abbrev qJ:Stmt:=top 28
abbrev Dh:Stmt:=top 29
abbrev oW:Stmt:=top 31
abbrev qK:Stmt:=top 32
abbrev zx:Stmt:=top 34
abbrev jW:Stmt:=top 35
abbrev iR:Stmt:=top 36
abbrev Di:Stmt:=top 37
abbrev mC:Stmt:=top 38
abbrev xO:Stmt:=top 39
abbrev tE:Stmt:=top 41
abbrev jo:Stmt:=top 42
abbrev mD:Stmt:=top 43
abbrev Dj:Stmt:=top 44
abbrev jX:Stmt:=top 46
abbrev oX:Stmt:=top 47
abbrev qL:Stmt:=top 49
abbrev oY:Stmt:=top 50
abbrev lM:Stmt:=top 53
abbrev gA:Stmt:=top 54
abbrev cN:Stmt:=top 55
abbrev Dk:Stmt:=top 56
abbrev gV:Stmt:=top 57
abbrev jq:Stmt:=top 58
abbrev Y6:Stmt:=top 60
abbrev Qw:Stmt:=top 61
abbrev Bh:Stmt:=top 62
abbrev Kc:Stmt:=top 63
abbrev Y7:Stmt:=top 64
abbrev HF:Stmt:=top 65
abbrev Kd:Stmt:=top 66
abbrev tG:Stmt:=top 67
abbrev mF:Stmt:=top 68
abbrev Bj:Stmt:=top 69
abbrev zy:Stmt:=top 70
abbrev uR:Stmt:=top 71
theorem Ke:aO ["self", "lot"] ["self", "lot"] (aA sZ):=by ac_rfl
theorem Dl:aO ["thing"] ["thing"] (aA zu):=by ac_rfl
theorem M8:aO ["thing"] ["thing"] (aA vP):=by ac_rfl
theorem Qx:aO ["thing"] ["thing"] (aA uq):=by ac_rfl
theorem FT:aO ["thing"] ["thing"] (aA mz):=by ac_rfl
theorem Vd:aO ["thing", "points"] ["thing", "points"] (aA xM):=by ac_rfl
theorem M9:aO ["thing", "points"] ["thing", "points"] (aA qG):=by ac_rfl
theorem M_:aO ["self", "points", "ties"] ["self", "points", "ties"] (aA qH):=by ac_rfl
theorem FW:aO ["self"] ["self"] (aA qI):=by ac_rfl
theorem Nb:aO ["self"] ["self"] (aA vQ):=by ac_rfl
theorem Nf:aO ["self"] ["self"] (aA vR):=by ac_rfl
theorem Kf:aO ["web", "thing"] ["web", "thing"] (aA tu):=by ac_rfl
theorem Dm:aO ["web", "thing"] ["web", "thing"] (aA jU):=by ac_rfl
theorem HJ:aO ["web", "points", "lot"] ["web", "points"] (aA tD):=by ac_rfl
theorem mG:aO ["points", "parts", "point"] ["points"] (aA nR):=by ac_rfl
theorem Ng:aO ["web"] ["web"] (aA vU):=by ac_rfl
theorem Dq:aO ["web", "part"] ["web", "part"] (aA jV):=by ac_rfl
theorem tH:aO ["web", "lot", "inside", "ties"] ["web", "lot"] (aA qJ):=by ac_rfl
theorem Ve:aO ["web", "lot"] ["web", "lot"] (aA Dh):=by ac_rfl
theorem gB:aO ["web", "fixed", "steps", "number", "first", "second"] ["web", "fixed"] (aA oW):=by ac_rfl
theorem cO:aO ["start", "steps", "ways", "row", "at", "here", "number", "origin", "goal"] ["start", "steps"] (aA qK):=by ac_rfl
theorem Qy:aO ["thing"] ["thing"] (aA zx):=by ac_rfl
theorem Dr:aO ["web", "thing"] ["web", "thing"] (aA jW):=by ac_rfl
theorem uM:aO ["web", "thing"] ["web", "thing"] (aA iR):=by ac_rfl
theorem Vf:aO ["web", "pointing"] ["web", "pointing"] (aA Di):=by ac_rfl
theorem FZ:aO ["steps", "lot"] ["steps", "lot"] (aA mC):=by ac_rfl
theorem Vg:aO ["web", "pointing", "numbers"] ["web", "pointing", "numbers"] (aA xO):=by ac_rfl
theorem HN:aO ["web", "pointing", "goals"] ["web", "pointing"] (aA tE):=by ac_rfl
theorem rM:aO ["web", "points"] ["web"] (aA jo):=by ac_rfl
theorem oZ:aO ["weighed", "ins", "k", "places", "many"] ["weighed", "ins", "k"] (aA mD):=by ac_rfl
theorem Bk:aO ["web", "ins", "wanted", "rows", "lacking", "spare"] ["web", "ins", "wanted"] (aA Dj):=by ac_rfl
theorem Ds:aO ["web", "thing"] ["web", "thing"] (aA jX):=by ac_rfl
theorem jr:aO ["steps", "starts", "ends", "start", "ways", "end"] ["steps", "starts", "ends"] (aA oX):=by ac_rfl
theorem Ga:aO ["web", "steps", "lacking", "spare", "points"] ["web", "steps", "lacking", "spare"] (aA qL):=by ac_rfl
theorem cA:aO ["web", "ins", "pointing", "lacking", "spare", "steps", "numbers"] ["web", "ins"] (aA oY):=by ac_rfl
theorem zA:aO ["thing", "least"] ["thing", "least"] (aA lM):=by ac_rfl
theorem jF:aO ["web", "k", "lot"] ["web", "k"] (aA gA):=by ac_rfl
theorem o9:aO ["web", "pointing", "steps", "counted"] ["web", "pointing"] (aA cN):=by ac_rfl
theorem Vh:aO ["many"] ["many"] (aA Dk):=by ac_rfl
theorem iz:aO ["web", "ends", "rows", "point"] ["web"] (aA gV):=by ac_rfl
theorem lN:aO ["web", "k", "weighed", "good"] ["web", "k"] (aA jq):=by ac_rfl
theorem Y8:aO ["_law_script", "_law_k", "_law_cell"] ["_law_script", "_law_k"] (aA Y6):=by ac_rfl
theorem Sy:aO ["_law_pot_here", "_law_many", "_law_digit"] ["_law_pot_here", "_law_many"] (aA Qw):=by ac_rfl
theorem mV:aO ["_law_pot_here", "_law_many", "_law_letters", "_law_begin", "_law_found", "_law_k", "_law_size", "_law_more"] ["_law_pot_here", "_law_many"] (aA Bh):=by ac_rfl
theorem Dt:aO ["_law_pot_here", "_law_things", "_law_found", "_law_thing"] ["_law_pot_here", "_law_things"] (aA Kc):=by ac_rfl
theorem Qz:aO ["_law_pot_here", "_law_names_here", "_law_a", "_law_b"] ["_law_pot_here", "_law_names_here"] (aA Y7):=by ac_rfl
theorem qM:aO ["_law_pot_here", "_law_points", "_law_most", "_law_names_here", "_law_kind", "_law_ties", "_law_row", "_law_k", "_law_turns"] ["_law_pot_here", "_law_points", "_law_most"] (aA HF):=by ac_rfl
theorem Kg:aO ["_law_names_here", "_law_found", "_law_mask"] ["_law_names_here"] (aA Kd):=by ac_rfl
theorem Vi:aO ["_law_web_here", "_law_lot"] ["_law_web_here", "_law_lot"] (aA tG):=by ac_rfl
theorem Gb:aO ["_law_web_here", "_law_lot"] ["_law_web_here", "_law_lot"] (aA mF):=by ac_rfl
theorem Y9:aO ["_law_web_here"] ["_law_web_here"] (aA Bj):=by ac_rfl
theorem qN:aO ["_law_web_here", "_law_made", "_law_k", "_law_lot", "e"] ["_law_web_here", "_law_made", "_law_k"] (aA zy):=by ac_rfl
theorem vV:aO ["_law_script", "_law_at", "_law_pot_here", "_law_web_here", "_law_least_here", "_law_ties", "_law_made"] ["_law_script"] (aA uR):=by ac_rfl
set_option genInjectivity false in
structure Adr where
  d8:Addr
  mH:FuncData
  gW:Addr
  mW:FuncData
  gC:Addr
  nU:FuncData
  iY:Addr
  qO:FuncData
  d9:Addr
  jY:FuncData
  kJ:Addr
  ur:FuncData
  gD:Addr
  nW:FuncData
  fJ:Addr
  nY:FuncData
  cW:Addr
  jZ:FuncData
  fK:Addr
  nZ:FuncData
  fL:Addr
  n6:FuncData
  fC:Addr
  mJ:FuncData
  dj:Addr
  jt:FuncData
  kO:Addr
  uw:FuncData
  fD:Addr
  mK:FuncData
  gF:Addr
  n_:FuncData
  dw:Addr
  ju:FuncData
  gG:Addr
  oh:FuncData
  kW:Addr
  ux:FuncData
  dz:Addr
  jw:FuncData
  eE:Addr
  j4:FuncData
  iZ:Addr
  qP:FuncData
  dB:Addr
  jx:FuncData
  bQ:Addr
  fu:FuncData
  kY:Addr
  uy:FuncData
  eF:Addr
  j6:FuncData
  kZ:Addr
  uz:FuncData
  k_:Addr
  uD:FuncData
  cP:Addr
  iG:FuncData
  eG:Addr
  j7:FuncData
  tK:Addr
  Bl:FuncData
  dD:Addr
  jy:FuncData
  dF:Addr
  jz:FuncData
  eN:Addr
  j8:FuncData
  dG:Addr
  jA:FuncData
  cF:Addr
  gY:FuncData
  bF:Addr
  dN:FuncData
  cX:Addr
  fX:FuncData
  lg:Addr
  uE:FuncData
  eO:Addr
  j9:FuncData
  cQ:Addr
  iH:FuncData
  Aa:Addr
  Kh:FuncData
  tM:Addr
  Bm:FuncData
  ou:Addr
  xP:FuncData
  oA:Addr
  xQ:FuncData
  Ab:Addr
  Kl:FuncData
  Ac:Addr
  Km:FuncData
  tO:Addr
  Bo:FuncData
  lq:Addr
  uF:FuncData
  eU:Addr
  j_:FuncData
  oE:Addr
  xR:FuncData
  i_:Addr
  qQ:FuncData
  Ad:Addr
  Ko:FuncData
  jN:Value
  dM:Value
  eZ:Value
  gH:Value
  fM:Value
  bD:Addr
  aY:Addr
  bR:Addr
def qku (a:Adr):List Addr:=[a.bR]
structure Txt (K:W.Frag) (mg:Str->Option Value) (a:Adr):Prop where
  Ae:cD K "__init__" "Thin.__init__" sZ a.d8 a.mH
  Af:Binds K a.mH ["self", "lot"] []
  fY:cD K "is_list" "is_list" zu a.gW a.mW
  jc:Binds K a.mW ["thing"] []
  jd:mg "is_list" = some (.ref a.gW)
  jO:cD K "is_whole" "is_whole" vP a.gC a.nU
  mX:Binds K a.nU ["thing"] []
  mY:mg "is_whole" = some (.ref a.gC)
  qg:cD K "is_name" "is_name" uq a.iY a.qO
  uG:Binds K a.qO ["thing"] []
  uH:mg "is_name" = some (.ref a.iY)
  qR:cD K "are_points" "are_points" mz a.d9 a.jY
  xT:Binds K a.jY ["thing"] []
  xU:mg "are_points" = some (.ref a.d9)
  Du:cD K "is_tie" "is_tie" xM a.kJ a.ur
  Nh:Binds K a.ur ["thing", "points"] []
  Ni:mg "is_tie" = some (.ref a.kJ)
  vW:cD K "are_ties" "are_ties" qG a.gD a.nW
  Dv:Binds K a.nW ["thing", "points"] []
  Dw:mg "are_ties" = some (.ref a.gD)
  Dy:cD K "__init__" "Web.__init__" qH a.fJ a.nY
  Dz:Binds K a.nY ["self", "points", "ties"] []
  xV:cD K "points" "Web.points" qI a.cW a.jZ
  cY:Binds K a.jZ ["self"] []
  DG:cD K "ties" "Web.ties" vQ a.fK a.nZ
  mZ:Binds K a.nZ ["self"] []
  DK:cD K "many" "Web.many" vR a.fL a.n6
  m5:Binds K a.n6 ["self"] []
  tQ:cD K "is_number" "is_number" tu a.fC a.mJ
  Ag:Binds K a.mJ ["web", "thing"] []
  Ah:mg "is_number" = some (.ref a.fC)
  o_:cD K "are_numbers" "are_numbers" jU a.dj a.jt
  uT:Binds K a.jt ["web", "thing"] []
  uU:mg "are_numbers" = some (.ref a.dj)
  xW:cD K "lot_of" "lot_of" tD a.kO a.uw
  DN:Binds K a.uw ["web", "points"] []
  DP:mg "lot_of" = some (.ref a.kO)
  tU:cD K "all_parts" "all_parts" nR a.fD a.mK
  Ai:Binds K a.mK ["points"] []
  Aj:mg "all_parts" = some (.ref a.fD)
  m6:cD K "all_lots" "all_lots" vU a.gF a.n_
  qT:Binds K a.n_ ["web"] []
  qU:mg "all_lots" = some (.ref a.gF)
  pq:cD K "ties_inside" "ties_inside" jV a.dw a.ju
  uV:Binds K a.ju ["web", "part"] []
  uW:mg "ties_inside" = some (.ref a.dw)
  vX:cD K "crossing" "crossing" qJ a.gG a.oh
  DQ:Binds K a.oh ["web", "lot"] []
  DR:mg "crossing" = some (.ref a.gG)
  DW:cD K "within" "within" Dh a.kW a.ux
  Nj:Binds K a.ux ["web", "lot"] []
  Nk:mg "within" = some (.ref a.kW)
  pA:cD K "steps_along" "steps_along" oW a.dz a.jw
  uZ:Binds K a.jw ["web", "fixed"] []
  u0:mg "steps_along" = some (.ref a.dz)
  qW:cD K "ways_along" "ways_along" qK a.eE a.j4
  xX:Binds K a.j4 ["start", "steps"] []
  xY:mg "ways_along" = some (.ref a.eE)
  zB:cD K "is_lead" "is_lead" zx a.iZ a.qP
  HS:Binds K a.qP ["thing"] []
  HW:mg "is_lead" = some (.ref a.iZ)
  pB:cD K "is_pointing" "is_pointing" jW a.dB a.jx
  u5:Binds K a.jx ["web", "thing"] []
  u6:mg "is_pointing" = some (.ref a.dB)
  fO:cD K "sure_of_pointing" "sure_of_pointing" iR a.bQ a.fu
  iT:Binds K a.fu ["web", "thing"] []
  iU:mg "sure_of_pointing" = some (.ref a.bQ)
  tV:cD K "arrows" "arrows" Di a.kY a.uy
  xZ:Binds K a.uy ["web", "pointing"] []
  yc:mg "arrows" = some (.ref a.kY)
  qX:cD K "steps_into" "steps_into" mC a.eF a.j6
  yd:Binds K a.j6 ["steps", "lot"] []
  yg:mg "steps_into" = some (.ref a.eF)
  DX:cD K "turned" "turned" xO a.kZ a.uz
  Np:Binds K a.uz ["web", "pointing", "numbers"] []
  Nq:mg "turned" = some (.ref a.kZ)
  yh:cD K "ins_of" "ins_of" tE a.k_ a.uD
  DY:Binds K a.uD ["web", "pointing"] []
  D_:mg "ins_of" = some (.ref a.k_)
  m7:cD K "weighed_lots" "weighed_lots" jo a.cP a.iG
  tW:Binds K a.iG ["web"] []
  tX:mg "weighed_lots" = some (.ref a.cP)
  qY:cD K "is_over_by" "is_over_by" mD a.eG a.j7
  yj:Binds K a.j7 ["weighed", "ins", "k"] []
  yp:mg "is_over_by" = some (.ref a.eG)
  Kp:cD K "gaps" "gaps" Dj a.tK a.Bl
  QB:Binds K a.Bl ["web", "ins", "wanted"] []
  QC:mg "gaps" = some (.ref a.tK)
  pC:cD K "sure_of_ins" "sure_of_ins" jX a.dD a.jy
  u9:Binds K a.jy ["web", "thing"] []
  u_:mg "sure_of_ins" = some (.ref a.dD)
  pF:cD K "way_between" "way_between" oX a.dF a.jz
  vd:Binds K a.jz ["steps", "starts", "ends"] []
  vf:mg "way_between" = some (.ref a.dF)
  qZ:cD K "refuse_ins" "refuse_ins" qL a.eN a.j8
  yq:Binds K a.j8 ["web", "steps", "lacking", "spare"] []
  yr:mg "refuse_ins" = some (.ref a.eN)
  pG:cD K "pointing_of" "pointing_of" oY a.dG a.jA
  vg:Binds K a.jA ["web", "ins"] []
  vh:mg "pointing_of" = some (.ref a.dG)
  lO:cD K "sure_of_times" "sure_of_times" lM a.cF a.gY
  rN:Binds K a.gY ["thing", "least"] []
  rO:mg "sure_of_times" = some (.ref a.cF)
  gJ:cD K "sure_of_thick_lots" "sure_of_thick_lots" gA a.bF a.dN
  lu:Binds K a.dN ["web", "k"] []
  lA:mg "sure_of_thick_lots" = some (.ref a.bF)
  q_:cD K "times_over" "times_over" cN a.cX a.fX
  yt:Binds K a.fX ["web", "pointing"] []
  yu:mg "times_over" = some (.ref a.cX)
  Ea:cD K "halves" "halves" Dk a.lg a.uE
  Nr:Binds K a.uE ["many"] []
  Nt:mg "halves" = some (.ref a.lg)
  rm:cD K "halved_ins" "halved_ins" gV a.eO a.j9
  yx:Binds K a.j9 ["web"] []
  yC:mg "halved_ins" = some (.ref a.eO)
  jB:cD K "pointed_over" "pointed_over" jq a.cQ a.iH
  m8:Binds K a.iH ["web", "k"] []
  m9:mg "pointed_over" = some (.ref a.cQ)
  Y_:cD K "_law_pot" "_law_pot" Y6 a.Aa a.Kh
  qcK:Binds K a.Kh ["_law_script", "_law_k"] []
  qcL:mg "_law_pot" = some (.ref a.Aa)
  jC:cD K "_law_take" "_law_take" Qw a.tM a.Bm
  jP:Binds K a.Bm ["_law_pot_here", "_law_many"] []
  jQ:mg "_law_take" = some (.ref a.tM)
  Kq:cD K "_law_names" "_law_names" Bh a.ou a.xP
  SJ:Binds K a.xP ["_law_pot_here", "_law_many"] []
  SM:mg "_law_names" = some (.ref a.ou)
  yD:cD K "_law_mixed" "_law_mixed" Kc a.oA a.xQ
  Bp:Binds K a.xQ ["_law_pot_here", "_law_things"] []
  Bq:mg "_law_mixed" = some (.ref a.oA)
  Za:cD K "_law_tie" "_law_tie" Y7 a.Ab a.Kl
  qcM:Binds K a.Kl ["_law_pot_here", "_law_names_here"] []
  qcN:mg "_law_tie" = some (.ref a.Ab)
  Zb:cD K "_law_web" "_law_web" HF a.Ac a.Km
  qcO:Binds K a.Km ["_law_pot_here", "_law_points", "_law_most"] []
  qcP:mg "_law_web" = some (.ref a.Ac)
  QD:cD K "_law_lots" "_law_lots" Kd a.tO a.Bo
  Zc:Binds K a.Bo ["_law_names_here"] []
  Zd:mg "_law_lots" = some (.ref a.tO)
  Eb:cD K "_law_is_lot" "_law_is_lot" tG a.lq a.uF
  Nu:Binds K a.uF ["_law_web_here", "_law_lot"] []
  Nv:mg "_law_is_lot" = some (.ref a.lq)
  mL:cD K "_law_crossing" "_law_crossing" mF a.eU a.j_
  rA:Binds K a.j_ ["_law_web_here", "_law_lot"] []
  rB:mg "_law_crossing" = some (.ref a.eU)
  Kr:cD K "_law_least" "_law_least" Bj a.oE a.xR
  SN:Binds K a.xR ["_law_web_here"] []
  SQ:mg "_law_least" = some (.ref a.oE)
  zE:cD K "_law_refused" "_law_refused" zy a.i_ a.qQ
  HX:Binds K a.qQ ["_law_web_here", "_law_made", "_law_k"] []
  HY:mg "_law_refused" = some (.ref a.i_)
  qcQ:cD K "law" "law" uR a.Ad a.Ko
  qgN:Binds K a.Ko ["_law_script"] []
  qgO:mg "law" = some (.ref a.Ad)
  H_:mg "LETTERS" = some a.jN
  Ia:RelV (.str "abcdefghijklmnopqrstuvwxyz") a.jN
  tY:mg "MOST_LETTERS" = some a.dM
  tZ:RelV (.int 4) a.dM
  vm:mg "MOST_POINTS" = some a.eZ
  vo:RelV (.int 9) a.eZ
  Ak:mg "MOST_TIES" = some a.gH
  Al:RelV (.int 20) a.gH
  yE:mg "MOST_TIMES" = some a.fM
  yF:RelV (.int 9) a.fM
  qcR:mg "Web" = some (.ref a.bD)
  g_:Cls K a.bD
  Ks:lE K a.bD "names"
  Br:lE K a.bD "pairs"
  qcS:Mk K a.bD a.fJ
  cZ:Meth K a.bD "points" a.cW
  m_:Meth K a.bD "ties" a.fK
  ni:Meth K a.bD "many" a.fL
  yG:mg "PointError" = some (.ref a.aY)
  QF:mg "Thin" = some (.ref a.bR)
  gZ:YB K a.aY
  yH:XC K a.bR a.aY
  ib:W.isClsIn K a.aY=true
  tb:W.typeIn K (.ref a.aY)=some (.type "type")
  ini:qgF K a.aY
  Ny:W.specialIn K (.builtin "object.__class__") "__get__" = some (some (.builtin "getset_descriptor.__get__"))
  Nz:W.takesIn K (.builtin "object.__class__")=some true
  nd:(a.aY::qku a).Nodup
  jD:mg "ValueError" = none
  yI:XMk K a.bR a.aY a.d8
  SX:Df K a.bR a.aY
  gK:W.findIn K (.ref a.bR) "lot" = some none
  nm:Nm mg
  nm2:Nm2 mg
  nm3:Nm3 mg
end K75
namespace K75
open PySem L2
variable {P:Program} {w:World} {K:W.Frag} {mg:Str->Option Value} {base:Heap} {a:Adr}
def jG (H:Hp) (p:Addr):Prop:=∃x y:Int,H p=some (.lst [.int x,.int y])/\0<=x/\0<=y/\y<4294967296
def qeB (K:W.Frag):Sp:=λvs H Q _=>∃(l:Addr) (ns:List Int) (k:Nat),vs=[.ref l,.int k]/\aX K H l (ns.map V.int)/\k<100/\∀p H',H p=none->jG H' p->But p H H'->Q (.ref p) H'
def qbF:Sp:=λvs H Q _=>∃(p:Addr) (m:Int),vs=[.ref p,.int m]/\jG H p/\0<m/\m<1000000/\∀(d:Int) H',0<=d->d<m->jG H' p->But p H H'->Q (.int d) H'
theorem qeC (T:Txt K mg a):bN P w K mg base ig 1 a.Aa a.Kh ["_law_script", "_law_k"] (qeB K):=by
  exists T.Y_.lK,Y8
  ·obtain⟨l,ns,k,rfl,_⟩:=h;rfl
  . obtain⟨l,ns,k,rfl,hS,hk,q⟩:=h;refine⟨_,(aC (bC (i:=2) Y8.nd rfl (Or.inl rfl) (BX (bh oV (aH 1) (aM (bO (K:=K) rfl) rfl T.nm.len ql8 (aj (aH 0) ao)) (bK _)) (cR (dh (K:=K) rfl) (aH 0) (aH 1) (λ_ _=>rfl)) aK))
      (aD (aZ (dX (aj (aM (CW rfl) rfl T.nm.max boot_max (aj aK (aj (bT nM (aM Hr rfl T.nm.abs boot_abs (aj (aH 2) ao)) (bT qa3 aK aK)) ao))) (aj (bT jm (bT jm (bT qD (aM Hr rfl T.nm.abs boot_abs (aj (aH 2) ao)) aK) (bT xG aK (aH 1))) aK) ao)))))),?_⟩
    have fin:∀(x y:Int),0<=x->0<=y->y<4294967296->∀p:Addr,H p=none->Q (.ref p) (upd H p (.lst [.int x,.int y])):=λx y h1 h2 h3 p hp=>
      q p _ hp ⟨x,y,ak,h1,h2,h3⟩ λb o hb e=>by rw[aB hb];exact e
    left;refine⟨_,.inl hS,fj.of (λh=>?_) (λh=>?_)⟩
    . have hlt:k<ns.length:=by simpa using h
      left;refine⟨_,.inl hS,.int (ns[k]'hlt),bH (by simp[hlt]),?_⟩;left;exact fin _ _ (zpa _) (zpb _ _) (zpc _ hk)
    ·left;exact fin _ _ (by first | omega | (split <;> omega)) (by omega) (by omega)
theorem iI (T:Txt K mg a):bN P w K mg base ig 1 a.tM a.Bm ["_law_pot_here", "_law_many"] qbF:=by
  exists T.jC.lK,Sy
  ·obtain⟨p,m,rfl,_⟩:=h;rfl
  . obtain⟨p,m,rfl,⟨x,y,hp,hx,hy,hy2⟩,hm,hm2,q⟩:=h;refine⟨_,(aC (dJ (bh sX (cR (dh (K:=K) rfl) (aH 0) aK (λ_ _=>rfl)) aK (bK _)) (aC (Ip (aM JM rfl T.nm.divmod boot_divmod (aj (cR (dh (K:=K) rfl) (aH 0) aK (λ_ _=>rfl)) (aj (aH 1) ao))) (PG.eqv (cI (K:=K) (n:=2) rfl rfl (fP.eqv (aU (Wi (aH 0) aK Hu) (fP.eqv (aU (aJ (i:=2) Sy.nd rfl (Or.inl rfl)) (fP.mono cH eY)) (aV _ _))) (aV _ _))) (cM _ _ _)))
      (aD (aZ (aH 2)))) bG)
      (aC (Ip (bT qD (bT jm (bT xG (cR (dh (K:=K) rfl) (aH 0) aK (λ_ _=>rfl)) aK) aK) aK) (Wi (aH 0) aK Hu))
      (aD (aZ (bT qD (bT xH (bT qD (bT xG (cR (dh (K:=K) rfl) (aH 0) aK (λ_ _=>rfl)) (cR (dh (K:=K) rfl) (aH 0) aK (λ_ _=>rfl))) aK) aK) (aH 1)))))),?_⟩
    have hl:aX K H p [.int x,.int y]:=aX.of hp;left;refine⟨_,.inl hl,_,bH (j:=0) rfl,?_⟩;left;refine fj.of (λh=>?_) (λh=>?_)
    ·left;refine⟨_,.inl hl,_,bH (j:=0) rfl,?_⟩;left;refine⟨⟨hm,by omega⟩,λt ht=>?_⟩;have npt:p≠t:=aL hp ht;refine⟨_,dO.of ak,rfl,_,(by rw[aB npt];exact hp),0,rfl,?_⟩;refine q _ _ (Int.emod_nonneg _ (by omega)) (Int.emod_lt_of_pos _ hm) ⟨_,_,ak,Int.ediv_nonneg hx (by omega),hy,hy2⟩ λb o hb e=>?_;rw[aB hb,aB (aL e ht)];exact e
    ·have z0:0<=(y * 48271+12345) % 2147483647:=Int.emod_nonneg _ (by decide);have z1:(y * 48271+12345) % 2147483647<2147483647:=Int.emod_lt_of_pos _ (by decide);left;refine⟨_,.inl hl,_,bH (j:=1) rfl,?_⟩;left;refine⟨_,hp,1,rfl,_,.inl (aX.of ak),_,bH (j:=1) rfl,_,.inl (aX.of ak),_,bH (j:=1) rfl,?_⟩;left;refine⟨⟨by omega,by omega⟩,hm,?_⟩;refine q _ _ (Int.emod_nonneg _ (by omega)) (Int.emod_lt_of_pos _ hm) ⟨_,_,ak,hx,z0,by omega⟩ λb o hb e=>?_;rw[aB hb];exact e
def QG:Sp:=λvs H Q _=>∃p xs,vs=[.ref p]/\Sq H p xs/\∀H',Same H H'->Q (.bl true) H'
theorem jR (T:Txt K mg a):bN P w K mg base ig 1 a.gW a.mW ["thing"] QG:=by
  exists T.fY.lK,Dl
  ·obtain⟨p,xs,rfl,_⟩:=h;rfl
  . obtain⟨p,xs,rfl,hp,q⟩:=h;refine⟨_,(aD (aZ (aM (Ym (K:=K) rfl) rfl T.nm.isinstance boot_isinstance (aj (aH 0) (aj (iM (aj (lW (v:=.ty "list") rfl T.nm.list boot_list rfl) (aj (lW (v:=.ty "tuple") rfl T.nm.tuple boot_tuple rfl) ao))) ao))))),?_⟩;left;refine λt ht=>⟨_,_,ak,?_⟩
    rcases(hp.same (au ht)).ty (K:=K) with ty | ty
    ·exact⟨_,ty,true,by simp[W.kitAny,W.kitOne],q _ (au ht)⟩
    ·exact⟨_,ty,true,by simp[W.kitAny,W.kitOne];rfl,q _ (au ht)⟩
def QH:Sp:=λvs H Q _=>∃x,vs=[.str x]/\x.length<=sizeLine/\∀H',Same H H'->Q (.bl (nameB x)) H'
theorem vY (T:Txt K mg a):bN P w K mg base ig 1 a.iY a.qO ["thing"] QH:=by
  exists T.qg.lK,Qx
  ·obtain⟨x,rfl,_⟩:=h;rfl
  . obtain⟨x,rfl,hx,q⟩:=h;refine⟨_,(aC (dJ (PW.pt (rJ (dI (cJ (aM (CV (K:=K) rfl) rfl T.nm.isinstance boot_isinstance (aj (aH 0) (aj (lW (v:=.ty "str") rfl T.nm.str boot_str rfl) ao))))) (lD (dI (zc qC qC aK (aM qej rfl T.nm.len ql8 (aj (aH 0) ao)) (wD rfl T.tY T.tZ)))))) (aD (aZ pR)) bG)
      (aD (aZ (aM (gU rfl) rfl T.nm.all gR (aj (bU rfl rfl (show aN (aA uq) _ ["thing"] ["sign"] [] ["sign"] from by rfl') rfl (PI.eqv (qdC (aH 0)) (Yg _)) (λC s H fp pn=>(aJ (i:=0) (show(["sign"]:List Str).Nodup by symm) rfl (Or.inl rfl))) (λC s H fp pn=>bM) (λC s H fp pn=>(gO (qke (K:=K) rfl) (aH 0) (wD rfl T.H_ T.Ia) rfl))) ao))))),?_⟩
    left;refine⟨_,.str x,_,zW K,fj.neg rfl ?_⟩;left;refine⟨hx,fj.of (λh1=>?_) (λh1=>?_)⟩
    . have h1':1<=x.length:=by simp at h1;omega
      left;refine fj.of (λh2=>?_) (λh2=>?_)
      . have h2':¬x.length<=4:=by simp at h2;omega
        have e:nameB x=false:=by
          unfold nameB;rw[qmA h2'];simp
        rw[e] at q;left;exact q H (Same.refl H)
      . have h2':x.length<=4:=by simp at h2;omega
        left;refine λD hD=>cmS (λi σ' H'=>(∃o,σ'=[o])/\Same H H'/\H' D=some (.lst ((x.cps.toList.take i).map λc=>.bl (isL c)))) ⟨⟨none,rfl⟩,au hD,by simpa using ak⟩ ?_ ?_
        . rintro i c σ' H' hc ⟨⟨o,rfl⟩,sm,Gd⟩;have h4:4<sizeLine:=by decide
          have hsz:x.cps.size=x.length:=rfl;left;refine⟨_,Gd,by simp;omega,aW sm hD,?_⟩;rw[ak,take_one (l:=x.cps.toList) (x:=c) (by simpa using hc),qms];rfl
        . rintro σ' H' ⟨⟨o,rfl⟩,sm,Gd⟩;left;refine⟨_,Gd,_,pW isL _,?_⟩;rw[PJ];have e:nameB x=(x.cps.toList.take x.cps.size).all isL:=by
            unfold nameB;rw[qmz h1',qmz h2',show x.cps.toList.take x.cps.size=x.cps.toList from List.take_of_length_le (by simp)];rfl
          rw[<- e];exact q H' sm
    . have h1':¬1<=x.length:=by simp at h1;omega
      have e:nameB x=false:=by
        unfold nameB;rw[qmA h1'];simp
      rw[e] at q;left;exact q H (Same.refl H)
theorem Ze {xs:List Str} {i:Nat} {x:V} (h:(xs.map V.str)[i]? = some x):∃z,z∈xs/\x = .str z:=by
  rw[qmc] at h;cases e:xs[i]? with
  | none=>rw[e] at h;cases h
  | some z=>
    rw[e] at h;exact⟨z,qlX e,(qmp h).symm⟩
theorem vZ {x:Str} (h:nameB x=true):x.length<=sizeLine:=by
  unfold nameB at h;simp at h;have h4:4<=sizeLine:=by decide
  omega
theorem je:∀n,sI (List.replicate n (.bl true)) (List.replicate n true)
  | 0=>rfl
  | n+1=>⟨true,_,rfl,rfl,je n⟩
theorem Ec:∀xs:List Str,keysOf (xs.map V.str)=xs.map Sum.inr
  | []=>rfl
  | x::xs=>by
    show Sum.inr x::keysOf (xs.map V.str)=_;rw[Ec xs];rfl
theorem qeD {xs:List Str} (h:xs.Nodup):(Fo (λi=>(keysOf (xs.map V.str))[i]?.getD (Sum.inl 0)) (xs.map V.str).length).length=xs.length:=by
  rw[Ec,ql2];refine(Pz _ xs.length λi j hi hj e=>?_).1;simp[hi,hj] at e;exact(List.getElem_inj h).mp e
structure S7 (xs:List Str):Prop where
  len:1<=xs.length/\xs.length<=9
  nm:∀x∈xs,nameB x=true
  nd:xs.Nodup
def Ge:Sp:=λvs H Q _=>∃p xs,vs=[.ref p]/\Sq H p (xs.map V.str)/\S7 xs/\∀H',Same H H'->Q (.bl true) H'
theorem Gf (T:Txt K mg a):bN P w K mg base ig 2 a.d9 a.jY ["thing"] Ge:=by
  exists T.qR.lK,FT
  ·obtain⟨p,xs,rfl,_⟩:=h;rfl
  . obtain⟨p,xs,rfl,hp,hx,q⟩:=h;refine⟨_,(aC (dJ (PW.pt (rJ (dI (cJ (PE.eqv (aG (jR T) hr.d rfl T.jd T.fY.kp T.jc .nil aR (aj (aH 0) ao)) (aF _ _ _)))) (lD (dI (zc qC qC aK (aM (bO (K:=K) rfl) rfl T.nm.len ql8 (aj (aH 0) ao)) (wD rfl T.vm T.vo)))))) (aD (aZ pR)) bG)
      (aD (aZ (nO (aM (gU rfl) rfl T.nm.all gR (aj (bU rfl rfl (show aN (aA mz) _ ["thing"] ["one"] [] ["one"] from by rfl') rfl (PI.eqv (nG (K:=K) rfl (aH 0)) (kE _ _)) (λC s H fp pn=>(aJ (i:=0) (show(["one"]:List Str).Nodup by symm) rfl (Or.inl rfl))) (λC s H fp pn=>bM) (λC s H fp pn=>(PE.eqv (aG (vY T) hr.d rfl T.uH T.qg.kp T.uG .nil aR (aj (aH 0) ao)) (aF _ _ _)))) ao)) (rZ (gO lJ (aM G_ rfl T.nm.len ql8 (aj (iW (G9 rfl) rfl T.nm.set G7 (aj (aH 0) ao)) ao)) (aM (bO (K:=K) rfl) rfl T.nm.len ql8 (aj (aH 0) ao)) (bK _))))))),?_⟩
    have hl:=hx.len;have h60:60<sizeLine:=by decide
    left;refine⟨p,_,rfl,hp,λH1 s1=>?_⟩;have hp1:=hp.same s1;left;refine⟨_,hp1.q,fj.pos (by simp;omega) ?_⟩;left;refine fj.neg (by simp;omega) ?_;obtain⟨b,hb⟩:=hp.b;left;refine⟨b,⟨_,hb K H1 s1⟩,λD hD=>cmQ (xs.map V.str) (λi σ' H'=>(∃o,σ'=[o])/\Same H1 H'/\H' D=some (.lst (List.replicate i (.bl true)))) ⟨⟨none,rfl⟩,au hD,ak⟩ (λi σ' H' _ h=>hb K H' (s1.trans h.2.1)) ?_ ?_⟩
    . rintro i x σ' H' hi ⟨⟨o,rfl⟩,sm,Gd⟩;obtain⟨z,hz,rfl⟩:=Ze hi;have hi2:i<xs.length:=by simpa using (qlT.mp hi).1
      left;refine⟨z,rfl,vZ (hx.nm z hz),λH2 s2=>?_⟩;left;refine⟨_,s2 _ _ Gd,by simp;omega,aW (sm.trans s2) hD,?_⟩;rw[ak,hx.nm z hz,<- qnk]
    ·rintro σ' H' ⟨⟨o,rfl⟩,sm,Gd⟩;have hp2:=hp1.same sm;left;refine⟨_,Gd,_,je _,?_⟩;rw[show(List.replicate (xs.map V.str).length true).all id=true by simp];left;refine⟨_,hp2.q,by simp[isKey],by simp;unfold scanBound;omega,λt ht=>⟨_,ak,_,(hp2.same (au ht)).q,?_⟩⟩;rw[qmz (by rw[qeD hx.nd];simp)];exact q _ (s1.trans (sm.trans (au ht)))
theorem qbG {x:Str} {xs:List Str} (h:x∈xs):inV (.str x) (xs.map V.str)=true:=by
  unfold inV;rw[List.any_eq_true];exact⟨.str x,qmw.mpr ⟨x,h,rfl⟩,by simp[Uc]⟩
theorem Zf (xs:List Str):(xs.map V.str).all ji=true:=by
  rw[qmk];intro v hv;obtain⟨x,_,rfl⟩:=qmw.mp hv;rfl
def Vj:Sp:=λvs H Q _=>∃t p x y xs,vs=[.ref t,.ref p]/\Sq H t [.str x,.str y]/\Sq H p (xs.map V.str)/\S7 xs/\x∈xs/\y∈xs/\x≠y/\∀H',Same H H'->Q (.bl true) H'
theorem Vk (T:Txt K mg a):bN P w K mg base ig 2 a.kJ a.ur ["thing", "points"] Vj:=by
  exists T.Du.lK,Vd
  ·obtain⟨t,p,x,y,xs,rfl,_⟩:=h;rfl
  . obtain⟨t,p,x,y,xs,rfl,ht,hp,hx,hxm,hym,hne,q⟩:=h;refine⟨_,(aC (dJ (PW.pt (rJ (dI (cJ (PE.eqv (aG (jR T) hr.d rfl T.jd T.fY.kp T.jc .nil aR (aj (aH 0) ao)) (aF _ _ _)))) (lD (bh vK (aM (bO (K:=K) rfl) rfl T.nm.len ql8 (aj (aH 0) ao)) aK (bK _))))) (aD (aZ pR)) bG)
      (aC (dJ (dI (cJ (aM (gU rfl) rfl T.nm.all gR (aj (bU rfl rfl (show aN (aA xM) _ ["thing", "points"] ["end"] [1] ["end", "points"] from by rfl') rfl (PI.eqv (nG (K:=K) rfl (aH 0)) (kE _ _)) (λC s H fp pn=>(aJ (i:=0) (show(["end", "points"]:List Str).Nodup by symm) rfl (Or.inl rfl))) (λC s H fp pn=>bM) (λC s H fp pn=>(nO (PE.eqv (aG (vY T) hr.d rfl T.uH T.qg.kp T.uG .nil aR (aj (aH 0) ao)) (aF _ _ _)) (rZ (gO (CQ (K:=K) rfl) (aH 0) (aH 1) rfl))))) ao)))) (aD (aZ pR)) bG)
      (aD (aZ (gO vK (cR (dh (K:=K) rfl) (aH 0) aK (λ_ _=>rfl)) (cR (dh (K:=K) rfl) (aH 0) aK (λ_ _=>rfl)) (bK _)))))),?_⟩
    have h60:60<sizeLine:=by decide
    left;refine⟨t,_,rfl,ht,λH1 s1=>?_⟩;left;refine⟨_,(ht.same s1).q,false,rfl,fj.neg rfl ?_⟩;obtain⟨b,hb⟩:=ht.b;left;refine⟨b,⟨_,hb K H1 s1⟩,λD hD=>cmQ [.str x,.str y] (λi σ' H'=>(∃o,σ'=[o,some (.ref p)])/\Same H1 H'/\H' D=some (.lst (List.replicate i (.bl true)))) ⟨⟨none,rfl⟩,au hD,ak⟩ (λi σ' H' _ h=>hb K H' (s1.trans h.2.1)) ?_ ?_⟩
    . rintro i v σ' H' hi ⟨⟨o,rfl⟩,sm,Gd⟩;obtain⟨z,hz,rfl⟩:∃z,z∈xs/\v = .str z:=by
        match i,hi with
        | 0,hi=>exact⟨x,hxm,(qmp hi).symm⟩
        | 1,hi=>exact⟨y,hym,(qmp hi).symm⟩
      have hi2:i<2:=(qlT.mp hi).1;left;refine⟨z,rfl,vZ (hx.nm z hz),λH2 s2=>?_⟩;rw[hx.nm z hz];left;refine⟨_,(hp.same (s1.trans (sm.trans s2))).q,rfl,qmk.mp (Zf xs),_,s2 _ _ Gd,by simp;omega,aW (sm.trans s2) hD,?_⟩;rw[ak,qbG hz,<- qnk]
    ·rintro σ' H' ⟨⟨o,rfl⟩,sm,Gd⟩;have wC:=ht.same (s1.trans sm);left;refine⟨_,Gd,_,je _,?_⟩;rw[show(List.replicate [V.str x,V.str y].length true).all id=true by simp];left;refine⟨_,wC.q,_,bH (j:=0) rfl,_,wC.q,_,bH (j:=1) rfl,?_⟩;left;refine⟨true,by simp[hne],?_⟩;exact q _ (s1.trans sm)
def Ed (H:Hp) (v:V) (e:Str×Str):Prop:=∃t,v = .ref t/\Sq H t [.str e.1,.str e.2]
theorem Ed.same {H H':Hp} {v:V} {e:Str×Str} (h:Ed H v e) (s:Same H H'):Ed H' v e:=by
  obtain⟨t,rfl,h⟩:=h;exact⟨t,rfl,h.same s⟩
def oF (H:Hp) (vs:List V) (ps:List (Str×Str)):Prop:=vs.length=ps.length/\∀(i:Nat) v e,vs[i]? = some v->ps[i]? = some e->Ed H v e
theorem oF.same {H H':Hp} {vs:List V} {ps:List (Str×Str)} (h:oF H vs ps) (s:Same H H'):oF H' vs ps:=⟨h.1,λi v e h1 h2=>(h.2 i v e h1 h2).same s⟩
theorem oF.at {H:Hp} {vs:List V} {ps:List (Str×Str)} (h:oF H vs ps) {i:Nat} {v:V} (hv:vs[i]? = some v):∃e,ps[i]? = some e/\Ed H v e:=by
  have hi:i<ps.length:=by rw[<- h.1];exact(qlT.mp hv).1
  exact⟨ps[i],by simp[hi],h.2 i v _ hv (by simp[hi])⟩
structure wg (xs:List Str) (ps:List (Str×Str)):Prop where
  len:ps.length<=20
  ok:∀e∈ps,e.1∈xs/\e.2∈xs/\e.1≠e.2
def NK:Sp:=λvs H Q _=>∃t p tv xs ps,vs=[.ref t,.ref p]/\Sq H t tv/\oF H tv ps/\Sq H p (xs.map V.str)/\S7 xs/\wg xs ps/\∀H',Same H H'->Q (.bl true) H'
theorem NP (T:Txt K mg a):bN P w K mg base ig 3 a.gD a.nW ["thing", "points"] NK:=by
  exists T.vW.lK,M9
  ·obtain⟨t,p,tv,xs,ps,rfl,_⟩:=h;rfl
  . obtain⟨t,p,tv,xs,ps,rfl,ht,hpr,hp,hx,hts,q⟩:=h;refine⟨_,(aC (dJ (PW.pt (rJ (dI (cJ (PE.eqv (aG (jR T) hr.d rfl T.jd T.fY.kp T.jc .nil aR (aj (aH 0) ao)) (aF _ _ _)))) (lD (bh sX (aM (bO (K:=K) rfl) rfl T.nm.len ql8 (aj (aH 0) ao)) (wD rfl T.Ak T.Al) (bK _))))) (aD (aZ pR)) bG)
      (aD (aZ (aM (gU rfl) rfl T.nm.all gR (aj (bU rfl rfl (show aN (aA qG) _ ["thing", "points"] ["one"] [1] ["one", "points"] from by rfl') rfl (PI.eqv (nG (K:=K) rfl (aH 0)) (kE _ _)) (λC s H fp pn=>(aJ (i:=0) (show(["one", "points"]:List Str).Nodup by symm) rfl (Or.inl rfl))) (λC s H fp pn=>bM) (λC s H fp pn=>(PE.eqv (aG (Vk T) hr.d rfl T.Ni T.Du.kp T.Nh .nil aR (aj (aH 0) (aj (aH 1) ao))) (aF _ _ _)))) ao))))),?_⟩
    have hlen:=hpr.1;have NQ:=hts.len;have h60:60<sizeLine:=by decide
    left;refine⟨t,_,rfl,ht,λH1 s1=>?_⟩;left;refine⟨_,(ht.same s1).q,fj.neg (by simp;omega) ?_⟩;obtain⟨b,hb⟩:=ht.b;left;refine⟨b,⟨_,hb K H1 s1⟩,λD hD=>cmQ tv (λi σ' H'=>(∃o,σ'=[o,some (.ref p)])/\Same H1 H'/\H' D=some (.lst (List.replicate i (.bl true)))) ⟨⟨none,rfl⟩,au hD,ak⟩ (λi σ' H' _ h=>hb K H' (s1.trans h.2.1)) ?_ ?_⟩
    ·rintro i v σ' H' hi ⟨⟨o,rfl⟩,sm,Gd⟩;obtain⟨e,he,t2,rfl,wC⟩:=hpr.at hi;have hi2:i<tv.length:=(qlT.mp hi).1;obtain⟨h1,h2,h3⟩:=hts.ok e (qlX he);have s2:=s1.trans sm;left;refine⟨t2,p,e.1,e.2,xs,rfl,wC.same s2,hp.same s2,hx,h1,h2,h3,λH2 s3=>?_⟩;left;refine⟨_,s3 _ _ Gd,by simp;omega,aW (sm.trans s3) hD,?_⟩;rw[ak,<- qnk]
    ·rintro σ' H' ⟨⟨o,rfl⟩,sm,Gd⟩;left;refine⟨_,Gd,_,je _,?_⟩;rw[show(List.replicate tv.length true).all id=true by simp];exact q _ (s1.trans sm)
def bA (H:Hp) (vs:List V) (ps:List (Str×Str)):Prop:=vs.length=ps.length/\∀(i:Nat) v e,vs[i]? = some v->ps[i]? = some e->∃t,v = .ref t/\H t=some (.tup [.str e.1,.str e.2])
def d7 (H H':Hp):Prop:=∀b xs,H b=some (.tup xs)->H' b=some (.tup xs)
theorem bA.keep {H H':Hp} {vs:List V} {ps:List (Str×Str)} (h:bA H vs ps) (s:d7 H H'):bA H' vs ps:=⟨h.1,λi v e h1 h2=>by
  obtain⟨t,rfl,e⟩:=h.2 i v e h1 h2;exact⟨t,rfl,s _ _ e⟩⟩
theorem bA.snoc {H:Hp} {vs:List V} {ps:List (Str×Str)} {t:Addr} {e:Str×Str} (h:bA H vs ps) (ht:H t=some (.tup [.str e.1,.str e.2])):bA H (vs++[.ref t]) (ps++[e]):=by
  refine⟨by simp[h.1],λi v d h1 h2=>?_⟩
  by_cases hi:i<vs.length
  ·rw[ql9 hi] at h1;rw[ql9 (by rw[<- h.1];exact hi)] at h2;exact h.2 i v d h1 h2
  . rw[qma (by omega)] at h1;rw[qma (by rw[<- h.1];omega),<- h.1] at h2;cases hk:i - vs.length with
    | zero=>
      rw[hk] at h1 h2;cases h1;cases h2;exact⟨t,rfl,ht⟩
    | succ j=>
      rw[hk] at h1;simp at h1
structure eV (C:Addr) (H:Hp) (o:Addr) (xs:List Str) (ps:List (Str×Str)):Prop where
  ex:∃dx n m tv,H o=some (.ins C dx [("names",V.ref n),("pairs",V.ref m)])/\H n=some (.tup (xs.map V.str))/\H m=some (.tup tv)/\bA H tv ps/\ps.length<=20
def qbH (C:Addr):Sp:=λvs H Q _=>∃o dx p t tv xs ps,vs=[.ref o,.ref p,.ref t]/\H o=some (.ins C dx [])/\Sq H t tv/\oF H tv ps/\Sq H p (xs.map V.str)/\S7 xs/\wg xs ps/\
  ∀H',eV C H' o xs ps->But o H H'->Q .non H'
theorem NT (T:Txt K mg a):bN P w K mg base ig 4 a.fJ a.nY ["self", "points", "ties"] (qbH a.bD):=by
  exists T.Dy.lK,M_
  ·obtain⟨o,dx,p,t,tv,xs,ps,rfl,_⟩:=h;rfl
  . obtain⟨o,dx,p,t,tv,xs,ps,rfl,ho,ht,hpr,hp,hx,hts,q⟩:=h;refine⟨_,(aC (dJ (dI (cJ (PE.eqv (aG (Gf T) hr.d rfl T.xU T.qR.kp T.xT .nil aR (aj (aH 1) ao)) (aF _ _ _)))) (aD iu) bG)
      (aC (dJ (dI (cJ (PE.eqv (aG (NP T) hr.d rfl T.Dw T.vW.kp T.Dv .nil aR (aj (aH 2) (aj (aH 1) ao))) (aF _ _ _)))) (aD iu) bG)
      (aC (RQ (K:=K) rfl (aH 0) (iW Hq rfl T.nm.tuple boot_tuple (aj (aH 1) ao)) rfl)
      (aD (RQ (K:=K) rfl (aH 0) (iW Hq rfl T.nm.tuple boot_tuple (aj (bU rfl rfl (show aN (aA qH) _ ["self", "points", "ties"] ["pair"] [] ["pair"] from by rfl') rfl (PI.eqv (nG (K:=K) rfl (aH 2)) (kE _ _)) (λC s H fp pn=>(aJ (i:=0) (show(["pair"]:List Str).Nodup by symm) rfl (Or.inl rfl))) (λC s H fp pn=>bM) (λC s H fp pn=>(iM (aj (cR (dh (K:=K) rfl) (aH 0) aK (λ_ _=>rfl)) (aj (cR (dh (K:=K) rfl) (aH 0) aK (λ_ _=>rfl)) ao))))) ao)) rfl))))),?_⟩
    left;refine⟨p,xs,rfl,hp,hx,λH1 s1=>?_⟩;left;refine⟨t,p,tv,xs,ps,rfl,ht.same s1,hpr.same s1,hp.same s1,hx,hts,λH2 s2'=>?_⟩;have s2:=s1.trans s2';left;refine⟨_,hp.same s2,λn H3 hn s3'=>?_⟩;have s3:=s2.trans s3';have nno:n≠o:=jg hn (s3 _ _ ho) (by intro z;cases z);refine⟨_,_,_,s3 _ _ ho,T.g_,T.Ks,by simp,?_⟩;have hto:t≠o:=by rcases ht with z | z <;> exact jg z ho (by intro y;cases y)
    have qgP:∀{ob:HO} {b:Addr} {u:HO},b≠o->H b=some u->upd H3 o ob b=some u:=λhb e=>by rw[aB hb];exact s3 _ _ e
    obtain⟨b,hb⟩:∃b,∀H',(∀c u,c≠o->H c=some u->H' c=some u)->LK b K H' t tv:=by
      rcases ht with z | z
      ·exact⟨true,λH' k=>aX.of (k _ _ hto z)⟩
      ·exact⟨false,λH' k=>dO.of (k _ _ hto z)⟩
    have e1:oR "names" (V.ref n) []=([("names",V.ref n)]:List (Str×V)):=rfl;rw[e1];have st4:∀(c:Addr) (u:HO),c≠o->H c=some u->upd H3 o (.ins a.bD dx [("names",V.ref n)]) c=some u:=λc u hc e=>qgP hc e;generalize h4:upd H3 o (.ins a.bD dx [("names",V.ref n)])=H4 at st4 ⊢;have ho4:H4 o=some (.ins a.bD dx [("names",V.ref n)]):=by rw[<- h4];exact ak
    have hn4:H4 n=some (.tup (xs.map V.str)):=by rw[<- h4,aB nno];exact hn
    refine⟨b,⟨_,hb H4 st4⟩,λD hD=>cmQ tv (λi σ' H'=>(∃o',σ'=[o'])/\Same H4 H'/\∃tvs,H' D=some (.lst tvs)/\bA H' tvs (ps.take i)) ⟨⟨none,rfl⟩,au hD,[],ak,by simp[bA]⟩ (λi σ' H' _ h=>hb H' λc u hc e=>h.2.1 _ _ (st4 c u hc e)) ?_ ?_⟩
    . rintro i v σ' H' hi ⟨⟨o',rfl⟩,sm,tvs,Gd,htv⟩;have hi2:i<tv.length:=(qlT.mp hi).1;have hlen:=hpr.1;have NQ:=hts.len;obtain⟨e,he,t2,rfl,wC⟩:=hpr.at hi;have t2o:t2≠o:=by rcases wC with z | z <;> exact jg z ho (by intro y;cases y)
      have ht3:Sq H' t2 [.str e.1,.str e.2]:=by
        rcases wC with z | z
        ·exact .inl (sm _ _ (st4 _ _ t2o z))
        ·exact .inr (sm _ _ (st4 _ _ t2o z))
      left;refine⟨_,ht3.q,_,bH (j:=0) rfl,_,ht3.q,_,bH (j:=1) rfl,λpt hpt=>?_⟩;have hDp:D≠pt:=aL Gd hpt;refine⟨tvs,by rw[aB hDp];exact Gd,?_,aW (sm.trans (au hpt)) hD,_,ak,?_⟩
      . have h4':20<sizeLine:=by decide
        have:=htv.1;simp at this;omega
      . rw[take_one he];refine(htv.keep ?_).snoc ?_
        ·intro c zs ec;rw[aB (jg ec Gd (by intro y;cases y)),aB (aL ec hpt)];exact ec
        ·rw[aB (qnx hDp)];exact ak
    . rintro σ' H' ⟨⟨o',rfl⟩,sm,tvs,Gd,htv⟩;left;refine⟨tvs,.inl Gd,λm H5 hm s5=>⟨_,_,_,s5 _ _ (sm _ _ ho4),T.g_,T.Br,by simp,?_⟩⟩;have ho5:=s5 _ _ (sm _ _ ho4);have mno:m≠o:=jg hm ho5 (by intro z;cases z);have e2:oR "pairs" (V.ref m) ([("names",V.ref n)]:List (Str×V))=([("names",V.ref n),("pairs",V.ref m)]:List (Str×V)):=by
        show(if ("names" : Str) = "pairs" then _ else (("names" : Str),V.ref n)::oR "pairs" (V.ref m) [])=_
        rw[if_neg (by symm)];rfl
      rw[e2];refine q _ ⟨dx,n,m,tvs,ak,?_,?_,?_,hts.len⟩ λc u hc e=>?_
      ·rw[aB nno];exact s5 _ _ (sm _ _ hn4)
      ·rw[aB mno];exact hm
      ·have hl:=hpr.1;rw[hl,ql4] at htv;refine htv.keep λc zs ec=>?_;rw[aB (jg (s5 _ _ ec) ho5 (by intro z;cases z))];exact s5 _ _ ec
      ·rw[aB hc];exact s5 _ _ (sm _ _ (st4 c u hc e))
def Vl (C:Addr):Sp:=λvs H Q _=>∃o xs ps,vs=[.ref o]/\eV C H o xs ps/\∀l,H l=none->Q (.ref l) (upd H l (.lst (xs.map V.str)))
theorem dH (T:Txt K mg a):bN P w K mg base ig 1 a.cW a.jZ ["self"] (Vl a.bD):=by
  exists T.xV.lK,FW
  ·obtain⟨o,xs,ps,rfl,_⟩:=h;rfl
  ·obtain⟨o,xs,ps,rfl,⟨dx,n,m,tv,h1,h2,h3,h4,h5⟩,q⟩:=h;refine⟨_,(aD (aZ (iW (CT (K:=K) rfl) rfl T.nm.list boot_list (aj (PE.eqv (Jk (K:=K) rfl (aH 0) rfl) (JK _ _ _)) ao)))),?_⟩;left;refine⟨_,_,_,h1,T.g_,T.Ks,_,rfl,_,.inr (dO.of h2),q⟩
def qbI (C:Addr):Sp:=λvs H Q _=>∃o xs ps,vs=[.ref o]/\eV C H o xs ps/\∀l tv,H l=none->bA H tv ps->Q (.ref l) (upd H l (.lst tv))
theorem oG (T:Txt K mg a):bN P w K mg base ig 1 a.fK a.nZ ["self"] (qbI a.bD):=by
  exists T.DG.lK,Nb
  ·obtain⟨o,xs,ps,rfl,_⟩:=h;rfl
  ·obtain⟨o,xs,ps,rfl,⟨dx,n,m,tv,h1,h2,h3,h4,h5⟩,q⟩:=h;refine⟨_,(aD (aZ (iW (CT (K:=K) rfl) rfl T.nm.list boot_list (aj (PE.eqv (Jk (K:=K) rfl (aH 0) rfl) (JK _ _ _)) ao)))),?_⟩;left;refine⟨_,_,_,h1,T.g_,T.Br,_,rfl,_,.inr (dO.of h3),λl hl=>q l tv hl h4⟩
theorem jG.upd {p q:Addr} {H:Hp} {u:HO} (x:jG H p) (h:p≠q):jG (L2.upd H q u) p:=by
  obtain⟨a,b,e,r⟩:=x;exact⟨a,b,by rw[aB h];exact e,r⟩
theorem jG.ne {p q:Addr} {H:Hp} (x:jG H p) (h:H q=none):p≠q:=by
  obtain⟨a,b,e,r⟩:=x;exact aL e h
theorem jG.none {p b:Addr} {H H':Hp} (x:But p H H') (hp:jG H' p) (h:H' b = .none):H b = .none:=by
  obtain⟨a,b,e,r⟩:=hp;exact x.none e h
def Zg:Sp:=λvs H Q _=>∃p l xs,vs=[.ref p,.ref l]/\jG H p/\l≠p/\H l=some (.lst xs)/\xs.length<=100/\∀r ys H',H r=none->H' r=some (.lst ys)->ys.Perm xs->jG H' p->But p H H'->Q (.ref r) H'
theorem Ef (T:Txt K mg a):bN P w K mg base ig 2 a.oA a.xQ ["_law_pot_here", "_law_things"] Zg:=by
  exists T.yD.lK,Dt
  ·obtain⟨p,l,xs,rfl,_⟩:=h;rfl
  . obtain⟨p,l,xs,rfl,hp,hlp,hl,h100,q⟩:=h;refine⟨_,(aC (bC (i:=2) Dt.nd rfl (Or.inl rfl) (dX ao))
      (aC (jH qmU rfl (PI.eqv (bB (K:=K) rfl (aH 1)) (bx _ _)) (aJ (i:=3) Dt.nd rfl (Or.inl rfl))
      (aD (fG (mR (K:=K) rfl qmM PySem.F.slot_list_insert PySem.F.type_list_insert Qi (aH 2) (aj (PE.eqv (aG (iI T) hr.d rfl T.jQ T.jC.kp T.jP .nil aR (aj (aH 0) (aj (bT jm (aM (bO (K:=K) rfl) rfl T.nm.len ql8 (aj (aH 2) ao)) aK) ao))) (aF _ _ _)) (aj (aH 3) ao))))))
      (aD (aZ (aH 2))))),?_⟩
    have h4':100<sizeLine:=by decide
    left;intro r hr0;have hpr:p≠r:=hp.ne hr0;refine⟨⟨_,aX.of (bV hl hr0)⟩,Xl xs (λi σ H'=>∃v ys,σ=[some (.ref p),some (.ref l),some (.ref r),v]/\H' r=some (.lst ys)/\ys.Perm (xs.take i)/\jG H' p/\But p H H') ⟨none,[],rfl,ak,by simp,hp.upd hpr,(But.refl _ _).new hr0⟩ (λi σ H' _ ⟨_,_,_,_,_,_,hb⟩=>aX.of (hb _ _ hlp hl)) ?_ ?_⟩
    . rintro i x σ H' hi ⟨v,ys,rfl,hr',hperm,hP,hB⟩;have hi2:i<xs.length:=(qlT.mp hi).1;have hly:ys.length=i:=by
        have:=hperm.length_eq;simp at this;omega
      left;refine⟨⟨_,aX.of hr'⟩,ys,.inl (aX.of hr'),p,_,rfl,hP,by omega,by omega,λd H1 hd0 hd1 hP1 V7=>?_⟩;have hr1:H1 r=some (.lst ys):=V7 _ _ (qnx hpr) hr';left;refine⟨ys,hr1,hd0,by omega,by omega,_,ak,?_,hP1.upd hpr,(hB.trans V7).new hr0⟩
      . rw[take_one hi];have e:(ys.take d.toNat++x::ys.drop d.toNat).Perm (x::ys):=by
          refine List.perm_middle.trans ?_;rw[List.take_append_drop]
        exact e.trans ((List.Perm.cons x hperm).trans (List.perm_append_singleton x _).symm)
    ·rintro σ H' ⟨v,ys,rfl,hr',hperm,hP,hB⟩;rw[ql4] at hperm;left;exact q r ys H' hr0 hr' hperm hP hB
def qeE:Sp:=λvs H Q _=>∃(p l:Addr) (xs:List Str),vs=[.ref p,.ref l]/\jG H p/\l≠p/\H l=some (.lst (xs.map V.str))/\2<=xs.length/\xs.length<=9/\xs.Nodup/\∀t x y H',H t=none->H' t=some (.tup [.str x,.str y])->x∈xs->y∈xs->x≠y->jG H' p->But p H H'->Q (.ref t) H'
theorem qeF (T:Txt K mg a):bN P w K mg base ig 2 a.Ab a.Kl ["_law_pot_here", "_law_names_here"] qeE:=by
  exists T.Za.lK,Qz
  ·obtain⟨p,l,xs,rfl,_⟩:=h;rfl
  . obtain⟨p,l,xs,rfl,hp,hlp,hl,h2,h9,hnd,q⟩:=h;refine⟨_,(aC (bC (i:=2) Qz.nd rfl (Or.inl rfl) (PE.eqv (aG (iI T) hr.d rfl T.jQ T.jC.kp T.jP .nil aR (aj (aH 0) (aj (aM (bO (K:=K) rfl) rfl T.nm.len ql8 (aj (aH 1) ao)) ao))) (aF _ _ _)))
      (aC (bC (i:=3) Qz.nd rfl (Or.inl rfl) (bT qD (bT jm (bT jm (aH 2) aK) (PE.eqv (aG (iI T) hr.d rfl T.jQ T.jC.kp T.jP .nil aR (aj (aH 0) (aj (bT nM (aM (bO (K:=K) rfl) rfl T.nm.len ql8 (aj (aH 1) ao)) aK) ao))) (aF _ _ _))) (aM (bO (K:=K) rfl) rfl T.nm.len ql8 (aj (aH 1) ao))))
      (aD (aZ (iM (aj (cR (dh (K:=K) rfl) (aH 1) (aH 2) (λ_ _=>rfl)) (aj (cR (dh (K:=K) rfl) (aH 1) (aH 3) (λ_ _=>rfl)) ao))))))),?_⟩
    left;refine⟨_,.inl (aX.of hl),p,_,rfl,hp,by simp;omega,by simp;omega,λd H1 hd0 hd1 hP1 V7=>?_⟩;have hl1:=V7 _ _ hlp hl;left;refine⟨_,.inl (aX.of hl1),p,_,rfl,hP1,by simp;omega,by simp;omega,λe H2 he0 FJ hP2 hB2=>?_⟩;have hl2:=hB2 _ _ hlp hl1;simp only[ql2] at hd1 FJ;obtain⟨m0,m1,m2⟩:=qdK hd0 hd1 he0 FJ;obtain⟨vx,ex,ax⟩:=RM (xs:=xs.map V.str) hd0 (by simpa using hd1);obtain⟨vy,ey,ay⟩:=RM (xs:=xs.map V.str) m0 (by simpa using m1);obtain⟨x,ex',rfl⟩:=iQ ex;obtain⟨y,ey',rfl⟩:=iQ ey;have sl:=aX.of (K:=K) hl2;left;refine⟨_,.inl sl,by simp;omega,_,.inl sl,_,ax,_,.inl sl,_,(by simpa using ay),λt ht=>?_⟩;refine q t x y _ (jG.none (V7.trans hB2) hP2 ht) ak (qlX ex') (qlX ey') (λz=>?_) (hP2.upd (hP2.ne ht)) ((V7.trans hB2).same (au ht));subst z;have:=Cj hnd ex' ey';omega
def Zh:Sp:=λvs H Q _=>∃(p:Addr) (m:Nat),vs=[.ref p,.int m]/\jG H p/\1<=m/\m<=9/\∀(r:Addr) (xs:List Str) (H':Hp),H r=none->H' r=some (.lst (xs.map V.str))->S7 xs->xs.length=m->jG H' p->But p H H'->Q (.ref r) H'
theorem Zi (T:Txt K mg a):bN P w K mg base ig 2 a.ou a.xP ["_law_pot_here", "_law_many"] Zh:=by
  exists T.Kq.lK,mV
  ·obtain⟨p,m,rfl,_⟩:=h;rfl
  . obtain⟨p,m,rfl,hp,h1,h9,q⟩:=h;refine⟨_,(aC (bC (i:=2) mV.nd rfl (Or.inr rfl) O2)
      (aC (bC (i:=3) mV.nd rfl (Or.inl rfl) (PE.eqv (aG (iI T) hr.d rfl T.jQ T.jC.kp T.jP .nil aR (aj (aH 0) (aj aK ao))) (aF _ _ _)))
      (aC (bC (i:=4) mV.nd rfl (Or.inl rfl) (dX ao))
      (aC (jH qmU rfl (PI.eqv (uh rfl T.nm.range (aj (aH 1) ao)) (um _)) (aJ (i:=5) mV.nd rfl (Or.inl rfl))
      (aC (bC (i:=6) mV.nd rfl (Or.inl rfl) (PE.eqv (aG (iI T) hr.d rfl T.jQ T.jC.kp T.jP .nil aR (aj (aH 0) (aj aK ao))) (aF _ _ _)))
      (aC (bC (i:=7) mV.nd rfl (Or.inl rfl) (mR (K:=K) rfl PySem.F.plainAttrs_str PySem.F.slot_str_join PySem.F.type_str_join Yn O2 (aj (bU rfl rfl (show aN (aA Bh) _ ["_law_pot_here", "_law_many", "_law_letters", "_law_begin", "_law_found", "_law_k", "_law_size", "_law_more"] ["_law_j"] [2,0] ["_law_j", "_law_letters", "_law_pot_here"] from by rfl') rfl (PI.eqv (uh rfl T.nm.range (aj (aH 6) ao)) (um _)) (λC s H fp pn=>(aJ (i:=0) (show(["_law_j", "_law_letters", "_law_pot_here"]:List Str).Nodup by symm) rfl (Or.inl rfl))) (λC s H fp pn=>bM) (λC s H fp pn=>(cR R3 (aH 1) (PE.eqv (aG (iI T) hr.d rfl T.jQ T.jC.kp T.jP .nil aR (aj (aH 2) (aj aK ao))) (aF _ _ _)) (λ_ _=>rfl)))) ao)))
      (aD (fG (mR (K:=K) rfl qmM qng qnh jL (aH 4) (aj (bT Mt (cR R3 (aH 2) (bT qD (bT jm (aH 3) (bT xG aK (aH 5))) aK) (λ_ _=>rfl)) (aH 7)) ao)))))))
      (aD (aZ (aH 4))))))),?_⟩
    left;refine⟨p,_,rfl,hp,by decide,by decide,λd H1 hd0 hd1 hP1 V7=>?_⟩;obtain⟨b,rfl,qlH,hbl⟩:=sJ hd0 hd1;have hP2:=hP1;have hB2:=V7;left;intro r hr0;refine⟨zlt h9 (by decide),frR (λi σ H'=>∃v8 v9 v10 ws,σ=[some (.ref p),some (.int m),some (.str (Str.ofString "abcdefghijklmnopqrstuvwxyz")),some (.int b),some (.ref r),v8,v9,v10]/\H' r=some (.lst (ws.map V.str))/\ws.length=i/\(∀(j:Nat) x,ws[j]? = some x->∃k,1<=k/\k<=4/\qu (97+(b+5 * j) % 26) k x)/\jG H' p/\But p H H') ⟨none,none,none,[],rfl,ak,rfl,λj x e=>by simp at e,hP2.upd (hP2.ne hr0),hB2.same (au hr0)⟩ ?_ ?_⟩
    . rintro i σ H' hi ⟨v8,v9,v10,ws,rfl,hr',hl,hw,hP,hB⟩;left;obtain⟨c,hc,qkv,hcl⟩:=sJ (i:=((b:Int)+5 * i) % 26) zn1 zn2;have hc':c=(b+5 * i) % 26:=zn3 hc;have pr:r≠p:=λz=>by subst z;obtain⟨_,_,u,_⟩:=hP2;rw[hr0] at u;cases u
      refine⟨p,_,rfl,hP,by decide,by decide,λe H3 he0 FJ OJ hB3=>?_⟩;left;have hDr:∀{D:Addr},H3 D=none->r≠D:=λhD=>aL (hB3 _ _ pr hr') hD;refine⟨zlo he0,zhi FJ (by decide),λD hD=>cmR (λj σ H4=>∃v ys,σ=[v,some (.str (Str.ofString "abcdefghijklmnopqrstuvwxyz")),some (.ref p)]/\H4 D=some (.lst (ys.map V.str))/\H4 r=some (.lst (ws.map V.str))/\ys.length=j/\(∀y∈ys,∃n,n<26/\y=(⟨#[97+n]⟩:Str))/\jG H4 p/\But p H H4) ⟨_,[],rfl,ak,bV (hB3 _ _ pr hr') hD,rfl,by simp,OJ.upd (OJ.ne hD),(hB.trans hB3).same (au hD)⟩ ?_ ?_⟩
      . rintro j σ H4 hj ⟨v,ys,rfl,oH,QJ,hyl,hys,Ku,QK⟩;have hDp:D≠p:=(OJ.ne hD).symm;left;refine⟨p,_,rfl,Ku,by decide,by decide,λf H5 hf0 hf1 K_ S_=>?_⟩;obtain⟨n,rfl,qkw,hnl⟩:=sJ hf0 hf1;simp -dsimp[aq,stC,-Bool.exists_bool,-List.map_take,-Prod.forall,-Prod.exists,zU,hnl];have s20:=qnT Cu;refine⟨_,S_ _ _ hDp oH,by rw[ql2];exact zn4 hj FJ hyl,ys++[⟨#[97+n]⟩],by rw[ak];simp,by rw[aB (hDr hD)];exact S_ _ _ pr QJ,by simp[hyl],λy hy=>?_,K_.upd hDp.symm,(QK.trans S_).new (jG.none (hB.trans hB3) OJ hD)⟩
        rcases qmh.mp hy with hy | hy
        ·exact hys y hy
        ·exact⟨n,qkw,by simpa using hy⟩
      . rintro σ H4 ⟨v,ys,rfl,oH,QJ,hyl,hys,Ku,QK⟩;have hy3:=sW ys hys;left;have hw4:=(qu.one qkv).glue (by decide) hys;have s20:=qnT Cu;refine⟨ys,oH,by rw[hy3.2.2];exact zn5 hyl FJ,?_⟩;simp -dsimp[aq,stC,-Bool.exists_bool,-List.map_take,-Prod.forall,-Prod.exists,zU,hcl];have hlen:(⟨#[97+c]⟩:Str).length+(Txt.join (Str.ofString "") ys).length=1+ys.length:=by
          rw[<- hw4.len];exact(Array.size_append).symm
        refine⟨⟨_,aX.of QJ⟩,by rw[hlen];exact qkp (zn6 hyl FJ) (by decide),_,QJ,by rw[ql2,hl];exact zsz hi (qmq h9 (by decide)),ws++[_],by rw[ak];simp;rfl,by simp[hl],λj y e=>?_,Ku.upd pr.symm,QK.new (jG.none hB2 hP2 hr0)⟩
        by_cases hj:j<ws.length
        ·rw[ql9 hj] at e;exact hw j y e
        . rw[qma (Nat.not_lt.mp hj)] at e;cases hk:j - ws.length with
          | zero=>
            rw[hk] at e;simp at e;subst e;have ej:j=i:=(zn8 hj hk).trans hl;subst ej;exact⟨1+ys.length,qnu 1 _,zn6 hyl FJ,by rw[<- hc'];exact hw4⟩
          | succ k=>
            rw[hk] at e;simp at e
    . rintro σ H' ⟨v8,v9,v10,ws,rfl,hr',hl,hw,hP,hB⟩;left;have nd:ws.Nodup:=by
        unfold List.Nodup;rw[List.pairwise_iff_getElem];intro i j hi hj hij e;obtain⟨k1,_,_,w1⟩:=hw i _ (by simp[hi]:ws[i]? = some ws[i]);obtain⟨k2,_,_,w2⟩:=hw j _ (by simp[hj]:ws[j]? = some ws[j]);have z:=w1.fst;rw[e,w2.fst] at z;simp at z;exact zn7 hi hj hij (by rw[hl];exact h9) z
      refine q r ws H' (jG.none hB2 hP2 hr0) hr' ⟨⟨by rw[hl];exact h1,by rw[hl];exact h9⟩,λx hx=>?_,nd⟩ hl hP hB;obtain⟨j,hj,e⟩:=qoe.mp hx;obtain⟨k,k1,k4,w⟩:=hw j x (by simp[hj,e]);exact w.name k1 k4
theorem bA.perm {H:Hp} {vs ys:List V} {ps:List (Str×Str)} (h:bA H vs ps) (hp:ys.Perm vs):∃qs:List (Str×Str),bA H ys qs/\qs.Perm ps:=by
  have e1:vs=(vs.zip ps).map (·.1):=by rw[List.map_fst_zip (by rw[h.1];exact qlY _)]
  have e2:ps=(vs.zip ps).map (·.2):=by rw[List.map_snd_zip (by rw[h.1];exact qlY _)]
  obtain⟨l',pl,e⟩:=wU hp _ e1;refine⟨l'.map (·.2),⟨by rw[e];simp,λi v d h1 h2=>?_⟩,by rw[e2];exact pl.map _⟩;rw[e,qmc] at h1;rw[qmc] at h2;cases hz:l'[i]? with
  | none=>rw[hz] at h1;cases h1
  | some z=>
    rw[hz] at h1 h2;cases h1;cases h2;have hm:z∈vs.zip ps:=pl.mem_iff.mp (qlX hz);obtain⟨j,hj,ez⟩:=qoe.mp hm;have hj':j<vs.length/\j<ps.length:=by
      simp at hj;omega
    simp at ez;subst ez;exact h.2 j _ _ (by simp[hj'.1]) (by simp[hj'.2])
theorem bA.at {H:Hp} {vs:List V} {ps:List (Str×Str)} (h:bA H vs ps) {i:Nat} {v:V} (hv:vs[i]? = some v):∃e,ps[i]? = some e/\∃t,v = .ref t/\H t=some (.tup [.str e.1,.str e.2]):=by
  have hi:i<ps.length:=by rw[<- h.1];exact(qlT.mp hv).1
  exact⟨ps[i],by simp[hi],h.2 i v _ hv (by simp[hi])⟩
theorem bA.but {p:Addr} {H H':Hp} {vs:List V} {ps:List (Str×Str)} (h:bA H vs ps) (hp:jG H p) (b:But p H H'):bA H' vs ps:=h.keep λc xs e=>b c _ (λz=>by
  subst z;obtain⟨_,_,u,_⟩:=hp;rw[e] at u;cases u) e
theorem bA.same {H H':Hp} {vs:List V} {ps:List (Str×Str)} (h:bA H vs ps) (b:Same H H'):bA H' vs ps:=h.keep λc xs e=>b c _ e
theorem jG.nl {p q:Addr} {H:Hp} (x:jG H p) (h:H q = .none):q≠p:=λz=>(x.ne h) z.symm
def qeG:Sp:=λvs H Q _=>∃(p:Addr) (m k:Nat),vs=[.ref p,.int m,.int k]/\jG H p/\1<=m/\m<=9/\m<=k/\k<=20/\∀(t n l:Addr) (xs:List Str) (tv:List V) (ps:List (Str×Str)) (H':Hp),
  H t=none->H n=none->H l=none->H' t=some (.tup [.ref n,.ref l])->H' n=some (.lst (xs.map V.str))->H' l=some (.lst tv)->bA H' tv ps->S7 xs->wg xs ps->xs.length<=m->ps.length<=k->jG H' p->But p H H'->Q (.ref t) H'
theorem qeH (T:Txt K mg a):bN P w K mg base ig 3 a.Ac a.Km ["_law_pot_here", "_law_points", "_law_most"] qeG:=by
  exists T.Zb.lK,qM
  ·obtain⟨p,m,k,rfl,_⟩:=h;rfl
  . obtain⟨p,m,k,rfl,hp,h1,h9,hmk,hk,q⟩:=h;refine⟨_,(aC (bC (i:=3) qM.nd rfl (Or.inl rfl) (PE.eqv (aG (Zi T) hr.d rfl T.SM T.Kq.kp T.SJ .nil aR (aj (aH 0) (aj (bT jm aK (PE.eqv (aG (iI T) hr.d rfl T.jQ T.jC.kp T.jP .nil aR (aj (aH 0) (aj (aH 1) ao))) (aF _ _ _))) ao))) (aF _ _ _)))
      (aC (bC (i:=4) qM.nd rfl (Or.inl rfl) (PE.eqv (aG (iI T) hr.d rfl T.jQ T.jC.kp T.jP .nil aR (aj (aH 0) (aj aK ao))) (aF _ _ _)))
      (aC (bC (i:=5) qM.nd rfl (Or.inl rfl) (dX ao))
      (aC (dJ (bh sX (aM (bO (K:=K) rfl) rfl T.nm.len ql8 (aj (aH 3) ao)) aK (bK _)) (aC (bC (i:=6) qM.nd rfl (Or.inr rfl) (PE.eqv (aG (Ef T) hr.d rfl T.Bq T.yD.kp T.Bp .nil aR (aj (aH 0) (aj (aH 3) ao))) (aF _ _ _)))
      (aC (dJ (bh sX (aH 4) aK (bK _)) (aD (gw (i:=5) qM.nd rfl rfl rfl rfl (show aN (aA HF) _ ["_law_pot_here", "_law_points", "_law_most", "_law_names_here", "_law_kind", "_law_ties", "_law_row", "_law_k", "_law_turns"] ["_law_k"] [6] ["_law_k", "_law_row"] from by rfl') rfl (PI.eqv (GJ rfl T.nm.range (aj (iW Qg rfl T.nm.int G6 (aj (gO lJ (aH 4) aK (bK _)) ao)) (aj (aM (bO (K:=K) rfl) rfl T.nm.len ql8 (aj (aH 6) ao)) ao))) (Hl _)) (λC s H fp pn=>(aJ (i:=0) (show(["_law_k", "_law_row"]:List Str).Nodup by symm) rfl (Or.inl rfl))) (λC s H fp pn=>bM) (λC s H fp pn=>(iM (aj (cR (dh (K:=K) rfl) (aH 1) (bT nM (aH 0) aK) (λ_ _=>rfl)) (aj (cR (dh (K:=K) rfl) (aH 1) (aH 0) (λ_ _=>rfl)) ao)))))) bG)
      (aD (jH qmU rfl (PI.eqv (uh rfl T.nm.range (aj (PE.eqv (aG (iI T) hr.d rfl T.jQ T.jC.kp T.jP .nil aR (aj (aH 0) (aj (bT jm (bT nM (aH 2) (aM (bO (K:=K) rfl) rfl T.nm.len ql8 (aj (aH 5) ao))) aK) ao))) (aF _ _ _)) ao)) (um _)) (aJ (i:=7) qM.nd rfl (Or.inl rfl))
      (aD (fG (mR (K:=K) rfl qmM qng qnh jL (aH 5) (aj (PE.eqv (aG (qeF T) hr.d rfl T.qcN T.Za.kp T.qcM .nil aR (aj (aH 0) (aj (aH 3) ao))) (aF _ _ _)) ao)))))))) bG)
      (aC (gw (i:=8) qM.nd rfl rfl rfl rfl (show aN (aA HF) _ ["_law_pot_here", "_law_points", "_law_most", "_law_names_here", "_law_kind", "_law_ties", "_law_row", "_law_k", "_law_turns"] ["_law_tie_here"] [0] ["_law_tie_here", "_law_pot_here"] from by rfl') rfl (PI.eqv (bB (K:=K) rfl (aH 5)) (bx _ _)) (λC s H fp pn=>(aJ (i:=0) (show(["_law_tie_here", "_law_pot_here"]:List Str).Nodup by symm) rfl (Or.inl rfl))) (λC s H fp pn=>bM) (λC s H fp pn=>(PE.eqv (aG (iI T) hr.d rfl T.jQ T.jC.kp T.jP .nil aR (aj (aH 1) (aj aK ao))) (aF _ _ _))))
      (aC (gw (i:=5) qM.nd rfl rfl rfl rfl (show aN (aA HF) _ ["_law_pot_here", "_law_points", "_law_most", "_law_names_here", "_law_kind", "_law_ties", "_law_row", "_law_k", "_law_turns"] ["_law_turn", "_law_a", "_law_b"] [] ["_law_turn", "_law_a", "_law_b"] from by rfl') rfl (PI.eqv (qaH (K:=K) rfl rfl T.nm.zip (aj (aH 5) (aj (aH 8) ao))) (Yh _ _)) (λC s H fp pn=>(PG.eqv (cI (K:=K) (n:=2) rfl rfl (fP.eqv (aU (PG.eqv (cI (K:=K) (n:=2) rfl rfl (fP.eqv (aU (aJ (i:=1) (show(["_law_turn", "_law_a", "_law_b"]:List Str).Nodup by symm) rfl (Or.inl rfl)) (fP.eqv (aU (aJ (i:=2) (show(["_law_turn", "_law_a", "_law_b"]:List Str).Nodup by symm) rfl (Or.inl rfl)) (fP.mono cH eY)) (aV _ _))) (aV _ _))) (cM _ _ _)) (fP.eqv (aU (aJ (i:=0) (show(["_law_turn", "_law_a", "_law_b"]:List Str).Nodup by symm) rfl (Or.inl rfl)) (fP.mono cH eY)) (aV _ _))) (aV _ _))) (cM _ _ _))) (λC s H fp pn=>bM) (λC s H fp pn=>(cR (dh (K:=K) rfl) (dX (aj (iM (aj (aH 1) (aj (aH 2) ao))) (aj (iM (aj (aH 2) (aj (aH 1) ao))) ao))) (aH 0) (λ_ _=>rfl))))
      (aD (aZ (iM (aj (aH 3) (aj (PE.eqv (aG (Ef T) hr.d rfl T.Bq T.yD.kp T.Bp .nil aR (aj (aH 0) (aj (aH 5) ao))) (aF _ _ _)) ao))))))))))),?_⟩
    left;refine⟨p,_,rfl,hp,qkm h1,zlt h9 (by decide),λd H1 hd0 hd1 hP1 V7=>?_⟩;left;refine⟨p,d.toNat+1,?_,hP1,Nat.le_add_left 1 _,ztn hd0 hd1 h9,λn xs H2 hn hn2 hX hxl hP2 hB2'=>?_⟩
    ·simp;exact qko hd0 1
    have hxm:xs.length<=m:=by rw[hxl];exact ztn hd0 hd1 (qlY m)
    have hx9:=qmq hxm h9;have hB2:=V7.trans hB2';left;refine⟨p,_,rfl,hP2,by decide,by decide,λkd H3 hk0 hk1 OJ qgQ=>?_⟩;have hB3:=hB2.trans qgQ;have np:n≠p:=λz=>by subst z;obtain⟨_,_,u,_⟩:=hP1;rw[hn] at u;cases u
    have hn3:=qgQ _ _ np hn2;left;refine λL hL=>⟨_,.inl (aX.of (bV hn3 hL)),Cv (λσ H4=>∃v6 v7 L tv ps,σ=[some (.ref p),some (.int m),some (.int k),some (.ref n),some (.int kd),some (.ref L),v6,v7,none]/\H L=none/\H4 L=some (.lst tv)/\bA H4 tv ps/\wg xs ps/\ps.length<=k/\H4 n=some (.lst (xs.map V.str))/\jG H4 p/\But p H H4) ?_ ?_⟩
    . rintro σ H4 ⟨v6,v7,L,tv,ps,rfl,hL0,Zj,htv,hts,hpk,hn4,Ku,QK⟩;left;have Lp:L≠p:=hp.nl hL0;have QL:tv.length<=20:=by rw[htv.1];exact qmq hpk hk
      have s20:=qnT Cu;refine⟨⟨_,aX.of Zj⟩,λD hD=>K7 tv (λi σ H'=>∃v ds,σ=[v,some (.ref p)]/\H' D=some (.lst (ds.map V.int))/\ds.length=i/\(∀d∈ds,0<=d/\d<2)/\H' L=some (.lst tv)/\bA H' tv ps/\H' n=some (.lst (xs.map V.str))/\jG H' p/\But p H H') ⟨none,[],rfl,ak,rfl,by simp,bV Zj hD,htv.same (au hD),bV hn4 hD,Ku.upd (Ku.ne hD),QK.same (au hD)⟩ (λi σ H' _ h=>by
        obtain⟨_,_,_,_,_,_,z,_⟩:=h;exact aX.of z) ?_ ?_⟩
      . rintro i x σ H5 hi ⟨v,ds,rfl,Ax,hl,hds,hL5,qeI,hn5,K_,S_⟩;have hi2:i<tv.length:=(qlT.mp hi).1;left;refine⟨p,_,rfl,K_,by decide,by decide,λd H6 hd0 hd1 O1 Zk=>?_⟩;have Dp:D≠p:=Ku.nl hD;have LD:L≠D:=aL Zj hD;have nD:n≠D:=aL hn4 hD;have QM:=Zk _ _ Dp Ax;left;refine⟨_,QM,by rw[ql2,hl];exact zsz hi2 QL,ds++[d],by rw[ak];simp,by simp[hl],?_,by rw[aB LD];exact Zk _ _ Lp hL5,(qeI.but K_ Zk).keep (λc zs e=>wN e QM (by intro z;cases z)),by rw[aB nD];exact Zk _ _ np hn5,O1.upd (Dp.symm),(S_.trans Zk).new (jG.none QK Ku hD)⟩;intro z hz
        rcases qmh.mp hz with y | y
        ·exact hds z y
        ·simp at y;subst y;exact⟨hd0,hd1⟩
      . rintro σ H5 ⟨v,ds,rfl,Ax,hl,hds,hL5,qeI,hn5,K_,S_⟩;left;have hD0:=jG.none QK Ku hD;have LD:L≠D:=aL Zj hD;refine⟨⟨_,aX.of hL5⟩,⟨_,aX.of Ax⟩,λD2 hD2=>cmZ tv (ds.map V.int) (λi σ H'=>(∃o1 o2 o3,σ=[o1,o2,o3])/\∃tvs qs,H' D2=some (.lst tvs)/\bA H' tvs qs/\qs.length=i/\(∀e∈qs,e.1∈xs/\e.2∈xs/\e.1≠e.2)/\H' L=some (.lst tv)/\H' D=some (.lst (ds.map V.int))/\bA H' tv ps/\H' n=some (.lst (xs.map V.str))/\jG H' p/\But p H H') ⟨⟨_,_,_,rfl⟩,[],[],ak,⟨rfl,by simp⟩,rfl,by simp,bV hL5 hD2,bV Ax hD2,qeI.same (au hD2),bV hn5 hD2,K_.upd (K_.ne hD2),S_.same (au hD2)⟩ (by simp[hl]) (λi σ H' _ h=>by
          obtain⟨_,_,_,_,_,_,_,z1,z2,_⟩:=h;exact⟨aX.of z1,aX.of z2⟩) ?_ ?_⟩
        . rintro i x y t σ H6 hx hy ht ⟨⟨o1,o2,o3,rfl⟩,tvs,qs,qeJ,Gg,hql,hqs,hL6,QM,qeK,hn6,O1,Zk⟩;left;obtain⟨e,he,tt,rfl,htt⟩:=qeK.at hx;have hi2:i<tv.length:=(qlT.mp hx).1;have hem:=qlX he;rw[qmc] at hy;obtain⟨d,hd,rfl⟩:∃d,ds[i]? = some d/\y = .int d:=by
            cases z:ds[i]? with
            | none=>rw[z] at hy;cases hy
            | some d=>rw[z] at hy;exact⟨d,rfl,(qmp hy).symm⟩
          have hd2:=hds d (qlX hd);refine⟨_,dO.of ak,rfl,_,dO.of (bV htt ht),rfl,?_⟩;left;refine λp1 h1 p2 h2 p3 h3=>⟨_,.inl (aX.of ak),?_⟩;have hp1:=bV (u:=HO.lst [V.ref p1,V.ref p2]) (bV (u:=HO.tup [.str e.2,.str e.1]) (ak (H:=upd H6 t (HO.tup [V.ref tt,V.int d])) (a:=p1) (o:=HO.tup [.str e.1,.str e.2])) h2) h3;have hp2:=bV (u:=HO.lst [V.ref p1,V.ref p2]) (ak (H:=upd (upd H6 t (HO.tup [V.ref tt,V.int d])) p1 (HO.tup [.str e.1,.str e.2])) (a:=p2) (o:=HO.tup [.str e.2,.str e.1])) h3;have sm:=(((au (o:=HO.tup [V.ref tt,V.int d]) ht).trans (au (o:=HO.tup [.str e.1,.str e.2]) h1)).trans (au (o:=HO.tup [.str e.2,.str e.1]) h2)).trans (au (o:=HO.lst [V.ref p1,V.ref p2]) h3);generalize upd (upd (upd (upd H6 t (HO.tup [V.ref tt,V.int d])) p1 (HO.tup [.str e.1,.str e.2])) p2 (HO.tup [.str e.2,.str e.1])) p3 (HO.lst [V.ref p1,V.ref p2])=H9 at hp1 hp2 sm ⊢;have key:∃(pp:Addr) (e':Str×Str),Fl [V.ref p1,V.ref p2] d=some (.ref pp)/\H9 pp=some (.tup [.str e'.1,.str e'.2])/\e'.1∈xs/\e'.2∈xs/\e'.1≠e'.2:=by
            have ⟨q1,q2,q3⟩:=hts.ok e hem;have:d=0\/d=1:=z01 hd2.1 hd2.2
            rcases this with rfl | rfl
            ·exact⟨p1,e,rfl,hp1,q1,q2,q3⟩
            ·exact⟨p2,(e.2,e.1),rfl,hp2,q2,q1,qnx q3⟩
          obtain⟨pp,e',a1,hpp,k1,k2,k3⟩:=key;have D2n:=hD2;have D2p:D2≠p:=K_.nl hD2;have LD2:L≠D2:=aL hL5 hD2;have DD2:D≠D2:=aL Ax hD2;have nD2:n≠D2:=aL hn5 hD2;have qgR:=sm _ _ qeJ;have kp:d7 H9 (upd H9 D2 (.lst (tvs++[.ref pp]))):=λc zs e=>wN e qgR (by intro z;cases z);have hP9:jG H9 p:=by
            obtain⟨u1,u2,u3,u4⟩:=O1;exact⟨u1,u2,sm _ _ u3,u4⟩
          refine⟨_,a1,_,qgR,?_,_,ak,qs++[e'],((Gg.same sm).keep kp).snoc (kp _ _ hpp),by simp[hql],?_,by rw[aB LD2];exact sm _ _ hL6,by rw[aB DD2];exact sm _ _ QM,(qeK.same sm).keep kp,by rw[aB nD2];exact sm _ _ hn6,hP9.upd D2p.symm,(Zk.same sm).new (jG.none S_ K_ hD2)⟩
          ·rw[Gg.1,hql];exact zsz hi2 QL
          . intro z hz
            rcases qmh.mp hz with y | y
            ·exact hqs z y
            ·simp at y;subst y;exact⟨k1,k2,k3⟩
        . rintro σ H6 ⟨⟨o1,o2,o3,rfl⟩,tvs,qs,qeJ,Gg,hql,hqs,hL6,QM,qeK,hn6,O1,Zk⟩;left;have D2p:D2≠p:=K_.nl hD2;have qlI:=jG.none S_ K_ hD2;have tl:tvs.length=tv.length:=by rw[Gg.1,hql]
          refine⟨p,D2,_,rfl,O1,D2p,qeJ,by rw[tl];exact qmq QL (by decide),λl ys H7 hl0 hl7 hperm Tc QS=>?_⟩;left;intro t ht;obtain⟨rs,hrs,Kv⟩:=(Gg.but O1 QS).perm hperm;refine q t n l xs ys rs _ (jG.none (Zk.trans QS) Tc ht) (jG.none V7 hP1 hn) (jG.none Zk O1 hl0) ak (bV (QS _ _ np hn6) ht) (bV hl7 ht) (hrs.same (au ht)) hX ⟨?_,λe he=>hqs e (Kv.mem_iff.mp he)⟩ hxm ?_ (Tc.upd (Tc.ne ht)) ((Zk.trans QS).same (au ht))
          ·rw[Kv.length_eq,hql];exact QL
          ·rw[Kv.length_eq,hql,htv.1];exact hpk
    . intro N hN;refine fj.of (λh=>?_) (λh=>?_)
      . left;have hx2:2<=xs.length:=by simp at h;exact z2 h
        have qgS:upd H3 L (.lst []) n=some (.lst (xs.map V.str)):=bV hn3 hL;refine⟨p,n,_,rfl,OJ.upd (OJ.ne hL),np,qgS,by rw[ql2];exact qmq hx9 (by decide),λrw ys H4 hrw qgT hperm Ku qeL=>?_⟩;have QK:=(hB3.same (au hL)).trans qeL;obtain⟨zs,hzp,rfl⟩:=wU hperm xs rfl;have hzl:zs.length=xs.length:=hzp.length_eq;have qkx:zs.Nodup:=hzp.nodup_iff.mpr hX.nd;have hn4:=qeL _ _ np qgS;have Zj:H4 L=some (.lst []):=qeL _ _ (OJ.nl hL) ak;have hL0:=jG.none hB3 OJ hL;left;refine Cv (λσ H5=>∃v6 v7 L tv ps,σ=[some (.ref p),some (.int m),some (.int k),some (.ref n),some (.int kd),some (.ref L),v6,v7,none]/\H L=none/\H5 L=some (.lst tv)/\bA H5 tv ps/\wg xs ps/\ps.length<=m/\H5 n=some (.lst (xs.map V.str))/\jG H5 p/\But p H H5) ?_ ?_
        . rintro σ H5 ⟨v6,v7,L,tv,ps,rfl,hL0,hL5,htv,hts,hpm,hn5,K_,S_⟩;left;have Lp:L≠p:=hp.nl hL0;have QL:tv.length=ps.length:=htv.1;have s20:=qnT Cu;have htk:tv.length<=k:=by rw[QL];exact qmq hpm hmk
          refine⟨_,.inl (aX.of hL5),p,_,rfl,K_,zk1 htk,zk2 hk (by decide),λf H6 hf0 hf1 O1 qbJ=>?_⟩;left;refine⟨zlo hf0,Int.lt_trans hf1 (zk2 hk (by decide)),frR (λi σ H7=>∃v7 tv ps,σ=[some (.ref p),some (.int m),some (.int k),some (.ref n),some (.int kd),some (.ref L),v6,v7,none]/\H7 L=some (.lst tv)/\bA H7 tv ps/\wg xs ps/\ps.length+f.toNat<=k+i/\H7 n=some (.lst (xs.map V.str))/\jG H7 p/\But p H H7) ⟨v7,tv,ps,rfl,qbJ _ _ Lp hL5,htv.but K_ qbJ,hts,zk3 hf0 hf1 QL,qbJ _ _ np hn5,O1,S_.trans qbJ⟩ ?_ ?_⟩
          . rintro i σ H7 hi ⟨v7,tv,ps,rfl,hL7,Zm,qeM,hpl,hn7,Tc,QS⟩;left;refine⟨⟨_,aX.of hL7⟩,p,n,xs,rfl,Tc,np,hn7,hx2,hx9,hX.nd,λt x y H8 ht ht8 hx hy hxy hP8 hB8=>?_⟩;left;have hL8:=hB8 _ _ Lp hL7;have hl7:=Zm.1;have kp:d7 H8 (upd H8 L (.lst (tv++[.ref t]))):=λc zs e=>wN e hL8 (by intro z;cases z);have nL:n≠L:=λz=>by subst z;rw[jG.none V7 hP1 hn] at hL0;rw[hn7] at hL7;cases tv with
              | nil=>simp at hL7;rw[hL7] at hx2;simp at hx2
              | cons v tv=>
                obtain⟨e,_,u,rfl,_⟩:=Zm.at (i:=0) rfl;cases xs with
                | nil=>simp at hx2
                | cons x xs=>simp at hL7
            refine⟨_,hL8,zk4 hl7 hpl hi hk,_,ak,ps++[(x,y)],((Zm.but Tc hB8).keep kp).snoc (kp _ _ ht8),⟨by rw[qmb];exact Nat.succ_le_succ (zk5 hpl hi hk),?_⟩,by rw[qmb];exact zk6 hpl,by rw[aB nL];exact hB8 _ _ np hn7,hP8.upd Lp.symm,(QS.trans hB8).new hL0⟩;intro e he
            rcases qmh.mp he with z | z
            ·exact qeM.ok e z
            ·simp at z;subst z;exact⟨hx,hy,hxy⟩
          ·rintro σ H7 ⟨v7,tv,ps,rfl,hL7,Zm,qeM,hpl,hn7,Tc,QS⟩;left;exact hN _ _ ⟨_,_,L,tv,ps,rfl,hL0,hL7,Zm,qeM,zk7 hpl,hn7,Tc,QS⟩
        . intro N2 hN2;refine fj.of (λh=>?_) (λh=>?_)
          . left;obtain⟨lo,hlo,lo1⟩:∃lo:Nat,(if kd=3 then (1:Int) else 0)=lo/\lo<=1:=by
              split
              ·exact⟨1,rfl,qlY _⟩
              ·exact⟨0,rfl,by decide⟩
            simp only[hlo];have s20:=qnT Cu;refine⟨_,.inl (aX.of qgT),⟨qkn,zlt lo1 (by decide),zlt (by rw[ql2,hzl];exact hx9) (by decide)⟩,λD hD=>cmR (λi σ H5=>(∃o,σ=[o,some (.ref rw)])/\∃tvs qs,H5 D=some (.lst tvs)/\bA H5 tvs qs/\qs.length=i/\(∀e∈qs,e.1∈xs/\e.2∈xs/\e.1≠e.2)/\Same H4 H5) ⟨⟨_,rfl⟩,[],[],ak,⟨rfl,by simp⟩,rfl,by simp,au hD⟩ ?_ ?_⟩
            . rintro i σ H5 hi ⟨⟨o,rfl⟩,tvs,qs,Ax,Gg,hql,hqs,sm⟩;have hk:lo+i<zs.length:=by simp at hi;exact qkq hi
              obtain⟨j,vx,hj,ex,ax⟩:=Xm (xs:=zs.map V.str) (k:=lo+i) (by rw[ql2,hzl];exact hx2) (by simpa using hk);obtain⟨x,ex',rfl⟩:=iQ ex;have ey':zs[lo+i]? = some (zs[lo+i]'hk):=by simp[hk]
              have ay:Fl (zs.map V.str) ((lo+i:Nat):Int)=some (.str (zs[lo+i]'hk)):=bH (by rw[qmc,ey'];rfl);have c1:((lo+i:Nat):Int)=(lo:Int)+i:=Int.natCast_add ..;rw[c1] at ax ay;have sl:=aX.of (K:=K) (sm _ _ qgT);left;refine⟨_,.inl sl,_,ax,_,.inl sl,_,ay,λpt hpt=>?_⟩;have Dpt:=aL Ax hpt;have QM:upd H5 pt (.tup [.str x,.str (zs[lo+i]'hk)]) D=some (.lst tvs):=bV Ax hpt;have kp:d7 (upd H5 pt (.tup [.str x,.str (zs[lo+i]'hk)])) (upd (upd H5 pt (.tup [.str x,.str (zs[lo+i]'hk)])) D (.lst (tvs++[.ref pt]))):=λc zs e=>wN e QM (by intro z;cases z);have hl:=Gg.1;refine⟨_,QM,by rw[hl,hql];exact zsz (qnZ (Nat.le_add_left i lo) hk) (by rw[hzl];exact qmq hx9 (by decide)),_,ak,qs++[(x,zs[lo+i]'hk)],((Gg.same (au hpt)).keep kp).snoc (kp _ _ ak),by simp[hql],?_,aW (sm.trans (au hpt)) hD⟩;intro e he
              rcases qmh.mp he with z | z
              ·exact hqs e z
              ·simp at z;subst z;refine⟨hzp.mem_iff.mp (qlX ex'),hzp.mem_iff.mp (qlX ey'),λz=>hj ?_⟩;simp only at z;rw[<- z] at ey';exact Cj qkx ex' ey'
            . rintro σ H5 ⟨⟨o,rfl⟩,tvs,qs,Ax,Gg,hql,hqs,sm⟩;left;simp at hql;have hqm:qs.length<=m:=by rw[hql,hzl];exact qmq (Nat.sub_le ..) hxm
              have K_:jG H5 p:=by
                obtain⟨u1,u2,u3,u4⟩:=Ku;exact⟨u1,u2,sm _ _ u3,u4⟩
              exact hN2 _ _ ⟨_,_,D,tvs,qs,rfl,jG.none QK Ku hD,Ax,Gg,⟨qmq hqm (qmq h9 (by decide)),hqs⟩,hqm,sm _ _ hn4,K_,QK.same sm⟩
          ·left;exact hN2 _ _ ⟨_,_,L,[],[],rfl,hL0,Zj,⟨rfl,by simp⟩,⟨by simp,by simp⟩,by simp,hn4,Ku,QK⟩
      ·left;exact hN _ _ ⟨_,_,L,[],[],rfl,jG.none hB3 OJ hL,ak,⟨rfl,by simp⟩,⟨by simp,by simp⟩,by simp,bV hn3 hL,OJ.upd (OJ.ne hL),hB3.same (au hL)⟩
theorem qgU {m:Str} {u v:V} (h1:¬m = "names") (h2:¬m = "pairs"):∀p∈([("names",u),("pairs",v)]:List (Str×V)),¬m=p.1:=λp hp=>by
  simp at hp
  rcases hp with rfl | rfl
  ·exact h1
  ·exact h2
theorem eV.same {C:Addr} {H H':Hp} {o:Addr} {xs:List Str} {ps:List (Str×Str)} (h:eV C H o xs ps) (s:Same H H'):eV C H' o xs ps:=by
  obtain⟨dx,n,m,tv,h1,h2,h3,h4,h5⟩:=h.ex;exact⟨⟨dx,n,m,tv,s _ _ h1,s _ _ h2,s _ _ h3,bA.same h4 s,h5⟩⟩
theorem eV.ins {C:Addr} {H:Hp} {o:Addr} {xs:List Str} {ps:List (Str×Str)} (h:eV C H o xs ps) {m:Str} (h1:¬m = "names") (h2:¬m = "pairs"):∃dx fs,H o=some (.ins C dx fs)/\∀p∈fs,¬m=p.1:=by
  obtain⟨dx,n,mm,tv,e,_⟩:=h.ex;exact⟨dx,_,e,qgU h1 h2⟩
theorem oJ:¬(("ties" : Str) = "names")/\¬(("ties" : Str) = "pairs"):=by symm
theorem cC:¬(("points" : Str) = "names")/\¬(("points" : Str) = "pairs"):=by symm
theorem oK:¬(("many" : Str) = "names")/\¬(("many" : Str) = "pairs"):=by symm
def Eh (C:Addr):Sp:=λvs H Q _=>∃o d xs ps fx,vs=[.ref o,.ref d]/\eV C H o xs ps/\qf_ H d fx/\∀l tv H',H l=none->H' l=some (.lst tv)->dZ H' tv (fH fx ps 0)->tv.length<=40->Same H H'->Q (.ref l) H'
theorem Ei (T:Txt K mg a):bN P w K mg base ig 2 a.dz a.jw ["web", "fixed"] (Eh a.bD):=by
  exists T.pA.lK,gB
  ·obtain⟨o,d,xs,ps,fx,rfl,_⟩:=h;rfl
  . obtain⟨o,d,xs,ps,fx,rfl,hw,hfx,q⟩:=h;refine⟨_,(aC (bC (i:=2) gB.nd rfl (Or.inl rfl) (dX ao))
      (aC (jH qmU rfl (PI.eqv (wR (K:=K) rfl rfl T.nm2.enumerate (aj (PE.eqv (cT (aH 0) T.g_ T.m_ (oG T) hr.d T.mZ .nil aR) (cU _ _ _ _ _ _)) ao)) (qe _ _)) (PG.eqv (cI (K:=K) (n:=2) rfl rfl (fP.eqv (aU (aJ (i:=3) gB.nd rfl (Or.inl rfl)) (fP.eqv (aU (PG.eqv (cI (K:=K) (n:=2) rfl rfl (fP.eqv (aU (aJ (i:=4) gB.nd rfl (Or.inl rfl)) (fP.eqv (aU (aJ (i:=5) gB.nd rfl (Or.inl rfl)) (fP.mono cH eY)) (aV _ _))) (aV _ _))) (cM _ _ _)) (fP.mono cH eY)) (aV _ _))) (aV _ _))) (cM _ _ _))
      (aC (dJ (bh lJ (PE.eqv (LR (Ca hr) (aH 1) (aH 3) aK ⟨rfl,rfl,rfl,rfl⟩) (Ho _ _ _)) aK (bK _)) (aD (fG (mR (K:=K) rfl qmM qng qnh jL (aH 2) (aj (iM (aj (aH 3) (aj (aH 4) (aj (aH 5) ao)))) ao)))) bG)
      (aD (dJ (bh lJ (PE.eqv (LR (Ca hr) (aH 1) (aH 3) aK ⟨rfl,rfl,rfl,rfl⟩) (Ho _ _ _)) aK (bK _)) (aD (fG (mR (K:=K) rfl qmM qng qnh jL (aH 2) (aj (iM (aj (aH 3) (aj (aH 5) (aj (aH 4) ao)))) ao)))) bG))))
      (aD (aZ (aH 2))))),?_⟩
    obtain⟨dx,fs,hi,hno⟩:=hw.ins oJ.1 oJ.2;obtain⟨_,_,_,_,_,_,_,_,NQ⟩:=hw.ex;left;intro L hL;refine⟨_,_,bV hi hL,hno,o,xs,ps,rfl,hw.same (au hL),λl2 uI hl2 QT=>?_⟩;have sa:Same H (upd (upd H L (.lst [])) l2 (.lst uI)):=(au hL).trans (au hl2);have eL:upd (upd H L (.lst [])) l2 (.lst uI) L=some (.lst []):=bV ak hl2;have e2:upd (upd H L (.lst [])) l2 (.lst uI) l2=some (.lst uI):=ak;have yJ:=bA.same QT (au (o:=HO.lst uI) hl2);have L2n:L≠l2:=λz=>by subst z;rw[ak] at hl2;cases hl2
    generalize upd (upd H L (.lst [])) l2 (.lst uI)=H1 at sa eL e2 yJ ⊢;obtain⟨kvs,hd,hv⟩:=hfx;have dL:d≠L:=aL hd hL;left;refine⟨⟨_,aX.of e2⟩,frE uI (λi σ H'=>(∃v3 v4 v5 sv,σ=[some (.ref o),some (.ref d),some (.ref L),v3,v4,v5]/\H' L=some (.lst sv)/\dZ H' sv (fH fx (ps.take i) 0)/\sv.length<=2 * i)/\H' l2=some (.lst uI)/\bA H' uI ps/\Same H H') ⟨⟨_,_,_,[],rfl,eL,bI.nil,by simp⟩,e2,yJ,sa⟩ (λi σ H' _ h=>aX.of h.2.1) ?_ ?_⟩
    . rintro i x t σ H2 hi ht ⟨⟨v3,v4,v5,sv,rfl,hL2,hsv,hsl⟩,qgV,htv,s2⟩;have hi2:i<uI.length:=(qlT.mp hi).1;have tl:=htv.1;obtain⟨e,he,tt,rfl,htt⟩:=htv.at hi;rw[Jw fx he];unfold Jv;left;have st:Same H2 (upd H2 t (.tup [.int i,.ref tt])):=au ht;refine⟨_,dO.of ak,rfl,_,dO.of (st _ _ htt),rfl,isD (st _ _ (s2 _ _ hd)),_,qf7 i (st _ _ (s2 _ _ hd)),?_⟩;have tL:L≠t:=aL hL2 ht;have YK:=st _ _ hL2;have qeN:=st _ _ qgV;have yJ:=bA.same htv st;have s3:=s2.trans st;have qeO:=dZ.keep hsv (L2.d7.of st);generalize upd H2 t (.tup [.int i,.ref tt])=H3 at YK qeN yJ s3 qeO ⊢;have s60:60<=sizeLine:=by decide
      have add:∀(H3:Hp) (sv:List V) (S:List nH) (n:Nat) (x y:Str) (b:Addr),H3 L=some (.lst sv)->dZ H3 sv S->H3 b=none->H3 l2=some (.lst uI)->bA H3 uI ps->Same H H3->
          (upd (upd H3 b (.tup [.int n,.str x,.str y])) L (.lst (sv++[.ref b])) L=some (.lst (sv++[.ref b]))/\dZ (upd (upd H3 b (.tup [.int n,.str x,.str y])) L (.lst (sv++[.ref b]))) (sv++[.ref b]) (S++[(n,x,y)]))/\upd (upd H3 b (.tup [.int n,.str x,.str y])) L (.lst (sv++[.ref b])) l2=some (.lst uI)/\bA (upd (upd H3 b (.tup [.int n,.str x,.str y])) L (.lst (sv++[.ref b]))) uI ps/\Same H (upd (upd H3 b (.tup [.int n,.str x,.str y])) L (.lst (sv++[.ref b]))):=by
        intro H3 sv S n x y b YK hsv hb hl2 htv s3;have sb:Same H3 (upd H3 b (.tup [.int n,.str x,.str y])):=au hb;have kp:L2.d7 (upd H3 b (.tup [.int n,.str x,.str y])) (upd (upd H3 b (.tup [.int n,.str x,.str y])) L (.lst (sv++[.ref b]))):=L2.d7.set (sb _ _ YK) (by intro z e;cases e);refine⟨⟨ak,bI.snoc (dZ.keep (dZ.keep hsv (L2.d7.of sb)) kp) ⟨b,rfl,kp _ _ ak⟩⟩,by rw[aB L2n.symm];exact sb _ _ hl2,(bA.same htv sb).keep kp,aW (s3.trans sb) hL⟩
      rw[hv i,Mi];left;refine Cv (λσ H4=>(∃sv,σ=[some (.ref o),some (.ref d),some (.ref L),some (.int i),some (.str e.1),some (.str e.2)]/\H4 L=some (.lst sv)/\dZ H4 sv (fH fx (ps.take i) 0++if (fx i).getD 0=0 then [(i,e.1,e.2)] else [])/\sv.length<=2 * i+1)/\H4 l2=some (.lst uI)/\bA H4 uI ps/\Same H H4) ?_ ?_
      . rintro σ H4 ⟨⟨sv,rfl,Zj,qgW,qeP⟩,qgX,qgY,s4⟩;left;refine⟨isD (s4 _ _ hd),_,qf7 i (s4 _ _ hd),?_⟩;rw[hv i,Mi];left;refine fj.of (λh=>?_) (λh=>?_)
        . have h':(fx i).getD 1=1:=by simpa using h
          left;refine⟨⟨_,aX.of Zj⟩,λb hb=>?_⟩;refine⟨_,bV Zj hb,zs1 qeP hi2 tl NQ,?_⟩;obtain⟨⟨k1,k2⟩,k3,k4,k5⟩:=add H4 sv _ i e.2 e.1 b Zj qgW hb qgX qgY s4;refine⟨⟨_,k1,?_,by rw[qmb];exact zs2 qeP⟩,k3,k4,k5⟩;rw[if_pos h',<- qny];exact k2
        . have h':¬(fx i).getD 1=1:=by simpa using h
          left;refine⟨⟨_,Zj,?_,Nat.le_of_succ_le (zs2 qeP)⟩,qgX,qgY,s4⟩;rw[if_neg h',qmy];exact qgW
      . intro N hN;refine fj.of (λh=>?_) (λh=>?_)
        . have h':(fx i).getD 0=0:=by simpa using h
          left;refine⟨⟨_,aX.of YK⟩,λb hb=>?_⟩;refine⟨_,bV YK hb,zs1 (Nat.le_succ_of_le hsl) hi2 tl NQ,?_⟩;obtain⟨⟨k1,k2⟩,k3,k4,k5⟩:=add H3 sv _ i e.1 e.2 b YK qeO hb qeN yJ s3;refine hN _ _ ⟨⟨_,rfl,k1,?_,by rw[qmb];exact Nat.succ_le_succ hsl⟩,k3,k4,k5⟩;rw[if_pos h'];exact k2
        . have h':¬(fx i).getD 0=0:=by simpa using h
          left;refine hN _ _ ⟨⟨_,rfl,YK,?_,Nat.le_succ_of_le hsl⟩,qeN,yJ,s3⟩;rw[if_neg h',qmy];exact qeO
    ·rintro σ H2 ⟨⟨v3,v4,v5,sv,rfl,hL2,hsv,hsl⟩,qgV,htv,s2⟩;left;rw[htv.1,ql4] at hsv;have tl:=htv.1;exact q L sv H2 hL hL2 hsv (zs3 hsl tl NQ) s2
def Gh:Sp:=λvs H Q _=>∃(start:Str) (l:Addr) (tv:List V) (S:List nH) (xs:List Str),vs=[.str start,.ref l]/\H l=some (.lst tv)/\dZ H tv S/\start∈xs/\(∀s∈S,s.2.2∈xs)/\xs.length<=9/\
  ∀(d:Addr) (kvs:List (Key×V)) (R:BR) (H':Hp),H d=none->H' d=some (.dK kvs)->eX H' kvs R->OD S start R.length R->qkk S start R->mq H kvs->Same H H'->Q (.ref d) H'
theorem Gi (T:Txt K mg a):bN P w K mg base ig 1 a.eE a.j4 ["start", "steps"] Gh:=by
  exists T.qW.lK,cO
  ·obtain⟨start,l,tv,S,xs,rfl,_⟩:=h;rfl
  . obtain⟨start,l,tv,S,xs,rfl,hl,hS,hsx,hSx,h9,q⟩:=h;refine⟨_,(aC (bC (i:=2) cO.nd rfl (Or.inl rfl) (qaG (Xj (aH 0) (dX ao) qaF) rfl rfl (by simp) (by decide)))
      (aC (bC (i:=3) cO.nd rfl (Or.inl rfl) (dX (aj (aH 0) ao)))
      (aC (bC (i:=4) cO.nd rfl (Or.inl rfl) aK)
      (aC (Li qmU (bh oV (aH 4) (aM (bO (K:=K) rfl) rfl T.nm.len ql8 (aj (aH 3) ao)) (bK _))
      (aC (bC (i:=5) cO.nd rfl (Or.inl rfl) (cR (dh (K:=K) rfl) (aH 3) (aH 4) (λ_ _=>rfl)))
      (aC (jH qmU rfl (PI.eqv (bB (K:=K) rfl (aH 1)) (bx _ _)) (PG.eqv (cI (K:=K) (n:=3) rfl rfl (fP.eqv (aU (aJ (i:=6) cO.nd rfl (Or.inl rfl)) (fP.eqv (aU (aJ (i:=7) cO.nd rfl (Or.inl rfl)) (fP.eqv (aU (aJ (i:=8) cO.nd rfl (Or.inl rfl)) (fP.mono cH eY)) (aV _ _))) (aV _ _))) (aV _ _))) (cM _ _ _))
      (aD (dJ (PW.pt (Io (bh lJ (aH 7) (aH 5) (bK _)) (Bb (RX (PC.eqv (Ut (Ca hr) (aH 8) (aH 2)) (Qf _ _)))))) (aC (PS.eqv (qaE (Ca hr) (aH 2) (aH 8) (bT xg (PE.eqv (RN (Ca hr) (aH 2) (aH 5) (λ_ _=>rfl)) (Mw _ _)) (dX (aj (aH 6) ao))) rfl) (Yl _ _ _))
      (aD (fG (mR (K:=K) rfl qmM qng qnh jL (aH 3) (aj (aH 8) ao))))) bG)))
      (aD (PS.mono (qda (i:=4) cO.nd rfl (Or.inl rfl) aK qa7) qeh)))))
      (aD (aZ (aH 2))))))),?_⟩
    left;intro d hd p1 hp1;refine⟨bV ak hp1,[(Sum.inr start,.ref p1)],rfl,by simp,λrl hrl=>?_⟩;have em:vG [] [((Sum.inr start:Key),V.ref p1)]=[(Sum.inr start,.ref p1)]:=rfl;rw[em] at hrl ⊢;have dp1:d≠p1:=λz=>by subst z;rw[ak] at hp1;cases hp1
    have qeQ:H p1=none:=cg (au hd) hp1;have sa:Same H (upd (upd (upd H d (.dK [])) p1 (.lst [])) d (.dK [(Sum.inr start,.ref p1)])):=aW ((au hd).trans (au hp1)) hd;have qky:H rl=none:=cg sa hrl;have e1:upd (upd (upd H d (.dK [])) p1 (.lst [])) d (.dK [(Sum.inr start,.ref p1)]) d=some (.dK [(Sum.inr start,.ref p1)]):=ak;have e2:upd (upd (upd H d (.dK [])) p1 (.lst [])) d (.dK [(Sum.inr start,.ref p1)]) p1=some (.lst []):=by rw[aB dp1.symm];exact ak
    generalize upd (upd (upd H d (.dK [])) p1 (.lst [])) d (.dK [(Sum.inr start,.ref p1)])=H1 at sa hrl e1 e2 ⊢;have sb:=sa.trans (au (o:=.lst [.str start]) hrl);have dr:d≠rl:=aL e1 hrl;have qgZ:mq H [((Sum.inr start:Key),V.ref p1)]:=by
      intro kv hkv q hq;simp at hkv;subst hkv;cases hq;exact qeQ
    refine whB (λσ H'=>∃(n:Nat) (R:BR) (kvs:List (Key×V)) (o5 o6 o7 o8:Option V),σ=[some (.str start),some (.ref l),some (.ref d),some (.ref rl),some (.int n),o5,o6,o7,o8]/\H' d=some (.dK kvs)/\eX H' kvs R/\H' rl=some (.lst (R.map λyw=>.str yw.1))/\OD S start n R/\zq S start n=R/\mq H kvs/\n<=R.length/\Same H H')
      (λσ _=>qga 4 σ)
      ⟨0,[(start,[])],[(Sum.inr start,.ref p1)],none,none,none,none,rfl,bV e1 hrl,⟨rfl,?_⟩,ak,OD.begin S start,rfl,qgZ,by simp,sb⟩ ?_ Mz
    . intro i kv yw h1 h2;have hi:i=0:=by have:=(qlT.mp h1).1;simp at this;omega
      subst hi;simp at h1 h2;subst h1 h2;exact⟨rfl,p1,rfl,bV e2 hrl⟩
    . rintro σ H2 ⟨n,R,kvs,o5,o6,o7,o8,rfl,hd2,hW2,hr2,hB,hF,hN,hnR,s2⟩;have hR9:R.length<=9:=by
        have h1:=jJ hB.nd (hB.sub hsx hSx);simp at h1;omega
      left;refine⟨_,.inl (aX.of hr2),fj.of (λhlt=>?_) (λhlt=>?_)⟩
      . have hlt':n<R.length:=by simpa using hlt
        left;obtain⟨⟨hh,wh⟩,hR⟩:∃x,R[n]? = some x:=⟨R[n],by simp[hlt']⟩;refine⟨_,.inl (aX.of hr2),.str hh,bH (by rw[qmc,hR];rfl),⟨_,aX.of (s2 _ _ hl)⟩,Xl tv (λj σ H'=>∃(R:BR) (kvs:List (Key×V)) (o6 o7 o8:Option V),σ=[some (.str start),some (.ref l),some (.ref d),some (.ref rl),some (.int n),some (.str hh),o6,o7,o8]/\H' d=some (.dK kvs)/\eX H' kvs R/\H' rl=some (.lst (R.map λyw=>.str yw.1))/\lG S (S.take j) start n hh wh R/\xK (S.take j) hh wh (zq S start n)=R/\mq H kvs/\Same H H') ⟨R,kvs,o6,o7,o8,rfl,hd2,hW2,hr2,lG.enter hB hR,hF,hN,s2⟩ (λj σ H' _ h=>by
          obtain⟨_,_,_,_,_,_,_,_,_,_,_,_,z⟩:=h;exact aX.of (z _ _ hl)) ?_ ?_⟩
        . rintro j x σ H3 hj ⟨R,kvs,o6,o7,o8,rfl,hd3,Zn,hr3,hM,hF3,hN3,s3⟩;obtain⟨⟨sn,so,sg⟩,hs,t,rfl,ht⟩:=hS.at hj;have hR9:R.length<=9:=by
            have h1:=jJ hM.bf.nd (hM.bf.sub hsx hSx);simp at h1;omega
          have hFs:=Qv (S.take j) (sn,so,sg) hh wh (zq S start n);rw[hF3] at hFs;rw[take_one hs];left;refine⟨_,dO.of (s3 _ _ ht),rfl,?_⟩;left
          by_cases hoh:so=hh
          . subst hoh;refine fj.pos (by simp) ?_;left;refine⟨_,qf8 sg hd3,?_⟩;rw[Zn.qjU hM.bf.nd];refine fj.of (λhg=>?_) (λhg=>?_)
            . have hg':¬sg∈R.map (·.1):=by simpa using hg
              obtain⟨pw,hpw,qkz⟩:=Zn.some hM.bf.nd (qlX hM.hr);have hwl:=hM.bf.qjS (qlX hM.hr);have s20:=qnT Cu;left;refine⟨.ref pw,?_,λb hb=>?_⟩
              ·have:=qf8 so hd3;rw[hpw] at this;exact this
              refine⟨_,bV qkz hb,_,ak,by simp;omega,λc hc=>?_⟩;have s4:Same H3 (upd (upd H3 b (.lst [.int sn])) c (.lst (wh.map (λn:Nat=>V.int n)++[.int sn]))):=(au hb).trans (au hc);have ec:upd (upd H3 b (.lst [.int sn])) c (.lst (wh.map (λn:Nat=>V.int n)++[.int sn])) c=some (.lst (wh.map (λn:Nat=>V.int n)++[.int sn])):=ak;generalize upd (upd H3 b (.lst [.int sn])) c (.lst (wh.map (λn:Nat=>V.int n)++[.int sn]))=H4 at s4 ec ⊢;have hd4:=s4 _ _ hd3;have QJ:=s4 _ _ hr3;have hkl:=Zn.len;have epk:putK kvs (Sum.inr sg) (.ref c)=kvs++[(Sum.inr sg,.ref c)]:=Xd _ (Zn.none hg');refine⟨_,qjR sg hd4 (by omega),?_⟩;rw[epk];have hr5:upd H4 d (.dK (kvs++[(Sum.inr sg,.ref c)])) rl=some (.lst (R.map λyw=>.str yw.1)):=by rw[aB dr.symm];exact QJ
              have ne0:∀w:List Nat,R.map (λyw=>V.str yw.1)≠w.map (λn:Nat=>V.int n):=λw e=>by
                have hst:=hM.bf.st;cases R with
                | nil=>simp at hst
                | cons r R=>
                  cases w with
                  | nil=>simp at e
                  | cons n w=>simp at e
              have kp:∀(p:Addr) (w:List Nat),H4 p=some (.lst (w.map λn:Nat=>V.int n))->upd (upd H4 d (.dK (kvs++[(Sum.inr sg,.ref c)]))) rl (.lst (R.map (λyw=>V.str yw.1)++[.str sg])) p=some (.lst (w.map λn:Nat=>V.int n)):=λp w e=>by
                have h1:p≠d:=λz=>by subst z;rw[hd4] at e;cases e
                have h2:p≠rl:=λz=>by subst z;rw[QJ] at e;exact ne0 w (HO.lst.inj (qmp e))
                rw[aB h2,aB h1];exact e
              have ec':H4 c=some (.lst ((wh++[sn]).map λn:Nat=>V.int n)):=by rw[ec];simp
              refine⟨⟨_,aX.of hr5⟩,_,hr5,by simp;omega,R++[(sg,wh++[sn])],_,by rw[aB dr];exact ak,?_,by rw[ak];simp,hM.add (qlX hs) hg',hFs.trans (if_pos ⟨rfl,hg'⟩),hN3.snoc (cg (s3.trans (au hb)) hc),aW (aW (s3.trans s4) hd) qky⟩;refine eX.snoc (eX.keep (H:=H4) (eX.keep Zn λp w e=>s4 _ _ e) kp) (kp _ _ ec')
            . have hg':sg∈R.map (·.1):=by simpa using hg
              left;exact⟨R,kvs,hd3,Zn,hr3,hM.skip λ_=>hg',hFs.trans (if_neg (λz=>z.2 hg')),hN3,s3⟩
          ·refine fj.neg (by simp[hoh]) ?_;left;exact⟨R,kvs,hd3,Zn,hr3,hM.skip λz=>absurd z hoh,hFs.trans (if_neg (λz=>hoh z.1)),hN3,s3⟩
        . rintro σ H3 ⟨R,kvs,o6,o7,o8,rfl,hd3,Zn,hr3,hM,hF3,hN3,s3⟩;have hl3:S.take tv.length=S:=by rw[hS.1,ql4]
          rw[hl3] at hM hF3;left;have hlen:=(qlT.mp hM.hr).1;refine⟨⟨n+1,by omega,R,kvs,hd3,Zn,hr3,hM.leave,(Vb (by rw[hF];exact hR)).trans hF3,hN3,hlen,s3⟩,?_⟩;simp[qga];omega
      . have hlt':¬n<R.length:=by simpa using hlt
        have en:n=R.length:=by omega
        subst en;left;exact q d kvs R H2 hd hd2 hW2 hB hF hN s2
def tyD:PyData->String
  | .none=> "NoneType"
  | .bool _=> "bool"
  | .int _=> "int"
  | .str _=> "str"
  | .list _=> "list"
  | .tuple _=> "tuple"
  | .dict _=> "dict"
def NZ:PyData->Bool
  | .list _=>true
  | .tuple _=>true
  | _=>false
def intD:PyData->Bool
  | .int _=>true
  | .bool _=>true
  | _=>false
def qcT:PyData->Bool
  | .bool _=>true
  | _=>false
def wj:PyData->Bool
  | .int _=>true
  | _=>false
def ldD:PyData->Bool
  | .int i=>decide (0<=i) && decide (i<=1)
  | _=>false
def kids:PyData->List PyData
  | .list ds=>ds
  | .tuple ds=>ds
  | _=>[]
def ptg (n:Nat) (d:PyData):Bool:=NZ d && (decide ((kids d).length=n) && (kids d).all ldD)
theorem QV {H:Hp} {d:PyData} {v:V} (h:mj H d v):lF K H v (.type (tyD d)):=by
  cases d with
  | none=>simp only[mj] at h;subst h;exact .non
  | bool b=>simp only[mj] at h;subst h;exact .bl b
  | int i=>simp only[mj] at h;subst h;exact .int i
  | str x=>simp only[mj] at h;subst h;exact .str x
  | list ds=>simp only[mj] at h;obtain⟨a,xs,rfl,h1,_⟩:=h;exact .lst h1
  | tuple ds=>simp only[mj] at h;obtain⟨a,xs,rfl,h1,_⟩:=h;exact .tup h1
  | dict ds=>simp only[mj] at h;obtain⟨_,a,rfl,h1⟩:=h;exact .dK h1
theorem qbK (d:PyData):W.kitAny K (.type (tyD d)) [.type "list",.type "tuple"]=some (NZ d):=by
  cases d <;> simp[W.kitAny,W.kitOne,tyD,NZ] <;> rfl
theorem Zo (d:PyData):W.kitOne K (.type (tyD d)) (.type "int")=some (intD d):=by
  cases d with
  | none=>exact yX K
  | bool b=>exact Js K
  | int i=>exact Ma K
  | str x=>exact L_ K
  | list ds=>exact Jp K
  | tuple ds=>exact Fx K
  | dict ds=>exact Jt K
theorem Vm (d:PyData):W.kitOne K (.type (tyD d)) (.type "bool")=some (qcT d):=by
  cases d with
  | none=>exact wV K
  | bool b=>exact Fy K
  | int i=>exact Jr K
  | str x=>exact Jq K
  | list ds=>exact Fw K
  | tuple ds=>exact Cw K
  | dict ds=>exact Fz K
theorem qeR {H:Hp} {t:Addr} {ns:List Int} (h:Sq H t (ns.map V.int)):∃d,mj H d (.ref t)/\NZ d=true/\kids d=ns.map PyData.int:=by
  rcases h with h | h
  ·exact⟨.list (ns.map PyData.int),by simp only[mj];exact⟨t,_,rfl,h,bL.ints H ns⟩,rfl,rfl⟩
  ·exact⟨.tuple (ns.map PyData.int),by simp only[mj];exact⟨t,_,rfl,h,bL.ints H ns⟩,rfl,rfl⟩
theorem qeS {H:Hp} {d:PyData} {v:V} (h:mj H d v) (hs:NZ d=true):∃t xs,v = .ref t/\Sq H t xs/\bL H (kids d) xs:=by
  cases d with
  | list ds=>simp only[mj] at h;obtain⟨a,xs,rfl,h1,h2⟩:=h;exact⟨a,xs,rfl,.inl h1,h2⟩
  | tuple ds=>simp only[mj] at h;obtain⟨a,xs,rfl,h1,h2⟩:=h;exact⟨a,xs,rfl,.inr h1,h2⟩
  | _=>cases hs
def qbL (C:Addr):Sp:=λvs H Q _=>∃o xs ps,vs=[.ref o]/\eV C H o xs ps/\Q (.int ps.length) H
theorem oM (T:Txt K mg a):bN P w K mg base ig 1 a.fL a.n6 ["self"] (qbL a.bD):=by
  exists T.DK.lK,Nf
  ·obtain⟨o,xs,ps,rfl,_⟩:=h;rfl
  ·obtain⟨o,xs,ps,rfl,⟨dx,n,m,tv,h1,h2,h3,h4,h5⟩,q⟩:=h;refine⟨_,(aD (aZ (aM (bO (K:=K) rfl) rfl T.nm.len ql8 (aj (PE.eqv (Jk (K:=K) rfl (aH 0) rfl) (JK _ _ _)) ao)))),?_⟩;left;refine⟨_,_,_,h1,T.g_,T.Br,_,rfl,_,.inr (dO.of h3),?_⟩;rw[h4.1];exact q
def N5:Sp:=λvs H Q _=>∃(d:PyData) (v:V),vs=[v]/\mj H d v/\∀H',Same H H'->Q (.bl (NZ d)) H'
theorem N6 (T:Txt K mg a):bN P w K mg base ig 1 a.gW a.mW ["thing"] N5:=by
  exists T.fY.lK,Dl
  ·obtain⟨d,v,rfl,_⟩:=h;rfl
  ·obtain⟨d,v,rfl,hd,q⟩:=h;refine⟨_,(aD (aZ (aM (Ym (K:=K) rfl) rfl T.nm.isinstance boot_isinstance (aj (aH 0) (aj (iM (aj (lW (v:=.ty "list") rfl T.nm.list boot_list rfl) (aj (lW (v:=.ty "tuple") rfl T.nm.tuple boot_tuple rfl) ao))) ao))))),?_⟩;left;refine λt ht=>⟨_,_,ak,_,QV (mj.same (au ht) d v hd),_,qbK d,q _ (au ht)⟩
def N7:Sp:=λvs H Q _=>∃(d:PyData) (v:V),vs=[v]/\mj H d v/\Q (.bl (wj d)) H
theorem oN (T:Txt K mg a):bN P w K mg base ig 1 a.gC a.nU ["thing"] N7:=by
  exists T.jO.lK,M8
  ·obtain⟨d,v,rfl,_⟩:=h;rfl
  . obtain⟨d,v,rfl,hd,q⟩:=h;refine⟨_,(aD (aZ (nO (aM (CV (K:=K) rfl) rfl T.nm.isinstance boot_isinstance (aj (aH 0) (aj (lW (v:=.ty "int") rfl T.nm.int G6 rfl) ao))) (rZ (qaS (aM (CV (K:=K) rfl) rfl T.nm.isinstance boot_isinstance (aj (aH 0) (aj (lW (v:=.ty "bool") rfl T.nm2.bool Px rfl) ao)))))))),?_⟩;left;refine⟨_,QV hd,_,Zo d,?_⟩;cases hi:intD d with
    | false=>
      refine fj.neg rfl ?_;left;rw[show wj d=false by cases d <;> first | rfl | cases hi] at q
      exact q
    | true=>
      refine fj.pos rfl ?_;left;refine⟨_,QV hd,_,Vm d,?_⟩;rw[show wj d = !qcT d by cases d <;> first | rfl | cases hi] at q
      exact q
def QW:Sp:=λvs H Q _=>∃(d:PyData) (v:V),vs=[v]/\mj H d v/\Q (.bl (ldD d)) H
theorem QX (T:Txt K mg a):bN P w K mg base ig 2 a.iZ a.qP ["thing"] QW:=by
  exists T.zB.lK,Qy
  ·obtain⟨d,v,rfl,_⟩:=h;rfl
  . obtain⟨d,v,rfl,hd,q⟩:=h;refine⟨_,(aD (aZ (nO (PE.eqv (aG (oN T) hr.d rfl T.mY T.jO.kp T.mX .nil aR (aj (aH 0) ao)) (aF _ _ _)) (rZ (za qC qC aK (aH 0) aK))))),?_⟩;left;refine⟨d,v,rfl,hd,?_⟩;cases hw:wj d with
    | false=>
      rw[show ldD d=false by cases d <;> first | rfl | cases hw] at q
      left;exact q
    | true=>
      obtain⟨i,rfl⟩:∃i,d = .int i:=by cases d <;> first | exact⟨_,rfl⟩ | cases hw
      simp only[mj] at hd;subst hd;left;simp only[ldD] at q;refine fj.of (λh=>?_) (λh=>?_)
      ·rw[h] at q;left;exact q
      ·rw[h] at q;left;exact q
theorem pW:∀l:List Bool,sI (l.map V.bl) l
  | []=>rfl
  | b::l=>⟨b,_,rfl,rfl,pW l⟩
def Ej (C:Addr):Sp:=λvs H Q _=>∃(o:Addr) (v:V) (d:PyData) (xs:List Str) (ps:List (Str×Str)),vs=[.ref o,v]/\eV C H o xs ps/\mj H d v/\ps.length<=20/\
  ∀H',Same H H'->Q (.bl (ptg ps.length d)) H'
theorem Ek (T:Txt K mg a):bN P w K mg base ig 3 a.dB a.jx ["web", "thing"] (Ej a.bD):=by
  exists T.pB.lK,Dr
  ·obtain⟨o,v,d,xs,ps,rfl,_⟩:=h;rfl
  . obtain⟨o,v,d,xs,ps,rfl,hw,hd,NQ,q⟩:=h;refine⟨_,(aC (dJ (PW.pt (rJ (dI (cJ (PE.eqv (aG (N6 T) hr.d rfl T.jd T.fY.kp T.jc .nil aR (aj (aH 1) ao)) (aF _ _ _)))) (lD (bh vK (aM (bO (K:=K) rfl) rfl T.nm.len ql8 (aj (aH 1) ao)) (PE.eqv (cT (aH 0) T.g_ T.ni (oM T) hr.d T.m5 .nil aR) (cU _ _ _ _ _ _)) (bK _))))) (aD (aZ pR)) bG)
      (aD (aZ (aM (gU rfl) rfl T.nm.all gR (aj (bU rfl rfl (show aN (aA jW) _ ["web", "thing"] ["one"] [] ["one"] from by rfl') rfl (PI.eqv (nG (K:=K) rfl (aH 1)) (kE _ _)) (λC s H fp pn=>(aJ (i:=0) (show(["one"]:List Str).Nodup by symm) rfl (Or.inl rfl))) (λC s H fp pn=>bM) (λC s H fp pn=>(PE.eqv (aG (QX T) hr.d rfl T.HW T.zB.kp T.HS .nil aR (aj (aH 0) ao)) (aF _ _ _)))) ao))))),?_⟩
    left;refine⟨d,v,rfl,hd,λH1 s1=>?_⟩;cases hs:NZ d with
    | false=>
      left;have e:ptg ps.length d=false:=by unfold ptg;rw[hs];rfl
      rw[e] at q;exact q _ s1
    | true=>
      obtain⟨t,ys,rfl,hq,hall⟩:=qeS hd hs;obtain⟨dx,fs,hi,hno⟩:=(hw.same s1).ins oK.1 oK.2;have hq1:=hq.same s1;have hlen:=hall.length;left;refine⟨_,hq1.q,_,_,hi,hno,o,xs,ps,rfl,hw.same s1,?_⟩;left
      by_cases hn:ys.length=ps.length
      . refine⟨false,by simp[hn],fj.neg rfl ?_⟩;obtain⟨b,hb⟩:=hq1.b;left;refine⟨b,⟨_,hb K H1 (Same.refl _)⟩,λD hD=>cmQ ys (λi σ H'=>(∃o',σ=[o'])/\H' D=some (.lst ((((kids d).take i).map ldD).map V.bl))/\Same H1 H') ⟨⟨_,rfl⟩,ak,au hD⟩ (λi σ H' _ h=>hb K H' h.2.2) ?_ ?_⟩
        ·rintro i x σ H2 hi ⟨⟨o',rfl⟩,hD2,s2⟩;have hi2:i<ys.length:=(qlT.mp hi).1;obtain⟨c,hc,hx⟩:=hall.at hi;left;refine⟨c,x,rfl,mj.same (s1.trans s2) c x hx,?_⟩;left;refine⟨_,hD2,by rw[ql2,ql2];exact zsz (qnZ (List.length_take_le ..) hi2) (by rw[hn];exact NQ),?_,aW s2 hD⟩;rw[ak,List.take_add_one,hc];simp
        . rintro σ H2 ⟨⟨o',rfl⟩,hD2,s2⟩;left;refine⟨_,hD2,_,pW _,?_⟩;have e:ptg ps.length d=(((kids d).take ys.length).map ldD).all id:=by
            unfold ptg;rw[hs,<- hlen,ql4,qmz (by rw[hlen];exact hn),List.all_map];rfl
          rw[<- e];exact q _ (s1.trans s2)
      . refine⟨true,by simp;exact λz=>hn (Int.ofNat.inj z),fj.pos rfl ?_⟩;left;have e:ptg ps.length d=false:=by unfold ptg;rw[qmA (by rw[hlen];exact hn)];simp
        rw[e] at q;exact q _ s1
theorem Td:∀{ns:List Int},(∀n∈ns,0<=n/\n<=1)->(ns.map PyData.int).all ldD=true
  | [],_=>rfl
  | n::ns,h=>by
    have h1:=h n ql6;rw[qmj,List.all_cons,Td λm hm=>h m (qlZ _ hm)];simp[ldD,h1]
theorem Zq {d:PyData} {ns:List Int} (h1:NZ d=true) (h2:kids d=ns.map PyData.int) (h01:∀n∈ns,0<=n/\n<=1):ptg ns.length d=true:=by
  unfold ptg;rw[h1,h2,Td h01];simp
def Zr (C:Addr) (H:Hp) (o t:Addr) (xs:List Str) (ps:List (Str×Str)) (ns:List Int):Prop:=eV C H o xs ps/\Sq H t (ns.map V.int)/\(∀n∈ns,0<=n/\n<=1)/\ns.length=ps.length/\ps.length<=20
def uN (C:Addr):Sp:=λvs H Q _=>∃(o t:Addr) (xs:List Str) (ps:List (Str×Str)) (ns:List Int),vs=[.ref o,.ref t]/\Zr C H o t xs ps ns/\∀H',Same H H'->Q .non H'
theorem lV (T:Txt K mg a):bN P w K mg base ig 4 a.bQ a.fu ["web", "thing"] (uN a.bD):=by
  exists T.fO.lK,uM
  ·obtain⟨o,t,xs,ps,ns,rfl,_⟩:=h;rfl
  ·obtain⟨o,t,xs,ps,ns,rfl,⟨hw,ht,h01,hl,NQ⟩,q⟩:=h;refine⟨_,(aD (dJ (dI (cJ (PE.eqv (aG (Ek T) hr.d rfl T.u6 T.pB.kp T.u5 .nil aR (aj (aH 0) (aj (aH 1) ao))) (aF _ _ _)))) (aD iu) bG)),?_⟩;obtain⟨d,hd,hs,hk⟩:=qeR ht;left;refine⟨o,.ref t,d,xs,ps,rfl,hw,hd,NQ,λH1 s1=>?_⟩;rw[<- hl,Zq hs hk h01];left;exact q _ s1
def Kw (C:Addr):Sp:=λvs H Q _=>∃(o:Addr) (xs:List Str) (ps:List (Str×Str)) (k:Int),vs=[.ref o,.int k]/\eV C H o xs ps/\0<=k/\k<ps.length/\Q (.bl true) H
theorem Ky (T:Txt K mg a):bN P w K mg base ig 2 a.fC a.mJ ["web", "thing"] (Kw a.bD):=by
  exists T.tQ.lK,Kf
  ·obtain⟨o,xs,ps,k,rfl,_⟩:=h;rfl
  ·obtain⟨o,xs,ps,k,rfl,hw,h0,h1,q⟩:=h;refine⟨_,(aD (aZ (nO (PE.eqv (aG (oN T) hr.d rfl T.mY T.jO.kp T.mX .nil aR (aj (aH 1) ao)) (aF _ _ _)) (rZ (za qC oV aK (aH 1) (PE.eqv (cT (aH 0) T.g_ T.ni (oM T) hr.d T.m5 .nil aR) (cU _ _ _ _ _ _))))))),?_⟩;obtain⟨dx,fs,hi,hno⟩:=hw.ins oK.1 oK.2;left;refine⟨.int k,_,rfl,by simp[mj],?_⟩;simp only[wj];left;refine fj.pos (qmz h0) ?_;left;refine⟨_,_,hi,hno,o,xs,ps,rfl,hw,?_⟩;left;rw[qmz h1];exact q
theorem El:∀xs:List Int,keysOf (xs.map V.int)=xs.map Sum.inl
  | []=>rfl
  | x::xs=>by
    show Sum.inl x::keysOf (xs.map V.int)=_;rw[El xs];rfl
theorem qeT {xs:List Int} (h:xs.Nodup):(Fo (λi=>(keysOf (xs.map V.int))[i]?.getD (Sum.inl 0)) (xs.map V.int).length).length=xs.length:=by
  rw[El,ql2];refine(Pz _ xs.length λi j hi hj e=>?_).1;simp[hi,hj] at e;exact(List.getElem_inj h).mp e
theorem N8 {xs:List Int} {i:Nat} {x:V} (h:(xs.map V.int)[i]? = some x):∃z,xs[i]? = some z/\x = .int z:=by
  rw[qmc] at h;cases e:xs[i]? with
  | none=>rw[e] at h;cases h
  | some z=>
    rw[e] at h;exact⟨z,rfl,(qmp h).symm⟩
structure Nrs (n:Nat) (ks:List Int):Prop where
  ok:∀k∈ks,0<=k/\k<n
  nd:ks.Nodup
  len:ks.length<=20
def Em (C:Addr):Sp:=λvs H Q _=>∃(o t:Addr) (xs:List Str) (ps:List (Str×Str)) (ks:List Int),vs=[.ref o,.ref t]/\eV C H o xs ps/\Sq H t (ks.map V.int)/\Nrs ps.length ks/\∀H',Same H H'->Q (.bl true) H'
theorem En (T:Txt K mg a):bN P w K mg base ig 3 a.dj a.jt ["web", "thing"] (Em a.bD):=by
  exists T.o_.lK,Dm
  ·obtain⟨o,t,xs,ps,ks,rfl,_⟩:=h;rfl
  . obtain⟨o,t,xs,ps,ks,rfl,hw,ht,hk,q⟩:=h;refine⟨_,(aC (dJ (PW.pt (rJ (dI (cJ (PE.eqv (aG (jR T) hr.d rfl T.jd T.fY.kp T.jc .nil aR (aj (aH 1) ao)) (aF _ _ _)))) (lD (dI (cJ (aM (gU rfl) rfl T.nm.all gR (aj (bU rfl rfl (show aN (aA jU) _ ["web", "thing"] ["one"] [0] ["one", "web"] from by rfl') rfl (PI.eqv (nG (K:=K) rfl (aH 1)) (kE _ _)) (λC s H fp pn=>(aJ (i:=0) (show(["one", "web"]:List Str).Nodup by symm) rfl (Or.inl rfl))) (λC s H fp pn=>bM) (λC s H fp pn=>(PE.eqv (aG (Ky T) hr.d rfl T.Ah T.tQ.kp T.Ag .nil aR (aj (aH 1) (aj (aH 0) ao))) (aF _ _ _)))) ao))))))) (aD (aZ pR)) bG)
      (aD (aZ (gO lJ (aM G_ rfl T.nm.len ql8 (aj (iW (G9 rfl) rfl T.nm.set G7 (aj (aH 1) ao)) ao)) (aM (bO (K:=K) rfl) rfl T.nm.len ql8 (aj (aH 1) ao)) (bK _))))),?_⟩
    left;refine⟨t,_,rfl,ht,λH1 s1=>?_⟩;have ht1:=ht.same s1;obtain⟨b,hb⟩:=ht1.b;left;refine⟨b,⟨_,hb K H1 (Same.refl _)⟩,λD hD=>cmQ (ks.map V.int) (λi σ H'=>(∃o',σ=[o',some (.ref o)])/\Same H1 H'/\H' D=some (.lst (List.replicate i (.bl true)))) ⟨⟨none,rfl⟩,au hD,ak⟩ (λi σ' H' _ h=>hb K H' h.2.1) ?_ ?_⟩
    ·rintro i x σ H2 hi ⟨⟨o',rfl⟩,s2,hD2⟩;obtain⟨k,hki,rfl⟩:=N8 hi;have hi2:i<ks.length:=(qlT.mp hki).1;have hk2:=hk.ok k (qlX hki);left;refine⟨o,xs,ps,k,rfl,hw.same (s1.trans s2),hk2.1,hk2.2,?_⟩;left;refine⟨_,hD2,by rw[List.length_replicate];exact zsz hi2 hk.len,aW s2 hD,?_⟩;rw[ak,<- qnk]
    ·rintro σ H2 ⟨⟨o',rfl⟩,s2,hD2⟩;have wC:=ht1.same s2;left;refine⟨_,hD2,_,je _,?_⟩;rw[show(List.replicate (ks.map V.int).length true).all id=true by simp];left;have l20:=hk.len;refine⟨_,wC.q,by simp[isKey],by simp;unfold scanBound;omega,λt3 ht3=>⟨_,ak,_,(wC.same (au ht3)).q,?_⟩⟩;rw[qmz (by rw[qeT hk.nd];simp)];exact q _ (s1.trans (s2.trans (au ht3)))
def La (ks ns:List Int):List Int:=ns.mapIdx λi n=>if ((i:Nat):Int)∈ks then 1 - n else n
theorem uJ (ks ns:List Int):(La ks ns).length=ns.length:=by unfold La;simp
theorem Eo {ks ns:List Int} {i:Nat} {n:Int} (h:ns[i]? = some n):(La ks ns)[i]? = some (if (i:Int)∈ks then 1 - n else n):=by
  unfold La;rw[List.getElem?_mapIdx,h];rfl
theorem qeU {ks ns:List Int} (h:∀n∈ns,0<=n/\n<=1):∀n∈La ks ns,0<=n/\n<=1:=by
  intro n hn;obtain⟨i,hi⟩:=qnr.mp hn;have hl:i<ns.length:=by rw[<- uJ ks ns];exact(qlT.mp hi).1
  have e:ns[i]? = some (ns[i]'hl):=qmg hl;rw[Eo e] at hi;have h1:=h _ (qlX e);cases hi;split
  ·omega
  ·exact h1
theorem qbM (ns:List Int):La [] ns=ns:=by
  refine List.ext_getElem? λi=>?_;unfold La;rw[List.getElem?_mapIdx];cases ns[i]? <;> simp
theorem qbN (k:Int) (ks:List Int):inV (.int k) (ks.map V.int)=decide (k∈ks):=by
  unfold inV;rw[List.any_map]
  induction ks with
  | nil=>rfl
  | cons a ks ih=>
    rw[qnR,ih]
    by_cases e:a=k
    ·subst e;simp[Uc]
    ·simp[Uc,e,qnx e]
theorem Vn (ks:List Int):∀z∈ks.map V.int,ji z=true:=by
  intro z hz;obtain⟨k,_,rfl⟩:=qmw.mp hz;rfl
def Vo (C:Addr):Sp:=λvs H Q _=>∃(o t u:Addr) (xs:List Str) (ps:List (Str×Str)) (ns ks:List Int),vs=[.ref o,.ref t,.ref u]/\Zr C H o t xs ps ns/\Sq H u (ks.map V.int)/\Nrs ps.length ks/\
  ∀r H',H r=none->H' r=some (.lst ((La ks ns).map V.int))->Same H H'->Q (.ref r) H'
theorem Vp (T:Txt K mg a):bN P w K mg base ig 5 a.kZ a.uz ["web", "pointing", "numbers"] (Vo a.bD):=by
  exists T.DX.lK,Vg
  ·obtain⟨o,t,u,xs,ps,ns,ks,rfl,_⟩:=h;rfl
  . obtain⟨o,t,u,xs,ps,ns,ks,rfl,hp,hu,hk,q⟩:=h;refine⟨_,(aC (fG (PE.eqv (aG (lV T) hr.d rfl T.iU T.fO.kp T.iT .nil aR (aj (aH 0) (aj (aH 1) ao))) (aF _ _ _)))
      (aC (dJ (dI (cJ (PE.eqv (aG (En T) hr.d rfl T.uU T.o_.kp T.uT .nil aR (aj (aH 0) (aj (aH 2) ao))) (aF _ _ _)))) (aD iu) bG)
      (aD (aZ (bU rfl rfl (show aN (aA xO) _ ["web", "pointing", "numbers"] ["number", "lead"] [2] ["number", "lead", "numbers"] from by rfl') rfl (Yw (K:=K) rfl rfl T.nm2.enumerate (aj (aH 1) ao)) (λC s H fp pn=>(PG.eqv (cI (K:=K) (n:=2) rfl rfl (fP.eqv (aU (aJ (i:=0) (show(["number", "lead", "numbers"]:List Str).Nodup by symm) rfl (Or.inl rfl)) (fP.eqv (aU (aJ (i:=1) (show(["number", "lead", "numbers"]:List Str).Nodup by symm) rfl (Or.inl rfl)) (fP.mono cH eY)) (aV _ _))) (aV _ _))) (cM _ _ _))) (λC s H fp pn=>bM) (λC s H fp pn=>(BX (bh (CQ (K:=K) rfl) (aH 0) (aH 2) rfl) (bT nM aK (aH 1)) (aH 1)))))))),?_⟩
    left;refine⟨o,t,xs,ps,ns,rfl,hp,λH1 s1=>?_⟩;obtain⟨hw,ht,h01,hl,NQ⟩:=hp;left;refine⟨o,u,xs,ps,ks,rfl,hw.same s1,hu.same s1,hk,λH2 s2'=>?_⟩;have s2:=s1.trans s2';have hu2:=hu.same s2;obtain⟨b,hb⟩:=(ht.same s2).b;left;refine⟨b,⟨_,hb K H2 (Same.refl _)⟩,λD hD=>qkf (ns.map V.int) (λi σ H'=>(∃o1 o2,σ=[o1,o2,some (.ref u)])/\H' D=some (.lst (((La ks ns).take i).map V.int))/\Same H2 H') ⟨⟨_,_,rfl⟩,ak,au hD⟩ (λi σ H' _ h=>hb K H' h.2.2) ?_ ?_⟩
    . rintro i x e σ H3 hi he ⟨⟨o1,o2,rfl⟩,jE,s3⟩;obtain⟨n,hn,rfl⟩:=N8 hi;have hi2:i<ns.length:=(qlT.mp hn).1;have s4:Same H3 (upd H3 e (.tup [.int i,.int n])):=au he;have hu4:=hu2.same (s3.trans s4);have hDe:D≠e:=aL jE he;have oH:upd H3 e (.tup [.int i,.int n]) D=some (.lst (((La ks ns).take i).map V.int)):=s4 _ _ jE;refine⟨_,dO.of ak,rfl,?_⟩;left;refine⟨_,hu4.q,rfl,Vn ks,?_⟩;rw[qbN];have fin:∀y:Int,(La ks ns)[i]? = some y->∃ys,upd H3 e (.tup [.int i,.int n]) D=some (HO.lst ys)/\ys.length<sizeLine/\((∃o1 o2,[some (V.int i),some (V.int n),some (V.ref u)]=[o1,o2,some (V.ref u)])/\
          upd (upd H3 e (.tup [.int i,.int n])) D (.lst (ys++[V.int y])) D=some (.lst (((La ks ns).take (i+1)).map V.int))/\Same H2 (upd (upd H3 e (.tup [.int i,.int n])) D (.lst (ys++[V.int y])))):=λy hy=>
        ⟨_,oH,by rw[ql2];exact zsz (qnZ (List.length_take_le ..) hi2) (by rw[hl];exact NQ),⟨_,_,rfl⟩,by rw[ak,List.take_add_one,hy];simp,aW (s3.trans s4) hD⟩
      have ht:=Eo (ks:=ks) hn;refine fj.of (λh=>?_) (λh=>?_)
      ·rw[if_pos (qmn h)] at ht;left;obtain⟨ys,f1,f2,_,f4,f5⟩:=fin _ ht;exact⟨ys,f1,f2,f4,f5⟩
      ·rw[if_neg (qmP h)] at ht;left;obtain⟨ys,f1,f2,_,f4,f5⟩:=fin _ ht;exact⟨ys,f1,f2,f4,f5⟩
    ·rintro σ H3 ⟨⟨o1,o2,rfl⟩,jE,s3⟩;left;rw[ql2,<- uJ ks ns,ql4] at jE;exact q D H3 (cg s2 hD) jE (s2.trans s3)
theorem Ib:∀(xs:List V) (n k:Nat),kh (nums n xs) (Sum.inl ((n+k:Nat):Int):Key)=xs[k]?
  | [],n,k=>by simp[nums,kh]
  | x::xs,n,0=>by rw[nums,wO (by simp)];rfl
  | x::xs,n,k+1=>by
    rw[nums,wQ (by intro z;injection z with z;omega)];have:=Ib xs (n+1) k;rw[show n+1+k=n+(k+1) by omega] at this;rw[this];simp
def QZ (ns:List Int) (ps:List (Str×Str)):List nH:=fH (λk=>ns[k]?) ps 0
def Ie (C:Addr):Sp:=λvs H Q _=>∃(o t:Addr) (xs:List Str) (ps:List (Str×Str)) (ns:List Int),vs=[.ref o,.ref t]/\Zr C H o t xs ps ns/\
  ∀l tv H',H l=none->H' l=some (.lst tv)->dZ H' tv (QZ ns ps)->tv.length<=40->Same H H'->Q (.ref l) H'
theorem zF (T:Txt K mg a):bN P w K mg base ig 5 a.kY a.uy ["web", "pointing"] (Ie a.bD):=by
  exists T.tV.lK,Vf
  ·obtain⟨o,t,xs,ps,ns,rfl,_⟩:=h;rfl
  . obtain⟨o,t,xs,ps,ns,rfl,hp,q⟩:=h;refine⟨_,(aC (fG (PE.eqv (aG (lV T) hr.d rfl T.iU T.fO.kp T.iT .nil aR (aj (aH 0) (aj (aH 1) ao))) (aF _ _ _)))
      (aD (aZ (PE.eqv (aG (Ei T) hr.d rfl T.u0 T.pA.kp T.uZ .nil aR (aj (aH 0) (aj (Mq (K:=K) rfl rfl rfl T.nm2.dict rfl T.nm2.enumerate (aj (aH 1) ao)) ao))) (aF _ _ _))))),?_⟩
    left;refine⟨o,t,xs,ps,ns,rfl,hp,λH1 s1=>?_⟩;obtain⟨hw,ht,h01,hl,NQ⟩:=hp;left;refine⟨_,(ht.same s1).q,λd hd=>⟨o,d,xs,ps,(λk=>ns[k]?),rfl,hw.same (s1.trans (au hd)),⟨_,ak,λk=>?_⟩,λl tv H2 hl hl2 hst h40 s2=>q l tv H2 (cg (s1.trans (au hd)) hl) hl2 hst h40 ((s1.trans (au hd)).trans s2)⟩⟩;have:=Ib (ns.map V.int) 0 k;rw[qn1,qmc] at this;exact this
theorem Zt {ps:List (Str×Str)} {ns:List Int} (hlen:ns.length=ps.length) (h01:∀n∈ns,0<=n/\n<=1):QZ ns ps=jl ns ps 0:=Xv (λk=>ns[k]?) ps ns 0 (λi=>by rw[qn1]) hlen h01
def Vq (C:Addr):Sp:=λvs H Q _=>∃(o t:Addr) (xs:List Str) (ps:List (Str×Str)) (ns:List Int),vs=[.ref o,.ref t]/\Zr C H o t xs ps ns/\xs.length<=9/\
  ∀(r:Addr) (H':Hp),H r=none->H' r=some (.lst ((xs.map λx=>(((QZ ns ps).map (·.2.2)).count x:Int)).map V.int))->Same H H'->Q (.ref r) H'
theorem Ig (T:Txt K mg a):bN P w K mg base ig 6 a.k_ a.uD ["web", "pointing"] (Vq a.bD):=by
  exists T.yh.lK,HN
  ·obtain⟨o,t,xs,ps,ns,rfl,_⟩:=h;rfl
  . obtain⟨o,t,xs,ps,ns,rfl,hp,h9,q⟩:=h;refine⟨_,(aC (bC (i:=2) HN.nd rfl (Or.inr rfl) (bU rfl rfl (show aN (aA tE) _ ["web", "pointing", "goals"] ["number", "origin", "goal"] [] ["number", "origin", "goal"] from by rfl') rfl (PI.eqv (bB (K:=K) rfl (PE.eqv (aG (zF T) hr.d rfl T.yc T.tV.kp T.xZ .nil aR (aj (aH 0) (aj (aH 1) ao))) (aF _ _ _))) (bx _ _)) (λC s H fp pn=>(PG.eqv (cI (K:=K) (n:=3) rfl rfl (fP.eqv (aU (aJ (i:=0) (show(["number", "origin", "goal"]:List Str).Nodup by symm) rfl (Or.inl rfl)) (fP.eqv (aU (aJ (i:=1) (show(["number", "origin", "goal"]:List Str).Nodup by symm) rfl (Or.inl rfl)) (fP.eqv (aU (aJ (i:=2) (show(["number", "origin", "goal"]:List Str).Nodup by symm) rfl (Or.inl rfl)) (fP.mono cH eY)) (aV _ _))) (aV _ _))) (aV _ _))) (cM _ _ _))) (λC s H fp pn=>bM) (λC s H fp pn=>(aH 2))))
      (aD (aZ (bU rfl rfl (show aN (aA tE) _ ["web", "pointing", "goals"] ["point"] [2] ["point", "goals"] from by rfl') rfl (PI.eqv (bB (K:=K) rfl (PE.eqv (cT (aH 0) T.g_ T.cZ (dH T) hr.d T.cY .nil aR) (cU _ _ _ _ _ _))) (bx _ _)) (λC s H fp pn=>(aJ (i:=0) (show(["point", "goals"]:List Str).Nodup by symm) rfl (Or.inl rfl))) (λC s H fp pn=>bM) (λC s H fp pn=>(mR (K:=K) rfl qmM PySem.F.slot_list_count PySem.F.type_list_count (Ht (K:=K) rfl) (aH 1) (aj (aH 0) ao))))))),?_⟩
    have s60:60<=sizeLine:=by decide
    have hw:=hp.1;left;refine⟨o,t,xs,ps,ns,rfl,hp,λl tv H1 hl0 hl1 hS h40 s1=>?_⟩;left;refine⟨⟨_,aX.of hl1⟩,λD hD=>K7 tv (λi σ H'=>(∃o1 o2 o3,σ=[o1,o2,o3])/\H' D=some (.lst ((((QZ ns ps).take i).map (·.2.2)).map V.str))/\Same H1 H') ⟨⟨_,_,_,rfl⟩,ak,au hD⟩ (λi σ H' _ h=>aX.of (h.2.2 _ _ hl1)) ?_ ?_⟩
    ·rintro i x σ H2 hi ⟨⟨o1,o2,o3,rfl⟩,hD2,s2⟩;obtain⟨st,hst,t,rfl,ht⟩:=hS.at hi;have hi2:i<(QZ ns ps).length:=(qlT.mp hst).1;have wC:=s2 _ _ ht;have hlS:=hS.1;rw[take_one hst,qms,qms];left;refine⟨_,dO.of wC,rfl,_,hD2,by simp;omega,by rw[ak];simp,aW s2 hD⟩
    . rintro σ H2 ⟨⟨o1,o2,o3,rfl⟩,hD2,s2⟩;rw[hS.1,ql4] at hD2;have sH2:=s1.trans s2;obtain⟨dx,fs,hi,hno⟩:=(hw.same sH2).ins cC.1 cC.2;left;refine⟨_,_,hi,hno,o,xs,ps,rfl,hw.same sH2,λl2 hl2=>?_⟩;have s3:Same H2 (upd H2 l2 (.lst (xs.map V.str))):=au hl2;have e2:upd H2 l2 (.lst (xs.map V.str)) l2=some (.lst (xs.map V.str)):=ak;have jE:=s3 _ _ hD2;generalize upd H2 l2 (.lst (xs.map V.str))=H3 at s3 e2 jE ⊢;have sH3:=sH2.trans s3;left;refine⟨⟨_,aX.of e2⟩,λD2 Vr=>K7 (xs.map V.str) (λi σ H'=>(∃o',σ=[o',some (.ref D)])/\H' D2=some (.lst (((xs.take i).map λx=>(((QZ ns ps).map (·.2.2)).count x:Int)).map V.int))/\Same H3 H') ⟨⟨_,rfl⟩,ak,au Vr⟩ (λi σ H' _ h=>aX.of (h.2.2 _ _ e2)) ?_ ?_⟩
      ·rintro i x σ H4 hi ⟨⟨o',rfl⟩,oH,s4⟩;obtain⟨y,hy,rfl⟩:=iQ hi;have hi2:i<xs.length:=(qlT.mp hy).1;have Ax:=s4 _ _ jE;rw[take_one hy,qms,qms];left;refine⟨⟨_,aX.of Ax⟩,_,aX.of Ax,_,oH,by simp;omega,by rw[ak];simp,aW s4 Vr⟩
      ·rintro σ H4 ⟨⟨o',rfl⟩,oH,s4⟩;rw[ql2,ql4] at oH;left;exact q D2 H4 (cg sH3 Vr) oH (sH3.trans s4)
def inN (ns:List Int) (ps:List (Str×Str)) (x:Str):Nat:=(dU ns ps).count x
def dW (c:List Str):List (Str×Str)->Nat
  | []=>0
  | e::ps=>(if e.1∈c/\e.2∈c then 1 else 0)+dW c ps
theorem w6 {xs:List Str}:∀{ns:List Int} {ps:List (Str×Str)},(∀e∈ps,e.1∈xs/\e.2∈xs)->∀g∈dU ns ps,g∈xs
  | [],_,_,g,h=>by simp[dU] at h
  | _::_,[],_,g,h=>by simp[dU] at h
  | n::ns,e::ps,hp,g,h=>by
    simp only[dU,ql1] at h
    rcases h with rfl | h
    . have:=hp e ql6;unfold lZ;split
      ·exact this.2
      ·exact this.1
    ·exact w6 (λd hd=>hp d (qlZ _ hd)) g h
theorem N_ (c:List Str):∀{ns:List Int} {ps:List (Str×Str)},ns.length=ps.length->((dU ns ps).filter λx=>decide (x∈c)).length=pY c ns ps+dW c ps
  | [],[],_=>rfl
  | [],_::_,h=>by simp at h
  | _::_,[],h=>by simp at h
  | n::ns,e::ps,h=>by
    have ih:=N_ c (ns:=ns) (ps:=ps) (by simpa using h);simp only[dU,pY,dW];unfold vI lZ
    by_cases h0:n=0 <;> by_cases h1:e.1∈c <;> by_cases h2:e.2∈c <;> simp[h0,h1,h2] <;> omega
theorem sum_map_add {α:Type} (f g:α->Nat):∀l:List α,(l.map λx=>f x+g x).sum=(l.map f).sum+(l.map g).sum
  | []=>rfl
  | a::l=>by simp only[qmj,qnI];rw[sum_map_add f g l];omega
theorem Tf {α:Type} [DecidableEq α] (y:α):∀{l:List α},l.Nodup->(l.map λx=>if y=x then 1 else 0).sum=if y∈l then 1 else 0
  | [],_=>rfl
  | a::l,h=>by
    have ih:=Tf y (qmO.mp h).2;have na:=(qmO.mp h).1;simp only[qmj,qnI];rw[ih]
    by_cases e:y=a
    ·subst e;simp[na]
    ·simp[e]
theorem yK {xs:List Str} (nd:xs.Nodup) (p:Str->Bool):∀{L:List Str},(∀y∈L,y∈xs)->(L.filter p).length=((xs.filter p).map λx=>L.count x).sum
  | [],_=>by
    induction xs.filter p with
    | nil=>rfl
    | cons a l ih=>simpa using ih
  | y::L,h=>by
    have ih:=yK nd p (L:=L) λz hz=>h z (qlZ _ hz);have hy:=h y ql6;have e:((xs.filter p).map λx=>(y::L).count x).sum=((xs.filter p).map λx=>L.count x).sum+((xs.filter p).map λx=>if y=x then 1 else 0).sum:=by
      rw[<- sum_map_add];congr 1;refine qnF λx _=>?_;rw[List.count_cons]
      by_cases hyx:y=x <;> simp[hyx]
    rw[e,Tf y (List.Pairwise.filter _ nd),<- ih];simp only[qnc,qmd]
    by_cases hp:p y=true
    ·simp[hp,hy]
    ·simp[hp]
theorem Zu {α:Type} {f g:α->Nat}:∀{l:List α},(∀x∈l,f x<=g x)->(l.map f).sum<=(l.map g).sum
  | [],_=>qlY _
  | a::l,h=>by
    have h1:=h a ql6;have h2:=Zu λx hx=>h x (qlZ _ hx);simp only[qmj,qnI];omega
theorem Kz {α:Type} {f g:α->Nat}:∀{l:List α},(∀x∈l,f x<=g x)->∀{y},y∈l->f y<g y->(l.map f).sum<(l.map g).sum
  | a::l,h,y,hy,hlt=>by
    have h1:=h a ql6;have h2:=Zu λx hx=>h x (qlZ _ hx);simp only[qmj,qnI]
    rcases ql1.mp hy with rfl | hy
    ·omega
    ·have:=Kz (λx hx=>h x (qlZ _ hx)) hy hlt;omega
theorem Tg {b c x:Str}:∀{L:List Str} {n:Nat},L[n]? = some c->(L.set n b).count x+(if c=x then 1 else 0)=L.count x+(if b=x then 1 else 0)
  | [],n,h=>by simp at h
  | a::L,0,h=>by
    simp at h;subst h;simp only[List.set_cons_zero,List.count_cons,beq_iff_eq];omega
  | a::L,n+1,h=>by
    have ih:=Tg (b:=b) (x:=x) (L:=L) (n:=n) (by simpa using h);simp only[List.set_cons_succ,List.count_cons];omega
theorem Tj:∀{ns:List Int} {ps:List (Str×Str)} {j:Nat} {n:Int} {e:Str×Str},ns[j]? = some n->ps[j]? = some e->(dU ns ps)[j]? = some (lZ n e)
  | [],_,j,n,e,h,_=>by simp at h
  | _::_,[],j,n,e,_,h=>by simp at h
  | m::ns,d::ps,0,n,e,h1,h2=>by
    simp at h1 h2;subst h1 h2;rfl
  | m::ns,d::ps,j+1,n,e,h1,h2=>by
    simp only[dU,qnV];exact Tj (by simpa using h1) (by simpa using h2)
theorem Oa:∀{ns:List Int} {ps:List (Str×Str)} {j:Nat} {m:Int} {e:Str×Str},ps[j]? = some e->dU (ns.set j m) ps=(dU ns ps).set j (lZ m e)
  | [],ps,j,m,e,h=>by simp[dU]
  | _::_,[],j,m,e,h=>by simp at h
  | n::ns,d::ps,0,m,e,h=>by
    simp at h;subst h;rfl
  | n::ns,d::ps,j+1,m,e,h=>by
    simp only[List.set_cons_succ,dU];rw[Oa (by simpa using h)]
theorem Q0 {S:List nH} {a:Str} {w:List Nat} {vs:List Str} {b:Str} (h:rK S a w vs b):∀n∈w,∃u v,(n,u,v)∈S/\v∈vs:=by
  induction h with
  | nil=>intro n hn;cases hn
  | snoc _ q ih=>
    intro n hn
    rcases qmh.mp hn with hn | hn
    ·obtain⟨u,v,h1,h2⟩:=ih n hn;exact⟨u,v,h1,qmC _ h2⟩
    ·rw[qmu] at hn;subst hn;exact⟨_,_,q,by simp⟩
def lB (w:List Nat):List Int:=w.map λn:Nat=>(n:Int)
theorem Zv {w:List Nat} {n:Nat} {ns:List Int} {m:Int} (hn:n∉w) (h:ns[n]? = some m):La (lB (w++[n])) ns=(La (lB w) ns).set n (1 - m):=by
  apply List.ext_getElem?;intro i;rw[List.getElem?_set,uJ];cases hi:ns[i]? with
  | none=>
    have hl:ns.length<=i:=List.getElem?_eq_none_iff.mp hi;have hln:n<ns.length:=(qlT.mp h).1;rw[if_neg (by omega),qoa (by rw[uJ];exact hl),qoa (by rw[uJ];exact hl)]
  | some k=>
    rw[Eo hi,Eo hi]
    by_cases e:n=i
    ·subst e;rw[h] at hi;cases hi;have hln:n<ns.length:=(qlT.mp h).1;simp[lB,hln]
    ·simp only[lB,qms,qmj,List.map_nil,qmh,qmw,qmu,if_neg e];have:¬((i:Int)=(n:Int)):=λz=>e (by omega);simp[this]
theorem Zw {w:List Nat} {n:Nat} {ns:List Int} {m:Int} (hn:n∉w) (h:ns[n]? = some m):(La (lB w) ns)[n]? = some m:=by
  rw[Eo h,if_neg];intro z;obtain⟨k,hk,e⟩:=qmw.mp z;have:k=n:=by omega
  exact hn (this▸hk)
theorem Vs {ns:List Int} {ps:List (Str×Str)} (h01:∀n∈ns,0<=n/\n<=1) (hne:∀e∈ps,e.1≠e.2) {a:Str} {w:List Nat} {vs:List Str} {b:Str} (h:rK (jl ns ps 0) a w vs b) :
    vs.Nodup->(∀n∈w,n<ps.length)/\w.Nodup/\∀x,inN (La (lB w) ns) ps x+(if b=x then 1 else 0)=inN ns ps x+(if a=x then 1 else 0):=by
  induction h with
  | nil=>intro _;refine⟨by simp,by simp,λx=>?_⟩;simp[lB,qbM]
  | @snoc w vs b c n hp hq ih=>
    intro hnd;have nd1:vs.Nodup:=(List.nodup_append.mp hnd).1;have hcv:c∉vs:=λz=>(List.nodup_append.mp hnd).2.2 c z c (by simp) rfl;obtain⟨i1,i2,i3⟩:=ih nd1;obtain⟨j,m,e,a1,a2,a3⟩:=sY.mp hq;cases a3;have hnw:n∉w:=λhm=>by
      obtain⟨u,v,q1,q2⟩:=Q0 hp n hm;obtain⟨j',m',e',b1,b2,b3⟩:=sY.mp q1;cases b3;rw[a1] at b1;rw[a2] at b2;cases b1;cases b2;exact hcv q2
    have hln:n<ps.length:=(qlT.mp a2).1;refine⟨λk hk=>?_,?_,λx=>?_⟩
    . rcases qmh.mp hk with hk | hk
      ·exact i1 k hk
      ·rw[qmu] at hk;subst hk;exact hln
    ·rw[List.nodup_append];refine⟨i2,by simp,λk hk l hl=>?_⟩;rw[qmu] at hl;subst hl;exact λz=>hnw (z▸hk)
    . have g1:=Tg (b:=lZ (1 - m) e) (x:=x) (Tj (Zw hnw a1) a2);rw[<- Oa a2,<- Zv hnw a1] at g1;have m01:=h01 m (qlX a1);have eo:lZ (1 - m) e=vI m e:=by
        unfold lZ vI;obtain rfl | rfl:m=0\/m=1:=by omega
        ·simp
        ·simp
      rw[eo] at g1;have i4:=i3 x;unfold inN at i4 ⊢;omega
def muN (xs:List Str) (f g:Str->Nat):Nat:=(xs.map λx=>g x - f x).sum
theorem qg0 {xs:List Str} {f f' g:Str->Nat} {s e:Str} (hs:s∈xs) (h1:f s<g s) (h2:g e<f e) (h:∀x,f' x+(if e=x then 1 else 0)=f x+(if s=x then 1 else 0)):muN xs f' g<muN xs f g:=by
  have hse:s≠e:=λz=>by rw[z] at h1;omega
  refine Kz (y:=s) (λx _=>?_) hs ?_
  . have:=h x
    by_cases a:e=x
    ·subst a;rw[if_pos rfl,if_neg hse] at this;omega
    ·rw[if_neg a] at this;split at this <;> omega
  ·have:=h s;rw[if_neg hse.symm,if_pos rfl] at this;omega
def fZ (xs:List Str) (f g:Str->Int):List Str:=xs.filter λx=>decide (f x<g x)
theorem Zx {H:Hp} {tv:List V} {xs:List Str} {f g:Str->Int} {i:Nat} {v:V} (h:jM H tv (xs.map V.str) ((xs.map f).map V.int) ((xs.map g).map V.int) xs.length) (hv:tv[i]? = some v):∃t x,v = .ref t/\xs[i]? = some x/\H t=some (.tup [.str x,.int (f x),.int (g x)]):=by
  obtain⟨t,a,b,c,rfl,h1,h2,h3,h4⟩:=h.2 i v hv;obtain⟨x,hx,rfl⟩:=iQ h1;rw[qmc,qmc,hx] at h2 h3;cases h2;cases h3;exact⟨t,x,rfl,hx,h4⟩
def qbO (C:Addr):Sp:=λvs H Q _=>∃(o i g:Addr) (xs:List Str) (ps:List (Str×Str)) (f h:Str->Int),vs=[.ref o,.ref i,.ref g]/\eV C H o xs ps/\0<xs.length/\xs.length<=9/\H i=some (.lst ((xs.map f).map V.int))/\Sq H g ((xs.map h).map V.int)/\
  ∀(t l s:Addr) (H':Hp),H t=none->H l=none->H s=none->H' t=some (.tup [.ref l,.ref s])->H' l=some (.lst ((fZ xs f h).map V.str))->H' s=some (.lst ((fZ xs h f).map V.str))->Same H H'->Q (.ref t) H'
theorem Tn (T:Txt K mg a):bN P w K mg base ig 2 a.tK a.Bl ["web", "ins", "wanted"] (qbO a.bD):=by
  exists T.Kp.lK,Bk
  ·obtain⟨o,i,g,xs,ps,f,h,rfl,_⟩:=h;rfl
  . obtain⟨o,i,g,xs,ps,f,h,rfl,hw,h0,h9,hi,hg,q⟩:=h;refine⟨_,(aC (bC (i:=3) Bk.nd rfl (Or.inl rfl) (Qs (K:=K) rfl rfl rfl T.nm.list rfl T.nm.zip (aj (PE.eqv (cT (aH 0) T.g_ T.cZ (dH T) hr.d T.cY .nil aR) (cU _ _ _ _ _ _)) (aj (aH 1) (aj (aH 2) ao)))))
      (aC (gw (i:=4) Bk.nd rfl rfl rfl rfl (show aN (aA Dj) _ ["web", "ins", "wanted", "rows", "lacking", "spare"] ["point", "many", "goal"] [] ["point", "many", "goal"] from by rfl') rfl (PI.eqv (bB (K:=K) rfl (aH 3)) (bx _ _)) (λC s H fp pn=>(PG.eqv (cI (K:=K) (n:=3) rfl rfl (fP.eqv (aU (aJ (i:=0) (show(["point", "many", "goal"]:List Str).Nodup by symm) rfl (Or.inl rfl)) (fP.eqv (aU (aJ (i:=1) (show(["point", "many", "goal"]:List Str).Nodup by symm) rfl (Or.inl rfl)) (fP.eqv (aU (aJ (i:=2) (show(["point", "many", "goal"]:List Str).Nodup by symm) rfl (Or.inl rfl)) (fP.mono cH eY)) (aV _ _))) (aV _ _))) (aV _ _))) (cM _ _ _))) (λC s H fp pn=>(jj (bh oV (aH 1) (aH 2) (bK _)))) (λC s H fp pn=>(aH 0)))
      (aC (gw (i:=5) Bk.nd rfl rfl rfl rfl (show aN (aA Dj) _ ["web", "ins", "wanted", "rows", "lacking", "spare"] ["point", "many", "goal"] [] ["point", "many", "goal"] from by rfl') rfl (PI.eqv (bB (K:=K) rfl (aH 3)) (bx _ _)) (λC s H fp pn=>(PG.eqv (cI (K:=K) (n:=3) rfl rfl (fP.eqv (aU (aJ (i:=0) (show(["point", "many", "goal"]:List Str).Nodup by symm) rfl (Or.inl rfl)) (fP.eqv (aU (aJ (i:=1) (show(["point", "many", "goal"]:List Str).Nodup by symm) rfl (Or.inl rfl)) (fP.eqv (aU (aJ (i:=2) (show(["point", "many", "goal"]:List Str).Nodup by symm) rfl (Or.inl rfl)) (fP.mono cH eY)) (aV _ _))) (aV _ _))) (aV _ _))) (cM _ _ _))) (λC s H fp pn=>(jj (bh sX (aH 1) (aH 2) (bK _)))) (λC s H fp pn=>(aH 0)))
      (aD (aZ (iM (aj (aH 4) (aj (aH 5) ao)))))))),?_⟩
    have s60:60<=sizeLine:=by decide
    obtain⟨dx,fs,hin,hno⟩:=hw.ins cC.1 cC.2;left;refine⟨_,_,hin,hno,o,xs,ps,rfl,hw,λp1 hp1=>?_⟩;exists H,p1,(.lst (xs.map V.str)),s1,e1,H1,hp1;obtain⟨b3,hg3⟩:∃b3,SqK b3 K H1 g ((xs.map h).map V.int):=(hg.same s1).elim (λz=>⟨true,aX.of z⟩) λz=>⟨false,dO.of z⟩;left;refine⟨b3,_,aX.of e1,_,aX.of (s1 _ _ hi),_,hg3,by simpa using h0,by simp,by simp,λp2 tv H2 hp2 e2 wC s2=>?_⟩;rw[ql2] at wC;have tl:tv.length=xs.length:=wC.1;refine⟨⟨_,aX.of e2⟩,λD hD=>K7 tv (λk σ H'=>(∃o1 o2 o3,σ=[o1,o2,o3])/\H' D=some (.lst ((fZ (xs.take k) f h).map V.str))/\Same H2 H') ⟨⟨_,_,_,rfl⟩,ak,au hD⟩ (λk σ H' _ h=>aX.of (h.2.2 _ _ e2)) ?_ ?_⟩
    . rintro k v σ H3 hk ⟨⟨o1,o2,o3,rfl⟩,jE,s3⟩;obtain⟨t,x,rfl,hx,ht⟩:=Zx (wC.same s3) hk;have hk9:k<xs.length:=(qlT.mp hx).1;have hfl:(fZ (xs.take k) f h).length<=(xs.take k).length:=qm8 _ _;rw[ql7] at hfl;rw[take_one hx,show fZ (xs.take k++[x]) f h=fZ (xs.take k) f h++fZ [x] f h from qm_ ..];left;refine⟨_,dO.of ht,rfl,?_⟩;left;refine fj.of (λhb=>?_) (λhb=>?_)
      ·left;refine⟨_,jE,by simp;omega,?_,aW s3 hD⟩;rw[ak];simp[fZ,qmn hb]
      ·left;refine⟨?_,s3⟩;rw[jE];have:=qmP hb;simp[fZ,this]
    . rintro σ H3 ⟨⟨o1,o2,o3,rfl⟩,jE,s3⟩;rw[tl,ql4] at jE;have e3:=s3 _ _ e2;have ht3:=wC.same s3;left;refine⟨⟨_,aX.of e3⟩,λD2 hD2=>K7 tv (λk σ H'=>(∃o1 o2 o3,σ=[o1,o2,o3])/\H' D2=some (.lst ((fZ (xs.take k) h f).map V.str))/\Same H3 H') ⟨⟨_,_,_,rfl⟩,ak,au hD2⟩ (λk σ H' _ h=>aX.of (h.2.2 _ _ e3)) ?_ ?_⟩
      . rintro k v σ H4 hk ⟨⟨o1,o2,o3,rfl⟩,oH,s4⟩;obtain⟨t,x,rfl,hx,ht⟩:=Zx (ht3.same s4) hk;have hk9:k<xs.length:=(qlT.mp hx).1;have hfl:(fZ (xs.take k) h f).length<=(xs.take k).length:=qm8 _ _;rw[ql7] at hfl;rw[take_one hx,show fZ (xs.take k++[x]) h f=fZ (xs.take k) h f++fZ [x] h f from qm_ ..];left;refine⟨_,dO.of ht,rfl,?_⟩;left;refine fj.of (λhb=>?_) (λhb=>?_)
        ·left;refine⟨_,oH,by simp;omega,?_,aW s4 hD2⟩;rw[ak];simp[fZ,qmn hb]
        ·left;refine⟨?_,s4⟩;rw[oH];have:=qmP hb;simp[fZ,this]
      ·rintro σ H4 ⟨⟨o1,o2,o3,rfl⟩,oH,s4⟩;rw[tl,ql4] at oH;have S4:=s1.trans (s2.trans (s3.trans s4));left;intro t ht;exact q t D D2 _ (cg S4 ht) (cg (s1.trans s2) hD) (cg (s1.trans (s2.trans s3)) hD2) ak (bV (s4 _ _ jE) ht) (bV oH ht) (S4.trans (au ht))
def Ep:Sp:=λvs H Q _=>∃(l a b:Addr) (tv:List V) (S:List nH) (ss es xs:List Str),vs=[.ref l,.ref a,.ref b]/\H l=some (.lst tv)/\dZ H tv S/\H a=some (.lst (ss.map V.str))/\H b=some (.lst (es.map V.str))/\(∀x∈ss,x∈xs)/\(∀s∈S,s.2.2∈xs)/\xs.length<=9/\
  (∀H',(∀s∈ss,∀e∈es,¬RT (lR S) s e)->Same H H'->Q .non H')/\
  ∀(s e:Str) (w:List Nat) (ws:List Str) (r:Addr) (H':Hp),s∈ss->e∈es->rK S s w ws e->ws.Nodup->H r=none->H' r=some (.lst (w.map λn:Nat=>V.int n))->Same H H'->Q (.ref r) H'
theorem Er (T:Txt K mg a):bN P w K mg base ig 2 a.dF a.jz ["steps", "starts", "ends"] Ep:=by
  exists T.pF.lK,jr
  ·obtain⟨l,a,b,tv,S,ss,es,xs,rfl,_⟩:=h;rfl
  . obtain⟨l,a,b,tv,S,ss,es,xs,rfl,hl,hS,ha,hb,hsx,hSx,h9,q1,q2⟩:=h;refine⟨_,(aC (jH qmU rfl (PI.eqv (bB (K:=K) rfl (aH 1)) (bx _ _)) (aJ (i:=3) jr.nd rfl (Or.inl rfl))
      (aC (bC (i:=4) jr.nd rfl (Or.inl rfl) (PE.eqv (aG (Gi T) hr.d rfl T.xY T.qW.kp T.xX .nil aR (aj (aH 3) (aj (aH 0) ao))) (aF _ _ _)))
      (aD (jH qmU rfl (PI.eqv (bB (K:=K) rfl (aH 2)) (bx _ _)) (aJ (i:=5) jr.nd rfl (Or.inl rfl))
      (aD (dJ (RX (PC.eqv (qdM (Ca hr) (aH 5) (aH 4)) (qa2 _ _))) (aD (aZ (PE.eqv (RN (Ca hr) (aH 4) (aH 5) (λ_ _=>rfl)) (Mw _ _)))) bG))))))
      (aD (aZ Wc))),?_⟩
    left;refine⟨⟨_,aX.of ha⟩,Xl (ss.map V.str) (λk σ H'=>(∃o3 o4 o5,σ=[some (.ref l),some (.ref a),some (.ref b),o3,o4,o5])/\(∀s∈ss.take k,∀e∈es,¬RT (lR S) s e)/\Same H H') ⟨⟨_,_,_,rfl⟩,by simp,Same.refl _⟩ (λk σ H' _ h=>aX.of (h.2.2 _ _ ha)) ?_ ?_⟩
    . rintro k v σ H1 hk ⟨⟨o3,o4,o5,rfl⟩,hno,s1⟩;obtain⟨x,hx,rfl⟩:=iQ hk;have hxs:=qlX hx;left;refine⟨x,l,tv,S,xs,rfl,s1 _ _ hl,hS.keep (L2.d7.of s1),hsx x hxs,hSx,h9,λd kvs R H2 hd0 hd hw hb1 hb2 hnew s2=>?_⟩;left;refine⟨⟨_,aX.of (s2 _ _ (s1 _ _ hb))⟩,Xl (es.map V.str) (λj σ H'=>(∃o5,σ=[some (.ref l),some (.ref a),some (.ref b),some (.str x),some (.ref d),o5])/\(∀e∈es.take j,¬RT (lR S) x e)/\Same H2 H') ⟨⟨_,rfl⟩,by simp,Same.refl _⟩ (λj σ H' _ h=>aX.of (h.2.2 _ _ (s2 _ _ (s1 _ _ hb)))) ?_ ?_⟩
      . rintro j u σ H3 hj ⟨⟨o5,rfl⟩,qbP,s3⟩;obtain⟨y,hy,rfl⟩:=iQ hj;left;have hw3:eX H3 kvs R:=hw.keep λp w e=>s3 _ _ e;refine⟨_,jk.k (k:=Sum.inr y) (s3 _ _ hd),?_⟩;rw[hw3.has hb1.nd];refine fj.of (λhb'=>?_) (λhb'=>?_)
        ·have hyR:=qmn hb';obtain⟨⟨y',w'⟩,hm,rfl⟩:=qmw.mp hyR;obtain⟨p,hp1,hp2⟩:=hw3.some hb1.nd hm;obtain⟨ws,Ob,hnd,_⟩:=hb1.pth _ _ hm;have hpn:H1 p=none:=hnew.at hp1;left;refine⟨.ref p,?_,q2 x y' w' ws p H3 hxs (qlX hy) Ob hnd (cg s1 hpn) hp2 (s1.trans (s2.trans s3))⟩;rw[<- hp1];exact jk.k (k:=Sum.inr y') (s3 _ _ hd)
        . have hyR:=qmP hb';left;refine⟨λe he=>?_,s3⟩;rw[take_one hy] at he
          rcases qmh.mp he with he | he
          ·exact qbP e he
          ·rw[qmu] at he;subst he;exact λz=>hyR ((hb1.iff e).mpr z)
      . rintro σ H3 ⟨⟨o5,rfl⟩,qbP,s3⟩;rw[ql2,ql4] at qbP;left;refine⟨λs hs=>?_,s1.trans (s2.trans s3)⟩;rw[take_one hx] at hs
        rcases qmh.mp hs with hs | hs
        ·exact hno s hs
        ·rw[qmu] at hs;subst hs;exact qbP
    ·rintro σ H1 ⟨⟨o3,o4,o5,rfl⟩,hno,s1⟩;rw[ql2,ql4] at hno;left;exact q1 H1 hno s1
def qcU (H:Hp) (e C:Addr) (fs:List (Str×V)):Prop:=∃dx,dx≠e/\H e=some (kI e C (some dx))/\H dx=some (zp dx fs)
def Zy (C:Addr) (f:Str):Sp:=λvs H Q _=>∃(e l:Addr) (xs:List V),vs=[.ref e,.ref l]/\H e=some (kI e C none)/\H l=some (.lst xs)/\
  ∀(b:Addr) (H':Hp),H b=none->H' b=some (.lst xs)->qcU H' e C [(f,.ref b)]->But e H H'->Q .non H'
theorem Oc {H:Hp} {e l C:Addr} {xs:List V} {f:Str} {Q:VK} {K:W.Frag} (he:H e=some (kI e C none)) (hl:H l=some (.lst xs)) (q:∀(b:Addr) (H':Hp),H b=none->H' b=some (.lst xs)->qcU H' e C [(f,.ref b)]->But e H H'->Q .non H') :
    (∃x,H e=some (kI e C x))/\∃ys,(aX K H l ys\/dO K H l ys)/\∀(l:Addr),H l=none->upd H l (.lst ys) e=some (kI e C none)/\∀dx,upd H l (.lst ys) dx=none->Q .non (upd (upd (upd H l (.lst ys)) dx (zp dx [(f,.ref l)])) e (kI e C (some dx))):=by
  refine⟨⟨_,he⟩,xs,.inl (aX.of hl),λb hb=>?_⟩;exists H,b,(.lst xs),s1,e1,H1,hb;refine⟨s1 _ _ he,λdx hdx=>?_⟩;have ne:dx≠e:=λz=>by rw[z,s1 _ _ he] at hdx;cases hdx
  have be:b≠e:=λz=>by rw[z,he] at hb;cases hb
  have bd:b≠dx:=λz=>by rw[<- z,e1] at hdx;cases hdx
  refine q b _ hb (by rw[aB be,aB bd];exact e1) ⟨dx,ne,ak,by rw[aB ne];exact ak⟩ λc o hc z=>?_;rw[aB hc,aB (λy=>by rw[<- y,s1 _ _ z] at hdx;cases hdx)];exact s1 _ _ z
theorem KC (T:Txt K mg a):bN P w K mg base ig 1 a.d8 a.mH ["self", "lot"] (Zy a.bR "lot"):=by
  exists T.Ae.lK,Ke
  ·obtain⟨e,l,xs,rfl,_⟩:=h;rfl
  . obtain⟨e,l,xs,rfl,he,hl,q⟩:=h;refine⟨_,(aC (fG (qbj T.yI T.ini rfl T.yG (aj (aH 0) (aj O2 ao))))
      (aD (qgG T.SX T.gK (aH 0) (iW (CT (K:=K) rfl) rfl T.nm.list boot_list (aj (aH 1) ao)) rfl))),?_⟩
    left;exact Oc he hl q
def qg1 (S:List nH) (xs ss es:List Str) (w:Str) (part:List Str):Prop:=(0<ss.length/\w = "touching" /\∃p:Str->Bool,(∀x,p x=true↔∃s∈ss,RT (lR S) s x)/\part=xs.filter p)\/(ss.length=0/\w = "within" /\∃p:Str->Bool,(∀x,p x=true↔∃e∈es,RT (lR S) x e)/\part=xs.filter p)
theorem oO {xs:List Str} {f g:Str->Nat} {y:Str}:y∈fZ xs (λx=>(f x:Int)) (λx=>(g x:Int))↔y∈xs/\f y<g y:=by
  unfold fZ;rw[qmd,qmo];constructor
  ·rintro⟨h1,h2⟩;have h2:(f y:Int)<g y:=h2;exact⟨h1,by omega⟩
  ·rintro⟨h1,h2⟩;exact⟨h1,show(f y:Int)<g y by omega⟩
def qg2:Sp:=λ_ _ _ _=>False
theorem Gj (T:Txt K mg a):bN P w K mg base ig 1 a.eN a.j8 ["web", "steps", "lacking", "spare"] qg2:=by
  refine T.qZ.lK Ga (λvs H Q E h=>h.elim) (λcdv A outer s H vs Q E hr h=>h.elim)
def Ih (c:List Str) (st:nH):Bool:=decide (¬st.2.1∈c/\st.2.2∈c)
def Gk:Sp:=λvs H Q _=>∃(s l:Addr) (tv:List V) (S:List nH) (c:List Str),vs=[.ref s,.ref l]/\H s=some (.lst tv)/\dZ H tv S/\H l=some (.lst (c.map V.str))/\tv.length<=40/\
  ∀(r:Addr) (FQ:List V) (H':Hp),H r=none->H' r=some (.lst FQ)->FQ.length=(S.filter (Ih c)).length->Same H H'->Q (.ref r) H'
theorem Gm (T:Txt K mg a):bN P w K mg base ig 1 a.eF a.j6 ["steps", "lot"] Gk:=by
  exists T.qX.lK,FZ
  ·obtain⟨s,l,tv,S,c,rfl,_⟩:=h;rfl
  . obtain⟨s,l,tv,S,c,rfl,hs,hS,hl,h40,q⟩:=h;refine⟨_,(aD (aZ (bU rfl rfl (show aN (aA mC) _ ["steps", "lot"] ["step"] [1] ["step", "lot"] from by rfl') rfl (PI.eqv (bB (K:=K) rfl (aH 0)) (bx _ _)) (λC s H fp pn=>(aJ (i:=0) (show(["step", "lot"]:List Str).Nodup by symm) rfl (Or.inl rfl))) (λC s H fp pn=>(jj (PW.pt (Io (bh (qa6 (K:=K) rfl) (cR (dh (K:=K) rfl) (aH 0) aK (λ_ _=>rfl)) (aH 1) rfl) (Bb (bh (CQ (K:=K) rfl) (cR (dh (K:=K) rfl) (aH 0) aK (λ_ _=>rfl)) (aH 1) rfl)))))) (λC s H fp pn=>(aH 0))))),?_⟩;have s60:60<=sizeLine:=by decide
    left;refine⟨⟨_,aX.of hs⟩,λD hD=>K7 tv (λi σ H'=>(∃o',σ=[o',some (.ref l)])/\(∃FQ,H' D=some (.lst FQ)/\FQ.length=((S.take i).filter (Ih c)).length)/\Same H H') ⟨⟨_,rfl⟩,⟨[],ak,rfl⟩,au hD⟩ (λi σ H' _ h=>aX.of (h.2.2 _ _ hs)) ?_ ?_⟩
    . rintro i x σ H2 hi ⟨⟨o',rfl⟩,⟨FQ,hD2,hl2⟩,s2⟩;obtain⟨st,hst,t,rfl,ht⟩:=hS.at hi;have hi2:i<S.length:=(qlT.mp hst).1;have wC:=s2 _ _ ht;have hll:=s2 _ _ hl;have hle:((S.take i).filter (Ih c)).length<=(S.take i).length:=qm8 _ _;rw[ql7,<- hS.1] at hle;rw[take_one hst,qm_];left;have d1:inV (.str st.2.1) (c.map V.str) = !decide (¬st.2.1∈c):=by rw[dg];simp
      refine⟨_,.inr (dO.of wC),_,bH (j:=1) rfl,_,.inl (aX.of hll),rfl,qmk.mp (fW _),_,d1,fj.of (λh=>?_) (λh=>?_)⟩
      . have h':¬st.2.1∈c:=qmn h;left;refine⟨_,.inr (dO.of wC),_,bH (j:=2) rfl,_,.inl (aX.of hll),rfl,qmk.mp (fW _),?_⟩;rw[dg];refine fj.of (λh2=>?_) (λh2=>?_)
        ·have h2':st.2.2∈c:=qmn h2;left;refine⟨_,hD2,by omega,⟨_,ak,?_⟩,aW s2 hD⟩;simp[Ih,h',h2',hl2]
        ·have h2':¬st.2.2∈c:=qmP h2;left;refine⟨⟨_,hD2,?_⟩,s2⟩;simp[Ih,h',h2',hl2]
      . have h':st.2.1∈c:=by simpa using h
        left;refine⟨⟨_,hD2,?_⟩,s2⟩;simp[Ih,h',hl2]
    ·rintro σ H2 ⟨⟨o',rfl⟩,⟨FQ,hD2,hl2⟩,s2⟩;rw[hS.1,ql4] at hl2;left;exact q D FQ H2 hD hD2 hl2 s2
theorem qbQ {X:Cx}:gb X (binaryOp .BitAnd) (Qa λi j=>.int (Builtin.bitAnd i j)):=qdn.mono CN
def fB (m k:Nat):Bool:=decide (m / 2 ^ k % 2=1)
theorem qbR:∀i:Nat,i<512->Builtin.bitAnd (i:Int) 1=((i % 2:Nat):Int):=by symm
theorem qbS:∀n:Nat,n<=9->∀m:Nat,m<512->1<=m->m+1<2 ^ n->(List.range n).any (fB m)=true/\(List.range n).all (fB m)=false:=by symm
theorem Od {n m:Nat} (h9:n<=9) (h5:m<512) (h1:1<=m) (h2:m+1<2 ^ n):(∃k,k<n/\fB m k=true)/\∃k,k<n/\fB m k=false:=by
  obtain⟨a,b⟩:=qbS n h9 m h5 h1 h2;rw[List.any_eq_true] at a;rw[List.all_eq_false] at b;obtain⟨k,hk,e⟩:=a;obtain⟨j,hj,f⟩:=b;exact⟨⟨k,qnw.mp hk,e⟩,⟨j,qnw.mp hj,by simpa using f⟩⟩
def cV (b:Nat->Bool) (xs:List Str):List Str:=(xs.zipIdx.filter λe=>b e.2).map (·.1)
theorem bits_sub (b:Nat->Bool) (xs:List Str):(cV b xs).Sublist xs:=by
  have h:=List.Sublist.map (λe:Str×Nat=>e.1) (List.filter_sublist (p:=λe:Str×Nat=>b e.2) (l:=xs.zipIdx));rw[List.zipIdx_map_fst] at h;exact h
theorem Oe {b:Nat->Bool} {xs:List Str} {k:Nat} (hk:k<xs.length) (hb:b k=true):0<(cV b xs).length:=by
  refine qm2 (a:=xs[k]) ?_;unfold cV;rw[qmw];refine⟨(xs[k],k),?_,rfl⟩;rw[qmd];refine⟨?_,hb⟩;rw[qni];simp[hk]
theorem Tp {b:Nat->Bool} {xs:List Str} {k:Nat} (hk:k<xs.length) (hb:b k=false):(cV b xs).length<xs.length:=by
  unfold cV;rw[ql2];have:(xs.zipIdx.filter λe=>b e.2).length<xs.zipIdx.length:=by
    rw[List.length_filter_lt_length_iff_exists];refine⟨(xs[k],k),?_,by simp[hb]⟩;rw[qni];simp[hk]
  rwa [List.length_zipIdx] at this
theorem zG {b:Nat->Bool} {l:List Str} {x:Str}:cV b (l++[x])=cV b l++if b l.length=true then [x] else []:=by
  unfold cV;rw[List.zipIdx_append,qm_,qms]
  by_cases h:b l.length=true <;> simp[h]
theorem qeV {k i:Nat} (h:1+k<512):decide (Builtin.bitAnd ((1+(k:Int)) / 2 ^ i) 1=1)=fB (1+k) i:=by
  have e:(1+(k:Int)) / 2 ^ i=(((1+k) / 2 ^ i:Nat):Int):=by
    rw[Int.natCast_ediv];simp
  have hd:(1+k) / 2 ^ i<=1+k:=Nat.div_le_self _ _;rw[e,qbR _ (by omega)];unfold fB;rw[qm4,qmo,qmo];omega
theorem Vt {H:Hp} {r:Addr} {tv us:List V} {cs:List (List Str)} (hr:H r=some (.lst tv)) (h:qw H tv cs) (hc:∀c∈cs,0<c.length):qw (upd H r (.lst us)) tv cs:=by
  refine⟨h.1,λi v c hv hcc=>?_⟩;obtain⟨t,rfl,ht⟩:=h.2 i v c hv hcc;refine⟨t,rfl,?_⟩;rw[aB]
  ·exact ht
  . intro z;subst z;rw[hr] at ht;have e:tv=c.map V.str:=by injection ht with ht;injection ht
    have hl:=hc c (qlX hcc);rw[e,qmc] at hv;cases hx:c[i]? with
    | none=>rw[hx] at hv;cases hv
    | some x=>rw[hx] at hv;cases hv
theorem qbT {m n:Nat} (h:m<2 ^ n):fB m n=false:=by
  unfold fB;rw[Nat.div_eq_of_lt h];rfl
theorem qbU {m n:Nat} (h:m<2 ^ n):fB (2 ^ n+m) n=true:=by
  unfold fB;rw[Nat.add_div_left _ (Nat.two_pow_pos n),Nat.div_eq_of_lt h];rfl
theorem Q5 {m n k:Nat} (h:k<n):fB (2 ^ n+m) k=fB m k:=by
  unfold fB;have e:2 ^ n=2 ^ k * (2 * 2 ^ (n - k - 1)):=by
    rw[<- Nat.mul_assoc,<- Nat.pow_succ,<- Nat.pow_add];congr 1;omega
  rw[e,Nat.mul_add_div (Nat.two_pow_pos k),Nat.mul_add_mod]
theorem Vu {b b':Nat->Bool} {xs:List Str} (h:∀k,k<xs.length->b k=b' k):cV b xs=cV b' xs:=by
  unfold cV;congr 1;refine List.filter_congr λe he=>?_;obtain⟨x,k⟩:=e;rw[qni] at he;exact h k (qlT.mp he).1
def iV (xs:List Str):List (List Str):=(List.range (2 ^ xs.length)).map λm=>cV (fB m) xs
theorem parts_nil:iV []=[[]]:=rfl
theorem Es (l:List Str) (x:Str):iV (l++[x])=iV l++(iV l).map (·++[x]):=by
  unfold iV;rw[qmb,qn7,Nat.pow_succ,Nat.mul_two,List.range_add,qms,List.map_map,List.map_map];congr 1
  ·refine qnF λm hm=>?_;rw[zG,qbT (qnw.mp hm)];simp
  ·refine qnF λm hm=>?_;show cV (fB (2 ^ l.length+m)) (l++[x])=cV (fB m) l++[x];rw[zG,qbU (qnw.mp hm),Vu (b':=fB m) λk hk=>Q5 hk];simp
def cG (xs:List Str):List (List Str):=(List.range (2 ^ xs.length - 2)).map λm=>cV (fB (1+m)) xs
theorem zH (xs:List Str):(iV xs).length=2 ^ xs.length:=by simp[iV]
theorem qj (xs:List Str):(cG xs).length=2 ^ xs.length - 2:=by simp[cG]
theorem uK {xs:List Str} {i:Nat} (h:i<2 ^ xs.length - 2):(cG xs)[i]? = some (cV (fB (1+i)) xs):=by
  unfold cG;rw[qmc,List.getElem?_range h];rfl
theorem Q6 {xs:List Str}:((iV xs).take (2 ^ xs.length - 1)).drop 1=cG xs:=by
  refine List.ext_getElem? λi=>?_;rw[List.getElem?_drop]
  by_cases h:i<2 ^ xs.length - 2
  ·rw[uK h,qnv (by omega)];unfold iV;rw[qmc,List.getElem?_range (by omega)];rfl
  ·rw[qoa (by rw[ql7,zH];omega),qoa (by rw[qj];omega)]
theorem wk {xs c:List Str} (h9:xs.length<=9) (h:c∈cG xs):c.Sublist xs/\0<c.length/\c.length<xs.length:=by
  unfold cG at h;obtain⟨m,hm,rfl⟩:=qmw.mp h;have hm:=qnw.mp hm;have p9:2 ^ xs.length<=2 ^ 9:=qmL (by decide) h9;obtain⟨⟨k1,hk1,hb1⟩,⟨k2,hk2,hb2⟩⟩:=Od (n:=xs.length) (m:=1+m) h9 (by omega) (by omega) (by omega);exact⟨bits_sub _ _,Oe hk1 hb1,Tp hk2 hb2⟩
def qkA (G H:Hp) (v:V) (c:List Str):Prop:=∃t,v = .ref t/\G t=none/\H t=some (.lst (c.map V.str))
def Q7 (G H:Hp) (tv:List V) (cs:List (List Str)):Prop:=bI (qkA G) H tv cs
theorem Q7.same {G H H':Hp} {tv:List V} {cs:List (List Str)} (h:Q7 G H tv cs) (s:Same H H'):Q7 G H' tv cs:=⟨h.1,λi v c h1 h2=>by
  obtain⟨t,rfl,h0,ht⟩:=h.2 i v c h1 h2;exact⟨t,rfl,h0,s _ _ ht⟩⟩
def KD:Sp:=λvs H Q _=>∃(n:Addr) (xs:List Str),vs=[.ref n]/\H n=some (.lst (xs.map V.str))/\xs.length<=9/\
  ∀(r:Addr) (tv:List V) (H':Hp),H r=none->H' r=some (.lst tv)->Q7 H H' tv (iV xs)->Same H H'->Q (.ref r) H'
theorem KH (T:Txt K mg a):bN P w K mg base ig 1 a.fD a.mK ["points"] KD:=by
  exists T.tU.lK,mG
  ·obtain⟨n,xs,rfl,_⟩:=h;rfl
  . obtain⟨n,xs,rfl,hn,h9,q⟩:=h;refine⟨_,(aC (bC (i:=1) mG.nd rfl (Or.inl rfl) (dX (aj (dX ao) ao)))
      (aC (jH qmU rfl (PI.eqv (bB (K:=K) rfl (aH 0)) (bx _ _)) (aJ (i:=2) mG.nd rfl (Or.inr rfl))
      (aD (bC (i:=1) mG.nd rfl (Or.inl rfl) (bT xg (aH 1) (bU rfl rfl (show aN (aA nR) _ ["points", "parts", "point"] ["part"] [2] ["part", "point"] from by rfl') rfl (PI.eqv (bB (K:=K) rfl (aH 1)) (bx _ _)) (λC s H fp pn=>(aJ (i:=0) (show(["part", "point"]:List Str).Nodup by symm) rfl (Or.inl rfl))) (λC s H fp pn=>bM) (λC s H fp pn=>(bT xg (aH 0) (dX (aj (aH 1) ao)))))))))
      (aD (aZ (aH 1))))),?_⟩
    have Q8:600<sizeLine:=by decide
    left;intro p hp;exists H,p,(.lst []),s1,e1,H1,hp;intro r hr;exists H1,r,(.lst [.ref p]),s2,e2,H2,hr;have S2:=s1.trans s2;refine⟨⟨_,aX.of (S2 _ _ hn)⟩,Xl (xs.map V.str) (λi σ H'=>(∃rp o2,σ=[some (.ref n),some (.ref rp),o2]/\H rp=none/\∃tv,H' rp=some (.lst tv)/\Q7 H H' tv (iV (xs.take i)))/\Same H H') ⟨⟨r,none,rfl,s1.free hr,_,e2,?_⟩,S2⟩ (λi σ H' _ h=>aX.of (h.2 _ _ hn)) ?_ ?_⟩
    . exact⟨rfl,λi v c h1 h2=>by
        cases i with
        | succ i=>simp at h1
        | zero=>
          simp at h1;rw[List.take_zero,parts_nil] at h2;simp at h2;subst h1 h2;exact⟨p,rfl,hp,s2 _ _ e1⟩⟩
    . rintro i v σ H3 hi ⟨⟨rp,o2,rfl,qg3,tv,Kv,hN⟩,s3⟩;obtain⟨y,hy,rfl⟩:=iQ hi;have hi9:i<xs.length:=(qlT.mp hy).1;have hlt:tv.length=2 ^ i:=by
        have:=hN.1;rw[zH,ql7,qn5 (by omega)] at this;exact this
      have p8:2 ^ i<=2 ^ 8:=qmL (by decide) (by omega);rw[take_one hy,Es];have h9c:∀c∈iV (xs.take i),c.length<=9:=λc hc=>by
        obtain⟨m,_,rfl⟩:=qmw.mp hc;have:=(bits_sub (fB m) (xs.take i)).length_le;rw[ql7] at this;omega
      generalize hC:iV (xs.take i)=cs at hN h9c ⊢;left;refine⟨⟨_,aX.of Kv⟩,λD hD=>K7 tv (λj σ H'=>(∃o1,σ=[o1,some (.str y)])/\(∃uv,H' D=some (.lst uv)/\bI (λH' v c=>∃t,v = .ref t/\H t=none/\t≠D/\H' t=some (.lst (c.map V.str))) H' uv ((cs.take j).map (·++[y])))/\Same H3 H') ⟨⟨_,rfl⟩,⟨[],ak,bI.nil⟩,au hD⟩ (λi σ H' _ h=>aX.of (h.2.2 _ _ Kv)) ?_ ?_⟩
      . rintro j v σ H4 hj ⟨⟨o1,rfl⟩,⟨uv,oH,hA⟩,s4⟩;have hj2:j<tv.length:=(qlT.mp hj).1;obtain⟨c,hc,t,rfl,ht0,ht⟩:=bI.at hN hj;have V8:uv.length=j:=by
          have:=hA.1;have hcl:=hN.1;rw[ql2,ql7] at this;omega
        have ht4:=s4 _ _ ht;left;intro p5 hp5;exists H4,p5,(.lst [.str y]),s5,e5,H5,hp5;have hc9:=h9c c (qlX hc);refine⟨_,s5 _ _ ht4,_,e5,by simp;omega,λp6 Vv=>?_⟩;exists H5,p6,(.lst (c.map V.str++[.str y])),s6,e6,H6,Vv;have QM:=(s5.trans s6) _ _ oH;have p6D:p6≠D:=λz=>by rw[z,s5 _ _ oH] at Vv;cases Vv
        refine⟨uv,QM,by omega,⟨_,ak,?_⟩,aW (s4.trans (s5.trans s6)) hD⟩;rw[take_one hc,qms];refine bI.snoc (bI.keep hA ?_) ⟨p6,rfl,(s3.trans (s4.trans s5)).free Vv,p6D,by rw[aB p6D,e6];simp⟩;rintro v b ⟨t,rfl,h0,hne,ht⟩;exact⟨t,rfl,h0,hne,by rw[aB hne];exact(s5.trans s6) _ _ ht⟩
      . rintro σ H4 ⟨⟨o1,rfl⟩,⟨uv,oH,hA⟩,s4⟩;rw[hN.1,ql4] at hA;have V8:uv.length=cs.length:=by rw[hA.1,ql2]
        have hcl:=hN.1;left;refine⟨_,s4 _ _ Kv,_,oH,by omega,λp5 hp5=>⟨⟨(s3.trans s4).free hp5,_,ak,?_⟩,(s3.trans s4).trans (au hp5)⟩⟩;have s5:Same H4 (upd H4 p5 (.lst (tv++uv))):=au hp5;generalize upd H4 p5 (.lst (tv++uv))=H5 at s5 ⊢;refine⟨by simp[hN.1,hA.1],λk v c h1 h2=>?_⟩
        by_cases hk:k<tv.length
        ·rw[ql9 hk] at h1;rw[ql9 (by omega)] at h2;obtain⟨t,rfl,h0,ht⟩:=hN.2 k v c h1 h2;exact⟨t,rfl,h0,(s4.trans s5) _ _ ht⟩
        ·rw[qma (by omega)] at h1;rw[qma (by omega),<- hcl] at h2;obtain⟨t,rfl,h0,_,ht⟩:=hA.2 _ v c h1 h2;exact⟨t,rfl,h0,s5 _ _ ht⟩
    ·rintro σ H3 ⟨⟨rp,o2,rfl,qg3,tv,Kv,hN⟩,s3⟩;rw[ql2,ql4] at hN;left;exact q rp tv H3 qg3 Kv hN s3
theorem qeW {xs:List V}:yP xs (some 1) (some (-1))=(xs.take (xs.length - 1)).drop 1:=by
  unfold yP;have e1:HT.Iw xs.length 0 (some 1)=min 1 xs.length:=by
    unfold HT.Iw;simp
    try omega
  have e2:HT.Iw xs.length xs.length (some (-1))=xs.length - 1:=by
    unfold HT.Iw;simp
    try omega
  rw[e1,e2,List.drop_take];cases xs with
  | nil=>rfl
  | cons x xs=>
    rw[qn5 (by simp)]
def Og (C:Addr):Sp:=λvs H Q _=>∃(o:Addr) (xs:List Str) (ps:List (Str×Str)),vs=[.ref o]/\eV C H o xs ps/\xs.length<=9/\
  ∀(r:Addr) (tv:List V) (H':Hp),H r=none->H' r=some (.lst tv)->Q7 H H' tv (cG xs)->Same H H'->Q (.ref r) H'
theorem t_ (T:Txt K mg a):bN P w K mg base ig 2 a.gF a.n_ ["web"] (Og a.bD):=by
  exists T.m6.lK,Ng
  ·obtain⟨o,xs,ps,rfl,_⟩:=h;rfl
  . obtain⟨o,xs,ps,rfl,hw,h9,q⟩:=h;refine⟨_,(aD (aZ (WT (qgv (K:=K) rfl) (PE.eqv (aG (KH T) hr.d rfl T.Aj T.tU.kp T.Ai .nil aR (aj (PE.eqv (cT (aH 0) T.g_ T.cZ (dH T) hr.d T.cY .nil aR) (cU _ _ _ _ _ _)) ao)) (aF _ _ _)) (PO.eqv (RD aK) (Mx _)) (PO.eqv (RD (qfy qaR aK)) (Mx _))))),?_⟩;have Q8:600<sizeLine:=by decide
    obtain⟨dx,fs,hin,hno⟩:=hw.ins cC.1 cC.2;left;refine⟨dx,fs,hin,hno,o,xs,ps,rfl,hw,λn hn=>?_⟩;exists H,n,(.lst (xs.map V.str)),s1,e1,H1,hn;left;refine⟨n,xs,rfl,e1,h9,λr tv H2 hr e2 hN s2=>?_⟩;left;have tl:tv.length=2 ^ xs.length:=by rw[hN.1,zH]
    refine⟨_,aX.of e2,λp3 hp3=>?_⟩;exists H2,p3,(.lst (yP tv (some 1) (some (-1)))),s3,e3,H3,hp3;refine q p3 _ H3 ((s1.trans s2).free hp3) e3 ?_ (s1.trans (s2.trans s3));rw[qeW,tl,<- Q6];refine⟨by rw[List.length_drop,ql7,List.length_drop,ql7,hN.1],λk v c h1 h2=>?_⟩;rw[List.getElem?_drop] at h1 h2;have hk:1+k<2 ^ xs.length - 1:=by
      have:=(qlT.mp h1).1;rw[ql7] at this;omega
    rw[qnv hk] at h1 h2;obtain⟨t,rfl,h0,ht⟩:=hN.2 _ v c h1 h2;exact⟨t,rfl,s1.free h0,s3 _ _ ht⟩
def Oh (c:List Str):List (Str×Str)->Nat
  | []=>0
  | e::ps=>(if e.1∈c\/e.2∈c then 1 else 0)+Oh c ps
theorem Zz (c:List Str):∀{ns:List Int} {ps:List (Str×Str)},ns.length=ps.length->(∀(j:Nat) n e,ns[j]? = some n->ps[j]? = some e->vI n e∈c->lZ n e∈c)->Oh c ps<=((dU ns ps).filter λx=>decide (x∈c)).length
  | [],[],_,_=>qlY _
  | [],_::_,h,_=>by simp at h
  | _::_,[],h,_=>by simp at h
  | n::ns,e::ps,h,hc=>by
    have ih:=Zz c (ns:=ns) (ps:=ps) (by simpa using h) λj k d a b=>hc (j+1) k d (by simpa using a) (by simpa using b);have h0:=hc 0 n e rfl rfl;simp only[Oh,dU];unfold vI lZ at h0;unfold lZ
    by_cases hn:n=0 <;> by_cases a1:e.1∈c <;> by_cases a2:e.2∈c <;> simp[hn,a1,a2] at h0 ⊢ <;> omega
theorem Tq (c:List Str):∀{ns:List Int} {ps:List (Str×Str)},ns.length=ps.length->(∀(j:Nat) n e,ns[j]? = some n->ps[j]? = some e->lZ n e∈c->vI n e∈c)->((dU ns ps).filter λx=>decide (x∈c)).length<=dW c ps
  | [],[],_,_=>qlY _
  | [],_::_,h,_=>by simp at h
  | _::_,[],h,_=>by simp at h
  | n::ns,e::ps,h,hc=>by
    have ih:=Tq c (ns:=ns) (ps:=ps) (by simpa using h) λj k d a b=>hc (j+1) k d (by simpa using a) (by simpa using b);have h0:=hc 0 n e rfl rfl;simp only[dW,dU];unfold vI lZ at h0;unfold lZ
    by_cases hn:n=0 <;> by_cases a1:e.1∈c <;> by_cases a2:e.2∈c <;> simp[hn,a1,a2] at h0 ⊢ <;> omega
theorem Vw {xs:List Str} (p:Str->Bool):(xs.filter λy=>decide (y∈xs.filter p))=xs.filter p:=List.filter_congr λy hy=>by
  rw[qm4,qmo,qmd];exact⟨λh=>h.2,λh=>⟨hy,h⟩⟩
theorem ZC {xs:List Str} {ns:List Int} {ps:List (Str×Str)} (nd:xs.Nodup) (hp:∀e∈ps,e.1∈xs/\e.2∈xs) (p:Str->Bool):((dU ns ps).filter λx=>decide (x∈xs.filter p)).length=((xs.filter p).map (inN ns ps)).sum:=by
  have e1:=yK nd (λx=>decide (x∈xs.filter p)) (L:=dU ns ps) (w6 hp);rw[Vw] at e1;exact e1
theorem Oi {xs:List Str} {ns:List Int} {ps:List (Str×Str)} {g:Str->Nat} (nd:xs.Nodup) (hp:∀e∈ps,e.1∈xs/\e.2∈xs) (h1:ns.length=ps.length) {p:Str->Bool} {L M:List Str}
    (hL:∀y,y∈L↔y∈xs/\inN ns ps y<g y) (hM:∀y,y∈M↔y∈xs/\g y<inN ns ps y) (hpp:∀x,p x=true↔∃s∈L,RT (lR (jl ns ps 0)) s x) (hno:∀s∈L,∀e∈M,¬RT (lR (jl ns ps 0)) s e) (hpos:0<L.length) :
    Oh (xs.filter p) ps<((xs.filter p).map g).sum/\0<(xs.filter p).length:=by
  obtain⟨y,hy⟩:=qnW hpos;obtain⟨hyx,hlt⟩:=(hL y).mp hy;have hyc:y∈xs.filter p:=qmd.mpr ⟨hyx,(hpp y).mpr ⟨y,hy,.refl _⟩⟩;refine⟨?_,qm2 hyc⟩;have a1:=Zz (xs.filter p) h1 λj n e b1 b2 ho=>by
    have he:=hp e (qlX b2);rw[qmd] at ho ⊢;obtain⟨s,hs,hr⟩:=(hpp _).mp ho.2;refine⟨?_,(hpp _).mpr ⟨s,hs,.tail hr ⟨j,sY.mpr ⟨j,n,e,b1,b2,rfl⟩⟩⟩⟩;unfold lZ;split
    ·exact he.2
    ·exact he.1
  rw[ZC nd hp] at a1;refine qnZ a1 (Kz (y:=y) (λx hx=>?_) hyc hlt);obtain⟨hx1,hx2⟩:=qmd.mp hx;obtain⟨s,hs,hr⟩:=(hpp _).mp hx2;exact Nat.not_lt.mp λz=>hno s hs x ((hM x).mpr ⟨hx1,z⟩) hr
theorem Q9 {xs:List Str} {ns:List Int} {ps:List (Str×Str)} {g:Str->Nat} (nd:xs.Nodup) (hp:∀e∈ps,e.1∈xs/\e.2∈xs) (h1:ns.length=ps.length) {p:Str->Bool} {M:List Str}
    (hL:∀y∈xs,¬inN ns ps y<g y) (hM:∀y,y∈M↔y∈xs/\g y<inN ns ps y) (hpp:∀x,p x=true↔∃e∈M,RT (lR (jl ns ps 0)) x e) (hpos:0<M.length) :
    ((xs.filter p).map g).sum<dW (xs.filter p) ps/\0<(xs.filter p).length:=by
  obtain⟨y,hy⟩:=qnW hpos;obtain⟨hyx,hlt⟩:=(hM y).mp hy;have hyc:y∈xs.filter p:=qmd.mpr ⟨hyx,(hpp y).mpr ⟨y,hy,.refl _⟩⟩;refine⟨?_,qm2 hyc⟩;have a1:=Tq (xs.filter p) h1 λj n e b1 b2 ho=>by
    have he:=hp e (qlX b2);rw[qmd] at ho ⊢;obtain⟨s,hs,hr⟩:=(hpp _).mp ho.2;refine⟨?_,(hpp _).mpr ⟨s,hs,(RT.one ⟨j,sY.mpr ⟨j,n,e,b1,b2,rfl⟩⟩).trans hr⟩⟩;unfold vI;split
    ·exact he.1
    ·exact he.2
  rw[ZC nd hp] at a1;refine ql5 (Kz (y:=y) (λx hx=>?_) hyc hlt) a1;exact Nat.not_lt.mp (hL x (qmd.mp hx).1)
theorem Tr (q:Str->Bool):∀(xs:List Str) (k:Nat),∃m,m<2 ^ xs.length/\∀b:Nat->Bool,(∀i,i<xs.length->b (k+i)=fB m i)->((xs.zipIdx k).filter λe=>b e.2).map (·.1)=xs.filter q
  | [],k=>⟨0,by simp,λb _=>by simp⟩
  | x::xs,k=>by
    obtain⟨m,hm,h⟩:=Tr q xs (k+1);refine⟨2 * m+(if q x=true then 1 else 0),?_,λb hb=>?_⟩
    ·rw[qml,Nat.pow_succ];split <;> omega
    . have b0:=hb 0 (by simp);have hb':∀i,i<xs.length->b (k+1+i)=fB m i:=λi hi=>by
        have:=hb (i+1) (by simp;omega);rw[show k+1+i=k+(i+1) by omega,this];unfold fB;rw[Nat.pow_succ,Nat.mul_comm (2 ^ i) 2,<- Nat.div_div_eq_div_mul];have:(2 * m+(if q x=true then 1 else 0)) / 2=m:=by split <;> omega
        rw[this]
      rw[List.zipIdx_cons,qnc,qnc];have e0:b k=q x:=by
        rw[show k=k+0 from rfl,b0];unfold fB;rw[Nat.pow_zero,Nat.div_one];cases hq:q x with
        | true=>simp
        | false=>simp
      have ih:=h b hb';dsimp only;rw[e0];cases hq:q x with
      | true=>simp only[if_true,qmj];rw[ih]
      | false=>simp only[qm3,if_false];exact ih
theorem Am (q:Str->Bool) (xs:List Str):∃m,m<2 ^ xs.length/\cV (fB m) xs=xs.filter q:=by
  obtain⟨m,hm,h⟩:=Tr q xs 0;exact⟨m,hm,h (fB m) λi _=>by rw[qn1]⟩
def Vx (xs:List Str) (ps:List (Str×Str)) (g:Str->Nat):Prop:=(xs.map g).sum=ps.length/\∀m,m<2 ^ xs.length->dW (cV (fB m) xs) ps<=((cV (fB m) xs).map g).sum
theorem Oj {xs:List Str} (p:Str->Bool):∀{ps:List (Str×Str)},(∀e∈ps,e.1∈xs/\e.2∈xs)->Oh (xs.filter p) ps+dW (xs.filter λx=>!p x) ps=ps.length
  | [],_=>rfl
  | e::ps,h=>by
    have ih:=Oj p (xs:=xs) (ps:=ps) λd hd=>h d (qlZ _ hd);have he:=h e ql6;simp only[Oh,dW,qml,qmd,he.1,he.2,true_and];cases p e.1 <;> cases p e.2 <;> simp <;> omega
theorem Vy {xs:List Str} (p:Str->Bool) (g:Str->Nat):((xs.filter p).map g).sum+((xs.filter λx=>!p x).map g).sum=(xs.map g).sum:=by
  induction xs with
  | nil=>rfl
  | cons x xs ih=>
    rw[qnc,qnc,qmj,qnI];cases p x <;> simp <;> omega
theorem ZD {xs:List Str} {ps:List (Str×Str)} {g:Str->Nat} (hp:∀e∈ps,e.1∈xs/\e.2∈xs) {p:Str->Bool} (h:Oh (xs.filter p) ps<((xs.filter p).map g).sum):¬Vx xs ps g:=λ⟨h1,h2⟩=>by
  obtain⟨m,hm,e⟩:=Am (λx=>!p x) xs;have a:=h2 m hm;rw[e] at a;have b:=Oj p (xs:=xs) hp;have c:=Vy (xs:=xs) p g;omega
theorem qbV {xs:List Str} {ps:List (Str×Str)} {g:Str->Nat} {p:Str->Bool} (h:((xs.filter p).map g).sum<dW (xs.filter p) ps):¬Vx xs ps g:=λ⟨_,h2⟩=>by
  obtain⟨m,hm,e⟩:=Am p xs;have a:=h2 m hm;rw[e] at a;omega
def qcV (xs:List Str) (ps:List (Str×Str)) (g:Str->Nat) (w:Str) (c:List Str):Prop:=(∃p:Str->Bool,c=xs.filter p)/\0<c.length/\((w = "touching" /\Oh c ps<(c.map g).sum)\/(w = "within" /\(c.map g).sum<dW c ps))
theorem qbW {xs:List Str} {ps:List (Str×Str)} {g:Str->Nat} {w:Str} {c:List Str} (hp:∀e∈ps,e.1∈xs/\e.2∈xs) (h:qcV xs ps g w c):¬Vx xs ps g:=by
  obtain⟨⟨p,rfl⟩,_,⟨_,h⟩ | ⟨_,h⟩⟩:=h
  ·exact ZD hp h
  ·exact qbV h
theorem ZF {xs:List Str} {ns:List Int} {ps:List (Str×Str)} {g:Str->Nat} {w:Str} {c:List Str} (nd:xs.Nodup) (hp:∀e∈ps,e.1∈xs/\e.2∈xs) (h1:ns.length=ps.length)
    (h:qg1 (jl ns ps 0) xs (fZ xs (λx=>(inN ns ps x:Int)) λx=>(g x:Int)) (fZ xs (λx=>(g x:Int)) λx=>(inN ns ps x:Int)) w c)
    (hno:∀s∈fZ xs (λx=>(inN ns ps x:Int)) (λx=>(g x:Int)),∀e∈fZ xs (λx=>(g x:Int)) (λx=>(inN ns ps x:Int)),¬RT (lR (jl ns ps 0)) s e)
    (hgap:0<(fZ xs (λx=>(inN ns ps x:Int)) λx=>(g x:Int)).length\/0<(fZ xs (λx=>(g x:Int)) λx=>(inN ns ps x:Int)).length):qcV xs ps g w c:=by
  obtain⟨h0,rfl,p,hpp,rfl⟩ | ⟨h0,rfl,p,hpp,rfl⟩:=h
  ·obtain⟨a,b⟩:=Oi nd hp h1 (λy=>oO) (λy=>oO) hpp hno h0;exact⟨⟨p,rfl⟩,b,.inl ⟨rfl,a⟩⟩
  ·obtain⟨a,b⟩:=Q9 nd hp h1 (λy hy z=>absurd (qm2 (oO.mpr ⟨hy,z⟩)) (by omega)) (λy=>oO) hpp (by omega);exact⟨⟨p,rfl⟩,b,.inr ⟨rfl,a⟩⟩
def Et (C:Addr):Sp:=λvs H Q _=>∃(o i:Addr) (xs:List Str) (ps:List (Str×Str)) (gs:List Int),vs=[.ref o,.ref i]/\eV C H o xs ps/\xs.length<=9/\gs.length=xs.length/\(∀n∈gs,0<=n)/\Sq H i (gs.map V.int)/\∀H',Same H H'->Q .non H'
theorem Eu (T:Txt K mg a):bN P w K mg base ig 2 a.dD a.jy ["web", "thing"] (Et a.bD):=by
  exists T.pC.lK,Ds
  ·obtain⟨o,i,xs,ps,gs,rfl,_⟩:=h;rfl
  . obtain⟨o,i,xs,ps,gs,rfl,hw,h9,hl,h0,ht,q⟩:=h;refine⟨_,(aC (dJ (PW.pt (rJ (dI (cJ (PE.eqv (aG (jR T) hr.d rfl T.jd T.fY.kp T.jc .nil aR (aj (aH 1) ao)) (aF _ _ _)))) (lD (bh vK (aM (bO (K:=K) rfl) rfl T.nm.len ql8 (aj (aH 1) ao)) (aM (bO (K:=K) rfl) rfl T.nm.len ql8 (aj (PE.eqv (cT (aH 0) T.g_ T.cZ (dH T) hr.d T.cY .nil aR) (cU _ _ _ _ _ _)) ao)) (bK _))))) (aD iu) bG)
      (aD (dJ (dI (cJ (aM (gU rfl) rfl T.nm.all gR (aj (bU rfl rfl (show aN (aA jX) _ ["web", "thing"] ["one"] [] ["one"] from by rfl') rfl (PI.eqv (nG (K:=K) rfl (aH 1)) (kE _ _)) (λC s H fp pn=>(aJ (i:=0) (show(["one"]:List Str).Nodup by symm) rfl (Or.inl rfl))) (λC s H fp pn=>bM) (λC s H fp pn=>(nO (PE.eqv (aG (oN T) hr.d rfl T.mY T.jO.kp T.mX .nil aR (aj (aH 0) ao)) (aF _ _ _)) (rZ (gO qdX (aH 0) aK (bK _)))))) ao)))) (aD iu) bG))),?_⟩
    have s60:60<=sizeLine:=by decide
    left;refine⟨i,_,rfl,ht,λH1 s1=>?_⟩;obtain⟨dx,fs,hin,hno⟩:=(hw.same s1).ins cC.1 cC.2;left;refine⟨_,(ht.same s1).q,_,_,hin,hno,o,xs,ps,rfl,hw.same s1,λp1 hp1=>?_⟩;exists H1,p1,(.lst (xs.map V.str)),s2,e2,H2,hp1;have S2:=s1.trans s2;left;refine⟨_,.inl (aX.of e2),false,by simp[hl],fj.neg rfl ?_⟩;obtain⟨b,hb⟩:=(ht.same S2).b;left;refine⟨b,⟨_,hb K H2 (Same.refl _)⟩,λD hD=>cmQ (gs.map V.int) (λi σ H'=>(∃o',σ=[o'])/\H' D=some (.lst (List.replicate i (.bl true)))/\Same H2 H') ⟨⟨_,rfl⟩,ak,au hD⟩ (λi σ H' _ h=>hb K H' h.2.2) ?_ ?_⟩
    . rintro i x σ H3 hi ⟨⟨o',rfl⟩,jE,s3⟩;obtain⟨n,hn,rfl⟩:∃n,gs[i]? = some n/\x = .int n:=by
        rw[qmc] at hi;cases hn:gs[i]? with
        | none=>rw[hn] at hi;cases hi
        | some n=>rw[hn] at hi;cases hi;exact⟨n,rfl,rfl⟩
      have hi2:i<gs.length:=(qlT.mp hn).1;have h0':=h0 n (qlX hn);left;refine⟨.int n,.int n,rfl,by simp[mj],?_⟩;simp only[wj];left;refine⟨_,jE,by simp;omega,?_,aW s3 hD⟩;rw[ak,qmz h0',qnk]
    ·rintro σ H3 ⟨⟨o',rfl⟩,jE,s3⟩;left;refine⟨_,jE,_,je _,?_⟩;rw[show(List.replicate (gs.map V.int).length true).all id=true by simp];refine fj.neg rfl ?_;left;exact q _ (S2.trans s3)
theorem ZG {ns:List Int} {ps:List (Str×Str)} (hl:ns.length=ps.length) (h01:∀n∈ns,0<=n/\n<=1):((QZ ns ps).map λs=>s.2.2)=dU ns ps:=by
  rw[Zt hl h01,RV]
def qeX:V->Int
  | .int n=>n
  | _=>0
theorem Ol:∀ns:List Int,(ns.map V.int).map qeX=ns
  | []=>rfl
  | n::ns=>by simp only[qmj,qeX];rw[Ol ns]
def ZJ (xs:List Str) (ps:List (Str×Str)) (g:Str->Nat) (σ:List (Option V)) (H:Hp):Nat:=match σ[2]? with
  | some (some (V.ref t))=>(match H t with
    | some (.lst vs)=>muN xs (inN (vs.map qeX) ps) g
    | _=>0)
  | _=>0
theorem Om {xs:List Str} {ps:List (Str×Str)} {g:Str->Nat} {o0 o1:Option V} {t:Addr} {r:List (Option V)} {H:Hp} {ns:List Int} (h:H t=some (.lst (ns.map V.int))):ZJ xs ps g (o0::o1::some (.ref t)::r) H=muN xs (inN ns ps) g:=by
  unfold ZJ;simp only[qnV,List.getElem?_cons_zero,h,Ol]
theorem rep0 (m:Nat):(List.replicate m [V.int 0]).flatten=(List.replicate m (0:Int)).map V.int:=by
  rw[List.map_replicate]
  induction m with
  | zero=>rfl
  | succ m ih=>rw[qnd,qob,ih,qnd];rfl
theorem Vz {K:W.Frag} {g:Int->Int->V} {i j:Nat} {x y:V}:∀(σ:St) (H:Hp) (Q Q':Bool->Hp->Prop),(∀(b:Bool) (H1:Hp),Q b H1->Q' b H1)->
    tOr (p7 (V3 (Qa g) (tCB (xr K) (zP (fVar i) Iv)) (tC x))) (p7 (V3 (Qa g) (tCB (xr K) (zP (fVar j) Iv)) (tC y))) σ H Q->tOr (p7 (V3 (Qa g) (tCB (xr K) (zP (fVar i) Iv)) (tC x))) (p7 (V3 (Qa g) (tCB (xr K) (zP (fVar j) Iv)) (tC y))) σ H Q':=by
  intro σ H Q Q' f h;refine getSt.imp (λv h=>isRef.imp (λp h=>?_) h) h;obtain⟨ys,h1,h2⟩:=h;refine⟨ys,h1,?_⟩;obtain⟨n,rfl,h3⟩:=isInt.out (x:=x) h2;refine qz.imp (λb h=>?_) h3;cases b with
  | true=>exact f _ _ h
  | false=>
    refine getSt.imp (λv h=>isRef.imp (λp h=>?_) h) h;obtain⟨ys,h1,h2⟩:=h;refine⟨ys,h1,?_⟩;obtain⟨m,rfl,h4⟩:=isInt.out (x:=y) h2;exact qz.imp (λb h=>f _ _ h) h4
theorem qbX {S:List nH} {a:Str} {w:List Nat} {vs:List Str} {b:Str} (h:rK S a w vs b) {xs:List Str} (ha:a∈xs) (hS:∀s∈S,s.2.2∈xs):∀v∈vs,v∈xs:=by
  induction h with
  | nil=>intro v hv;rw[qmu] at hv;subst hv;exact ha
  | snoc _ q ih=>
    intro v hv
    rcases qmh.mp hv with hv | hv
    ·exact ih v hv
    ·rw[qmu] at hv;subst hv;exact hS _ q
theorem ZK {w:List Nat} (h:w.Nodup):(lB w).Nodup:=by
  unfold lB
  induction w with
  | nil=>exact List.nodup_nil
  | cons a l ih=>
    rw[qmO] at h;rw[qmj,qmO];refine⟨λz=>?_,ih h.2⟩;obtain⟨k,hk,e⟩:=qmw.mp z;have:k=a:=by omega
    exact h.1 (this▸hk)
def Ew (C:Addr):Sp:=λvs H Q _=>∃(o i:Addr) (xs:List Str) (ps:List (Str×Str)) (g:Str->Nat),vs=[.ref o,.ref i]/\eV C H o xs ps/\S7 xs/\wg xs ps/\Sq H i ((xs.map λx=>(g x:Int)).map V.int)/\Vx xs ps g/\
  ∀(r:Addr) (ns:List Int) (H':Hp),H r=none->H' r=some (.lst (ns.map V.int))->ns.length=ps.length->(∀n∈ns,0<=n/\n<=1)->(∀x∈xs,inN ns ps x=g x)->Same H H'->Q (.ref r) H'
theorem Oo (R:Str->Prop):∃p:Str->Bool,∀x,p x=true↔R x:=by
  have hd:∀x,∃z:Bool,z=true↔R x:=λx=>by
    by_cases h:R x
    ·exact⟨true,by simp only[true_iff];exact h⟩
    ·exact⟨false,by simp only[qm3,false_iff];exact h⟩
  exact⟨λx=>(hd x).choose,λx=>(hd x).choose_spec⟩
theorem qeY {xs:List Str} {ns:List Int} {ps:List (Str×Str)} {g:Str->Nat} (nd:xs.Nodup) (hp:∀e∈ps,e.1∈xs/\e.2∈xs) (h1:ns.length=ps.length) (hc:Vx xs ps g)
    (hno:∀s∈fZ xs (λx=>(inN ns ps x:Int)) (λx=>(g x:Int)),∀e∈fZ xs (λx=>(g x:Int)) (λx=>(inN ns ps x:Int)),¬RT (lR (jl ns ps 0)) s e)
    (hgap:0<(fZ xs (λx=>(inN ns ps x:Int)) λx=>(g x:Int)).length\/0<(fZ xs (λx=>(g x:Int)) λx=>(inN ns ps x:Int)).length):False:=by
  have hR:∃w part,qg1 (jl ns ps 0) xs (fZ xs (λx=>(inN ns ps x:Int)) λx=>(g x:Int)) (fZ xs (λx=>(g x:Int)) λx=>(inN ns ps x:Int)) w part:=by
    by_cases h0:0<(fZ xs (λx=>(inN ns ps x:Int)) λx=>(g x:Int)).length
    ·obtain⟨p,h⟩:=Oo λx=>∃s∈fZ xs (λx=>(inN ns ps x:Int)) (λx=>(g x:Int)),RT (lR (jl ns ps 0)) s x;exact⟨_,_,.inl ⟨h0,rfl,p,h,rfl⟩⟩
    ·obtain⟨p,h⟩:=Oo λx=>∃e∈fZ xs (λx=>(g x:Int)) (λx=>(inN ns ps x:Int)),RT (lR (jl ns ps 0)) x e;exact⟨_,_,.inr ⟨by omega,rfl,p,h,rfl⟩⟩
  obtain⟨w,part,hR⟩:=hR;exact qbW hp (ZF nd hp h1 hR hno hgap) hc
theorem Ey (T:Txt K mg a):bN P w K mg base ig 7 a.dG a.jA ["web", "ins"] (Ew a.bD):=by
  exists T.pG.lK,cA
  ·obtain⟨o,i,xs,ps,g,rfl,_⟩:=h;rfl
  . obtain⟨o,i,xs,ps,g,rfl,hw,hX,hT,hi,hcan,q⟩:=h;refine⟨_,(aC (fG (PE.eqv (aG (Eu T) hr.d rfl T.u_ T.pC.kp T.u9 .nil aR (aj (aH 0) (aj (aH 1) ao))) (aF _ _ _)))
      (aC (bC (i:=2) cA.nd rfl (Or.inl rfl) (bT qbD (dX (aj aK ao)) (PE.eqv (cT (aH 0) T.g_ T.ni (oM T) hr.d T.m5 .nil aR) (cU _ _ _ _ _ _))))
      (aC (Ip (PE.eqv (aG (Tn T) hr.d rfl T.QC T.Kp.kp T.QB .nil aR (aj (aH 0) (aj (PE.eqv (aG (Ig T) hr.d rfl T.D_ T.yh.kp T.DY .nil aR (aj (aH 0) (aj (aH 2) ao))) (aF _ _ _)) (aj (aH 1) ao)))) (aF _ _ _)) (PG.eqv (cI (K:=K) (n:=2) rfl rfl (fP.eqv (aU (aJ (i:=3) cA.nd rfl (Or.inl rfl)) (fP.eqv (aU (aJ (i:=4) cA.nd rfl (Or.inl rfl)) (fP.mono cH eY)) (aV _ _))) (aV _ _))) (cM _ _ _)))
      (aC (Li qmU (PW.pt (rJ (bh sX (aM (bO (K:=K) rfl) rfl T.nm.len ql8 (aj (aH 3) ao)) aK (bK _)) (lD (bh sX (aM (bO (K:=K) rfl) rfl T.nm.len ql8 (aj (aH 4) ao)) aK (bK _)))))
      (aC (bC (i:=5) cA.nd rfl (Or.inl rfl) (PE.eqv (aG (zF T) hr.d rfl T.yc T.tV.kp T.xZ .nil aR (aj (aH 0) (aj (aH 2) ao))) (aF _ _ _)))
      (aC (bC (i:=6) cA.nd rfl (Or.inl rfl) (PE.eqv (aG (Er T) hr.d rfl T.vf T.pF.kp T.vd .nil aR (aj (aH 5) (aj (aH 3) (aj (aH 4) ao)))) (aF _ _ _)))
      (aC (dJ (bh qdp (aH 6) Wc (bK _)) (aD (fG (PE.eqv (aG (Gj T) hr.d rfl T.yr T.qZ.kp T.yq .nil aR (aj (aH 0) (aj (aH 5) (aj (aH 3) (aj (aH 4) ao))))) (aF _ _ _)))) bG)
      (aC (bC (i:=2) cA.nd rfl (Or.inl rfl) (PE.eqv (aG (Vp T) hr.d rfl T.Nq T.DX.kp T.Np .nil aR (aj (aH 0) (aj (aH 2) (aj (aH 6) ao)))) (aF _ _ _)))
      (aD (Ip (PE.eqv (aG (Tn T) hr.d rfl T.QC T.Kp.kp T.QB .nil aR (aj (aH 0) (aj (PE.eqv (aG (Ig T) hr.d rfl T.D_ T.yh.kp T.DY .nil aR (aj (aH 0) (aj (aH 2) ao))) (aF _ _ _)) (aj (aH 1) ao)))) (aF _ _ _)) (PG.eqv (cI (K:=K) (n:=2) rfl rfl (fP.eqv (aU (aJ (i:=3) cA.nd rfl (Or.inl rfl)) (fP.eqv (aU (aJ (i:=4) cA.nd rfl (Or.inl rfl)) (fP.mono cH eY)) (aV _ _))) (aV _ _))) (cM _ _ _)))))))))
      (aD (aZ (aH 2))))))),?_⟩
    have s60:60<=sizeLine:=by decide
    have l9:=hX.len;have l20:=hT.len;left;refine⟨o,i,xs,ps,_,rfl,hw,l9.2,by simp,λn hn=>?_,hi,λH1 s1=>?_⟩
    ·obtain⟨x,_,rfl⟩:=qmw.mp hn;exact Int.natCast_nonneg _
    left;intro p2 hp2;exists H1,p2,(.lst [V.int 0]),s2,e2,H2,hp2;have S2:=s1.trans s2;obtain⟨dx,fs,hin,hno⟩:=(hw.same S2).ins oK.1 oK.2;refine⟨_,_,hin,hno,o,xs,ps,rfl,hw.same S2,?_⟩;left;refine⟨_,e2,by omega,by simp;omega,λt ht=>?_⟩;rw[rep0];exists H2,t,(.lst ((List.replicate ps.length (0:Int)).map V.int)),s3,e3,H3,ht;have S3:=S2.trans s3;have hr0:H t=none:=cg S2 ht;have l0:(List.replicate ps.length (0:Int)).length=ps.length:=List.length_replicate;have z0:∀n∈List.replicate ps.length (0:Int),0<=n/\n<=1:=λn hn=>by rw[List.eq_of_mem_replicate hn];decide
    generalize List.replicate ps.length (0:Int)=ns0 at e3 l0 z0;have g2:∀e∈ps,e.1∈xs/\e.2∈xs:=λe he=>⟨(hT.ok e he).1,(hT.ok e he).2.1⟩;have hne:∀e∈ps,e.1≠e.2:=λe he=>(hT.ok e he).2.2;refine⟨o,t,xs,ps,ns0,rfl,⟨hw.same S3,.inl e3,z0,l0,l20⟩,l9.2,λr4 H4 QJ e4 s4=>?_⟩;rw[ZG l0 z0] at e4;have S4:=S3.trans s4;left;refine⟨o,r4,i,xs,ps,_,_,rfl,hw.same S4,l9.1,l9.2,e4,hi.same S4,λt5 la sp H5 ht5 hla hsp e5 ela esp s5=>?_⟩;have S5:=S4.trans s5;left;refine⟨_,dO.of e5,rfl,?_⟩;left;refine whB (λσ H'=>∃(t la sp:Addr) (ns:List Int) (o5 o6:Option V),σ=[some (.ref o),some (.ref i),some (.ref t),some (.ref la),some (.ref sp),o5,o6]/\H t=none/\H' t=some (.lst (ns.map V.int))/\ns.length=ps.length/\(∀n∈ns,0<=n/\n<=1)/\
        H' la=some (.lst ((fZ xs (λx=>(inN ns ps x:Int)) λx=>(g x:Int)).map V.str))/\H' sp=some (.lst ((fZ xs (λx=>(g x:Int)) λx=>(inN ns ps x:Int)).map V.str))/\Same H H') (ZJ xs ps g)
      ⟨t,la,sp,ns0,none,none,rfl,hr0,s5 _ _ (s4 _ _ e3),l0,z0,ela,esp,S5⟩ ?_ Vz
    rintro σ H6 ⟨t,la,sp,ns,o5,o6,rfl,hr6,e6,hl6,h01,qg4,qg5,S6⟩;rw[Om e6];left;generalize hBd:qc7 (TX (Yi (Ie a.bD) E0 _) _) _ _ _ _=Bd;have body:(0<(fZ xs (λx=>(inN ns ps x:Int)) λx=>(g x:Int)).length\/0<(fZ xs (λx=>(g x:Int)) λx=>(inN ns ps x:Int)).length)->Bd:=by
      intro hgap;rw[<- hBd];left;refine⟨o,t,xs,ps,ns,rfl,⟨hw.same S6,.inl e6,h01,hl6,l20⟩,λl7 tv H7 hl7 e7 hst h40 s7=>?_⟩;rw[Zt hl6 h01] at hst;have hgo:∀s∈jl ns ps 0,s.2.2∈xs:=λs hs=>by
        obtain⟨j,m,e,a1,a2,rfl⟩:=sY.mp hs;have he:=g2 e (qlX a2);show lZ m e∈xs;unfold lZ;split
        ·exact he.2
        ·exact he.1
      left;refine⟨l7,la,sp,tv,_,_,_,xs,rfl,e7,hst,s7 _ _ qg4,s7 _ _ qg5,λx hx=>(qmd.mp hx).1,hgo,l9.2,λH8 hno s8=>?_,λsx ex w ws r8 H8 hsx hex Ob hnd hr8 e8 s8=>?_⟩
      ·exact(qeY hX.nd g2 hl6 hcan hno hgap).elim
      . have S8:=S6.trans (s7.trans s8);obtain⟨i1,i2,i3⟩:=Vs h01 hne Ob hnd;obtain⟨qg6,hs1⟩:=oO.mp hsx;have FJ:=(oO.mp hex).2;have wl:w.length<xs.length:=by
          have hlen:=Ob.len;have:=jJ hnd λv hv=>qbX Ob qg6 hgo v hv;omega
        have mlt:=qg0 (f:=inN ns ps) (f':=inN (La (lB w) ns) ps) (g:=g) qg6 hs1 FJ i3;have e6':=(s7.trans s8) _ _ e6;have e8':H8 r8=some (.lst ((lB w).map V.int)):=by rw[e8];simp[lB]
        left;refine⟨o,t,r8,xs,ps,ns,lB w,rfl,⟨hw.same S8,.inl e6',h01,hl6,l20⟩,.inl e8',⟨λk hk=>?_,?_,?_⟩,λr9 H9 hr9 e9 s9=>?_⟩
        ·obtain⟨n,hn,rfl⟩:=qmw.mp hk;have:=i1 n hn;omega
        ·exact ZK i2
        ·unfold lB;rw[ql2];omega
        ·have S9:=S8.trans s9;have l9':=uJ (lB w) ns;have z9:=qeU (ks:=lB w) h01;generalize La (lB w) ns=ns9 at e9 l9' z9 mlt i3;rw[hl6] at l9';left;refine⟨o,r9,xs,ps,ns9,rfl,⟨hw.same S9,.inl e9,z9,l9',l20⟩,l9.2,λr10 H10 qlJ e10 z8=>?_⟩;rw[ZG l9' z9] at e10;have S10:=S9.trans z8;left;refine⟨o,r10,i,xs,ps,_,_,rfl,hw.same S10,l9.1,l9.2,e10,hi.same S10,λt11 qkB qkC H11 qlK qlo qlp e11 qg7 qg8 K9=>?_⟩;left;refine⟨_,dO.of e11,rfl,?_⟩;left;refine⟨⟨r9,qkB,qkC,⟨rfl,rfl,rfl⟩,cg S8 hr9,ns9,(z8.trans K9) _ _ e9,l9',z9,qg7,qg8,S10.trans K9⟩,?_⟩;rw[Om ((z8.trans K9) _ _ e9)];exact mlt
    refine⟨_,.inl (aX.of qg4),fj.of (λh=>?_) (λh=>?_)⟩
    ·refine fj.pos rfl (body (.inl ?_));have h':=qmn h;rw[ql2] at h';omega
    . left;refine⟨_,.inl (aX.of qg5),fj.of (λh2=>?_) (λh2=>?_)⟩
      ·rw[hBd];refine body (.inr ?_);have h':=qmn h2;rw[ql2] at h';omega
      ·left;have h1':=qmP h;have h2':=qmP h2;rw[ql2] at h1' h2';refine q t ns H6 hr6 e6 hl6 h01 (λx hx=>?_) S6;have a1:¬inN ns ps x<g x:=λz=>h1' (qm2 (oO.mpr ⟨hx,z⟩));have a2:¬g x<inN ns ps x:=λz=>h2' (qm2 (oO.mpr ⟨hx,z⟩));omega
theorem Ii {H H':Hp} {vs:List V} {S:List nH} (h:dZ H vs S) (k:Same H H'):dZ H' vs S:=bI.keep h λv s ⟨t,e,z⟩=>⟨t,e,k _ _ z⟩
abbrev lamP:Pos:=⟨203,28,203,46⟩
abbrev ZL:Str:= "times_over" ++ ".<locals>." ++ "<lambda>"
def wu (xs:List Str) (ns:List Int) (ps:List (Str×Str)) (m:Nat):Int:=((pY (cV (fB (1+m)) xs) ns ps:Nat):Int)
def qeZ (xs:List Str) (ns:List Int) (ps:List (Str×Str)) (i:Nat):Prop:=i<2 ^ xs.length - 2/\∀j,j<2 ^ xs.length - 2->wu xs ns ps i<=wu xs ns ps j/\(j<i->wu xs ns ps i<wu xs ns ps j)
theorem Tt:∀{uv:List V},(∀v∈uv,∃t,v = .ref t)->∃as:List Addr,uv=as.map V.ref
  | [],_=>⟨[],rfl⟩
  | v::uv,h=>by
    obtain⟨t,rfl⟩:=h v ql6;obtain⟨as,rfl⟩:=Tt (uv:=uv) λu hu=>h u (qlZ _ hu);exact⟨t::as,rfl⟩
def Gn (C Pt:Addr):Sp:=λvs H Q _=>∃(o t:Addr) (xs:List Str) (ps:List (Str×Str)) (ns:List Int),vs=[.ref o,.ref t]/\Zr C H o t xs ps ns/\1<=xs.length/\xs.length<=9/\TabOk lamP ZL Pt H/\
  (xs.length=1->∀H',But Pt H H'->TabOk lamP ZL Pt H'->Q .non H')/\
  ∀(r t1:Addr) (i:Nat) (H':Hp),qeZ xs ns ps i->H r=none->H t1=none->H' r=some (.tup [.int (wu xs ns ps i),.ref t1])->H' t1=some (.lst ((cV (fB (1+i)) xs).map V.str))->But Pt H H'->TabOk lamP ZL Pt H'->Q (.ref r) H'
theorem Gp (T:Txt K mg a) {c Pt:Addr} (L:qcJ a.fX base mg c Pt):bN P w K mg base ig 7 a.cX a.fX ["web", "pointing"] (Gn a.bD Pt):=by
  refine T.q_.okC L.cd o9 (λvs H Q E h=>?_) (λA outer s H vs Q E hr h=>?_)
  ·obtain⟨o,t,xs,ps,ns,rfl,_⟩:=h;rfl
  . obtain⟨o,t,xs,ps,ns,rfl,hp,h1,h9,hT,q1,q⟩:=h;refine⟨_,(aC (bC (i:=2) o9.nd rfl (Or.inr rfl) (PE.eqv (aG (zF T) hr.d rfl T.yc T.tV.kp T.xZ .nil aR (aj (aH 0) (aj (aH 1) ao))) (aF _ _ _)))
      (aC (gw (i:=3) o9.nd rfl rfl rfl rfl (show aN (aA cN) _ ["web", "pointing", "steps", "counted"] ["lot"] [2] ["lot", "steps"] from by rfl') rfl (PI.eqv (bB (K:=K) rfl (PE.eqv (aG (t_ T) hr.d rfl T.qU T.m6.kp T.qT .nil aR (aj (aH 0) ao)) (aF _ _ _))) (bx _ _)) (λC s H fp pn=>(aJ (i:=0) (show(["lot", "steps"]:List Str).Nodup by symm) rfl (Or.inl rfl))) (λC s H fp pn=>bM) (λC s H fp pn=>(iM (aj (aM (bO (K:=K) rfl) rfl T.nm.len ql8 (aj (PE.eqv (aG (Gm T) hr.d rfl T.yg T.qX.kp T.yd .nil aR (aj (aH 1) (aj (aH 0) ao))) (aF _ _ _)) ao)) (aj (aH 0) ao)))))
      (aD (aZ (qbA (K:=K) (k:=0) rfl hr.d rfl L.hd L.bt rfl T.nm.min (aj (aH 3) ao) rfl))))),?_⟩
    have Q8:600<sizeLine:=by decide
    have hw:=hp.1;left;refine⟨o,t,xs,ps,ns,rfl,hp,λl sv H1 hl0 hl1 hS h40 s1=>?_⟩;left;refine⟨o,xs,ps,rfl,hw.same s1,h9,λr2 tv H2 hr2 e2 hN s2=>?_⟩;have hl2:=s2 _ _ hl1;have hS2:=Ii hS s2;have tl:tv.length=2 ^ xs.length - 2:=by rw[hN.1,qj]
    have p9:2 ^ xs.length<=2 ^ 9:=qmL (by decide) h9;left;refine⟨⟨_,aX.of e2⟩,λD hD=>K7 tv (λj σ H'=>(∃o1,σ=[o1,some (.ref l)])/\(∃uv,H' D=some (.lst uv)/\uv.length=j/\∀k v,uv[k]? = some v->∃u lt,v = .ref u/\u≠D/\H u=none/\tv[k]? = some (.ref lt)/\H' u=some (.tup [.int (wu xs ns ps k),.ref lt]))/\Same H2 H') ⟨⟨_,rfl⟩,⟨[],ak,rfl,by simp⟩,au hD⟩ (λi σ H' _ h=>aX.of (h.2.2 _ _ e2)) ?_ ?_⟩
    . rintro j v σ H3 hj ⟨⟨o1,rfl⟩,⟨uv,jE,V8,huv⟩,s3⟩;have hj2:j<tv.length:=(qlT.mp hj).1;obtain⟨c,hc,t4,rfl,ht0,ht4⟩:=bI.at hN hj;rw[uK (by omega)] at hc;cases hc;left;refine⟨l,t4,sv,_,_,rfl,s3 _ _ hl2,Ii hS2 s3,s3 _ _ ht4,h40,λl5 lv H5 hl5 e5 qg9 s5=>?_⟩;have e0:((lv.length:Nat):Int)=wu xs ns ps j:=by
        rw[qg9,Zt hp.2.2.2.1 hp.2.2.1];unfold wu;rw[<- RW _ ns ps 0];rfl
      left;refine⟨_,.inl (aX.of e5),?_⟩;rw[e0];intro p6 Vv;exists H5,p6,(.tup [.int (wu xs ns ps j),.ref t4]),s6,e6,H6,Vv;have Ax:=s5 _ _ jE;have p6D:p6≠D:=λz=>by rw[z,Ax] at Vv;cases Vv
      refine⟨uv,s6 _ _ Ax,by omega,⟨_,ak,by simp[V8],λk v hk=>?_⟩,aW (s3.trans (s5.trans s6)) hD⟩
      by_cases hkj:k<uv.length
      ·rw[ql9 hkj] at hk;obtain⟨u,lt,rfl,h1,h2,h3,h4⟩:=huv k v hk;exact⟨u,rfl,h1,h2,lt,h3,by rw[aB h1];exact(s5.trans s6) _ _ h4⟩
      . rw[qma (by omega)] at hk;have hk0:k=j:=by
          have:=(qlT.mp hk).1;simp at this;omega
        subst hk0;rw[V8,Nat.sub_self] at hk;simp at hk;subst hk;exact⟨p6,rfl,p6D,(s1.trans (s2.trans (s3.trans s5))).free Vv,t4,hj,by rw[aB p6D];exact e6⟩
    . rintro σ H3 ⟨⟨o1,rfl⟩,⟨uv,jE,V8,huv⟩,s3⟩;obtain⟨as,rfl⟩:=Tt (uv:=uv) λv hv=>by
        obtain⟨k,hk⟩:=List.getElem?_of_mem hv;obtain⟨u,lt,rfl,_⟩:=huv k v hk;exact⟨u,rfl⟩
      have al:as.length=2 ^ xs.length - 2:=by rw[<- tl,<- V8,ql2]
      have S3:=s1.trans (s2.trans s3);have hT3:=hT.same S3;left;have nP:∀{b:Addr} {o:HO},H3 b=some o->(∀ps,o≠.Aq ps)->b≠Pt:=λ{b o} e n z=>by
        obtain⟨qs,hq⟩:=hT3.tb;rw[z,hq] at e;cases e;exact n _ rfl
      refine⟨hT3,as,aX.of jE,wu xs ns ps,λi u hu=>?_,λh0 H4 hB hT4=>?_,λi u hu hbest H4 hB hT4=>?_⟩
      ·obtain⟨u',lt,e,_,_,_,h4⟩:=huv i (.ref u) (by rw[qmc,hu];rfl);cases e;exact⟨_,dO.of h4⟩
      . refine q1 ?_ H4 (λb o n e=>hB b o n (S3 b o e)) hT4;rw[h0] at al;simp at al
        by_cases h2:2<=xs.length
        ·have:2 ^ 2<=2 ^ xs.length:=qmL (by decide) h2;omega
        ·omega
      . have hi:i<2 ^ xs.length - 2:=by rw[<- al];exact(qlT.mp hu).1
        obtain⟨u',lt,e,_,hu0,hlt,h4⟩:=huv i (.ref u) (by rw[qmc,hu];rfl);cases e;obtain⟨t5,e5,ht0,ht5⟩:=hN.2 i _ _ hlt (uK hi);cases e5;have qg_:=s3 _ _ ht5;exact q u lt i H4 ⟨hi,λj hj=>hbest j (by rw[al];exact hj)⟩ hu0 (s1.free ht0) (hB _ _ (nP h4 (by simp)) h4) (hB _ _ (nP qg_ (by simp)) qg_) (λb o n e=>hB b o n (S3 b o e)) hT4
def VB (C:Addr):Sp:=λvs H Q _=>∃(o p:Addr) (xs c:List Str) (ps:List (Str×Str)),vs=[.ref o,.ref p]/\eV C H o xs ps/\S7 xs/\Sq H p (c.map V.str)/\c.Nodup/\(∀x∈c,x∈xs)/\0<c.length/\c.length<xs.length/\
  ∀(r:Addr) (H':Hp),H r=none->H' r=some (.lst ((xs.filter λy=>decide (y∈c)).map V.str))->Same H H'->Q (.ref r) H'
theorem Ij (T:Txt K mg a):bN P w K mg base ig 2 a.kO a.uw ["web", "points"] (VB a.bD):=by
  exists T.xW.lK,HJ
  ·obtain⟨o,p,xs,c,ps,rfl,_⟩:=h;rfl
  . obtain⟨o,p,xs,c,ps,rfl,hw,hX,hp,hcn,hcx,hc0,hc9,q⟩:=h;refine⟨_,(aC (dJ (PW.pt (rJ (dI (cJ (PE.eqv (aG (jR T) hr.d rfl T.jd T.fY.kp T.jc .nil aR (aj (aH 1) ao)) (aF _ _ _)))) (lD (dI (cJ (aM (gU rfl) rfl T.nm.all gR (aj (bU rfl rfl (show aN (aA tD) _ ["web", "points", "lot"] ["point"] [] ["point"] from by rfl') rfl (PI.eqv (nG (K:=K) rfl (aH 1)) (kE _ _)) (λC s H fp pn=>(aJ (i:=0) (show(["point"]:List Str).Nodup by symm) rfl (Or.inl rfl))) (λC s H fp pn=>bM) (λC s H fp pn=>(PE.eqv (aG (vY T) hr.d rfl T.uH T.qg.kp T.uG .nil aR (aj (aH 0) ao)) (aF _ _ _)))) ao))))))) (aD iu) bG)
      (aC (gw (i:=2) HJ.nd rfl rfl rfl rfl (show aN (aA tD) _ ["web", "points", "lot"] ["point"] [1] ["point", "points"] from by rfl') rfl (PI.eqv (bB (K:=K) rfl (PE.eqv (cT (aH 0) T.g_ T.cZ (dH T) hr.d T.cY .nil aR) (cU _ _ _ _ _ _))) (bx _ _)) (λC s H fp pn=>(aJ (i:=0) (show(["point", "points"]:List Str).Nodup by symm) rfl (Or.inl rfl))) (λC s H fp pn=>(jj (bh (CQ (K:=K) rfl) (aH 0) (aH 1) rfl))) (λC s H fp pn=>(aH 0)))
      (aC (dJ (bh vK (aM (bO (K:=K) rfl) rfl T.nm.len ql8 (aj (aH 2) ao)) (aM (bO (K:=K) rfl) rfl T.nm.len ql8 (aj (aH 1) ao)) (bK _)) (aD iu) bG)
      (aC (dJ (PW.pt (rJ (bh lJ (aM (bO (K:=K) rfl) rfl T.nm.len ql8 (aj (aH 2) ao)) aK (bK _)) (lD (bh lJ (aM (bO (K:=K) rfl) rfl T.nm.len ql8 (aj (aH 2) ao)) (aM (bO (K:=K) rfl) rfl T.nm.len ql8 (aj (PE.eqv (cT (aH 0) T.g_ T.cZ (dH T) hr.d T.cY .nil aR) (cU _ _ _ _ _ _)) ao)) (bK _))))) (aD iu) bG)
      (aD (aZ (aH 2))))))),?_⟩
    have s20:=qnT Cu;have l9:=hX.len;have hfl:=P0 hX.nd hcn hcx;left;refine⟨p,_,rfl,hp,λH1 s1=>?_⟩;left;obtain⟨b,hb⟩:=(hp.same s1).b;refine⟨b,⟨_,hb K H1 (Same.refl _)⟩,λD hD=>cmQ (c.map V.str) (λi σ H'=>(∃o',σ=[o'])/\H' D=some (.lst (List.replicate i (.bl true)))/\Same H1 H') ⟨⟨_,rfl⟩,ak,au hD⟩ (λi σ H' _ h=>hb K H' h.2.2) ?_ ?_⟩
    ·rintro i x σ H2 hi ⟨⟨o',rfl⟩,hD2,s2⟩;obtain⟨y,hy,rfl⟩:=iQ hi;have hi2:i<c.length:=(qlT.mp hy).1;have hn:=hX.nm y (hcx y (qlX hy));left;refine⟨y,rfl,vZ hn,λH3 s3=>?_⟩;rw[hn];left;refine⟨_,s3 _ _ hD2,by simp;omega,?_,aW (s2.trans s3) hD⟩;rw[ak,qnk]
    . rintro σ H2 ⟨⟨o',rfl⟩,hD2,s2⟩;have sH2:=s1.trans s2;left;refine⟨_,hD2,_,je _,?_⟩;rw[show(List.replicate (c.map V.str).length true).all id=true by simp];obtain⟨dx,fs,hi,hno⟩:=(hw.same sH2).ins cC.1 cC.2;left;refine⟨_,_,hi,hno,o,xs,ps,rfl,hw.same sH2,λl2 hl2=>?_⟩;exists H2,l2,(.lst (xs.map V.str)),s3,e2,H3,hl2;have sH3:=sH2.trans s3;left;refine⟨⟨_,aX.of e2⟩,λD2 hD2=>K7 (xs.map V.str) (λi σ H'=>(∃o',σ=[o',some (.ref p)])/\H' D2=some (.lst (((xs.take i).filter λy=>decide (y∈c)).map V.str))/\Same H3 H') ⟨⟨_,rfl⟩,ak,au hD2⟩ (λi σ H' _ h=>aX.of (h.2.2 _ _ e2)) ?_ ?_⟩
      . rintro i x σ H4 hi ⟨⟨o',rfl⟩,oH,s4⟩;obtain⟨y,hy,rfl⟩:=iQ hi;have hi2:i<xs.length:=(qlT.mp hy).1;left;refine⟨_,(hp.same (sH3.trans s4)).q,rfl,qmk.mp (fW _),?_⟩;rw[dg,take_one hy,qm_];have qkD:((xs.take i).filter λy=>decide (y∈c)).length<=(xs.take i).length:=qm8 _ _;rw[ql7] at qkD;refine fj.of (λh=>?_) (λh=>?_)
        ·have h':y∈c:=qmn h;left;refine⟨_,oH,by simp;omega,?_,aW s4 hD2⟩;rw[ak];simp[h']
        ·have h':¬y∈c:=qmP h;left;refine⟨?_,s4⟩;rw[oH];simp[h']
      . rintro σ H4 ⟨⟨o',rfl⟩,oH,s4⟩;rw[ql2,ql4] at oH;have sH4:=sH3.trans s4;left;refine⟨_,.inl (aX.of oH),_,(hp.same sH4).q,false,by simp[hfl],fj.neg rfl ?_⟩;left;refine⟨_,.inl (aX.of oH),fj.neg (qmA λz=>?_) ?_⟩
        ·have z2:=qmr List.length z;rw[ql2,hfl,List.length_nil] at z2;omega
        obtain⟨dx,fs,hi,hno⟩:=(hw.same sH4).ins cC.1 cC.2;left;refine⟨_,.inl (aX.of oH),_,_,hi,hno,o,xs,ps,rfl,hw.same sH4,λl5 hl5=>?_⟩;have s5:Same H4 (upd H4 l5 (.lst (xs.map V.str))):=au hl5;left;refine⟨_,.inl (aX.of ak),fj.neg (by simp only[ql2,hfl];exact qmA (by omega)) ?_⟩;left;exact q D2 _ (cg sH3 hD2) (s5 _ _ oH) (sH4.trans s5)
def Oq (C:Addr):Sp:=λvs H Q _=>∃(o p:Addr) (xs c:List Str) (ps:List (Str×Str)),vs=[.ref o,.ref p]/\eV C H o xs ps/\S7 xs/\wg xs ps/\Sq H p (c.map V.str)/\c.Nodup/\(∀x∈c,x∈xs)/\0<c.length/\c.length<xs.length/\
  ∀(r:Addr) (H':Hp),H r=none->H' r=some (.lst ((cu c ps).map λn:Nat=>V.int n))->Same H H'->Q (.ref r) H'
theorem Ot (T:Txt K mg a):bN P w K mg base ig 3 a.gG a.oh ["web", "lot"] (Oq a.bD):=by
  exists T.vX.lK,tH
  ·obtain⟨o,p,xs,c,ps,rfl,_⟩:=h;rfl
  . obtain⟨o,p,xs,c,ps,rfl,hw,hX,hTs,hp,hcn,hcx,hc0,hc9,q⟩:=h;refine⟨_,(aC (bC (i:=2) tH.nd rfl (Or.inr rfl) (PE.eqv (aG (Ij T) hr.d rfl T.DP T.xW.kp T.DN .nil aR (aj (aH 0) (aj (aH 1) ao))) (aF _ _ _)))
      (aC (bC (i:=3) tH.nd rfl (Or.inl rfl) (PE.eqv (cT (aH 0) T.g_ T.m_ (oG T) hr.d T.mZ .nil aR) (cU _ _ _ _ _ _)))
      (aD (aZ (bU rfl rfl (show aN (aA qJ) _ ["web", "lot", "inside", "ties"] ["number", "first", "second"] [2] ["number", "first", "second", "inside"] from by rfl') rfl (PI.eqv (wR (K:=K) rfl rfl T.nm2.enumerate (aj (aH 3) ao)) (qe _ _)) (λC s H fp pn=>(PG.eqv (cI (K:=K) (n:=2) rfl rfl (fP.eqv (aU (aJ (i:=0) (show(["number", "first", "second", "inside"]:List Str).Nodup by symm) rfl (Or.inl rfl)) (fP.eqv (aU (PG.eqv (cI (K:=K) (n:=2) rfl rfl (fP.eqv (aU (aJ (i:=1) (show(["number", "first", "second", "inside"]:List Str).Nodup by symm) rfl (Or.inl rfl)) (fP.eqv (aU (aJ (i:=2) (show(["number", "first", "second", "inside"]:List Str).Nodup by symm) rfl (Or.inl rfl)) (fP.mono cH eY)) (aV _ _))) (aV _ _))) (cM _ _ _)) (fP.mono cH eY)) (aV _ _))) (aV _ _))) (cM _ _ _))) (λC s H fp pn=>(jj (bh vK (gO (CQ (K:=K) rfl) (aH 1) (aH 3) rfl) (gO (CQ (K:=K) rfl) (aH 2) (aH 3) rfl) (bK _)))) (λC s H fp pn=>(aH 0))))))),?_⟩
    have s50:50<=sizeLine:=by decide
    have NQ:=hTs.len;left;refine⟨o,p,xs,c,ps,rfl,hw,hX,hp,hcn,hcx,hc0,hc9,λr H1 hr0 hr1 s1=>?_⟩;obtain⟨dx,fs,hi,hno⟩:=(hw.same s1).ins oJ.1 oJ.2;left;refine⟨_,_,hi,hno,o,xs,ps,rfl,hw.same s1,λl2 uI hl2 QT=>?_⟩;have s2:Same H1 (upd H1 l2 (.lst uI)):=au hl2;have e2:upd H1 l2 (.lst uI) l2=some (.lst uI):=ak;have yJ:=bA.same QT s2;have hr2:=s2 _ _ hr1;generalize upd H1 l2 (.lst uI)=H2 at s2 e2 yJ hr2 ⊢;left;refine⟨⟨_,aX.of e2⟩,λD hD=>cmE uI (λi σ H'=>(∃o1 o2 o3,σ=[o1,o2,o3,some (.ref r)])/\H' D=some (.lst ((lH (dY c) (ps.take i) 0).map λn:Nat=>V.int n))/\Same H2 H') ⟨⟨_,_,_,rfl⟩,ak,au hD⟩ (λi σ H' _ h=>aX.of (h.2.2 _ _ e2)) ?_ ?_⟩
    . rintro i x t σ H3 hi ht ⟨⟨o1,o2,o3,rfl⟩,jE,s3⟩;obtain⟨e,he,tt,rfl,htt⟩:=yJ.at hi;obtain⟨q1,q2,_⟩:=hTs.ok e (qlX he);have hi2:i<ps.length:=(qlT.mp he).1;have hcl:(lH (dY c) (ps.take i) 0).length<=20:=by
        have h1:=sU (vH c) (ps.take i) 0;rw[ql7] at h1;omega
      have st:Same H3 (upd H3 t (.tup [.int i,.ref tt])):=au ht;rw[yZ _ he];left;refine⟨_,dO.of ak,rfl,_,dO.of (st _ _ (s3 _ _ htt)),rfl,?_⟩;have QJ:=st _ _ (s3 _ _ hr2);have oH:=st _ _ jE;have s4:=s3.trans st;generalize upd H3 t (.tup [.int i,.ref tt])=H4 at QJ oH s4 ⊢;refine⟨_,.inl (aX.of QJ),rfl,qmk.mp (fW _),_,.inl (aX.of QJ),rfl,qmk.mp (fW _),?_⟩;rw[dg,dg];have m1:(e.1∈xs.filter λy=>decide (y∈c))↔e.1∈c:=by simp[q1]
      have m2:(e.2∈xs.filter λy=>decide (y∈c))↔e.2∈c:=by simp[q2]
      by_cases hif:e.1∈c↔e.2∈c
      . have ef:dY c e i=[]:=by unfold dY;rw[if_pos hif]
        refine⟨false,by simp only[m1,m2,hif];simp,fj.neg rfl ?_⟩;rw[ef,qmy];left;exact⟨oH,s4⟩
      . have ef:dY c e i=[i]:=by unfold dY;rw[if_neg hif]
        refine⟨true,?_,fj.pos rfl ?_⟩
        ·simp only[m1,m2];simp;exact λz=>hif z
        rw[ef];left;refine⟨_,oH,by simp;omega,?_,aW s4 hD⟩;rw[ak]
    ·rintro σ H3 ⟨⟨o1,o2,o3,rfl⟩,jE,s3⟩;rw[yJ.1,ql4] at jE;left;exact q D H3 (cg (s1.trans s2) hD) jE ((s1.trans s2).trans s3)
def wz (c:List Str) (e:Str×Str) (i:Nat):List Nat:=if e.1∈c/\e.2∈c then [i] else []
theorem ZM (c:List Str) (e:Str×Str) (i:Nat):(wz c e i).length<=1:=by
  unfold wz;split <;> simp
def qe0 (c:List Str) (ps:List (Str×Str)):List Nat:=lH (wz c) ps 0
def Ez (C:Addr):Sp:=λvs H Q _=>∃(o p:Addr) (xs c:List Str) (ps:List (Str×Str)),vs=[.ref o,.ref p]/\eV C H o xs ps/\Sq H p (c.map V.str)/\
  ∀(r:Addr) (H':Hp),H r=none->H' r=some (.lst ((qe0 c ps).map λn:Nat=>V.int n))->Same H H'->Q (.ref r) H'
theorem EY (T:Txt K mg a):bN P w K mg base ig 2 a.dw a.ju ["web", "part"] (Ez a.bD):=by
  exists T.pq.lK,Dq
  ·obtain⟨o,p,xs,c,ps,rfl,_⟩:=h;rfl
  . obtain⟨o,p,xs,c,ps,rfl,hw,hp,q⟩:=h;refine⟨_,(aD (aZ (bU rfl rfl (show aN (aA jV) _ ["web", "part"] ["number", "first", "second"] [1] ["number", "first", "second", "part"] from by rfl') rfl (PI.eqv (wR (K:=K) rfl rfl T.nm2.enumerate (aj (PE.eqv (cT (aH 0) T.g_ T.m_ (oG T) hr.d T.mZ .nil aR) (cU _ _ _ _ _ _)) ao)) (qe _ _)) (λC s H fp pn=>(PG.eqv (cI (K:=K) (n:=2) rfl rfl (fP.eqv (aU (aJ (i:=0) (show(["number", "first", "second", "part"]:List Str).Nodup by symm) rfl (Or.inl rfl)) (fP.eqv (aU (PG.eqv (cI (K:=K) (n:=2) rfl rfl (fP.eqv (aU (aJ (i:=1) (show(["number", "first", "second", "part"]:List Str).Nodup by symm) rfl (Or.inl rfl)) (fP.eqv (aU (aJ (i:=2) (show(["number", "first", "second", "part"]:List Str).Nodup by symm) rfl (Or.inl rfl)) (fP.mono cH eY)) (aV _ _))) (aV _ _))) (cM _ _ _)) (fP.mono cH eY)) (aV _ _))) (aV _ _))) (cM _ _ _))) (λC s H fp pn=>(jj (PW.pt (Io (bh (CQ (K:=K) rfl) (aH 1) (aH 3) rfl) (Bb (bh (CQ (K:=K) rfl) (aH 2) (aH 3) rfl)))))) (λC s H fp pn=>(aH 0))))),?_⟩;have s50:50<=sizeLine:=by decide
    have NQ:ps.length<=20:=by
      obtain⟨_,_,_,_,_,_,_,_,z⟩:=hw.ex;exact z
    obtain⟨dx,fs,hi,hno⟩:=hw.ins oJ.1 oJ.2;left;refine⟨_,_,hi,hno,o,xs,ps,rfl,hw,λl2 uI hl2 QT=>?_⟩;have s2:Same H (upd H l2 (.lst uI)):=au hl2;have e2:upd H l2 (.lst uI) l2=some (.lst uI):=ak;have yJ:=bA.same QT s2;have hp2:=hp.same s2;generalize upd H l2 (.lst uI)=H2 at s2 e2 yJ hp2 ⊢;left;refine⟨⟨_,aX.of e2⟩,λD hD=>cmE uI (λi σ H'=>(∃o1 o2 o3,σ=[o1,o2,o3,some (.ref p)])/\H' D=some (.lst ((lH (wz c) (ps.take i) 0).map λn:Nat=>V.int n))/\Same H2 H') ⟨⟨_,_,_,rfl⟩,ak,au hD⟩ (λi σ H' _ h=>aX.of (h.2.2 _ _ e2)) ?_ ?_⟩
    . rintro i x t σ H3 hi ht ⟨⟨o1,o2,o3,rfl⟩,jE,s3⟩;obtain⟨e,he,tt,rfl,htt⟩:=yJ.at hi;have hi2:i<ps.length:=(qlT.mp he).1;have hcl:(lH (wz c) (ps.take i) 0).length<=20:=by
        have h1:=sU (ZM c) (ps.take i) 0;rw[ql7] at h1;omega
      have st:Same H3 (upd H3 t (.tup [.int i,.ref tt])):=au ht;rw[yZ _ he];left;refine⟨_,dO.of ak,rfl,_,dO.of (st _ _ (s3 _ _ htt)),rfl,?_⟩;have oH:=st _ _ jE;have s4:=s3.trans st;have hp4:=hp2.same s4;generalize upd H3 t (.tup [.int i,.ref tt])=H4 at oH s4 hp4 ⊢;left;refine⟨_,hp4.q,rfl,qmk.mp (fW _),?_⟩;rw[dg]
      by_cases h1:e.1∈c
      . rw[qmz h1];left;refine⟨_,hp4.q,rfl,qmk.mp (fW _),?_⟩;rw[dg]
        by_cases h2:e.2∈c
        . have ef:wz c e i=[i]:=by unfold wz;rw[if_pos ⟨h1,h2⟩]
          rw[qmz h2,ef];refine fj.pos rfl ?_;left;refine⟨_,oH,by simp;omega,?_,aW s4 hD⟩;rw[ak]
        . have ef:wz c e i=[]:=by unfold wz;rw[if_neg λz=>h2 z.2]
          rw[qmA h2,ef,qmy];refine fj.neg rfl ?_;left;exact⟨oH,s4⟩
      . have ef:wz c e i=[]:=by unfold wz;rw[if_neg λz=>h1 z.1]
        rw[qmA h1,ef,qmy];left;exact⟨oH,s4⟩
    ·rintro σ H3 ⟨⟨o1,o2,o3,rfl⟩,jE,s3⟩;rw[yJ.1,ql4] at jE;left;exact q D H3 (cg s2 hD) jE (s2.trans s3)
def VD (C:Addr):Sp:=λvs H Q _=>∃(o p:Addr) (xs c:List Str) (ps:List (Str×Str)),vs=[.ref o,.ref p]/\eV C H o xs ps/\S7 xs/\wg xs ps/\Sq H p (c.map V.str)/\c.Nodup/\(∀x∈c,x∈xs)/\0<c.length/\c.length<xs.length/\
  ∀(r:Addr) (H':Hp),H r=none->H' r=some (.lst ((qe0 (xs.filter λy=>decide (y∈c)) ps).map λn:Nat=>V.int n))->Same H H'->Q (.ref r) H'
theorem VF (T:Txt K mg a):bN P w K mg base ig 3 a.kW a.ux ["web", "lot"] (VD a.bD):=by
  exists T.DW.lK,Ve
  ·obtain⟨o,p,xs,c,ps,rfl,_⟩:=h;rfl
  ·obtain⟨o,p,xs,c,ps,rfl,hw,hX,hTs,hp,hcn,hcx,hc0,hc9,q⟩:=h;refine⟨_,(aD (aZ (PE.eqv (aG (EY T) hr.d rfl T.uW T.pq.kp T.uV .nil aR (aj (aH 0) (aj (PE.eqv (aG (Ij T) hr.d rfl T.DP T.xW.kp T.DN .nil aR (aj (aH 0) (aj (aH 1) ao))) (aF _ _ _)) ao))) (aF _ _ _)))),?_⟩;left;refine⟨o,p,xs,c,ps,rfl,hw,hX,hp,hcn,hcx,hc0,hc9,λr H1 hr0 hr1 s1=>?_⟩;left;refine⟨o,r,xs,_,ps,rfl,hw.same s1,.inl hr1,λr2 H2 h2 h3 s2=>?_⟩;left;exact q r2 H2 (cg s1 h2) h3 (s1.trans s2)
theorem Ou (c:List Str):∀(ps:List (Str×Str)) (i:Nat),(lH (wz c) ps i).length=dW c ps
  | [],_=>rfl
  | e::ps,i=>by
    have ih:=Ou c ps (i+1);show(wz c e i++lH (wz c) ps (i+1)).length=_;rw[qmb,ih];simp only[wz,dW];split <;> simp
theorem rC {xs c:List Str} (nd:xs.Nodup) (h:c.Sublist xs):(xs.filter λy=>decide (y∈c))=c:=by
  induction h with
  | slnil=>rfl
  | cons a h ih=>
    rename_i l1 l2;have ha:a∉l1:=λz=>(qmO.mp nd).1 (h.subset z);rw[List.filter_cons_of_neg (by simpa using ha)];exact ih (qmO.mp nd).2
  | cons_cons a h ih=>
    rename_i l1 l2;have ha:=(qmO.mp nd).1;rw[List.filter_cons_of_pos (by simp)];congr 1;have e:(l2.filter λy=>decide (y∈a::l1))=l2.filter λy=>decide (y∈l1):=List.filter_congr λy hy=>by
      have:y≠a:=λz=>ha (z▸hy);simp[this]
    rw[e];exact ih (qmO.mp nd).2
def WgS (xs:List Str) (ps:List (Str×Str)) (H:Hp) (v:V) (c:List Str):Prop:=∃t pl,v = .ref t/\H t=some (.tup [.ref pl,.int ((dW c ps:Nat):Int)])/\H pl=some (.lst (c.map λy=>V.int ((xs.idxOf y:Nat):Int)))
def ZP (xs:List Str) (ps:List (Str×Str)) (H:Hp) (tv:List V):Prop:=bI (WgS xs ps) H tv (cG xs)
theorem ZP.same {xs:List Str} {ps:List (Str×Str)} {H H':Hp} {tv:List V} (h:ZP xs ps H tv) (s:Same H H'):ZP xs ps H' tv:=bI.keep h λv c ⟨t,pl,e,h1,h2⟩=>⟨t,pl,e,s _ _ h1,s _ _ h2⟩
def Ay (C:Addr):Sp:=λvs H Q _=>∃(o:Addr) (xs:List Str) (ps:List (Str×Str)),vs=[.ref o]/\eV C H o xs ps/\S7 xs/\wg xs ps/\
  ∀(r:Addr) (tv:List V) (H':Hp),H r=none->H' r=some (.lst tv)->ZP xs ps H' tv->Same H H'->Q (.ref r) H'
theorem Az (T:Txt K mg a):bN P w K mg base ig 4 a.cP a.iG ["web"] (Ay a.bD):=by
  exists T.m7.lK,rM
  ·obtain⟨o,xs,ps,rfl,_⟩:=h;rfl
  . obtain⟨o,xs,ps,rfl,hw,hX,hTs,q⟩:=h;refine⟨_,(aC (bC (i:=1) rM.nd rfl (Or.inr rfl) (PE.eqv (cT (aH 0) T.g_ T.cZ (dH T) hr.d T.cY .nil aR) (cU _ _ _ _ _ _)))
      (aD (aZ (bU rfl rfl (show aN (aA jo) _ ["web", "points"] ["lot"] [0,1] ["lot", "web", "points"] from by rfl') rfl (PI.eqv (bB (K:=K) rfl (PE.eqv (aG (t_ T) hr.d rfl T.qU T.m6.kp T.qT .nil aR (aj (aH 0) ao)) (aF _ _ _))) (bx _ _)) (λC s H fp pn=>(aJ (i:=0) (show(["lot", "web", "points"]:List Str).Nodup by symm) rfl (Or.inl rfl))) (λC s H fp pn=>bM) (λC s H fp pn=>(iM (aj (Xu (show aN (_) _ ["lot", "web", "points"] ["point"] [2] ["point", "points"] from by rfl') rfl (PI.eqv (bB (K:=K) rfl (aH 0)) (bx _ _)) (λC s H fp pn=>(aJ (i:=0) (show(["point", "points"]:List Str).Nodup by symm) rfl (Or.inl rfl))) (λC s H fp pn=>bM) (λC s H fp pn=>(mR (K:=K) rfl qmM PySem.F.slot_list_index PySem.F.type_list_index (U3 (K:=K) rfl) (aH 1) (aj (aH 0) ao)))) (aj (aM (bO (K:=K) rfl) rfl T.nm.len ql8 (aj (PE.eqv (aG (VF T) hr.d rfl T.Nk T.DW.kp T.Nj .nil aR (aj (aH 1) (aj (aH 0) ao))) (aF _ _ _)) ao)) ao)))))))),?_⟩
    have Q8:600<sizeLine:=by decide
    have l9:=hX.len;have NQ:=hTs.len;have p9:2 ^ xs.length<=2 ^ 9:=qmL (by decide) l9.2;obtain⟨dx,fs,hin,hno⟩:=hw.ins cC.1 cC.2;left;refine⟨dx,fs,hin,hno,o,xs,ps,rfl,hw,λn hn=>?_⟩;exists H,n,(.lst (xs.map V.str)),s1,e1,H1,hn;left;refine⟨o,xs,ps,rfl,hw.same s1,l9.2,λr2 tv H2 hr2 e2 hN s2=>?_⟩;have S2:=s1.trans s2;have e12:=s2 _ _ e1;have tl:tv.length=2 ^ xs.length - 2:=by rw[hN.1,qj]
    left;refine⟨⟨_,aX.of e2⟩,λD hD=>K7 tv (λj σ H'=>(∃o1,σ=[o1,some (.ref o),some (.ref n)])/\(∃uv,H' D=some (.lst uv)/\bI (λH' v c=>WgS xs ps H' v c/\∀t,v = .ref t->t≠D/\∀pl z,H' t=some (.tup [.ref pl,z])->pl≠D) H' uv ((cG xs).take j))/\Same H2 H') ⟨⟨_,rfl⟩,⟨[],ak,bI.nil⟩,au hD⟩ (λi σ H' _ h=>aX.of (h.2.2 _ _ e2)) ?_ ?_⟩
    . rintro j v σ H3 hj ⟨⟨o1,rfl⟩,⟨uv,jE,hA⟩,s3⟩;have hj2:j<tv.length:=(qlT.mp hj).1;obtain⟨c,hc,t4,rfl,ht0,ht4⟩:=bI.at hN hj;have V8:uv.length=j:=by
        have:=hA.1;rw[ql7,qj] at this;omega
      obtain⟨csub,c0,cl⟩:=wk l9.2 (qlX hc);have qe1:=s3 _ _ ht4;have e13:=s3 _ _ e12;have S3:=S2.trans s3;left;refine⟨⟨_,aX.of qe1⟩,λF hF=>K7 (c.map V.str) (λi σ H'=>(∃o',σ=[o',some (.ref n)])/\H' F=some (.lst ((c.take i).map λy=>V.int ((xs.idxOf y:Nat):Int)))/\Same H3 H') ⟨⟨_,rfl⟩,ak,au hF⟩ (λi σ H' _ h=>aX.of (h.2.2 _ _ qe1)) ?_ ?_⟩
      ·rintro i x σ H4 hi ⟨⟨o',rfl⟩,hF4,s4⟩;obtain⟨y,hy,rfl⟩:=iQ hi;have hi2:i<c.length:=(qlT.mp hy).1;have hyx:y∈xs:=csub.subset (qlX hy);have e14:=s4 _ _ e13;rw[take_one hy,qms];left;refine⟨⟨_,aX.of e14⟩,_,aX.of e14,hyx,_,hF4,by simp;omega,by rw[ak],aW s4 hF⟩
      . rintro σ H4 ⟨⟨o',rfl⟩,hF4,s4⟩;rw[ql2,ql4] at hF4;have S4:=S3.trans s4;left;refine⟨o,t4,xs,c,ps,rfl,hw.same S4,hX,hTs,.inl (s4 _ _ qe1),csub.nodup hX.nd,λx hx=>csub.subset hx,c0,cl,λr5 H5 hr5 e5 s5=>?_⟩;rw[rC hX.nd csub] at e5;left;refine⟨_,.inl (aX.of e5),?_⟩;rw[ql2,show(qe0 c ps).length=dW c ps from Ou c ps 0];intro p6 Vv;exists H5,p6,(.tup [.ref F,.int ((dW c ps:Nat):Int)]),s6,e6,H6,Vv;have Ax:=s5 _ _ (s4 _ _ jE);have FD:F≠D:=λz=>by rw[z,jE] at hF;cases hF
        have p6D:p6≠D:=λz=>by rw[z,Ax] at Vv;cases Vv
        refine⟨uv,s6 _ _ Ax,by omega,⟨_,ak,?_⟩,aW (s3.trans (s4.trans (s5.trans s6))) hD⟩;rw[take_one hc];refine bI.snoc (bI.keep hA ?_) ⟨⟨p6,F,rfl,by rw[aB p6D];exact e6,by rw[aB FD];exact s6 _ _ (s5 _ _ hF4)⟩,λt et=>?_⟩
        ·rintro v b ⟨⟨t,pl,rfl,h1,h2⟩,h3⟩;obtain⟨g1,g2⟩:=h3 t rfl;have g3:=g2 pl _ h1;have S:=s4.trans (s5.trans s6);refine⟨⟨t,pl,rfl,by rw[aB g1];exact S _ _ h1,by rw[aB g3];exact S _ _ h2⟩,λt' et=>?_⟩;cases et;refine⟨g1,λpl' z hz=>?_⟩;rw[aB g1,S _ _ h1] at hz;cases hz;exact g3
        ·cases et;refine⟨p6D,λpl' z hz=>?_⟩;rw[aB p6D,e6] at hz;cases hz;exact FD
    ·rintro σ H3 ⟨⟨o1,rfl⟩,⟨uv,jE,hA⟩,s3⟩;rw[hN.1,ql4] at hA;left;exact q D uv H3 (S2.free hD) jE ⟨hA.1,λi v c h1 h2=>(hA.2 i v c h1 h2).1⟩ (S2.trans s3)
def Gq (g:Str->Int) (c:List Str):Int:=(c.map g).sum
def jf (xs:List Str) (ps:List (Str×Str)) (g:Str->Int) (k:Int):Bool:=(cG xs).all λc=>decide (k<=Gq g c - ((dW c ps:Nat):Int))
theorem idx_map {g:Str->Int} {xs:List Str} {y:Str} (h:y∈xs):((xs.map g).map V.int)[xs.idxOf y]? = some (.int (g y)):=by
  have hl:=List.idxOf_lt_length_iff.mpr h;rw[qmc,qmc,qmg hl,List.getElem_idxOf hl];rfl
def Gs:Sp:=λvs H Q _=>∃(r i:Addr) (tv:List V) (xs:List Str) (ps:List (Str×Str)) (g:Str->Int) (k:Int),vs=[.ref r,.ref i,.int k]/\H r=some (.lst tv)/\ZP xs ps H tv/\xs.length<=9/\Sq H i ((xs.map g).map V.int)/\
  ∀H',Same H H'->Q (.bl (jf xs ps g k)) H'
theorem Gu (T:Txt K mg a):bN P w K mg base ig 1 a.eG a.j7 ["weighed", "ins", "k"] Gs:=by
  exists T.qY.lK,oZ
  ·obtain⟨r,i,tv,xs,ps,g,k,rfl,_⟩:=h;rfl
  . obtain⟨r,i,tv,xs,ps,g,k,rfl,hr,hW,h9,hi,q⟩:=h;refine⟨_,(aC (jH qmU rfl (PI.eqv (bB (K:=K) rfl (aH 0)) (bx _ _)) (PG.eqv (cI (K:=K) (n:=2) rfl rfl (fP.eqv (aU (aJ (i:=3) oZ.nd rfl (Or.inl rfl)) (fP.eqv (aU (aJ (i:=4) oZ.nd rfl (Or.inl rfl)) (fP.mono cH eY)) (aV _ _))) (aV _ _))) (cM _ _ _))
      (aD (dJ (bh oV (bT nM (aM (Hs (K:=K) rfl rfl) rfl T.nm3.sum boot_sum (aj (bU rfl rfl (show aN (aA mD) _ ["weighed", "ins", "k", "places", "many"] ["place"] [1] ["place", "ins"] from by rfl') rfl (PI.eqv (bB (K:=K) rfl (aH 3)) (bx _ _)) (λC s H fp pn=>(aJ (i:=0) (show(["place", "ins"]:List Str).Nodup by symm) rfl (Or.inl rfl))) (λC s H fp pn=>bM) (λC s H fp pn=>(cR (dh (K:=K) rfl) (aH 1) (aH 0) (λ_ _=>rfl)))) ao)) (aH 4)) (aH 2) (bK _)) (aD (aZ pR)) bG)))
      (aD (aZ pR))),?_⟩
    have Q8:600<sizeLine:=by decide
    left;refine⟨⟨_,aX.of hr⟩,Xl tv (λj σ H'=>(∃o3 o4,σ=[some (.ref r),some (.ref i),some (.int k),o3,o4])/\(∀c∈(cG xs).take j,k<=Gq g c - ((dW c ps:Nat):Int))/\Same H H') ⟨⟨_,_,rfl⟩,by simp,Same.refl _⟩ (λj σ H' _ h=>aX.of (h.2.2 _ _ hr)) ?_ ?_⟩
    . rintro j v σ H1 hj ⟨⟨o3,o4,rfl⟩,hall,s1⟩;obtain⟨c,hc,t,pl,rfl,ht,hpl⟩:=bI.at (hW.same s1) hj;obtain⟨csub,c0,cl⟩:=wk h9 (qlX hc);left;refine⟨_,dO.of ht,rfl,?_⟩;left;refine⟨⟨_,aX.of hpl⟩,λD hD=>K7 (c.map λy=>V.int ((xs.idxOf y:Nat):Int)) (λn σ H'=>(∃o',σ=[o',some (.ref i)])/\H' D=some (.lst (((c.take n).map g).map V.int))/\Same H1 H') ⟨⟨_,rfl⟩,ak,au hD⟩ (λn σ H' _ h=>aX.of (h.2.2 _ _ hpl)) ?_ ?_⟩
      . rintro n x σ H2 hn ⟨⟨o',rfl⟩,hD2,s2⟩;obtain⟨y,hy,rfl⟩:∃y,c[n]? = some y/\V.int ((xs.idxOf y:Nat):Int)=x:=by
          rw[qmc] at hn;cases hy:c[n]? with
          | none=>rw[hy] at hn;cases hn
          | some y=>rw[hy] at hn;cases hn;exact⟨y,rfl,rfl⟩
        have hn2:n<c.length:=(qlT.mp hy).1;have hyx:y∈xs:=csub.subset (qlX hy);rw[take_one hy,qms,qms];left;refine⟨_,(hi.same (s1.trans s2)).q,.int (g y),bH (idx_map hyx),_,hD2,by simp;omega,by rw[ak];simp,aW s2 hD⟩
      . rintro σ H2 ⟨⟨o',rfl⟩,hD2,s2⟩;rw[ql2,ql4] at hD2;left;refine⟨c.map g,aX.of hD2,fj.of (λhb=>?_) (λhb=>?_)⟩
        . have hb':=qmn hb;left;have:jf xs ps g k=false:=by
            unfold jf;rw[List.all_eq_false];refine⟨c,qlX hc,?_⟩;rw[qmo];unfold Gq;omega
          rw[<- this];exact q H2 (s1.trans s2)
        . have hb':=qmP hb;left;refine⟨λd hd=>?_,s1.trans s2⟩;rw[take_one hc] at hd
          rcases qmh.mp hd with hd | hd
          ·exact hall d hd
          ·rw[qmu] at hd;subst hd;unfold Gq;omega
    . rintro σ H1 ⟨⟨o3,o4,rfl⟩,hall,s1⟩;rw[hW.1,ql4] at hall;left;have:jf xs ps g k=true:=by
        unfold jf;rw[qmk];intro c hc;rw[qmo];exact hall c hc
      rw[<- this];exact q H1 s1
def iJ (n:Nat):List Int:=if n % 2=0 then [((n / 2:Nat):Int)] else [((n / 2:Nat):Int),((n / 2+1:Nat):Int)]
theorem E_ (n:Nat):(iJ n).length<=2:=by
  unfold iJ;split <;> simp
def VG:Sp:=λvs H Q _=>∃n:Nat,vs=[.int (n:Int)]/\n<=1000/\∀(r:Addr) (H':Hp),H r=none->H' r=some (.lst ((iJ n).map V.int))->Same H H'->Q (.ref r) H'
theorem VH (T:Txt K mg a):bN P w K mg base ig 1 a.lg a.uE ["many"] VG:=by
  exists T.Ea.lK,Vh
  ·obtain⟨n,rfl,_⟩:=h;rfl
  . obtain⟨n,rfl,h1,q⟩:=h;refine⟨_,(aD (aZ (BX (bh lJ (bT qD (aH 0) aK) aK (bK _)) (dX (aj (bT xH (aH 0) aK) ao)) (dX (aj (bT xH (aH 0) aK) (aj (bT jm (bT xH (aH 0) aK) aK) ao)))))),?_⟩;have e2:((n:Int) / 2)=((n / 2:Nat):Int):=by simp
    left;refine fj.of (λh=>?_) (λh=>?_)
    ·have h':=qmn h;left;intro p hp;refine q p _ hp ?_ (au hp);rw[ak,e2];unfold iJ;rw[if_pos (by omega)];rfl
    ·have h':=qmP h;left;intro p hp;refine q p _ hp ?_ (au hp);rw[ak,e2];unfold iJ;rw[if_neg (by omega)];rfl
def lC (ps:List (Str×Str)):List Str:=ps.flatMap λe=>[e.1,e.2]
def iB (ps:List (Str×Str)) (x:Str):Nat:=(lC ps).count x
theorem yL:∀ps:List (Str×Str),(lC ps).length=2 * ps.length
  | []=>rfl
  | e::ps=>by
    have:=yL ps;unfold lC at this ⊢;rw[List.flatMap_cons,qmb,this];simp;omega
def hstep (d:Str->Nat) (rows:List (List Int)) (x:Str):List (List Int):=rows.flatMap λrow=>(iJ (d x)).map λh=>row++[h]
def fV (d:Str->Nat) (xs:List Str):List (List Int):=xs.foldl (hstep d) [[]]
theorem nj (d:Str->Nat) (xs:List Str) (x:Str):fV d (xs++[x])=hstep d (fV d xs) x:=by
  unfold fV;rw[List.foldl_append];rfl
theorem zJ (d:Str->Nat) (x:Str):∀rows:List (List Int),(hstep d rows x).length<=2 * rows.length
  | []=>by simp[hstep]
  | r::rows=>by
    have:=zJ d x rows;have h2:=E_ (d x);unfold hstep at this ⊢;rw[List.flatMap_cons,qmb,ql2,qml];omega
theorem uL (d:Str->Nat) (xs:List Str):∀i,i<=xs.length->(fV d (xs.take i)).length<=2 ^ i
  | 0,_=>by simp[fV]
  | i+1,h=>by
    have ih:=uL d xs i (by omega);have hx:xs[i]? = some (xs[i]'(by omega)):=qmg (by omega);rw[take_one hx,nj];have:=zJ d (xs[i]'(by omega)) (fV d (xs.take i));rw[Nat.pow_succ];omega
theorem zK (d:Str->Nat) (xs:List Str):∀i,i<=xs.length->∀r∈fV d (xs.take i),r.length=i
  | 0,_=>by simp[fV]
  | i+1,h=>by
    have ih:=zK d xs i (by omega);have hx:xs[i]? = some (xs[i]'(by omega)):=qmg (by omega);rw[take_one hx,nj];intro r hr;unfold hstep at hr;obtain⟨r0,hr0,hr1⟩:=List.mem_flatMap.mp hr;obtain⟨h,_,rfl⟩:=qmw.mp hr1;rw[qmb,ih r0 hr0];rfl
def qe2 (H:Hp) (v:V) (row:List Int):Prop:=∃t,v = .ref t/\H t=some (.lst (row.map V.int))
def qcW (H:Hp) (tv:List V) (rows:List (List Int)):Prop:=bI qe2 H tv rows
def qe3 (D:Addr) (H:Hp) (v:V) (row:List Int):Prop:=∃t,v = .ref t/\t≠D/\H t=some (.lst (row.map V.int))
def Gv (C:Addr):Sp:=λvs H Q _=>∃(o:Addr) (xs:List Str) (ps:List (Str×Str)),vs=[.ref o]/\eV C H o xs ps/\xs.length<=9/\
  ∀(r:Addr) (tv:List V) (H':Hp),H r=none->H' r=some (.lst tv)->qcW H' tv ((fV (iB ps) xs).filter λrow=>decide (row.sum=(ps.length:Int)))->Same H H'->Q (.ref r) H'
theorem Gw (T:Txt K mg a):bN P w K mg base ig 2 a.eO a.j9 ["web"] (Gv a.bD):=by
  exists T.rm.lK,iz
  ·obtain⟨o,xs,ps,rfl,_⟩:=h;rfl
  . obtain⟨o,xs,ps,rfl,hw,h9,q⟩:=h;refine⟨_,(aC (bC (i:=1) iz.nd rfl (Or.inr rfl) (Yr rfl rfl (show aN (aA gV) _ ["web", "ends", "rows", "point"] ["tie", "end"] [] ["tie", "end"] from by rfl') rfl (PI.eqv (bB (K:=K) rfl (PE.eqv (cT (aH 0) T.g_ T.m_ (oG T) hr.d T.mZ .nil aR) (cU _ _ _ _ _ _))) (bx _ _)) (λC s H fp pn=>(aJ (i:=0) (show(["tie", "end"]:List Str).Nodup by symm) rfl (Or.inl rfl))) (λC s H fp pn=>bM) (λC s H fp pn=>(qaB (K:=K) rfl (aH 0))) (λC s H fp pn=>(aJ (i:=1) (show(["tie", "end"]:List Str).Nodup by symm) rfl (Or.inl rfl))) (λC s H fp pn=>bM) (λC s H fp pn=>(aH 1))))
      (aC (bC (i:=2) iz.nd rfl (Or.inl rfl) (dX (aj (dX ao) ao)))
      (aC (jH qmU rfl (PI.eqv (bB (K:=K) rfl (PE.eqv (cT (aH 0) T.g_ T.cZ (dH T) hr.d T.cY .nil aR) (cU _ _ _ _ _ _))) (bx _ _)) (aJ (i:=3) iz.nd rfl (Or.inr rfl))
      (aD (MJ (i:=2) iz.nd rfl rfl rfl rfl (show aN (aA gV) _ ["web", "ends", "rows", "point"] ["row", "half"] [3,1] ["row", "half", "point", "ends"] from by rfl') rfl (PI.eqv (bB (K:=K) rfl (aH 2)) (bx _ _)) (λC s H fp pn=>(aJ (i:=0) (show(["row", "half", "point", "ends"]:List Str).Nodup by symm) rfl (Or.inl rfl))) (λC s H fp pn=>bM) (λC s H fp pn=>(PI.eqv (bB (K:=K) rfl (PE.eqv (aG (VH T) hr.d rfl T.Nt T.Ea.kp T.Nr .nil aR (aj (mR (K:=K) rfl qmM PySem.F.slot_list_count PySem.F.type_list_count (Ht (K:=K) rfl) (aH 3) (aj (aH 2) ao)) ao)) (aF _ _ _))) (bx _ _))) (λC s H fp pn=>(aJ (i:=1) (show(["row", "half", "point", "ends"]:List Str).Nodup by symm) rfl (Or.inl rfl))) (λC s H fp pn=>bM) (λC s H fp pn=>(bT xg (aH 0) (dX (aj (aH 1) ao)))))))
      (aD (aZ (bU rfl rfl (show aN (aA gV) _ ["web", "ends", "rows", "point"] ["row"] [0] ["row", "web"] from by rfl') rfl (PI.eqv (bB (K:=K) rfl (aH 2)) (bx _ _)) (λC s H fp pn=>(aJ (i:=0) (show(["row", "web"]:List Str).Nodup by symm) rfl (Or.inl rfl))) (λC s H fp pn=>(jj (bh lJ (aM (Hs (K:=K) rfl rfl) rfl T.nm3.sum boot_sum (aj (aH 0) ao)) (PE.eqv (cT (aH 1) T.g_ T.ni (oM T) hr.d T.m5 .nil aR) (cU _ _ _ _ _ _)) (bK _)))) (λC s H fp pn=>(aH 0)))))))),?_⟩
    have qha:2000<sizeLine:=by decide
    have NQ:ps.length<=20:=by
      obtain⟨_,_,_,_,_,_,_,_,z⟩:=hw.ex;exact z
    obtain⟨dx,fs,hin,hno⟩:=hw.ins oJ.1 oJ.2;left;refine⟨_,_,hin,hno,o,xs,ps,rfl,hw,λl2 uI hl2 QT=>?_⟩;have s1:Same H (upd H l2 (.lst uI)):=au hl2;have e1:upd H l2 (.lst uI) l2=some (.lst uI):=ak;have Q_:=bA.same QT s1;generalize upd H l2 (.lst uI)=H1 at s1 e1 Q_ ⊢;left;refine⟨⟨_,aX.of e1⟩,λD hD=>Xl uI (λj σ H'=>(∃o1 o2,σ=[o1,o2])/\H' D=some (.lst ((lC (ps.take j)).map V.str))/\Same H1 H') ⟨⟨_,_,rfl⟩,ak,au hD⟩ (λj σ H' _ h=>aX.of (h.2.2 _ _ e1)) ?_ ?_⟩
    . rintro j v σ H2 hj ⟨⟨o1,o2,rfl⟩,hD2,s2⟩;obtain⟨e,he,t,rfl,ht⟩:=(bA.same Q_ s2).at hj;have hj2:j<ps.length:=(qlT.mp he).1;have hel:=yL (ps.take j);rw[ql7] at hel;left;refine⟨⟨_,dO.of ht⟩,frT [.str e.1,.str e.2] (λi σ H'=>(∃o2,σ=[some (.ref t),o2])/\H' D=some (.lst ((lC (ps.take j)).map V.str++[V.str e.1,.str e.2].take i))/\Same H1 H') ⟨⟨_,rfl⟩,by simpa using hD2,s2⟩ (λi σ H' _ h=>dO.of (h.2.2 _ _ (by obtain⟨e',he',t',et',ht'⟩:=Q_.at hj;cases et';rw[he] at he';cases he';exact ht'))) ?_ ?_⟩
      . rintro i x σ H3 hi ⟨⟨o2',rfl⟩,jE,s3⟩;have hi2:i<2:=by simpa using (qlT.mp hi).1
        rw[take_one hi];left;exact⟨_,jE,by simp[hel];omega,by rw[ak,qny],aW s3 hD⟩
      ·rintro σ H3 ⟨⟨o2',rfl⟩,jE,s3⟩;left;refine⟨?_,s3⟩;rw[jE,take_one he];unfold lC;simp
    . rintro σ H2 ⟨⟨o1,o2,rfl⟩,hD2,s2⟩;rw[Q_.1,ql4] at hD2;have S2:=s1.trans s2;left;intro p3 hp3;exists H2,p3,(.lst []),s3,e3,H3,hp3;intro r4 QJ;exists H3,r4,(.lst [.ref p3]),s4,e4,H4,QJ;have S4:=S2.trans (s3.trans s4);have oH:=(s3.trans s4) _ _ hD2;obtain⟨dx,fs,hin,hno⟩:=(hw.same S4).ins cC.1 cC.2;refine⟨_,_,hin,hno,o,xs,ps,rfl,hw.same S4,λn hn=>?_⟩;exists H4,n,(.lst (xs.map V.str)),s5,e5,H5,hn;have S5:=S4.trans s5;have Ax:=s5 _ _ oH;left;refine⟨⟨_,aX.of e5⟩,Xl (xs.map V.str) (λi σ H'=>(∃rp o3,σ=[some (.ref o),some (.ref D),some (.ref rp),o3]/\∃tv,H' rp=some (.lst tv)/\qcW H' tv (fV (iB ps) (xs.take i)))/\Same H5 H') ⟨⟨r4,none,rfl,_,s5 _ _ e4,?_⟩,Same.refl _⟩ (λi σ H' _ h=>aX.of (h.2 _ _ e5)) ?_ ?_⟩
      . exact⟨rfl,λi v c h1 h2=>by
          cases i with
          | succ i=>simp at h1
          | zero=>
            simp[fV] at h1 h2;subst h1 h2;exact⟨p3,rfl,(s4.trans s5) _ _ e3⟩⟩
      . rintro i v σ H6 hi ⟨⟨rp,o3,rfl,tv,Kv,hI⟩,s6⟩;obtain⟨y,hy,rfl⟩:=iQ hi;have hi9:i<xs.length:=(qlT.mp hy).1;have hlen:=uL (iB ps) xs i (by omega);have hrow:=zK (iB ps) xs i (by omega);have p8:2 ^ i<=2 ^ 8:=qmL (by decide) (by omega);rw[take_one hy,nj];generalize fV (iB ps) (xs.take i)=rows at hI hlen hrow ⊢;have tl:tv.length=rows.length:=hI.1;have QM:=s6 _ _ Ax;left;refine⟨⟨_,aX.of Kv⟩,λD2 Vr=>Xl tv (λj σ H'=>(∃o1 o2,σ=[o1,o2,some (.str y),some (.ref D)])/\(∃uv,H' D2=some (.lst uv)/\bI (qe3 D2) H' uv (hstep (iB ps) (rows.take j) y))/\Same H6 H') ⟨⟨_,_,rfl⟩,⟨[],ak,by simp[hstep];exact bI.nil⟩,au Vr⟩ (λj σ H' _ h=>aX.of (h.2.2 _ _ Kv)) ?_ ?_⟩
        . rintro j v σ H7 hj ⟨⟨o1,o2,rfl⟩,⟨uv,VJ,Tv⟩,s7⟩;obtain⟨row,hrw,t,rfl,ht⟩:=hI.at hj;have hj2:j<tv.length:=(qlT.mp hj).1;have hrl:=hrow row (qlX hrw);have hsl:=zJ (iB ps) y (rows.take j);rw[ql7] at hsl;have hes:hstep (iB ps) (rows.take (j+1)) y=hstep (iB ps) (rows.take j) y++(iJ (iB ps y)).map λh=>row++[h]:=by
            rw[take_one hrw];unfold hstep;simp
          rw[hes];generalize hstep (iB ps) (rows.take j) y=hs at Tv hsl ⊢;have hDe:=s7 _ _ QM;left;refine⟨⟨_,aX.of hDe⟩,_,aX.of hDe,iB ps y,rfl,?_,λr8 H8 hr8 e8 s8=>?_⟩
          ·have:=List.count_le_length (a:=y) (l:=lC ps);have:=yL ps;unfold iB;omega
          have h2:=E_ (iB ps y);generalize iJ (iB ps y)=hv at e8 h2 ⊢;left;refine⟨⟨_,aX.of e8⟩,Xl (hv.map V.int) (λm σ H'=>(∃o2,σ=[some (.ref t),o2,some (.str y),some (.ref D)])/\(∃uv,H' D2=some (.lst uv)/\bI (qe3 D2) H' uv (hs++(hv.take m).map λh=>row++[h]))/\Same H6 H'/\H' r8=some (.lst (hv.map V.int))) ⟨⟨_,rfl⟩,⟨uv,s8 _ _ VJ,by simpa using bI.keep Tv (by rintro v b ⟨t,rfl,h1,h2⟩;exact⟨t,rfl,h1,s8 _ _ h2⟩)⟩,s7.trans s8,e8⟩ (λm σ H' _ h=>aX.of h.2.2.2) ?_ ?_⟩
          . rintro m x σ H9 hm ⟨⟨o2',rfl⟩,⟨uv9,hD9,hA9⟩,s9,e9⟩;obtain⟨h,hh,rfl⟩:∃h,hv[m]? = some h/\V.int h=x:=by
              rw[qmc] at hm;cases hy:hv[m]? with
              | none=>rw[hy] at hm;cases hm
              | some y=>rw[hy] at hm;cases hm;exact⟨y,rfl,rfl⟩
            have hm2:m<hv.length:=(qlT.mp hh).1;have V8:uv9.length<=520:=by
              have:=hA9.1;rw[qmb,ql2,ql7] at this;omega
            rw[take_one hh,qms,<- qny];left;intro p10 qeQ;exists H9,p10,(.lst [.int h]),z8,e10,H10,qeQ;refine⟨_,z8 _ _ (s9 _ _ ht),_,e10,by simp;omega,λp11 qe4=>?_⟩;exists H10,p11,(.lst (row.map V.int++[.int h])),K9,e11,H11,qe4;have pD:p11≠D2:=λz=>by rw[z,z8 _ _ hD9] at qe4;cases qe4
            have rD:r8≠D2:=λz=>by rw[z,VJ] at hr8;cases hr8
            refine⟨uv9,(z8.trans K9) _ _ hD9,by omega,⟨_,ak,?_⟩,aW (s9.trans (z8.trans K9)) Vr,by rw[aB rD];exact(z8.trans K9) _ _ e9⟩;have key:bI (qe3 D2) (upd H11 D2 (.lst (uv9++[.ref p11]))) (uv9++[.ref p11]) ((hs++(hv.take m).map λh=>row++[h])++[row++[h]]):=by
              refine bI.snoc (bI.keep hA9 ?_) ⟨p11,rfl,pD,by rw[aB pD,e11];simp⟩;rintro v b ⟨t,rfl,h1,h2⟩;exact⟨t,rfl,h1,by rw[aB h1];exact(z8.trans K9) _ _ h2⟩
            rw[qny] at key;exact key
          ·rintro σ H9 ⟨⟨o2',rfl⟩,⟨uv9,hD9,hA9⟩,s9,e9⟩;rw[ql2,ql4] at hA9;left;exact⟨⟨uv9,hD9,hA9⟩,s9⟩
        ·rintro σ H7 ⟨⟨o1,o2,rfl⟩,⟨uv,VJ,Tv⟩,s7⟩;rw[tl,ql4] at Tv;left;exact⟨⟨uv,VJ,⟨Tv.1,λi v c h1 h2=>by obtain⟨t,e,_,h⟩:=Tv.2 i v c h1 h2;exact⟨t,e,h⟩⟩⟩,s6.trans s7⟩
      . rintro σ H6 ⟨⟨rp,o3,rfl,tv,Kv,hI⟩,s6⟩;rw[ql2,ql4] at hI;have hlen:=uL (iB ps) xs xs.length (qlY _);rw[ql4] at hlen;have p9:2 ^ xs.length<=2 ^ 9:=qmL (by decide) h9;generalize fV (iB ps) xs=rows at hI hlen q ⊢;have tl:tv.length=rows.length:=hI.1;have S6:=S5.trans s6;left;refine⟨⟨_,aX.of Kv⟩,λD3 jE=>K7 tv (λj σ H'=>(∃o1,σ=[o1,some (.ref o)])/\(∃uv,H' D3=some (.lst uv)/\bI (λ_=>qe2 H6) H' uv ((rows.take j).filter λrow=>decide (row.sum=(ps.length:Int))))/\Same H6 H') ⟨⟨_,rfl⟩,⟨[],ak,by simp;exact bI.nil⟩,au jE⟩ (λi σ H' _ h=>aX.of (h.2.2 _ _ Kv)) ?_ ?_⟩
        . rintro j v σ H7 hj ⟨⟨o1,rfl⟩,⟨uv,VJ,Tv⟩,s7⟩;obtain⟨row,hrw,t,rfl,ht⟩:=hI.at hj;have hj2:j<tv.length:=(qlT.mp hj).1;have V8:uv.length<=j:=by
            have:=Tv.1;have h2:((rows.take j).filter λrow=>decide (row.sum=(ps.length:Int))).length<=(rows.take j).length:=qm8 _ _;rw[ql7] at h2;omega
          obtain⟨dx,fs,hin,hno⟩:=(hw.same (S6.trans s7)).ins oK.1 oK.2;rw[take_one hrw,qm_];left;refine⟨row,aX.of (s7 _ _ ht),_,_,hin,hno,o,xs,ps,rfl,hw.same (S6.trans s7),?_⟩;left;refine fj.of (λhb=>?_) (λhb=>?_)
          ·have hb':=qmn hb;left;refine⟨uv,VJ,by omega,⟨_,ak,?_⟩,aW s7 jE⟩;rw[show([row].filter λrow=>decide (row.sum=(ps.length:Int)))=[row] by simp[hb']];exact bI.snoc (bI.keep Tv λv b h=>h) ⟨t,rfl,ht⟩
          ·have hb':=qmP hb;left;refine⟨⟨uv,VJ,?_⟩,s7⟩;rw[show([row].filter λrow=>decide (row.sum=(ps.length:Int)))=[] by simp[hb'],qmy];exact Tv
        ·rintro σ H7 ⟨⟨o1,rfl⟩,⟨uv,VJ,Tv⟩,s7⟩;rw[tl,ql4] at Tv;left;exact q D3 uv H7 (S6.free jE) VJ ⟨Tv.1,λi v c h1 h2=>by obtain⟨t,e,h⟩:=Tv.2 i v c h1 h2;exact⟨t,e,s7 _ _ h⟩⟩ (S6.trans s7)
theorem Tw (q:Str->Bool):∀(n:Nat) (xs:List Str),xs.length=n->xs.filter q∈iV xs
  | 0,xs,h=>by
    rw[qm1 h,parts_nil];simp
  | n+1,xs,h=>by
    have hne:xs≠[]:=λz=>by rw[z] at h;simp at h
    rw[<- List.dropLast_concat_getLast hne,Es,qm_];have ih:=Tw q n xs.dropLast (by simp[h]);cases hq:q (xs.getLast hne) with
    | true=>
      refine qmi _ (qmw.mpr ⟨_,ih,?_⟩);simp[hq]
    | false=>
      refine qmC _ ?_;simpa [hq] using ih
theorem Ik:∀n:Nat,n<=9->∀k:Nat,k<9->k<n->fB (2 ^ n - 1) k=true:=by symm
theorem qe5 {xs:List Str} (h9:xs.length<=9) {q:Str->Bool} {x y:Str} (hx:x∈xs) (hy:y∈xs) (qx:q x=false) (qy:q y=true):∃j,j<2 ^ xs.length - 2/\xs.filter q=cV (fB (1+j)) xs:=by
  have h:=Tw q xs.length xs rfl;unfold iV at h;obtain⟨m,hm,e⟩:=qmw.mp h;have hm:=qnw.mp hm;have m0:m≠0:=λz=>by
    subst z;have hy2:y∈xs.filter q:=qmd.mpr ⟨hy,qy⟩;rw[<- e] at hy2;unfold cV at hy2;obtain⟨u,hu,_⟩:=qmw.mp hy2;have:=(qmd.mp hu).2;simp[fB] at this
  have m1:m≠2 ^ xs.length - 1:=λz=>by
    subst z;have hx2:x∈cV (fB (2 ^ xs.length - 1)) xs:=by
      unfold cV;obtain⟨k,hk,ek⟩:=List.getElem_of_mem hx;refine qmw.mpr ⟨(x,k),qmd.mpr ⟨?_,Ik _ h9 k (by omega) hk⟩,rfl⟩;rw[qni];simp[hk,ek]
    rw[e] at hx2;have:=(qmd.mp hx2).2;rw[qx] at this;cases this
  refine⟨m - 1,by omega,?_⟩;rw[show 1+(m - 1)=m by omega];exact e.symm
theorem uc (f:Str->Int) (X:Str->Bool):∀xs:List Str,lU f X xs=((xs.filter X).map f).sum
  | []=>rfl
  | x::xs=>by
    have ih:=uc f X xs;simp only[lU];rw[ih,qnc]
    by_cases h:X x=true
    ·rw[if_pos h,if_pos h,qmj,qnI]
    ·rw[if_neg h,if_neg h];omega
theorem Fb {xs:List Str} (X:Str->Bool):∀{ps:List (Str×Str)},(∀e∈ps,e.1∈xs/\e.2∈xs)->Ys X ps=((dW (xs.filter X) ps:Nat):Int)
  | [],_=>rfl
  | e::ps,h=>by
    have ih:=Fb X (ps:=ps) λd hd=>h d (qlZ _ hd);have he:=h e ql6;simp only[Ys,dW,qmd,he.1,he.2,true_and];rw[ih];split <;> simp
theorem qbY {xs:List Str} (h9:xs.length<=9) {X:Str->Bool} (h:vL xs X):xs.filter X∈cG xs:=by
  obtain⟨⟨x,hx,qx⟩,⟨y,hy,qy⟩⟩:=h;obtain⟨j,hj,e⟩:=qe5 h9 hy hx qy qx;rw[e];exact qlX (uK hj)
theorem ZQ {xs:List Str} {ps:List (Str×Str)} (h9:xs.length<=9) (hp:∀e∈ps,e.1∈xs/\e.2∈xs) {g:Str->Int} {k:Int} (h:uQ xs ps 1 k g) (nd:xs.Nodup):jf xs ps g k=true:=by
  unfold jf;rw[qmk];intro c hc;obtain⟨cs,c0,cl⟩:=wk h9 hc;have ec:=rC nd cs;have hl:vL xs (λy=>decide (y∈c)):=by
    obtain⟨x,hx⟩:=qnW c0;refine⟨⟨x,cs.subset hx,by simpa using hx⟩,?_⟩;apply qnq;intro hno;have:xs.filter (λy=>decide (y∈c))=xs:=qoj.mpr λy hy=>by
      cases e:decide (y∈c) with
      | true=>rfl
      | false=>exact absurd ⟨y,hy,e⟩ hno
    rw[ec] at this;rw[this] at cl;omega
  have:=h _ hl;rw[uc,Fb _ hp,ec] at this;rw[qmo];unfold Gq;omega
theorem Fd (p:Str->Bool) {xs:List Str}:∀{ps:List (Str×Str)} (i:Nat),(∀e∈ps,e.1∈xs/\e.2∈xs)->((lC ps).filter p).length=2 * dW (xs.filter p) ps+(lH (dY (xs.filter p)) ps i).length
  | [],_,_=>rfl
  | e::ps,i,h=>by
    have ih:=Fd p (ps:=ps) (i+1) λd hd=>h d (qlZ _ hd);have he:=h e ql6;have e1:lC (e::ps)=e.1::e.2::lC ps:=rfl;rw[e1];show _=2 * ((if e.1∈xs.filter p/\e.2∈xs.filter p then 1 else 0)+dW (xs.filter p) ps)+(dY (xs.filter p) e i++lH (dY (xs.filter p)) ps (i+1)).length
    rw[qmb];generalize (lH (dY (xs.filter p)) ps (i+1)).length=n at ih ⊢;generalize dW (xs.filter p) ps=m at ih ⊢;unfold dY;simp only[qmd,he.1,he.2,true_and,qnc];cases p e.1 <;> cases p e.2 <;> simp <;> omega
theorem KJ {xs:List Str}:∀{ps:List (Str×Str)},(∀e∈ps,e.1∈xs/\e.2∈xs)->∀y∈lC ps,y∈xs
  | [],_,y,h=>by cases h
  | e::ps,hp,y,h=>by
    have e1:lC (e::ps)=e.1::e.2::lC ps:=rfl;rw[e1] at h;have he:=hp e ql6
    rcases ql1.mp h with rfl | h
    ·exact he.1
    . rcases ql1.mp h with rfl | h
      ·exact he.2
      ·exact KJ (λd hd=>hp d (qlZ _ hd)) y h
theorem ql (f:Str->Nat):∀l:List Str,(l.map λx=>((f x:Nat):Int)).sum=(((l.map f).sum:Nat):Int)
  | []=>rfl
  | x::l=>by
    have:=ql f l;simp only[qmj,qnI];rw[this];simp
theorem ZR {xs:List Str} {ps:List (Str×Str)} {k:Nat} (nd:xs.Nodup) (h9:xs.length<=9) (hp:∀e∈ps,e.1∈xs/\e.2∈xs) (hk:∀c∈cG xs,2 * k<=(cu c ps).length):uQ xs ps 2 (2 * (k:Int)) (λx=>((iB ps x:Nat):Int)):=by
  intro X hX;have h1:=hk _ (qbY h9 hX);have h2:=Fd X (xs:=xs) (ps:=ps) 0 hp;have h3:=yK nd X (KJ hp);rw[uc,Fb X hp,ql];have e:((xs.filter X).map λx=>(lC ps).count x).sum=((xs.filter X).map (iB ps)).sum:=rfl;unfold cu at h1;omega
theorem Tz {xs:List Str} {ps:List (Str×Str)} (nd:xs.Nodup) (hp:∀e∈ps,e.1∈xs/\e.2∈xs):lU (λx=>((iB ps x:Nat):Int)) allB xs=2 * (ps.length:Int):=by
  have h3:=yK nd allB (KJ hp);rw[uc,ql];have e:((xs.filter allB).map λx=>(lC ps).count x).sum=((xs.filter allB).map (iB ps)).sum:=rfl;have e2:(lC ps).filter allB=lC ps:=qoj.mpr λ_ _=>rfl;have e3:=yL ps;rw[e2] at h3;omega
theorem Il {d:Str->Nat} {g:Str->Int} {xs:List Str} (h:∀x∈xs,g x∈iJ (d x)):∀i,i<=xs.length->(xs.take i).map g∈fV d (xs.take i)
  | 0,_=>by simp[fV]
  | i+1,hi=>by
    have ih:=Il h i (by omega);have hx:xs[i]? = some (xs[i]'(by omega)):=qmg (by omega);rw[take_one hx,nj,qms];unfold hstep;exact List.mem_flatMap.mpr ⟨_,ih,qmw.mpr ⟨_,h _ (qog _),rfl⟩⟩
theorem Ov {d:Str->Nat} {xs:List Str}:∀i,i<=xs.length->∀r∈fV d (xs.take i),∀n∈r,0<=n
  | 0,_=>by simp[fV]
  | i+1,hi=>by
    have ih:=Ov (d:=d) (xs:=xs) i (by omega);have hx:xs[i]? = some (xs[i]'(by omega)):=qmg (by omega);rw[take_one hx,nj];intro r hr n hn;unfold hstep at hr;obtain⟨r0,hr0,hr1⟩:=List.mem_flatMap.mp hr;obtain⟨h,hh,rfl⟩:=qmw.mp hr1
    rcases qmh.mp hn with hn | hn
    ·exact ih r0 hr0 n hn
    ·rw[qmu] at hn;subst hn;unfold iJ at hh;split at hh <;> simp at hh <;> omega
def rE (xs:List Str) (row:List Int) (y:Str):Int:=row.getD (xs.idxOf y) 0
theorem ud {xs:List Str} (nd:xs.Nodup) {row:List Int} (h:row.length=xs.length):xs.map (rE xs row)=row:=by
  refine List.ext_getElem (by simp[h]) λi h1 h2=>?_;rw[List.getElem_map];unfold rE;have hi:i<xs.length:=by simpa using h1
  rw[nd.idxOf_getElem i hi];simp[List.getD,h2]
theorem Ao {xs:List Str} {ps:List (Str×Str)} {f g:Str->Int} {k:Int} (h9:xs.length<=9) (h:∀x∈xs,f x=g x):jf xs ps f k=jf xs ps g k:=by
  unfold jf;rw[qm4,qmk,qmk];have e:∀c∈cG xs,Gq f c=Gq g c:=λc hc=>by
    unfold Gq;congr 1;exact qnF λx hx=>h x ((wk h9 hc).1.subset hx)
  exact⟨λz c hc=>by rw[<- e c hc];exact z c hc,λz c hc=>by rw[e c hc];exact z c hc⟩
theorem ZS {xs:List Str} {ps:List (Str×Str)} {k:Nat} (nd:xs.Nodup) (h9:xs.length<=9) (hp:∀e∈ps,e.1∈xs/\e.2∈xs) (hk:∀c∈cG xs,2 * k<=(cu c ps).length) :
    ∃row∈(fV (iB ps) xs).filter (λrow=>decide (row.sum=(ps.length:Int))),jf xs ps (rE xs row) k=true:=by
  obtain⟨g,g1,g2,g3⟩:=qel nd _ _ (qlY _) (ZR nd h9 hp hk) (by rw[Tz nd hp];omega);have hm:∀x∈xs,g x∈iJ (iB ps x):=λx hx=>by
    have:=g1 x hx;unfold iJ;split
    ·rw[qmu];omega
    ·simp only[ql1,qme,qmX];omega
  have h1:=Il hm xs.length (qlY _);rw[ql4] at h1;have ef:xs.filter allB=xs:=qoj.mpr λ_ _=>rfl;rw[Tz nd hp,uc,ef] at g3;refine⟨xs.map g,qmd.mpr ⟨h1,qmz (by omega)⟩,?_⟩;have e:=ud nd (row:=xs.map g) (by simp);rw[Ao (g:=g) h9 λx hx=>?_]
  ·exact ZQ h9 hp g2 nd
  . unfold rE;have:=idx_map (g:=g) hx;rw[qmc] at this;cases hh:(xs.map g)[xs.idxOf x]? with
    | none=>rw[hh] at this;cases this
    | some v=>
      rw[hh] at this;rw[List.getD,hh];cases this;rfl
theorem Ow {xs:List Str}:∀{ps:List (Str×Str)},(∀e∈ps,e.1∈xs/\e.2∈xs)->dW xs ps=ps.length
  | [],_=>rfl
  | e::ps,h=>by
    have ih:=Ow (ps:=ps) λd hd=>h d (qlZ _ hd);have he:=h e ql6;simp only[dW];rw[ih,if_pos he,qml];omega
theorem Ox:∀ps:List (Str×Str),dW [] ps=0
  | []=>rfl
  | e::ps=>by
    simp only[dW];rw[Ox ps];simp
theorem VL (xs:List Str):cV (fB 0) xs=[]:=by
  unfold cV;rw[List.filter_eq_nil_iff.mpr]
  ·rfl
  ·intro e _;simp[fB]
theorem VN {xs:List Str} (h9:xs.length<=9):cV (fB (2 ^ xs.length - 1)) xs=xs:=by
  unfold cV;rw[qoj.mpr λe he=>?_,List.zipIdx_map_fst];obtain⟨x,k⟩:=e;rw[qni] at he;have hk:=(qlT.mp he).1;exact Ik _ h9 k (by omega) hk
theorem qbZ {xs:List Str} {ps:List (Str×Str)} {g:Str->Nat} {k:Nat} (h9:xs.length<=9) (hp:∀e∈ps,e.1∈xs/\e.2∈xs) (hs:(xs.map g).sum=ps.length) (ho:jf xs ps (λx=>((g x:Nat):Int)) k=true):Vx xs ps g:=by
  refine⟨hs,λm hm=>?_⟩
  by_cases m0:m=0
  ·subst m0;rw[VL,Ox];exact qmK _
  . by_cases m1:m=2 ^ xs.length - 1
    ·subst m1;rw[VN h9,Ow hp,hs];exact qlY _
    ·have hl:=uK (xs:=xs) (i:=m - 1) (by omega);rw[show 1+(m - 1)=m by omega] at hl;unfold jf at ho;have:=qmk.mp ho _ (qlX hl);rw[qmo] at this;unfold Gq at this;rw[ql] at this;omega
theorem ZV {xs:List Str} {ps:List (Str×Str)} {g:Str->Nat} {k:Nat} {ns:List Int} (nd:xs.Nodup) (h9:xs.length<=9) (hp:∀e∈ps,e.1∈xs/\e.2∈xs) (hl:ns.length=ps.length) (hg:∀x∈xs,inN ns ps x=g x) (ho:jf xs ps (λx=>((g x:Nat):Int)) k=true):∀c∈cG xs,k<=pY c ns ps:=by
  intro c hc;obtain⟨cs,c0,cl⟩:=wk h9 hc;have e1:=yK nd (λx=>decide (x∈c)) (L:=dU ns ps) (w6 hp);rw[N_ c hl,rC nd cs] at e1;have e2:(c.map λx=>(dU ns ps).count x)=c.map g:=qnF λx hx=>hg x (cs.subset hx);rw[e2] at e1;have:=qmk.mp ho c hc;rw[qmo] at this;unfold Gq at this;rw[ql] at this;omega
def zL:Sp:=λvs H Q _=>∃k l:Int,vs=[.int k,.int l]/\l<=k/\k<=9/\∀H',Same H H'->Q .non H'
theorem zM (T:Txt K mg a):bN P w K mg base ig 2 a.cF a.gY ["thing", "least"] zL:=by
  exists T.lO.lK,zA
  ·obtain⟨k,l,rfl,_⟩:=h;rfl
  ·obtain⟨k,l,rfl,h1,h2,q⟩:=h;refine⟨_,(aD (dJ (PW.pt (rJ (dI (cJ (PE.eqv (aG (oN T) hr.d rfl T.mY T.jO.kp T.mX .nil aR (aj (aH 0) ao)) (aF _ _ _)))) (lD (dI (zc qC qC (aH 1) (aH 0) (wD rfl T.yE T.yF)))))) (aD iu) bG)),?_⟩;left;refine⟨.int k,.int k,rfl,by simp[mj],?_⟩;simp only[wj];left;refine fj.pos (qmz h1) ?_;left;rw[qmz h2];left;exact q H (Same.refl _)
def rQ (C Th:Addr):Sp:=λvs H Q E=>∃(o:Addr) (xs:List Str) (ps:List (Str×Str)) (k:Nat),vs=[.ref o,.int (k:Int)]/\eV C H o xs ps/\S7 xs/\wg xs ps/\k<=9/\
  ((∀c∈cG xs,2 * k<=(cu c ps).length)->∀H',Same H H'->Q .non H')/\
  (∀(j:Nat) (c:List Str) (dx b:Addr) (H':Hp),(cG xs)[j]? = some c->(cu c ps).length<2 * k->(∀d∈(cG xs).take j,2 * k<=(cu d ps).length)->H b=none->H' dx=some (zp dx [("lot",.ref b)])->H' b=some (.lst (c.map V.str))->Same H H'->E (.ref Th) (some dx) H')
theorem rR (T:Txt K mg a):bN P w K mg base (V6 P w) 4 a.bF a.dN ["web", "k"] (rQ a.bD a.bR):=by
  exists T.gJ.qgC,jF
  ·obtain⟨o,xs,ps,k,rfl,_⟩:=h;rfl
  . obtain⟨o,xs,ps,k,rfl,hw,hX,hTs,h9,q1,q2⟩:=h;refine⟨_,(aD (jH PassesOwn.leaving rfl (PI.eqv (bB (K:=K) rfl (PE.eqv (aG (t_ T) hr.d rfl T.qU T.m6.kp T.qT .nil aR (aj (aH 0) ao)) (aF _ _ _))) (bx _ _)) (aJ (i:=2) jF.nd rfl (Or.inl rfl))
      (aD (dJ (bh oV (aM (bO (K:=K) rfl) rfl T.nm.len ql8 (aj (PE.eqv (aG (Ot T) hr.d rfl T.DR T.vX.kp T.DQ .nil aR (aj (aH 0) (aj (aH 2) ao))) (aF _ _ _)) ao)) (bT xG aK (aH 1)) (bK _)) (aD (U6 (E:=E) Sg rfl rfl T.yI (KC T) hr.d rfl T.QF T.Af (aj (aH 2) ao))) bG)))),?_⟩
    have l9:=hX.len;left;refine⟨o,xs,ps,rfl,hw,l9.2,λr tv H1 hr1 e1 hN s1=>?_⟩;left;refine⟨⟨_,aX.of e1⟩,Xl tv (λj σ H'=>(∃o2,σ=[some (.ref o),some (.int (k:Int)),o2])/\(∀c∈(cG xs).take j,2 * k<=(cu c ps).length)/\Same H1 H') ⟨⟨_,rfl⟩,by simp,Same.refl _⟩ (λj σ H' _ h=>aX.of (h.2.2 _ _ e1)) ?_ ?_⟩
    . rintro j v σ H2 hj ⟨⟨o2,rfl⟩,hall,s2⟩;obtain⟨c,hc,t,rfl,ht0,ht⟩:=bI.at (Q7.same hN s2) hj;obtain⟨cs,c0,cl⟩:=wk l9.2 (qlX hc);left;refine⟨o,t,xs,c,ps,rfl,hw.same (s1.trans s2),hX,hTs,.inl ht,cs.nodup hX.nd,λx hx=>cs.subset hx,c0,cl,λr3 H3 hr3 e3 s3=>?_⟩;have S3:=s1.trans (s2.trans s3);left;refine⟨_,.inl (aX.of e3),?_⟩;rw[ql2];refine fj.of (λhb=>?_) (λhb=>?_)
      . have hb':=qmn hb;left;intro e5 he5;have s5:Same H3 (upd H3 e5 (kI e5 a.bR none)):=au he5;have x5:upd H3 e5 (kI e5 a.bR none) e5=some (kI e5 a.bR none):=ak;have hc5:=s5 _ _ (s3 _ _ ht);have e50:H e5=none:=cg S3 he5;have S5:=S3.trans s5;generalize upd H3 e5 (kI e5 a.bR none)=H5 at s5 x5 hc5 S5 ⊢;refine⟨e5,t,_,rfl,x5,hc5,λc' H6 hc0 ec hbe hB=>⟨rfl,?_⟩⟩;obtain⟨dx,dxe,hx,hdx⟩:=hbe;have ce:c'≠e5:=λz=>by rw[z,x5] at hc0;cases hc0
        refine⟨_,hx,q2 j c dx c' _ hc (by omega) hall (cg S5 hc0) (JT dxe hdx) (JT ce ec) λb' u e=>?_⟩;have be:b'≠e5:=λz=>by rw[z,e50] at e;cases e
        exact JT be (hB b' u be (S5 _ _ e))
      . have hb':=qmP hb;left;refine⟨λd hd=>?_,s2.trans s3⟩;rw[take_one hc] at hd
        rcases qmh.mp hd with hd | hd
        ·exact hall d hd
        ·rw[qmu] at hd;subst hd;omega
    ·rintro σ H2 ⟨⟨o2,rfl⟩,hall,s2⟩;rw[hN.1,ql4] at hall;left;exact q1 hall H2 (s1.trans s2)
def A_ (C Th:Addr):Sp:=λvs H Q E=>∃(o:Addr) (xs:List Str) (ps:List (Str×Str)) (k:Nat),vs=[.ref o,.int (k:Int)]/\eV C H o xs ps/\S7 xs/\wg xs ps/\k<=9/\
  ((∀c∈cG xs,2 * k<=(cu c ps).length)->∀(r:Addr) (ns:List Int) (H':Hp),H r=none->H' r=some (.lst (ns.map V.int))->ns.length=ps.length->(∀n∈ns,0<=n/\n<=1)->(∀c∈cG xs,k<=pY c ns ps)->Same H H'->Q (.ref r) H')/\
  (∀(j:Nat) (c:List Str) (dx b:Addr) (H':Hp),(cG xs)[j]? = some c->(cu c ps).length<2 * k->(∀d∈(cG xs).take j,2 * k<=(cu d ps).length)->H b=none->H' dx=some (zp dx [("lot",.ref b)])->H' b=some (.lst (c.map V.str))->Same H H'->E (.ref Th) (some dx) H')
theorem rP (T:Txt K mg a):bN P w K mg base (V6 P w) 8 a.cQ a.iH ["web", "k"] (A_ a.bD a.bR):=by
  exists T.jB.qgC,lN
  ·obtain⟨o,xs,ps,k,rfl,_⟩:=h;rfl
  . obtain⟨o,xs,ps,k,rfl,hw,hX,hTs,h9,q1,q2⟩:=h;refine⟨_,(aC (fG (PE.eqv (aG (zM T) hr.d rfl T.rO T.lO.kp T.rN .nil aR (aj (aH 1) (aj aK ao))) (aF _ _ _)))
      (aC (fG (PE.eqv (aG (rR T) hr.d rfl T.lA T.gJ.kp T.lu .nil (Sg.passes rfl) (aj (aH 0) (aj (aH 1) ao))) (aF _ _ _)))
      (aC (bC (i:=2) lN.nd rfl (Or.inr rfl) (PE.eqv (aG (Az T) hr.d rfl T.tX T.m7.kp T.tW .nil aR (aj (aH 0) ao)) (aF _ _ _)))
      (aC (gw (i:=3) lN.nd rfl rfl rfl rfl (show aN (aA jq) _ ["web", "k", "weighed", "good"] ["row"] [2,1] ["row", "weighed", "k"] from by rfl') rfl (PI.eqv (bB (K:=K) rfl (PE.eqv (aG (Gw T) hr.d rfl T.yC T.rm.kp T.yx .nil aR (aj (aH 0) ao)) (aF _ _ _))) (bx _ _)) (λC s H fp pn=>(aJ (i:=0) (show(["row", "weighed", "k"]:List Str).Nodup by symm) rfl (Or.inl rfl))) (λC s H fp pn=>(jj (cJ (PE.eqv (aG (Gu T) hr.d rfl T.yp T.qY.kp T.yj .nil aR (aj (aH 1) (aj (aH 0) (aj (aH 2) ao)))) (aF _ _ _))))) (λC s H fp pn=>(aH 0)))
      (aD (aZ (PE.eqv (aG (Ey T) hr.d rfl T.vh T.pG.kp T.vg .nil aR (aj (aH 0) (aj (cR (dh (K:=K) rfl) (aH 3) aK (λ_ _=>rfl)) ao))) (aF _ _ _)))))))),?_⟩
    have l9:=hX.len;have g2:∀e∈ps,e.1∈xs/\e.2∈xs:=λe he=>⟨(hTs.ok e he).1,(hTs.ok e he).2.1⟩;have qha:2000<sizeLine:=by decide
    left;refine⟨k,0,rfl,by omega,by omega,λH1 s1=>?_⟩;left;refine⟨o,xs,ps,k,rfl,hw.same s1,hX,hTs,h9,λhth H2 s2=>?_,λj c dx b H2 hc hlt hall hb hdx hbb s2=>?_⟩
    . have S2:=s1.trans s2;left;refine⟨o,xs,ps,rfl,hw.same S2,hX,hTs,λr3 tv H3 hr3 e3 Zn s3=>?_⟩;have S3:=S2.trans s3;left;refine⟨o,xs,ps,rfl,hw.same S3,l9.2,λr4 tv4 H4 QJ e4 hI s4=>?_⟩;have S4:=S3.trans s4;obtain⟨qlL,qcX,qkE⟩:=ZS hX.nd l9.2 g2 hth;have hlen:∀row∈(fV (iB ps) xs).filter (λrow=>decide (row.sum=(ps.length:Int))),row.length=xs.length:=λrow hrow=>by
        have:=zK (iB ps) xs xs.length (qlY _) row (by rw[ql4];exact(qmd.mp hrow).1);exact this
      have hnn:∀row∈(fV (iB ps) xs).filter (λrow=>decide (row.sum=(ps.length:Int))),∀n∈row,0<=n:=λrow hrow=>Ov xs.length (qlY _) row (by rw[ql4];exact(qmd.mp hrow).1);have hsum:∀row∈(fV (iB ps) xs).filter (λrow=>decide (row.sum=(ps.length:Int))),row.sum=(ps.length:Int):=λrow hrow=>qmn (qmd.mp hrow).2;have qhb:((fV (iB ps) xs).filter (λrow=>decide (row.sum=(ps.length:Int)))).length<=600:=by
        have h1:=uL (iB ps) xs xs.length (qlY _);rw[ql4] at h1;have h2:((fV (iB ps) xs).filter (λrow=>decide (row.sum=(ps.length:Int)))).length<=(fV (iB ps) xs).length:=qm8 _ _;have p9:2 ^ xs.length<=2 ^ 9:=qmL (by decide) l9.2;omega
      generalize (fV (iB ps) xs).filter (λrow=>decide (row.sum=(ps.length:Int)))=rows at hI qcX hlen hnn hsum qhb;have tl:tv4.length=rows.length:=hI.1;have e34:=s4 _ _ e3;have hW4:=Zn.same s4;left;refine⟨⟨_,aX.of e4⟩,λD hD=>K7 tv4 (λj σ H'=>(∃o1,σ=[o1,some (.ref r3),some (.int (k:Int))])/\(∃uv,H' D=some (.lst uv)/\bI (λ_=>qe2 H4) H' uv ((rows.take j).filter λrow=>jf xs ps (rE xs row) k))/\Same H4 H') ⟨⟨_,rfl⟩,⟨[],ak,by simp;exact bI.nil⟩,au hD⟩ (λi σ H' _ h=>aX.of (h.2.2 _ _ e4)) ?_ ?_⟩
      . rintro j v σ H5 hj ⟨⟨o1,rfl⟩,⟨uv,Ax,hA5⟩,s5⟩;obtain⟨row,hrw,t,rfl,ht⟩:=hI.at hj;have hj2:j<tv4.length:=(qlT.mp hj).1;have V8:uv.length<=j:=by
          have:=hA5.1;have h2:((rows.take j).filter λrow=>jf xs ps (rE xs row) k).length<=(rows.take j).length:=qm8 _ _;rw[ql7] at h2;omega
        have hrl:=hlen row (qlX hrw);have ht5:=s5 _ _ ht;rw[take_one hrw,qm_];left;refine⟨r3,t,tv,xs,ps,rE xs row,k,rfl,s5 _ _ e34,hW4.same s5,l9.2,.inl (by rw[ud hX.nd hrl];exact ht5),λH6 s6=>?_⟩;have S6:=s5.trans s6;have QM:=s6 _ _ Ax;left;refine fj.of (λhb=>?_) (λhb=>?_)
        ·left;refine⟨uv,QM,by omega,⟨_,ak,?_⟩,aW S6 hD⟩;rw[show([row].filter λrow=>jf xs ps (rE xs row) k)=[row] by simp[hb]];exact bI.snoc (bI.keep hA5 λv b h=>h) ⟨t,rfl,ht⟩
        ·left;refine⟨⟨uv,QM,?_⟩,S6⟩;rw[show([row].filter λrow=>jf xs ps (rE xs row) k)=[] by simp[hb],qmy];exact⟨hA5.1,hA5.2⟩
      . rintro σ H5 ⟨⟨o1,rfl⟩,⟨uv,Ax,hA5⟩,s5⟩;rw[tl,ql4] at hA5;have S5:=S4.trans s5;have hpos:0<(rows.filter λrow=>jf xs ps (rE xs row) k).length:=qm2 (qmd.mpr ⟨qcX,qkE⟩);obtain⟨v0,hv0⟩:∃v0,uv[0]? = some v0:=⟨_,qmg (show 0<uv.length by rw[hA5.1];exact hpos)⟩;obtain⟨row,hrw,t,rfl,ht⟩:=hA5.at hv0;obtain⟨hmem,hov⟩:=qmd.mp (qlX hrw);have hrl:=hlen row hmem;have hnr:=hnn row hmem;have eg:∀x∈xs,rE xs row x=(((rE xs row x).toNat:Nat):Int):=λx hx=>by
          have h1:rE xs row x∈row:=by
            have h2:rE xs row x∈xs.map (rE xs row):=qmw.mpr ⟨x,hx,rfl⟩;rw[ud hX.nd hrl] at h2;exact h2
          have:=hnr _ h1;omega
        have em:(xs.map λx=>(((rE xs row x).toNat:Nat):Int))=row:=by
          rw[<- ud hX.nd hrl];exact qnF λx hx=>by rw[ud hX.nd hrl];exact(eg x hx).symm
        have qhc:jf xs ps (λx=>(((rE xs row x).toNat:Nat):Int)) k=true:=by
          rw[Ao l9.2 λx hx=>(eg x hx).symm];exact hov
        have hsm:(xs.map λx=>(rE xs row x).toNat).sum=ps.length:=by
          have h1:=hsum row hmem;rw[<- em,ql] at h1;omega
        have hcan:=qbZ l9.2 g2 hsm qhc;left;refine⟨_,.inl (aX.of Ax),_,bH (j:=0) hv0,o,t,xs,ps,λx=>(rE xs row x).toNat,rfl,hw.same S5,hX,hTs,.inl (by rw[em];exact s5 _ _ ht),hcan,λr6 ns H6 hr6 e6 hl6 h01 hin s6=>?_⟩
        ·left;exact q1 hth r6 ns H6 (cg S5 hr6) e6 hl6 h01 (ZV hX.nd l9.2 g2 hl6 hin qhc) (S5.trans s6)
    ·exact q2 j c dx b H2 hc hlt hall (cg s1 hb) hdx hbb (s1.trans s2)
def jT (H:Hp) (t n l:Addr) (xs:List Str) (tv:List V) (ps:List (Str×Str)):Prop:=H t=some (.tup [.ref n,.ref l])/\H n=some (.lst (xs.map V.str))/\H l=some (.lst tv)/\bA H tv ps/\S7 xs/\wg xs ps
theorem jT.same {H H':Hp} {t n l:Addr} {xs:List Str} {tv:List V} {ps:List (Str×Str)} (h:jT H t n l xs tv ps) (s:Same H H'):jT H' t n l xs tv ps:=⟨s _ _ h.1,s _ _ h.2.1,s _ _ h.2.2.1,bA.same h.2.2.2.1 s,h.2.2.2.2⟩
theorem jG.qe6 {p b:Addr} {H:Hp} {o:HO} (x:jG H p) (h:H b=some o) (hn:∀zs,o≠.lst zs):b≠p:=λz=>by
  subst z;obtain⟨u,v,e,_⟩:=x;rw[h] at e;exact hn _ (qmp e)
theorem jT.but {p:Addr} {H H':Hp} {t n l:Addr} {xs:List Str} {tv:List V} {ps:List (Str×Str)} (h:jT H t n l xs tv ps) (hp:jG H p) (b:But p H H') (np:n≠p) (lp:l≠p):jT H' t n l xs tv ps:=
  ⟨b _ _ (hp.qe6 h.1 (by intro zs z;cases z)) h.1,b _ _ np h.2.1,b _ _ lp h.2.2.1,h.2.2.2.1.but hp b,h.2.2.2.2⟩
def VP:Sp:=λvs H Q _=>∃(t n l r:Addr) (xs c:List Str) (tv:List V) (ps:List (Str×Str)),vs=[.ref t,.ref r]/\jT H t n l xs tv ps/\H r=some (.lst (c.map V.str))/\0<c.length/\c.length<xs.length/\(∀x∈c,x∈xs)/\xs.filter (λy=>decide (y∈c))=c/\
  ∀H',Same H H'->Q (.bl true) H'
theorem VR (T:Txt K mg a):bN P w K mg base ig 1 a.lq a.uF ["_law_web_here", "_law_lot"] VP:=by
  exists T.Eb.lK,Vi
  ·obtain⟨t,n,l,r,xs,c,tv,ps,rfl,_⟩:=h;rfl
  . obtain⟨t,n,l,r,xs,c,tv,ps,rfl,hG,hrc,hc0,hc9,hcx,hcf,q⟩:=h;refine⟨_,(aC (dJ (PW.pt (rJ (dI (cJ (aM (CV (K:=K) rfl) rfl T.nm.isinstance boot_isinstance (aj (aH 1) (aj (lW (v:=.ty "list") rfl T.nm.list boot_list rfl) ao))))) (lD (dI (cJ (aM (gU rfl) rfl T.nm.all gR (aj (bU rfl rfl (show aN (aA tG) _ ["_law_web_here", "_law_lot"] ["_law_point"] [] ["_law_point"] from by rfl') rfl (PI.eqv (bB (K:=K) rfl (aH 1)) (bx _ _)) (λC s H fp pn=>(aJ (i:=0) (show(["_law_point"]:List Str).Nodup by symm) rfl (Or.inl rfl))) (λC s H fp pn=>bM) (λC s H fp pn=>(aM (CV (K:=K) rfl) rfl T.nm.isinstance boot_isinstance (aj (aH 0) (aj (lW (v:=.ty "str") rfl T.nm.str boot_str rfl) ao))))) ao))))))) (aD (aZ pR)) bG)
      (aD (aZ (nO (za oV oV aK (aM (bO (K:=K) rfl) rfl T.nm.len ql8 (aj (aH 1) ao)) (aM (bO (K:=K) rfl) rfl T.nm.len ql8 (aj (cR (dh (K:=K) rfl) (aH 0) aK (λ_ _=>rfl)) ao))) (rZ (gO (qei (K:=K) rfl hr.units) (aH 1) (bU rfl rfl (show aN (aA tG) _ ["_law_web_here", "_law_lot"] ["_law_name"] [1] ["_law_name", "_law_lot"] from by rfl') rfl (PI.eqv (bB (K:=K) rfl (cR (dh (K:=K) rfl) (aH 0) aK (λ_ _=>rfl))) (bx _ _)) (λC s H fp pn=>(aJ (i:=0) (show(["_law_name", "_law_lot"]:List Str).Nodup by symm) rfl (Or.inl rfl))) (λC s H fp pn=>(jj (bh (CQ (K:=K) rfl) (aH 0) (aH 1) rfl))) (λC s H fp pn=>(aH 0))) (bK _))))))),?_⟩
    have s60:60<=sizeLine:=by decide
    have hX:=hG.2.2.2.2.1;have l9:=hX.len;left;refine⟨_,.lst hrc,_,Fv K,fj.neg rfl ?_⟩;left;refine⟨⟨_,aX.of hrc⟩,λD hD=>K7 (c.map V.str) (λj σ H'=>(∃o',σ=[o'])/\H' D=some (.lst (List.replicate j (.bl true)))/\Same H H') ⟨⟨_,rfl⟩,ak,au hD⟩ (λj σ H' _ h=>aX.of (h.2.2 _ _ hrc)) ?_ ?_⟩
    ·rintro j z σ H2 hj ⟨⟨o',rfl⟩,hD2,s2⟩;obtain⟨y,hy,rfl⟩:=iQ hj;have hj2:j<c.length:=(qlT.mp hy).1;left;refine⟨_,.str _,_,zW K,?_⟩;refine⟨_,hD2,by simp;omega,by rw[ak,qnk],aW s2 hD⟩
    . rintro σ H2 ⟨⟨o',rfl⟩,hD2,s2⟩;left;refine⟨_,hD2,_,je _,?_⟩;rw[show(List.replicate (c.map V.str).length true).all id=true by simp];left;refine⟨_,.inl (aX.of (s2 _ _ hrc)),fj.pos (by simpa using hc0) ?_⟩;left;refine⟨_,.inr (dO.of (s2 _ _ hG.1)),_,bH (j:=0) rfl,_,.inl (aX.of (s2 _ _ hG.2.1)),?_⟩;rw[qmz (by simpa using hc9)];left;refine⟨_,.inr (dO.of (s2 _ _ hG.1)),_,bH (j:=0) rfl,⟨_,aX.of (s2 _ _ hG.2.1)⟩,λF hF=>K7 (xs.map V.str) (λj σ H'=>(∃o',σ=[o',some (.ref r)])/\H' F=some (.lst (((xs.take j).filter λy=>decide (y∈c)).map V.str))/\Same H2 H') ⟨⟨_,rfl⟩,ak,au hF⟩ (λj σ H' _ h=>aX.of (h.2.2 _ _ (s2 _ _ hG.2.1))) ?_ ?_⟩
      . rintro j z σ H3 hj ⟨⟨o',rfl⟩,hF3,s3⟩;obtain⟨y,hy,rfl⟩:=iQ hj;have hj2:j<xs.length:=(qlT.mp hy).1;have hfl:((xs.take j).filter λy=>decide (y∈c)).length<=(xs.take j).length:=qm8 _ _;rw[ql7] at hfl;rw[take_one hy,qm_,qms];left;refine⟨_,.inl (aX.of (s3 _ _ (s2 _ _ hrc))),rfl,qmk.mp (fW _),?_⟩;rw[dg];refine fj.of (λh=>?_) (λh=>?_)
        ·have h':y∈c:=qmn h;left;refine⟨_,hF3,by simp;omega,by rw[ak];simp[h'],aW s3 hF⟩
        ·have h':¬y∈c:=qmP h;left;refine⟨by rw[hF3];simp[h'],s3⟩
      . rintro σ H3 ⟨⟨o',rfl⟩,hF3,s3⟩;rw[ql2,ql4,hcf] at hF3;have hcc:PyData.canLay0 (.list (iy c))=true:=by
          have:=Mf c λx hx=>qaK (hX.nm x (hcx x hx));simp[PyData.canLay0,this]
        have hcd:(PyData.list (iy c)).depth<=64:=by
          have:=Mg c;simp[PyData.depth];omega
        left;refine⟨.list (iy c),⟨r,_,rfl,aX.of ((s2.trans s3) _ _ hrc),Ju _⟩,.list (iy c),⟨F,_,rfl,aX.of hF3,Ju _⟩,hcc,hcc,hcd,?_⟩;rw[show PyData.eqv (.list (iy c)) (.list (iy c))=true by simp[PyData.eqv,Mj]];exact q _ (s2.trans s3)
def qb0:Sp:=λvs H Q _=>∃(n:Addr) (xs:List Str),vs=[.ref n]/\H n=some (.lst (xs.map V.str))/\1<=xs.length/\xs.length<=9/\
  ∀(r:Addr) (tv:List V) (H':Hp),H r=none->H' r=some (.lst tv)->qw H' tv (cG xs)->Same H H'->Q (.ref r) H'
theorem qb1 (T:Txt K mg a):bN P w K mg base ig 1 a.tO a.Bo ["_law_names_here"] qb0:=by
  exists T.QD.lK,Kg
  ·obtain⟨n,xs,rfl,_⟩:=h;rfl
  . obtain⟨n,xs,rfl,hn,h1,h9,q⟩:=h;refine⟨_,(aC (bC (i:=1) Kg.nd rfl (Or.inl rfl) (dX ao))
      (aC (jH qmU rfl (PI.eqv (GJ rfl T.nm.range (aj aK (aj (bT nM (bT qa4 aK (aM (bO (K:=K) rfl) rfl T.nm.len ql8 (aj (aH 0) ao))) aK) ao))) (Hl _)) (aJ (i:=2) Kg.nd rfl (Or.inr rfl))
      (aD (fG (mR (K:=K) rfl qmM qng qnh jL (aH 1) (aj (bU rfl rfl (show aN (aA Kd) _ ["_law_names_here", "_law_found", "_law_mask"] ["_law_k", "_law_name"] [2] ["_law_k", "_law_name", "_law_mask"] from by rfl') rfl (PI.eqv (wR (K:=K) rfl rfl T.nm2.enumerate (aj (aH 0) ao)) (qe _ _)) (λC s H fp pn=>(PG.eqv (cI (K:=K) (n:=2) rfl rfl (fP.eqv (aU (aJ (i:=0) (show(["_law_k", "_law_name", "_law_mask"]:List Str).Nodup by symm) rfl (Or.inl rfl)) (fP.eqv (aU (aJ (i:=1) (show(["_law_k", "_law_name", "_law_mask"]:List Str).Nodup by symm) rfl (Or.inl rfl)) (fP.mono cH eY)) (aV _ _))) (aV _ _))) (cM _ _ _))) (λC s H fp pn=>(jj (bh lJ (bT qbQ (bT qa5 (aH 2) (aH 0)) aK) aK (bK _)))) (λC s H fp pn=>(aH 1))) ao)))))
      (aD (aZ (aH 1))))),?_⟩
    have Q8:600<sizeLine:=by decide
    left;intro r hr;exists H,r,(.lst []),s1,e1,H1,hr;have p9:2 ^ xs.length<=2 ^ 9:=qmL (by decide) h9;have p1:2 ^ 1<=2 ^ xs.length:=qmL (by decide) h1;have pc:((2:Int) ^ xs.length)=((2 ^ xs.length:Nat):Int):=by simp
    refine⟨_,.inl (aX.of (s1 _ _ hn)),?_⟩;rw[ql2,pc,Int.toNat_natCast];generalize hN:2 ^ xs.length=N at p9 p1 ⊢;refine⟨by omega,by omega,frR (λk σ H'=>(∃o2,σ=[some (.ref n),some (.ref r),o2])/\(∃(tv:List V) (cs:List (List Str)),H' r=some (.lst tv)/\qw H' tv cs/\tv.length=k/\cs=(List.range k).map (λm=>cV (fB (1+m)) xs)/\(∀c∈cs,c.Sublist xs/\0<c.length/\c.length<xs.length))/\Same H H') ⟨⟨_,rfl⟩,⟨[],[],e1,bI.nil,rfl,rfl,by simp⟩,s1⟩ ?_ ?_⟩
    . rintro k σ H2 hk ⟨⟨o2,rfl⟩,⟨tv,cs,hr2,hcs,htl,hce,hall⟩,s2⟩;left;have hn2:=s2 _ _ hn;refine⟨⟨_,aX.of hr2⟩,⟨_,aX.of hn2⟩,λD hD=>cmE (xs.map V.str) (λi σ H'=>(∃o0 o1,σ=[o0,o1,some (.int (1+k))])/\H' D=some (.lst ((cV (fB (1+k)) (xs.take i)).map V.str))/\Same H2 H') ⟨⟨_,_,rfl⟩,ak,au hD⟩ (λi σ H' _ h=>aX.of (h.2.2 _ _ hn2)) ?_ ?_⟩
      . rintro i v t σ H3 hi ht ⟨⟨o0,o1,rfl⟩,jE,s3⟩;obtain⟨y,hy,rfl⟩:=iQ hi;have hi9:i<xs.length:=(qlT.mp hy).1;exists H3,t,(.tup [.int i,.str y]),s4,e4,H4,ht;have oH:=s4 _ _ jE;have hfl:(cV (fB (1+k)) (xs.take i)).length<=(xs.take i).length:=(bits_sub _ _).length_le;rw[ql7] at hfl;rw[take_one hy,zG,ql7,qn5 (by omega)];left;refine⟨_,dO.of e4,rfl,?_⟩;left;rw[qeV (by omega)];refine fj.of (λhb=>?_) (λhb=>?_)
        ·rw[if_pos hb];left;refine⟨_,oH,by simp;omega,?_,aW (s3.trans s4) hD⟩;rw[ak]
        ·rw[if_neg (by rw[hb];decide),qmy];left;exact⟨oH,s3.trans s4⟩
      . rintro σ H3 ⟨⟨o0,o1,rfl⟩,jE,s3⟩;rw[ql2,ql4] at jE;obtain⟨⟨k1,hk1,hb1⟩,⟨k2,hk2,hb2⟩⟩:=Od (n:=xs.length) (m:=1+k) h9 (by omega) (by omega) (by omega);have hr3:=s3 _ _ hr2;have hDr:D≠r:=λz=>by rw[z,hr2] at hD;cases hD
        left;refine⟨_,hr3,by omega,⟨_,ak,cs++[cV (fB (1+k)) xs],?_,by simp[htl],by rw[List.range_succ,qms,<- hce];rfl,λc hc=>?_⟩,aW (s2.trans s3) hr⟩
        ·refine bI.snoc (Vt hr3 (hcs.same s3) λc hc=>(hall c hc).2.1) ⟨D,rfl,?_⟩;rw[aB hDr];exact jE
        . rcases qmh.mp hc with hc | hc
          ·exact hall c hc
          ·rw[qmu] at hc;subst hc;exact⟨bits_sub _ _,Oe hk1 hb1,Tp hk2 hb2⟩
    . rintro σ H2 ⟨⟨o2,rfl⟩,⟨tv,cs,hr2,hcs,htl,hce,hall⟩,s2⟩;left;refine q r tv H2 hr hr2 ?_ s2;have e9:cG xs=cs:=by
        unfold cG;rw[hce,hN];congr 2
      rw[e9];exact hcs
def Gx:Sp:=λvs H Q _=>∃(t n l r:Addr) (xs c:List Str) (tv:List V) (ps:List (Str×Str)),vs=[.ref t,.ref r]/\jT H t n l xs tv ps/\H r=some (.lst (c.map V.str))/\
  ∀(d:Addr) (H':Hp),H d=none->H' d=some (.lst ((cu c ps).map λk:Nat=>V.int k))->Same H H'->Q (.ref d) H'
theorem vp (T:Txt K mg a):bN P w K mg base ig 1 a.eU a.j_ ["_law_web_here", "_law_lot"] Gx:=by
  exists T.mL.lK,Gb
  ·obtain⟨t,n,l,r,xs,c,tv,ps,rfl,_⟩:=h;rfl
  . obtain⟨t,n,l,r,xs,c,tv,ps,rfl,hG,hrc,q⟩:=h;refine⟨_,(aD (aZ (bU rfl rfl (show aN (aA mF) _ ["_law_web_here", "_law_lot"] ["_law_k", "_law_a", "_law_b"] [1] ["_law_k", "_law_a", "_law_b", "_law_lot"] from by rfl') rfl (PI.eqv (wR (K:=K) rfl rfl T.nm2.enumerate (aj (cR (dh (K:=K) rfl) (aH 0) aK (λ_ _=>rfl)) ao)) (qe _ _)) (λC s H fp pn=>(PG.eqv (cI (K:=K) (n:=2) rfl rfl (fP.eqv (aU (aJ (i:=0) (show(["_law_k", "_law_a", "_law_b", "_law_lot"]:List Str).Nodup by symm) rfl (Or.inl rfl)) (fP.eqv (aU (PG.eqv (cI (K:=K) (n:=2) rfl rfl (fP.eqv (aU (aJ (i:=1) (show(["_law_k", "_law_a", "_law_b", "_law_lot"]:List Str).Nodup by symm) rfl (Or.inl rfl)) (fP.eqv (aU (aJ (i:=2) (show(["_law_k", "_law_a", "_law_b", "_law_lot"]:List Str).Nodup by symm) rfl (Or.inl rfl)) (fP.mono cH eY)) (aV _ _))) (aV _ _))) (cM _ _ _)) (fP.mono cH eY)) (aV _ _))) (aV _ _))) (cM _ _ _))) (λC s H fp pn=>(jj (bh vK (gO (CQ (K:=K) rfl) (aH 1) (aH 3) rfl) (gO (CQ (K:=K) rfl) (aH 2) (aH 3) rfl) (bK _)))) (λC s H fp pn=>(aH 0))))),?_⟩;have s60:60<=sizeLine:=by decide
    have NQ:=hG.2.2.2.2.2.len;have tl:=hG.2.2.2.1.1;have hl:=hG.2.2.1;left;refine⟨_,.inr (dO.of hG.1),_,bH (j:=1) rfl,⟨_,aX.of hl⟩,λD hD=>cmE tv (λj σ H'=>(∃o1 o2 o3,σ=[o1,o2,o3,some (.ref r)])/\H' D=some (.lst ((cu c (ps.take j)).map λk:Nat=>V.int k))/\Same H H') ⟨⟨_,_,_,rfl⟩,ak,au hD⟩ (λj σ H' _ h=>aX.of (h.2.2 _ _ hl)) ?_ ?_⟩
    . rintro j v tt σ H2 hj htt ⟨⟨o1,o2,o3,rfl⟩,hD2,s2⟩;obtain⟨e,he,t2,rfl,wC⟩:=hG.2.2.2.1.at hj;have hj2:j<ps.length:=(qlT.mp he).1;have st:Same H2 (upd H2 tt (.tup [.int j,.ref t2])):=au htt;have ett:upd H2 tt (.tup [.int j,.ref t2]) tt=some (.tup [.int j,.ref t2]):=ak;have s3:=s2.trans st;have jE:=st _ _ hD2;generalize upd H2 tt (.tup [.int j,.ref t2])=H3 at st ett s3 jE ⊢;have hcl:(cu c (ps.take j)).length<=(ps.take j).length:=sU (vH c) _ _;rw[ql7] at hcl;have hct:cu c (ps.take (j+1))=cu c (ps.take j)++dY c e j:=yZ (dY c) he;rw[hct,qms];left;refine⟨_,dO.of ett,rfl,_,dO.of (s3 _ _ wC),rfl,?_⟩;refine⟨_,.inl (aX.of (s3 _ _ hrc)),rfl,qmk.mp (fW _),_,.inl (aX.of (s3 _ _ hrc)),rfl,qmk.mp (fW _),?_⟩;rw[dg,dg]
      by_cases hx:(e.1∈c↔e.2∈c)
      ·refine⟨false,by simp[hx],fj.neg rfl ?_⟩;left;refine⟨?_,s3⟩;rw[jE,show dY c e j=[] from if_pos hx];simp
      ·refine⟨true,by simpa using hx,fj.pos rfl ?_⟩;left;refine⟨_,jE,by simp;omega,?_,aW s3 hD⟩;rw[ak,show dY c e j=[j] from if_neg hx];simp
    ·rintro σ H2 ⟨⟨o1,o2,o3,rfl⟩,hD2,s2⟩;rw[tl,ql4] at hD2;left;exact q D H2 hD hD2 s2
def ZW:Sp:=λvs H Q _=>∃(t n l:Addr) (xs:List Str) (tv:List V) (ps:List (Str×Str)),vs=[.ref t]/\jT H t n l xs tv ps/\
  ∀(m:Nat) (H':Hp),((∃c∈cG xs,(cu c ps).length=m)\/(cG xs=[]/\m=0))->(∀c∈cG xs,m<=(cu c ps).length)->Same H H'->Q (.int (m:Int)) H'
theorem ZX (T:Txt K mg a):bN P w K mg base ig 2 a.oE a.xR ["_law_web_here"] ZW:=by
  exists T.Kr.lK,Y9
  ·obtain⟨t,n,l,xs,tv,ps,rfl,_⟩:=h;rfl
  . obtain⟨t,n,l,xs,tv,ps,rfl,hG,q⟩:=h;refine⟨_,(aD (aZ (qbB (K:=K) rfl rfl rfl T.nm.min (aj (bU rfl rfl (show aN (aA Bj) _ ["_law_web_here"] ["_law_lot"] [0] ["_law_lot", "_law_web_here"] from by rfl') rfl (PI.eqv (bB (K:=K) rfl (PE.eqv (aG (qb1 T) hr.d rfl T.Zd T.QD.kp T.Zc .nil aR (aj (cR (dh (K:=K) rfl) (aH 0) aK (λ_ _=>rfl)) ao)) (aF _ _ _))) (bx _ _)) (λC s H fp pn=>(aJ (i:=0) (show(["_law_lot", "_law_web_here"]:List Str).Nodup by symm) rfl (Or.inl rfl))) (λC s H fp pn=>bM) (λC s H fp pn=>(aM (bO (K:=K) rfl) rfl T.nm.len ql8 (aj (PE.eqv (aG (vp T) hr.d rfl T.rB T.mL.kp T.rA .nil aR (aj (aH 1) (aj (aH 0) ao))) (aF _ _ _)) ao)))) ao) rfl))),?_⟩;have Q8:600<sizeLine:=by decide
    have l9:=hG.2.2.2.2.1.len;have p9:2 ^ xs.length<=2 ^ 9:=qmL (by decide) l9.2;left;refine⟨_,.inr (dO.of hG.1),_,bH (j:=0) rfl,n,xs,rfl,hG.2.1,l9.1,l9.2,λr tv1 H1 hr1 e1 hL s1=>?_⟩;have tl:tv1.length=2 ^ xs.length - 2:=by rw[hL.1,qj]
    left;refine⟨⟨_,aX.of e1⟩,λD hD=>K7 tv1 (λj σ H'=>(∃o1,σ=[o1,some (.ref t)])/\H' D=some (.lst ((((cG xs).take j).map λc=>(((cu c ps).length:Nat):Int)).map V.int))/\Same H1 H') ⟨⟨_,rfl⟩,ak,au hD⟩ (λi σ H' _ h=>aX.of (h.2.2 _ _ e1)) ?_ ?_⟩
    . rintro j v σ H2 hj ⟨⟨o1,rfl⟩,hD2,s2⟩;have hj2:j<tv1.length:=(qlT.mp hj).1;obtain⟨c,hc,t4,rfl,ht4⟩:=bI.at hL hj;rw[take_one hc,qms,qms];left;refine⟨t,n,l,t4,xs,c,tv,ps,rfl,hG.same (s1.trans s2),s2 _ _ ht4,λd H3 hd e3 s3=>?_⟩;left;refine⟨_,.inl (aX.of e3),_,s3 _ _ hD2,?_,?_,aW (s2.trans s3) hD⟩
      ·simp;omega
      ·rw[ak];simp
    . rintro σ H2 ⟨⟨o1,rfl⟩,hD2,s2⟩;rw[hL.1,ql4] at hD2;left;refine⟨_,aX.of hD2,λh0=>?_,λm hm hmin=>?_⟩
      ·rw[List.map_eq_nil_iff] at h0;exact q 0 H2 (.inr ⟨h0,rfl⟩) (by rw[h0];simp) (s1.trans s2)
      ·obtain⟨c,hc,rfl⟩:=qmw.mp hm;refine q _ H2 (.inl ⟨c,hc,rfl⟩) (λd hd=>?_) (s1.trans s2);have:=hmin _ (qmw.mpr ⟨d,hd,rfl⟩);omega
def Ra (C:Addr):Sp:=λvs H Q _=>∃(t n l o:Addr) (xs:List Str) (tv:List V) (ps ps2:List (Str×Str)) (k:Nat),vs=[.ref t,.ref o,.int (k:Int)]/\jT H t n l xs tv ps/\eV C H o xs ps2/\wg xs ps2/\k<=9/\
  (∃c∈cG xs,(cu c ps2).length<2 * k)/\(∀c∈cG xs,(cu c ps2).length<2 * k->(cu c ps).length+1=k)/\∀H',Same H H'->Q (.bl true) H'
theorem Rb (T:Txt K mg a):bN P w K mg base ig 9 a.i_ a.qQ ["_law_web_here", "_law_made", "_law_k"] (Ra a.bD):=by
  exists T.zE.lK,qN
  ·obtain⟨t,n,l,o,xs,tv,ps,ps2,k,rfl,_⟩:=h;rfl
  . obtain⟨t,n,l,o,xs,tv,ps,ps2,k,rfl,hG,hw,hT2,h9,qhd,hone,q⟩:=h;refine⟨_,(aC (bC (i:=3) qN.nd rfl (Or.inl rfl) (dX ao))
      (aC (qbE (i:=4) rfl rfl rfl qN.nd rfl rfl (λR pn xe hx=>(aD (fG (YD hx rfl (rP T) hr.d rfl T.m9 T.jB.kp T.m8 (aj (aH 1) (aj (aH 2) ao)))))) rfl T.QF (Clause.of T.yI T.yH) (λe=>(aD (bC (i:=3) qN.nd rfl (Or.inl rfl) (YS T.yH.get T.gK (aH 4) rfl)))))
      (aD (aZ (nO (PE.eqv (aG (VR T) hr.d rfl T.Nv T.Eb.kp T.Nu .nil aR (aj (aH 0) (aj (aH 3) ao))) (aF _ _ _)) (rZ (gO lJ (aM (bO (K:=K) rfl) rfl T.nm.len ql8 (aj (PE.eqv (aG (vp T) hr.d rfl T.rB T.mL.kp T.rA .nil aR (aj (aH 0) (aj (aH 3) ao))) (aF _ _ _)) ao)) (bT nM (aH 2) aK) (bK _)))))))),?_⟩
    have hX:=hG.2.2.2.2.1;have l9:=hX.len;left;intro p1 hp1;have s1:Same H (upd H p1 (.lst [])):=au hp1;generalize upd H p1 (.lst [])=H1 at s1 ⊢;generalize hR:M7 4 _ a.bR _ _=R;refine⟨o,xs,ps2,k,rfl,hw.same s1,hX,hT2,h9,λhth=>?_,λj c dx b H2 hc hlt _ hb hdx hbb s2=>⟨_,rfl,?_⟩⟩
    ·obtain⟨c,hc,h⟩:=qhd;have:=hth c hc;omega
    ·subst hR;refine⟨Hz.ofX T.yI T.yH,by rw[T.yH.mro];simp,λe he=>?_⟩;have se:Same H2 (upd H2 e (JV e a.bR (some dx))):=au he;have ee:upd H2 e (JV e a.bR (some dx)) e=some (JV e a.bR (some dx)):=ak;have S:=s1.trans (s2.trans se);have qhe:=se _ _ hdx;have ec2:=se _ _ hbb;generalize upd H2 e (JV e a.bR (some dx))=H3 at se ee S qhe ec2 ⊢;obtain⟨cs,c0,cl⟩:=wk l9.2 (qlX hc);left;refine⟨dx,ee,_,qhe,.ref b,rfl,?_⟩;refine⟨t,n,l,b,xs,c,tv,ps,rfl,hG.same S,ec2,c0,cl,λx hx=>cs.subset hx,rC hX.nd cs,λH4 s4=>?_⟩;left;refine⟨t,n,l,b,xs,c,tv,ps,rfl,hG.same (S.trans s4),s4 _ _ ec2,λd H5 hd e5 s5=>?_⟩;left;refine⟨_,.inl (aX.of e5),?_⟩;rw[ql2,qmz (by have:=hone c (qlX hc) hlt;omega)];exact q H5 (S.trans (s4.trans s5))
def gM (H H':Hp):Prop:=∀b o,(∀ps,o≠.Aq ps)->H b=some o->H' b=some o
theorem gM.of {H H':Hp} (s:Same H H'):gM H H':=λb o _ e=>s b o e
theorem gM.trans {H H1 H2:Hp} (a:gM H H1) (b:gM H1 H2):gM H H2:=λc o n e=>b c o n (a c o n e)
theorem qb2 {pos:Pos} {qual:Str} {Pt:Addr} {H H':Hp} (t:TabOk pos qual Pt H) (b:But Pt H H'):gM H H':=λc o n e=>b c o (λz=>by
  obtain⟨ps,h⟩:=t.tb;rw[z,h] at e;cases e;exact n _ rfl) e
theorem gM.tups {H H':Hp} {tv:List V} {ps:List (Str×Str)} (k:gM H H') (h:bA H tv ps):bA H' tv ps:=⟨h.1,λi v e h1 h2=>by
  obtain⟨t,rfl,z⟩:=h.2 i v e h1 h2;exact⟨t,rfl,k _ _ (by simp) z⟩⟩
theorem gM.goals {H H':Hp} {t n l:Addr} {xs:List Str} {tv:List V} {ps:List (Str×Str)} (k:gM H H') (h:jT H t n l xs tv ps):jT H' t n l xs tv ps:=
  ⟨k _ _ (by simp) h.1,k _ _ (by simp) h.2.1,k _ _ (by simp) h.2.2.1,k.tups h.2.2.2.1,h.2.2.2.2⟩
theorem gM.web {C:Addr} {H H':Hp} {o:Addr} {xs:List Str} {ps:List (Str×Str)} (k:gM H H') (h:eV C H o xs ps):eV C H' o xs ps:=by
  obtain⟨dx,n,m,tv,h1,h2,h3,h4,h5⟩:=h.ex;exact⟨⟨dx,n,m,tv,k _ _ (by simp) h1,k _ _ (by simp) h2,k _ _ (by simp) h3,k.tups h4,h5⟩⟩
theorem gM.seq {K:W.Frag} {H H':Hp} {a:Addr} {xs:List V} (k:gM H H') (h:aX K H a xs):aX K H' a xs:=by
  rcases h with(h | ⟨o,h⟩) | h
  ·exact .inl (.inl (k _ _ (by simp) h))
  ·exact .inl (.inr ⟨o,k _ _ (by simp) h⟩)
  ·exact .inr h
theorem jG.lst {p:Addr} {H:Hp} (x:jG H p):∃xs,H p=some (.lst xs):=by
  obtain⟨u1,u2,u3,u4⟩:=x;exact⟨_,u3⟩
theorem KN {pos:Pos} {qual:Str} {Pt p:Addr} {H H':Hp} (t:TabOk pos qual Pt H) (x:jG H p) (b:But p H H'):TabOk pos qual Pt H':=by
  obtain⟨xs,e⟩:=x.lst;exact t.but e b
theorem jG.keep {p:Addr} {H H':Hp} (x:jG H p) (s:Same H H'):jG H' p:=by
  obtain⟨u1,u2,u3,u4⟩:=x;exact⟨u1,u2,s _ _ u3,u4⟩
def rF (c:List Str) (e:Str×Str):Bool:=!decide (e.1∈c↔e.2∈c)
theorem uf (c:List Str):∀(ps:List (Str×Str)) (i:Nat),(lH (dY c) ps i).length=ps.countP (rF c)
  | [],_=>rfl
  | e::ps,i=>by
    have ih:=uf c ps (i+1);show(dY c e i++lH (dY c) ps (i+1)).length=_;rw[qmb,ih,List.countP_cons];unfold dY rF
    by_cases h:(e.1∈c↔e.2∈c)
    ·simp[h]
    ·simp[h];omega
def Turned (qs ps:List (Str×Str)):Prop:=qs.length=ps.length/\∀(i:Nat) e d,qs[i]? = some e->ps[i]? = some d->e=d\/e=(d.2,d.1)
theorem KQ {c:List Str} {qs ps:List (Str×Str)} (h:Turned qs ps):qs.countP (rF c)=ps.countP (rF c):=by
  have e:qs.map (rF c)=ps.map (rF c):=by
    refine List.ext_getElem (by simp[h.1]) λi h1 h2=>?_;rw[List.getElem_map,List.getElem_map];have i1:i<qs.length:=by simpa using h1
    have i2:i<ps.length:=by simpa using h2
    rcases h.2 i _ _ (qmg i1) (qmg i2) with z | z
    ·rw[z]
    ·rw[z];unfold rF;congr 1;rw[qm4,qmo,qmo];exact⟨λh=>h.symm,λh=>h.symm⟩
  have f:∀l:List (Str×Str),l.countP (rF c)=(l.map (rF c)).countP id:=λl=>by
    rw[List.countP_map];rfl
  rw[f,f,e]
theorem twice {c:List Str} {qs ps rs:List (Str×Str)} (h:Turned qs ps) (hp:rs.Perm (ps++qs)):(cu c rs).length=2 * (cu c ps).length:=by
  unfold cu;rw[uf,uf,hp.countP_eq,List.countP_append,KQ h];omega
theorem bA.app {H:Hp} {tv uv:List V} {ps qs:List (Str×Str)} (h:bA H tv ps) (k:bA H uv qs):bA H (tv++uv) (ps++qs):=by
  refine⟨by rw[qmb,qmb,h.1,k.1],λi v e h1 h2=>?_⟩
  by_cases hi:i<tv.length
  ·rw[ql9 hi] at h1;rw[ql9 (by rw[<- h.1];exact hi)] at h2;exact h.2 i v e h1 h2
  ·rw[qma (by omega)] at h1;rw[qma (by rw[<- h.1];omega),<- h.1] at h2;exact k.2 _ v e h1 h2
def KR (K:W.Frag) (Pt:Addr):Sp:=λvs H Q _=>∃(l:Addr) (ns:List Int),vs=[.ref l]/\aX K H l (ns.map V.int)/\ns.length<=63/\TabOk lamP ZL Pt H/\∀H',Q (.bl true) H'
theorem qe7 (T:Txt K mg a) {c Pt:Addr} (L:qcJ a.fX base mg c Pt):bN P w K mg base ig 11 a.Ad a.Ko ["_law_script"] (KR K Pt):=by
  exists T.qcQ.lK,vV
  ·obtain⟨l,ns,rfl,_⟩:=h;rfl
  . obtain⟨sl,zs,rfl,hS,hlen,hT,q⟩:=h;refine⟨_,(aC (jH qmU rfl (PI.eqv (uh rfl T.nm.range (aj (aM (CW rfl) rfl T.nm.max boot_max (aj aK (aj (aM (Qh rfl) rfl T.nm.min boot_min (aj aK (aj (aM (bO (K:=K) rfl) rfl T.nm.len ql8 (aj (aH 0) ao)) ao))) ao))) ao)) (um _)) (aJ (i:=1) vV.nd rfl (Or.inl rfl))
      (aC (bC (i:=2) vV.nd rfl (Or.inr rfl) (PE.eqv (aG (qeC T) hr.d rfl T.qcL T.Y_.kp T.qcK .nil aR (aj (aH 0) (aj (aH 1) ao))) (aF _ _ _)))
      (aC (bC (i:=3) vV.nd rfl (Or.inl rfl) (PE.eqv (aG (qeH T) hr.d rfl T.qcP T.Zb.kp T.qcO .nil aR (aj (aH 2) (aj (cR (dh (K:=K) rfl) (dX (aj aK (aj aK ao))) (PE.eqv (aG (iI T) hr.d rfl T.jQ T.jC.kp T.jP .nil aR (aj (aH 2) (aj aK ao))) (aF _ _ _)) (λ_ _=>rfl)) (aj aK ao)))) (aF _ _ _)))
      (aC (bC (i:=4) vV.nd rfl (Or.inl rfl) (PE.eqv (aG (ZX T) hr.d rfl T.SQ T.Kr.kp T.SN .nil aR (aj (aH 3) ao)) (aF _ _ _)))
      (aC (bC (i:=5) vV.nd rfl (Or.inl rfl) (bT xg (cR (dh (K:=K) rfl) (aH 3) aK (λ_ _=>rfl)) (bU rfl rfl (show aN (aA uR) _ ["_law_script", "_law_at", "_law_pot_here", "_law_web_here", "_law_least_here", "_law_ties", "_law_made"] ["_law_a", "_law_b"] [2] ["_law_a", "_law_b", "_law_pot_here"] from by rfl') rfl (PI.eqv (bB (K:=K) rfl (cR (dh (K:=K) rfl) (aH 3) aK (λ_ _=>rfl))) (bx _ _)) (λC s H fp pn=>(PG.eqv (cI (K:=K) (n:=2) rfl rfl (fP.eqv (aU (aJ (i:=0) (show(["_law_a", "_law_b", "_law_pot_here"]:List Str).Nodup by symm) rfl (Or.inl rfl)) (fP.eqv (aU (aJ (i:=1) (show(["_law_a", "_law_b", "_law_pot_here"]:List Str).Nodup by symm) rfl (Or.inl rfl)) (fP.mono cH eY)) (aV _ _))) (aV _ _))) (cM _ _ _))) (λC s H fp pn=>bM) (λC s H fp pn=>(cR (dh (K:=K) rfl) (dX (aj (iM (aj (aH 0) (aj (aH 1) ao))) (aj (iM (aj (aH 1) (aj (aH 0) ao))) ao))) (PE.eqv (aG (iI T) hr.d rfl T.jQ T.jC.kp T.jP .nil aR (aj (aH 2) (aj aK ao))) (aF _ _ _)) (λ_ _=>rfl))))))
      (aC (bC (i:=6) vV.nd rfl (Or.inl rfl) (PE.eqv (qaq T.qcS (NT T) hr.d rfl T.qcR T.Dz .nil aR (aj (cR (dh (K:=K) rfl) (aH 3) aK (λ_ _=>rfl)) (aj (PE.eqv (aG (Ef T) hr.d rfl T.Bq T.yD.kp T.Bp .nil aR (aj (aH 2) (aj (aH 5) ao))) (aF _ _ _)) ao))) (Yj _ _ _ _)))
      (aD (dJ (bh sX (aM (bO (K:=K) rfl) rfl T.nm.len ql8 (aj (cR (dh (K:=K) rfl) (aH 3) aK (λ_ _=>rfl)) ao)) aK (bK _)) (aC (dJ (bh oV (cR (dh (K:=K) rfl) (PE.eqv (aG (Gp (L:=L) (K:=K) T) hr.d rfl T.yu T.q_.kp T.yt .nil aR (aj (aH 6) (aj (PE.eqv (aG (rP T) hr.d rfl T.m9 T.jB.kp T.m8 .nil qgD (aj (aH 6) (aj (aH 4) ao))) (aF _ _ _)) ao))) (aF _ _ _)) aK (λ_ _=>rfl)) (aH 4) (bK _)) (aD (aZ pR)) bG)
      (aD (dJ (PW.pt (Io (bh oV (aH 4) aK (bK _)) (Bb (dI (cJ (PE.eqv (aG (Rb T) hr.d rfl T.HY T.zE.kp T.HX .nil aR (aj (aH 3) (aj (aH 6) (aj (bT jm (aH 4) aK) ao)))) (aF _ _ _))))))) (aD (aZ pR)) bG))) bG))))))))
      (aD (aZ pR))),?_⟩
    have Q8:600<sizeLine:=by decide
    left;refine⟨_,.inl hS,?_⟩;simp only[ql2];obtain⟨m,hm,hm6⟩:∃m:Nat,(if 1<if (zs.length:Int)<5 then (zs.length:Int) else 5 then if (zs.length:Int)<5 then (zs.length:Int) else 5 else 1)=m/\m<=5:=by
      by_cases h1:(zs.length:Int)<5
      . rw[if_pos h1]
        by_cases h2:1<(zs.length:Int)
        ·exact⟨zs.length,by rw[if_pos h2],by omega⟩
        ·exact⟨1,by rw[if_neg h2];rfl,by decide⟩
      ·rw[if_neg h1];exact⟨5,rfl,by decide⟩
    simp only[hm];refine⟨by omega,by omega,frR (λi σ H'=>(∃o1 o2 o3 o4 o5 o6,σ=[some (.ref sl),o1,o2,o3,o4,o5,o6])/\gM H H'/\TabOk lamP ZL Pt H') ⟨⟨_,_,_,_,_,_,rfl⟩,gM.of (Same.refl _),hT⟩ ?_ ?_⟩
    . rintro i σ H1 hi ⟨⟨o1,o2,o3,o4,o5,o6,rfl⟩,k1,hT1⟩;left;refine⟨sl,zs,i,rfl,k1.seq hS,by simp at hi;omega,λp H2 hp0 hP2 hB2=>?_⟩;have s2:Same H1 H2:=λb o e=>hB2 b o (aL e hp0) e;have hT2:=hT1.same s2;left;intro q3 hq3;have s3:Same H2 (upd H2 q3 (.lst [.int 9,.int 4])):=au hq3;have e3:upd H2 q3 (.lst [.int 9,.int 4]) q3=some (.lst [.int 9,.int 4]):=ak;have q3p:q3≠p:=(hP2.ne hq3).symm;have OJ:=hP2.keep s3;have hT3:=hT2.same s3;generalize upd H2 q3 (.lst [.int 9,.int 4])=H3 at s3 e3 OJ hT3 ⊢;refine⟨p,2,rfl,OJ,by decide,by decide,λd H4 hd0 hd1 Ku QK=>?_⟩;have hT4:=KN hT3 OJ QK;obtain⟨pm,hpm,pm1,pm9⟩:∃pm:Nat,Fl [V.int 9,V.int 4] d=some (.int (pm:Int))/\1<=pm/\pm<=9:=by
        obtain rfl | rfl:d=0\/d=1:=by omega
        ·exact⟨9,bH (j:=0) rfl,by decide,by decide⟩
        ·exact⟨4,bH (j:=1) rfl,by decide,by decide⟩
      left;refine⟨_,.inl (aX.of (QK _ _ q3p e3)),_,hpm,?_⟩;refine⟨p,pm,9,rfl,Ku,pm1,pm9,pm9,by decide,λt n l xs tv ps H5 ht0 hn0 hl0 ht1 hn1 hl1 Q_ hX hTs hxm hpk K_ S_=>?_⟩;have hT5:=KN hT4 Ku S_;have np:n≠p:=(Ku.ne hn0).symm;have lp:l≠p:=(Ku.ne hl0).symm;have tp:t≠p:=(Ku.ne ht0).symm;have l9:=hX.len;have tl:=Q_.1;have qkF:But p H2 H5:=((But.of s3).trans QK).trans S_;have keep:∀{H6 H7},But p H5 H6->gM H6 H7->gM H H7:=λb k c o n e=>k c o n (b c o (aL (k1 _ _ n e) hp0) (qkF c o (aL (k1 _ _ n e) hp0) (s2 c o (k1 _ _ n e))));have g2:∀e∈ps,e.1∈xs/\e.2∈xs:=λe he=>⟨(hTs.ok e he).1,(hTs.ok e he).2.1⟩;have hG5:jT H5 t n l xs tv ps:=⟨ht1,hn1,hl1,Q_,hX,hTs⟩;left;refine⟨t,n,l,xs,tv,ps,rfl,hG5,λlm H6 hlm hmin s6=>?_⟩;have hG6:=hG5.same s6;have O1:=K_.keep s6;have hT6:=hT5.same s6;left;refine⟨_,.inr (dO.of hG6.1),_,bH (j:=1) rfl,?_⟩;refine⟨_,.inr (dO.of hG6.1),_,bH (j:=1) rfl,?_⟩;left;refine⟨⟨_,aX.of hG6.2.2.1⟩,λD hD=>K7 tv (λj σ H'=>(∃o0 o1,σ=[o0,o1,some (.ref p)])/\(∃uv qs,H' D=some (.lst uv)/\bA H' uv qs/\Turned qs (ps.take j))/\jG H' p/\But p H6 H') ⟨⟨_,_,rfl⟩,⟨[],[],ak,⟨rfl,by simp⟩,⟨rfl,by simp⟩⟩,O1.upd (O1.ne hD),(But.refl _ _).new hD⟩ (λj σ H' _ h=>aX.of (h.2.2.2 _ _ lp hG6.2.2.1)) ?_ ?_⟩
      . rintro j v σ H7 hj ⟨⟨o0,o1,rfl⟩,⟨uv,qs,VJ,huv,htu⟩,Tc,QS⟩;obtain⟨e,he,t2,rfl,wC⟩:=(hG6.2.2.2.1.but O1 QS).at hj;have hj2:j<ps.length:=(qlT.mp he).1;have hql:=htu.1;rw[ql7] at hql;have V8:=huv.1;have Dp:D≠p:=O1.nl hD;left;refine⟨_,dO.of wC,rfl,?_⟩;left;intro p1 h1;exists H7,p1,(.tup [.str e.1,.str e.2]),s8,e8,H8,h1;intro p2 h2;exists H8,p2,(.tup [.str e.2,.str e.1]),s9,e9,H9,h2;intro p3 h3;exists H9,p3,(.lst [.ref p1,.ref p2]),z8,e10,H10,h3;have S10:=s8.trans (s9.trans z8);have qb3:=Tc.keep S10;have p3p:p3≠p:=((Tc.keep (s8.trans s9)).ne h3).symm;refine⟨p,2,rfl,qb3,by decide,by decide,λd' H11 qlM hd1' qkG V0=>?_⟩;have qhf:=V0 _ _ Dp (S10 _ _ VJ);obtain⟨pp,e',a1,hpp,k3⟩:∃(pp:Addr) (e':Str×Str),Fl [V.ref p1,V.ref p2] d'=some (.ref pp)/\H11 pp=some (.tup [.str e'.1,.str e'.2])/\(e'=e\/e'=(e.2,e.1)):=by
          obtain rfl | rfl:d'=0\/d'=1:=by omega
          ·exact⟨p1,e,bH (j:=0) rfl,V0 _ _ (qb3.qe6 ((s9.trans z8) _ _ e8) (by simp)) ((s9.trans z8) _ _ e8),.inl rfl⟩
          ·exact⟨p2,(e.2,e.1),bH (j:=1) rfl,V0 _ _ (qb3.qe6 (z8 _ _ e9) (by simp)) (z8 _ _ e9),.inr rfl⟩
        have kp:d7 H11 (upd H11 D (.lst (uv++[.ref pp]))):=λc zs e=>wN e qhf (by intro z;cases z);left;refine⟨_,.inl (aX.of (V0 _ _ p3p e10)),_,a1,_,qhf,by omega,⟨_,ak,qs++[e'],(((huv.same S10).but qb3 V0).keep kp).snoc (kp _ _ hpp),?_⟩,qkG.upd Dp.symm,((QS.same S10).trans V0).new hD⟩;refine⟨by rw[qmb,htu.1,ql7,ql7];simp;omega,λi e1 d1 g1 g2=>?_⟩
        by_cases hi:i<qs.length
        ·rw[ql9 hi] at g1;refine htu.2 i e1 d1 g1 ?_;rw[qnv (by omega)] at g2 ⊢;exact g2
        . have i0:i=qs.length:=by
            have:=(qlT.mp g1).1;rw[qmb] at this;simp at this;omega
          rw[i0,qma (qlY _),Nat.sub_self] at g1;rw[i0,qnv (by omega),show qs.length=j by omega,he] at g2;cases g1;cases g2;exact k3
      . rintro σ H7 ⟨⟨o0,o1,rfl⟩,⟨uv,qs,VJ,huv,htu⟩,Tc,QS⟩;rw[tl,ql4] at htu;have hG7:=hG6.but O1 QS np lp;have hT7:=KN hT6 O1 QS;have V8:=huv.1;have hql:=htu.1;have h9':ps.length<=9:=hpk;left;refine⟨_,hG7.2.2.1,_,VJ,by omega,λr8 hr8=>?_⟩;have s8:Same H7 (upd H7 r8 (.lst (tv++uv))):=au hr8;have e8:upd H7 r8 (.lst (tv++uv)) r8=some (.lst (tv++uv)):=ak;have r8p:r8≠p:=(Tc.ne hr8).symm;have hP8:=Tc.keep s8;have hT8:=hT7.same s8;have hG8:=hG7.same s8;have hu8:=(hG7.2.2.2.1.app huv).same s8;generalize upd H7 r8 (.lst (tv++uv))=H8 at s8 e8 hP8 hT8 hG8 hu8 ⊢;refine⟨_,.inr (dO.of hG8.1),_,bH (j:=0) rfl,?_⟩;refine⟨p,r8,_,rfl,hP8,r8p,e8,by rw[qmb];omega,λr9 ys H9 hr9 e9 hperm hP9 hB9=>?_⟩;obtain⟨rs,hrs,Kv⟩:=(hu8.but hP8 hB9).perm hperm;have hG9:=hG8.but hP8 hB9 np lp;have hT9:=KN hT8 hP8 hB9;have hTr:wg xs rs:=⟨by rw[Kv.length_eq,qmb];omega,λe he=>by
          rcases qmh.mp (Kv.mem_iff.mp he) with h | h
          ·exact hTs.ok e h
          . obtain⟨i,hi,rfl⟩:=qoe.mp h;have h2:i<ps.length:=by omega
            have h3:=hTs.ok _ (qog h2)
            rcases htu.2 i _ _ (qmg hi) (qmg h2) with z | z
            ·rw[z];exact h3
            ·rw[z];exact⟨h3.2.1,h3.1,qnx h3.2.2⟩⟩
        have hcr:∀c,(cu c rs).length=2 * (cu c ps).length:=λc=>twice htu Kv;left;intro o dx ho hdx qlN;have so:Same H9 (upd (upd H9 dx (.own o)) o (.ins a.bD dx [])):=λb u e=>by
          rw[aB (aL e ho),aB (aL e hdx)];exact e
        have hpr:oF H9 ys rs:=⟨hrs.1,λi v e h1 h2=>by
          obtain⟨t,rfl,z⟩:=hrs.2 i v e h1 h2;exact⟨t,rfl,.inr z⟩⟩
        refine⟨o,dx,n,r9,ys,xs,rs,rfl,ak,.inl (so _ _ e9),hpr.same so,.inl (so _ _ hG9.2.1),hX,hTr,λH10 qe8 qkH=>⟨rfl,?_⟩⟩;have z8:Same H9 H10:=λb u e=>qkH b u (aL e ho) (so b u e);have qe9:=hG9.same z8;have qhg:=hT9.same z8;have qe_:But p H5 H9:=((((But.of s6).trans QS).same s8).trans hB9);left;refine⟨_,.inr (dO.of qe9.1),_,bH (j:=0) rfl,_,.inl (aX.of qe9.2.1),?_⟩;rw[ql2];refine fj.of (λhx=>?_) (λhx=>?_)
        . have hx2:2<=xs.length:=by have:=qmn hx;omega
          have qhh:cG xs≠[]:=λz=>by
            have:=qj xs;rw[z] at this;have p2:2 ^ 2<=2 ^ xs.length:=qmL (by decide) hx2;simp at this;omega
          obtain⟨c0,hc0,qhi⟩:∃c∈cG xs,(cu c ps).length=lm:=hlm.resolve_right λz=>qhh z.1;have qkI:lm<=9:=by
            have:=sU (vH c0) ps 0;unfold cu at qhi;omega
          left;refine⟨o,xs,rs,lm,rfl,qe8,hX,hTr,qkI,λhth r11 ns H11 qlO e11 hnl h01 hin K9=>?_,λj c dx b H' hc hlt=>?_⟩
          . have qhj:=qhg.same K9;left;refine⟨o,r11,xs,rs,ns,rfl,⟨qe8.same K9,.inl e11,h01,hnl,hTr.len⟩,by omega,l9.2,qhj,λh1=>by omega,λr12 t12 bi H12 hbest qlP qlQ e12 qlR qkJ qhk=>?_⟩;have qb4:=qb2 qhj qkJ;have hbi:(lm:Int)<=wu xs ns rs bi:=by
              have:=hin _ (qlX (uK hbest.1));unfold wu;omega
            left;refine⟨_,.inr (dO.of e12),_,bH (j:=0) rfl,?_⟩;left;refine fj.neg (qmA (by omega)) ?_;have qkK:=qb4.goals (qe9.same K9);have qkL:=qb4.web (qe8.same K9);left;refine fj.of (λhlt=>?_) (λhlt=>?_)
            . have hlt':=qmn hlt;left;refine⟨t,n,l,o,xs,tv,ps,rs,lm+1,rfl,qkK,qkL,hTr,by omega,⟨c0,hc0,by rw[hcr,qhi];omega⟩,λc hc h=>?_,λH13 s13=>?_⟩
              ·have:=hmin c hc;rw[hcr] at h;omega
              ·left;exact⟨keep qe_ ((gM.of (z8.trans K9)).trans (qb4.trans (gM.of s13))),qhk.same s13⟩
            ·left;exact⟨keep qe_ ((gM.of (z8.trans K9)).trans qb4),qhk⟩
          ·have h1:=hmin c (qlX hc);rw[hcr] at hlt;omega
        ·left;exact⟨keep qe_ (gM.of z8),qhg⟩
    ·rintro σ H1 ⟨⟨o1,o2,o3,o4,o5,o6,rfl⟩,s1⟩;left;exact q _
end K75
namespace K75
open PySem L2
theorem unc {α:Type} {n:Nat} (l:List α) (h:l.length=n+1):∃a r,l=a::r:=by
  cases l with
  | nil=>cases h
  | cons a r=>exact⟨a,r,rfl⟩
theorem h_ {fd:FuncData} {ps:List Str} (h:∀v0,bindArgs fd {pos:=[v0]}=pure (ps.zip [v0])):∀us:List Value,us.length=1->bindArgs fd {pos:=us}=pure (ps.zip us):=by
  intro us hl;obtain⟨v0,us,rfl⟩:=unc us hl;replace hl:=qnH hl;obtain rfl:=qm1 hl;exact h v0
theorem cB {fd:FuncData} {ps:List Str} (h:∀v0 v1,bindArgs fd {pos:=[v0,v1]}=pure (ps.zip [v0,v1])):∀us:List Value,us.length=2->bindArgs fd {pos:=us}=pure (ps.zip us):=by
  intro us hl;obtain⟨v0,us,rfl⟩:=unc us hl;replace hl:=qnH hl;obtain⟨v1,us,rfl⟩:=unc us hl;replace hl:=qnH hl;obtain rfl:=qm1 hl;exact h v0 v1
theorem wA {fd:FuncData} {ps:List Str} (h:∀v0 v1 v2,bindArgs fd {pos:=[v0,v1,v2]}=pure (ps.zip [v0,v1,v2])):∀us:List Value,us.length=3->bindArgs fd {pos:=us}=pure (ps.zip us):=by
  intro us hl;obtain⟨v0,us,rfl⟩:=unc us hl;replace hl:=qnH hl;obtain⟨v1,us,rfl⟩:=unc us hl;replace hl:=qnH hl;obtain⟨v2,us,rfl⟩:=unc us hl;replace hl:=qnH hl;obtain rfl:=qm1 hl;exact h v0 v1 v2
theorem qfa {fd:FuncData} {ps:List Str} (h:∀v0 v1 v2 v3,bindArgs fd {pos:=[v0,v1,v2,v3]}=pure (ps.zip [v0,v1,v2,v3])):∀us:List Value,us.length=4->bindArgs fd {pos:=us}=pure (ps.zip us):=by
  intro us hl;obtain⟨v0,us,rfl⟩:=unc us hl;replace hl:=qnH hl;obtain⟨v1,us,rfl⟩:=unc us hl;replace hl:=qnH hl;obtain⟨v2,us,rfl⟩:=unc us hl;replace hl:=qnH hl;obtain⟨v3,us,rfl⟩:=unc us hl;replace hl:=qnH hl;obtain rfl:=qm1 hl;exact h v0 v1 v2 v3
theorem all_mk {l:W.OpenLaw} {w:World} {K:W.Frag} {h:Heap} {mg:Str->Option Value} {fa bD aY bR d8 gW gC iY d9 kJ gD fJ cW fK fL fC dj kO fD gF dw gG kW dz eE iZ dB bQ kY eF kZ k_ cP eG tK dD dF eN dG cF bF cX lg eO cQ Aa tM ou oA Ab Ac tO lq eU oE i_ Ad:Addr} (X:K.In h) (G:h.Ns mainGlobals mg) (hfa:mg "law" = some (.ref fa))
    {fd1 fd2 fd3 fd4 fd5 fd6 fd7 fd8 fd9 qhl qhm qhn qho qhp qhq qhr qhs qht qhu qhv qhw qhx qhy qhz qhA qhB qhC qhD qhE qhF qhG qhH qhI qhJ qhK qhL qhM qhN qhO qhP qhQ qhR qhS qhT qhU qhV qhW qhX qhY qhZ qh0:FuncData}
    {qkM qh1 qkN qh2:Option Addr} {qkO qkP:Array (Option Value)} {qkQ qh3 qh4 qh5 qb5 qh6 qkR qh7 qh8 qh9 qfb qh_:Value} {wB lQ nu rG pH:Tok}
    {vq KY:ClassData} {qb6 qb7:Str} {qfc:Addr} {qb8 Z0:List Value} {qb9 qb_:Bool} {qca:List Str} {Z1:Option Bool} {qcb:Option Addr} {qcc qcd qce qcf qcg:Option Value}
    (Rf:W.nsIn K mainGlobals "Web" = some (some (.ref bD)))
    (pI:W.nsIn K mainGlobals "PointError" = some (some (.ref aY)))
    (KZ:W.nsIn K mainGlobals "Thin" = some (some (.ref bR)))
    (a1:W.findIn K (.ref bR) "__init__" = some (some (.ref d8))) (i1:W.isFn K (.ref d8)=true)
    (F1:cD K "__init__" "Thin.__init__" sZ d8 fd1)
    (a2:W.nsIn K mainGlobals "is_list" = some (some (.ref gW)))
    (F2:cD K "is_list" "is_list" zu gW fd2)
    (a3:W.nsIn K mainGlobals "is_whole" = some (some (.ref gC)))
    (F3:cD K "is_whole" "is_whole" vP gC fd3)
    (a4:W.nsIn K mainGlobals "is_name" = some (some (.ref iY)))
    (F4:cD K "is_name" "is_name" uq iY fd4)
    (a5:W.nsIn K mainGlobals "are_points" = some (some (.ref d9)))
    (F5:cD K "are_points" "are_points" mz d9 fd5)
    (a6:W.nsIn K mainGlobals "is_tie" = some (some (.ref kJ)))
    (F6:cD K "is_tie" "is_tie" xM kJ fd6)
    (a7:W.nsIn K mainGlobals "are_ties" = some (some (.ref gD)))
    (F7:cD K "are_ties" "are_ties" qG gD fd7)
    (a8:W.findIn K (.ref bD) "__init__" = some (some (.ref fJ))) (i8:W.isFn K (.ref fJ)=true)
    (F8:cD K "__init__" "Web.__init__" qH fJ fd8)
    (a9:W.findIn K (.ref bD) "points" = some (some (.ref cW))) (i9:W.isFn K (.ref cW)=true)
    (F9:cD K "points" "Web.points" qI cW fd9)
    (a10:W.findIn K (.ref bD) "ties" = some (some (.ref fK))) (i10:W.isFn K (.ref fK)=true)
    (F10:cD K "ties" "Web.ties" vQ fK qhl)
    (a11:W.findIn K (.ref bD) "many" = some (some (.ref fL))) (i11:W.isFn K (.ref fL)=true)
    (F11:cD K "many" "Web.many" vR fL qhm)
    (a12:W.nsIn K mainGlobals "is_number" = some (some (.ref fC)))
    (F12:cD K "is_number" "is_number" tu fC qhn)
    (a13:W.nsIn K mainGlobals "are_numbers" = some (some (.ref dj)))
    (F13:cD K "are_numbers" "are_numbers" jU dj qho)
    (a14:W.nsIn K mainGlobals "lot_of" = some (some (.ref kO)))
    (F14:cD K "lot_of" "lot_of" tD kO qhp)
    (a15:W.nsIn K mainGlobals "all_parts" = some (some (.ref fD)))
    (F15:cD K "all_parts" "all_parts" nR fD qhq)
    (a16:W.nsIn K mainGlobals "all_lots" = some (some (.ref gF)))
    (F16:cD K "all_lots" "all_lots" vU gF qhr)
    (a17:W.nsIn K mainGlobals "ties_inside" = some (some (.ref dw)))
    (F17:cD K "ties_inside" "ties_inside" jV dw qhs)
    (a18:W.nsIn K mainGlobals "crossing" = some (some (.ref gG)))
    (F18:cD K "crossing" "crossing" qJ gG qht)
    (a19:W.nsIn K mainGlobals "within" = some (some (.ref kW)))
    (F19:cD K "within" "within" Dh kW qhu)
    (a20:W.nsIn K mainGlobals "steps_along" = some (some (.ref dz)))
    (F20:cD K "steps_along" "steps_along" oW dz qhv)
    (a21:W.nsIn K mainGlobals "ways_along" = some (some (.ref eE)))
    (F21:cD K "ways_along" "ways_along" qK eE qhw)
    (a22:W.nsIn K mainGlobals "is_lead" = some (some (.ref iZ)))
    (F22:cD K "is_lead" "is_lead" zx iZ qhx)
    (a23:W.nsIn K mainGlobals "is_pointing" = some (some (.ref dB)))
    (F23:cD K "is_pointing" "is_pointing" jW dB qhy)
    (a24:W.nsIn K mainGlobals "sure_of_pointing" = some (some (.ref bQ)))
    (F24:cD K "sure_of_pointing" "sure_of_pointing" iR bQ qhz)
    (a25:W.nsIn K mainGlobals "arrows" = some (some (.ref kY)))
    (F25:cD K "arrows" "arrows" Di kY qhA)
    (a26:W.nsIn K mainGlobals "steps_into" = some (some (.ref eF)))
    (F26:cD K "steps_into" "steps_into" mC eF qhB)
    (a27:W.nsIn K mainGlobals "turned" = some (some (.ref kZ)))
    (F27:cD K "turned" "turned" xO kZ qhC)
    (a28:W.nsIn K mainGlobals "ins_of" = some (some (.ref k_)))
    (F28:cD K "ins_of" "ins_of" tE k_ qhD)
    (a29:W.nsIn K mainGlobals "weighed_lots" = some (some (.ref cP)))
    (F29:cD K "weighed_lots" "weighed_lots" jo cP qhE)
    (a30:W.nsIn K mainGlobals "is_over_by" = some (some (.ref eG)))
    (F30:cD K "is_over_by" "is_over_by" mD eG qhF)
    (a31:W.nsIn K mainGlobals "gaps" = some (some (.ref tK)))
    (F31:cD K "gaps" "gaps" Dj tK qhG)
    (a32:W.nsIn K mainGlobals "sure_of_ins" = some (some (.ref dD)))
    (F32:cD K "sure_of_ins" "sure_of_ins" jX dD qhH)
    (a33:W.nsIn K mainGlobals "way_between" = some (some (.ref dF)))
    (F33:cD K "way_between" "way_between" oX dF qhI)
    (a34:W.nsIn K mainGlobals "refuse_ins" = some (some (.ref eN)))
    (F34:cD K "refuse_ins" "refuse_ins" qL eN qhJ)
    (a35:W.nsIn K mainGlobals "pointing_of" = some (some (.ref dG)))
    (F35:cD K "pointing_of" "pointing_of" oY dG qhK)
    (a36:W.nsIn K mainGlobals "sure_of_times" = some (some (.ref cF)))
    (F36:cD K "sure_of_times" "sure_of_times" lM cF qhL)
    (a37:W.nsIn K mainGlobals "sure_of_thick_lots" = some (some (.ref bF)))
    (F37:cD K "sure_of_thick_lots" "sure_of_thick_lots" gA bF qhM)
    (a38:W.nsIn K mainGlobals "times_over" = some (some (.ref cX)))
    (l38:K.lookup cX=some ⟨qkQ,qkM,.func (W.fnOf "times_over" "times_over" (nA cN) (gQ cN) (aA cN) .none qh3 qh4 qh5 qh1 qb5 qh6),qkO⟩) (c38:W.codeIn K qb5 "times_over" = true) (k38:W.keepIn K (.ref cX)=true)
    (a39:W.nsIn K mainGlobals "halves" = some (some (.ref lg)))
    (F39:cD K "halves" "halves" Dk lg qhN)
    (a40:W.nsIn K mainGlobals "halved_ins" = some (some (.ref eO)))
    (F40:cD K "halved_ins" "halved_ins" gV eO qhO)
    (a41:W.nsIn K mainGlobals "pointed_over" = some (some (.ref cQ)))
    (F41:cD K "pointed_over" "pointed_over" jq cQ qhP)
    (a42:W.nsIn K mainGlobals "_law_pot" = some (some (.ref Aa)))
    (F42:cD K "_law_pot" "_law_pot" Y6 Aa qhQ)
    (a43:W.nsIn K mainGlobals "_law_take" = some (some (.ref tM)))
    (F43:cD K "_law_take" "_law_take" Qw tM qhR)
    (a44:W.nsIn K mainGlobals "_law_names" = some (some (.ref ou)))
    (F44:cD K "_law_names" "_law_names" Bh ou qhS)
    (a45:W.nsIn K mainGlobals "_law_mixed" = some (some (.ref oA)))
    (F45:cD K "_law_mixed" "_law_mixed" Kc oA qhT)
    (a46:W.nsIn K mainGlobals "_law_tie" = some (some (.ref Ab)))
    (F46:cD K "_law_tie" "_law_tie" Y7 Ab qhU)
    (a47:W.nsIn K mainGlobals "_law_web" = some (some (.ref Ac)))
    (F47:cD K "_law_web" "_law_web" HF Ac qhV)
    (a48:W.nsIn K mainGlobals "_law_lots" = some (some (.ref tO)))
    (F48:cD K "_law_lots" "_law_lots" Kd tO qhW)
    (a49:W.nsIn K mainGlobals "_law_is_lot" = some (some (.ref lq)))
    (F49:cD K "_law_is_lot" "_law_is_lot" tG lq qhX)
    (a50:W.nsIn K mainGlobals "_law_crossing" = some (some (.ref eU)))
    (F50:cD K "_law_crossing" "_law_crossing" mF eU qhY)
    (a51:W.nsIn K mainGlobals "_law_least" = some (some (.ref oE)))
    (F51:cD K "_law_least" "_law_least" Bj oE qhZ)
    (a52:W.nsIn K mainGlobals "_law_refused" = some (some (.ref i_)))
    (F52:cD K "_law_refused" "_law_refused" zy i_ qh0)
    (a53:W.nsIn K mainGlobals "law" = some (some (.ref Ad)))
    (l53:K.lookup Ad=some ⟨qkR,qkN,.func (W.fnOf "law" "law" (nA uR) (gQ uR) (aA uR) .none qh7 qh8 qh9 qh2 qfb qh_),qkP⟩) (c53:W.codeIn K qfb "law" = true) (k53:W.keepIn K (.ref Ad)=true)
    (jN:W.nsIn K mainGlobals "LETTERS" = some (some (.str "abcdefghijklmnopqrstuvwxyz" wB)))
    (dM:W.nsIn K mainGlobals "MOST_LETTERS" = some (some (.int 4 lQ)))
    (eZ:W.nsIn K mainGlobals "MOST_POINTS" = some (some (.int 9 nu)))
    (gH:W.nsIn K mainGlobals "MOST_TIES" = some (some (.int 20 rG)))
    (fM:W.nsIn K mainGlobals "MOST_TIMES" = some (some (.int 9 pH)))
    (Rg:W.plainGet K bD Str.empty=true) (Rh:W.hasDictIn K bD=true) (Ri:W.plainOver K bD=true) (Rj:W.findIn K (.ref bD) "__setattr__" = some (some (.builtin "object.__setattr__"))) (Rk:W.makesIn K bD=true) (Rm:W.keepIn K (.ref bD)=true)
    (Fe:W.findIn K (.ref bD) "names" = some none)
    (Fg:W.findIn K (.ref bD) "pairs" = some none)
    (Z2:W.nsIn K mainGlobals "len" = some none)
    (Z4:W.nsIn K mainGlobals "max" = some none)
    (Z5:W.nsIn K mainGlobals "min" = some none)
    (Z6:W.nsIn K mainGlobals "abs" = some none)
    (Fi:W.nsIn K mainGlobals "divmod" = some none)
    (K1:W.nsIn K mainGlobals "range" = some none)
    (Z7:W.nsIn K mainGlobals "zip" = some none)
    (Rn:W.nsIn K mainGlobals "list" = some none)
    (K3:W.nsIn K mainGlobals "tuple" = some none)
    (Z8:W.nsIn K mainGlobals "int" = some none)
    (Z9:W.nsIn K mainGlobals "str" = some none)
    (Z_:W.nsIn K mainGlobals "set" = some none)
    (qaa:W.nsIn K mainGlobals "all" = some none)
    (rH:W.nsIn K mainGlobals "isinstance" = some none)
    (ug:W.nsIn K mainGlobals "enumerate" = some none)
    (qab:W.nsIn K mainGlobals "any" = some none)
    (Ro:W.nsIn K mainGlobals "dict" = some none)
    (Fj:W.nsIn K mainGlobals "sorted" = some none)
    (Rp:W.nsIn K mainGlobals "repr" = some none)
    (Rq:W.nsIn K mainGlobals "bool" = some none)
    (qac:W.nsIn K mainGlobals "sum" = some none)
    (pJ:W.clsIn K aY=some vq) (pK:vq.mro=[.ref aY,.type "ValueError",.type "Exception",.type "BaseException",.type "object"]) (pL:W.typeIn K (.ref aY)=some (.type "type"))
    (Bs:W.clsIn K bR=some KY) (Bt:KY.mro=[.ref bR,.ref aY,.type "ValueError",.type "Exception",.type "BaseException",.type "object"]) (Bu:W.typeIn K (.ref bR)=some (.type "type"))
    (gZ:W.excIn K aY nQ "ValueError.__new__" = true)
    (pO:W.isClsIn K aY=true) (qfd:W.specialIn K (.ref aY) "__getattribute__" = some (some (.builtin "type.__getattribute__"))) (qfe:W.readsIn K aY (.type "type")=true) (qff:W.findCls K (.ref aY) (.type "type") "__init__" = some (.val (.builtin "ValueError.__init__")))
    (Ny:W.specialIn K (.builtin "object.__class__") "__get__" = some (some (.builtin "getset_descriptor.__get__"))) (Nz:W.takesIn K (.builtin "object.__class__")=some true)
    (Rr:J0 [aY,bR]=true)
    (Bv:KY.hasDict=true) (Bw:W.findIn K (.ref bR) "__getattribute__" = some (some (.builtin "BaseException.__getattribute__"))) (Bx:W.findIn K (.ref bR) "__getattr__" = some none) (BJ:W.findIn K (.ref bR) "__class__" = some (some (.builtin "object.__class__"))) (yM:W.keepIn K (.ref bR)=true)
    (K4:K.lookup bR=some (excClassObj qb6 qb7 bR qfc qb8 [.ref aY,.type "ValueError",.type "Exception",.type "BaseException",.type "object"] qb9 qca Z0 qb_ Z1 qcb qcc qcd qce qcf qcg "ValueError.__new__")) (K5:W.findIn K (.ref bR) "__setattr__" = some (some (.builtin "object.__setattr__")))
    (gK:W.findIn K (.ref bR) "lot" = some none)
    (jD:W.nsIn K mainGlobals "ValueError" = some none)
    {cL PL:Addr} (cdl:qb5=Value.ref cL)
    : ∃fd:FuncData,(∀(s:Shared) (v:Value),BindsTo s fd ⟨[v],[]⟩ [("_law_script",v)])/\∀base:Heap,K.In base->base.Ns mainGlobals mg->W.CodeHd base cL PL->base.BuiltinsAt mg PL->bN l.prog w K mg base ig 11 fa fd ["_law_script"] (KR K PL):=by
  have e:=hfa.symm.trans (qmv X G a53);cases e;have b1:=F1.binds (ps:=["self", "lot"]) λ_ _ _ _ _ _=>cB λ_ _=>rfl;have b2:=F2.binds (ps:=["thing"]) λ_ _ _ _ _ _=>h_ λ_=>rfl;have b3:=F3.binds (ps:=["thing"]) λ_ _ _ _ _ _=>h_ λ_=>rfl;have b4:=F4.binds (ps:=["thing"]) λ_ _ _ _ _ _=>h_ λ_=>rfl;have b5:=F5.binds (ps:=["thing"]) λ_ _ _ _ _ _=>h_ λ_=>rfl;have b6:=F6.binds (ps:=["thing", "points"]) λ_ _ _ _ _ _=>cB λ_ _=>rfl;have b7:=F7.binds (ps:=["thing", "points"]) λ_ _ _ _ _ _=>cB λ_ _=>rfl;have b8:=F8.binds (ps:=["self", "points", "ties"]) λ_ _ _ _ _ _=>wA λ_ _ _=>rfl;have b9:=F9.binds (ps:=["self"]) λ_ _ _ _ _ _=>h_ λ_=>rfl;have b10:=F10.binds (ps:=["self"]) λ_ _ _ _ _ _=>h_ λ_=>rfl;have b11:=F11.binds (ps:=["self"]) λ_ _ _ _ _ _=>h_ λ_=>rfl;have b12:=F12.binds (ps:=["web", "thing"]) λ_ _ _ _ _ _=>cB λ_ _=>rfl;have b13:=F13.binds (ps:=["web", "thing"]) λ_ _ _ _ _ _=>cB λ_ _=>rfl;have b14:=F14.binds (ps:=["web", "points"]) λ_ _ _ _ _ _=>cB λ_ _=>rfl;have b15:=F15.binds (ps:=["points"]) λ_ _ _ _ _ _=>h_ λ_=>rfl;have b16:=F16.binds (ps:=["web"]) λ_ _ _ _ _ _=>h_ λ_=>rfl;have b17:=F17.binds (ps:=["web", "part"]) λ_ _ _ _ _ _=>cB λ_ _=>rfl;have b18:=F18.binds (ps:=["web", "lot"]) λ_ _ _ _ _ _=>cB λ_ _=>rfl;have b19:=F19.binds (ps:=["web", "lot"]) λ_ _ _ _ _ _=>cB λ_ _=>rfl;have b20:=F20.binds (ps:=["web", "fixed"]) λ_ _ _ _ _ _=>cB λ_ _=>rfl;have b21:=F21.binds (ps:=["start", "steps"]) λ_ _ _ _ _ _=>cB λ_ _=>rfl;have b22:=F22.binds (ps:=["thing"]) λ_ _ _ _ _ _=>h_ λ_=>rfl;have b23:=F23.binds (ps:=["web", "thing"]) λ_ _ _ _ _ _=>cB λ_ _=>rfl;have b24:=F24.binds (ps:=["web", "thing"]) λ_ _ _ _ _ _=>cB λ_ _=>rfl;have b25:=F25.binds (ps:=["web", "pointing"]) λ_ _ _ _ _ _=>cB λ_ _=>rfl;have b26:=F26.binds (ps:=["steps", "lot"]) λ_ _ _ _ _ _=>cB λ_ _=>rfl;have b27:=F27.binds (ps:=["web", "pointing", "numbers"]) λ_ _ _ _ _ _=>wA λ_ _ _=>rfl;have b28:=F28.binds (ps:=["web", "pointing"]) λ_ _ _ _ _ _=>cB λ_ _=>rfl;have b29:=F29.binds (ps:=["web"]) λ_ _ _ _ _ _=>h_ λ_=>rfl;have b30:=F30.binds (ps:=["weighed", "ins", "k"]) λ_ _ _ _ _ _=>wA λ_ _ _=>rfl;have b31:=F31.binds (ps:=["web", "ins", "wanted"]) λ_ _ _ _ _ _=>wA λ_ _ _=>rfl;have b32:=F32.binds (ps:=["web", "thing"]) λ_ _ _ _ _ _=>cB λ_ _=>rfl;have b33:=F33.binds (ps:=["steps", "starts", "ends"]) λ_ _ _ _ _ _=>wA λ_ _ _=>rfl;have b34:=F34.binds (ps:=["web", "steps", "lacking", "spare"]) λ_ _ _ _ _ _=>qfa λ_ _ _ _=>rfl;have b35:=F35.binds (ps:=["web", "ins"]) λ_ _ _ _ _ _=>cB λ_ _=>rfl;have b36:=F36.binds (ps:=["thing", "least"]) λ_ _ _ _ _ _=>cB λ_ _=>rfl;have b37:=F37.binds (ps:=["web", "k"]) λ_ _ _ _ _ _=>cB λ_ _=>rfl;have F38:=Pk (st:=cN) l38 c38 k38;have b38:=F38.binds (ps:=["web", "pointing"]) λ_ _ _ _ _ _=>cB λ_ _=>rfl;have b39:=F39.binds (ps:=["many"]) λ_ _ _ _ _ _=>h_ λ_=>rfl;have b40:=F40.binds (ps:=["web"]) λ_ _ _ _ _ _=>h_ λ_=>rfl;have b41:=F41.binds (ps:=["web", "k"]) λ_ _ _ _ _ _=>cB λ_ _=>rfl;have b42:=F42.binds (ps:=["_law_script", "_law_k"]) λ_ _ _ _ _ _=>cB λ_ _=>rfl;have b43:=F43.binds (ps:=["_law_pot_here", "_law_many"]) λ_ _ _ _ _ _=>cB λ_ _=>rfl;have b44:=F44.binds (ps:=["_law_pot_here", "_law_many"]) λ_ _ _ _ _ _=>cB λ_ _=>rfl;have b45:=F45.binds (ps:=["_law_pot_here", "_law_things"]) λ_ _ _ _ _ _=>cB λ_ _=>rfl;have b46:=F46.binds (ps:=["_law_pot_here", "_law_names_here"]) λ_ _ _ _ _ _=>cB λ_ _=>rfl;have b47:=F47.binds (ps:=["_law_pot_here", "_law_points", "_law_most"]) λ_ _ _ _ _ _=>wA λ_ _ _=>rfl;have b48:=F48.binds (ps:=["_law_names_here"]) λ_ _ _ _ _ _=>h_ λ_=>rfl;have b49:=F49.binds (ps:=["_law_web_here", "_law_lot"]) λ_ _ _ _ _ _=>cB λ_ _=>rfl;have b50:=F50.binds (ps:=["_law_web_here", "_law_lot"]) λ_ _ _ _ _ _=>cB λ_ _=>rfl;have b51:=F51.binds (ps:=["_law_web_here"]) λ_ _ _ _ _ _=>h_ λ_=>rfl;have b52:=F52.binds (ps:=["_law_web_here", "_law_made", "_law_k"]) λ_ _ _ _ _ _=>wA λ_ _ _=>rfl;have F53:=Pk (st:=uR) l53 c53 k53;have b53:=F53.binds (ps:=["_law_script"]) λ_ _ _ _ _ _=>h_ λ_=>rfl;have T:Txt K mg {d8:=d8,mH:=fd1,gW:=gW,mW:=fd2,gC:=gC,nU:=fd3,iY:=iY,qO:=fd4,d9:=d9,jY:=fd5,kJ:=kJ,ur:=fd6,gD:=gD,nW:=fd7,fJ:=fJ,nY:=fd8,cW:=cW,jZ:=fd9,fK:=fK,nZ:=qhl,fL:=fL,n6:=qhm,fC:=fC,mJ:=qhn,dj:=dj,jt:=qho,kO:=kO,uw:=qhp,fD:=fD,mK:=qhq,gF:=gF,n_:=qhr,dw:=dw,ju:=qhs,gG:=gG,oh:=qht,kW:=kW,ux:=qhu,dz:=dz,jw:=qhv,eE:=eE,j4:=qhw,iZ:=iZ,qP:=qhx,dB:=dB,jx:=qhy,bQ:=bQ,fu:=qhz,kY:=kY,uy:=qhA,eF:=eF,j6:=qhB,kZ:=kZ,uz:=qhC,k_:=k_,uD:=qhD,cP:=cP,iG:=qhE,eG:=eG,j7:=qhF,tK:=tK,Bl:=qhG,dD:=dD,jy:=qhH,dF:=dF,jz:=qhI,eN:=eN,j8:=qhJ,dG:=dG,jA:=qhK,cF:=cF,gY:=qhL,bF:=bF,dN:=qhM,cX:=cX,fX:=W.fnOf "times_over" "times_over" (nA cN) (gQ cN) (aA cN) .none qh3 qh4 qh5 qh1 qb5 qh6,lg:=lg,uE:=qhN,eO:=eO,j9:=qhO,cQ:=cQ,iH:=qhP,Aa:=Aa,Kh:=qhQ,tM:=tM,Bm:=qhR,ou:=ou,xP:=qhS,oA:=oA,xQ:=qhT,Ab:=Ab,Kl:=qhU,Ac:=Ac,Km:=qhV,tO:=tO,Bo:=qhW,lq:=lq,uF:=qhX,eU:=eU,j_:=qhY,oE:=oE,xR:=qhZ,i_:=i_,qQ:=qh0,Ad:=fa,Ko:=W.fnOf "law" "law" (nA uR) (gQ uR) (aA uR) .none qh7 qh8 qh9 qh2 qfb qh_,jN:=.str "abcdefghijklmnopqrstuvwxyz" wB,dM:=.int 4 lQ,eZ:=.int 9 nu,gH:=.int 20 rG,fM:=.int 9 pH,bD:=bD,aY:=aY,bR:=bR}:={Ae:=F1,Af:=b1,fY:=F2,jc:=b2,jd:=qmv X G a2,jO:=F3,mX:=b3,mY:=qmv X G a3,qg:=F4,uG:=b4,uH:=qmv X G a4,qR:=F5,xT:=b5,xU:=qmv X G a5,Du:=F6,Nh:=b6,Ni:=qmv X G a6,vW:=F7,Dv:=b7,Dw:=qmv X G a7,Dy:=F8,Dz:=b8,xV:=F9,cY:=b9,cZ:=⟨a9,i9,F9.kp⟩,DG:=F10,mZ:=b10,m_:=⟨a10,i10,F10.kp⟩,DK:=F11,m5:=b11,ni:=⟨a11,i11,F11.kp⟩,tQ:=F12,Ag:=b12,Ah:=qmv X G a12,o_:=F13,uT:=b13,uU:=qmv X G a13,xW:=F14,DN:=b14,DP:=qmv X G a14,tU:=F15,Ai:=b15,Aj:=qmv X G a15,m6:=F16,qT:=b16,qU:=qmv X G a16,pq:=F17,uV:=b17,uW:=qmv X G a17,vX:=F18,DQ:=b18,DR:=qmv X G a18,DW:=F19,Nj:=b19,Nk:=qmv X G a19,pA:=F20,uZ:=b20,u0:=qmv X G a20,qW:=F21,xX:=b21,xY:=qmv X G a21,zB:=F22,HS:=b22,HW:=qmv X G a22,pB:=F23,u5:=b23,u6:=qmv X G a23,fO:=F24,iT:=b24,iU:=qmv X G a24,tV:=F25,xZ:=b25,yc:=qmv X G a25,qX:=F26,yd:=b26,yg:=qmv X G a26,DX:=F27,Np:=b27,Nq:=qmv X G a27,yh:=F28,DY:=b28,D_:=qmv X G a28,m7:=F29,tW:=b29,tX:=qmv X G a29,qY:=F30,yj:=b30,yp:=qmv X G a30,Kp:=F31,QB:=b31,QC:=qmv X G a31,pC:=F32,u9:=b32,u_:=qmv X G a32,pF:=F33,vd:=b33,vf:=qmv X G a33,qZ:=F34,yq:=b34,yr:=qmv X G a34,pG:=F35,vg:=b35,vh:=qmv X G a35,lO:=F36,rN:=b36,rO:=qmv X G a36,gJ:=F37,lu:=b37,lA:=qmv X G a37,q_:=F38,yt:=b38,yu:=qmv X G a38,Ea:=F39,Nr:=b39,Nt:=qmv X G a39,rm:=F40,yx:=b40,yC:=qmv X G a40,jB:=F41,m8:=b41,m9:=qmv X G a41,Y_:=F42,qcK:=b42,qcL:=qmv X G a42,jC:=F43,jP:=b43,jQ:=qmv X G a43,Kq:=F44,SJ:=b44,SM:=qmv X G a44,yD:=F45,Bp:=b45,Bq:=qmv X G a45,Za:=F46,qcM:=b46,qcN:=qmv X G a46,Zb:=F47,qcO:=b47,qcP:=qmv X G a47,QD:=F48,Zc:=b48,Zd:=qmv X G a48,Eb:=F49,Nu:=b49,Nv:=qmv X G a49,mL:=F50,rA:=b50,rB:=qmv X G a50,Kr:=F51,SN:=b51,SQ:=qmv X G a51,zE:=F52,HX:=b52,HY:=qmv X G a52,qcQ:=F53,qgN:=b53,qgO:=qmv X G a53,H_:=qmv X G jN,Ia:=⟨wB,rfl⟩,tY:=qmv X G dM,tZ:=⟨lQ,rfl⟩,vm:=qmv X G eZ,vo:=⟨nu,rfl⟩,Ak:=qmv X G gH,Al:=⟨rG,rfl⟩,yE:=qmv X G fM,yF:=⟨pH,rfl⟩,Ks:=Fe,Br:=Fg,qcR:=qmv X G Rf,g_:=⟨Rg,Rh,Ri,Rj⟩,qcS:=⟨Rk,a8,i8,Rm⟩,nm:=⟨qmJ X G Z2,qmJ X G Z4,qmJ X G Z5,qmJ X G Z6,qmJ X G Fi,qmJ X G K1,qmJ X G Z7,qmJ X G Rn,qmJ X G K3,qmJ X G Z8,qmJ X G Z9,qmJ X G Z_,qmJ X G qaa,qmJ X G rH⟩,nm2:=⟨qmJ X G ug,qmJ X G qab,qmJ X G Ro,qmJ X G Fj,qmJ X G Rp,qmJ X G Rq⟩,nm3:=⟨qmJ X G qac⟩,yG:=qmv X G pI,QF:=qmv X G KZ,gZ:=gZ,ib:=pO,tb:=pL,ini:=⟨qfd,qfe,qff⟩,Ny:=Ny,Nz:=Nz,nd:=HB Rr,yH:=⟨⟨_,Bs,Bt,Bv⟩,Bu,Bw,Bx,BJ,yM⟩,yI:=⟨⟨_,_,_,_,_,_,_,_,_,_,_,_,_,_,_,K4⟩,gZ,⟨_,pJ,pK⟩,a1,beq_iff_eq.mp i1,yM⟩,SX:=XC.set ⟨⟨_,Bs,Bt,Bv⟩,Bu,Bw,Bx,BJ,yM⟩ K5,gK:=gK,jD:=qmJ X G jD};exact⟨_,λs v=>.of_eq rfl,λbase _ _ hCL hBL=>qe7 T ⟨cdl,hCL,hBL⟩⟩
theorem walk {l:W.OpenLaw} {q:Program} {loose:List Str} {XP:(Str->Option Value)->Heap->Prop} {YP:World->Heap->Prop} {d dt:DefRec} {K:Params->W.Frag} {c Pt:Addr} (hn:l.most=some 63) (hdf:d.params.defaults=[])
    (hY:∀(w:World) (h:Heap),YP w h->(K w.params).In h) (hrec:(PyProof.Rows.recsOf q).find? (λe=>e.name == ("times_over" : Str))=some dt) (htab:∀w:World,W.tabIn (K w.params) "times_over" = some (c,Pt)) (hnt:∀w:World,W.noTabs (K w.params)=true)
    (F:∀(w:World) (mg:Str->Option Value) (fa:Addr) (h:Heap),(K w.params).In h->h.Ns mainGlobals mg->mg d.name=some (.ref fa)->
      ∃fd:FuncData,(∀(s:Shared) (u:Value),BindsTo s fd ⟨[u],[]⟩ [("_law_script",u)])/\∀base:Heap,(K w.params).In base->base.Ns mainGlobals mg->W.CodeHd base c Pt->base.BuiltinsAt mg Pt->bN l.prog w (K w.params) mg base ig 11 fa fd ["_law_script"] (KR (K w.params) Pt)) :
    W.WalkO q loose XP YP l.row.toRowW d [] (λf vs=>PySem.call f vs):=
  L2.Y4 (n:=63) (k:=11) (x:= "_law_script") (CX:=λ_=>ig) (sp:=λw=>KR (K w.params) Pt) hn (by decide) hdf ⟨rfl,by decide,by decide,rfl⟩ hY hrec htab hnt F (λ_ _ a ns hl hP hS=>⟨a,ns,rfl,hS,hl,.inl hP,λ_=>rfl⟩) λ_ _ _ _ _ z=>z
end K75
end
set_option Elab.async false
set_option maxRecDepth 100000
set_option maxHeartbeats 4000000
open PySem PySem.W PyProof.Rows
namespace PySem.W.Fast
def tw8016528248422528602:=0
def tw1694532431012230865:=0
def tw12412337102022939085:=0
def tw10859618312215454853:=0
def tw5266003639917584940:=0
def tw2874418336402815813:=0
def tw6342802866847852028:=0
def tw18298366170286936709:=0
def tw8587857289863588084:=0
def tw5141718933564417067:=0
def tw1268941428765648313:=0
def tw15754680485692156243:=0
def tw2846237710986847709:=0
def tw15499584801477914033:=0
def tw7481721038449968331:=0
def tw2997401260758997825:=0
def tw3479669420091410488:=0
def tw4863229918237020509:=0
def tw9668159562044379549:=0
def tw15060416642103243607:=0
def tw4282177617537352924:=0
def tw16467516162432754881:=0
def tw17676835437938508851:=0
def tw13400268729162907849:=0
def tw355390510506054216:=0
def tw7719550372584146757:=0
def tw11727666218433313564:=0
def tw14464878695338290376:=0
def tw5456293666041635196:=0
def tw6884765906122426361:=0
end PySem.W.Fast
set_option maxRecDepth 100000 in
set_option maxHeartbeats 0 in
theorem PySem.Challenge.cw_pointways_k75_ties_told_twice_holds : PySem.Challenge.rw_pointways_k75_ties_told_twice.Holds := by
  w_on;o_law;k_head;(case hw=>w_witness2)
  k_fill
  refine' K75.walk (l:=PySem.Challenge.rw_pointways_k75_ties_told_twice) rfl rfl (fun w h Y=>W.km_in_of Y) ?qkS ?qkT ?qkU ?F
  case qkS=>rfl
  case qkT=>
    intro w;refine' L2.Y5 ?b1 ?b2 ?b3 ?b4 ?b5
    (case b1=>k_is)
    (case b2=>k_is)
    (case b3=>rfl)
    (case b4=>k_is)
    (case b5=>rfl)
  case qkU=>intro w;kernel_rfl
  case F=>
    intro w mg fa h KX G hmg;refine' K75.all_mk KX G hmg ?Rf ?pI ?KZ ?a1 ?i1 ?F1 ?a2 ?F2 ?a3 ?F3 ?a4 ?F4 ?a5 ?F5 ?a6 ?F6 ?a7 ?F7 ?a8 ?i8 ?F8 ?a9 ?i9 ?F9 ?a10 ?i10 ?F10 ?a11 ?i11 ?F11 ?a12 ?F12 ?a13 ?F13 ?a14 ?F14 ?a15 ?F15 ?a16 ?F16 ?a17 ?F17 ?a18 ?F18 ?a19 ?F19 ?a20 ?F20 ?a21 ?F21 ?a22 ?F22 ?a23 ?F23 ?a24 ?F24 ?a25 ?F25 ?a26 ?F26 ?a27 ?F27 ?a28 ?F28 ?a29 ?F29 ?a30 ?F30 ?a31 ?F31 ?a32 ?F32 ?a33 ?F33 ?a34 ?F34 ?a35 ?F35 ?a36 ?F36 ?a37 ?F37 ?a38 ?l38 ?c38 ?k38 ?a39 ?F39 ?a40 ?F40 ?a41 ?F41 ?a42 ?F42 ?a43 ?F43 ?a44 ?F44 ?a45 ?F45 ?a46 ?F46 ?a47 ?F47 ?a48 ?F48 ?a49 ?F49 ?a50 ?F50 ?a51 ?F51 ?a52 ?F52 ?a53 ?l53 ?c53 ?k53 ?jN ?dM ?eZ ?gH ?fM ?Rg ?Rh ?Ri ?Rj ?Rk ?Rm ?Fe ?Fg ?Z2 ?Z4 ?Z5 ?Z6 ?Fi ?K1 ?Z7 ?Rn ?K3 ?Z8 ?Z9 ?Z_ ?qaa ?rH ?ug ?qab ?Ro ?Fj ?Rp ?Rq ?qac ?pJ ?pK ?pL ?Bs ?Bt ?Bu ?gZ ?pO ?qfd ?qfe ?qff ?Ny ?Nz ?Rr ?Bv ?Bw ?Bx ?BJ ?yM ?K4 ?K5 ?gK ?jD ?cdl
    case Rf | pI | KZ | a1 | i1 | a2 | a3 | a4 | a5 | a6 | a7 | a8 | i8 | a9 | i9 | a10 | i10 | a11 | i11 | a12 | a13 | a14 | a15 | a16 | a17 | a18 | a19 | a20 | a21 | a22 | a23 | a24 | a25 | a26 | a27 | a28 | a29 | a30 | a31 | a32 | a33 | a34 | a35 | a36 | a37 | a38 | l38 | c38 | k38 | a39 | a40 | a41 | a42 | a43 | a44 | a45 | a46 | a47 | a48 | a49 | a50 | a51 | a52 | a53 | l53 | c53 | k53 | jN | dM | eZ | gH | fM | Rg | Rh | Ri | Rj | Rk | Rm | Fe | Fg | Z2 | Z4 | Z5 | Z6 | Fi | K1 | Z7 | Rn | K3 | Z8 | Z9 | Z_ | qaa | rH | ug | qab | Ro | Fj | Rp | Rq | qac | pJ | pL | Bs | Bu | pO | qfd | qfe | qff | Ny | Nz | Bw | Bx | BJ | yM | K4 | K5 | gK | jD=>k_is
    case pK | Bt | Bv | cdl=>rfl
    case F1 | F2 | F3 | F4 | F5 | F6 | F7 | F8 | F9 | F10 | F11 | F12 | F13 | F14 | F15 | F16 | F17 | F18 | F19 | F20 | F21 | F22 | F23 | F24 | F25 | F26 | F27 | F28 | F29 | F30 | F31 | F32 | F33 | F34 | F35 | F36 | F37 | F39 | F40 | F41 | F42 | F43 | F44 | F45 | F46 | F47 | F48 | F49 | F50 | F51 | F52=>refine' L2.Pk ?l ?c ?k;(case l=>k_is);(case c=>k_is);(case k=>k_is)
    case gZ=>k_exc
    case Rr=>decide+kernel


