import PyProof.Rows.All
import Wide.All
import OpenK.AllK
import Wide.FinOn
import Lean
import PyProof.EqAt
import PyProof.EqKinds
import PyProof.TupleCall
import PyProof.NeData
import PyProof.AttrMissHeap
import PyProof.FactsAll.enumerate_1
import KE.KDictOf
import PyProof.EnumMake
import PyProof.Rows.SumAny
import PyProof.Rows.StrJoin2
import PyProof.Rows.CountFlat
import PyProof.Rows.FoldWordsD
import PyProof.Rows.SeqMore2
import PyProof.Rows.MinMaxN
import PyProof.Rows.StrInSeq3
import PyProof.Rows.ReprR
import PyProof.StrLawsRepr
import PyProof.StrCalls2
import PyProof.Rows.StrNews2
import PyProof.Rows.StrSplitJoin
import PyProof.StrLawsTight
import PyProof.StrLawsChain
import PyProof.FString4
import PyProof.RulesTry
import PyProof.StrOps2
import PyProof.Rows.SeqMore
import PyProof.DictItems
import KE.KPairComp
import PyProof.Rows.SortRuns
import PyProof.Rows.SortShell
import KE.KSortKey
import PySem.Challenge.RW_pointways_k54_turnings_refused
set_option genSizeOfSpec false
noncomputable section
set_option Elab.async false
set_option linter.all false
set_option maxRecDepth 100000
def ql2:=@List.getElem?_eq_some_iff
def ql3:=@PySem.wpAny_bind
def ql4:=@PySem.Heap.get?_push_of_some
def ql5:=@PyProof.Rows.wpS_pure
def ql6:=@PyProof.Rows.wpS_bind
def ql7:=@Nat.le_refl
def ql8:=@PySem.Heap.lt_size
def ql9:=@List.length_map
def ql_:=@List.mem_of_getElem?
def qma:=@Array.size_push
def qmb:=@PySem.wpAny_pure
def qmc:=@PySem.Heap.get?_push_size
def qmd:=@List.mem_cons
def qme:=@Nat.le_trans
def qmf:=@Nat.lt_of_lt_of_le
def qmg:=@Nat.ne_of_lt
def qmh:=@List.size_toArray
def qmi:=@PySem.boot_len
def qmj:=@of_decide_eq_true
def qmk:=@List.length_take
def qml:=@Bool.false_ne_true
def qmm:=@List.mem_append
def qmn:=@List.all_eq_true
def qmo:=@List.append_assoc
def qmp:=@List.mem_cons_of_mem
def qmq:=@List.length_cons
def qmr:=@List.mem_cons_self
def qms:=@List.getElem?_append_left
def qmt:=@List.mem_append_left
def qmu:=@List.getElem?_append_right
def qmv:=@List.take_length
def qmw:=@List.getElem?_map
def qmx:=@decide_eq_false
def qmy:=@PySem.W.mg_of
def qmz:=@List.append_nil
def qmA:=@congrArg
def qmB:=@Option.some.inj
def qmC:=@List.extract_eq_take_drop
def qmD:=@List.length_append
def qmE:=@List.mem_append_right
def qmF:=@List.not_mem_nil
def qmG:=@List.map_cons
def qmH:=@List.mem_singleton
def qmI:=@PySem.F.plainAttrs_list
def qmJ:=@PySem.mem_of_lookup
def qmK:=@PySem.Heap.size_push
def qmL:=@of_decide_eq_false
def qmM:=@List.getElem?_eq_getElem
def qmN:=@PyProof.Rows.wpS_forRange
def qmO:=@PySem.W.mg_none_of
def qmP:=@Nat.zero_le
def qmQ:=@List.eq_nil_of_length_eq_zero
def qmR:=@Array.toList_extract
def qmS:=@Nat.lt_succ_self
def qmT:=@PySem.F.slot_list_append
def qmU:=@PySem.F.type_list_append
def qmV:=@PySem.wpAny_mono
def qmW:=@List.mem_map
def qmX:=@List.perm_append_comm
def qmY:=@Array.toList_append
def qmZ:=@PySem.PassesOwn.never
def qm0:=@decide_eq_true
def qm1:=@Nat.lt_succ_of_lt
def qm2:=@PyProof.Rows.callWith_type1
def qm3:=@List.Perm.append_left
def qm4:=@List.take_append_drop
def qm5:=@Nat.lt_irrefl
def qm6:=@PySem.wpAny_Call_Name_kw
def qm7:=@Nat.zero_add
def qm8:=@Bool.false_eq_true
def qm9:=@List.mem_filter
def qm_:=@List.mem_range
def qna:=@Array.length_toList
def qnb:=@PySem.wpAny_truthy_bool
def qnc:=@PySem.codeAny_mono
def qnd:=@PySem.wpAny_field
def qne:=@PySem.Heap.get?_update_other
def qnf:=@Bool.and_eq_true
def qng:=@List.take_of_length_le
def qnh:=@Nat.le_succ_of_le
def qni:=@PySem.wpAny_holding
def qnj:=@PyProof.Rows.wpS_mono
def qnk:=@List.nodup_cons
def qnl:=@List.map_append
def qnm:=@Nat.min_eq_left
def qnn:=@List.filter_append
def qnp:=@PyProof.Rows.wpS_modify
def qnq:=@List.lookup_cons
def qnr:=@Nat.le_of_lt
def qns:=@Nat.ne_of_gt
def qnt:=@Array.size_append
def qnu:=@Array.getElem?_eq_some_iff
def qnv:=@List.replicate_succ
def qnw:=@PySem.Heap.SameBut.update
def qnx:=@Bool.eq_iff_iff
def qny:=@PySem.Heap.get?_update_self
def qnz:=@or_false
def qnA:=@List.length_filter_le
def qnB:=@List.any_eq_true
def qnC:=@of_eq_true
def qnD:=@Nat.le_succ
def qnE:=@PySem.codeAny_call_builtin
def qnF:=@Ne.symm
def qnG:=@eq_true
def qnH:=@PySem.wpAny_loadPart_at
def qnI:=@beq_eq_false_iff_ne
def qnJ:=@PyProof.Rows.F.plain_set_update_loop
def qnK:=@List.map_congr_left
def qnL:=@Option.map_eq_some_iff
def qnM:=@List.drop_of_length_le
def qnN:=@List.cons_append
def qnO:=@PySem.F.slot_tuple_iterator_next
def qnP:=@PySem.Obj.data_mapFields
def qnQ:=@PySem.wpAny_setField_rec
def qnR:=@List.mem_iff_getElem?
def qnS:=@PySem.F.slot_enumerate_next
def qnT:=@Classical.byContradiction
def qnU:=@PySem.wpAny_passesOwn
def qnV:=@List.foldl_cons
def qnW:=@PySem.codeAny_builtin
def qnX:=@decide_eq_true_eq
def qnY:=@PySem.PyData.noDict_hsm
def qnZ:=@Array.toList_push
def qn0:=@List.map_map
def qn1:=@beq_iff_eq
def qn2:=@PySem.wpAny_call
def qn3:=@Option.isSome_iff_exists
def qn4:=@List.getElem?_take_of_lt
def qn5:=@List.any_cons
def qn6:=@PySem.wpAny_rule
def qn7:=@PySem.plainObj_wpAny_Assign_Attribute
def qn8:=@Array.getElem?_setIfInBounds_ne
def qn9:=@PySem.W.kia_one
def qn_:=@PySem.wpAny_callSpecial?_slot
def qoa:=@PySem.ReprK.of_reads
def qob:=@List.take_zero
def qoc:=@PySem.sizeLine_eq
def qod:=@List.getElem?_set_self
def qoe:=@PySem.Code.quiet_builtin
def qof:=@PySem.wpAny_pyIter_tuple
def qog:=@PySem.tupleKind_room_in1
def qoh:=@List.length_nil
def qoi:=@List.find?_cons
def qoj:=@List.mem_zipIdx_iff_getElem?
def qok:=@List.filter_nil
def qol:=@List.length_singleton
def qom:=@PySem.Obj.isFreed_of_fields
def qon:=@PySem.wpAny_pyIter_list
def qoo:=@List.flatten_cons
def qop:=@PySem.wpAny_newObj_type
def qoq:=@PySem.not_mem_of_deeper
def qor:=@PySem.W.hideAll_none
def qos:=@List.mem_iff_getElem
def qot:=@PySem.Around.under_plainId
def qou:=@PySem.wpAny_setField
def qov:=@PySem.F.excBase_ValueError
def qow:=@Array.toList_setIfInBounds
def qox:=@List.mem_of_mem_drop
def qoy:=@List.mem_of_mem_take
def qoz:=@List.replicate_succ'
def qoA:=@Nat.pow_le_pow_right
def qoB:=@PySem.wpAny_call_entry
def qoC:=@List.filterMap_cons
def qoD:=@List.filter_eq_self
abbrev QAB:=PySem.Value->PySem.Shared->Prop
abbrev QAC:=List (PySem.Addr×PySem.Obj)
abbrev QAD:=List (PySem.Str×PySem.Str)
abbrev QAE:=List PySem.Value
abbrev QAG:=Option PySem.Value
abbrev QAH:=List PySem.Str
namespace L2
open PySem PySem.Spec PyProof.Rows
abbrev Key:=Sum Int Str
def tu:Key->Value->Bool
 |.inl k,v=>Value.isInt k v
 |.inr x,v=>Value.isStrOf x v
def qjD(w:World):Key->Int
 |.inl k=>hashInt k
 |.inr x=>hashStr w x
theorem dh:∀{k:Key}{v:Value},tu k v=true->(∃i t,k=Sum.inl i/\v=Value.int i t)\/(∃x t,k=Sum.inr x/\v=Value.str x t)
 |.inl i,v,h=>by
  obtain⟨t,e⟩:=Value.isInt_shape (k:=i) (v:=v) h;exact .inl ⟨i,t,rfl,e⟩
 |.inr x,v,h=>by
  obtain⟨t,e⟩:=Value.isStrOf_shape (x:=x) (v:=v) h;exact .inr ⟨x,t,rfl,e⟩
theorem G6(i:Int)(t:Tok):tu (.inl i) (.int i t)=true:=by simp[tu,Value.isInt]
theorem G7(x:Str)(t:Tok):tu (.inr x) (.str x t)=true:=by simp[tu,Value.isStrOf]
theorem qdW(a b:Int):decide ((Sum.inl a:Key)=Sum.inl b)=(a == b):=by
 by_cases e:a=b
 ·subst e;simp
 ·have h:¬(Sum.inl a:Key)=Sum.inl b:=λq=>e (Sum.inl.inj q);rw[qmx h];exact(qnI.mpr e).symm
theorem qdX(a b:Str):decide ((Sum.inr a:Key)=Sum.inr b)=decide (a=b):=by
 by_cases e:a=b
 ·subst e;simp
 ·have h:¬(Sum.inr a:Key)=Sum.inr b:=λq=>e (Sum.inr.inj q);rw[qmx h,qmx e]
theorem qdY(a:Int)(b:Str):decide ((Sum.inl a:Key)=Sum.inr b)=false:=qmx (λq=>nomatch q)
theorem qdZ(a:Str)(b:Int):decide ((Sum.inr a:Key)=Sum.inl b)=false:=qmx (λq=>nomatch q)
def bM(prog:Program)(w:World):PySem.KeyKind prog w Key where
 is:=tu
 hash:=qjD w
 inj:=λv a b ha hb=>by
  rcases dh ha with⟨i,t,rfl,rfl⟩|⟨x,t,rfl,rfl⟩
  ·rcases dh hb with⟨j,u,rfl,e⟩|⟨y,u,rfl,e⟩
   ·injection e with e1 _;rw[e1]
   ·exact nomatch e
  ·rcases dh hb with⟨j,u,rfl,e⟩|⟨y,u,rfl,e⟩
   ·exact nomatch e
   ·injection e with e1 _;rw[e1]
 byValue:=λk v h=>by
  rcases dh h with⟨i,t,rfl,rfl⟩|⟨x,t,rfl,rfl⟩ <;> rfl
 pyHash:=λhv h=>by
  rcases dh hv with⟨i,t,rfl,rfl⟩|⟨x,t,rfl,rfl⟩
  ·exact wpAny_pyHash_int h
  ·exact wpAny_pyHash_str h
 eqBool:=λhu hv h=>by
  rcases dh hu with⟨i,t,rfl,rfl⟩|⟨x,t,rfl,rfl⟩
  ·rcases dh hv with⟨j,u,rfl,rfl⟩|⟨y,u,rfl,rfl⟩
   ·rw[qdW] at h;exact wpAny_eqBool_int h
   ·rw[qdY] at h;exact SeqAt.EqAt.int_str i t y u _ _ _ _ h
  ·rcases dh hv with⟨j,u,rfl,rfl⟩|⟨y,u,rfl,rfl⟩
   ·rw[qdZ] at h;exact SeqAt.EqAt.str_int x t j u _ _ _ _ h
   ·rw[qdX] at h;exact wpAny_eqBool_str h
 «strs»:=λk x t v h=>by
  rcases dh h with⟨i,u,rfl,e⟩|⟨y,u,rfl,e⟩
  ·exact nomatch e
  ·injection e with e1 _;subst e1;cases v <;> rfl
theorem Qv(prog:Program)(w:World)(k:Key)(v:Value):(bM prog w).is k v=tu k v:=rfl
theorem Ak(prog:Program)(w:World)(i:Int)(t:Tok):(bM prog w).is (.inl i) (.int i t)=true:=G6 i t
theorem Mf(prog:Program)(w:World)(x:Str)(t:Tok):(bM prog w).is (.inr x) (.str x t)=true:=G7 x t
inductive V where
 |non|bl (b:Bool)|int (i:Int)|str (x:Str)|X7 (b:Array UInt8)|flt (b:UInt64)|ref (a:Addr)|ty (n:String)
 deriving DecidableEq
def RelV:V->Value->Prop
 |.non,u=>u=Value.none
 |.bl b,u=>u=Value.bool b
 |.int i,u=>∃t,u=Value.int i t
 |.str x,u=>∃t,u=Value.str x t
 |.X7 b,u=>∃t,u=Value.bytes b t
 |.flt b,u=>∃t,u=Value.float b t
 |.ref a,u=>u=Value.ref a
 |.ty n,u=>u=Value.type n
abbrev Vals:List V->List Value->Prop:=Paired RelV
theorem Vals.length{xs:List V}{us:QAE}(r:Vals xs us):xs.length=us.length:=Paired.length r
theorem Vals.get:∀{xs:List V}{us:QAE}{i:Nat}{x:V},Vals xs us->xs[i]? = some x->∃u,us[i]? = some u/\RelV x u
 |_,_,_,_,.nil,e=>by simp at e
 |_,_,0,_,.cons r _,e=>by simp at e;subst e;exact⟨_,rfl,r⟩
 |_,_,i+1,x,.cons _ t,e=>by
  obtain⟨u,h1,h2⟩:=Vals.get (i:=i) (x:=x) t (by simpa using e);exact⟨u,by simpa using h1,h2⟩
theorem Vals.set{x:V}{u:Value}(r:RelV x u):∀{xs:List V}{us:QAE}(i:Nat),Vals xs us->Vals (xs.set i x) (us.set i u)
 |_,_,_,.nil=>.nil
 |_,_,0,.cons _ t=>.cons r t
 |_,_,i+1,.cons q t=>.cons q (Vals.set r i t)
theorem Vals.append:∀{xs ys:List V}{us ws:QAE},Vals xs us->Vals ys ws->Vals (xs++ys) (us++ws)
 |_,_,_,_,.nil,s=>s
 |_,_,_,_,.cons r t,s=>.cons r (Vals.append t s)
theorem Vals.take:∀{xs:List V}{us:QAE}(n:Nat),Vals xs us->Vals (xs.take n) (us.take n)
 |_,_,0,_=>.nil
 |_,_,_+1,.nil=>.nil
 |_,_,n+1,.cons r t=>.cons r (Vals.take n t)
theorem Vals.drop:∀{xs:List V}{us:QAE}(n:Nat),Vals xs us->Vals (xs.drop n) (us.drop n)
 |_,_,0,r=>r
 |_,_,_+1,.nil=>.nil
 |_,_,n+1,.cons _ t=>Vals.drop n t
def m7:Option V->Option Value->Prop
 |some v,some u=>RelV v u
 |none,none=>True
 |_,_=>False
def KV{κ:Type}:List (κ×V)->List (κ×Value)->Prop:=Paired fun(p:κ×V) (q:κ×Value)=>p.1=q.1/\RelV p.2 q.2
def kV:Key->V
 |.inl i=>.int i
 |.inr x=>.str x
inductive HO where
 |lst (xs:List V)
 |tup (xs:List V)
 |dK (kvs:List (Key×V))|dT (kvs:List (List Key×V))
 |set (S:Int->Bool) (n:Nat)
 |ins (C dx:Addr) (fs:List (Str×V))
 |own (x:Addr)
 |xd (fs:List (Str×V))
 |met (f x:Addr)
 |rng (lo hi:Int)
 |Mg (o:Obj) (u:HO)
 |xR (ps:Array Value)
 |ext (φ:Heap->Prop)
abbrev Hp:=Addr->Option HO
def upd(H:Hp)(a:Addr)(o:HO):Hp:=λb=>if b=a then some o else H b
theorem ak{H:Hp}{a:Addr}{o:HO}:upd H a o a=some o:=by unfold upd;rw[if_pos rfl]
theorem aD{H:Hp}{a b:Addr}{o:HO}(h:b≠a):upd H a o b=H b:=by unfold upd;rw[if_neg h]
theorem jN{H:Hp}{a b:Addr}{o u:HO}(h:H a=some o)(h':H b=some u)(d:o≠u):a≠b:=by
 intro e;subst e;rw[h] at h';exact d (qmB h')
theorem aN{H:Hp}{a b:Addr}{o:HO}(h:H a=some o)(h':H b=none):a≠b:=by
 intro e;subst e;rw[h] at h';cases h'
section
variable (P:Program)(w:World)
def cD(H:Hp)(h:Heap)(a:Addr):HO->Prop
 |.lst xs=>xs.length<=sizeLine/\∃(its:QAE)(n:Nat),Vals xs its/\h.get? a=some {cls:=.type "list",data:=.seq its.toArray n}
 |.tup xs=>xs.length<=sizeLine/\∃its:QAE,Vals xs its/\IsTup h a its.toArray
 |.dK kvs=>kvs.length<=sizeLine/\(a == sysModules)=false/\∃vs,KV kvs vs/\h.DictOf (bM P w) a vs
 |.dT kvs=>kvs.length<=sizeLine/\(a == sysModules)=false/\∃xs:List (List Key×Addr×Value),
   Paired (fun(p:List Key×V) (q:List Key×Addr×Value)=>p.1=q.1/\H q.2.1=some (.tup (p.1.map kV))/\RelV p.2 q.2.2) kvs xs/\
   ∃o es ep,h.get? a=some o/\o.ExactDict/\o.data = .dict es ep/\es.toList=xs.map (entryOfKey (tupleKind (bM P w)))/\(xs.map (·.1)).Nodup
 |.set S n=>h.SetOf (intKind P w) a S n
 |.ins C dx fs=>H dx=some (.own a)/\fs.length<=1000/\dx≠a/\h.get? a=some (W.instObj C dx)/\
   ∃mA,h.Ns1 dx mA/\(∀f,m7 (fs.lookup f) (mA f))/\PySem.Within mA (fs.map (·.1))
 |.own _=>∃o,h.get? a=some o
 |.xd fs=>∃mA,h.Ns1 a mA/\∀f,m7 (fs.lookup f) (mA f)
 |.rng lo hi=>∃t u v,h.get? a=some {cls:=.type "range",data:=.fields #[.int lo t,.int hi u,.int 1 v]}
 |.Mg o u=>h.get? a=some o/\cD H h a u
 |.xR ps=>h.get? a=some {cls:=.none,data:=.fields ps}
 |.met f x=>h.get? a=some (W.methodObj (.ref f) (.ref x))
 |.ext φ=>φ h/\(∃o,h.get? a=some o)/\∀h1 h2:Heap,φ h1->(∀o,h1.get? a=some o->h2.get? a=some o)->φ h2
def tD(H:Hp)(h:Heap):Prop:=∀a o,H a=some o->cD P w H h a o
end
section
variable {P:Program}{w:World}{H H':Hp}{h h':Heap}{a:Addr}{o:HO}
theorem cD.lt(x:cD P w H h a o):a<h.objs.size:=by
 cases o with
 |lst xs=>obtain⟨_,_,_,_,e⟩:=x;exact ql8 e
 |tup xs=>obtain⟨_,_,_,p⟩:=x;exact p.lt
 |dK kvs=>obtain⟨_,_,_,_,o,_,_,e,_⟩:=x;exact ql8 e
 |dT kvs=>obtain⟨_,_,_,_,o,_,_,e,_⟩:=x;exact ql8 e
 |set S n=>obtain⟨o,_,_,_,e,_⟩:=x;exact ql8 e
 |ins C dx fs=>obtain⟨_,_,_,e,_⟩:=x;exact ql8 e
 |own y=>obtain⟨_,e⟩:=x;exact ql8 e
 |xd fs=>obtain⟨_,⟨_,_,_,e,_⟩,_⟩:=x;exact ql8 e
 |rng lo hi=>obtain⟨_,_,_,e⟩:=x;exact ql8 e
 |Mg ob u=>obtain⟨e,_⟩:=x;exact ql8 e
 |xR ps=>exact ql8 (show h.get? a=some _ from x)
 |met f y=>exact ql8 (show h.get? a=some _ from x)
 |ext φ=>obtain⟨_,⟨_,e⟩,_⟩:=x;exact ql8 e
theorem Paired.qd0{α β:Type}{F G:α->β->Prop}:∀{l₁:List α}{l₂:List β},Paired F l₁ l₂->(∀a b,F a b->G a b)->Paired G l₁ l₂
 |_,_,.nil,_=>.nil
 |_,_,.cons r t,f=>.cons (f _ _ r) (Paired.qd0 t f)
theorem cD.stay(x:cD P w H h a o)(k:∀b u,(b=a\/H b=some (.own a))->h.get? b=some u->h'.get? b=some u)
  (ho:∀b,H b=some (.own a)->H' b=some (.own a)) (ht:∀b xs,H b=some (.tup xs)->H' b=some (.tup xs)):cD P w H' h' a o:=by
 induction o with
 |lst xs=>obtain⟨z,its,n,r,e⟩:=x;exact⟨z,its,n,r,k _ _ (.inl rfl) e⟩
 |tup xs=>obtain⟨z,its,r,ob,e,c⟩:=x;exact⟨z,its,r,ob,k _ _ (.inl rfl) e,c⟩
 |dK kvs=>obtain⟨z,y,vs,r,ob,es,ep,e,c⟩:=x;exact⟨z,y,vs,r,ob,es,ep,k _ _ (.inl rfl) e,c⟩
 |dT kvs=>
  obtain⟨z,y,xs,r,ob,es,ep,e,c⟩:=x;exact⟨z,y,xs,Paired.qd0 r λp q z=>⟨z.1,ht _ _ z.2.1,z.2.2⟩,ob,es,ep,k _ _ (.inl rfl) e,c⟩
 |set S n=>obtain⟨ob,es,ep,t,e,c⟩:=x;exact⟨ob,es,ep,t,k _ _ (.inl rfl) e,c⟩
 |ins C dx fs=>
  obtain⟨d,z,ne,e,mA,⟨od,es,ep,e2,c⟩,r⟩:=x;exact⟨ho _ d,z,ne,k _ _ (.inl rfl) e,mA,⟨od,es,ep,k _ _ (.inr d) e2,c⟩,r⟩
 |own y=>obtain⟨ob,e⟩:=x;exact⟨ob,k _ _ (.inl rfl) e⟩
 |xd fs=>obtain⟨mA,⟨od,es,ep,e,c⟩,r⟩:=x;exact⟨mA,⟨od,es,ep,k _ _ (.inl rfl) e,c⟩,r⟩
 |rng lo hi=>obtain⟨t,u,v,e⟩:=x;exact⟨t,u,v,k _ _ (.inl rfl) e⟩
 |Mg ob u ih=>obtain⟨e,q⟩:=x;exact⟨k _ _ (.inl rfl) e,ih q⟩
 |xR ps=>
  have e:h.get? a=some {cls:=.none,data:=.fields ps}:=x;show h'.get? a=some {cls:=.none,data:=.fields ps};exact k a _ (.inl rfl) e
 |met f y=>
  have e:h.get? a=some (W.methodObj (.ref f) (.ref y)):=x;show h'.get? a=some (W.methodObj (.ref f) (.ref y));exact k a _ (.inl rfl) e
 |ext φ=>obtain⟨p,⟨o,e⟩,st⟩:=x;exact⟨st _ _ p λo q=>k _ _ (.inl rfl) q,⟨o,k _ _ (.inl rfl) e⟩,st⟩
theorem tD.lt(x:tD P w H h)(e:H a=some o):a<h.objs.size:=(x a o e).lt
theorem tD.fresh(x:tD P w H h)(e:h.objs.size<=a):H a=none:=by
 cases q:H a with
 |none=>rfl
 |some u=>exact absurd (qmf (x.lt q) e) (qm5 _)
theorem tD.kept(x:tD P w H h)(k:∀b u,h.get? b=some u->h'.get? b=some u):tD P w H h':=λa o e=>
 (x a o e).stay (λb u _ q=>k b u q) (λ_ q=>q) λ_ _ q=>q
theorem tD.laid(x:tD P w H h)(k:∀b u,h.get? b=some u->h'.get? b=some u)(hp:h.objs.size<=a)(new:cD P w (upd H a o) h' a o):tD P w (upd H a o) h':=λb u e=>by
 have hn:=x.fresh hp
 by_cases hb:b=a
 ·subst hb;rw[ak] at e;cases e;exact new
 ·rw[aD hb] at e;exact(x b u e).stay (λc v _ q=>k c v q) (λc q=>by rw[aD (aN q hn)];exact q) λc xs q=>by rw[aD (aN q hn)];exact q
end
def Rd(H:Hp)(a:Addr)(u:HO):Prop:=H a=some u\/∃o,H a=some (.Mg o u)
theorem Rd.ok{P:Program}{w:World}{H:Hp}{h:Heap}{a:Addr}{u:HO}(r:Rd H a u)(x:tD P w H h):cD P w H h a u:=by
 rcases r with r|⟨o,r⟩
 ·exact x a u r
 ·obtain⟨_,q⟩:=x a _ r;exact q
def Mut:Option HO->Prop
 |some (.lst _)=>True
 |some (.dK _)=>True
 |some (.dT _)=>True
 |some (.set _ _)=>True
 |some (.ins _ _ _)=>True
 |some (.ext _)=>True
 |_=>False
section
variable {P:Program}{w:World}{H:Hp}{h h':Heap}{x e:Addr}{o':HO}
theorem tD.write(ok:tD P w H h)(mu:Mut (H x))(he:e=x\/H e=some (.own x))(k:∀b u,b≠e->h.get? b=some u->h'.get? b=some u)(heo:∃u,h'.get? e=some u)
  (new:cD P w (upd H x o') h' x o'):tD P w (upd H x o') h':=λb u q=>by
 have qgc:∀c y,H c=some (.own y)->c≠x:=λc y r z=>by subst z;rw[r] at mu;exact mu
 have qjE:∀c xs,H c=some (.tup xs)->c≠x:=λc xs r z=>by subst z;rw[r] at mu;exact mu
 by_cases hb:b=x
 ·subst hb;rw[ak] at q;cases q;exact new
 ·rw[aD hb] at q
  by_cases hbe:b=e
  ·have q':H b=some (.own x):=by
    rcases he with z|z
    ·exact absurd (hbe.trans z) hb
    ·rw[hbe];exact z
   rw[q] at q';cases q';obtain⟨v,hv⟩:=heo;exact⟨v,by rw[hbe];exact hv⟩
  ·refine(ok b u q).stay (λc v hc r=>k c v ?_ r) (λc r=>by rw[aD (qgc c b r)];exact r) λc xs r=>by rw[aD (qjE c xs r)];exact r
   rcases hc with rfl|hc
   ·exact hbe
   ·rintro rfl
    rcases he with z|z
    ·exact qgc c b hc z
    ·rw[hc] at z;cases z;exact hb rfl
end
structure Un(fs ex:List Addr)(H H':Hp)(h h':Heap):Prop where
 keep:∀b o,h.get? b=some o->H b=none->b∉fs->b∉ex->h'.get? b=some o
 slot:∀b o,h.get? b=some o->H b=none->b∈fs->b∉ex->∃sl,h'.get? b=some {o with slots:=sl}
 free:∀b o,h.get? b=some o->H b=none->b∉ex->H' b=none
 there:∀b o,h.get? b=some o->b∉ex->∃o',h'.get? b=some o'
 tups:∀b xs,H b=some (.tup xs)->H' b=some (.tup xs)
 tM:∀b o u,H b=some (.Mg o u)->H' b=some (.Mg o u)
 tO:∀b ps,H b=some (.xR ps)->∃more,H' b=some (.xR (ps++more))
section
variable {fs fs' ex ex':List Addr}{H H1 H2:Hp}{h h1 h2 h':Heap}{a x e:Addr}{o:HO}
theorem Un.any(u:Un fs ex H H1 h h1){b:Addr}{ob:Obj}(q:h.get? b=some ob)(n:H b=none)(hx:b∉ex):∃sl,h1.get? b=some {ob with slots:=sl}:=by
 by_cases hb:b∈fs
 ·exact u.slot b ob q n hb hx
 ·exact⟨ob.slots,u.keep b ob q n hb hx⟩
theorem Un.kept(k:∀b u,h.get? b=some u->h'.get? b=some u):Un fs ex H H h h':=
 ⟨λb ob q _ _ _=>k b ob q,λb ob q _ _ _=>⟨ob.slots,k b ob q⟩,λ_ _ _ n _=>n,λb ob q _=>⟨ob,k b ob q⟩,λ_ _ q=>q,λ_ _ _ q=>q,λ_ ps q=>⟨#[],by rw[q];simp⟩⟩
theorem Un.refl:Un fs ex H H h h:=Un.kept λ_ _ q=>q
theorem Un.laid(k:∀b u,h.get? b=some u->h'.get? b=some u)(hp:h.objs.size<=a)(hn:H a=none):Un fs ex H (upd H a o) h h' where
 keep:=λb u q _ _ _=>k b u q
 slot:=λb u q _ _ _=>⟨u.slots,k b u q⟩
 free:=λb u q n _=>by rw[aD (qmg (qmf (ql8 q) hp))];exact n
 there:=λb u q _=>⟨u,k b u q⟩
 tups:=λb xs q=>by rw[aD (aN q hn)];exact q
 tM:=λb u xs q=>by rw[aD (aN q hn)];exact q
 tO:=λb ps q=>⟨#[],by rw[aD (aN q hn),q];simp⟩
theorem Un.write(mu:Mut (H x))(he:e=x\/H e=some (.own x))(k:∀b u,b≠e->h.get? b=some u->h'.get? b=some u)(heo:∃u,h'.get? e=some u):Un fs ex H (upd H x o) h h':=by
 have hx:∀b,H b=none->b≠x:=λb n z=>by subst z;rw[n] at mu;exact mu
 have hb:∀b,H b=none->b≠e:=λb n z=>by
  subst z
  rcases he with r|r
  ·exact hx b n r
  ·rw[n] at r;cases r
 have hm:∀b u,H b=some u->¬Mut (some u)->b≠x:=λb u q nm z=>by subst z;rw[q] at mu;exact nm mu
 refine⟨λb u q n _ _=>k b u (hb b n) q,λb u q n _ _=>⟨u.slots,k b u (hb b n) q⟩,λb u q n _=>by rw[aD (hx b n)];exact n,λb u q _=>?_,
  λb xs q=>by rw[aD (hm b _ q λz=>z)];exact q,λb u xs q=>by rw[aD (hm b _ q λz=>z)];exact q,λb ps q=>⟨#[],by rw[aD (hm b _ q λz=>z),q];simp⟩⟩
 by_cases hbe:b=e
 ·subst hbe;exact heo
 ·exact⟨u,k b u hbe q⟩
end
def trk(h:Heap)(H:Hp):List Addr:=(List.range h.objs.size).filter λa=>(H a).isSome
def Cu(h:Heap)(H:Hp):Heap:=W.hideAll h (trk h H)
theorem Vs(h:Heap)(H:Hp):(Cu h H).objs.size=h.objs.size:=W.hideAll_size _ _
theorem Yk{h:Heap}{H:Hp}{b:Addr}{o:Obj}(e:h.get? b=some o)(n:H b=none):(Cu h H).get? b=some o:=
 W.hideAll_get _ e λhm=>by
  have q:(H b).isSome=true:=(qm9.mp hm).2;rw[n] at q;simp at q
theorem qbF{h:Heap}{H:Hp}{b:Addr}{o:Obj}(e:(Cu h H).get? b=some o):h.get? b=some o/\H b=none:=by
 have e':h.get? b=some o:=W.of_hideAll (trk h H) e;refine⟨e',?_⟩;cases q:H b with
 |none=>rfl
 |some x=>
  have hm:b∈trk h H:=qm9.mpr ⟨qm_.mpr (ql8 e'),by simp[q]⟩;have z:(Cu h H).get? b=none:=qor (trk h H) hm;rw[z] at e;cases e
def qbG(g h:Heap)(L:Addr):QAC:=(List.range h.objs.size).filterMap λa=>if a=L\/(g.get? a).isSome=true then none else (h.get? a).map λo=>(a,o)
def rest(g h:Heap)(L d:Addr):QAC:=(qbG g h L).filter λp=>decide (p.1≠d)
structure Mod(K:W.Frag)(mg:Str->Option Value)(base:Heap):Prop where
 Mh:K.In base
 glob:base.Ns mainGlobals mg
 blt:∃mb,base.Ns builtinsNs mb/\∀x:Str,x≠ "__name__" ->mb x=bootBuiltins x
 nolimit:base.NoLimit
set_option genInjectivity false in
structure Cx where
 prog:Program
 w:World
 K:W.Frag
 mg:Str->Option Value
 base:Heap
 A:Around
 N:QAH
 s₀:Shared
 H₀:Hp
 env:Env
 outer:List Env
 stack:List Env
 ex:List Addr
 fn:Str->Bool
 calm:Bool
 pn:QAC
 xe:QAB
def frs(l:List Env):List Addr:=l.filterMap (·.frame)
abbrev Cx.fs(X:Cx):List Addr:=frs X.outer
def Vis(sc:Scope)(x:Str):Prop:=sc.names.lookup x=some .local\/sc.names.lookup x=some .cell\/sc.names.lookup x=some .free
def Loc(sc:Scope)(x:Str):Prop:=sc.names.lookup x=some .local\/sc.names.lookup x=some .cell
def Look(env:Env)(h:Heap)(m:Str->Option Value)(x:Str)(u:Value):Prop:=
 (env.kindOf x=some .local/\m x=some u)\/((env.kindOf x=some .cell\/env.kindOf x=some .free)/\∃c,env.cells.lookup x=some c/\h.IsCell c (some u))
structure Cx.Ok(X:Cx):Prop where
 mod:Mod X.K X.mg X.base
 kind:X.env.scope.kind = .function
 glob:X.env.globals=mainGlobals
 blt:X.env.builtins=builtinsNs
 above:X.s₀.heap.objs.size<=X.env.locals
 inj:∀x y c,X.env.cells.lookup x=some c->X.env.cells.lookup y=some c->x=y
 has:∀x,(X.env.kindOf x=some .cell\/X.env.kindOf x=some .free)->∃c,X.env.cells.lookup x=some c
 cab:∀x c,X.fn x=true->X.env.cells.lookup x=some c->X.s₀.heap.objs.size<=c
 hd:X.calm=true->X.A.handled=none
 frames:X.A.frames=some X.stack
 stk:X.stack=X.outer\/(X.stack=X.env::X.outer/\X.env.frame=some X.env.locals)
 exf:∀b∈X.ex,b≠X.env.locals/\∀x c,X.env.cells.lookup x=some c->c≠b
 bs:∀b o,X.base.get? b=some o->X.s₀.heap.get? b=some o/\X.H₀ b=none
 TY:X.base.objs.size<=X.s₀.heap.objs.size
 Mi:∀b o,X.base.get? b=some o->b∉X.ex
 Mj:∀b∈X.ex,b∉X.fs
 tQ:X.s₀.heap.FunFrames X.base X.outer
 X8:∀b∈X.fs,X.H₀ b=none
structure Inv(X:Cx)(p_:QAC)(σ:List (Option V))(H:Hp)(s:Shared):Prop where
 ok:X.Ok
 os:s.os=X.s₀.os
 bare:AllBare s.gens
 base:Un X.fs X.ex X.H₀ H X.s₀.heap s.heap
 loc:∃m,s.heap.Ns X.env.locals m/\∀(i:Nat)(x:Str)(v:V),X.N[i]? = some x->σ[i]? = some (some v)->Vis X.env.scope x->∃u,RelV v u/\Look X.env s.heap m x u
 cell:∀x c,X.env.cells.lookup x=some c->∃v,s.heap.IsCell c v
 free:H X.env.locals=none
 iW:∀x c,X.env.cells.lookup x=some c->H c=none
 pin:∀p∈X.pn++p_,s.heap.get? p.1=some p.2/\H p.1=none/\p.1≠X.env.locals/\p.1∉X.fs/\∀v,p.2.data≠.cell v
 hok:tD X.prog X.w H s.heap
 len:σ.length=X.N.length
section
variable {X:Cx}{p_:QAC}{σ:List (Option V)}{H H':Hp}{s:Shared}{h':Heap}
theorem Cx.Ok.qjF(ok:X.Ok){b:Addr}{o:Obj}(e:X.base.get? b=some o):b∉X.fs:=λhb=>by
 have:=(ok.tQ.mem hb).1;rw[e] at this;cases this
theorem Inv.bs(I:Inv X p_ σ H s):∀b o,X.base.get? b=some o->s.heap.get? b=some o/\H b=none:=λb o e=>
 ⟨I.base.keep b o (I.ok.bs b o e).1 (I.ok.bs b o e).2 (I.ok.qjF e) (I.ok.Mi b o e),I.base.free b o (I.ok.bs b o e).1 (I.ok.bs b o e).2 (I.ok.Mi b o e)⟩
theorem Inv.bk(I:Inv X p_ σ H s):∀b o,X.base.get? b=some o->s.heap.get? b=some o:=λb o e=>(I.bs b o e).1
theorem Inv.mod(I:Inv X p_ σ H s):Mod X.K X.mg X.base:=I.ok.mod
theorem Inv.oU(I:Inv X p_ σ H s):X.K.In s.heap:=I.ok.mod.Mh.keeps I.bk
theorem Inv.lt(I:Inv X p_ σ H s):X.env.locals<s.heap.objs.size:=let ⟨_,hn,_⟩:=I.loc;hn.lt
theorem Inv.sz(I:Inv X p_ σ H s):X.s₀.heap.objs.size<=s.heap.objs.size:=qme I.ok.above (qnr I.lt)
theorem Inv.qjG(I:Inv X p_ σ H s){a:Addr}(h:s.heap.objs.size<=a):a∉X.fs:=λhb=>by
 obtain⟨_,o,ho,_⟩:=I.ok.tQ.mem hb;exact absurd (qmf (ql8 ho) (qme I.sz h)) (qm5 _)
theorem Inv.cne(I:Inv X p_ σ H s):∀x c,X.env.cells.lookup x=some c->c≠X.env.locals:=λx c e z=>by
 obtain⟨v,o,ho,hd⟩:=I.cell x c e;obtain⟨m,⟨o',es,ep,ho',hd',_⟩,_⟩:=I.loc;rw[z,ho'] at ho;cases ho;rw[hd'] at hd;cases hd
theorem Inv.tQ(I:Inv X p_ σ H s):s.heap.FunFrames X.base X.outer:=by
 have all:∀(l:List Env),(∀b∈frs l,b∈X.fs)->X.s₀.heap.FunFrames X.base l->s.heap.FunFrames X.base l:=by
  intro l
  induction l with
  |nil=>intro _ _;trivial
  |cons env r ih=>
   intro hs hl;obtain⟨hk,⟨L,o,hf,hn,ho,hd⟩,hr⟩:=hl;have hL:L∈X.fs:=hs L (by unfold frs;rw[qoC,hf];exact qmr);obtain⟨sl,e⟩:=I.base.slot L o ho (I.ok.X8 L hL) hL λz=>I.ok.Mj L z hL;exact⟨hk,⟨L,_,hf,hn,e,hd⟩,ih (λb hb=>hs b (by unfold frs;rw[qoC,hf];exact qmp _ hb)) hr⟩
 exact all X.outer (λ_ hb=>hb) I.ok.tQ
theorem Inv.stack(I:Inv X p_ σ H s):s.heap.FunFrames X.base X.stack:=by
 rcases I.ok.stk with e|⟨e,hf⟩
 ·rw[e];exact I.tQ
 ·rw[e];obtain⟨m,hn,_⟩:=I.loc;refine .cons (by rw[I.ok.kind];decide) hf hn ?_ I.tQ;exact Heap.get?_none_of_le (qme I.ok.TY I.ok.above)
theorem Inv.wD(I:Inv X p_ σ H s):∀b∈frs X.stack,b∈X.env.locals::X.fs:=λb hb=>by
 rcases I.ok.stk with e|⟨e,hf⟩
 ·rw[e] at hb;exact qmp _ hb
 ·rw[e] at hb;unfold frs at hb;rw[qoC,hf] at hb;exact hb
theorem Inv.Bw(I:Inv X p_ σ H s):∀b∈frs X.stack,H b=none:=λb hb=>by
 rcases qmd.mp (I.wD b hb) with e|hb
 ·rw[e];exact I.free
 ·obtain⟨_,o,ho,_⟩:=I.ok.tQ.mem hb;exact I.base.free b o ho (I.ok.X8 b hb) λz=>I.ok.Mj b z hb
theorem Inv.step{g':Array GenState}{t':Nat}{d':Drawn}{ch:List Addr}(I:Inv X p_ σ H s)
  (hch:∀b∈ch,(b∈X.ex\/X.s₀.heap.objs.size<=b)/\b≠X.env.locals/\(∀x c,X.env.cells.lookup x=some c->c≠b)/\∀p∈X.pn++p_,p.1≠b)
  (keep:∀b o,b≠X.env.locals->b∉X.fs->b∉ch->s.heap.get? b=some o->H b=none->h'.get? b=some o)
  (slot:∀b o,b≠X.env.locals->b∈X.fs->b∉ch->s.heap.get? b=some o->H b=none->∃sl,h'.get? b=some {o with slots:=sl}) (free:∀b o,b∉ch->s.heap.get? b=some o->H b=none->H' b=none)
  (there:∀b o,b∉ch->s.heap.get? b=some o->∃o',h'.get? b=some o')
  (tups:∀b xs,H b=some (.tup xs)->H' b=some (.tup xs)) (tM:∀b o u,H b=some (.Mg o u)->H' b=some (.Mg o u)) (tO:∀b ps,H b=some (.xR ps)->∃more,H' b=some (.xR (ps++more)))
  (ns:∀m,s.heap.Ns X.env.locals m->h'.Ns X.env.locals m) (hok:tD X.prog X.w H' h') (hg:AllBare g') :
  Inv X p_ σ H' {s with heap:=h',gens:=g',drawn:=d',toks:=t'}:=by
 have neL:∀b o,X.s₀.heap.get? b=some o->b≠X.env.locals:=λb o e=>qmg (qmf (ql8 e) I.ok.above);have neC:∀b o,X.s₀.heap.get? b=some o->b∉X.ex->b∉ch:=λb o e hx hb=>by
  rcases(hch b hb).1 with z|z
  ·exact hx z
  ·exact absurd (qmf (ql8 e) z) (qm5 _)
 have cellK:∀x c,X.env.cells.lookup x=some c->∀v,s.heap.IsCell c v->h'.IsCell c v:=λx c e v ⟨o,ho,hd⟩=>by
  have nch:c∉ch:=λz=>(hch c z).2.2.1 x c e rfl
  by_cases hc:c∈X.fs
  ·obtain⟨sl,q⟩:=slot c o (I.cne x c e) hc nch ho (I.iW x c e);exact⟨_,q,hd⟩
  ·exact⟨o,keep c o (I.cne x c e) hc nch ho (I.iW x c e),hd⟩
 refine⟨I.ok,I.os,hg,⟨λb o e n hb hx=>?_,λb o e n hb hx=>?_,λb o e n hx=>?_,λb o e hx=>?_,λb xs e=>tups b xs (I.base.tups b xs e),λb o xs e=>tM b o xs (I.base.tM b o xs e),λb ps e=>?_⟩,?_,λx c e=>?_,?_,λx c e=>?_,λp hp=>?_,hok,I.len⟩
 ·exact keep b o (neL b o e) hb (neC b o e hx) (I.base.keep b o e n hb hx) (I.base.free b o e n hx)
 ·obtain⟨sl,e1⟩:=I.base.slot b o e n hb hx;obtain⟨sl',e2⟩:=slot b _ (neL b o e) hb (neC b o e hx) e1 (I.base.free b o e n hx);exact⟨sl',e2⟩
 ·obtain⟨o',e1⟩:=I.base.there b o e hx;exact free b o' (neC b o e hx) e1 (I.base.free b o e n hx)
 ·obtain⟨o',e1⟩:=I.base.there b o e hx;exact there b o' (neC b o e hx) e1
 ·obtain⟨m1,e1⟩:=I.base.tO b ps e;obtain⟨m2,e2⟩:=tO b _ e1;exact⟨m1++m2,by rw[e2,Array.append_assoc]⟩
 ·obtain⟨m,hn,hl⟩:=I.loc;refine⟨m,ns m hn,λi x v e1 e2 e3=>?_⟩;obtain⟨u,r,l⟩:=hl i x v e1 e2 e3;refine⟨u,r,?_⟩
  rcases l with l|⟨k,c,e,z⟩
  ·exact .inl l
  ·exact .inr ⟨k,c,e,cellK x c e _ z⟩
 ·obtain⟨v,z⟩:=I.cell x c e;exact⟨v,cellK x c e v z⟩
 ·obtain⟨m,⟨o,_,_,ho,_⟩,_⟩:=I.loc;exact free _ o (λz=>(hch _ z).2.1 rfl) ho I.free
 ·obtain⟨v,o,ho,hd⟩:=I.cell x c e;exact free c o (λz=>(hch c z).2.2.1 x c e rfl) ho (I.iW x c e)
 ·obtain⟨e,n,ne,nf,d⟩:=I.pin p hp;have nch:p.1∉ch:=λz=>(hch p.1 z).2.2.2 p hp rfl;exact⟨keep p.1 p.2 ne nf nch e n,free p.1 p.2 nch e n,ne,nf,d⟩
theorem Inv.un{t':Nat}(I:Inv X p_ σ H s)(u:Un X.fs [] H H' s.heap h')(hok:tD X.prog X.w H' h'):Inv X p_ σ H' {s with heap:=h',toks:=t'}:=by
 obtain⟨m,⟨o,es,ep,ho,r⟩,_⟩:=id I.loc;obtain⟨sl,hL⟩:=u.any ho I.free (by simp);exact I.step (g':=s.gens) (d':=s.drawn) (ch:=[]) (λ_ z=>nomatch z) (λb o _ hb _ e n=>u.keep b o e n hb (by simp)) (λb o _ hb _ e n=>u.slot b o e n hb (by simp)) (λb o _ e n=>u.free b o e n (by simp)) (λb o _ e=>u.there b o e (by simp)) u.tups u.tM u.tO (λm' hm=>by
  obtain⟨o',es',ep',ho',r'⟩:=hm;rw[ho] at ho';cases ho';exact⟨_,es',ep',hL,r'⟩) hok I.bare
theorem Inv.call{g':Array GenState}{t':Nat}{d':Drawn}{ch:List Addr}(I:Inv X p_ σ H s)(u:Un (frs X.stack) ch H H' s.heap h')(hok:tD X.prog X.w H' h')(hg:AllBare g')
  (hch:∀b∈ch,(b∈X.ex\/X.s₀.heap.objs.size<=b)/\b≠X.env.locals/\(∀x c,X.env.cells.lookup x=some c->c≠b)/\∀p∈X.pn++p_,p.1≠b) :
  Inv X p_ σ H' {s with heap:=h',gens:=g',drawn:=d',toks:=t'}:=by
 obtain⟨m,⟨o,es,ep,ho,r⟩,_⟩:=id I.loc;obtain⟨sl,hL⟩:=u.any ho I.free λz=>(hch _ z).2.1 rfl;exact I.step (ch:=ch) hch (λb o hL hb hc e n=>u.keep b o e n (λz=>(qmd.mp (I.wD b z)).elim hL hb) hc) (λb o _ _ hc e n=>u.any e n hc) (λb o hc e n=>u.free b o e n hc) (λb o hc e=>u.there b o e hc) u.tups u.tM u.tO (λm' hm=>by
  obtain⟨o',es',ep',ho',r'⟩:=hm;rw[ho] at ho';cases ho';exact⟨_,es',ep',hL,r'⟩) hok hg
theorem Inv.turned{t':Nat}{it:Addr}(I:Inv X p_ σ H s)(k:∀b o,b≠it->s.heap.get? b=some o->h'.get? b=some o)(hn:H it=none)(hL:it≠X.env.locals)
  (h1:it∈X.ex\/X.s₀.heap.objs.size<=it) (h2:∀x c,X.env.cells.lookup x=some c->c≠it) (h3:∀p∈X.pn++p_,p.1≠it):Inv X p_ σ H {s with heap:=h',toks:=t'}:=by
 have nit:∀b u,H b=some u->b≠it:=λb u e z=>by rw[z,hn] at e;cases e
 refine I.step (g':=s.gens) (d':=s.drawn) (ch:=[it]) (λb hb=>?_) (λb o _ _ hc e _=>k b o (λz=>hc (by simp[z])) e) (λb o _ _ hc e _=>⟨o.slots,k b o (λz=>hc (by simp[z])) e⟩) (λ_ _ _ _ n=>n)
  (λb o hc e=>⟨o,k b o (λz=>hc (by simp[z])) e⟩) (λ_ _ e=>e) (λ_ _ _ e=>e) (λb ps e=>⟨#[],by rw[e];simp⟩) (λm hm=>?_) (λb u e=>?_) I.bare
 ·have e:b=it:=by simpa using hb
  subst e;exact⟨h1,hL,h2,h3⟩
 ·obtain⟨o,es,ep,ho,r⟩:=hm;exact⟨o,es,ep,k _ o (qnF hL) ho,r⟩
 ·refine(I.hok b u e).stay (λc v hc q=>k c v ?_ q) (λ_ q=>q) λ_ _ q=>q
  rcases hc with z|z
  ·rw[z];exact nit b u e
  ·exact nit c _ z
theorem Inv.tok(I:Inv X p_ σ H s)(t:Nat):Inv X p_ σ H {s with toks:=t}:=I.un (h':=s.heap) (t':=t) Un.refl I.hok
theorem Inv.kept{t':Nat}(I:Inv X p_ σ H s)(k:∀b u,s.heap.get? b=some u->h'.get? b=some u):Inv X p_ σ H {s with heap:=h',toks:=t'}:=I.un (Un.kept k) (I.hok.kept k)
theorem Inv.laid{a:Addr}{o:HO}{t':Nat}(I:Inv X p_ σ H s)(k:∀b u,s.heap.get? b=some u->h'.get? b=some u)(hp:s.heap.objs.size<=a)(new:cD X.prog X.w (upd H a o) h' a o) :
  Inv X p_ σ (upd H a o) {s with heap:=h',toks:=t'}:=I.un (Un.laid k hp (I.hok.fresh hp)) (I.hok.laid k hp new)
theorem Inv.write{x e:Addr}{o:HO}{t':Nat}(I:Inv X p_ σ H s)(mu:Mut (H x))(he:e=x\/H e=some (.own x))(k:∀b u,b≠e->s.heap.get? b=some u->h'.get? b=some u)(heo:∃u,h'.get? e=some u)
  (new:cD X.prog X.w (upd H x o) h' x o):Inv X p_ σ (upd H x o) {s with heap:=h',toks:=t'}:=I.un (Un.write mu he k heo) (I.hok.write mu he k heo new)
theorem Inv.T3{Cv:QAC}(I:Inv X p_ σ H s)(h:∀p∈Cv,s.heap.get? p.1=some p.2/\H p.1=none/\p.1≠X.env.locals/\p.1∉X.fs/\∀v,p.2.data≠.cell v):Inv X Cv σ H s:=
 ⟨I.ok,I.os,I.bare,I.base,I.loc,I.cell,I.free,I.iW,λp hp=>(qmm.mp hp).elim (λz=>I.pin p (qmt _ z)) (h p),I.hok,I.len⟩
theorem Cw{N:QAH}(hN:N.Nodup){i j:Nat}{x:Str}(a:N[i]? = some x)(b:N[j]? = some x):i=j:=by
 obtain⟨h1,e1⟩:=ql2.mp a;obtain⟨h2,e2⟩:=ql2.mp b;exact(List.getElem_inj hN).mp (e1.trans e2.symm)
theorem u9{M:Model}{A:Around}{E:QAB}{i:Nat}{x:Str}{v:V}{u:Value}{Q:Unit->Shared->Prop}(I:Inv X p_ σ H s)(hN:X.N.Nodup)(hi:X.N[i]? = some x)(hx:Loc X.env.scope x)(r:RelV v u)
  (h:∀s',Inv X p_ (σ.set i (some v)) H s'->(∃a,Heap.SameBut a s.heap s'.heap/\(a=X.env.locals\/X.env.cells.lookup x=some a))->Q () s') (hf:X.fn x=true\/X.env.scope.names.lookup x=some .local:=by first|exact .inl rfl|exact .inr rfl|assumption):wpAny M A (storeName X.env x u) Q E s:=by
 obtain⟨m,hn,hl⟩:=id I.loc;have hcls:(X.env.scope.kind == .class || (X.env.scope.kind == .module && X.env.locals != X.env.globals))=false:=by rw[I.ok.kind];rfl
 have hiσ:i<σ.length:=by rw[I.len];exact(ql2.mp hi).1
 have cne:=I.cne;have tracked:∀{a:Addr}{h':Heap},(∃o,s.heap.get? a=some o/\H a=none)->Heap.SameBut a s.heap h'->tD X.prog X.w H h':=λ{a h'} ha hs b ob e=>by
  obtain⟨_,_,hfree⟩:=ha;refine(I.hok b ob e).stay (λc w' hc q=>(hs.2 c ?_).trans q) (λ_ q=>q) λ_ _ q=>q;rintro rfl
  rcases hc with rfl|hc
  ·rw[hfree] at e;cases e
  ·rw[hfree] at hc;cases hc
 rcases hx with hk|hk
 ·refine wpAny_storeName_local hk hn (λh' hn' hs=>?_) hcls;obtain⟨oL,_,_,hoL,_⟩:=id hn;refine h _ ⟨I.ok,I.os,I.bare,⟨λb o e n hb hx=>?_,λb o e n hb hx=>?_,I.base.free,λb o e hx=>?_,I.base.tups,I.base.tM,I.base.tO⟩,⟨_,hn',λj y v' e1 e2 e3=>?_⟩,λy c e=>?_,I.free,I.iW,λp hp=>?_,tracked ⟨oL,hoL,I.free⟩ hs,by simpa using I.len⟩ ⟨_,hs,.inl rfl⟩
  ·exact(hs.2 b (qmg (qmf (ql8 e) I.ok.above))).trans (I.base.keep b o e n hb hx)
  ·obtain⟨sl,e1⟩:=I.base.slot b o e n hb hx;exact⟨sl,(hs.2 b (qmg (qmf (ql8 e) I.ok.above))).trans e1⟩
  ·obtain⟨o',e1⟩:=I.base.there b o e hx;exact⟨o',(hs.2 b (qmg (qmf (ql8 e) I.ok.above))).trans e1⟩
  ·by_cases hj:j=i
   ·subst hj;rw[hi] at e1;cases e1;rw[qod hiσ] at e2;cases e2;exact⟨u,r,.inl ⟨hk,by simp⟩⟩
   ·rw[List.getElem?_set_ne (qnF hj)] at e2;obtain⟨u',r',q⟩:=hl j y v' e1 e2 e3;refine⟨u',r',?_⟩
    rcases q with⟨k,e⟩|⟨k,c,e,z⟩
    ·refine .inl ⟨k,?_⟩;have:y≠x:=λe=>hj (Cw hN e1 (e▸hi));simp[this,e]
    ·exact .inr ⟨k,c,e,z.sameBut hs (cne y c e)⟩
  ·obtain⟨w',z⟩:=I.cell y c e;exact⟨w',z.sameBut hs (cne y c e)⟩
  ·obtain⟨e,n,ne,nf,d⟩:=I.pin p hp;exact⟨(hs.2 p.1 ne).trans e,n,ne,nf,d⟩
 ·have hfn:X.fn x=true:=by
   rcases hf with z|z
   ·exact z
   ·rw[z] at hk;cases hk
  obtain⟨c,hc⟩:=I.ok.has x (.inl hk);obtain⟨w',z⟩:=I.cell x c hc;refine wpAny_storeName_cell I.ok.kind hk hc z (λh' hc' hs=>?_);obtain⟨oc,hoc,qjH⟩:=id z;refine h {s with heap:=h'} ⟨I.ok,I.os,I.bare,⟨λb o e n hb hx=>?_,λb o e n hb hx=>?_,I.base.free,λb o e hx=>?_,I.base.tups,I.base.tM,I.base.tO⟩,⟨m,hn.sameBut hs (qnF (cne x c hc)),λj y v' e1 e2 e3=>?_⟩,λy c' e=>?_,I.free,I.iW,λp hp=>?_,tracked ⟨oc,hoc,I.iW x c hc⟩ hs,by simpa using I.len⟩ ⟨c,hs,.inr hc⟩
  ·exact(hs.2 b (qmg (qmf (ql8 e) (I.ok.cab x c hfn hc)))).trans (I.base.keep b o e n hb hx)
  ·obtain⟨sl,e1⟩:=I.base.slot b o e n hb hx;exact⟨sl,(hs.2 b (qmg (qmf (ql8 e) (I.ok.cab x c hfn hc)))).trans e1⟩
  ·obtain⟨o',e1⟩:=I.base.there b o e hx;exact⟨o',(hs.2 b (qmg (qmf (ql8 e) (I.ok.cab x c hfn hc)))).trans e1⟩
  ·by_cases hj:j=i
   ·subst hj;rw[hi] at e1;cases e1;rw[qod hiσ] at e2;cases e2;exact⟨u,r,.inr ⟨.inl hk,c,hc,hc'⟩⟩
   ·rw[List.getElem?_set_ne (qnF hj)] at e2;obtain⟨u',r',q⟩:=hl j y v' e1 e2 e3;refine⟨u',r',?_⟩
    rcases q with q|⟨k,c',e,z'⟩
    ·exact .inl q
    ·refine .inr ⟨k,c',e,z'.sameBut hs ?_⟩;rintro rfl;exact hj (Cw hN e1 (I.ok.inj _ _ _ e hc▸hi))
  ·by_cases hcc:c'=c
   ·subst hcc;exact⟨_,hc'⟩
   ·obtain⟨w2,z2⟩:=I.cell y c' e;exact⟨w2,z2.sameBut hs hcc⟩
  ·obtain⟨e,n,ne,nf,d⟩:=I.pin p hp;refine⟨(hs.2 p.1 ?_).trans e,n,ne,nf,d⟩;intro q;rw[q,hoc] at e;have q':oc=p.2:=qmB e;exact d w' (by rw[<- q'];exact qjH)
theorem Cy{M:Model}{A:Around}{E:QAB}{i:Nat}{x:Str}{v:V}{u:Value}{Q:Unit->Shared->Prop}(I:Inv X p_ σ H s)(hN:X.N.Nodup)(hi:X.N[i]? = some x)(hx:Loc X.env.scope x)(r:RelV v u)
  (h:∀s',Inv X p_ (σ.set i (some v)) H s'->Q () s') (hf:X.fn x=true\/X.env.scope.names.lookup x=some .local:=by first|exact .inl rfl|exact .inr rfl|assumption):wpAny M A (storeName X.env x u) Q E s:=
 u9 I hN hi hx r (λs' I' _=>h s' I') hf
theorem Inv.call'{s':Shared}{ch:List Addr}(I:Inv X p_ σ H s)(ho:s'.os=s.os)(u:Un (frs X.stack) ch H H' s.heap s'.heap)(hok:tD X.prog X.w H' s'.heap)(hg:AllBare s'.gens)
  (hch:∀b∈ch,(b∈X.ex\/X.s₀.heap.objs.size<=b)/\b≠X.env.locals/\(∀x c,X.env.cells.lookup x=some c->c≠b)/\∀p∈X.pn++p_,p.1≠b):Inv X p_ σ H' s':=by
 obtain⟨h',g',d',t',o'⟩:=s';have e:o'=s.os:=ho;subst e;exact I.call (g':=g') (t':=t') (d':=d') u hok hg hch
end
abbrev XK:=Value->Option Addr->Hp->Prop
abbrev St:=List (Option V)
abbrev VK:=V->Hp->Prop
abbrev TE:=St->Hp->VK->Prop
abbrev TT:=St->Hp->(Bool->Hp->Prop)->Prop
abbrev TA:=St->Hp->(List V->Hp->Prop)->Prop
structure Ends where
 nx:St->Hp->Prop
 rt:VK
 bk:St->Hp->Prop:=λ_ _=>False
 ct:St->Hp->Prop:=λ_ _=>False
abbrev TS:=Ends->St->Hp->Prop
def EP(X:Cx)(p_:QAC)(σ:St)(Q:VK)(u:Value)(s':Shared):Prop:=∃v H',Inv X p_ σ H' s'/\RelV v u/\Q v H'
def TP(X:Cx)(p_:QAC)(σ:St)(Q:Bool->Hp->Prop)(b:Bool)(s':Shared):Prop:=∃H',Inv X p_ σ H' s'/\Q b H'
def AP(X:Cx)(p_:QAC)(σ:St)(Q:List V->Hp->Prop)(us:QAE)(s':Shared):Prop:=∃vs H',Inv X p_ σ H' s'/\Vals vs us/\Q vs H'
def SP(X:Cx)(p_:QAC)(D:Ends)(f:Flow)(s':Shared):Prop:=
 match f with
 |.next=>∃σ' H',Inv X p_ σ' H' s'/\D.nx σ' H'
 |.brk=>∃σ' H',Inv X p_ σ' H' s'/\D.bk σ' H'
 |.cont=>∃σ' H',Inv X p_ σ' H' s'/\D.ct σ' H'
 |.ret u=>∃v σ' H',Inv X p_ σ' H' s'/\RelV v u/\D.rt v H'
def PE(X:Cx)(e:Expr)(t:TE):Prop:=
 ∀(p_:QAC)(s:Shared)(σ:St)(H:Hp)(Q:VK),Inv X p_ σ H s->t σ H Q->wpAny (model X.prog X.w) X.A (eval e X.env) (EP X p_ σ Q) X.xe s
def PT(X:Cx)(e:Expr)(t:TT):Prop:=
 ∀(p_:QAC)(s:Shared)(σ:St)(H:Hp)(Q:Bool->Hp->Prop),Inv X p_ σ H s->t σ H Q->wpAny (model X.prog X.w) X.A (isTrue e X.env (eval e X.env)) (TP X p_ σ Q) X.xe s
def PW(X:Cx)(e:Expr)(t:TT):Prop:=
 ∀(whole:Sem Value)(p_:QAC)(s:Shared)(σ:St)(H:Hp)(Q:Bool->Hp->Prop),Inv X p_ σ H s->t σ H Q->wpAny (model X.prog X.w) X.A (isTrue e X.env whole) (TP X p_ σ Q) X.xe s
theorem PW.pt{X:Cx}{e:Expr}{t:TT}(h:PW X e t):PT X e t:=h _
def PA(X:Cx)(es:List Expr)(t:TA):Prop:=
 ∀(pos:Pos)(p_:QAC)(s:Shared)(σ:St)(H:Hp)(Q:List V->Hp->Prop),Inv X p_ σ H s->t σ H Q->wpAny (model X.prog X.w) X.A (spliced (backTo pos (starEach es X.env))) (AP X p_ σ Q) X.xe s
def PS(X:Cx)(st:Stmt)(t:TS):Prop:=
 ∀(p_:QAC)(s:Shared)(σ:St)(H:Hp)(D:Ends),Inv X p_ σ H s->t D σ H->wpAny (model X.prog X.w) X.A (exec st X.env) (SP X p_ D) X.xe s
def Ge(X:Cx)(st:List Stmt)(t:TS):Prop:=
 ∀(p_:QAC)(s:Shared)(σ:St)(H:Hp)(D:Ends),Inv X p_ σ H s->t D σ H->wpAny (model X.prog X.w) X.A (execs st X.env) (SP X p_ D) X.xe s
theorem cT{α:Type}{t:Sem α}{Q Q':α->Shared->Prop}{M:Model}{A:Around}{E:QAB}{s:Shared}(h:wpAny M A t Q E s)(hQ:∀a s,Q a s->Q' a s):wpAny M A t Q' E s:=qmV h hQ λ_ _ x=>x
section
variable {X:Cx}
def qbH(i:Nat):TE:=λσ H Q=>∃v,σ[i]? = some (some v)/\Q v H
def tC(v:V):TE:=λ_ H Q=>Q v H
theorem Yl{i:Nat}{x:Str}{pos:Pos}(hN:X.N[i]? = some x)(hv:Vis X.env.scope x) (hd:(x == ("__debug__" : Str))=false:=by decide) (hcd:(x == ("__classdict__" : Str))=false:=by decide):PE X (.Name x pos) (qbH i):=by
 intro p_ s σ H Q I h;obtain⟨v,e,h⟩:=h;obtain⟨m,hn,hl⟩:=I.loc;obtain⟨u,r,l⟩:=hl i x v hN e hv;have fin:EP X p_ σ Q u s:=⟨v,H,I,r,h⟩
 rcases l with⟨hk,hm⟩|⟨hk,c,hc,hcell⟩
 ·exact wpAny_Name (wpAny_loadName_local I.ok.kind hk hn hm fin) hd
 ·rcases hk with hk|hk
  ·exact wpAny_Name (wpAny_loadName_cell I.ok.kind hk hc hcell fin) hd
  ·exact wpAny_Name (wpAny_loadName_free I.ok.kind hk hc hcell fin hcd) hd
theorem aG{i j pos}:PE X (.Constant (.int i) j pos) (tC (.int i)):=λ_ _ _ H _ I h=>wpAny_Constant_int ⟨.int i,H,I.tok _,⟨_,rfl⟩,h⟩
theorem qM{b j pos}:PE X (.Constant (.bool b) j pos) (tC (.bl b)):=λ_ _ _ H _ I h=>Constant_bool ⟨.bl b,H,I,rfl,h⟩
theorem tZ{j pos}:PE X (.Constant .none j pos) (tC .non):=λ_ _ _ H _ I h=>Constant_none ⟨.non,H,I,rfl,h⟩
theorem eF{x j pos}:PE X (.Constant (.str x) j pos) (tC (.str x)):=λ_ _ _ H _ I h=>Calls.Constant_str ⟨.str x,H,I.tok _,⟨_,rfl⟩,h⟩
def Gl(X:Cx)(x:Str):Prop:=X.env.kindOf x=some .globalImplicit
theorem m8{E:QAB}{p_:QAC}{s:Shared}{σ:St}{H:Hp}{x:Str}{u:Value}{pos:Pos}{Q:QAB}(I:Inv X p_ σ H s)(hg:Gl X x)(hm:X.mg x=some u)(h:Q u s)
  (hd:(x == ("__debug__" : Str))=false:=by decide):wpAny (model X.prog X.w) X.A (eval (.Name x pos) X.env) Q E s:=
 Calls.Name_function_global I.ok.kind hg (Calls.loadGlobal_global (by rw[I.ok.glob];exact I.mod.glob.keeps I.bk) hm h) hd
theorem qj{E:QAB}{p_:QAC}{s:Shared}{σ:St}{H:Hp}{x:Str}{u:Value}{pos:Pos}{Q:QAB}(I:Inv X p_ σ H s)(hg:Gl X x)(hm:X.mg x=none)(hv:bootBuiltins x=some u)(h:Q u s)
  (hn:x≠ "__name__" :=by decide) (hd:(x == ("__debug__" : Str))=false:=by decide):wpAny (model X.prog X.w) X.A (eval (.Name x pos) X.env) Q E s:=by
 obtain⟨mb,h1,h2⟩:=I.mod.blt;exact Calls.Name_function_global I.ok.kind hg (Calls.loadGlobal_builtin (by rw[I.ok.glob];exact I.mod.glob.keeps I.bk) hm (by rw[I.ok.blt];exact h1.keeps I.bk) ((h2 x hn).trans hv) h) hd
theorem cU{x:Str}{v:V}{u:Value}{pos:Pos}(hg:Gl X x)(hm:X.mg x=some u)(r:RelV v u) (hd:(x == ("__debug__" : Str))=false:=by decide):PE X (.Name x pos) (tC v):=
 λ_ _ _ H _ I h=>m8 I hg hm ⟨v,H,I,r,h⟩ hd
theorem oX{x:Str}{v:V}{u:Value}{pos:Pos}(hg:Gl X x)(hm:X.mg x=none)(hv:bootBuiltins x=some u)(r:RelV v u) (hn:x≠ "__name__" :=by decide) (hd:(x == ("__debug__" : Str))=false:=by decide):PE X (.Name x pos) (tC v):=
 λ_ _ _ H _ I h=>qj I hg hm hv ⟨v,H,I,r,h⟩ hn hd
variable {a b:Expr}{ta tb:TE}{pos:Pos}
def PC(X:Cx)(op:CmpOp)(a b:Expr)(t:TE):Prop:=
 ∀(p_:QAC)(s:Shared)(σ:St)(H:Hp)(Q:VK),Inv X p_ σ H s->t σ H Q->
  wpAny (model X.prog X.w) X.A (eval a X.env) (λv s₁=>wpAny (model X.prog X.w) X.A (eval b X.env) (λu s₂=>wpAny (model X.prog X.w) X.A (compareOp op v u) (EP X p_ σ Q) X.xe s₂) X.xe s₁) X.xe s
theorem Ml(b:Expr){op:CmpOp}(h:op≠.In)(h2:op≠.NotIn):behindInMarks op b=false:=by
 have e1:(op == CmpOp.In)=false:=by cases op <;> first|rfl|exact absurd rfl h
 have e2:(op == CmpOp.NotIn)=false:=by cases op <;> first|rfl|exact absurd rfl h2
 cases b <;> simp[behindInMarks,e1,e2]
def tB(t:TE):TT:=λσ H Q=>t σ H λx H1=>∃c,x = .bl c/\Q c H1
theorem qd1{op:CmpOp}{t:TE}(h:PC X op a b t)(h1:behindInMarks op b=false:=by first|exact Ml _ (by decide) (by decide)|rfl):PT X (.Compare a [op] [b] pos) (tB t):=by
 intro p_ s σ H Q I hw;refine wpAny_isTrue_Compare1 (cT (h p_ s σ H _ I hw) λv s1 h1=>cT h1 λu s2 h2=>cT h2 λc s3 zz=>?_) h1;obtain⟨x,H1,I1,r1,q1⟩:=zz;obtain⟨d,rfl,q⟩:=q1;cases r1;exact qnb ⟨H1,I1,q⟩
theorem qd2{e:Expr}{t:TE}(h:PE X e t)(he:∀whole,isTrue e X.env whole=(do let v <- whole;standAt e.pos;holding [v] (truthy v)):=by intro _;rfl):PT X e (tB t):=by
 intro p_ s σ H Q I hw;refine isTrue_plain (cT (h p_ s σ H _ I hw) λv s1 zz=>?_) (he _);obtain⟨x,H1,I1,r1,q1⟩:=zz;obtain⟨d,rfl,q⟩:=q1;cases r1;exact qnb ⟨H1,I1,q⟩
variable {tA tB':TT}{rest:List Expr}
def qgd(t u:TT):TT:=λσ H Q=>t σ H λc H1=>if c=true then u σ H1 Q else Q false H1
def tOr(t u:TT):TT:=λσ H Q=>t σ H λc H1=>if c=true then Q true H1 else u σ H1 Q
def qge(t:TT):TT:=λσ H Q=>t σ H λc H1=>Q (!c) H1
theorem Bx(ha:PT X a tA):PW X (.BoolOp .And [a] pos) tA:=by
 intro wh p_ s σ H Q I h;refine isTrue_and (cT (ha p_ s σ H Q I h) λc s1 e=>?_);cases c with
 |true=>exact isTrue_and_nil e
 |false=>exact e
theorem rB(ha:PT X a tA):PW X (.BoolOp .Or [a] pos) tA:=by
 intro wh p_ s σ H Q I h;refine isTrue_or (cT (ha p_ s σ H Q I h) λc s1 e=>?_);cases c with
 |false=>exact isTrue_or_nil e
 |true=>exact e
theorem zu(ha:PT X a tA)(hb:PW X (.BoolOp .And (b::rest) pos) tB'):PW X (.BoolOp .And (a::b::rest) pos) (qgd tA tB'):=by
 intro wh p_ s σ H Q I h;refine isTrue_and (cT (ha p_ s σ H _ I h) λc s1 zz=>?_);obtain⟨H1,I1,q1⟩:=zz;cases c with
 |true=>exact hb wh p_ s1 σ H1 Q I1 q1
 |false=>exact⟨H1,I1,q1⟩
theorem vP(ha:PT X a tA)(hb:PW X (.BoolOp .Or (b::rest) pos) tB'):PW X (.BoolOp .Or (a::b::rest) pos) (tOr tA tB'):=by
 intro wh p_ s σ H Q I h;refine isTrue_or (cT (ha p_ s σ H _ I h) λc s1 zz=>?_);obtain⟨H1,I1,q1⟩:=zz;cases c with
 |true=>exact⟨H1,I1,q1⟩
 |false=>exact hb wh p_ s1 σ H1 Q I1 q1
theorem f9(ha:PT X a tA):PT X (.UnaryOp .Not a pos) (qge tA):=by
 intro p_ s σ H Q I h;exact isTrue_not (ha p_ s σ H (λc H1=>Q (!c) H1) I h)
def Ym(ta tb:TE):TE:=λσ H Q=>ta σ H λx H1=>∃c,x = .bl c/\if c=true then tb σ H1 Q else Q (.bl false) H1
def Yn(ta:TE):TE:=λσ H Q=>ta σ H λx H1=>∃c,x = .bl c/\Q (.bl (!c)) H1
theorem Jl{op}{t:TE}(h:PE X a t):PE X (.BoolOp op [a] pos) t:=λp_ s σ H Q I hw=>BoolOp_one (h p_ s σ H Q I hw)
theorem qd3(ha:PE X a ta)(hb:PE X (.BoolOp .And (b::rest) pos) tb):PE X (.BoolOp .And (a::b::rest) pos) (Ym ta tb):=by
 intro p_ s σ H Q I h;refine BoolOp_and (cT (ha p_ s σ H _ I h) λv s1 zz=>?_);obtain⟨x,H1,I1,r1,q1⟩:=zz;obtain⟨c,rfl,q1⟩:=q1;cases r1;refine qnb ?_;cases c with
 |true=>exact hb p_ s1 σ H1 Q I1 q1
 |false=>exact⟨.bl false,H1,I1,rfl,q1⟩
theorem qd4(ha:PE X a ta):PE X (.UnaryOp .Not a pos) (Yn ta):=by
 intro p_ s σ H Q I h;refine UnaryOp_ (cT (ha p_ s σ H _ I h) λv s1 zz=>?_);obtain⟨x,H1,I1,r1,q1⟩:=zz;obtain⟨c,rfl,q1⟩:=q1;cases r1;exact not_of (qnb ⟨.bl (!c),H1,I1,rfl,q1⟩)
def tIf(t:TT)(ta tb:TE):TE:=λσ H Q=>t σ H λc H1=>if c=true then ta σ H1 Q else tb σ H1 Q
theorem Yo{c:Expr}(hc:PT X c tA)(ha:PE X a ta)(hb:PE X b tb):PE X (.IfExp c a b pos) (tIf tA ta tb):=by
 intro p_ s σ H Q I h;refine wpAny_IfExp (cT (hc p_ s σ H _ I h) λd s1 zz=>?_);obtain⟨H1,I1,q1⟩:=zz;cases d with
 |true=>exact ha p_ s1 σ H1 Q I1 q1
 |false=>exact hb p_ s1 σ H1 Q I1 q1
end
def aW(K:W.Frag)(H:Hp)(a:Addr)(xs:List V):Prop:=
 Rd H a (.lst xs)\/
  ∃(o:Obj)(its:Array Value)(n:Nat),K.lookup a=some o/\o.cls = .type "list" /\o.dict=none/\o.data = .seq its n/\its.size<=sizeLine/\Vals xs its.toList
def eG(K:W.Frag)(H:Hp)(a:Addr)(xs:List V):Prop:=
 Rd H a (.tup xs)\/
  ∃(o:Obj)(its:Array Value)(n:Nat),K.lookup a=some o/\o.cls = .type "tuple" /\o.data = .seq its n/\its.size<=sizeLine/\Vals xs its.toList
def qjI:Value->Option V
 |.none=>some .non
 |.bool b=>some (.bl b)
 |.int i _=>some (.int i)
 |.str x _=>some (.str x)
 |.bytes b _=>some (.X7 b)
 |.float b _=>some (.flt b)
 |.ref a=>some (.ref a)
 |.type n=>some (.ty n)
 |_=>none
theorem RelV.abs{x:V}{u:Value}(r:RelV x u):qjI u=some x:=by
 cases x with
 |non=>cases r;rfl
 |bl _=>cases r;rfl
 |int _=>obtain⟨t,rfl⟩:=r;rfl
 |str _=>obtain⟨t,rfl⟩:=r;rfl
 |X7 _=>obtain⟨t,rfl⟩:=r;rfl
 |flt _=>obtain⟨t,rfl⟩:=r;rfl
 |ref _=>cases r;rfl
 |ty _=>cases r;rfl
theorem RelV.inj{x y:V}{u:Value}(r:RelV x u)(q:RelV y u):x=y:=qmB (r.abs.symm.trans q.abs)
theorem Vals.inj:∀{xs ys:List V}{us:QAE},Vals xs us->Vals ys us->xs=ys
 |_,_,_,.nil,.nil=>rfl
 |_,_,_,.cons r t,.cons r' t'=>by rw[r.inj r',Vals.inj t t']
section
variable {X:Cx}{p_:QAC}{σ:St}{H:Hp}{s:Shared}{a:Addr}{xs ys:List V}
theorem aW.of{K:W.Frag}(h:H a=some (.lst xs)):aW K H a xs:=.inl (.inl h)
theorem eG.of{K:W.Frag}(h:H a=some (.tup xs)):eG K H a xs:=.inl (.inl h)
theorem Inv.list(I:Inv X p_ σ H s)(h:aW X.K H a xs):∃its:QAE,Vals xs its/\PlainL s.heap a its.toArray/\xs.length<=sizeLine:=by
 rcases h with h|⟨o,its,n,hk,hc,hd,hs,hz,r⟩
 ·obtain⟨z,its,n,r,e⟩:=h.ok I.hok;exact⟨its,r,⟨_,n,e,rfl,rfl,rfl⟩,z⟩
 ·refine⟨its.toList,r,⟨o,n,I.oU a o hk,hc,hd,by simpa using hs⟩,?_⟩;have e:=r.length;simp only[qna] at e;omega
theorem Inv.tuple(I:Inv X p_ σ H s)(h:eG X.K H a xs):∃its:QAE,Vals xs its/\IsTup s.heap a its.toArray/\xs.length<=sizeLine:=by
 rcases h with h|⟨o,its,n,hk,hc,hs,hz,r⟩
 ·obtain⟨z,its,r,p⟩:=h.ok I.hok;exact⟨its,r,p,z⟩
 ·refine⟨its.toList,r,⟨o,I.oU a o hk,hc,n,by simpa using hs⟩,?_⟩;have e:=r.length;simp only[qna] at e;omega
theorem Inv.xU(I:Inv X p_ σ H s)(h:aW X.K H a xs)(h':aW X.K H a ys):xs=ys:=by
 obtain⟨its,r,⟨o,n,e,_,_,d⟩,_⟩:=I.list h;obtain⟨its',r',⟨o',n',e',_,_,d'⟩,_⟩:=I.list h';rw[e] at e';cases e';rw[d] at d';injection d' with d1 _;have:its=its':=by simpa using qmA Array.toList d1
 subst this;exact r.inj r'
theorem Inv.Vt(I:Inv X p_ σ H s)(h:eG X.K H a xs)(h':eG X.K H a ys):xs=ys:=by
 obtain⟨its,r,⟨o,e,_,n,d⟩,_⟩:=I.tuple h;obtain⟨its',r',⟨o',e',_,n',d'⟩,_⟩:=I.tuple h';rw[e] at e';cases e';rw[d] at d';injection d' with d1 _;have:its=its':=by simpa using qmA Array.toList d1
 subst this;exact r.inj r'
end
abbrev Cx.wish(X:Cx)(E:QAB):Cx:={X with xe:=E}
abbrev Cx.T8(X:Cx):Cx:=X.wish λ_ _=>False
theorem Cx.Ok.wish{X:Cx}(ok:X.Ok)(E:QAB):(X.wish E).Ok:=
 ⟨ok.mod,ok.kind,ok.glob,ok.blt,ok.above,ok.inj,ok.has,ok.cab,ok.hd,ok.frames,ok.stk,ok.exf,ok.bs,ok.TY,ok.Mi,ok.Mj,ok.tQ,ok.X8⟩
theorem Cx.Ok.t_{X:Cx}{E:QAB}(ok:(X.wish E).Ok):X.Ok:=
 ⟨ok.mod,ok.kind,ok.glob,ok.blt,ok.above,ok.inj,ok.has,ok.cab,ok.hd,ok.frames,ok.stk,ok.exf,ok.bs,ok.TY,ok.Mi,ok.Mj,ok.tQ,ok.X8⟩
section
variable {X:Cx}{p_:QAC}{σ:St}{H:Hp}{s:Shared}{E:QAB}
theorem Inv.wish(I:Inv X p_ σ H s)(E:QAB):Inv (X.wish E) p_ σ H s:=⟨I.ok.wish E,I.os,I.bare,I.base,I.loc,I.cell,I.free,I.iW,I.pin,I.hok,I.len⟩
theorem Inv.t_(I:Inv (X.wish E) p_ σ H s):Inv X p_ σ H s:=⟨I.ok.t_,I.os,I.bare,I.base,I.loc,I.cell,I.free,I.iW,I.pin,I.hok,I.len⟩
theorem SP.t_{D:Ends}{f:Flow}{s':Shared}(h:SP (X.wish E) p_ D f s'):SP X p_ D f s':=by
 cases f with
 |next=>obtain⟨σ',H',I,q⟩:=h;exact⟨σ',H',I.t_,q⟩
 |brk=>obtain⟨σ',H',I,q⟩:=h;exact⟨σ',H',I.t_,q⟩
 |cont=>obtain⟨σ',H',I,q⟩:=h;exact⟨σ',H',I.t_,q⟩
 |ret u=>obtain⟨v,σ',H',I,r,q⟩:=h;exact⟨v,σ',H',I.t_,r,q⟩
theorem Ge.T8{st:List Stmt}{t:TS}(h:Ge X.T8 st t):Ge X st t:=λp_ s σ H D I hw=>
 qmV (h p_ s σ H D (I.wish _) hw) (λ_ _ q=>q.t_) λ_ _ z=>False.elim z
end
section
variable {X:Cx}{st:Stmt}{rest:List Stmt}{t u:TS}{e:Expr}{te:TE}{pos:Pos}
def qdc:TS:=λD σ H=>D.nx σ H
def qbI(t u:TS):TS:=λD σ H=>t {D with nx:=u D} σ H
theorem bC:Ge X [] qdc:=λ_ _ σ H _ I h=>wpAny_execs_nil ⟨σ,H,I,h⟩
theorem aC(h1:PS X st t)(h2:Ge X rest u):Ge X (st::rest) (qbI t u):=by
 intro p_ s σ H D I h;refine wpAny_execs_cons (cT (h1 p_ s σ H {D with nx:=u D} I h) λf s1 q=>?_);cases f with
 |next=>
  obtain⟨σ',H',I',q⟩:=q;exact h2 p_ s1 σ' H' D I' q
 |ret v=>exact q
 |brk=>exact q
 |cont=>exact q
theorem aF(h1:PS X st t):Ge X [st] t:=by
 intro p_ s σ H D I h;refine wpAny_execs_cons (cT (h1 p_ s σ H D I h) λf s1 q=>?_);cases f with
 |next=>exact wpAny_execs_nil q
 |ret v=>exact q
 |brk=>exact q
 |cont=>exact q
theorem Inv.quiet{p_:QAC}{σ:St}{H:Hp}{s:Shared}(I:Inv X p_ σ H s):interactive X.env=false:=by simp[interactive,I.ok.kind]
def qdd(te:TE):TS:=λD σ H=>te σ H λ_ H1=>D.nx σ H1
theorem eU(he:PE X e te)(hs:swapsWith e none pos.line X.env=pure false:=by rfl):PS X (.Expr e pos) (qdd te):=by
 intro p_ s σ H D I h;refine wpAny_Expr_any (cT (he p_ s σ H _ I h) λv s1 zz=>?_) I.quiet hs;obtain⟨x,H1,I1,r1,q1⟩:=zz;exact⟨σ,H1,I1,q1⟩
def qd5(te:TE):TS:=λD σ H=>te σ H D.rt
theorem aZ(he:PE X e te):PS X (.Return (some e) pos) (qd5 te):=by
 intro p_ s σ H D I h;refine wpAny_Return_some (cT (he p_ s σ H _ I h) λv s1 zz=>?_);obtain⟨x,H1,I1,r1,q1⟩:=zz;exact⟨x,σ,H1,I1,r1,q1⟩
def qbJ(c:TT)(t u:TS):TS:=λD σ H=>c σ H λb H1=>if b=true then t D σ H1 else u D σ H1
theorem cP{c:Expr}{a b:List Stmt}{tc:TT}(hc:PT X c tc)(ha:Ge X a t)(hb:Ge X b u):PS X (.If c a b pos) (qbJ tc t u):=by
 intro p_ s σ H D I h;refine wpAny_If (cT (hc p_ s σ H _ I h) λd s1 zz=>?_);obtain⟨H1,I1,q1⟩:=zz;cases d with
 |true=>exact ha p_ s1 σ H1 D I1 q1
 |false=>exact hb p_ s1 σ H1 D I1 q1
def Yp:TS:=λ_ _ _=>False
theorem qN:PS X st Yp:=λ_ _ _ _ _ _ h=>h.elim
end
abbrev TG:=V->St->Hp->(St->Hp->Prop)->Prop
abbrev L_:=List V->St->Hp->(St->Hp->Prop)->Prop
def PG(X:Cx)(target:Expr)(t:TG):Prop:=
 ∀(p_:QAC)(s:Shared)(σ:St)(H:Hp)(v:V)(u:Value)(Q:St->Hp->Prop),Inv X p_ σ H s->RelV v u->t v σ H Q->
  wpAny (model X.prog X.w) X.A (assign target X.env u) (λ_ s'=>∃σ' H',Inv X p_ σ' H' s'/\Q σ' H') X.xe s
def lH(X:Cx)(ts:List Expr)(t:L_):Prop:=
 ∀(p_:QAC)(s:Shared)(σ:St)(H:Hp)(vs:List V)(us:QAE)(Q:St->Hp->Prop),Inv X p_ σ H s->Vals vs us->t vs σ H Q->
  wpAny (model X.prog X.w) X.A (assignInOrder ((assignEach ts X.env).map (·.2)) us) (λ_ s'=>∃σ' H',Inv X p_ σ' H' s'/\Q σ' H') X.xe s
abbrev Vu:=V->V->V->Hp->(Hp->Prop)->Prop
def Vv(X:Cx)(t:Vu):Prop:=
 ∀(p_:QAC)(s:Shared)(σ:St)(H:Hp)(o i v:V)(ov iv u:Value)(Q:Hp->Prop),Inv X p_ σ H s->RelV o ov->RelV i iv->RelV v u->t o i v H Q->
  wpAny (model X.prog X.w) X.A (setItem ov iv u) (λ_ s'=>∃H',Inv X p_ σ H' s'/\Q H') X.xe s
abbrev TIp:=V->V->Hp->VK->Prop
def PIp(X:Cx)(op:Operator)(t:TIp):Prop:=
 ∀(p_:QAC)(s:Shared)(σ:St)(H:Hp)(x y:V)(v u:Value)(Q:VK),Inv X p_ σ H s->RelV x v->RelV y u->t x y H Q->
  wpAny (model X.prog X.w) X.A (inplaceOp op v u) (EP X p_ σ Q) X.xe s
section
variable {X:Cx}{pos:Pos}
def Al(i:Nat):TG:=λv σ H Q=>Q (σ.set i (some v)) H
theorem aR{i:Nat}{x:Str}(hN:X.N.Nodup)(hi:X.N[i]? = some x)(hx:Loc X.env.scope x)(hf:X.fn x=true\/X.env.scope.names.lookup x=some .local:=by first|exact .inl rfl|exact .inr rfl|assumption):PG X (.Name x pos) (Al i):=by
 intro p_ s σ H v u Q I r h;exact wpAny_assign_Name (Cy I hN hi hx r (λs' I'=>⟨_,H,I',h⟩) hf)
def qd6:L_:=λvs σ H Q=>vs=[]/\Q σ H
def Yq(t:TG)(u:L_):L_:=λvs σ H Q=>∃v r,vs=v::r/\t v σ H λσ' H'=>u r σ' H' Q
theorem gU:lH X [] qd6:=by
 intro p_ s σ H vs us Q I r h;obtain⟨e,h⟩:=h;subst e;cases r;exact assignInOrder_nil ⟨σ,H,I,h⟩
theorem bJ{e:Expr}{es:List Expr}{t:TG}{u:L_}(h1:PG X e t)(h2:lH X es u)
  (hs:(assignEach (e::es) X.env).map (·.2)=assign e X.env::(assignEach es X.env).map (·.2):=by rfl):lH X (e::es) (Yq t u):=by
 intro p_ s σ H vs us Q I r h;obtain⟨v,vr,e1,h⟩:=h;subst e1;cases r with
 |cons r rr=>
  rw[hs];refine assignInOrder_cons (cT (h1 p_ s σ H _ _ _ I r h) λ_ s1 zz=>?_);obtain⟨σ1,H1,I1,q1⟩:=zz;exact h2 p_ s1 σ1 H1 _ _ Q I1 rr q1
def qbK(K:W.Frag)(n:Nat)(t:L_):TG:=λv σ H Q=>∃a xs,v = .ref a/\eG K H a xs/\xs.length=n/\t xs σ H Q
theorem qd7{es:List Expr}{k:Nat}{t:L_}{n:Nat}(hc:X.calm=true)(h:lH X es t)
  (hn:(assignEach es X.env).length=n:=by rfl) (hst:(assignEach es X.env).findIdx? (·.1)=none:=by rfl):PG X (.Tuple es k pos) (qbK X.K n t):=by
 intro p_ s σ H v u Q I r hw;obtain⟨a,xs,e1,hq,hl,hw⟩:=hw;subst e1;cases r;obtain⟨its,rv,ht,hz⟩:=I.tuple hq;refine assign_Tuple_tuple (I.ok.hd hc) ht (by simp[hn,<- hl,rv.length]) hst λh' hx=>?_;have I1:Inv X p_ σ H {s with heap:=h'}:=I.kept (t':=s.toks) λb o e=>hx b o (qmg (ql8 e)) e;exact h p_ _ σ H xs _ Q I1 (by simpa using rv) hw
def qgf(to ti:TE)(t:Vu):TG:=λv σ H Q=>to σ H λo H1=>ti σ H1 λi H2=>t o i v H2 λH3=>Q σ H3
theorem Yr{o i:Expr}{to ti:TE}{t:Vu}(ho:PE X o to)(hi:PE X i ti)(hs:Vv X t)
  (ha:∀v,assign (.Subscript o i pos) X.env v=(do
   let ov <- holding [v] (eval o X.env)
   let iv <- holding [v,ov] (eval i X.env)
   standAt pos
   holding [v,ov,iv] (setItem ov iv v)
   release [v,ov,iv] []):=by intro _;rfl):PG X (.Subscript o i pos) (qgf to ti t):=by
 intro p_ s σ H v u Q I r h;rw[ha];refine ql3 (qni (cT (ho p_ s σ H _ I h) λov s1 zz=>?_));obtain⟨x,H1,I1,r1,q1⟩:=zz;refine ql3 (qni (cT (hi p_ s1 σ H1 _ I1 q1) λiv s2 zz=>?_));obtain⟨y,H2,I2,r2,q2⟩:=zz;refine ql3 (wpAny_standAt (ql3 (qni (cT (hs p_ s2 σ H2 x y v ov iv u _ I2 r1 r2 r q2) λ_ s3 zz=>?_))));obtain⟨H3,I3,q3⟩:=zz;exact wpAny_release ⟨σ,H3,I3,q3⟩
def Vw(te:TE)(g:TG):TS:=λD σ H=>te σ H λx H1=>g x σ H1 D.nx
theorem Qw{tg e:Expr}{te:TE}{g:TG}(he:PE X e te)(hg:PG X tg g)(hs:swapsWithSole [tg] e pos.line X.env=pure false:=by rfl)(hw:swappedStores [tg] e X.env=pure none:=by rfl)
  (h1:(assignEach [tg] X.env).map (·.2)=[assign tg X.env]:=by rfl):PS X (.Assign [tg] e pos) (Vw te g):=by
 intro p_ s σ H D I h;refine wpAny_Assign_stores (cT (he p_ s σ H _ I h) λv s1 zz=>?_) hs hw;obtain⟨x,H1,I1,r1,q1⟩:=zz;rw[h1];exact cT (hg p_ s1 σ H1 x v _ I1 r1 q1) λ_ s2 q=>q
theorem bG{i:Nat}{x:Str}{e:Expr}{te:TE}{pos':Pos}(hN:X.N.Nodup)(hi:X.N[i]? = some x)(hx:Loc X.env.scope x)(he:PE X e te)(hs:swapsWith e (some (.Name x pos')) pos.line X.env=pure false:=by rfl)(hf:X.fn x=true\/X.env.scope.names.lookup x=some .local:=by first|exact .inl rfl|exact .inr rfl|assumption) :
  PS X (.Assign [.Name x pos'] e pos) (Vw te (Al i)):=by
 intro p_ s σ H D I h;refine wpAny_Assign_Name (cT (he p_ s σ H _ I h) λv s1 zz=>?_) hs;obtain⟨y,H1,I1,r1,q1⟩:=zz;exact Cy I1 hN hi hx r1 (λs2 I2=>⟨_,H1,I2,q1⟩) hf
def qd8(i:Nat)(te:TE)(ti:TIp):TS:=λD σ H=>∃x,σ[i]? = some (some x)/\te σ H λy H1=>ti x y H1 λz H2=>D.nx (σ.set i (some z)) H2
theorem Ys{i:Nat}{x:Str}{e:Expr}{te:TE}{op:Operator}{ti:TIp}{pos':Pos}(hN:X.N.Nodup)(hi:X.N[i]? = some x)(hx:Loc X.env.scope x)(he:PE X e te)(ho:PIp X op ti)(hf:X.fn x=true\/X.env.scope.names.lookup x=some .local:=by first|exact .inl rfl|exact .inr rfl|assumption) :
  PS X (.AugAssign (.Name x pos') op e pos) (qd8 i te ti):=by
 intro p_ s σ H D I h;obtain⟨v,e1,h⟩:=h;obtain⟨m,hn,hl⟩:=I.loc;have vis:Vis X.env.scope x:=by rcases hx with k|k;exact .inl k;exact .inr (.inl k)
 obtain⟨u,r,l⟩:=hl i x v hi e1 vis;refine wpAny_AugAssign_Name ?_;have go:wpAny (model X.prog X.w) X.A (eval e X.env) (λw s₂=>wpAny (model X.prog X.w) X.A (inplaceOp op u w) (λr s₃=>wpAny (model X.prog X.w) X.A (storeName X.env x r) (λ_=>SP X p_ D .next) X.xe s₃) X.xe s₂) X.xe s:=by
  refine cT (he p_ s σ H _ I h) λw s1 zz=>?_;obtain⟨y,H1,I1,r1,q1⟩:=zz;refine cT (ho p_ s1 σ H1 v y u w _ I1 r r1 q1) λz s2 zz=>?_;obtain⟨zv,H2,I2,r2,q2⟩:=zz;exact Cy I2 hN hi hx r2 (λs3 I3=>⟨_,H2,I3,q2⟩) hf
 rcases l with⟨hk,hm⟩|⟨hk,c,hc,hcell⟩
 ·exact wpAny_loadName_local I.ok.kind hk hn hm go
 ·rcases hk with hk|hk
  ·exact wpAny_loadName_cell I.ok.kind hk hc hcell go
  ·rcases hx with k|k
   ·have:X.env.scope.names.lookup x=some .free:=hk;rw[k] at this;cases this
   ·have:X.env.scope.names.lookup x=some .free:=hk;rw[k] at this;cases this
def ipI(f:Int->Int->Int):TIp:=λx y H Q=>∃i j,x = .int i/\y = .int j/\Q (.int (f i j)) H
theorem qd9:PIp X .Add (ipI λi j=>i+j):=by
 intro p_ s σ H x y v u Q I r1 r2 h;obtain⟨i,j,e1,e2,q⟩:=h;subst e1;subst e2;obtain⟨t,rfl⟩:=r1;obtain⟨t',rfl⟩:=r2;exact iadd_int ⟨.int _,H,I.tok _,⟨_,rfl⟩,q⟩
end
section
variable {X:Cx}{pos:Pos}
def Jm(c:TT)(tb:TS):TS:=λD σ H=>∃oV:Nat->St->Hp->Prop,(∃m,oV m σ H)/\∀m σ H,oV m σ H->
 c σ H λb H1=>if b=true then ∃N:St->Hp->Prop,(∀σ' H',N σ' H'->∃m',m'<m/\oV m' σ' H')/\tb {D with nx:=N,ct:=N,bk:=D.nx} σ H1 else D.nx σ H1
theorem Mp{c:Expr}{body:List Stmt}{tc:TT}{tb:TS}(hp:PassesOwn (model X.prog X.w) X.A X.env X.xe)(hc:PT X c tc)(hb:Ge X body tb):PS X (.While c body [] pos) (Jm tc tb):=by
 intro p_ s σ H D I h;obtain⟨oV,⟨m0,w0⟩,turn⟩:=h;refine wpAny_While (codeAny_whileLoop (λn s'=>∃σ' H',Inv X p_ σ' H' s'/\oV n σ' H') ?_ m0 ⟨σ,H,I,w0⟩);rintro n s1 ⟨σ1,H1,I1,w1⟩;refine qnU hp (cT (hc p_ s1 σ1 H1 _ I1 (turn n σ1 H1 w1)) λb s2 zz=>?_);obtain⟨H2,I2,q2⟩:=zz;cases b with
 |true=>
  obtain⟨N,hN,q2⟩:=q2;rw[if_pos rfl];refine qnU hp (cT (hb p_ s2 σ1 H2 _ I2 q2) λf s3 q3=>?_);cases f with
  |next=>
   obtain⟨σ3,H3,I3,n3⟩:=q3;obtain⟨m',hm,w3⟩:=hN σ3 H3 n3;exact⟨m',hm,σ3,H3,I3,w3⟩
  |cont=>
   obtain⟨σ3,H3,I3,n3⟩:=q3;obtain⟨m',hm,w3⟩:=hN σ3 H3 n3;exact⟨m',hm,σ3,H3,I3,w3⟩
  |brk=>exact q3
  |ret v=>exact q3
 |false=>
  rw[if_neg qml];exact wpAny_execs_nil ⟨σ1,H2,I2,q2⟩
end
structure It where
 go:Nat->Hp->Prop
 yld:Nat->Hp->V->Hp->Prop
 stop:Nat->Hp->Prop
def vK(X:Cx)(p_:QAC)(H:Hp)(b:Addr):Prop:=
 H b=none/\b≠X.env.locals/\b∉X.fs/\(b∈X.ex\/X.s₀.heap.objs.size<=b)/\(∀x c,X.env.cells.lookup x=some c->c≠b)/\∀p∈X.pn++p_,p.1≠b
theorem Inv.Gh{X:Cx}{p_:QAC}{σ:St}{H H':Hp}{s:Shared}{b:Addr}(I:Inv X p_ σ H s)(hb:s.heap.objs.size<=b)(hn:H' b=none):vK X p_ H' b:=by
 refine⟨hn,qns (qmf I.lt hb),I.qjG hb,.inr (qme I.sz hb),λx c e z=>?_,λp hp z=>?_⟩
 ·obtain⟨v,q⟩:=I.cell x c e;exact absurd (qmf q.lt (by rw[z];exact hb)) (qm5 _)
 ·exact absurd (qmf (ql8 (I.pin p hp).1) (by rw[z];exact hb)) (qm5 _)
structure Turn(P:Program)(w:World)(K:W.Frag)(tg:Expr)(J:It)(fp:List Addr)(it:Addr)(tn:Nat->Heap->Prop):Prop where
 mem:it∈fp
 obj:∀i h,tn i h->∀b∈fp,∃o,h.get? b=some o/\∀v,o.data≠.cell v
 keep:∀i h h',tn i h->(∀b∈fp,∀o,h.get? b=some o->h'.get? b=some o)->tn i h'
 item:∀(X:Cx),X.prog=P->X.w=w->X.K=K->X.calm=true->∀(i:Nat)(p_:QAC)(s:Shared)(σ:St)(H:Hp)(E:QAB),Inv X p_ σ H s->(∀b∈fp,vK X p_ H b)->tn i s.heap->J.go i H->
  wpAny (model P w) X.A (pyNext (.ref it)) (λr s1=>∃u,r=some u/\
   wpAny (model P w) X.A (letOwnedTupleGo tg (.ref it) u) (λ_ s2=>∃x H',Inv X p_ σ H' s2/\RelV x u/\J.yld i H x H'/\tn (i+1) s2.heap/\∀b∈fp,H' b=none) E s1) E s
 done:∀(X:Cx),X.prog=P->X.w=w->X.K=K->X.calm=true->∀(i:Nat)(p_:QAC)(s:Shared)(σ:St)(H:Hp)(E:QAB),Inv X p_ σ H s->(∀b∈fp,vK X p_ H b)->tn i s.heap->J.stop i H->
  wpAny (model P w) X.A (pyNext (.ref it)) (λr s1=>r=none/\Inv X p_ σ H s1) E s
 self:∀(A:Around)(i:Nat)(s:Shared)(Q:QAB)(E:QAB),tn i s.heap->Q (.ref it) s->wpAny (model P w) A (pyIter (.ref it)) Q E s
abbrev TI:=St->Hp->(It->Hp->Prop)->Prop
def PIE(X:Cx)(p_:QAC)(σ:St)(tg:Expr)(R:It->Hp->Prop)(itv:Value)(s2:Shared):Prop:=
 ∃(it:Addr)(fp:List Addr)(tn:Nat->Heap->Prop)(J:It)(H':Hp),itv = .ref it/\Inv X p_ σ H' s2/\Turn X.prog X.w X.K tg J fp it tn/\tn 0 s2.heap/\(∀b∈fp,vK X p_ H' b)/\R J H'
def PI(X:Cx)(tg iter:Expr)(wi:TI):Prop:=
 ∀(p_:QAC)(s:Shared)(σ:St)(H:Hp)(R:It->Hp->Prop),Inv X p_ σ H s->wi σ H R->
  wpAny (model X.prog X.w) X.A (eval iter X.env) (λv s1=>wpAny (model X.prog X.w) X.A (pyIter v) (PIE X p_ σ tg R) X.xe s1) X.xe s
theorem Yt{M:Model}{A:Around}{E:QAB}{s:Shared}{tg:Expr}{it:Addr}{u:Value}{o:Obj}{n:String}{vs:Array Value}{Q:Unit->Shared->Prop}(ho:s.heap.get? it=some o)(hc:o.cls = .type n)(hd:o.data = .fields vs)
  (hn : ["enumerate", "zip", "dict_itemiterator", "dict_reverseitemiterator", "odict_iterator", "itertools.zip_longest", "itertools.pairwise"].contains n=false) (hQ:Q () s):wpAny M A (letOwnedTupleGo tg (.ref it) u) Q E s:=by
 unfold letOwnedTupleGo;cases tg <;> first
  |exact qmb hQ
  |(cases u <;> first
    |exact qmb hQ
    |(refine ql3 (wpAny_load ho ?_)
      rw[hc,hd];show wpAny M A (if (["enumerate", "zip", "dict_itemiterator", "dict_reverseitemiterator", "odict_iterator", "itertools.zip_longest", "itertools.pairwise"].contains n && vs[0]? == some (rawInt _))=true then _ else _) Q E s
      rw[if_neg (by intro h;rw[hn,Bool.false_and] at h;cases h)];exact qmb hQ))
def X_(K:W.Frag)(a:Addr):It:=
 ⟨λi H=>∃xs x,aW K H a xs/\xs[i]? = some x,λi H x H'=>H'=H/\∀xs,aW K H a xs->xs[i]? = some x,λi H=>∃xs,aW K H a xs/\xs.length<=i⟩
def Itt(K:W.Frag)(a:Addr):It:=
 ⟨λi H=>∃xs x,eG K H a xs/\xs[i]? = some x,λi H x H'=>H'=H/\∀xs,eG K H a xs->xs[i]? = some x,λi H=>∃xs,eG K H a xs/\xs.length<=i⟩
def Qp(lo:Int)(n:Nat):It:=⟨λi _=>i<n,λi H x H'=>H'=H/\x = .int (lo+i),λi _=>n<=i⟩
theorem G8{P:Program}{w:World}{K:W.Frag}{tg:Expr}(a it:Addr):Turn P w K tg (X_ K a) [it] it (λi h=>h.IsListIter it a i) where
 mem:=by simp
 obj:=λi h st b hb=>by
  have e:b=it:=by simpa using hb
  subst e;obtain⟨o,e,c,d⟩:=st;exact⟨o,e,λv z=>by rw[d] at z;cases z⟩
 keep:=λi h h' st k=>st.at λo e=>k it (by simp) o e
 item:=by
  intro X hP hw hK hc i p_ s σ H E I hf st hg;subst hP hw hK;obtain⟨xs,x,hq,hx⟩:=hg;obtain⟨its,rv,p,hz⟩:=I.list hq;obtain⟨u,hu,ru⟩:=rv.get hx;obtain⟨f0,f1,f2,f3,f4,f5⟩:=hf it (by simp);refine wpAny_pyNext_list_item st p.isList (x:=u) (by simpa using hu) λh' st' sb=>?_;have I1:Inv X p_ σ H {s with heap:=h'}:=I.turned (t':=s.toks) (λb o hb e=>(sb.2 b hb).trans e) f0 f1 f3 f4 f5;obtain⟨o,e,c,d⟩:=id st';exact⟨u,rfl,Yt (s:={s with heap:=h'}) e c d (by decide) ⟨x,H,I1,ru,⟨rfl,λys hy=>by rw[I.xU hy hq];exact hx⟩,st',λb hb=>(hf b hb).1⟩⟩
 done:=by
  intro X hP hw hK hc i p_ s σ H E I hf st hg;subst hP hw hK;obtain⟨xs,hq,hx⟩:=hg;obtain⟨its,rv,p,hz⟩:=I.list hq;obtain⟨f0,f1,f2,f3,f4,f5⟩:=hf it (by simp);have hl:=rv.length;exact wpAny_pyNext_list_end (I.ok.hd hc) st p.isList (by simp;omega) λh' eb=>⟨rfl,I.turned (t':=s.toks) (λb o hb e=>eb b o hb e) f0 f1 f3 f4 f5⟩
 self:=λ_ _ _ _ _ st h=>wpAny_pyIter_listiter st h
theorem Qx{P:Program}{w:World}{K:W.Frag}{tg:Expr}(a it:Addr):Turn P w K tg (Itt K a) [it] it (λi h=>h.IsTupleIter it a i) where
 mem:=by simp
 obj:=λi h st b hb=>by
  have e:b=it:=by simpa using hb
  subst e;obtain⟨o,e,c,d⟩:=st;exact⟨o,e,λv z=>by rw[d] at z;cases z⟩
 keep:=λi h h' st k=>st.at λo e=>k it (by simp) o e
 item:=by
  intro X hP hw hK hc i p_ s σ H E I hf st hg;subst hP hw hK;obtain⟨xs,x,hq,hx⟩:=hg;obtain⟨its,rv,p,hz⟩:=I.tuple hq;obtain⟨u,hu,ru⟩:=rv.get hx;obtain⟨f0,f1,f2,f3,f4,f5⟩:=hf it (by simp);refine wpAny_pyNext_tuple_item st (show s.heap.IsTuple a its.toArray from p) (x:=u) (by simpa using hu) λh' st' sb=>?_;have I1:Inv X p_ σ H {s with heap:=h'}:=I.turned (t':=s.toks) (λb o hb e=>(sb.2 b hb).trans e) f0 f1 f3 f4 f5;obtain⟨o,e,c,d⟩:=id st';exact⟨u,rfl,Yt (s:={s with heap:=h'}) e c d (by decide) ⟨x,H,I1,ru,⟨rfl,λys hy=>by rw[I.Vt hy hq];exact hx⟩,st',λb hb=>(hf b hb).1⟩⟩
 done:=by
  intro X hP hw hK hc i p_ s σ H E I hf st hg;subst hP hw hK;obtain⟨xs,hq,hx⟩:=hg;obtain⟨its,rv,p,hz⟩:=I.tuple hq;obtain⟨f0,f1,f2,f3,f4,f5⟩:=hf it (by simp);have hl:=rv.length;exact wpAny_pyNext_tuple_end (I.ok.hd hc) st (show s.heap.IsTuple a its.toArray from p) (by simp;omega) λh' eb=>⟨rfl,I.turned (t':=s.toks) (λb o hb e=>eb b o hb e) f0 f1 f3 f4 f5⟩
 self:=λ_ _ _ _ _ st h=>wpAny_pyIter_tupleiter st h
theorem Qy{P:Program}{w:World}{K:W.Frag}{tg:Expr}(it:Addr)(lo:Int)(n:Nat):Turn P w K tg (Qp lo n) [it] it (λi h=>IsRangeIter h it (lo+(i:Nat) * 1) ((n:Int) - (i:Nat)) 1) where
 mem:=by simp
 obj:=λi h st b hb=>by
  have e:b=it:=by simpa using hb
  subst e;exact⟨_,st,λv z=>by
   have z':Data.fields _=Data.cell v:=z;cases z'⟩
 keep:=λi h h' st k=>k it (by simp) _ st
 item:=by
  intro X hP hw hK hc i p_ s σ H E I hf st hg;subst hP hw hK;obtain⟨f0,f1,f2,f3,f4,f5⟩:=hf it (by simp);have oV:=Walks.range (prog:=X.prog) (w:=X.w) (I.ok.hd hc) it lo 1 n;refine oV.item i s _ _ hg st λv h' tk hv st' kk=>?_;obtain⟨t,rfl⟩:=hv;have I1:Inv X p_ σ H {s with heap:=h',toks:=tk}:=I.turned (λb o hb e=>kk b o (by simpa using hb) e) f0 f1 f3 f4 f5;refine⟨_,rfl,Yt (s:={s with heap:=h',toks:=tk}) (n:= "range_iterator") st' rfl rfl (by decide) ⟨.int (lo+i),H,I1,⟨t,?_⟩,⟨rfl,rfl⟩,st',λb hb=>(hf b hb).1⟩⟩;rw[Int.mul_one]
 done:=by
  intro X hP hw hK hc i p_ s σ H E I hf st hg;subst hP hw hK;obtain⟨f0,f1,f2,f3,f4,f5⟩:=hf it (by simp);exact wpAny_pyNext_range_end (I.ok.hd hc) st (by have:n<=i:=hg;omega) λh' eb=>⟨rfl,I.turned (t':=s.toks) (λb o hb e=>eb b o hb e) f0 f1 f3 f4 f5⟩
 self:=λ_ _ _ _ _ st h=>wpAny_pyIter_rangeiter st h
section
variable {X:Cx}{tg:Expr}
def T9(K:W.Frag)(tl:TE):TI:=λσ H R=>tl σ H λx H1=>∃a,x = .ref a/\(∃xs,aW K H1 a xs)/\R (X_ K a) H1
theorem qbL{l:Expr}{tl:TE}(hl:PE X l tl):PI X tg l (T9 X.K tl):=by
 intro p_ s σ H R I h;refine cT (hl p_ s σ H _ I h) λv s1 zz=>?_;obtain⟨x,H1,I1,r1,q1⟩:=zz;obtain⟨a,e,⟨xs,hq⟩,q⟩:=q1;subst e;cases r1;obtain⟨its,rv,p,hz⟩:=I1.list hq;refine qon p.isList ?_;refine⟨s1.heap.objs.size,[s1.heap.objs.size],_,_,H1,rfl,I1.kept (t':=s1.toks) λb o e=>ql4 _ e,G8 a _,⟨_,qmc _ rfl,rfl,rfl⟩,λb hb=>?_,q⟩;have e:b=s1.heap.objs.size:=by simpa using hb
 subst e;exact I1.Gh (ql7 _) (I1.hok.fresh (ql7 _))
theorem Mq{p_:QAC}{σ:St}{H:Hp}{s:Shared}{R:It->Hp->Prop}{E:QAB}{lo hi:Int}{t u v:Tok}{tk:Nat}(I:Inv X p_ σ H s)(h1 : -(2 ^ 62)<=lo)(h2:lo<2 ^ 62)(h3 : -(2 ^ 62)<=hi)(h4:hi<2 ^ 62)
  (q:R (Qp lo (hi - lo).toNat) H):wpAny (model X.prog X.w) X.A (pyIter (.ref s.heap.objs.size)) (PIE X p_ σ tg R) E {s with heap:=s.heap.push {cls:=.type "range",data:=.fields #[.int lo t,.int hi u,.int 1 v]},toks:=tk}:=by
 refine wpAny_pyIter_range (IsRange.new ..) (small_one h1 h2 h3 h4) ?_;have I1:Inv X p_ σ H {s with heap:=s.heap.push {cls:=.type "range",data:=.fields #[.int lo t,.int hi u,.int 1 v]},toks:=tk}:=I.kept λb o e=>ql4 _ e;refine⟨(s.heap.push {cls:=.type "range",data:=.fields #[.int lo t,.int hi u,.int 1 v]}).objs.size,[(s.heap.push {cls:=.type "range",data:=.fields #[.int lo t,.int hi u,.int 1 v]}).objs.size],_,_,H,rfl,
  I1.kept (t':=tk) λb o e=>ql4 _ e,Qy _ lo (hi - lo).toNat,?_,λb hb=>?_,q⟩
 ·have e1:lo+((0:Nat):Int) * 1=lo:=by simp
  have e2:(((hi - lo).toNat:Nat):Int) - ((0:Nat):Int)=Builtin.Range.rangeSize lo hi 1:=by rw[rangeSize_one];split <;> omega
  show IsRangeIter _ _ (lo+((0:Nat):Int) * 1) ((((hi - lo).toNat:Nat):Int) - ((0:Nat):Int)) 1;rw[e1,e2];exact qmc _ rfl
 ·have e:b=(s.heap.push {cls:=.type "range",data:=.fields #[.int lo t,.int hi u,.int 1 v]}).objs.size:=by simpa using hb
  subst e;exact I1.Gh (ql7 _) (I1.hok.fresh (ql7 _))
def Yu(ta:TA):TI:=λσ H R=>ta σ H λvs H1=>∃j:Int,vs=[.int j]/\-(2 ^ 62)<=j/\j<2 ^ 62/\R (Qp 0 j.toNat) H1
def Yv(ta:TA):TI:=λσ H R=>ta σ H λvs H1=>∃i j:Int,vs=[.int i,.int j]/\(-(2 ^ 62)<=i/\i<2 ^ 62/\-(2 ^ 62)<=j/\j<2 ^ 62)/\R (Qp i (j - i).toNat) H1
theorem qO{a:Expr}{ta:TA}{p pos:Pos} (hg:Gl X "range") (hm:X.mg "range" = none) (ha:PA X [a] ta) (hs:starEach [a] X.env=[(false,eval a X.env)]:=by rfl):PI X tg (.Call (.Name "range" p) [a] [] pos) (Yu ta):=by
 intro p_ s σ H R I h;refine Call_ (qj I hg hm boot_range (qm2 (cT (ha pos p_ s σ H _ I h) λus s1 zz=>?_) hs rfl));obtain⟨vs,H1,I1,r1,q1⟩:=zz;obtain⟨j,e,q1,q2,q⟩:=q1;subst e;cases r1 with
 |cons r rr=>
  cases rr;obtain⟨t,rfl⟩:=r;exact call_range_1 (Mq I1 (by omega) (by omega) q1 q2 (by simpa using q))
theorem Vx{a b:Expr}{ta:TA}{p pos:Pos} (hg:Gl X "range") (hm:X.mg "range" = none) (ha:PA X [a,b] ta) (hs:starEach [a,b] X.env=[(false,eval a X.env),(false,eval b X.env)]:=by rfl) (hs2:starEach [b] X.env=[(false,eval b X.env)]:=by rfl) :
  PI X tg (.Call (.Name "range" p) [a,b] [] pos) (Yv ta):=by
 intro p_ s σ H R I h;refine Call_ (qj I hg hm boot_range (qm2 (cT (ha pos p_ s σ H _ I h) λus s1 zz=>?_) (by rw[hs,hs2]) (by rw[hs2];rfl)));obtain⟨vs,H1,I1,r1,q1⟩:=zz;obtain⟨i,j,e,⟨q1,q2,q3,q4⟩,q⟩:=q1;subst e;cases r1 with
 |cons r rr=>
  cases rr with
  |cons r' rr=>
   cases rr;obtain⟨t,rfl⟩:=r;obtain⟨t',rfl⟩:=r';exact call_range_2 (Mq I1 q1 q2 q3 q4 q)
def qgg(wi:TI)(g:TG)(tb:TS):TS:=λD σ H=>wi σ H λJ H1=>∃oV:Nat->Nat->St->Hp->Prop,(∃m,oV 0 m σ H1)/\∀i m σ H,oV i m σ H->
 (J.stop i H/\D.nx σ H)\/(J.go i H/\∃N:St->Hp->Prop,(∀σ' H',N σ' H'->∃m',m'<m/\oV (i+1) m' σ' H')/\∀x H',J.yld i H x H'->g x σ H' λσ2 H2=>tb {D with nx:=N,ct:=N,bk:=D.nx} σ2 H2)
def Cz(fp:List Addr)(h:Heap):QAC:=fp.filterMap λb=>(h.get? b).map λo=>(b,o)
theorem rC{fp:List Addr}{h:Heap}{b:Addr}{o:Obj}(hb:b∈fp)(e:h.get? b=some o):(b,o)∈Cz fp h:=List.mem_filterMap.mpr ⟨b,hb,by rw[e];rfl⟩
theorem Vy{fp:List Addr}{h:Heap}{p:Addr×Obj}(hp:p∈Cz fp h):p.1∈fp/\h.get? p.1=some p.2:=by
 obtain⟨b,hb,e⟩:=List.mem_filterMap.mp hp;cases q:h.get? b with
 |none=>rw[q] at e;cases e
 |some o=>
  rw[q] at e;have e':(b,o)=p:=qmB e;subst e';exact⟨hb,q⟩
theorem Inv.pinned{p_:QAC}{σ:St}{H:Hp}{s:Shared}{fp:List Addr}(I:Inv X p_ σ H s)(hf:∀b∈fp,vK X p_ H b)(ho:∀b∈fp,∃o,s.heap.get? b=some o/\∀v,o.data≠.cell v):Inv X (p_++Cz fp s.heap) σ H s:=
 I.T3 λp hp=>(qmm.mp hp).elim (λz=>I.pin p (qmE _ z)) λz=>by
  obtain⟨hb,e⟩:=Vy z;obtain⟨f0,f1,f2,_⟩:=hf p.1 hb;obtain⟨o,e',d⟩:=ho p.1 hb;rw[e] at e';cases e';exact⟨e,f0,f1,f2,d⟩
theorem Inv.xV{p_ pl:QAC}{σ:St}{H:Hp}{s:Shared}(I:Inv X (p_++pl) σ H s):Inv X p_ σ H s:=I.T3 λp hp=>I.pin p (qmE _ (qmt _ hp))
theorem kO{iter:Expr}{body:List Stmt}{wi:TI}{g:TG}{tb:TS}{pos:Pos}(hp:PassesOwn (model X.prog X.w) X.A X.env X.xe)(hc:X.calm=true)(hi:PI X tg iter wi)(hg:PG X tg g)(hb:Ge X body tb)
  (hs:∀x,foldedSetIterable iter X.env x=pure x:=by intro _;rfl):PS X (.For tg iter body [] pos) (qgg wi g tb):=by
 intro p_ s σ H D I h;refine wpAny_For (cT (hi p_ s σ H _ I h) λv s1 h1=>cT h1 λitv s2 h2=>?_) hs;obtain⟨it,fp,tn,J,H2,e,I2,T,st2,f2,oV,⟨m0,w0⟩,turn⟩:=h2;subst e;have stat:∀{H':Hp},(∀b∈fp,H' b=none)->∀b∈fp,vK X p_ H' b:=λhn b hb=>⟨hn b hb,(f2 b hb).2⟩;refine codeAny_forLoop_any (λn s'=>∃i σ' H',Inv X p_ σ' H' s'/\tn i s'.heap/\(∀b∈fp,H' b=none)/\oV i n σ' H') ?_ m0 ⟨0,σ,H2,I2,st2,λb hb=>(f2 b hb).1,w0⟩;rintro n s3 ⟨i,σ3,H3,I3,st3,fr3,w3⟩
 rcases turn i n σ3 H3 w3 with⟨stop,qn⟩|⟨go,N,hN,step⟩
 ·refine qnU hp (cT (T.done X rfl rfl rfl hc i p_ s3 σ3 H3 X.xe I3 (stat fr3) st3 stop) λr s4 zz=>?_);obtain⟨hr,I4⟩:=zz;subst hr;exact wpAny_execs_nil ⟨σ3,H3,I4,qn⟩
 ·refine qnU hp (cT (T.item X rfl rfl rfl hc i p_ s3 σ3 H3 X.xe I3 (stat fr3) st3 go) λr s4 zz=>?_);obtain⟨u,hr,h4⟩:=zz;subst hr;refine qnU hp (cT h4 λ_ s5 zz=>?_);obtain⟨x,H5,I5,r5,y5,Vz,fr5⟩:=zz;have I5':=I5.pinned (stat fr5) (T.obj _ _ Vz);refine qnU hp (cT (hg _ s5 σ3 H5 x u _ I5' r5 (step x H5 y5)) λ_ s6 zz=>?_);obtain⟨σ6,H6,I6,q6⟩:=zz;refine qnU hp (cT (hb _ s6 σ6 H6 _ I6 q6) λf s7 q7=>?_);have again:∀{σ7:St}{H7:Hp},Inv X (p_++Cz fp s5.heap) σ7 H7 s7->N σ7 H7->∃m,m<n/\∃i σ' H',Inv X p_ σ' H' s7/\tn i s7.heap/\(∀b∈fp,H' b=none)/\oV i m σ' H':=λ{σ7 H7} I7 n7=>by
   obtain⟨m',hm,w7⟩:=hN σ7 H7 n7;refine⟨m',hm,i+1,σ7,H7,I7.xV,T.keep _ _ _ Vz λb hb o e=>(I7.pin (b,o) (qmE _ (qmE _ (rC hb e)))).1,λb hb=>?_,w7⟩;obtain⟨o,e,d⟩:=T.obj _ _ Vz b hb;exact(I7.pin (b,o) (qmE _ (qmE _ (rC hb e)))).2.1
  cases f with
  |next=>obtain⟨σ7,H7,I7,n7⟩:=q7;exact again I7 n7
  |cont=>obtain⟨σ7,H7,I7,n7⟩:=q7;exact again I7 n7
  |brk=>obtain⟨σ7,H7,I7,q7⟩:=q7;exact⟨σ7,H7,I7.xV,q7⟩
  |ret v=>obtain⟨x7,σ7,H7,I7,r7,q7⟩:=q7;exact⟨x7,σ7,H7,I7.xV,r7,q7⟩
end
theorem Yw{K:W.Frag}{a:Addr}{xs:List V}{g:TG}{tb:TS}{D:Ends}{σ:St}{H:Hp}(Pv:Nat->St->Hp->Prop)(h0:Pv 0 σ H)(hl:∀i σ H,i<=xs.length->Pv i σ H->aW K H a xs)
  (hs:∀i x σ H,xs[i]? = some x->Pv i σ H->g x σ H λσ2 H2=>tb {D with nx:=Pv (i+1),ct:=Pv (i+1),bk:=D.nx} σ2 H2) (hd:∀σ H,Pv xs.length σ H->D.nx σ H) :
  ∃oV:Nat->Nat->St->Hp->Prop,(∃m,oV 0 m σ H)/\∀i m σ H,oV i m σ H->
   ((X_ K a).stop i H/\D.nx σ H)\/((X_ K a).go i H/\∃N:St->Hp->Prop,(∀σ' H',N σ' H'->∃m',m'<m/\oV (i+1) m' σ' H')/\∀x H',(X_ K a).yld i H x H'->g x σ H' λσ2 H2=>tb {D with nx:=N,ct:=N,bk:=D.nx} σ2 H2):=by
 refine⟨λi m σ H=>m=xs.length - i/\i<=xs.length/\Pv i σ H,⟨xs.length,by simp,qmP _,h0⟩,?_⟩;rintro i m σ H ⟨rfl,hi,p⟩;have q:=hl i σ H hi p
 by_cases hlt:i<xs.length
 ·refine .inr ⟨⟨xs,xs[i],q,by simp[hlt]⟩,Pv (i+1),λσ' H' p'=>⟨xs.length - (i+1),by omega,rfl,hlt,p'⟩,λx H' y=>?_⟩;obtain⟨e,y⟩:=y;subst e;exact hs i x σ _ (y xs q) p
 ·have e:i=xs.length:=by omega
  subst e;exact .inl ⟨⟨xs,q,ql7 _⟩,hd σ H p⟩
theorem VB{lo:Int}{n:Nat}{g:TG}{tb:TS}{D:Ends}{σ:St}{H:Hp}(Pv:Nat->St->Hp->Prop)(h0:Pv 0 σ H)
  (hs:∀i σ H,i<n->Pv i σ H->g (.int (lo+i)) σ H λσ2 H2=>tb {D with nx:=Pv (i+1),ct:=Pv (i+1),bk:=D.nx} σ2 H2) (hd:∀σ H,Pv n σ H->D.nx σ H) :
  ∃oV:Nat->Nat->St->Hp->Prop,(∃m,oV 0 m σ H)/\∀i m σ H,oV i m σ H->
   ((Qp lo n).stop i H/\D.nx σ H)\/((Qp lo n).go i H/\∃N:St->Hp->Prop,(∀σ' H',N σ' H'->∃m',m'<m/\oV (i+1) m' σ' H')/\∀x H',(Qp lo n).yld i H x H'->g x σ H' λσ2 H2=>tb {D with nx:=N,ct:=N,bk:=D.nx} σ2 H2):=by
 refine⟨λi m σ H=>m=n - i/\i<=n/\Pv i σ H,⟨n,by simp,qmP _,h0⟩,?_⟩;rintro i m σ H ⟨rfl,hi,p⟩
 by_cases hlt:i<n
 ·refine .inr ⟨hlt,Pv (i+1),λσ' H' p'=>⟨n - (i+1),by omega,rfl,hlt,p'⟩,λx H' y=>?_⟩;obtain⟨e,y⟩:=y;subst e y;exact hs i σ _ hlt p
 ·have e:i=n:=by omega
  subst e;exact .inl ⟨ql7 _,hd σ H p⟩
theorem Yx{c:TT}{tb:TS}{D:Ends}{σ:St}{H:Hp}(Pv:St->Hp->Prop)(μ:St->Hp->Nat)(h0:Pv σ H)
  (hs:∀σ H,Pv σ H->c σ H λb H1=>if b=true then tb {D with nx:=λσ' H'=>Pv σ' H'/\μ σ' H'<μ σ H,ct:=λσ' H'=>Pv σ' H'/\μ σ' H'<μ σ H,bk:=D.nx} σ H1 else D.nx σ H1)
  (mono:∀σ H Q Q',(∀b H1,Q b H1->Q' b H1)->c σ H Q->c σ H Q'):Jm c tb D σ H:=by
 refine⟨λm σ H=>m=μ σ H/\Pv σ H,⟨_,rfl,h0⟩,?_⟩;rintro m σ H ⟨rfl,p⟩;refine mono σ H _ _ (λb H1 q=>?_) (hs σ H p);cases b with
 |true=>exact⟨_,λσ' H' ⟨p',l⟩=>⟨_,l,rfl,p'⟩,q⟩
 |false=>exact q
abbrev R2:=V->V->Hp->VK->Prop
def iY(X:Cx)(f:Value->Value->Sem Value)(r:R2):Prop:=
 ∀(p_:QAC)(s:Shared)(σ:St)(H:Hp)(x y:V)(v u:Value)(Q:VK),Inv X p_ σ H s->RelV x v->RelV y u->r x y H Q->
  wpAny (model X.prog X.w) X.A (f v u) (EP X p_ σ Q) X.xe s
def UnR(X:Cx)(f:Value->Sem Value)(r:V->Hp->VK->Prop):Prop:=
 ∀(p_:QAC)(s:Shared)(σ:St)(H:Hp)(x:V)(v:Value)(Q:VK),Inv X p_ σ H s->RelV x v->r x H Q->
  wpAny (model X.prog X.w) X.A (f v) (EP X p_ σ Q) X.xe s
def cg(X:Cx)(f:Value)(r:List V->Hp->VK->Prop):Prop:=
 ∀(p_:QAC)(s:Shared)(σ:St)(H:Hp)(xs:List V)(us:QAE)(Q:VK),Inv X p_ σ H s->Vals xs us->r xs H Q->
  wpAny (model X.prog X.w) X.A (call f us) (EP X p_ σ Q) X.xe s
def Mr(r:R2)(ta tb:TE):TE:=λσ H Q=>ta σ H λx H1=>tb σ H1 λy H2=>r x y H2 Q
def tUn(r:V->Hp->VK->Prop)(ta:TE):TE:=λσ H Q=>ta σ H λx H1=>r x H1 Q
def rI(C:Int->Int->Prop)(g:Int->Int->V):R2:=λx y H Q=>∃i j,x = .int i/\y = .int j/\C i j/\Q (g i j) H
def rI0(g:Int->Int->V):R2:=λx y H Q=>∃i j,x = .int i/\y = .int j/\Q (g i j) H
def rU(g:Int->V):V->Hp->VK->Prop:=λx H Q=>∃i,x = .int i/\Q (g i) H
section
variable {X:Cx}{a b c:Expr}{ta tb tc:TE}{pos:Pos}
theorem qd_(ha:PE X a ta)(hb:PE X b tb){p_:QAC}{s:Shared}{σ:St}{H:Hp}{R:V->V->Hp->Prop}(I:Inv X p_ σ H s)
  (h:ta σ H λx H1=>tb σ H1 λy H2=>R x y H2) {Q:QAB}{f:Value->Value->Sem Value}
  (hf:∀v u s2 x y H2,Inv X p_ σ H2 s2->RelV x v->RelV y u->R x y H2->wpAny (model X.prog X.w) X.A (f v u) Q X.xe s2) :
  wpAny (model X.prog X.w) X.A (eval a X.env) (λv s₁=>wpAny (model X.prog X.w) X.A (eval b X.env) (λu s₂=>wpAny (model X.prog X.w) X.A (f v u) Q X.xe s₂) X.xe s₁) X.xe s:=by
 refine cT (ha p_ s σ H _ I h) λv s1 zz=>?_;obtain⟨x,H1,I1,r1,q1⟩:=zz;refine cT (hb p_ s1 σ H1 _ I1 q1) λu s2 zz=>?_;obtain⟨y,H2,I2,r2,q2⟩:=zz;exact hf v u s2 x y H2 I2 r1 r2 q2
theorem cB{op:Operator}{r:R2}(ho:iY X (binaryOp op) r)(ha:PE X a ta)(hb:PE X b tb):PE X (.BinOp a op b pos) (Mr r ta tb):=by
 intro p_ s σ H Q I h;exact wpAny_BinOp (qd_ ha hb I h λv u s2 x y H2 I2 rx ry q=>ho p_ s2 σ H2 x y v u Q I2 rx ry q)
theorem Yy{op:UnaryOp}{r:V->Hp->VK->Prop}(ho:UnR X (unaryOp op) r)(ha:PE X a ta):PE X (.UnaryOp op a pos) (tUn r ta):=by
 intro p_ s σ H Q I h;refine UnaryOp_ (cT (ha p_ s σ H _ I h) λv s1 zz=>?_);obtain⟨x,H1,I1,r1,q1⟩:=zz;exact ho p_ s1 σ H1 x v Q I1 r1 q1
theorem opI{f:Value->Value->Sem Value}{C:Int->Int->Prop}{g:Int->Int->Int}
  (rule:∀(i j:Int)(t u:Tok)(s:Shared)(Q:QAB)(E:QAB),C i j->Q (.int (g i j) s.toks) {s with toks:=s.toks+1}->wpAny (model X.prog X.w) X.A (f (.int i t) (.int j u)) Q E s) :
  iY X f (rI C λi j=>.int (g i j)):=by
 intro p_ s σ H x y v u Q I rx ry h;obtain⟨i,j,rfl,rfl,hc,q⟩:=h;obtain⟨t,rfl⟩:=rx;obtain⟨t',rfl⟩:=ry;exact rule i j t t' s _ _ hc ⟨.int (g i j),H,I.tok _,⟨_,rfl⟩,q⟩
theorem qgh{f:Value->Value->Sem Value}{g:Int->Int->Int}
  (rule:∀(i j:Int)(t u:Tok)(s:Shared)(Q:QAB)(E:QAB),Q (.int (g i j) s.toks) {s with toks:=s.toks+1}->wpAny (model X.prog X.w) X.A (f (.int i t) (.int j u)) Q E s) :
  iY X f (rI0 λi j=>.int (g i j)):=by
 intro p_ s σ H x y v u Q I rx ry h;obtain⟨i,j,rfl,rfl,q⟩:=h;obtain⟨t,rfl⟩:=rx;obtain⟨t',rfl⟩:=ry;exact rule i j t t' s _ _ ⟨.int (g i j),H,I.tok _,⟨_,rfl⟩,q⟩
theorem qea{f:Value->Value->Sem Value}{g:Int->Int->Bool}
  (rule:∀(i j:Int)(t u:Tok)(s:Shared)(Q:QAB)(E:QAB),Q (.bool (g i j)) s->wpAny (model X.prog X.w) X.A (f (.int i t) (.int j u)) Q E s) :
  iY X f (rI0 λi j=>.bl (g i j)):=by
 intro p_ s σ H x y v u Q I rx ry h;obtain⟨i,j,rfl,rfl,q⟩:=h;obtain⟨t,rfl⟩:=rx;obtain⟨t',rfl⟩:=ry;exact rule i j t t' s _ _ ⟨.bl (g i j),H,I,rfl,q⟩
@[simp] def VD (i j:Int):Prop:=0<j/\j<1073741824
@[simp] def qgi (i j:Int):Prop:=0<=j/\j<=1000000/\i.natAbs<2 ^ 64
@[simp] def qbM (i j:Int):Prop:=(-(2 ^ 64)<i/\i<2 ^ 64)\/(-(2 ^ 64)<j/\j<2 ^ 64)
theorem qbM.ok{i j:Int}(h:qbM i j):IntMulOk i j:=by
 rcases h with⟨h1,h2⟩|⟨h1,h2⟩
 ·exact .of_left (intBits_le_64 h1 h2)
 ·exact .of_right (intBits_le_64 h1 h2)
theorem qeb:iY X (binaryOp .Add) (rI0 λi j=>.int (i+j)):=qgh λ_ _ _ _ _ _ _ q=>add_int q
theorem qec:iY X (binaryOp .Sub) (rI0 λi j=>.int (i - j)):=qgh λ_ _ _ _ _ _ _ q=>sub_int q
theorem qee:iY X (binaryOp .Mult) (rI qbM λi j=>.int (i * j)):=opI λ_ _ _ _ _ _ _ hc q=>mul_int q hc.ok
theorem qbN:iY X (binaryOp .FloorDiv) (rI VD λi j=>.int (i / j)):=opI λi j _ _ _ _ _ hc q=>by
 have h1:(0:Int)<j:=hc.1;have h2:j<1073741824:=hc.2;exact floordiv_int (by omega) (by rw[Int.fdiv_eq_ediv_of_nonneg i (by omega)];exact q) (.inl (PyProof.noPylong_small (by omega)))
theorem qef:iY X (binaryOp .Mod) (rI (λ_ j=>0<j) λi j=>.int (i % j)):=opI λi j _ _ _ _ _ hc q=>by
 have h1:(0:Int)<j:=hc;exact mod_int' (by omega) (by rw[Int.fmod_eq_emod_of_nonneg i (by omega)];exact q)
theorem qeg:iY X (binaryOp .Pow) (rI qgi λi j=>.int (i ^ j.toNat)):=opI λ_ _ _ _ _ _ _ hc q=>pow_int_small hc.1 hc.2.1 hc.2.2 q
theorem unI{f:Value->Sem Value}{g:Int->Int}
  (rule:∀(i:Int)(t:Tok)(s:Shared)(Q:QAB)(E:QAB),Q (.int (g i) s.toks) {s with toks:=s.toks+1}->wpAny (model X.prog X.w) X.A (f (.int i t)) Q E s) :
  UnR X f (rU λi=>.int (g i)):=by
 intro p_ s σ H x v Q I rx h;obtain⟨i,rfl,q⟩:=h;obtain⟨t,rfl⟩:=rx;exact rule i t s _ _ ⟨.int (g i),H,I.tok _,⟨_,rfl⟩,q⟩
theorem qeh:UnR X (unaryOp .USub) (rU λi=>.int (-i)):=unI λ_ _ _ _ _ q=>neg_int q
end
def Bp:V->V->Bool
 |.non,.non=>true|.non,.int _=>true|.int _,.non=>true|.non,.bl _=>true|.bl _,.non=>true|.non,.str _=>true|.str _,.non=>true
 |.int _,.int _=>true|.bl _,.bl _=>true|.str _,.str _=>true|.X7 _,.X7 _=>true
 |.int _,.str _=>true|.str _,.int _=>true|.bl _,.str _=>true|.str _,.bl _=>true
 |_,_=>false
def rEq:R2:=λx y H Q=>Bp x y=true/\Q (.bl (decide (x=y))) H
def rNe:R2:=λx y H Q=>Bp x y=true/\Q (.bl (!decide (x=y))) H
theorem T_{i j:Int}:decide (V.int i=V.int j)=(i == j):=by
 rw[qnx];simp
theorem Yz{i j:Bool}:decide (V.bl i=V.bl j)=(i == j):=by
 rw[qnx];simp
theorem Ua{i j:Str}:decide (V.str i=V.str j)=(i == j):=by
 rw[qnx];simp
theorem Ub{i j:Array UInt8}:decide (V.X7 i=V.X7 j)=(i.toList == j.toList):=by
 rw[qnx];cases i;cases j;simp
section
variable {X:Cx}{a b c:Expr}{ta tb tc:TE}{pos:Pos}
theorem cC{p_:QAC}{σ:St}{H:Hp}{s:Shared}{Q:VK}{k k':Bool}(I:Inv X p_ σ H s)(q:Q (.bl k) H)(e:k=k'):EP X p_ σ Q (.bool k') s:=by
 subst e;exact⟨.bl k,H,I,rfl,q⟩
theorem qgj:iY X (compareOp .Eq) rEq:=by
 intro p_ s σ H x y v u Q I rx ry h;obtain⟨hs,q⟩:=h;cases x with
 |non=>
  cases rx;cases y with
  |non=>cases ry;exact PySem.EqNone.eq_none_none (cC I q (by simp))
  |bl j=>cases ry;exact PySem.EqNone.eq_none_bool (cC I q (by simp))
  |int j=>obtain⟨t',rfl⟩:=ry;exact PySem.EqNone.eq_none_int (cC I q (by simp))
  |str j=>obtain⟨t',rfl⟩:=ry;exact PySem.EqNone.eq_none_str (cC I q (by simp))
  |_=>exact absurd (show false=true from hs) qml
 |bl i=>
  cases rx;cases y with
  |non=>cases ry;exact PySem.EqNone.eq_bool_none (cC I q (by simp))
  |bl j=>cases ry;exact eq_bool (cC I q Yz)
  |str j=>obtain⟨t',rfl⟩:=ry;exact PySem.EqMixed.eq_bool_str (cC I q (by simp))
  |_=>exact absurd (show false=true from hs) qml
 |int i=>
  obtain⟨t,rfl⟩:=rx;cases y with
  |non=>cases ry;exact PySem.EqNone.eq_int_none (cC I q (by simp))
  |int j=>obtain⟨t',rfl⟩:=ry;exact eq_int (cC I q T_)
  |str j=>obtain⟨t',rfl⟩:=ry;exact PySem.EqMixed.eq_int_str (cC I q (by simp))
  |_=>exact absurd (show false=true from hs) qml
 |str i=>
  obtain⟨t,rfl⟩:=rx;cases y with
  |non=>cases ry;exact PySem.EqNone.eq_str_none (cC I q (by simp))
  |bl j=>cases ry;exact PySem.EqMixed.eq_str_bool (cC I q (by simp))
  |int j=>obtain⟨t',rfl⟩:=ry;exact PySem.EqMixed.eq_str_int (cC I q (by simp))
  |str j=>obtain⟨t',rfl⟩:=ry;exact eq_str (cC I q Ua)
  |_=>exact absurd (show false=true from hs) qml
 |X7 i=>
  obtain⟨t,rfl⟩:=rx;cases y with
  |X7 j=>obtain⟨t',rfl⟩:=ry;exact W.eq_bytes (cC I q Ub)
  |_=>exact absurd (show false=true from hs) qml
 |_=>cases y <;> exact absurd (show false=true from hs) qml
theorem qgk:iY X (compareOp .NotEq) rNe:=by
 intro p_ s σ H x y v u Q I rx ry h;obtain⟨hs,q⟩:=h;cases x with
 |non=>
  cases rx;cases y with
  |non=>cases ry;exact PySem.EqNone.ne_none_none (cC I q (by simp))
  |bl j=>cases ry;exact PySem.EqNone.ne_none_bool (cC I q (by simp))
  |int j=>obtain⟨t',rfl⟩:=ry;exact PySem.EqNone.ne_none_int (cC I q (by simp))
  |str j=>obtain⟨t',rfl⟩:=ry;exact PySem.EqNone.ne_none_str (cC I q (by simp))
  |_=>exact absurd (show false=true from hs) qml
 |bl i=>
  cases rx;cases y with
  |non=>cases ry;exact PySem.EqNone.ne_bool_none (cC I q (by simp))
  |bl j=>cases ry;exact ne_bool (cC I q (qmA not Yz))
  |str j=>obtain⟨t',rfl⟩:=ry;exact PySem.EqMixed.ne_bool_str (cC I q (by simp))
  |_=>exact absurd (show false=true from hs) qml
 |int i=>
  obtain⟨t,rfl⟩:=rx;cases y with
  |non=>cases ry;exact PySem.EqNone.ne_int_none (cC I q (by simp))
  |int j=>obtain⟨t',rfl⟩:=ry;exact ne_int (cC I q (qmA not T_))
  |str j=>obtain⟨t',rfl⟩:=ry;exact PySem.EqMixed.ne_int_str (cC I q (by simp))
  |_=>exact absurd (show false=true from hs) qml
 |str i=>
  obtain⟨t,rfl⟩:=rx;cases y with
  |non=>cases ry;exact PySem.EqNone.ne_str_none (cC I q (by simp))
  |bl j=>cases ry;exact PySem.EqMixed.ne_str_bool (cC I q (by simp))
  |int j=>obtain⟨t',rfl⟩:=ry;exact PySem.EqMixed.ne_str_int (cC I q (by simp))
  |str j=>obtain⟨t',rfl⟩:=ry;exact ne_str (cC I q (qmA not Ua))
  |_=>exact absurd (show false=true from hs) qml
 |X7 i=>
  obtain⟨t,rfl⟩:=rx;cases y with
  |X7 j=>obtain⟨t',rfl⟩:=ry;exact W.ne_bytes (cC I q (qmA not Ub))
  |_=>exact absurd (show false=true from hs) qml
 |_=>cases y <;> exact absurd (show false=true from hs) qml
theorem qgl:iY X (compareOp .Lt) (rI0 λi j=>.bl (decide (i<j))):=qea λ_ _ _ _ _ _ _ q=>lt_int q
theorem qgm:iY X (compareOp .LtE) (rI0 λi j=>.bl (decide (i<=j))):=qea λ_ _ _ _ _ _ _ q=>le_int q
theorem qgn:iY X (compareOp .Gt) (rI0 λi j=>.bl (decide (j<i))):=qea λ_ _ _ _ _ _ _ q=>gt_int q
theorem VF:iY X (compareOp .In) (λx y H Q=>∃i j,x = .str i/\y = .str j/\Q (.bl (!(Builtin.Str.occurrences j i 0 j.length 1).isEmpty)) H):=by
 intro p_ s σ H x y v u Q I rx ry h;obtain⟨i,j,rfl,rfl,q⟩:=h;obtain⟨t,rfl⟩:=rx;obtain⟨t',rfl⟩:=ry;exact in_str (cC I q rfl)
theorem qei:iY X (compareOp .Is) (λx y H Q=>y = .non/\Q (.bl (decide (x = .non))) H):=by
 intro p_ s σ H x y v u Q I rx ry h;obtain⟨rfl,q⟩:=h;cases ry;refine is_none_gen (cC I q ?_);cases x <;> first
  |(cases rx;rfl)
  |(obtain⟨t,rfl⟩:=rx;rfl)
theorem Uc:iY X (compareOp .IsNot) (λx y H Q=>y = .non/\Q (.bl (!decide (x = .non))) H):=by
 intro p_ s σ H x y v u Q I rx ry h;obtain⟨rfl,q⟩:=h;cases ry;refine isnot_none_gen (cC I q ?_);cases x <;> first
  |(cases rx;rfl)
  |(obtain⟨t,rfl⟩:=rx;rfl)
theorem iY.or{f:Value->Value->Sem Value}{r r':R2}(h:iY X f r)(h':iY X f r'):iY X f (λx y H Q=>r x y H Q\/r' x y H Q):=by
 intro p_ s σ H x y v u Q I rx ry q
 rcases q with q|q
 ·exact h p_ s σ H x y v u Q I rx ry q
 ·exact h' p_ s σ H x y v u Q I rx ry q
theorem bO(b:Expr){op:CmpOp}(h:op≠.In:=by decide)(h2:op≠.NotIn:=by decide):behindInMarks op b=false:=by
 have e1:(op == CmpOp.In)=false:=by cases op <;> first|rfl|exact absurd rfl h
 have e2:(op == CmpOp.NotIn)=false:=by cases op <;> first|rfl|exact absurd rfl h2
 cases b <;> simp[behindInMarks,e1,e2]
theorem lJ{op:CmpOp}{r:R2}(ho:iY X (compareOp op) r)(ha:PE X a ta)(hb:PE X b tb)(hm:behindInMarks op b=false):PE X (.Compare a [op] [b] pos) (Mr r ta tb):=by
 intro p_ s σ H Q I h;exact wpAny_Compare1 (qd_ ha hb I h λv u s2 x y H2 I2 rx ry q=>ho p_ s2 σ H2 x y v u Q I2 rx ry q) hm
def Ud(t:TE):TT:=λσ H Q=>t σ H λx H'=>∃k,x = .bl k/\Q k H'
theorem qbO{op:CmpOp}{r:R2}(ho:iY X (compareOp op) r)(ha:PE X a ta)(hb:PE X b tb)(hm:behindInMarks op b=false):PT X (.Compare a [op] [b] pos) (Ud (Mr r ta tb)):=by
 intro p_ s σ H Q I h;refine wpAny_isTrue_Compare1 (cT (ha p_ s σ H _ I h) λv s1 ⟨x,H1,I1,r1,q1⟩=>cT (hb p_ s1 σ H1 _ I1 q1) λu s2 ⟨y,H2,I2,r2,q2⟩=>
  cT (ho p_ s2 σ H2 x y v u _ I2 r1 r2 q2) λc s3 ⟨z,H3,I3,r3,k,e,q3⟩=>?_) hm
 subst e;cases r3;exact qnb ⟨H3,I3,q3⟩
def Jo(r r':R2)(ta tb tc:TE):TE:=λσ H Q=>ta σ H λx H1=>tb σ H1 λy H2=>r x y H2 λz H3=>∃k,z = .bl k/\
 (if k=true then tc σ H3 λw' H4=>r' y w' H4 Q else Q (.bl false) H3)
theorem YB{op op':CmpOp}{r r':R2}(ho:iY X (compareOp op) r)(ho':iY X (compareOp op') r')(ha:PE X a ta)(hb:PE X b tb)(hc:PE X c tc)
  (hm:lastMarks [op,op'] [b,c]=false:=by with_unfolding_all rfl):PE X (.Compare a [op,op'] [b,c] pos) (Jo r r' ta tb tc):=by
 intro p_ s σ H Q I h;refine Compare_chain (cT (ha p_ s σ H _ I h) λv s1 ⟨x,H1,I1,r1,q1⟩=>chain_link (cT (hb p_ s1 σ H1 _ I1 q1) λu s2 ⟨y,H2,I2,r2,q2⟩=>
  cT (ho p_ s2 σ H2 x y v u _ I2 r1 r2 q2) λd s3 ⟨z,H3,I3,r3,k,e,q3⟩=>?_)) hm
 subst e;cases r3;refine qnb ?_;cases k with
 |false=>exact ite_ff ⟨.bl false,H3,I3,rfl,q3⟩
 |true=>exact ite_tt (chain_last (cT (hc p_ s3 σ H3 _ I3 q3) λw' s4 ⟨z',H4,I4,r4,q4⟩=>ho' p_ s4 σ H4 y z' u w' Q I4 r2 r4 q4))
theorem YC{op op':CmpOp}{r r':R2}(ho:iY X (compareOp op) r)(ho':iY X (compareOp op') r')(ha:PE X a ta)(hb:PE X b tb)(hc:PE X c tc)
  (hm:lastMarks [op,op'] [b,c]=false:=by with_unfolding_all rfl):PT X (.Compare a [op,op'] [b,c] pos) (Ud (Jo r r' ta tb tc)):=by
 intro p_ s σ H Q I h;refine isTrue_chain (cT (ha p_ s σ H _ I h) λv s1 ⟨x,H1,I1,r1,q1⟩=>test_link (cT (hb p_ s1 σ H1 _ I1 q1) λu s2 ⟨y,H2,I2,r2,q2⟩=>
  cT (ho p_ s2 σ H2 x y v u _ I2 r1 r2 q2) λd s3 ⟨z,H3,I3,r3,k,e,q3⟩=>?_)) hm
 subst e;cases r3;refine qnb ?_;cases k with
 |false=>
  obtain⟨k',e',q'⟩:=q3;cases e';exact ite_ff ⟨H3,I3,q'⟩
 |true=>
  refine ite_tt (test_last (cT (hc p_ s3 σ H3 _ I3 q3) λw' s4 ⟨z',H4,I4,r4,q4⟩=>cT (ho' p_ s4 σ H4 y z' u w' _ I4 r2 r4 q4) λd' s5 ⟨z2,H5,I5,r5,k2,e2,q5⟩=>?_));subst e2;cases r5;exact qnb ⟨H5,I5,q5⟩
theorem wF:(sizeLine:Nat)<2 ^ 63:=by rw[qoc];decide
theorem Qz:iY X (binaryOp .Add) (λx y H Q=>∃i j,x = .str i/\y = .str j/\i.length+j.length<=sizeLine/\Q (.str (i++j)) H):=by
 intro p_ s σ H x y v u Q I rx ry h;obtain⟨i,j,rfl,rfl,hz,q⟩:=h;obtain⟨t,rfl⟩:=rx;obtain⟨t',rfl⟩:=ry;exact add_str (λt' tk=>⟨.str (i++j),H,I.tok _,⟨_,rfl⟩,q⟩) hz
theorem vals1{x:V}{us:QAE}(r:Vals [x] us):∃u,us=[u]/\RelV x u:=by
 cases r with
 |cons r1 r2=>cases r2;exact⟨_,rfl,r1⟩
theorem vals2{x y:V}{us:QAE}(r:Vals [x,y] us):∃u w',us=[u,w']/\RelV x u/\RelV y w':=by
 cases r with
 |cons r1 r2=>
  cases r2 with
  |cons r3 r4=>cases r4;exact⟨_,_,rfl,r1,r3⟩
theorem YD:cg X (.builtin "abs") (λxs H Q=>∃i,xs=[.int i]/\Q (.int (if i<0 then -i else i)) H):=by
 intro p_ s σ H xs us Q I r h;obtain⟨i,rfl,q⟩:=h;obtain⟨u,rfl,t,rfl⟩:=vals1 r;exact call_abs_int λu tk=>⟨.int (if i<0 then -i else i),H,I.tok _,⟨_,rfl⟩,q⟩
theorem VG(hc:X.calm=true):cg X (.builtin "max") (λxs H Q=>∃i j,xs=[.int i,.int j]/\Q (.int (if j > i then j else i)) H):=by
 intro p_ s σ H xs us Q I r h;obtain⟨i,j,rfl,q⟩:=h;obtain⟨u,w',rfl,⟨t,rfl⟩,⟨t',rfl⟩⟩:=vals2 r;refine max_two_ints (I.ok.hd hc) λh' tk k=>⟨_,H,I.kept k,?_,q⟩
 by_cases hj:j > i
 ·rw[if_pos hj,if_pos hj];exact⟨_,rfl⟩
 ·rw[if_neg hj,if_neg hj];exact⟨_,rfl⟩
theorem VH(hc:X.calm=true):cg X (.builtin "min") (λxs H Q=>∃i j,xs=[.int i,.int j]/\Q (.int (if j<i then j else i)) H):=by
 intro p_ s σ H xs us Q I r h;obtain⟨i,j,rfl,q⟩:=h;obtain⟨u,w',rfl,⟨t,rfl⟩,⟨t',rfl⟩⟩:=vals2 r;refine min_two_ints (I.ok.hd hc) λh' tk k=>⟨_,H,I.kept k,?_,q⟩
 by_cases hj:j<i
 ·rw[if_pos hj,if_pos hj];exact⟨_,rfl⟩
 ·rw[if_neg hj,if_neg hj];exact⟨_,rfl⟩
theorem VJ:cg X (.type "int") (λxs H Q=>(∃i,xs=[.int i]/\Q (.int i) H)\/∃k,xs=[.bl k]/\Q (.int (if k then 1 else 0)) H):=by
 intro p_ s σ H xs us Q I r h
 rcases h with⟨i,rfl,q⟩|⟨k,rfl,q⟩
 ·obtain⟨u,rfl,t,rfl⟩:=vals1 r;exact call_int_int ⟨.int i,H,I,⟨_,rfl⟩,q⟩
 ·obtain⟨u,rfl,r1⟩:=vals1 r;cases r1;exact call_int_bool ⟨.int (if k then 1 else 0),H,I.tok _,⟨_,rfl⟩,q⟩
theorem Ms:cg X (.builtin "divmod") (λxs H Q=>∃i j,xs=[.int i,.int j]/\VD i j/\∀p,H p=none->Q (.ref p) (upd H p (.tup [.int (i / j),.int (i % j)]))):=by
 intro p_ s σ H xs us Q I r h;obtain⟨i,j,rfl,⟨h1,h2⟩,q⟩:=h;obtain⟨u,w',rfl,⟨t,rfl⟩,⟨t',rfl⟩⟩:=vals2 r;refine divmod_int (by omega) ?_ (.inl (PyProof.noPylong_small (by omega)));rw[Int.fdiv_eq_ediv_of_nonneg i (by omega),Int.fmod_eq_emod_of_nonneg i (by omega)];have hn:H s.heap.objs.size=none:=I.hok.fresh (ql7 _);refine⟨.ref s.heap.objs.size,_,?_,rfl,q _ hn⟩;refine I.laid (λb o e=>ql4 _ e) (ql7 _) ⟨by simp only[qmq,qoh];rw[qoc];decide,[.int (i / j) s.toks,.int (i % j) (s.toks+1)],.cons ⟨_,rfl⟩ (.cons ⟨_,rfl⟩ .nil),?_⟩;exact⟨_,qmc s.heap rfl,rfl,0,rfl⟩
end
structure QB(h:Heap)(x dx C:Addr)(mA:Str->Option Value):Prop where
 obj:h.get? x=some (W.instObj C dx)
 ns:h.Ns1 dx mA
 ne:dx≠x
theorem VL{h:Heap}{dx:Addr}{mA:Str->Option Value}(n:h.Ns1 dx mA):∃od,h.get? dx=some od/\∀name,W.lookIn name od=some (mA name):=by
 obtain⟨o,es,ep,ho,hd,hk,_,hm⟩:=n;refine⟨o,ho,λname=>?_⟩;have e:=hm name;unfold nsFind findBy at e;rw[<- Array.find?_toList] at e;unfold W.lookIn;rw[hd];dsimp only;split
 ·rename_i y q;rw[q] at e;exact qmA some e
 ·rename_i q;rw[q] at e;have a:es.toList.any (·.refKey)=false:=by
   rw[List.any_eq_false];intro y hy;obtain⟨z,t,hkey⟩:=hk y (Array.mem_toList_iff.mp hy);simp[DictEntry.refKey,hkey]
  have a':¬es.toList.any (·.refKey)=true:=by rw[a];exact qml
  rw[if_neg a'];exact qmA some e
theorem QB.look{h:Heap}{x dx C:Addr}{mA:Str->Option Value}(I:QB h x dx C mA):∃od,W.InstAt h x (W.instObj C dx) C (some od)/\∀name,W.lookIn name od=some (mA name):=
 let ⟨od,ho,hl⟩:=VL I.ns
 ⟨od,⟨I.obj,rfl,rfl,ho⟩,hl⟩
section
variable {prog:Program}{w:World}{A:Around}{E:QAB}{s:Shared}{K:W.Frag}{x dx C f:Addr}{mA:Str->Option Value}{name:Str}{v:Value}
theorem get_map{expr:Bool}{Q:QAB}(X:K.In s.heap)(I:QB s.heap x dx C mA)(hg:W.plainGet K C name=true)(hh:W.hasDictIn K C=true)
  (ha:W.findIn K (.ref C) name=some none) (hv:mA name=some v) (hv':W.handedIn v=true) (h:Q v {s with toks:=s.toks+1}) :
  wpAny (model prog w) A (getAttr (.ref x) name expr) Q E s:=by
 obtain⟨od,J,hl⟩:=I.look;exact W.get_value X J (W.plainGet_of hg).1 (W.findObj_own hh ha rfl (by rw[hl,hv])) hv' h
theorem YF{pl:Sem Bool}{Q:Value×QAE->Shared->Prop}(X:K.In s.heap)(I:QB s.heap x dx C mA)(hg:W.plainGet K C name=true)
  (hf:W.findIn K (.ref C) name=some (some (.ref f))) (ht:W.isFn K (.ref f)=true) (hv:mA name=none) (h:Q (.ref f,[.ref x]) s) :
  wpAny (model prog w) A (getMethod (.ref x) name pl) Q E s:=by
 obtain⟨od,J,hl⟩:=I.look;exact W.method_fn X J (W.plainGet_of hg).1 (W.plainGet_of hg).2 hf (qn1.mp ht) (by show(W.lookIn name od).map (·.isSome)=some false;rw[hl,hv];rfl) h
theorem qbP{ns:QAH}{Q:Unit->Shared->Prop}(X:K.In s.heap)(I:QB s.heap x dx C mA)
  (hs:W.findIn K (.ref C) "__setattr__" = some (some (.builtin "object.__setattr__"))) (hp:W.plainOver K C=true) (ht:W.takerIn K C name=some none) (hh:W.hasDictIn K C=true)
  (hw:PySem.Within mA ns) (hsz:ns.length<=sizeLine)
  (h:∀h',QB h' x dx C (λy=>if y=name then some v else mA y)->Heap.SameBut dx s.heap h'->Q () {s with heap:=h',toks:=s.toks+2}) :
  wpAny (model prog w) A (setAttr (.ref x) name v) Q E s:=by
 obtain⟨od,J,hl⟩:=I.look;refine W.set_plain X J hs (W.osa_open (s:={s with toks:=s.toks+1}) (r:=none) X J hp ht λb=>?_);obtain⟨cd,hc,hd'⟩:=W.any_some hh;have hx:s.heap.get? x=some ⟨.ref C,some dx,.plain,#[]⟩:=I.obj;refine ql3 (qmb (ql3 (ql3 (wpAny_loadPart hx (ql3 (W.Looks.here (s:={s with toks:=s.toks+1}) (W.looks_clsIn X hc) ?_))))));rw[hd'];refine qmb (a:=some dx) (ql3 (qmb (ql3 ?_)));refine wpAny_nsSet1 (s:={s with toks:=s.toks+1}) I.ns λh' hn2 hs2=>?_;obtain⟨oD,esD,epD,hoD,hdD,hcD⟩:=hn2.count (PySem.Within.cons name v hw);refine ql3 (wpAny_lookBehind hoD (by rw[hdD];exact pastItsLine_dict (qme hcD (by rw[qmq];omega))) ?_);exact qmb (h _ ⟨(hs2.2 _ (qnF I.ne)).trans I.obj,hn2,I.ne⟩ hs2)
theorem YG{R:Result->Shared->Prop}{vs:QAE}{kw:List (Str×Value)}(X:K.In s.heap)(hm:W.makesIn K C=true)
  (hi:W.findIn K (.ref C) "__init__" = some (some (.ref f))) (hf:W.typeIn K (.ref f)=some (.type "function"))
  (h:codeAny (model prog w) (A.under (.builtin "type.__call__" ⟨.ref C::vs,kw⟩)) (.call (.ref f) ⟨.ref (s.heap.objs.size+1)::vs,kw⟩) (W.InitBack (s.heap.objs.size+1) R)
   {s with heap:=(s.heap.push W.emptyDict).push (W.instObj C s.heap.objs.size)}) :
  codeAny (model prog w) A (.call (.ref C) ⟨vs,kw⟩) R s:=by
 obtain⟨hh,g,d,t,os⟩:=s;exact W.make_core (W.makes_of X hm) (W.looks_findIn X hi) (λself=>W.bind_fn X self hf) (.inl rfl) h
end
def kW(f:Str)(v:V):List (Str×V)->List (Str×V)
 |[]=>[(f,v)]
 |(g,x)::r=>if g=f then (g,v)::r else (g,x)::kW f v r
theorem oY(f g:Str)(v:V):∀fs:List (Str×V),(kW f v fs).lookup g=if g=f then some v else fs.lookup g
 |[]=>by
  show List.lookup g [(f,v)]=_
  by_cases h:g=f
  ·have hb:(g == f)=true:=qn1.mpr h;simp only[List.lookup,hb,if_pos h]
  ·have hb:(g == f)=false:=qnI.mpr h;simp only[List.lookup,hb,if_neg h]
 |(k,x)::r=>by
  have ih:=oY f g v r;rw[show kW f v ((k,x)::r)=(if k=f then (k,v)::r else (k,x)::kW f v r) from rfl]
  by_cases hk:k=f
  ·rw[if_pos hk]
   by_cases h:g=k
   ·have hb:(g == k)=true:=qn1.mpr h;simp only[List.lookup,hb,if_pos (h.trans hk)]
   ·have hb:(g == k)=false:=qnI.mpr h;simp only[List.lookup,hb,if_neg (λe:g=f=>h (e.trans hk.symm))]
  ·rw[if_neg hk]
   by_cases h:g=k
   ·have hb:(g == k)=true:=qn1.mpr h;simp only[List.lookup,hb,if_neg (λe:g=f=>hk (h.symm.trans e))]
   ·have hb:(g == k)=false:=qnI.mpr h;simp only[List.lookup,hb];exact ih
theorem qP(f:Str)(v:V):∀fs:List (Str×V),f∈(kW f v fs).map (·.1)/\∀g,g∈fs.map (·.1)->g∈(kW f v fs).map (·.1)
 |[]=>⟨by simp[kW],λg h=>by simp at h⟩
 |(k,x)::r=>by
  obtain⟨i1,i2⟩:=qP f v r;rw[show kW f v ((k,x)::r)=(if k=f then (k,v)::r else (k,x)::kW f v r) from rfl]
  by_cases hk:k=f
  ·rw[if_pos hk];subst hk;exact⟨by simp,λg h=>by simpa using h⟩
  ·rw[if_neg hk];refine⟨?_,λg h=>?_⟩
   ·rw[qmG];exact qmp _ i1
   ·rw[qmG] at h⊢
    rcases qmd.mp h with e|e
    ·exact qmd.mpr (.inl e)
    ·exact qmp _ (i2 g e)
theorem uc(f:Str)(v:V):∀fs:List (Str×V),(kW f v fs).length<=fs.length+1
 |[]=>by simp[kW]
 |(k,x)::r=>by
  have ih:=uc f v r;rw[show kW f v ((k,x)::r)=(if k=f then (k,v)::r else (k,x)::kW f v r) from rfl]
  by_cases hk:k=f
  ·rw[if_pos hk,qmq,qmq];omega
  ·rw[if_neg hk,qmq,qmq];omega
theorem m7.some_of{v:V}{o:QAG}(r:m7 (some v) o):∃u,o=some u/\RelV v u:=by
 cases o with
 |none=>exact(show False from r).elim
 |some u=>exact⟨u,rfl,r⟩
theorem m7.none_of{o:QAG}(r:m7 none o):o=none:=by
 cases o with
 |none=>rfl
 |some u=>exact(show False from r).elim
theorem VN{v:V}{u:Value}(r:RelV v u):W.handedIn u=true:=by
 cases v with
 |non=>cases (show u=Value.none from r);rfl
 |bl b=>cases (show u=Value.bool b from r);rfl
 |int i=>obtain⟨t,e⟩:=(show ∃t,u=Value.int i t from r);cases e;rfl
 |str x=>obtain⟨t,e⟩:=(show ∃t,u=Value.str x t from r);cases e;rfl
 |X7 b=>obtain⟨t,e⟩:=(show ∃t,u=Value.bytes b t from r);cases e;rfl
 |flt b=>obtain⟨t,e⟩:=(show ∃t,u=Value.float b t from r);cases e;rfl
 |ref a=>cases (show u=Value.ref a from r);rfl
 |ty n=>cases (show u=Value.type n from r);rfl
section
variable {P:Program}{w:World}{H H':Hp}{h h':Heap}{a C dx:Addr}{fs fs':List (Str×V)}
theorem xW(hok:tD P w H h)(e:H a=some (.ins C dx fs)):∃mA,QB h a dx C mA/\(∀f,m7 (fs.lookup f) (mA f))/\PySem.Within mA (fs.map (·.1))/\fs.length<=1000/\H dx=some (.own a):=by
 obtain⟨d,z,ne,ob,mA,n,r,q⟩:=(show cD P w H h a (.ins C dx fs) from hok a _ e);exact⟨mA,⟨ob,n,ne⟩,r,q,z,d⟩
end
structure Cls(K:W.Frag)(C:Addr):Prop where
 pg:W.plainGet K C Str.empty=true
 hd:W.hasDictIn K C=true
 po:W.plainOver K C=true
 sa:W.findIn K (.ref C) "__setattr__" = some (some (.builtin "object.__setattr__"))
theorem Cls.get{K:W.Frag}{C:Addr}(c:Cls K C)(f:Str):W.plainGet K C f=true:=c.pg
def mK(K:W.Frag)(C:Addr)(f:Str):Prop:=W.findIn K (.ref C) f=some none
theorem mK.taker{K:W.Frag}{C:Addr}{f:Str}(n:mK K C f):W.takerIn K C f=some none:=by
 unfold W.takerIn;rw[show W.findIn K (.ref C) f=some none from n];rfl
structure Meth(K:W.Frag)(C:Addr)(m:Str)(f:Addr):Prop where
 at_:W.findIn K (.ref C) m=some (some (.ref f))
 fn:W.isFn K (.ref f)=true
 kp:W.keepIn K (.ref f)=true
section
variable {X:Cx}{p_:QAC}{σ:St}{H:Hp}{s:Shared}{a C dx:Addr}{fs:List (Str×V)}{f:Str}{v:V}{A:Around}{E:QAB}
theorem QC{b:Bool}{Q:QAB}(I:Inv X p_ σ H s)(e:H a=some (.ins C dx fs))(c:Cls X.K C)(n:mK X.K C f)(l:fs.lookup f=some v)
  (h:∀u s',Inv X p_ σ H s'->RelV v u->Q u s'):wpAny (model X.prog X.w) A (getAttr (.ref a) f b) Q E s:=by
 obtain⟨mA,O,r,_,_,_⟩:=xW I.hok e;obtain⟨u,hu,ru⟩:=m7.some_of (v:=v) (o:=mA f) (by rw[<- l];exact r f);exact get_map I.oU O (c.get f) c.hd n hu (VN ru) (h u _ (I.tok _) ru)
theorem QD{m:Str}{g:Addr}{pl:Sem Bool}{Q:Value×QAE->Shared->Prop}(I:Inv X p_ σ H s)(e:H a=some (.ins C dx fs))(c:Cls X.K C)(k:Meth X.K C m g)(l:fs.lookup m=none)
  (h:Q (.ref g,[.ref a]) s):wpAny (model X.prog X.w) A (getMethod (.ref a) m pl) Q E s:=by
 obtain⟨mA,O,r,_,_,_⟩:=xW I.hok e;have hn:mA m=none:=m7.none_of (by rw[<- l];exact r m);exact YF I.oU O (c.get m) k.at_ k.fn hn h
theorem QF{y:V}{u:Value}{Q:Unit->Shared->Prop}(I:Inv X p_ σ H s)(e:H a=some (.ins C dx fs))(c:Cls X.K C)(n:mK X.K C f)(hl:fs.length<1000)(ry:RelV y u)
  (h:∀s',Inv X p_ σ (upd H a (.ins C dx (kW f y fs))) s'->Q () s'):wpAny (model X.prog X.w) A (setAttr (.ref a) f u) Q E s:=by
 obtain⟨mA,O,r,wi,_,ho⟩:=xW I.hok e;have hz:(fs.map (·.1)).length<=sizeLine:=by rw[ql9,qoc];omega
 refine qbP I.oU O c.sa c.po n.taker c.hd wi hz λh' O' sb=>h _ ?_;have hd:∃o,h'.get? dx=some o:=let ⟨o,_,_,e',_⟩:=O'.ns;⟨o,e'⟩;refine I.write (x:=a) (e:=dx) (by rw[e];exact True.intro) (.inr ho) (λb q hb z=>(sb.2 b hb).trans z) hd ?_;refine⟨by rw[aD O.ne];exact ho,?_,O.ne,O'.obj,_,O'.ns,λg=>?_,λg hg=>?_⟩
 ·have:=uc f y fs;omega
 ·show m7 ((kW f y fs).lookup g) (if g=f then some u else mA g)
  rw[oY]
  by_cases q:g=f
  ·rw[if_pos q,if_pos q];exact ry
  ·rw[if_neg q,if_neg q];exact r g
 ·by_cases q:g=f
  ·rw[q];exact(qP f y fs).1
  ·refine(qP f y fs).2 g (wi g λz=>hg ?_);show(if g=f then some u else mA g)=none
   rw[if_neg q];exact z
theorem Inv.made(I:Inv X p_ σ H s):Inv X p_ σ (upd (upd H s.heap.objs.size (.own (s.heap.objs.size+1))) (s.heap.objs.size+1) (.ins C s.heap.objs.size []))
  {s with heap:=(s.heap.push W.emptyDict).push (W.instObj C s.heap.objs.size)}:=by
 have e1:(s.heap.push W.emptyDict).get? s.heap.objs.size=some W.emptyDict:=qmc s.heap rfl;have e2:((s.heap.push W.emptyDict).push (W.instObj C s.heap.objs.size)).get? (s.heap.objs.size+1)=some (W.instObj C s.heap.objs.size):=by
  have:=qmc (s.heap.push W.emptyDict) (o:=W.instObj C s.heap.objs.size) rfl
  rwa [qmK] at this
 have e3:(s.heap.push W.emptyDict).Ns s.heap.objs.size (λ_=>none):=⟨W.emptyDict,#[],_,e1,rfl,(λe he=>absurd he (by simp)),λ_=>rfl⟩;have I1:=I.laid (a:=s.heap.objs.size) (o:=.own (s.heap.objs.size+1)) (h':=s.heap.push W.emptyDict) (t':=s.toks) (λb u q=>ql4 _ q) (ql7 _) ⟨_,e1⟩;refine I1.laid (a:=s.heap.objs.size+1) (o:=.ins C s.heap.objs.size []) (t':=s.toks) (λb u q=>ql4 _ q) (Nat.le_of_eq (qmK _ _)) ?_;have ne:s.heap.objs.size≠s.heap.objs.size+1:=qmg (qmS _);refine⟨by rw[aD ne,ak],qmP _,ne,e2,λ_=>none,(Heap.Ns1.of_empty e3).at λo q=>ql4 _ q,λ_=>True.intro,λy hy=>absurd rfl hy⟩
theorem qbQ{prog:Program}{w:World}{env:Env}{e:Expr}{f:Str}{pos:Pos}{s:Shared}{Q:QAB}(hb:attributeBase e f env (eval e env)=eval e env)
  (h:wpAny (model prog w) A (eval e env) (λo s₁=>wpAny (model prog w) A (getAttr o f true) Q E s₁) E s):wpAny (model prog w) A (eval (.Attribute e f pos) env) Q E s:=
 Attribute_any_ h (by rw[arm_eval_Attribute,hb])
end
def qbR(K:W.Frag)(ta:TE)(f:Str):TE:=λσ H Q=>ta σ H λx H1=>∃a C dx fs v,x = .ref a/\H1 a=some (.ins C dx fs)/\Cls K C/\mK K C f/\fs.lookup f=some v/\Q v H1
def qej(K:W.Frag)(ta tv:TE)(f:Str):TS:=λD σ H=>tv σ H λy H1=>ta σ H1 λx H2=>∃a C dx fs,x = .ref a/\H2 a=some (.ins C dx fs)/\Cls K C/\mK K C f/\fs.length<1000/\
 D.nx σ (upd H2 a (.ins C dx (kW f y fs)))
section
variable {X:Cx}{o e value:Expr}{f:Str}{pos pos' tpos:Pos}{ta tv:TE}
theorem qek(he:PE X e ta)(hb:attributeBase e f X.env (eval e X.env)=eval e X.env):PE X (.Attribute e f pos) (qbR X.K ta f):=by
 intro p_ s σ H Q I h;refine qbQ hb (cT (he p_ s σ H _ I h) λu s1 zz=>?_);obtain⟨x,H1,I1,rx,a,C,dx,fs,v,ex,ea,c,n,l,q⟩:=zz;subst ex;obtain rfl:u=Value.ref a:=rx;exact QC I1 ea c n l λu' s2 I2 ru=>⟨v,H1,I2,ru,q⟩
theorem qel(ha:PE X o ta)(hv:PE X value tv)(hs:swapsWith value (some (.Attribute o f pos')) pos.line X.env=pure false):PS X (.Assign [.Attribute o f pos'] value pos) (qej X.K ta tv f):=by
 intro p_ s σ H D I h;refine qn7 (cT (hv p_ s σ H _ I h) λu s1 ⟨y,H1,I1,ry,q⟩=>cT (ha p_ s1 σ H1 _ I1 q) λov s2 ⟨x,H2,I2,rx,a,C,dx,fs,ex,ea,c,n,l,q2⟩=>?_) hs;subst ex;obtain rfl:ov=Value.ref a:=rx;exact QF I2 ea c n l ry λs3 I3=>⟨σ,_,I3,q2⟩
end
section
variable {X:Cx}{p_:QAC}{σ:St}{H:Hp}{s:Shared}{A:Around}{E:QAB}{Q:QAB}{c:Value}{b:Bool}
inductive mL(K:W.Frag)(H:Hp):V->Value->Prop where
 |non:mL K H .non (.type "NoneType")
 |bl (x:Bool):mL K H (.bl x) (.type "bool")
 |int (i:Int):mL K H (.int i) (.type "int")
 |str (x:Str):mL K H (.str x) (.type "str")
 |flt (x:UInt64):mL K H (.flt x) (.type "float")
 |lst {a:Addr}{xs:List V} (e:H a=some (.lst xs)):mL K H (.ref a) (.type "list")
 |Mg {a:Addr}{o:Obj}{xs:List V} (e:H a=some (.Mg o (.lst xs))):mL K H (.ref a) (.type "list")
 |tup {a:Addr}{xs:List V} (e:H a=some (.tup xs)):mL K H (.ref a) (.type "tuple")
 |dK {a:Addr}{kvs:List (Key×V)} (e:H a=some (.dK kvs)):mL K H (.ref a) (.type "dict")
 |dT {a:Addr}{kvs:List (List Key×V)} (e:H a=some (.dT kvs)):mL K H (.ref a) (.type "dict")
 |ins {a C dx:Addr}{fs:List (Str×V)} (e:H a=some (.ins C dx fs)) (cl:Cls K C) (ha:W.findIn K (.ref C) "__class__" = some (some (.builtin "object.__class__")))
   (hn:W.specialIn K (.builtin "object.__class__") "__get__" = some (some (.builtin "getset_descriptor.__get__"))) (htk:W.takesIn K (.builtin "object.__class__")=some true)
   (hm:W.mroIn K C (.type "object")=some true):mL K H (.ref a) (.ref C)
theorem VP{x:V}{u t:Value}(I:Inv X p_ σ H s)(rx:RelV x u)(ty:mL X.K H x t)(e:W.kitOne X.K t c=some b)(h:∀tk,Q (.bool b) {s with toks:=tk}) :
  wpAny (model X.prog X.w) A (call (.builtin "isinstance") [u,c]) Q E s:=by
 cases ty with
 |non=>cases (show u=Value.none from rx);exact qn9 W.kitx_none I.oU True.intro e (λz=>nomatch z) h
 |bl y=>cases (show u=Value.bool y from rx);exact qn9 W.kitx_bool I.oU True.intro e (λz=>nomatch z) h
 |int i=>obtain⟨t,q⟩:=(show ∃t,u=Value.int i t from rx);cases q;exact qn9 W.kitx_int I.oU True.intro e (λz=>nomatch z) h
 |str y=>obtain⟨t,q⟩:=(show ∃t,u=Value.str y t from rx);cases q;exact qn9 W.kitx_str I.oU True.intro e (λz=>nomatch z) h
 |flt y=>obtain⟨t,q⟩:=(show ∃t,u=Value.float y t from rx);cases q;exact qn9 W.kitx_float I.oU True.intro e (λz=>nomatch z) h
 | @lst a xs ea=>
  cases (show u=Value.ref a from rx);obtain⟨_,_,n,_,h1⟩:=(show cD X.prog X.w H s.heap a (.lst xs) from I.hok a _ ea);exact qn9 W.kitx_list I.oU ⟨_,h1,rfl⟩ e (λz=>nomatch z) h
 | @Mg a ob xs ea=>
  cases (show u=Value.ref a from rx);obtain⟨_,_,_,n,_,h1⟩:=(show cD X.prog X.w H s.heap a (.Mg ob (.lst xs)) from I.hok a _ ea);exact qn9 W.kitx_list I.oU ⟨_,h1,rfl⟩ e (λz=>nomatch z) h
 | @tup a xs ea=>
  cases (show u=Value.ref a from rx);obtain⟨_,_,_,p⟩:=(show cD X.prog X.w H s.heap a (.tup xs) from I.hok a _ ea);obtain⟨o,h1,h2,_⟩:=p;exact qn9 W.kitx_tuple I.oU ⟨o,h1,h2⟩ e (λz=>nomatch z) h
 | @dK a kvs ea=>
  cases (show u=Value.ref a from rx);obtain⟨_,_,vs,_,p⟩:=(show cD X.prog X.w H s.heap a (.dK kvs) from I.hok a _ ea);obtain⟨o,es,ep,h1,h2,_⟩:=p;exact qn9 W.kitx_dict I.oU ⟨o,h1,h2.1⟩ e (λz=>nomatch z) h
 | @dT a kvs ea=>
  cases (show u=Value.ref a from rx);obtain⟨_,_,xs,_,o,es,ep,h1,h2,_⟩:=(show cD X.prog X.w H s.heap a (.dT kvs) from I.hok a _ ea);exact qn9 W.kitx_dict I.oU ⟨o,h1,h2.1⟩ e (λz=>nomatch z) h
 | @ins a C dx fs ea cl ha hn htk hm=>
  cases (show u=Value.ref a from rx);obtain⟨mA,O,_⟩:=xW I.hok ea;obtain⟨od,J,_⟩:=O.look;exact qn9 (W.kitx_own (cl.get _) cl.hd ha hn htk hm) I.oU J e (λz=>nomatch z) h
end
structure fL(k:Nat)(A:Around):Prop where
 hd:A.handled=none
 dp:A.depth+3 * k+5<recursionLimit
 un:A.units+16 * k+200<cLine
 gd:A.guards=some []
theorem fL.mono{j k:Nat}{A:Around}(r:fL k A)(h:j<=k):fL j A:=⟨r.hd,by have:=r.dp;omega,by have:=r.un;omega,r.gd⟩
theorem fL.d{j k:Nat}{A:Around}(r:fL k A)(h:j<=k:=by decide):fL j A:=r.mono h
theorem fL.deeper{k:Nat}{A:Around}(r:fL (k+1) A)(env:Env):fL k (A.deeper env):=
 ⟨r.hd,by have:=r.dp;show A.depth+1+3 * k+5<_;omega,by have:=r.un;show A.units+3+16 * k+200<_;omega,r.gd⟩
theorem fL.in1{k:Nat}{A:Around}(r:fL (k+1) A):fL k A.in1:=
 ⟨r.hd,by have:=r.dp;show A.depth+3 * k+5<_;omega,by have:=r.un;show A.units+1+16 * k+200<_;omega,r.gd⟩
theorem QG{A:Around}{C:Addr}{us:QAE}{kw:List (Str×Value)}:(A.under (.builtin "type.__call__" ⟨.ref C::us,kw⟩)).depth=A.depth+1:=by
 first|rfl|simp[Around.under,Code.weight,Code.isCreation,Code.isGuard,Code.isCaller,Code.frames,Code.isFrame,guardIds]
theorem QH{A:Around}{C:Addr}{us:QAE}{kw:List (Str×Value)}:(A.under (.builtin "type.__call__" ⟨.ref C::us,kw⟩)).units=A.units+1:=by
 first|rfl|simp[Around.under,Code.cUnits,Code.frames,Code.isFrame]
theorem Mt{A:Around}{C:Addr}{us:QAE}{kw:List (Str×Value)}:(A.under (.builtin "type.__call__" ⟨.ref C::us,kw⟩)).guards=A.guards:=by
 first|rfl|simp[Around.under,Code.isGuard,guardIds]
theorem fL.make{k:Nat}{A:Around}(r:fL (k+1) A)(C:Addr)(us:QAE)(kw:List (Str×Value)):fL k (A.under (.builtin "type.__call__" ⟨.ref C::us,kw⟩)):=
 ⟨r.hd,by have:=r.dp;rw[QG];omega,by have:=r.un;rw[QH];omega,by rw[Mt];exact r.gd⟩
theorem fL.depth{k:Nat}{A:Around}(r:fL k A):A.depth<recursionLimit:=by have:=r.dp;omega
theorem fL.units{k:Nat}{A:Around}(r:fL k A):A.units+64<cLine:=by have:=r.un;omega
def Bq:TA:=λ_ H Q=>Q [] H
def ud(ta:TE)(tr:TA):TA:=λσ H Q=>ta σ H λx H1=>tr σ H1 λxs H2=>Q (x::xs) H2
section
variable {X:Cx}{e:Expr}{es:List Expr}{te:TE}{t:TA}{pos:Pos}
theorem ao:PA X [] Bq:=λ_ _ _ _ H Q I h=>Calls.spliced_nil ⟨[],H,I,.nil,h⟩
theorem aj(ha:PE X e te)(hr:PA X es t)(hs:starEach (e::es) X.env=(false,eval e X.env)::starEach es X.env:=by rfl):PA X (e::es) (ud te t):=by
 intro pos p_ s σ H Q I h;rw[hs];show wpAny _ _ (spliced ((false,eval e X.env)::backTo pos (starEach es X.env))) _ _ s;refine Calls.spliced_cons (cT (ha p_ s σ H _ I h) λu s1 zz=>?_);obtain⟨x,H1,I1,r1,q1⟩:=zz;refine cT (hr pos p_ s1 σ H1 _ I1 q1) λus s2 zz=>?_;obtain⟨xs,H2,I2,r2,q2⟩:=zz;exact⟨x::xs,H2,I2,.cons r1 r2,q2⟩
def qem(t:TA):TE:=λσ H Q=>t σ H λxs H1=>xs.length<=sizeLine/\∀p,H1 p=none->Q (.ref p) (upd H1 p (.tup xs))
def YH(t:TA):TE:=λσ H Q=>t σ H λxs H1=>xs.length<=sizeLine/\∀p,H1 p=none->Q (.ref p) (upd H1 p (.lst xs))
theorem gb{x1}(h:PA X es t):PE X (.Tuple es x1 pos) (qem t):=by
 intro p_ s σ H Q I hq;refine wpAny_Tuple_spliced (cT (h pos p_ s σ H _ I hq) λus s1 zz=>?_);obtain⟨xs,H1,I1,r,z,q⟩:=zz;refine⟨by rw[<- r.length];exact z,?_⟩;have hf:H1 s1.heap.objs.size=none:=I1.hok.fresh (ql7 _);refine⟨.ref s1.heap.objs.size,upd H1 s1.heap.objs.size (.tup xs),I1.laid (t':=s1.toks) (λb u e=>ql4 _ e) (ql7 _) ?_,rfl,q _ hf⟩;exact⟨z,us,r,⟨_,qmc _ rfl,rfl,_,rfl⟩⟩
theorem cI(h:PA X es t):PE X (.List es pos) (YH t):=by
 intro p_ s σ H Q I hq;refine wpAny_List_spliced (cT (h pos p_ s σ H _ I hq) λus s1 zz=>?_);obtain⟨xs,H1,I1,r,z,q⟩:=zz;refine⟨by rw[<- r.length];exact z,?_⟩;have hf:H1 s1.heap.objs.size=none:=I1.hok.fresh (ql7 _);refine⟨.ref s1.heap.objs.size,upd H1 s1.heap.objs.size (.lst xs),I1.laid (t':=s1.toks) (λb u e=>ql4 _ e) (ql7 _) ?_,rfl,q _ hf⟩;exact⟨z,us,0,r,qmc _ rfl⟩
end
abbrev Sp:=List V->Hp->VK->XK->Prop
abbrev YJ:=List Env->Hp->Shared->XK->Value->Shared->Prop
structure Br(P:Program)(w:World)(K:W.Frag)(mg:Str->Option Value)(base:Heap)(A:Around)(outer:List Env)(s:Shared)(H:Hp):Prop where
 frames:A.frames=some outer
 mod:Mod K mg base
 bs:∀b o,base.get? b=some o->s.heap.get? b=some o/\H b=none
 TY:base.objs.size<=s.heap.objs.size
 tQ:s.heap.FunFrames base outer
 X8:∀b∈frs outer,H b=none
 hok:tD P w H s.heap
 bare:AllBare s.gens
def CE(outer:List Env)(P:Program)(w:World)(H:Hp)(s:Shared)(Q:VK)(u:Value)(s':Shared):Prop:=
 ∃v H',s'.os=s.os/\AllBare s'.gens/\Un (frs outer) [] H H' s.heap s'.heap/\tD P w H' s'.heap/\RelV v u/\Q v H'
def CR(CX:YJ)(outer:List Env)(P:Program)(w:World)(H:Hp)(s:Shared)(Q:VK)(E:XK)(r:Result)(s':Shared):Prop:=
 match r with
 |.ok (.ret u)=>CE outer P w H s Q u s'
 |.ok _=>False
 |.error e=>CX outer H s E e s'
structure bV(P:Program)(w:World)(K:W.Frag)(mg:Str->Option Value)(base:Heap)(CX:YJ)(k:Nat)(f:Addr)(fd:FuncData)(ps:QAH)(sp:Sp):Prop where
 len:∀vs H Q E,sp vs H Q E->vs.length=ps.length
 run:∀(A:Around)(outer:List Env)(s:Shared)(H:Hp)(args:Args)(us:QAE)(vs:List V)(Q:VK)(E:XK),fL k A->Br P w K mg base A outer s H->BindsTo s fd args (ps.zip us)->Vals vs us->sp vs H Q E->
  codeAny (model P w) A (.call (.ref f) args) (CR CX outer P w H s Q E) s
theorem Br.make{P:Program}{w:World}{K:W.Frag}{mg:Str->Option Value}{base:Heap}{A:Around}{outer:List Env}{s:Shared}{H:Hp}(e:Br P w K mg base A outer s H)(C:Addr)(us:QAE)(kw:List (Str×Value)) :
  Br P w K mg base (A.under (.builtin "type.__call__" ⟨.ref C::us,kw⟩)) outer s H:=⟨by first|exact e.frames|(simpa [Around.under,Code.envs,Code.isFrame,pushEnvs] using e.frames),e.mod,e.bs,e.TY,e.tQ,e.X8,e.hok,e.bare⟩
theorem Br.in1{P:Program}{w:World}{K:W.Frag}{mg:Str->Option Value}{base:Heap}{A:Around}{outer:List Env}{s:Shared}{H:Hp}(e:Br P w K mg base A outer s H) :
  Br P w K mg base A.in1 outer s H:=⟨e.frames,e.mod,e.bs,e.TY,e.tQ,e.X8,e.hok,e.bare⟩
section
variable {X:Cx}{p_:QAC}{σ:St}{H:Hp}{s s':Shared}
theorem Inv.env0(I:Inv X p_ σ H s):Br X.prog X.w X.K X.mg X.base X.A X.stack s H:=
 ⟨I.ok.frames,I.ok.mod,I.bs,qme I.ok.TY I.sz,I.stack,I.Bw,I.hok,I.bare⟩
theorem Inv.after{Q:VK}{u:Value}(I:Inv X p_ σ H s)(h:CE X.stack X.prog X.w H s Q u s'):EP X p_ σ Q u s':=by
 obtain⟨v,H',os,bare,un,hok,r,q⟩:=h;obtain⟨hh,g,d,t,os'⟩:=s';obtain rfl:os'=s.os:=os;exact⟨v,H',I.call (h':=hh) (g':=g) (d':=d) (t':=t) (ch:=[]) un hok bare (λb z=>absurd z (by simp)),r,q⟩
end
def YK(sp:Sp)(zq:List V)(E:XK)(t:TA):TE:=λσ H Q=>t σ H λvs H1=>sp (vs++zq) H1 Q E
def YL(C:Addr)(m:Str)(sp:Sp)(zq:List V)(E:XK)(ta:TE)(t:TA):TE:=λσ H Q=>ta σ H λx H1=>∃a dx fs,x = .ref a/\H1 a=some (.ins C dx fs)/\fs.lookup m=none/\
 t σ H1 λvs H2=>sp (x::(vs++zq)) H2 Q E
def YM(C:Addr)(sp:Sp)(zq:List V)(E:XK)(t:TA):TE:=λσ H Q=>t σ H λvs H1=>∀x dx,H1 x=none->H1 dx=none->dx≠x->
 sp (.ref x::(vs++zq)) (upd (upd H1 dx (.own x)) x (.ins C dx [])) (λv H2=>v = .non/\Q (.ref x) H2) E
def Binds(K:W.Frag)(fd:FuncData)(ps:QAH)(ds:QAE):Prop:=
 ∀(s:Shared)(us:QAE),K.In s.heap->(us++ds).length=ps.length->BindsTo s fd ⟨us,[]⟩ (ps.zip (us++ds))
theorem Binds.all{K:W.Frag}{fd:FuncData}{ps:QAH}(h:∀us:QAE,us.length=ps.length->bindArgs fd ⟨us,[]⟩=pure (ps.zip us)):Binds K fd ps []:=λs us _ hl=>by
 rw[qmz] at hl⊢;exact .of_eq (h us hl)
def Passes(CX:YJ)(X:Cx)(E:XK):Prop:=∀(p_:QAC)(σ:St)(H:Hp)(s:Shared)(e:Value)(s':Shared),Inv X p_ σ H s->CX X.stack H s E e s'->X.xe e s'
section
variable {X:Cx}{CX:YJ}{k:Nat}{f C:Addr}{fd:FuncData}{ps:QAH}{sp:Sp}{zq:List V}{ds:QAE}{E:XK}{x m:Str}{p pos apos:Pos}{e o:Expr}{es:List Expr}{ta:TE}{t:TA}
theorem YQ{p_:QAC}{σ:St}{H:Hp}{s:Shared}{Q:VK}{us:QAE}{vs:List V}(F:bV X.prog X.w X.K X.mg X.base CX k f fd ps sp)(hr:fL k X.A)(hb:Binds X.K fd ps ds)(hd:Vals zq ds)(hx:Passes CX X E)
  (I:Inv X p_ σ H s) (r:Vals vs us) (h:sp (vs++zq) H Q E):wpAny (model X.prog X.w) X.A (call (.ref f) us) (EP X p_ σ Q) X.xe s:=by
 have r2:Vals (vs++zq) (us++ds):=r.append hd;have hl:(us++ds).length=ps.length:=by rw[<- r2.length];exact F.len _ _ _ _ h
 refine qn2 (qnc (F.run X.A X.stack s H ⟨us,[]⟩ (us++ds) (vs++zq) Q E hr I.env0 (hb s us I.oU hl) r2 h) λr s' hq=>?_);cases r with
 |error e=>exact hx p_ σ H s e s' I hq
 |ok fl=>
  cases fl with
  |ret u=>exact I.after hq
  |next=>exact False.elim hq
  |brk=>exact False.elim hq
  |cont=>exact False.elim hq
theorem aO(F:bV X.prog X.w X.K X.mg X.base CX k f fd ps sp)(hr:fL k X.A)(hg:Gl X x)(hm:X.mg x=some (.ref f))(hk:W.keepIn X.K (.ref f)=true)(hb:Binds X.K fd ps ds)(hd:Vals zq ds)(hx:Passes CX X E)
  (ha:PA X (e::es) t) (hdb:(x == ("__debug__" : Str))=false:=by decide) (he:starEach (e::es) X.env=(false,eval e X.env)::starEach es X.env:=by rfl) (hpl:(backTo pos (starEach es X.env)).any (·.1)=false:=by rfl) :
  PE X (.Call (.Name x p) (e::es) [] pos) (YK sp zq E t):=by
 intro p_ s σ H Q I h;refine qm6 (m8 I hg hm ?_ hdb);refine W.callWith_K (h₀:=X.base) I.ok.mod.Mh hk (cT (ha pos p_ s σ H _ I h) λus s1 zz=>?_) he hpl;obtain⟨vs,H1,I1,r,q⟩:=zz;refine⟨I1.oU,?_⟩;exact YQ F hr hb hd hx I1 r q
theorem jd{pl:Sem Bool}(he:PE X o ta)(c:Cls X.K C)(hm:Meth X.K C m f)(F:bV X.prog X.w X.K X.mg X.base CX k f fd ps sp)(hr:fL k X.A)(hb:Binds X.K fd ps ds)(hd:Vals zq ds)(hx:Passes CX X E)
  (ht:eval (.Call (.Attribute o m apos) [] [] pos) X.env=(do
   let ov <- eval o X.env
   standAt apos.atName
   let (f,first) <- holding [ov] (getMethod ov m pl)
   callWith pos f first (backTo pos (starEach [] X.env)) (backToKw pos (keywordEach [] X.env))):=by rfl) :
  PE X (.Call (.Attribute o m apos) [] [] pos) (YL C m sp zq E ta Bq):=by
 intro p_ s σ H Q I h;refine W.methodCall_KW (pl:=pl) (cT (he p_ s σ H _ I h) λu s1 zz=>?_) ht;obtain⟨x,H1,I1,rx,a,dx,fs,ex,ea,l,q⟩:=zz;subst ex;obtain rfl:u=Value.ref a:=rx;refine QD I1 ea c hm l ?_;exact W.callWith_K0 (first:=[.ref a]) I1.oU hm.kp (YQ (us:=[.ref a]) (vs:=[.ref a]) F hr hb hd hx I1 (.cons rfl .nil) q)
structure Mk(K:W.Frag)(C f:Addr):Prop where
 makes:W.makesIn K C=true
 init:W.findIn K (.ref C) "__init__" = some (some (.ref f))
 fn:W.isFn K (.ref f)=true
 kp:W.keepIn K (.ref C)=true
theorem YS{p_:QAC}{σ:St}{H:Hp}{s:Shared}{Q:VK}{us:QAE}{vs:List V}(M:Mk X.K C f)(F:bV X.prog X.w X.K X.mg X.base CX k f fd ps sp)(hr:fL (k+1) X.A)(hb:Binds X.K fd ps ds)(hd:Vals zq ds)
  (hx:Passes CX X E) (I:Inv X p_ σ H s) (r:Vals vs us)
  (h:∀x dx,H x=none->H dx=none->dx≠x->sp (.ref x::(vs++zq)) (upd (upd H dx (.own x)) x (.ins C dx [])) (λv H2=>v = .non/\Q (.ref x) H2) E) :
  wpAny (model X.prog X.w) X.A (call (.ref C) us) (EP X p_ σ Q) X.xe s:=by
 have hq:=h (s.heap.objs.size+1) s.heap.objs.size (I.hok.fresh (qnD _)) (I.hok.fresh (ql7 _)) (qmg (qmS _));have I2:=Inv.made (C:=C) I;have r2:Vals (V.ref (s.heap.objs.size+1)::(vs++zq)) (Value.ref (s.heap.objs.size+1)::(us++ds)):=.cons rfl (r.append hd);have hl:(Value.ref (s.heap.objs.size+1)::us++ds).length=ps.length:=by
  have e:=r2.length;rw[F.len _ _ _ _ hq] at e;exact e.symm
 refine qn2 (YG (f:=f) I.oU M.makes M.init (qn1.mp M.fn) (qnc (F.run _ X.stack _ _ ⟨Value.ref (s.heap.objs.size+1)::us,[]⟩ (Value.ref (s.heap.objs.size+1)::(us++ds)) _ _ E (hr.make C us [])
  (I2.env0.make C us []) (hb _ (Value.ref (s.heap.objs.size+1)::us) I2.oU hl) r2 hq) λr s' hq'=>?_))
 cases r with
 |error e=>exact hx p_ σ _ _ e s' I2 hq'
 |ok fl=>
  cases fl with
  |ret u=>
   obtain⟨v,H',I3,rv,ev,q3⟩:=I2.after hq';subst ev;exact⟨rv,⟨V.ref (s.heap.objs.size+1),H',I3,rfl,q3⟩⟩
  |next=>exact False.elim hq'
  |brk=>exact False.elim hq'
  |cont=>exact False.elim hq'
theorem qbS(M:Mk X.K C f)(F:bV X.prog X.w X.K X.mg X.base CX k f fd ps sp)(hr:fL (k+1) X.A)(hg:Gl X x)(hm:X.mg x=some (.ref C))(hb:Binds X.K fd ps ds)(hd:Vals zq ds)(hx:Passes CX X E)
  (ha:PA X (e::es) t) (hdb:(x == ("__debug__" : Str))=false:=by decide) (he:starEach (e::es) X.env=(false,eval e X.env)::starEach es X.env:=by rfl) (hpl:(backTo pos (starEach es X.env)).any (·.1)=false:=by rfl) :
  PE X (.Call (.Name x p) (e::es) [] pos) (YM C sp zq E t):=by
 intro p_ s σ H Q I h;refine qm6 (m8 I hg hm ?_ hdb);refine W.callWith_K (h₀:=X.base) I.ok.mod.Mh M.kp (cT (ha pos p_ s σ H _ I h) λus s1 zz=>?_) he hpl;obtain⟨vs,H1,I1,r,q⟩:=zz;refine⟨I1.oU,?_⟩;exact YS M F hr hb hd hx I1 r q
end
structure aQ(N P:QAH)(sc:Scope):Prop where
 kind:sc.kind = .function
 co:sc.isCoroutine=false
 gen:sc.isGenerator=false
 nd:N.Nodup
 pre:N.take P.length=P
 par:∀x∈P,sc.names.lookup x=some .local\/sc.names.lookup x=some .cell
 qen:∀y∈sc.names,y.2≠.free
theorem G9{kindOf:Str->Option NameKind}{x:Str}:∀{binds:List (Str×Value)}{m:Str->Option Value},(∀v,(x,v)∉binds)->bindL kindOf binds m x=m x
 |[],_,_=>rfl
 |(n,v)::r,m,h=>by
  unfold bindL;rw[G9 λw hw=>h w (qmp _ hw)];split
  ·have:x≠n:=by rintro rfl;exact h v qmr
   simp[this]
  ·rfl
theorem G_{kindOf:Str->Option NameKind}{x:Str}:∀{binds:List (Str×Value)}{m:Str->Option Value},(∀v,(x,v)∉binds)->bindC kindOf binds m x=m x
 |[],_,_=>rfl
 |(n,v)::r,m,h=>by
  unfold bindC;rw[G_ λw hw=>h w (qmp _ hw)];split
  ·rfl
  ·have:x≠n:=by rintro rfl;exact h v qmr
   simp[this]
theorem Hf{kindOf:Str->Option NameKind}{x:Str}{v:Value}:∀{P:QAH}{vs:QAE}{i:Nat}{m:Str->Option Value},P.Nodup->P[i]? = some x->vs[i]? = some v->kindOf x=some .local->
  bindL kindOf (P.zip vs) m x=some v
 |[],_,_,_,_,h,_,_=>by simp at h
 |_::_,[],_,_,_,_,h,_=>by simp at h
 |p::P,w::vs,0,m,nd,h1,h2,hk=>by
  simp at h1 h2;subst h1;subst h2;show bindL kindOf ((p,w)::P.zip vs) m p=_;unfold bindL;rw[G9 λv hv=>(qnk.mp nd).1 (List.of_mem_zip hv).1,if_pos hk];simp
 |p::P,w::vs,i+1,m,nd,h1,h2,hk=>by
  show bindL kindOf ((p,w)::P.zip vs) m x=_;unfold bindL;exact Hf (i:=i) (qnk.mp nd).2 (by simpa using h1) (by simpa using h2) hk
theorem Hg{kindOf:Str->Option NameKind}{x:Str}{v:Value}:∀{P:QAH}{vs:QAE}{i:Nat}{m:Str->Option Value},P.Nodup->P[i]? = some x->vs[i]? = some v->kindOf x≠some .local->
  bindC kindOf (P.zip vs) m x=some v
 |[],_,_,_,_,h,_,_=>by simp at h
 |_::_,[],_,_,_,_,h,_=>by simp at h
 |p::P,w::vs,0,m,nd,h1,h2,hk=>by
  simp at h1 h2;subst h1;subst h2;show bindC kindOf ((p,w)::P.zip vs) m p=_;unfold bindC;rw[G_ λv hv=>(qnk.mp nd).1 (List.of_mem_zip hv).1,if_neg hk];simp
 |p::P,w::vs,i+1,m,nd,h1,h2,hk=>by
  show bindC kindOf ((p,w)::P.zip vs) m x=_;unfold bindC;exact Hg (i:=i) (qnk.mp nd).2 (by simpa using h1) (by simpa using h2) hk
def start(N:QAH)(vs:List V):St:=vs.map some++List.replicate (N.length - vs.length) none
def au(CX:YJ)(P:Program)(w:World)(K:W.Frag)(mg:Str->Option Value)(base:Heap)(N:QAH)(qual:Str)(scope:Scope)(f:Addr)(cd:Value)(A:Around)(outer:List Env)(s:Shared)(H:Hp)(E:XK):Cx where
 prog:=P
 w:=w
 K:=K
 mg:=mg
 base:=base
 A:=A.deeper (envOfC qual scope s.heap.objs.size f cd)
 N:=N
 s₀:=s
 H₀:=H
 env:=envOfC qual scope s.heap.objs.size f cd
 outer:=outer
 stack:=envOfC qual scope s.heap.objs.size f cd::outer
 ex:=[]
 calm:=true
 fn:=λ_=>true
 pn:=[]
 xe:=λe s'=>wpAny (model P w) (A.deeper (envOfC qual scope s.heap.objs.size f cd)) (leaving (envOfC qual scope s.heap.objs.size f cd) e) (λ_ s''=>CX outer H s E e s'') (λe' s''=>CX outer H s E e' s'') s'
theorem Mu{sc:Scope}{n:Nat}{x:Str}(h:sc.names.lookup x=some .cell):∃c,(cellsFrom n sc.names []).lookup x=some c:=by
 have q:=W.cellsFrom_some sc.names n [] (.inl h);exact qn3.mp q
theorem zx{CX:YJ}{P:Program}{w:World}{K:W.Frag}{mg:Str->Option Value}{base:Heap}{N ps:QAH}{qual:Str}{scope:Scope}{f:Addr}{cd:Value}{A:Around}{outer:List Env}{s s1:Shared}{H:Hp}{E:XK}{us:QAE}{vs:List V}
  (S:aQ N ps scope) (hd:A.handled=none) (e0:Br P w K mg base A outer s H) (hl:vs.length=ps.length) (r:Vals vs us)
  (x:InCallC s s.heap.objs.size (bindL (envOfC qual scope s.heap.objs.size f cd).kindOf (ps.zip us) λ_=>none) (cellsFrom (s.heap.objs.size+1) scope.names []) (bindC (envOfC qual scope s.heap.objs.size f cd).kindOf (ps.zip us) λ_=>none) s1) :
  Inv (au CX P w K mg base N qual scope f cd A outer s H E) [] (start N vs) H s1:=by
 have hpl:ps.length<=N.length:=by have:=qmA List.length S.pre;rw[qmk] at this;omega
 obtain⟨h1,tk,rfl,hk⟩:=x.done;have noA:∀b:Addr,b∉(au CX P w K mg base N qual scope f cd A outer s H E).ex:=λb z=>absurd (show b∈([]:List Addr) from z) (by simp);refine⟨⟨e0.mod,S.kind,rfl,rfl,ql7 _,λy z c h1 h2=>?_,λy hy=>?_,λy c _ h=>?_,λ_=>hd,Around.frames_deeper e0.frames,.inr ⟨rfl,rfl⟩,λb z=>absurd z (noA b),e0.bs,e0.TY,λb _ _=>noA b,λb z=>absurd z (noA b),e0.tQ,e0.X8⟩,
  rfl,e0.bare,Un.kept hk,⟨_,x.toInCall.ns,λi y v h1 h2 h3=>?_⟩,λy c h=>⟨_,x.cell y c h⟩,e0.hok.fresh (ql7 _),λy c h=>?_,λp hp=>absurd (show p∈([]:QAC) from hp) (by simp),e0.hok.kept hk,?_⟩
 ·exact name_of_addr x.apart (qmJ h1) (qmJ h2)
 ·have hy:scope.names.lookup y=some .cell\/scope.names.lookup y=some .free:=hy
  rcases hy with hy|hy
  ·exact Mu hy
  ·exact absurd rfl (S.qen _ (qmJ hy))
 ·exact qnr (x.above y c (qmJ h))
 ·have hi:i<vs.length:=by
   unfold start at h2
   by_cases hi:i<vs.length
   ·exact hi
   ·rw[qmu (by simpa using hi)] at h2;rw[List.getElem?_replicate] at h2;split at h2 <;> cases h2
  have ha:vs[i]? = some v:=by
   unfold start at h2;rw[qms (by simpa using hi),qmw] at h2;cases e:vs[i]? with
   |none=>rw[e] at h2;cases h2
   |some a=>rw[e] at h2;cases h2;rfl
  obtain⟨u,hu,rv⟩:=r.get ha;have hp:ps[i]? = some y:=by
   rw[<- S.pre,qn4 (by omega)];exact h1
  have ndP:ps.Nodup:=by rw[<- S.pre];exact S.nd.sublist (List.take_sublist _ _)
  refine⟨u,rv,?_⟩
  rcases S.par y (ql_ hp) with k|k
  ·exact .inl ⟨k,Hf ndP hp hu k⟩
  ·obtain⟨c,e⟩:=Mu (n:=s.heap.objs.size+1) k;refine .inr ⟨.inl k,c,e,?_⟩;have q:=x.cell y c e;rw[Hg ndP hp hu (by show scope.names.lookup y≠_;rw[k];decide)] at q;exact q
 ·exact e0.hok.fresh (qnr (x.above y c (qmJ h)))
 ·unfold start;show _=N.length;rw[qmD,ql9,List.length_replicate];omega
theorem YT{CX:YJ}{P:Program}{w:World}{K:W.Frag}{mg:Str->Option Value}{base:Heap}{k:Nat}{f:Addr}{name qual:Str}{params:Arguments}{body:List Stmt}{scope:Scope}{dV kV doc pm cdv ct oc:Value}{an od:Option Addr}
  {osl:Array (QAG)}{N ps:QAH}{sp:Sp} (lk:K.lookup f=some ⟨oc,od,.func (W.fnOf name qual params body scope dV kV doc pm an cdv ct),osl⟩) (hcd:W.codeIn K cdv qual=true) (S:aQ N ps scope)
  (len:∀vs H Q E,sp vs H Q E->vs.length=ps.length)
  (hbody:∀(A:Around)(outer:List Env)(s:Shared)(H:Hp)(vs:List V)(Q:VK)(E:XK),fL k (A.deeper (envOfC qual scope s.heap.objs.size f cdv))->sp vs H Q E->
   ∃t,Ge (au CX P w K mg base N qual scope f cdv A outer s H E) body t/\t {nx:=λ_ H'=>Q .non H',rt:=Q} (start N vs) H) :
  bV P w K mg base CX (k+1) f (W.fnOf name qual params body scope dV kV doc pm an cdv ct) ps sp:=by
 refine⟨len,λA outer s H args us vs Q E hr e0 hb r hsp=>?_⟩;have hl:=len _ _ _ _ hsp;have KX:K.In s.heap:=e0.mod.Mh.keeps λb o e=>(e0.bs b o e).1;have lim:s.heap.NoLimit:=e0.mod.nolimit.keeps λb o e=>(e0.bs b o e).1;have hkind:∀y∈ps.zip us,scope.names.lookup y.1=some .local\/(scope.names.lookup y.1=some .cell/\((cellsFrom (s.heap.objs.size+1) scope.names []).lookup y.1).isSome=true):=λ⟨n,v⟩ hy=>by
  rcases S.par n (List.of_mem_zip hy).1 with q|q
  ·exact .inl q
  ·exact .inr ⟨q,W.cellsFrom_some _ _ _ (.inl q)⟩
 refine codeAny_call_function hr.depth (KX _ _ lk) rfl S.co S.gen rfl (W.codeRec_of KX hcd) (hb _ _ _ _ ?_);refine wpAny_newFunctionEnv_cells S.kind hkind λenv he s1 x=>?_;subst he;refine⟨lim.keeps x.toInCall.keep,codeAny_func ?_⟩;obtain⟨t,ht,hq⟩:=hbody A outer s H vs Q E (hr.deeper _) hsp;have I:Inv (au CX P w K mg base N qual scope f cdv A outer s H E) [] (start N vs) H s1:=zx S hr.hd e0 hl r x;refine qmV (ht [] s1 (start N vs) H _ I hq) (λfl s' hs=>?_) λe s' hs=>hs;have fin:∀{σ':St}{H':Hp}{v:V}{u:Value},Inv (au CX P w K mg base N qual scope f cdv A outer s H E) [] σ' H' s'->RelV v u->Q v H'->CE outer P w H s Q u s':=
  λ{σ' H' v u} J rv q=>⟨v,H',J.os,J.bare,J.base,J.hok,rv,q⟩
 cases fl with
 |ret u=>
  obtain⟨v,σ',H',J,rv,q⟩:=hs;exact fin J rv q
 |next=>
  obtain⟨σ',H',J,q⟩:=hs;exact fin (v:=V.non) (u:=Value.none) J rfl q
 |brk=>
  obtain⟨_,_,_,q⟩:=hs;exact False.elim q
 |cont=>
  obtain⟨_,_,_,q⟩:=hs;exact False.elim q
section
variable {X:Cx}{x:Str}{p pos:Pos}{e:Expr}{es:List Expr}{t:TA}{id T:String}{r:List V->Hp->VK->Prop}
def tCB(r:List V->Hp->VK->Prop)(t:TA):TE:=λσ H Q=>t σ H λvs H1=>r vs H1 Q
theorem aK(hc:cg X (.builtin id) r)(hg:Gl X x)(hm:X.mg x=none)(hv:bootBuiltins x=some (.builtin id))(ha:PA X (e::es) t) (hn:x≠ "__name__" :=by decide) (hdb:(x == ("__debug__" : Str))=false:=by decide)
  (he:starEach (e::es) X.env=(false,eval e X.env)::starEach es X.env:=by rfl) (hpl:(backTo pos (starEach es X.env)).any (·.1)=false:=by rfl):PE X (.Call (.Name x p) (e::es) [] pos) (tCB r t):=by
 intro p_ s σ H Q I h;refine qm6 (qj I hg hm hv ?_ hn hdb);refine PyProof.Rows.callWith_builtin1 (cT (ha pos p_ s σ H _ I h) λus s1 zz=>?_) he hpl;obtain⟨vs,H1,I1,r1,q1⟩:=zz;exact hc p_ s1 σ H1 vs us Q I1 r1 q1
theorem fQ(hc:cg X (.type T) r)(hg:Gl X x)(hm:X.mg x=none)(hv:bootBuiltins x=some (.type T))(ha:PA X (e::es) t) (hn:x≠ "__name__" :=by decide) (hdb:(x == ("__debug__" : Str))=false:=by decide)
  (he:starEach (e::es) X.env=(false,eval e X.env)::starEach es X.env:=by rfl) (hpl:(backTo pos (starEach es X.env)).any (·.1)=false:=by rfl):PE X (.Call (.Name x p) (e::es) [] pos) (tCB r t):=by
 intro p_ s σ H Q I h;refine qm6 (qj I hg hm hv ?_ hn hdb);refine qm2 (cT (ha pos p_ s σ H _ I h) λus s1 zz=>?_) he hpl;obtain⟨vs,H1,I1,r1,q1⟩:=zz;exact hc p_ s1 σ H1 vs us Q I1 r1 q1
end
end L2
namespace HT
open PySem PyProof.Rows
section
variable {prog:Program}{w:World}{A:Around}{E:QAB}{s:Shared}
def uf(n d:Nat):Option Int->Nat
 |none=>d
 |some v=>if v<0 then (v+(n:Int)).toNat else min v.toNat n
end
end HT
namespace L2
open PySem PySem.Spec PyProof.Rows
abbrev TO:=St->Hp->(Option Int->Hp->Prop)->Prop
def PO(X:Cx)(e:Option Expr)(t:TO):Prop:=
 ∀(p_:QAC)(s:Shared)(σ:St)(H:Hp)(Q:Option Int->Hp->Prop),Inv X p_ σ H s->t σ H Q->
  wpAny (model X.prog X.w) X.A (evalPart e X.env) (λu s'=>∃o H',Inv X p_ σ H' s'/\IsPart u o/\Q o H') X.xe s
def xX:TO:=λ_ H Q=>Q none H
def YW(t:TE):TO:=λσ H Q=>t σ H λx H1=>∃i,x = .int i/\Q (some i) H1
section
variable {X:Cx}{e:Expr}{te:TE}{lo hi:Option Expr}{tl th:TO}{pos p2:Pos}
theorem oZ:PO X none xX:=by
 intro p_ s σ H Q I h;rw[evalPart_none];exact qmb ⟨none,H,I,.none,h⟩
theorem lK(h:PE X e te):PO X (some e) (YW te):=by
 intro p_ s σ H Q I hw;rw[evalPart_some];refine cT (h p_ s σ H _ I hw) λu s1 zz=>?_;obtain⟨x,H1,I1,r1,q1⟩:=zz;obtain⟨i,rfl,q⟩:=q1;obtain⟨t,rfl⟩:=r1;exact⟨some i,H1,I1,.int i t,q⟩
def SlR(X:Cx)(r:V->Option Int->Option Int->Hp->VK->Prop):Prop:=
 ∀(p_:QAC)(s:Shared)(σ:St)(H:Hp)(x:V)(v vl vu:Value)(lo hi:Option Int)(sl:Addr)(Q:VK),Inv X p_ σ H s->RelV x v->s.heap.IsSliceOf sl vl vu .none->IsPart vl lo->IsPart vu hi->r x lo hi H Q->
  ∃T id,typeLookup (.type T) "__getitem__" = pure (some (.builtin id))/\s.TypeIs v T/\wpAny (model X.prog X.w) X.A (getItem v (.ref sl)) (EP X p_ σ Q) X.xe s
def tSl(r:V->Option Int->Option Int->Hp->VK->Prop)(te:TE)(tl th:TO):TE:=λσ H Q=>te σ H λx H1=>tl σ H1 λl H2=>th σ H2 λu H3=>r x l u H3 Q
theorem jO{r:V->Option Int->Option Int->Hp->VK->Prop}(hr:SlR X r)(he:PE X e te)(hl:PO X lo tl)(hu:PO X hi th):PE X (.Subscript e (.Slice lo hi none p2) pos) (tSl r te tl th):=by
 intro p_ s σ H Q I h;refine Subscript_ (cT (he p_ s σ H _ I h) λv s1 zz=>?_);obtain⟨x,H1,I1,r1,q1⟩:=zz;refine wpAny_Slice (cT (hl p_ s1 σ H1 _ I1 q1) λvl s2 ⟨l,H2,I2,pl,q2⟩=>cT (hu p_ s2 σ H2 _ I2 q2) λvu s3 ⟨u,H3,I3,pu,q3⟩=>?_);rw[evalPart_none];refine qmb ?_;have I4:Inv X p_ σ H3 {s3 with heap:=s3.heap.push {cls:=.type "slice",data:=.fields #[vl,vu,.none]}}:=I3.kept (t':=s3.toks) λb ob q=>ql4 _ q;obtain⟨T,id,hT,ht,hg⟩:=hr p_ {s3 with heap:=s3.heap.push {cls:=.type "slice",data:=.fields #[vl,vu,.none]}} σ H3 x v vl vu l u s3.heap.objs.size Q I4 r1 (Heap.IsSliceOf.new ..) pl pu q3;show wpAny (model X.prog X.w) X.A (subscriptTail e (.Slice lo hi none p2) v (.ref s3.heap.objs.size)) (EP X p_ σ Q) X.xe {s3 with heap:=s3.heap.push {cls:=.type "slice",data:=.fields #[vl,vu,.none]}};exact tail_any (ops:=[.ref s3.heap.objs.size,v]) ht hT hg (by with_unfolding_all rfl)
def mC(xs:List V)(lo hi:Option Int):List V:=(xs.drop (HT.uf xs.length 0 lo)).take (HT.uf xs.length xs.length hi - HT.uf xs.length 0 lo)
theorem Mv(xs:List V)(lo hi:Option Int):(mC xs lo hi).length<=xs.length:=by
 unfold mC;rw[qmk,List.length_drop];omega
end
def YX(n:Nat)(i:Int):Option Nat:=if 0<=i then (if i<n then some i.toNat else none) else if -(n:Int)<=i then some (i+n).toNat else none
def Gi{α:Type}(xs:List α)(i:Int):Option α:=(YX xs.length i).bind λj=>xs[j]?
theorem Ue{n:Nat}{i:Int}{j:Nat}(h:YX n i=some j):seqIndex? i n=some j/\j<n/\-(n:Int)<=i/\i<n:=by
 unfold YX at h
 by_cases h0:0<=i
 ·rw[if_pos h0] at h
  by_cases h1:i<n
  ·rw[if_pos h1] at h;have e:i.toNat=j:=qmB h;exact⟨by rw[seqIndex_of h0 h1,e],by omega,by omega,h1⟩
  ·rw[if_neg h1] at h;cases h
 ·rw[if_neg h0] at h
  by_cases h1 : -(n:Int)<=i
  ·rw[if_pos h1] at h;have e:(i+n).toNat=j:=qmB h;exact⟨by rw[seqIndex_neg (by omega) h1,e],by omega,h1,by omega⟩
  ·rw[if_neg h1] at h;cases h
theorem Jp{α:Type}{xs:List α}{i:Int}{v:α}(h:Gi xs i=some v):∃j,seqIndex? i xs.length=some j/\xs[j]? = some v/\j<xs.length/\-(xs.length:Int)<=i/\i<xs.length:=by
 unfold Gi at h;cases e:YX xs.length i with
 |none=>rw[e] at h;cases h
 |some j=>
  rw[e] at h;obtain⟨h1,h2,h3,h4⟩:=Ue e;exact⟨j,h1,h,h2,h3,h4⟩
theorem bD{α:Type}{xs:List α}{j:Nat}{v:α}(h:xs[j]? = some v):Gi xs (j:Int)=some v:=by
 have hj:j<xs.length:=(ql2.mp h).1;have e:YX xs.length (j:Int)=some j:=by
  unfold YX;rw[if_pos (by omega),if_pos (by omega)];simp
 unfold Gi;rw[e];exact h
def Ug(b:Expr):Prop:=∀o i,subscripted b false o i=operate [o,i] (getItem o i)
def Yb(X:Cx)(r:R2):Prop:=
 ∀(value slice:Expr)(p_:QAC)(s:Shared)(σ:St)(H:Hp)(x y:V)(v u:Value)(Q:VK),Inv X p_ σ H s->RelV x v->RelV y u->r x y H Q->
  subscripted slice false v u=operate [v,u] (getItem v u)->wpAny (model X.prog X.w) X.A (subscriptTail value slice v u) (EP X p_ σ Q) X.xe s
def VR(X:Cx)(id:String)(r:V->List V->Hp->VK->Prop):Prop:=
 ∀(p_:QAC)(s:Shared)(σ:St)(H:Hp)(x:V)(xs:List V)(v:Value)(us:QAE)(Q:VK),Inv X p_ σ H s->RelV x v->Vals xs us->r x xs H Q->
  wpAny (model X.prog X.w) X.A (call (.builtin id) (v::us)) (EP X p_ σ Q) X.xe s
section
variable {X:Cx}{a b:Expr}{ta tb:TE}{pos:Pos}
theorem bR{r:R2}(hr:Yb X r)(ha:PE X a ta)(hb:PE X b tb)(hs:Ug b):PE X (.Subscript a b pos) (Mr r ta tb):=by
 intro p_ s σ H Q I h;exact Subscript_ (qd_ ha hb I h λv u s2 x y H2 I2 rx ry q=>hr a b p_ s2 σ H2 x y v u Q I2 rx ry q (hs _ _))
def qjJ(K:W.Frag):R2:=λx y H Q=>∃p xs i v,x = .ref p/\y = .int i/\aW K H p xs/\Gi xs i=some v/\Q v H
def qjK(K:W.Frag):R2:=λx y H Q=>∃p xs i v,x = .ref p/\y = .int i/\eG K H p xs/\Gi xs i=some v/\Q v H
def qgo:R2:=λx y H Q=>∃z i c,x = .str z/\y = .int i/\z.length<=sizeLine/\Gi z.cps.toList i=some c/\Q (.str ⟨#[c]⟩) H
theorem qbT:Yb X (qjJ X.K):=by
 intro value slice p_ s σ H x y v u Q I rx ry h hs;obtain⟨p,xs,i,z,rfl,rfl,hq,he,q⟩:=h;cases rx;obtain⟨t,rfl⟩:=ry;obtain⟨its,r,pl,hz⟩:=I.list hq;obtain⟨j,h1,h2,h3,h4,h5⟩:=Jp he;obtain⟨w,ew,YZ⟩:=r.get h2;have hl:=r.length;have hn:=wF;have fin:EP X p_ σ Q w s:=⟨z,H,I,YZ,q⟩
 by_cases h0:0<=i
 ·have hj:i.toNat=j:=by
   rw[seqIndex_of h0 h5] at h1;exact qmB h1
  exact item_listR pl.isList h0 (by omega) (by rw[hj];simpa using ew) fin hs
 ·have hj:(i+(its.toArray.size:Int)).toNat=j:=by
   rw[seqIndex_neg (by omega) h4] at h1;rw[qmh,<- hl];exact qmB h1
  exact subscriptTail_builtinR (x:=w) pl.isList.typeIs slot_list_getitem.lookup
   (wpAny_getItem_list_neg (Q:=λr s'=>r=w/\EP X p_ σ Q r s') pl.isList (by omega) (by rw[qmh] <;> omega) (by omega) (by rw[hj];simpa using ew) ⟨rfl,fin⟩) hs
theorem qeo:Yb X (qjK X.K):=by
 intro value slice p_ s σ H x y v u Q I rx ry h hs;obtain⟨p,xs,i,z,rfl,rfl,hq,he,q⟩:=h;cases rx;obtain⟨t,rfl⟩:=ry;obtain⟨its,r,pl,hz⟩:=I.tuple hq;obtain⟨j,h1,h2,h3,h4,h5⟩:=Jp he;obtain⟨w,ew,YZ⟩:=r.get h2;have hl:=r.length;have hn:=wF;have fin:EP X p_ σ Q w s:=⟨z,H,I,YZ,q⟩;exact subscriptTail_builtinR (x:=w) pl.typeIs slot_tuple_getitem.lookup
  (getItem_tuple (j:=j) (Q:=λr s'=>r=w/\EP X p_ σ Q r s') pl (by omega) (by omega) (by rw[qmh,<- hl];exact h1) (by simpa using ew) ⟨rfl,fin⟩) hs
theorem qep:Yb X qgo:=by
 intro value slice p_ s σ H x y v u Q I rx ry h hs;obtain⟨z,i,c,rfl,rfl,hz,he,q⟩:=h;obtain⟨t,rfl⟩:=rx;obtain⟨t',rfl⟩:=ry;obtain⟨j,h1,h2,h3,h4,h5⟩:=Jp he;have hl:z.cps.toList.length=z.length:=by simp[Str.length]
 rw[hl] at h1 h4 h5;have hn:=wF;exact tail_any (typeIs_str s z t) slot_str_getitem.lookup (getItem_str (c:=c) (by
  have e1:decide (i < -(2 ^ 63:Int))=false:=qmx (by omega);have e2:decide (i≥2 ^ 63)=false:=qmx (by omega);rw[e1,e2,Bool.or_false]) (by rw[h1];simpa using h2) ⟨.str ⟨#[c]⟩,H,I.tok _,⟨_,rfl⟩,q⟩) hs
theorem QJ(its:QAE)(n j:Nat)(u:Value):Obj.mapSeq (·.setIfInBounds j u) {cls:=.type "list",data:=.seq its.toArray n}={cls:=.type "list",data:=.seq (its.set j u).toArray n}:=by
 simp[Obj.mapSeq]
theorem Inv.lst{p_:QAC}{σ:St}{H:Hp}{s:Shared}{p:Addr}{xs:List V}(I:Inv X p_ σ H s)(h:H p=some (.lst xs)) :
  ∃(its:QAE)(n:Nat),Vals xs its/\s.heap.get? p=some {cls:=.type "list",data:=.seq its.toArray n}/\xs.length<=sizeLine:=by
 obtain⟨z,its,n,r,e⟩:=I.hok p _ h;exact⟨its,n,r,e,z⟩
theorem Inv.qeq{p_:QAC}{σ:St}{H:Hp}{s:Shared}{p:Addr}{xs ys:List V}{its its':QAE}{n n':Nat}{f:Obj->Obj}(I:Inv X p_ σ H s)(h:H p=some (.lst xs))
  (ho:s.heap.get? p=some {cls:=.type "list",data:=.seq its.toArray n}) (hf:f {cls:=.type "list",data:=.seq its.toArray n}={cls:=.type "list",data:=.seq its'.toArray n'}) (r:Vals ys its') (hz:ys.length<=sizeLine) (t:Nat) :
  Inv X p_ σ (upd H p (.lst ys)) {s with heap:=s.heap.update p f,toks:=t}:=by
 have e:(s.heap.update p f).get? p=some {cls:=.type "list",data:=.seq its'.toArray n'}:=by
  rw[qny f ho (by rw[hf] <;> rfl),hf]
 refine I.write (x:=p) (e:=p) (by rw[h];trivial) (.inl rfl) (λb u hb q=>(qne _ _ (qnF hb)).trans q) ⟨_,e⟩ ?_;exact⟨hz,its',n',r,e⟩
def qde:V->V->V->Hp->(Hp->Prop)->Prop:=λo i v H Q=>∃p xs k j,o = .ref p/\i = .int k/\H p=some (.lst xs)/\YX xs.length k=some j/\Q (upd H p (.lst (xs.set j v)))
theorem set_list:Vv X qde:=by
 intro p_ s σ H o i v ov iv u Q I ro ri rv h;obtain⟨p,xs,k,j,rfl,rfl,hp,hj,q⟩:=h;cases ro;obtain⟨t,rfl⟩:=ri;obtain⟨its,n,r,ho,hz⟩:=I.lst hp;obtain⟨h1,h2,h3,h4⟩:=Ue hj;have hl:=r.length;have hn:=wF;have I':Inv X p_ σ (upd H p (.lst (xs.set j v))) {s with heap:=s.heap.update p (Obj.mapSeq (·.setIfInBounds j u))}:=
  I.qeq hp ho (QJ its n j u) (r.set rv j) (by rw[List.length_set];exact hz) s.toks
 by_cases h0:0<=k
 ·have hk:k.toNat=j:=by
   rw[seqIndex_of h0 h4] at h1;exact qmB h1
  exact W.ki_setAt ho h0 (by omega) (by rw[qmh,<- hl];exact h4) (by rw[hk];exact⟨_,I',q⟩)
 ·have hk:(k+(its.toArray.size:Int)).toNat=j:=by
   rw[seqIndex_neg (by omega) h3] at h1;rw[qmh,<- hl];exact qmB h1
  exact W.ki_setBack ho (by omega) (by rw[qmh,<- hl];exact h3) (by omega) (by rw[hk];exact⟨_,I',q⟩)
theorem Jq(lo hi:Option Int)(n:Nat):(sliceBounds lo hi none n).1=((HT.uf n 0 lo:Nat):Int)/\(sliceBounds lo hi none n).2.1=((HT.uf n n hi:Nat):Int)/\(sliceBounds lo hi none n).2.2=1:=by
 refine⟨?_,?_,rfl⟩
 ·cases lo with
  |none=>simp[sliceBounds,HT.uf]
  |some i=>
   simp only[sliceBounds,HT.uf,Option.getD_none,show(1:Int) > 0 by decide,if_true]
   by_cases h:i<0
   ·simp only[h,if_true] <;> omega
   ·simp only[h,if_false] <;> omega
 ·cases hi with
  |none=>simp[sliceBounds,HT.uf]
  |some i=>
   simp only[sliceBounds,HT.uf,Option.getD_none,show(1:Int) > 0 by decide,if_true]
   by_cases h:i<0
   ·simp only[h,if_true] <;> omega
   ·simp only[h,if_false] <;> omega
theorem Gj(its:QAE)(lo hi:Option Int):slicePick its.toArray lo hi none=((its.drop (HT.uf its.length 0 lo)).take (HT.uf its.length its.length hi - HT.uf its.length 0 lo)).toArray:=by
 obtain⟨h1,h2,h3⟩:=Jq lo hi its.toArray.size;unfold slicePick;rw[h1,h2,h3];simp only[sliceRange_one,pick_run,qmh] <;> rfl
def qbU(K:W.Frag):V->Option Int->Option Int->Hp->VK->Prop:=λx lo hi H Q=>∃a xs,x = .ref a/\aW K H a xs/\∀p,H p=none->Q (.ref p) (upd H p (.lst (mC xs lo hi)))
theorem qbV:SlR X (qbU X.K):=by
 intro p_ s σ H x v vl vu lo hi sl Q I rx hs pl pu h;obtain⟨a,xs,rfl,hx,q⟩:=h;cases rx;obtain⟨its,r,ht,hz⟩:=I.list hx;have hlen:=r.length;refine⟨"list",_,slot_list_getitem.lookup,ht.isList.typeIs,?_⟩;refine wpAny_getItem_list_slice ht.isList hs pl pu .none (by simp) ?_ (by rw[qmh] <;> omega);rw[Gj,<- hlen];refine⟨.ref s.heap.objs.size,_,I.laid (t':=s.toks) (o:=.lst (mC xs lo hi)) (λb ob q=>ql4 _ q) (ql7 _) ?_,rfl,q _ (I.hok.fresh (ql7 _))⟩;exact⟨qme (Mv xs lo hi) hz,_,0,(r.drop (HT.uf xs.length 0 lo)).take (HT.uf xs.length xs.length hi - HT.uf xs.length 0 lo),qmc _ rfl⟩
def jP:V->Bool
 |.non=>true
 |.bl _=>true
 |.int _=>true
 |.str _=>true
 |_=>false
def V0:V->V->Bool
 |.non,.non=>true
 |.bl a,.bl b=>a == b
 |.bl a,.int b=>(if a then 1 else 0) == b
 |.int a,.bl b=>a == (if b then 1 else 0)
 |.int a,.int b=>a == b
 |.str a,.str b=>a == b
 |_,_=>false
theorem qer{A:Around}{s:Shared}{y x:V}{u v:Value}(ry:RelV y u)(rx:RelV x v)(fy:jP y=true)(fx:jP x=true):SeqAt.EqAt A s u v (V0 y x):=by
 cases y with
 |non=>
  cases ry;cases x with
  |non=>cases rx;exact SeqAt.EqAt.same _
  |bl b=>cases rx;exact SeqAt.EqAt.none_bool b
  |int b=>obtain⟨t,rfl⟩:=rx;exact SeqAt.EqAt.none_int b t
  |str b=>obtain⟨t,rfl⟩:=rx;exact SeqAt.EqAt.none_str b t
  |_=>exact absurd (show false=true from fx) qml
 |bl a=>
  cases ry;cases x with
  |non=>cases rx;exact SeqAt.EqAt.bool_none a
  |bl b=>cases rx;exact SeqAt.EqAt.bool_bool a b
  |int b=>obtain⟨t,rfl⟩:=rx;exact SeqAt.EqAt.bool_int a b t
  |str b=>obtain⟨t,rfl⟩:=rx;exact SeqAt.EqAt.bool_str a b t
  |_=>exact absurd (show false=true from fx) qml
 |int a=>
  obtain⟨t',rfl⟩:=ry;cases x with
  |non=>cases rx;exact SeqAt.EqAt.int_none a t'
  |bl b=>cases rx;exact SeqAt.EqAt.int_bool a t' b
  |int b=>obtain⟨t,rfl⟩:=rx;exact SeqAt.EqAt.int_int a t' b t
  |str b=>obtain⟨t,rfl⟩:=rx;exact SeqAt.EqAt.int_str a t' b t
  |_=>exact absurd (show false=true from fx) qml
 |str a=>
  obtain⟨t',rfl⟩:=ry;cases x with
  |non=>cases rx;exact SeqAt.EqAt.str_none a t'
  |bl b=>cases rx;exact SeqAt.EqAt.str_bool a t' b
  |int b=>obtain⟨t,rfl⟩:=rx;exact SeqAt.EqAt.str_int a t' b t
  |str b=>obtain⟨t,rfl⟩:=rx;exact SeqAt.EqAt.str_str a t' b t
  |_=>exact absurd (show false=true from fx) qml
 |_=>exact absurd (show false=true from fy) qml
def QK(x:V)(u:Value):Bool:=match u with
 |.none=>V0 .non x
 |.bool b=>V0 (.bl b) x
 |.int i _=>V0 (.int i) x
 |.str z _=>V0 (.str z) x
 |_=>false
theorem Y0{x y:V}{u:Value}(r:RelV y u)(f:jP y=true):QK x u=V0 y x:=by
 cases y with
 |non=>cases r;rfl
 |bl b=>cases r;rfl
 |int i=>obtain⟨t,rfl⟩:=r;rfl
 |str z=>obtain⟨t,rfl⟩:=r;rfl
 |_=>exact absurd (show false=true from f) qml
theorem xY{x:V}:∀{xs:List V}{us:QAE},Vals xs us->xs.all jP=true->us.any (QK x)=xs.any λy=>V0 y x
 |_,_,.nil,_=>rfl
 |y::xs,u::us,.cons r t,f=>by
  rw[List.all_cons,qnf] at f;rw[qn5,qn5,Y0 r f.1,xY t f.2]
theorem ug{A:Around}{s:Shared}{x:V}{v:Value}(rx:RelV x v)(fx:jP x=true):∀{xs:List V}{us:QAE},Vals xs us->xs.all jP=true->∀u∈us,SeqAt.EqAt A s u v (QK x u)
 |_,_,.nil,_=>λu hu=>by cases hu
 |y::xs,u::us,.cons r t,f=>λu' hu=>by
  rw[List.all_cons,qnf] at f
  rcases qmd.mp hu with rfl|hu
  ·rw[Y0 r f.1];exact qer r rx f.1 fx
  ·exact ug rx fx t f.2 u' hu
def inV(x:V)(xs:List V):Bool:=xs.any λy=>V0 y x
def rIn(K:W.Frag)(neg:Bool):R2:=λx y H Q=>∃p xs,y = .ref p/\(aW K H p xs\/eG K H p xs)/\jP x=true/\xs.all jP=true/\Q (.bl (if neg then !inV x xs else inV x xs)) H
theorem V1:iY X (compareOp .In) (rIn X.K false):=by
 intro p_ s σ H x y v u Q I rx ry h;obtain⟨p,xs,rfl,hq,fx,fs,q⟩:=h;cases ry
 rcases hq with hq|hq
 ·obtain⟨its,r,pl,hz⟩:=I.list hq;refine SeqAt.in_listAt (QK x) pl.isList (λw hw=>ug rx fx r fs w (by simpa using hw)) ⟨.bl _,H,I,rfl,?_⟩;rw[show its.toArray.any (QK x)=its.any (QK x) by simp,xY r fs];exact q
 ·obtain⟨its,r,pl,hz⟩:=I.tuple hq;refine SeqAt.in_tupleAt (QK x) pl (λw hw=>ug rx fx r fs w (by simpa using hw)) ⟨.bl _,H,I,rfl,?_⟩;rw[show its.toArray.any (QK x)=its.any (QK x) by simp,xY r fs];exact q
theorem Jr:iY X (compareOp .NotIn) (rIn X.K true):=by
 intro p_ s σ H x y v u Q I rx ry h;obtain⟨p,xs,rfl,hq,fx,fs,q⟩:=h;cases ry
 rcases hq with hq|hq
 ·obtain⟨its,r,pl,hz⟩:=I.list hq;refine SeqAt.notIn_listAt (QK x) pl.isList (λw hw=>ug rx fx r fs w (by simpa using hw)) ⟨.bl _,H,I,rfl,?_⟩;rw[show its.toArray.any (QK x)=its.any (QK x) by simp,xY r fs];exact q
 ·obtain⟨its,r,pl,hz⟩:=I.tuple hq;refine SeqAt.notIn_tupleAt (QK x) pl (λw hw=>ug rx fx r fs w (by simpa using hw)) ⟨.bl _,H,I,rfl,?_⟩;rw[show its.toArray.any (QK x)=its.any (QK x) by simp,xY r fs];exact q
theorem Js:iY X (compareOp .NotIn) (λx y H Q=>∃i j,x = .str i/\y = .str j/\Q (.bl (!(!(Builtin.Str.occurrences j i 0 j.length 1).isEmpty))) H):=by
 intro p_ s σ H x y v u Q I rx ry h;obtain⟨i,j,rfl,rfl,q⟩:=h;obtain⟨t,rfl⟩:=rx;obtain⟨t',rfl⟩:=ry;exact notIn_str ⟨.bl _,H,I,rfl,q⟩
theorem Jt:cg X (.builtin "len") (λxs H Q=>∃p ys,xs=[.ref p]/\(aW X.K H p ys\/eG X.K H p ys)/\Q (.int ys.length) H):=by
 intro p_ s σ H xs us Q I r h;obtain⟨p,ys,rfl,hq,q⟩:=h;obtain⟨u,rfl,rx⟩:=vals1 r;cases rx;have hn:=wF
 rcases hq with hq|hq
 ·obtain⟨its,r',pl,hz⟩:=I.list hq;have hlen:=r'.length;exact Calls.call_len_list pl.isList (by simp only[qmh] <;> omega) ⟨.int ys.length,H,I.tok _,⟨s.toks+1,by rw[qmh,hlen]⟩,q⟩
 ·obtain⟨its,r',pl,hz⟩:=I.tuple hq;have hlen:=r'.length;exact len_tuple pl (by simp only[qmh] <;> omega) ⟨.int ys.length,H,I.tok _,⟨s.toks+1,by rw[qmh,hlen]⟩,q⟩
theorem Ju:cg X (.builtin "len") (λxs H Q=>∃z,xs=[.str z]/\z.length<=sizeLine/\Q (.int z.length) H):=by
 intro p_ s σ H xs us Q I r h;obtain⟨z,rfl,hz,q⟩:=h;obtain⟨u,rfl,t,rfl⟩:=vals1 r;have hn:=wF;exact len_str (by omega) ⟨.int z.length,H,I.tok _,⟨_,rfl⟩,q⟩
theorem Jv:cg X (.type "list") (λxs H Q=>∃p ys,xs=[.ref p]/\(aW X.K H p ys\/eG X.K H p ys)/\∀l,H l=none->Q (.ref l) (upd H l (.lst ys))):=by
 intro p_ s σ H xs us Q I r h;obtain⟨p,ys,rfl,hq,q⟩:=h;obtain⟨u,rfl,rx⟩:=vals1 r;cases rx;have fin:∀(its:QAE),Vals ys its->ys.length<=sizeLine->∀(h':Heap)(c':Nat),(∀b o',s.heap.get? b=some o'->h'.get? b=some o')->
   h'.get? s.heap.objs.size=some {cls:=.type "list",dict:=none,data:=.seq its.toArray c',slots:=#[]}->EP X p_ σ Q (.ref s.heap.objs.size) {s with heap:=h'}:=λits r' hz h' c' kp e=>
  ⟨.ref s.heap.objs.size,_,I.laid (t':=s.toks) kp (ql7 _) (show cD X.prog X.w _ h' _ (.lst ys) from⟨hz,its,c',r',e⟩),rfl,q _ (I.hok.fresh (ql7 _))⟩
 rcases hq with hq|hq
 ·obtain⟨its,r',pl,hz⟩:=I.list hq;have hlen:=r'.length;obtain⟨o,ho,hc,n,hd⟩:=pl.isList;exact call_list_seq p (.inl rfl) ho hc hd (λh' c' kp e=>fin its r' hz h' c' kp e) (by simp only[qmh] <;> omega)
 ·obtain⟨its,r',pl,hz⟩:=I.tuple hq;have hlen:=r'.length;obtain⟨o,ho,hc,n,hd⟩:=pl;exact call_list_seq p (.inr rfl) ho hc hd (λh' c' kp e=>fin its r' hz h' c' kp e) (by simp only[qmh] <;> omega)
theorem Gk:cg X (.type "tuple") (λxs H Q=>∃p ys,xs=[.ref p]/\((aW X.K H p ys/\∀l,H l=none->Q (.ref l) (upd H l (.tup ys)))\/(eG X.K H p ys/\Q (.ref p) H))):=by
 intro p_ s σ H xs us Q I r h;obtain⟨p,ys,rfl,h⟩:=h;obtain⟨u,rfl,rx⟩:=vals1 r;cases rx
 rcases h with⟨hq,q⟩|⟨hq,q⟩
 ·obtain⟨its,r',pl,hz⟩:=I.list hq;have hlen:=r'.length;refine call_tuple_list pl.isList (λh' kp=>?_) (by simp only[qmh] <;> omega);have I1:Inv X p_ σ H {s with heap:=h'}:=I.kept (t':=s.toks) kp;have I2:Inv X p_ σ (upd H h'.objs.size (.tup ys)) {s with heap:=h'.push {cls:=.type "tuple",data:=.seq its.toArray}}:=
   I1.laid (t':=s.toks) (λb o e=>ql4 _ e) (ql7 _) (show cD X.prog X.w _ _ _ (.tup ys) from⟨hz,its,r',IsTup.new _ _⟩)
  exact⟨.ref h'.objs.size,_,I2,rfl,q _ (I1.hok.fresh (ql7 _))⟩
 ·obtain⟨its,r',pl,hz⟩:=I.tuple hq;exact call_tuple_same pl ⟨.ref p,H,I,rfl,q⟩
def tyV(K:W.Frag)(T:String)(x:V)(H:Hp):Prop:=match x with
 |.str _=>T = "str"
 |.int _=>T = "int"
 |.ref p=>(T = "list" /\∃xs,aW K H p xs)\/(T = "tuple" /\∃o,K.lookup p=some o/\o.cls = .type "tuple" /\o.dict=none)\/
   (T = "dict" /\((∃kvs,H p=some (.dK kvs))\/∃kvs,H p=some (.dT kvs)))\/(T = "set" /\∃S n,H p=some (.set S n))
 |_=>False
theorem qes{p_:QAC}{σ:St}{H:Hp}{s:Shared}{T:String}{x:V}{v:Value}(I:Inv X p_ σ H s)(r:RelV x v)(ty:tyV X.K T x H) :
  s.TypeIs v T/\∀a,v = .ref a->∃ob,s.heap.get? a=some ob/\ob.dict=none:=by
 cases x with
 |str z=>
  obtain⟨t,rfl⟩:=r;cases (show T = "str" from ty);exact⟨typeIs_str s z t,λ_ e=>nomatch e⟩
 |int i=>
  obtain⟨t,rfl⟩:=r;cases (show T = "int" from ty);exact⟨typeIs_int s i t,λ_ e=>nomatch e⟩
 |ref p=>
  cases r
  rcases ty with⟨rfl,xs,hq⟩|⟨rfl,o,hk,hc,hd⟩|⟨rfl,hk⟩|⟨rfl,S,n,hk⟩
  ·obtain⟨its,_,pl,_⟩:=I.list hq;refine⟨pl.isList.typeIs,λa e=>?_⟩;cases e;obtain⟨o,n,e,c,hd,_⟩:=pl;exact⟨o,e,hd⟩
  ·refine⟨⟨o,I.oU p o hk,hc⟩,λa e=>?_⟩;cases e;exact⟨o,I.oU _ o hk,hd⟩
  ·have z:∃o,s.heap.get? p=some o/\o.ExactDict:=by
    rcases hk with⟨kvs,hk⟩|⟨kvs,hk⟩
    ·obtain⟨_,_,_,_,o,_,_,e,ex,_⟩:=I.hok p _ hk;exact⟨o,e,ex⟩
    ·obtain⟨_,_,_,_,o,_,_,e,ex,_⟩:=I.hok p _ hk;exact⟨o,e,ex⟩
   obtain⟨o,e,ex⟩:=z;refine⟨⟨o,e,ex.1⟩,λa e2=>?_⟩;cases e2;exact⟨o,e,ex.2.1⟩
  ·obtain⟨o,_,_,_,e,ex,_⟩:=I.hok p _ hk;refine⟨⟨o,e,ex.1⟩,λa e2=>?_⟩;cases e2;exact⟨o,e,ex.2.1⟩
 |_=>exact False.elim ty
def tBM(K:W.Frag)(T:String)(r:V->List V->Hp->VK->Prop)(to:TE)(t:TA):TE:=λσ H Q=>to σ H λx H1=>tyV K T x H1/\t σ H1 λxs H2=>r x xs H2 Q
variable {o e:Expr}{es:List Expr}{to:TE}{t:TA}{name:Str}{apos cpos:Pos}{T id:String}{r:V->List V->Hp->VK->Prop}
theorem qgp(pa:PlainAttrs T)(slot:Slot T name id) (hty:typeOf (.builtin id)=pure (.type "method_descriptor")) (hm:VR X id r) (ho:PE X o to) (ha:PA X (e::es) t)
  (hbase:attributeBase o name X.env (eval o X.env)=eval o X.env:=by rfl)
  (hfew:((backTo cpos (starEach (e::es) X.env)).all (λx=>!x.1) && (backToKw cpos (keywordEach [] X.env)).all (λx=>x.1.isSome)
   && decide ((e::es).length+([]:List Keyword).length+(if ([]:List Keyword).isEmpty then 0 else 1)<30))=true:=by rfl)
  (hline:(apos.endLine == cpos.line)=true:=by rfl) (hs:starEach (e::es) X.env=(false,eval e X.env)::starEach es X.env:=by rfl) (hplain:(backTo cpos (starEach es X.env)).any (·.1)=false:=by rfl) :
  PE X (.Call (.Attribute o name apos) (e::es) [] cpos) (tBM X.K T r to t):=by
 intro p_ s σ H Q I h;refine wpAny_Call_method_late hbase hfew hline rfl (cT (ho p_ s σ H _ I h) λv s1 zz=>?_);obtain⟨x,H1,I1,r1,ty,q1⟩:=zz;obtain⟨h1,h2⟩:=qes I1 r1 ty;refine⟨T,id,pa,slot,hty,h1,h2,?_⟩;have hA:=ha cpos p_ s1 σ H1 _ I1 q1;rw[hs] at hA⊢;refine Calls.callWith_builtin (by show(false || (backTo cpos (starEach es X.env)).any (·.1))=false;rw[hplain] <;> rfl) (Calls.evalArgs_plain ?_)
 refine cT hA λus s2 zz=>?_;obtain⟨vs,H2,I2,r2,q2⟩:=zz;exact hm p_ s2 σ H2 x vs v us Q I2 r1 r2 q2
end
def MtM(X:Cx)(id:String)(r:V->List V->Hp->VK->Prop):Prop:=
 ∀(p_:QAC)(s:Shared)(σ:St)(H:Hp)(x:V)(xs:List V)(v:Value)(us:QAE)(Q:VK),Inv X p_ σ H s->RelV x v->Vals xs us->r x xs H Q->
  wpAny (model X.prog X.w) X.A (call (.builtin id) (v::us)) (EP X p_ σ Q) X.xe s
theorem Vals.one{x:V}{us:QAE}(h:Vals [x] us):∃u,us=[u]/\RelV x u:=vals1 h
theorem Vals.two{x y:V}{us:QAE}(h:Vals [x,y] us):∃u v,us=[u,v]/\RelV x u/\RelV y v:=vals2 h
theorem Vals.rep{xs:List V}{us:QAE}(h:Vals xs us):∀k:Nat,Vals (List.replicate k xs).flatten (List.replicate k us).flatten
 |0=>.nil
 |k+1=>by
  rw[qnv,qnv,qoo,qoo];exact Vals.append h (Vals.rep h k)
theorem foldl_rep(its:QAE):∀(k:Nat)(acc:QAE),
  List.foldl (λx1 x2=>x1++x2) acc.toArray (List.replicate k its.toArray)=(acc++(List.replicate k its).flatten).toArray
 |0,acc=>by simp
 |k+1,acc=>by
  have e:acc.toArray++its.toArray=(acc++its).toArray:=by simp
  have e2:(acc++its)++(List.replicate k its).flatten=acc++(List.replicate (k+1) its).flatten:=by
   rw[qnv,qoo,qmo]
  rw[<- e2,<- foldl_rep its k (acc++its),<- e,qnv,qnV]
section
variable {X:Cx}{p_:QAC}{σ:St}{H:Hp}{s:Shared}{l b:Addr}{xs ys zs:List V}
theorem Inv.qgq{its its':QAE}{n:Nat}{f:Array Value->Array Value}{t':Nat}(I:Inv X p_ σ H s)(hH:H l=some (.lst xs))
  (e:s.heap.get? l=some {cls:=.type "list",data:=.seq its.toArray n}) (hf:f its.toArray=its'.toArray) (hv:Vals ys its') (hz:ys.length<=sizeLine) :
  Inv X p_ σ (upd H l (.lst ys)) {s with heap:=s.heap.update l (Obj.mapSeq f),toks:=t'}:=by
 have q:=PySem.IsL.update e f;rw[hf] at q;refine I.write (x:=l) (e:=l) (by rw[hH];exact trivial) (.inl rfl) (λb' u hb hu=>(qne s.heap (Obj.mapSeq f) (qnF hb)).trans hu) ⟨_,q⟩ ?_;exact⟨hz,its',_,hv,q⟩
theorem Inv.qbW{its:QAE}{t':Nat}(I:Inv X p_ σ H s)(hv:Vals ys its)(hz:ys.length<=sizeLine) :
  Inv X p_ σ (upd H s.heap.objs.size (.lst ys)) {s with heap:=s.heap.push {cls:=.type "list",data:=.seq its.toArray},toks:=t'}:=
 I.laid (λ_ _ q=>ql4 _ q) (ql7 _) ⟨hz,its,0,hv,qmc _ rfl⟩
theorem Inv.fresh(I:Inv X p_ σ H s):H s.heap.objs.size=none:=I.hok.fresh (ql7 _)
theorem Inv.QL(I:Inv X p_ σ H s)(hH:H l=some (.lst xs)):xs.length<=sizeLine/\∃(its:QAE)(n:Nat),Vals xs its/\xs.length=its.length/\s.heap.get? l=some {cls:=.type "list",data:=.seq its.toArray n}:=by
 obtain⟨z,its,n,r,e⟩:=I.hok l _ hH;exact⟨z,its,n,r,r.length,e⟩
theorem Y4{n:Nat}(h:n<=sizeLine):Builtin.List.listTooLong n=false:=by
 unfold Builtin.List.listTooLong;exact qmx (by omega)
end
section
variable {X:Cx}
def Jw:V->List V->Hp->VK->Prop:=λx vs H Q=>∃l xs y,x = .ref l/\vs=[y]/\H l=some (.lst xs)/\xs.length<sizeLine/\Q .non (upd H l (.lst (xs++[y])))
theorem Hh:MtM X "list.append" Jw:=by
 intro p_ s σ H x vs v us Q I rx rv h;obtain⟨l,xs,y,rfl,rfl,hH,hz,q⟩:=h;cases rx;obtain⟨u,rfl,ru⟩:=rv.one;obtain⟨z,its,n,r,hl,e⟩:=I.QL hH;refine call_meets F.slot_list_append ⟨_,e,rfl⟩ F.entry_list_append (F.args_list_append_2 _ _) (PySem.list_append l its.toArray n u (by rw[qmh];omega)) ⟨e,?_⟩;refine⟨.non,_,I.qgq (its':=its++[u]) hH e (by simp) (r.append (.cons ru .nil)) ?_,rfl,q⟩;rw[qmD,qol];omega
def qgr:R2:=λx y H Q=>∃l b xs zs,x = .ref l/\y = .ref b/\H l=some (.lst xs)/\H b=some (.lst zs)/\xs.length+zs.length<=sizeLine/\∀p,H p=none->Q (.ref p) (upd H p (.lst (xs++zs)))
theorem qet:iY X (binaryOp .Add) qgr:=by
 intro p_ s σ H x y v u Q I rx ry h;obtain⟨l,b,xs,zs,rfl,rfl,hH,hB,hz,q⟩:=h;cases rx;cases ry;obtain⟨z,its,n,r,hl,e⟩:=I.QL hH;obtain⟨z2,its2,n2,r2,hl2,e2⟩:=I.QL hB;refine PySem.P.add_list e e2 ?_ (by rw[qmh,qmh];omega);have ea:its.toArray++its2.toArray=(its++its2).toArray:=by simp
 rw[ea];exact⟨.ref _,_,I.qbW (t':=s.toks) (r.append r2) (by rw[qmD];omega),rfl,q _ I.fresh⟩
def qgs:R2:=λx y H Q=>∃l k xs,x = .ref l/\y = .int k/\H l=some (.lst xs)/\-(2 ^ 63)<=k/\k<2 ^ 63/\xs.length * k.toNat<=sizeLine/\
 ∀p,H p=none->Q (.ref p) (upd H p (.lst (List.replicate k.toNat xs).flatten))
theorem len_rep{α:Type}(xs:List α)(k:Nat):(List.replicate k xs).flatten.length=k * xs.length:=by
 induction k with
 |zero=>simp
 |succ k ih=>rw[qnv,qoo,qmD,ih,Nat.succ_mul,Nat.add_comm]
theorem qeu:iY X (binaryOp .Mult) qgs:=by
 intro p_ s σ H x y v u Q I rx ry h;obtain⟨l,k,xs,rfl,rfl,hH,h1,h2,hz,q⟩:=h;cases rx;obtain⟨t,rfl⟩:=ry;obtain⟨z,its,n,r,hl,e⟩:=I.QL hH;have hlen:its.toArray.size * k.toNat<=sizeLine:=by rw[qmh,<- hl];exact hz
 have hcap:¬its.toArray.size * k.toNat > (2 ^ 63 - 1) / 8:=by
  have:(sizeLine:Nat)<=(2 ^ 63 - 1) / 8:=by decide
  omega
 have hfit:¬(!Builtin.List.listFitsIndex k)=true:=by
  rw[fitsIndex_both h1 h2];exact qml
 have qgt:¬Builtin.List.listTooLong (its.toArray.size * k.toNat)=true:=by
  rw[Y4 hlen];exact qml
 have hnew:List.foldl (λx1 x2=>x1++x2) #[] (List.replicate (if its.toArray.isEmpty=true then 0 else k.toNat) its.toArray)=(List.replicate k.toNat its).flatten.toArray:=by
  have f0:∀m:Nat,List.foldl (λx1 x2=>x1++x2) #[] (List.replicate m its.toArray)=(List.replicate m its).flatten.toArray:=λm=>by
   have:=foldl_rep its m [];rw[List.nil_append] at this;exact this
  rw[f0];cases its with
  |nil=>simp
  |cons a r'=>rw[if_neg (by simp)]
 refine wpAny_binaryOp_repeat_ref (T:= "list") (U:= "int") (by decide) ⟨_,e,rfl⟩ (λs'=>typeIs_int s' k t) noFill_list_mul F.fills_int_mul F.slot_int_rmul repeat_list F.slot_int_index.lookup
  (call_meets F.slot_int_rmul (typeIs_int s k t) F.entry_int_rmul (F.args_int_rmul_2 _ _) (int___rmul___int_list k t l its.toArray n)
   ⟨e,rfl,⟨_,e,rfl⟩,call_meets F.slot_list_mul ⟨_,e,rfl⟩ F.entry_list_mul (F.args_list_mul_2 _ _) (AutoListH.list___mul___list_int_3 l its.toArray n k t hfit hcap qgt) ⟨e,?_⟩⟩)
 rw[hnew];exact⟨.ref _,_,I.qbW (t':=s.toks) (r.rep k.toNat) (by rw[len_rep,Nat.mul_comm];exact hz),rfl,q _ I.fresh⟩
end
end L2
namespace Att
open PySem PySem.W PySem.Calls PyProof.Rows
theorem Bs{P:Params}{h:Heap}:∀(ns:List Int)(vs:QAE),WellAll P h vs (ns.map WData.int)->IntsAre vs ns:=by
 intro ns
 induction ns with
 |nil=>
  intro vs w;rw[List.map_nil] at w;cases w;exact .nil
 |cons n ns ih=>
  intro vs w;rw[qmG] at w;cases w with
  |cons a b=>
   cases a;exact .cons _ _ (ih _ b)
theorem V2{l:OpenLaw}{n:Nat}(hn:l.most=some n){P:Params}{h:Heap}{args:List WData}{vals:QAE}
  (hpre:l.row.toRowW.claim.pre args=true) (hwl:WellAll P h vals args) :
  ∃a vs ns,vals=[Value.ref a]/\args=[WData.list (ns.map WData.int)]/\h.get? a=some {cls:=.type "list",data:=.seq vs.toArray}/\IntsAre vs ns/\ns.length<=n:=by
 have hsh:WShape.hasAll [] args [.list .int]=true:=(pre_splitW hpre).1;have hc:l.pre.holds [] {args:=args}=true:=(pre_splitW hpre).2;obtain⟨d,r,rfl,h1,h2⟩:=hasAllW_cons hsh;obtain rfl:=hasAllW_nil h2;obtain⟨xs,rfl,h3⟩:=hasW_list h1;obtain⟨ns,rfl⟩:=items_int h3;have hlen:ns.length<=n:=by
  unfold OpenLaw.pre at hc;have h4:(WTm.not (.lt (.lit (.int (n:Int))) (.len (.arg 0)))).holds [] {args:=[.list (ns.map .int)]}=true:=by
   have h4:=(holds_andW hc).1;rw[hn] at h4;exact h4
  have h5:=condW_of h4 (w_not (w_lt w_lit (w_len_list (w_arg rfl))));rw[ql9] at h5;refine Nat.le_of_not_lt λq=>?_;have q':(n:Int)<((ns.length:Nat):Int):=by omega
  first
   |(rw[qm0 q'] at h5;exact absurd h5 (by decide))
   |(simp at h5;omega)
 cases hwl with
 |cons w1 w2=>
  cases w2;cases w1 with
  |list ho hall=>exact⟨_,_,ns,rfl,rfl,ho,Bs ns _ hall,hlen⟩
theorem V3(l:OpenLaw)(args:List WData):l.row.toRowW.claim.post args (.bool true) args=true:=
 postW_of (r:=l.row.toRowW) (X:=(true == true))
  (show WShape.has [] (.bool true) .bool=true by first|rfl|decide|simp[WShape.has,WShape.arms,WShape.armsAll])
  (show(WTm.eq .res (.lit (.bool true))).value [] {args:=args,res:=some (.bool true),after:=args}=some (.bool (true == true)) from w_eq_bool (w_res rfl) w_lit) rfl
theorem Mw{l:OpenLaw}{n:Nat}{q:Program}{loose:QAH}{XP:(Str->Option Value)->Heap->Prop}{YP:World->Heap->Prop}{d:DefRec}
  (hn:l.most=some n) (hdf:d.params.defaults=[])
  (call:∀(w:World)(s₀ s₁:Shared)(mg mb:Str->Option Value)(fa:Addr)(o:Obj)(pm cd doc:Value)(a:Addr)(vs:QAE)(ns:List Int),
   Ground q loose [] XP w s₀ mg mb s₁.heap->YP w s₁.heap->
   s₁.heap.get? fa=some o->o.data = .func (docDef d.name d.params d.body d.scope pm cd doc)->s₁.heap.CodeRec cd d.name->mg d.name=some (.ref fa)->
   s₁.heap.get? a=some {cls:=.type "list",data:=.seq vs.toArray}->IntsAre vs ns->ns.length<=n->s₁.gens = #[]->
   codeAny (model l.prog w) callerA (.call (.ref fa) ⟨[.ref a],[]⟩) (λr s'=>r = .ok (.ret (.bool true))/\OldK s₁.heap s'.heap/\s'.os=s₁.os/\AllBare s'.gens) s₁) :
  WalkO q loose XP YP l.row.toRowW d [] (λf vs=>PySem.call f vs):=by
 intro w s₀ s₁ mg mb G Y fa o pm cd doc dV kV ho hd hcd hD hmg hg args vals as hpre hlay hrd hwl hlo;obtain rfl:dV = .none:=Dflts.none hD hdf;obtain rfl:kV = .none:=Dflts.noKw hD;obtain⟨a,vs,ns,rfl,rfl,hobj,hints,hlen⟩:=V2 hn hpre hwl;refine enter_call (qnc (call w s₀ s₁ mg mb fa o pm cd doc a vs ns G Y ho (fd_plain hd) hcd hmg hobj hints hlen hg) λr s' hq=>?_);obtain⟨rfl,h2,h3,h4⟩:=hq;exact⟨.inl ⟨.bool true,.bool true,[],rfl,λ_=>rfl,.bool true,V3 l _,λ_=>⟨List.Pairwise.nil,λ_ hm=>(nomatch hm)⟩⟩,h2,h3,h4⟩
end Att
namespace L2
open PySem PySem.Spec PyProof.Rows
theorem zy:∀{vs:QAE}{ns:List Int},IntsAre vs ns->Vals (ns.map V.int) vs
 |_,_,.nil=>.nil
 |_,_,.cons n t h=>.cons ⟨t,rfl⟩ (zy h)
def inClass(s:Stmt)(j:Nat):Stmt:=match s with
 |.ClassDef _ _ _ body _ _ _ _ _ _ _=>body.getD j (.Pass ⟨0,0,0,0⟩)
 |_=>.Pass ⟨0,0,0,0⟩
def o9(s:Stmt):Arguments:=match s with
 |.FunctionDef _ a _ _ _ _ _ _ _ _=>a
 |_=>{posonlyargs:=[],args:=[],vararg:=none,kwonlyargs:=[],kw_defaults:=[],kwarg:=none,defaults:=[]}
def gj(s:Stmt):List Stmt:=match s with
 |.FunctionDef _ _ b _ _ _ _ _ _ _=>b
 |_=>[]
def aB(s:Stmt):Scope:=match s with
 |.FunctionDef _ _ _ _ _ _ sc _ _ _=>sc
 |_=>{kind:=.function,names:=[],isGenerator:=false,isCoroutine:=false}
abbrev i_:YJ:=λ_ _ _ _ _ _=>False
abbrev E0:XK:=λ_ _ _=>False
theorem bA{X:Cx}:Passes i_ X E0:=λ_ _ _ _ _ _ _ h=>h.elim
structure dj(K:W.Frag)(x qual:Str)(st:Stmt)(f:Addr)(fd:FuncData):Prop where
 ex:∃(oc:Value)(od:Option Addr)(kV doc pm:Value)(an:Option Addr)(cdv ct:Value)(osl:Array (QAG)),
  fd=W.fnOf x qual (o9 st) (gj st) (aB st) .none kV doc pm an cdv ct/\K.lookup f=some ⟨oc,od,.func fd,osl⟩/\W.codeIn K cdv qual=true
 kp:W.keepIn K (.ref f)=true
section
variable {P:Program}{w:World}{K:W.Frag}{mg:Str->Option Value}{base:Heap}
theorem dj.ok{x qual:Str}{st:Stmt}{f:Addr}{fd:FuncData}{N ps:QAH}{k:Nat}{sp:Sp}(F:dj K x qual st f fd)(S:aQ N ps (aB st))(len:∀vs H Q E,sp vs H Q E->vs.length=ps.length)
  (hbody:∀(cdv:Value)(A:Around)(outer:List Env)(s:Shared)(H:Hp)(vs:List V)(Q:VK)(E:XK),fL k (A.deeper (envOfC qual (aB st) s.heap.objs.size f cdv))->sp vs H Q E->
   ∃t,Ge (au i_ P w K mg base N qual (aB st) f cdv A outer s H E).T8 (gj st) t/\t {nx:=λ_ H'=>Q .non H',rt:=Q} (start N vs) H):bV P w K mg base i_ (k+1) f fd ps sp:=by
 obtain⟨oc,od,kV,doc,pm,an,cdv,ct,osl,rfl,lk,hcd⟩:=F.ex;refine YT lk hcd S len λA outer s H vs Q E hr hsp=>?_;obtain⟨t,h,q⟩:=hbody cdv A outer s H vs Q E hr hsp;exact⟨t,h.T8,q⟩
theorem dj.binds{x qual:Str}{st:Stmt}{f:Addr}{fd:FuncData}{ps:QAH}(F:dj K x qual st f fd)
  (h:∀(kV doc pm:Value)(an:Option Addr)(cdv ct:Value)(us:QAE),us.length=ps.length->bindArgs (W.fnOf x qual (o9 st) (gj st) (aB st) .none kV doc pm an cdv ct) ⟨us,[]⟩=pure (ps.zip us)):Binds K fd ps []:=by
 obtain⟨oc,od,kV,doc,pm,an,cdv,ct,osl,rfl,lk,hcd⟩:=F.ex;exact .all (h kV doc pm an cdv ct)
theorem QM{x qual:Str}{st:Stmt}{f:Addr}{oc:Value}{od an:Option Addr}{osl:Array (QAG)}{kV doc pm cdv ct:Value}(l:K.lookup f=some ⟨oc,od,.func (W.fnOf x qual (o9 st) (gj st) (aB st) .none kV doc pm an cdv ct),osl⟩)
  (c:W.codeIn K cdv qual=true) (k:W.keepIn K (.ref f)=true):dj K x qual st f (W.fnOf x qual (o9 st) (gj st) (aB st) .none kV doc pm an cdv ct):=⟨⟨oc,od,kV,doc,pm,an,cdv,ct,osl,rfl,l,c⟩,k⟩
end
theorem Hi{A:Around}{k:Nat}(hr:fL k A):A.units+1<cLine:=Nat.lt_of_le_of_lt (Nat.add_le_add_left (by decide:1<=64) _) hr.units
section
variable {X:Cx}
theorem pv(i:Nat){x:Str}{pos:Pos}(hN:X.N[i]? = some x:=by rfl)(hv:Vis X.env.scope x:=by first|exact Or.inl rfl|exact Or.inr (Or.inl rfl)|exact Or.inr (Or.inr rfl)) (hd:(x == ("__debug__" : Str))=false:=by decide)
  (hcd:(x == ("__classdict__" : Str))=false:=by decide):PE X (.Name x pos) (qbH i):=Yl hN hv hd hcd
end
def Same(H H':Hp):Prop:=∀b o,H b=some o->H' b=some o
theorem Same.refl(H:Hp):Same H H:=λ_ _ h=>h
theorem Same.trans{H H1 H2:Hp}(a:Same H H1)(b:Same H1 H2):Same H H2:=λc o h=>b c o (a c o h)
theorem Same.free{H H':Hp}(e:Same H H'){l:Addr}(h:H' l=Option.none):H l=Option.none:=by
 cases q:H l with
 |none=>rfl
 |some o=>
  rw[e l o q] at h;cases h
def ql(env:Env)(cs:List (Str×Addr))(p:Str×NameKind):List (Str×Addr):=if p.2 == .free then (p.1,(env.cells.lookup p.1).getD 0)::cs else cs
def Mx(env:Env)(names:List (Str×NameKind)):List (Str×Addr):=names.foldl (ql env) []
theorem Am{α β:Type}(f:α->β->Sem (ForInStep β))(g:β->α->β):∀(l:List α)(b:β),(∀x∈l,∀b,f x b=pure (.yield (g b x)))->forIn l b f=pure (l.foldl g b)
 |[],_,_=>rfl
 |x::l,b,h=>by
  rw[List.forIn_cons,h x qmr,pure_bind];exact Am f g l (g b x) λy hy=>h y (qmp _ hy)
theorem tE{sc:Scope}{env:Env}(h:∀x,(x,NameKind.free)∈sc.names->∃c,env.cells.lookup x=some c):closureFor sc env=pure (Mx env sc.names):=by
 simp only[closureFor];rw[Am _ (ql env) sc.names [] (λp hp cs=>by
  obtain⟨n,k⟩:=p;cases k with
  |free=>
   obtain⟨c,hc⟩:=h n hp;simp only[ql,cellOf,hc,beq_self_eq_true,if_true,Option.getD_some,pure_bind]
  |_=>simp only[ql];rfl)]
 rfl
theorem xZ{env:Env}:∀(names:List (Str×NameKind))(acc:List (Str×Addr))(x:Str)(c:Addr),(∀x,(x,NameKind.free)∈names->∃c,env.cells.lookup x=some c)->(∀x c,(x,c)∈acc->env.cells.lookup x=some c)->
  (x,c)∈names.foldl (ql env) acc->env.cells.lookup x=some c
 |[],_,x,c,_,h,m=>h x c m
 |(n,k)::r,acc,x,c,hf,h,m=>by
  refine xZ r (ql env acc (n,k)) x c (λy hy=>hf y (qmp _ hy)) (λy d hy=>?_) m;unfold ql at hy;split at hy
  ·rename_i hk;have hk':k = .free:=by simpa using hk
   subst hk';obtain⟨e,he⟩:=hf n qmr
   rcases qmd.mp hy with z|z
   ·cases z;show env.cells.lookup n=some _;rw[he];rfl
   ·exact h y d z
  ·exact h y d hy
theorem zA{env:Env}{x:Str}:∀(names:List (Str×NameKind))(acc:List (Str×Addr)),((x,NameKind.free)∈names\/(acc.lookup x).isSome=true)->((names.foldl (ql env) acc).lookup x).isSome=true
 |[],_,h=>h.elim (λz=>nomatch z) id
 |(n,k)::r,acc,h=>by
  refine zA r (ql env acc (n,k)) ?_
  by_cases hm:(x,NameKind.free)∈r
  ·exact .inl hm
  ·refine .inr ?_;unfold ql
   rcases h with h|h
   ·rcases qmd.mp h with z|z
    ·cases z;simp[qnq]
    ·exact absurd z hm
   ·split
    ·simp only[qnq];cases x == n <;> simp[h]
    ·exact h
def CG(env:Env)(sc:Scope)(C:Addr):List (Str×Addr):=cellsFrom (C+1) sc.names (Mx env sc.names)
theorem je{x:Str}:∀(names:List (Str×NameKind))(n:Nat)(acc:List (Str×Addr)),(x,NameKind.cell)∈names\/(acc.lookup x).isSome=true->((cellsFrom n names acc).lookup x).isSome=true
 |[],_,_,h=>h.elim (λz=>nomatch z) id
 |(y,k)::r,n,acc,h=>by
  unfold cellsFrom;split
  ·refine je r (n+1) ((y,n)::acc) ?_
   by_cases hm:(x,NameKind.cell)∈r
   ·exact .inl hm
   ·refine .inr ?_
    rcases h with h|h
    ·rcases qmd.mp h with z|z
     ·cases z;simp[qnq]
     ·exact absurd z hm
    ·simp only[qnq];cases x == y <;> simp[h]
  ·rename_i hk;refine je r n acc ?_
   rcases h with h|h
   ·rcases qmd.mp h with z|z
    ·cases z;exact absurd rfl hk
    ·exact .inl z
   ·exact .inr h
theorem QS:∀(names:List (Str×NameKind))(h:Heap)(acc:List (Str×Addr))(x:Str)(c:Addr),(x,c)∈cellsFrom h.objs.size names acc->(x,c)∈acc\/(h.objs.size<=c/\(pushCells h names).IsCell c none)
 |[],_,_,_,_,m=>.inl m
 |(n,k)::r,h,acc,x,c,m=>by
  unfold cellsFrom at m;unfold pushCells;split at m
  ·rename_i hk;rw[if_pos hk];have m':(x,c)∈cellsFrom (h.push {cls:=.type "cell",data:=.cell none}).objs.size r ((n,h.objs.size)::acc):=by rw[qmK];exact m
   rcases QS r (h.push {cls:=.type "cell",data:=.cell none}) _ x c m' with z|⟨z1,z2⟩
   ·rcases qmd.mp z with e|e
    ·cases e;exact .inr ⟨ql7 _,⟨_,pushCells_keeps _ _ _ _ (qmc _ rfl),rfl⟩⟩
    ·exact .inl e
   ·rw[qmK] at z1;exact .inr ⟨by omega,z2⟩
  ·rename_i hk;rw[if_neg hk];exact QS r h acc x c m
theorem QT{n0:Nat}{x:Str}:∀(names:List (Str×NameKind))(n:Nat)(acc:List (Str×Addr))(c:Addr),((x,NameKind.cell)∈names\/∀d,acc.lookup x=some d->n0<=d)->n0<=n->(cellsFrom n names acc).lookup x=some c->n0<=c
 |[],_,_,c,h,_,e=>h.elim (λz=>nomatch z) λz=>z c e
 |(y,k)::r,n,acc,c,h,hn,e=>by
  unfold cellsFrom at e;split at e
  ·refine QT r (n+1) ((y,n)::acc) c ?_ (by omega) e
   by_cases hm:(x,NameKind.cell)∈r
   ·exact .inl hm
   ·refine .inr λd hd=>?_
    by_cases hxy:x=y
    ·subst hxy;have hnd:n=d:=by simpa [qnq] using hd
     rw[<- hnd];exact hn
    ·have hb:(x == y)=false:=by simpa using hxy
     simp only[qnq,hb] at hd
     rcases h with h|h
     ·rcases qmd.mp h with z|z
      ·cases z;exact absurd rfl hxy
      ·exact absurd z hm
     ·exact h d hd
  ·rename_i hk;refine QT r n acc c ?_ hn e
   rcases h with h|h
   ·rcases qmd.mp h with z|z
    ·cases z;exact absurd rfl hk
    ·exact .inl z
   ·exact .inr h
theorem QV:∀(names:List (Str×NameKind))(n:Nat)(acc:List (Str×Addr)),(∀y d,(y,d)∈acc->d<n)->(∀y z d,(y,d)∈acc->(z,d)∈acc->y=z)->
  ∀y z d,(y,d)∈cellsFrom n names acc->(z,d)∈cellsFrom n names acc->y=z
 |[],_,_,_,h=>h
 |(x,k)::r,n,acc,hl,h=>by
  unfold cellsFrom;split
  ·refine QV r (n+1) ((x,n)::acc) (λy d hm=>?_) λy z d h1 h2=>?_
   ·rcases qmd.mp hm with e|e
    ·cases e;exact qmS _
    ·exact qm1 (hl y d e)
   ·rcases qmd.mp h1 with e1|e1 <;> rcases qmd.mp h2 with e2|e2
    ·cases e1;cases e2;rfl
    ·cases e1;exact absurd (hl z n e2) (qm5 _)
    ·cases e2;exact absurd (hl y n e1) (qm5 _)
    ·exact h y z d e1 e2
  ·exact QV r n acc hl h
abbrev NoE:QAB:=λ_ _=>False
theorem Mz{prog:Program}{w:World}{A:Around}{R:Result->Shared->Prop}{s:Shared}{elt target iter:Expr}{ifs:List Expr}{scope:Scope}{pos:Pos}{it acc:Value}{env:Env}(I:Nat->Shared->Prop)
  (turn:∀n s,I n s->wpAny (model prog w) A (pyNext it) (λr s₁=>match r with
   |none=>R (.ok .next) s₁
   |some v=>wpAny (model prog w) A (letOwnedTupleGo target it v) (λ_ s₂=>wpAny (model prog w) A (assign target env v) (λ_ s₃=>
     wpAny (model prog w) A (forIn ifs true λc r=>if r=true then do let ok <- isTrue c env (eval c env);pure (ForInStep.yield ok) else pure (ForInStep.yield r)) (λok s₄=>
      if ok=true then wpAny (model prog w) A (eval elt env) (λx s₅=>
       wpAny (model prog w) A (call (.builtin "list.append") [acc,x]) (λ_ s₆=>∃m,m<n/\I m s₆) NoE s₅) NoE s₄
      else ∃m,m<n/\I m s₄) NoE s₃) NoE s₂) NoE s₁) NoE s)
  (n:Nat) (h:I n s):codeAny (model prog w) A (.compLoop (.ListComp elt [⟨target,iter,ifs,0⟩] scope pos) 0 it acc env) R s:=by
 refine codeAny_loop rfl I (λn s hI=>?_) n h;show wpAny _ A ((compTurn (.ListComp elt [⟨target,iter,ifs,0⟩] scope pos) 0 it acc env).onRaise (λx=>do noteFrame x env;theTreesLotGoes x)) _ _ s
 refine wpAny_noted ?_;rw[compTurn_list];refine ql3 (wpAny_standAt (ql3 (qmV (turn n s hI) (λr s₁ h₁=>?_) λ_ _ h'=>h'.elim)));cases r with
 |none=>exact qmb h₁
 |some v=>
  refine ql3 (qmV h₁ (λ_ s₂ h₂=>?_) λ_ _ h'=>h'.elim);refine ql3 (qmV h₂ (λ_ s₃ h₃=>ql3 (qmV h₃ (λok s₄ h₄=>?_) λ_ _ h'=>h'.elim)) λ_ _ h'=>h'.elim);cases ok with
  |false=>exact qmb ⟨rfl,h₄⟩
  |true=>
   exact ql3 (ql3 (qmV h₄ (λx s₅ h₅=>ql3 (qmV h₅ (λ_ s₆ h₆=>qmb (qmb ⟨rfl,h₆⟩)) λ_ _ h'=>h'.elim)) λ_ _ h'=>h'.elim))
def cO(X:Cx)(sc:Scope)(N:QAH)(C:Addr)(s:Shared)(H:Hp)(fp:List Addr)(pn:QAC):Cx:=
 {X with env:=compEnvC sc (CG X.env sc C) C X.env,N:=N,s₀:=s,H₀:=H,outer:=X.stack,ex:=fp,fn:=λx=>sc.names.any λp=>p.1 == x && p.2 == .cell,pn:=pn,xe:=NoE}
theorem nW{sc:Scope}{env:Env}(x:Str):(relabel sc env).names.lookup x=(sc.names.lookup x).map λk=>if (k == NameKind.free && env.scope.kind == .function && env.kindOf x == some .cell)=true then NameKind.cell else k:=by
 unfold relabel;show List.lookup x (sc.names.map _)=_
 induction sc.names with
 |nil=>rfl
 |cons p r ih=>
  obtain⟨n,k⟩:=p;rw[qmG];have e1:(if (k == NameKind.free && env.scope.kind == .function && env.kindOf n == some .cell)=true then (n,NameKind.cell) else (n,k))=(n,if (k == NameKind.free && env.scope.kind == .function && env.kindOf n == some .cell)=true then NameKind.cell else k):=by split <;> rfl
  show List.lookup x ((if (k == NameKind.free && env.scope.kind == .function && env.kindOf n == some .cell)=true then (n,NameKind.cell) else (n,k))::_)=_
  rw[e1]
  by_cases hx:x=n
  ·subst hx;simp only[qnq,beq_self_eq_true,Option.map_some]
  ·have hb:(x == n)=false:=by simpa using hx
   simp only[qnq,hb];exact ih
structure aY(ps sc:Scope)(pN own:QAH)(caps:List Nat)(N:QAH):Prop where
 kind:sc.kind = .function
 uniq:∀p∈sc.names,sc.names.lookup p.1=some p.2
 nd:N.Nodup
 names:N=own++caps.map λj=>pN.getD j ""
 free:∀p∈sc.names,p.2 = .free->ps.names.lookup p.1=some .cell\/ps.names.lookup p.1=some .free
 qgu:∀j∈caps,j<pN.length/\sc.names.lookup (pN.getD j "")=some .free
def stC(own:QAH)(caps:List Nat)(σ:St):St:=own.map (λ_=>none)++caps.map λj=>(σ[j]?).getD none
section
variable {X:Cx}{p_:QAC}{σ:St}{H:Hp}{s:Shared}{ps sc:Scope}{own pN:QAH}{caps:List Nat}{N:QAH}{fp:List Addr}
theorem aY.cells(S:aY ps sc pN own caps N)(hps:X.env.scope=ps)(ok:X.Ok):∀x,(x,NameKind.free)∈sc.names->∃c,X.env.cells.lookup x=some c:=λx hx=>by
 refine ok.has x ?_;show X.env.scope.names.lookup x=_\/X.env.scope.names.lookup x=_;rw[hps];exact S.free (x,.free) hx rfl
theorem CJ(hfr:∀x,(x,NameKind.free)∈sc.names->∃c,X.env.cells.lookup x=some c){C:Addr}{x:Str}{c:Addr}{h:Heap}(hC:C+1=h.objs.size)(m:(x,c)∈CG X.env sc C):X.env.cells.lookup x=some c\/(h.objs.size<=c/\(pushCells h sc.names).IsCell c none):=by
 unfold CG at m;rw[hC] at m
 rcases QS sc.names h _ x c m with z|z
 ·exact .inl (xZ sc.names [] x c hfr (λ_ _ z=>nomatch z) z)
 ·exact .inr z
theorem Uh(I:Inv X p_ σ H s)(hps:X.env.scope=ps)(S:aY ps sc pN own caps N)(hf:∀b∈fp,vK X p_ H b)(ho:∀b∈fp,∃o,s.heap.get? b=some o/\∀v,o.data≠.cell v) :
  (cO X sc N s.heap.objs.size s H fp (X.pn++p_)).Ok where
 mod:=I.ok.mod
 kind:=S.kind
 glob:=I.ok.glob
 blt:=I.ok.blt
 above:=ql7 _
 inj:=λx y c h1 h2=>by
  have cl:∀y d,(y,d)∈Mx X.env sc.names->X.env.cells.lookup y=some d:=λy d m=>xZ sc.names [] y d (S.cells hps I.ok) (λ_ _ z=>nomatch z) m;refine QV sc.names (s.heap.objs.size+1) (Mx X.env sc.names) (λy d m=>?_) (λy z d m1 m2=>I.ok.inj y z d (cl y d m1) (cl z d m2)) x y c (qmJ h1) (qmJ h2);obtain⟨v,q⟩:=I.cell y d (cl y d m);exact qm1 q.lt
 has:=λx hx=>by
  have hx1:(relabel sc X.env).names.lookup x=some .cell\/(relabel sc X.env).names.lookup x=some .free:=hx;have hx':(x,NameKind.cell)∈sc.names\/(x,NameKind.free)∈sc.names:=by
   rw[nW] at hx1;cases e:sc.names.lookup x with
   |none=>rw[e] at hx1;simp at hx1
   |some k=>
    rw[e] at hx1;have hm:=qmJ e;cases k with
    |free=>exact .inr hm
    |cell=>exact .inl hm
    |_=>simp at hx1
  have q:((cellsFrom (s.heap.objs.size+1) sc.names (Mx X.env sc.names)).lookup x).isSome=true:=by
   rcases hx' with z|z
   ·exact je sc.names _ _ (.inl z)
   ·exact je sc.names _ _ (.inr (zA sc.names [] (.inl z)))
  exact qn3.mp q
 cab:=λx c hx h=>by
  have hx':(x,NameKind.cell)∈sc.names:=by
   have hx:(sc.names.any λp=>p.1 == x && p.2 == .cell)=true:=hx;obtain⟨⟨a,b⟩,hm,he⟩:=qnB.mp hx;simp at he;obtain⟨rfl,rfl⟩:=he;exact hm
  exact QT (n0:=s.heap.objs.size) sc.names (s.heap.objs.size+1) (Mx X.env sc.names) c (.inl hx') (qnD _) h
 hd:=I.ok.hd
 frames:=I.ok.frames
 stk:=.inl rfl
 exf:=λb hb=>by
  obtain⟨o,e,_⟩:=ho b hb;refine⟨qmg (ql8 e),λx c h z=>?_⟩;subst z
  rcases CJ (S.cells hps I.ok) (h:=s.heap.push {cls:=.type "dict",data:=.dict #[]}) (by rw[qmK]) (qmJ h) with q|⟨q,_⟩
  ·exact(hf c hb).2.2.2.2.1 x c q rfl
  ·rw[qmK] at q;exact absurd (qmf (qmf (ql8 e) (qnD _)) q) (qm5 _)
 bs:=I.bs
 TY:=qme I.ok.TY I.sz
 Mi:=λb o e hb=>by
  rcases(hf b hb).2.2.2.1 with z|z
  ·exact I.ok.Mi b o e z
  ·exact absurd (qmf (ql8 e) (qme I.ok.TY z)) (qm5 _)
 Mj:=λb hb z=>by
  rcases qmd.mp (I.wD b z) with q|q
  ·exact(hf b hb).2.1 q
  ·exact(hf b hb).2.2.1 q
 tQ:=I.stack
 X8:=I.Bw
def blockAt(sc:Scope)(s:Shared):Shared:={s with heap:=pushCells (s.heap.push {cls:=.type "dict",data:=.dict #[]}) sc.names}
theorem Y5(I:Inv X p_ σ H s)(hps:X.env.scope=ps)(hpN:X.N=pN)(S:aY ps sc pN own caps N)(hf:∀b∈fp,vK X p_ H b)(ho:∀b∈fp,∃o,s.heap.get? b=some o/\∀v,o.data≠.cell v) :
  Inv (cO X sc N s.heap.objs.size s H fp (X.pn++p_)) [] (stC own caps σ) H (blockAt sc s):=by
 have hk:∀b o,s.heap.get? b=some o->(blockAt sc s).heap.get? b=some o:=λb o e=>pushCells_keeps _ _ b o (ql4 _ e);have hns:(blockAt sc s).heap.Ns s.heap.objs.size λ_=>none:=(Heap.Ns.new s.heap (.type "dict")).keeps (pushCells_keeps _ _);have hcl:∀x c,(CG X.env sc s.heap.objs.size).lookup x=some c->X.env.cells.lookup x=some c\/(s.heap.objs.size+1<=c/\(blockAt sc s).heap.IsCell c none):=λx c e=>by
  rcases CJ (S.cells hps I.ok) (h:=s.heap.push {cls:=.type "dict",data:=.dict #[]}) (by rw[qmK]) (qmJ e) with q|⟨q,r⟩
  ·exact .inl q
  ·rw[qmK] at q;exact .inr ⟨q,r⟩
 refine⟨Uh I hps S hf ho,rfl,I.bare,Un.kept hk,⟨_,hns,λi x v e1 e2 e3=>?_⟩,λx c e=>?_,I.hok.fresh (ql7 _),λx c e=>?_,λp hp=>?_,I.hok.kept hk,?_⟩
 ·have e1':N[i]? = some x:=e1;rw[S.names] at e1';unfold stC at e2
  by_cases hi:i<own.length
  ·rw[qms (by simpa using hi),qmw] at e2;cases q:own[i]? with
   |none=>rw[q] at e2;cases e2
   |some y=>rw[q] at e2;cases e2
  ·rw[qmu (by omega),qmw] at e1';rw[qmu (by simp;omega),qmw] at e2;simp only[ql9] at e2;cases q:caps[i - own.length]? with
   |none=>rw[q] at e2;cases e2
   |some j=>
    rw[q] at e1' e2;have qgv:pN.getD j "" = x:=qmB e1';have e2':(σ[j]?).getD none=some v:=qmB e2;have hj:σ[j]? = some (some v):=by
     cases z:σ[j]? with
     |none=>rw[z] at e2';cases e2'
     |some o=>rw[z] at e2';exact qmA some e2'
    obtain⟨hlt,hfree⟩:=S.qgu j (ql_ q);rw[qgv] at hfree;have hNj:X.N[j]? = some x:=by
     rw[hpN,<- qgv];simp[List.getD,qmM hlt]
    have qgw:=S.free (x,.free) (qmJ hfree) rfl;have vis:Vis X.env.scope x:=by rw[hps];exact .inr qgw
    obtain⟨m,hn,hl⟩:=I.loc;obtain⟨u,r,l⟩:=hl j x v hNj hj vis;refine⟨u,r,.inr ?_⟩;have hkind:(relabel sc X.env).names.lookup x=some .cell\/(relabel sc X.env).names.lookup x=some .free:=by
     rw[nW,hfree];show some (if _ then _ else _)=_\/some (if _ then _ else _)=_
     split
     ·exact .inl rfl
     ·exact .inr rfl
    refine⟨hkind,?_⟩;have hcell:X.env.kindOf x=some .cell\/X.env.kindOf x=some .free:=by
     show X.env.scope.names.lookup x=_\/X.env.scope.names.lookup x=_;rw[hps];exact qgw
    rcases l with⟨hloc,_⟩|⟨_,c,hc,hcv⟩
    ·rcases hcell with z|z <;> (rw[hloc] at z;cases z)
    ·have q2:((CG X.env sc s.heap.objs.size).lookup x).isSome=true:=je sc.names _ _ (.inr (zA sc.names [] (.inl (qmJ hfree))));obtain⟨d,hd⟩:=qn3.mp q2;refine⟨d,hd,?_⟩
     rcases hcl x d hd with z|⟨z,_⟩
     ·rw[hc] at z;cases z;exact hcv.keeps hk
     ·
      exfalso;have hnc:(x,NameKind.cell)∉sc.names:=λhm=>by
       have:=S.uniq _ hm;rw[hfree] at this;cases this
      have hmem:=qmJ hd;have qev:∀(names:List (Str×NameKind))(n:Nat)(acc:List (Str×Addr)),(x,NameKind.cell)∉names->(cellsFrom n names acc).lookup x=acc.lookup x:=by
       intro names
       induction names with
       |nil=>intro _ _ _;rfl
       |cons p r ih=>
        intro n acc hm;obtain⟨y,k⟩:=p;unfold cellsFrom;split
        ·rename_i hkk;have hkk':k = .cell:=by simpa using hkk
         subst hkk';rw[ih _ _ λz=>hm (qmp _ z)];have hxy:(x == y)=false:=by
          cases hb:x == y with
          |false=>rfl
          |true=>exact absurd (by rw[qn1.mp hb];exact qmr) hm
         simp only[qnq,hxy]
        ·exact ih _ _ λz=>hm (qmp _ z)
      have e5:(Mx X.env sc.names).lookup x=some d:=(qev sc.names _ _ hnc).symm.trans hd;have e6:=xZ sc.names [] x d (S.cells hps I.ok) (λ_ _ z=>nomatch z) (qmJ e5);rw[hc] at e6;cases e6;exact absurd (qmf (qmf hcv.lt (qnD _)) z) (qm5 _)
 ·rcases hcl x c e with z|⟨_,z⟩
  ·obtain⟨v,q⟩:=I.cell x c z;exact⟨v,q.keeps hk⟩
  ·exact⟨_,z⟩
 ·rcases hcl x c e with z|⟨z,_⟩
  ·exact I.iW x c z
  ·exact I.hok.fresh (by omega)
 ·rw[qmz] at hp;obtain⟨e,n,ne,nf,d⟩:=I.pin p hp;refine⟨hk _ _ e,n,qmg (ql8 e),λz=>?_,d⟩
  rcases qmd.mp (I.wD p.1 z) with q|q
  ·exact ne q
  ·exact nf q
 ·show(stC own caps σ).length=N.length;rw[S.names];simp[stC]
theorem V4(I:Inv X p_ σ H s)(hf:∀b∈fp,vK X p_ H b){C:Addr}{pn:QAC}{Cv:QAC}{σ':St}{H':Hp}{s':Shared}(I':Inv (cO X sc N C s H fp pn) Cv σ' H' s'):Inv X p_ σ H' s':=
 I.call' (ch:=fp) I'.os I'.base I'.hok I'.bare λb hb=>⟨(hf b hb).2.2.2.1,(hf b hb).2.1,(hf b hb).2.2.2.2.1,(hf b hb).2.2.2.2.2⟩
end
def PTs(X:Cx)(ifs:List Expr)(t:TT):Prop:=
 ∀(p_:QAC)(s:Shared)(σ:St)(H:Hp)(Q:Bool->Hp->Prop),Inv X p_ σ H s->t σ H Q->
  wpAny (model X.prog X.w) X.A (forIn ifs true λc r=>if r=true then do let ok <- isTrue c X.env (eval c X.env);pure (ForInStep.yield ok) else pure (ForInStep.yield r)) (TP X p_ σ Q) X.xe s
def qgx:TT:=λ_ H Q=>Q true H
theorem eV{X:Cx}:PTs X [] qgx:=λ_ _ _ H _ I h=>wpAny_tests_nil ⟨H,I,h⟩
theorem o_{X:Cx}{c:Expr}{t:TT}(h:PT X c t):PTs X [c] t:=λp_ s σ H Q I hw=>wpAny_tests_one (h p_ s σ H Q I hw)
def m9(own:QAH)(caps:List Nat)(J:It)(g:TG)(tt:TT)(te:TE)(D:Addr)(σ:St)(H:Hp)(Q:Hp->Prop):Prop:=
 ∃oV:Nat->Nat->St->Hp->Prop,(∃m,oV 0 m (stC own caps σ) H)/\∀i m σ' H',oV i m σ' H'->
  (J.stop i H'/\Q H')\/(J.go i H'/\∃N:St->Hp->Prop,(∀σ2 H2,N σ2 H2->∃m',m'<m/\oV (i+1) m' σ2 H2)/\∀x H2,J.yld i H' x H2->g x σ' H2 λσ2 H3=>tt σ2 H3 λb H4=>
   if b=true then te σ2 H4 λy H5=>∃ys,H5 D=some (.lst ys)/\ys.length<sizeLine/\N σ2 (upd H5 D (.lst (ys++[y]))) else N σ2 H4)
def Ui(own:QAH)(caps:List Nat)(wi:TI)(g:TG)(tt:TT)(te:TE):TE:=λσ H Q=>wi σ H λJ H1=>∀D,H1 D=none->m9 own caps J g tt te D σ (upd H1 D (.lst [])) (Q (.ref D))
theorem Jx{M:Model}{A:Around}{E:QAB}{s:Shared}{sc:Scope}{g:Addr}{cl:List (Str×Addr)}{qual:Str}{env:Env}{Q:Env->Shared->Prop}
  (h:Q (newEnv sc s.heap.objs.size g (cellsFrom (s.heap.objs.size+1) sc.names cl) qual none .none (some env) builtinsNs) (blockAt sc s)):wpAny M A (newFunctionEnv sc g cl [] qual none .none (some env)) Q E s:=by
 simp only[newFunctionEnv,Option.isSome_some,if_true];refine ql3 (wpAny_alloc ?_);refine ql3 (wpAny_layCells _ (λname kind cells=>by cases hkc:kind == NameKind.cell <;> simp[hkc]) _ _ _ _ ?_);rw[show({s with heap:=s.heap.push {cls:=.type "dict",data:=.dict #[]}}:Shared).heap.objs.size=s.heap.objs.size+1 from qmK ..];rw[List.forIn_nil];exact ql3 (qmb (qmb h))
def MF(X:Cx)(p_:QAC)(σ:St)(Q:Hp->Prop)(C:Addr)(r:Result)(s':Shared):Prop:=
 ∃H',r = .ok .next/\Inv X p_ σ H' s'/\(∃m,s'.heap.Ns C m)/\vK X p_ H' C/\Q H'
section
variable {X:Cx}{ps sc:Scope}{own pN:QAH}{caps:List Nat}{N:QAH}
theorem CK{p_:QAC}{σ:St}{H:Hp}{s:Shared}{E:QAB}{elt tg iter:Expr}{ifs:List Expr}{pos:Pos}{J:It}{fp:List Addr}{it D:Addr}{tn:Nat->Heap->Prop}{g:TG}{tt:TT}{te:TE}{Q:Hp->Prop}
  (I:Inv X p_ σ H s) (hps:X.env.scope=ps) (hpN:X.N=pN) (S:aY ps sc pN own caps N) (T:Turn X.prog X.w X.K tg J fp it tn) (st:tn 0 s.heap) (hf:∀b∈fp,vK X p_ H b) (hc:X.calm=true)
  (hg:∀C s H fp pn,PG (cO X sc N C s H fp pn) tg g) (ht:∀C s H fp pn,PTs (cO X sc N C s H fp pn) ifs tt) (he:∀C s H fp pn,PE (cO X sc N C s H fp pn) elt te)
  (h:m9 own caps J g tt te D σ H Q) :
  wpAny (model X.prog X.w) X.A (newFunctionEnv sc X.env.globals (Mx X.env sc.names) [] X.env.qual none .none (some X.env)) (λcenv s4=>
   codeAny (model X.prog X.w) X.A (.compStart (.ListComp elt [⟨tg,iter,ifs,0⟩] sc pos) 0 (.ref it) (.ref D) {cenv with scope:=relabel sc X.env}) (MF X p_ σ Q cenv.locals) s4) E s:=by
 obtain⟨oV,⟨m0,w0⟩,turn⟩:=h;refine Jx ?_;have ho:=T.obj 0 _ st;have I0:=Y5 I hps hpN S hf ho;have ok':=Uh I hps S hf ho;have hk:∀b o,s.heap.get? b=some o->(blockAt sc s).heap.get? b=some o:=λb o e=>pushCells_keeps _ _ b o (ql4 _ e);have st0:tn 0 (blockAt sc s).heap:=T.keep 0 _ _ st λb _ o e=>hk b o e;have stat:∀{H':Hp},(∀b∈fp,H' b=none)->∀b∈fp,vK (cO X sc N s.heap.objs.size s H fp (X.pn++p_)) [] H' b:=λhn b hb=>
  ⟨hn b hb,(ok'.exf b hb).1,ok'.Mj b hb,.inl hb,(ok'.exf b hb).2,λp hp=>(hf b hb).2.2.2.2.2 p (by rw[qmz] at hp;exact hp)⟩
 have loop:codeAny (model X.prog X.w) X.A (.compLoop (.ListComp elt [⟨tg,iter,ifs,0⟩] sc pos) 0 (.ref it) (.ref D) (cO X sc N s.heap.objs.size s H fp (X.pn++p_)).env) (MF X p_ σ Q s.heap.objs.size) (blockAt sc s):=by
  refine Mz (λn s'=>∃i σ' H',Inv (cO X sc N s.heap.objs.size s H fp (X.pn++p_)) [] σ' H' s'/\tn i s'.heap/\(∀b∈fp,H' b=none)/\oV i n σ' H') ?_ m0 ⟨0,_,H,I0,st0,λb hb=>(hf b hb).1,w0⟩;rintro n s3 ⟨i,σ3,H3,I3,st3,fr3,w3⟩
  rcases turn i n σ3 H3 w3 with⟨stop,qn⟩|⟨go,N',hN,step⟩
  ·refine cT (T.done (cO X sc N s.heap.objs.size s H fp (X.pn++p_)) rfl rfl rfl hc i [] s3 σ3 H3 NoE I3 (stat fr3) st3 stop) λr s4 zz=>?_;obtain⟨hr,I4⟩:=zz;subst hr;obtain⟨m,hn,_⟩:=I4.loc;exact⟨H3,rfl,V4 I hf I4,⟨m,hn⟩,I.Gh (ql7 _) I4.free,qn⟩
  ·refine cT (T.item (cO X sc N s.heap.objs.size s H fp (X.pn++p_)) rfl rfl rfl hc i [] s3 σ3 H3 NoE I3 (stat fr3) st3 go) λr s4 zz=>?_;obtain⟨u,hr,h4⟩:=zz;subst hr;refine cT h4 λ_ s5 zz=>?_;obtain⟨x,H5,I5,r5,y5,Vz,fr5⟩:=zz;have I5':=I5.pinned (stat fr5) (T.obj _ _ Vz);refine cT (hg _ _ _ _ _ _ s5 σ3 H5 x u _ I5' r5 (step x H5 y5)) λ_ s6 zz=>?_;obtain⟨σ6,H6,I6,q6⟩:=zz;refine cT (ht _ _ _ _ _ _ s6 σ6 H6 _ I6 q6) λb s7 zz=>?_;obtain⟨H7,I7,q7⟩:=zz;have again:∀{σ8:St}{H8:Hp}{s8:Shared},Inv (cO X sc N s.heap.objs.size s H fp (X.pn++p_)) ([]++Cz fp s5.heap) σ8 H8 s8->N' σ8 H8->
     ∃m,m<n/\∃i σ' H',Inv (cO X sc N s.heap.objs.size s H fp (X.pn++p_)) [] σ' H' s8/\tn i s8.heap/\(∀b∈fp,H' b=none)/\oV i m σ' H':=λ{σ8 H8 s8} I8 n8=>by
    obtain⟨m',hm,w8⟩:=hN σ8 H8 n8;refine⟨m',hm,i+1,σ8,H8,I8.xV,T.keep _ _ _ Vz λb hb o e=>(I8.pin (b,o) (qmE _ (qmE _ (rC hb e)))).1,λb hb=>?_,w8⟩;obtain⟨o,e,d⟩:=T.obj _ _ Vz b hb;exact(I8.pin (b,o) (qmE _ (qmE _ (rC hb e)))).2.1
   cases b with
   |false=>
    rw[if_neg qml] at q7⊢;exact again I7 q7
   |true=>
    rw[if_pos rfl] at q7⊢;refine cT (he _ _ _ _ _ _ s7 σ6 H7 _ I7 q7) λv s8 zz=>?_;obtain⟨y,H8,I8,r8,ys,hD,hz,n8⟩:=zz;refine cT (Hh (X:=cO X sc N s.heap.objs.size s H fp (X.pn++p_)) _ s8 σ6 H8 (.ref D) [y] (.ref D) [v] (λ_ H9=>N' σ6 H9) I8 rfl (.cons r8 .nil) ⟨D,ys,y,rfl,rfl,hD,hz,n8⟩) λ_ s9 zz=>?_;obtain⟨_,H9,I9,_,n9⟩:=zz;exact again I9 n9
 exact codeAny_compStart_list loop (T.self X.A 0 _ _ _ st0 loop)
variable {elt tg iter:Expr}{ifs:List Expr}{pos:Pos}{wi:TI}{g:TG}{tt:TT}{te:TE}
theorem aY.locs(S:aY ps sc pN own caps N):∀x∈sc.names,x.2 = .local->sc.names.lookup x.1=some .local:=λx hx e=>by rw[<- e];exact S.uniq x hx
theorem eE(hps:X.env.scope=ps)(hpN:X.N=pN)(S:aY ps sc pN own caps N)(hc:X.calm=true)(hi:PI X tg iter wi)
  (hg:∀C s H fp pn,PG (cO X sc N C s H fp pn) tg g) (ht:∀C s H fp pn,PTs (cO X sc N C s H fp pn) ifs tt) (he:∀C s H fp pn,PE (cO X sc N C s H fp pn) elt te)
  (hs:∀x,foldedSetIterable iter X.env x=pure x:=by intro _;rfl):PE X (.ListComp elt [⟨tg,iter,ifs,0⟩] sc pos) (Ui own caps wi g tt te):=by
 intro p_ s σ H Q I h;rw[eval_ListComp];refine wpAny_comprehension_free (use:=none) rfl hs (tE (S.cells hps I.ok)) S.kind S.locs (cT (hi p_ s σ H _ I h) λv s1 h1=>cT h1 λitv s2 h2=>?_);obtain⟨it,fp,tn,J,H2,e,I2,T,st2,f2,q⟩:=h2;subst e;have fr:H2 s2.heap.objs.size=none:=I2.fresh;refine qop ?_;have I3:Inv X p_ σ (upd H2 s2.heap.objs.size (.lst [])) {s2 with heap:=s2.heap.push {cls:=.type "list",data:=.seq ([]:QAE).toArray},toks:=s2.toks}:=I2.qbW (its:=[]) (ys:=[]) .nil (qmP _);have f3:∀b∈fp,vK X p_ (upd H2 s2.heap.objs.size (.lst [])) b:=λb hb=>by
  obtain⟨o,e,_⟩:=T.obj 0 _ st2 b hb;exact⟨by rw[aD (qmg (ql8 e))];exact(f2 b hb).1,(f2 b hb).2⟩
 refine cT (CK (iter:=iter) (pos:=pos) I3 hps hpN S T (T.keep 0 _ _ st2 λb _ o e=>ql4 _ e) f3 hc hg ht he (q _ fr)) λcenv s4 h4=>?_;refine qnc h4 λr s5 ⟨H5,hr,I5,⟨m,hn⟩,f5,q5⟩=>?_;subst hr;refine⟨m,hn,λh' hs'=>?_⟩;have I6:Inv X p_ σ H5 {s5 with heap:=h',toks:=s5.toks}:=I5.turned (it:=cenv.locals) (λb o hb e=>(hs'.2 b hb).trans e) f5.1 f5.2.1 f5.2.2.2.1 f5.2.2.2.2.1 f5.2.2.2.2.2;exact⟨.ref s2.heap.objs.size,H5,I6,rfl,q5⟩
theorem jr{i:Nat}{y:Str}{py spos:Pos}(hN:X.N.Nodup)(hy:X.N[i]? = some y)(hl:X.env.scope.names.lookup y=some .local)(hps:X.env.scope=ps)(hpN:X.N=pN)(S:aY ps sc pN own caps N)(hc:X.calm=true)(hi:PI X tg iter wi)
  (hg:∀C s H fp pn,PG (cO X sc N C s H fp pn) tg g) (ht:∀C s H fp pn,PTs (cO X sc N C s H fp pn) ifs tt) (he:∀C s H fp pn,PE (cO X sc N C s H fp pn) elt te)
  (hsw:swapsWith (.ListComp elt [⟨tg,iter,ifs,0⟩] sc pos) (some (.Name y py)) spos.line X.env=pure true:=by rfl)
  (hs:∀x,foldedSetIterable iter X.env x=pure x:=by intro _;rfl):PS X (.Assign [.Name y py] (.ListComp elt [⟨tg,iter,ifs,0⟩] sc pos) spos) (Vw (Ui own caps wi g tt te) (Al i)):=by
 intro p_ s σ H D0 I h;rw[exec_Assign_Name_used _ _ _ _ hsw];refine ql3 (wpAny_standAt (ql3 ?_));show wpAny _ X.A (do let _ <- comprehension (.ListComp elt [⟨tg,iter,ifs,0⟩] sc pos) sc X.env _ (newList []) false (eval iter X.env) (some (assign (.Name y py) X.env))) _ _ s
 refine ql3 (qmV (wpAny_comprehension_free (use:=some (assign (.Name y py) X.env)) (Q:=λ_ s'=>SP X p_ D0 .next s') rfl hs (tE (S.cells hps I.ok)) S.kind S.locs
  (cT (hi p_ s σ H _ I h) λv s1 h1=>cT h1 λitv s2 h2=>?_)) (λ_ s' hq=>qmb (qmb hq)) λ_ _ e=>e)
 obtain⟨it,fp,tn,J,H2,e,I2,T,st2,f2,q⟩:=h2;subst e;have fr:H2 s2.heap.objs.size=none:=I2.fresh;refine qop ?_;have I3:Inv X p_ σ (upd H2 s2.heap.objs.size (.lst [])) {s2 with heap:=s2.heap.push {cls:=.type "list",data:=.seq ([]:QAE).toArray},toks:=s2.toks}:=I2.qbW (its:=[]) (ys:=[]) .nil (qmP _);have f3:∀b∈fp,vK X p_ (upd H2 s2.heap.objs.size (.lst [])) b:=λb hb=>by
  obtain⟨o,e,_⟩:=T.obj 0 _ st2 b hb;exact⟨by rw[aD (qmg (ql8 e))];exact(f2 b hb).1,(f2 b hb).2⟩
 refine cT (CK (iter:=iter) (pos:=pos) I3 hps hpN S T (T.keep 0 _ _ st2 λb _ o e=>ql4 _ e) f3 hc hg ht he (q _ fr)) λcenv s4 h4=>?_;refine qnc h4 λr s5 ⟨H5,hr,I5,⟨m,hn⟩,f5,q5⟩=>?_;subst hr;show wpAny _ X.A (assign (.Name y py) X.env (.ref s2.heap.objs.size)) _ _ _;refine wpAny_assign_Name (u9 I5 hN hy (.inl hl) (v:=.ref s2.heap.objs.size) rfl (λs6 I6 hsb=>?_) (.inr hl));obtain⟨a,sb,ha⟩:=hsb;have hne:cenv.locals≠a:=by
  rcases ha with z|z
  ·rw[z];exact f5.2.1
  ·exact λe=>f5.2.2.2.2.1 y a z e.symm
 refine⟨m,hn.sameBut sb hne,λh' hs'=>?_⟩;have I7:Inv X p_ (σ.set i (some (.ref s2.heap.objs.size))) H5 {s6 with heap:=h',toks:=s6.toks}:=I6.turned (it:=cenv.locals) (λb o hb e=>(hs'.2 b hb).trans e) f5.1 f5.2.1 f5.2.2.2.1 f5.2.2.2.2.1 f5.2.2.2.2.2;exact⟨_,H5,I7,q5⟩
end
section
variable {X:Cx}{p_:QAC}{σ:St}{H:Hp}{s:Shared}{h':Heap}
theorem Inv.BJ{t':Nat}{ch:List Addr}(I:Inv X p_ σ H s)(k:∀b o,b∉ch->s.heap.get? b=some o->h'.get? b=some o)(hf:∀b∈ch,vK X p_ H b):Inv X p_ σ H {s with heap:=h',toks:=t'}:=by
 refine I.step (g':=s.gens) (d':=s.drawn) (ch:=ch) (λb hb=>⟨(hf b hb).2.2.2.1,(hf b hb).2.1,(hf b hb).2.2.2.2.1,(hf b hb).2.2.2.2.2⟩) (λb o _ _ hc e _=>k b o hc e) (λb o _ _ hc e _=>⟨o.slots,k b o hc e⟩) (λ_ _ _ _ n=>n)
  (λb o hc e=>⟨o,k b o hc e⟩) (λ_ _ e=>e) (λ_ _ _ e=>e) (λb ps e=>⟨#[],by rw[e];simp⟩) (λm hm=>?_) (λb u e=>?_) I.bare
 ·obtain⟨o,es,ep,ho,r⟩:=hm;exact⟨o,es,ep,k _ o (λz=>(hf _ z).2.1 rfl) ho,r⟩
 ·refine(I.hok b u e).stay (λc v hc q=>k c v (λz=>?_) q) (λ_ q=>q) λ_ _ q=>q;have hn:=(hf c z).1
  rcases hc with y|y
  ·rw[y,e] at hn;cases hn
  ·rw[y] at hn;cases hn
end
def Its(x:Str):It:=⟨λi _=>i<x.cps.size,λi H v H'=>H'=H/\∃c,x.cps[i]? = some c/\v = .str ⟨#[c]⟩,λi _=>x.cps.size<=i⟩
theorem Y6{P:Program}{w:World}{K:W.Frag}{tg:Expr}(x:Str)(t:Tok)(it:Addr):Turn P w K tg (Its x) [it] it (λi h=>h.IsStrIter it (strIterType x) x t i) where
 mem:=by simp
 obj:=λi h st b hb=>by
  have e:b=it:=by simpa using hb
  subst e;obtain⟨o,e,c,d⟩:=st;exact⟨o,e,λv z=>by rw[d] at z;cases z⟩
 keep:=λi h h' st k=>by
  obtain⟨o,e,c,d⟩:=st;exact⟨o,k it (by simp) o e,c,d⟩
 item:=by
  intro X hP hw hK hc i p_ s σ H E I hf st hg;subst hP hw hK;obtain⟨f0,f1,f2,f3,f4,f5⟩:=hf it (by simp);have hx:x.cps[i]? = some (x.cps[i]'hg):=Array.getElem?_eq_getElem hg;have fin:∀h',h'.IsStrIter it (strIterType x) x t (i+1)->Heap.SameBut it s.heap h'->∃u,(some (Value.str ⟨#[x.cps[i]'hg]⟩ s.toks))=some u/\
    wpAny (model X.prog X.w) X.A (letOwnedTupleGo tg (.ref it) u) (λ_ s2=>∃y H',Inv X p_ σ H' s2/\RelV y u/\(Its x).yld i H y H'/\s2.heap.IsStrIter it (strIterType x) x t (i+1)/\∀b∈[it],H' b=none) E {s with heap:=h',toks:=s.toks+1}:=λh' st' sb=>by
   have I1:Inv X p_ σ H {s with heap:=h',toks:=s.toks+1}:=I.turned (λb o hb e=>(sb.2 b hb).trans e) f0 f1 f3 f4 f5;refine⟨_,rfl,?_⟩;have res:∃y H',Inv X p_ σ H' {s with heap:=h',toks:=s.toks+1}/\RelV y (Value.str ⟨#[x.cps[i]'hg]⟩ s.toks)/\(Its x).yld i H y H'/\h'.IsStrIter it (strIterType x) x t (i+1)/\∀b∈[it],H' b=none:=
    ⟨.str ⟨#[x.cps[i]'hg]⟩,H,I1,⟨_,rfl⟩,⟨rfl,_,hx,rfl⟩,st',λb hb=>(hf b hb).1⟩
   unfold letOwnedTupleGo;cases tg <;> exact qmb res
  by_cases ha:x.cps.all (· < 128)=true
  ·have ey:strIterType x = "str_ascii_iterator" :=by unfold strIterType;rw[if_pos ha]
   rw[ey] at st;exact wpAny_pyNext_ascii_item st hx λh' st' sb=>fin h' (by rw[ey];exact st') sb
  ·have ey:strIterType x = "str_iterator" :=by unfold strIterType;rw[if_neg ha]
   rw[ey] at st;exact wpAny_pyNext_wide_item st hx λh' st' sb=>fin h' (by rw[ey];exact st') sb
 done:=by
  intro X hP hw hK hc i p_ s σ H E I hf st hg;subst hP hw hK;obtain⟨f0,f1,f2,f3,f4,f5⟩:=hf it (by simp);have hx:x.cps[i]? = none:=Array.getElem?_eq_none hg
  by_cases ha:x.cps.all (· < 128)=true
  ·have ey:strIterType x = "str_ascii_iterator" :=by unfold strIterType;rw[if_pos ha]
   rw[ey] at st;exact wpAny_pyNext_ascii_end (I.ok.hd hc) st hx λh' eb=>⟨rfl,I.turned (t':=s.toks) (λb o hb e=>eb b o hb e) f0 f1 f3 f4 f5⟩
  ·have ey:strIterType x = "str_iterator" :=by unfold strIterType;rw[if_neg ha]
   rw[ey] at st;exact wpAny_pyNext_wide_end (I.ok.hd hc) st hx λh' eb=>⟨rfl,I.turned (t':=s.toks) (λb o hb e=>eb b o hb e) f0 f1 f3 f4 f5⟩
 self:=λA i s Q E st h=>by
  by_cases ha:x.cps.all (· < 128)=true
  ·have ey:strIterType x = "str_ascii_iterator" :=by unfold strIterType;rw[if_pos ha]
   rw[ey] at st;exact wpAny_pyIter_striter_ascii st h
  ·have ey:strIterType x = "str_iterator" :=by unfold strIterType;rw[if_neg ha]
   rw[ey] at st;exact wpAny_pyIter_striter_wide st h
section
variable {X:Cx}{tg:Expr}
def qew(tl:TE):TI:=λσ H R=>tl σ H λx H1=>∃z,x = .str z/\R (Its z) H1
theorem qex{l:Expr}{tl:TE}(hl:PE X l tl):PI X tg l (qew tl):=by
 intro p_ s σ H R I h;refine cT (hl p_ s σ H _ I h) λv s1 zz=>?_;obtain⟨x,H1,I1,r1,q1⟩:=zz;obtain⟨z,e,q⟩:=q1;subst e;obtain⟨t,rfl⟩:=r1;refine wpAny_pyIter_strU ?_;refine⟨s1.heap.objs.size,[s1.heap.objs.size],_,_,H1,rfl,I1.kept (t':=s1.toks) λb o e=>ql4 _ e,Y6 z t _,⟨_,qmc _ rfl,rfl,rfl⟩,λb hb=>?_,q⟩;have e:b=s1.heap.objs.size:=by simpa using hb
 subst e;exact I1.Gh (ql7 _) (I1.hok.fresh (ql7 _))
end
def Itz(K:W.Frag)(a b:Addr):It:=
 ⟨λi H=>∃xs ys x y,aW K H a xs/\aW K H b ys/\xs[i]? = some x/\ys[i]? = some y,
  λi H v H'=>∃t x y,v = .ref t/\H t=none/\H'=upd H t (.tup [x,y])/\(∀xs,aW K H a xs->xs[i]? = some x)/\∀ys,aW K H b ys->ys[i]? = some y,
  λi H=>∃xs ys,aW K H a xs/\aW K H b ys/\(xs.length<=i\/ys.length<=i)⟩
structure qgy(z TI TO i1 i2 a b:Addr)(i:Nat)(h:Heap):Prop where
 hz:IsZip h z TI TO .none
 hI:IsPair h TI (.ref i1) (.ref i2)
 hO:∃p q,IsPair h TO p q
 h1:h.IsListIter i1 a i
 h2:h.IsListIter i2 b i
theorem cV{h:Heap}{a b:Addr}{o u:Obj}{T U:String}(ha:h.get? a=some o)(hb:h.get? b=some u)(ca:o.cls = .type T)(cb:u.cls = .type U)(hne:T≠U):a≠b:=λe=>by
 subst e;rw[ha] at hb;cases hb;rw[ca] at cb;injection cb with e2;exact hne e2
theorem Y7{P:Program}{w:World}{K:W.Frag}{es:List Expr}{k:Nat}{pos:Pos}{z TI TO i1 i2 a b:Addr}(n12:i1≠i2)(nT:TI≠TO) :
  Turn P w K (.Tuple es k pos) (Itz K a b) [z,TI,TO,i1,i2] z (qgy z TI TO i1 i2 a b) where
 mem:=by simp
 obj:=λi h st c hc=>by
  simp only[qmd,qmF,qnz] at hc
  rcases hc with rfl|rfl|rfl|rfl|rfl
  ·exact⟨_,st.hz,λv e=>nomatch e⟩
  ·exact⟨_,st.hI,λv e=>nomatch e⟩
  ·obtain⟨p,q,e⟩:=st.hO;exact⟨_,e,λv e=>nomatch e⟩
  ·obtain⟨o,e,_,d⟩:=st.h1;exact⟨o,e,λv y=>by rw[d] at y;cases y⟩
  ·obtain⟨o,e,_,d⟩:=st.h2;exact⟨o,e,λv y=>by rw[d] at y;cases y⟩
 keep:=λi h h' st kk=>by
  obtain⟨p,q,e⟩:=st.hO;exact⟨kk z (by simp) _ st.hz,kk TI (by simp) _ st.hI,⟨p,q,kk TO (by simp) _ e⟩,st.h1.at λo e=>kk i1 (by simp) o e,st.h2.at λo e=>kk i2 (by simp) o e⟩
 item:=by
  intro X hP hw hK hc i p_ s σ H E I hf st hg;subst hP hw hK;obtain⟨xs,ys,x,y,qa,qb,hx,hy⟩:=hg;obtain⟨its,rv,pl,hz1⟩:=I.list qa;obtain⟨its',rv',pl',hz2⟩:=I.list qb;obtain⟨u,hu,ru⟩:=rv.get hx;obtain⟨u',hu',ru'⟩:=rv'.get hy;obtain⟨p,q,hTO⟩:=st.hO;obtain⟨oa,ea,ca,_⟩:=id pl.isList;obtain⟨ob,eb,cb,_⟩:=id pl'.isList;obtain⟨o1,e1,c1,_⟩:=id st.h1;obtain⟨o2,e2,c2,_⟩:=id st.h2;have D:ZipApart z TI TO i1 i2 a b:=
   ⟨cV st.hI st.hz rfl rfl (by decide),cV hTO st.hz rfl rfl (by decide),cV e1 st.hz c1 rfl (by decide),cV e2 st.hz c2 rfl (by decide),nT,cV st.hI e1 rfl c1 (by decide),cV st.hI e2 rfl c2 (by decide),
    cV hTO e1 rfl c1 (by decide),cV hTO e2 rfl c2 (by decide),n12,cV ea st.hz ca rfl (by decide),cV ea hTO ca rfl (by decide),cV ea e1 ca c1 (by decide),cV ea e2 ca c2 (by decide),
    cV eb st.hz cb rfl (by decide),cV eb hTO cb rfl (by decide),cV eb e1 cb c1 (by decide),cV eb e2 cb c2 (by decide)⟩
  refine wpAny_pyNext_zip_item D st.hz st.hI hTO st.h1 st.h2 pl.isList pl'.isList (x:=u) (y:=u') (by simpa using hu) (by simpa using hu') λh' a1 a2 a3 a4 a5 a6 kk=>?_;refine⟨_,rfl,wpAny_letOwnedTupleGo_zip a1 λh2 b1 sb=>?_⟩;have lt:∀{c o},s.heap.get? c=some o->s.heap.objs.size≠c:=λe=>qns (ql8 e);have hn:H s.heap.objs.size=none:=I.hok.fresh (ql7 _);have kk2:∀c o,c∉[z,TI,TO,i1,i2]->s.heap.get? c=some o->h2.get? c=some o:=λc o hc e=>by
   simp only[qmd,qmF,qnz,not_or] at hc;exact(sb.2 c hc.1).trans (kk c o hc.1 hc.2.2.1 hc.2.2.2.1 hc.2.2.2.2 e)
  have I1:Inv X p_ σ H {s with heap:=h2,toks:=s.toks}:=I.BJ kk2 hf;have MJ:IsPair h2 s.heap.objs.size u u':=sb.extBut _ _ (lt st.hz) a5;have I2:Inv X p_ σ (upd H s.heap.objs.size (.tup [x,y])) {s with heap:=h2,toks:=s.toks}:=by
   have hfr:H s.heap.objs.size=none:=hn;refine⟨I1.ok,I1.os,I1.bare,⟨I1.base.keep,I1.base.slot,λc o e n hx=>?_,I1.base.there,λc zs e=>?_,λc o v e=>?_,λc qs e=>?_⟩,I1.loc,I1.cell,?_,λv c e=>?_,λv hv=>?_,?_,I1.len⟩
   ·rw[aD (λe'=>?_)]
    ·exact I1.base.free c o e n hx
    ·exact absurd (qmf (ql8 e) I.sz) (by rw[e'];exact qm5 _)
   ·have e':=I1.base.tups c zs e;rw[aD (aN e' hfr)];exact e'
   ·have e':=I1.base.tM c o v e;rw[aD (aN e' hfr)];exact e'
   ·obtain⟨m,e'⟩:=I1.base.tO c qs e;exact⟨m,by rw[aD (aN e' hfr)];exact e'⟩
   ·rw[aD (qmg I.lt)];exact I1.free
   ·obtain⟨w',qc⟩:=I.cell v c e;rw[aD (qmg qc.lt)];exact I1.iW v c e
   ·obtain⟨f1,f2,f3⟩:=I1.pin v hv;refine⟨f1,?_,f3⟩;rw[aD (qmg (ql8 (I.pin v hv).1))];exact f2
   ·intro c v e
    by_cases hcs:c=s.heap.objs.size
    ·subst hcs;rw[ak] at e;cases e;exact⟨by show 2<=sizeLine;rw[qoc];decide,[u,u'],.cons ru (.cons ru' .nil),⟨_,MJ,rfl,0,rfl⟩⟩
    ·rw[aD hcs] at e;refine(I1.hok c v e).stay (λ_ _ _ qq=>qq) (λd qd=>?_) λd zs qd=>?_
     ·rw[aD (aN qd hfr)];exact qd
     ·rw[aD (aN qd hfr)];exact qd
  refine⟨.ref s.heap.objs.size,_,I2,rfl,⟨s.heap.objs.size,x,y,rfl,hn,rfl,λxs' q'=>by rw[I.xU q' qa];exact hx,λys' q'=>by rw[I.xU q' qb];exact hy⟩,?_,λc hcm=>?_⟩
  ·exact⟨b1,sb.extBut _ _ D.TIz (kk _ _ D.TIz D.TITO D.TIi1 D.TIi2 st.hI),⟨_,_,sb.extBut _ _ D.TOz a2⟩,a3.extBut sb.extBut D.i1z,a4.extBut sb.extBut D.i2z⟩
  ·have hne:c≠s.heap.objs.size:=by
    simp only[qmd,qmF,qnz] at hcm
    rcases hcm with rfl|rfl|rfl|rfl|rfl
    ·exact(lt st.hz).symm
    ·exact(lt st.hI).symm
    ·exact(lt hTO).symm
    ·exact(lt e1).symm
    ·exact(lt e2).symm
   rw[aD hne];exact(hf c hcm).1
 done:=by
  intro X hP hw hK hc i p_ s σ H E I hf st hg;subst hP hw hK;obtain⟨xs,ys,qa,qb,hl⟩:=hg;obtain⟨its,rv,pl,hz1⟩:=I.list qa;obtain⟨its',rv',pl',hz2⟩:=I.list qb;obtain⟨p,q,hTO⟩:=st.hO;obtain⟨oa,ea,ca,_⟩:=id pl.isList;obtain⟨ob,eb,cb,_⟩:=id pl'.isList;obtain⟨o1,e1,c1,_⟩:=id st.h1;obtain⟨o2,e2,c2,_⟩:=id st.h2;have D:ZipApart z TI TO i1 i2 a b:=
   ⟨cV st.hI st.hz rfl rfl (by decide),cV hTO st.hz rfl rfl (by decide),cV e1 st.hz c1 rfl (by decide),cV e2 st.hz c2 rfl (by decide),nT,cV st.hI e1 rfl c1 (by decide),cV st.hI e2 rfl c2 (by decide),
    cV hTO e1 rfl c1 (by decide),cV hTO e2 rfl c2 (by decide),n12,cV ea st.hz ca rfl (by decide),cV ea hTO ca rfl (by decide),cV ea e1 ca c1 (by decide),cV ea e2 ca c2 (by decide),
    cV eb st.hz cb rfl (by decide),cV eb hTO cb rfl (by decide),cV eb e1 cb c1 (by decide),cV eb e2 cb c2 (by decide)⟩
  have l1:=rv.length;have l2:=rv'.length;refine wpAny_pyNext_zip_end (I.ok.hd hc) D st.hz st.hI hTO st.h1 st.h2 pl.isList pl'.isList ?_ λh' kk=>⟨rfl,I.BJ (t':=s.toks) (λc o hcm e=>?_) hf⟩
  ·rcases hl with hl|hl
   ·exact .inl (by simp;omega)
   ·exact .inr (by simp;omega)
  ·simp only[qmd,qmF,qnz,not_or] at hcm;exact kk c o hcm.1 hcm.2.2.1 hcm.2.2.2.1 hcm.2.2.2.2 e
 self:=λ_ _ _ _ _ st h=>wpAny_pyIter_zip st.hz h
section
variable {X:Cx}
def qbX(K:W.Frag)(t:TA):TI:=λσ H R=>t σ H λvs H1=>∃a b xs ys,vs=[.ref a,.ref b]/\aW K H1 a xs/\aW K H1 b ys/\R (Itz K a b) H1
theorem boot_zip:bootBuiltins "zip" = some (.type "zip"):=by decide+kernel
theorem qey{es:List Expr}{k:Nat}{pos':Pos}{a b:Expr}{ta:TA}{p pos:Pos} (hg:Gl X "zip") (hm:X.mg "zip" = none) (ha:PA X [a,b] ta)
  (hs:starEach [a,b] X.env=[(false,eval a X.env),(false,eval b X.env)]:=by rfl) (hs2:starEach [b] X.env=[(false,eval b X.env)]:=by rfl) :
  PI X (.Tuple es k pos') (.Call (.Name "zip" p) [a,b] [] pos) (qbX X.K ta):=by
 intro p_ s σ H R I h;refine Call_ (qj I hg hm boot_zip (qm2 (cT (ha pos p_ s σ H _ I h) λus s1 zz=>?_) (by rw[hs,hs2]) (by rw[hs2];rfl)));obtain⟨vs,H1,I1,r1,q1⟩:=zz;obtain⟨l1,l2,xs,ys,e,qa,qb,q⟩:=q1;subst e;obtain⟨u,v,rfl,r,r'⟩:=r1.two;obtain rfl:u=Value.ref l1:=r;obtain rfl:v=Value.ref l2:=r';obtain⟨its,rv,pl,hz1⟩:=I1.list qa;obtain⟨its',rv',pl',hz2⟩:=I1.list qb;refine call_zip_2 pl.isList pl'.isList λh' b1 b2 b3 b4 b5 b6 kk=>?_;refine wpAny_pyIter_zip (s:={s1 with heap:=h'}) b1 ?_;have I2:Inv X p_ σ H1 {s1 with heap:=h'}:=I1.kept (t':=s1.toks) kk;refine⟨s1.heap.objs.size+4,[s1.heap.objs.size+4,s1.heap.objs.size+2,s1.heap.objs.size+3,s1.heap.objs.size,s1.heap.objs.size+1],_,_,H1,rfl,I2,Y7 (qmg (qmS _)) (qmg (qmS (s1.heap.objs.size+2))),⟨b1,b2,⟨_,_,b3⟩,b4,b5⟩,λc hc=>?_,q⟩;have hle:s1.heap.objs.size<=c:=by
  simp only[qmd,qmF,qnz] at hc
  rcases hc with rfl|rfl|rfl|rfl|rfl <;> first|exact Nat.le_add_right _ _|exact ql7 _
 exact I1.Gh hle (I1.hok.fresh hle)
end
section
variable {X:Cx}{p_:QAC}{σ:St}{H:Hp}{s:Shared}
theorem mL.kit{x:V}{u t:Value}(I:Inv X p_ σ H s)(rx:RelV x u)(ty:mL X.K H x t):∃Φ,W.KitX X.K u t Φ/\Φ s.heap/\u≠.builtin "__main__.__loader__#opaque" :=by
 cases ty with
 |non=>cases (show u=Value.none from rx);exact⟨_,W.kitx_none,True.intro,λz=>nomatch z⟩
 |bl y=>cases (show u=Value.bool y from rx);exact⟨_,W.kitx_bool,True.intro,λz=>nomatch z⟩
 |int i=>obtain⟨t,q⟩:=(show ∃t,u=Value.int i t from rx);cases q;exact⟨_,W.kitx_int,True.intro,λz=>nomatch z⟩
 |str y=>obtain⟨t,q⟩:=(show ∃t,u=Value.str y t from rx);cases q;exact⟨_,W.kitx_str,True.intro,λz=>nomatch z⟩
 |flt y=>obtain⟨t,q⟩:=(show ∃t,u=Value.float y t from rx);cases q;exact⟨_,W.kitx_float,True.intro,λz=>nomatch z⟩
 | @lst a xs ea=>
  cases (show u=Value.ref a from rx);obtain⟨_,_,n,_,h1⟩:=(show cD X.prog X.w H s.heap a (.lst xs) from I.hok a _ ea);exact⟨_,W.kitx_list,⟨_,h1,rfl⟩,λz=>nomatch z⟩
 | @Mg a ob xs ea=>
  cases (show u=Value.ref a from rx);obtain⟨_,_,_,n,_,h1⟩:=(show cD X.prog X.w H s.heap a (.Mg ob (.lst xs)) from I.hok a _ ea);exact⟨_,W.kitx_list,⟨_,h1,rfl⟩,λz=>nomatch z⟩
 | @tup a xs ea=>
  cases (show u=Value.ref a from rx);obtain⟨_,_,_,p⟩:=(show cD X.prog X.w H s.heap a (.tup xs) from I.hok a _ ea);obtain⟨o,h1,h2,_⟩:=p;exact⟨_,W.kitx_tuple,⟨o,h1,h2⟩,λz=>nomatch z⟩
 | @dK a kvs ea=>
  cases (show u=Value.ref a from rx);obtain⟨_,_,vs,_,p⟩:=(show cD X.prog X.w H s.heap a (.dK kvs) from I.hok a _ ea);obtain⟨o,es,ep,h1,h2,_⟩:=p;exact⟨_,W.kitx_dict,⟨o,h1,h2.1⟩,λz=>nomatch z⟩
 | @dT a kvs ea=>
  cases (show u=Value.ref a from rx);obtain⟨_,_,xs,_,o,es,ep,h1,h2,_⟩:=(show cD X.prog X.w H s.heap a (.dT kvs) from I.hok a _ ea);exact⟨_,W.kitx_dict,⟨o,h1,h2.1⟩,λz=>nomatch z⟩
 | @ins a C dx fs ea cl ha hn htk hm=>
  cases (show u=Value.ref a from rx);obtain⟨mA,O,_⟩:=xW I.hok ea;obtain⟨od,J,_⟩:=O.look;exact⟨_,W.kitx_own (cl.get _) cl.hd ha hn htk hm,J,λz=>nomatch z⟩
theorem V5:cg X (.builtin "isinstance") (λxs H Q=>∃x n t b,xs=[x,.ty n]/\mL X.K H x t/\W.kitOne X.K t (.type n)=some b/\Q (.bl b) H):=by
 intro p_ s σ H xs us Q I r h;obtain⟨x,n,t,b,rfl,ty,e,q⟩:=h;obtain⟨u,v,rfl,rx,rc⟩:=r.two;obtain rfl:v=Value.type n:=rc;exact VP I rx ty e λtk=>⟨.bl b,H,I.tok tk,rfl,q⟩
theorem V6:cg X (.builtin "isinstance") (λxs H Q=>∃x p m n t b,xs=[x,.ref p]/\H p=some (.tup [.ty m,.ty n])/\mL X.K H x t/\W.kitAny X.K t [.type m,.type n]=some b/\Q (.bl b) H):=by
 intro p_ s σ H xs us Q I r h;obtain⟨x,p,m,n,t,b,rfl,hp,ty,e,q⟩:=h;obtain⟨u,v,rfl,rx,rc⟩:=r.two;obtain rfl:v=Value.ref p:=rc;obtain⟨Φ,Z,hΦ,hne⟩:=ty.kit I rx;obtain⟨_,its,rv,o,e1,e2,k,e3⟩:=(show cD X.prog X.w H s.heap p (.tup [.ty m,.ty n]) from I.hok p _ hp);obtain⟨u1,u2,rfl,r1,r2⟩:=rv.two;obtain rfl:u1=Value.type m:=r1;obtain rfl:u2=Value.type n:=r2;obtain⟨c,dd,dt,sl⟩:=o;replace e2:c = .type "tuple" :=e2;replace e3:dt = .seq [Value.type m,Value.type n].toArray k:=e3;subst e2 e3;exact W.kia_tup Z I.oU hΦ e1 e hne λtk=>⟨.bl b,H,I.tok tk,rfl,q⟩
theorem boot_isinstance:bootBuiltins "isinstance" = some (.builtin "isinstance"):=by decide+kernel
theorem boot_str:bootBuiltins "str" = some (.type "str"):=by decide+kernel
theorem boot_list:bootBuiltins "list" = some (.type "list"):=by decide+kernel
theorem boot_tuple:bootBuiltins "tuple" = some (.type "tuple"):=by decide+kernel
theorem Hj:bootBuiltins "int" = some (.type "int"):=by decide+kernel
theorem QW:bootBuiltins "bool" = some (.type "bool"):=by decide+kernel
theorem QX:bootBuiltins "dict" = some (.type "dict"):=by decide+kernel
theorem V7:bootBuiltins "set" = some (.type "set"):=by decide+kernel
end
mutual
def Is(K:W.Frag)(H:Hp):PyData->V->Prop
 |.none,v=>v = .non
 |.bool b,v=>v = .bl b
 |.int i,v=>v = .int i
 |.str x,v=>v = .str x
 |.list ds,v=>∃a xs,v = .ref a/\aW K H a xs/\uh K H ds xs
 |.tuple ds,v=>∃a xs,v = .ref a/\eG K H a xs/\uh K H ds xs
 |.dict _,_=>False
def uh(K:W.Frag)(H:Hp):List PyData->List V->Prop
 |[],vs=>vs=[]
 |d::ds,vs=>∃v r,vs=v::r/\Is K H d v/\uh K H ds r
end
section
variable {X:Cx}{p_:QAC}{σ:St}{H:Hp}{s:Shared}
mutual
theorem Is.reads(I:Inv X p_ σ H s):∀(d:PyData)(v:V)(u:Value),Is X.K H d v->RelV v u->∃as,Reads s.heap u d as
 |.none,v,u,h,r=>by
  simp only[Is] at h;subst h;cases r;exact⟨_,.none⟩
 |.bool b,v,u,h,r=>by
  simp only[Is] at h;subst h;cases r;exact⟨_,.bool b⟩
 |.int i,v,u,h,r=>by
  simp only[Is] at h;subst h;obtain⟨t,rfl⟩:=r;exact⟨_,.int i t⟩
 |.str x,v,u,h,r=>by
  simp only[Is] at h;subst h;obtain⟨t,rfl⟩:=r;exact⟨_,.str x t⟩
 |.list ds,v,u,h,r=>by
  simp only[Is] at h;obtain⟨a,xs,rfl,hq,hs⟩:=h;cases r;obtain⟨its,rv,pl,hz⟩:=I.list hq;obtain⟨o,e,c,n,dt⟩:=pl.isList;obtain⟨as,ra⟩:=uh.reads I ds xs its hs rv;exact⟨_,.list e c dt (by simpa using ra)⟩
 |.tuple ds,v,u,h,r=>by
  simp only[Is] at h;obtain⟨a,xs,rfl,hq,hs⟩:=h;cases r;obtain⟨its,rv,pl,hz⟩:=I.tuple hq;obtain⟨o,e,c,n,dt⟩:=pl;obtain⟨as,ra⟩:=uh.reads I ds xs its hs rv;exact⟨_,.tuple e c dt (by simpa using ra)⟩
 |.dict _,v,u,h,r=>by
  simp only[Is] at h
theorem uh.reads(I:Inv X p_ σ H s):∀(ds:List PyData)(vs:List V)(us:QAE),uh X.K H ds vs->Vals vs us->∃as,ReadsAll s.heap us ds as
 |[],vs,us,h,r=>by
  simp only[uh] at h;subst h;cases r;exact⟨_,.nil⟩
 |d::ds,vs,us,h,r=>by
  simp only[uh] at h;obtain⟨v,vr,rfl,h1,h2⟩:=h;cases r with
  |cons r1 r2=>
   obtain⟨as,ra⟩:=Is.reads I d v _ h1 r1;obtain⟨bs,rb⟩:=uh.reads I ds vr _ h2 r2;exact⟨_,.cons ra rb⟩
end
theorem qez:iY X (compareOp .NotEq) (λx y H Q=>∃d e,Is X.K H d x/\Is X.K H e y/\d.canLay0=true/\e.canLay0=true/\X.A.units+min d.depth e.depth<cLine/\Q (.bl (!PyData.eqv d e)) H):=by
 intro p_ s σ H x y v u Q I rx ry h;obtain⟨d,e,hx,hy,h1,h2,hu,q⟩:=h;obtain⟨as,ra⟩:=hx.reads I d x v rx;obtain⟨bs,rb⟩:=hy.reads I e y u ry;exact SeqAt.compareNe_reads ra rb h1 h2 hu ⟨.bl _,H,I,rfl,q⟩
end
section
variable {X:Cx}
def Jy:V->List V->Hp->VK->Prop:=λx vs H Q=>∃l xs i y,x = .ref l/\vs=[.int i,y]/\H l=some (.lst xs)/\0<=i/\i<=xs.length/\xs.length<sizeLine/\Q .non (upd H l (.lst (xs.take i.toNat++y::xs.drop i.toNat)))
theorem Vals.ins{y:V}{u:Value}(ru:RelV y u):∀{xs:List V}{us:QAE}(i:Nat),Vals xs us->Vals (xs.take i++y::xs.drop i) (us.take i++u::us.drop i):=λi r=>(r.take i).append (.cons ru (r.drop i))
theorem V8:MtM X "list.insert" Jy:=by
 intro p_ s σ H x vs v us Q I rx rv h;obtain⟨l,xs,i,y,rfl,rfl,hH,h0,hi,hz,q⟩:=h;cases rx;obtain⟨u1,u,rfl,⟨t,rfl⟩,ru⟩:=rv.two;obtain⟨z,its,n,r,hl,e⟩:=I.QL hH;have hn:=wF;have hfit:¬(!Builtin.List.listFitsIndex i)=true:=by
  unfold Builtin.List.listFitsIndex;simp;omega
 refine call_meets F.slot_list_insert ⟨_,e,rfl⟩ F.entry_list_insert (F.args_list_insert_3 _ _ _) (PySem.AutoListH.list_insert_list_int_val_1 l its.toArray n i t u hfit (by rw[qmh];omega)) ⟨e,?_⟩;refine⟨.non,_,I.qgq (its':=its.take i.toNat++u::its.drop i.toNat) hH e ?_ (r.ins ru i.toNat) ?_,rfl,q⟩
 ·have hm:min i.toNat its.length=i.toNat:=by omega
  simp only[qmh];rw[if_neg (by omega),hm];apply Array.toList_inj.mp;simp;exact qng (by simp)
 ·simp;omega
end
section
variable {X:Cx}
def pq:List V->List Bool->Prop
 |[],bs=>bs=[]
 |x::xs,bs=>∃b r,bs=b::r/\x = .bl b/\pq xs r
theorem pq.get:∀{xs:List V}{bs:List Bool}{its:QAE},pq xs bs->Vals xs its->xs.length=bs.length/\∀(i:Nat)(v:Value),its[i]? = some v->v = .bool (bs.getD i false)
 |[],bs,its,h,r=>by
  cases h;cases r;exact⟨rfl,λi v e=>by simp at e⟩
 |x::xs,bs,its,h,r=>by
  obtain⟨b,br,rfl,rfl,h⟩:=h;cases r with
  |cons r1 r2=>
   obtain⟨h1,h2⟩:=pq.get h r2;refine⟨by simp[h1],λi v e=>?_⟩;cases i with
   |zero=>
    simp at e;subst e;exact r1
   |succ i=>
    simp at e;simpa using h2 i v e
theorem range_all(bs:List Bool):(List.range bs.length).all (λi=>bs.getD i false)=bs.all id:=by
 rw[qnx,qmn,qmn];constructor
 ·intro h b hb;obtain⟨i,hi,rfl⟩:=qos.mp hb;have:=h i (qm_.mpr hi);simpa [List.getD,hi] using this
 ·intro h i hi;have hi':=qm_.mp hi;have:=h bs[i] (List.getElem_mem hi');simpa [List.getD,hi'] using this
theorem V9(hc:X.calm=true):cg X (.builtin "all") (λxs H Q=>∃a ys bs,xs=[.ref a]/\H a=some (.lst ys)/\pq ys bs/\Q (.bl (bs.all id)) H):=by
 intro p_ s σ H xs us Q I r h;obtain⟨a,ys,bs,rfl,ha,hb,q⟩:=h;obtain⟨u,rfl,ru⟩:=r.one;obtain rfl:u=Value.ref a:=ru;obtain⟨z,its,n,rv,hl,e⟩:=I.QL ha;obtain⟨h1,h2⟩:=hb.get rv;have hL:s.heap.IsList a its.toArray:=⟨_,e,rfl,n,rfl⟩;refine call_all_walk ?_;refine qon hL ?_;have hne:a≠s.heap.objs.size:=qmg (ql8 e);have hL2:(s.heap.push {cls:=.type "list_iterator",data:=.fields #[.ref a,.int 0 0]}).IsList a its.toArray:=⟨_,ql4 _ e,rfl,n,rfl⟩;refine⟨s.heap.objs.size,_,_,_,_,_,λi=>bs.getD i false,rfl,Walks.list (by exact I.ok.hd hc) s.heap.objs.size a hne its.toArray,⟨⟨_,qmc _ rfl,rfl,rfl⟩,hL2⟩,λi v s' Q' E' hP hQ=>?_,λh' tk kk=>?_⟩
 ·obtain rfl:=h2 i v (by simpa using hP);exact qnb hQ
 ·have e2:(List.range its.toArray.size).all (λi=>bs.getD i false)=bs.all id:=by
   rw[qmh,<- hl,h1];exact range_all bs
  rw[e2];refine⟨.bl _,H,?_,rfl,q⟩;exact I.kept (h':=h') (t':=tk) λb o eb=>kk b o (by simp;exact qmg (ql8 eb)) (ql4 _ eb)
end
def Jz(l:List Key)(k:Key):Bool:=l.any λx=>decide (x=k)
theorem Y8{l:List Key}{k:Key}:Jz l k=true↔k∈l:=by
 unfold Jz;rw[qnB];constructor
 ·rintro⟨x,hx,e⟩;have e':=qmj e;subst e';exact hx
 ·intro h;exact⟨k,h,qm0 rfl⟩
theorem Y9(l:List Key)(x k:Key):Jz (l++[x]) k=(Jz l k || decide (k=x)):=by
 unfold Jz;rw[List.any_append];simp only[qn5,List.any_nil,Bool.or_false];congr 1;exact decide_eq_decide.mpr ⟨λe=>e.symm,λe=>e.symm⟩
def zB(acc:List Key)(k:Key):List Key:=if Jz acc k=true then acc else acc++[k]
def Gm(val:Nat->Key)(i:Nat):List Key:=((List.range i).map val).foldl zB []
theorem yc(val:Nat->Key)(i:Nat):Gm val (i+1)=zB (Gm val i) (val i):=by
 unfold Gm;rw[List.range_succ,qnl,List.foldl_append];rfl
theorem Y_(val:Nat->Key):∀i,(Gm val i).length<=i
 |0=>ql7 _
 |i+1=>by
  rw[yc];have ih:=Y_ val i;unfold zB;split
  ·omega
  ·rw[qmD,qol];omega
theorem Za(val:Nat->Key):∀n,(∀i j,i<n->j<n->val i=val j->i=j)->(Gm val n).length=n/\∀k,k∈Gm val n->∃i,i<n/\val i=k
 |0,_=>⟨rfl,λk h=>by simp[Gm] at h⟩
 |n+1,h=>by
  obtain⟨h1,h2⟩:=Za val n λi j hi hj=>h i j (by omega) (by omega);have hnot:¬Jz (Gm val n) (val n)=true:=λhm=>by
   obtain⟨i,hi,e⟩:=h2 _ (Y8.mp hm);have:=h i n (by omega) (by omega) e;omega
  rw[yc];unfold zB;rw[if_neg hnot];refine⟨by simp[h1],λk hk=>?_⟩
  rcases qmm.mp hk with z|z
  ·obtain⟨i,hi,e⟩:=h2 k z;exact⟨i,by omega,e⟩
  ·exact⟨n,by omega,(qmH.mp z).symm⟩
theorem qbY{k:Key}{v:Value}(h:tu k v=true):v.scannable=true:=by
 rcases dh h with⟨i,t,rfl,rfl⟩|⟨x,t,rfl,rfl⟩ <;> rfl
theorem MK{P:Program}{w:World}{h:Heap}{a:Addr}{S S':Key->Bool}{n n':Nat}(x:h.SetOf (bM P w) a S n)(e:∀k,S k=S' k)(en:n=n'):h.SetOf (bM P w) a S' n':=by
 have:S=S':=funext e;subst this;subst en;exact x
abbrev pA(P:Program)(w:World)(h:Heap)(a:Addr)(l:List Key):Prop:=h.SetOf (bM P w) a (Jz l) l.length
theorem pA.at{P:Program}{w:World}{h h':Heap}{a:Addr}{l:List Key}(x:pA P w h a l)(k:∀o,h.get? a=some o->h'.get? a=some o):pA P w h' a l:=by
 obtain⟨o,es,ep,t,e,r⟩:=x;exact⟨o,es,ep,t,k o e,r⟩
theorem Hl{P:Program}{w:World}{h:Heap}{a:Addr}{led:Bool} (e:h.get? a=some {cls:=.type "set",dict:=none,data:=.set #[] 0 (.fresh 0 0 led)}):pA P w h a []:=
 ⟨_,#[],0,.fresh 0 0 led,e,⟨rfl,rfl,rfl⟩,rfl,(λx hx=>by simp at hx),(λk=>by simp[Jz]),(by unfold scanBound;decide),(by cases led <;> rfl),rfl⟩
section
variable {P:Program}{w:World}{A:Around}{R:Result->Shared->Prop}{I:Addr}{fp wr:List Addr}{n:Nat}{PP:Nat->Value->Prop}{St:Nat->Heap->Prop}
theorem MN(oV:Walks P w A.in1 I fp wr n PP St)(S:Addr)(hSf:S∉fp)(val:Nat->Key)(hval:∀i v,PP i v->tu (val i) v=true)(hb:n+1<scanBound) :
  ∀(k i:Nat)(s:Shared),n - i=k->i<=n->St i s.heap->pA P w s.heap S (Gm val i)->
   (∀h' tk,(∀b o,b≠S->b∉wr->s.heap.get? b=some o->h'.get? b=some o)->pA P w h' S (Gm val n)->R (.ok (.ret .none)) {s with heap:=h',toks:=tk})->
   codeAny (model P w) A (.builtin "set.update.loop" ⟨[.ref S,.ref I],[]⟩) R s:=by
 have hSw:S∉wr:=λh=>hSf (oV.sub _ h);intro k
 induction k with
 |zero=>
  intro i s hk hi hst hS hR;obtain rfl:i=n:=by omega
  refine qnW PyProof.Rows.F.entry_set_update_loop ?_;rw[qot qnJ _];show wpAny _ A.in1 (pyNext (.ref I) >>= _) _ _ s;refine ql3 (oV.done s _ _ hst λh' tk hm=>?_);exact qmb (hR h' tk (λb o _ hb e=>hm b o hb e) (hS.at λo e=>hm S o hSw e))
 |succ k ih=>
  intro i s hk hi hst hS hR;have hlt:i<n:=by omega
  refine qnW PyProof.Rows.F.entry_set_update_loop ?_;rw[qot qnJ _];show wpAny _ A.in1 (pyNext (.ref I) >>= _) _ _ s;refine ql3 (oV.item i s _ _ hlt hst λv h' tk hP hst' hm=>?_);have hkey:(bM P w).is (val i) v=true:=hval i v hP;have hS':pA P w h' S (Gm val i):=hS.at λo e=>hm S o hSw e;show wpAny _ A.in1 (holding [v] (setAdd S v) >>= _) _ _ _;refine ql3 (qni ?_);unfold setAdd;refine qni (ql3 ((bM P w).pyHash (k:=val i) hkey ?_));have hroom:(Gm val i).length+1<scanBound:=by have:=Y_ val i;omega
  refine wpAny_setAddHashed_of (knd:=bM P w) (s:={s with heap:=h',toks:=tk+1}) hkey (qbY (hval i v hP)) hS' hroom λh2 hsb hS2=>?_;have hSi:pA P w h2 S (Gm val (i+1)):=by
   refine MK hS2 (λk'=>?_) ?_
   ·rw[yc];unfold zB;split
    ·rename_i hm1
     by_cases e:k'=val i
     ·rw[e,hm1];rfl
     ·rw[qmx e,Bool.or_false]
    ·exact(Y9 _ _ _).symm
   ·rw[yc];unfold zB;split
    ·rfl
    ·rw[qmD,qol]
  refine qmb ⟨plainId_quiet qnJ _,ih (i+1) _ (by omega) hlt (oV.frame _ h' _ hst' λb hb o e=>?_) hSi λh3 tk3 hm3 tX=>?_⟩
  ·exact(hsb.2 b (λz:b=S=>hSf (by rw[<- z];exact hb))).trans e
  ·refine hR h3 tk3 (λb o hbS hbw e=>hm3 b o hbS hbw ?_) tX;exact(hsb.2 b hbS).trans (hm b o hbw e)
end
theorem Gn:isSubtype (.type "list") (.type "set")=pure false:=by rw[isSubtype_type];kernel_rfl
theorem zE:isSubtype (.type "list") (.type "frozenset")=pure false:=by rw[isSubtype_type];kernel_rfl
set_option maxHeartbeats 4000000 in
theorem M4{P:Program}{w:World}{A:Around}{E:QAB}{s:Shared}{l:Addr}{its:Array Value}{val:Nat->Key}{Q:QAB}
  (hh:A.handled=none) (hl:s.heap.IsList l its) (hval:∀i v,its[i]? = some v->tu (val i) v=true) (hb:its.size+1<scanBound)
  (h:∀(g:Heap)(tk:Nat),pA P w g s.heap.objs.size (Gm val its.size)->(∀b o,s.heap.get? b=some o->g.get? b=some o)->Q (.ref s.heap.objs.size) {s with heap:=g,toks:=tk}) :
  wpAny (model P w) A (call (.type "set") [.ref l]) Q E s:=by
 obtain⟨c,tl,hmro⟩:=PySem.F.called_set.mro;have q1:=PySem.F.called_set.made;have q2:=PySem.F.called_set.sub;refine qn2 (codeAny_of_tree ?_);show wpAny _ _ (callAny (.type "set") _) _ _ s;refine qmb ⟨qoe _ (by decide+kernel),qnW PySem.F.entry_type_call ?_⟩;rw[Around.under_plain (weight_type_call_type "set" [.ref l] []) rfl];have q3:=PySem.F.called_set.notType;have q4:=PySem.F.called_set.canCreate;have q5:=PySem.F.typeCall_set_1 (.ref l)
 repeat (any_goals (first|assumption|wp_step))
 refine qnc (code_set_new_1 (.ref l) (E:=E) (Q₁:=λob s1=>∃led:Bool,ob = .ref s.heap.objs.size/\s1={s with heap:=s.heap.push {cls:=.type "set",dict:=none,data:=.set #[] 0 (.fresh 0 0 led)}}) λled=>⟨led,rfl,rfl⟩) λr s1 hr=>?_;cases r with
 |error e=>exact hr
 |ok fl=>
  cases fl with
  |ret ob=>
   obtain⟨led,rfl,rfl⟩:=hr;have new:(s.heap.push {cls:=.type "set",dict:=none,data:=.set #[] 0 (.fresh 0 0 led)}).get? s.heap.objs.size=some {cls:=.type "set",dict:=none,data:=.set #[] 0 (.fresh 0 0 led)}:=qmc _ rfl;have ty:Shared.TypeIs {s with heap:=s.heap.push {cls:=.type "set",dict:=none,data:=.set #[] 0 (.fresh 0 0 led)}} (.ref s.heap.objs.size) "set" :=⟨_,new,rfl⟩;have q6:=PySem.F.called_set.init.lookup;have q7:=PySem.F.called_set.init.bind (.ref s.heap.objs.size)
   repeat (any_goals (first|assumption|wp_step))
   refine qnc (qnE (R:=wants (λr s2=>r = .none/\∃g tk,s2={s with heap:=g,toks:=tk}/\pA P w g s.heap.objs.size (Gm val its.size)/\(∀b o,s.heap.get? b=some o->g.get? b=some o)) E)
    PySem.F.called_set.init.plain PySem.F.entry_set_init (check_set_init_1 ty ?_)) λr2 s2 hr2=>?_
   ·obtain⟨ol,ho,hcl,nl,hdl⟩:=hl;obtain⟨oc,od,odt,osl⟩:=ol;simp only at hcl hdl;subst hcl;subst hdl;have ho2:(s.heap.push {cls:=.type "set",dict:=none,data:=.set #[] 0 (.fresh 0 0 led)}).get? l=some {cls:=.type "list",dict:=od,data:=.seq its nl,slots:=osl}:=ql4 _ ho;have q8:=Gn;have q9:=zE;have q10:(Value.type "list" == Value.type "dict")=false:=by decide
    have hl1:(s.heap.push {cls:=.type "set",dict:=none,data:=.set #[] 0 (.fresh 0 0 led)}).IsList l its:=⟨_,ho2,rfl,nl,rfl⟩;unfold Builtin.«set.__init__» noKeywords Builtin.Frozenset.updateFrom;generalize hPI:pyIter=PI
    wp_walk
    subst hPI;refine qon hl1 ?_;refine ql3 (wpAny_runValue ?_);have lt1:l<s.heap.objs.size:=ql8 ho;have hh3:A.in1.in1.in1.handled=none:=by simp[hh]
    have ne1:l≠(s.heap.push {cls:=.type "set",dict:=none,data:=.set #[] 0 (.fresh 0 0 led)}).objs.size:=by
     rw[qmK];exact qmg (qm1 lt1)
    have nf:s.heap.objs.size∉[(s.heap.push {cls:=.type "set",dict:=none,data:=.set #[] 0 (.fresh 0 0 led)}).objs.size,l]:=by
     rw[qmK];simp only[qmd,qmH,qmF,qnz,not_or];exact⟨qmg (qmS _),qns lt1⟩
    refine MN (Walks.list hh3 _ l ne1 its) s.heap.objs.size nf val hval hb (its.size - 0) 0 _ (by omega) (qmP _) ⟨⟨_,qmc _ rfl,rfl,rfl⟩,hl1.push _⟩ ?hS0 ?hR
    case hS0=>
     have hget:((s.heap.push {cls:=.type "set",dict:=none,data:=.set #[] 0 (.fresh 0 0 led)}).push {cls:=.type "list_iterator",data:=.fields #[.ref l,.int 0 0]}).get? s.heap.objs.size
       = some {cls:=.type "set",dict:=none,data:=.set #[] 0 (.fresh 0 0 led)}:=ql4 _ new
     exact Hl hget
    case hR=>
     intro g tk hm hS;show wpAny _ _ _ _ _ _;refine qmb ?_;show wpAny _ _ (ret Value.none) _ _ _;refine qmb ⟨rfl,g,tk,rfl,hS,λb o e=>?_⟩;have lb:b<s.heap.objs.size:=ql8 e;refine hm b o (qmg lb) ?_ (ql4 _ (ql4 _ e));simp only[qmd,qmF,qnz];rw[qmK];exact qmg (qm1 lb)
   ·cases r2 with
    |error e=>exact hr2
    |ok fl2=>
     cases fl2 with
     |ret r=>
      obtain⟨rfl,g,tk,rfl,hS,hk⟩:=hr2
      repeat (any_goals (first|assumption|wp_step))
      exact h _ _ hS hk
     |_=>exact hr2.elim
  |_=>exact hr.elim
theorem CN:isSubtype (.type "tuple") (.type "set")=pure false:=by rw[isSubtype_type];kernel_rfl
theorem yd:isSubtype (.type "tuple") (.type "frozenset")=pure false:=by rw[isSubtype_type];kernel_rfl
set_option maxHeartbeats 4000000 in
theorem JB{P:Program}{w:World}{A:Around}{E:QAB}{s:Shared}{l:Addr}{its:Array Value}{val:Nat->Key}{Q:QAB}
  (hh:A.handled=none) (hl:s.heap.IsTuple l its) (hval:∀i v,its[i]? = some v->tu (val i) v=true) (hb:its.size+1<scanBound)
  (h:∀(g:Heap)(tk:Nat),pA P w g s.heap.objs.size (Gm val its.size)->(∀b o,s.heap.get? b=some o->g.get? b=some o)->Q (.ref s.heap.objs.size) {s with heap:=g,toks:=tk}) :
  wpAny (model P w) A (call (.type "set") [.ref l]) Q E s:=by
 obtain⟨c,tl,hmro⟩:=PySem.F.called_set.mro;have q1:=PySem.F.called_set.made;have q2:=PySem.F.called_set.sub;refine qn2 (codeAny_of_tree ?_);show wpAny _ _ (callAny (.type "set") _) _ _ s;refine qmb ⟨qoe _ (by decide+kernel),qnW PySem.F.entry_type_call ?_⟩;rw[Around.under_plain (weight_type_call_type "set" [.ref l] []) rfl];have q3:=PySem.F.called_set.notType;have q4:=PySem.F.called_set.canCreate;have q5:=PySem.F.typeCall_set_1 (.ref l)
 repeat (any_goals (first|assumption|wp_step))
 refine qnc (code_set_new_1 (.ref l) (E:=E) (Q₁:=λob s1=>∃led:Bool,ob = .ref s.heap.objs.size/\s1={s with heap:=s.heap.push {cls:=.type "set",dict:=none,data:=.set #[] 0 (.fresh 0 0 led)}}) λled=>⟨led,rfl,rfl⟩) λr s1 hr=>?_;cases r with
 |error e=>exact hr
 |ok fl=>
  cases fl with
  |ret ob=>
   obtain⟨led,rfl,rfl⟩:=hr;have new:(s.heap.push {cls:=.type "set",dict:=none,data:=.set #[] 0 (.fresh 0 0 led)}).get? s.heap.objs.size=some {cls:=.type "set",dict:=none,data:=.set #[] 0 (.fresh 0 0 led)}:=qmc _ rfl;have ty:Shared.TypeIs {s with heap:=s.heap.push {cls:=.type "set",dict:=none,data:=.set #[] 0 (.fresh 0 0 led)}} (.ref s.heap.objs.size) "set" :=⟨_,new,rfl⟩;have q6:=PySem.F.called_set.init.lookup;have q7:=PySem.F.called_set.init.bind (.ref s.heap.objs.size)
   repeat (any_goals (first|assumption|wp_step))
   refine qnc (qnE (R:=wants (λr s2=>r = .none/\∃g tk,s2={s with heap:=g,toks:=tk}/\pA P w g s.heap.objs.size (Gm val its.size)/\(∀b o,s.heap.get? b=some o->g.get? b=some o)) E)
    PySem.F.called_set.init.plain PySem.F.entry_set_init (check_set_init_1 ty ?_)) λr2 s2 hr2=>?_
   ·obtain⟨ol,ho,hcl,nl,hdl⟩:=hl;obtain⟨oc,od,odt,osl⟩:=ol;simp only at hcl hdl;subst hcl;subst hdl;have ho2:(s.heap.push {cls:=.type "set",dict:=none,data:=.set #[] 0 (.fresh 0 0 led)}).get? l=some {cls:=.type "tuple",dict:=od,data:=.seq its nl,slots:=osl}:=ql4 _ ho;have q8:=CN;have q9:=yd;have q10:(Value.type "tuple" == Value.type "dict")=false:=by decide
    have hl1:(s.heap.push {cls:=.type "set",dict:=none,data:=.set #[] 0 (.fresh 0 0 led)}).IsTuple l its:=⟨_,ho2,rfl,nl,rfl⟩;unfold Builtin.«set.__init__» noKeywords Builtin.Frozenset.updateFrom;generalize hPI:pyIter=PI
    wp_walk
    subst hPI;refine qof hl1 ?_;refine ql3 (wpAny_runValue ?_);have lt1:l<s.heap.objs.size:=ql8 ho;have hh3:A.in1.in1.in1.handled=none:=by simp[hh]
    have ne1:l≠(s.heap.push {cls:=.type "set",dict:=none,data:=.set #[] 0 (.fresh 0 0 led)}).objs.size:=by
     rw[qmK];exact qmg (qm1 lt1)
    have nf:s.heap.objs.size∉[(s.heap.push {cls:=.type "set",dict:=none,data:=.set #[] 0 (.fresh 0 0 led)}).objs.size,l]:=by
     rw[qmK];simp only[qmd,qmH,qmF,qnz,not_or];exact⟨qmg (qmS _),qns lt1⟩
    refine MN (Walks.tuple hh3 _ l ne1 its) s.heap.objs.size nf val hval hb (its.size - 0) 0 _ (by omega) (qmP _) ⟨⟨_,qmc _ rfl,rfl,rfl⟩,⟨_,ql4 _ ho2,rfl,nl,rfl⟩⟩ ?hS0 ?hR
    case hS0=>
     have hget:((s.heap.push {cls:=.type "set",dict:=none,data:=.set #[] 0 (.fresh 0 0 led)}).push {cls:=.type "tuple_iterator",data:=.fields #[.ref l,.int 0 0]}).get? s.heap.objs.size
       = some {cls:=.type "set",dict:=none,data:=.set #[] 0 (.fresh 0 0 led)}:=ql4 _ new
     exact Hl hget
    case hR=>
     intro g tk hm hS;show wpAny _ _ _ _ _ _;refine qmb ?_;show wpAny _ _ (ret Value.none) _ _ _;refine qmb ⟨rfl,g,tk,rfl,hS,λb o e=>?_⟩;have lb:b<s.heap.objs.size:=ql8 e;refine hm b o (qmg lb) ?_ (ql4 _ (ql4 _ e));simp only[qmd,qmF,qnz];rw[qmK];exact qmg (qm1 lb)
   ·cases r2 with
    |error e=>exact hr2
    |ok fl2=>
     cases fl2 with
     |ret r=>
      obtain⟨rfl,g,tk,rfl,hS,hk⟩:=hr2
      repeat (any_goals (first|assumption|wp_step))
      exact h _ _ hS hk
     |_=>exact hr2.elim
  |_=>exact hr.elim
def qbZ(P:Program)(w:World)(a:Addr)(l:List Key):HO:=.ext λh=>pA P w h a l
section
variable {X:Cx}
def keysOf:List V->List Key
 |[]=>[]
 |.int i::r=>.inl i::keysOf r
 |.str x::r=>.inr x::keysOf r
 |_::r=>keysOf r
def isKey:V->Bool
 |.int _=>true
 |.str _=>true
 |_=>false
theorem JC:∀{xs:List V}{its:QAE},xs.all isKey=true->Vals xs its->(keysOf xs).length=its.length/\∀(i:Nat)(v:Value),its[i]? = some v->tu ((keysOf xs).getD i (.inl 0)) v=true
 |[],_,_,.nil=>⟨rfl,λi v e=>by simp at e⟩
 |x::xs,u::us,h,.cons r1 r2=>by
  rw[List.all_cons,qnf] at h;obtain⟨h1,h2⟩:=JC h.2 r2;cases x with
  |int i=>
   obtain⟨t,rfl⟩:=r1;refine⟨by simp[keysOf,h1],λj v e=>?_⟩;cases j with
   |zero=>simp at e;subst e;exact G6 i t
   |succ j=>simp at e;simpa [keysOf] using h2 j v e
  |str z=>
   obtain⟨t,rfl⟩:=r1;refine⟨by simp[keysOf,h1],λj v e=>?_⟩;cases j with
   |zero=>simp at e;subst e;exact G7 z t
   |succ j=>simp at e;simpa [keysOf] using h2 j v e
  |_=>exact absurd (show false=true from h.1) qml
theorem V_(hc:X.calm=true):cg X (.type "set") (λxs H Q=>∃a ys,xs=[.ref a]/\(aW X.K H a ys\/eG X.K H a ys)/\ys.all isKey=true/\ys.length+1<scanBound/\
  ∀p,H p=none->Q (.ref p) (upd H p (qbZ X.prog X.w p (Gm (λi=>(keysOf ys).getD i (.inl 0)) ys.length)))):=by
 intro p_ s σ H xs us Q I r h;obtain⟨a,ys,rfl,hq,hk,hb,q⟩:=h;obtain⟨u,rfl,ru⟩:=r.one;obtain rfl:u=Value.ref a:=ru;have fin:∀(g:Heap)(tk:Nat),pA X.prog X.w g s.heap.objs.size (Gm (λi=>(keysOf ys).getD i (.inl 0)) ys.length)->(∀b o,s.heap.get? b=some o->g.get? b=some o)->EP X p_ σ Q (.ref s.heap.objs.size) {s with heap:=g,toks:=tk}:=λg tk hS kk=>by
  have hn:H s.heap.objs.size=none:=I.hok.fresh (ql7 _);refine⟨.ref s.heap.objs.size,_,I.laid (o:=qbZ X.prog X.w s.heap.objs.size (Gm (λi=>(keysOf ys).getD i (.inl 0)) ys.length)) (λb o e=>kk b o e) (ql7 _) ⟨hS,?_,λh1 h2 p k=>p.at k⟩,rfl,q _ hn⟩;obtain⟨o,_,_,_,e,_⟩:=hS;exact⟨o,e⟩
 rcases hq with hq|hq
 ·obtain⟨its,rv,pl,hz⟩:=I.list hq;obtain⟨h1,h2⟩:=JC hk rv;have hl:=rv.length;refine M4 (val:=λi=>(keysOf ys).getD i (.inl 0)) (I.ok.hd hc) pl.isList (λi v e=>h2 i v (by simpa using e)) (by rw[qmh];omega) λg tk hS kk=>fin g tk ?_ kk;have ez:its.toArray.size=ys.length:=by rw[qmh,hl]
  rw[ez] at hS;exact hS
 ·obtain⟨its,rv,pl,hz⟩:=I.tuple hq;obtain⟨h1,h2⟩:=JC hk rv;have hl:=rv.length;refine JB (val:=λi=>(keysOf ys).getD i (.inl 0)) (I.ok.hd hc) (show s.heap.IsTuple a its.toArray from pl) (λi v e=>h2 i v (by simpa using e)) (by rw[qmh];omega) λg tk hS kk=>fin g tk ?_ kk;have ez:its.toArray.size=ys.length:=by rw[qmh,hl]
  rw[ez] at hS;exact hS
theorem Wa:cg X (.builtin "len") (λxs H Q=>∃a l,xs=[.ref a]/\H a=some (qbZ X.prog X.w a l)/\Q (.int l.length) H):=by
 intro p_ s σ H xs us Q I r h;obtain⟨a,l,rfl,ha,q⟩:=h;obtain⟨u,rfl,ru⟩:=r.one;obtain rfl:u=Value.ref a:=ru;obtain⟨⟨o,es,ep,t,e,ex,hd,_,_,hsz,hf,hn⟩,_⟩:=(show cD X.prog X.w H s.heap a (qbZ X.prog X.w a l) from I.hok a _ ha);refine call_len_set e ex hd hf (by unfold scanBound at hsz;omega) ⟨.int l.length,H,I.tok _,⟨_,by rw[hn]⟩,q⟩
end
section
variable {X:Cx}
def qgz:R2:=λx y H Q=>∃i j,x = .str i/\y = .str j/\i.length+j.length<=sizeLine/\Q (.str (i++j)) H
def qjL:R2:=λx y H Q=>∃i j,x = .str i/\y = .str j/\Q (.bl (!(Builtin.Str.occurrences j i 0 j.length 1).isEmpty)) H
def qb0:R2:=λx y H Q=>∃i j,x = .str i/\y = .str j/\Q (.bl (!(!(Builtin.Str.occurrences j i 0 j.length 1).isEmpty))) H
def qb1(K:W.Frag):R2:=λx y H Q=>rIn K false x y H Q\/qjL x y H Q
def JD(K:W.Frag):R2:=λx y H Q=>rIn K true x y H Q\/qb0 x y H Q
theorem qeA:iY X (compareOp .In) (qb1 X.K):=V1.or VF
theorem Wb:iY X (compareOp .NotIn) (JD X.K):=Jr.or Js
def qeB(K:W.Frag):R2:=λx y H Q=>∃p xs i v,x = .ref p/\y = .int i/\(aW K H p xs\/eG K H p xs)/\Gi xs i=some v/\Q v H
theorem ixQ:Yb X (qeB X.K):=by
 intro value slice p_ s σ H x y v u Q I rx ry h hs;obtain⟨p,xs,i,z,e1,e2,hq|hq,e3,q⟩:=h
 ·exact qbT value slice p_ s σ H x y v u Q I rx ry ⟨p,xs,i,z,e1,e2,hq,e3,q⟩ hs
 ·exact qeo value slice p_ s σ H x y v u Q I rx ry ⟨p,xs,i,z,e1,e2,hq,e3,q⟩ hs
def qdf(K:W.Frag):List V->Hp->VK->Prop:=λxs H Q=>∃p ys,xs=[.ref p]/\(aW K H p ys\/eG K H p ys)/\Q (.int ys.length) H
def qdg:List V->Hp->VK->Prop:=λxs H Q=>∃z,xs=[.str z]/\z.length<=sizeLine/\Q (.int z.length) H
variable {K:W.Frag}
theorem qjM(hK:X.K=K):Yb X (qeB K):=by subst hK;exact ixQ
theorem inK(hK:X.K=K):iY X (compareOp .In) (qb1 K):=by subst hK;exact qeA
theorem qeC(hK:X.K=K):iY X (compareOp .NotIn) (JD K):=by subst hK;exact Wb
theorem qgA(hK:X.K=K):cg X (.builtin "len") (qdf K):=by subst hK;exact Jt
theorem qgB:cg X (.builtin "len") qdg:=Ju
def Uj(K:W.Frag):List V->Hp->VK->Prop:=λxs H Q=>∃p ys,xs=[.ref p]/\(aW K H p ys\/eG K H p ys)/\∀l,H l=none->Q (.ref l) (upd H l (.lst ys))
theorem qb2(hK:X.K=K):cg X (.type "list") (Uj K):=by subst hK;exact Jv
def qdh(K:W.Frag):List V->Hp->VK->Prop:=λxs H Q=>∃x n t b,xs=[x,.ty n]/\mL K H x t/\W.kitOne K t (.type n)=some b/\Q (.bl b) H
theorem qgC(hK:X.K=K):cg X (.builtin "isinstance") (qdh K):=by subst hK;exact V5
def qdi(K:W.Frag):List V->Hp->VK->Prop:=λxs H Q=>∃x p m n t b,xs=[x,.ref p]/\H p=some (.tup [.ty m,.ty n])/\mL K H x t/\W.kitAny K t [.type m,.type n]=some b/\Q (.bl b) H
theorem qgD(hK:X.K=K):cg X (.builtin "isinstance") (qdi K):=by subst hK;exact V6
theorem gV(hK:X.K=K){es:List Expr}{k:Nat}{pos:Pos}{t:L_}{n:Nat}(hc:X.calm=true)(h:lH X es t)
  (hn:(assignEach es X.env).length=n:=by rfl) (hst:(assignEach es X.env).findIdx? (·.1)=none:=by rfl):PG X (.Tuple es k pos) (qbK K n t):=by subst hK;exact qd7 hc h hn hst
theorem cJ(hK:X.K=K){tg l:Expr}{tl:TE}(hl:PE X l tl):PI X tg l (T9 K tl):=by subst hK;exact qbL hl
theorem JF(hK:X.K=K){e:Expr}{ta:TE}{f:Str}{pos:Pos}(he:PE X e ta)(hb:attributeBase e f X.env (eval e X.env)=eval e X.env):PE X (.Attribute e f pos) (qbR K ta f):=by subst hK;exact qek he hb
theorem kY(hK:X.K=K){o e:Expr}{es:List Expr}{to:TE}{t:TA}{name:Str}{apos cpos:Pos}{T id:String}{r:V->List V->Hp->VK->Prop}(pa:PlainAttrs T)(slot:Slot T name id) (hty:typeOf (.builtin id)=pure (.type "method_descriptor")) (hm:VR X id r) (ho:PE X o to) (ha:PA X (e::es) t)
  (hbase:attributeBase o name X.env (eval o X.env)=eval o X.env:=by rfl)
  (hfew:((backTo cpos (starEach (e::es) X.env)).all (λx=>!x.1) && (backToKw cpos (keywordEach [] X.env)).all (λx=>x.1.isSome)
   && decide ((e::es).length+([]:List Keyword).length+(if ([]:List Keyword).isEmpty then 0 else 1)<30))=true:=by rfl)
  (hline:(apos.endLine == cpos.line)=true:=by rfl) (hs:starEach (e::es) X.env=(false,eval e X.env)::starEach es X.env:=by rfl) (hplain:(backTo cpos (starEach es X.env)).any (·.1)=false:=by rfl) :
  PE X (.Call (.Attribute o name apos) (e::es) [] cpos) (tBM K T r to t):=by subst hK;exact qgp pa slot hty hm ho ha hbase hfew hline hs hplain
theorem kZ:bootBuiltins "all" = some (.builtin "all"):=by decide+kernel
theorem Ho:bootBuiltins "any" = some (.builtin "any"):=by decide+kernel
theorem boot_max:bootBuiltins "max" = some (.builtin "max"):=by decide+kernel
theorem boot_min:bootBuiltins "min" = some (.builtin "min"):=by decide+kernel
theorem boot_abs:bootBuiltins "abs" = some (.builtin "abs"):=by decide+kernel
theorem boot_divmod:bootBuiltins "divmod" = some (.builtin "divmod"):=by decide+kernel
end
structure Nm(mg:Str->Option Value):Prop where
 len:mg "len" = none
 max:mg "max" = none
 min:mg "min" = none
 abs:mg "abs" = none
 divmod:mg "divmod" = none
 range:mg "range" = none
 zip:mg "zip" = none
 list:mg "list" = none
 tuple:mg "tuple" = none
 int:mg "int" = none
 str:mg "str" = none
 set:mg "set" = none
 all:mg "all" = none
 isinstance:mg "isinstance" = none
section
variable {K:W.Frag}{own:QAH}{caps:List Nat}{g:TG}{tt:TT}{te:TE}{D:Addr}{σ:St}{H:Hp}{Q:Hp->Prop}
abbrev Hq(g:TG)(tt:TT)(te:TE)(D:Addr)(N:St->Hp->Prop)(x:V)(σ:St)(H:Hp):Prop:=
 g x σ H λσ2 H3=>tt σ2 H3 λb H4=>if b=true then te σ2 H4 λy H5=>∃ys,H5 D=some (.lst ys)/\ys.length<sizeLine/\N σ2 (upd H5 D (.lst (ys++[y]))) else N σ2 H4
theorem Hr{l:Addr}{xs:List V}(Pv:Nat->St->Hp->Prop)(h0:Pv 0 (stC own caps σ) H)(hl:∀i σ H,i<=xs.length->Pv i σ H->aW K H l xs)
  (hs:∀i x σ H,xs[i]? = some x->Pv i σ H->Hq g tt te D (Pv (i+1)) x σ H) (hd:∀σ H,Pv xs.length σ H->Q H):m9 own caps (X_ K l) g tt te D σ H Q:=by
 refine⟨λi m σ H=>m=xs.length - i/\i<=xs.length/\Pv i σ H,⟨xs.length,by simp,qmP _,h0⟩,?_⟩;rintro i m σ H ⟨rfl,hi,p⟩;have q:=hl i σ H hi p
 by_cases hlt:i<xs.length
 ·refine .inr ⟨⟨xs,xs[i],q,by simp[hlt]⟩,Pv (i+1),λσ' H' p'=>⟨xs.length - (i+1),by omega,rfl,hlt,p'⟩,λx H' y=>?_⟩;obtain⟨e,y⟩:=y;subst e;exact hs i x σ _ (y xs q) p
 ·have e:i=xs.length:=by omega
  subst e;exact .inl ⟨⟨xs,q,ql7 _⟩,hd σ H p⟩
theorem Zb{l:Addr}{xs:List V}(Pv:Nat->St->Hp->Prop)(h0:Pv 0 (stC own caps σ) H)(hl:∀i σ H,i<=xs.length->Pv i σ H->eG K H l xs)
  (hs:∀i x σ H,xs[i]? = some x->Pv i σ H->Hq g tt te D (Pv (i+1)) x σ H) (hd:∀σ H,Pv xs.length σ H->Q H):m9 own caps (Itt K l) g tt te D σ H Q:=by
 refine⟨λi m σ H=>m=xs.length - i/\i<=xs.length/\Pv i σ H,⟨xs.length,by simp,qmP _,h0⟩,?_⟩;rintro i m σ H ⟨rfl,hi,p⟩;have q:=hl i σ H hi p
 by_cases hlt:i<xs.length
 ·refine .inr ⟨⟨xs,xs[i],q,by simp[hlt]⟩,Pv (i+1),λσ' H' p'=>⟨xs.length - (i+1),by omega,rfl,hlt,p'⟩,λx H' y=>?_⟩;obtain⟨e,y⟩:=y;subst e;exact hs i x σ _ (y xs q) p
 ·have e:i=xs.length:=by omega
  subst e;exact .inl ⟨⟨xs,q,ql7 _⟩,hd σ H p⟩
theorem QZ{lo:Int}{n:Nat}(Pv:Nat->St->Hp->Prop)(h0:Pv 0 (stC own caps σ) H)
  (hs:∀i σ H,i<n->Pv i σ H->Hq g tt te D (Pv (i+1)) (.int (lo+i)) σ H) (hd:∀σ H,Pv n σ H->Q H):m9 own caps (Qp lo n) g tt te D σ H Q:=by
 refine⟨λi m σ H=>m=n - i/\i<=n/\Pv i σ H,⟨n,by simp,qmP _,h0⟩,?_⟩;rintro i m σ H ⟨rfl,hi,p⟩
 by_cases hlt:i<n
 ·refine .inr ⟨hlt,Pv (i+1),λσ' H' p'=>⟨n - (i+1),by omega,rfl,hlt,p'⟩,λx H' y=>?_⟩;obtain⟨e,y⟩:=y;subst e y;exact hs i σ _ hlt p
 ·have e:i=n:=by omega
  subst e;exact .inl ⟨ql7 _,hd σ H p⟩
theorem Zc{z:Str}(Pv:Nat->St->Hp->Prop)(h0:Pv 0 (stC own caps σ) H)
  (hs:∀i c σ H,z.cps[i]? = some c->Pv i σ H->Hq g tt te D (Pv (i+1)) (.str ⟨#[c]⟩) σ H) (hd:∀σ H,Pv z.cps.size σ H->Q H):m9 own caps (Its z) g tt te D σ H Q:=by
 refine⟨λi m σ H=>m=z.cps.size - i/\i<=z.cps.size/\Pv i σ H,⟨z.cps.size,by simp,qmP _,h0⟩,?_⟩;rintro i m σ H ⟨rfl,hi,p⟩
 by_cases hlt:i<z.cps.size
 ·refine .inr ⟨hlt,Pv (i+1),λσ' H' p'=>⟨z.cps.size - (i+1),by omega,rfl,hlt,p'⟩,λx H' y=>?_⟩;obtain⟨e,c,hc,rfl⟩:=y;subst e;exact hs i c σ _ hc p
 ·have e:i=z.cps.size:=by omega
  subst e;exact .inl ⟨ql7 _,hd σ H p⟩
theorem Zd{l1 l2:Addr}{xs ys:List V}(Pv:Nat->St->Hp->Prop)(h0:Pv 0 (stC own caps σ) H)(he:xs.length=ys.length)(hl:∀i σ H,i<=xs.length->Pv i σ H->aW K H l1 xs/\aW K H l2 ys)
  (hs:∀i x y t σ H,xs[i]? = some x->ys[i]? = some y->H t=none->Pv i σ H->Hq g tt te D (Pv (i+1)) (.ref t) σ (upd H t (.tup [x,y]))) (hd:∀σ H,Pv xs.length σ H->Q H):m9 own caps (Itz K l1 l2) g tt te D σ H Q:=by
 refine⟨λi m σ H=>m=xs.length - i/\i<=xs.length/\Pv i σ H,⟨xs.length,by simp,qmP _,h0⟩,?_⟩;rintro i m σ H ⟨rfl,hi,p⟩;obtain⟨q1,q2⟩:=hl i σ H hi p
 by_cases hlt:i<xs.length
 ·have hlt2:i<ys.length:=by omega
  refine .inr ⟨⟨xs,ys,xs[i],ys[i],q1,q2,by simp[hlt],by simp[hlt2]⟩,Pv (i+1),λσ' H' p'=>⟨xs.length - (i+1),by omega,rfl,hlt,p'⟩,λx H' y=>?_⟩;obtain⟨t,u,v,rfl,ht,rfl,e1,e2⟩:=y;exact hs i u v t σ H (e1 xs q1) (e2 ys q2) ht p
 ·have e:i=xs.length:=by omega
  subst e;exact .inl ⟨⟨xs,ys,q1,q2,.inl (ql7 _)⟩,hd σ H p⟩
end
def SqB(b:Bool)(K:W.Frag)(H:Hp)(p:Addr)(xs:List V):Prop:=match b with|true=>aW K H p xs|false=>eG K H p xs
def Itq(b:Bool)(K:W.Frag)(p:Addr):It:=match b with|true=>X_ K p|false=>Itt K p
def qeD(K:W.Frag)(tl:TE):TI:=λσ H R=>tl σ H λx H1=>∃b p,x = .ref p/\(∃xs,SqB b K H1 p xs)/\R (Itq b K p) H1
theorem u_{X:Cx}{K:W.Frag}(hK:X.K=K){tg l:Expr}{tl:TE}(hl:PE X l tl):PI X tg l (qeD K tl):=by
 intro p_ s σ H R I h;refine cT (hl p_ s σ H _ I h) λv s1 zz=>?_;obtain⟨x,H1,I1,r1,q1⟩:=zz;obtain⟨b,p,e,hq,q⟩:=q1;subst e;subst hK;cases b with
 |true=>
  cases r1;obtain⟨xs,hq⟩:=hq;obtain⟨its,rv,pl,hz⟩:=I1.list hq;refine qon pl.isList ?_;refine⟨s1.heap.objs.size,[s1.heap.objs.size],_,_,H1,rfl,I1.kept (t':=s1.toks) λb o e=>ql4 _ e,G8 p _,⟨_,qmc _ rfl,rfl,rfl⟩,λb hb=>?_,q⟩;have e:b=s1.heap.objs.size:=by simpa using hb
  subst e;exact I1.Gh (ql7 _) (I1.hok.fresh (ql7 _))
 |false=>
  cases r1;obtain⟨xs,hq⟩:=hq;obtain⟨its,rv,pl,hz⟩:=I1.tuple hq;refine qof (show s1.heap.IsTuple p its.toArray from pl) ?_;refine⟨s1.heap.objs.size,[s1.heap.objs.size],_,_,H1,rfl,I1.kept (t':=s1.toks) λb o e=>ql4 _ e,Qx p _,⟨_,qmc _ rfl,rfl,rfl⟩,λb hb=>?_,q⟩;have e:b=s1.heap.objs.size:=by simpa using hb
  subst e;exact I1.Gh (ql7 _) (I1.hok.fresh (ql7 _))
section
variable {K:W.Frag}{own:QAH}{caps:List Nat}{g:TG}{tt:TT}{te:TE}{D:Addr}{σ:St}{H:Hp}{Q:Hp->Prop}
theorem Ze{b:Bool}{l:Addr}{xs:List V}(Pv:Nat->St->Hp->Prop)(h0:Pv 0 (stC own caps σ) H)(hl:∀i σ H,i<=xs.length->Pv i σ H->SqB b K H l xs)
  (hs:∀i x σ H,xs[i]? = some x->Pv i σ H->Hq g tt te D (Pv (i+1)) x σ H) (hd:∀σ H,Pv xs.length σ H->Q H):m9 own caps (Itq b K l) g tt te D σ H Q:=by
 cases b with
 |true=>exact Hr Pv h0 hl hs hd
 |false=>exact Zb Pv h0 hl hs hd
end
theorem aq{H:Hp}{p:Addr}{o:HO}(h:H p=none):Same H (upd H p o):=λb u e=>by rw[aD (aN e h)];exact e
theorem bx{H H':Hp}{p:Addr}{o:HO}(s:Same H H')(h:H p=none):Same H (upd H' p o):=λb u e=>by rw[aD (aN e h)];exact s b u e
def Sq(H:Hp)(p:Addr)(xs:List V):Prop:=H p=some (.lst xs)\/H p=some (.tup xs)
theorem Sq.q{K:W.Frag}{H:Hp}{p:Addr}{xs:List V}(h:Sq H p xs):aW K H p xs\/eG K H p xs:=h.elim (λe=>.inl (aW.of e)) λe=>.inr (eG.of e)
theorem Sq.b{H:Hp}{p:Addr}{xs:List V}(h:Sq H p xs):∃b,∀K H',Same H H'->SqB b K H' p xs:=h.elim (λe=>⟨true,λ_ _ s=>aW.of (s _ _ e)⟩) λe=>⟨false,λ_ _ s=>eG.of (s _ _ e)⟩
theorem Sq.same{H H':Hp}{p:Addr}{xs:List V}(h:Sq H p xs)(s:Same H H'):Sq H' p xs:=h.elim (λe=>.inl (s _ _ e)) λe=>.inr (s _ _ e)
theorem Sq.ty{K:W.Frag}{H:Hp}{p:Addr}{xs:List V}(h:Sq H p xs):mL K H (.ref p) (.type "list")\/mL K H (.ref p) (.type "tuple"):=h.elim (λe=>.inl (.lst e)) λe=>.inr (.tup e)
theorem jD{α:Type}(f:α->Bool):∀l:List α,pq (l.map λc=>.bl (f c)) (l.map f)
 |[]=>rfl
 |c::l=>⟨f c,l.map f,rfl,rfl,jD f l⟩
theorem Q0{α:Type}(f:α->Bool)(l:List α):(l.map f).all id=l.all f:=by
 rw[List.all_map];rfl
theorem take_one{α:Type}{l:List α}{i:Nat}{x:α}(h:l[i]? = some x):l.take (i+1)=l.take i++[x]:=by
 rw[List.take_succ,h];rfl
def Uk:List V->Hp->VK->Prop:=λxs H Q=>∃p ys,xs=[.ref p]/\Sq H p ys/\∀l H',H' l=some (.tup ys)->Same H H'->Q (.ref l) H'
theorem Zf{X:Cx}:cg X (.type "tuple") Uk:=by
 intro p_ s σ H xs us Q I r h;obtain⟨p,ys,rfl,hq,q⟩:=h;refine Gk p_ s σ H _ us Q I r ⟨p,ys,rfl,?_⟩
 rcases hq with e|e
 ·exact .inl ⟨aW.of e,λl hl=>q l _ ak (aq hl)⟩
 ·exact .inr ⟨eG.of e,q p H e (Same.refl H)⟩
def qeE(J:It)(g:TG)(tb:TS):TS:=λD σ H=>∃oV:Nat->Nat->St->Hp->Prop,(∃m,oV 0 m σ H)/\∀i m σ H,oV i m σ H->
   (J.stop i H/\D.nx σ H)\/(J.go i H/\∃N:St->Hp->Prop,(∀σ' H',N σ' H'->∃m',m'<m/\oV (i+1) m' σ' H')/\∀x H',J.yld i H x H'->g x σ H' λσ2 H2=>tb {D with nx:=N,ct:=N,bk:=D.nx} σ2 H2)
theorem bW{H:Hp}{b p:Addr}{o u:HO}(h:H b=some o)(n:H p=none):upd H p u b=some o:=by rw[aD (aN h n)];exact h
theorem BK{H:Hp}{b p:Addr}{o o' u:HO}(h:H b=some o)(n:H p=some o')(d:o≠o'):upd H p u b=some o:=by
 rw[aD (λe=>d (by subst e;rw[h] at n;exact qmB n))];exact h
theorem bQ{H H':Hp}{b:Addr}(s:Same H H')(h:H' b=none):H b=none:=by
 cases e:H b with
 |none=>rfl
 |some o=>rw[s b o e] at h;cases h
def But(p:Addr)(H H':Hp):Prop:=∀b o,b≠p->H b=some o->H' b=some o
theorem But.refl(p:Addr)(H:Hp):But p H H:=λ_ _ _ e=>e
theorem But.trans{p:Addr}{H H1 H2:Hp}(x:But p H H1)(y:But p H1 H2):But p H H2:=λb o hb e=>y b o hb (x b o hb e)
theorem But.new{p q:Addr}{H H':Hp}{u:HO}(x:But p H H')(h:H q=none):But p H (upd H' q u):=λb o hb e=>by
 rw[aD (aN e h)];exact x b o hb e
theorem But.of{p:Addr}{H H':Hp}(x:Same H H'):But p H H':=λb o _ e=>x b o e
theorem But.same{p:Addr}{H H1 H2:Hp}(x:But p H H1)(y:Same H1 H2):But p H H2:=λb o hb e=>y b o (x b o hb e)
theorem But.none{p b:Addr}{H H':Hp}{u:HO}(x:But p H H')(hp:H' p=some u)(h:H' b = .none):H b = .none:=by
 cases e:H b with
 |none=>rfl
 |some o=>
  have hb:b≠p:=λz=>by subst z;rw[hp] at h;cases h
  rw[x b o hb e] at h;cases h
theorem Ul{α:Type}{xs:List α}{i:Int}(h0:0<=i)(h1:i<xs.length):∃v,xs[i.toNat]? = some v/\Gi xs i=some v:=by
 obtain⟨j,rfl⟩:∃j:Nat,i=j:=⟨i.toNat,by omega⟩;have hj:j<xs.length:=by omega
 exact⟨xs[j],by simp[hj],bD (by simp[hj])⟩
theorem qeF{d e n:Int}(h0:0<=d)(h1:d<n)(h2:0<=e)(h3:e<n - 1):0<=(d+1+e) % n/\(d+1+e) % n<n/\(d+1+e) % n≠d:=by
 refine⟨Int.emod_nonneg _ (by omega),Int.emod_lt_of_pos _ (by omega),?_⟩
 by_cases h:d+1+e<n
 ·rw[Int.emod_eq_of_lt (by omega) h];omega
 ·have z:d+1+e=(d+1+e - n)+n * 1:=by omega
  rw[z,Int.add_mul_emod_self_left,Int.emod_eq_of_lt (by omega) (by omega)];omega
theorem um{xs:QAH}{i:Nat}{x:V}(h:(xs.map V.str)[i]? = some x):∃z,xs[i]? = some z/\x = .str z:=by
 rw[qmw] at h;cases e:xs[i]? with
 |none=>rw[e] at h;cases h
 |some z=>rw[e] at h;exact⟨z,rfl,(qmB h).symm⟩
theorem uo{α:Type}{xs:List α}(h:xs.Nodup){i j:Nat}{x:α}(hi:xs[i]? = some x)(hj:xs[j]? = some x):i=j:=by
 obtain⟨h1,e1⟩:=ql2.mp hi;obtain⟨h2,e2⟩:=ql2.mp hj;exact(List.getElem_inj h).mp (e1.trans e2.symm)
def isL(c:Nat):Bool:=!(Builtin.Str.occurrences ("abcdefghijklmnopqrstuvwxyz" : Str) ⟨#[c]⟩ 0 ("abcdefghijklmnopqrstuvwxyz" : Str).length 1).isEmpty
def nameB(x:Str):Bool:=decide (1<=x.length) && decide (x.length<=4) && x.cps.toList.all isL
theorem Zg:∀n<26,isL (97+n)=true:=by decide+kernel
theorem Q5:∀n:Nat,n<26->Gi (Str.ofString "abcdefghijklmnopqrstuvwxyz").cps.toList (n:Int)=some (97+n):=by decide+kernel
theorem Ao:(Str.ofString "abcdefghijklmnopqrstuvwxyz").length<=sizeLine:=by decide+kernel
theorem uq{i:Int}(h0:0<=i)(h1:i<26):∃n:Nat,i=n/\n<26/\Gi (Str.ofString "abcdefghijklmnopqrstuvwxyz").cps.toList i=some (97+n):=
 ⟨i.toNat,by omega,by omega,by
  obtain⟨n,rfl⟩:∃n:Nat,i=n:=⟨i.toNat,by omega⟩;exact Q5 n (by omega)⟩
structure rD(c:Nat)(k:Nat)(x:Str):Prop where
 len:x.length=k
 fst:x.cps[0]? = some c
 all:x.cps.toList.all isL=true
theorem rD.one{n:Nat}(h:n<26):rD (97+n) 1 ⟨#[97+n]⟩:=⟨rfl,rfl,by simp[Zg n h]⟩
theorem rD.name{c k:Nat}{x:Str}(h:rD c k x)(h1:1<=k)(h4:k<=4):nameB x=true:=by
 unfold nameB;rw[h.len,h.all];simp;omega
section
variable {κ:Type} [DecidableEq κ]
def mO(kvs:List (κ×V))(k:κ):Option V:=(kvs.find? λkv=>decide (kv.1=k)).map (·.2)
def putK(kvs:List (κ×V))(k:κ)(v:V):List (κ×V):=
 if (kvs.any λkv=>decide (kv.1=k))=true then kvs.map (λkv=>if kv.1=k then (kv.1,v) else kv) else kvs++[(k,v)]
theorem yg{p:κ×V}{r:List (κ×V)}{k:κ}(e:p.1=k):mO (p::r) k=some p.2:=by simp[mO,qoi,e]
theorem yh{p:κ×V}{r:List (κ×V)}{k:κ}(e:¬p.1=k):mO (p::r) k=mO r k:=by simp[mO,qoi,e]
theorem CP(k:κ):∀kvs:List (κ×V),(kvs.any λkv=>decide (kv.1=k))=(mO kvs k).isSome
 |[]=>rfl
 |p::r=>by
  rw[qn5]
  by_cases e:p.1=k
  ·simp only[yg e,qm0 e,Bool.true_or,Option.isSome_some]
  ·rw[yh e,qmx e,Bool.false_or];exact CP k r
theorem ur(kvs:List (κ×V))(k:κ)(v:V):(putK kvs k v).length<=kvs.length+1:=by
 unfold putK;split
 ·rw[ql9];omega
 ·rw[qmD,qmq,qoh];omega
theorem Zh{kvs:List (κ×V)}{k:κ}(v:V)(h:mO kvs k=none):putK kvs k v=kvs++[(k,v)]:=by
 unfold putK;rw[CP,h];exact if_neg (by decide)
theorem m7.qQ{o:Option V}{u:QAG}(r:m7 o u):o.isSome=u.isSome:=by
 cases o with
 |none=>cases u with
  |none=>rfl
  |some _=>exact(show False from r).elim
 |some _=>cases u with
  |none=>exact(show False from r).elim
  |some _=>rfl
theorem m7.getD{o:Option V}{u:QAG}{d:V}{d':Value}(r:m7 o u)(rd:RelV d d'):RelV (o.getD d) (u.getD d'):=by
 cases o with
 |none=>cases u with
  |none=>exact rd
  |some _=>exact(show False from r).elim
 |some _=>cases u with
  |none=>exact(show False from r).elim
  |some _=>exact r
theorem KV.val{kvs:List (κ×V)}{vs:List (κ×Value)}(r:KV kvs vs)(k:κ):m7 (mO kvs k) (valueAt vs k):=by
 unfold KV at r
 induction r with
 |nil=>exact True.intro
 | @cons p q ps qs h t ih=>
  obtain⟨h1,h2⟩:=h
  by_cases e:p.1=k
  ·have e':q.1=k:=h1.symm.trans e;have b:valueAt (q::qs) k=some q.2:=by simp[valueAt,qoi,e']
   rw[yg e,b];exact h2
  ·have e':¬q.1=k:=λz=>e (h1.trans z);have b:valueAt (q::qs) k=valueAt qs k:=by simp[valueAt,qoi,e']
   rw[yh e,b];exact ih
theorem KV.any{kvs:List (κ×V)}{vs:List (κ×Value)}(r:KV kvs vs)(k:κ):(kvs.any λkv=>decide (kv.1=k))=vs.any λkv=>decide (kv.1=k):=by
 unfold KV at r
 induction r with
 |nil=>rfl
 |cons h t ih=>rw[qn5,qn5,ih,h.1]
theorem KV.repl{kvs:List (κ×V)}{vs:List (κ×Value)}(r:KV kvs vs)(k:κ){y:V}{u:Value}(ry:RelV y u) :
  KV (kvs.map λkv=>if kv.1=k then (kv.1,y) else kv) (vs.map λkv=>if kv.1=k then (kv.1,u) else kv):=by
 unfold KV at r⊢
 induction r with
 |nil=>exact .nil
 | @cons p q ps qs h t ih=>
  rw[qmG,qmG];refine .cons ?_ ih;obtain⟨h1,h2⟩:=h
  by_cases e:p.1=k
  ·rw[if_pos e,if_pos (h1.symm.trans e)];exact⟨h1,ry⟩
  ·rw[if_neg e,if_neg (λz=>e (h1.trans z))];exact⟨h1,h2⟩
theorem KV.put{kvs:List (κ×V)}{vs:List (κ×Value)}(r:KV kvs vs)(k:κ){y:V}{u:Value}(ry:RelV y u):KV (putK kvs k y) (stored vs k u):=by
 unfold putK stored;rw[r.any k]
 by_cases e:(vs.any λkv=>decide (kv.1=k))=true
 ·rw[if_pos e,if_pos e];exact r.repl k ry
 ·rw[if_neg e,if_neg e];exact Paired.snoc r ⟨rfl,ry⟩
theorem KV.length{kvs:List (κ×V)}{vs:List (κ×Value)}(r:KV kvs vs):kvs.length=vs.length:=Paired.length r
end
theorem CQ{P:Program}{w:World}{k:Key}{u:Value}(r:RelV (kV k) u):(bM P w).is k u=true:=by
 cases k with
 |inl i=>obtain⟨t,e⟩:=(show ∃t,u=Value.int i t from r);subst e;exact Ak P w i t
 |inr x=>obtain⟨t,e⟩:=(show ∃t,u=Value.str x t from r);subst e;exact Mf P w x t
theorem Hs{P:Program}{w:World}:∀{ks:List Key}{us:QAE},Vals (ks.map kV) us->ItemsAre (bM P w) ks us
 |[],_,r=>by rw[List.map_nil] at r;cases r;exact .nil
 |k::ks,_,r=>by
  rw[qmG] at r;cases r with
  |cons h t=>exact .cons (CQ h) (Hs t)
abbrev KT(H:Hp):List (List Key×V)->List (List Key×Addr×Value)->Prop:=Paired λp q=>p.1=q.1/\H q.2.1=some (.tup (p.1.map kV))/\RelV p.2 q.2.2
theorem KT.val{H:Hp}{kvs:List (List Key×V)}{xs:List (List Key×Addr×Value)}(r:KT H kvs xs)(k:List Key):m7 (mO kvs k) ((atKey xs k).map (·.2)):=by
 induction r with
 |nil=>exact True.intro
 | @cons p q ps qs h t ih=>
  obtain⟨h1,_,h2⟩:=h
  by_cases e:p.1=k
  ·have e':q.1=k:=h1.symm.trans e;have b:atKey (q::qs) k=some q.2:=by simp[atKey,qoi,e']
   rw[yg e,b];exact h2
  ·have e':¬q.1=k:=λz=>e (h1.trans z);have b:atKey (q::qs) k=atKey qs k:=by simp[atKey,qoi,e']
   rw[yh e,b];exact ih
theorem KT.repl{H:Hp}{kvs:List (List Key×V)}{xs:List (List Key×Addr×Value)}(r:KT H kvs xs)(k:List Key){y:V}{u:Value}(ry:RelV y u) :
  KT H (kvs.map λkv=>if kv.1=k then (kv.1,y) else kv) (xs.map (putAt k u)):=by
 induction r with
 |nil=>exact .nil
 | @cons p q ps qs h t ih=>
  rw[qmG,qmG];refine .cons ?_ ih;obtain⟨h1,h2,h3⟩:=h;unfold putAt
  by_cases e:p.1=k
  ·rw[if_pos e,if_pos (h1.symm.trans e)];exact⟨h1,h2,ry⟩
  ·rw[if_neg e,if_neg (λz=>e (h1.trans z))];exact⟨h1,h2,h3⟩
theorem KT.put{H:Hp}{kvs:List (List Key×V)}{xs:List (List Key×Addr×Value)}(r:KT H kvs xs)(k:List Key){b:Addr}{y:V}{u:Value}(hb:H b=some (.tup (k.map kV)))(ry:RelV y u) :
  KT H (putK kvs k y) (storedH xs k b u):=by
 have e:(kvs.any λkv=>decide (kv.1=k))=(atKey xs k).isSome:=by
  rw[CP,(r.val k).qQ,Option.isSome_map]
 unfold putK storedH;rw[e]
 by_cases q:(atKey xs k).isSome=true
 ·rw[if_pos q,if_pos q];exact r.repl k ry
 ·rw[if_neg q,if_neg q];exact Paired.snoc r ⟨rfl,hb,ry⟩
theorem KT.keeps{H H':Hp}{kvs:List (List Key×V)}{xs:List (List Key×Addr×Value)}(r:KT H kvs xs)(ht:∀b ys,H b=some (.tup ys)->H' b=some (.tup ys)):KT H' kvs xs:=
 Paired.qd0 r λ_ _ z=>⟨z.1,ht _ _ z.2.1,z.2.2⟩
section
variable {P:Program}{w:World}{H:Hp}{h:Heap}{a:Addr}
theorem qdj{u:HO}(ok:tD P w H h)(e:Rd H a u):cD P w H h a u:=e.ok ok
theorem CT{kvs:List (Key×V)}(ok:tD P w H h)(e:Rd H a (.dK kvs)):kvs.length<=sizeLine/\(a == sysModules)=false/\∃vs,KV kvs vs/\h.DictOf (bM P w) a vs:=
 show cD P w H h a (.dK kvs) from qdj ok e
theorem Um{kvs:List (Key×V)}(ok:tD P w H h)(e:H a=some (.dK kvs)):kvs.length<=sizeLine/\(a == sysModules)=false/\∃vs,KV kvs vs/\h.DictOf (bM P w) a vs:=CT ok (.inl e)
theorem zF{ks:List Key}(ok:tD P w H h)(e:H a=some (.tup (ks.map kV))):(tupleKind (bM P w)).is h ks a:=by
 obtain⟨_,its,r,o,h1,h2,n,h3⟩:=(show cD P w H h a (.tup (ks.map kV)) from ok a _ e);exact⟨o,its.toArray,n,h1,h2,h3,by simpa using Hs r⟩
theorem CV{kvs:List (List Key×V)}(ok:tD P w H h)(e:Rd H a (.dT kvs)):kvs.length<=sizeLine/\(a == sysModules)=false/\
  ∃xs,KT H kvs xs/\h.DictOfH (tupleKind (bM P w)) a xs:=by
 obtain⟨z,y,xs,r,o,es,ep,h1,h2,h3,h4,h5⟩:=(show cD P w H h a (.dT kvs) from qdj ok e);refine⟨z,y,xs,r,o,es,ep,h1,h2,h3,h4,λx hx=>?_,h5⟩;have all:∀{l:List (List Key×V)}{m:List (List Key×Addr×Value)},KT H l m->∀x∈m,(tupleKind (bM P w)).is h x.1 x.2.1:=by
  intro l m q
  induction q with
  |nil=>intro x hx;exact nomatch hx
  | @cons p q ps qs hq t ih=>
   intro x hx
   rcases qmd.mp hx with e|hx
   ·subst e;exact zF ok (by rw[<- hq.1];exact hq.2.1)
   ·exact ih x hx
 exact all r x hx
theorem qdk{kvs:List (List Key×V)}(ok:tD P w H h)(e:H a=some (.dT kvs)):kvs.length<=sizeLine/\(a == sysModules)=false/\
  ∃xs,KT H kvs xs/\h.DictOfH (tupleKind (bM P w)) a xs:=CV ok (.inl e)
end
def k_(H:Hp)(a:Addr)(y:V)(r:Option V):Prop:=
 (∃kvs k,Rd H a (.dK kvs)/\y=kV k/\r=mO kvs k)\/∃kvs k b,Rd H a (.dT kvs)/\y = .ref b/\H b=some (.tup (k.map kV))/\r=mO kvs k
def JG(H:Hp)(a:Addr)(y v:V)(H':Hp):Prop:=
 (∃kvs k,H a=some (.dK kvs)/\y=kV k/\kvs.length<sizeLine/\H'=upd H a (.dK (putK kvs k v)))\/
 ∃kvs k b,H a=some (.dT kvs)/\y = .ref b/\H b=some (.tup (k.map kV))/\kvs.length<sizeLine/\H'=upd H a (.dT (putK kvs k v))
theorem k_.k{H:Hp}{a:Addr}{kvs:List (Key×V)}{k:Key}(e:H a=some (.dK kvs)):k_ H a (kV k) (mO kvs k):=.inl ⟨kvs,k,.inl e,rfl,rfl⟩
theorem JG.k{H:Hp}{a:Addr}{kvs:List (Key×V)}{k:Key}{v:V}(e:H a=some (.dK kvs))(hl:kvs.length<sizeLine):JG H a (kV k) v (upd H a (.dK (putK kvs k v))):=.inl ⟨kvs,k,e,rfl,hl,rfl⟩
section
variable {X:Cx}{p_:QAC}{σ:St}{H:Hp}{s:Shared}{a:Addr}{y v:V}{u r:Value}{o:Option V}{A:Around}{E:QAB}
theorem Inv.big(I:Inv X p_ σ H s):sysModules<s.heap.objs.size:=by
 have h:mainGlobals<s.heap.objs.size:=(I.mod.glob.keeps I.bk).lt;exact Nat.lt_trans (by decide) h
theorem Wc{Q:QAB}(hu:A.units+1<cLine)(I:Inv X p_ σ H s)(g:k_ H a y (some v))(ry:RelV y u)(h:∀w' s',Inv X p_ σ H s'->RelV v w'->Q w' s') :
  wpAny (model X.prog X.w) A (getItem (.ref a) u) Q E s:=by
 rcases g with⟨kvs,k,e,ey,l⟩|⟨kvs,k,b,e,ey,eb,l⟩
 ·subst ey;obtain⟨z,hd,vs,rel,dd⟩:=CT I.hok e;obtain⟨w',hw,YZ⟩:=m7.some_of (v:=v) (o:=valueAt vs k) (by rw[l];exact rel.val k);exact wpAny_getItem_of (CQ ry) dd.mapOf hw (h w' _ (I.tok _) YZ)
 ·subst ey;cases (show u=Value.ref b from ry);obtain⟨z,hd,xs,rel,dd⟩:=CV I.hok e;obtain⟨w',hw,YZ⟩:=m7.some_of (v:=v) (o:=(atKey xs k).map (·.2)) (by rw[l];exact rel.val k);obtain⟨p,hp,hp2⟩:=qnL.mp hw;refine wpAny_getItem_heap (qog hu) (zF I.hok eb) dd hp ?_;rw[hp2];exact h w' _ (I.tok _) YZ
theorem qjN{Q:QAB}(hu:A.units+1<cLine)(I:Inv X p_ σ H s)(g:k_ H a y o)(ry:RelV y u)(h:∀s',Inv X p_ σ H s'->Q (.bool o.isSome) s') :
  wpAny (model X.prog X.w) A (compareOp .In u (.ref a)) Q E s:=by
 rcases g with⟨kvs,k,e,ey,l⟩|⟨kvs,k,b,e,ey,eb,l⟩
 ·subst ey;obtain⟨z,hd,vs,rel,dd⟩:=CT I.hok e;refine wpAny_in_of (CQ ry) hd dd.mapOf ?_;rw[<- (rel.val k).qQ,<- l];exact h _ (I.tok _)
 ·subst ey;cases (show u=Value.ref b from ry);obtain⟨z,hd,xs,rel,dd⟩:=CV I.hok e;refine wpAny_in_heap (qog hu) (zF I.hok eb) hd dd ?_;have q:=(rel.val k).qQ;rw[Option.isSome_map] at q;rw[<- q,<- l];exact h _ (I.tok _)
theorem qb3{Q:QAB}(hu:A.units+1<cLine)(I:Inv X p_ σ H s)(g:k_ H a y o)(ry:RelV y u)(h:∀s',Inv X p_ σ H s'->Q (.bool (!o.isSome)) s') :
  wpAny (model X.prog X.w) A (compareOp .NotIn u (.ref a)) Q E s:=by
 rcases g with⟨kvs,k,e,ey,l⟩|⟨kvs,k,b,e,ey,eb,l⟩
 ·subst ey;obtain⟨z,hd,vs,rel,dd⟩:=CT I.hok e;refine wpAny_notIn_of (CQ ry) hd dd.mapOf ?_;rw[<- (rel.val k).qQ,<- l];exact h _ (I.tok _)
 ·subst ey;cases (show u=Value.ref b from ry);obtain⟨z,hd,xs,rel,dd⟩:=CV I.hok e;refine wpAny_notIn_heap (qog hu) (zF I.hok eb) hd dd ?_;have q:=(rel.val k).qQ;rw[Option.isSome_map] at q;rw[<- q,<- l];exact h _ (I.tok _)
theorem JH{h':Heap}{t':Nat}{ob:HO}(I:Inv X p_ σ H s)(mu:Mut (H a))(hs:Heap.SameBut a s.heap h')(he:∃q,h'.get? a=some q)(new:cD X.prog X.w (upd H a ob) h' a ob) :
  Inv X p_ σ (upd H a ob) {s with heap:=h',toks:=t'}:=
 I.write (x:=a) (e:=a) mu (.inl rfl) (λb q hb z=>(hs.2 b hb).trans z) he new
theorem Zi{P:Program}{w:World}{H':Hp}{h':Heap}{kvs:List (Key×V)}{vs:List (Key×Value)}(z:kvs.length<=sizeLine)(hd:(a == sysModules)=false)(rel:KV kvs vs)(dd:h'.DictOf (bM P w) a vs) :
  cD P w H' h' a (.dK kvs):=⟨z,hd,vs,rel,dd⟩
theorem Wd{H':Hp}{Q:Unit->Shared->Prop}(hu:A.units+1<cLine)(I:Inv X p_ σ H s)(g:JG H a y v H')(ry:RelV y u)(rv:RelV v r)(h:∀s',Inv X p_ σ H' s'->Q () s') :
  wpAny (model X.prog X.w) A (setItem (.ref a) u r) Q E s:=by
 rcases g with⟨kvs,k,e,ey,l,eH⟩|⟨kvs,k,b,e,ey,eb,l,eH⟩
 ·subst ey eH;obtain⟨z,hd,vs,rel,dd⟩:=Um I.hok e;have hz:vs.length<=sizeLine:=by rw[<- rel.length];exact z
  have hl:(putK kvs k v).length<=sizeLine:=by have:=ur kvs k v;omega
  refine wpAny_setItem_pairs (hsz:=hz) (CQ ry) dd λh' dd' hs=>h _ ?_;have he:∃q,h'.get? a=some q:=let ⟨q,_,_,hq,_⟩:=dd';⟨q,hq⟩;exact JH I (by rw[e];exact True.intro) hs he (Zi hl hd (rel.put k rv) dd')
 ·subst ey eH;cases (show u=Value.ref b from ry);obtain⟨z,hd,xs,rel,dd⟩:=qdk I.hok e;have hz:xs.length<=sizeLine:=by rw[<- Paired.length rel];exact z
  have hl:(putK kvs k v).length<=sizeLine:=by have:=ur kvs k v;omega
  refine wpAny_setItem_heap (hsz:=hz) (qog hu) (zF I.hok eb) dd λh' dd' hs=>h _ ?_;obtain⟨q,es,ep,hq,h2,h3,h4,_,h5⟩:=dd';refine JH I (by rw[e];exact True.intro) hs ⟨q,hq⟩ ⟨hl,hd,_,(rel.put k eb rv).keeps λc ys ec=>?_,q,es,ep,hq,h2,h3,h4,h5⟩;rw[aD (jN ec e (λz=>nomatch z))];exact ec
end
def qgE(i:Expr):Prop:=∀ov iv,subscripted i false ov iv=operate [ov,iv] (getItem ov iv)
theorem qb4{prog:Program}{w:World}{A:Around}{E:QAB}{s:Shared}{env:Env}{value slice:Expr}{pos:Pos}{T id:String}{Q:QAB}
  (hl:typeLookup (.type T) "__getitem__" = pure (some (.builtin id))) (hs:qgE slice)
  (h:wpAny (model prog w) A (eval value env) (λo s₁=>wpAny (model prog w) A (eval slice env) (λi s₂=>s₂.TypeIs o T/\wpAny (model prog w) A (getItem o i) Q E s₂) E s₁) E s) :
  wpAny (model prog w) A (eval (.Subscript value slice pos) env) Q E s:=by
 refine Subscript_ (qmV h (λo s₁ h₁=>qmV h₁ (λi s₂ h₂=>?_) λ_ _ x=>x) λ_ _ x=>x);obtain⟨hT,h₂⟩:=h₂;unfold subscriptTail;refine ql3 ?_;rw[getitemInPython_of_ne hT.not_modules];refine ql3 (wpAny_specialOf hT hl ?_);have fin:wpAny (model prog w) A (subscripted slice false o i) (λr s₃=>wpAny (model prog w) A (letTemporaryGo value o r >>= λ_=>pure r) Q E s₃) E s₂:=by
  rw[hs o i];exact wpAny_operating (qmV h₂ (λr s₃ h₃=>ql3 (wpAny_letTemporaryGo (qmb h₃))) λ_ _ x=>x)
 first
  |exact qmb (ql3 fin)
  |exact ql3 (qmb (ql3 fin))
  |exact ql3 fin
theorem M5{X:Cx}{p_:QAC}{σ:St}{H:Hp}{s:Shared}{a:Addr}{y:V}{o:Option V}(I:Inv X p_ σ H s)(g:k_ H a y o):s.TypeIs (.ref a) "dict" :=by
 rcases g with⟨kvs,k,e,_,_⟩|⟨kvs,k,b,e,_,_,_⟩
 ·obtain⟨_,_,vs,_,dd⟩:=CT I.hok e;exact dd.typeIs
 ·obtain⟨_,_,xs,_,dd⟩:=CV I.hok e;exact dd.typeIs
def Zj(td ty:TE):TE:=λσ H Q=>td σ H λx H1=>ty σ H1 λy H2=>∃a v,x = .ref a/\k_ H2 a y (some v)/\Q v H2
def qeG(ty td:TE):TE:=λσ H Q=>ty σ H λy H1=>td σ H1 λx H2=>∃a o,x = .ref a/\k_ H2 a y o/\Q (.bl o.isSome) H2
def JK(ty td:TE):TE:=λσ H Q=>ty σ H λy H1=>td σ H1 λx H2=>∃a o,x = .ref a/\k_ H2 a y o/\Q (.bl (!o.isSome)) H2
def Zk(td ty tv:TE):TS:=λD σ H=>tv σ H λv H1=>td σ H1 λx H2=>ty σ H2 λy H3=>∃a H4,x = .ref a/\JG H3 a y v H4/\D.nx σ H4
section
variable {X:Cx}{o i e value:Expr}{pos pos' tpos:Pos}{td ty tv:TE}
theorem qb5(hu:X.A.units+1<cLine)(ho:PE X o td)(hi:PE X i ty)(hs:qgE i):PE X (.Subscript o i pos) (Zj td ty):=by
 intro p_ s σ H Q I h;refine qb4 PySem.F.slot_dict_getitem.lookup hs (cT (ho p_ s σ H _ I h) λu s1 ⟨x,H1,I1,rx,q1⟩=>cT (hi p_ s1 σ H1 _ I1 q1) λiv s2 ⟨y,H2,I2,ry,a,v,ex,g,q2⟩=>?_);subst ex;obtain rfl:u=Value.ref a:=rx;exact⟨M5 I2 g,Wc hu I2 g ry λw' s3 I3 YZ=>⟨v,H2,I3,YZ,q2⟩⟩
theorem qeH(hu:X.A.units+1<cLine)(hi:PE X i ty)(ho:PE X o td):PC X .In i o (qeG ty td):=by
 intro p_ s σ H Q I h;refine cT (hi p_ s σ H _ I h) λiv s1 ⟨y,H1,I1,ry,q1⟩=>cT (ho p_ s1 σ H1 _ I1 q1) λu s2 ⟨x,H2,I2,rx,a,ov,ex,g,q2⟩=>?_;subst ex;obtain rfl:u=Value.ref a:=rx;exact qjN hu I2 g ry λs3 I3=>⟨.bl ov.isSome,H2,I3,rfl,q2⟩
theorem Wf(hu:X.A.units+1<cLine)(hi:PE X i ty)(ho:PE X o td):PC X .NotIn i o (JK ty td):=by
 intro p_ s σ H Q I h;refine cT (hi p_ s σ H _ I h) λiv s1 ⟨y,H1,I1,ry,q1⟩=>cT (ho p_ s1 σ H1 _ I1 q1) λu s2 ⟨x,H2,I2,rx,a,ov,ex,g,q2⟩=>?_;subst ex;obtain rfl:u=Value.ref a:=rx;exact qb3 hu I2 g ry λs3 I3=>⟨.bl (!ov.isSome),H2,I3,rfl,q2⟩
theorem qb6(hu:X.A.units+1<cLine)(ho:PE X o td)(hi:PE X i ty)(hv:PE X value tv)(hs:swapsWith value (some (.Subscript o i pos')) pos.line X.env=pure false) :
  PS X (.Assign [.Subscript o i pos'] value pos) (Zk td ty tv):=by
 intro p_ s σ H D I h;refine wpAny_Assign_Subscript (cT (hv p_ s σ H _ I h) λr s1 ⟨v,H1,I1,rv,q1⟩=>cT (ho p_ s1 σ H1 _ I1 q1) λu s2 ⟨x,H2,I2,rx,q2⟩=>cT (hi p_ s2 σ H2 _ I2 q2) λiv s3 ⟨y,H3,I3,ry,a,H4,ex,g,q3⟩=>?_) hs;subst ex;obtain rfl:u=Value.ref a:=rx;exact Wd hu I3 g ry rv λs4 I4=>⟨σ,H4,I4,q3⟩
end
theorem M6{P:Program}{w:World}{H:Hp}(h:Heap)(hb:sysModules<h.objs.size):cD P w H (h.push {cls:=.type "dict",data:=.dict #[]}) h.objs.size (.dK []):=
 ⟨qmP _,qnI.mpr (qnF (qmg hb)),[],.nil,Heap.DictOf.new h⟩
def Q6:TE:=λ_ H Q=>∀p,H p=none->Q (.ref p) (upd H p (.dK []))
section
variable {X:Cx}{pos:Pos}
theorem CW:PE X (.Dict [] [] pos) Q6:=λp_ s σ H Q I h=>
 wpAny_Dict_empty ⟨.ref s.heap.objs.size,_,I.laid (a:=s.heap.objs.size) (o:=.dK []) (t':=s.toks) (λ_ _ q=>ql4 _ q) (ql7 _) (M6 s.heap I.big),rfl,h _ (I.hok.fresh (ql7 _))⟩
end
def wG:List (TE×TE)->St->Hp->(List (V×V)->Hp->Prop)->Prop
 |[],_,H,Q=>Q [] H
 |(tk,tv)::r,σ,H,Q=>tk σ H λx H1=>tv σ H1 λy H2=>wG r σ H2 λps H3=>Q ((x,y)::ps) H3
abbrev VV:List (V×V)->List (Value×Value)->Prop:=Paired λp q=>RelV p.1 q.1/\RelV p.2 q.2
def PPs(X:Cx)(pos:Pos)(keys:List (Option Expr))(values:List Expr)(Yc:List (TE×TE)):Prop:=
 ∀(p_:QAC)(s:Shared)(σ:St)(H:Hp)(Q:List (V×V)->Hp->Prop),Inv X p_ σ H s->wG Yc σ H Q->
  wpAny (model X.prog X.w) X.A (evalPairs (pairTrees keys values X.env pos)) (λvs s'=>∃ps H',Inv X p_ σ H' s'/\VV ps vs/\Q ps H') X.xe s
theorem qb7{X:Cx}{pos:Pos}:PPs X pos [] [] []:=λp_ s σ H Q I h=>pairTrees_nil_walk ⟨[],H,I,.nil,h⟩
theorem Zm{X:Cx}{pos:Pos}{k v:Expr}{ks:List (Option Expr)}{vs:List Expr}{tk tv:TE}{Yc:List (TE×TE)}(hk:PE X k tk)(hv:PE X v tv)(hr:PPs X pos ks vs Yc) :
  PPs X pos (some k::ks) (v::vs) ((tk,tv)::Yc):=λp_ s σ H Q I h=>
 pairTrees_cons_walk (cT (hk p_ s σ H _ I h) λu s1 ⟨x,H1,I1,rx,q1⟩=>cT (hv p_ s1 σ H1 _ I1 q1) λw2 s2 ⟨y,H2,I2,ry,q2⟩=>
  cT (hr p_ s2 σ H2 _ I2 q2) λws s3 ⟨ps,H3,I3,rel,q3⟩=>⟨(x,y)::ps,H3,I3,.cons ⟨rx,ry⟩ rel,q3⟩)
def wH(kvs more:List (Key×V)):List (Key×V):=more.foldl (λacc kv=>putK acc kv.1 kv.2) kvs
theorem KV.merge:∀{more:List (Key×V)}{rs:List (Key×Value)}{kvs:List (Key×V)}{vs:List (Key×Value)},KV more rs->KV kvs vs->KV (wH kvs more) (merged vs rs):=by
 intro more rs kvs vs r;unfold KV at r
 induction r generalizing kvs vs with
 |nil=>intro q;exact q
 | @cons p q ps qs h t ih=>
  intro r0;have e:KV (putK kvs p.1 p.2) (stored vs q.1 q.2):=by
   have:=r0.put p.1 h.2;rw[<- h.1];exact this
  exact ih e
theorem vQ:∀(more kvs:List (Key×V)),(wH kvs more).length<=kvs.length+more.length
 |[],kvs=>by show kvs.length<=kvs.length+0;omega
 |p::r,kvs=>by
  have h1:=vQ r (putK kvs p.1 p.2);have h2:=ur kvs p.1 p.2;show(wH (putK kvs p.1 p.2) r).length<=_;rw[qmq];omega
theorem CZ{P:Program}{w:World}:∀{kvs:List (Key×V)}{ws:List (Value×Value)},VV (kvs.map λkv=>(kV kv.1,kv.2)) ws->∃rs,Carries (bM P w) ws rs/\KV kvs rs
 |[],_,r=>by rw[List.map_nil] at r;cases r;exact⟨[],True.intro,.nil⟩
 |p::kvs,_,r=>by
  rw[qmG] at r;cases r with
  | @cons a b as bs h t=>
   obtain⟨rs,c,q⟩:=CZ (P:=P) (w:=w) t;obtain⟨b1,b2⟩:=b;exact⟨(p.1,b2)::rs,⟨CQ h.1,rfl,c⟩,.cons ⟨rfl,h.2⟩ q⟩
def qdl(Yc:List (TE×TE)):TE:=λσ H Q=>∀p,H p=none->wG Yc σ (upd H p (.dK [])) λps H2=>H2 p=some (.dK [])/\∃kvs:List (Key×V),ps=kvs.map (λkv=>(kV kv.1,kv.2))/\kvs.length<=15/\Q (.ref p) (upd H2 p (.dK (wH [] kvs)))
theorem qb8{X:Cx}{pos:Pos}{keys:List (Option Expr)}{values:List Expr}{Yc:List (TE×TE)}(h:PPs X pos keys values Yc)(hall:keys.all (·.isSome)=true)(hl:keys.length=values.length)(h0:keys≠[])
  (h15:keys.length<=15):PE X (.Dict keys values pos) (qdl Yc):=by
 intro p_ s σ H Q I q;have hn:=I.hok.fresh (ql7 s.heap.objs.size);have I1:=I.laid (a:=s.heap.objs.size) (o:=.dK []) (h':=s.heap.push {cls:=.type "dict",data:=.dict #[]}) (t':=s.toks) (λ_ _ q=>ql4 _ q) (ql7 _) (M6 s.heap I.big);refine wpAny_Dict_walk (knd:=bM X.prog X.w) hall hl h0 h15 (cT (h p_ _ σ _ _ I1 (q _ hn)) λws s2 zz=>?_);obtain⟨ps,H2,I2,rel,e,kvs,ep,lk,q2⟩:=zz;subst ep;obtain⟨rs,c,rk⟩:=CZ (P:=X.prog) (w:=X.w) rel;obtain⟨z,hd,vs0,r0,dd⟩:=Um I2.hok e;cases r0;refine⟨rs,c,dd,λh' dd' hs=>⟨.ref s.heap.objs.size,_,?_,rfl,q2⟩⟩;have hz:(wH [] kvs).length<=sizeLine:=by
  have h1:=vQ kvs [];rw[qoh] at h1;rw[qoc];omega
 have he:∃q,h'.get? s.heap.objs.size=some q:=let ⟨q,_,_,hq,_⟩:=dd';⟨q,hq⟩;exact JH I2 (by rw[e];exact True.intro) hs he (Zi hz hd (rk.merge .nil) dd')
structure M2(X:Cx)(o:Expr)(m:Str)(apos:Pos)(e f:Expr)(cpos:Pos):Prop where
 base:attributeBase o m X.env (eval o X.env)=eval o X.env
 few:((backTo cpos (starEach [e,f] X.env)).all (λx=>!x.1) && (backToKw cpos (keywordEach [] X.env)).all (λx=>x.1.isSome)
  && decide (([e,f]:List Expr).length+([]:List Keyword).length+(if ([]:List Keyword).isEmpty then 0 else 1)<30))=true
 line:(apos.endLine == cpos.line)=true
 trees:backTo cpos (starEach [e,f] X.env)=[(false,eval e X.env),(false,eval f X.env)]
def IsD(H:Hp)(a:Addr):Prop:=(∃kvs,Rd H a (.dK kvs))\/∃kvs,Rd H a (.dT kvs)
theorem qeI{X:Cx}{p_:QAC}{σ:St}{H:Hp}{s:Shared}{a:Addr}(I:Inv X p_ σ H s)(d:IsD H a) :
  s.TypeIs (.ref a) "dict" /\(∀b,Value.ref a = .ref b->∃ob,s.heap.get? b=some ob/\ob.dict=none)/\(a == sysModules)=false:=by
 rcases d with⟨kvs,e⟩|⟨kvs,e⟩
 ·obtain⟨_,hd,vs,_,dd⟩:=CT I.hok e;refine⟨dd.typeIs,λb q=>?_,hd⟩;cases q;obtain⟨ob,_,_,h1,h2,_⟩:=dd;exact⟨ob,h1,h2.2.1⟩
 ·obtain⟨_,hd,xs,_,dd⟩:=CV I.hok e;refine⟨dd.typeIs,λb q=>?_,hd⟩;cases q;obtain⟨ob,_,_,h1,h2,_⟩:=dd;exact⟨ob,h1,h2.2.1⟩
section
variable {X:Cx}{p_:QAC}{σ:St}{H:Hp}{s:Shared}{a:Addr}{y d:V}{u r:Value}{o:Option V}{A:Around}{E:QAB}
theorem qeJ{Q:QAB}(hu:A.units+1<cLine)(I:Inv X p_ σ H s)(g:k_ H a y o)(ry:RelV y u)(rd:RelV d r)(h:∀w' s',Inv X p_ σ H s'->RelV (o.getD d) w'->Q w' s') :
  wpAny (model X.prog X.w) A (call (.builtin "dict.get") [.ref a,u,r]) Q E s:=by
 rcases g with⟨kvs,k,e,ey,l⟩|⟨kvs,k,b,e,ey,eb,l⟩
 ·subst ey;obtain⟨z,hd,vs,rel,dd⟩:=CT I.hok e;refine call_meetsIn PySem.F.slot_dict_get dd.typeIs PySem.F.entry_dict_get (PySem.F.args_dict_get_3 _ _ _) (meets_dict_get_default (bM X.prog X.w) a (CQ ry) hd r) ⟨_,dd.mapOf,h _ _ (I.tok _) ?_⟩;rw[l];exact(rel.val k).getD rd
 ·subst ey;cases (show u=Value.ref b from ry);obtain⟨z,hd,xs,rel,dd⟩:=CV I.hok e;refine call_meetsIn PySem.F.slot_dict_get dd.typeIs PySem.F.entry_dict_get (PySem.F.args_dict_get_3 _ _ _) (meetsH_dict_get_default (tupleKind (bM X.prog X.w)) a b hd r) ⟨qog hu,k,xs,zF I.hok eb,dd,h _ _ (I.tok _) ?_⟩;rw[l];exact(rel.val k).getD rd
end
def Q7(td ty tx:TE):TE:=λσ H Q=>td σ H λx H1=>∃a,x = .ref a/\IsD H1 a/\ty σ H1 λy H2=>tx σ H2 λz H3=>∃o,k_ H3 a y o/\Q (o.getD z) H3
section
variable {X:Cx}{o e f:Expr}{apos cpos:Pos}{td ty tx:TE}
theorem M7(hu:X.A.units+1<cLine)(ho:PE X o td)(he:PE X e ty)(hf:PE X f tx) (m:M2 X o "get" apos e f cpos):PE X (.Call (.Attribute o "get" apos) [e,f] [] cpos) (Q7 td ty tx):=by
 intro p_ s σ H Q I h;refine wpAny_Call_method m.base m.few m.line PySem.F.plainAttrs_dict PySem.F.slot_dict_get PySem.F.type_dict_get (cT (ho p_ s σ H _ I h) λu s1 zz=>?_);obtain⟨x,H1,I1,rx,a,ex,d,q1⟩:=zz;subst ex;obtain rfl:u=Value.ref a:=rx;obtain⟨t1,t2,_⟩:=qeI I1 d;refine⟨t1,t2,?_⟩;rw[m.trees];refine Calls.callWith_builtin rfl (Calls.evalArgs_plain (Calls.spliced_cons (cT (he p_ s1 σ H1 _ I1 q1) λiv s2 ⟨y,H2,I2,ry,q2⟩=>
  Calls.spliced_cons (cT (hf p_ s2 σ H2 _ I2 q2) λfv s3 ⟨z,H3,I3,rz,ov,g,q3⟩=>Calls.spliced_nil ?_))))
 exact qeJ hu I3 g ry rz λw' s4 I4 YZ=>⟨_,H3,I4,YZ,q3⟩
end
structure Nm2(mg:Str->Option Value):Prop where
 enumerate:mg "enumerate" = none
 any:mg "any" = none
 dict:mg "dict" = none
 sorted:mg "sorted" = none
 repr:mg "repr" = none
 bool:mg "bool" = none
theorem Inv.qb9{X:Cx}{p_:QAC}{σ:St}{H:Hp}{s:Shared}{h2:Heap}{t':Nat}{x y:V}{u u':Value}(I:Inv X p_ σ H s)(I1:Inv X p_ σ H {s with heap:=h2,toks:=t'})(ru:RelV x u)(ru':RelV y u')
  (MJ:h2.get? s.heap.objs.size=some {cls:=.type "tuple",data:=.seq #[u,u']}):Inv X p_ σ (upd H s.heap.objs.size (.tup [x,y])) {s with heap:=h2,toks:=t'}:=by
 have hfr:H s.heap.objs.size=none:=I.hok.fresh (ql7 _);refine⟨I1.ok,I1.os,I1.bare,⟨I1.base.keep,I1.base.slot,λc o e n hx=>?_,I1.base.there,λc zs e=>?_,λc o v e=>?_,λc qs e=>?_⟩,I1.loc,I1.cell,?_,λv c e=>?_,λv hv=>?_,?_,I1.len⟩
 ·rw[aD (λe'=>?_)]
  ·exact I1.base.free c o e n hx
  ·exact absurd (qmf (ql8 e) I.sz) (by rw[e'];exact qm5 _)
 ·have e':=I1.base.tups c zs e;rw[aD (aN e' hfr)];exact e'
 ·have e':=I1.base.tM c o v e;rw[aD (aN e' hfr)];exact e'
 ·obtain⟨m,e'⟩:=I1.base.tO c qs e;exact⟨m,by rw[aD (aN e' hfr)];exact e'⟩
 ·rw[aD (qmg I.lt)];exact I1.free
 ·obtain⟨w',qc⟩:=I.cell v c e;rw[aD (qmg qc.lt)];exact I1.iW v c e
 ·obtain⟨f1,f2,f3⟩:=I1.pin v hv;refine⟨f1,?_,f3⟩;rw[aD (qmg (ql8 (I.pin v hv).1))];exact f2
 ·intro c v e
  by_cases hcs:c=s.heap.objs.size
  ·subst hcs;rw[ak] at e;cases e;exact⟨by show 2<=sizeLine;rw[qoc];decide,[u,u'],.cons ru (.cons ru' .nil),⟨_,MJ,rfl,0,rfl⟩⟩
  ·rw[aD hcs] at e;refine(I1.hok c v e).stay (λ_ _ _ qq=>qq) (λd qd=>?_) λd zs qd=>?_
   ·rw[aD (aN qd hfr)];exact qd
   ·rw[aD (aN qd hfr)];exact qd
def Ite(K:W.Frag)(a:Addr):It:=
 ⟨λi H=>∃xs x,aW K H a xs/\xs[i]? = some x,
  λi H v H'=>∃t x,v = .ref t/\H t=none/\H'=upd H t (.tup [.int i,x])/\∀xs,aW K H a xs->xs[i]? = some x,
  λi H=>∃xs,aW K H a xs/\xs.length<=i⟩
structure qeK(e it a:Addr)(i:Nat)(h:Heap):Prop where
 he:∃old,IsEnum h e it i old
 hi:h.IsListIter it a i
theorem Wg{P:Program}{w:World}{K:W.Frag}{es:List Expr}{k:Nat}{pos:Pos}{e it a:Addr}(nei:e≠it) :
  Turn P w K (.Tuple es k pos) (Ite K a) [e,it] e (qeK e it a) where
 mem:=by simp
 obj:=λi h st c hc=>by
  simp only[qmd,qmF,qnz] at hc
  rcases hc with rfl|rfl
  ·obtain⟨old,q⟩:=st.he;exact⟨_,q,λv e=>nomatch e⟩
  ·obtain⟨o,e,_,d⟩:=st.hi;exact⟨o,e,λv y=>by rw[d] at y;cases y⟩
 keep:=λi h h' st kk=>by
  obtain⟨old,q⟩:=st.he;exact⟨⟨old,kk e (by simp) _ q⟩,st.hi.at λo z=>kk it (by simp) o z⟩
 item:=by
  intro X hP hw hK hc i p_ s σ H E I hf st hg;subst hP hw hK;obtain⟨xs,x,qa,hx⟩:=hg;obtain⟨its,rv,pl,hz1⟩:=I.list qa;obtain⟨u,hu,ru⟩:=rv.get hx;obtain⟨old,hE⟩:=st.he;obtain⟨o1,e1,c1,_⟩:=id st.hi;refine wpAny_pyNext_enum_item hE st.hi pl.isList (x:=u) (by simpa using hu) nei λh' a1 a2 a3 a4 kk=>?_;refine⟨_,rfl,wpAny_letOwnedTupleGo_enum a1 λh2 b1 sb=>?_⟩;have lt:∀{c o},s.heap.get? c=some o->s.heap.objs.size≠c:=λe=>qns (ql8 e);have hn:H s.heap.objs.size=none:=I.hok.fresh (ql7 _);have kk2:∀c o,c∉[e,it]->s.heap.get? c=some o->h2.get? c=some o:=λc o hc z=>by
   simp only[qmd,qmF,qnz,not_or] at hc;exact(sb.2 c hc.1).trans (kk c o hc.1 hc.2 z)
  have I1:Inv X p_ σ H {s with heap:=h2,toks:=s.toks+1}:=I.BJ kk2 hf;have MJ:=sb.extBut _ _ (lt hE) a3;have I2:Inv X p_ σ (upd H s.heap.objs.size (.tup [.int i,x])) {s with heap:=h2,toks:=s.toks+1}:=I.qb9 I1 ⟨_,rfl⟩ ru MJ;refine⟨.ref s.heap.objs.size,_,I2,rfl,⟨s.heap.objs.size,x,rfl,hn,rfl,λxs' q'=>by rw[I.xU q' qa];exact hx⟩,?_,λc hcm=>?_⟩
  ·exact⟨⟨_,b1⟩,a2.extBut sb.extBut nei.symm⟩
  ·have hne:c≠s.heap.objs.size:=by
    simp only[qmd,qmF,qnz] at hcm
    rcases hcm with rfl|rfl
    ·exact(lt hE).symm
    ·exact(lt e1).symm
   rw[aD hne];exact(hf c hcm).1
 done:=by
  intro X hP hw hK hc i p_ s σ H E I hf st hg;subst hP hw hK;obtain⟨xs,qa,hl⟩:=hg;obtain⟨its,rv,pl,hz1⟩:=I.list qa;obtain⟨old,hE⟩:=st.he;have l1:=rv.length;refine wpAny_pyNext_enum_end (I.ok.hd hc) hE st.hi pl.isList (by simp;omega) λh' kk=>⟨rfl,I.BJ (t':=s.toks) (λc o hcm z=>?_) hf⟩;simp only[qmd,qmF,qnz,not_or] at hcm;exact kk c o hcm.2 z
 self:=λ_ _ _ _ _ st h=>by
  obtain⟨old,q⟩:=st.he;exact wpAny_pyIter_enum q h
section
variable {X:Cx}{K:W.Frag}
def Zn(K:W.Frag)(t:TA):TI:=λσ H R=>t σ H λvs H1=>∃a xs,vs=[.ref a]/\aW K H1 a xs/\R (Ite K a) H1
theorem Ht:bootBuiltins "enumerate" = some (.type "enumerate"):=by decide+kernel
theorem JL(hK:X.K=K){es:List Expr}{k:Nat}{pos':Pos}{a:Expr}{ta:TA}{p pos:Pos} (hg:Gl X "enumerate") (hm:X.mg "enumerate" = none) (ha:PA X [a] ta)
  (hs:starEach [a] X.env=[(false,eval a X.env)]:=by rfl) :
  PI X (.Tuple es k pos') (.Call (.Name "enumerate" p) [a] [] pos) (Zn K ta):=by
 subst hK;intro p_ s σ H R I h;refine Call_ (qj I hg hm Ht (qm2 (cT (ha pos p_ s σ H _ I h) λus s1 zz=>?_) (by rw[hs];rfl) (by rfl)));obtain⟨vs,H1,I1,r1,q1⟩:=zz;obtain⟨l1,xs,e,qa,q⟩:=q1;subst e;obtain⟨u,rfl,r⟩:=vals1 r1;obtain rfl:u=Value.ref l1:=r;obtain⟨its,rv,pl,hz1⟩:=I1.list qa;refine call_enumerate_list pl.isList λh' b1 b2 b3 kk=>?_;refine wpAny_pyIter_enum (s:={s1 with heap:=h'}) b1 ?_;have I2:Inv X p_ σ H1 {s1 with heap:=h'}:=I1.kept (t':=s1.toks) kk;refine⟨s1.heap.objs.size+1,[s1.heap.objs.size+1,s1.heap.objs.size],_,_,H1,rfl,I2,Wg (Nat.succ_ne_self _),⟨⟨_,b1⟩,b2⟩,λc hc=>?_,q⟩;have hle:s1.heap.objs.size<=c:=by
  simp only[qmd,qmF,qnz] at hc
  rcases hc with rfl|rfl <;> first|exact Nat.le_add_right _ _|exact ql7 _
 exact I1.Gh hle (I1.hok.fresh hle)
end
section
variable {X:Cx}{K:W.Frag}{tg:Expr}
theorem Uo(hK:X.K=K){es:List Expr}{k:Nat}{pos':Pos}{a b:Expr}{ta:TA}{p pos:Pos} (hg:Gl X "zip") (hm:X.mg "zip" = none) (ha:PA X [a,b] ta)
  (hs:starEach [a,b] X.env=[(false,eval a X.env),(false,eval b X.env)]:=by rfl) (hs2:starEach [b] X.env=[(false,eval b X.env)]:=by rfl) :
  PI X (.Tuple es k pos') (.Call (.Name "zip" p) [a,b] [] pos) (qbX K ta):=by subst hK;exact qey hg hm ha hs hs2
theorem Uq(hK:X.K=K){o value:Expr}{ta tv:TE}{f:Str}{pos pos':Pos}(ha:PE X o ta)(hv:PE X value tv)(hs:swapsWith value (some (.Attribute o f pos')) pos.line X.env=pure false):PS X (.Assign [.Attribute o f pos'] value pos) (qej K ta tv f):=by subst hK;exact qel ha hv hs
end
@[simp ↓] theorem qjO (i:Nat) σ H Q:qbH i σ H Q=(∃v,σ[i]? = some (some v)/\Q v H):=rfl
@[simp ↓] theorem qlF (v:V) z0 H Q:tC v z0 H Q=(Q v H):=rfl
@[simp ↓] theorem qlG (t:TE) σ H Q:tB t σ H Q=(t σ H λx H1=>∃c,x = .bl c/\Q c H1):=rfl
@[simp ↓] theorem qjP (t:TT) σ H Q:qge t σ H Q=(t σ H λc H1=>Q (!c) H1):=rfl
@[simp ↓] theorem qiA (ta:TE) σ H Q:Yn ta σ H Q=(ta σ H λx H1=>∃c,x = .bl c/\Q (.bl (!c)) H1):=rfl
@[simp ↓] theorem qiB D σ H:qdc  D σ H=(D.nx σ H):=rfl
@[simp ↓] theorem qjQ (t u:TS) D σ H:qbI t u D σ H=(t {D with nx:=u D} σ H):=rfl
@[simp ↓] theorem qiC (te:TE) D σ H:qdd te D σ H=(te σ H λ_ H1=>D.nx σ H1):=rfl
@[simp ↓] theorem qjR (te:TE) D σ H:qd5 te D σ H=(te σ H D.rt):=rfl
@[simp ↓] theorem qgF z0 z1 z2:Yp  z0 z1 z2=(False):=rfl
@[simp ↓] theorem qiD (i:Nat) v σ H Q:Al i v σ H Q=(Q (σ.set i (some v)) H):=rfl
@[simp ↓] theorem qjS vs σ H Q:qd6  vs σ H Q=(vs=[]/\Q σ H):=rfl
@[simp ↓] theorem qiE (t:TG)(u:L_) vs σ H Q:Yq t u vs σ H Q=(∃v r,vs=v::r/\t v σ H λσ' H'=>u r σ' H' Q):=rfl
@[simp ↓] theorem qjT (K:W.Frag)(n:Nat)(t:L_) v σ H Q:qbK K n t v σ H Q=(∃a xs,v = .ref a/\eG K H a xs/\xs.length=n/\t xs σ H Q):=rfl
@[simp ↓] theorem qjU (to ti:TE)(t:Vu) v σ H Q:qgf to ti t v σ H Q=(to σ H λo H1=>ti σ H1 λi H2=>t o i v H2 λH3=>Q σ H3):=rfl
@[simp ↓] theorem qjV (te:TE)(g:TG) D σ H:Vw te g D σ H=(te σ H λx H1=>g x σ H1 D.nx):=rfl
@[simp ↓] theorem qjW (i:Nat)(te:TE)(ti:TIp) D σ H:qd8 i te ti D σ H=(∃x,σ[i]? = some (some x)/\te σ H λy H1=>ti x y H1 λz H2=>D.nx (σ.set i (some z)) H2):=rfl
@[simp ↓] theorem qlc (f:Int->Int->Int) x y H Q:ipI f x y H Q=(∃i j,x = .int i/\y = .int j/\Q (.int (f i j)) H):=rfl
@[simp ↓] theorem qiF (K:W.Frag)(tl:TE) σ H R:T9 K tl σ H R=(tl σ H λx H1=>∃a,x = .ref a/\(∃xs,aW K H1 a xs)/\R (X_ K a) H1):=rfl
@[simp ↓] theorem qiG (ta:TA) σ H R:Yu ta σ H R=(ta σ H λvs H1=>∃j:Int,vs=[.int j]/\-(2 ^ 62)<=j/\j<2 ^ 62/\R (Qp 0 j.toNat) H1):=rfl
@[simp ↓] theorem qiH (ta:TA) σ H R:Yv ta σ H R=(ta σ H λvs H1=>∃i j:Int,vs=[.int i,.int j]/\(-(2 ^ 62)<=i/\i<2 ^ 62/\-(2 ^ 62)<=j/\j<2 ^ 62)/\R (Qp i (j - i).toNat) H1):=rfl
@[simp ↓] theorem qld (r:R2)(ta tb:TE) σ H Q:Mr r ta tb σ H Q=(ta σ H λx H1=>tb σ H1 λy H2=>r x y H2 Q):=rfl
@[simp ↓] theorem qle (r:V->Hp->VK->Prop)(ta:TE) σ H Q:tUn r ta σ H Q=(ta σ H λx H1=>r x H1 Q):=rfl
@[simp ↓] theorem qiI (t:TE) σ H Q:Ud t σ H Q=(t σ H λx H'=>∃k,x = .bl k/\Q k H'):=rfl
@[simp ↓] theorem qjX (K:W.Frag)(ta:TE)(f:Str) σ H Q:qbR K ta f σ H Q=(ta σ H λx H1=>∃a C dx fs v,x = .ref a/\H1 a=some (.ins C dx fs)/\Cls K C/\mK K C f/\fs.lookup f=some v/\Q v H1):=rfl
@[simp ↓] theorem qjY (K:W.Frag)(ta tv:TE)(f:Str) D σ H:qej K ta tv f D σ H=(tv σ H λy H1=>ta σ H1 λx H2=>∃a C dx fs,x = .ref a/\H2 a=some (.ins C dx fs)/\Cls K C/\mK K C f/\fs.length<1000/\D.nx σ (upd H2 a (.ins C dx (kW f y fs)))):=rfl
@[simp ↓] theorem qjZ z0 H Q:Bq  z0 H Q=(Q [] H):=rfl
@[simp ↓] theorem qiJ (ta:TE)(tr:TA) σ H Q:ud ta tr σ H Q=(ta σ H λx H1=>tr σ H1 λxs H2=>Q (x::xs) H2):=rfl
@[simp ↓] theorem qj0 (t:TA) σ H Q:qem t σ H Q=(t σ H λxs H1=>xs.length<=sizeLine/\∀p,H1 p=none->Q (.ref p) (upd H1 p (.tup xs))):=rfl
@[simp ↓] theorem qj1 (t:TA) σ H Q:YH t σ H Q=(t σ H λxs H1=>xs.length<=sizeLine/\∀p,H1 p=none->Q (.ref p) (upd H1 p (.lst xs))):=rfl
@[simp ↓] theorem qlf (r:List V->Hp->VK->Prop)(t:TA) σ H Q:tCB r t σ H Q=(t σ H λvs H1=>r vs H1 Q):=rfl
@[simp ↓] theorem qfZ z0 H Q:xX  z0 H Q=(Q none H):=rfl
@[simp ↓] theorem qiK (t:TE) σ H Q:YW t σ H Q=(t σ H λx H1=>∃i,x = .int i/\Q (some i) H1):=rfl
@[simp ↓] theorem qlg (r:V->Option Int->Option Int->Hp->VK->Prop)(te:TE)(tl th:TO) σ H Q:tSl r te tl th σ H Q=(te σ H λx H1=>tl σ H1 λl H2=>th σ H2 λu H3=>r x l u H3 Q):=rfl
@[simp ↓] theorem qlh (K:W.Frag)(T:String)(r:V->List V->Hp->VK->Prop)(to:TE)(t:TA) σ H Q:tBM K T r to t σ H Q=(to σ H λx H1=>tyV K T x H1/\t σ H1 λxs H2=>r x xs H2 Q):=rfl
@[simp ↓] theorem qj2 x y H Q:qgs  x y H Q=(∃l k xs,x = .ref l/\y = .int k/\H l=some (.lst xs)/\-(2 ^ 63)<=k/\k<2 ^ 63/\xs.length * k.toNat<=sizeLine/\∀p,H p=none->Q (.ref p) (upd H p (.lst (List.replicate k.toNat xs).flatten))):=rfl
@[simp ↓] theorem qj3 z0 H Q:qgx  z0 H Q=(Q true H):=rfl
@[simp ↓] theorem qj4 (tl:TE) σ H R:qew tl σ H R=(tl σ H λx H1=>∃z,x = .str z/\R (Its z) H1):=rfl
@[simp ↓] theorem qj5 (K:W.Frag)(t:TA) σ H R:qbX K t σ H R=(t σ H λvs H1=>∃a b xs ys,vs=[.ref a,.ref b]/\aW K H1 a xs/\aW K H1 b ys/\R (Itz K a b) H1):=rfl
@[simp ↓] theorem qj6 (K:W.Frag)(tl:TE) σ H R:qeD K tl σ H R=(tl σ H λx H1=>∃b p,x = .ref p/\(∃xs,SqB b K H1 p xs)/\R (Itq b K p) H1):=rfl
structure qj7(Q:VK) where
 n:Nat
structure qb_(g:TG)(tb:TS)(D:Ends) where
 n:Nat
structure qgG(c:TT)(tb:TS)(D:Ends) where
 n:Nat
structure qeL(g:TG)(tt:TT)(te:TE)(Q:Hp->Prop) where
 n:Nat
structure Q_(A B:Prop) where
 n:Nat
def Ra(sp:Sp)(vs:List V)(H:Hp)(Q:VK)(d:qj7 Q)(E:XK):Prop:=sp vs H Q E
def tFr(J:It)(g:TG)(tb:TS)(D:Ends)(d:qb_ g tb D)(σ:St)(H:Hp):Prop:=qeE J g tb D σ H
def tWh(c:TT)(tb:TS)(D:Ends)(d:qgG c tb D)(σ:St)(H:Hp):Prop:=Jm c tb D σ H
def tCm(own:QAH)(caps:List Nat)(J:It)(g:TG)(tt:TT)(te:TE)(Q:Hp->Prop)(d:qeL g tt te Q)(D:Addr)(σ:St)(H:Hp):Prop:=m9 own caps J g tt te D σ H Q
def eX(b:Bool)(A B:Prop)(d:Q_ A B):Prop:=if b=true then A else B
@[simp] theorem qli (A B:Prop)(d:Q_ A B):eX true A B d=A:=rfl
@[simp] theorem qlj (A B:Prop)(d:Q_ A B):eX false A B d=B:=rfl
theorem eX.of{b:Bool}{A B:Prop}{d:Q_ A B}(h1:b=true->A)(h2:b=false->B):eX b A B d:=by
 cases b with
 |true=>exact h1 rfl
 |false=>exact h2 rfl
theorem eX.pos{b:Bool}{A B:Prop}{d:Q_ A B}(h:b=true)(h1:A):eX b A B d:=by subst h;exact h1
theorem eX.neg{b:Bool}{A B:Prop}{d:Q_ A B}(h:b=false)(h1:B):eX b A B d:=by subst h;exact h1
@[simp ↓] theorem qiL (sp:Sp)(zq:List V)(E:XK)(t:TA)(σ:St)(H:Hp)(Q:VK):YK sp zq E t σ H Q=t σ H λvs H1=>Ra sp (vs++zq) H1 Q ⟨0⟩ E:=rfl
@[simp ↓] theorem qiM (C:Addr)(m:Str)(sp:Sp)(zq:List V)(E:XK)(ta:TE)(t:TA)(σ:St)(H:Hp)(Q:VK):YL C m sp zq E ta t σ H Q=ta σ H λx H1=>∃a dx fs,x = .ref a/\H1 a=some (.ins C dx fs)/\fs.lookup m=none/\t σ H1 λvs H2=>Ra sp (x::(vs++zq)) H2 Q ⟨0⟩ E:=rfl
@[simp ↓] theorem qiN (C:Addr)(sp:Sp)(zq:List V)(E:XK)(t:TA)(σ:St)(H:Hp)(Q:VK):YM C sp zq E t σ H Q=t σ H λvs H1=>∀x dx,H1 x=none->H1 dx=none->dx≠x->
 Ra sp (.ref x::(vs++zq)) (upd (upd H1 dx (.own x)) x (.ins C dx [])) (λv H2=>v = .non/\Q (.ref x) H2) ⟨0⟩ E:=rfl
@[simp ↓] theorem qj8 (wi:TI)(g:TG)(tb:TS)(D:Ends)(σ:St)(H:Hp):qgg wi g tb D σ H=wi σ H λJ H1=>tFr J g tb D ⟨0⟩ σ H1:=rfl
@[simp ↓] theorem qgH (c:TT)(tb:TS)(D:Ends)(σ:St)(H:Hp):Jm c tb D σ H=tWh c tb D ⟨0⟩ σ H:=rfl
@[simp ↓] theorem qiO (own:QAH)(caps:List Nat)(wi:TI)(g:TG)(tt:TT)(te:TE)(σ:St)(H:Hp)(Q:VK):Ui own caps wi g tt te σ H Q=wi σ H λJ H1=>∀D,H1 D=none->tCm own caps J g tt te (Q (.ref D)) ⟨0⟩ D σ (upd H1 D (.lst [])):=rfl
@[simp ↓] theorem qj9 (c:TT)(t u:TS)(D:Ends)(σ:St)(H:Hp):qbJ c t u D σ H=c σ H λb H1=>eX b (t D σ H1) (u D σ H1) ⟨0⟩:=rfl
@[simp ↓] theorem qlk (c:TT)(t u:TE)(σ:St)(H:Hp)(Q:VK):tIf c t u σ H Q=c σ H λb H1=>eX b (t σ H1 Q) (u σ H1 Q) ⟨0⟩:=rfl
@[simp ↓] theorem qj_ (t u:TT)(σ:St)(H:Hp)(Q:Bool->Hp->Prop):qgd t u σ H Q=t σ H λc H1=>eX c (u σ H1 Q) (Q false H1) ⟨0⟩:=rfl
@[simp ↓] theorem qll (t u:TT)(σ:St)(H:Hp)(Q:Bool->Hp->Prop):tOr t u σ H Q=t σ H λc H1=>eX c (Q true H1) (u σ H1 Q) ⟨0⟩:=rfl
@[simp ↓] theorem qiP (ta tb:TE)(σ:St)(H:Hp)(Q:VK):Ym ta tb σ H Q=ta σ H λx H1=>∃c,x = .bl c/\eX c (tb σ H1 Q) (Q (.bl false) H1) ⟨0⟩:=rfl
@[simp ↓] theorem qgI (r r':R2)(ta tb tc:TE)(σ:St)(H:Hp)(Q:VK):Jo r r' ta tb tc σ H Q=ta σ H λx H1=>tb σ H1 λy H2=>r x y H2 λz H3=>∃k,z = .bl k/\eX k (tc σ H3 λz H4=>r' y z H4 Q) (Q (.bl false) H3) ⟨0⟩:=rfl
def C_(g:TG)(tt:TT)(te:TE)(D:Addr)(N:St->Hp->Prop)(x:V)(σ:St)(H:Hp):Prop:=
 g x σ H λσ2 H3=>tt σ2 H3 λb H4=>eX b (te σ2 H4 λy H5=>∃ys,H5 D=some (.lst ys)/\ys.length<sizeLine/\N σ2 (upd H5 D (.lst (ys++[y])))) (N σ2 H4) ⟨0⟩
@[simp ↓] theorem qiQ (g:TG)(tt:TT)(te:TE)(D:Addr)(N:St->Hp->Prop)(x:V)(σ:St)(H:Hp):C_ g tt te D N x σ H =
 (g x σ H λσ2 H3=>tt σ2 H3 λb H4=>eX b (te σ2 H4 λy H5=>∃ys,H5 D=some (.lst ys)/\ys.length<sizeLine/\N σ2 (upd H5 D (.lst (ys++[y])))) (N σ2 H4) ⟨0⟩):=rfl
@[simp ↓] theorem qka {α:Type}(a b:α)(R:α->α->Prop):(∃v w,[a,b]=[v,w]/\R v w)=R a b:=by
 refine propext ⟨?_,λh=>⟨a,b,rfl,h⟩⟩;rintro⟨_,_,e,h⟩;cases e;exact h
@[simp] theorem qiR {α β:Type}(a:α)(b:β)(R:α->β->Prop):(∃v w,(a=v/\b=w)/\R v w)=R a b:=by
 refine propext ⟨?_,λh=>⟨a,b,⟨rfl,rfl⟩,h⟩⟩;rintro⟨_,_,⟨rfl,rfl⟩,h⟩;exact h
@[simp] theorem sz0:(0<=sizeLine)=True:=qnG (by decide)
@[simp] theorem sz1:(1<=sizeLine)=True:=qnG (by decide)
@[simp] theorem sz2:(2<=sizeLine)=True:=qnG (by decide)
@[simp] theorem sz3:(3<=sizeLine)=True:=qnG (by decide)
@[simp] theorem sz4:(4<=sizeLine)=True:=qnG (by decide)
@[simp] theorem sz5:(5<=sizeLine)=True:=qnG (by decide)
@[simp] theorem sz6:(6<=sizeLine)=True:=qnG (by decide)
@[simp] theorem sz7:(7<=sizeLine)=True:=qnG (by decide)
@[simp] theorem sz8:(8<=sizeLine)=True:=qnG (by decide)
@[simp] theorem sz9:(9<=sizeLine)=True:=qnG (by decide)
@[simp] theorem qlH:(10<=sizeLine)=True:=qnG (by decide)
@[simp] theorem qlI:(11<=sizeLine)=True:=qnG (by decide)
@[simp] theorem qlJ:(12<=sizeLine)=True:=qnG (by decide)
@[simp] theorem qlK:(13<=sizeLine)=True:=qnG (by decide)
@[simp] theorem qlL:(14<=sizeLine)=True:=qnG (by decide)
@[simp] theorem qlM:(15<=sizeLine)=True:=qnG (by decide)
@[simp] theorem qlN:(16<=sizeLine)=True:=qnG (by decide)
@[simp] theorem qlO:(17<=sizeLine)=True:=qnG (by decide)
@[simp] theorem qlP:(18<=sizeLine)=True:=qnG (by decide)
@[simp] theorem qlQ:(19<=sizeLine)=True:=qnG (by decide)
@[simp] theorem yj:(20<=sizeLine)=True:=qnG (by decide)
@[simp] theorem qiS (i j:Int):Bp (.int i) (.int j)=true:=rfl
@[simp] theorem qiT (i j:Str):Bp (.str i) (.str j)=true:=rfl
@[simp] theorem qiU (i j:Bool):Bp (.bl i) (.bl j)=true:=rfl
@[simp] theorem qiV (i:Int)(j:Str):Bp (.int i) (.str j)=true:=rfl
@[simp] theorem qiW (i:Int)(j:Str):Bp (.str j) (.int i)=true:=rfl
@[simp] theorem qgJ (K:W.Frag)(p:Addr)(H:Hp):tyV K "list" (.ref p) H=(∃xs,aW K H p xs):=by simp[tyV]
@[simp] theorem qiX (K:W.Frag)(p:Str)(H:Hp):tyV K "str" (.str p) H=True:=by simp[tyV]
section
variable {K:W.Frag}{l:Addr}{xs:List V}{g:TG}{tb:TS}{D:Ends}{d:qb_ g tb D}{σ:St}{H:Hp}
theorem frL(xs:List V)(Pv:Nat->St->Hp->Prop)(h0:Pv 0 σ H)(hl:∀i σ H,i<=xs.length->Pv i σ H->aW K H l xs)
  (hs:∀i x σ H,xs[i]? = some x->Pv i σ H->g x σ H λσ2 H2=>tb {D with nx:=Pv (i+1),ct:=Pv (i+1),bk:=D.nx} σ2 H2) (hd:∀σ H,Pv xs.length σ H->D.nx σ H):tFr (X_ K l) g tb D d σ H:=Yw Pv h0 hl hs hd
theorem frR{lo:Int}{n:Nat}(Pv:Nat->St->Hp->Prop)(h0:Pv 0 σ H)
  (hs:∀i σ H,i<n->Pv i σ H->g (.int (lo+i)) σ H λσ2 H2=>tb {D with nx:=Pv (i+1),ct:=Pv (i+1),bk:=D.nx} σ2 H2) (hd:∀σ H,Pv n σ H->D.nx σ H):tFr (Qp lo n) g tb D d σ H:=VB Pv h0 hs hd
end
section
variable {K:W.Frag}{own:QAH}{caps:List Nat}{g:TG}{tt:TT}{te:TE}{D l l1 l2:Addr}{σ:St}{H:Hp}{Q:Hp->Prop}{d:qeL g tt te Q}
theorem Wh(xs:List V)(Pv:Nat->St->Hp->Prop)(h0:Pv 0 (stC own caps σ) H)(hl:∀i σ H,i<=xs.length->Pv i σ H->aW K H l xs)
  (hs:∀i x σ H,xs[i]? = some x->Pv i σ H->C_ g tt te D (Pv (i+1)) x σ H) (hd:∀σ H,Pv xs.length σ H->Q H):tCm own caps (X_ K l) g tt te Q d D σ H:=Hr Pv h0 hl hs hd
theorem cmQ{b:Bool}(xs:List V)(Pv:Nat->St->Hp->Prop)(h0:Pv 0 (stC own caps σ) H)(hl:∀i σ H,i<=xs.length->Pv i σ H->SqB b K H l xs)
  (hs:∀i x σ H,xs[i]? = some x->Pv i σ H->C_ g tt te D (Pv (i+1)) x σ H) (hd:∀σ H,Pv xs.length σ H->Q H):tCm own caps (Itq b K l) g tt te Q d D σ H:=Ze Pv h0 hl hs hd
theorem cmR{lo:Int}{n:Nat}(Pv:Nat->St->Hp->Prop)(h0:Pv 0 (stC own caps σ) H)
  (hs:∀i σ H,i<n->Pv i σ H->C_ g tt te D (Pv (i+1)) (.int (lo+i)) σ H) (hd:∀σ H,Pv n σ H->Q H):tCm own caps (Qp lo n) g tt te Q d D σ H:=QZ Pv h0 hs hd
theorem cmS{z:Str}(Pv:Nat->St->Hp->Prop)(h0:Pv 0 (stC own caps σ) H)
  (hs:∀i c σ H,z.cps[i]? = some c->Pv i σ H->C_ g tt te D (Pv (i+1)) (.str ⟨#[c]⟩) σ H) (hd:∀σ H,Pv z.cps.size σ H->Q H):tCm own caps (Its z) g tt te Q d D σ H:=Zc Pv h0 hs hd
theorem cmZ(xs ys:List V)(Pv:Nat->St->Hp->Prop)(h0:Pv 0 (stC own caps σ) H)(he:xs.length=ys.length)(hl:∀i σ H,i<=xs.length->Pv i σ H->aW K H l1 xs/\aW K H l2 ys)
  (hs:∀i x y t σ H,xs[i]? = some x->ys[i]? = some y->H t=none->Pv i σ H->C_ g tt te D (Pv (i+1)) (.ref t) σ (upd H t (.tup [x,y]))) (hd:∀σ H,Pv xs.length σ H->Q H):tCm own caps (Itz K l1 l2) g tt te Q d D σ H:=Zd Pv h0 he hl hs hd
end
theorem Dc{c:Bool}{t u:TS}{D:Ends}{σ:St}{H:Hp}{d:Q_ (t D σ H) (u D σ H)}(R:St->Hp->Prop)(hc:∀σ H,R σ H->D.nx σ H)
  (h:∀N:St->Hp->Prop,(∀σ H,R σ H->N σ H)->eX c (t {D with nx:=N} σ H) (u {D with nx:=N} σ H) ⟨0⟩):eX c (t D σ H) (u D σ H) d:=h D.nx hc
theorem yp{α β:Type}{f:α->β}{ys zs:List β}(h:ys.Perm zs):∀l:List α,zs=l.map f->∃l':List α,l'.Perm l/\ys=l'.map f:=by
 induction h with
 |nil=>
  intro l e;cases l with
  |nil=>exact⟨[],.nil,rfl⟩
  |cons a l=>cases e
 |cons x _ ih=>
  intro l e;cases l with
  |nil=>cases e
  |cons a l=>
   simp only[qmG,List.cons.injEq] at e;obtain⟨l',p,e'⟩:=ih l e.2;exact⟨a::l',p.cons a,by rw[e',e.1,qmG]⟩
 |swap x y _=>
  intro l e
  match l,e with
  |a::b::l,e=>
   simp only[qmG,List.cons.injEq] at e;exact⟨b::a::l,.swap ..,by rw[e.1,e.2.1,e.2.2];rfl⟩
 |trans _ _ ih1 ih2=>
  intro l e;obtain⟨l',p,e'⟩:=ih2 l e;obtain⟨l2,p2,e2⟩:=ih1 l' e';exact⟨l2,p2.trans p,e2⟩
theorem Zo{α:Type}{xs:List α}{k:Nat}(h2:2<=xs.length)(hk:k<xs.length):∃j x,j≠k/\xs[j]? = some x/\Gi xs ((k:Int) - 1)=some x:=by
 cases k with
 |zero=>
  have hj:xs.length - 1<xs.length:=by omega
  refine⟨xs.length - 1,xs[xs.length - 1],by omega,by simp[hj],?_⟩;unfold Gi YX;rw[if_neg (by omega),if_pos (by omega)];have e:(((0:Nat):Int) - 1+xs.length).toNat=xs.length - 1:=by omega
  show xs[(((0:Nat):Int) - 1+xs.length).toNat]? = _;rw[e];simp[hj]
 |succ k=>
  have hj:k<xs.length:=by omega
  have e:((k+1:Nat):Int) - 1=(k:Int):=by omega
  rw[e];exact⟨k,xs[k],by omega,by simp[hj],bD (by simp[hj])⟩
end L2
namespace L2
open PySem
theorem JM(K:W.Frag):W.kitOne K (.type "list") (.type "int")=some false:=by simp[W.kitOne];rfl
theorem Gp(K:W.Frag):W.kitOne K (.type "list") (.type "bool")=some false:=by simp[W.kitOne];rfl
theorem Gq(K:W.Frag):W.kitOne K (.type "tuple") (.type "int")=some false:=by simp[W.kitOne];rfl
theorem Dd(K:W.Frag):W.kitOne K (.type "tuple") (.type "bool")=some false:=by simp[W.kitOne];rfl
theorem M8(K:W.Frag):W.kitOne K (.type "str") (.type "str")=some true:=by simp[W.kitOne]
theorem M9(K:W.Frag):W.kitOne K (.type "str") (.type "int")=some false:=by simp[W.kitOne];rfl
theorem JN(K:W.Frag):W.kitOne K (.type "str") (.type "bool")=some false:=by simp[W.kitOne];rfl
theorem M_(K:W.Frag):W.kitOne K (.type "int") (.type "int")=some true:=by simp[W.kitOne]
theorem JQ(K:W.Frag):W.kitOne K (.type "int") (.type "bool")=some false:=by simp[W.kitOne];rfl
theorem JR(K:W.Frag):W.kitOne K (.type "bool") (.type "int")=some true:=by simp[W.kitOne];rfl
theorem Gs(K:W.Frag):W.kitOne K (.type "bool") (.type "bool")=some true:=by simp[W.kitOne]
theorem JT(K:W.Frag):W.kitOne K (.type "dict") (.type "int")=some false:=by simp[W.kitOne];rfl
theorem Gu(K:W.Frag):W.kitOne K (.type "dict") (.type "bool")=some false:=by simp[W.kitOne];rfl
theorem zG(K:W.Frag):W.kitOne K (.type "NoneType") (.type "int")=some false:=by simp[W.kitOne];rfl
theorem yq(K:W.Frag):W.kitOne K (.type "NoneType") (.type "bool")=some false:=by simp[W.kitOne];rfl
end L2
namespace L2
open PySem PySem.Spec PyProof.Rows
section
variable {X:Cx}{K:W.Frag}
def qgK(K:W.Frag):R2:=λx y H Q=>∃d e,Is K H d x/\Is K H e y/\d.canLay0=true/\e.canLay0=true/\d.depth<=64/\Q (.bl (!PyData.eqv d e)) H
theorem qeM(hK:X.K=K)(hu:X.A.units+64<cLine):iY X (compareOp .NotEq) (qgK K):=by
 subst hK;intro p_ s σ H x y v u Q I rx ry h;obtain⟨d,e,h1,h2,h3,h4,h5,q⟩:=h;exact qez p_ s σ H x y v u Q I rx ry ⟨d,e,h1,h2,h3,h4,by omega,q⟩
end
@[simp ↓] theorem qiY (td ty:TE)(σ:St)(H:Hp)(Q:VK):Zj td ty σ H Q=(td σ H λx H1=>ty σ H1 λy H2=>∃a v,x = .ref a/\k_ H2 a y (some v)/\Q v H2):=rfl
@[simp ↓] theorem qkb (ty td:TE)(σ:St)(H:Hp)(Q:VK):qeG ty td σ H Q=(ty σ H λy H1=>td σ H1 λx H2=>∃a o,x = .ref a/\k_ H2 a y o/\Q (.bl o.isSome) H2):=rfl
@[simp ↓] theorem qf0 (ty td:TE)(σ:St)(H:Hp)(Q:VK):JK ty td σ H Q=(ty σ H λy H1=>td σ H1 λx H2=>∃a o,x = .ref a/\k_ H2 a y o/\Q (.bl (!o.isSome)) H2):=rfl
@[simp ↓] theorem qiZ (td ty tv:TE)(D:Ends)(σ:St)(H:Hp):Zk td ty tv D σ H=(tv σ H λv H1=>td σ H1 λx H2=>ty σ H2 λy H3=>∃a H4,x = .ref a/\JG H3 a y v H4/\D.nx σ H4):=rfl
@[simp ↓] theorem qgL (σ:St)(H:Hp)(Q:VK):Q6 σ H Q=(∀p,H p=none->Q (.ref p) (upd H p (.dK []))):=rfl
@[simp ↓] theorem qi0 (Yc:List (TE×TE))(σ:St)(H:Hp)(Q:VK):qdl Yc σ H Q=(∀p,H p=none->wG Yc σ (upd H p (.dK [])) λps H2=>H2 p=some (.dK [])/\∃kvs:List (Key×V),ps=kvs.map (λkv=>(kV kv.1,kv.2))/\kvs.length<=15/\Q (.ref p) (upd H2 p (.dK (wH [] kvs)))):=rfl
@[simp ↓] theorem qgM (σ:St)(H:Hp)(Q:List (V×V)->Hp->Prop):wG [] σ H Q=Q [] H:=rfl
@[simp ↓] theorem qgN (tk tv:TE)(r:List (TE×TE))(σ:St)(H:Hp)(Q:List (V×V)->Hp->Prop):wG ((tk,tv)::r) σ H Q=(tk σ H λx H1=>tv σ H1 λy H2=>wG r σ H2 λps H3=>Q ((x,y)::ps) H3):=rfl
@[simp ↓] theorem qgO (td ty tx:TE)(σ:St)(H:Hp)(Q:VK):Q7 td ty tx σ H Q=(td σ H λx H1=>∃a,x = .ref a/\IsD H1 a/\ty σ H1 λy H2=>tx σ H2 λz H3=>∃o,k_ H3 a y o/\Q (o.getD z) H3):=rfl
@[simp ↓] theorem qi1 (K:W.Frag)(t:TA)(σ:St)(H:Hp)(R:It->Hp->Prop):Zn K t σ H R=(t σ H λvs H1=>∃a xs,vs=[.ref a]/\aW K H1 a xs/\R (Ite K a) H1):=rfl
theorem qgP{H:Hp}{a:Addr}{kvs:List (Key×V)}(i:Int)(e:H a=some (.dK kvs)):k_ H a (.int i) (mO kvs (Sum.inl i)):=k_.k (k:=Sum.inl i) e
theorem qeN{H:Hp}{a:Addr}{kvs:List (Key×V)}(x:Str)(e:H a=some (.dK kvs)):k_ H a (.str x) (mO kvs (Sum.inr x)):=k_.k (k:=Sum.inr x) e
theorem qkc{H:Hp}{a:Addr}{kvs:List (Key×V)}{v:V}(x:Str)(e:H a=some (.dK kvs))(hl:kvs.length<sizeLine):JG H a (.str x) v (upd H a (.dK (putK kvs (Sum.inr x) v))):=JG.k (k:=Sum.inr x) e hl
theorem isD{H:Hp}{a:Addr}{kvs:List (Key×V)}(e:H a=some (.dK kvs)):IsD H a:=.inl ⟨kvs,.inl e⟩
theorem range_any(bs:List Bool):(List.range bs.length).any (λi=>bs.getD i false)=bs.any id:=by
 rw[qnx,qnB,qnB];constructor
 ·rintro⟨i,hi,h⟩;have hi':=qm_.mp hi;refine⟨bs[i],List.getElem_mem hi',?_⟩;simpa [List.getD,hi'] using h
 ·rintro⟨b,hb,h⟩;obtain⟨i,hi,rfl⟩:=qos.mp hb;exact⟨i,qm_.mpr hi,by simpa [List.getD,hi] using h⟩
section
variable {X:Cx}{K:W.Frag}
def qdm:List V->Hp->VK->Prop:=λxs H Q=>∃a ys bs,xs=[.ref a]/\H a=some (.lst ys)/\pq ys bs/\Q (.bl (bs.any id)) H
theorem Wi(hc:X.calm=true):cg X (.builtin "any") qdm:=by
 intro p_ s σ H xs us Q I r h;obtain⟨a,ys,bs,rfl,ha,hb,q⟩:=h;obtain⟨u,rfl,ru⟩:=r.one;obtain rfl:u=Value.ref a:=ru;obtain⟨z,its,n,rv,hl,e⟩:=I.QL ha;obtain⟨h1,h2⟩:=hb.get rv;have hL:s.heap.IsList a its.toArray:=⟨_,e,rfl,n,rfl⟩;refine call_any_walk ?_;refine qon hL ?_;have hne:a≠s.heap.objs.size:=qmg (ql8 e);have hL2:(s.heap.push {cls:=.type "list_iterator",data:=.fields #[.ref a,.int 0 0]}).IsList a its.toArray:=⟨_,ql4 _ e,rfl,n,rfl⟩;refine⟨s.heap.objs.size,_,_,_,_,_,λi=>bs.getD i false,rfl,Walks.list (by exact I.ok.hd hc) s.heap.objs.size a hne its.toArray,⟨⟨_,qmc _ rfl,rfl,rfl⟩,hL2⟩,λi v s' Q' E' hP hQ=>?_,λh' tk kk=>?_⟩
 ·obtain rfl:=h2 i v (by simpa using hP);exact qnb hQ
 ·have e2:(List.range its.toArray.size).any (λi=>bs.getD i false)=bs.any id:=by
   rw[qmh,<- hl,h1];exact range_any bs
  rw[e2];refine⟨.bl _,H,?_,rfl,q⟩;exact I.kept (h':=h') (t':=tk) λb o eb=>kk b o (by simp;exact qmg (ql8 eb)) (ql4 _ eb)
end
section
variable {K:W.Frag}{l:Addr}{g:TG}{tb:TS}{D:Ends}{d:qb_ g tb D}{σ:St}{H:Hp}
theorem frE(xs:List V)(Pv:Nat->St->Hp->Prop)(h0:Pv 0 σ H)(hl:∀i σ H,i<=xs.length->Pv i σ H->aW K H l xs)
  (hs:∀i x t σ H,xs[i]? = some x->H t=none->Pv i σ H->g (.ref t) σ (upd H t (.tup [.int i,x])) λσ2 H2=>tb {D with nx:=Pv (i+1),ct:=Pv (i+1),bk:=D.nx} σ2 H2) (hd:∀σ H,Pv xs.length σ H->D.nx σ H):tFr (Ite K l) g tb D d σ H:=by
 refine⟨λi m σ H=>m=xs.length - i/\i<=xs.length/\Pv i σ H,⟨xs.length,by simp,qmP _,h0⟩,?_⟩;rintro i m σ H ⟨rfl,hi,p⟩;have q:=hl i σ H hi p
 by_cases hlt:i<xs.length
 ·refine .inr ⟨⟨xs,xs[i],q,by simp[hlt]⟩,Pv (i+1),λσ' H' p'=>⟨xs.length - (i+1),by omega,rfl,hlt,p'⟩,λx H' y=>?_⟩;obtain⟨t,u,rfl,ht,rfl,e⟩:=y;exact hs i u t σ H (e xs q) ht p
 ·have e:i=xs.length:=by omega
  subst e;exact .inl ⟨⟨xs,q,ql7 _⟩,hd σ H p⟩
end
section
variable {K:W.Frag}{own:QAH}{caps:List Nat}{g:TG}{tt:TT}{te:TE}{D l:Addr}{σ:St}{H:Hp}{Q:Hp->Prop}{d:qeL g tt te Q}
theorem cmE(xs:List V)(Pv:Nat->St->Hp->Prop)(h0:Pv 0 (stC own caps σ) H)(hl:∀i σ H,i<=xs.length->Pv i σ H->aW K H l xs)
  (hs:∀i x t σ H,xs[i]? = some x->H t=none->Pv i σ H->C_ g tt te D (Pv (i+1)) (.ref t) σ (upd H t (.tup [.int i,x]))) (hd:∀σ H,Pv xs.length σ H->Q H):tCm own caps (Ite K l) g tt te Q d D σ H:=by
 refine⟨λi m σ H=>m=xs.length - i/\i<=xs.length/\Pv i σ H,⟨xs.length,by simp,qmP _,h0⟩,?_⟩;rintro i m σ H ⟨rfl,hi,p⟩;have q:=hl i σ H hi p
 by_cases hlt:i<xs.length
 ·refine .inr ⟨⟨xs,xs[i],q,by simp[hlt]⟩,Pv (i+1),λσ' H' p'=>⟨xs.length - (i+1),by omega,rfl,hlt,p'⟩,λx H' y=>?_⟩;obtain⟨t,u,rfl,ht,rfl,e⟩:=y;exact hs i u t σ H (e xs q) ht p
 ·have e:i=xs.length:=by omega
  subst e;exact .inl ⟨⟨xs,q,ql7 _⟩,hd σ H p⟩
end
section
variable {c:TT}{tb:TS}{D:Ends}{d:qgG c tb D}{σ:St}{H:Hp}
theorem whB(Pv:St->Hp->Prop)(μ:St->Hp->Nat)(h0:Pv σ H)
  (hs:∀σ H,Pv σ H->c σ H λb H1=>eX b (tb {D with nx:=λσ' H'=>Pv σ' H'/\μ σ' H'<μ σ H,ct:=λσ' H'=>Pv σ' H'/\μ σ' H'<μ σ H,bk:=D.nx} σ H1) (D.nx σ H1) ⟨0⟩)
  (mono:∀σ H Q Q',(∀b H1,Q b H1->Q' b H1)->c σ H Q->c σ H Q'):tWh c tb D d σ H:=Yx Pv μ h0 hs mono
end
end L2
namespace L2
open PySem
inductive RT{α:Type}(R:α->α->Prop):α->α->Prop where
 |refl (a:α):RT R a a
 |tail {a b c:α}:RT R a b->R b c->RT R a c
theorem RT.one{α:Type}{R:α->α->Prop}{a b:α}(h:R a b):RT R a b:=.tail (.refl a) h
theorem RT.trans{α:Type}{R:α->α->Prop}{a b c:α}(h:RT R a b)(h2:RT R b c):RT R a c:=by
 induction h2 with
 |refl=>exact h
 |tail _ r ih=>exact .tail ih r
theorem RT.mono{α:Type}{R S:α->α->Prop}(h:∀a b,R a b->S a b){a b:α}(r:RT R a b):RT S a b:=by
 induction r with
 |refl=>exact .refl _
 |tail _ q ih=>exact .tail ih (h _ _ q)
theorem RT.symm{α:Type}{R:α->α->Prop}(h:∀a b,R a b->R b a){a b:α}(r:RT R a b):RT R b a:=by
 induction r with
 |refl=>exact .refl _
 |tail _ q ih=>exact(RT.one (h _ _ q)).trans ih
theorem RT.closed{α:Type}{R:α->α->Prop}{P:α->Prop}(hc:∀a b,R a b->P a->P b){a b:α}(ha:P a)(r:RT R a b):P b:=by
 induction r with
 |refl=>exact ha
 |tail _ q ih=>exact hc _ _ q ih
abbrev iM:=Nat×Str×Str
def jf(S:List iM)(a b:Str):Prop:=∃n,(n,a,b)∈S
def jQ(fx:Nat->Option Int)(e:Str×Str)(k:Nat):List iM:=
 (if (fx k).getD 0=0 then [(k,e.1,e.2)] else [])++(if (fx k).getD 1=1 then [(k,e.2,e.1)] else [])
def aH(fx:Nat->Option Int):QAD->Nat->List iM
 |[],_=>[]
 |e::r,k=>jQ fx e k++aH fx r (k+1)
theorem nY(fx:Nat->Option Int):∀(l m:QAD)(k:Nat),aH fx (l++m) k=aH fx l k++aH fx m (k+l.length)
 |[],m,k=>by simp[aH]
 |e::l,m,k=>by
  simp only[qnN,aH,nY fx l m (k+1),qmo,qmq];rw[show k+1+l.length=k+(l.length+1) by omega]
theorem rE(fx:Nat->Option Int){ps:QAD}{i:Nat}{e:Str×Str}(h:ps[i]? = some e):aH fx (ps.take (i+1)) 0=aH fx (ps.take i) 0++jQ fx e i:=by
 have hi:i<ps.length:=(ql2.mp h).1;rw[take_one h,nY,qmk,qnm (qnr hi),qm7];simp[aH]
theorem lg{fx:Nat->Option Int}{e:Str×Str}{k:Nat}{s:iM}:s∈jQ fx e k↔s.1=k/\(((fx k).getD 0=0/\s.2.1=e.1/\s.2.2=e.2)\/((fx k).getD 1=1/\s.2.1=e.2/\s.2.2=e.1)):=by
 obtain⟨n,a,b⟩:=s;unfold jQ;rw[qmm];constructor
 ·rintro(h|h)
  ·split at h
   ·rename_i h0;simp at h;exact⟨h.1,.inl ⟨h0,h.2.1,h.2.2⟩⟩
   ·simp at h
  ·split at h
   ·rename_i h0;simp at h;exact⟨h.1,.inr ⟨h0,h.2.1,h.2.2⟩⟩
   ·simp at h
 ·rintro⟨rfl,⟨h0,rfl,rfl⟩|⟨h0,rfl,rfl⟩⟩
  ·exact .inl (by rw[if_pos h0];simp)
  ·exact .inr (by rw[if_pos h0];simp)
theorem jE{fx:Nat->Option Int}:∀{ps:QAD}{k:Nat}{s:iM},s∈aH fx ps k↔∃j e,ps[j]? = some e/\s∈jQ fx e (k+j)
 |[],k,s=>by simp[aH]
 |e::r,k,s=>by
  simp only[aH,qmm,jE (ps:=r)];constructor
  ·rintro(h|⟨j,e',h1,h2⟩)
   ·exact⟨0,e,rfl,h⟩
   ·exact⟨j+1,e',by simpa using h1,by rw[show k+(j+1)=k+1+j by omega];exact h2⟩
  ·rintro⟨j,e',h1,h2⟩;cases j with
   |zero=>simp at h1;subst h1;exact .inl h2
   |succ j=>exact .inr ⟨j,e',by simpa using h1,by rw[show k+1+j=k+(j+1) by omega];exact h2⟩
def g_(P:Nat->Prop)(ps:QAD)(a b:Str):Prop:=∃k,P k/\(ps[k]? = some (a,b)\/ps[k]? = some (b,a))
theorem g_.symm{P:Nat->Prop}{ps:QAD}{a b:Str}(h:g_ P ps a b):g_ P ps b a:=by
 obtain⟨k,hk,h⟩:=h;exact⟨k,hk,h.symm⟩
theorem wI{P:Nat->Prop} [DecidablePred P] {ps:QAD}{a b:Str}:jf ((aH (λ_=>none) ps 0).filter λs=>decide (P s.1)) a b↔g_ P ps a b:=by
 unfold jf g_;constructor
 ·rintro⟨n,h⟩;obtain⟨h,hP⟩:=qm9.mp h;obtain⟨j,e,h1,h2⟩:=jE.mp h;rw[qm7] at h2;obtain⟨rfl,h3⟩:=lg.mp h2;refine⟨_,qmj hP,?_⟩
  rcases h3 with⟨_,h3,h4⟩|⟨_,h3,h4⟩
  ·simp only at h3 h4;subst h3 h4;exact .inl h1
  ·simp only at h3 h4;subst h3 h4;exact .inr h1
 ·rintro⟨k,hP,h⟩;refine⟨k,qm9.mpr ⟨jE.mpr ?_,qm0 hP⟩⟩
  rcases h with h|h
  ·exact⟨k,_,h,by rw[qm7];exact lg.mpr ⟨rfl,.inl ⟨rfl,rfl,rfl⟩⟩⟩
  ·exact⟨k,_,h,by rw[qm7];exact lg.mpr ⟨rfl,.inr ⟨rfl,rfl,rfl⟩⟩⟩
theorem Wj{ps:QAD}{a b:Str}:jf (aH (λ_=>none) ps 0) a b↔g_ (λ_=>True) ps a b:=by
 have e:((aH (λ_=>none) ps 0).filter λs=>decide ((λ_:Nat=>True) s.1))=aH (λ_=>none) ps 0:=qoD.mpr (by simp);rw[<- wI (P:=λ_=>True),e]
end L2
namespace L2
open PySem PySem.Spec PyProof.Rows
def bH{β:Type}(R:Hp->V->β->Prop)(H:Hp)(vs:List V)(bs:List β):Prop:=vs.length=bs.length/\∀(i:Nat) v b,vs[i]? = some v->bs[i]? = some b->R H v b
section
variable {β:Type}{R:Hp->V->β->Prop}{H H':Hp}{vs:List V}{bs:List β}
theorem bH.nil:bH R H [] []:=⟨rfl,λi v b h=>by simp at h⟩
theorem bH.keep(h:bH R H vs bs)(k:∀v b,R H v b->R H' v b):bH R H' vs bs:=⟨h.1,λi v b h1 h2=>k v b (h.2 i v b h1 h2)⟩
theorem bH.at(h:bH R H vs bs){i:Nat}{v:V}(hv:vs[i]? = some v):∃b,bs[i]? = some b/\R H v b:=by
 have hi:i<bs.length:=by rw[<- h.1];exact(ql2.mp hv).1
 exact⟨bs[i],by simp[hi],h.2 i v _ hv (by simp[hi])⟩
theorem bH.snoc{v:V}{b:β}(h:bH R H vs bs)(hv:R H v b):bH R H (vs++[v]) (bs++[b]):=by
 refine⟨by simp[h.1],λi u d h1 h2=>?_⟩
 by_cases hi:i<vs.length
 ·rw[qms hi] at h1;rw[qms (by rw[<- h.1];exact hi)] at h2;exact h.2 i u d h1 h2
 ·rw[qmu (by omega)] at h1;rw[qmu (by rw[<- h.1];omega),<- h.1] at h2;cases hk:i - vs.length with
  |zero=>
   rw[hk] at h1 h2;cases h1;cases h2;exact hv
  |succ j=>
   rw[hk] at h1;simp at h1
end
def Nb(H:Hp)(v:V)(s:iM):Prop:=∃t,v = .ref t/\H t=some (.tup [.int s.1,.str s.2.1,.str s.2.2])
def Zq(H:Hp)(v:V)(c:QAH):Prop:=∃t,v = .ref t/\H t=some (.lst (c.map V.str))
abbrev cW:=bH Nb
abbrev yr:=bH Zq
def cX(H H':Hp):Prop:=∀b xs,H b=some (.tup xs)->H' b=some (.tup xs)
theorem cX.of{H H':Hp}(s:Same H H'):cX H H':=λb xs e=>s b _ e
theorem cX.set{H:Hp}{p:Addr}{o u:HO}(h:H p=some o)(hn:∀xs,o≠.tup xs):cX H (upd H p u):=λb xs e=>by
 rw[aD (λz=>by subst z;rw[h] at e;exact hn xs (qmB e))];exact e
theorem Nb.keep{H H':Hp}(k:cX H H'):∀v s,Nb H v s->Nb H' v s:=λv s ⟨t,e,h⟩=>⟨t,e,k _ _ h⟩
theorem cW.keep{H H':Hp}{vs:List V}{S:List iM}(h:cW H vs S)(k:cX H H'):cW H' vs S:=bH.keep h (Nb.keep k)
theorem yr.same{H H':Hp}{vs:List V}{S:List (QAH)}(h:yr H vs S)(k:Same H H'):yr H' vs S:=bH.keep h λv s ⟨t,e,q⟩=>⟨t,e,k _ _ q⟩
def qdn(H:Hp)(d:Addr)(fx:Nat->Option Int):Prop:=∃kvs,H d=some (.dK kvs)/\∀k:Nat,mO kvs (Sum.inl (k:Int))=(fx k).map V.int
theorem Nf{H:Hp}{d:Addr}(h:H d=some (.dK [])):qdn H d (λ_=>none):=⟨[],h,λ_=>rfl⟩
theorem Ng(o:Option Int)(x:Int):(o.map V.int).getD (.int x) = .int (o.getD x):=by cases o <;> rfl
end L2
namespace L2
open PySem
inductive Aq(S:List iM)(a:Str):List Nat->List Str->Str->Prop where
 |nil:Aq S a [] [a] a
 |snoc {w:List Nat}{vs:QAH}{b c:Str}{n:Nat}:Aq S a w vs b->(n,b,c)∈S->Aq S a (w++[n]) (vs++[c]) c
theorem Aq.reach{S:List iM}{a:Str}{w:List Nat}{vs:QAH}{b:Str}(h:Aq S a w vs b):RT (jf S) a b:=by
 induction h with
 |nil=>exact .refl _
 |snoc _ q ih=>exact .tail ih ⟨_,q⟩
inductive Walk(S:List iM)(a:Str):Nat->Str->Prop where
 |nil:Walk S a 0 a
 |snoc {k:Nat}{b c:Str}{n:Nat}:Walk S a k b->(n,b,c)∈S->Walk S a (k+1) c
theorem Walk.of{S:List iM}{a b:Str}(h:RT (jf S) a b):∃k,Walk S a k b:=by
 induction h with
 |refl=>exact⟨0,.nil⟩
 |tail _ q ih=>
  obtain⟨k,hk⟩:=ih;obtain⟨n,hn⟩:=q;exact⟨k+1,.snoc hk hn⟩
abbrev BR:=List (Str×List Nat)
structure Qq(S:List iM)(a:Str)(at_:Nat)(R:BR):Prop where
 st:R[0]? = some (a,[])
 nd:(R.map (·.1)).Nodup
 pth:∀y w,(y,w)∈R->∃vs,Aq S a w vs y/\vs.Nodup/\∀v∈vs,v∈R.map (·.1)
 cl:∀(i:Nat) y w,i<at_->R[i]? = some (y,w)->∀n c,(n,y,c)∈S->∃w',(c,w')∈R/\w'.length<=w.length+1
 mono:∀(i j:Nat) y w z u,i<=j->R[i]? = some (y,w)->R[j]? = some (z,u)->w.length<=u.length
 bd:∀(y:Str)(w:List Nat) z u,R[at_]? = some (y,w)->(z,u)∈R->u.length<=w.length+1
structure mQ(S T:List iM)(a:Str)(at_:Nat)(h:Str)(wh:List Nat)(R:BR):Prop where
 bf:Qq S a at_ R
 hr:R[at_]? = some (h,wh)
 md:∀n c,(n,h,c)∈T->∃w',(c,w')∈R/\w'.length<=wh.length+1
theorem Qq.begin(S:List iM)(a:Str):Qq S a 0 [(a,[])]:=by
 refine⟨rfl,by simp,?_,by intro i y w h;omega,?_,?_⟩
 ·intro y w h;simp at h;obtain⟨rfl,rfl⟩:=h;exact⟨[y],.nil,by simp,by simp⟩
 ·intro i j y w z u hij h1 h2;have hi:i=0:=by have:=(ql2.mp h1).1;simp at this;omega
  have hj:j=0:=by have:=(ql2.mp h2).1;simp at this;omega
  subst hi hj;rw[h1] at h2;cases h2;exact ql7 _
 ·intro y w z u h1 h2;simp at h1 h2;rw[h2.2,<- h1.2];simp
theorem mQ.enter{S:List iM}{a:Str}{at_:Nat}{h:Str}{wh:List Nat}{R:BR}(b:Qq S a at_ R)(hr:R[at_]? = some (h,wh)):mQ S [] a at_ h wh R:=⟨b,hr,by simp⟩
theorem mQ.skip{S T:List iM}{a:Str}{at_:Nat}{h:Str}{wh:List Nat}{R:BR}(b:mQ S T a at_ h wh R){s:iM}(hs:s.2.1=h->s.2.2∈R.map (·.1)):mQ S (T++[s]) a at_ h wh R:=by
 refine⟨b.bf,b.hr,λn c hm=>?_⟩
 rcases qmm.mp hm with q|q
 ·exact b.md n c q
 ·simp at q;subst q;obtain⟨⟨c',w'⟩,hw,e⟩:=qmW.mp (hs rfl);simp only at e;subst e;exact⟨w',hw,b.bf.bd _ _ _ _ b.hr hw⟩
theorem mQ.add{S T:List iM}{a:Str}{at_:Nat}{h:Str}{wh:List Nat}{R:BR}(b:mQ S T a at_ h wh R){n:Nat}{c:Str}(hS:(n,h,c)∈S)(hc:¬c∈R.map (·.1)):mQ S (T++[(n,h,c)]) a at_ h wh (R++[(c,wh++[n])]):=by
 obtain⟨⟨st,nd,pth,cl,mono,bd⟩,hr,md⟩:=b;have hat:at_<R.length:=(ql2.mp hr).1;have ml:∀{i:Nat}{x},i<R.length->(R++[(c,wh++[n])])[i]? = some x->R[i]? = some x:=λhi e=>by rwa [qms hi] at e
 have last:∀{i:Nat}{x},¬i<R.length->(R++[(c,wh++[n])])[i]? = some x->x=(c,wh++[n]):=λhi e=>by
  rw[qmu (by omega)] at e;cases hk:_ - R.length with
  |zero=>rw[hk] at e;simp at e;exact e.symm
  |succ k=>rw[hk] at e;simp at e
 refine⟨⟨?_,?_,?_,?_,?_,?_⟩,?_,?_⟩
 ·rw[qms (by omega)];exact st
 ·rw[qnl,List.nodup_append];refine⟨nd,by simp,?_⟩;intro x hx y hy e;simp at hy;subst hy;exact hc (e▸hx)
 ·intro y w hy
  rcases qmm.mp hy with q|q
  ·obtain⟨vs,h1,h2,h3⟩:=pth y w q;exact⟨vs,h1,h2,λv hv=>by rw[qnl];exact qmt _ (h3 v hv)⟩
  ·simp at q;obtain⟨rfl,rfl⟩:=q;obtain⟨vs,h1,h2,h3⟩:=pth h wh (ql_ hr);refine⟨vs++[y],.snoc h1 hS,?_,?_⟩
   ·rw[List.nodup_append];refine⟨h2,by simp,?_⟩;intro x hx z hz e;simp at hz;subst hz;exact hc (e▸h3 x hx)
   ·intro v hv;rw[qnl]
    rcases qmm.mp hv with q|q
    ·exact qmt _ (h3 v q)
    ·simp at q;subst q;simp
 ·intro i y w hi e m c' hm;obtain⟨w',q1,q2⟩:=cl i y w hi (ml (by omega) e) m c' hm;exact⟨w',qmt _ q1,q2⟩
 ·intro i j y w z u hij h1 h2
  by_cases hj:j<R.length
  ·exact mono i j y w z u hij (ml (by omega) h1) (ml hj h2)
  ·have e2:=last hj h2;cases e2
   by_cases hi:i<R.length
   ·have:=bd h wh y w hr (ql_ (ml hi h1));simp;exact this
   ·have e1:=last hi h1;cases e1;exact ql7 _
 ·intro y w z u h1 h2;have h1':=ml hat h1;rw[hr] at h1';cases h1'
  rcases qmm.mp h2 with q|q
  ·exact bd _ _ z u hr q
  ·simp at q;rw[q.2];simp
 ·rw[qms hat];exact hr
 ·intro m c' hm
  rcases qmm.mp hm with q|q
  ·obtain⟨w',q1,q2⟩:=md m c' q;exact⟨w',qmt _ q1,q2⟩
  ·simp at q;obtain⟨rfl,rfl⟩:=q;exact⟨wh++[m],by simp,by simp⟩
theorem mQ.leave{S:List iM}{a:Str}{at_:Nat}{h:Str}{wh:List Nat}{R:BR}(b:mQ S S a at_ h wh R):Qq S a (at_+1) R:=by
 obtain⟨⟨st,nd,pth,cl,mono,bd⟩,hr,md⟩:=b;refine⟨st,nd,pth,?_,mono,?_⟩
 ·intro i y w hi e n c hm
  by_cases hia:i=at_
  ·subst hia;rw[hr] at e;cases e;exact md n c hm
  ·exact cl i y w (by omega) e n c hm
 ·intro y w z u h1 h2;have q1:=bd h wh z u hr h2;have q2:=mono at_ (at_+1) h wh y w (by omega) hr h1;omega
theorem Qq.all{S:List iM}{a:Str}{R:BR}(b:Qq S a R.length R){k:Nat}{y:Str}(h:Walk S a k y):∃w,(y,w)∈R/\w.length<=k:=by
 induction h with
 |nil=>exact⟨[],ql_ b.st,ql7 _⟩
 | @snoc k b' c n _ q ih=>
  obtain⟨w,h1,h2⟩:=ih;obtain⟨i,hi⟩:=qnR.mp h1;obtain⟨w',h3,h4⟩:=b.cl i b' w (ql2.mp hi).1 hi n c q;exact⟨w',h3,by omega⟩
theorem Qq.iff{S:List iM}{a:Str}{R:BR}(b:Qq S a R.length R)(y:Str):y∈R.map (·.1)↔RT (jf S) a y:=by
 constructor
 ·intro h;obtain⟨⟨z,w⟩,h1,e⟩:=qmW.mp h;simp only at e;subst e;obtain⟨vs,p,_⟩:=b.pth z w h1;exact p.reach
 ·intro h;obtain⟨k,hk⟩:=Walk.of h;obtain⟨w,h1,_⟩:=b.all hk;exact qmW.mpr ⟨(y,w),h1,rfl⟩
theorem Qq.sub{S:List iM}{a:Str}{i:Nat}{R:BR}(b:Qq S a i R){xs:QAH}(ha:a∈xs)(hS:∀s∈S,s.2.2∈xs):∀y∈R.map (·.1),y∈xs:=by
 intro y h;obtain⟨⟨z,w⟩,h1,e⟩:=qmW.mp h;simp only at e;subst e;obtain⟨vs,p,_⟩:=b.pth z w h1;cases p with
 |nil=>exact ha
 |snoc _ q=>exact hS _ q
theorem fV{α:Type} [DecidableEq α]:∀{l xs:List α},l.Nodup->(∀y∈l,y∈xs)->l.length<=xs.length
 |[],_,_,_=>qmP _
 |y::l,xs,hn,hs=>by
  obtain⟨h1,h2⟩:=qnk.mp hn;have hy:y∈xs:=hs y qmr;have:=fV (l:=l) (xs:=xs.erase y) h2 λz hz=>(List.mem_erase_of_ne (fun(e:z=y)=>h1 (e▸hz))).mpr (hs z (qmp _ hz));rw[List.length_erase_of_mem hy] at this;have h0:0<xs.length:=List.length_pos_of_mem hy;simp only[qmq];omega
theorem Aq.len{S:List iM}{a:Str}{w:List Nat}{vs:QAH}{b:Str}(h:Aq S a w vs b):vs.length=w.length+1:=by
 induction h with
 |nil=>rfl
 |snoc _ _ ih=>simp[ih]
theorem Qq.qkd{S:List iM}{a:Str}{i:Nat}{R:BR}(b:Qq S a i R){y:Str}{w:List Nat}(h:(y,w)∈R):w.length<R.length:=by
 obtain⟨vs,p,nd,sub⟩:=b.pth y w h;have h1:=fV nd sub;have h2:=p.len;simp at h1;omega
def qke(H:Hp)(kv:Key×V)(yw:Str×List Nat):Prop:=kv.1=Sum.inr yw.1/\∃p,kv.2 = .ref p/\H p=some (.lst (yw.2.map λn:Nat=>V.int n))
structure fW(H:Hp)(kvs:List (Key×V))(R:BR):Prop where
 len:kvs.length=R.length
 ok:∀(i:Nat) kv yw,kvs[i]? = some kv->R[i]? = some yw->qke H kv yw
theorem fW.keep{H H':Hp}{kvs:List (Key×V)}{R:BR}(h:fW H kvs R)(k:∀(p:Addr) (w:List Nat),H p=some (.lst (w.map λn:Nat=>V.int n))->H' p=some (.lst (w.map λn:Nat=>V.int n))):fW H' kvs R:=
 ⟨h.len,λi kv yw h1 h2=>by
  obtain⟨e,p,e2,q⟩:=h.ok i kv yw h1 h2;exact⟨e,p,e2,k _ _ q⟩⟩
theorem fW.none{H:Hp}{kvs:List (Key×V)}{R:BR}(h:fW H kvs R){y:Str}(hy:¬y∈R.map (·.1)):mO kvs (Sum.inr y)=Option.none:=by
 unfold mO;rw[List.find?_eq_none.mpr]
 ·rfl
 ·intro kv hk;obtain⟨i,hi⟩:=qnR.mp hk;have hl:i<R.length:=by rw[<- h.len];exact(ql2.mp hi).1
  obtain⟨e,_⟩:=h.ok i kv R[i] hi (by simp[hl]);simp only[qnX];intro z;rw[e] at z;cases z;exact hy (qmW.mpr ⟨R[i],List.getElem_mem hl,rfl⟩)
theorem fW.some{H:Hp}{kvs:List (Key×V)}{R:BR}(h:fW H kvs R)(nd:(R.map (·.1)).Nodup){y:Str}{w:List Nat}(hy:(y,w)∈R):∃p,mO kvs (Sum.inr y)=Option.some (.ref p)/\H p=Option.some (.lst (w.map λn:Nat=>V.int n)):=by
 obtain⟨i,hi⟩:=qnR.mp hy;have hl:i<kvs.length:=by rw[h.len];exact(ql2.mp hi).1
 have hk:kvs[i]? = Option.some kvs[i]:=by simp[hl]
 unfold mO;have hf:∃kv,kvs.find? (λkv=>decide (kv.1=Sum.inr y))=Option.some kv:=by
  cases e:kvs.find? (λkv=>decide (kv.1=Sum.inr y)) with
  |some kv=>exact⟨kv,rfl⟩
  |none=>
   have:=List.find?_eq_none.mp e kvs[i] (List.getElem_mem hl);obtain⟨e1,_⟩:=h.ok i _ _ hk hi;simp[e1] at this
 obtain⟨kv,hkv⟩:=hf;rw[hkv];have hm:=List.mem_of_find?_eq_some hkv;have hp:=List.find?_some hkv;simp only[qnX] at hp;obtain⟨j,hj⟩:=qnR.mp hm;have hlj:j<R.length:=by rw[<- h.len];exact(ql2.mp hj).1
 obtain⟨e1,p,e2,e3⟩:=h.ok j kv R[j] hj (by simp[hlj]);rw[hp] at e1;have ey:R[j].1=y:=(Sum.inr.inj e1).symm;have ej:j=i:=uo nd (x:=y) (by rw[qmw,show R[j]? = Option.some R[j] by simp[hlj]];simp[ey]) (by rw[qmw,hi];rfl);subst ej;have:R[j]=(y,w):=by
  have:=hi;simp[hlj] at this;exact this
 rw[this] at e3;exact⟨p,by simp[e2],e3⟩
theorem fW.has{H:Hp}{kvs:List (Key×V)}{R:BR}(h:fW H kvs R)(nd:(R.map (·.1)).Nodup)(y:Str):(mO kvs (Sum.inr y)).isSome=decide (y∈R.map (·.1)):=by
 by_cases hy:y∈R.map (·.1)
 ·obtain⟨⟨z,w⟩,h1,e⟩:=qmW.mp hy;simp only at e;subst e;obtain⟨p,e,_⟩:=h.some nd h1;rw[e,qm0 hy];rfl
 ·rw[h.none hy,qmx hy];rfl
theorem fW.qkf{H:Hp}{kvs:List (Key×V)}{R:BR}(h:fW H kvs R)(nd:(R.map (·.1)).Nodup)(y:Str):(mO kvs (Sum.inr y)).isNone = !decide (y∈R.map (·.1)):=by
 rw[<- h.has nd y];cases mO kvs (Sum.inr y) <;> rfl
theorem fW.snoc{H:Hp}{kvs:List (Key×V)}{R:BR}{y:Str}{w:List Nat}{p:Addr}(h:fW H kvs R)(hp:H p=Option.some (.lst (w.map λn:Nat=>V.int n))):fW H (kvs++[(Sum.inr y,.ref p)]) (R++[(y,w)]):=by
 refine⟨by simp[h.len],λi kv yw h1 h2=>?_⟩
 by_cases hi:i<kvs.length
 ·rw[qms hi] at h1;rw[qms (by rw[<- h.len];exact hi)] at h2;exact h.ok i kv yw h1 h2
 ·rw[qmu (by omega)] at h1;rw[qmu (by rw[<- h.len];omega),<- h.len] at h2;cases hk:i - kvs.length with
  |zero=>
   rw[hk] at h1 h2;cases h1;cases h2;exact⟨rfl,p,rfl,hp⟩
  |succ j=>
   rw[hk] at h1;simp at h1
def qgQ(i:Nat)(σ:St):Nat:=match σ[i]? with|some (some (V.int n))=>(10 - n).toNat|_=>0
theorem bK(x:Str)(xs:QAH):inV (.str x) (xs.map V.str)=decide (x∈xs):=by
 unfold inV;rw[List.any_map,qnx,qnB,qnX];constructor
 ·rintro⟨y,hy,e⟩;simp[V0] at e;exact e▸hy
 ·intro h;exact⟨x,h,by simp[V0]⟩
theorem cu(xs:QAH):(xs.map V.str).all jP=true:=by
 rw[List.all_map,qmn];intro x _;rfl
open Classical in
def tG(S:List iM)(xs:QAH)(x:Str):QAH:=xs.filter λy=>decide (RT (jf S) x y)
theorem rF{S:List iM}{xs:QAH}{x y:Str}:y∈tG S xs x↔y∈xs/\RT (jf S) x y:=by
 unfold tG;simp
theorem yu{S:List iM}{xs:QAH}{x:Str}:(tG S xs x).length<=xs.length:=qnA _ _
theorem Zr{S:List iM}{xs:QAH}{x y:Str}{i:Nat}(h:xs[i]? = some y)(b:Bool)(hb:b=true↔RT (jf S) x y):tG S (xs.take (i+1)) x=tG S (xs.take i) x++if b=true then [y] else []:=by
 unfold tG;rw[take_one h,qnn];congr 1
 by_cases hr:RT (jf S) x y
 ·rw[if_pos (hb.mpr hr)];simp[hr]
 ·rw[if_neg λz=>hr (hb.mp z)];simp[hr]
def h_(S:List iM)(xs:QAH)(acc:List (QAH))(x:Str):List (QAH):=if (acc.any λc=>decide (x∈c))=true then acc else acc++[tG S xs x]
def Df(S:List iM)(xs ys:QAH):List (QAH):=ys.foldl (h_ S xs) []
theorem Wk{S:List iM}{xs ys:QAH}{x:Str}{i:Nat}(h:ys[i]? = some x):Df S xs (ys.take (i+1))=h_ S xs (Df S xs (ys.take i)) x:=by
 unfold Df;rw[take_one h,List.foldl_append];rfl
theorem Nh{S:List iM}{xs:QAH}:∀(ys:QAH)(acc:List (QAH)),(ys.foldl (h_ S xs) acc).length<=acc.length+ys.length
 |[],acc=>by simp
 |y::ys,acc=>by
  have h1:=Nh (S:=S) (xs:=xs) ys (h_ S xs acc y);have h2:(h_ S xs acc y).length<=acc.length+1:=by
   unfold h_;split <;> simp
  simp only[qnV,qmq];omega
theorem Ni{S:List iM}{xs:QAH}:∀(ys:QAH)(acc:List (QAH)),(∀c∈acc,∃x∈xs,c=tG S xs x)->(∀y∈ys,y∈xs)->∀c∈ys.foldl (h_ S xs) acc,∃x∈xs,c=tG S xs x
 |[],acc,h,_=>h
 |y::ys,acc,h,hy=>by
  refine Ni ys _ ?_ λz hz=>hy z (qmp _ hz);intro c hc;unfold h_ at hc;split at hc
  ·exact h c hc
  ·rcases qmm.mp hc with q|q
   ·exact h c q
   ·simp at q;exact⟨y,hy y qmr,q⟩
end L2
namespace L2
open PySem PySem.Spec PyProof.Rows
@[simp] theorem qi2 (i:Int):Bp (.int i) .non=true:=rfl
@[simp] theorem qi3 (i:Int):Bp .non (.int i)=true:=rfl
@[simp] theorem qi4 (i:Str):Bp (.str i) .non=true:=rfl
end L2
namespace L2
open PySem
def mR{α β:Type}(f:α->Nat->List β):List α->Nat->List β
 |[],_=>[]
 |e::r,k=>f e k++mR f r (k+1)
theorem Ar{α β:Type}(f:α->Nat->List β):∀(l m:List α)(k:Nat),mR f (l++m) k=mR f l k++mR f m (k+l.length)
 |[],m,k=>by simp[mR]
 |e::l,m,k=>by
  simp only[qnN,mR,Ar f l m (k+1),qmo,qmq];rw[show k+1+l.length=k+(l.length+1) by omega]
theorem Hu{α β:Type}(f:α->Nat->List β){ps:List α}{i:Nat}{e:α}(h:ps[i]? = some e):mR f (ps.take (i+1)) 0=mR f (ps.take i) 0++f e i:=by
 have hi:i<ps.length:=(ql2.mp h).1;rw[take_one h,Ar,qmk,qnm (qnr hi),qm7];simp[mR]
theorem yx{α β:Type}{f:α->Nat->List β}:∀{ps:List α}{k:Nat}{s:β},s∈mR f ps k↔∃j e,ps[j]? = some e/\s∈f e (k+j)
 |[],k,s=>by simp[mR]
 |e::r,k,s=>by
  simp only[mR,qmm,yx (ps:=r)];constructor
  ·rintro(h|⟨j,e',h1,h2⟩)
   ·exact⟨0,e,rfl,h⟩
   ·exact⟨j+1,e',by simpa using h1,by rw[show k+(j+1)=k+1+j by omega];exact h2⟩
  ·rintro⟨j,e',h1,h2⟩;cases j with
   |zero=>simp at h1;subst h1;exact .inl h2
   |succ j=>exact .inr ⟨j,e',by simpa using h1,by rw[show k+1+j=k+(j+1) by omega];exact h2⟩
theorem yC{α β:Type}{f:α->Nat->List β}(hf:∀e k,(f e k).length<=1):∀(ps:List α)(k:Nat),(mR f ps k).length<=ps.length
 |[],_=>by simp[mR]
 |e::r,k=>by
  have h1:=yC hf r (k+1);have h2:=hf e k;simp only[mR,qmD,qmq];omega
def Rb(k:Nat)(s:iM):Bool:=decide (s.1≠k)
def vR(ps:QAD)(xs:QAH)(k:Nat)(b:Str):QAH:=tG ((aH (λ_=>none) ps 0).filter (Rb k)) xs b
def qR(ps:QAD)(xs:QAH)(e:Str×Str)(k:Nat):List (Nat×QAH):=if e.1∈vR ps xs k e.2 then [] else [(k,vR ps xs k e.2)]
def jt(ps:QAD)(xs:QAH):List (Nat×QAH):=mR (qR ps xs) ps 0
theorem Wm(ps:QAD)(xs:QAH)(e:Str×Str)(k:Nat):(qR ps xs e k).length<=1:=by
 unfold qR;split <;> simp
theorem Hv{ps:QAD}{xs:QAH}{b y:Str}{k:Nat}:y∈vR ps xs k b↔y∈xs/\RT (g_ (λj=>j≠k) ps) b y:=by
 unfold vR;rw[rF];have:RT (jf ((aH (λ_=>none) ps 0).filter (Rb k))) b y↔RT (g_ (λj=>j≠k) ps) b y:=⟨RT.mono (S:=g_ (λj=>j≠k) ps) λa b h=>wI.mp h,RT.mono (R:=g_ (λj=>j≠k) ps) λa b h=>wI.mpr h⟩;rw[this]
def nZ(c:QAH)(e:Str×Str)(k:Nat):List Nat:=if (e.1∈c↔e.2∈c) then [] else [k]
def uw(c:QAH)(ps:QAD):List Nat:=mR (nZ c) ps 0
theorem Dg(c:QAH)(e:Str×Str)(k:Nat):(nZ c e k).length<=1:=by
 unfold nZ;split <;> simp
theorem Rf{xs c:QAH}(hx:xs.Nodup)(hc:c.Nodup)(h:∀x∈c,x∈xs):(xs.filter λy=>decide (y∈c)).length=c.length:=by
 refine Nat.le_antisymm (fV (hx.filter _) λy hy=>?_) (fV hc λy hy=>?_)
 ·exact qmj (qm9.mp hy).2
 ·exact qm9.mpr ⟨h y hy,qm0 hy⟩
def zH(H:Hp)(v:V)(z:Addr×Nat×QAH):Prop:=∃t,v = .ref t/\H t=some (.tup [.int z.2.1,.ref z.1])/\H z.1=some (.lst (z.2.2.map V.str))
theorem zH.same{H H':Hp}{vs:List V}{zs:List (Addr×Nat×QAH)}(h:bH zH H vs zs)(k:Same H H'):bH zH H' vs zs:=bH.keep h λv s ⟨t,e,q,r⟩=>⟨t,e,k _ _ q,k _ _ r⟩
theorem zH.there{H:Hp}{vs:List V}{zs:List (Addr×Nat×QAH)}(h:bH zH H vs zs):∀z∈zs,H z.1=some (.lst (z.2.2.map V.str)):=λz hz=>by
 obtain⟨i,hi⟩:=qnR.mp hz;have hl:i<vs.length:=by rw[h.1];exact(ql2.mp hi).1
 obtain⟨t,_,_,r⟩:=h.2 i vs[i] z (by simp[hl]) hi;exact r
end L2
set_option maxHeartbeats 4000000
namespace L2
open PySem PySem.Spec PyProof.Rows
section
variable {prog:Program}{w:World}{A:Around}{E:QAB}{s:Shared}
theorem Zt{a:Addr}{Q:Option Obj->Shared->Prop}(h:Q (s.heap.get? a) s):wpAny (model prog w) A (loadIfAlive a) Q E s:=λΓ p _=>by
 show Sem.wp _ _ (Sem.loadIfAlive a Sem.pure) _ _ _ _;rw[Sem.wp_loadIfAlive];exact h
def n6(b:Bool)(it l:Addr)(items:Array Value)(i:Nat)(h:Heap):Prop:=match b with
 |true=>h.IsListIter it l i/\h.IsList l items
 |false=>h.IsTupleIter it l i/\h.IsTuple l items
theorem qeO{b:Bool}{it l:Addr}{items:Array Value}{i:Nat}{h:Heap}(st:n6 b it l items i h):l≠it:=by
 cases b with
 |true=>
  obtain⟨⟨o,e,c,_⟩,⟨u,e',c',_⟩⟩:=st;exact cV e' e c' c (by decide)
 |false=>
  obtain⟨⟨o,e,c,_⟩,⟨u,e',c',_⟩⟩:=st;exact cV e' e c' c (by decide)
theorem Zu{b:Bool}{it l:Addr}{items:Array Value}{i:Nat}{h:Heap}(st:n6 b it l items i h):∃o T,h.get? it=some o/\o.cls = .type T/\T≠ "enumerate" :=by
 cases b with
 |true=>obtain⟨⟨o,e,c,_⟩,_⟩:=st;exact⟨o,_,e,c,by decide⟩
 |false=>obtain⟨⟨o,e,c,_⟩,_⟩:=st;exact⟨o,_,e,c,by decide⟩
theorem qdo{b:Bool}{it l:Addr}{items:Array Value}{i:Nat}{h:Heap}(st:n6 b it l items i h):∃o T,h.get? l=some o/\o.cls = .type T/\T≠ "enumerate" :=by
 cases b with
 |true=>obtain⟨_,⟨o,e,c,_⟩⟩:=st;exact⟨o,_,e,c,by decide⟩
 |false=>obtain⟨_,⟨o,e,c,_⟩⟩:=st;exact⟨o,_,e,c,by decide⟩
theorem yD{b:Bool}{it l:Addr}{items:Array Value}{i:Nat}{h h':Heap}(st:n6 b it l items i h)(k1:∀o,h.get? it=some o->h'.get? it=some o)(k2:∀o,h.get? l=some o->h'.get? l=some o):n6 b it l items i h':=by
 cases b with
 |true=>obtain⟨⟨o,e,c⟩,⟨u,e',c'⟩⟩:=st;exact⟨⟨o,k1 _ e,c⟩,⟨u,k2 _ e',c'⟩⟩
 |false=>obtain⟨⟨o,e,c⟩,⟨u,e',c'⟩⟩:=st;exact⟨⟨o,k1 _ e,c⟩,⟨u,k2 _ e',c'⟩⟩
theorem Zv{b:Bool}{it l:Addr}{items:Array Value}{i:Nat}{x:Value}{Q:QAB}(st:n6 b it l items i s.heap)(hx:items[i]? = some x)
  (hQ:∀h',n6 b it l items (i+1) h'->Heap.SameBut it s.heap h'->Q x {s with heap:=h'}):wpAny (model prog w) A (Builtin.SmallTypes.nextOf (.ref it)) Q E s:=by
 have ne:=qeO st;cases b with
 |true=>
  obtain⟨h1,h2⟩:=st;refine wpAny_nextOf_list_item h1 h2 hx λh' a1 a2=>hQ h' ⟨a1,?_⟩ a2;obtain⟨u,e',c'⟩:=h2;exact⟨u,(a2.2 _ ne).trans e',c'⟩
 |false=>
  obtain⟨h1,h2⟩:=st;obtain⟨o,ho,hc,hd⟩:=id h1;obtain⟨ol,hol,hcl,nl,hdl⟩:=id h2;unfold Builtin.SmallTypes.nextOf;refine ql3 (qn_ (name:=Str.ofString "__next__") h1.typeIs qnO (qoB qnO h1.typeIs F.entry_tuple_iterator_next ?_ (F.args_tuple_iterator_next_1 _)));show wpAny (model prog w) _ (field (.ref it) 0 >>= _) _ _ s;refine ql3 (qnd ho hd (x:=.ref l) rfl ?_);show wpAny (model prog w) _ (if (Value.ref l == Value.none)=true then _ else _) _ _ s
  rw[if_neg (λz=>by cases z)];show wpAny (model prog w) _ (field (.ref it) 1 >>= _) _ _ s;refine ql3 (qnd ho hd (x:=.int i 0) rfl ?_);show wpAny (model prog w) _ (seqItems? (.ref l) >>= _) _ _ s;refine ql3 (wpAny_seqItems hol hdl ?_);simp only[Int.toNat_natCast,hx];refine ql3 (qou ho hd (by simp) (qmb ⟨x,rfl,qmb (hQ _ ⟨?_,?_⟩ (qnw ..))⟩))
  ·exact⟨_,qny _ ho (qom (qnP hd _)),(Obj.cls_mapFields ..).trans hc,by rw[qnP hd];simp[rawInt]⟩
  ·exact⟨ol,((qnw ..).2 _ ne).trans hol,hcl,nl,hdl⟩
theorem Zw{b:Bool}{it l:Addr}{items:Array Value}{i:Nat}{Q:QAB}(hh:A.handled=none)(st:n6 b it l items i s.heap)(hx:items[i]? = none)
  (hE:∀h' e,Heap.ExtBut it s.heap h'->(∃o,h'.get? e=some o/\o.cls = .type "StopIteration")->E (.ref e) {s with heap:=h'}):wpAny (model prog w) A (Builtin.SmallTypes.nextOf (.ref it)) Q E s:=by
 cases b with
 |true=>exact wpAny_nextOf_list_end hh st.1 st.2 hx hE
 |false=>
  obtain⟨h1,h2⟩:=st;obtain⟨o,ho,hc,hd⟩:=id h1;obtain⟨ol,hol,hcl,nl,hdl⟩:=id h2;unfold Builtin.SmallTypes.nextOf;refine ql3 (qn_ (name:=Str.ofString "__next__") h1.typeIs qnO (qoB qnO h1.typeIs F.entry_tuple_iterator_next ?_ (F.args_tuple_iterator_next_1 _)));show wpAny (model prog w) _ (field (.ref it) 0 >>= _) _ _ s;refine ql3 (qnd ho hd (x:=.ref l) rfl ?_);show wpAny (model prog w) _ (if (Value.ref l == Value.none)=true then _ else _) _ _ s
  rw[if_neg (λz=>by cases z)];show wpAny (model prog w) _ (field (.ref it) 1 >>= _) _ _ s;refine ql3 (qnd ho hd (x:=.int i 0) rfl ?_);show wpAny (model prog w) _ (seqItems? (.ref l) >>= _) _ _ s;refine ql3 (wpAny_seqItems hol hdl ?_);simp only[Int.toNat_natCast,hx];refine ql3 (qn6 (ql3 (qou ho hd (by simp) ?_)));show wpAny (model prog w) _ (newExc (.type "StopIteration") [] >>= _) _ _ _;refine ql3 ?_;simp only[newExc,newTuple];refine ql3 (qop ?_ (by size_fits));refine ql3 (m:=firstArgMember _ _) (wpAny_of_eq (a:=Value.none) (by first|rfl|(simp only[firstArgMember];rfl)) ?_)
  refine qop ?_ (by size_fits);simp only[raiseNew];refine ql3 (wpAny_handled ?_)
  first|rw[show A.in1.handled=none from hh]|rw[hh]
  refine ql3 (qmb (wpAny_throw ?_));exact hE _ _ (((qnw ..).extBut.push _).push _) ⟨_,qmc _ rfl,rfl⟩
def pB(h:Heap)(e it:Addr)(i:Int):Prop:=∃f0 f1 old,h.get? e=some {cls:=.type "enumerate",dict:=none,data:=.fields #[f0,f1,.ref it,rawInt i,.none,old],slots:=#[]}/\(f0 = .none\/∃a:Int,f0=rawInt a)
theorem qca{e it r:Addr}{i:Int}{x f0 f1 old:Value}{Q:PySem.Fin->Shared->Prop} (he:s.heap.get? e=some {cls:=.type "enumerate",dict:=none,data:=.fields #[f0,f1,.ref it,rawInt i,.none,old],slots:=#[]}) (hf:f0 = .none\/∃a:Int,f0=rawInt a)
  (hQ:∀h',pB h' e it i->Heap.SameBut e s.heap h'->Q (.done (.ret (.ref r))) {s with heap:=h'}) :
  wpAny (model prog w) A (Builtin.SmallTypes.ownedTupleIsFree (.ref e) >>= λb=>if b=true then (rule "enumerate.__next__.owned-tuple-again" >>= λ_=>field (.ref e) 5 >>= λo=>setField (.ref e) 5 x >>= λ_=>Builtin.SmallTypes.ownedTupleHandOut (.ref e) (.ref r) >>= λ_=>letGo [o] [.ref r] >>= λ_=>ret (.ref r)) else ret (.ref r)) Q E s:=by
 have out:wpAny (model prog w) A (rule "enumerate.__next__.owned-tuple-again" >>= λ_=>field (.ref e) 5 >>= λo=>setField (.ref e) 5 x >>= λ_=>Builtin.SmallTypes.ownedTupleHandOut (.ref e) (.ref r) >>= λ_=>letGo [o] [.ref r] >>= λ_=>ret (.ref r)) Q E s:=by
  refine ql3 (qn6 ?_);refine ql3 (qnd he rfl (x:=old) rfl ?_);refine ql3 (qnQ he (by simp) λh5 he5 hs5=>?_);refine ql3 ?_;unfold Builtin.SmallTypes.ownedTupleHandOut;refine ql3 (qnQ he5 (by simp) λh6 he6 hs6=>?_);refine qnQ he6 (by simp) λh7 he7 hs7=>?_;refine ql3 (wpAny_letGo (qmb (hQ h7 ⟨rawInt r,.bool false,x,he7,.inr ⟨_,rfl⟩⟩ ?_)));exact⟨hs7.1.trans (hs6.1.trans hs5.1),λc hc=>(hs7.2 c hc).trans ((hs6.2 c hc).trans (hs5.2 c hc))⟩
 refine ql3 ?_;unfold Builtin.SmallTypes.ownedTupleIsFree;refine ql3 (qnd he rfl (x:=f0) rfl ?_)
 rcases hf with rfl|⟨a,rfl⟩
 ·exact qmb out
 ·show wpAny (model prog w) A (loadIfAlive a.toNat >>= _) _ _ s;refine ql3 (Zt ?_);cases hl:s.heap.get? a.toNat with
  |none=>exact qmb out
  |some ob=>
   show wpAny (model prog w) A (field (.ref e) 1 >>= _) _ _ s;refine ql3 (qnd he rfl (x:=f1) rfl ?_)
   by_cases hb:(f1 != .bool true)=true
   ·rw[if_pos hb];refine ql3 (qnQ he (by simp) λh5 he5 hs5=>?_);exact qmb (qmb (hQ h5 ⟨rawInt a,.bool true,old,he5,.inr ⟨_,rfl⟩⟩ hs5))
   ·rw[if_neg hb];exact qmb (qmb (hQ s.heap ⟨rawInt a,f1,old,he,.inr ⟨_,rfl⟩⟩ ⟨rfl,λ_ _=>rfl⟩))
theorem Rg{b:Bool}{e it l:Addr}{i:Nat}{items:Array Value}{x:Value}{Q:QAG->Shared->Prop}
  (he:pB s.heap e it i) (st:n6 b it l items i s.heap) (hx:items[i]? = some x)
  (hQ:∀h',pB h' e it ((i:Int)+1)->n6 b it l items (i+1) h'->h'.get? s.heap.objs.size=some {cls:=.type "tuple",data:=.seq #[.int i s.toks,x]}->
   (∀c o,c≠e->c≠it->s.heap.get? c=some o->h'.get? c=some o)->Q (some (.ref s.heap.objs.size)) {s with heap:=h',toks:=s.toks+1}) :
  wpAny (model prog w) A (pyNext (.ref e)) Q E s:=by
 obtain⟨f0,f1,old,he,hf⟩:=he;obtain⟨oi,Ti,hoi,hci,hTi⟩:=Zu st;obtain⟨ol,Tl,hol,hcl,hTl⟩:=qdo st;have hne:it≠e:=cV hoi he hci rfl hTi;have hnl:l≠e:=cV hol he hcl rfl hTl;have hT:s.TypeIs (.ref e) "enumerate" :=⟨_,he,rfl⟩;unfold pyNext;refine ql3 (wpAny_attempt (qn_ (name:=Str.ofString "__next__") hT qnS (qoB qnS hT F.entry_enumerate_next ?_ (F.args_enumerate_next_1 _))));obtain⟨hp,g,d,tk,os⟩:=s;show wpAny (model prog w) _ (field (.ref e) 2 >>= _) _ _ _;refine ql3 (qnd he rfl (x:=.ref it) rfl ?_);refine ql3 (Zv st hx λh1 st1 hs1=>?_);replace hs1:Heap.SameBut it hp h1:=hs1;have Gf:=(hs1.2 e hne.symm).trans he;show wpAny (model prog w) _ (field (.ref e) 3 >>= _) _ _ ⟨h1,g,d,tk,os⟩;refine ql3 (qnd Gf rfl (x:=rawInt i) rfl ?_);show wpAny (model prog w) _ (field (.ref e) 4 >>= _) _ _ ⟨h1,g,d,tk,os⟩;refine ql3 (qnd Gf rfl (x:=.none) rfl ?_);show wpAny (model prog w) _ (mkInt i >>= _) _ _ ⟨h1,g,d,tk,os⟩;refine ql3 (wpAny_mkInt ?_);show wpAny (model prog w) _ (setField (.ref e) 3 (rawInt ((i:Int)+1)) >>= _) _ _ ⟨h1,g,d,tk+1,os⟩;refine ql3 (qnQ Gf (by simp) λh2 he2 hs2=>?_);replace hs2:Heap.SameBut e h1 h2:=hs2;show wpAny (model prog w) _ (setField (.ref e) 4 .none >>= _) _ _ ⟨h2,g,d,tk+1,os⟩;refine ql3 (qnQ he2 (by simp) λh3 he3 hs3=>?_);replace hs3:Heap.SameBut e h2 h3:=hs3;show wpAny (model prog w) _ (newTuple [.int i tk,x] >>= _) _ _ ⟨h3,g,d,tk+1,os⟩;refine ql3 (wpAny_newTuple ?_);have hsz:h3.objs.size=hp.objs.size:=by rw[hs3.1,hs2.1,hs1.1]
 have hel:e<hp.objs.size:=ql8 he;have he4:(h3.push {cls:=.type "tuple",data:=.seq #[.int i tk,x]}).get? e=some {cls:=.type "enumerate",dict:=none,data:=.fields #[f0,f1,.ref it,rawInt ((i:Int)+1),.none,old],slots:=#[]}:=ql4 _ he3;have ht4:(h3.push {cls:=.type "tuple",data:=.seq #[.int i tk,x]}).get? hp.objs.size=some {cls:=.type "tuple",data:=.seq #[.int i tk,x]}:=by rw[<- hsz];exact qmc _ rfl
 have Nj:∀c o,c≠e->c≠it->hp.get? c=some o->(h3.push {cls:=.type "tuple",data:=.seq #[.int i tk,x]}).get? c=some o:=λc o h1 h2 h3=>ql4 _ (hs3.extBut c o h1 (hs2.extBut c o h1 (hs1.extBut c o h2 h3)));have Rh:n6 b it l items (i+1) (h3.push {cls:=.type "tuple",data:=.seq #[.int i tk,x]}):=yD st1 (λo z=>ql4 _ (hs3.extBut _ _ hne (hs2.extBut _ _ hne z))) (λo z=>ql4 _ (hs3.extBut _ _ hnl (hs2.extBut _ _ hnl z)));refine qca (s:=⟨h3.push {cls:=.type "tuple",data:=.seq #[.int i tk,x]},g,d,tk+1,os⟩) he4 hf λh5 hE5 hs5=>⟨_,rfl,qmb ?_⟩;rw[show(Shared.mk h3 g d (tk+1) os).heap.objs.size=hp.objs.size from hsz];refine hQ h5 hE5 (yD Rh (λo z=>(hs5.2 _ hne).trans z) (λo z=>(hs5.2 _ hnl).trans z)) ((hs5.2 _ (qns hel)).trans ht4) λc o h1 h2 h3=>(hs5.2 c h1).trans (Nj c o h1 h2 h3)
end
end L2
namespace PySem
open Sem (wp)
theorem ux:typeLookup (.type "enumerate") "__getattr__" = pure none:=by rw[typeLookup_type,builtinLookup_eq_fast];kernel_rfl
theorem yE:typeLookup (.type "enumerate") "keys" = pure none:=by rw[typeLookup_type,builtinLookup_eq_fast];kernel_rfl
theorem n_:entryFor table "enumerate.__getattribute__" = some Builtin.«object.__getattribute__»:=
 entryFor_alias (id':= "object.__getattribute__") (by kernel_rfl) (by decide+kernel) (by decide+kernel) (by kernel_rfl)
theorem JV(a:Addr)(xs:Array Value)(sl:Array (QAG))(name:Str)(u:Tok) (hmiss:typeLookup (.type "enumerate") name=pure none) (hname:(["__module__", "__name__", "__qualname__", "__doc__", "__annotations__"]:QAH).contains name=false) (hsz:name.length+100<=sizeLine:=by size_fits) :
  Meets (Builtin.«object.__getattribute__» ⟨[.ref a,.str name u],[]⟩) (λA R s=>s.heap.get? a=some {cls:=.type "enumerate",dict:=none,data:=.fields xs,slots:=sl}/\raisesAttr (.ref a) name A R s):=
 Meets.of_wp λprog w A R s hs=>by
  obtain⟨hp,g,d,tk,os⟩:=s;obtain⟨hx,hs⟩:=hs;have hT:(⟨hp,g,d,tk,os⟩:Shared).TypeIs (.ref a) "enumerate" :=⟨_,hx,rfl⟩;unfold Builtin.«object.__getattribute__»
  repeat (any_goals (first|assumption|wp_step))
  simp only[hname,qm8,if_false]
  repeat (any_goals (first|assumption|wp_step))
  exact wpAny_raiseAttrError hs.1 hs.2 (attrMsg_fits (by decide+kernel) hsz)
theorem JW{prog:Program}{w:World}{A:Around}{E:QAB}{s:Shared}{a:Addr}{xs:Array Value}{Q:QAG->Shared->Prop}
  (hx:s.heap.get? a=some {cls:=.type "enumerate",dict:=none,data:=.fields xs,slots:=#[]}) (hA:A.handled=none)
  (h:∀h' tk,(∀b o,s.heap.get? b=some o->h'.get? b=some o)->Q none {s with heap:=h',toks:=tk}) :
  wpAny (model prog w) A (getAttr? (.ref a) "keys") Q E s:=by
 obtain⟨hp,g,d,tk,os⟩:=s;have hT:∀tk',(⟨hp,g,d,tk',os⟩:Shared).TypeIs (.ref a) "enumerate" :=λ_=>⟨_,hx,rfl⟩;have f1:=sub_AttributeError;have f3:=F.slot_enumerate_getattribute.lookup;have f4:=F.slot_enumerate_getattribute.bind (.ref a);have f5:=ux;have hname:(["__module__", "__name__", "__qualname__", "__doc__", "__annotations__"]:QAH).contains "keys" = false:=by decide
 unfold getAttr? getAttrBy? getAttrBy
 repeat (any_goals (first|assumption|exact hT _|((with_reducible show wpAny _ _ (call (Value.builtin "enumerate.__getattribute__") _ _) _ _ _);refine call_meets F.slot_enumerate_getattribute (hT _) n_ (F.args_enumerate_getattribute_2 _ _) (JV a xs #[] "keys" _ yE hname) ⟨hx,hA,λh' tk' e hx'=>?_⟩)|wp_step))
 obtain⟨t',u',he⟩:=hx'.there;show wpAny _ _ (getattributeRaised _ _ _ _ _ _ _) _ _ _;unfold getattributeRaised
 repeat (any_goals (first|assumption|wp_step))
 exact h _ _ hx'.of.keeps
end PySem
namespace PySem
open Sem (wp)
open AutoSeq1 (wpAny_loadPart')
theorem yF(l:Addr)(items:Array Value)(n:Nat)(dct:Option Addr)(sl:Array (QAG)) :
  Meets (Builtin.«enumerate.__new__» ⟨[.type "enumerate",.ref l],[]⟩) (λ_ R s=>s.heap.get? l=some {cls:=.type "tuple",dict:=dct,data:=.seq items n,slots:=sl}/\
   R (.ok (.ret (.ref (s.heap.push {cls:=.type "tuple_iterator",data:=.fields #[.ref l,.int 0 0]}).objs.size)))
    {s with heap:=(s.heap.push {cls:=.type "tuple_iterator",data:=.fields #[.ref l,.int 0 0]}).push {cls:=.type "enumerate",data:=.fields #[.none,.bool false,.ref s.heap.objs.size,rawInt 0,.none,.none]}}):=
 .of_wp λprog w A R s h=>by
  obtain⟨hp,g,d,tk,os⟩:=s;obtain⟨hl,h⟩:=h;have hsub:=sub_enumerate;have hL:Heap.IsTuple (Shared.heap ⟨hp,g,d,tk,os⟩) l items:=⟨_,hl,rfl,n,rfl⟩
  wp_walk using wpAny_loadPart' hl
  refine wpAny_stack_any λst=>qmb ?_;split
  ·rename_i c _ _ _ _ _;cases (c == Value.type "enumerate")
   ·wp_walk using wpAny_loadPart' hl,qof hL
    exact⟨_,rfl,h⟩
   ·wp_walk using wpAny_loadPart' hl,qof hL
    exact⟨_,rfl,h⟩
  ·wp_walk using wpAny_loadPart' hl,qof hL
   exact⟨_,rfl,h⟩
section
variable {prog:Program}{w:World}{A:Around}{E:QAB}{s:Shared}
theorem yG{b:Bool}{l:Addr}{items:Array Value}{Q:QAB}(hL:match b with|true=>s.heap.IsList l items|false=>s.heap.IsTuple l items)
  (h:∀h',L2.pB h' (s.heap.objs.size+1) s.heap.objs.size 0->L2.n6 b s.heap.objs.size l items 0 h'->h'.objs.size=s.heap.objs.size+2->
   (∀b o,s.heap.get? b=some o->h'.get? b=some o)->Q (.ref (s.heap.objs.size+1)) {s with heap:=h'}) :
  wpAny (model prog w) A (call (.type "enumerate") [.ref l]) Q E s:=by
 cases b with
 |true=>
  exact call_enumerate_list hL λh' b1 b2 b3 kk=>h h' ⟨_,_,_,b1,.inl rfl⟩ ⟨b2,hL.at λo z=>kk _ _ z⟩ b3 kk
 |false=>
  obtain⟨⟨c,dct,dt,sl⟩,hl,hc,n,hd⟩:=id hL;replace hc:c = .type "tuple" :=hc;replace hd:dt = .seq items n:=hd;subst hc hd;refine callType_new F.called_enumerate (by decide) (F.typeCall_enumerate_1 _) (F.newCall_enumerate_1 _) (λobj=>F.args_object_init_2 obj _) F.entry_enumerate_new
   (yF l items n dct sl) ⟨hl,?_⟩
  have hz:(s.heap.push {cls:=.type "tuple_iterator",data:=.fields #[.ref l,.int 0 0]}).objs.size=s.heap.objs.size+1:=qmK ..;show _/\_;rw[hz];have he:L2.pB ((s.heap.push {cls:=.type "tuple_iterator",data:=.fields #[.ref l,.int 0 0]}).push
    {cls:=.type "enumerate",data:=.fields #[.none,.bool false,.ref s.heap.objs.size,rawInt 0,.none,.none]}) (s.heap.objs.size+1) s.heap.objs.size 0:=by
   have:=qmc (s.heap.push {cls:=.type "tuple_iterator",data:=.fields #[.ref l,.int 0 0]})
    (o:={cls:=.type "enumerate",data:=.fields #[.none,.bool false,.ref s.heap.objs.size,rawInt 0,.none,.none]}) rfl
   rw[hz] at this;exact⟨_,_,_,this,.inl rfl⟩
  obtain⟨_,_,_,he',_⟩:=id he;have kk:∀b o,s.heap.get? b=some o->((s.heap.push {cls:=.type "tuple_iterator",data:=.fields #[.ref l,.int 0 0]}).push
    {cls:=.type "enumerate",data:=.fields #[.none,.bool false,.ref s.heap.objs.size,rawInt 0,.none,.none]}).get? b=some o:=λb o x=>ql4 _ (ql4 _ x)
  refine⟨⟨_,he',rfl⟩,h _ he ⟨⟨_,ql4 _ (qmc _ rfl),rfl,rfl⟩,⟨_,kk _ _ hl,rfl,n,rfl⟩⟩ (by rw[qmK,hz]) kk⟩
end
end PySem
namespace L2
open PySem PySem.Spec PyProof.Rows
section
variable {prog:Program}{w:World}{A:Around}{E:QAB}{s:Shared}
theorem Ri{b:Bool}{e it l:Addr}{i:Nat}{items:Array Value}{Q:QAG->Shared->Prop}(hh:A.handled=none)
  (he:pB s.heap e it i) (st:n6 b it l items i s.heap) (hx:items[i]? = none)
  (hQ:∀h',Heap.ExtBut it s.heap h'->Q none {s with heap:=h'}):wpAny (model prog w) A (pyNext (.ref e)) Q E s:=by
 obtain⟨f0,f1,old,he,hf⟩:=he;have hT:s.TypeIs (.ref e) "enumerate" :=⟨_,he,rfl⟩;unfold pyNext;refine ql3 (wpAny_attempt (qn_ (name:=Str.ofString "__next__") hT qnS
  (qoB qnS hT F.entry_enumerate_next ?_ (F.args_enumerate_next_1 _))))
 show wpAny _ _ (field (.ref e) 2 >>= _) _ _ _;refine ql3 (qnd he rfl (x:=.ref it) rfl ?_);refine ql3 (Zw hh st hx λh' x he' hx'=>?_);obtain⟨o,ho,hc⟩:=hx';refine ql3 (wpAny_isInstance (T:= "StopIteration") (b:=true) ⟨o,ho,hc⟩ isSubtype_stop ?_);exact qmb (hQ _ he')
end
theorem yH:entryFor table "dict.update.loop" = some Builtin.«dict.update.loop»:=entryFor_of_fast (by kernel_rfl)
theorem m_:plainId "dict.update.loop" = true:=by decide+kernel
def nums{α:Type}:Nat->List α->List (Key×α)
 |_,[]=>[]
 |n,x::xs=>(Sum.inl (n:Int),x)::nums (n+1) xs
theorem Dh{α:Type}:∀(n:Nat)(xs:List α),(nums n xs).length=xs.length
 |_,[]=>rfl
 |n,x::xs=>by rw[nums,qmq,qmq,Dh]
theorem Nk{α:Type}:∀(n:Nat)(xs:List α)(y:α),nums n (xs++[y])=nums n xs++[(Sum.inl ((n+xs.length:Nat):Int),y)]
 |n,[],y=>rfl
 |n,x::xs,y=>by
  rw[qnN,nums,Nk (n+1) xs y,nums,qnN,qmq,Nat.add_right_comm,Nat.add_assoc]
theorem Np{α:Type}:∀(n:Nat)(xs:List α)(m:Nat),(nums n xs).any (λkv=>decide (kv.1=(Sum.inl (m:Int):Key)))=true->n<=m/\m<n+xs.length
 |n,[],m,h=>by simp[nums] at h
 |n,x::xs,m,h=>by
  rw[nums,qn5,Bool.or_eq_true] at h
  rcases h with h|h
  ·have h1:=qmj h;injection h1 with h1;have h2:n=m:=by omega
   subst h2;simp
  ·have:=Np (n+1) xs m h;rw[qmq];omega
theorem qcb:∀{ys:List V}{its:QAE}(n:Nat),Vals ys its->KV (nums n ys) (nums n its):=by
 intro ys its n r
 induction r generalizing n with
 |nil=>exact .nil
 |cons h t ih=>exact .cons ⟨rfl,h⟩ (ih (n+1))
section
variable {P:Program}{w:World}{A:Around}{R:Result->Shared->Prop}{b:Bool}{e it l D:Addr}{its:QAE}
theorem qcc(hh:A.handled=none)(h1:D≠e)(h2:D≠it)(h3:D≠l)(hs:its.length<=sizeLine) :
  ∀(k i:Nat)(s:Shared),its.length - i=k->i<=its.length->pB s.heap e it i->n6 b it l its.toArray i s.heap->s.heap.DictOf (bM P w) D (nums 0 (its.take i))->
   (∀h' tk,(∀c o,c≠D->c≠e->c≠it->s.heap.get? c=some o->h'.get? c=some o)->h'.DictOf (bM P w) D (nums 0 its)->R (.ok (.ret .none)) {s with heap:=h',toks:=tk})->
   codeAny (model P w) A (.builtin "dict.update.loop" ⟨[.ref D,.ref e,rawInt i,.none],[]⟩) R s:=by
 intro k
 induction k with
 |zero=>
  intro i s hk hi hE hst hD hR;obtain rfl:i=its.length:=by omega
  refine qnW yH ?_;rw[qot m_ _];show wpAny _ A.in1 (pyNext (.ref e) >>= _) _ _ s;refine ql3 (Ri (A:=A.in1) hh hE hst (by simp) λh' hm=>?_);refine ql3 (qmb ?_);refine qmb (hR h' s.toks (λc o c1 c2 c3 z=>hm c o c3 z) ?_);rw[qmv] at hD;exact hD.extBut hm h2
 |succ k ih=>
  intro i s hk hi hE hst hD hR;have hlt:i<its.length:=by omega
  refine qnW yH ?_;rw[qot m_ _];show wpAny _ A.in1 (pyNext (.ref e) >>= _) _ _ s;refine ql3 (Rg hE hst (x:=its[i]) (by simp[hlt]) λh' hE' hst' ht hm=>?_);have hT:(Shared.mk h' s.gens s.drawn (s.toks+1) s.os).TypeIs (.ref s.heap.objs.size) "tuple" :=⟨_,ht,rfl⟩;show wpAny _ A.in1 (holding _ _ >>= _) _ _ _;refine ql3 (qni ?_);refine ql3 (wpAny_tryCatch ?_);unfold Builtin.Dict.pairItems;refine ql3 (wpAny_typeOf hT ?_);rw[if_pos (by decide)];refine ql3 (wpAny_seqItems ht rfl ?_);refine qmb ?_;show wpAny _ A.in1 (holding _ (dictSet D (.int i s.toks) its[i])) _ _ _;refine qni ?_;have hD':h'.DictOf (bM P w) D (nums 0 (its.take i)):=by
   obtain⟨o,es,ep,ho,r⟩:=hD;exact⟨o,es,ep,hm D o h1 h2 ho,r⟩
  refine wpAny_dictSet_pairs (knd:=bM P w) (k:=Sum.inl (i:Int)) (s:=Shared.mk h' s.gens s.drawn (s.toks+1) s.os) (Ak P w i s.toks) hD' (λh2' hD2 hsb=>?_) (by rw[Dh,qmk];omega);have ei:(i:Int)+1=((i+1:Nat):Int):=by omega
  have est:stored (nums 0 (its.take i)) (Sum.inl (i:Int)) its[i]=nums 0 (its.take (i+1)):=by
   unfold stored;rw[if_neg (λz=>?_)]
   ·rw[List.take_succ_eq_append_getElem hlt,Nk,qmk,qnm (by omega),qm7]
   ·have:=Np _ _ _ z;rw[qmk] at this;omega
  rw[est] at hD2;rw[ei] at hE';refine qmb ⟨plainId_quiet m_ _,?_⟩;show codeAny _ A (.builtin "dict.update.loop" ⟨[.ref D,.ref e,rawInt ((i:Int)+1),.none],[]⟩) _ _;rw[ei];refine ih (i+1) _ (by omega) hlt ?_ (yD hst' (λo z=>(hsb.2 _ h2.symm).trans z) (λo z=>(hsb.2 _ h3.symm).trans z)) hD2 λh3' tk hm3 Di=>?_
  ·obtain⟨f0,f1,old,q,hf⟩:=hE';exact⟨f0,f1,old,(hsb.2 _ h1.symm).trans q,hf⟩
  ·exact hR h3' tk (λc o c1 c2 c3 z=>hm3 c o c1 c2 c3 ((hsb.2 c c1).trans (hm c o c2 c3 z))) Di
end
section
variable {P:Program}{w:World}{A:Around}{E:QAB}{s:Shared}{b:Bool}{e it l:Addr}{its:QAE}
theorem JX{Q:QAB} (hT:s.TypeIs (.ref e) "enumerate") (h:Q (.ref e) s):wpAny (model P w) A (pyIter (.ref e)) Q E s:=by
 refine wpAny_pyIter_slot hT F.slot_enumerate_iter (qoB F.slot_enumerate_iter hT F.entry_enumerate_iter ?_ (F.args_enumerate_iter_1 _));show wpAny _ _ (ret (.ref e)) _ _ s;exact qmb ⟨_,rfl, "enumerate",_,hT,qnS.lookup,h⟩
theorem qcd{Q:QAB}(hh:A.handled=none)(hE:pB s.heap e it 0)(hst:n6 b it l its.toArray 0 s.heap)(hs:its.length<=sizeLine)
  (h:∀h' tk,(∀c o,c≠e->c≠it->s.heap.get? c=some o->h'.get? c=some o)->h'.DictOf (bM P w) s.heap.objs.size (nums 0 its)->Q (.ref s.heap.objs.size) {s with heap:=h',toks:=tk}) :
  wpAny (model P w) A (call (.type "dict") [.ref e]) Q E s:=by
 obtain⟨f0,f1,old,he,hf⟩:=hE;obtain⟨oi,Ti,hoi,hci,hTi⟩:=Zu hst;obtain⟨ol,Tl,hol,hcl,hTl⟩:=qdo hst;refine callType_codes (Q₁:=λobj s₁=>obj = .ref s.heap.objs.size/\s₁={s with heap:=s.heap.push {cls:=.type "dict",data:=.dict #[]}}) F.kt_called_dict (F.kt_typeCall_dict_1 _) F.entry_dict_init (kt_code_dict_new _ ⟨rfl,rfl⟩) ?_;rintro obj s₁ ⟨rfl,rfl⟩;have hnew:(s.heap.push {cls:=.type "dict",data:=.dict #[]}).DictOf (bM P w) s.heap.objs.size []:=Heap.DictOf.new s.heap;have kp:∀c o,s.heap.get? c=some o->(s.heap.push {cls:=.type "dict",data:=.dict #[]}).get? c=some o:=λc o z=>ql4 _ z;have ne:∀{c o},s.heap.get? c=some o->s.heap.objs.size≠c:=λz=>qns (ql8 z);have hT:(Shared.mk (s.heap.push {cls:=.type "dict",data:=.dict #[]}) s.gens s.drawn s.toks s.os).TypeIs (.ref e) "enumerate" :=⟨_,kp _ _ he,rfl⟩;refine⟨hnew.typeIs,F.args_dict_init_2 _ _,?_⟩;unfold Builtin.«dict.__init__»;refine ql3 ?_;unfold Builtin.Dict.selfAndRest;refine ql3 (wpAny_notOrdered_dict hnew.typeIs ?_);show wpAny _ _ (pure (s.heap.objs.size,[Value.ref e])) _ _ _;refine qmb ?_;show wpAny _ _ (Builtin.Dict.updateFrom "dict.__init__" s.heap.objs.size (.ref e) [] .none) _ _ _;unfold Builtin.Dict.updateFrom;refine ql3 (wpAny_typeOf hT ?_);rw[if_pos (by decide)];show wpAny (model P w) A.in1.in1 (getAttr? (.ref e) "keys" >>= _) _ _ _;refine ql3 (JW (A:=A.in1.in1) (kp _ _ he) hh λh1 tk1 k1=>?_);have Gf:=k1 _ _ (kp _ _ he);have hT1:(Shared.mk h1 s.gens s.drawn tk1 s.os).TypeIs (.ref e) "enumerate" :=⟨_,Gf,rfl⟩;simp only[Option.isNone_none,if_true];refine ql3 (qn6 ?_);refine ql3 (JX (s:=Shared.mk h1 s.gens s.drawn tk1 s.os) hT1 ?_);refine qmb ⟨plainId_quiet m_ _,?_⟩;have hD1:h1.DictOf (bM P w) s.heap.objs.size []:=by
  obtain⟨o,es,ep,ho,r⟩:=hnew;exact⟨o,es,ep,k1 _ o ho,r⟩
 refine qcc (A:=A.in1) (b:=b) (l:=l) (it:=it) hh (ne he) (ne hoi) (ne hol) hs its.length 0 _ (by omega) (qmP _) ⟨f0,f1,old,Gf,hf⟩ (yD hst (λo z=>k1 _ _ (kp _ _ z)) (λo z=>k1 _ _ (kp _ _ z))) (by simpa [nums] using hD1) λh' tk hm hD=>⟨rfl,h h' tk (λc o c1 c2 z=>hm c o (ne z).symm c1 c2 (k1 _ _ (kp _ _ z))) hD⟩
end
section
variable {X:Cx}{K:W.Frag}
def tDE(K:W.Frag)(t:TA):TE:=λσ H Q=>t σ H λvs H1=>∃a xs,vs=[.ref a]/\(aW K H1 a xs\/eG K H1 a xs)/\∀p,H1 p=none->Q (.ref p) (upd H1 p (.dK (nums 0 xs)))
@[simp ↓] theorem qlm (K:W.Frag)(t:TA) σ H Q:tDE K t σ H Q=(t σ H λvs H1=>∃a xs,vs=[.ref a]/\(aW K H1 a xs\/eG K H1 a xs)/\∀p,H1 p=none->Q (.ref p) (upd H1 p (.dK (nums 0 xs)))):=rfl
theorem Nq(hK:X.K=K)(hc:X.calm=true){a:Expr}{ta:TA}{p p2 pos pos2:Pos} (hg1:Gl X "dict") (hm1:X.mg "dict" = none) (hg2:Gl X "enumerate") (hm2:X.mg "enumerate" = none) (ha:PA X [a] ta)
  (hs:starEach [a] X.env=[(false,eval a X.env)]:=by rfl)
  (hs1:starEach [.Call (.Name "enumerate" p2) [a] [] pos2] X.env=[(false,eval (.Call (.Name "enumerate" p2) [a] [] pos2) X.env)]:=by rfl) :
  PE X (.Call (.Name "dict" p) [.Call (.Name "enumerate" p2) [a] [] pos2] [] pos) (tDE K ta):=by
 subst hK;intro p_ s σ H Q I h;refine qm6 (qj I hg1 hm1 QX ?_ (by decide) (by decide));refine qm2 ?_ (by rw[hs1];rfl) (by rfl);rw[hs1];show wpAny _ _ (spliced ((false,eval (.Call (.Name "enumerate" p2) [a] [] pos2) X.env)::[])) _ _ s;refine Calls.spliced_cons ?_;refine qm6 (qj I hg2 hm2 Ht ?_ (by decide) (by decide));refine qm2 (cT (ha pos2 p_ s σ H _ I h) λus s1 zz=>?_) (by rw[hs];rfl) (by rfl);obtain⟨vs,H1,I1,r1,q1⟩:=zz;obtain⟨l1,xs,rfl,qa,q⟩:=q1;obtain⟨u,rfl,r⟩:=vals1 r1;obtain rfl:u=Value.ref l1:=r;have go:∃(b:Bool)(its:QAE),Vals xs its/\its.length<=sizeLine/\(match b with|true=>s1.heap.IsList l1 its.toArray|false=>s1.heap.IsTuple l1 its.toArray):=by
  rcases qa with qa|qa
  ·obtain⟨its,rv,pl,hz⟩:=I1.list qa;exact⟨true,its,rv,by rw[<- rv.length];exact hz,pl.isList⟩
  ·obtain⟨its,rv,pl,hz⟩:=I1.tuple qa;exact⟨false,its,rv,by rw[<- rv.length];exact hz,pl⟩
 obtain⟨b,its,rv,hz,hL⟩:=go;refine yG (b:=b) hL λh' b1 b2 b3 kk=>?_;refine Calls.spliced_nil ?_;refine qcd (s:={s1 with heap:=h'}) (b:=b) (I1.ok.hd hc) b1 b2 hz λh2 tk km hD=>?_;have kk2:∀c o,s1.heap.get? c=some o->h2.get? c=some o:=λc o z=>km c o (qmg (qm1 (ql8 z))) (qmg (ql8 z)) (kk c o z);have hle:s1.heap.objs.size<=h'.objs.size:=by rw[b3];omega
 have hf:H1 h'.objs.size=none:=I1.hok.fresh hle;refine⟨.ref h'.objs.size,_,I1.laid (o:=.dK (nums 0 xs)) (t':=tk) kk2 hle ?_,rfl,q _ hf⟩;refine(show cD _ _ _ _ _ (.dK (nums 0 xs)) from⟨by rw[Dh,rv.length];exact hz,?_,nums 0 its,qcb 0 rv,hD⟩);have h1:=I1.big;have h2:sysModules<h'.objs.size:=qmf h1 hle;exact qnI.mpr (qns h2)
end
structure Nm3(mg:Str->Option Value):Prop where
 sum:mg "sum" = none
theorem Nr:∀{ys:QAH}{us:QAE},Vals (ys.map V.str) us->StrsAre us ys
 |[],_,r=>by rw[List.map_nil] at r;cases r;exact .nil
 |y::ys,_,r=>by
  rw[qmG] at r;cases r with
  |cons h t=>
   obtain⟨k,rfl⟩:=h;exact .cons y k (Nr t)
section
variable {X:Cx}{K:W.Frag}
def rJoin:V->List V->Hp->VK->Prop:=λx xs H Q=>∃(sep:Str)(l:Addr)(ys:QAH),x = .str sep/\xs=[.ref l]/\H l=some (.lst (ys.map V.str))/\(ys.map (·.length)).sum+ys.length * sep.length<=16777216/\Q (.str (Txt.join sep ys)) H
theorem qce:VR X "str.join" rJoin:=by
 intro p_ s σ H x xs v us Q I rx rs q;obtain⟨sep,l,ys,rfl,rfl,hl,hz,q⟩:=q;obtain⟨u,rfl,ru⟩:=rs.one;obtain rfl:u=Value.ref l:=ru;obtain⟨t,rfl⟩:=rx;obtain⟨its,rv,pl,hz1⟩:=I.list (aW.of hl);exact join_list pl.isList (by simpa using Nr rv) hz λt' k=>⟨.str _,H,I.tok _,⟨t',rfl⟩,q⟩
theorem qkg(hK:X.K=K):SlR X (qbU K):=by subst hK;exact qbV
@[simp ↓] theorem qi5 (K:W.Frag) x lo hi H Q:qbU K x lo hi H Q=(∃a xs,x = .ref a/\aW K H a xs/\∀p,H p=none->Q (.ref p) (upd H p (.lst (mC xs lo hi)))):=rfl
theorem Hw:∀(xs:QAH)(a:Array Nat),(xs.foldl (λacc p=>acc++(Str.ofString "").cps++p.cps) a).toList=a.toList++xs.flatMap (·.cps.toList)
 |[],a=>by simp
 |x::xs,a=>by
  rw[qnV,Hw xs];rw[show(Str.ofString "").cps = #[] from rfl,Array.append_empty];simp
theorem Wn(ys:QAH):(Txt.join (Str.ofString "") ys).cps.toList=ys.flatMap (·.cps.toList):=by
 cases ys with
 |nil=>rfl
 |cons x xs=>
  show(List.foldl _ x.cps xs).toList=_;exact(Hw xs x.cps).trans (by simp)
theorem uz:∀(ys:QAH),(∀y∈ys,∃n,n<26/\y=⟨#[97+n]⟩)->(ys.flatMap (·.cps.toList)).length=ys.length/\(ys.flatMap (·.cps.toList)).all isL=true/\(ys.map (·.length)).sum=ys.length
 |[],_=>by simp
 |y::ys,h=>by
  obtain⟨n,hn,rfl⟩:=h y (qmr ..);obtain⟨h1,h2,h3⟩:=uz ys λz hz=>h z (qmp _ hz);refine⟨by simp only[List.flatMap_cons,qmD,qmq,h1];simp;omega,by rw[List.flatMap_cons,List.all_append,h2];simp[Zg n hn],?_⟩;rw[qmG,List.sum_cons,h3,qmq];show 1+_=_;omega
theorem rD.glue{c k:Nat}{x:Str}(h:rD c k x)(hk:0<k){ys:QAH}(hy:∀y∈ys,∃n,n<26/\y=⟨#[97+n]⟩):rD c (k+ys.length) (x++Txt.join (Str.ofString "") ys):=by
 obtain⟨h1,h2,h3⟩:=h;obtain⟨y1,y2,_⟩:=uz ys hy;have e:=Wn ys;have hs:x.cps.size=k:=h1;refine⟨?_,?_,?_⟩
 ·show(x.cps++(Txt.join (Str.ofString "") ys).cps).size=_;rw[qnt,hs,<- qna,e,y1]
 ·show(x.cps++(Txt.join (Str.ofString "") ys).cps)[0]? = _;rw[Array.getElem?_append_left (by omega)];exact h2
 ·show(x.cps++(Txt.join (Str.ofString "") ys).cps).toList.all isL=true;rw[qmY,List.all_append,h3,e,y2];rfl
end
section
variable {K:W.Frag}{l1 l2:Addr}{g:TG}{tb:TS}{D:Ends}{d:qb_ g tb D}{σ:St}{H:Hp}
theorem frZ(xs ys:List V)(Pv:Nat->St->Hp->Prop)(h0:Pv 0 σ H)(he:xs.length=ys.length)(hl:∀i σ H,i<=xs.length->Pv i σ H->aW K H l1 xs/\aW K H l2 ys)
  (hs:∀i x y t σ H,xs[i]? = some x->ys[i]? = some y->H t=none->Pv i σ H->g (.ref t) σ (upd H t (.tup [x,y])) λσ2 H2=>tb {D with nx:=Pv (i+1),ct:=Pv (i+1),bk:=D.nx} σ2 H2) (hd:∀σ H,Pv xs.length σ H->D.nx σ H):tFr (Itz K l1 l2) g tb D d σ H:=by
 refine⟨λi m σ H=>m=xs.length - i/\i<=xs.length/\Pv i σ H,⟨xs.length,by simp,qmP _,h0⟩,?_⟩;rintro i m σ H ⟨rfl,hi,p⟩;obtain⟨q1,q2⟩:=hl i σ H hi p
 by_cases hlt:i<xs.length
 ·have hlt2:i<ys.length:=by omega
  refine .inr ⟨⟨xs,ys,xs[i],ys[i],q1,q2,by simp[hlt],by simp[hlt2]⟩,Pv (i+1),λσ' H' p'=>⟨xs.length - (i+1),by omega,rfl,hlt,p'⟩,λx H' y=>?_⟩;obtain⟨t,u,v,rfl,ht,rfl,e1,e2⟩:=y;exact hs i u v t σ H (e1 xs q1) (e2 ys q2) ht p
 ·have e:i=xs.length:=by omega
  subst e;exact .inl ⟨⟨xs,ys,q1,q2,.inl (ql7 _)⟩,hd σ H p⟩
end
section
variable {X:Cx}{sc0 sc:Scope}{N0 own N:QAH}{caps:List Nat}{elt tg iter:Expr}{ifs:List Expr}{pos:Pos}{wi:TI}{g:TG}{tt:TT}{te:TE}
theorem Zx{C0 s0 H0 fp0 pn0}(S:aY sc0 sc N0 own caps N)(hc:(cO X sc0 N0 C0 s0 H0 fp0 pn0).calm=true)(hi:PI (cO X sc0 N0 C0 s0 H0 fp0 pn0) tg iter wi)
  (hg:∀C s H fp pn,PG (cO (cO X sc0 N0 C0 s0 H0 fp0 pn0) sc N C s H fp pn) tg g) (ht:∀C s H fp pn,PTs (cO (cO X sc0 N0 C0 s0 H0 fp0 pn0) sc N C s H fp pn) ifs tt) (he:∀C s H fp pn,PE (cO (cO X sc0 N0 C0 s0 H0 fp0 pn0) sc N C s H fp pn) elt te)
  (hs:∀x,foldedSetIterable iter (cO X sc0 N0 C0 s0 H0 fp0 pn0).env x=pure x:=by intro _;rfl):PE (cO X sc0 N0 C0 s0 H0 fp0 pn0) (.ListComp elt [⟨tg,iter,ifs,0⟩] sc pos) (Ui own caps wi g tt te):=by
 have S':aY (relabel sc0 X.env) sc N0 own caps N:=by
  refine⟨S.kind,S.uniq,S.nd,S.names,λp hp e=>?_,S.qgu⟩;rw[nW]
  rcases S.free p hp e with h|h
  ·rw[h];exact .inl rfl
  ·rw[h];simp only[Option.map_some];split
   ·exact .inl rfl
   ·exact .inr rfl
 exact eE (ps:=relabel sc0 X.env) (pN:=N0) rfl rfl S' hc hi hg ht he hs
end
def jR(ns:List Int):List PyData:=ns.map PyData.int
theorem Ur{K:W.Frag}{H:Hp}:∀ns:List Int,uh K H (jR ns) (ns.map V.int)
 |[]=>rfl
 |n::ns=>⟨_,_,rfl,rfl,Ur ns⟩
theorem lay_ints:∀ns:List Int,PyData.canLayAll0 (jR ns)=true
 |[]=>by simp[jR,PyData.canLayAll0]
 |x::xs=>by
  have:=lay_ints xs;simp[jR] at this;simp[jR,PyData.canLayAll0,PyData.canLay0,this]
theorem Nt:∀xs:List Int,PyData.depthAll (jR xs)<=1
 |[]=>by simp[jR,PyData.depthAll]
 |x::xs=>by
  have:=Nt xs;simp[jR] at this;simp[jR,PyData.depthAll,PyData.depth,this]
theorem Nu:∀a b:List Int,PyData.eqvAll (jR a) (jR b)=decide (a=b)
 |[],[]=>rfl
 |[],y::b=>by simp[jR,PyData.eqvAll]
 |x::a,[]=>by simp[jR,PyData.eqvAll]
 |x::a,y::b=>by
  show(PyData.eqv (.int x) (.int y) && PyData.eqvAll (jR a) (jR b))=_;rw[Nu a b,qnx];simp[PyData.eqv]
section
variable {X:Cx}{K:W.Frag}
theorem boot_repr:bootBuiltins "repr" = some (.builtin "repr"):=by decide+kernel
end
def isInt(x:V)(R:Int->Prop):Prop:=match x with|.int i=>R i|_=>False
def isStr(x:V)(R:Str->Prop):Prop:=match x with|.str i=>R i|_=>False
def oh(x:V)(R:Bool->Prop):Prop:=match x with|.bl i=>R i|_=>False
def isRef(x:V)(R:Addr->Prop):Prop:=match x with|.ref i=>R i|_=>False
def Wo(x:V)(R:String->Prop):Prop:=match x with|.ty n=>R n|_=>False
def ar0(xs:List V)(R:Prop):Prop:=match xs with|[]=>R|_=>False
def ar1(xs:List V)(R:V->Prop):Prop:=match xs with|[x]=>R x|_=>False
def ar2(xs:List V)(R:V->V->Prop):Prop:=match xs with|[x,y]=>R x y|_=>False
def arH(xs:List V)(R:V->List V->Prop):Prop:=match xs with|x::r=>R x r|[]=>False
def getSt:St->Nat->(V->Prop)->Prop
 |[],_,_=>False
 |o::_,0,R=>match o with|some v=>R v|none=>False
 |_::σ,n+1,R=>getSt σ n R
@[simp ↓] theorem qi6 (i:Int) R:isInt (.int i) R=R i:=rfl
@[simp ↓] theorem qi7 (i:Str) R:isStr (.str i) R=R i:=rfl
@[simp ↓] theorem qkh (i:Bool) R:oh (.bl i) R=R i:=rfl
@[simp ↓] theorem qi8 (i:Addr) R:isRef (.ref i) R=R i:=rfl
@[simp ↓] theorem qki (i:String) R:Wo (.ty i) R=R i:=rfl
@[simp ↓] theorem qln R:ar0 [] R=R:=rfl
@[simp ↓] theorem qlo x R:ar1 [x] R=R x:=rfl
@[simp ↓] theorem qlp x y R:ar2 [x,y] R=R x y:=rfl
@[simp ↓] theorem qlq x r R:arH (x::r) R=R x r:=rfl
@[simp ↓] theorem qi9 v σ R:getSt (some v::σ) 0 R=R v:=rfl
@[simp ↓] theorem qi_ o σ n R:getSt (o::σ) (n+1) R=getSt σ n R:=rfl
theorem isInt.out{x:V}{R}(h:isInt x R):∃i,x = .int i/\R i:=by cases x <;> first|exact⟨_,rfl,h⟩|exact h.elim
theorem isStr.out{x:V}{R}(h:isStr x R):∃i,x = .str i/\R i:=by cases x <;> first|exact⟨_,rfl,h⟩|exact h.elim
theorem oh.out{x:V}{R}(h:oh x R):∃i,x = .bl i/\R i:=by cases x <;> first|exact⟨_,rfl,h⟩|exact h.elim
theorem isRef.out{x:V}{R}(h:isRef x R):∃i,x = .ref i/\R i:=by cases x <;> first|exact⟨_,rfl,h⟩|exact h.elim
theorem Wo.out{x:V}{R}(h:Wo x R):∃i,x = .ty i/\R i:=by cases x <;> first|exact⟨_,rfl,h⟩|exact h.elim
theorem ar0.out{xs:List V}{R}(h:ar0 xs R):xs=[]/\R:=by cases xs <;> first|exact⟨rfl,h⟩|exact h.elim
theorem ar1.out{xs:List V}{R}(h:ar1 xs R):∃x,xs=[x]/\R x:=by
 match xs,h with
 |[x],h=>exact⟨x,rfl,h⟩
theorem ar2.out{xs:List V}{R}(h:ar2 xs R):∃x y,xs=[x,y]/\R x y:=by
 match xs,h with
 |[x,y],h=>exact⟨x,y,rfl,h⟩
theorem arH.out{xs:List V}{R}(h:arH xs R):∃x r,xs=x::r/\R x r:=by cases xs <;> first|exact⟨_,_,rfl,h⟩|exact h.elim
theorem getSt.out:∀{σ:St}{i:Nat}{R},getSt σ i R->∃v,σ[i]? = some (some v)/\R v
 |[],_,_,h=>h.elim
 |some v::_,0,_,h=>⟨v,rfl,h⟩
 |none::_,0,_,h=>h.elim
 |_::σ,n+1,R,h=>by
  obtain⟨v,e,q⟩:=getSt.out (σ:=σ) (i:=n) h;exact⟨v,by simpa using e,q⟩
section
variable {X:Cx}
theorem PE.mono{e:Expr}{t t':TE}(o:PE X e t)(h:∀{σ H Q},t' σ H Q->t σ H Q):PE X e t':=λp_ s σ H Q I q=>o p_ s σ H Q I (h q)
theorem PS.mono{e:Stmt}{t t':TS}(o:PS X e t)(h:∀{D σ H},t' D σ H->t D σ H):PS X e t':=λp_ s σ H D I q=>o p_ s σ H D I (h q)
theorem lH.mono{e:List Expr}{t t':L_}(o:lH X e t)(h:∀{v σ H Q},t' v σ H Q->t v σ H Q):lH X e t':=λp_ s σ H v u Q I r q=>o p_ s σ H v u Q I r (h q)
theorem iY.mono{f:Value->Value->Sem Value}{r r':R2}(o:iY X f r)(h:∀{x y H Q},r' x y H Q->r x y H Q):iY X f r':=λp_ s σ H x y v u Q I rx ry q=>o p_ s σ H x y v u Q I rx ry (h q)
theorem UnR.mono{f:Value->Sem Value}{r r':V->Hp->VK->Prop}(o:UnR X f r)(h:∀{x H Q},r' x H Q->r x H Q):UnR X f r':=λp_ s σ H x v Q I rx q=>o p_ s σ H x v Q I rx (h q)
theorem cg.mono{f:Value}{r r':List V->Hp->VK->Prop}(o:cg X f r)(h:∀{x H Q},r' x H Q->r x H Q):cg X f r':=λp_ s σ H x v Q I rx q=>o p_ s σ H x v Q I rx (h q)
theorem VR.mono{f:String}{r r':V->List V->Hp->VK->Prop}(o:VR X f r)(h:∀{x y H Q},r' x y H Q->r x y H Q):VR X f r':=λp_ s σ H x y v u Q I rx ry q=>o p_ s σ H x y v u Q I rx ry (h q)
theorem Yb.mono{r r':R2}(o:Yb X r)(h:∀{x y H Q},r' x y H Q->r x y H Q):Yb X r':=λa b p_ s σ H x y v u Q I rx ry q z=>o a b p_ s σ H x y v u Q I rx ry (h q) z
theorem SlR.mono{r r':V->Option Int->Option Int->Hp->VK->Prop}(o:SlR X r)(h:∀{x lo hi H Q},r' x lo hi H Q->r x lo hi H Q):SlR X r':=λp_ s σ H x v vl vu lo hi sl Q I rx z1 z2 z3 q=>o p_ s σ H x v vl vu lo hi sl Q I rx z1 z2 z3 (h q)
theorem PIp.mono{op:Operator}{r r':TIp}(o:PIp X op r)(h:∀{x y H Q},r' x y H Q->r x y H Q):PIp X op r':=λp_ s σ H x y v u Q I rx ry q=>o p_ s σ H x y v u Q I rx ry (h q)
theorem Vv.mono{r r':Vu}(o:Vv X r)(h:∀{x y z H Q},r' x y z H Q->r x y z H Q):Vv X r':=λp_ s σ H o' i v ov iv u Q I a b c q=>o p_ s σ H o' i v ov iv u Q I a b c (h q)
end
def fVar(i:Nat):TE:=λσ H Q=>getSt σ i λv=>Q v H
@[simp ↓] theorem qkj (i:Nat) σ H Q:fVar i σ H Q=getSt σ i (λv=>Q v H):=rfl
theorem qeP{i:Nat}{σ H Q}(h:fVar i σ H Q):qbH i σ H Q:=getSt.out h
def jT:QAH->List V->St
 |_::N,v::vs=>some v::jT N vs
 |_::N,[]=>none::jT N []
 |[],_=>[]
@[simp ↓] theorem qf1 n N v vs:jT (n::N) (v::vs)=some v::jT N vs:=rfl
@[simp ↓] theorem qf2 n N:jT (n::N) []=none::jT N []:=rfl
@[simp ↓] theorem qgR vs:jT [] vs=[]:=by cases vs <;> rfl
theorem nH:∀(N:QAH)(vs:List V),vs.length<=N.length->jT N vs=start N vs
 |[],[],_=>rfl
 |[],_::_,h=>by simp at h
 |n::N,[],_=>by
  rw[jT,nH N [] (by simp)];simp[start,qnv]
 |n::N,v::vs,h=>by
  rw[jT,nH N vs (by simpa using h)];simp[start]
def Zy(g:Int->Int->V):R2:=λx y H Q=>isInt x λi=>isInt y λj=>Q (g i j) H
def fI(C:Int->Int->Prop)(g:Int->Int->V):R2:=λx y H Q=>isInt x λi=>isInt y λj=>C i j/\Q (g i j) H
def fU(g:Int->V):V->Hp->VK->Prop:=λx H Q=>isInt x λi=>Q (g i) H
@[simp ↓] theorem qlr g x y H Q:Zy g x y H Q=(isInt x λi=>isInt y λj=>Q (g i j) H):=rfl
@[simp ↓] theorem qlR C g x y H Q:fI C g x y H Q=(isInt x λi=>isInt y λj=>C i j/\Q (g i j) H):=rfl
@[simp ↓] theorem qlS g x H Q:fU g x H Q=(isInt x λi=>Q (g i) H):=rfl
theorem Nv{g:Int->Int->V}{x y H Q}(h:Zy g x y H Q):rI0 g x y H Q:=by
 obtain⟨i,rfl,h1⟩:=isInt.out h;obtain⟨j,rfl,h2⟩:=isInt.out h1;exact⟨i,j,rfl,rfl,h2⟩
theorem qcf{C}{g:Int->Int->V}{x y H Q}(h:fI C g x y H Q):rI C g x y H Q:=by
 obtain⟨i,rfl,h1⟩:=isInt.out h;obtain⟨j,rfl,h2⟩:=isInt.out h1;exact⟨i,j,rfl,rfl,h2⟩
theorem qkk{g:Int->V}{x H Q}(h:fU g x H Q):rU g x H Q:=by
 obtain⟨i,rfl,h⟩:=isInt.out h;exact⟨i,rfl,h⟩
def fEq:R2:=λx y H Q=>match x,y with
 |.int i,.int j=>Q (.bl (decide (i=j))) H
 |.str i,.str j=>Q (.bl (decide (i=j))) H
 |.bl i,.bl j=>Q (.bl (decide (i=j))) H
 |x,y=>Bp x y=true/\Q (.bl (decide (x=y))) H
def fNe:R2:=λx y H Q=>match x,y with
 |.int i,.int j=>∃k,decide (i=j) = !k/\Q (.bl k) H
 |.str i,.str j=>∃k,decide (i=j) = !k/\Q (.bl k) H
 |.bl i,.bl j=>∃k,decide (i=j) = !k/\Q (.bl k) H
 |x,y=>Bp x y=true/\∃k,decide (x=y) = !k/\Q (.bl k) H
@[simp ↓] theorem qls i j H Q:fEq (.int i) (.int j) H Q=Q (.bl (decide (i=j))) H:=rfl
@[simp ↓] theorem qlu i j H Q:fEq (.str i) (.str j) H Q=Q (.bl (decide (i=j))) H:=rfl
@[simp ↓] theorem qlv i j H Q:fEq (.bl i) (.bl j) H Q=Q (.bl (decide (i=j))) H:=rfl
@[simp ↓] theorem qlw i j H Q:fNe (.int i) (.int j) H Q=∃k,decide (i=j) = !k/\Q (.bl k) H:=rfl
@[simp ↓] theorem qlx i j H Q:fNe (.str i) (.str j) H Q=∃k,decide (i=j) = !k/\Q (.bl k) H:=rfl
@[simp ↓] theorem qly i j H Q:fNe (.bl i) (.bl j) H Q=∃k,decide (i=j) = !k/\Q (.bl k) H:=rfl
theorem zJ{b:Bool}{R:Bool->Prop}(h:∃k,b = !k/\R k):R (!b):=by
 obtain⟨k,e,q⟩:=h;rw[e,Bool.not_not];exact q
theorem qgS{x y H Q}(h:fEq x y H Q):rEq x y H Q:=by
 unfold fEq at h;split at h
 ·exact⟨rfl,by simpa using h⟩
 ·exact⟨rfl,by simpa using h⟩
 ·exact⟨rfl,by simpa using h⟩
 ·exact h
theorem qgT{x y H Q}(h:fNe x y H Q):rNe x y H Q:=by
 unfold fNe at h;split at h
 ·exact⟨rfl,by simpa using zJ (R:=λk=>Q (.bl k) H) h⟩
 ·exact⟨rfl,by simpa using zJ (R:=λk=>Q (.bl k) H) h⟩
 ·exact⟨rfl,by simpa using zJ (R:=λk=>Q (.bl k) H) h⟩
 ·exact⟨h.1,zJ (R:=λk=>Q (.bl k) H) h.2⟩
def Zz:R2:=λx y H Q=>isStr x λi=>isStr y λj=>i.length+j.length<=sizeLine/\Q (.str (i++j)) H
@[simp ↓] theorem qja x y H Q:Zz x y H Q=(isStr x λi=>isStr y λj=>i.length+j.length<=sizeLine/\Q (.str (i++j)) H):=rfl
theorem qcg{x y H Q}(h:Zz x y H Q):qgz x y H Q:=by
 obtain⟨i,rfl,h1⟩:=isStr.out h;obtain⟨j,rfl,h2⟩:=isStr.out h1;exact⟨i,j,rfl,rfl,h2⟩
def qch:R2:=λx y H Q=>isRef x λl=>isRef y λb=>∃xs,H l=some (.lst xs)/\∃zs,H b=some (.lst zs)/\xs.length+zs.length<=sizeLine/\∀p,H p=none->Q (.ref p) (upd H p (.lst (xs++zs)))
@[simp ↓] theorem qkl x y H Q:qch x y H Q=(isRef x λl=>isRef y λb=>∃xs,H l=some (.lst xs)/\∃zs,H b=some (.lst zs)/\xs.length+zs.length<=sizeLine/\∀p,H p=none->Q (.ref p) (upd H p (.lst (xs++zs)))):=rfl
theorem qeQ{x y H Q}(h:qch x y H Q):qgr x y H Q:=by
 obtain⟨i,rfl,h0⟩:=isRef.out h;obtain⟨j,rfl,xs,h1,zs,h2,h3⟩:=isRef.out h0;exact⟨i,j,xs,zs,rfl,rfl,h1,h2,h3⟩
def vU(t:TE):TT:=λσ H Q=>t σ H λx H'=>oh x λk=>Q k H'
@[simp ↓] theorem qjb (t:TE) σ H Q:vU t σ H Q=(t σ H λx H'=>oh x λk=>Q k H'):=rfl
def ZC(ta:TE):TE:=λσ H Q=>ta σ H λx H1=>oh x λc=>Q (.bl (!c)) H1
@[simp ↓] theorem qjc (ta:TE) σ H Q:ZC ta σ H Q=(ta σ H λx H1=>oh x λc=>Q (.bl (!c)) H1):=rfl
def ZD(ta tb:TE):TE:=λσ H Q=>ta σ H λx H1=>oh x λc=>eX c (tb σ H1 Q) (Q (.bl false) H1) ⟨0⟩
@[simp ↓] theorem qjd (ta tb:TE) σ H Q:ZD ta tb σ H Q=(ta σ H λx H1=>oh x λc=>eX c (tb σ H1 Q) (Q (.bl false) H1) ⟨0⟩):=rfl
def JZ(r r':R2)(ta tb tc:TE):TE:=λσ H Q=>ta σ H λx H1=>tb σ H1 λy H2=>r x y H2 λz H3=>oh z λk=>eX k (tc σ H3 λw' H4=>r' y w' H4 Q) (Q (.bl false) H3) ⟨0⟩
@[simp ↓] theorem qgU (r r':R2)(ta tb tc:TE) σ H Q:JZ r r' ta tb tc σ H Q=(ta σ H λx H1=>tb σ H1 λy H2=>r x y H2 λz H3=>oh z λk=>eX k (tc σ H3 λw' H4=>r' y w' H4 Q) (Q (.bl false) H3) ⟨0⟩):=rfl
section
variable {X:Cx}{K:W.Frag}{a b c:Expr}{ta tb tc:TE}{tA:TT}{pos:Pos}
theorem aL(i:Nat){x:Str}{pos:Pos}(hN:X.N[i]? = some x:=by rfl)(hv:Vis X.env.scope x:=by first|exact Or.inl rfl|exact Or.inr (Or.inl rfl)|exact Or.inr (Or.inr rfl)) (hd:(x == ("__debug__" : Str))=false:=by decide)
  (hcd:(x == ("__classdict__" : Str))=false:=by decide):PE X (.Name x pos) (fVar i):=(Yl hN hv hd hcd).mono qeP
theorem jo:iY X (binaryOp .Add) (Zy λi j=>.int (i+j)):=qeb.mono Nv
theorem yI:iY X (binaryOp .Sub) (Zy λi j=>.int (i - j)):=qec.mono Nv
theorem ZF:iY X (compareOp .Lt) (Zy λi j=>.bl (decide (i<j))):=qgl.mono Nv
theorem zK:iY X (compareOp .LtE) (Zy λi j=>.bl (decide (i<=j))):=qgm.mono Nv
theorem uD:iY X (compareOp .Gt) (Zy λi j=>.bl (decide (j<i))):=qgn.mono Nv
theorem mU:iY X (compareOp .Eq) fEq:=qgj.mono qgS
theorem mV:iY X (compareOp .NotEq) fNe:=qgk.mono qgT
theorem Ny:iY X (binaryOp .Add) Zz:=Qz.mono qcg
theorem lM:iY X (binaryOp .Add) qch:=qet.mono qeQ
theorem J0:UnR X (unaryOp .USub) (fU λi=>.int (-i)):=qeh.mono qkk
theorem yJ(x:V)(R:Bool->Prop):oh x R=(∃k,x = .bl k/\R k):=propext ⟨oh.out,λ⟨k,e,q⟩=>by subst e;exact q⟩
theorem ZG(x:V)(R:Int->Prop):isInt x R=(∃k,x = .int k/\R k):=propext ⟨isInt.out,λ⟨k,e,q⟩=>by subst e;exact q⟩
theorem Nz(x:V)(R:Addr->Prop):isRef x R=(∃k,x = .ref k/\R k):=propext ⟨isRef.out,λ⟨k,e,q⟩=>by subst e;exact q⟩
theorem ZJ(x:V)(R:Str->Prop):isStr x R=(∃k,x = .str k/\R k):=propext ⟨isStr.out,λ⟨k,e,q⟩=>by subst e;exact q⟩
theorem qeR(x:List V)(R:V->List V->Prop):arH x R=(∃k j,x=k::j/\R k j):=propext ⟨arH.out,λ⟨k,j,e,q⟩=>by subst e;exact q⟩
theorem NK(t:TE):vU t=Ud t:=by
 funext σ H Q
 exact qmA (t σ H) (funext λx=>funext λH'=>yJ _ _)
theorem qdp(t:TE):vU t=tB t:=by
 funext σ H Q
 exact qmA (t σ H) (funext λx=>funext λH'=>yJ _ _)
theorem ZK(t:TE):ZC t=Yn t:=by
 funext σ H Q
 exact qmA (t σ H) (funext λx=>funext λH'=>yJ _ _)
theorem ZL(t u:TE):ZD t u=Ym t u:=by
 funext σ H Q
 exact qmA (t σ H) (funext λx=>funext λH'=>yJ _ _)
theorem Hx(r r':R2)(ta tb tc:TE):JZ r r' ta tb tc=Jo r r' ta tb tc:=by
 funext σ H Q
 exact qmA (ta σ H) (funext λx=>funext λH1=>qmA (tb σ H1) (funext λy=>funext λH2=>qmA (r x y H2) (funext λz=>funext λH3=>yJ _ _)))
theorem aU{op:CmpOp}{r:R2}(ho:iY X (compareOp op) r)(ha:PE X a ta)(hb:PE X b tb)(hm:behindInMarks op b=false):PT X (.Compare a [op] [b] pos) (vU (Mr r ta tb)):=NK _▸qbO ho ha hb hm
theorem Us{op:CmpOp}{t:TE}(h:PC X op a b t)(h1:behindInMarks op b=false:=by first|exact Ml _ (by decide) (by decide)|rfl):PT X (.Compare a [op] [b] pos) (vU t):=qdp _▸qd1 h h1
theorem dJ{e:Expr}{t:TE}(h:PE X e t)(he:∀whole,isTrue e X.env whole=(do let v <- whole;standAt e.pos;holding [v] (truthy v)):=by intro _;rfl):PT X e (vU t):=qdp _▸qd2 h he
theorem Wq{op op':CmpOp}{r r':R2}(ho:iY X (compareOp op) r)(ho':iY X (compareOp op') r')(ha:PE X a ta)(hb:PE X b tb)(hc:PE X c tc)
  (hm:lastMarks [op,op'] [b,c]=false:=by with_unfolding_all rfl):PE X (.Compare a [op,op'] [b,c] pos) (JZ r r' ta tb tc):=Hx _ _ _ _ _▸YB ho ho' ha hb hc hm
theorem Hy{op op':CmpOp}{r r':R2}(ho:iY X (compareOp op) r)(ho':iY X (compareOp op') r')(ha:PE X a ta)(hb:PE X b tb)(hc:PE X c tc)
  (hm:lastMarks [op,op'] [b,c]=false:=by with_unfolding_all rfl):PT X (.Compare a [op,op'] [b,c] pos) (vU (JZ r r' ta tb tc)):=by
 rw[NK,Hx];exact YC ho ho' ha hb hc hm
theorem qci(ha:PE X a ta):PE X (.UnaryOp .Not a pos) (ZC ta):=ZK _▸qd4 ha
theorem BL{rest:List Expr}(ha:PE X a ta)(hb:PE X (.BoolOp .And (b::rest) pos) tb):PE X (.BoolOp .And (a::b::rest) pos) (ZD ta tb):=ZL _ _▸qd3 ha hb
end
def qcj(K:W.Frag):R2:=λx y H Q=>isRef x λp=>isInt y λi=>∃xs,(aW K H p xs\/eG K H p xs)/\∃v,Gi xs i=some v/\Q v H
@[simp ↓] theorem qkm (K:W.Frag) x y H Q:qcj K x y H Q=(isRef x λp=>isInt y λi=>∃xs,(aW K H p xs\/eG K H p xs)/\∃v,Gi xs i=some v/\Q v H):=rfl
theorem qeS{K:W.Frag}{x y H Q}(h:qcj K x y H Q):qeB K x y H Q:=by
 obtain⟨p,rfl,h1⟩:=isRef.out h;obtain⟨i,rfl,xs,h2,v,h3,h4⟩:=isInt.out h1;exact⟨p,xs,i,v,rfl,rfl,h2,h3,h4⟩
def qeT  : R2:=λx y H Q=>isStr x λz=>isInt y λi=>z.length<=sizeLine/\∃c,Gi z.cps.toList i=some c/\Q (.str ⟨#[c]⟩) H
@[simp ↓] theorem qkn  x y H Q:qeT x y H Q=(isStr x λz=>isInt y λi=>z.length<=sizeLine/\∃c,Gi z.cps.toList i=some c/\Q (.str ⟨#[c]⟩) H):=rfl
theorem qeU  {x y H Q} (h:qeT x y H Q):qgo x y H Q:=by
 obtain⟨z,rfl,h1⟩:=isStr.out h;obtain⟨i,rfl,h2,c,h3,h4⟩:=isInt.out h1;exact⟨z,i,c,rfl,rfl,h2,h3,h4⟩
def Hz(K:W.Frag):List V->Hp->VK->Prop:=λxs H Q=>ar1 xs λx=>isRef x λp=>∃ys,(aW K H p ys\/eG K H p ys)/\Q (.int ys.length) H
@[simp ↓] theorem qje (K:W.Frag) xs H Q:Hz K xs H Q=(ar1 xs λx=>isRef x λp=>∃ys,(aW K H p ys\/eG K H p ys)/\Q (.int ys.length) H):=rfl
theorem qck{K:W.Frag}{xs H Q}(h:Hz K xs H Q):qdf K xs H Q:=by
 obtain⟨x,rfl,h1⟩:=ar1.out h;obtain⟨p,rfl,ys,h2,h3⟩:=isRef.out h1;exact⟨p,ys,rfl,h2,h3⟩
def ZM  : List V->Hp->VK->Prop:=λxs H Q=>ar1 xs λx=>isStr x λz=>z.length<=sizeLine/\Q (.int z.length) H
@[simp ↓] theorem qjf  xs H Q:ZM xs H Q=(ar1 xs λx=>isStr x λz=>z.length<=sizeLine/\Q (.int z.length) H):=rfl
theorem qcl  {xs H Q} (h:ZM xs H Q):qdg xs H Q:=by
 obtain⟨x,rfl,h1⟩:=ar1.out h;obtain⟨p,rfl,h2⟩:=isStr.out h1;exact⟨p,rfl,h2⟩
def J3(K:W.Frag):List V->Hp->VK->Prop:=λxs H Q=>ar1 xs λx=>isRef x λp=>∃ys,(aW K H p ys\/eG K H p ys)/\∀l,H l=none->Q (.ref l) (upd H l (.lst ys))
@[simp ↓] theorem qf3 (K:W.Frag) xs H Q:J3 K xs H Q=(ar1 xs λx=>isRef x λp=>∃ys,(aW K H p ys\/eG K H p ys)/\∀l,H l=none->Q (.ref l) (upd H l (.lst ys))):=rfl
theorem Wr{K:W.Frag}{xs H Q}(h:J3 K xs H Q):Uj K xs H Q:=by
 obtain⟨x,rfl,h1⟩:=ar1.out h;obtain⟨p,rfl,ys,h2,h3⟩:=isRef.out h1;exact⟨p,ys,rfl,h2,h3⟩
def BP  : List V->Hp->VK->Prop:=λxs H Q=>ar1 xs λx=>isRef x λp=>∃ys,Sq H p ys/\∀l H',H' l=some (.tup ys)->Same H H'->Q (.ref l) H'
@[simp ↓] theorem qf4  xs H Q:BP xs H Q=(ar1 xs λx=>isRef x λp=>∃ys,Sq H p ys/\∀l H',H' l=some (.tup ys)->Same H H'->Q (.ref l) H'):=rfl
theorem Ws  {xs H Q} (h:BP xs H Q):Uk xs H Q:=by
 obtain⟨x,rfl,h1⟩:=ar1.out h;obtain⟨p,rfl,ys,h2,h3⟩:=isRef.out h1;exact⟨p,ys,rfl,h2,h3⟩
def ZP(K:W.Frag):List V->Hp->VK->Prop:=λxs H Q=>ar2 xs λx y=>Wo y λn=>∃t,mL K H x t/\∃b,W.kitOne K t (.type n)=some b/\Q (.bl b) H
@[simp ↓] theorem qjg (K:W.Frag) xs H Q:ZP K xs H Q=(ar2 xs λx y=>Wo y λn=>∃t,mL K H x t/\∃b,W.kitOne K t (.type n)=some b/\Q (.bl b) H):=rfl
theorem qcm{K:W.Frag}{xs H Q}(h:ZP K xs H Q):qdh K xs H Q:=by
 obtain⟨x,y,rfl,h1⟩:=ar2.out h;obtain⟨n,rfl,t,h2,b,h3,h4⟩:=Wo.out h1;exact⟨x,n,t,b,rfl,h2,h3,h4⟩
def ZQ(K:W.Frag):List V->Hp->VK->Prop:=λxs H Q=>ar2 xs λx y=>isRef y λp=>∃m n,H p=some (.tup [.ty m,.ty n])/\∃t,mL K H x t/\∃b,W.kitAny K t [.type m,.type n]=some b/\Q (.bl b) H
@[simp ↓] theorem qjh (K:W.Frag) xs H Q:ZQ K xs H Q=(ar2 xs λx y=>isRef y λp=>∃m n,H p=some (.tup [.ty m,.ty n])/\∃t,mL K H x t/\∃b,W.kitAny K t [.type m,.type n]=some b/\Q (.bl b) H):=rfl
theorem qcn{K:W.Frag}{xs H Q}(h:ZQ K xs H Q):qdi K xs H Q:=by
 obtain⟨x,y,rfl,h1⟩:=ar2.out h;obtain⟨p,rfl,m,n,h0,t,h2,b,h3,h4⟩:=isRef.out h1;exact⟨x,p,m,n,t,b,rfl,h0,h2,h3,h4⟩
def fIn(K:W.Frag):R2:=λx y H Q=>isRef y λp=>∃xs,(aW K H p xs\/eG K H p xs)/\jP x=true/\(∀z∈xs,jP z=true)/\Q (.bl (inV x xs)) H
@[simp ↓] theorem qlz (K:W.Frag) x y H Q:fIn K x y H Q=(isRef y λp=>∃xs,(aW K H p xs\/eG K H p xs)/\jP x=true/\(∀z∈xs,jP z=true)/\Q (.bl (inV x xs)) H):=rfl
theorem qgV{K:W.Frag}{x y H Q}(h:fIn K x y H Q):qb1 K x y H Q:=by
 obtain⟨p,rfl,xs,h1,h2,h3,h4⟩:=isRef.out h;exact .inl ⟨p,xs,rfl,h1,h2,qmn.mpr h3,h4⟩
def Rj(K:W.Frag):R2:=λx y H Q=>isRef y λp=>∃xs,(aW K H p xs\/eG K H p xs)/\jP x=true/\(∀z∈xs,jP z=true)/\∃k,inV x xs = !k/\Q (.bl k) H
@[simp ↓] theorem qgW (K:W.Frag) x y H Q:Rj K x y H Q=(isRef y λp=>∃xs,(aW K H p xs\/eG K H p xs)/\jP x=true/\(∀z∈xs,jP z=true)/\∃k,inV x xs = !k/\Q (.bl k) H):=rfl
theorem ZR{K:W.Frag}{x y H Q}(h:Rj K x y H Q):JD K x y H Q:=by
 obtain⟨p,rfl,xs,h1,h2,h3,h4⟩:=isRef.out h;exact .inl ⟨p,xs,rfl,h1,h2,qmn.mpr h3,zJ (R:=λk=>Q (.bl k) H) h4⟩
def qeV(K:W.Frag):R2:=λx y H Q=>isStr x λi=>isStr y λj=>Q (.bl (!(Builtin.Str.occurrences j i 0 j.length 1).isEmpty)) H
@[simp ↓] theorem qko (K:W.Frag) x y H Q:qeV K x y H Q=(isStr x λi=>isStr y λj=>Q (.bl (!(Builtin.Str.occurrences j i 0 j.length 1).isEmpty)) H):=rfl
theorem qeW{K:W.Frag}{x y H Q}(h:qeV K x y H Q):qb1 K x y H Q:=by
 obtain⟨i,rfl,h1⟩:=isStr.out h;obtain⟨j,rfl,h2⟩:=isStr.out h1;exact .inr ⟨i,j,rfl,rfl,h2⟩
def J4  : V->List V->Hp->VK->Prop:=λx vs H Q=>isRef x λl=>ar1 vs λy=>∃xs,H l=some (.lst xs)/\xs.length<sizeLine/\Q .non (upd H l (.lst (xs++[y])))
@[simp ↓] theorem qf5  x vs H Q:J4 x vs H Q=(isRef x λl=>ar1 vs λy=>∃xs,H l=some (.lst xs)/\xs.length<sizeLine/\Q .non (upd H l (.lst (xs++[y])))):=rfl
theorem Wt  {x vs H Q} (h:J4 x vs H Q):Jw x vs H Q:=by
 obtain⟨l,rfl,h1⟩:=isRef.out h;obtain⟨y,rfl,xs,h2,h3⟩:=ar1.out h1;exact⟨l,xs,y,rfl,rfl,h2,h3⟩
def J_  : V->List V->Hp->VK->Prop:=λx vs H Q=>isRef x λl=>ar2 vs λj y=>isInt j λi=>∃xs,H l=some (.lst xs)/\0<=i/\i<=xs.length/\xs.length<sizeLine/\Q .non (upd H l (.lst (xs.take i.toNat++y::xs.drop i.toNat)))
@[simp ↓] theorem qf6  x vs H Q:J_ x vs H Q=(isRef x λl=>ar2 vs λj y=>isInt j λi=>∃xs,H l=some (.lst xs)/\0<=i/\i<=xs.length/\xs.length<sizeLine/\Q .non (upd H l (.lst (xs.take i.toNat++y::xs.drop i.toNat)))):=rfl
theorem Wu  {x vs H Q} (h:J_ x vs H Q):Jy x vs H Q:=by
 obtain⟨l,rfl,h1⟩:=isRef.out h;obtain⟨j,y,rfl,h2⟩:=ar2.out h1;obtain⟨i,rfl,xs,h3⟩:=isInt.out h2;exact⟨l,xs,i,y,rfl,rfl,h3⟩
def ZS  : V->List V->Hp->VK->Prop:=λx vs H Q=>isStr x λsep=>ar1 vs λy=>isRef y λl=>∃ys:QAH,H l=some (.lst (ys.map V.str))/\(ys.map (·.length)).sum+ys.length * sep.length<=16777216/\Q (.str (Txt.join sep ys)) H
@[simp ↓] theorem qji  x vs H Q:ZS x vs H Q=(isStr x λsep=>ar1 vs λy=>isRef y λl=>∃ys:QAH,H l=some (.lst (ys.map V.str))/\(ys.map (·.length)).sum+ys.length * sep.length<=16777216/\Q (.str (Txt.join sep ys)) H):=rfl
theorem qco  {x vs H Q} (h:ZS x vs H Q):rJoin x vs H Q:=by
 obtain⟨sep,rfl,h1⟩:=isStr.out h;obtain⟨y,rfl,h2⟩:=ar1.out h1;obtain⟨l,rfl,ys,h3⟩:=isRef.out h2;exact⟨sep,l,ys,rfl,rfl,h3⟩
def qeX(K:W.Frag):R2:=λx y H Q=>∃d,Is K H d x/\∃e,Is K H e y/\d.canLay0=true/\e.canLay0=true/\d.depth<=64/\∃k,PyData.eqv d e = !k/\Q (.bl k) H
@[simp ↓] theorem qkp (K:W.Frag) x y H Q:qeX K x y H Q=(∃d,Is K H d x/\∃e,Is K H e y/\d.canLay0=true/\e.canLay0=true/\d.depth<=64/\∃k,PyData.eqv d e = !k/\Q (.bl k) H):=rfl
theorem qeY{K:W.Frag}{x y H Q}(h:qeX K x y H Q):qgK K x y H Q:=by
 obtain⟨d,h1,e,h2,h3,h4,h5,h6⟩:=h;exact⟨d,e,h1,h2,h3,h4,h5,zJ (R:=λk=>Q (.bl k) H) h6⟩
def qeZ  : List V->Hp->VK->Prop:=λxs H Q=>ar1 xs λx=>isInt x λi=>Q (.int (if i<0 then -i else i)) H
@[simp ↓] theorem qkq  xs H Q:qeZ xs H Q=(ar1 xs λx=>isInt x λi=>Q (.int (if i<0 then -i else i)) H):=rfl
theorem qe0  {xs H Q} (h:qeZ xs H Q):(λxs H Q=>∃i,xs=[.int i]/\Q (.int (if i<0 then -i else i)) H:List V->Hp->VK->Prop) xs H Q:=by
 obtain⟨x,rfl,h1⟩:=ar1.out h;obtain⟨i,rfl,h2⟩:=isInt.out h1;exact⟨i,rfl,h2⟩
def ZV  : List V->Hp->VK->Prop:=λxs H Q=>ar2 xs λx y=>isInt x λi=>isInt y λj=>Q (.int (if j > i then j else i)) H
@[simp ↓] theorem qjj  xs H Q:ZV xs H Q=(ar2 xs λx y=>isInt x λi=>isInt y λj=>Q (.int (if j > i then j else i)) H):=rfl
theorem qcp  {xs H Q} (h:ZV xs H Q):(λxs H Q=>∃i j,xs=[.int i,.int j]/\Q (.int (if j > i then j else i)) H:List V->Hp->VK->Prop) xs H Q:=by
 obtain⟨x,y,rfl,h1⟩:=ar2.out h;obtain⟨i,rfl,h2⟩:=isInt.out h1;obtain⟨j,rfl,h3⟩:=isInt.out h2;exact⟨i,j,rfl,h3⟩
def ZW  : List V->Hp->VK->Prop:=λxs H Q=>ar2 xs λx y=>isInt x λi=>isInt y λj=>Q (.int (if j<i then j else i)) H
@[simp ↓] theorem qjk  xs H Q:ZW xs H Q=(ar2 xs λx y=>isInt x λi=>isInt y λj=>Q (.int (if j<i then j else i)) H):=rfl
theorem qcq  {xs H Q} (h:ZW xs H Q):(λxs H Q=>∃i j,xs=[.int i,.int j]/\Q (.int (if j<i then j else i)) H:List V->Hp->VK->Prop) xs H Q:=by
 obtain⟨x,y,rfl,h1⟩:=ar2.out h;obtain⟨i,rfl,h2⟩:=isInt.out h1;obtain⟨j,rfl,h3⟩:=isInt.out h2;exact⟨i,j,rfl,h3⟩
def Ka  : List V->Hp->VK->Prop:=λxs H Q=>ar2 xs λx y=>isInt x λi=>isInt y λj=>VD i j/\∀p,H p=none->Q (.ref p) (upd H p (.tup [.int (i / j),.int (i % j)]))
@[simp ↓] theorem qf7  xs H Q:Ka xs H Q=(ar2 xs λx y=>isInt x λi=>isInt y λj=>VD i j/\∀p,H p=none->Q (.ref p) (upd H p (.tup [.int (i / j),.int (i % j)]))):=rfl
theorem Wv  {xs H Q} (h:Ka xs H Q):(λxs H Q=>∃i j,xs=[.int i,.int j]/\VD i j/\∀p,H p=none->Q (.ref p) (upd H p (.tup [.int (i / j),.int (i % j)])):List V->Hp->VK->Prop) xs H Q:=by
 obtain⟨x,y,rfl,h1⟩:=ar2.out h;obtain⟨i,rfl,h2⟩:=isInt.out h1;obtain⟨j,rfl,h3⟩:=isInt.out h2;exact⟨i,j,rfl,h3⟩
def qe1  : List V->Hp->VK->Prop:=λxs H Q=>ar1 xs λx=>isRef x λa=>∃ys,H a=some (.lst ys)/\∃bs,pq ys bs/\Q (.bl (bs.all id)) H
@[simp ↓] theorem qkr  xs H Q:qe1 xs H Q=(ar1 xs λx=>isRef x λa=>∃ys,H a=some (.lst ys)/\∃bs,pq ys bs/\Q (.bl (bs.all id)) H):=rfl
theorem qe2  {xs H Q} (h:qe1 xs H Q):(λxs H Q=>∃a ys bs,xs=[.ref a]/\H a=some (.lst ys)/\pq ys bs/\Q (.bl (bs.all id)) H:List V->Hp->VK->Prop) xs H Q:=by
 obtain⟨x,rfl,h1⟩:=ar1.out h;obtain⟨a,rfl,ys,h2,bs,h3,h4⟩:=isRef.out h1;exact⟨a,ys,bs,rfl,h2,h3,h4⟩
def qe3  : List V->Hp->VK->Prop:=λxs H Q=>ar1 xs λx=>isRef x λa=>∃ys,H a=some (.lst ys)/\∃bs,pq ys bs/\Q (.bl (bs.any id)) H
@[simp ↓] theorem qks  xs H Q:qe3 xs H Q=(ar1 xs λx=>isRef x λa=>∃ys,H a=some (.lst ys)/\∃bs,pq ys bs/\Q (.bl (bs.any id)) H):=rfl
theorem qe4  {xs H Q} (h:qe3 xs H Q):qdm xs H Q:=by
 obtain⟨x,rfl,h1⟩:=ar1.out h;obtain⟨a,rfl,ys,h2,bs,h3,h4⟩:=isRef.out h1;exact⟨a,ys,bs,rfl,h2,h3,h4⟩
def Ut:List V->Hp->VK->Prop:=λxs H Q=>ar1 xs λx=>match x with|.int i=>Q (.int i) H|.bl k=>Q (.int (if k=true then 1 else 0)) H|_=>False
@[simp ↓] theorem qjl i H Q:Ut [.int i] H Q=Q (.int i) H:=rfl
@[simp ↓] theorem qjm k H Q:Ut [.bl k] H Q=Q (.int (if k=true then 1 else 0)) H:=rfl
theorem qcr{xs H Q}(h:Ut xs H Q):(λxs H Q=>(∃i,xs=[.int i]/\Q (.int i) H)\/∃k,xs=[.bl k]/\Q (.int (if k then 1 else 0)) H:List V->Hp->VK->Prop) xs H Q:=by
 obtain⟨x,rfl,h1⟩:=ar1.out h;cases x with
 |int i=>exact .inl ⟨i,rfl,h1⟩
 |bl k=>exact .inr ⟨k,rfl,h1⟩
 |_=>exact h1.elim
def ZX:Vu:=λo i v H Q=>isRef o λp=>isInt i λk=>∃xs,H p=some (.lst xs)/\∃j,YX xs.length k=some j/\Q (upd H p (.lst (xs.set j v)))
@[simp ↓] theorem qjn o i v H Q:ZX o i v H Q=(isRef o λp=>isInt i λk=>∃xs,H p=some (.lst xs)/\∃j,YX xs.length k=some j/\Q (upd H p (.lst (xs.set j v)))):=rfl
theorem qcs{o i v H Q}(h:ZX o i v H Q):qde o i v H Q:=by
 obtain⟨p,rfl,h1⟩:=isRef.out h;obtain⟨k,rfl,xs,h2,j,h3,h4⟩:=isInt.out h1;exact⟨p,xs,k,j,rfl,rfl,h2,h3,h4⟩
def Ww(K:W.Frag):V->Option Int->Option Int->Hp->VK->Prop:=λx lo hi H Q=>isRef x λa=>∃xs,aW K H a xs/\∀p,H p=none->Q (.ref p) (upd H p (.lst (mC xs lo hi)))
@[simp ↓] theorem qkt (K:W.Frag) x lo hi H Q:Ww K x lo hi H Q=(isRef x λa=>∃xs,aW K H a xs/\∀p,H p=none->Q (.ref p) (upd H p (.lst (mC xs lo hi)))):=rfl
theorem qe5{K:W.Frag}{x lo hi H Q}(h:Ww K x lo hi H Q):qbU K x lo hi H Q:=by
 obtain⟨a,rfl,xs,h1⟩:=isRef.out h;exact⟨a,xs,rfl,h1⟩
def qgX:L_:=λvs σ H Q=>ar0 vs (Q σ H)
def qdq(t:TG)(u:L_):L_:=λvs σ H Q=>arH vs λv r=>t v σ H λσ' H'=>u r σ' H' Q
def qgY(K:W.Frag)(n:Nat)(t:L_):TG:=λv σ H Q=>isRef v λa=>∃xs,eG K H a xs/\xs.length=n/\t xs σ H Q
@[simp ↓] theorem qku vs σ H Q:qgX vs σ H Q=ar0 vs (Q σ H):=rfl
@[simp ↓] theorem qjo t u vs σ H Q:qdq t u vs σ H Q=(arH vs λv r=>t v σ H λσ' H'=>u r σ' H' Q):=rfl
@[simp ↓] theorem qkv K n t v σ H Q:qgY K n t v σ H Q=(isRef v λa=>∃xs,eG K H a xs/\xs.length=n/\t xs σ H Q):=rfl
theorem jU{vs σ H Q}(h:qgX vs σ H Q):qd6 vs σ H Q:=ar0.out h
theorem bL(t:TG)(u:L_):qdq t u=Yq t u:=by
 funext vs σ H Q
 exact qeR _ _
theorem gW(K:W.Frag)(n:Nat)(t:L_):qgY K n t=qbK K n t:=by
 funext v σ H Q
 refine propext ⟨λh=>?_,λ⟨a,xs,e,h⟩=>by subst e;exact⟨xs,h⟩⟩;obtain⟨a,rfl,xs,h1⟩:=isRef.out h;exact⟨a,xs,rfl,h1⟩
def qe6(f:Int->Int->Int):TIp:=λx y H Q=>isInt x λi=>isInt y λj=>Q (.int (f i j)) H
@[simp ↓] theorem qkw f x y H Q:qe6 f x y H Q=(isInt x λi=>isInt y λj=>Q (.int (f i j)) H):=rfl
theorem qe7{f:Int->Int->Int}{x y H Q}(h:qe6 f x y H Q):ipI f x y H Q:=by
 obtain⟨i,rfl,h1⟩:=isInt.out h;obtain⟨j,rfl,h2⟩:=isInt.out h1;exact⟨i,j,rfl,rfl,h2⟩
def qgZ(i:Nat)(te:TE)(ti:TIp):TS:=λD σ H=>getSt σ i λx=>te σ H λy H1=>ti x y H1 λz H2=>D.nx (σ.set i (some z)) H2
@[simp ↓] theorem qkx i te ti D σ H:qgZ i te ti D σ H=(getSt σ i λx=>te σ H λy H1=>ti x y H1 λz H2=>D.nx (σ.set i (some z)) H2):=rfl
theorem Z0{i:Nat}{te:TE}{ti:TIp}{D σ H}(h:qgZ i te ti D σ H):qd8 i te ti D σ H:=getSt.out h
def Z1(K:W.Frag)(tl:TE):TI:=λσ H R=>tl σ H λx H1=>isRef x λa=>(∃xs,aW K H1 a xs)/\R (X_ K a) H1
def qdr(K:W.Frag)(tl:TE):TI:=λσ H R=>tl σ H λx H1=>isRef x λp=>∃b,(∃xs,SqB b K H1 p xs)/\R (Itq b K p) H1
def qds(tl:TE):TI:=λσ H R=>tl σ H λx H1=>isStr x λz=>R (Its z) H1
def Z2(ta:TA):TI:=λσ H R=>ta σ H λvs H1=>ar1 vs λv=>isInt v λj=>-(2 ^ 62)<=j/\j<2 ^ 62/\R (Qp 0 j.toNat) H1
def Z4(ta:TA):TI:=λσ H R=>ta σ H λvs H1=>ar2 vs λv w=>isInt v λi=>isInt w λj=>(-(2 ^ 62)<=i/\i<2 ^ 62/\-(2 ^ 62)<=j/\j<2 ^ 62)/\R (Qp i (j - i).toNat) H1
def qdt(K:W.Frag)(t:TA):TI:=λσ H R=>t σ H λvs H1=>ar2 vs λx y=>isRef x λa=>isRef y λb=>(∃xs,aW K H1 a xs)/\(∃ys,aW K H1 b ys)/\R (Itz K a b) H1
def Z5(K:W.Frag)(t:TA):TI:=λσ H R=>t σ H λvs H1=>ar1 vs λx=>isRef x λa=>(∃xs,aW K H1 a xs)/\R (Ite K a) H1
@[simp ↓] theorem qg0 K tl σ H R:Z1 K tl σ H R=(tl σ H λx H1=>isRef x λa=>(∃xs,aW K H1 a xs)/\R (X_ K a) H1):=rfl
@[simp ↓] theorem qjp K tl σ H R:qdr K tl σ H R=(tl σ H λx H1=>isRef x λp=>∃b,(∃xs,SqB b K H1 p xs)/\R (Itq b K p) H1):=rfl
@[simp ↓] theorem qjq tl σ H R:qds tl σ H R=(tl σ H λx H1=>isStr x λz=>R (Its z) H1):=rfl
@[simp ↓] theorem qg1 ta σ H R:Z2 ta σ H R=(ta σ H λvs H1=>ar1 vs λv=>isInt v λj=>-(2 ^ 62)<=j/\j<2 ^ 62/\R (Qp 0 j.toNat) H1):=rfl
@[simp ↓] theorem qg2 ta σ H R:Z4 ta σ H R=(ta σ H λvs H1=>ar2 vs λv w=>isInt v λi=>isInt w λj=>(-(2 ^ 62)<=i/\i<2 ^ 62/\-(2 ^ 62)<=j/\j<2 ^ 62)/\R (Qp i (j - i).toNat) H1):=rfl
@[simp ↓] theorem qjr K t σ H R:qdt K t σ H R=(t σ H λvs H1=>ar2 vs λx y=>isRef x λa=>isRef y λb=>(∃xs,aW K H1 a xs)/\(∃ys,aW K H1 b ys)/\R (Itz K a b) H1):=rfl
@[simp ↓] theorem qg3 K t σ H R:Z5 K t σ H R=(t σ H λvs H1=>ar1 vs λx=>isRef x λa=>(∃xs,aW K H1 a xs)/\R (Ite K a) H1):=rfl
theorem bT(K:W.Frag)(tl:TE):Z1 K tl=T9 K tl:=by
 funext σ H R
 exact qmA (tl σ H) (funext λx=>funext λH1=>Nz _ _)
theorem qT(K:W.Frag)(tl:TE):qdr K tl=qeD K tl:=by
 funext σ H R
 refine qmA (tl σ H) (funext λx=>funext λH1=>propext ⟨λh=>?_,λ⟨b,p,e,h⟩=>by subst e;exact⟨b,h⟩⟩);obtain⟨p,rfl,b,h1⟩:=isRef.out h;exact⟨b,p,rfl,h1⟩
theorem Z6(tl:TE):qds tl=qew tl:=by
 funext σ H R
 exact qmA (tl σ H) (funext λx=>funext λH1=>ZJ _ _)
theorem qU(ta:TA):Z2 ta=Yu ta:=by
 funext σ H R
 refine qmA (ta σ H) (funext λx=>funext λH1=>propext ⟨λh=>?_,λ⟨b,e,h⟩=>by subst e;exact h⟩);obtain⟨v,rfl,h1⟩:=ar1.out h;obtain⟨i,rfl,h2⟩:=isInt.out h1;exact⟨i,rfl,h2⟩
theorem Wx(ta:TA):Z4 ta=Yv ta:=by
 funext σ H R
 refine qmA (ta σ H) (funext λx=>funext λH1=>propext ⟨λh=>?_,λ⟨b,c,e,h⟩=>by subst e;exact h⟩);obtain⟨v,w,rfl,h1⟩:=ar2.out h;obtain⟨i,rfl,h2⟩:=isInt.out h1;obtain⟨j,rfl,h3⟩:=isInt.out h2;exact⟨i,j,rfl,h3⟩
theorem NQ(K:W.Frag)(t:TA):qdt K t=qbX K t:=by
 funext σ H R
 refine qmA (t σ H) (funext λx=>funext λH1=>propext ⟨λh=>?_,λ⟨a,b,xs,ys,e,h1,h2,h3⟩=>by subst e;exact⟨⟨xs,h1⟩,⟨ys,h2⟩,h3⟩⟩);obtain⟨v,w,rfl,h1⟩:=ar2.out h;obtain⟨i,rfl,h2⟩:=isRef.out h1;obtain⟨j,rfl,⟨xs,h3⟩,⟨ys,h4⟩,h5⟩:=isRef.out h2;exact⟨i,j,xs,ys,rfl,h3,h4,h5⟩
theorem zL(K:W.Frag)(t:TA):Z5 K t=Zn K t:=by
 funext σ H R
 refine qmA (t σ H) (funext λx=>funext λH1=>propext ⟨λh=>?_,λ⟨a,xs,e,h1,h3⟩=>by subst e;exact⟨⟨xs,h1⟩,h3⟩⟩);obtain⟨v,rfl,h1⟩:=ar1.out h;obtain⟨i,rfl,⟨xs,h3⟩,h5⟩:=isRef.out h1;exact⟨i,xs,rfl,h3,h5⟩
def qdu(sp:Sp)(E:XK)(t:TA):TE:=λσ H Q=>t σ H λvs H1=>Ra sp vs H1 Q ⟨0⟩ E
@[simp ↓] theorem qjs sp E t σ H Q:qdu sp E t σ H Q=(t σ H λvs H1=>Ra sp vs H1 Q ⟨0⟩ E):=rfl
theorem aJ(sp:Sp)(E:XK)(t:TA):qdu sp E t=YK sp [] E t:=by
 funext σ H Q
 exact qmA (t σ H) (funext λvs=>funext λH1=>by rw[qmz];rfl)
def qdv(C:Addr)(m:Str)(sp:Sp)(E:XK)(ta:TE)(t:TA):TE:=λσ H Q=>ta σ H λx H1=>isRef x λa=>∃dx fs,H1 a=some (.ins C dx fs)/\fs.lookup m=none/\t σ H1 λvs H2=>Ra sp (.ref a::vs) H2 Q ⟨0⟩ E
@[simp ↓] theorem qjt C m sp E ta t σ H Q:qdv C m sp E ta t σ H Q=(ta σ H λx H1=>isRef x λa=>∃dx fs,H1 a=some (.ins C dx fs)/\fs.lookup m=none/\t σ H1 λvs H2=>Ra sp (.ref a::vs) H2 Q ⟨0⟩ E):=rfl
theorem jg(C:Addr)(m:Str)(sp:Sp)(E:XK)(ta:TE)(t:TA):qdv C m sp E ta t=YL C m sp [] E ta t:=by
 funext σ H Q
 refine qmA (ta σ H) (funext λx=>funext λH1=>propext ⟨λh=>?_,λ⟨a,dx,fs,e,h1,h2,h3⟩=>?_⟩)
 ·obtain⟨a,rfl,dx,fs,h1,h2,h3⟩:=isRef.out h;refine⟨a,dx,fs,rfl,h1,h2,?_⟩;simp only[qmz];exact h3
 ·subst e;refine⟨dx,fs,h1,h2,?_⟩;simp only[qmz] at h3;exact h3
def qdw(C:Addr)(sp:Sp)(E:XK)(t:TA):TE:=λσ H Q=>t σ H λvs H1=>∀x dx,H1 x=none->H1 dx=none->dx≠x->
 Ra sp (.ref x::vs) (upd (upd H1 dx (.own x)) x (.ins C dx [])) (λv H2=>v = .non/\Q (.ref x) H2) ⟨0⟩ E
@[simp ↓] theorem qju C sp E t σ H Q:qdw C sp E t σ H Q=(t σ H λvs H1=>∀x dx,H1 x=none->H1 dx=none->dx≠x->
 Ra sp (.ref x::vs) (upd (upd H1 dx (.own x)) x (.ins C dx [])) (λv H2=>v = .non/\Q (.ref x) H2) ⟨0⟩ E):=rfl
theorem Z7(C:Addr)(sp:Sp)(E:XK)(t:TA):qdw C sp E t=YM C sp [] E t:=by
 funext σ H Q
 refine qmA (t σ H) (funext λvs=>funext λH1=>?_);simp only[qmz];rfl
def qg4(K:W.Frag)(ta:TE)(f:Str):TE:=λσ H Q=>ta σ H λx H1=>isRef x λa=>∃C dx fs,H1 a=some (.ins C dx fs)/\Cls K C/\mK K C f/\∃v,fs.lookup f=some v/\Q v H1
@[simp ↓] theorem qky K ta f σ H Q:qg4 K ta f σ H Q=(ta σ H λx H1=>isRef x λa=>∃C dx fs,H1 a=some (.ins C dx fs)/\Cls K C/\mK K C f/\∃v,fs.lookup f=some v/\Q v H1):=rfl
theorem Kc(K:W.Frag)(ta:TE)(f:Str):qg4 K ta f=qbR K ta f:=by
 funext σ H Q
 refine qmA (ta σ H) (funext λx=>funext λH1=>propext ⟨λh=>?_,λ⟨a,C,dx,fs,v,e,h1,h2,h3,h4⟩=>by subst e;exact⟨C,dx,fs,h1,h2,h3,v,h4⟩⟩);obtain⟨a,rfl,C,dx,fs,h1,h2,h3,v,h4⟩:=isRef.out h;exact⟨a,C,dx,fs,v,rfl,h1,h2,h3,h4⟩
def qdx(td ty:TE):TE:=λσ H Q=>td σ H λx H1=>ty σ H1 λy H2=>isRef x λa=>∃v,k_ H2 a y (some v)/\Q v H2
def qg5(ty td:TE):TE:=λσ H Q=>ty σ H λy H1=>td σ H1 λx H2=>isRef x λa=>∃o,k_ H2 a y o/\Q (.bl o.isSome) H2
def Uu(ty td:TE):TE:=λσ H Q=>ty σ H λy H1=>td σ H1 λx H2=>isRef x λa=>∃o,k_ H2 a y o/\Q (.bl o.isNone) H2
def qdy(td ty tv:TE):TS:=λD σ H=>tv σ H λv H1=>td σ H1 λx H2=>ty σ H2 λy H3=>isRef x λa=>∃H4,JG H3 a y v H4/\D.nx σ H4
def Z8(td ty tx:TE):TE:=λσ H Q=>td σ H λx H1=>isRef x λa=>IsD H1 a/\ty σ H1 λy H2=>tx σ H2 λz H3=>∃o,k_ H3 a y o/\Q (o.getD z) H3
@[simp ↓] theorem qjv td ty σ H Q:qdx td ty σ H Q=(td σ H λx H1=>ty σ H1 λy H2=>isRef x λa=>∃v,k_ H2 a y (some v)/\Q v H2):=rfl
@[simp ↓] theorem qkz ty td σ H Q:qg5 ty td σ H Q=(ty σ H λy H1=>td σ H1 λx H2=>isRef x λa=>∃o,k_ H2 a y o/\Q (.bl o.isSome) H2):=rfl
@[simp ↓] theorem qf8 ty td σ H Q:Uu ty td σ H Q=(ty σ H λy H1=>td σ H1 λx H2=>isRef x λa=>∃o,k_ H2 a y o/\Q (.bl o.isNone) H2):=rfl
@[simp ↓] theorem qjw td ty tv D σ H:qdy td ty tv D σ H=(tv σ H λv H1=>td σ H1 λx H2=>ty σ H2 λy H3=>isRef x λa=>∃H4,JG H3 a y v H4/\D.nx σ H4):=rfl
@[simp ↓] theorem qg6 td ty tx σ H Q:Z8 td ty tx σ H Q=(td σ H λx H1=>isRef x λa=>IsD H1 a/\ty σ H1 λy H2=>tx σ H2 λz H3=>∃o,k_ H3 a y o/\Q (o.getD z) H3):=rfl
theorem Kd{x:V}{β:Type}{R:Addr->β->Prop}:(isRef x λa=>∃b,R a b)=(∃a b,x = .ref a/\R a b):=propext ⟨λh=>by obtain⟨a,rfl,b,h1⟩:=isRef.out h;exact⟨a,b,rfl,h1⟩,λ⟨a,b,e,h⟩=>by subst e;exact⟨b,h⟩⟩
theorem Z9(td ty:TE):qdx td ty=Zj td ty:=by
 funext σ H Q
 exact qmA (td σ H) (funext λx=>funext λH1=>qmA (ty σ H1) (funext λy=>funext λH2=>Kd))
theorem qct(ty td:TE):qg5 ty td=qeG ty td:=by
 funext σ H Q
 exact qmA (ty σ H) (funext λx=>funext λH1=>qmA (td σ H1) (funext λy=>funext λH2=>Kd))
theorem Rk(ty td:TE):Uu ty td=JK ty td:=by
 funext σ H Q
 refine qmA (ty σ H) (funext λx=>funext λH1=>qmA (td σ H1) (funext λy=>funext λH2=>?_));rw[Kd];simp only[Option.not_isSome]
theorem Z_(td ty tv:TE):qdy td ty tv=Zk td ty tv:=by
 funext D σ H
 exact qmA (tv σ H) (funext λv=>funext λH1=>qmA (td σ H1) (funext λx=>funext λH2=>qmA (ty σ H2) (funext λy=>funext λH3=>Kd)))
theorem HB(td ty tx:TE):Z8 td ty tx=Q7 td ty tx:=by
 funext σ H Q
 exact qmA (td σ H) (funext λx=>funext λH1=>Nz _ _)
def NT(t:TE):TO:=λσ H Q=>t σ H λx H1=>isInt x λi=>Q (some i) H1
@[simp ↓] theorem qjx t σ H Q:NT t σ H Q=(t σ H λx H1=>isInt x λi=>Q (some i) H1):=rfl
theorem jh(t:TE):NT t=YW t:=by
 funext σ H Q
 exact qmA (t σ H) (funext λx=>funext λH1=>ZG _ _)
section
variable {X:Cx}{K:W.Frag}
theorem PE.eqv{e:Expr}{t t':TE}(o:PE X e t)(h:t'=t):PE X e t':=h▸o
theorem PC.eqv{op:CmpOp}{a b:Expr}{t t':TE}(o:PC X op a b t)(h:t'=t):PC X op a b t':=h▸o
theorem PS.eqv{e:Stmt}{t t':TS}(o:PS X e t)(h:t'=t):PS X e t':=h▸o
theorem PG.eqv{e:Expr}{t t':TG}(o:PG X e t)(h:t'=t):PG X e t':=h▸o
theorem lH.eqv{e:List Expr}{t t':L_}(o:lH X e t)(h:t'=t):lH X e t':=h▸o
theorem PI.eqv{tg e:Expr}{t t':TI}(o:PI X tg e t)(h:t'=t):PI X tg e t':=h▸o
theorem PO.eqv{e:Option Expr}{t t':TO}(o:PO X e t)(h:t'=t):PO X e t':=h▸o
theorem BW:iY X (binaryOp .Mult) (fI qbM λi j=>.int (i * j)):=qee.mono qcf
theorem qaa:iY X (binaryOp .FloorDiv) (fI VD λi j=>.int (i / j)):=qbN.mono qcf
theorem vd:iY X (binaryOp .Mod) (fI (λ_ j=>0<j) λi j=>.int (i % j)):=qef.mono qcf
theorem qcu:iY X (binaryOp .Pow) (fI qgi λi j=>.int (i ^ j.toNat)):=qeg.mono qcf
theorem cj(hK:X.K=K):Yb X (qcj K):=(qjM hK).mono qeS
theorem Uv:Yb X qeT:=qep.mono qeU
theorem Gv(hK:X.K=K):iY X (compareOp .In) (fIn K):=(inK hK).mono qgV
theorem qkA(hK:X.K=K):iY X (compareOp .In) (qeV K):=(inK hK).mono qeW
theorem yK(hK:X.K=K):iY X (compareOp .NotIn) (Rj K):=(qeC hK).mono ZR
theorem qe8(hK:X.K=K)(hu:X.A.units+64<cLine):iY X (compareOp .NotEq) (qeX K):=(qeM hK hu).mono qeY
theorem bY(hK:X.K=K):cg X (.builtin "len") (Hz K):=(qgA hK).mono qck
theorem qe9:cg X (.builtin "len") ZM:=qgB.mono qcl
theorem yL(hK:X.K=K):cg X (.type "list") (J3 K):=(qb2 hK).mono Wr
theorem qW:cg X (.type "tuple") BP:=Zf.mono Ws
theorem Rm(hK:X.K=K):cg X (.builtin "isinstance") (ZP K):=(qgC hK).mono qcm
theorem qab(hK:X.K=K):cg X (.builtin "isinstance") (ZQ K):=(qgD hK).mono qcn
theorem lq(hc:X.calm=true):cg X (.builtin "all") qe1:=(V9 hc).mono qe2
theorem HD(hc:X.calm=true):cg X (.builtin "any") qe3:=(Wi hc).mono qe4
theorem Rn:cg X (.type "int") Ut:=VJ.mono qcr
theorem HF:cg X (.builtin "abs") qeZ:=YD.mono qe0
theorem Dj(hc:X.calm=true):cg X (.builtin "max") ZV:=(VG hc).mono qcp
theorem Ro(hc:X.calm=true):cg X (.builtin "min") ZW:=(VH hc).mono qcq
theorem Ke:cg X (.builtin "divmod") Ka:=Ms.mono Wv
theorem gk:VR X "list.append" J4:=VR.mono (r:=Jw) Hh Wt
theorem Rp:VR X "list.insert" J_:=VR.mono (r:=Jy) V8 Wu
theorem qac:VR X "str.join" ZS:=qce.mono qco
theorem yM(hK:X.K=K):SlR X (Ww K):=(qkg hK).mono qe5
theorem HJ:Vv X ZX:=set_list.mono qcs
theorem Uw:PIp X .Add (qe6 λi j=>i+j):=qd9.mono qe7
end
theorem getSt.imp{σ:St}{i:Nat}{R R':V->Prop}(f:∀v,R v->R' v):getSt σ i R->getSt σ i R':=by
 induction σ generalizing i with
 |nil=>exact λh=>h.elim
 |cons o σ ih=>
  cases i with
  |zero=>cases o with
   |none=>exact λh=>h.elim
   |some v=>exact f v
  |succ n=>exact ih
theorem isInt.imp{x:V}{R R':Int->Prop}(f:∀v,R v->R' v):isInt x R->isInt x R':=by cases x <;> first|exact f _|exact λh=>h.elim
theorem isRef.imp{x:V}{R R':Addr->Prop}(f:∀v,R v->R' v):isRef x R->isRef x R':=by cases x <;> first|exact f _|exact λh=>h.elim
theorem oh.imp{x:V}{R R':Bool->Prop}(f:∀v,R v->R' v):oh x R->oh x R':=by cases x <;> first|exact f _|exact λh=>h.elim
theorem NZ{K:W.Frag}{g:Int->Int->V}{i j:Nat}:∀(σ:St)(H:Hp)(Q Q':Bool->Hp->Prop),(∀(b:Bool)(H1:Hp),Q b H1->Q' b H1)->vU (Mr (Zy g) (fVar i) (tCB (Hz K) (ud (fVar j) Bq))) σ H Q->vU (Mr (Zy g) (fVar i) (tCB (Hz K) (ud (fVar j) Bq))) σ H Q':=
 λ_ _ _ _ f h=>getSt.imp (λ_ h=>getSt.imp (λ_ h=>isRef.imp (λ_ ⟨ys,h1,h2⟩=>⟨ys,h1,isInt.imp (λ_ h=>isInt.imp (λ_ h=>oh.imp (λ_ h=>f _ _ h) h) h) h2⟩) h) h) h
theorem dj.qL{P:Program}{w:World}{K:W.Frag}{mg:Str->Option Value}{base:Heap}{x qual:Str}{st:Stmt}{f:Addr}{fd:FuncData}{N ps:QAH}{k:Nat}{sp:Sp}(F:dj K x qual st f fd)(S:aQ N ps (aB st))(len:∀vs H Q E,sp vs H Q E->vs.length=ps.length)
  (hbody:∀(cdv:Value)(A:Around)(outer:List Env)(s:Shared)(H:Hp)(vs:List V)(Q:VK)(E:XK),fL k (A.deeper (envOfC qual (aB st) s.heap.objs.size f cdv))->sp vs H Q E->
   ∃t,Ge (au i_ P w K mg base N qual (aB st) f cdv A outer s H E).T8 (gj st) t/\t {nx:=λ_ H'=>Q .non H',rt:=Q} (jT N vs) H):bV P w K mg base i_ (k+1) f fd ps sp:=by
 refine F.ok S len λcdv A outer s H vs Q E hr h=>?_;obtain⟨t,h1,h2⟩:=hbody cdv A outer s H vs Q E hr h;refine⟨t,h1,?_⟩;have hl:=len _ _ _ _ h;have hp:ps.length<=N.length:=by have:=qmA List.length S.pre;rw[qmk] at this;omega
 rw[nH N vs (by omega)] at h2;exact h2
end L2
namespace L2
open PySem
def yN(T:List iM)(h:Str)(wh:List Nat)(R:BR):BR:=T.foldl (λR s=>if s.2.1=h/\¬s.2.2∈R.map (·.1) then R++[(s.2.2,wh++[s.1])] else R) R
def zM(S:List iM)(a:Str):Nat->BR
 |0=>[(a,[])]
 |n+1=>match (zM S a n)[n]? with
  |some x=>yN S x.1 x.2 (zM S a n)
  |none=>zM S a n
theorem Rq(T:List iM)(s:iM)(h:Str)(wh:List Nat)(R:BR):yN (T++[s]) h wh R=if s.2.1=h/\¬s.2.2∈(yN T h wh R).map (·.1) then yN T h wh R++[(s.2.2,wh++[s.1])] else yN T h wh R:=by
 unfold yN;rw[List.foldl_append];rfl
theorem Wy{S:List iM}{a:Str}{n:Nat}{h:Str}{wh:List Nat}(e:(zM S a n)[n]? = some (h,wh)):zM S a (n+1)=yN S h wh (zM S a n):=by
 show(match (zM S a n)[n]? with|some x=>yN S x.1 x.2 (zM S a n)|none=>zM S a n)=_
 rw[e]
def qkB(S:List iM)(a:Str)(R:BR):Prop:=zM S a R.length=R
def rG(H:Hp)(kvs:List (Key×V)):Prop:=∀kv∈kvs,∀p,kv.2 = .ref p->H p=none
theorem rG.snoc{H:Hp}{kvs:List (Key×V)}(h:rG H kvs){k:Key}{p:Addr}(hp:H p=none):rG H (kvs++[(k,.ref p)]):=by
 intro kv hkv q hq
 rcases qmm.mp hkv with z|z
 ·exact h kv z q hq
 ·simp at z;subst z;cases hq;exact hp
theorem Walk.in{S:List iM}{a y:Str}{k:Nat}(h:Walk S a k y){xs:QAH}(ha:a∈xs)(hS:∀s∈S,s.2.2∈xs):y∈xs:=by
 cases h with
 |nil=>exact ha
 |snoc _ hs=>exact hS _ hs
def pC(S:List iM)(f:QAH):Prop:=∀s∈S,s.2.1∈f->s.2.2∈f
structure Qs(S:List iM)(x:Str)(f:QAH):Prop where
 st:x∈f
 nd:f.Nodup
 rt:∀y∈f,RT (jf S) x y
theorem Qs.begin(S:List iM)(x:Str):Qs S x [x]:=⟨by simp,by simp,λy hy=>by simp at hy;subst hy;exact .refl _⟩
theorem Qs.add{S:List iM}{x:Str}{f:QAH}(h:Qs S x f){s:iM}(hs:s∈S)(h1:s.2.1∈f)(h2:¬s.2.2∈f):Qs S x (f++[s.2.2]):=by
 refine⟨qmt _ h.st,?_,λy hy=>?_⟩
 ·rw[List.nodup_append];exact⟨h.nd,by simp,λa ha b hb=>by simp at hb;subst hb;exact λz=>h2 (z▸ha)⟩
 ·rcases qmm.mp hy with z|z
  ·exact h.rt y z
  ·simp at z;subst z;exact .tail (h.rt _ h1) ⟨s.1,hs⟩
theorem Qs.closed{S:List iM}{x:Str}{f:QAH}(h:Qs S x f)(hc:pC S f)(y:Str):y∈f↔RT (jf S) x y:=by
 refine⟨h.rt y,λq=>?_⟩
 induction q with
 |refl=>exact h.st
 |tail _ q ih=>
  obtain⟨n,hn⟩:=q;exact hc _ hn ih
theorem Qs.len{S:List iM}{x:Str}{f xs:QAH}(h:Qs S x f)(hx:x∈xs)(hS:∀s∈S,s.2.2∈xs):f.length<=xs.length:=
 fV h.nd λy hy=>by
  obtain⟨k,hk⟩:=Walk.of (h.rt y hy);exact hk.in hx hS
structure gw(S T:List iM)(x:Str)(f0 f:QAH):Prop where
 r0:f0.Nodup
 r:Qs S x f
 sub:∀y∈f0,y∈f
 le:f0.length<=f.length
 md:∀s∈T,s.2.1∈f0->s.2.2∈f
 cl:pC S f0->f=f0
theorem gw.enter{S:List iM}{x:Str}{f:QAH}(h:Qs S x f):gw S [] x f f:=⟨h.nd,h,λ_ z=>z,ql7 _,by simp,λ_=>rfl⟩
theorem gw.skip{S T:List iM}{x:Str}{f0 f:QAH}(h:gw S T x f0 f){s:iM}(hs:s.2.1∈f->s.2.2∈f):gw S (T++[s]) x f0 f:=by
 refine⟨h.r0,h.r,h.sub,h.le,λs' hs'=>?_,h.cl⟩
 rcases qmm.mp hs' with z|z
 ·exact h.md s' z
 ·simp at z;subst z;exact λq=>hs (h.sub _ q)
theorem gw.add{S T:List iM}{x:Str}{f0 f:QAH}(h:gw S T x f0 f){s:iM}(hS:s∈S)(h1:s.2.1∈f)(h2:¬s.2.2∈f):gw S (T++[s]) x f0 (f++[s.2.2]):=by
 refine⟨h.r0,h.r.add hS h1 h2,λy hy=>qmt _ (h.sub y hy),by have:=h.le;simp;omega,λs' hs' q=>?_,λhc=>?_⟩
 ·rcases qmm.mp hs' with z|z
  ·exact qmt _ (h.md s' z q)
  ·simp at z;subst z;exact qmE _ (by simp)
 ·have:=h.cl hc;subst this;exact absurd (hc s hS h1) h2
theorem gw.leave{S:List iM}{x:Str}{f0 f:QAH}{i:Nat}(h:gw S S x f0 f)(h0:pC S f0\/i+1<=f0.length):Qs S x f/\(pC S f\/i+1+1<=f.length):=by
 refine⟨h.r,?_⟩
 by_cases hc:pC S f0
 ·rw[h.cl hc];exact .inl hc
 ·rcases h0 with z|z
  ·exact absurd z hc
  ·refine .inr ?_;obtain⟨s,hs⟩:∃s,s∈S/\s.2.1∈f0/\¬s.2.2∈f0:=by
    by_cases q:∃s,s∈S/\s.2.1∈f0/\¬s.2.2∈f0
    ·exact q
    ·exact absurd (λs hs h1=>by
      by_cases w:s.2.2∈f0
      ·exact w
      ·exact absurd ⟨s,hs,h1,w⟩ q) hc
   have hg:=h.md s hs.1 hs.2.1
   by_cases w:i+1+1<=f.length
   ·exact w
   ·
    exfalso;have hle:=h.le;have hl:f.length=f0.length:=by omega
    have nd0:(s.2.2::f0).Nodup:=qnk.mpr ⟨hs.2.2,h.r0⟩;have:=fV nd0 (xs:=f) λy hy=>by
     rcases qmd.mp hy with z|z
     ·rw[z];exact hg
     ·exact h.sub y z
    simp at this;omega
open Classical in
theorem Qs.tG{S:List iM}{x:Str}{f xs:QAH}(h:Qs S x f)(hc:pC S f)(nd:xs.Nodup)(hx:x∈xs)(hS:∀s∈S,s.2.2∈xs):f.length=(L2.tG S xs x).length:=by
 have h1:f.length<=(L2.tG S xs x).length:=fV h.nd λy hy=>by
  rw[rF];have:=h.rt y hy;obtain⟨k,hk⟩:=Walk.of this;exact⟨hk.in hx hS,this⟩
 have h2:(L2.tG S xs x).length<=f.length:=by
  have nd2:(L2.tG S xs x).Nodup:=by
   unfold L2.tG;exact nd.filter _
  exact fV nd2 λy hy=>(h.closed hc y).mpr (rF.mp hy).2
 omega
end L2
namespace L2
open PySem
theorem qkC{m:Nat}(h:1<=m):(0:Int)<m:=by omega
theorem zlt{m b:Nat}{c:Int}(h:m<=b)(hb:(b:Int)<c):(m:Int)<c:=by omega
theorem zlo{f:Int}(h:0<=f) : -4611686018427387904<=f:=by omega
theorem zhi{f c:Int}(h:f<c)(hc:c<=4611686018427387904):f<4611686018427387904:=Int.lt_of_lt_of_le h hc
theorem qkD{f:Nat} : -4611686018427387904<=(f:Int):=by omega
theorem ztn{d:Int}{m b:Nat}(h0:0<=d)(h:d<m)(hb:m<=b):d.toNat+1<=b:=by omega
theorem qkE{d:Int}(h:0<=d)(c:Int):c+d=max d 0+c:=by omega
theorem zsz{a b:Nat}(h:a<b)(hb:b<=20):a<sizeLine:=qmf h (qme hb (qnC yj))
theorem qkF{a b:Nat}(h:a<=b)(hb:b<=20):a<=sizeLine:=qme h (qme hb (qnC yj))
theorem z01{d:Int}(h:0<=d)(h2:d<2):d=0\/d=1:=by omega
theorem z2{n:Nat}(h:(1:Int)<n):2<=n:=by omega
theorem zk1{k t:Nat}(h:t<=k):(0:Int)<k - t+1:=by omega
theorem zk2{k t:Nat}{c:Int}(h:k<=20)(hc:21<c):(k:Int) - t+1<c:=by omega
theorem zk3{f:Int}{k t p:Nat}(h0:0<=f)(h:f<k - t+1)(e:t=p):p+f.toNat<=k+0:=by omega
theorem zk4{t p f k i:Nat}(e:t=p)(h:p+f<=k+i)(hi:i<f)(hk:k<=20):t<sizeLine:=by
 have:=qnC yj;omega
theorem zk5{p f k i:Nat}(h:p+f<=k+i)(hi:i<f)(hk:k<=20):p<=19:=by omega
theorem zk6{p f k i:Nat}(h:p+f<=k+i):p+1+f<=k+(i+1):=by omega
theorem zk7{p f k:Nat}(h:p+f<=k+f):p<=k:=Nat.le_of_add_le_add_right h
theorem qkG{lo i n:Nat}(h:i<n - lo):lo+i<n:=by omega
theorem zn1{b i:Nat}:0<=((b:Int)+5 * i) % 26:=by omega
theorem zn2{b i:Nat}:((b:Int)+5 * i) % 26<26:=by omega
theorem zn3{b i c:Nat}(h:((b:Int)+5 * i) % 26=c):c=(b+5 * i) % 26:=by omega
theorem zn4{j y:Nat}{e:Int}(h:j<e.toNat)(he:e<4)(hy:y=j):y<sizeLine:=by
 have:=qnC yj;omega
theorem zn5{y:Nat}{e:Int}(h:y=e.toNat)(he:e<4):y+y * 0<=16777216:=by omega
theorem zn6{y:Nat}{e:Int}(h:y=e.toNat)(he:e<4):1+y<=4:=by omega
theorem zn7{i j w b:Nat}(hi:i<w)(hj:j<w)(hij:i<j)(hw:w<=9)(z:(b+5 * j) % 26=(b+5 * i) % 26):False:=by omega
theorem zn8{j w:Nat}(h:¬j<w)(h2:j - w=0):j=w:=by omega
theorem zpa(c:Int):0<=if 1000000000000000000<c then c - 1000000000000000000 else 0:=by split <;> omega
theorem zpb(c:Int)(k:Nat):0<=c % 2147483629+977 * (k:Int)+1:=by omega
theorem zpc(c:Int){k:Nat}(h:k<100):c % 2147483629+977 * (k:Int)+1<4294967296:=by omega
theorem zs1{s i t p:Nat}(h:s<=2 * i+1)(hi:i<t)(e:t=p)(hp:p<=20):s<sizeLine:=by
 have:60<sizeLine:=by decide
 omega
theorem zs2{s i:Nat}(h:s<=2 * i+1):s+1<=2 * (i+1):=by omega
theorem zs3{s t p:Nat}(h:s<=2 * t)(e:t=p)(hp:p<=20):s<=40:=by omega
end L2
namespace L2
open PySem PySem.Spec PyProof.Rows
mutual
def bU(H:Hp):PyData->V->Prop
 |.none,v=>v = .non
 |.bool b,v=>v = .bl b
 |.int i,v=>v = .int i
 |.str x,v=>v = .str x
 |.list ds,v=>∃a xs,v = .ref a/\H a=some (.lst xs)/\aM H ds xs
 |.tuple ds,v=>∃a xs,v = .ref a/\H a=some (.tup xs)/\aM H ds xs
 |.dict kvs,v=>kvs=[]/\∃a,v = .ref a/\H a=some (.dK [])
def aM(H:Hp):List PyData->List V->Prop
 |[],vs=>vs=[]
 |d::ds,vs=>∃v r,vs=v::r/\bU H d v/\aM H ds r
end
mutual
theorem bU.same{H H':Hp}(s:Same H H'):∀(d:PyData)(v:V),bU H d v->bU H' d v
 |.none,v,h=>by simp only[bU] at h⊢;exact h
 |.bool b,v,h=>by simp only[bU] at h⊢;exact h
 |.int i,v,h=>by simp only[bU] at h⊢;exact h
 |.str x,v,h=>by simp only[bU] at h⊢;exact h
 |.list ds,v,h=>by
  simp only[bU] at h⊢;obtain⟨a,xs,e,h1,h2⟩:=h;exact⟨a,xs,e,s _ _ h1,aM.same s ds xs h2⟩
 |.tuple ds,v,h=>by
  simp only[bU] at h⊢;obtain⟨a,xs,e,h1,h2⟩:=h;exact⟨a,xs,e,s _ _ h1,aM.same s ds xs h2⟩
 |.dict kvs,v,h=>by
  simp only[bU] at h⊢;obtain⟨e0,a,e,h1⟩:=h;exact⟨e0,a,e,s _ _ h1⟩
theorem aM.same{H H':Hp}(s:Same H H'):∀(ds:List PyData)(vs:List V),aM H ds vs->aM H' ds vs
 |[],vs,h=>by simp only[aM] at h⊢;exact h
 |d::ds,vs,h=>by
  simp only[aM] at h⊢;obtain⟨v,r,e,h1,h2⟩:=h;exact⟨v,r,e,bU.same s d v h1,aM.same s ds r h2⟩
end
theorem aM.ints(H:Hp):∀ns:List Int,aM H (ns.map PyData.int) (ns.map V.int)
 |[]=>by simp[aM]
 |n::ns=>by simp only[qmG,aM];exact⟨_,_,rfl,by simp[bU],aM.ints H ns⟩
theorem aM.append{H:Hp}:∀{ds es:List PyData}{xs ys:List V},aM H ds xs->aM H es ys->aM H (ds++es) (xs++ys)
 |[],_,_,_,h,q=>by simp only[aM] at h;subst h;exact q
 |d::ds,_,_,_,h,q=>by
  simp only[aM] at h;obtain⟨v,r,rfl,h1,h2⟩:=h;simp only[qnN,aM];exact⟨_,_,rfl,h1,aM.append h2 q⟩
theorem aM.length{H:Hp}:∀{ds:List PyData}{xs:List V},aM H ds xs->ds.length=xs.length
 |[],_,h=>by simp only[aM] at h;subst h;rfl
 |d::ds,_,h=>by
  simp only[aM] at h;obtain⟨v,r,rfl,h1,h2⟩:=h;simp[aM.length h2]
theorem aM.at{H:Hp}:∀{ds:List PyData}{xs:List V}{i:Nat}{v:V},aM H ds xs->xs[i]? = some v->∃d,ds[i]? = some d/\bU H d v
 |[],_,i,v,h,e=>by simp only[aM] at h;subst h;simp at e
 |d::ds,_,0,v,h,e=>by
  simp only[aM] at h;obtain⟨w,r,rfl,h1,h2⟩:=h;simp at e;subst e;exact⟨d,rfl,h1⟩
 |d::ds,_,i+1,v,h,e=>by
  simp only[aM] at h;obtain⟨w,r,rfl,h1,h2⟩:=h;exact aM.at (i:=i) h2 (by simpa using e)
def hid(p:Addr)(H:Hp):Hp:=λb=>if b=p then none else H b
theorem ig{p:Addr}{H:Hp}:Same (hid p H) H:=λb o e=>by
 unfold hid at e;split at e
 ·cases e
 ·exact e
theorem vf{p:Addr}{H H':Hp}(s:But p H H'):Same (hid p H) (hid p H'):=λb o e=>by
 unfold hid at e⊢;split at e
 ·cases e
 ·rename_i h;rw[if_neg h];exact s b o h e
theorem cG{p:Addr}{H H':Hp}(s:Same H H'):Same (hid p H) (hid p H'):=vf λb o _ e=>s b o e
theorem fJ{p b:Addr}{H:Hp}{o:HO}(h:b≠p)(e:H b=some o):hid p H b=some o:=by
 unfold hid;rw[if_neg h];exact e
section
variable {X:Cx}{p_:QAC}{σ:St}{H:Hp}{s:Shared}{K:W.Frag}
theorem wJ{P:Program}{w:World}{h:Heap}{a:Addr}(ok:tD P w H h)(e:H a=some (.dK [])):Reads h (.ref a) (.dict []) [a]/\(a == sysModules)=false:=by
 obtain⟨_,hd,vs,kv,o,es,ep,h1,h2,h3,_,h5,_⟩:=Um ok e;refine⟨?_,hd⟩;have ev:vs=[]:=by cases kv;rfl
 subst ev;have el:es.toList=[]:=by
  generalize es.toList=l at h5;cases h5;rfl
 have:=Reads.dict (kvs:=[]) (as:=[]) (bs:=[]) h1 h2.1 h3 (by rw[el];exact .nil) (by rw[el];exact .nil);exact this
mutual
theorem bU.reads(I:Inv X p_ σ H s):∀(d:PyData)(v:V)(u:Value),bU H d v->RelV v u->∃as,Reads s.heap u d as
 |.none,v,u,h,r=>by
  simp only[bU] at h;subst h;cases r;exact⟨_,.none⟩
 |.bool b,v,u,h,r=>by
  simp only[bU] at h;subst h;cases r;exact⟨_,.bool b⟩
 |.int i,v,u,h,r=>by
  simp only[bU] at h;subst h;obtain⟨t,rfl⟩:=r;exact⟨_,.int i t⟩
 |.str x,v,u,h,r=>by
  simp only[bU] at h;subst h;obtain⟨t,rfl⟩:=r;exact⟨_,.str x t⟩
 |.list ds,v,u,h,r=>by
  simp only[bU] at h;obtain⟨a,xs,rfl,hq,hs⟩:=h;cases r;obtain⟨its,rv,pl,hz⟩:=I.list (aW.of hq);obtain⟨o,e,c,n,dt⟩:=pl.isList;obtain⟨as,ra⟩:=aM.reads I ds xs its hs rv;exact⟨_,.list e c dt (by simpa using ra)⟩
 |.tuple ds,v,u,h,r=>by
  simp only[bU] at h;obtain⟨a,xs,rfl,hq,hs⟩:=h;cases r;obtain⟨its,rv,pl,hz⟩:=I.tuple (eG.of hq);obtain⟨o,e,c,n,dt⟩:=pl;obtain⟨as,ra⟩:=aM.reads I ds xs its hs rv;exact⟨_,.tuple e c dt (by simpa using ra)⟩
 |.dict kvs,v,u,h,r=>by
  simp only[bU] at h;obtain⟨rfl,a,rfl,h1⟩:=h;cases r;exact⟨_,(wJ I.hok h1).1⟩
theorem aM.reads(I:Inv X p_ σ H s):∀(ds:List PyData)(vs:List V)(us:QAE),aM H ds vs->Vals vs us->∃as,ReadsAll s.heap us ds as
 |[],vs,us,h,r=>by
  simp only[aM] at h;subst h;cases r;exact⟨_,.nil⟩
 |d::ds,vs,us,h,r=>by
  simp only[aM] at h;obtain⟨v,vr,rfl,h1,h2⟩:=h;cases r with
  |cons r1 r2=>
   obtain⟨as,ra⟩:=bU.reads I d v _ h1 r1;obtain⟨bs,rb⟩:=aM.reads I ds vr _ h2 r2;exact⟨_,.cons ra rb⟩
end
def PyData.lone(d:PyData):Prop:=d.hasDict=false\/d = .dict []
def Flat(d:PyData):Prop:=PyData.lone d\/∃ds,d = .list ds/\∀c∈ds,PyData.lone c
theorem bU.tH(I:Inv X p_ σ H s){d:PyData}{v:V}{u:Value}(h:bU H d v)(r:RelV v u)(hl:PyData.lone d)(hs:d.showable=true)(hz:d.shown.length<=sizeLine) :
  ∃bs,ReadAtMost s.heap d.depth bs/\ReprK X.prog X.w bs s.heap d.depth u d.shown:=by
 rcases hl with hl|rfl
 ·obtain⟨as,ra⟩:=bU.reads I d v u h r;exact qoa ra hs (qnY hl) hz
 ·simp only[bU] at h;obtain⟨_,a,rfl,h1⟩:=h;cases r;obtain⟨ra,hd⟩:=wJ I.hok h1;refine qoa ra hs (λ_ hm=>?_) hz;rw[qmH] at hm;rw[<- hm] at hd;simp at hd
theorem aM.tH(I:Inv X p_ σ H s):∀{ds:List PyData}{vs:List V}{us:QAE},aM H ds vs->Vals vs us->(∀c∈ds,PyData.lone c)->PyData.showableAll ds=true->(∀t∈PyData.shownAll ds,t.length<=sizeLine)->
  ∃bs,ReadAtMost s.heap (PyData.depthAll ds) bs/\ReprAllK X.prog X.w bs s.heap (PyData.depthAll ds) us (PyData.shownAll ds)
 |[],vs,us,h,r,_,_,_=>by
  simp only[aM] at h;subst h;cases r;exact⟨[],(λ_ h=>nomatch h),.nil⟩
 |d::ds,vs,us,h,r,hl,hs,hz=>by
  simp only[aM] at h;obtain⟨v,vr,rfl,h1,h2⟩:=h;simp only[PyData.showableAll,qnf] at hs;simp only[PyData.shownAll,qmd,forall_eq_or_imp] at hz;cases r with
  |cons r1 r2=>
   obtain⟨b1,m1,k1⟩:=bU.tH I h1 r1 (hl d qmr) hs.1 hz.1;obtain⟨b2,m2,k2⟩:=aM.tH I h2 r2 (λc hc=>hl c (qmp _ hc)) hs.2 hz.2;refine⟨b1++b2,(m1.mono ?_).append (m2.mono ?_),?_⟩
   ·simp only[PyData.depthAll];exact Nat.le_max_left ..
   ·simp only[PyData.depthAll];exact Nat.le_max_right ..
   ·simp only[PyData.shownAll];refine .cons ((k1.more λb hb=>qmt _ hb).level_le ?_) (k2.more_le (λb hb=>qmE _ hb) ?_)
    ·simp only[PyData.depthAll];exact Nat.le_max_left ..
    ·simp only[PyData.depthAll];exact Nat.le_max_right ..
def Dk:List V->Hp->VK->Prop:=λxs H Q=>ar1 xs λv=>∃d:PyData,bU H d v/\Flat d/\d.showable=true/\d.depth<=32/\d.shown.length<=sizeLine/\Q (.str d.shown) H
@[simp ↓] theorem qg7 xs H Q:Dk xs H Q=(ar1 xs λv=>∃d:PyData,bU H d v/\Flat d/\d.showable=true/\d.depth<=32/\d.shown.length<=sizeLine/\Q (.str d.shown) H):=rfl
theorem qad{xs H Q}(h:Dk xs H Q):∃(v:V)(d:PyData),xs=[v]/\bU H d v/\Flat d/\d.showable=true/\d.depth<=32/\d.shown.length<=sizeLine/\Q (.str d.shown) H:=by
 unfold Dk ar1 at h;split at h
 ·obtain⟨d,q⟩:=h;exact⟨_,d,rfl,q⟩
 ·exact h.elim
theorem N5(hg:X.A.guards=some [])(hu:X.A.units+64<cLine):cg X (.builtin "repr") Dk:=by
 intro p_ s σ H xs us Q I r h;obtain⟨v,d,rfl,hi,hf,hs,hd,hz,q⟩:=qad h;obtain⟨u,rfl,ru⟩:=r.one;have Rr:PyData.lone d->∀a:Addr,u = .ref a->wpAny (model X.prog X.w) X.A (call (.builtin "repr") [u]) (EP X p_ σ Q) X.xe s:=by
  rintro hl a rfl;have done:∀as,Reads s.heap (.ref a) d as->(d.hasDict=true->sysModules∉as)->wpAny (model X.prog X.w) X.A (call (.builtin "repr") [.ref a]) (EP X p_ σ Q) X.xe s:=λas rd hm=>
   repr_of_reads' (h₀:=s.heap) rd hs hm hg (by omega) (λ_ _ e=>e) (λh' u tk hk=>⟨.str _,H,I.kept (t':=tk) hk,⟨u,rfl⟩,q⟩) hz
  rcases hl with hl|rfl
  ·obtain⟨as,rd⟩:=bU.reads I d v (.ref a) hi ru;exact done as rd (qnY hl)
  ·simp only[bU] at hi;obtain⟨_,b,rfl,h1⟩:=hi;cases ru;obtain⟨ra,hd⟩:=wJ I.hok h1;refine done _ ra λ_ hm=>?_;rw[qmH] at hm;rw[<- hm] at hd;simp at hd
 rcases hf with hl|⟨ds,rfl,hc⟩
 ·cases d with
  |none=>
   simp only[bU] at hi;subst hi;cases ru;exact PySem.P.repr_of_none ⟨.str _,H,I.tok _,⟨_,rfl⟩,by simpa only[PyData.shown] using q⟩
  |bool b=>
   simp only[bU] at hi;subst hi;cases ru;exact PySem.P.repr_of_bool ⟨.str _,H,I.tok _,⟨_,rfl⟩,by simpa only[PyData.shown] using q⟩
  |int i=>
   simp only[bU] at hi;subst hi;obtain⟨t,rfl⟩:=ru;exact PySem.P.repr_of_int (by simpa [PyData.showable] using hs) ⟨.str _,H,I.tok _,⟨_,rfl⟩,by simpa only[PyData.shown] using q⟩
  |str x=>
   simp only[bU] at hi;subst hi;obtain⟨t,rfl⟩:=ru;exact PySem.P.repr_of_str ⟨.str _,H,I.tok _,⟨_,rfl⟩,by simpa only[PyData.shown] using q⟩ (by simpa only[PyData.shown] using hz)
  |list ds=>simp only[bU] at hi;obtain⟨a,_,rfl,_⟩:=id hi;exact Rr hl a (by cases ru;rfl)
  |tuple ds=>simp only[bU] at hi;obtain⟨a,_,rfl,_⟩:=id hi;exact Rr hl a (by cases ru;rfl)
  |dict kvs=>simp only[bU] at hi;obtain⟨_,a,rfl,_⟩:=id hi;exact Rr hl a (by cases ru;rfl)
 ·have hi0:=hi;simp only[bU] at hi;obtain⟨a,xs,rfl,hq,hall⟩:=hi;cases ru;obtain⟨its,rv,pl,hzz⟩:=I.list (aW.of hq);obtain⟨o,e,c,n,dt⟩:=pl.isList;have Yd:(listText (PyData.shownAll ds)).length<=sizeLine:=by simpa only[PyData.shown] using hz
  obtain⟨as,ra⟩:=bU.reads I (.list ds) (.ref a) (.ref a) hi0 rfl;obtain⟨bs,mb,kb⟩:=aM.tH I hall rv hc (by simpa [PyData.showable] using hs) (λt ht=>qme (listText_mem_le ht) Yd);have nab:a∉bs:=qoq ra (by simp only[PyData.depth];exact qmS _) mb;simp only[PyData.depth] at hd;simp only[PyData.shown] at q;refine call_repr_slot (by omega) ⟨o,e,c⟩ F.slot_list_repr.toG ?_;cases its with
  |nil=>
   cases rv;have e2:ds=[]:=by
    cases ds with
    |nil=>rfl
    |cons d ds=>simp only[aM] at hall;obtain⟨_,_,z,_⟩:=hall;cases z
   subst e2;simp only[PyData.shownAll,listText_nil] at q;exact call_list_repr_empty ⟨o,e,c⟩ e dt ⟨_,_,rfl,.str _,H,I.tok _,⟨_,rfl⟩,q⟩
  |cons x l=>
   refine call_list_reprK e c dt nab (by simpa using kb.length_eq) (λi y z=>kb.item i y (by simpa using z)) hg (λb _=>Clear.nil b) ?_ (λ_ _ z=>z) (λh' u tk hk=>⟨_,_,rfl,.str _,H,I.kept (t':=tk) hk,⟨u,rfl⟩,q⟩) Yd;show X.A.units+1+_<_;omega
end
theorem Dl{f:Array Value->Array Value}{o:Obj}:(Obj.mapFields f o).dict=o.dict:=by
 obtain⟨c,d,dat,sl⟩:=o;cases dat <;> rfl
def Trc(base h:Heap)(e:Addr)(cls:Value×Option Addr)(fl:Value)(T:Addr):Prop:=
 ∃oe vs oT ts,h.get? e=some oe/\(oe.cls,oe.dict)=cls/\oe.data = .fields vs/\vs[2]? = some .none/\vs[1]? = some (.ref T)/\base.get? T=none/\T≠e/\h.get? T=some oT/\oT.data = .fields ts/\ts[3]? = some fl
structure Stn(base:Heap)(l:List Env)(e:Addr)(cls:Value×Option Addr)(fl:Value)(h h':Heap):Prop where
 stays:base.StaysIn h'
 frames:h'.FunFrames base l
 trc:∃T,Trc base h' e cls fl T
 slots:h.UpToSlots h'
section
variable {M:Model}{A:Around}{E:QAB}{s:Shared}{base:Heap}{env:Env}{outer l:List Env}{L e:Addr}{Q:Unit->Shared->Prop}
theorem Ux{oe:Obj}{vs:Array Value}{head:Value}{had:Bool}(fr:A.frames=some (env::outer))(ff:s.heap.FunFrames base (env::outer))(lf:env.frame=some L)(ee:s.heap.get? e=some oe)
  (st:base.StaysIn s.heap) (nb:base.get? e=none) (de:oe.data = .fields vs) (v2:vs[2]? = some .none) (hq:∀h',Stn base (env::outer) e (oe.cls,oe.dict) (rawInt L) s.heap h'->Q () {s with heap:=h'}) :
  wpAny M A (do let a <- frameOf env;let pl <- entryPlaceOf L had;let b <- EntryCells.newEntry head a .none (rawInt L) .none pl;setField (.ref e) 1 b) Q E s:=by
 have sz2:2<vs.size:=(qnu.mp v2).1;have ne:e∉frs (env::outer):=λz=>by
  obtain⟨_,o,y,d⟩:=ff.mem z;rw[ee] at y;cases y;exact d vs de
 refine ql3 (wpAny_frameOf_fun fr ff lf λg1 x1=>?_);refine ql3 (wpAny_entryPlaceOf λpl okp=>?_);unfold EntryCells.newEntry newFields;refine ql3 (qop ?_ (okp.sizeOk5 _ _ _ _ _));have e1:g1.get? e=some oe:=(x1.2.1 e ne).trans ee;have st1:base.StaysIn g1:=λb o z=>(x1.2.1 b λy=>by rw[(ff.mem y).1] at z;cases z).trans (st b o z);generalize hR:({cls:=.type "traceback",dict:=none,data:=.fields ([head,.ref L,.none,rawInt L,.none]++(if pl.isEmpty then List.replicate 6 Value.none else pl)).toArray}:Obj)=R
 have dR:∃ts,R.data = .fields ts/\ts[3]? = some (rawInt L)/\R.isFreed=false:=by
  subst hR;exact⟨_,rfl,by simp,rfl⟩
 obtain⟨ts,dR,tR,fR⟩:=dR;have e2:=ql4 (h:=g1) R e1;refine qou e2 de (Nat.lt_of_succ_lt sz2) (hq _ ?_);have Te:g1.objs.size≠e:=qns (ql8 e1);have keep:∀{b o},b≠e->g1.get? b=some o->((g1.push R).update e (Obj.mapFields (·.setIfInBounds 1 (Value.ref g1.objs.size)))).get? b=some o:=λ{b o} nb z=>by
  rw[qne _ _ (qnF nb)];exact ql4 _ z
 have nr:∀{b o},s.heap.get? b=some o->(∀us,o.data≠.fields us)->b≠e:=λ{b o} z d y=>by
  rw[y,ee] at z;cases z;exact d vs de
 have d3:=qnP de (·.setIfInBounds 1 (Value.ref g1.objs.size));refine⟨λb o z=>keep (λy=>by rw[y,nb] at z;cases z) (st1 b o z),ff.of_keeps λb o z d=>?_,⟨g1.objs.size,?_⟩,λb o z d=>?_⟩
 ·obtain⟨sl,y⟩:=x1.2.2 b o z;exact⟨_,keep (nr z d) y,rfl⟩
 ·refine⟨_,_,R,ts,qny _ e2 (qom d3),by rw[Obj.cls_mapFields,Dl],d3,?_,?_,st1.fresh,Te,?_,dR,tR⟩
  ·rw[qn8 (by decide)];exact v2
  ·simp[Nat.lt_of_succ_lt sz2]
  ·rw[qne _ _ (qnF Te)];exact qmc g1 fR
 ·obtain⟨sl,y⟩:=x1.2.2 b o z;exact⟨sl,keep (nr z d) y⟩
theorem Rt{oe:Obj}{vs:Array Value}(fr:A.frames=some (env::outer))(ff:s.heap.FunFrames base (env::outer))(lf:env.frame=some L)(ee:s.heap.get? e=some oe)
  (st:base.StaysIn s.heap) (nb:base.get? e=none) (de:oe.data = .fields vs) (v1:vs[1]? = some .none) (v2:vs[2]? = some .none) (hq:∀h',Stn base (env::outer) e (oe.cls,oe.dict) (rawInt L) s.heap h'->Q () {s with heap:=h'}) :
  wpAny M A (noteFrame (.ref e) env) Q E s:=by
 unfold noteFrame;simp only[lf];refine ql3 (qnd ee de v1 ?_);rw[if_neg (by decide)];exact Ux fr ff lf ee st nb de v2 hq
theorem HN{cls:Value×Option Addr}{T:Addr}(fr:A.frames=some (env::outer))(ff:s.heap.FunFrames base (env::outer))(lf:env.frame=some L)(tr:Trc base s.heap e cls .none T)
  (st:base.StaysIn s.heap) (nb:base.get? e=none) (hq:∀h',Stn base (env::outer) e cls (rawInt L) s.heap h'->Q () {s with heap:=h'}) :
  wpAny M A (noteFrame (.ref e) env) Q E s:=by
 obtain⟨oe,vs,oT,ts,ee,rfl,de,v2,v1,nT,Te,eT,dT,t3⟩:=tr;unfold noteFrame;simp only[lf];refine ql3 (qnd ee de v1 ?_);rw[if_pos (by simp)];refine ql3 (qnd eT dT t3 ?_);rw[if_neg (by simp[rawInt])];refine ql3 (qou eT dT (qnu.mp t3).1 ?_);have oth:∀{b},b≠T->(s.heap.update T (Obj.mapFields (·.setIfInBounds 3 Value.none))).get? b=s.heap.get? b:=λn=>qne _ _ (qnF n);have nr:∀{b o},s.heap.get? b=some o->(∀us,o.data≠.fields us)->b≠T:=λ{b o} z d y=>by
  rw[y,eT] at z;cases z;exact d ts dT
 refine Ux (s:={s with heap:=s.heap.update T (Obj.mapFields (·.setIfInBounds 3 Value.none))}) fr (ff.of_keeps λb o z d=>⟨o,(oth (nr z d)).trans z,rfl⟩) lf ((oth (qnF Te)).trans ee) (λb o z=>(oth λy=>by rw[y,nT] at z;cases z).trans (st b o z)) nb de v2 λh' x=>hq h' ⟨x.stays,x.frames,x.trc,λb o z d=>x.slots b o ((oth (nr z d)).trans z) d⟩
theorem Dm{cls:Value×Option Addr}{fl:Value}{T:Addr}(ff:s.heap.FunFrames base l)(tr:Trc base s.heap e cls fl T)(st:base.StaysIn s.heap)(hq:∀h',Stn base l e cls .none s.heap h'->Q () {s with heap:=h'}) :
  wpAny M A (setFlight (.ref e) none) Q E s:=by
 obtain⟨oe,vs,oT,ts,ee,rfl,de,v2,v1,nT,Te,eT,dT,t3⟩:=tr;have z3:3<ts.size:=(qnu.mp t3).1;unfold setFlight;refine ql3 (qnd ee de v1 ?_);rw[if_pos (by simp)];refine qou eT dT z3 (hq _ ?_);have oth:∀{b}(f:Obj->Obj),b≠T->(s.heap.update T f).get? b=s.heap.get? b:=λf n=>qne _ _ (qnF n);have nr:∀{b o},s.heap.get? b=some o->(∀us,o.data≠.fields us)->b≠T:=λ{b o} z d y=>by
  rw[y,eT] at z;cases z;exact d ts dT
 refine⟨λb o z=>(oth _ λy=>by rw[y,nT] at z;cases z).trans (st b o z),ff.of_keeps λb o z d=>⟨o,(oth _ (nr z d)).trans z,rfl⟩,⟨T,oe,vs,_,_,(oth _ (qnF Te)).trans ee,rfl,de,v2,v1,nT,Te,qny _ eT (qom (qnP dT _)),qnP dT _,?_⟩,λb o z d=>⟨o.slots,(oth _ (nr z d)).trans z⟩⟩;simp[z3]
theorem Uy{cls:Value×Option Addr}(note:∀Q':Unit->Shared->Prop,(∀h',Stn base (env::outer) e cls (rawInt L) s.heap h'->Q' () {s with heap:=h'})->wpAny M A (noteFrame (.ref e) env) Q' E s)
  (hq:∀h',Stn base (env::outer) e cls .none s.heap h'->Q () {s with heap:=h'}):wpAny M A (leaving env (.ref e)) Q E s:=by
 unfold leaving;refine ql3 (note _ λh1 x1=>?_);obtain⟨T,tr⟩:=x1.trc;exact Dm (s:={s with heap:=h1}) x1.frames tr x1.stays λh2 x2=>hq h2 ⟨x2.stays,x2.frames,x2.trc,x1.slots.trans x2.slots⟩
end
structure HS(h0 h:Heap)(H:Hp)(a C:Addr)(od:Option Addr):Prop where
 new:h0.get? a=none
 un:H a=none
 ob:∃oe vs,h.get? a=some oe/\(oe.cls,oe.dict)=(Value.ref C,od)/\oe.data = .fields vs/\vs[2]? = some .none/\(vs[1]? = some .none\/
  ∃T oT ts,vs[1]? = some (.ref T)/\T≠a/\h0.get? T=none/\H T=none/\h.get? T=some oT/\oT.data = .fields ts/\ts[3]? = some .none)
structure qae(h0 h:Heap)(H:Hp)(a C:Addr)(od:Option Addr)(T:Addr):Prop where
 new:h0.get? a=none
 newT:h0.get? T=none
 un:H a=none
 unT:H T=none
 ob:∃oe vs oT ts,h.get? a=some oe/\(oe.cls,oe.dict)=(Value.ref C,od)/\oe.data = .fields vs/\vs[2]? = some .none/\vs[1]? = some (.ref T)/\T≠a/\h.get? T=some oT/\oT.data = .fields ts/\ts[3]? = some .none
theorem qae.in{h0 h:Heap}{H:Hp}{a C T:Addr}{od:Option Addr}(x:qae h0 h H a C od T):HS h0 h H a C od:=by
 obtain⟨h1,h2,h3,h4,oe,vs,oT,ts,t1,t2,t3,t4,t5,t6,t7⟩:=x;exact⟨h1,h3,oe,vs,t1,t2,t3,t4,.inr ⟨T,oT,ts,t5,t6,h2,h4,t7⟩⟩
def Wz(P:Program)(w:World):YJ:=λouter H s E e s'=>∃(a C:Addr)(od:Option Addr)(H':Hp),e = .ref a/\s'.os=s.os/\AllBare s'.gens/\Un (frs outer) [] H H' s.heap s'.heap/\tD P w H' s'.heap/\(∃T,qae s.heap s'.heap H' a C od T)/\E (.ref C) od H'
theorem Ru{P:Program}{w:World}{H:Hp}{h:Heap}(x:tD P w H h){b:Addr}(e:h.get? b=none):H b=none:=by
 cases q:H b with
 |none=>rfl
 |some u=>
  obtain⟨o,eo⟩:∃o,h.get? b=some o:=by
   have:=x b u q;cases u with
   |lst xs=>obtain⟨_,_,_,_,e⟩:=this;exact⟨_,e⟩
   |tup xs=>obtain⟨_,_,_,o,e,_⟩:=this;exact⟨_,e⟩
   |dK kvs=>obtain⟨_,_,_,_,o,_,_,e,_⟩:=this;exact⟨_,e⟩
   |dT kvs=>obtain⟨_,_,_,_,o,_,_,e,_⟩:=this;exact⟨_,e⟩
   |set S n=>obtain⟨o,_,_,_,e,_⟩:=this;exact⟨_,e⟩
   |ins C dx fs=>obtain⟨_,_,_,e,_⟩:=this;exact⟨_,e⟩
   |own y=>obtain⟨_,e⟩:=this;exact⟨_,e⟩
   |xd fs=>obtain⟨_,⟨_,_,_,e,_⟩,_⟩:=this;exact⟨_,e⟩
   |rng lo hi=>obtain⟨_,_,_,e⟩:=this;exact⟨_,e⟩
   |Mg ob u=>obtain⟨e,_⟩:=this;exact⟨_,e⟩
   |xR ps=>exact⟨_,(show h.get? b=some _ from this)⟩
   |met f y=>exact⟨_,(show h.get? b=some _ from this)⟩
   |ext φ=>obtain⟨_,⟨o,e⟩,_⟩:=this;exact⟨_,e⟩
  rw[e] at eo;cases eo
section
variable {X:Cx}{p_:QAC}{σ:St}{H:Hp}{s:Shared}
theorem Inv.old(I:Inv X p_ σ H s)(hex:X.ex=[]){b:Addr}(e:s.heap.get? b=none):X.s₀.heap.get? b=none:=by
 cases q:X.s₀.heap.get? b with
 |none=>rfl
 |some o=>
  obtain⟨o',eo⟩:=I.base.there b o q (by rw[hex];simp);rw[e] at eo;cases eo
theorem Uz(I:Inv X p_ σ H s)(hex:X.ex=[]){a C:Addr}{od:Option Addr}{l:List Addr}(hl:∀b∈l,b∈frs X.stack\/(X.s₀.heap.get? b=none/\H b=none))(ha:X.s₀.heap.get? a=none)(hH:H a=none)(hs:∀b∈frs X.stack,b∈l)
  {E:XK} (hE:E (.ref C) od H) {h':Heap} (x:Stn (W.hideAll s.heap l) X.stack a (.ref C,od) .none s.heap h'):Wz X.prog X.w X.outer X.H₀ X.s₀ E (.ref a) {s with heap:=h'}:=by
 obtain⟨k1,k2,⟨T,oe,vs,oT,ts,t1,t2,t3,t4,tt,t5,t6,t7,t8,t9⟩,k4⟩:=x;have nl:∀{b:Addr}{o:Obj},b∉l->s.heap.get? b=some o->h'.get? b=some o:=λhb e=>k1 _ _ (W.hideAll_get _ e hb);have qg8:∀{b:Addr}{o:Obj},X.s₀.heap.get? b=some o->b∉X.fs->b∉l:=λ{b o} e hb hm=>by
  rcases hl b hm with z|⟨z,_⟩
  ·rcases qmd.mp (I.wD b z) with z|z
   ·rw[z] at e;exact absurd (ql8 e) (Nat.not_lt.mpr I.ok.above)
   ·exact hb z
  ·rw[z] at e;cases e
 have trL:∀{b:Addr}{u:HO},H b=some u->b∉l:=λ{b u} e hm=>by
  rcases hl b hm with z|⟨_,z⟩
  ·rw[I.Bw b z] at e;cases e
  ·rw[z] at e;cases e
 have fsl:∀{b:Addr}{o:Obj},b∈X.fs->s.heap.get? b=some o->∃sl,h'.get? b=some {o with slots:=sl}:=λ{b o} hb e=>by
  obtain⟨_,o2,e2,hd⟩:=I.tQ.mem hb;rw[e] at e2;cases e2;exact k4 b o e hd
 have T8:∀b:Addr,b∉X.ex:=λb=>by rw[hex];simp
 refine⟨a,C,od,H,rfl,I.os,I.bare,⟨λb o e n hb _=>?_,λb o e n hb _=>?_,λb o e n _=>I.base.free b o e n (T8 b),λb o e _=>?_,I.base.tups,I.base.tM,I.base.tO⟩,λb u e=>?_,⟨T,ha,?_,hH,?_,oe,vs,oT,ts,t1,t2,t3,t4,tt,t6,t7,t8,t9⟩,hE⟩
 ·exact nl (qg8 e hb) (I.base.keep b o e n hb (T8 b))
 ·obtain⟨sl,e2⟩:=I.base.slot b o e n hb (T8 b);obtain⟨sl',e3⟩:=fsl hb e2;exact⟨sl',e3⟩
 ·obtain⟨o',e2⟩:=I.base.there b o e (T8 b)
  by_cases hb:b∈X.fs
  ·obtain⟨sl,e3⟩:=fsl hb e2;exact⟨_,e3⟩
  ·exact⟨o',nl (qg8 e hb) e2⟩
 ·refine(I.hok b u e).stay (λc v hc q=>?_) (λc q=>q) λc xs q=>q
  rcases hc with rfl|hc
  ·exact nl (trL e) q
  ·exact nl (trL hc) q
 all_goals
  have hT:T∉frs X.stack:=λhm=>by
   obtain⟨_,o2,e2,hd⟩:=k2.mem hm;rw[t7] at e2;cases e2;exact hd _ t8
  have cs:s.heap.get? T=none\/(X.s₀.heap.get? T=none/\H T=none):=by
   cases q:s.heap.get? T with
   |none=>exact .inl rfl
   |some o=>
    by_cases hm:T∈l
    ·exact .inr ((hl T hm).resolve_left hT)
    ·rw[W.hideAll_get _ q hm] at t5;cases t5
 ·exact cs.elim (λz=>I.old hex z) λz=>z.1
 ·exact cs.elim (λz=>Ru I.hok z) λz=>z.2
theorem qaf(I:Inv X p_ σ H s)(hst:X.stack=X.env::X.outer)(hfr:X.env.frame=some X.env.locals)(hex:X.ex=[]){a C:Addr}{od:Option Addr}(x:HS X.s₀.heap s.heap H a C od){E:XK}(hE:E (.ref C) od H){E':QAB} :
  wpAny (model X.prog X.w) X.A (leaving X.env (.ref a)) (λ_ s''=>Wz X.prog X.w X.outer X.H₀ X.s₀ E (.ref a) s'') E' s:=by
 obtain⟨new,un,oe,vs,he,hc,hd,h0,hT⟩:=x;have fr:=I.ok.frames;rw[hst] at fr;have qdz:∀l:List Addr,s.heap.FunFrames (W.hideAll s.heap (frs X.stack++l)) (X.env::X.outer):=λl=>by
  rw[<- hst];exact W.funFrames_hide I.stack λenv he b hb=>qmt _ (List.mem_filterMap.mpr ⟨env,he,hb⟩)
 rcases hT with h1|⟨T,oT,ts,h1,h2,h3,h4,h5,h6,h7⟩
 ·refine Uy (base:=W.hideAll s.heap (frs X.stack++[a])) (λQ' q=>Rt fr (qdz _) hfr he (λb o e=>W.of_hideAll _ e) (qor _ (by simp)) hd h1 h0 q) λh' hL=>?_;rw[hc,<- hst] at hL;refine Uz I hex (λb hb=>?_) new un (λb hb=>qmt _ hb) hE hL
  rcases qmm.mp hb with z|z
  ·exact .inl z
  ·rw[qmH.mp z];exact .inr ⟨new,un⟩
 ·refine Uy (base:=W.hideAll s.heap (frs X.stack++[a,T])) (cls:=(.ref C,od)) (λQ' q=>HN fr (qdz _) hfr (T:=T) ⟨oe,vs,oT,ts,he,hc,hd,h0,h1,qor _ (by simp),h2,h5,h6,h7⟩ (λb o e=>W.of_hideAll _ e) (qor _ (by simp)) q) λh' hL=>?_;rw[<- hst] at hL;refine Uz I hex (λb hb=>?_) new un (λb hb=>qmt _ hb) hE hL
  rcases qmm.mp hb with z|z
  ·exact .inl z
  ·simp only[qmd,qmF,qnz] at z
   rcases z with rfl|rfl
   ·exact .inr ⟨new,un⟩
   ·exact .inr ⟨h3,h4⟩
theorem HS.back{h0 h1 h:Heap}{H:Hp}{a C:Addr}{od:Option Addr}(x:HS h1 h H a C od)(k:∀b,h1.get? b=none->h0.get? b=none):HS h0 h H a C od:=by
 obtain⟨new,un,oe,vs,he,hc,hd,h2,hT⟩:=x;refine⟨k _ new,un,oe,vs,he,hc,hd,h2,?_⟩
 rcases hT with h1|⟨T,oT,ts,h1,h2,h3,h4,h5⟩
 ·exact .inl h1
 ·exact .inr ⟨T,oT,ts,h1,h2,k _ h3,h4,h5⟩
def Lets(X:Cx)(E:XK):Prop:=∀(p_:QAC)(σ:St)(H:Hp)(s:Shared)(a C:Addr)(od:Option Addr),Inv X p_ σ H s->HS X.s₀.heap s.heap H a C od->E (.ref C) od H->X.xe (.ref a) s
theorem rJ{P:Program}{w:World}{K:W.Frag}{mg:Str->Option Value}{base:Heap}{N:QAH}{qual:Str}{scope:Scope}{f:Addr}{cd:Value}{A:Around}{outer:List Env}{s:Shared}{H:Hp}{E:XK} :
  Lets (au (Wz P w) P w K mg base N qual scope f cd A outer s H E) E:=λp_ σ H1 s1 a C od I x hE=>qaf I rfl rfl rfl x hE
theorem Lets.passes{X:Cx}{E:XK}(h:Lets X E)(hex:X.ex=[]):Passes (Wz X.prog X.w) X E:=λp_ σ H s e s' I hx=>by
 obtain⟨a,C,od,H',rfl,ho,hg,un,hok,⟨T,ex⟩,hE⟩:=hx;have I':Inv X p_ σ H' s':=I.call' (ch:=[]) ho un hok hg λb z=>(nomatch z);exact h p_ σ H' s' a C od I' (ex.in.back λb e=>I.old hex e) hE
theorem BX{K:W.Frag}{h:Heap}{C:Addr}{bmB:QAE}{newId:String}(X:K.In h)(q:W.excIn K C bmB newId=true) :
  ∃bm N nm q bs hdct sn sub ab col dd k0 k1 k2 k3 k5 mN,h.get? C=some (excClassObj nm q C N bs bm hdct sn sub ab col dd k0 k1 k2 k3 k5 newId)/\h.Ns N mN/\mN "__init__" = none/\OwnTail h bmB bm/\∀v b,W.mroIn K C v=some b->(Value.ref C::bm).contains v=b:=by
 unfold W.excIn at q;split at q
 ·rename_i dd cd sl ho;split at q
  ·rename_i C' bm k0 k1 k2 k3 n k5 hm hs;simp only[qnf,qn1,Bool.not_eq_true'] at q;obtain⟨⟨⟨⟨⟨rfl,rfl⟩,hdel⟩,ht⟩,hok⟩,hni⟩:=q;obtain⟨nm,bs,mro,ns,qn,hd,sn,sub,ab,col,del⟩:=cd;dsimp only at hm hdel hok hni;subst hm hdel;obtain rfl:sl = #[k0,k1,k2,k3,some (.builtin n),k5]:=by
    obtain⟨l⟩:=sl;simp only at hs;rw[hs]
   exact⟨bm,ns,nm,qn,bs,hd,sn,sub,ab,col,dd,k0,k1,k2,k3,k5,_,X _ _ ho,.of_isNs (W.isNs_of_in X hok),W.nsMap_none_of_in X hok hni,W.tail_of_in X ht,λv b e=>by
    unfold W.mroIn W.clsIn at e;rw[ho] at e;simpa using e⟩
  ·cases q
 ·cases q
abbrev mD:QAE:=[.type "ValueError",.type "Exception",.type "BaseException",.type "object"]
def wK(K:W.Frag)(C:Addr):Prop:=W.excIn K C mD "ValueError.__new__" = true
def qag(C:Addr)(E:XK)(ta:TA):TS:=λ_ σ H=>ta σ H λvs H1=>vs.length<=sizeLine/\E (.ref C) none H1
@[simp ↓] theorem qg9 C E ta D σ H:qag C E ta D σ H=ta σ H λvs H1=>vs.length<=sizeLine/\E (.ref C) none H1:=rfl
theorem N6{X:Cx}{E:XK}{C:Addr}{x:Str}{np cpos pos:Pos}{e:Expr}{es:List Expr}{ta:TA}(hL:Lets X E)(hex:X.ex=[])(hc:X.calm=true)(cl:wK X.K C)(hg:Gl X x)(hm:X.mg x=some (.ref C))(ha:PA X (e::es) ta)
  (hdb:(x == ("__debug__" : Str))=false:=by decide) (hs:starEach (e::es) X.env=(false,eval e X.env)::starEach es X.env:=by rfl) (hpl:(backTo cpos (starEach (e::es) X.env)).any (·.1)=false:=by rfl) :
  PS X (.Raise (some (.Call (.Name x np) (e::es) [] cpos)) none pos) (qag C E ta):=by
 intro p_ s σ H D I h;obtain⟨bm,N,nm,q,bs,hdct,sn,sub,ab,col,dd,k0,k1,k2,k3,k5,mN,hC0,hN0,hni,T0,_⟩:=BX I.ok.mod.Mh cl;refine wpAny_Raise_call_subT (bm:=bm) (N:=N) (nm:=nm) (q:=q) (bs:=bs) (hdct:=hdct) (sn:=sn) (sub:=sub) (ab:=ab) (col:=col) (dd:=dd) (k0:=k0) (k1:=k1) (k2:=k2) (k3:=k3) (k5:=k5) (mN:=mN) (C:=C) qov (T0.hasType (by decide)) (I.ok.hd hc) hpl hni ?_;refine m8 I hg hm ⟨rfl,?_⟩ hdb;have hp:=λQ q=>ha cpos p_ s σ H Q I q;rw[hs] at hp⊢;show wpAny _ _ (evalArgs (.ref C) true ((false,eval e X.env)::backTo cpos (starEach es X.env)) []) _ _ s;refine Calls.evalArgs_plain (cT (hp _ h) λus s1 zz=>?_);obtain⟨vs,H1,I1,r1,hz,hE⟩:=zz;refine⟨rfl,by rw[<- r1.length];exact hz,I1.bk _ _ hC0,hN0.keeps I1.bk,T0.keeps I1.bk,λh' a mk=>?_⟩;obtain⟨t,ht,htn,htt⟩:=mk.there;have I2:Inv X p_ σ H1 {s1 with heap:=h',toks:=s1.toks}:=I1.kept mk.keeps;exact hL p_ σ H1 _ a C none I2 ⟨I1.old hex mk.new,Ru I1.hok mk.new,_,_,ht,rfl,rfl,rfl,.inl rfl⟩ hE
theorem dj.okE{P:Program}{w:World}{K:W.Frag}{mg:Str->Option Value}{base:Heap}{x qual:Str}{st:Stmt}{f:Addr}{fd:FuncData}{N ps:QAH}{k:Nat}{sp:Sp}(F:dj K x qual st f fd)(S:aQ N ps (aB st))(len:∀vs H Q E,sp vs H Q E->vs.length=ps.length)
  (hbody:∀(cdv:Value)(A:Around)(outer:List Env)(s:Shared)(H:Hp)(vs:List V)(Q:VK)(E:XK),fL k (A.deeper (envOfC qual (aB st) s.heap.objs.size f cdv))->sp vs H Q E->
   ∃t,Ge (au (Wz P w) P w K mg base N qual (aB st) f cdv A outer s H E) (gj st) t/\t {nx:=λ_ H'=>Q .non H',rt:=Q} (start N vs) H):bV P w K mg base (Wz P w) (k+1) f fd ps sp:=by
 obtain⟨oc,od,kV,doc,pm,an,cdv,ct,osl,rfl,lk,hcd⟩:=F.ex;exact YT lk hcd S len λA outer s H vs Q E hr hsp=>hbody cdv A outer s H vs Q E hr hsp
theorem Inv.gone{X:Cx}{p_:QAC}{σ:St}{H:Hp}{s:Shared}{h':Heap}{t':Nat}{ch:List Addr}(I:Inv X p_ σ H s)(hex:X.ex=[])
  (hch:∀b∈ch,X.s₀.heap.get? b=none/\H b=none/\(∀vs o,s.heap.get? b=some o->o.data = .fields vs->True)/\(∃o vs,s.heap.get? b=some o/\o.data = .fields vs)/\∀p∈X.pn++p_,p.1≠b)
  (k1:∀b o,b∉frs X.stack->b∉ch->s.heap.get? b=some o->h'.get? b=some o) (k2:∀b o,s.heap.get? b=some o->(∀vs,o.data≠.fields vs)->∃sl,h'.get? b=some {o with slots:=sl}) :
  Inv X p_ σ H {s with heap:=h',toks:=t'}:=by
 have nf:∀{b o},s.heap.get? b=some o->(∀vs,o.data≠.fields vs)->b∉ch:=λ{b o} e hd hb=>by
  obtain⟨_,_,_,⟨o2,vs,e2,d2⟩,_⟩:=hch b hb;rw[e] at e2;cases e2;exact hd vs d2
 have fsl:∀{b:Addr}{o:Obj},b∈frs X.stack->s.heap.get? b=some o->∃sl,h'.get? b=some {o with slots:=sl}:=λ{b o} hb e=>by
  obtain⟨_,o2,e2,hd⟩:=I.stack.mem hb;rw[e] at e2;cases e2;exact k2 b o e hd
 have ex1:∀{b:Addr}{o:Obj},b∉ch->s.heap.get? b=some o->∃o',h'.get? b=some o':=λ{b o} hb e=>by
  by_cases hf:b∈frs X.stack
  ·obtain⟨sl,z⟩:=fsl hf e;exact⟨_,z⟩
  ·exact⟨o,k1 b o hf hb e⟩
 have old:∀{b:Addr}{o:Obj},X.s₀.heap.get? b=some o->b∉ch:=λe hb=>by
  rw[(hch _ hb).1] at e;cases e
 have qkH:∀{b:Addr}{o:Obj},X.s₀.heap.get? b=some o->b∉X.fs->b∉frs X.stack:=λ{b o} e hb hm=>by
  rcases qmd.mp (I.wD b hm) with z|z
  ·rw[z] at e;exact absurd (ql8 e) (Nat.not_lt.mpr I.ok.above)
  ·exact hb z
 have T8:∀b:Addr,b∉X.ex:=λb=>by rw[hex];simp
 have cells:∀{c:Addr}{v:QAG},s.heap.IsCell c v->h'.IsCell c v:=λ{c v} ⟨o,e,d⟩=>by
  obtain⟨sl,z⟩:=k2 c o e (λvs q=>by rw[d] at q;cases q);exact⟨_,z,d⟩
 have subs:∀{b:Addr},b∈X.fs->b∈frs X.stack:=λ{b} hb=>by
  rcases I.ok.stk with e|⟨e,hf⟩
  ·rw[e];exact hb
  ·rw[e];show b∈List.filterMap _ (X.env::X.outer);rw[qoC,hf];exact qmp _ hb
 refine⟨I.ok,I.os,I.bare,⟨λb o e n hb hx=>?_,λb o e n hb hx=>?_,I.base.free,λb o e hx=>?_,I.base.tups,I.base.tM,I.base.tO⟩,?_,λx c e=>?_,I.free,I.iW,λp hp=>?_,λb u e=>?_,I.len⟩
 ·exact k1 b o (qkH e hb) (old e) (I.base.keep b o e n hb hx)
 ·obtain⟨sl,z⟩:=I.base.slot b o e n hb hx;obtain⟨sl',z'⟩:=fsl (subs hb) z;exact⟨sl',z'⟩
 ·obtain⟨o',z⟩:=I.base.there b o e hx;exact ex1 (old e) z
 ·obtain⟨m,⟨o,es,ep,e,d,r⟩,q⟩:=I.loc;obtain⟨sl,z⟩:=k2 _ o e (λvs y=>by rw[d] at y;cases y);refine⟨m,⟨_,es,ep,z,d,r⟩,λi x v e1 e2 e3=>?_⟩;obtain⟨u,rv,l⟩:=q i x v e1 e2 e3;refine⟨u,rv,?_⟩
  rcases l with l|⟨kd,c,ec,y⟩
  ·exact .inl l
  ·exact .inr ⟨kd,c,ec,cells y⟩
 ·obtain⟨v,z⟩:=I.cell x c e;exact⟨v,cells z⟩
 ·obtain⟨e,n,ne,nfs,d⟩:=I.pin p hp;refine⟨k1 _ _ (λhm=>?_) (λhm=>(hch _ hm).2.2.2.2 p hp rfl) e,n,ne,nfs,d⟩
  rcases qmd.mp (I.wD _ hm) with z|z
  ·exact ne z
  ·exact nfs z
 ·have no:∀{c:Addr}{u:HO},H c=some u->c∉frs X.stack/\c∉ch:=λ{c u} q=>⟨λhm=>(by rw[I.Bw _ hm] at q;cases q),λhm=>(by rw[(hch _ hm).2.1] at q;cases q)⟩;refine(I.hok b u e).stay (λc v hc q=>?_) (λc q=>q) λc xs q=>q
  rcases hc with rfl|hc
  ·exact k1 _ _ (no e).1 (no e).2 q
  ·exact k1 _ _ (no hc).1 (no hc).2 q
end
end L2
namespace L2
open PySem PySem.Spec PySem.W PyProof.Rows
section
variable {prog:Program}{w:World}{A:Around}{E:QAB}{K:W.Frag}{h:Heap}{g:Array GenState}{d:Drawn}{t:Nat}{os:OsState}{x C:Addr}
structure rK(K:W.Frag)(C:Addr):Prop where
 ga:findIn K (.ref C) "__getattribute__" = some (some (.builtin "BaseException.__getattribute__"))
 gn:findIn K (.ref C) "__getattr__" = some none
 cl:findIn K (.ref C) "__class__" = some (some (.builtin "object.__class__"))
 sp:specialIn K (.builtin "object.__class__") "__get__" = some (some (.builtin "getset_descriptor.__get__"))
 tk:takesIn K (.builtin "object.__class__")=some true
 mo:mroIn K C (.type "object")=some true
 mb:mroIn K C (.type "BaseException")=some true
def mW(x C:Addr)(h:Heap):Prop:=∃ox vs,h.get? x=some ox/\ox.cls = .ref C/\ox.data = .fields vs
theorem mW.type{M:Model}(e:mW x C h):Looks M h (typeOf (.ref x)) (.ref C):=by
 obtain⟨ox,vs,h1,h2,_⟩:=e;exact h2▸(Looks.ld h1).andThen .now
theorem qcv{R:Result->Shared->Prop}{tp:Value}(X:K.In h)(I:mW x C h)(L:rK K C)(hq:R (.ok (.ret (.ref C))) ⟨h,g,d,t,os⟩) :
  codeAny (model prog w) A (.call (.builtin "getset_descriptor.__get__") ⟨[.builtin "object.__class__",.ref x,tp],[]⟩) R ⟨h,g,d,t,os⟩:=by
 have L0:=I.type (M:=model prog w);have L1:=looks_mroIn (M:=model prog w) X L.mo;have hT5:(⟨h,g,d,t,os⟩:Shared).TypeIs (.builtin "object.__class__") "getset_descriptor" :=F.typeOf_object_class;refine qnE F.slot_gs_get.plain F.entry_gs_get (F.slot_gs_get.check _ _ _ _ _ _ _ _ hT5 (F.args_gs_get _ _ _) ?_)
 repeat (any_goals (first|assumption|with_reducible refine L0.at ?_|with_reducible refine L1.at ?_|wp_step))
 rw[show(".".intercalate ("object.__class__".cutAt '.').dropLast) = "object" by decide+kernel];refine L1.at ?_
 repeat (any_goals (first|assumption|with_reducible refine L0.at ?_|wp_step))
 refine⟨qoe _ (by decide+kernel),qnW KF.entry_class ?_⟩;unfold Builtin.«object.__class__»
 repeat (any_goals (first|assumption|with_reducible refine L0.at ?_|wp_step))
theorem WD{tk:Tok}{Q:PySem.Fin->Shared->Prop}(X:K.In h)(I:mW x C h)(L:rK K C)(hq:Q (.done (.ret (.ref C))) ⟨h,g,d,t,os⟩) :
  wpAny (model prog w) A (Builtin.«object.__getattribute__» ⟨[.ref x,.str "__class__" tk],[]⟩) Q E ⟨h,g,d,t,os⟩:=by
 have L0:=I.type (M:=model prog w);have L1:=looks_findIn (M:=model prog w) X L.cl;have hT5:(⟨h,g,d,t,os⟩:Shared).TypeIs (.builtin "object.__class__") "getset_descriptor" :=F.typeOf_object_class;have f5:=F.typeOf_object_class;have f6:=F.slot_gs_get.lookup;have f7:=F.slot_gs_set.lookup
 repeat (any_goals (first|assumption|with_reducible refine L0.at ?_|with_reducible refine L1.at ?_|wp_step))
 refine qcv X I L ?_
 repeat (any_goals (first|assumption|wp_step))
theorem WK{M:Model}{nameV:Value}{Q:Unit->Shared->Prop}(X:K.In h)(I:mW x C h)(L:rK K C)(hq:Q () ⟨h,g,d,t,os⟩) :
  wpAny M A (checkBuiltinCall "BaseException.__getattribute__" ⟨[.ref x,nameV],[]⟩) Q E ⟨h,g,d,t,os⟩:=by
 have hk:builtinKind "BaseException.__getattribute__" = some .slot:=by decide+kernel
 have hs:splitId "BaseException.__getattribute__" = some ("BaseException", "__getattribute__"):=by decide+kernel
 have L0:=I.type (M:=M);have L1:=looks_mroIn (M:=M) X L.mb;have ha:=F.args_bexc_ga (.ref x) nameV;simp only[checkBuiltinCall,hk,hs];refine ql3 ?_;unfold isInstance
 repeat (first|with_reducible refine L0.at ?_|with_reducible refine L1.at ?_|wp_step)
 exact hq
theorem qe_{tk:Tok}{fill:Bool}{Q:QAB}(X:K.In h)(I:mW x C h)(L:rK K C)(hq:Q (.ref C) ⟨h,g,d,t,os⟩) :
  wpAny (model prog w) A (getAttrBy (.ref x) (.str "__class__" tk) fill) Q E ⟨h,g,d,t,os⟩:=by
 have L0:=I.type (M:=model prog w);have L1:=looks_findIn (M:=model prog w) X L.ga;have L2:=looks_findIn (M:=model prog w) X L.gn;have f3:=(F.attrBase_ValueError.ga).bind (.ref x);have hx2:(Value.builtin "BaseException.__getattribute__" == Value.builtin "object.__getattribute__")=false:=by decide+kernel
 have hx1:(onTheHeap (Value.ref C) && Value.builtin "BaseException.__getattribute__" == Value.builtin "object.__getattribute__")=false:=by rw[hx2];rfl
 repeat (any_goals (first|assumption|with_reducible refine L0.at ?_|with_reducible refine L1.at ?_|with_reducible refine L2.at ?_|wp_step))
 refine qnE F.attrBase_ValueError.ga.plain F.entry_bexc_ga (WK X I L (WD X I L ?_))
 repeat (any_goals (first|assumption|wp_step))
theorem WL{s:Shared}{Q:QAG->Shared->Prop}(X:K.In s.heap)(I:mW x C s.heap)(L:rK K C)(hq:Q (some (.ref C)) {s with toks:=s.toks+1}) :
  wpAny (model prog w) A (getAttr? (.ref x) "__class__") Q E s:=by
 obtain⟨h,g,d,t,os⟩:=s;unfold getAttr? getAttrBy?
 repeat (any_goals (first|assumption|with_reducible apply qe_ X I L|wp_step))
end
theorem N7{K:W.Frag}{x C:Addr}{cd:ClassData}(hcd:clsIn K C=some cd)(L:rK K C):KitX K (.ref x) (.ref C) (mW x C) where
 ty:=λM h _ e=>e.type
 it:=λ_ _ X _=>by
  unfold clsIn at hcd;split at hcd
  ·rename_i c' d' cd' sl' ho;intro A' Q' E' s' k q;unfold isType loadHead;exact ql3 (wpAny_loadPart (k _ _ (X _ _ ho)) (qmb q))
  ·cases hcd
 ne:=λh tp dd its n sl X htp=>by
  refine Bool.eq_false_iff.mpr λq=>?_;have e:C=tp:=Value.ref.inj (qn1.mp q);subst e;unfold clsIn at hcd;split at hcd
  ·rename_i c' d' cd' sl' ho;have z:=(X _ _ ho).symm.trans htp;cases z
  ·cases hcd
 ca:=λX e k=>WL X e L k
end L2
namespace L2
open PySem PySem.Spec PyProof.Rows
def Cx.caught(X:Cx)(a:Addr):Cx:={X with A:=X.A.mark (some (.ref a)),calm:=false,xe:=λ_ _=>False}
def Cx.tried(X:Cx)(pn:QAC)(xe:QAB):Cx:={X with pn:=pn,xe:=xe}
section
variable {X:Cx}{p_:QAC}{σ:St}{H:Hp}{s:Shared}
theorem Inv.caught(I:Inv X p_ σ H s)(a:Addr):Inv (X.caught a) p_ σ H s:=
 ⟨⟨I.ok.mod,I.ok.kind,I.ok.glob,I.ok.blt,I.ok.above,I.ok.inj,I.ok.has,I.ok.cab,λz=>(nomatch z),I.ok.frames,I.ok.stk,I.ok.exf,I.ok.bs,I.ok.TY,I.ok.Mi,I.ok.Mj,I.ok.tQ,I.ok.X8⟩,I.os,I.bare,I.base,I.loc,I.cell,I.free,I.iW,I.pin,I.hok,I.len⟩
theorem Inv.uncaught{a:Addr}{s':Shared}(I:Inv X p_ σ H s){σ':St}{H':Hp}(J:Inv (X.caught a) p_ σ' H' s'):Inv X p_ σ' H' s':=
 ⟨I.ok,J.os,J.bare,J.base,J.loc,J.cell,J.free,J.iW,J.pin,J.hok,J.len⟩
theorem Inv.tried(I:Inv X p_ σ H s)(xe:QAB):Inv (X.tried (X.pn++p_) xe) [] σ H s:=
 ⟨⟨I.ok.mod,I.ok.kind,I.ok.glob,I.ok.blt,I.ok.above,I.ok.inj,I.ok.has,I.ok.cab,I.ok.hd,I.ok.frames,I.ok.stk,I.ok.exf,I.ok.bs,I.ok.TY,I.ok.Mi,I.ok.Mj,I.ok.tQ,I.ok.X8⟩,I.os,I.bare,I.base,I.loc,I.cell,I.free,I.iW,λp hp=>I.pin p (by rw[qmz] at hp;exact hp),I.hok,I.len⟩
theorem Inv.yO{xe:QAB}{Cv:QAC}{s':Shared}(I:Inv X p_ σ H s){σ':St}{H':Hp}(J:Inv (X.tried (X.pn++p_) xe) Cv σ' H' s'):Inv X p_ σ' H' s':=
 ⟨I.ok,J.os,J.bare,J.base,J.loc,J.cell,J.free,J.iW,λp hp=>J.pin p (qmt _ hp),J.hok,J.len⟩
def Takes(X:Cx)(pn:QAC)(xe:QAB)(R:St->Addr->Option Addr->Hp->Prop):Prop:=
 ∀(p_:QAC)(σ:St)(H:Hp)(s:Shared)(a C:Addr)(od:Option Addr)(T:Addr),Inv (X.tried pn xe) p_ σ H s->qae X.s₀.heap s.heap H a C od T->(∀p∈pn,p.1≠a/\p.1≠T)->R σ C od H->xe (.ref a) s
def qah(sp:Sp)(R:St->Addr->Option Addr->Hp->Prop)(t:TA):TE:=λσ H Q=>t σ H λvs H1=>Ra sp vs H1 Q ⟨0⟩ (λv od H'=>∃C,v = .ref C/\R σ C od H')
@[simp ↓] theorem qg_ sp R t σ H Q:qah sp R t σ H Q=t σ H λvs H1=>Ra sp vs H1 Q ⟨0⟩ (λv od H'=>∃C,v = .ref C/\R σ C od H'):=rfl
theorem qai{k:Nat}{f:Addr}{fd:FuncData}{ps:QAH}{sp:Sp}{x:Str}{p pos:Pos}{e:Expr}{es:List Expr}{t:TA}{pn:QAC}{xe:QAB}{R:St->Addr->Option Addr->Hp->Prop}
  (hx:Takes X pn xe R) (hex:X.ex=[]) (F:bV X.prog X.w X.K X.mg X.base (Wz X.prog X.w) k f fd ps sp) (hr:fL k X.A) (hg:Gl X x) (hm:X.mg x=some (.ref f)) (hk:W.keepIn X.K (.ref f)=true) (hb:Binds X.K fd ps [])
  (ha:PA (X.tried pn xe) (e::es) t) (hdb:(x == ("__debug__" : Str))=false:=by decide) (he:starEach (e::es) X.env=(false,eval e X.env)::starEach es X.env:=by rfl) (hpl:(backTo pos (starEach es X.env)).any (·.1)=false:=by rfl) :
  PE (X.tried pn xe) (.Call (.Name x p) (e::es) [] pos) (qah sp R t):=by
 intro p_ s σ H Q I h;refine qm6 (m8 I hg hm ?_ hdb);refine W.callWith_K (h₀:=X.base) I.ok.mod.Mh hk (cT (ha pos p_ s σ H _ I h) λus s1 zz=>?_) he hpl;obtain⟨vs,H1,I1,r,q⟩:=zz;refine⟨I1.oU,?_⟩;have hl:us.length=ps.length:=by rw[<- r.length];exact F.len _ _ _ _ q
 have hbd:=hb s1 us I1.oU (by rw[qmz];exact hl);rw[qmz] at hbd;refine qn2 (qnc (F.run X.A X.stack s1 H1 ⟨us,[]⟩ us vs Q _ hr I1.env0 hbd r q) λrr s' hq=>?_);cases rr with
 |error e=>
  obtain⟨a,C,od,H',rfl,ho,hgn,un,hok,⟨T,ex⟩,C',e2,hR⟩:=hq;cases e2;have I':Inv (X.tried pn xe) p_ σ H' s':=I1.call' (ch:=[]) ho un hok hgn λb z=>(nomatch z);have old:∀b,s1.heap.get? b=none->X.s₀.heap.get? b=none:=λb z=>I1.old hex z;refine hx p_ σ H' s' a C od T I' ⟨old _ ex.new,old _ ex.newT,ex.un,ex.unT,ex.ob⟩ (λp hp=>?_) hR;have e1:=(I1.pin p (qmt _ hp)).1;exact⟨λz=>(by rw[z,ex.new] at e1;cases e1),λz=>(by rw[z,ex.newT] at e1;cases e1)⟩
 |ok fl=>
  cases fl with
  |ret u=>exact I1.after hq
  |next=>exact False.elim hq
  |brk=>exact False.elim hq
  |cont=>exact False.elim hq
def Kf(x C:Addr)(od:Option Addr)(h:Heap):Prop:=∃ox vs,h.get? x=some ox/\(ox.cls,ox.dict)=(Value.ref C,od)/\ox.data = .fields vs/\vs[2]? = some .none
theorem Kf.at{x C:Addr}{od:Option Addr}{h:Heap}(e:Kf x C od h):mW x C h:=by
 obtain⟨ox,vs,h1,h2,h3,h4⟩:=e;exact⟨ox,vs,h1,qmA Prod.fst h2,h3⟩
def Dq(a C:Addr)(od:Option Addr):HO:=.ext λh=>Kf a C od h
def uE(K:W.Frag)(C:Addr):Prop:=∀h,K.In h->∃bm N nm q bs hdct sn sub ab col dd k0 k1 k2 k3 k5,h.get? C=some (excClassObj nm q C N bs bm hdct sn sub ab col dd k0 k1 k2 k3 k5 "ValueError.__new__")/\∀v b,W.mroIn K C v=some b->(Value.ref C::bm).contains v=b
theorem uE.of{K:W.Frag}{C:Addr}(c:wK K C):uE K C:=λh X=>by
 obtain⟨bm,N,nm,q,bs,hdct,sn,sub,ab,col,dd,k0,k1,k2,k3,k5,mN,hC,_,_,_,hmro⟩:=BX X c;exact⟨bm,N,nm,q,bs,hdct,sn,sub,ab,col,dd,k0,k1,k2,k3,k5,hC,hmro⟩
theorem Inv.track{a C:Addr}{od:Option Addr}(I:Inv X p_ σ H s)(hex:X.ex=[])(new:X.s₀.heap.get? a=none)(un:H a=none)(e:Kf a C od s.heap)(hp:∀p∈X.pn++p_,p.1≠a):Inv X p_ σ (upd H a (Dq a C od)) s:=by
 have nf:∀{b o},s.heap.get? b=some o->(∀vs,o.data≠.fields vs)->b≠a:=λ{b o} eb hd z=>by
  subst z;obtain⟨ox,vs,h1,_,h3,_⟩:=e;rw[eb] at h1;cases h1;exact hd vs h3
 have T8:∀b:Addr,b∉X.ex:=λb=>by rw[hex];simp
 have old:∀{b o},X.s₀.heap.get? b=some o->b≠a:=λ{b o} eb z=>by
  rw[z,new] at eb;cases eb
 have ne:∀{b:Addr}{u:HO},H b=some u->b≠a:=λ{b u} q z=>by
  rw[z,un] at q;cases q
 refine⟨I.ok,I.os,I.bare,⟨λb o eb n hb hx=>I.base.keep b o eb n hb hx,I.base.slot,λb o eb n hx=>?_,I.base.there,λb xs q=>?_,λb o u q=>?_,λb ps q=>?_⟩,I.loc,I.cell,?_,λx c q=>?_,λp hpp=>?_,λb u q=>?_,I.len⟩
 ·rw[aD (old eb)];exact I.base.free b o eb n hx
 ·have z:=I.base.tups b xs q;rw[aD (ne z)];exact z
 ·have z:=I.base.tM b o u q;rw[aD (ne z)];exact z
 ·obtain⟨m,z⟩:=I.base.tO b ps q;exact⟨m,by rw[aD (ne z)];exact z⟩
 ·obtain⟨m,⟨o,es,ep,eo,d,r⟩,_⟩:=I.loc;rw[aD (nf eo λvs y=>by rw[d] at y;cases y)];exact I.free
 ·obtain⟨v,o,eo,d⟩:=I.cell x c q;rw[aD (nf eo λvs y=>by rw[d] at y;cases y)];exact I.iW x c q
 ·obtain⟨f1,f2,f3⟩:=I.pin p hpp;refine⟨f1,?_,f3⟩;rw[aD (hp p hpp)];exact f2
 ·by_cases hb:b=a
  ·subst hb;rw[ak] at q;cases q;obtain⟨ox,vs,h1,h2,h3,_⟩:=id e;exact⟨e,⟨ox,h1⟩,λh1 h2 ⟨ox,vs,a1,a2,a3⟩ k=>⟨ox,vs,k _ a1,a2,a3⟩⟩
  ·rw[aD hb] at q;refine(I.hok b u q).stay (λc v _ z=>z) (λc z=>?_) λc xs z=>?_
   ·rw[aD (ne z)];exact z
   ·rw[aD (ne z)];exact z
theorem WM{M:Model}{A:Around}{E:QAB}{i:Nat}{n:Str}{v:V}{Q:Unit->Shared->Prop}(I:Inv X p_ σ H s)(hN:X.N.Nodup)(hi:X.N[i]? = some n)(hl:X.env.scope.names.lookup n=some .local)(hv:σ[i]? = some (some v))
  (h:∀s',Inv X p_ (σ.set i none) H s'->Q () s'):wpAny M A (unbindName X.env n) Q E s:=by
 obtain⟨m,hn,q⟩:=id I.loc;obtain⟨u,rv,l⟩:=q i n v hi hv (.inl hl);have hm:m n=some u:=by
  rcases l with⟨_,l⟩|⟨k,c,_⟩
  ·exact l
  ·rcases k with k|k
   ·have:X.env.kindOf n=some .local:=hl;rw[k] at this;cases this
   ·have:X.env.kindOf n=some .local:=hl;rw[k] at this;cases this
 have hcls:(X.env.scope.kind == .class || (X.env.scope.kind == .module && X.env.locals != X.env.globals))=false:=by rw[I.ok.kind];rfl
 have hiσ:i<σ.length:=by rw[I.len];exact(ql2.mp hi).1
 refine wpAny_unbindName_local hl hn hm hcls λh' u' hn' hs=>?_;obtain⟨oL,_,_,hoL,_⟩:=id hn;have loc:∀b o,X.s₀.heap.get? b=some o->b≠X.env.locals:=λb o e=>qmg (qmf (ql8 e) I.ok.above);refine h _ ⟨I.ok,I.os,I.bare,⟨λb o e n hb hx=>?_,λb o e n hb hx=>?_,I.base.free,λb o e hx=>?_,I.base.tups,I.base.tM,I.base.tO⟩,⟨_,hn',λj y v' e1 e2 e3=>?_⟩,λy c e=>?_,I.free,I.iW,λp hp=>?_,λb ob e=>?_,by simpa using I.len⟩
 ·exact(hs.2 b (loc b o e)).trans (I.base.keep b o e n hb hx)
 ·obtain⟨sl,z⟩:=I.base.slot b o e n hb hx;exact⟨sl,(hs.2 b (loc b o e)).trans z⟩
 ·obtain⟨o',z⟩:=I.base.there b o e hx;exact⟨o',(hs.2 b (loc b o e)).trans z⟩
 ·have hj:j≠i:=λz=>by
   subst z;rw[qod hiσ] at e2;cases e2
  rw[List.getElem?_set_ne (qnF hj)] at e2;obtain⟨u2,r2,l2⟩:=q j y v' e1 e2 e3;refine⟨u2,r2,?_⟩
  rcases l2 with⟨k,e⟩|⟨k,c,e,z⟩
  ·have:y≠n:=λe=>hj (Cw hN e1 (e▸hi));exact .inl ⟨k,by simp[this,e]⟩
  ·exact .inr ⟨k,c,e,z.sameBut hs (I.cne y c e)⟩
 ·obtain⟨w',z⟩:=I.cell y c e;exact⟨w',z.sameBut hs (I.cne y c e)⟩
 ·obtain⟨e,n,ne,nf,d⟩:=I.pin p hp;exact⟨(hs.2 p.1 ne).trans e,n,ne,nf,d⟩
 ·have no:∀{c:Addr}{u:HO},H c=some u->c≠X.env.locals:=λ{c u} q z=>by
   rw[z,I.free] at q;cases q
  refine(I.hok b ob e).stay (λc w' hc q=>(hs.2 c ?_).trans q) (λ_ q=>q) λ_ _ q=>q
  rcases hc with rfl|hc
  ·exact no e
  ·exact no hc
end
section
variable {M:Model}{A:Around}{E:QAB}{h:Heap}{g:Array GenState}{d:Drawn}{t:Nat}{os:OsState}
variable {nm q:Str}{C N:Addr}{bs bm:QAE}{hdct:Bool}{sn:QAH}{sub:QAE}{ab:Bool}{col:Option Bool}{dd:Option Addr}{k0 k1 k2 k3 k5:QAG}{newId:String}
variable {nm' q':Str}{D N':Addr}{bs' bm':QAE}{qdA:Bool}{sn':QAH}{sub':QAE}{ab':Bool}{col':Option Bool}{dd':Option Addr}{j0 j1 j2 j3 j5:QAG}{newId':String}
theorem WQ{e:Addr}{oe:Obj}{Q:Bool->Shared->Prop}(hC:h.get? C=some (excClassObj nm q C N bs bm hdct sn sub ab col dd k0 k1 k2 k3 k5 newId))
  (hD:h.get? D=some (excClassObj nm' q' D N' bs' bm' qdA sn' sub' ab' col' dd' j0 j1 j2 j3 j5 newId')) (he:h.get? e=some oe) (hcls:oe.cls = .ref C) (hbase:bm'.contains (.type "BaseException")=true) (hin:bm.contains (.ref D)=true)
  (hq:Q true ⟨h,g,d,t,os⟩):wpAny M A (excMatches (.ref e) (.ref D)) Q E ⟨h,g,d,t,os⟩:=by
 have hDB:(Value.ref D::bm').contains (.type "BaseException")=true:=by rw[List.contains_cons,hbase,Bool.or_true]
 have hCD:(Value.ref C::bm).contains (.ref D)=true:=by rw[List.contains_cons,hin,Bool.or_true]
 have f:=tc_notTuple;unfold excMatches
 repeat (first|(with_reducible refine qnH he ?_;rw[hcls])|with_reducible refine qnH hD ?_|(with_reducible refine wpAny_isSubtype_exc hD ?_;rw[hDB])|(with_reducible refine wpAny_isSubtype_exc hC ?_;rw[hCD])|wp_step)
 exact hq
end
def qaj(i:Nat)(K:W.Frag)(D:Addr)(ts:Addr->TS)(Dn:Ends):St->Addr->Option Addr->Hp->Prop:=λσ1 C od H1=>(uE K C/\W.mroIn K C (.ref D)=some true/\C≠D)/\∀a,H1 a=none->
  ts a {nx:=λσ2 H2=>Dn.nx (σ2.set i none) H2,rt:=Dn.rt,bk:=λσ2 H2=>Dn.bk (σ2.set i none) H2,ct:=λσ2 H2=>Dn.ct (σ2.set i none) H2} (σ1.set i (some (.ref a))) (upd H1 a (Dq a C od))
def qha(i:Nat)(K:W.Frag)(D:Addr)(ts:Addr->TS)(tb:(St->Addr->Option Addr->Hp->Prop)->TS):TS:=λDn σ H=>tb (qaj i K D ts Dn) Dn σ H
section
variable {X:Cx}{body suite:List Stmt}{b₀:Stmt}{i:Nat}{n cls:Str}{np hpos pos:Pos}{D:Addr}{ts:Addr->TS}{tb:(St->Addr->Option Addr->Hp->Prop)->TS}
theorem qfa(hst:X.stack=X.env::X.outer)(hfr:X.env.frame=some X.env.locals)(hex:X.ex=[])(hN:X.N.Nodup)(hi:X.N[i]? = some n)(hl:X.env.scope.names.lookup n=some .local)
  (hb:∀R pn xe,Takes X pn xe R->Ge (X.tried pn xe) body (tb R)) (hg:Gl X cls) (hm:X.mg cls=some (.ref D)) (clD:wK X.K D) (hsu:∀a,Ge (X.caught a) (b₀::suite) (ts a))
  (hdb:(cls == ("__debug__" : Str))=false:=by decide) :
  PS X (.Try body [.ExceptHandler (some (.Name cls np)) (some n) (b₀::suite) hpos] [] [] pos) (qha i X.K D ts tb):=by
 intro p_ s σ H Dn I h;have hiσ:∀{σ':St}{H':Hp}{s':Shared},Inv X p_ σ' H' s'->i<σ'.length:=λJ=>by rw[J.len];exact(ql2.mp hi).1
 refine wpAny_Try_except (qmV (hb (qaj i X.K D ts Dn) (X.pn++p_) (λe s1=>∃a C od T σ1 H1,e = .ref a/\Inv X p_ σ1 H1 s1/\qae X.s₀.heap s1.heap H1 a C od T/\(∀p∈X.pn++p_,p.1≠a/\p.1≠T)/\qaj i X.K D ts Dn σ1 C od H1) ?_ [] s σ H Dn (I.tried _) h) (λf s1 hf=>?_) λe s1 hx=>?_)
 ·intro Cv σ1 H1 s1 a C od T J ex hp hR;exact⟨a,C,od,T,σ1,H1,rfl,I.yO J,ex,hp,hR⟩
 ·cases f with
  |next=>obtain⟨σ',H',J,q⟩:=hf;exact wpAny_execs_nil ⟨σ',H',I.yO J,q⟩
  |brk=>obtain⟨σ',H',J,q⟩:=hf;exact⟨σ',H',I.yO J,q⟩
  |cont=>obtain⟨σ',H',J,q⟩:=hf;exact⟨σ',H',I.yO J,q⟩
  |ret u=>obtain⟨v,σ',H',J,r,q⟩:=hf;exact⟨v,σ',H',I.yO J,r,q⟩
 ·obtain⟨a,C,od,T,σ1,H1,rfl,J,ex,hp,⟨clC,hCD,hne⟩,hR⟩:=hx;obtain⟨new,newT,un,unT,oe,vs,oT,tts,t1,t2,t3,t4,t5,t6,t7,t8,t9⟩:=ex;have fr:=J.ok.frames;rw[hst] at fr;have st0:(W.hideAll s1.heap (frs X.stack++[a,T])).StaysIn s1.heap:=λb o e=>W.of_hideAll _ e;have na:(W.hideAll s1.heap (frs X.stack++[a,T])).get? a=none:=qor _ (by simp);have ff:s1.heap.FunFrames (W.hideAll s1.heap (frs X.stack++[a,T])) (X.env::X.outer):=by
   rw[<- hst];exact W.funFrames_hide J.stack λenv he b hb=>qmt _ (List.mem_filterMap.mpr ⟨env,he,hb⟩)
  have tr0:Trc (W.hideAll s1.heap (frs X.stack++[a,T])) s1.heap a (.ref C,od) .none T:=⟨oe,vs,oT,tts,t1,t2,t3,t4,t5,qor _ (by simp),t6,t7,t8,t9⟩;have gone:∀(h':Heap),(W.hideAll s1.heap (frs X.stack++[a,T])).StaysIn h'->s1.heap.UpToSlots h'->Inv X p_ σ1 H1 {s1 with heap:=h'}:=λh' k1 k2=>by
   refine J.gone (t':=s1.toks) (ch:=[a,T]) hex (λb hb=>?_) (λb o hf hc e=>k1 b o (W.hideAll_get _ e (by rw[qmm];exact λz=>z.elim hf hc))) λb o e hd=>k2 b o e hd;simp only[qmd,qmF,qnz] at hb
   rcases hb with rfl|rfl
   ·exact⟨new,un,λ_ _ _ _=>trivial,⟨oe,vs,t1,t3⟩,λp q=>(hp p q).1⟩
   ·exact⟨newT,unT,λ_ _ _ _=>trivial,⟨oT,tts,t7,t8⟩,λp q=>(hp p q).2⟩
  refine HN fr ff hfr tr0 st0 na λh4 x4=>?_;obtain⟨T4,tr4⟩:=x4.trc;refine Dm (s:={s1 with heap:=h4}) x4.frames tr4 x4.stays λh5 x5=>?_;obtain⟨T5,tr5⟩:=x5.trc;have J5:=gone h5 x5.stays (x4.slots.trans x5.slots);refine wpAny_handleBy_cons (codeAny_handlers_test (m8 (J5.caught a) hg hm ?_ hdb)) (by intro q;cases q);obtain⟨oe5,vs5,oT5,ts5,u1,u2,u3,_⟩:=id tr5;obtain⟨bm,N,nm,q,bs,hdct,sn,sub,ab,col,dd,k0,k1,k2,k3,k5,hC,hmro⟩:=clC _ J5.oU;obtain⟨bm',N',nm',q',bs',qdA,sn',sub',ab',col',dd',j0,j1,j2,j3,j5,mN',hD,qlT,qlU,T0',_⟩:=BX J5.oU clD;have hin:bm.contains (.ref D)=true:=by
   have z:=hmro _ _ hCD;rw[List.contains_cons] at z
   rcases Bool.or_eq_true_iff.mp z with z|z
   ·exact absurd (Value.ref.inj (qn1.mp z)).symm hne
   ·exact z
  refine WQ hC hD u1 (qmA Prod.fst u2) (T0'.hasType (by decide)) hin ?_;refine codeAny_handlers_suite_as ?_;refine Dm (s:={s1 with heap:=h5}) x5.frames tr5 x5.stays λh6 x6=>?_;have J6:=gone h6 x6.stays ((x4.slots.trans x5.slots).trans x6.slots);obtain⟨T6,oe6,vs6,oT6,ts6,v1,v2,v3,v4,_⟩:=x6.trc;have J7:=J6.track hex new un ⟨oe6,vs6,v1,v2,v3,v4⟩ λp q=>(hp p q).1;refine u9 J7 hN hi (.inl hl) (v:=.ref a) rfl (λs8 J8 _=>?_) (.inr hl);refine qmV (hsu a p_ s8 _ _ _ (J8.caught a) (hR a un)) (λf s9 hf=>?_) λ_ _ z=>False.elim z;show wpAny (model X.prog X.w) X.A (do bindName X.env n .none;unbindBehindTheSuite X.env n hpos) (λ_ s₃=>SP X p_ Dn f s₃) X.xe s9
  have go:∀{σ':St}{H':Hp}(Q':Shared->Prop),Inv X p_ σ' H' s9->(∀s',Inv X p_ (σ'.set i none) H' s'->Q' s')->wpAny (model X.prog X.w) X.A (do bindName X.env n .none;unbindBehindTheSuite X.env n hpos) (λ_ s₃=>Q' s₃) X.xe s9:=λ{σ' H'} Q' J9 hq=>by
   refine ql3 ?_;unfold bindName;refine ql3 (qni (wpAny_point (ql3 (u9 J9 hN hi (.inl hl) (v:=.non) rfl (λs10 J10 _=>wpAny_point ?_) (.inr hl)))));unfold unbindBehindTheSuite;refine wpAny_onRaise (WM (v:=.non) J10 hN hi hl (qod (hiσ J9)) λs11 J11=>?_);rw[List.set_set] at J11;exact hq s11 J11
  cases f with
  |next=>obtain⟨σ',H',J9,q⟩:=hf;exact go _ (I.uncaught J9) λs' J'=>⟨_,H',J',q⟩
  |brk=>obtain⟨σ',H',J9,q⟩:=hf;exact go _ (I.uncaught J9) λs' J'=>⟨_,H',J',q⟩
  |cont=>obtain⟨σ',H',J9,q⟩:=hf;exact go _ (I.uncaught J9) λs' J'=>⟨_,H',J',q⟩
  |ret u=>obtain⟨v,σ',H',J9,r,q⟩:=hf;exact go _ (I.uncaught J9) λs' J'=>⟨v,_,H',J',r,q⟩
end
section
variable {X:Cx}{p_:QAC}{σ:St}{H:Hp}{s:Shared}{a:Addr}
end
structure UG(P:Program)(w:World)(K:W.Frag)(mg:Str->Option Value)(base:Heap)(k:Nat)(f:Addr)(fd:FuncData)(ps:QAH)(sp:Addr->Sp):Prop where
 len:∀a vs H Q E,sp a vs H Q E->vs.length=ps.length
 run:∀(a:Addr)(A:Around)(outer:List Env)(s:Shared)(H:Hp)(args:Args)(us:QAE)(vs:List V)(Q:VK),fL k A->Br P w K mg base A outer s H->BindsTo s fd args (ps.zip us)->Vals vs us->sp a vs H Q E0->
  codeAny (model P w) (A.mark (some (.ref a))) (.call (.ref f) args) (CR i_ outer P w H s Q E0) s
theorem dj.okH{P:Program}{w:World}{K:W.Frag}{mg:Str->Option Value}{base:Heap}{x qual:Str}{st:Stmt}{f:Addr}{fd:FuncData}{N ps:QAH}{k:Nat}{sp:Addr->Sp}(F:dj K x qual st f fd)(S:aQ N ps (aB st))(len:∀a vs H Q E,sp a vs H Q E->vs.length=ps.length)
  (hbody:∀(a:Addr)(cdv:Value)(A:Around)(outer:List Env)(s:Shared)(H:Hp)(vs:List V)(Q:VK),fL k (A.deeper (envOfC qual (aB st) s.heap.objs.size f cdv))->sp a vs H Q E0->
   ∃t,Ge ((au i_ P w K mg base N qual (aB st) f cdv A outer s H E0).caught a) (gj st) t/\t {nx:=λ_ H'=>Q .non H',rt:=Q} (start N vs) H):UG P w K mg base (k+1) f fd ps sp:=by
 obtain⟨oc,od,kV,doc,pm,an,cdv,ct,osl,rfl,lk,hcd⟩:=F.ex;refine⟨len,λa A outer s H args us vs Q hr e0 hb r hsp=>?_⟩;have hl:=len _ _ _ _ _ hsp;have KX:K.In s.heap:=e0.mod.Mh.keeps λb o e=>(e0.bs b o e).1;have lim:s.heap.NoLimit:=e0.mod.nolimit.keeps λb o e=>(e0.bs b o e).1;have hkind:∀y∈ps.zip us,(aB st).names.lookup y.1=some .local\/((aB st).names.lookup y.1=some .cell/\((cellsFrom (s.heap.objs.size+1) (aB st).names []).lookup y.1).isSome=true):=λ⟨n,v⟩ hy=>by
  rcases S.par n (List.of_mem_zip hy).1 with q|q
  ·exact .inl q
  ·exact .inr ⟨q,W.cellsFrom_some _ _ _ (.inl q)⟩
 refine codeAny_call_function (A:=A.mark (some (.ref a))) hr.depth (KX _ _ lk) rfl S.co S.gen rfl (W.codeRec_of KX hcd) (hb _ _ _ _ ?_);refine wpAny_newFunctionEnv_cells S.kind hkind λenv he s1 x=>?_;subst he;refine⟨lim.keeps x.toInCall.keep,codeAny_func ?_⟩;obtain⟨t,ht,hq⟩:=hbody a cdv A outer s H vs Q (hr.deeper _) hsp;have I:Inv (au i_ P w K mg base N qual (aB st) f cdv A outer s H E0) [] (start N vs) H s1:=zx S hr.hd e0 hl r x;refine qmV (ht [] s1 (start N vs) H _ (I.caught a) hq) (λfl s' hs=>?_) λe s' hs=>hs.elim;have fin:∀{σ':St}{H':Hp}{v:V}{u:Value},Inv ((au i_ P w K mg base N qual (aB st) f cdv A outer s H E0).caught a) [] σ' H' s'->RelV v u->Q v H'->CE outer P w H s Q u s':=
  λ{σ' H' v u} J rv q=>⟨v,H',J.os,J.bare,J.base,J.hok,rv,q⟩
 cases fl with
 |ret u=>
  obtain⟨v,σ',H',J,rv,q⟩:=hs;exact fin J rv q
 |next=>
  obtain⟨σ',H',J,q⟩:=hs;exact fin (v:=V.non) (u:=Value.none) J rfl q
 |brk=>obtain⟨σ',H',J,q⟩:=hs;exact False.elim q
 |cont=>obtain⟨σ',H',J,q⟩:=hs;exact False.elim q
section
variable {X:Cx}{a:Addr}
def Rv(sp:Sp)(t:TA):TE:=λσ H Q=>t σ H λvs H1=>Ra sp vs H1 Q ⟨0⟩ E0
@[simp ↓] theorem qhb sp t σ H Q:Rv sp t σ H Q=t σ H λvs H1=>Ra sp vs H1 Q ⟨0⟩ E0:=rfl
theorem qak{k:Nat}{f:Addr}{fd:FuncData}{ps:QAH}{sp:Addr->Sp}{x:Str}{p pos:Pos}{e:Expr}{es:List Expr}{t:TA}
  (F:UG X.prog X.w X.K X.mg X.base k f fd ps sp) (hr:fL k X.A) (hg:Gl X x) (hm:X.mg x=some (.ref f)) (hk:W.keepIn X.K (.ref f)=true) (hb:Binds X.K fd ps [])
  (ha:PA (X.caught a) (e::es) t) (hdb:(x == ("__debug__" : Str))=false:=by decide) (he:starEach (e::es) X.env=(false,eval e X.env)::starEach es X.env:=by rfl) (hpl:(backTo pos (starEach es X.env)).any (·.1)=false:=by rfl) :
  PE (X.caught a) (.Call (.Name x p) (e::es) [] pos) (Rv (sp a) t):=by
 intro p_ s σ H Q I h;refine qm6 (m8 I hg hm ?_ hdb);refine W.callWith_K (h₀:=X.base) I.ok.mod.Mh hk (cT (ha pos p_ s σ H _ I h) λus s1 zz=>?_) he hpl;obtain⟨vs,H1,I1,r,q⟩:=zz;refine⟨I1.oU,?_⟩;have hl:us.length=ps.length:=by rw[<- r.length];exact F.len _ _ _ _ _ q
 have hbd:=hb s1 us I1.oU (by rw[qmz];exact hl);rw[qmz] at hbd;have e0:=I1.env0;refine qn2 (qnc (F.run a X.A X.stack s1 H1 ⟨us,[]⟩ us vs Q hr ⟨e0.frames,e0.mod,e0.bs,e0.TY,e0.tQ,e0.X8,e0.hok,e0.bare⟩ hbd r q) λrr s' hq=>?_);cases rr with
 |error e=>exact hq.elim
 |ok fl=>
  cases fl with
  |ret u=>exact I1.after hq
  |next=>exact False.elim hq
  |brk=>exact False.elim hq
  |cont=>exact False.elim hq
end
def zN(K:W.Frag)(C:Addr):Prop:=rK K C/\∃cd,W.clsIn K C=some cd
def N8(K:W.Frag)(C:Addr):V->Option Bool
 |.ref D=>W.kitOne K (.ref C) (.ref D)
 |.ty n=>W.kitOne K (.ref C) (.type n)
 |_=>none
theorem dj.qcw{P:Program}{w:World}{K:W.Frag}{mg:Str->Option Value}{base:Heap}{x qual:Str}{st:Stmt}{f:Addr}{fd:FuncData}{N ps:QAH}{k:Nat}{sp:Sp}(F:dj K x qual st f fd)(S:aQ N ps (aB st))(len:∀vs H Q E,sp vs H Q E->vs.length=ps.length)
  (hbody:∀(cdv:Value)(A:Around)(outer:List Env)(s:Shared)(H:Hp)(vs:List V)(Q:VK)(E:XK),fL k (A.deeper (envOfC qual (aB st) s.heap.objs.size f cdv))->sp vs H Q E->
   ∃t,Ge (au (Wz P w) P w K mg base N qual (aB st) f cdv A outer s H E) (gj st) t/\t {nx:=λ_ H'=>Q .non H',rt:=Q} (jT N vs) H):bV P w K mg base (Wz P w) (k+1) f fd ps sp:=by
 refine F.okE S len λcdv A outer s H vs Q E hr h=>?_;obtain⟨t,h1,h2⟩:=hbody cdv A outer s H vs Q E hr h;refine⟨t,h1,?_⟩;have hl:=len _ _ _ _ h;have hp:ps.length<=N.length:=by have:=qmA List.length S.pre;rw[qmk] at this;omega
 rw[nH N vs (by omega)] at h2;exact h2
theorem dj.qkI{P:Program}{w:World}{K:W.Frag}{mg:Str->Option Value}{base:Heap}{x qual:Str}{st:Stmt}{f:Addr}{fd:FuncData}{N ps:QAH}{k:Nat}{sp:Addr->Sp}(F:dj K x qual st f fd)(S:aQ N ps (aB st))(len:∀a vs H Q E,sp a vs H Q E->vs.length=ps.length)
  (hbody:∀(a:Addr)(cdv:Value)(A:Around)(outer:List Env)(s:Shared)(H:Hp)(vs:List V)(Q:VK),fL k (A.deeper (envOfC qual (aB st) s.heap.objs.size f cdv))->sp a vs H Q E0->
   ∃t,Ge ((au i_ P w K mg base N qual (aB st) f cdv A outer s H E0).caught a) (gj st) t/\t {nx:=λ_ H'=>Q .non H',rt:=Q} (jT N vs) H):UG P w K mg base (k+1) f fd ps sp:=by
 refine F.okH S len λa cdv A outer s H vs Q hr h=>?_;obtain⟨t,h1,h2⟩:=hbody a cdv A outer s H vs Q hr h;refine⟨t,h1,?_⟩;have hl:=len _ _ _ _ _ h;have hp:ps.length<=N.length:=by have:=qmA List.length S.pre;rw[qmk] at this;omega
 rw[nH N vs (by omega)] at h2;exact h2
@[simp ↓] theorem qkJ i K D ts tb Dn σ H:qha i K D ts tb Dn σ H=tb (qaj i K D ts Dn) Dn σ H:=rfl
theorem qcx:bootBuiltins "ValueError" = some (.type "ValueError"):=by decide+kernel
inductive Lf:V->PyData->Prop
 |non:Lf .non .none
 |bl (b):Lf (.bl b) (.bool b)
 |int (i):Lf (.int i) (.int i)
 |str (x):Lf (.str x) (.str x)
inductive Dr:List (Str×V)->List (PyData×PyData)->Prop
 |nil:Dr [] []
 |cons {x v d ks kvs}:Lf v d->Dr ks kvs->Dr ((x,v)::ks) ((.str x,d)::kvs)
section
variable {X:Cx}{p_:QAC}{σ:St}{H:Hp}{s:Shared}
theorem Lf.reads{v:V}{d:PyData}{u:Value}{h:Heap}(l:Lf v d)(r:RelV v u):Reads h u d []:=by
 cases l with
 |non=>cases r;exact .none
 |bl b=>cases r;exact .bool b
 |int i=>obtain⟨t,rfl⟩:=r;exact .int i t
 |str x=>obtain⟨t,rfl⟩:=r;exact .str x t
theorem N_{P:Program}{w:World}{h:Heap}:∀{ks:List (Str×V)}{kvs:List (PyData×PyData)}{vs:List (Key×Value)}{es:List DictEntry},Dr ks kvs->KV (ks.map λe=>((Sum.inr e.1:Key),e.2)) vs->Pairs (bM P w) es vs->
  ReadsAll h (es.map (·.key)) (kvs.map (·.1)) []/\ReadsAll h (es.map (·.val)) (kvs.map (·.2)) []
 |_,_,_,_,.nil,kv,ps=>by
  cases kv;cases ps;exact⟨.nil,.nil⟩
 |_,_,_,_,.cons l ls,kv,ps=>by
  cases kv with
  |cons r rs=>
   cases ps with
   |cons h1 h2 h3=>
    obtain⟨i1,i2⟩:=N_ (h:=h) ls rs h3;obtain⟨r1,r2⟩:=r;simp only at r1 r2;rw[<- r1] at h1;rw[Qv] at h1
    rcases dh h1 with⟨i,t,e,_⟩|⟨x,t,e,ek⟩
    ·cases e
    ·cases e;simp only[qmG];rw[ek,h2];exact⟨.cons (.str _ t) i1,.cons (l.reads r2) i2⟩
theorem Av{P:Program}{w:World}{h:Heap}{a:Addr}{ks:List (Str×V)}{kvs:List (PyData×PyData)}(ok:tD P w H h)(l:Dr ks kvs)(e:H a=some (.dK (ks.map λe=>((Sum.inr e.1:Key),e.2)))):Reads h (.ref a) (.dict kvs) [a]/\(a == sysModules)=false:=by
 obtain⟨_,hd,vs,kv,o,es,ep,h1,h2,h3,_,h5,_⟩:=Um ok e;refine⟨?_,hd⟩;obtain⟨r1,r2⟩:=N_ (h:=h) l kv h5;exact Reads.dict (as:=[]) (bs:=[]) h1 h2.1 h3 r1 r2
inductive Shw(H:Hp):PyData->V->Prop
 |thg {d v}:bU H d v->d.hasDict=false->Shw H d v
 |dic {a ks kvs}:Dr ks kvs->H a=some (.dK (ks.map λe=>((Sum.inr e.1:Key),e.2)))->Shw H (.dict kvs) (.ref a)
def Rw:List V->Hp->VK->Prop:=λxs H Q=>ar1 xs λv=>∃d:PyData,Shw H d v/\d.showable=true/\d.depth<=32/\d.shown.length<=sizeLine/\Q (.str d.shown) H
@[simp ↓] theorem qhc xs H Q:Rw xs H Q=(ar1 xs λv=>∃d:PyData,Shw H d v/\d.showable=true/\d.depth<=32/\d.shown.length<=sizeLine/\Q (.str d.shown) H):=rfl
theorem Oa(hg:X.A.guards=some [])(hu:X.A.units+64<cLine):cg X (.builtin "repr") Rw:=by
 intro p_ s σ H xs us Q I r h;obtain⟨v,rfl,d,hs,h1,h2,h3,q⟩:=ar1.out h;cases hs with
 |thg ht hd=>exact N5 hg hu p_ s σ H [v] us Q I r (show Dk [v] H Q from⟨d,ht,.inl (.inl hd),h1,h2,h3,q⟩)
 |dic hl he=>
  rename_i a ks kvs;obtain⟨u,rfl,ru⟩:=r.one;cases ru;obtain⟨ra,hd⟩:=Av I.hok hl he;refine repr_of_reads' (h₀:=s.heap) ra h1 (λ_ hm=>?_) hg (by omega) (λ_ _ e=>e) (λh' u tk hk=>⟨.str _,H,I.kept (t':=tk) hk,⟨u,rfl⟩,q⟩) h3;rw[qmH] at hm;rw[<- hm] at hd;simp at hd
end
structure tK(k n:Nat)(d:PyData):Prop where
 sh:d.showable=true
 dp:d.depth<=k
 ln:d.shown.length<=n
theorem tK.mono{k n k' n':Nat}{d:PyData}(h:tK k n d)(hk:k<=k')(hn:n<=n'):tK k' n' d:=⟨h.sh,qme h.dp hk,qme h.ln hn⟩
theorem Kg{k n:Nat}:∀{ds:List PyData},(∀c∈ds,tK k n c)->PyData.showableAll ds=true/\PyData.depthAll ds<=k/\(PyData.shownAll ds).length=ds.length/\((PyData.shownAll ds).map (·.length)).sum<=n * ds.length
 |[],_=>by simp[PyData.showableAll,PyData.depthAll,PyData.shownAll]
 |c::ds,h=>by
  obtain⟨h1,h2,h3⟩:=h c qmr;obtain⟨i1,i2,i3,i4⟩:=Kg λe he=>h e (qmp _ he);simp only[PyData.showableAll,PyData.depthAll,PyData.shownAll,h1,i1,qmq,qmG,List.sum_cons,i3];refine⟨rfl,Nat.max_le.mpr ⟨h2,i2⟩,trivial,?_⟩;rw[Nat.mul_succ];omega
theorem tK.list{k n m:Nat}{ds:List PyData}(h:∀c∈ds,tK k n c)(hl:n * ds.length+2 * ds.length+3<=m):tK (k+1) m (.list ds):=by
 obtain⟨h1,h2,h3,h4⟩:=Kg h;have:=listText_len_le (PyData.shownAll ds);refine⟨by simpa [PyData.showable] using h1,by simp only[PyData.depth];omega,?_⟩;simp only[PyData.shown];omega
theorem tK.tuple{k n m:Nat}{ds:List PyData}(h:∀c∈ds,tK k n c)(hl:n * ds.length+2 * ds.length+3<=m):tK (k+1) m (.tuple ds):=by
 obtain⟨h1,h2,h3,h4⟩:=Kg h;have:=tupleText_len_le (PyData.shownAll ds);refine⟨by simpa [PyData.showable] using h1,by simp only[PyData.depth];omega,?_⟩;simp only[PyData.shown];omega
theorem tK.str{x:Str}{n:Nat}(hx:∀c∈x.cps.toList,c<16 ^ 8)(hn:10 * x.length+2<=n):tK 0 n (.str x):=by
 refine⟨rfl,Nat.le_of_eq rfl,?_⟩;simp only[PyData.shown];exact qme (StrLaws.reprText_len x hx) hn
end L2
namespace L2
open PySem PySem.Spec
section
variable {σ:St}{H:Hp}{p:Addr}
def GD(p:Addr)(t:TE)(σ:St)(H:Hp)(d:PyData):Prop:=∀(H1:Hp)(Q:VK),(∃o,H p=some o)->Same H H1->(∀v H2,Same H1 H2->bU (hid p H2) d v->Q v H2)->t σ H1 Q
def GDs(p:Addr)(t:TA)(σ:St)(H:Hp)(ds:List PyData):Prop:=∀(H1:Hp)(Q:List V->Hp->Prop),(∃o,H p=some o)->Same H H1->(∀vs H2,Same H1 H2->aM (hid p H2) ds vs->Q vs H2)->t σ H1 Q
theorem qm{H1:Hp}{b:Addr}(h:∃o,H p=some o)(s:Same H H1)(hb:H1 b=none):b≠p:=λz=>by
 obtain⟨o,e⟩:=h;have:=s _ _ e;rw[<- z,hb] at this;cases this
theorem pD:GDs p Bq σ H []:=λH1 Q _ _ q=>q [] H1 (Same.refl _) (by simp[aM])
theorem jV{ta:TE}{tr:TA}{d:PyData}{ds:List PyData}(h1:GD p ta σ H d)(h2:GDs p tr σ H ds):GDs p (ud ta tr) σ H (d::ds):=λH1 Q hp s q=>
 h1 H1 _ hp s λv H2 s2 hv=>h2 H2 _ hp (s.trans s2) λvs H3 s3 hvs=>q _ H3 (s2.trans s3) (by simp only[aM];exact⟨v,vs,rfl,bU.same (cG s3) d v hv,hvs⟩)
theorem Dt{t:TA}{ds:List PyData}(h:GDs p t σ H ds)(hl:ds.length<=sizeLine):GD p (YH t) σ H (.list ds):=λH1 Q hp s q=>
 h H1 _ hp s λvs H2 s2 hv=>⟨by rw[<- hv.length];exact hl,λb hb=>q _ _ (s2.trans (aq hb)) (by simp only[bU];exact⟨b,vs,rfl,fJ (qm hp (s.trans s2) hb) ak,aM.same (cG (aq hb)) ds vs hv⟩)⟩
theorem Rx{t:TA}{ds:List PyData}(h:GDs p t σ H ds)(hl:ds.length<=sizeLine):GD p (qem t) σ H (.tuple ds):=λH1 Q hp s q=>
 h H1 _ hp s λvs H2 s2 hv=>⟨by rw[<- hv.length];exact hl,λb hb=>q _ _ (s2.trans (aq hb)) (by simp only[bU];exact⟨b,vs,rfl,fJ (qm hp (s.trans s2) hb) ak,aM.same (cG (aq hb)) ds vs hv⟩)⟩
theorem qal:GD p (tC .non) σ H .none:=λH1 Q _ s q=>q _ H1 (Same.refl _) (by simp[bU])
theorem uF{i:Int}:GD p (tC (.int i)) σ H (.int i):=λH1 Q _ s q=>q _ H1 (Same.refl _) (by simp[bU])
theorem qam{i:Bool}:GD p (tC (.bl i)) σ H (.bool i):=λH1 Q _ s q=>q _ H1 (Same.refl _) (by simp[bU])
theorem qan{i:Str}:GD p (tC (.str i)) σ H (.str i):=λH1 Q _ s q=>q _ H1 (Same.refl _) (by simp[bU])
theorem getSt.of:∀{σ:St}{i:Nat}{v:V}{R:V->Prop},σ[i]? = some (some v)->R v->getSt σ i R
 |[],_,_,_,h,_=>by simp at h
 |o::_,0,v,R,h,r=>by simp at h;subst h;exact r
 |_::σ,n+1,v,R,h,r=>getSt.of (σ:=σ) (i:=n) (by simpa using h) r
theorem Kh{i:Nat}{d:PyData}{v:V}(h:σ[i]? = some (some v))(hv:bU (hid p H) d v):GD p (fVar i) σ H d:=λH1 Q _ s q=>getSt.of h (q v H1 (Same.refl _) (bU.same (cG s) d v hv))
variable {φ:PyData->Prop}
structure big(t:TE)(σ:St)(H:Hp)(Q:VK):Prop where
 out:t σ H Q
theorem qfb{X:Cx}{e:Expr}{t:TE}(h:PE X e t):PE X e (big t):=PE.mono h λh=>h.out
end
end L2
namespace L2
open PySem PySem.Spec PyProof.Rows
section
variable {X:Cx}{K:W.Frag}
end
section
variable {X:Cx}{K:W.Frag}
end
def qhd:Key->PyData
 |.inl i=>.int i
 |.inr x=>.str x
inductive LfT:List (List Key×V)->List (PyData×PyData)->Prop
 |nil:LfT [] []
 |cons {k v d ks kvs}:Lf v d->LfT ks kvs->LfT ((k,v)::ks) ((.tuple (k.map qhd),d)::kvs)
def qhe(H:Hp)(a:Addr)(kvs:List (PyData×PyData)):Prop:=(∃ks,Dr ks kvs/\H a=some (.dK (ks.map λe=>((Sum.inr e.1:Key),e.2))))\/∃ks,LfT ks kvs/\H a=some (.dT ks)
theorem HW{h:Heap}:∀{ks:List Key}{us:QAE},Vals (ks.map kV) us->ReadsAll h us (ks.map qhd) []
 |[],_,r=>by rw[List.map_nil] at r;cases r;exact .nil
 |k::ks,_,r=>by
  rw[qmG] at r;cases r with
  |cons r1 r2=>
   refine ReadsAll.cons (as:=[]) (bs:=[]) ?_ (HW r2);cases k with
   |inl i=>obtain⟨t,rfl⟩:=r1;exact .int i t
   |inr x=>obtain⟨t,rfl⟩:=r1;exact .str x t
theorem HX{P:Program}{w:World}{H:Hp}{h:Heap}(ok:tD P w H h):∀{ks:List (List Key×V)}{kvs:List (PyData×PyData)}{xs:List (List Key×Addr×Value)},LfT ks kvs->KT H ks xs->
  ReadsAll h ((xs.map (entryOfKey (tupleKind (bM P w)))).map (·.key)) (kvs.map (·.1)) []/\ReadsAll h ((xs.map (entryOfKey (tupleKind (bM P w)))).map (·.val)) (kvs.map (·.2)) []
 |_,_,_,.nil,kt=>by
  cases kt;exact⟨.nil,.nil⟩
 |_,_,_,.cons (k:=k) l ls,kt=>by
  cases kt with
  | @cons _ q _ qs r rs=>
   obtain⟨i1,i2⟩:=HX ok ls rs;obtain⟨r1,r2,r3⟩:=r;simp only at r1 r2 r3;obtain⟨_,its,rv,o,h1,h2,n,h3⟩:=(show cD P w H h _ (.tup _) from ok _ _ r2);simp only[qmG];refine⟨ReadsAll.cons (as:=[]) (bs:=[]) ?_ i1,ReadsAll.cons (as:=[]) (bs:=[]) ?_ i2⟩
   ·exact Reads.tuple h1 h2 h3 (by simpa using HW rv)
   ·exact l.reads r3
theorem wL{P:Program}{w:World}{H:Hp}{h:Heap}{a:Addr}{kvs:List (PyData×PyData)}(ok:tD P w H h)(l:qhe H a kvs):Reads h (.ref a) (.dict kvs) [a]/\(a == sysModules)=false:=by
 rcases l with⟨ks,h1,h2⟩|⟨ks,h1,h2⟩
 ·exact Av ok h1 h2
 ·obtain⟨_,hd,xs,kt,o,es,ep,q1,q2,q3,q4,q5,q6⟩:=qdk ok h2;obtain⟨r1,r2⟩:=HX ok h1 kt;rw[<- q4] at r1 r2;exact⟨Reads.dict (as:=[]) (bs:=[]) q1 q2.1 q3 r1 r2,hd⟩
mutual
def fM(H:Hp):PyData->V->Prop
 |.none,v=>v = .non
 |.bool b,v=>v = .bl b
 |.int i,v=>v = .int i
 |.str x,v=>v = .str x
 |.list ds,v=>∃a xs,v = .ref a/\H a=some (.lst xs)/\cA H ds xs
 |.tuple ds,v=>∃a xs,v = .ref a/\H a=some (.tup xs)/\cA H ds xs
 |.dict kvs,v=>∃a,v = .ref a/\qhe H a kvs
def cA(H:Hp):List PyData->List V->Prop
 |[],vs=>vs=[]
 |d::ds,vs=>∃v r,vs=v::r/\fM H d v/\cA H ds r
end
theorem cA.length{H:Hp}:∀{ds:List PyData}{xs:List V},cA H ds xs->ds.length=xs.length
 |[],_,h=>by simp only[cA] at h;subst h;rfl
 |d::ds,_,h=>by
  simp only[cA] at h;obtain⟨v,r,rfl,h1,h2⟩:=h;simp[cA.length h2]
section
variable {X:Cx}{p_:QAC}{σ:St}{H:Hp}{s:Shared}
mutual
theorem fM.reads(I:Inv X p_ σ H s):∀(d:PyData)(v:V)(u:Value),fM H d v->RelV v u->∃as,Reads s.heap u d as
 |.none,v,u,h,r=>by
  simp only[fM] at h;subst h;cases r;exact⟨_,.none⟩
 |.bool b,v,u,h,r=>by
  simp only[fM] at h;subst h;cases r;exact⟨_,.bool b⟩
 |.int i,v,u,h,r=>by
  simp only[fM] at h;subst h;obtain⟨t,rfl⟩:=r;exact⟨_,.int i t⟩
 |.str x,v,u,h,r=>by
  simp only[fM] at h;subst h;obtain⟨t,rfl⟩:=r;exact⟨_,.str x t⟩
 |.list ds,v,u,h,r=>by
  simp only[fM] at h;obtain⟨a,xs,rfl,hq,hs⟩:=h;cases r;obtain⟨its,rv,pl,hz⟩:=I.list (aW.of hq);obtain⟨o,e,c,n,dt⟩:=pl.isList;obtain⟨as,ra⟩:=cA.reads I ds xs its hs rv;exact⟨_,.list e c dt (by simpa using ra)⟩
 |.tuple ds,v,u,h,r=>by
  simp only[fM] at h;obtain⟨a,xs,rfl,hq,hs⟩:=h;cases r;obtain⟨its,rv,pl,hz⟩:=I.tuple (eG.of hq);obtain⟨o,e,c,n,dt⟩:=pl;obtain⟨as,ra⟩:=cA.reads I ds xs its hs rv;exact⟨_,.tuple e c dt (by simpa using ra)⟩
 |.dict kvs,v,u,h,r=>by
  simp only[fM] at h;obtain⟨a,rfl,h1⟩:=h;cases r;exact⟨_,(wL I.hok h1).1⟩
theorem cA.reads(I:Inv X p_ σ H s):∀(ds:List PyData)(vs:List V)(us:QAE),cA H ds vs->Vals vs us->∃as,ReadsAll s.heap us ds as
 |[],vs,us,h,r=>by
  simp only[cA] at h;subst h;cases r;exact⟨_,.nil⟩
 |d::ds,vs,us,h,r=>by
  simp only[cA] at h;obtain⟨v,vr,rfl,h1,h2⟩:=h;cases r with
  |cons r1 r2=>
   obtain⟨as,ra⟩:=fM.reads I d v _ h1 r1;obtain⟨bs,rb⟩:=cA.reads I ds vr _ h2 r2;exact⟨_,.cons ra rb⟩
end
mutual
theorem fM.tH(I:Inv X p_ σ H s):∀(d:PyData)(v:V)(u:Value),fM H d v->RelV v u->d.showable=true->d.shown.length<=sizeLine->
  ∃bs,ReadAtMost s.heap d.depth bs/\ReprK X.prog X.w bs s.heap d.depth u d.shown
 |.none,v,u,h,r,hs,hz=>by
  obtain⟨as,ra⟩:=fM.reads I _ v u h r;exact qoa ra hs (qnY rfl) hz
 |.bool b,v,u,h,r,hs,hz=>by
  obtain⟨as,ra⟩:=fM.reads I _ v u h r;exact qoa ra hs (qnY rfl) hz
 |.int i,v,u,h,r,hs,hz=>by
  obtain⟨as,ra⟩:=fM.reads I _ v u h r;exact qoa ra hs (qnY rfl) hz
 |.str x,v,u,h,r,hs,hz=>by
  obtain⟨as,ra⟩:=fM.reads I _ v u h r;exact qoa ra hs (qnY rfl) hz
 |.list ds,v,u,h,r,hs,hz=>by
  obtain⟨as,ra⟩:=fM.reads I (.list ds) v u h r;simp only[fM] at h;obtain⟨a,xs,rfl,hq,hall⟩:=h;cases r;obtain⟨its,rv,pl,hzz⟩:=I.list (aW.of hq);obtain⟨o,e,c,n,dt⟩:=pl.isList;have Yd:(listText (PyData.shownAll ds)).length<=sizeLine:=by simpa only[PyData.shown] using hz
  obtain⟨bs,mb,kb⟩:=cA.tH I ds xs its hall rv (by simpa [PyData.showable] using hs) (λt ht=>qme (listText_mem_le ht) Yd);have nab:a∉bs:=qoq ra (by simp only[PyData.depth];exact qmS _) mb;refine⟨a::bs,ReadAtMost.cons ra (by simp only[PyData.depth];omega) mb,?_⟩;simp only[PyData.depth,PyData.shown];cases its with
  |nil=>
   cases rv;have e2:ds=[]:=qmQ hall.length;subst e2;simp only[PyData.shownAll,listText_nil];exact ReprK.listEmpty e c dt
  |cons x l=>exact ReprK.list e c dt nab (by simpa using kb.length_eq) (λi y z=>kb.item i y (by simpa using z))
 |.tuple ds,v,u,h,r,hs,hz=>by
  obtain⟨as,ra⟩:=fM.reads I (.tuple ds) v u h r;simp only[fM] at h;obtain⟨a,xs,rfl,hq,hall⟩:=h;cases r;obtain⟨its,rv,pl,hzz⟩:=I.tuple (eG.of hq);obtain⟨o,e,c,n,dt⟩:=pl;have Yd:(tupleText (PyData.shownAll ds)).length<=sizeLine:=by simpa only[PyData.shown] using hz
  obtain⟨bs,mb,kb⟩:=cA.tH I ds xs its hall rv (by simpa [PyData.showable] using hs) (λt ht=>qme (tupleText_mem_le ht) Yd);have nab:a∉bs:=qoq ra (by simp only[PyData.depth];exact qmS _) mb;refine⟨a::bs,ReadAtMost.cons ra (by simp only[PyData.depth];omega) mb,?_⟩;simp only[PyData.depth,PyData.shown];exact ReprK.tuple e c dt nab (by simpa using kb)
 |.dict kvs,v,u,h,r,hs,hz=>by
  simp only[fM] at h;obtain⟨a,rfl,h1⟩:=h;cases r;obtain⟨ra,hd⟩:=wL I.hok h1;refine qoa ra hs (λ_ hm=>?_) hz;rw[qmH] at hm;rw[<- hm] at hd;simp at hd
theorem cA.tH(I:Inv X p_ σ H s):∀(ds:List PyData)(vs:List V)(us:QAE),cA H ds vs->Vals vs us->PyData.showableAll ds=true->(∀t∈PyData.shownAll ds,t.length<=sizeLine)->
  ∃bs,ReadAtMost s.heap (PyData.depthAll ds) bs/\ReprAllK X.prog X.w bs s.heap (PyData.depthAll ds) us (PyData.shownAll ds)
 |[],vs,us,h,r,_,_=>by
  simp only[cA] at h;subst h;cases r;exact⟨[],(λ_ h=>nomatch h),.nil⟩
 |d::ds,vs,us,h,r,hs,hz=>by
  simp only[cA] at h;obtain⟨v,vr,rfl,h1,h2⟩:=h;simp only[PyData.showableAll,qnf] at hs;simp only[PyData.shownAll,qmd,forall_eq_or_imp] at hz;cases r with
  |cons r1 r2=>
   obtain⟨b1,m1,k1⟩:=fM.tH I d v _ h1 r1 hs.1 hz.1;obtain⟨b2,m2,k2⟩:=cA.tH I ds vr _ h2 r2 hs.2 hz.2;refine⟨b1++b2,(m1.mono ?_).append (m2.mono ?_),?_⟩
   ·simp only[PyData.depthAll];exact Nat.le_max_left ..
   ·simp only[PyData.depthAll];exact Nat.le_max_right ..
   ·simp only[PyData.shownAll];refine .cons ((k1.more λb hb=>qmt _ hb).level_le ?_) (k2.more_le (λb hb=>qmE _ hb) ?_)
    ·simp only[PyData.depthAll];exact Nat.le_max_left ..
    ·simp only[PyData.depthAll];exact Nat.le_max_right ..
end
def Ry:List V->Hp->VK->Prop:=λxs H Q=>ar1 xs λv=>∃ds:List PyData,fM H (.list ds) v/\(PyData.list ds).showable=true/\(PyData.list ds).depth<=32/\(PyData.list ds).shown.length<=sizeLine/\Q (.str (PyData.list ds).shown) H
@[simp ↓] theorem qhf xs H Q:Ry xs H Q=(ar1 xs λv=>∃ds:List PyData,fM H (.list ds) v/\(PyData.list ds).showable=true/\(PyData.list ds).depth<=32/\(PyData.list ds).shown.length<=sizeLine/\Q (.str (PyData.list ds).shown) H):=rfl
theorem Ob(hg:X.A.guards=some [])(hu:X.A.units+64<cLine):cg X (.builtin "repr") Ry:=by
 intro p_ s σ H xs us Q I r h;obtain⟨v,rfl,ds,hi,hs,hd,hz,q⟩:=ar1.out h;obtain⟨u,rfl,ru⟩:=r.one;have hi0:=hi;simp only[fM] at hi;obtain⟨a,xs,rfl,hq,hall⟩:=hi;cases ru;obtain⟨its,rv,pl,hzz⟩:=I.list (aW.of hq);obtain⟨o,e,c,n,dt⟩:=pl.isList;have Yd:(listText (PyData.shownAll ds)).length<=sizeLine:=by simpa only[PyData.shown] using hz
 obtain⟨as,ra⟩:=fM.reads I (.list ds) (.ref a) (.ref a) hi0 rfl;obtain⟨bs,mb,kb⟩:=cA.tH I ds xs its hall rv (by simpa [PyData.showable] using hs) (λt ht=>qme (listText_mem_le ht) Yd);have nab:a∉bs:=qoq ra (by simp only[PyData.depth];exact qmS _) mb;simp only[PyData.depth] at hd;simp only[PyData.shown] at q;refine call_repr_slot (by omega) ⟨o,e,c⟩ F.slot_list_repr.toG ?_;cases its with
 |nil=>
  cases rv;have e2:ds=[]:=qmQ hall.length;subst e2;simp only[PyData.shownAll,listText_nil] at q;exact call_list_repr_empty ⟨o,e,c⟩ e dt ⟨_,_,rfl,.str _,H,I.tok _,⟨_,rfl⟩,q⟩
 |cons x l=>
  refine call_list_reprK e c dt nab (by simpa using kb.length_eq) (λi y z=>kb.item i y (by simpa using z)) hg (λb _=>Clear.nil b) ?_ (λ_ _ z=>z) (λh' u tk hk=>⟨_,_,rfl,.str _,H,I.kept (t':=tk) hk,⟨u,rfl⟩,q⟩) Yd;show X.A.units+1+_<_;omega
end
theorem HY:∀{Ds:List Addr}{us:QAE},Vals (Ds.map V.ref) us->us=Ds.map Value.ref
 |[],_,h=>by cases h;rfl
 |D::Ds,_,h=>by
  cases h with
  |cons a b=>
   rw[HY b];obtain rfl:=(show _=Value.ref D from a);rfl
section
variable {X:Cx}
def uG:List TE->St->Hp->Str->(Str->Hp->Prop)->Prop
 |[],_,H,acc,Q=>Q acc H
 |t::r,σ,H,acc,Q=>t σ H λx H1=>isStr x λy=>y.length<=sizeLine/\(acc++y).length<=sizeLine/\uG r σ H1 (acc++y) Q
@[simp ↓] theorem qhg σ H acc Q:uG [] σ H acc Q=Q acc H:=rfl
@[simp ↓] theorem qhh t r σ H acc Q:uG (t::r) σ H acc Q=(t σ H λx H1=>isStr x λy=>y.length<=sizeLine/\(acc++y).length<=sizeLine/\uG r σ H1 (acc++y) Q):=rfl
def UJ(ts:List TE):TE:=λσ H Q=>uG ts σ H Str.empty λz H1=>z.length<=sizeLine/\Q (.str z) H1
@[simp ↓] theorem qf9 ts σ H Q:UJ ts σ H Q=(uG ts σ H Str.empty λz H1=>z.length<=sizeLine/\Q (.str z) H1):=rfl
def PF(X:Cx)(e:Expr)(t:TE):Prop:=∀(p_:QAC)(s:Shared)(σ:St)(H:Hp)(Q:Str->Hp->Prop),Inv X p_ σ H s->(t σ H λx H1=>isStr x λy=>y.length<=sizeLine/\Q y H1)->
 wpAny (model X.prog X.w) X.A (eval e X.env) (λv s1=>∃y tk H1,v = .str y tk/\Inv X p_ σ H1 s1/\Q y H1) X.xe s
theorem qao{e:Expr}{t:TE}(h:PE X e t):PF X e t:=λp_ s σ H Q I hq=>
 cT (h p_ s σ H _ I hq) λv s1 ⟨x,H1,I1,r,q⟩=>by
  obtain⟨y,rfl,_,q2⟩:=isStr.out q;obtain⟨tk,rfl⟩:=r;exact⟨y,tk,H1,rfl,I1,q2⟩
inductive PFs(X:Cx):List Expr->List TE->Prop where
 |nil:PFs X [] []
 |cons {e:Expr}{es:List Expr}{t:TE}{ts:List TE}:PF X e t->PFs X es ts->PFs X (e::es) (t::ts)
theorem PFs.joins{es:List Expr}{ts:List TE}(h:PFs X es ts):∀(p_:QAC)(s:Shared)(σ:St)(H:Hp)(acc:Str)(Q:Str->Hp->Prop)(R:Str->Shared->Prop),Inv X p_ σ H s->uG ts σ H acc Q->
  (∀out s1 H1,Inv X p_ σ H1 s1->Q out H1->R out s1)->Joins (model X.prog X.w) X.A X.xe (evalEach es X.env) acc R s:=by
 induction h with
 |nil=>exact λp_ s σ H acc Q R I hq hR=>hR _ _ _ I hq
 | @cons e es t ts h hs ih=>
  intro p_ s σ H acc Q R I hq hR;show wpAny _ _ (eval e X.env) _ _ s;refine qmV (h p_ s σ H (λy H1=>(acc++y).length<=sizeLine/\uG ts σ H1 (acc++y) Q) I hq) (λv s1 ⟨y,tk,H1,e1,I1,hl,q⟩=>⟨y,tk,e1,hl,ih p_ s1 σ H1 _ Q R I1 q hR⟩) λ_ _ z=>z
theorem WR{v₁ v₂:Expr}{rest:List Expr}{pos:Pos}{ts:List TE}(h:PFs X (v₁::v₂::rest) ts):PE X (.JoinedStr (v₁::v₂::rest) pos) (UJ ts):=by
 intro p_ s σ H Q I hq;refine wpAny_JoinedStr (h.joins p_ s σ H Str.empty _ _ I hq λout s1 H1 I1 q=>?_);exact⟨q.1,.str out,H1,I1.tok _,⟨_,rfl⟩,q.2⟩
end
section
variable {X:Cx}{e:Expr}{es:List Expr}{te:TE}{t:TA}
structure PAq(X:Cx)(es:List Expr)(t:TA):Prop where
 out:PA X es t
theorem WT{env:Env}(h:∀a b,e≠.Starred a b):starEach (e::es) env=(false,eval e env)::starEach es env:=by
 cases e <;> first|rfl|exact absurd rfl (h _ _)
theorem Kl:PAq X [] Bq:=⟨ao⟩
theorem cM(ha:PE X e te)(hr:PAq X es t)(hn:∀a b,e≠.Starred a b:=by(intro _ _ h;cases h)):PAq X (e::es) (ud te t):=⟨aj ha hr.out (WT hn)⟩
end
structure Ye(X:Cx)(e:Expr)(te:TE):Prop where
 out:PE X e te
theorem Km{X:Cx}{es:List Expr}{t:TA}{pos:Pos}(h:PAq X es t):Ye X (.List es pos) (YH t):=⟨cI h.out⟩
structure PSq(X:Cx)(st:Stmt)(t:TS):Prop where
 out:PS X st t
structure Oc(X:Cx)(st:List Stmt)(t:TS):Prop where
 out:Ge X st t
section
variable {X:Cx}{st:Stmt}{rest:List Stmt}{t u:TS}{e a b:Expr}{te ta tb:TE}{pos:Pos}
theorem vg(h1:PSq X st t)(h2:Oc X rest u):Oc X (st::rest) (qbI t u):=⟨aC h1.out h2.out⟩
theorem qap(h1:PSq X st t):Oc X [st] t:=⟨aF h1.out⟩
theorem qfc{c:Expr}{p q:List Stmt}{tc:TT}(hc:PT X c tc)(ha:Oc X p t)(hb:Oc X q u):PSq X (.If c p q pos) (qbJ tc t u):=⟨cP hc ha.out hb.out⟩
theorem Ko{i:Nat}{x:Str}{pos':Pos}(hN:X.N.Nodup)(hi:X.N[i]? = some x)(hx:Loc X.env.scope x)(he:Ye X e te)(hs:swapsWith e (some (.Name x pos')) pos.line X.env=pure false:=by rfl)(hf:X.fn x=true\/X.env.scope.names.lookup x=some .local:=by first|exact .inl rfl|exact .inr rfl|assumption) :
  PSq X (.Assign [.Name x pos'] e pos) (Vw te (Al i)):=⟨bG hN hi hx he.out hs hf⟩
theorem qfd{op:Operator}{r:R2}(ho:iY X (binaryOp op) r)(ha:Ye X a ta)(hb:Ye X b tb):Ye X (.BinOp a op b pos) (Mr r ta tb):=⟨cB ho ha.out hb.out⟩
theorem qfe{r:R2}(hr:Yb X r)(ha:Ye X a ta)(hb:Ye X b tb)(hs:Ug b):Ye X (.Subscript a b pos) (Mr r ta tb):=⟨bR hr ha.out hb.out hs⟩
theorem Kp(h:Ye X e te):Ye X e (big te):=⟨qfb h.out⟩
end
end L2
namespace L2
open PySem PySem.Spec PySem.W PyProof.Rows
section
variable {prog:Program}{w:World}{A:Around}{E:QAB}{K:W.Frag}{h:Heap}{g:Array GenState}{d:Drawn}{t:Nat}{os:OsState}
variable {nm q:Str}{C N:Addr}{bs bm:QAE}{hdct:Bool}{sn:QAH}{sub:QAE}{ab:Bool}{col:Option Bool}{dd:Option Addr}{k0 k1 k2 k3 k5:QAG}
theorem Kq{rest:QAE}{f:Addr}{Q:PySem.Fin->Shared->Prop}(X:K.In h)(T:OwnTail h mD bm) (hi:findIn K (.ref C) "__init__" = some (some (.ref f))) (hf:typeIn K (.ref f)=some (.type "function"))
  (hC:h.get? C=some (excClassObj nm q C N bs bm hdct sn sub ab col dd k0 k1 k2 k3 k5 "ValueError.__new__"))
  (hq:∀h' e,Heap.MadeExcOf h h' e (.ref C) rest->wpAny (model prog w) A (call (.ref f) (.ref e::rest)) (λr s'=>r = .none/\Q (.done (.ret (.ref e))) s') E ⟨h',g,d,t,os⟩) (hz:rest.length<=sizeLine) :
  wpAny (model prog w) A (Builtin.«type.__call__» ⟨.ref C::rest,[]⟩) Q E ⟨h,g,d,t,os⟩:=by
 have F:=qov
 repeat (first|with_reducible refine qnH hC ?_|with_reducible refine wpAny_madeBy_exc hC ?_|wp_step)
 refine codeAny_call_builtin_code (qoe _ F.quiet) (wpAny_check_new_subT F T hC (codeAny_exc_new_subT F T hC ?_ hz));show wpAny _ _ _ _ _ _;generalize hG:(h.push {cls:=.type "tuple",data:=.seq rest.toArray}).push {cls:=.ref C,data:=.fields #[.ref h.objs.size,.none,.none,.none,.bool false,.none]}=G;have kp:∀b o,h.get? b=some o->G.get? b=some o:=λb o e=>by
  rw[<- hG];exact ql4 _ (ql4 _ e)
 have hget:G.get? (h.objs.size+1)=some {cls:=.ref C,data:=.fields #[.ref h.objs.size,.none,.none,.none,.bool false,.none]}:=by
  rw[<- hG]
  heap_get
 have hT:G.get? h.objs.size=some {cls:=.type "tuple",data:=.seq rest.toArray}:=by
  rw[<- hG];exact ql4 _ (Heap.get?_push_at rfl rfl)
 have X1:K.In G:=λb o e=>kp b o (X b o e);have hC1:=kp _ _ hC;have hcC:(Value.ref C::bm).contains (.ref C)=true:=by simp
 unfold isInstance
 repeat (first|with_reducible refine qnH hget ?_|(with_reducible refine wpAny_isSubtype_exc hC1 ?_;rw[hcC])|wp_step)
 show wpAny _ _ (typeLookup (.ref C) _) _ _ _;refine(looks_findIn (M:=model prog w) X1 hi).at ?_;refine qni (ql3 ?_);unfold bindSpecial;refine ql3 ((looks_typeIn (M:=model prog w) X1 hf).at ?_);rw[if_pos (by decide)];refine qmb (ql3 (qmV (hq G (h.objs.size+1) ⟨kp,Heap.get?_none_of_le (qnD _),h.objs.size,hget,Heap.get?_none_of_le (ql7 _),hT⟩) (λr s' hr=>?_) λ_ _ x=>x));obtain⟨rfl,hQ⟩:=hr
 wp_walk
 exact hQ
theorem qcy{rest:QAE}{f:Addr}{Q:QAB}(X:K.In h)(T:OwnTail h mD bm) (hi:findIn K (.ref C) "__init__" = some (some (.ref f))) (hf:typeIn K (.ref f)=some (.type "function"))
  (hC:h.get? C=some (excClassObj nm q C N bs bm hdct sn sub ab col dd k0 k1 k2 k3 k5 "ValueError.__new__"))
  (hq:∀h' e,Heap.MadeExcOf h h' e (.ref C) rest->wpAny (model prog w) (A.under (.builtin "type.__call__" ⟨.ref C::rest,[]⟩)) (call (.ref f) (.ref e::rest)) (λr s'=>r = .none/\Q (.ref e) s') E ⟨h',g,d,t,os⟩) (hz:rest.length<=sizeLine) :
  wpAny (model prog w) A (call (.ref C) rest) Q E ⟨h,g,d,t,os⟩:=by
 have f1:=tc_lookup;have f2:=tc_bind (.ref C);have hT:(⟨h,g,d,t,os⟩:Shared).TypeIs (.ref C) "type" :=⟨_,hC,rfl⟩;refine qn2 (codeAny_of_tree ?_);show wpAny _ _ (callAny (.ref C) _) _ _ _
 repeat (any_goals (first|assumption|with_reducible refine qnH hC ?_|wp_step))
 refine⟨rfl,codeAny_call_builtin_at (qoe _ (by decide+kernel)) entry_typeCall (wpAny_check_type_call_sub hC (Kq X T hi hf hC (λh' e hm=>?_) hz))⟩;exact hq h' e hm
theorem qcz{rest:QAE}{e t0:Addr}{oe:Obj}{vs:Array Value}{Q:QAB}(T:OwnTail h mD bm)
  (hC:h.get? C=some (excClassObj nm q C N bs bm hdct sn sub ab col dd k0 k1 k2 k3 k5 "ValueError.__new__")) (he:h.get? e=some oe) (hc:oe.cls = .ref C) (hd:oe.data = .fields vs) (h0:vs[0]? = some (.ref t0))
  (hq:∀h' t1,(∀b o,b≠e->h.get? b=some o->h'.get? b=some o)->h'.get? e=some {oe with data:=.fields (vs.setIfInBounds 0 (.ref t1))}->Q .none ⟨h',g,d,t,os⟩) (hz:rest.length<=sizeLine) :
  wpAny (model prog w) A (call (.builtin "ValueError.__init__") (.ref e::rest)) Q E ⟨h,g,d,t,os⟩:=by
 have F:=qov;refine qn2 (qnE F.init.plain F.initEntry (wpAny_check_init_subT F T hC he hc ?_));have Gf:(h.push {cls:=.type "tuple",data:=.seq rest.toArray}).get? e=some oe:=ql4 _ he;unfold Builtin.«BaseException.__init__» Builtin.BaseException.bexcPut
 repeat (first|with_reducible refine qnd Gf hd h0 ?_|with_reducible refine qou Gf hd (qnu.mp h0).1 ?_|wp_step)
 have d3:=qnP hd (·.setIfInBounds 0 (Value.ref h.objs.size));refine hq _ h.objs.size (λb o hb z=>?_) ?_
 ·rw[qne _ _ (qnF hb)];exact ql4 _ z
 ·refine(qny _ Gf (qom d3)).trans (qmA some ?_);obtain⟨c,dct,dat,sl⟩:=oe;cases hd;rfl
def Kr(x C:Addr)(od:Option Addr)(h:Heap):Prop:=∃ox vs t0,h.get? x=some ox/\ox.cls = .ref C/\ox.data = .fields vs/\vs[0]? = some (.ref t0)/\vs[1]? = some .none/\vs[2]? = some .none/\ox.dict=od
theorem Kr.at{x C:Addr}{od:Option Addr}{h:Heap}(e:Kr x C od h):mW x C h:=by
 obtain⟨ox,vs,t0,h1,h2,h3,_⟩:=e;exact⟨ox,vs,h1,h2,h3⟩
structure qkK(K:W.Frag)(C:Addr):Prop where
 ga:findIn K (.ref C) "__getattribute__" = some (some (.builtin "BaseException.__getattribute__"))
 gn:findIn K (.ref C) "__getattr__" = some none
 mb:mroIn K C (.type "BaseException")=some true
 hd:hasDictIn K C=true
structure wM(K:W.Frag)(C PE:Addr):Prop where
 sa:findIn K (.ref C) "__setattr__" = some (some (.builtin "object.__setattr__"))
 mo:mroIn K C (.type "object")=some true
 cl:∃cd,clsIn K C=some cd/\cd.mro = .ref C::.ref PE::mD/\cd.hasDict=true
theorem qff{x PE:Addr}{name:Str}{tk:Tok}{v:Value}{R:Result->Shared->Prop}(X:K.In h)(I:mW x C h)(S:wM K C PE)(ha:findIn K (.ref C) name=some none)
  (hq:wpAny (model prog w) A.in1 (Builtin.ObjectAttr.storeInOwnDict (.ref x) (.ref C) (.str name tk) name v false)
   (λfin s'=>match fin with|.done f=>R (.ok f) s'|.again c'=>c'.quiet=true/\codeAny (model prog w) A c' R s') (λe s'=>R (.error e) s') ⟨h,g,d,t,os⟩) :
  codeAny (model prog w) A (.call (.builtin "object.__setattr__") ⟨[.ref x,.str name tk,v],[]⟩) R ⟨h,g,d,t,os⟩:=by
 have SF:=PySem.F.store_object;obtain⟨cd,hc,hm,_⟩:=S.cl;have L0:=I.type (M:=model prog w);have sub:Looks (model prog w) h (isInstance (.ref x) (.type "object")) true:=L0.andThen (looks_mroIn X S.mo);refine qnE SF.slot.plain SF.entry (@check_slot (model prog w) _ _ ⟨h,g,d,t,os⟩ "object.__setattr__" "object" "__setattr__" (.ref x) [.str name tk,v] [] _ SF.kind SF.split sub (SF.args (.ref x) (.str name tk) v) ?_);have Lm:Looks (model prog w) h (mroOf (.ref C)) cd.mro:=(looks_clsIn X hc).andThen .now;rw[osa_eq,refuse_eq];refine ql3 (ql3 (Looks.here (s:=⟨h,g,d,t,os⟩) L0 (ql3 (Looks.here (s:=⟨h,g,d,t,os⟩) Lm ?_))));rw[hm,refuseLoop_ref,refuseLoop_ref,PySem.F.store_ValueError.passes];exact qmb (ql3 (Looks.here (s:=⟨h,g,d,t,os⟩) L0 (ql3 (Looks.here (s:=⟨h,g,d,t,os⟩) (looks_findIn X ha) (ql3 (qmb hq))))))
theorem qaq{x PE:Addr}{name:Str}{v:Value}{Q:Unit->Shared->Prop}{s:Shared}(X:K.In s.heap)(I:mW x C s.heap)(S:wM K C PE)(ha:findIn K (.ref C) name=some none)
  (hq:∀A':Around,wpAny (model prog w) A' (Builtin.ObjectAttr.storeInOwnDict (.ref x) (.ref C) (.str name s.toks) name v false) (λfin s'=>fin = .done (.ret .none)/\Q () s') (λe s'=>False) {s with toks:=s.toks+1}) :
  wpAny (model prog w) A (setAttr (.ref x) name v) Q E s:=by
 have L0:=I.type (M:=model prog w);refine ql3 (wpAny_mkText (ql3 (ql3 (ql3 (L0 _ _ _ _ (λ_ _ e=>e) (looks_findIn X S.sa _ _ _ _ (λ_ _ e=>e) (qni ?_)))))));rw[PySem.F.store_object.slot.bind];refine ql3 (qmb (ql3 (qn2 (qnc (qff (A:=A) (tk:=s.toks) (v:=v) (R:=λr s'=>match r with|.ok (.ret _)=>Q () s'|.ok _=>False|.error e=>False) X I S ha (qmV (hq _) (λfin s' z=>?_) λe s' z=>z)) λr s' z=>?_))))
 ·obtain⟨rfl,z⟩:=z;exact z
 ·rcases r with e|(v|_|_|_) <;> first|exact z.elim|exact qmb (qmb z)
theorem qcA{x dx:Addr}{ns:QAH}{mA:Str->Option Value}{name:Str}{tk:Tok}{v:Value}{Q:PySem.Fin->Shared->Prop}{cd:ClassData}(X:K.In h)(e:Kr x C (some dx) h)(hn:h.Ns1 dx mA)(hc:clsIn K C=some cd)(hd:cd.hasDict=true)
  (hw:PySem.Within mA ns) (hsz:ns.length<=sizeLine) (hq:∀h' t',h'.Ns1 dx (λy=>if y=name then some v else mA y)->Heap.SameBut dx h h'->Q (.done (.ret .none)) ⟨h',g,d,t',os⟩) :
  wpAny (model prog w) A (Builtin.ObjectAttr.storeInOwnDict (.ref x) (.ref C) (.str name tk) name v false) Q E ⟨h,g,d,t,os⟩:=by
 obtain⟨ox,vs,t0,h1,h2,h3,_,_,_,h6⟩:=e;obtain⟨oc,odi,oda,osl⟩:=ox;cases h2;cases h3;cases h6;refine ql3 (qmb (ql3 (ql3 (wpAny_loadPart h1 (ql3 (Looks.here (s:=⟨h,g,d,t,os⟩) (looks_clsIn X hc) ?_))))));rw[hd];refine qmb (a:=some dx) (ql3 (qmb (ql3 ?_)));refine wpAny_nsSet1 (s:=⟨h,g,d,t,os⟩) hn λh' hn2 hs2=>?_;obtain⟨oD,esD,epD,hoD,hdD,hcD⟩:=hn2.count (PySem.Within.cons name v hw);refine ql3 (wpAny_lookBehind hoD (by rw[hdD];exact pastItsLine_dict (qme hcD (by rw[qmq];omega))) ?_);exact qmb (hq _ _ hn2 hs2)
theorem qcB{x:Addr}{name:Str}{tk:Tok}{v:Value}{Q:PySem.Fin->Shared->Prop}{cd:ClassData}(X:K.In h)(e:Kr x C none h)(hc:clsIn K C=some cd)(hd:cd.hasDict=true)
  (hq:∀h' t',h'.Ns1 h.objs.size (λy=>if y=name then some v else none)->(∀b o,b≠x->h.get? b=some o->h'.get? b=some o)->Kr x C (some h.objs.size) h'->Q (.done (.ret .none)) ⟨h',g,d,t',os⟩) :
  wpAny (model prog w) A (Builtin.ObjectAttr.storeInOwnDict (.ref x) (.ref C) (.str name tk) name v false) Q E ⟨h,g,d,t,os⟩:=by
 obtain⟨ox,vs,t0,h1,h2,h3,h40,h41,h42,h6⟩:=e;obtain⟨oc,odi,oda,osl⟩:=ox;cases h2;cases h3;cases h6;refine ql3 (qmb (ql3 (ql3 (wpAny_loadPart h1 (ql3 (Looks.here (s:=⟨h,g,d,t,os⟩) (looks_clsIn X hc) ?_))))));rw[hd,if_neg (by decide)];show wpAny _ _ (if (!true || !typeHasDict (Value.ref C))=true then pure none else _) _ _ _
 rw[if_neg (by simp[typeHasDict])];have hxs:x≠h.objs.size:=qmg (ql8 h1);have h1':(h.push {cls:=.type "dict",data:=.dict #[]}).get? x=some ⟨.ref C,none,.fields vs,osl⟩:=ql4 _ h1;refine ql3 (wpAny_alloc' ?_);refine ql3 (wpAny_update' h1' ?_);refine qmb ?_;generalize hG:((h.push {cls:=.type "dict",data:=.dict #[]}).update x λo=>{cls:=o.cls,dict:=some h.objs.size,data:=o.data,slots:=o.slots})=G;have g1:G.get? h.objs.size=some {cls:=.type "dict",data:=.dict #[]}:=by
  rw[<- hG];exact(Heap.get?_update_ne _ _ _ _ hxs.symm).trans (Heap.get?_push_at rfl rfl)
 have g2:G.get? x=some ⟨.ref C,some h.objs.size,.fields vs,osl⟩:=by
  rw[<- hG];exact qny _ h1' rfl
 have g3:∀b o,b≠x->h.get? b=some o->G.get? b=some o:=λb o hb z=>by
  rw[<- hG];exact(Heap.get?_update_ne _ _ _ _ hb).trans (ql4 _ z)
 have hnd:G.Ns h.objs.size (λ_=>none):=⟨_,#[],_,g1,rfl,λe he=>absurd he (by simp),λ_=>rfl⟩;show wpAny _ _ (Builtin.ObjectAttr.storeInDict h.objs.size (.str name tk) name v) _ _ _;unfold Builtin.ObjectAttr.storeInDict Builtin.ObjectAttr.newKeyGuard;refine ql3 (qmb (ql3 (wpAny_nsSet1 (Heap.Ns1.of_empty hnd) λh' hn' hs=>?_)));obtain⟨oD,esD,epD,hoD,hdD,hcD⟩:=hn'.count (Within.cons name v Within.nil);refine ql3 (wpAny_lookBehind hoD (by rw[hdD];exact pastItsLine_dict (qme hcD (by rw[qmq,qoh,qoc];omega))) ?_);exact qmb (hq _ _ hn' (λb o hb z=>(hs.2 b (qmg (ql8 z))).trans (g3 b o hb z)) ⟨_,vs,t0,(hs.2 x hxs).trans g2,rfl,rfl,h40,h41,h42,rfl⟩)
end
end L2
namespace L2
open PySem PySem.Spec PyProof.Rows
def dZ(x C:Addr)(od:Option Addr):HO:=.ext λh=>Kr x C od h
def ju(dx:Addr)(fs:List (Str×V)):HO:=.ext λh=>fs.length<=1000/\∃mA,h.Ns1 dx mA/\(∀f,m7 (fs.lookup f) (mA f))/\PySem.Within mA (fs.map (·.1))
section
variable {P:Program}{w:World}{H:Hp}{h:Heap}{x C dx:Addr}{od:Option Addr}{fs:List (Str×V)}
theorem Ks(e:Kr x C od h):cD P w H h x (dZ x C od):=by
 obtain⟨ox,vs,t0,h1,h2⟩:=id e;exact⟨e,⟨ox,h1⟩,λg1 g2 ⟨ox,vs,t0,a1,a2⟩ k=>⟨ox,vs,t0,k _ a1,a2⟩⟩
theorem BZ(ok:tD P w H h)(e:H x=some (dZ x C od)):Kr x C od h:=((show cD P w H h x (dZ x C od) from ok _ _ e)).1
theorem UL{mA:Str->Option Value}(hl:fs.length<=1000)(hn:h.Ns1 dx mA)(hr:∀f,m7 (fs.lookup f) (mA f))(hw:PySem.Within mA (fs.map (·.1))):cD P w H h dx (ju dx fs):=by
 obtain⟨o,es,ep,h1,h2⟩:=id hn;exact⟨⟨hl,mA,hn,hr,hw⟩,⟨o,h1⟩,λg1 g2 ⟨c,mB,⟨o,es,ep,a1,a2⟩,b⟩ k=>⟨c,mB,⟨o,es,ep,k _ a1,a2⟩,b⟩⟩
theorem qcC(ok:tD P w H h)(e:H dx=some (ju dx fs)):fs.length<=1000/\∃mA,h.Ns1 dx mA/\(∀f,m7 (fs.lookup f) (mA f))/\PySem.Within mA (fs.map (·.1)):=((show cD P w H h dx (ju dx fs) from ok _ _ e)).1
theorem qfg{o:HO}(e:H x=some o):upd H x o=H:=funext λb=>by
 by_cases hb:b=x
 ·subst hb;rw[ak,e]
 ·rw[aD hb]
end
section
variable {X:Cx}{p_:QAC}{σ:St}{H:Hp}{s:Shared}
theorem Inv.qfh{a:Addr}{ob:HO}(I:Inv X p_ σ H s)(hex:X.ex=[])(new:X.s₀.heap.get? a=none)(un:H a=none)(e:∃ox vs,s.heap.get? a=some ox/\ox.data = .fields vs)(ok:cD X.prog X.w (upd H a ob) s.heap a ob)(hp:∀p∈X.pn++p_,p.1≠a):Inv X p_ σ (upd H a ob) s:=by
 have nf:∀{b o},s.heap.get? b=some o->(∀vs,o.data≠.fields vs)->b≠a:=λ{b o} eb hd z=>by
  subst z;obtain⟨ox,vs,h1,h3⟩:=e;rw[eb] at h1;cases h1;exact hd vs h3
 have old:∀{b o},X.s₀.heap.get? b=some o->b≠a:=λ{b o} eb z=>by
  rw[z,new] at eb;cases eb
 have ne:∀{b:Addr}{u:HO},H b=some u->b≠a:=λ{b u} q z=>by
  rw[z,un] at q;cases q
 refine⟨I.ok,I.os,I.bare,⟨λb o eb n hb hx=>I.base.keep b o eb n hb hx,I.base.slot,λb o eb n hx=>?_,I.base.there,λb xs q=>?_,λb o u q=>?_,λb ps q=>?_⟩,I.loc,I.cell,?_,λx c q=>?_,λp hpp=>?_,λb u q=>?_,I.len⟩
 ·rw[aD (old eb)];exact I.base.free b o eb n hx
 ·have z:=I.base.tups b xs q;rw[aD (ne z)];exact z
 ·have z:=I.base.tM b o u q;rw[aD (ne z)];exact z
 ·obtain⟨m,z⟩:=I.base.tO b ps q;exact⟨m,by rw[aD (ne z)];exact z⟩
 ·obtain⟨m,⟨o,es,ep,eo,d,r⟩,_⟩:=I.loc;rw[aD (nf eo λvs y=>by rw[d] at y;cases y)];exact I.free
 ·obtain⟨v,o,eo,d⟩:=I.cell x c q;rw[aD (nf eo λvs y=>by rw[d] at y;cases y)];exact I.iW x c q
 ·obtain⟨f1,f2,f3⟩:=I.pin p hpp;refine⟨f1,?_,f3⟩;rw[aD (hp p hpp)];exact f2
 ·by_cases hb:b=a
  ·subst hb;rw[ak] at q;cases q;exact ok
  ·rw[aD hb] at q;refine(I.hok b u q).stay (λc v _ z=>z) (λc z=>?_) λc xs z=>?_
   ·rw[aD (ne z)];exact z
   ·rw[aD (ne z)];exact z
theorem Inv.qhi{e C:Addr}{args:QAE}{h':Heap}(I:Inv X p_ σ H s)(hex:X.ex=[])(mk:Heap.MadeExcOf s.heap h' e (.ref C) args):H e=none/\Inv X p_ σ (upd H e (dZ e C none)) {s with heap:=h'}:=by
 have un:=Ru I.hok mk.new;obtain⟨t0,ht,_⟩:=mk.there;have I2:Inv X p_ σ H {s with heap:=h',toks:=s.toks}:=I.kept mk.keeps;refine⟨un,I2.qfh hex (I.old hex mk.new) un ⟨_,_,ht,rfl⟩ (Ks ⟨_,_,t0,ht,rfl,rfl,rfl,rfl,rfl,rfl⟩) λp hp z=>?_⟩;have e1:=(I.pin p hp).1;rw[z,mk.new] at e1;cases e1
end
structure XMk(K:W.Frag)(C B f:Addr):Prop where
 ob:∃nm q N bs hdct sn sub ab col dd k0 k1 k2 k3 k5,K.lookup C=some (excClassObj nm q C N bs (.ref B::mD) hdct sn sub ab col dd k0 k1 k2 k3 k5 "ValueError.__new__")
 pe:wK K B
 pm:∃cd,W.clsIn K B=some cd/\cd.mro = .ref B::mD
 init:W.findIn K (.ref C) "__init__" = some (some (.ref f))
 fn:W.typeIn K (.ref f)=some (.type "function")
 kp:W.keepIn K (.ref C)=true
theorem XMk.tail{K:W.Frag}{C B f:Addr}{h:Heap}(M:XMk K C B f)(X:K.In h):OwnTail h mD (.ref B::mD):=by
 obtain⟨bm,N,nm,qn,bs,hdct,sn,sub,ab,col,dd,k0,k1,k2,k3,k5,mN,hC0,hN0,hni,T0,_⟩:=BX X M.pe;obtain⟨cd,h1,h2⟩:=M.pm;have e:bm=mD:=by
  unfold W.clsIn at h1;split at h1
  ·rename_i c' d' cd' sl' ho;cases h1;have z:=X _ _ ho;rw[hC0] at z;cases z;simpa using h2
  ·cases h1
 subst e;exact .own hC0 hN0 hni .base
section
variable {X:Cx}{C B f:Addr}{x:Str}{np p pos apos:Pos}{e:Expr}{es:List Expr}{t:TA}
structure qhj(K:W.Frag)(B:Addr):Prop where
 sg:W.specialIn K (.ref B) "__getattribute__" = some (some (.builtin "type.__getattribute__"))
 rd:W.readsIn K B (.type "type")=true
 fc:W.findCls K (.ref B) (.type "type") "__init__" = some (.val (.builtin "ValueError.__init__"))
def qdB(C:Addr)(t:TA):TE:=λσ H Q=>t σ H λvs H1=>ar2 vs λv y=>isRef v λa=>∃od,H1 a=some (dZ a C od)/\Q .non H1
@[simp ↓] theorem qjy C t σ H Q:qdB C t σ H Q=t σ H λvs H1=>ar2 vs λv y=>isRef v λa=>∃od,H1 a=some (dZ a C od)/\Q .non H1:=rfl
theorem UW{pl:Sem Bool}(M:XMk X.K C B f)(N:qhj X.K B)(hg:Gl X x)(hm:X.mg x=some (.ref B))(ha:PA X (e::es) t) (hdb:(x == ("__debug__" : Str))=false:=by decide)
  (he:starEach (e::es) X.env=(false,eval e X.env)::starEach es X.env:=by rfl) (hpl:(backTo pos (starEach es X.env)).any (·.1)=false:=by rfl)
  (ht:eval (.Call (.Attribute (.Name x np) "__init__" apos) (e::es) [] pos) X.env=(do
   let ov <- eval (.Name x np) X.env
   standAt apos.atName
   let (f,first) <- holding [ov] (getMethod ov "__init__" pl)
   callWith pos f first (backTo pos (starEach (e::es) X.env)) (backToKw pos (keywordEach [] X.env))):=by rfl) :
  PE X (.Call (.Attribute (.Name x np) "__init__" apos) (e::es) [] pos) (qdB C t):=by
 intro p_ s σ H Q I h;refine W.methodCall_KW (pl:=pl) (m8 I hg hm ?_ hdb) ht;refine W.method_cls I.oU N.sg (W.cls_value I.oU N.rd N.fc rfl ?_);have I0:Inv X p_ σ H {s with toks:=s.toks+1}:=I.tok _;refine PyProof.Rows.callWith_builtin1 (cT (ha pos p_ _ σ H _ I0 h) λus s1 zz=>?_) he hpl;obtain⟨vs,H1,I1,r,q⟩:=zz;obtain⟨v,y,rfl,q⟩:=ar2.out q;obtain⟨a,rfl,od,ea,q⟩:=isRef.out q;obtain⟨u1,u2,rfl,r1,r2⟩:=r.two;obtain rfl:u1=Value.ref a:=r1;obtain⟨nm,qn,N,bs,hdct,sn,sub,ab,col,dd,k0,k1,k2,k3,k5,hC⟩:=M.ob;have T:=M.tail I1.oU;have hC1:=I1.oU _ _ hC;obtain⟨ox,vs,t0,h1,h2,h3,h4,h5,h6,h7⟩:=BZ I1.hok ea;obtain⟨hh,g,d,tk,os⟩:=s1;refine qcz T hC1 h1 h2 h3 h4 (λh' t1 keep he'=>?_) (by show 1<=sizeLine;decide);have sz:0<vs.size:=(qnu.mp h4).1;have new:Kr a C od h':=⟨_,vs.setIfInBounds 0 (.ref t1),t1,he',h2,rfl,by simp[sz],by rw[qn8 (by decide)];exact h5,by rw[qn8 (by decide)];exact h6,h7⟩;have I2:Inv X p_ σ (upd H1 a (dZ a C od)) {(⟨hh,g,d,tk,os⟩:Shared) with heap:=h',toks:=tk}:=I1.write (x:=a) (e:=a) (by rw[ea];exact True.intro) (.inl rfl) keep ⟨_,he'⟩ (Ks new);rw[qfg ea] at I2;exact⟨.non,H1,I2,rfl,q⟩
end
section
variable {X:Cx}{C B:Addr}{o value:Expr}{f:Str}{pos pos':Pos}{ta tv:TE}
def sX0(C:Addr)(ta tv:TE)(f:Str):TS:=λD σ H=>tv σ H λy H1=>ta σ H1 λx H2=>isRef x λa=>H2 a=some (dZ a C none)/\∀dx,H2 dx=none->D.nx σ (upd (upd H2 dx (ju dx [(f,y)])) a (dZ a C (some dx)))
@[simp ↓] theorem qlA C ta tv f D σ H:sX0 C ta tv f D σ H=tv σ H λy H1=>ta σ H1 λx H2=>isRef x λa=>H2 a=some (dZ a C none)/\∀dx,H2 dx=none->D.nx σ (upd (upd H2 dx (ju dx [(f,y)])) a (dZ a C (some dx))):=rfl
theorem qdC(S:wM X.K C B)(hn:W.findIn X.K (.ref C) f=some none)(ha:PE X o ta)(hv:PE X value tv)(hs:swapsWith value (some (.Attribute o f pos')) pos.line X.env=pure false):PS X (.Assign [.Attribute o f pos'] value pos) (sX0 C ta tv f):=by
 intro p_ s σ H D I h;refine qn7 (cT (hv p_ s σ H _ I h) λu s1 z1=>?_) hs;obtain⟨y,H1,I1,ry,q⟩:=z1;refine cT (ha p_ s1 σ H1 _ I1 q) λov s2 z2=>?_;obtain⟨x,H2,I2,rx,q2⟩:=z2;obtain⟨a,rfl,ea,q2⟩:=isRef.out q2;obtain rfl:ov=Value.ref a:=rx;have E0:=BZ I2.hok ea;obtain⟨cd,hc,_,hd⟩:=S.cl;have Mh:=I2.oU;refine qaq Mh E0.at S hn λA'=>?_;obtain⟨hh,g,d,tk,os⟩:=s2;refine qcB Mh E0 hc hd λh' t' hns keep E1=>⟨rfl,?_⟩;have hf:H2 hh.objs.size=none:=I2.hok.fresh (ql7 _);obtain⟨oD,es,ep,eD,rest⟩:=id hns;obtain⟨ox,_,_,ex1,_⟩:=id E0;have axs:a≠hh.objs.size:=qmg (ql8 ex1);have nfr:oD.isFreed=false:=(Heap.get?_some_iff.mp eD).2;have hgD:(hh.push oD).get? hh.objs.size=some oD:=qmc hh nfr;have hns':(hh.push oD).Ns1 hh.objs.size (λy'=>if y'=f then some u else none):=⟨oD,es,ep,hgD,rest⟩
 have rel:∀f',m7 ([(f,y)].lookup f') (if f'=f then some u else none):=λf'=>by
  have e:=oY f f' y [];rw[show[(f,y)].lookup f'=(kW f y []).lookup f' from rfl,e]
  by_cases z:f'=f
  ·rw[if_pos z,if_pos z];exact ry
  ·rw[if_neg z,if_neg z];exact True.intro
 have wi:PySem.Within (λy'=>if y'=f then some u else none) ([(f,y)].map (·.1)):=Within.cons f u Within.nil
 have I3:Inv X p_ σ (upd H2 hh.objs.size (ju hh.objs.size [(f,y)])) {(⟨hh,g,d,tk,os⟩:Shared) with heap:=hh.push oD,toks:=tk}:=I2.laid (λb o z=>ql4 _ z) (ql7 _) (UL (by show(1:Nat)<=1000;decide) hns' rel wi);have I4:Inv X p_ σ (upd (upd H2 hh.objs.size (ju hh.objs.size [(f,y)])) a (dZ a C (some hh.objs.size))) {(⟨hh.push oD,g,d,tk,os⟩:Shared) with heap:=h',toks:=t'}:=by
  refine I3.write (x:=a) (e:=a) (by rw[aD axs,ea];exact True.intro) (.inl rfl) (λb o hb z=>?_) ?_ (Ks E1)
  ·by_cases hbs:b=hh.objs.size
   ·subst hbs;rw[hgD] at z;cases z;exact eD
   ·rw[Heap.get?_push_ne _ _ _ hbs] at z;exact keep b o hb z
  ·obtain⟨ox',_,_,z,_⟩:=id E1;exact⟨_,z⟩
 exact⟨σ,_,I4,q2 _ hf⟩
def sX1(C:Addr)(ta tv:TE)(f:Str):TS:=λD σ H=>tv σ H λy H1=>ta σ H1 λx H2=>isRef x λa=>∃dx fs,H2 a=some (dZ a C (some dx))/\H2 dx=some (ju dx fs)/\fs.length<1000/\D.nx σ (upd H2 dx (ju dx (kW f y fs)))
@[simp ↓] theorem qlB C ta tv f D σ H:sX1 C ta tv f D σ H=tv σ H λy H1=>ta σ H1 λx H2=>isRef x λa=>∃dx fs,H2 a=some (dZ a C (some dx))/\H2 dx=some (ju dx fs)/\fs.length<1000/\D.nx σ (upd H2 dx (ju dx (kW f y fs))):=rfl
theorem qhk(S:wM X.K C B)(hn:W.findIn X.K (.ref C) f=some none)(ha:PE X o ta)(hv:PE X value tv)(hs:swapsWith value (some (.Attribute o f pos')) pos.line X.env=pure false):PS X (.Assign [.Attribute o f pos'] value pos) (sX1 C ta tv f):=by
 intro p_ s σ H D I h;refine qn7 (cT (hv p_ s σ H _ I h) λu s1 z1=>?_) hs;obtain⟨y,H1,I1,ry,q⟩:=z1;refine cT (ha p_ s1 σ H1 _ I1 q) λov s2 z2=>?_;obtain⟨x,H2,I2,rx,q2⟩:=z2;obtain⟨a,rfl,dx,fs,ea,ed,hl,q2⟩:=isRef.out q2;obtain rfl:ov=Value.ref a:=rx;have E0:=BZ I2.hok ea;obtain⟨hl0,mA,hns,hr,hw⟩:=qcC I2.hok ed;obtain⟨cd,hc,_,hd⟩:=S.cl;have Mh:=I2.oU;refine qaq Mh E0.at S hn λA'=>?_;obtain⟨hh,g,d,tk,os⟩:=s2;refine qcA Mh E0 hns hc hd hw (by rw[ql9,qoc];omega) λh' t' hns' sb=>⟨rfl,?_⟩;have he:∃o,h'.get? dx=some o:=let ⟨o,_,_,e',_⟩:=hns';⟨o,e'⟩;have I4:Inv X p_ σ (upd H2 dx (ju dx (kW f y fs))) {(⟨hh,g,d,tk,os⟩:Shared) with heap:=h',toks:=t'}:=by
  refine I2.write (x:=dx) (e:=dx) (by rw[ed];exact True.intro) (.inl rfl) (λb o hb z=>(sb.2 b hb).trans z) he (UL ?_ hns' (λg'=>?_) λg' hg=>?_)
  ·have:=uc f y fs;omega
  ·show m7 ((kW f y fs).lookup g') (if g'=f then some u else mA g')
   rw[oY]
   by_cases z:g'=f
   ·rw[if_pos z,if_pos z];exact ry
   ·rw[if_neg z,if_neg z];exact hr g'
  ·by_cases z:g'=f
   ·rw[z];exact(qP f y fs).1
   ·refine(qP f y fs).2 g' (hw g' λy'=>hg ?_);show(if g'=f then some u else mA g')=none
    rw[if_neg z];exact y'
 exact⟨σ,_,I4,q2⟩
end
end L2
namespace L2
open PySem
theorem qar{K:W.Frag}{C:Addr}:W.kitOne K (.ref C) (.ref C)=some true:=by
 unfold W.kitOne;simp
theorem qcD{K:W.Frag}{C D:Addr}{b:Bool}(ne:(C == D)=false)(i:W.isClsIn K D=true) (t:W.typeIn K (.ref D)=some (.type "type")) (s:W.subIn K (.ref C) (.ref D)=some b):W.kitOne K (.ref C) (.ref D)=some b:=by
 have i':(W.clsIn K D).isSome=true:=i;have ne':C≠D:=by simpa using ne
 unfold W.kitOne W.kitCls;rw[if_neg (by simpa using ne')];show(if _ then _ else _)=_
 rw[if_pos (by rw[i',t];rfl)];exact s
theorem qfi:W.kitMeta "ValueError" = true:=by decide+kernel
theorem qfj{K:W.Frag}{C:Addr}{T:String}{b:Bool}(m:W.kitMeta T=true)(s:W.subIn K (.ref C) (.type T)=some b):W.kitOne K (.ref C) (.type T)=some b:=by
 unfold W.kitOne W.kitCls;rw[if_neg (by simp)];show(if _ then _ else _)=_
 rw[if_pos m];exact s
end L2
namespace L2
open PySem PySem.Spec PyProof.Rows PySem.SeqAt
section
variable {X:Cx}{K:W.Frag}
theorem wN:∀{bs:List Bool}{its:QAE},Vals (bs.map V.bl) its->its=bs.map Value.bool
 |[],_,r=>by rw[List.map_nil] at r;cases r;rfl
 |b::bs,_,r=>by
  rw[qmG] at r;cases r with
  |cons r1 r2=>
   rw[wN r2];cases (show _=Value.bool b from r1);rfl
def U0(K:W.Frag):V->List V->Hp->VK->Prop:=λx vs H Q=>isRef x λl=>ar1 vs λy=>oh y λk=>∃bs:List Bool,aW K H l (bs.map V.bl)/\Q (.int (bs.count k:Nat)) H
@[simp ↓] theorem qf_ (K:W.Frag) x vs H Q:U0 K x vs H Q=(isRef x λl=>ar1 vs λy=>oh y λk=>∃bs:List Bool,aW K H l (bs.map V.bl)/\Q (.int (bs.count k:Nat)) H):=rfl
theorem Rz(hK:X.K=K):VR X "list.count" (U0 K):=by
 subst hK;intro p_ s σ H x xs v us Q I rx rs q;obtain⟨l,rfl,q⟩:=isRef.out q;obtain⟨y,rfl,q⟩:=ar1.out q;obtain⟨k,rfl,bs,hl,q⟩:=oh.out q;obtain⟨u,rfl,ru⟩:=rs.one;cases (show u=Value.bool k from ru);obtain rfl:v=Value.ref l:=rx;obtain⟨its,rv,pl,hz1⟩:=I.list hl;have hi:=wN rv;subst hi;obtain⟨⟨cls,dd,data,sl⟩,ho,hc,n,hd⟩:=pl.isList;simp only at hc hd;subst hc hd;refine call_meets PySem.F.slot_list_count ⟨_,ho,rfl⟩ PySem.F.entry_list_count (PySem.F.args_list_count_2 _ _) (list_countAt l _ n dd sl (.bool k) (isBoolOf k)) ⟨ho,λy hy=>?_,?_⟩
 ·simp at hy
  rcases hy with⟨_,rfl⟩|⟨_,rfl⟩
  ·exact EqAt.bool_bool false k
  ·exact EqAt.bool_bool true k
 ·have e:((bs.map Value.bool).toArray.toList.countP (isBoolOf k):Nat)=bs.count k:=by
   show(bs.map Value.bool).countP (isBoolOf k)=_;rw[List.countP_map];rfl
  rw[e];exact⟨.int _,H,I.tok _,⟨_,rfl⟩,q⟩
theorem Aw{k:Bool}:∀{bs:List Bool}{j:Nat},j<bs.idxOf k->∀hj:j<bs.length,(bs[j] == k)=false
 |[],j,h,hj=>by simp at hj
 |b::bs,0,h,hj=>by
  rw[List.idxOf_cons] at h;cases e:(b == k) with
  |true=>rw[e] at h;simp at h
  |false=>simpa using e
 |b::bs,j+1,h,hj=>by
  rw[List.idxOf_cons] at h;cases e:(b == k) with
  |true=>rw[e] at h;simp at h
  |false=>
   rw[e] at h;simp only[cond_false] at h;simpa using Aw (bs:=bs) (j:=j) (by omega) (by simpa using hj)
def U3(K:W.Frag):V->List V->Hp->VK->Prop:=λx vs H Q=>isRef x λl=>ar1 vs λy=>oh y λk=>∃bs:List Bool,aW K H l (bs.map V.bl)/\k∈bs/\Q (.int (bs.idxOf k:Nat)) H
@[simp ↓] theorem qga (K:W.Frag) x vs H Q:U3 K x vs H Q=(isRef x λl=>ar1 vs λy=>oh y λk=>∃bs:List Bool,aW K H l (bs.map V.bl)/\k∈bs/\Q (.int (bs.idxOf k:Nat)) H):=rfl
theorem RB(hK:X.K=K):VR X "list.index" (U3 K):=by
 subst hK;intro p_ s σ H x xs v us Q I rx rs q;obtain⟨l,rfl,q⟩:=isRef.out q;obtain⟨y,rfl,q⟩:=ar1.out q;obtain⟨k,rfl,bs,hl,hk,q⟩:=oh.out q;obtain⟨u,rfl,ru⟩:=rs.one;cases (show u=Value.bool k from ru);obtain rfl:v=Value.ref l:=rx;obtain⟨its,rv,pl,hz1⟩:=I.list hl;have hi:=wN rv;subst hi;obtain⟨⟨cls,dd,data,sl⟩,ho,hc,n,hd⟩:=pl.isList;simp only at hc hd;subst hc hd;have hj:bs.idxOf k<bs.length:=List.idxOf_lt_length_iff.mpr hk;have hz2:bs.length<=sizeLine:=by simpa using hz1
 have hs:sizeLine=2 ^ 24:=rfl;refine call_meets PySem.F.slot_list_index ⟨_,ho,rfl⟩ PySem.F.entry_list_index (PySem.F.args_list_index_2 _ _)
  (list_indexAt l _ n dd sl (.bool k) (isBoolOf k) (bs.idxOf k) (by simpa using hj) (by omega) ?_ ?_) ⟨ho,λy hy=>?_,⟨.int _,H,I.tok _,⟨_,rfl⟩,q⟩⟩
 ·simp[isBoolOf]
 ·intro j hjs hlt;have h:=Aw hlt (by simpa using hjs);simpa [isBoolOf] using h
 ·simp at hy
  rcases hy with⟨_,rfl⟩|⟨_,rfl⟩
  ·exact EqAt.bool_bool false k
  ·exact EqAt.bool_bool true k
end
structure XC(K:W.Frag)(C B:Addr):Prop where
 cl:∃cd,W.clsIn K C=some cd/\cd.mro = .ref C::.ref B::mD/\cd.hasDict=true
 ty:W.typeIn K (.ref C)=some (.type "type")
 ga:W.findIn K (.ref C) "__getattribute__" = some (some (.builtin "BaseException.__getattribute__"))
 gn:W.findIn K (.ref C) "__getattr__" = some none
 gc:W.findIn K (.ref C) "__class__" = some (some (.builtin "object.__class__"))
 kp:W.keepIn K (.ref C)=true
section
variable {K:W.Frag}{C D B:Addr}
theorem XC.mro(c:XC K C B)(v:Value):W.mroIn K C v=some ((Value.ref C::Value.ref B::mD).contains v):=by
 obtain⟨cd,h1,h2,_⟩:=c.cl;unfold W.mroIn;rw[h1,Option.bind_some,h2];rfl
theorem XC.is(c:XC K C B):W.isClsIn K C=true:=by
 obtain⟨cd,h1,_⟩:=c.cl;unfold W.isClsIn;rw[h1];rfl
theorem XC.ask(c:XC K C B) (sp:W.specialIn K (.builtin "object.__class__") "__get__" = some (some (.builtin "getset_descriptor.__get__"))) (tk:W.takesIn K (.builtin "object.__class__")=some true):zN K C:=by
 obtain⟨cd,h1,_⟩:=c.cl;exact⟨⟨c.ga,c.gn,c.gc,sp,tk,by rw[c.mro];simp,by rw[c.mro];simp⟩,cd,h1⟩
theorem XC.set(c:XC K C B) (sa:W.findIn K (.ref C) "__setattr__" = some (some (.builtin "object.__setattr__"))):wM K C B:=by
 obtain⟨cd,h1,h2,h3⟩:=c.cl;exact⟨sa,by rw[c.mro];simp,cd,h1,h2,h3⟩
theorem XC.kit(c:XC K C B)(d:XC K D B)(hB:D≠B):N8 K C (.ref D)=some (decide (C=D)):=by
 show W.kitOne K (.ref C) (.ref D)=_
 by_cases h:C=D
 ·subst h;rw[qar,qm0 rfl]
 ·rw[qmx h];refine qcD (by simpa using h) d.is d.ty ?_;show W.mroIn K C (.ref D)=_;rw[c.mro];have h':D≠C:=λz=>h z.symm;simp[h',hB]
theorem XC.qkL(c:XC K C B):N8 K C (.ty "ValueError")=some true:=by
 refine qfj qfi ?_;show W.mroIn K C (.type "ValueError")=_;rw[c.mro];simp
end
def Ku:List Addr->Bool
 |[]=>true
 |a::l=>!l.contains a && Ku l
theorem H_:∀{l:List Addr},Ku l=true->l.Nodup
 |[],_=>List.Pairwise.nil
 |a::l,h=>by
  simp only[Ku,qnf,Bool.not_eq_true',List.contains_eq_mem,decide_eq_false_iff_not] at h;exact qnk.mpr ⟨h.1,H_ h.2⟩
def ar3(vs:List V)(R:V->V->V->Prop):Prop:=match vs with
 |[u,v,w]=>R u v w
 |_=>False
@[simp ↓] theorem qlC u v w R:ar3 [u,v,w] R=R u v w:=rfl
end L2
namespace L2
open PySem PySem.Spec PyProof.Rows
section
variable {M:Model}{A:Around}{E:QAB}{s:Shared}{env:Env}
variable {nm q:Str}{C N:Addr}{bs bm:QAE}{hdct:Bool}{sn:QAH}{sub:QAE}{ab:Bool}{col:Option Bool}{dd:Option Addr}{k0 k1 k2 k3 k5:QAG}{newId:String}
theorem qcE{x:Sem Value}{Q:Flow->Shared->Prop}(hh:A.handled=none)
  (h:wpAny M A x (λv s1=>∃(a C:Addr)(oe:Obj)(vs:Array Value)(nm q:Str)(N:Addr)(bs bm:QAE)(hdct:Bool)(sn:QAH)(sub:QAE)(ab:Bool)(col:Option Bool)(dd:Option Addr)(k0 k1 k2 k3 k5:QAG)(newId:String),v = .ref a/\bm.contains (.type "BaseException")=true/\
   s1.heap.get? C=some (excClassObj nm q C N bs bm hdct sn sub ab col dd k0 k1 k2 k3 k5 newId)/\s1.heap.get? a=some oe/\oe.cls = .ref C/\oe.data = .fields vs/\vs[1]? = some .none/\E (.ref a) s1) E s) :
  wpAny M A (raiseStmt env (some x) none) Q E s:=by
 unfold raiseStmt;refine ql3 (qmV h (λv s1 z=>?_) λ_ _ x=>x);obtain⟨a,C,oe,vs,nm,q,N,bs,bm,hdct,sn,sub,ab,col,dd,k0,k1,k2,k3,k5,newId,rfl,hb,hC,he,hc,hd,h1,hE⟩:=z;have hcB:(Value.ref C::bm).contains (.type "BaseException")=true:=by rw[List.contains_cons,hb,Bool.or_true]
 obtain⟨hp,g,d,tk,os⟩:=s1;obtain⟨oc,odd,oda,osl⟩:=oe;cases hc;cases hd
 repeat (first|with_reducible refine qnH he ?_|with_reducible refine qnH hC ?_|(with_reducible refine wpAny_isSubtype_exc hC ?_;rw[hcB])|wp_step)
 rw[h1];refine qmb ?_;rw[if_neg (by decide)];exact qmb (wpAny_raiseNew_none hh hE)
end
section
variable {X:Cx}{p_:QAC}{σ:St}{H:Hp}{s:Shared}
theorem Inv.qkM{a:Addr}{φ:Heap->Prop}(I:Inv X p_ σ H s)(ea:H a=some (.ext φ)):Inv X p_ σ (hid a H) s:=by
 have ne:∀{b:Addr}{u:HO},hid a H b=some u->b≠a/\H b=some u:=λ{b u} z=>by
  unfold hid at z;split at z
  ·cases z
  ·rename_i h;exact⟨h,z⟩
 have kp:∀{b:Addr}{u:HO},b≠a->H b=some u->hid a H b=some u:=λh z=>fJ h z;have nn:∀{b:Addr},H b=none->hid a H b=none:=λ{b} z=>by
  unfold hid;split
  ·rfl
  ·exact z
 refine⟨I.ok,I.os,I.bare,⟨I.base.keep,I.base.slot,λb o eb n hx=>nn (I.base.free b o eb n hx),I.base.there,λb xs q=>?_,λb o u q=>?_,λb ps q=>?_⟩,I.loc,I.cell,nn I.free,λx c q=>nn (I.iW x c q),λp hpp=>?_,λb u q=>?_,I.len⟩
 ·have z:=I.base.tups b xs q;exact kp (λy=>by rw[y,ea] at z;cases z) z
 ·have z:=I.base.tM b o u q;exact kp (λy=>by rw[y,ea] at z;cases z) z
 ·obtain⟨m,z⟩:=I.base.tO b ps q;exact⟨m,kp (λy=>by rw[y,ea] at z;cases z) z⟩
 ·obtain⟨f1,f2,f3⟩:=I.pin p hpp;exact⟨f1,nn f2,f3⟩
 ·obtain⟨hb,q'⟩:=ne q;refine(I.hok b u q').stay (λc v _ z=>z) (λc z=>?_) λc xs z=>?_
  ·exact kp (λy=>by rw[y,ea] at z;cases z) z
  ·exact kp (λy=>by rw[y,ea] at z;cases z) z
end
section
variable {X:Cx}{E:XK}{k:Nat}{C B f:Addr}{fd:FuncData}{ps:QAH}{sp:Sp}{x:Str}{np cpos pos:Pos}{e:Expr}{es:List Expr}{t:TA}
def U4(C:Addr)(sp:Sp)(E:XK)(t:TA):TS:=λ_ σ H=>t σ H λvs H1=>vs.length<=sizeLine/\∀a,H1 a=none->Ra sp (.ref a::vs) (upd H1 a (dZ a C none)) (λv H2=>v = .non/\∃od,H2 a=some (dZ a C od)/\E (.ref C) od (hid a H2)) ⟨0⟩ E0
@[simp ↓] theorem qgb C sp E t D σ H:U4 C sp E t D σ H=t σ H λvs H1=>vs.length<=sizeLine/\∀a,H1 a=none->Ra sp (.ref a::vs) (upd H1 a (dZ a C none)) (λv H2=>v = .non/\∃od,H2 a=some (dZ a C od)/\E (.ref C) od (hid a H2)) ⟨0⟩ E0:=rfl
theorem Ia(hL:Lets X E)(hex:X.ex=[])(hc:X.calm=true)(M:XMk X.K C B f)(F:bV X.prog X.w X.K X.mg X.base i_ k f fd ps sp)(hr:fL (k+1) X.A)(hg:Gl X x)(hm:X.mg x=some (.ref C))(hb:Binds X.K fd ps [])
  (ha:PA X (e::es) t) (hdb:(x == ("__debug__" : Str))=false:=by decide) (he:starEach (e::es) X.env=(false,eval e X.env)::starEach es X.env:=by rfl) (hpl:(backTo cpos (starEach es X.env)).any (·.1)=false:=by rfl) :
  PS X (.Raise (some (.Call (.Name x np) (e::es) [] cpos)) none pos) (U4 C sp E t):=by
 intro p_ s σ H D I h;show wpAny _ _ (do standAt pos;raiseStmt X.env (some (do let v <- eval (.Call (.Name x np) (e::es) [] cpos) X.env;standAt pos;pure v)) none) _ _ s
 refine ql3 (wpAny_standAt (qcE (I.ok.hd hc) (ql3 ?_)));refine qmV (Q:=λv s1=>∃(a C:Addr)(oe:Obj)(vs:Array Value)(nm q:Str)(N:Addr)(bs bm:QAE)(hdct:Bool)(sn:QAH)(sub:QAE)(ab:Bool)(col:Option Bool)(dd:Option Addr)(k0 k1 k2 k3 k5:QAG)(newId:String),v = .ref a/\bm.contains (.type "BaseException")=true/\
   s1.heap.get? C=some (excClassObj nm q C N bs bm hdct sn sub ab col dd k0 k1 k2 k3 k5 newId)/\s1.heap.get? a=some oe/\oe.cls = .ref C/\oe.data = .fields vs/\vs[1]? = some .none/\X.xe (.ref a) s1) ?_ (λv s1 z=>ql3 (wpAny_standAt (qmb z))) λ_ _ z=>z
 refine qm6 (m8 I hg hm ?_ hdb);refine W.callWith_K (h₀:=X.base) I.ok.mod.Mh M.kp (cT (ha cpos p_ s σ H _ I h) λus s1 zz=>?_) he hpl;obtain⟨vs,H1,I1,r,hz,q⟩:=zz;refine⟨I1.oU,?_⟩;obtain⟨nm,qn,N,bs,hdct,sn,sub,ab,col,dd,k0,k1,k2,k3,k5,hC⟩:=M.ob;have T:=M.tail I1.oU;have hC1:=I1.oU _ _ hC;have Mh:=I1.oU;obtain⟨hh,g,d,tk,os⟩:=s1;refine qcy Mh T M.init M.fn hC1 (λh' a mk=>?_) (by show us.length<=_;rw[<- r.length];exact hz);have new:X.s₀.heap.get? a=none:=I1.old hex mk.new;obtain⟨un,I2⟩:=I1.qhi hex mk;have hq:=q a un;have r2:Vals (V.ref a::vs) (Value.ref a::us):=.cons rfl r;have hl:(Value.ref a::us).length=ps.length:=by rw[<- r2.length];exact F.len _ _ _ _ hq
 have hbd:=hb _ (Value.ref a::us) I2.oU (by rw[qmz];exact hl);rw[qmz] at hbd;refine qn2 (qnc (F.run _ X.stack _ _ ⟨Value.ref a::us,[]⟩ (Value.ref a::us) _ _ _ (hr.make C us []) (I2.env0.make C us []) hbd r2 hq) λrr s' hq'=>?_);cases rr with
 |error z=>exact False.elim hq'
 |ok fl=>
  cases fl with
  |ret u=>
   obtain⟨v,H',I3,rv,ev,od,ea,hE⟩:=I2.after hq';subst ev;obtain⟨ox,ws,t0,g1,g2,g3,g4,g5,g6,g7⟩:=BZ I3.hok ea;refine⟨rv,a,C,ox,ws,nm,qn,N,bs,_,hdct,sn,sub,ab,col,dd,k0,k1,k2,k3,k5,_,rfl,?_,I3.oU _ _ hC,g1,g2,g3,g5,?_⟩
   ·simp[mD]
   ·refine hL p_ σ (hid a H') s' a C od (I3.qkM ea) ⟨new,?_,ox,ws,g1,by rw[g2,g7],g3,g6,.inl g5⟩ hE;unfold hid;rw[if_pos rfl]
  |next=>exact False.elim hq'
  |brk=>exact False.elim hq'
  |cont=>exact False.elim hq'
end
theorem uE.ofX{K:W.Frag}{C B f:Addr}(M:XMk K C B f)(c:XC K C B):uE K C:=λh X=>by
 obtain⟨nm,qn,N,bs,hdct,sn,sub,ab,col,dd,k0,k1,k2,k3,k5,hC⟩:=M.ob;exact⟨_,N,nm,qn,bs,hdct,sn,sub,ab,col,dd,k0,k1,k2,k3,k5,X _ _ hC,λv b e=>by rw[c.mro] at e;exact qmB e⟩
end L2
namespace L2
open PySem PySem.Spec PyProof.Rows
variable {X:Cx}
def qas:R2:=λx y H Q=>isRef x λl=>isRef y λb=>∃xs,H l=some (.tup xs)/\∃zs,H b=some (.tup zs)/\xs.length+zs.length<=sizeLine/\∀p H',H' p=some (.tup (xs++zs))->Same H H'->Q (.ref p) H'
@[simp ↓] theorem qjz x y H Q:qas x y H Q=(isRef x λl=>isRef y λb=>∃xs,H l=some (.tup xs)/\∃zs,H b=some (.tup zs)/\xs.length+zs.length<=sizeLine/\∀p H',H' p=some (.tup (xs++zs))->Same H H'->Q (.ref p) H'):=rfl
theorem Du:iY X (binaryOp .Add) qas:=by
 intro p_ s σ H x y v u Q I rx ry h;obtain⟨l,rfl,h0⟩:=isRef.out h;obtain⟨b,rfl,xs,h1,zs,h2,hz,q⟩:=isRef.out h0;obtain rfl:v=Value.ref l:=rx;obtain rfl:u=Value.ref b:=ry;obtain⟨z1,vs,r1,ht⟩:=I.hok _ _ h1;obtain⟨z2,ws,r2,hb⟩:=I.hok _ _ h2;obtain⟨⟨cls,dd,data,sl⟩,ho,hc,n,hd⟩:=id ht;obtain⟨⟨cls2,dd2,data2,sl2⟩,ho2,hc2,n2,hd2⟩:=id hb;simp only at hc hd hc2 hd2;subst hc hd hc2 hd2;have l1:=r1.length;have l2:=r2.length;have e:vs.toArray++ws.toArray=(vs++ws).toArray:=by simp
 by_cases hv:vs=[]
 ·have hx:xs=[]:=qmQ (by rw[l1,hv];rfl);exact concat_meets ⟨_,ho,rfl⟩ ⟨_,ho2,rfl⟩ noFill_tuple_add seq_tuple_add PySem.F.slot_tuple_add PySem.F.entry_tuple_add (PySem.F.args_tuple_add_2 _ _)
   (tuple_addW0 l b vs.toArray ws.toArray n n2 dd dd2 sl sl2 (by simp[hv])) ⟨ho,ho2,⟨.ref b,H,I,rfl,q b H (by rw[hx];exact h2) λ_ _ e=>e⟩⟩
 ·by_cases hw:ws=[]
  ·have hx:zs=[]:=qmQ (by rw[l2,hw];rfl);exact concat_meets ⟨_,ho,rfl⟩ ⟨_,ho2,rfl⟩ noFill_tuple_add seq_tuple_add PySem.F.slot_tuple_add PySem.F.entry_tuple_add (PySem.F.args_tuple_add_2 _ _)
    (tuple_addW1 l b vs.toArray ws.toArray n n2 dd dd2 sl sl2 (by simpa using hv) (by simp[hw])) ⟨ho,ho2,⟨.ref l,H,I,rfl,q l H (by rw[hx,qmz];exact h1) λ_ _ e=>e⟩⟩
  ·refine concat_meets ⟨_,ho,rfl⟩ ⟨_,ho2,rfl⟩ noFill_tuple_add seq_tuple_add PySem.F.slot_tuple_add PySem.F.entry_tuple_add (PySem.F.args_tuple_add_2 _ _)
    (tuple_addW2 l b vs.toArray ws.toArray n n2 dd dd2 sl sl2 (by simpa using hv) (by simpa using hw) (by rw[qmh,qmh];omega)) ⟨ho,ho2,?_⟩
   rw[e];have hn:H s.heap.objs.size=none:=I.hok.fresh (ql7 _);refine⟨.ref _,upd H s.heap.objs.size (.tup (xs++zs)),I.laid (t':=s.toks) (λ_ _ q=>ql4 _ q) (ql7 _) ⟨by rw[qmD];omega,vs++ws,r1.append r2,⟨_,qmc _ rfl,rfl,0,rfl⟩⟩,rfl,q _ _ ak λc o ec=>?_⟩;rw[aD (aN ec hn)];exact ec
def qat:R2:=λx y H Q=>isStr x λi=>isInt y λk=>(0<=k/\k<2 ^ 60)/\i.length * k.toNat<=sizeLine/\∀z:Str,z.cps.toList=(List.replicate k.toNat i.cps.toList).flatten->Q (.str z) H
@[simp ↓] theorem qjA x y H Q:qat x y H Q=(isStr x λi=>isInt y λk=>(0<=k/\k<2 ^ 60)/\i.length * k.toNat<=sizeLine/\∀z:Str,z.cps.toList=(List.replicate k.toNat i.cps.toList).flatten->Q (.str z) H):=rfl
theorem zO:∀(l:List (Array Nat))(a:Array Nat),(l.foldl (·++·) a).toList=a.toList++(l.map Array.toList).flatten
 |[],a=>by simp
 |x::l,a=>by rw[qnV,zO l];simp
theorem qau:iY X (binaryOp .Mult) qat:=by
 intro p_ s σ H x y v u Q I rx ry h;obtain⟨i,rfl,h0⟩:=isStr.out h;obtain⟨k,rfl,⟨hk0,hk1⟩,hz,q⟩:=isInt.out h0;obtain⟨t,rfl⟩:=rx;obtain⟨t',rfl⟩:=ry;have hlen:i.length=i.cps.toList.length:=by simp[Str.length]
 have hl:Builtin.Str.tooLong (i.length * k.toNat)=false:=by
  unfold Builtin.Str.tooLong;exact qmx (by omega)
 refine PySem.P.mul_str (by
  have h1:¬k < -(2 ^ 63:Int):=by omega
  have h2:¬k≥2 ^ 63:=by omega
  rw[qmx h1,qmx h2];rfl) (λh1 h2=>?_) (λh1 h2=>hl) ?_
 ·have hk:(0:Int)<k:=by omega
  have hm:(i.length:Int) * k<=2 ^ 63 - 1:=by
   have e1:((i.length * k.toNat:Nat):Int)=(i.length:Int) * k:=by rw[Int.natCast_mul,Int.toNat_of_nonneg hk0]
   have e2:sizeLine<=2 ^ 60:=by rw[qoc];decide
   rw[<- e1];omega
  have:=(Int.le_ediv_iff_mul_le hk).mpr hm;omega
 ·by_cases h1:k<1
  ·have hk:k=0:=by omega
   subst hk;rw[if_pos (by decide)];exact⟨by decide,⟨.str Str.empty,H,I.tok _,⟨_,rfl⟩,q _ (by rfl)⟩⟩
  ·rw[if_neg h1]
   by_cases h2:(k == 1 || i.length == 0)=true
   ·rw[if_pos h2];refine⟨.str i,H,I,⟨_,rfl⟩,q _ ?_⟩
    rcases Bool.or_eq_true_iff.mp h2 with h3|h3
    ·have:k=1:=by simpa using h3
     subst this;simp
    ·have h4:i.cps.toList=[]:=qmQ (by rw[<- hlen];simpa using h3);rw[h4];simp
   ·rw[if_neg h2];refine⟨?_,⟨.str _,H,I.tok _,⟨_,rfl⟩,q _ ?_⟩⟩
    ·have e:∀z:Str,z.length=z.cps.toList.length:=λz=>by simp[Str.length]
     rw[e,zO];simp only[List.nil_append,List.map_replicate,List.length_flatten,List.sum_replicate_nat];rw[hlen] at hz;simpa [Nat.mul_comm] using hz
    ·rw[zO];simp
theorem RG{K:W.Frag}{C:Addr}:W.kitAny K (.ref C) (([]:List Addr).map Value.ref)=some false:=rfl
theorem Od{K:W.Frag}{C D:Addr}{Ds:List Addr}(h1:N8 K C (.ref D)=some false)(h2:W.kitAny K (.ref C) (Ds.map Value.ref)=some false):W.kitAny K (.ref C) ((D::Ds).map Value.ref)=some false:=by
 have e1:W.kitOne K (.ref C) (.ref D)=some false:=h1;rw[qmG];unfold W.kitAny;simp[e1,h2]
end L2
namespace L2
open PySem PySem.Spec PyProof.Rows
theorem Inv.qav{X:Cx}{p_:QAC}{σ:St}{H:Hp}{s:Shared}{a:Addr}{ob:HO}(I:Inv X p_ σ H s)(new:X.s₀.heap.objs.size<=a)(fp:vK X p_ H a)(ok:cD X.prog X.w (upd H a ob) s.heap a ob):Inv X p_ σ (upd H a ob) s:=by
 obtain⟨un,f1,f2,f3,f4,f5⟩:=fp;have old:∀{b o},X.s₀.heap.get? b=some o->b≠a:=λ{b o} eb z=>by
  have:=ql8 eb;rw[z] at this;exact absurd (qmf this new) (qm5 _)
 have ne:∀{b:Addr}{u:HO},H b=some u->b≠a:=λ{b u} q z=>by
  rw[z,un] at q;cases q
 refine⟨I.ok,I.os,I.bare,⟨λb o eb n hb hx=>I.base.keep b o eb n hb hx,I.base.slot,λb o eb n hx=>?_,I.base.there,λb xs q=>?_,λb o u q=>?_,λb ps q=>?_⟩,I.loc,I.cell,?_,λx c q=>?_,λp hpp=>?_,λb u q=>?_,I.len⟩
 ·rw[aD (old eb)];exact I.base.free b o eb n hx
 ·have z:=I.base.tups b xs q;rw[aD (ne z)];exact z
 ·have z:=I.base.tM b o u q;rw[aD (ne z)];exact z
 ·obtain⟨m,z⟩:=I.base.tO b ps q;exact⟨m,by rw[aD (ne z)];exact z⟩
 ·rw[aD f1.symm];exact I.free
 ·rw[aD (f4 x c q)];exact I.iW x c q
 ·obtain⟨g1,g2,g3⟩:=I.pin p hpp;refine⟨g1,?_,g3⟩;rw[aD (f5 p hpp)];exact g2
 ·by_cases hb:b=a
  ·subst hb;rw[ak] at q;cases q;exact ok
  ·rw[aD hb] at q;refine(I.hok b u q).stay (λ_ _ _ qq=>qq) (λd qd=>?_) λd zs qd=>?_
   ·rw[aD (ne qd)];exact qd
   ·rw[aD (ne qd)];exact qd
def arT(xs:List V)(R:V->V->V->Prop):Prop:=match xs with|[x,y,z]=>R x y z|_=>False
@[simp ↓] theorem qlD x y z R:arT [x,y,z] R=R x y z:=rfl
section
variable {X:Cx}{K:W.Frag}{C D:Addr}{b:Bool}
def qdD(K:W.Frag):List V->Hp->VK->Prop:=λxs H Q=>ar2 xs λx y=>isRef x λa=>∃C od b,H a=some (Dq a C od)/\zN K C/\N8 K C y=some b/\Q (.bl b) H
theorem Oe(hK:X.K=K):cg X (.builtin "isinstance") (qdD K):=by
 subst hK;intro p_ s σ H xs us Q I r h;obtain⟨v1,v2,rfl,h⟩:=ar2.out h;obtain⟨a,rfl,C,od,b,e,⟨L,cd,hcd⟩,hk,q⟩:=isRef.out h;obtain⟨u,v,rfl,r1,r2⟩:=r.two;obtain rfl:u=Value.ref a:=r1;obtain⟨ex,_⟩:=I.hok a _ e;have go:∀{c:Value},W.kitOne X.K (.ref C) c=some b->wpAny (model X.prog X.w) X.A (call (.builtin "isinstance") [.ref a,c]) (EP X p_ σ Q) X.xe s:=λ{c} hc=>
  qn9 (N7 hcd L) I.oU ex.at hc (λz=>by cases z) λtk=>⟨.bl b,H,I.kept (λ_ _ e=>e),rfl,q⟩
 cases v2 with
 |ref D=>obtain rfl:v=Value.ref D:=r2;exact go hk
 |ty n=>obtain rfl:v=Value.type n:=r2;exact go hk
 |_=>cases hk
end
structure Clause(K:W.Frag)(D:Addr):Prop where
 ob:uE K D
 be:W.mroIn K D (.type "BaseException")=some true
section
variable {X:Cx}
theorem Kv{p_:QAC}{σ:St}{H:Hp}{s:Shared}(I:Inv X p_ σ H s)(hu:X.A.in1.units+60<cLine){kvb:List (Key×V)}{vb:List (Key×Value)}(rb:KV kvb vb):∀{kva:List (Key×V)}{va:List (Key×Value)},KV kva va->(∀p∈kva,∃u,mO kvb p.1=some u/\∃d,Is X.K H d p.2/\Is X.K H d u/\d.canLay0=true/\d.depth<=60/\PyData.eqv d d=true)->W.KeqHits X.A.in1 s vb va true
 |[],va,ra,_=>by cases ra;exact .nil
 |p::kva,va,ra,h=>by
  cases ra with
  | @cons _ q _ qs r rs=>
   obtain⟨k,v⟩:=q;obtain⟨r1,r2⟩:=r;simp only at r1 r2;obtain⟨u,hv,d,i1,i2,lay,dp,ee⟩:=h p qmr;obtain⟨y,hy,ry⟩:=m7.some_of (v:=u) (o:=valueAt vb p.1) (by rw[<- hv];exact rb.val p.1);rw[r1] at hy;obtain⟨as,g1⟩:=Is.reads I d p.2 v i1 r2;obtain⟨bs,g2⟩:=Is.reads I d u y i2 ry;have e:=SeqAt.eqAt_reads d d X.A.in1 s v y as bs g1 g2 lay lay (by rw[Nat.min_self];omega);rw[ee] at e;exact W.KeqHits.hit hy e (Kv I hu rb rs λp hp=>h p (qmp _ hp))
end
end L2
namespace L2
open PySem
theorem Kw{fx:Nat->Option Int}{ps:QAD}{n:Nat}{a b:Str}:(n,a,b)∈aH fx ps 0↔∃e,ps[n]? = some e/\(((fx n).getD 0=0/\a=e.1/\b=e.2)\/((fx n).getD 1=1/\a=e.2/\b=e.1)):=by
 rw[jE];constructor
 ·rintro⟨j,e,h1,h2⟩;obtain⟨h3,h4⟩:=lg.mp h2;rw[qm7] at h3 h4;simp only at h3 h4;subst h3;exact⟨e,h1,h4⟩
 ·rintro⟨e,h1,h2⟩;exact⟨n,e,h1,lg.mpr ⟨by simp,by rw[qm7];exact h2⟩⟩
end L2
namespace L2
open PySem PySem.Spec
section
variable {σ:St}{H:Hp}{p:Addr}
variable {φ:PyData->Prop}
end
theorem qaw{n j:Nat}{d:Nat}:HT.uf n d (some (j:Int))=min j n:=by
 simp[HT.uf];intro h;omega
theorem qfk{xs:List V}{j:Nat}:mC xs none (some (j:Int))=xs.take j:=by
 unfold mC;rw[qaw];simp[HT.uf,List.take_eq_take_iff]
theorem qax{xs:List V}{j:Nat}:mC xs (some (j:Int)) none=xs.drop j:=by
 unfold mC;rw[qaw];simp[HT.uf];rw[qng (by simp)]
 by_cases h:j<=xs.length
 ·rw[qnm h]
 ·rw[Nat.min_eq_right (by omega),qnM (ql7 _),qnM (by omega)]
structure Ltr(n:Nat)(x:Str):Prop where
 cp:∀c∈x.cps.toList,c<16 ^ 8
 ln:x.length<=n
section
variable {σ:St}{H:Hp}{p:Addr}{K:W.Frag}
theorem B_{vs:List V}{k:Int}{n:Nat}(h:vs.length=n)(h0:0<=k)(h1:k<n):∃v,v∈vs/\Gi vs k=some v:=by
 obtain⟨v,hv⟩:∃v,vs[k.toNat]? = some v:=⟨_,qmM (show k.toNat<vs.length by omega)⟩;refine⟨v,ql_ hv,?_⟩;rw[show k=(k.toNat:Int) by omega];exact bD hv
end
section
variable {σ:St}{H:Hp}{p:Addr}{K:W.Frag}
mutual
theorem bU.x{H:Hp}:∀(d:PyData)(v:V),bU H d v->fM H d v
 |.none,v,h=>by simp only[bU,fM] at h⊢;exact h
 |.bool b,v,h=>by simp only[bU,fM] at h⊢;exact h
 |.int i,v,h=>by simp only[bU,fM] at h⊢;exact h
 |.str x,v,h=>by simp only[bU,fM] at h⊢;exact h
 |.list ds,v,h=>by
  simp only[bU,fM] at h⊢;obtain⟨a,xs,e,h1,h2⟩:=h;exact⟨a,xs,e,h1,aM.x ds xs h2⟩
 |.tuple ds,v,h=>by
  simp only[bU,fM] at h⊢;obtain⟨a,xs,e,h1,h2⟩:=h;exact⟨a,xs,e,h1,aM.x ds xs h2⟩
 |.dict kvs,v,h=>by
  simp only[bU,fM] at h⊢;obtain⟨rfl,a,e,h1⟩:=h;exact⟨a,e,.inl ⟨[],.nil,h1⟩⟩
theorem aM.x{H:Hp}:∀(ds:List PyData)(vs:List V),aM H ds vs->cA H ds vs
 |[],vs,h=>by simp only[aM,cA] at h⊢;exact h
 |d::ds,vs,h=>by
  simp only[aM,cA] at h⊢;obtain⟨v,r,e,h1,h2⟩:=h;exact⟨v,r,e,bU.x d v h1,aM.x ds r h2⟩
end
theorem qay:GD p Q6 σ H (.dict []):=λH1 Q hp s q b hb=>q _ _ (aq hb) (by simp only[bU];exact⟨trivial,b,rfl,fJ (qm hp s hb) ak⟩)
theorem zP{H:Hp}:∀{ds:List PyData}{xs:List V}(j:Nat),aM H ds xs->aM H (ds.take j) (xs.take j)
 |ds,xs,0,h=>by simp[aM]
 |[],xs,j+1,h=>by simp only[aM] at h;subst h;simp[aM]
 |d::ds,xs,j+1,h=>by
  simp only[aM] at h;obtain⟨v,r,rfl,h1,h2⟩:=h;simp only[List.take_succ_cons,aM];exact⟨v,_,rfl,h1,zP j h2⟩
theorem Ib{H:Hp}:∀{ds:List PyData}{xs:List V}(j:Nat),aM H ds xs->aM H (ds.drop j) (xs.drop j)
 |ds,xs,0,h=>by simpa using h
 |[],xs,j+1,h=>by simp only[aM] at h;subst h;simp[aM]
 |d::ds,xs,j+1,h=>by
  simp only[aM] at h;obtain⟨v,r,rfl,h1,h2⟩:=h;simp only[List.drop_succ_cons];exact Ib j h2
theorem RJ{ta tb:TE}{ds es:List PyData}(h1:GD p ta σ H (.list ds))(h2:GD p tb σ H (.list es))(hl:ds.length+es.length<=sizeLine):GD p (Mr qch ta tb) σ H (.list (ds++es)):=λH1 Q hp s q=>
 h1 H1 _ hp s λv H2 s2 hv=>h2 H2 _ hp (s.trans s2) λu H3 s3 hu=>by
  have hv:=bU.same (cG s3) _ _ hv;simp only[bU] at hv hu;obtain⟨a,xs,rfl,a1,a2⟩:=hv;obtain⟨b,ys,rfl,b1,b2⟩:=hu;have l1:=a2.length;have l2:=b2.length;refine⟨xs,ig _ _ a1,ys,ig _ _ b1,by omega,λc hc=>q _ _ (s2.trans (s3.trans (aq hc))) ?_⟩;simp only[bU];exact⟨c,_,rfl,fJ (qm hp (s.trans (s2.trans s3)) hc) ak,aM.same (cG (aq hc)) _ _ (aM.append a2 b2)⟩
theorem U5{H':Hp}{l:Addr}{ys:List V}(hl:∃xs,H p=some (.lst xs))(s:Same H H')(e:H' l=some (.tup ys)):l≠p:=λz=>by
 obtain⟨xs,h⟩:=hl;have:=s _ _ h;rw[<- z,e] at this;cases this
theorem Ky{ta tb:TE}{ds es:List PyData}(hl0:∃xs,H p=some (.lst xs))(h1:GD p ta σ H (.tuple ds))(h2:GD p tb σ H (.tuple es))(hl:ds.length+es.length<=sizeLine):GD p (Mr qas ta tb) σ H (.tuple (ds++es)):=λH1 Q hp s q=>
 h1 H1 _ hp s λv H2 s2 hv=>h2 H2 _ hp (s.trans s2) λu H3 s3 hu=>by
  have hv:=bU.same (cG s3) _ _ hv;simp only[bU] at hv hu;obtain⟨a,xs,rfl,a1,a2⟩:=hv;obtain⟨b,ys,rfl,b1,b2⟩:=hu;have l1:=a2.length;have l2:=b2.length;refine⟨xs,ig _ _ a1,ys,ig _ _ b1,by omega,λc H4 hc s4=>q _ _ (s2.trans (s3.trans s4)) ?_⟩;simp only[bU];exact⟨c,_,rfl,fJ (U5 hl0 (s.trans (s2.trans (s3.trans s4))) hc) hc,aM.same (cG s4) _ _ (aM.append a2 b2)⟩
theorem Dv{t:TE}{ds:List PyData}(hl0:∃xs,H p=some (.lst xs))(h1:GD p t σ H (.list ds)):GD p (tCB BP (ud t Bq)) σ H (.tuple ds):=λH1 Q hp s q=>
 h1 H1 _ hp s λv H2 s2 hv=>by
  simp only[bU] at hv;obtain⟨a,xs,rfl,a1,a2⟩:=hv;refine⟨xs,.inl (ig _ _ a1),λc H4 hc s4=>q _ _ (s2.trans s4) ?_⟩;simp only[bU];exact⟨c,_,rfl,fJ (U5 hl0 (s.trans (s2.trans s4)) hc) hc,aM.same (cG s4) _ _ a2⟩
theorem qdE{t tj:TE}{ds:List PyData}{j:Nat}(h1:GD p t σ H (.list ds))(h2:GD p tj σ H (.int j)):GD p (tSl (Ww K) t xX (NT tj)) σ H (.list (ds.take j)):=λH1 Q hp s q=>
 h1 H1 _ hp s λv H2 s2 hv=>h2 H2 _ hp (s.trans s2) λu H3 s3 hu=>by
  have hv:=bU.same (cG s3) _ _ hv;simp only[bU] at hv hu;subst hu;obtain⟨a,xs,rfl,a1,a2⟩:=hv;refine⟨xs,aW.of (ig _ _ a1),λc hc=>q _ _ (s2.trans (s3.trans (aq hc))) ?_⟩;rw[qfk];simp only[bU];exact⟨c,_,rfl,fJ (qm hp (s.trans (s2.trans s3)) hc) ak,aM.same (cG (aq hc)) _ _ (zP j a2)⟩
theorem U6{t tj:TE}{ds:List PyData}{j:Nat}(h1:GD p t σ H (.list ds))(h2:GD p tj σ H (.int j)):GD p (tSl (Ww K) t (NT tj) xX) σ H (.list (ds.drop j)):=λH1 Q hp s q=>
 h1 H1 _ hp s λv H2 s2 hv=>h2 H2 _ hp (s.trans s2) λu H3 s3 hu=>by
  have hv:=bU.same (cG s3) _ _ hv;simp only[bU] at hv hu;subst hu;obtain⟨a,xs,rfl,a1,a2⟩:=hv;refine⟨xs,aW.of (ig _ _ a1),λc hc=>q _ _ (s2.trans (s3.trans (aq hc))) ?_⟩;rw[qax];simp only[bU];exact⟨c,_,rfl,fJ (qm hp (s.trans (s2.trans s3)) hc) ak,aM.same (cG (aq hc)) _ _ (Ib j a2)⟩
theorem qfl{ta tb:TE}{i j:Int}{g:Int->Int->Int}(h1:GD p ta σ H (.int i))(h2:GD p tb σ H (.int j)):GD p (Mr (Zy λi j=>.int (g i j)) ta tb) σ H (.int (g i j)):=λH1 Q hp s q=>
 h1 H1 _ hp s λv H2 s2 hv=>h2 H2 _ hp (s.trans s2) λu H3 s3 hu=>by
  simp only[bU] at hv hu;subst hv hu;exact q _ H3 (s2.trans s3) (by simp[bU])
theorem qfm{ta:TE}{i:Int}(h1:GD p ta σ H (.int i)):GD p (tUn (fU λi=>.int (-i)) ta) σ H (.int (-i)):=λH1 Q hp s q=>
 h1 H1 _ hp s λv H2 s2 hv=>by
  simp only[bU] at hv;subst hv;exact q _ H2 s2 (by simp[bU])
theorem qfn{t:TE}{ds:List PyData}(h1:GD p t σ H (.list ds)):GD p (tCB (Hz K) (ud t Bq)) σ H (.int ds.length):=λH1 Q hp s q=>
 h1 H1 _ hp s λv H2 s2 hv=>by
  simp only[bU] at hv;obtain⟨a,xs,rfl,a1,a2⟩:=hv;refine⟨xs,.inl (aW.of (ig _ _ a1)),q _ _ s2 ?_⟩;rw[a2.length];simp[bU]
def Gw(φ:PyData->Prop)(H:Hp)(vs:List V):Prop:=∀v∈vs,∃d,bU H d v/\φ d
theorem Gw.same{φ:PyData->Prop}{H H':Hp}{vs:List V}(h:Gw φ H vs)(s:Same H H'):Gw φ H' vs:=λv hv=>by
 obtain⟨d,h1,h2⟩:=h v hv;exact⟨d,bU.same s d v h1,h2⟩
theorem Gw.app{φ:PyData->Prop}{H:Hp}{vs us:List V}(h:Gw φ H vs)(k:Gw φ H us):Gw φ H (vs++us):=λv hv=>(qmm.mp hv).elim (h v) (k v)
def GT(φ:PyData->Prop)(p:Addr)(t:TE)(σ:St)(H:Hp):Prop:=∀(H1:Hp)(Q:VK),(∃o,H p=some o)->Same H H1->(∀v d H2,Same H1 H2->bU (hid p H2) d v->φ d->Q v H2)->t σ H1 Q
def GTs(φ:PyData->Prop)(p:Addr)(n:Nat)(t:TA)(σ:St)(H:Hp):Prop:=∀(H1:Hp)(Q:List V->Hp->Prop),(∃o,H p=some o)->Same H H1->(∀vs H2,Same H1 H2->vs.length=n->Gw φ (hid p H2) vs->Q vs H2)->t σ H1 Q
variable {φ:PyData->Prop}
theorem Kz:GTs φ p 0 Bq σ H:=λH1 Q _ _ q=>q [] H1 (Same.refl _) rfl λv hv=>absurd hv (by simp)
theorem cN{ta:TE}{tr:TA}{n:Nat}(h1:GT φ p ta σ H)(h2:GTs φ p n tr σ H):GTs φ p (n+1) (ud ta tr) σ H:=λH1 Q hp s q=>
 h1 H1 _ hp s λv d H2 s2 hv hd=>h2 H2 _ hp (s.trans s2) λvs H3 s3 hl hvs=>q _ H3 (s2.trans s3) (by simp[hl]) λu hu=>by
  rcases qmd.mp hu with rfl|hu
  ·exact⟨d,bU.same (cG s3) d _ hv,hd⟩
  ·exact hvs u hu
theorem jW{t:TE}{d:PyData}(h:GD p t σ H d)(hf:φ d):GT φ p t σ H:=λH1 Q hp s q=>h H1 Q hp s λv H2 s2 hv=>q v d H2 s2 hv hf
theorem qfo{ta tb:TE}{x:Str}{k:Nat}(h1:GD p ta σ H (.str x))(h2:GD p tb σ H (.int k))(hk:k<=1000)(hl:x.length * k<=sizeLine)(hf:∀z:Str,z.cps.toList=(List.replicate k x.cps.toList).flatten->φ (.str z)):GT φ p (Mr qat ta tb) σ H:=λH1 Q hp s q=>
 h1 H1 _ hp s λv H2 s2 hv=>h2 H2 _ hp (s.trans s2) λu H3 s3 hu=>by
  simp only[bU] at hv hu;subst hv hu;exact⟨⟨by omega,by omega⟩,hl,λz hz=>q _ _ H3 (s2.trans s3) (by simp[bU]) (hf z hz)⟩
theorem Dw{t:TA}{n:Nat}(h:GTs φ p n t σ H)(hp:∃o,H p=some o)(hl:n<=sizeLine){Q:VK}(q:∀b vs H2,H b=none->Same H H2->vs.length=n->H2 b=some (.lst vs)->Gw φ (hid p H2) vs->Q (.ref b) H2):big (YH t) σ H Q:=
 ⟨h H _ hp (Same.refl _) λvs H2 s2 hn hv=>⟨by rw[hn];exact hl,λb hb=>q b vs _ (bQ s2 hb) (s2.trans (aq hb)) hn ak (hv.same (cG (aq hb)))⟩⟩
end
end L2
namespace L2
open PySem PySem.Spec
section
variable {X:Cx}
def qdF(t:TE):TE:=λσ H Q=>t σ H λx H1=>isInt x λi=>i.natAbs.log2<1920/\Q (.str (toString i)) H1
@[simp ↓] theorem qjB t σ H Q:qdF t σ H Q=(t σ H λx H1=>isInt x λi=>i.natAbs.log2<1920/\Q (.str (toString i)) H1):=rfl
theorem qfp{e:Expr}{pos:Pos}{t:TE}(h:PE X e t):PF X (.FormattedValue e (-1) none pos) (qdF t):=λp_ s σ H Q I hq=>
 wpAny_FormattedValue_plain (cT (h p_ s σ H _ I hq) λv s1 ⟨x,H1,I1,r,q⟩=>by
  obtain⟨i,rfl,hi,q1⟩:=isInt.out q;obtain⟨y,e1,_,q2⟩:=isStr.out q1;cases e1;obtain⟨tk,rfl⟩:=r;exact wpAny_formatField_int hi ⟨_,_,H1,rfl,I1.tok _,q2⟩)
end
end L2
namespace L2
open PySem PySem.Spec PyProof.Rows
def RK(c':Addr)(qual:Str):HO:=.ext λh=>h.CodeRec (.ref c') qual
def TabOk(pos:Pos)(qual:Str)(P:Addr)(H:Hp):Prop:=
 H P=some (.xR #[])\/∃c',H P=some (.xR #[rawInt pos.line,rawInt pos.col,.ref c'])/\H c'=some (RK c' qual)
theorem TabOk.same{pos:Pos}{qual:Str}{P:Addr}{H H':Hp}(t:TabOk pos qual P H)(s:Same H H'):TabOk pos qual P H':=by
 rcases t with t|⟨c,t,u⟩
 ·exact .inl (s _ _ t)
 ·exact .inr ⟨c,s _ _ t,s _ _ u⟩
theorem TabOk.but{pos:Pos}{qual:Str}{P p:Addr}{H H':Hp}{xs:List V}(t:TabOk pos qual P H)(hp:H p=some (.lst xs))(s:But p H H'):TabOk pos qual P H':=by
 rcases t with t|⟨c,t,u⟩
 ·exact .inl (s _ _ (jN t hp (by simp)) t)
 ·exact .inr ⟨c,s _ _ (jN t hp (by simp)) t,s _ _ (jN u hp (by simp[RK])) u⟩
theorem qcF{P:Program}{w:World}{H:Hp}{h:Heap}{c':Addr}{qual:Str}(r:h.CodeRec (.ref c') qual):cD P w H h c' (RK c' qual):=by
 refine⟨r,?_,λh1 h2 r1 k=>?_⟩
 ·obtain⟨c,o,_,_,e,ho,_⟩:=r;cases e;exact⟨o,ho⟩
 ·obtain⟨c,o,vs,t,e,ho,d⟩:=r1;cases e;exact⟨c',o,vs,t,rfl,k o ho,d⟩
section
variable {P:Program}{w:World}{K:W.Frag}{mg:Str->Option Value}{base:Heap}
theorem qcG{A:Around}{outer:List Env}{s:Shared}{H:Hp}{f c':Addr}{name qual:Str}{params:Arguments}{body:Expr}{scope:Scope}{pm ctv:Value}{N ps:QAH}{us:QAE}{vs:List V}{Q:VK}{k:Nat}{t:TE}
  (hr:fL (k+1) A) (e0:Br P w K mg base A outer s H) (ho:s.heap.get? f=some (W.kla_obj name qual params body scope [] pm c' ctv)) (hcd:s.heap.CodeRec (.ref c') qual) (S:aQ N ps scope)
  (hb:bindArgs (W.kla_fn name qual params body scope [] pm (.ref c') ctv) ⟨us,[]⟩=pure (ps.zip us)) (r:Vals vs us) (hl:vs.length=ps.length)
  (ht:PE (au i_ P w K mg base N qual scope f (.ref c') A outer s H E0) body t) (hq:t (start N vs) H Q) :
  codeAny (model P w) A (.call (.ref f) ⟨us,[]⟩) (CR i_ outer P w H s Q E0) s:=by
 have lim:s.heap.NoLimit:=e0.mod.nolimit.keeps λb o e=>(e0.bs b o e).1;have hkind:∀y∈ps.zip us,scope.names.lookup y.1=some .local\/(scope.names.lookup y.1=some .cell/\((cellsFrom (s.heap.objs.size+1) scope.names []).lookup y.1).isSome=true):=λ⟨n,v⟩ hy=>by
  rcases S.par n (List.of_mem_zip hy).1 with q|q
  ·exact .inl q
  ·exact .inr ⟨q,W.cellsFrom_some _ _ _ (.inl q)⟩
 refine W.kla_callFunE hr.depth ho rfl S.co S.gen rfl hcd ?_;rw[hb];refine qmb (wpAny_newFunctionEnv_cells S.kind hkind λenv he s1 x=>?_);subst he;refine⟨lim.keeps x.toInCall.keep,W.kla_codeExpr ?_⟩;have I:Inv (au i_ P w K mg base N qual scope f (.ref c') A outer s H E0) [] (start N vs) H s1:=zx S hr.hd e0 hl r x;refine qmV (ht [] s1 (start N vs) H _ I hq) (λu s' hs=>?_) λe s' hs=>hs;obtain⟨v,H',J,rv,q⟩:=hs;exact⟨v,H',J.os,J.bare,J.base,J.hok,rv,q⟩
end
section
variable {X:Cx}{p_:QAC}{σ:St}{H:Hp}{s:Shared}
theorem qaz{M:Model}{A:Around}{E:QAB}{Q:QAB}{c P:Addr}{pos:Pos}{qual:Str}{params:Arguments}{body:Expr}{scope:Scope}{ln:Nat}(I:Inv X p_ σ H s)(hc:X.env.code = .ref c)(C:W.CodeHd X.base c P)(hb:X.base.BuiltinsAt X.mg P)
  (hT:TabOk pos qual P H) (hcl:closureFor scope X.env=pure [])
  (h:∀f c' pm ctv H' s',Inv X p_ σ H' s'->But P H H'->TabOk pos qual P H'->s'.heap.get? f=some (W.kla_obj "<lambda>" qual params body scope [] pm c' ctv)->s.heap.objs.size<=f->f<s'.heap.objs.size->H' f=none->H' c'=some (RK c' qual)->Q (.ref f) s') :
  wpAny M A (makeFunction "<lambda>" qual params (.expr body) scope X.env [] [] [] pos ln) Q E s:=by
 have hg:s.heap.Ns mainGlobals X.mg:=I.ok.mod.glob.keeps I.bk;have hbs:s.heap.BuiltinsAt X.mg P:=by
  obtain⟨bm,o,h1,h2,h3,h4,h5,h6⟩:=hb;exact⟨bm,o,h1,h2,h3,h4,I.bk _ _ h5,h6⟩
 have hgP:∀{ps},H P=some (.xR ps)->mainGlobals≠P:=λhP q=>by
  obtain⟨o,_,_,e,_⟩:=I.ok.mod.glob;have:=(I.bs _ _ e).2;rw[q,hP] at this;cases this
 rcases hT with hP|⟨c',hP,hc'⟩
 ·have gP:s.heap.get? P=some (W.tabObj #[]):=I.hok P _ hP;refine W.kla_makeFunction (mg:=X.mg) hcl I.ok.glob hg hc (C.keeps I.bk) gP trivial rfl (hgP hP) hbs λc' ctv h' tk hx hge hlt hrec htb=>?_;have hps:(#[]:Array Value)++#[rawInt pos.line,rawInt pos.col,.ref c'] = #[rawInt pos.line,rawInt pos.col,.ref c']:=by simp
  rw[hps] at htb;have nP:∀{b:Addr},H b=none->b≠P:=λe z=>by rw[z,hP] at e;cases e
  have nc:∀{b:Addr}{o:Obj},s.heap.get? b=some o->b≠c':=λe=>qmg (qmf (ql8 e) hge);have nc2:∀{b:Addr}{o:HO},H b=some o->b≠c':=λe=>qmg (qmf (I.hok.lt e) hge);have hPc:P≠c':=nc2 hP;have kp:∀b o,b≠P->s.heap.get? b=some o->(h'.push (W.kla_obj "<lambda>" qual params body scope [] ((X.mg "__name__").getD .none) c' ctv)).get? b=some o:=λb o n e=>ql4 _ (hx b o n e);have qhl:=ql4 (W.kla_obj "<lambda>" qual params body scope [] ((X.mg "__name__").getD .none) c' ctv) htb;have at1:∀{b:Addr},b≠P->b≠c'->upd (upd H P (.xR #[rawInt pos.line,rawInt pos.col,.ref c'])) c' (RK c' qual) b=H b:=λn1 n2=>by rw[aD n2,aD n1]
  have atP:upd (upd H P (.xR #[rawInt pos.line,rawInt pos.col,.ref c'])) c' (RK c' qual) P=some (.xR #[rawInt pos.line,rawInt pos.col,.ref c']):=by rw[aD hPc,ak]
  have J:Inv X p_ σ (upd (upd H P (.xR #[rawInt pos.line,rawInt pos.col,.ref c'])) c' (RK c' qual)) {s with heap:=h'.push (W.kla_obj "<lambda>" qual params body scope [] ((X.mg "__name__").getD .none) c' ctv),toks:=tk}:=by
   refine I.step (ch:=[]) (by simp) (λb o _ _ _ e n=>kp b o (nP n) e) (λb o _ _ _ e n=>⟨o.slots,kp b o (nP n) e⟩) (λb o _ e n=>?_) (λb o _ e=>?_) (λb xs e=>?_) (λb o u e=>?_) (λb ps e=>?_) (λm hm=>?_) (λb u e=>?_) I.bare
   ·rw[at1 (nP n) (nc e)];exact n
   ·by_cases z:b=P
    ·exact⟨_,by rw[z];exact qhl⟩
    ·exact⟨o,kp b o z e⟩
   ·rw[at1 (jN e hP (by simp)) (nc2 e)];exact e
   ·rw[at1 (jN e hP (by simp)) (nc2 e)];exact e
   ·by_cases z:b=P
    ·subst z;rw[hP] at e;cases e;exact⟨#[rawInt pos.line,rawInt pos.col,.ref c'],by rw[atP];simp⟩
    ·exact⟨#[],by rw[at1 z (nc2 e),e];simp⟩
   ·exact(hm.extBut hx (λz=>nP I.free z)).push _
   ·by_cases z1:b=c'
    ·subst z1;rw[ak] at e;cases e;refine qcF ?_;obtain⟨c,o,vs,t,e,ho,d⟩:=hrec;exact⟨c,o,vs,t,e,ql4 _ ho,d⟩
    ·by_cases z2:b=P
     ·subst z2;rw[atP] at e;cases e;exact qhl
     ·rw[at1 z2 z1] at e;refine(I.hok b u e).stay (λd v hd q=>kp d v ?_ q) (λd q=>by rw[at1 (jN q hP (by simp)) (nc2 q)];exact q) λd xs q=>by rw[at1 (jN q hP (by simp)) (nc2 q)];exact q
      rcases hd with rfl|hd
      ·exact z2
      ·exact jN hd hP (by simp)
  exact h _ c' _ ctv _ _ J (λb o n e=>by rw[at1 n (nc2 e)];exact e) (.inr ⟨c',atP,ak⟩) (qmc _ rfl) (qme hge (qnr hlt)) (by show h'.objs.size<(Heap.push h' _).objs.size;rw[qmK];exact qmS _)
   (by rw[at1 (λz=>?_) (qns hlt)];exact I.hok.fresh (qme hge (qnr hlt));exact absurd (I.hok.lt hP) (by rw[<- z];exact Nat.not_lt.mpr (qme hge (qnr hlt)))) ak
 ·have gP:s.heap.get? P=some (W.tabObj #[rawInt pos.line,rawInt pos.col,.ref c']):=I.hok P _ hP;refine W.kla_makeFunctionHit (mg:=X.mg) (cv:=.ref c') hcl I.ok.glob hg hc (C.keeps I.bk) gP (by simp[TriplesOk,rawInt]) (by simp[codeAmong,rawInt]) hbs λctv h' tk hk hsz=>?_;exact h _ c' _ ctv H _ (I.kept λb o e=>ql4 _ (hk b o e)) (λb o _ e=>e) (.inr ⟨c',hP,hc'⟩) (qmc _ rfl) hsz (by show h'.objs.size<(Heap.push h' _).objs.size;rw[qmK];exact qmS _) (I.hok.fresh hsz) hc'
end
section
variable {X:Cx}{p_:QAC}{σ:St}{H:Hp}{s:Shared}
structure Rec(X:Cx)(p_:QAC)(H:Hp)(it:Addr):Prop where
 no:H it=none
 loc:it≠X.env.locals
 ab:X.s₀.heap.objs.size<=it
 cel:∀x c,X.env.cells.lookup x=some c->c≠it
 pin:∀p∈X.pn++p_,p.1≠it
theorem Inv.rcd(I:Inv X p_ σ H s){it:Addr}(h:s.heap.objs.size<=it):Rec X p_ H it where
 no:=I.hok.fresh h
 loc:=qns (qmf I.lt h)
 ab:=qme I.sz h
 cel:=λx c e z=>by
  obtain⟨v,o,ho,_⟩:=I.cell x c e;exact absurd (qmf (ql8 ho) h) (by rw[z];exact qm5 _)
 pin:=λp hp z=>by
  have:=ql8 (I.pin p hp).1;exact absurd (qmf this h) (by rw[z];exact qm5 _)
theorem Inv.turn{t':Nat}{it:Addr}{h':Heap}(I:Inv X p_ σ H s)(R:Rec X p_ H it)(k:∀b o,b≠it->s.heap.get? b=some o->h'.get? b=some o):Inv X p_ σ H {s with heap:=h',toks:=t'}:=
 I.turned k R.no R.loc (.inr R.ab) R.cel R.pin
def qdG(X:Cx)(p_:QAC)(σ:St)(H:Hp)(n:Nat)(k:Int)(s:Shared)(u:Value)(s':Shared):Prop:=
 ∃t,u = .int k t/\Inv X p_ σ H s'/\∀b o,n<=b->H b=none->s.heap.get? b=some o->s'.heap.get? b=some o
end
theorem aW.qcH{K:W.Frag}{H H':Hp}{P a:Addr}{xs:List V}{ps:Array Value}(h:aW K H a xs)(hP:H P=some (.xR ps))(b:But P H H'):aW K H' a xs:=by
 rcases h with(h|⟨o,h⟩)|h
 ·exact .inl (.inl (b _ _ (jN h hP (by simp)) h))
 ·exact .inl (.inr ⟨o,b _ _ (jN h hP (by simp)) h⟩)
 ·exact .inr h
theorem eG.qcH{K:W.Frag}{H H':Hp}{P a:Addr}{xs:List V}{ps:Array Value}(h:eG K H a xs)(hP:H P=some (.xR ps))(b:But P H H'):eG K H' a xs:=by
 rcases h with(h|⟨o,h⟩)|h
 ·exact .inl (.inl (b _ _ (jN h hP (by simp)) h))
 ·exact .inl (.inr ⟨o,b _ _ (jN h hP (by simp)) h⟩)
 ·exact .inr h
theorem TabOk.tb{pos:Pos}{qual:Str}{P:Addr}{H:Hp}(t:TabOk pos qual P H):∃ps,H P=some (.xR ps):=by
 rcases t with t|⟨c,t,_⟩
 ·exact⟨_,t⟩
 ·exact⟨_,t⟩
structure U7(fd:FuncData)(base:Heap)(mg:Str->Option Value)(c P:Addr):Prop where
 cd:fd.code = .ref c
 hd:W.CodeHd base c P
 bt:base.BuiltinsAt mg P
theorem dj.okC{P:Program}{w:World}{K:W.Frag}{mg:Str->Option Value}{base:Heap}{x qual:Str}{st:Stmt}{f c:Addr}{fd:FuncData}{N ps:QAH}{k:Nat}{sp:Sp}(F:dj K x qual st f fd)(hc:fd.code = .ref c)(S:aQ N ps (aB st))(len:∀vs H Q E,sp vs H Q E->vs.length=ps.length)
  (hbody:∀(A:Around)(outer:List Env)(s:Shared)(H:Hp)(vs:List V)(Q:VK)(E:XK),fL k (A.deeper (envOfC qual (aB st) s.heap.objs.size f (.ref c)))->sp vs H Q E->
   ∃t,Ge (au i_ P w K mg base N qual (aB st) f (.ref c) A outer s H E).T8 (gj st) t/\t {nx:=λ_ H'=>Q .non H',rt:=Q} (jT N vs) H):bV P w K mg base i_ (k+1) f fd ps sp:=by
 obtain⟨oc,od,kV,doc,pm,an,cdv,ct,osl,rfl,lk,hcd⟩:=F.ex;obtain rfl:cdv = .ref c:=hc;refine YT lk hcd S len λA outer s H vs Q E hr hsp=>?_;obtain⟨t,h,q⟩:=hbody A outer s H vs Q E hr hsp;refine⟨t,h.T8,?_⟩;have hl:=len _ _ _ _ hsp;have hp:ps.length<=N.length:=by have:=qmA List.length S.pre;rw[qmk] at this;omega
 rw[nH N vs (by omega)] at q;exact q
def qhm(P:Addr)(H:Hp):Prop:=∀b,b≠P->H b=none\/∃o xs,H b=some (.Mg o (.lst xs))
theorem WW{P:Program}{w:World}{K:W.Frag}{mg mb:Str->Option Value}{CX:YJ}{k:Nat}{fa a c Pt:Addr}{fd:FuncData}{x:Str}{sp:Sp}{s₁:Shared}{vs:QAE}{ns:List Int}
  (KX:K.In s₁.heap) (hns:s₁.heap.Ns mainGlobals mg) (hb:s₁.heap.Ns builtinsNs mb) (hbb:∀x:Str,x≠ "__name__" ->mb x=bootBuiltins x) (hlim:s₁.heap.NoLimit) (hg:s₁.gens = #[])
  (ha:s₁.heap.get? a=some {cls:=.type "list",data:=.seq vs.toArray}) (hi:IntsAre vs ns) (hl:ns.length<=sizeLine) (hr:fL k callerA)
  (hC:W.CodeHd s₁.heap c Pt) (hPt:s₁.heap.get? Pt=some (W.tabObj #[])) (hKP:K.lookup Pt=none) (hBA:s₁.heap.BuiltinsAt mg Pt)
  (F:∀base:Heap,K.In base->base.Ns mainGlobals mg->W.CodeHd base c Pt->base.BuiltinsAt mg Pt->bV P w K mg base CX k fa fd [x] sp) (hbind:∀(s:Shared)(u:Value),BindsTo s fd ⟨[u],[]⟩ [(x,u)])
  (hsp:∀H:Hp,H Pt=some (.xR #[])->aW K H a (ns.map V.int)->sp [.ref a] H (λv _=>v = .bl true) λ_ _ _=>False)
  (hCX:∀H e s',CX [] H s₁ (λ_ _ _=>False) e s'->False) :
  codeAny (model P w) callerA (.call (.ref fa) ⟨[.ref a],[]⟩) (λr s'=>r = .ok (.ret (.bool true))/\OldK s₁.heap s'.heap/\s'.os=s₁.os/\AllBare s'.gens) s₁:=by
 have rv:=zy hi;have lenV:=hi.length;have aP:a≠Pt:=λz=>by rw[z,hPt] at ha;cases ha
 have core:∀H:Hp,qhm Pt H->H Pt=some (.xR #[])->aW K H a (ns.map V.int)->tD P w H s₁.heap->(∀b,H b≠none->b=a\/b=Pt)->(H a≠none->K.lookup a=none)->
   codeAny (model P w) callerA (.call (.ref fa) ⟨[.ref a],[]⟩) (λr s'=>r = .ok (.ret (.bool true))/\OldK s₁.heap s'.heap/\s'.os=s₁.os/\AllBare s'.gens) s₁:=by
  intro H hO hHP hS hok hA hK;have Ca:∀{b:Addr}{o:Obj},s₁.heap.get? b=some o->H b=none->(Cu s₁.heap H).get? b=some o:=λe n=>Yk e n;have noA:∀{b:Addr}{o:Obj},s₁.heap.get? b=some o->(∀its n,o.data≠.seq its n)->o.cls≠.none->H b=none:=λ{b o} e d1 d2=>by
   cases q:H b with
   |none=>rfl
   |some u=>
    rcases hA b (by rw[q];simp) with e'|e'
    ·subst e';rw[ha] at e;cases e;exact absurd rfl (d1 _ _)
    ·subst e';rw[hPt] at e;cases e;exact absurd rfl d2
  have noD:∀{b:Addr}{o:Obj}{es:Array DictEntry}{ep:Nat},s₁.heap.get? b=some o->o.data = .dict es ep->H b=none:=λ{b o es ep} e d=>by
   cases q:H b with
   |none=>rfl
   |some u=>
    rcases hA b (by rw[q];simp) with e'|e'
    ·subst e';rw[ha] at e;cases e;cases d
    ·subst e';rw[hPt] at e;cases e;cases d
  have nsK:∀{b:Addr}{m:Str->Option Value},s₁.heap.Ns b m->(Cu s₁.heap H).Ns b m:=λ{b m} ⟨o,es,ep,e,d,r⟩=>⟨o,es,ep,Ca e (noD e d),d,r⟩;have hKb:K.In (Cu s₁.heap H):=λb o e=>Ca (KX b o e) (by
   cases q:H b with
   |none=>rfl
   |some u=>
    rcases hA b (by rw[q];simp) with e'|e'
    ·subst e';rw[hK (by rw[q];simp)] at e;cases e
    ·subst e';rw[hKP] at e;cases e)
  have hCb:W.CodeHd (Cu s₁.heap H) c Pt:=by
   obtain⟨o,vs',file,tf,flags,tg,inF,text,tt,e1,e2,e3,r⟩:=hC;exact⟨o,vs',file,tf,flags,tg,inF,text,tt,Ca e1 (noA e1 (λ_ _ z=>by rw[e3] at z;cases z) (by rw[e2];simp)),e2,e3,r⟩
  have hBb:(Cu s₁.heap H).BuiltinsAt mg Pt:=by
   obtain⟨bm,o,h1,h2,h3,h4,h5,h6,h7,h8⟩:=hBA;exact⟨bm,o,h1,h2,h3,h4,Ca h5 (noA h5 (λ_ _ z=>by rw[h8] at z;cases z) (by rw[h6];simp)),h6,h7,h8⟩
  have hM:Mod K mg (Cu s₁.heap H):=⟨hKb,nsK hns,⟨mb,nsK hb,hbb⟩,let ⟨mc,h1,h2⟩:=hlim;⟨mc,nsK h1,h2⟩⟩;have e0:Br P w K mg (Cu s₁.heap H) callerA [] s₁ H:=⟨rfl,hM,λb o e=>qbF e,Nat.le_of_eq (Vs _ _),trivial,λb hb=>absurd (show b∈([]:List Addr) from hb) (by simp),hok,.of_eq hg⟩;refine qnc ((F _ hKb (nsK hns) hCb hBb).run callerA [] s₁ H ⟨[.ref a],[]⟩ [.ref a] [.ref a] _ _ hr e0 (hbind s₁ (.ref a)) (.cons rfl .nil) (hsp H hHP hS)) λr s' h=>?_;cases r with
  |error e=>exact(hCX H e s' h).elim
  |ok fl=>
   cases fl with
   |next=>exact False.elim h
   |brk=>exact False.elim h
   |cont=>exact False.elim h
   |ret u=>
    obtain⟨v,H',os,bare,un,hok',r',q⟩:=h;have q':v = .bl true:=q;subst q';obtain rfl:u=Value.bool true:=r';have kp:∀b o,b≠Pt->s₁.heap.get? b=some o->s'.heap.get? b=some o:=λb o nb e=>by
     cases q:H b with
     |none=>exact un.keep b o e q (by intro z;exact absurd (show b∈([]:List Addr) from z) (by simp)) (by simp)
     |some u=>
      rcases hO b nb with z|⟨ob,xs,z⟩
      ·rw[q] at z;cases z
      ·have z2:=un.tM b ob _ z;obtain⟨e1,_⟩:=hok b _ z;obtain⟨e2,_⟩:=hok' b _ z2;rw[e] at e1;cases e1;exact e2
    obtain⟨more,hm⟩:=un.tO Pt _ hHP;have gP:s'.heap.get? Pt=some (W.tabObj (#[]++more)):=hok' Pt _ hm;refine⟨rfl,⟨λb o e=>?_,λb o e=>?_⟩,os,bare⟩
    ·by_cases nb:b=Pt
     ·subst nb;rw[hPt] at e;cases e;exact .inr (.inl ⟨(hC.tab hPt).isCodeTable,rfl,#[],more,rfl,gP⟩)
     ·exact .inl (kp b o nb e)
    ·by_cases nb:b=Pt
     ·exact⟨_,by rw[nb];exact gP⟩
     ·exact⟨o,kp b o nb e⟩
 cases hk:K.lookup a with
 |some o=>
  have e:=KX a o hk;rw[ha] at e;cases e;refine core (λb=>if b=Pt then some (.xR #[]) else none) (λb nb=>.inl (if_neg nb)) (if_pos rfl) (.inr ⟨_,vs.toArray,_,hk,rfl,rfl,rfl,by rw[qmh,lenV];exact hl,by simpa using rv⟩) (λb u z=>?_) (λb z=>?_) λz=>absurd (if_neg aP) z
  ·by_cases hb:b=Pt
   ·have z':=(if_pos hb).symm.trans z;cases z';subst hb;exact hPt
   ·have z':=(if_neg hb).symm.trans z;cases z'
  ·by_cases hb:b=Pt
   ·exact .inr hb
   ·exact absurd (if_neg hb) z
 |none=>
  refine core (λb=>if b=Pt then some (.xR #[]) else if b=a then some (.Mg {cls:=.type "list",data:=.seq vs.toArray} (.lst (ns.map V.int))) else none) (λb nb=>?_) (if_pos rfl)
   (.inl (.inr ⟨{cls:=.type "list",data:=.seq vs.toArray},(if_neg aP).trans (if_pos rfl)⟩)) (λb u z=>?_) (λb z=>?_) λ_=>hk
  ·by_cases hb:b=a
   ·exact .inr ⟨_,_,(if_neg nb).trans (if_pos hb)⟩
   ·exact .inl ((if_neg nb).trans (if_neg hb))
  ·by_cases hp:b=Pt
   ·have z':=(if_pos hp).symm.trans z;cases z';subst hp;exact hPt
   ·by_cases hb:b=a
    ·have z':=((if_neg hp).trans (if_pos hb)).symm.trans z;cases z';subst hb;exact⟨ha,by rw[ql9];exact hl,vs,_,rv,ha⟩
    ·have z':=((if_neg hp).trans (if_neg hb)).symm.trans z;cases z'
  ·by_cases hp:b=Pt
   ·exact .inr hp
   ·by_cases hb:b=a
    ·exact .inl hb
    ·exact absurd ((if_neg hp).trans (if_neg hb)) z
theorem qaA{l:W.OpenLaw}{n k:Nat}{q:Program}{loose:QAH}{XP:(Str->Option Value)->Heap->Prop}{YP:World->Heap->Prop}{d dt:DefRec}{K:Params->W.Frag}{CX:World->YJ}{sp:World->Sp}{x xt:Str}{c Pt:Addr}
  (hn:l.most=some n) (hn2:n<=sizeLine) (hdf:d.params.defaults=[]) (hr:fL k callerA)
  (hY:∀(w:World)(h:Heap),YP w h->(K w.params).In h)
  (hrec:(recsOf q).find? (λe=>e.name == xt)=some dt) (htab:∀w:World,W.tabIn (K w.params) xt=some (c,Pt)) (hnt:∀w:World,W.noTabs (K w.params)=true)
  (F:∀(w:World)(mg:Str->Option Value)(fa:Addr)(h:Heap),(K w.params).In h->h.Ns mainGlobals mg->mg d.name=some (.ref fa)->
   ∃fd:FuncData,(∀(s:Shared)(u:Value),BindsTo s fd ⟨[u],[]⟩ [(x,u)])/\
    ∀base:Heap,(K w.params).In base->base.Ns mainGlobals mg->W.CodeHd base c Pt->base.BuiltinsAt mg Pt->bV l.prog w (K w.params) mg base (CX w) k fa fd [x] (sp w))
  (hsp:∀(w:World)(H:Hp)(a:Addr)(ns:List Int),ns.length<=n->H Pt=some (.xR #[])->aW (K w.params) H a (ns.map V.int)->sp w [.ref a] H (λv _=>v = .bl true) λ_ _ _=>False)
  (hCX:∀(w:World)(H:Hp)(s:Shared)(e:Value)(s':Shared),CX w [] H s (λ_ _ _=>False) e s'->False) :
  W.WalkO q loose XP YP l.row.toRowW d [] (λf vs=>PySem.call f vs):=by
 refine Att.Mw hn hdf λw s₀ s₁ mg mb fa o pm cd doc a vs ns G Y ho hd hcd hmg hobj hints hlen hg=>?_;have KX:=hY w _ Y;obtain⟨fd,hb,hF⟩:=F w mg fa _ KX G.T.g hmg;obtain⟨hC,hPt⟩:=W.tab_of G.T KX hrec (htab w);have hKP:(K w.params).lookup Pt=none:=by
  cases e:(K w.params).lookup Pt with
  |none=>rfl
  |some ob=>
   have e1:=KX _ _ e;rw[hPt] at e1;cases e1;have h2:=qmn.mp (hnt w) _ (W.mem_of_lookupK e);exact absurd (show false=true from h2) qml
 have hBA:s₁.heap.BuiltinsAt mg Pt:=by
  obtain⟨bm,ob,b1,b2,b3,b4,b5,b6⟩:=G.T.bmain;refine⟨bm,ob,b1,b2,λq=>?_,λq=>?_,b3,b4,b5,b6⟩
  ·obtain⟨o',es,ep,e,hd',_⟩:=G.T.g;rw[q,e] at b3;cases b3;rw[hd'] at b6;cases b6
  ·rw[q,hPt] at b3;cases b3;cases b4
 exact WW KX G.T.g G.T.b G.T.builtins G.T.nolimit hg hobj hints (qme hlen hn2) hr hC hPt hKP hBA hF hb (λH hO hS=>hsp w H a ns hlen hO hS) λH e s'=>hCX w H s₁ e s'
theorem qaB{K:W.Frag}{x:Str}{f c P:Addr}{oc oc':Value}{od od':Option Addr}{sl sl':Array (QAG)}{fd:FuncData}{vs:Array Value}(a:W.nsIn K mainGlobals x=some (some (.ref f)))(l:K.lookup f=some ⟨oc,od,.func fd,sl⟩)
  (e:fd.code = .ref c) (k:K.lookup c=some ⟨oc',od',.fields vs,sl'⟩) (v:vs[11]? = some (.ref P)):W.tabIn K x=some (c,P):=by
 unfold W.tabIn;rw[a];dsimp only;rw[l];dsimp only;rw[e];dsimp only;rw[k];dsimp only;rw[v]
end L2
namespace L2
open PySem PyProof.Rows
section
variable {prog:Program}{w:World}{A:Around}{E:QAB}{s:Shared}
theorem Og{st:SortSt}{x y:Keyed}{a b:Int}{t u:Tok}{Q:Option Bool->SortSt->Prop}(hk:kindOf st=oneType')(hx:x.1 = .int a t)(hy:y.1 = .int b u)(h:∀b,Q (some b) st) :
  wpS (model prog w) A E s (lt' x y) Q st:=by
 rw[lt'_eq];refine ql6 (wpS_get ?_);rw[hk,keyLt'_oneType,hx,hy];refine ql6 (wpS_lift (wpAny_attempt (oneLt_int ⟨rfl,?_⟩)));exact ql5 (h _)
theorem aX{st:SortSt}{arr:Array Keyed}{i:Nat}{Q:Keyed->SortSt->Prop}(hi:i<arr.size)(h:Q arr[i] st):wpS (model prog w) A E s (elem' arr i) Q st:=by
 rw[elem'_eq,getElem?_pos arr i hi];exact ql5 h
def pF:Bool->Keyed->Array Keyed->Nat->Nat->Nat->StateT SortSt Sem (Option Nat):=sortPriv% PySem.Builtin.gallop
def byd(RL:Bool)(key:Keyed)(arr:Array Keyed)(base i:Nat):StateT SortSt Sem (Option Bool):=do
 let x <- elem' arr (base+i)
 if RL then lt' x key else return (<- lt' key x).map (!·)
def qcI(RL:Bool)(key:Keyed)(arr:Array Keyed)(base n lo0 hi0:Nat):StateT SortSt Sem (Option Nat):=do
 let mut lo:=lo0
 let mut hi:=hi0
 for _ in [0:n] do
  if lo≥hi then break
  let m:=lo+(hi - lo) / 2
  let some more <- byd RL key arr base m|return none
  if more then lo:=m+1 else hi:=m
 return some hi
theorem RM(RL:Bool)(key:Keyed)(arr:Array Keyed)(base n hint:Nat):pF RL key arr base n hint=(do
 let mut lastofs:=0
 let mut ofs:=1
 let some rt0 <- byd RL key arr base hint|return none
 if rt0 then
  let maxofs:=n - hint
  for _ in [0:n] do
   if ofs≥maxofs then break
   let some more <- byd RL key arr base (hint+ofs)|return none
   if !more then break
   lastofs:=ofs
   ofs:=2 * ofs+1
  qcI RL key arr base n (hint+lastofs+1) (hint+min ofs maxofs)
 else
  let maxofs:=hint+1
  for _ in [0:n] do
   if ofs≥maxofs then break
   let some found <- byd RL key arr base (hint - ofs)|return none
   if found then break
   lastofs:=ofs
   ofs:=2 * ofs+1
  qcI RL key arr base n (hint+1 - min ofs maxofs) (hint - lastofs)):=rfl
def IK(arr:Array Keyed):Prop:=∀p∈arr.toList,∃n t,p.1=Value.int n t
theorem IK.at{arr:Array Keyed}(h:IK arr){i:Nat}(hi:i<arr.size):∃n t,arr[i].1=Value.int n t:=h _ (by simp)
theorem dB{st:SortSt}{RL:Bool}{key:Keyed}{arr:Array Keyed}{base n hint:Nat}{Q:Option Nat->SortSt->Prop}(hk:kindOf st=oneType')(hI:IK arr)(hkey:∃a t,key.1=Value.int a t)(hn:base+n<=arr.size)(hh:hint<n)(h:∀k,k<=n->Q (some k) st) :
  wpS (model prog w) A E s (pF RL key arr base n hint) Q st:=by
 rw[RM];obtain⟨ka,kt,hkey⟩:=hkey;have bey:∀{i:Nat}{Q:Option Bool->SortSt->Prop},i<n->(∀b,Q (some b) st)->wpS (model prog w) A E s (byd RL key arr base i) Q st:=λ{i Q} hi hq=>by
  unfold byd;refine ql6 (aX (show base+i<arr.size by omega) ?_);obtain⟨xa,xt,hx⟩:=hI.at (show base+i<arr.size by omega);cases RL with
  |true=>exact Og hk hx hkey hq
  |false=>exact ql6 (Og hk hkey hx λb=>ql5 (hq _))
 have fin:∀lo hi:Nat,hi<=n->wpS (model prog w) A E s (qcI RL key arr base n lo hi) Q st:=by
  intro lo hi hhi;unfold qcI;dsimp only;refine ql6 (qnj (qmN (I:=λ_ (c:Option (Option Nat)×Nat×Nat) st'=>st'=st/\c.1=none/\c.2.2<=n) (Q:=λc st'=>st'=st/\c.1=none/\c.2.2<=n) ?_ (λ_ _ h=>h) ⟨rfl,rfl,hhi⟩) ?_)
  ·rintro i ⟨c0,lo,hi⟩ st' _ _ ⟨rfl,hc,hn'⟩;dsimp only at hc hn'⊢;subst hc
   by_cases hle:lo≥hi
   ·rw[if_pos hle];exact ql5 ⟨rfl,rfl,hn'⟩
   ·rw[if_neg hle];refine ql6 (bey (by omega) λb=>?_);cases b with
    |true=>exact ql5 ⟨rfl,rfl,hn'⟩
    |false=>exact ql5 ⟨rfl,rfl,by dsimp only;omega⟩
  ·rintro⟨c0,lo,hi⟩ st' ⟨rfl,hc,hn'⟩;dsimp only at hc hn'⊢;subst hc;exact ql5 (h _ hn')
 dsimp only;refine ql6 (bey hh λrt0=>?_);dsimp only;cases rt0 with
 |true=>
  simp only[if_true];refine ql6 (qnj (qmN (I:=λ_ (c:Option (Option Nat)×Nat×Nat) st'=>st'=st/\c.1=none) (Q:=λc st'=>st'=st/\c.1=none) ?_ (λ_ _ h=>h) ⟨rfl,rfl⟩) ?_)
  ·rintro i ⟨c0,la,of⟩ st' _ _ ⟨rfl,hc⟩;dsimp only at hc⊢;subst hc
   by_cases hle:of≥n - hint
   ·rw[if_pos hle];exact ql5 ⟨rfl,rfl⟩
   ·rw[if_neg hle];refine ql6 (bey (i:=hint+of) (by omega) λb=>?_);cases b with
    |true=>exact ql5 ⟨rfl,rfl⟩
    |false=>exact ql5 ⟨rfl,rfl⟩
  ·rintro⟨c0,la,of⟩ st' ⟨rfl,hc⟩;dsimp only at hc⊢;subst hc;exact fin _ _ (by omega)
 |false=>
  simp only[qm8,if_false];refine ql6 (qnj (qmN (I:=λ_ (c:Option (Option Nat)×Nat×Nat) st'=>st'=st/\c.1=none) (Q:=λc st'=>st'=st/\c.1=none) ?_ (λ_ _ h=>h) ⟨rfl,rfl⟩) ?_)
  ·rintro i ⟨c0,la,of⟩ st' _ _ ⟨rfl,hc⟩;dsimp only at hc⊢;subst hc
   by_cases hle:of≥hint+1
   ·rw[if_pos hle];exact ql5 ⟨rfl,rfl⟩
   ·rw[if_neg hle];refine ql6 (bey (i:=hint - of) (by omega) λb=>?_);cases b with
    |true=>exact ql5 ⟨rfl,rfl⟩
    |false=>exact ql5 ⟨rfl,rfl⟩
  ·rintro⟨c0,la,of⟩ st' ⟨rfl,hc⟩;dsimp only at hc⊢;subst hc;exact fin _ _ (by omega)
end
section
variable {prog:Program}{w:World}{A:Around}{E:QAB}{s:Shared}
def ji:Nat->StateT SortSt Sem Unit:=sortPriv% PySem.Builtin.setMinGallop
abbrev zQ(st:SortSt)(g:Nat):SortSt:=SortSt.mk' (kindOf st) (arrOf st) (pendingOf st) g (failedOf st)
theorem d7(g:Nat):ji g=modify λst=>zQ st g:=rfl
def Dy:Array Keyed->Array Keyed->StateT SortSt Sem (Array Keyed):=sortPriv% PySem.Builtin.mergeLo
def ou(a b out:Array Keyed)(ia ib:Nat):Array Keyed:=out++a.extract ia a.size++b.extract ib b.size
def zR(a b out:Array Keyed)(ia ib:Nat):Array Keyed:=out++b.extract ib b.size++a.extract ia a.size
theorem Oh(a b:Array Keyed):Dy a b=(do
 rule "list.sort.merge-lo"
 let total:=a.size+b.size
 let mut out:Array Keyed:=#[<- elem' b 0]
 let mut ia:=0
 let mut ib:=1
 if ib == b.size then return ou a b out ia ib
 if ia+1 == a.size then return zR a b out ia ib
 let mut minGallop:=gallopOf (<- get)
 for _ in [0:total] do
  let mut acount:=0
  let mut bcount:=0
  for _ in [0:total] do
   let some bWins <- lt' (<- elem' b ib) (<- elem' a ia)|return ou a b out ia ib
   if bWins then
    out:=out.push (<- elem' b ib);ib:=ib+1;bcount:=bcount+1;acount:=0
    if ib == b.size then return ou a b out ia ib
    if bcount≥minGallop then break
   else
    out:=out.push (<- elem' a ia);ia:=ia+1;acount:=acount+1;bcount:=0
    if ia+1 == a.size then return zR a b out ia ib
    if acount≥minGallop then break
  rule "list.sort.gallop"
  minGallop:=minGallop+1
  for _ in [0:total] do
   if minGallop > 1 then minGallop:=minGallop - 1
   ji minGallop
   let some k <- pF false (<- elem' b ib) a ia (a.size - ia) 0|return ou a b out ia ib
   acount:=k
   if k > 0 then
    out:=out++a.extract ia (ia+k);ia:=ia+k
    if ia+1 == a.size then return zR a b out ia ib
    if ia == a.size then return ou a b out ia ib
   out:=out.push (<- elem' b ib);ib:=ib+1
   if ib == b.size then return ou a b out ia ib
   let some k <- pF true (<- elem' a ia) b ib (b.size - ib) 0|return ou a b out ia ib
   bcount:=k
   if k > 0 then
    out:=out++b.extract ib (ib+k);ib:=ib+k
    if ib == b.size then return ou a b out ia ib
   out:=out.push (<- elem' a ia);ia:=ia+1
   if ia+1 == a.size then return zR a b out ia ib
   if acount<7 && bcount<7 then break
  minGallop:=minGallop+1
  ji minGallop
 unsupported "internal:list.sort.merge-bound"):=rfl
def jj(st st':SortSt):Prop:=kindOf st'=kindOf st/\arrOf st'=arrOf st/\pendingOf st'=pendingOf st/\failedOf st'=failedOf st
theorem jj.refl(st:SortSt):jj st st:=⟨rfl,rfl,rfl,rfl⟩
theorem jj.set{st st':SortSt}(h:jj st st')(g:Nat):jj st (zQ st' g):=h
def MP(a b out:Array Keyed)(ia ib:Nat):Prop:=out.toList.Perm (a.toList.take ia++b.toList.take ib)
theorem MP.b{a b out:Array Keyed}{ia ib:Nat}(h:MP a b out ia ib)(hi:ib<b.size):MP a b (out.push b[ib]) ia (ib+1):=by
 unfold MP at h⊢;rw[qnZ,List.take_succ,<- qmo];have:b.toList[ib]?.toList=[b[ib]]:=by rw[qmM (by simpa using hi)];simp
 rw[this];exact h.append_right _
theorem MP.a{a b out:Array Keyed}{ia ib:Nat}(h:MP a b out ia ib)(hi:ia<a.size):MP a b (out.push a[ia]) (ia+1) ib:=by
 unfold MP at h⊢;rw[qnZ,List.take_succ];have:a.toList[ia]?.toList=[a[ia]]:=by rw[qmM (by simpa using hi)];simp
 rw[this,qmo];refine(h.append_right _).trans ?_;rw[qmo];exact qm3 _ qmX
theorem Ie{l:List Keyed}(i k:Nat):l.take (i+k)=l.take i++(l.drop i).take k:=by rw[List.take_add]
theorem MP.as{a b out:Array Keyed}{ia ib:Nat}(h:MP a b out ia ib)(k:Nat):MP a b (out++a.extract ia (ia+k)) (ia+k) ib:=by
 unfold MP at h⊢;rw[qmY,qmR,Ie,qmC,Nat.add_sub_cancel_left,qmo];refine(h.append_right _).trans ?_;rw[qmo];exact qm3 _ qmX
theorem MP.bs{a b out:Array Keyed}{ia ib:Nat}(h:MP a b out ia ib)(k:Nat):MP a b (out++b.extract ib (ib+k)) ia (ib+k):=by
 unfold MP at h⊢;rw[qmY,qmR,Ie,qmC,Nat.add_sub_cancel_left,<- qmo];exact h.append_right _
theorem MP.done{a b out:Array Keyed}{ia ib:Nat}(h:MP a b out ia ib):(ou a b out ia ib).toList.Perm (a.toList++b.toList):=by
 have e1:a.toList=a.toList.take ia++a.toList.drop ia:=(qm4 _ _).symm;have e2:b.toList=b.toList.take ib++b.toList.drop ib:=(qm4 _ _).symm;unfold ou;rw[qmY,qmY,qmR,qmR,qmC,qmC];rw[qng (by simp),qng (by simp)]
 conv=>rhs;rw[e1,e2]
 unfold MP at h;refine((h.append_right _).append_right _).trans ?_;rw[qmo,qmo,qmo];refine qm3 _ ?_;rw[<- qmo,<- qmo];exact qmX.append_right _
theorem MP.last{a b out:Array Keyed}{ia ib:Nat}(h:MP a b out ia ib):(zR a b out ia ib).toList.Perm (a.toList++b.toList):=by
 refine List.Perm.trans ?_ h.done;unfold zR ou;simp only[qmY,qmo];exact qm3 _ qmX
theorem MP.size{a b out:Array Keyed}{ia ib:Nat}(h:MP a b out ia ib)(ha:ia<=a.size)(hb:ib<=b.size):out.size=ia+ib:=by
 have:=h.length_eq;simp at this;omega
structure Mid(a b out:Array Keyed)(ia ib:Nat):Prop where
 p:MP a b out ia ib
 a1:ia+1<a.size
 b1:ib<b.size
theorem RN{st:SortSt}{a b:Array Keyed}{Q:Array Keyed->SortSt->Prop}(hk:kindOf st=oneType')(hA:IK a)(hB:IK b)(ha:0<a.size)(hb:0<b.size)(h:∀out st',jj st st'->out.toList.Perm (a.toList++b.toList)->Q out st') :
  wpS (model prog w) A E s (Dy a b) Q st:=by
 rw[Oh];refine ql6 (wpS_lift (qn6 ⟨rfl,?_⟩));refine ql6 (aX hb ?_);have h0:MP a b #[b[0]] 0 1:=by
  have:=MP.b (a:=a) (b:=b) (out:=#[]) (ia:=0) (ib:=0) (List.Perm.refl _) hb;exact this
 dsimp only
 by_cases hb1:(1 == b.size)=true
 ·rw[if_pos hb1];exact ql5 (h _ _ (jj.refl _) h0.done)
 rw[if_neg hb1]
 by_cases ha1:(0+1 == a.size)=true
 ·rw[if_pos ha1];exact ql5 (h _ _ (jj.refl _) h0.last)
 rw[if_neg ha1];have m0:Mid a b #[b[0]] 0 1:=⟨h0,by simp at ha1;omega,by simp at hb1;omega⟩;refine ql6 (wpS_get ?_);refine ql6 (qnj (qmN (I:=λi (c:Option (Array Keyed)×Array Keyed×Nat×Nat×Nat) st'=>c.1=none/\Mid a b c.2.1 c.2.2.1 c.2.2.2.1/\jj st st'/\i+1<=c.2.1.size)
  (Q:=λc st'=>jj st st'/\∃r,c.1=some r/\r.toList.Perm (a.toList++b.toList)) ?_ ?_ ⟨rfl,m0,jj.refl _,ql7 _⟩) ?_)
 ·rintro i ⟨c0,KC,ia0,ib0,mg⟩ st1 _ hi ⟨hc,m1,g1,p1⟩;dsimp only at hc m1 p1⊢;subst hc;refine ql6 (qnj (qmN (I:=λj (c:Option (Array Keyed)×Array Keyed×Nat×Nat×Nat×Nat) st'=>c.1=none/\Mid a b c.2.1 c.2.2.1 c.2.2.2.1/\st'=st1/\KC.size+j<=c.2.1.size)
   (Q:=λc st'=>st'=st1/\((∃r,c.1=some r/\r.toList.Perm (a.toList++b.toList))\/(c.1=none/\Mid a b c.2.1 c.2.2.1 c.2.2.2.1/\KC.size+1<=c.2.1.size))) ?_ ?_ ⟨rfl,m1,rfl,ql7 _⟩) ?_)
  ·rintro j ⟨c0,out,ia,ib,ac,bc⟩ st2 _ hj ⟨hc,m2,rfl,p2⟩;dsimp only at hc m2 p2⊢;subst hc;refine ql6 (aX m2.b1 (ql6 (aX (by have:=m2.a1;omega) ?_)));obtain⟨x,xt,hx⟩:=hB.at m2.b1;obtain⟨y,yt,hy⟩:=hA.at (show ia<a.size by have:=m2.a1;omega);refine ql6 (Og (g1.1.trans hk) hx hy λbw=>?_);cases bw with
   |true=>
    simp only[if_true];refine ql6 (aX m2.b1 ?_);have m3:=m2.p.b m2.b1
    by_cases hb2:(ib+1 == b.size)=true
    ·rw[if_pos hb2];exact ql5 ⟨rfl,.inl ⟨_,rfl,m3.done⟩⟩
    ·rw[if_neg hb2];have m4:Mid a b (out.push (b[ib]'m2.b1)) ia (ib+1):=⟨m3,m2.a1,by have:=m2.b1;simp at hb2;omega⟩;split
     ·exact ql5 ⟨rfl,.inr ⟨rfl,m4,by simp;omega⟩⟩
     ·exact ql5 ⟨rfl,m4,rfl,by simp;omega⟩
   |false=>
    simp only[qm8,if_false];refine ql6 (aX (by have:=m2.a1;omega) ?_);have m3:=m2.p.a (show ia<a.size by have:=m2.a1;omega)
    by_cases ha2:(ia+1+1 == a.size)=true
    ·rw[if_pos ha2];exact ql5 ⟨rfl,.inl ⟨_,rfl,m3.last⟩⟩
    ·rw[if_neg ha2];have m4:Mid a b (out.push (a[ia]'(by have:=m2.a1;omega))) (ia+1) ib:=⟨m3,by have:=m2.a1;simp at ha2;omega,m2.b1⟩;split
     ·exact ql5 ⟨rfl,.inr ⟨rfl,m4,by simp;omega⟩⟩
     ·exact ql5 ⟨rfl,m4,rfl,by simp;omega⟩
  ·rintro⟨c0,out,ia,ib,ac,bc⟩ st2 ⟨hc,m2,rfl,p2⟩;dsimp only at hc m2 p2⊢;exact⟨rfl,.inr ⟨hc,m2,by omega⟩⟩
  ·rintro⟨c0,out,ia,ib,ac,bc⟩ st2 ⟨rfl,⟨r,hc,hr⟩|⟨hc,m2,p2⟩⟩
   ·dsimp only at hc⊢;subst hc;exact ql5 ⟨g1,r,rfl,hr⟩
   ·dsimp only at hc m2 p2⊢;subst hc;dsimp only;refine ql6 (wpS_lift (qn6 ⟨rfl,?_⟩));refine ql6 (qnj (qmN (I:=λj (c:Option (Array Keyed)×Array Keyed×Nat×Nat×Nat×Nat×Nat) st'=>c.1=none/\Mid a b c.2.1 c.2.2.1 c.2.2.2.1/\jj st st'/\out.size<=c.2.1.size)
     (Q:=λc st'=>jj st st'/\((∃r,c.1=some r/\r.toList.Perm (a.toList++b.toList))\/(c.1=none/\Mid a b c.2.1 c.2.2.1 c.2.2.2.1/\out.size<=c.2.1.size))) ?_ ?_ ⟨rfl,m2,g1,ql7 _⟩) ?_)
    ·rintro j ⟨c0,eN,ia,ib,mg,ac,bc⟩ st3 _ hj ⟨hc,m3,g3,p3⟩;dsimp only at hc m3 p3⊢;subst hc;have a1:=m3.a1;have b1:=m3.b1
     by_cases hmg:mg > 1
     ·rw[if_pos hmg];rw[d7];refine ql6 (qnp ?_);have g4:=g3.set (mg - 1);generalize zQ st3 (mg - 1)=Rh at g4⊢;have Nj:=g4.1.trans hk;refine ql6 (aX b1 (ql6 (dB Nj hA (hB.at b1) (by omega) (by omega) λk hkn=>?_)));dsimp only
      by_cases h2:k > 0
      ·rw[if_pos h2];have q6:=m3.p.as k
       by_cases h3:(ia+k+1 == a.size)=true
       ·rw[if_pos h3];exact ql5 ⟨g4,.inl ⟨_,rfl,q6.last⟩⟩
       ·rw[if_neg h3]
        by_cases h4:(ia+k == a.size)=true
        ·rw[if_pos h4];exact ql5 ⟨g4,.inl ⟨_,rfl,q6.done⟩⟩
        ·rw[if_neg h4];have q1':=q6;have q2':ia+k+1<a.size:=by simp at h3 h4;omega
         have q4':out.size<=(eN++a.extract ia (ia+k)).size:=by simp;omega
         refine ql6 (aX b1 ?_);have q5:=q1'.b b1
         by_cases h1:(ib+1 == b.size)=true
         ·rw[if_pos h1];exact ql5 ⟨g4,.inl ⟨_,rfl,q5.done⟩⟩
         ·rw[if_neg h1];have b2:ib+1<b.size:=by simp at h1;omega
          refine ql6 (aX (by omega) (ql6 (dB Nj hB (hA.at (by omega)) (by omega) (by omega) λk' hkn'=>?_)));dsimp only
          by_cases h2:k' > 0
          ·rw[if_pos h2];have q6:=q5.bs k'
           by_cases h3:(ib+1+k' == b.size)=true
           ·rw[if_pos h3];exact ql5 ⟨g4,.inl ⟨_,rfl,q6.done⟩⟩
           ·rw[if_neg h3];have r1:=q6;have r3:ib+1+k'<b.size:=by simp at h3;omega
            have r4:out.size<=((eN++a.extract ia (ia+k)).push (b[ib]'b1)++b.extract (ib+1) (ib+1+k')).size:=by simp;omega
            refine ql6 (aX (show ia+k<a.size by omega) ?_);have r5:=r1.a (show ia+k<a.size by omega)
            by_cases g1:(ia+k+1+1 == a.size)=true
            ·rw[if_pos g1];exact ql5 ⟨g4,.inl ⟨_,rfl,r5.last⟩⟩
            ·rw[if_neg g1];have m4:Mid a b (((eN++a.extract ia (ia+k)).push (b[ib]'b1)++b.extract (ib+1) (ib+1+k')).push (a[ia+k]'(show ia+k<a.size by omega))) (ia+k+1) (ib+1+k'):=⟨r5,by simp at g1;omega,r3⟩
             by_cases g2:(decide (k<7) && decide (k'<7))=true
             ·rw[if_pos g2];exact ql5 ⟨g4,.inr ⟨rfl,m4,by rw[qma];omega⟩⟩
             ·rw[if_neg g2];exact ql5 ⟨rfl,m4,g4,by rw[qma];omega⟩
          ·rw[if_neg h2];have r1:=q5;have r3:ib+1<b.size:=b2;have r4:out.size<=((eN++a.extract ia (ia+k)).push (b[ib]'b1)).size:=by simp;omega
           refine ql6 (aX (show ia+k<a.size by omega) ?_);have r5:=r1.a (show ia+k<a.size by omega)
           by_cases g1:(ia+k+1+1 == a.size)=true
           ·rw[if_pos g1];exact ql5 ⟨g4,.inl ⟨_,rfl,r5.last⟩⟩
           ·rw[if_neg g1];have m4:Mid a b (((eN++a.extract ia (ia+k)).push (b[ib]'b1)).push (a[ia+k]'(show ia+k<a.size by omega))) (ia+k+1) (ib+1):=⟨r5,by simp at g1;omega,r3⟩
            by_cases g2:(decide (k<7) && decide (k'<7))=true
            ·rw[if_pos g2];exact ql5 ⟨g4,.inr ⟨rfl,m4,by rw[qma];omega⟩⟩
            ·rw[if_neg g2];exact ql5 ⟨rfl,m4,g4,by rw[qma];omega⟩
      ·rw[if_neg h2];have q1':=m3.p;have q2':ia+1<a.size:=a1;have q4':out.size<=(eN).size:=p3;refine ql6 (aX b1 ?_);have q5:=q1'.b b1
       by_cases h1:(ib+1 == b.size)=true
       ·rw[if_pos h1];exact ql5 ⟨g4,.inl ⟨_,rfl,q5.done⟩⟩
       ·rw[if_neg h1];have b2:ib+1<b.size:=by simp at h1;omega
        refine ql6 (aX (by omega) (ql6 (dB Nj hB (hA.at (by omega)) (by omega) (by omega) λk' hkn'=>?_)));dsimp only
        by_cases h2:k' > 0
        ·rw[if_pos h2];have q6:=q5.bs k'
         by_cases h3:(ib+1+k' == b.size)=true
         ·rw[if_pos h3];exact ql5 ⟨g4,.inl ⟨_,rfl,q6.done⟩⟩
         ·rw[if_neg h3];have r1:=q6;have r3:ib+1+k'<b.size:=by simp at h3;omega
          have r4:out.size<=((eN).push (b[ib]'b1)++b.extract (ib+1) (ib+1+k')).size:=by simp;omega
          refine ql6 (aX (show ia<a.size by omega) ?_);have r5:=r1.a (show ia<a.size by omega)
          by_cases g1:(ia+1+1 == a.size)=true
          ·rw[if_pos g1];exact ql5 ⟨g4,.inl ⟨_,rfl,r5.last⟩⟩
          ·rw[if_neg g1];have m4:Mid a b (((eN).push (b[ib]'b1)++b.extract (ib+1) (ib+1+k')).push (a[ia]'(show ia<a.size by omega))) (ia+1) (ib+1+k'):=⟨r5,by simp at g1;omega,r3⟩
           by_cases g2:(decide (k<7) && decide (k'<7))=true
           ·rw[if_pos g2];exact ql5 ⟨g4,.inr ⟨rfl,m4,by rw[qma];omega⟩⟩
           ·rw[if_neg g2];exact ql5 ⟨rfl,m4,g4,by rw[qma];omega⟩
        ·rw[if_neg h2];have r1:=q5;have r3:ib+1<b.size:=b2;have r4:out.size<=((eN).push (b[ib]'b1)).size:=by simp;omega
         refine ql6 (aX (show ia<a.size by omega) ?_);have r5:=r1.a (show ia<a.size by omega)
         by_cases g1:(ia+1+1 == a.size)=true
         ·rw[if_pos g1];exact ql5 ⟨g4,.inl ⟨_,rfl,r5.last⟩⟩
         ·rw[if_neg g1];have m4:Mid a b (((eN).push (b[ib]'b1)).push (a[ia]'(show ia<a.size by omega))) (ia+1) (ib+1):=⟨r5,by simp at g1;omega,r3⟩
          by_cases g2:(decide (k<7) && decide (k'<7))=true
          ·rw[if_pos g2];exact ql5 ⟨g4,.inr ⟨rfl,m4,by rw[qma];omega⟩⟩
          ·rw[if_neg g2];exact ql5 ⟨rfl,m4,g4,by rw[qma];omega⟩
     ·rw[if_neg hmg];rw[d7];refine ql6 (qnp ?_);have g4:=g3.set mg;generalize zQ st3 mg=Rh at g4⊢;have Nj:=g4.1.trans hk;refine ql6 (aX b1 (ql6 (dB Nj hA (hB.at b1) (by omega) (by omega) λk hkn=>?_)));dsimp only
      by_cases h2:k > 0
      ·rw[if_pos h2];have q6:=m3.p.as k
       by_cases h3:(ia+k+1 == a.size)=true
       ·rw[if_pos h3];exact ql5 ⟨g4,.inl ⟨_,rfl,q6.last⟩⟩
       ·rw[if_neg h3]
        by_cases h4:(ia+k == a.size)=true
        ·rw[if_pos h4];exact ql5 ⟨g4,.inl ⟨_,rfl,q6.done⟩⟩
        ·rw[if_neg h4];have q1':=q6;have q2':ia+k+1<a.size:=by simp at h3 h4;omega
         have q4':out.size<=(eN++a.extract ia (ia+k)).size:=by simp;omega
         refine ql6 (aX b1 ?_);have q5:=q1'.b b1
         by_cases h1:(ib+1 == b.size)=true
         ·rw[if_pos h1];exact ql5 ⟨g4,.inl ⟨_,rfl,q5.done⟩⟩
         ·rw[if_neg h1];have b2:ib+1<b.size:=by simp at h1;omega
          refine ql6 (aX (by omega) (ql6 (dB Nj hB (hA.at (by omega)) (by omega) (by omega) λk' hkn'=>?_)));dsimp only
          by_cases h2:k' > 0
          ·rw[if_pos h2];have q6:=q5.bs k'
           by_cases h3:(ib+1+k' == b.size)=true
           ·rw[if_pos h3];exact ql5 ⟨g4,.inl ⟨_,rfl,q6.done⟩⟩
           ·rw[if_neg h3];have r1:=q6;have r3:ib+1+k'<b.size:=by simp at h3;omega
            have r4:out.size<=((eN++a.extract ia (ia+k)).push (b[ib]'b1)++b.extract (ib+1) (ib+1+k')).size:=by simp;omega
            refine ql6 (aX (show ia+k<a.size by omega) ?_);have r5:=r1.a (show ia+k<a.size by omega)
            by_cases g1:(ia+k+1+1 == a.size)=true
            ·rw[if_pos g1];exact ql5 ⟨g4,.inl ⟨_,rfl,r5.last⟩⟩
            ·rw[if_neg g1];have m4:Mid a b (((eN++a.extract ia (ia+k)).push (b[ib]'b1)++b.extract (ib+1) (ib+1+k')).push (a[ia+k]'(show ia+k<a.size by omega))) (ia+k+1) (ib+1+k'):=⟨r5,by simp at g1;omega,r3⟩
             by_cases g2:(decide (k<7) && decide (k'<7))=true
             ·rw[if_pos g2];exact ql5 ⟨g4,.inr ⟨rfl,m4,by rw[qma];omega⟩⟩
             ·rw[if_neg g2];exact ql5 ⟨rfl,m4,g4,by rw[qma];omega⟩
          ·rw[if_neg h2];have r1:=q5;have r3:ib+1<b.size:=b2;have r4:out.size<=((eN++a.extract ia (ia+k)).push (b[ib]'b1)).size:=by simp;omega
           refine ql6 (aX (show ia+k<a.size by omega) ?_);have r5:=r1.a (show ia+k<a.size by omega)
           by_cases g1:(ia+k+1+1 == a.size)=true
           ·rw[if_pos g1];exact ql5 ⟨g4,.inl ⟨_,rfl,r5.last⟩⟩
           ·rw[if_neg g1];have m4:Mid a b (((eN++a.extract ia (ia+k)).push (b[ib]'b1)).push (a[ia+k]'(show ia+k<a.size by omega))) (ia+k+1) (ib+1):=⟨r5,by simp at g1;omega,r3⟩
            by_cases g2:(decide (k<7) && decide (k'<7))=true
            ·rw[if_pos g2];exact ql5 ⟨g4,.inr ⟨rfl,m4,by rw[qma];omega⟩⟩
            ·rw[if_neg g2];exact ql5 ⟨rfl,m4,g4,by rw[qma];omega⟩
      ·rw[if_neg h2];have q1':=m3.p;have q2':ia+1<a.size:=a1;have q4':out.size<=(eN).size:=p3;refine ql6 (aX b1 ?_);have q5:=q1'.b b1
       by_cases h1:(ib+1 == b.size)=true
       ·rw[if_pos h1];exact ql5 ⟨g4,.inl ⟨_,rfl,q5.done⟩⟩
       ·rw[if_neg h1];have b2:ib+1<b.size:=by simp at h1;omega
        refine ql6 (aX (by omega) (ql6 (dB Nj hB (hA.at (by omega)) (by omega) (by omega) λk' hkn'=>?_)));dsimp only
        by_cases h2:k' > 0
        ·rw[if_pos h2];have q6:=q5.bs k'
         by_cases h3:(ib+1+k' == b.size)=true
         ·rw[if_pos h3];exact ql5 ⟨g4,.inl ⟨_,rfl,q6.done⟩⟩
         ·rw[if_neg h3];have r1:=q6;have r3:ib+1+k'<b.size:=by simp at h3;omega
          have r4:out.size<=((eN).push (b[ib]'b1)++b.extract (ib+1) (ib+1+k')).size:=by simp;omega
          refine ql6 (aX (show ia<a.size by omega) ?_);have r5:=r1.a (show ia<a.size by omega)
          by_cases g1:(ia+1+1 == a.size)=true
          ·rw[if_pos g1];exact ql5 ⟨g4,.inl ⟨_,rfl,r5.last⟩⟩
          ·rw[if_neg g1];have m4:Mid a b (((eN).push (b[ib]'b1)++b.extract (ib+1) (ib+1+k')).push (a[ia]'(show ia<a.size by omega))) (ia+1) (ib+1+k'):=⟨r5,by simp at g1;omega,r3⟩
           by_cases g2:(decide (k<7) && decide (k'<7))=true
           ·rw[if_pos g2];exact ql5 ⟨g4,.inr ⟨rfl,m4,by rw[qma];omega⟩⟩
           ·rw[if_neg g2];exact ql5 ⟨rfl,m4,g4,by rw[qma];omega⟩
        ·rw[if_neg h2];have r1:=q5;have r3:ib+1<b.size:=b2;have r4:out.size<=((eN).push (b[ib]'b1)).size:=by simp;omega
         refine ql6 (aX (show ia<a.size by omega) ?_);have r5:=r1.a (show ia<a.size by omega)
         by_cases g1:(ia+1+1 == a.size)=true
         ·rw[if_pos g1];exact ql5 ⟨g4,.inl ⟨_,rfl,r5.last⟩⟩
         ·rw[if_neg g1];have m4:Mid a b (((eN).push (b[ib]'b1)).push (a[ia]'(show ia<a.size by omega))) (ia+1) (ib+1):=⟨r5,by simp at g1;omega,r3⟩
          by_cases g2:(decide (k<7) && decide (k'<7))=true
          ·rw[if_pos g2];exact ql5 ⟨g4,.inr ⟨rfl,m4,by rw[qma];omega⟩⟩
          ·rw[if_neg g2];exact ql5 ⟨rfl,m4,g4,by rw[qma];omega⟩
    ·rintro⟨c0,eN,ia,ib,mg,ac,bc⟩ st3 ⟨hc,m3,g3,p3⟩;exact⟨g3,.inr ⟨hc,m3,p3⟩⟩
    ·rintro⟨c0,eN,ia,ib,mg,ac,bc⟩ st3 ⟨g3,⟨r,hc,hr⟩|⟨hc,m3,p3⟩⟩
     ·dsimp only at hc⊢;subst hc;exact ql5 ⟨g3,r,rfl,hr⟩
     ·dsimp only at hc m3 p3⊢;subst hc;dsimp only;rw[d7];exact ql6 (qnp (ql5 ⟨rfl,m3,g3.set _,by dsimp only;omega⟩))
 ·rintro⟨c0,KC,ia0,ib0,mg⟩ st1 ⟨hc,m1,g1,p1⟩;dsimp only at hc m1 p1⊢;have:=m1.p.size (by have:=m1.a1;omega) (by have:=m1.b1;omega);have h1:=m1.a1;have h2:=m1.b1;omega
 ·rintro⟨c0,KC,ia0,ib0,mg⟩ st1 ⟨g1,r,hc,hr⟩;dsimp only at hc⊢;subst hc;exact ql5 (h _ _ g1 hr)
end
section
variable {prog:Program}{w:World}{A:Around}{E:QAB}{s:Shared}
def Dz:Array Keyed->Array Keyed->StateT SortSt Sem (Array Keyed):=sortPriv% PySem.Builtin.mergeHi
def oA(a b out:Array Keyed)(na nb:Nat):Array Keyed:=a.extract 0 na++b.extract 0 nb++out.reverse
def vh(a b out:Array Keyed)(na nb:Nat):Array Keyed:=b.extract 0 nb++a.extract 0 na++out.reverse
theorem Oi(a b:Array Keyed):Dz a b=(do
 rule "list.sort.merge-hi"
 let total:=a.size+b.size
 let mut na:=a.size - 1
 let mut nb:=b.size
 let mut out:Array Keyed:=#[<- elem' a na]
 if na == 0 then return oA a b out na nb
 if nb == 1 then return vh a b out na nb
 let mut minGallop:=gallopOf (<- get)
 for _ in [0:total] do
  let mut acount:=0
  let mut bcount:=0
  for _ in [0:total] do
   let some aWins <- lt' (<- elem' b (nb - 1)) (<- elem' a (na - 1))|return oA a b out na nb
   if aWins then
    na:=na - 1;out:=out.push (<- elem' a na);acount:=acount+1;bcount:=0
    if na == 0 then return oA a b out na nb
    if acount≥minGallop then break
   else
    nb:=nb - 1;out:=out.push (<- elem' b nb);bcount:=bcount+1;acount:=0
    if nb == 1 then return vh a b out na nb
    if bcount≥minGallop then break
  rule "list.sort.gallop"
  minGallop:=minGallop+1
  for _ in [0:total] do
   if minGallop > 1 then minGallop:=minGallop - 1
   ji minGallop
   let some at_ <- pF false (<- elem' b (nb - 1)) a 0 na (na - 1)|return oA a b out na nb
   let k:=na - at_
   acount:=k
   if k > 0 then
    out:=out++(a.extract at_ na).reverse;na:=at_
    if na == 0 then return oA a b out na nb
   nb:=nb - 1;out:=out.push (<- elem' b nb)
   if nb == 1 then return vh a b out na nb
   let some at_ <- pF true (<- elem' a (na - 1)) b 0 nb (nb - 1)|return oA a b out na nb
   let k:=nb - at_
   bcount:=k
   if k > 0 then
    out:=out++(b.extract at_ nb).reverse;nb:=at_
    if nb == 1 then return vh a b out na nb
    if nb == 0 then return oA a b out na nb
   na:=na - 1;out:=out.push (<- elem' a na)
   if na == 0 then return oA a b out na nb
   if acount<7 && bcount<7 then break
  minGallop:=minGallop+1
  ji minGallop
 unsupported "internal:list.sort.merge-bound"):=rfl
def HP(a b out:Array Keyed)(na nb:Nat):Prop:=out.toList.Perm (a.toList.drop na++b.toList.drop nb)
theorem drop_one{l:List Keyed}{i:Nat}(h:i<l.length):l.drop i=l[i]::l.drop (i+1):=List.drop_eq_getElem_cons h
theorem HP.b{a b out:Array Keyed}{na nb:Nat}(h:HP a b out na nb)(h0:0<nb)(hi:nb<=b.size):HP a b (out.push (b[nb - 1]'(by omega))) na (nb - 1):=by
 unfold HP at h⊢;rw[qnZ,drop_one (l:=b.toList) (i:=nb - 1) (by simp;omega),show nb - 1+1=nb by omega];refine(h.append_right _).trans ?_;rw[qmo];refine qm3 _ ?_;simp only[Array.getElem_toList];exact qmX
theorem HP.a{a b out:Array Keyed}{na nb:Nat}(h:HP a b out na nb)(h0:0<na)(hi:na<=a.size):HP a b (out.push (a[na - 1]'(by omega))) (na - 1) nb:=by
 unfold HP at h⊢;rw[qnZ,drop_one (l:=a.toList) (i:=na - 1) (by simp;omega),show na - 1+1=na by omega];refine(h.append_right _).trans ?_;simp only[Array.getElem_toList,qnN];exact qmX
theorem Oj{l:List Keyed}{i n:Nat}(h:i<=n):l.drop i=(l.drop i).take (n - i)++l.drop n:=by
 have:=(qm4 (n - i) (l.drop i)).symm;rw[List.drop_drop,show i+(n - i)=n by omega] at this;exact this
theorem HP.as{a b out:Array Keyed}{na nb:Nat}(h:HP a b out na nb){k:Nat}(hk:k<=na):HP a b (out++(a.extract k na).reverse) k nb:=by
 unfold HP at h⊢;rw[qmY,Array.toList_reverse,qmR,qmC];have e:=Oj (l:=a.toList) hk;generalize (a.toList.drop k).take (na - k)=X at e⊢;rw[e];refine((h.append_right _).trans qmX).trans ?_;rw[qmo];exact(List.reverse_perm _).append_right _
theorem HP.bs{a b out:Array Keyed}{na nb:Nat}(h:HP a b out na nb){k:Nat}(hk:k<=nb):HP a b (out++(b.extract k nb).reverse) na k:=by
 unfold HP at h⊢;rw[qmY,Array.toList_reverse,qmR,qmC];have e:=Oj (l:=b.toList) hk;generalize (b.toList.drop k).take (nb - k)=X at e⊢;rw[e];refine(h.append_right _).trans ?_;rw[qmo];refine qm3 _ (qmX.trans ?_);exact(List.reverse_perm _).append_right _
theorem HP.done{a b out:Array Keyed}{na nb:Nat}(h:HP a b out na nb):(oA a b out na nb).toList.Perm (a.toList++b.toList):=by
 have e1:a.toList=a.toList.take na++a.toList.drop na:=(qm4 _ _).symm;have e2:b.toList=b.toList.take nb++b.toList.drop nb:=(qm4 _ _).symm;unfold oA;rw[qmY,qmY,qmR,qmR,qmC,qmC,Array.toList_reverse];simp only[List.drop_zero,Nat.sub_zero]
 conv=>rhs;rw[e1,e2]
 unfold HP at h;rw[qmo,qmo];refine qm3 _ ?_;refine(qm3 _ ((List.reverse_perm _).trans h)).trans ?_;rw[<- qmo,<- qmo];exact qmX.append_right _
theorem HP.first{a b out:Array Keyed}{na nb:Nat}(h:HP a b out na nb):(vh a b out na nb).toList.Perm (a.toList++b.toList):=by
 refine List.Perm.trans ?_ h.done;unfold vh oA;simp only[qmY];exact qmX.append_right _
theorem HP.size{a b out:Array Keyed}{na nb:Nat}(h:HP a b out na nb):out.size=(a.size - na)+(b.size - nb):=by
 have:=h.length_eq;simp at this;exact this
structure vL(a b out:Array Keyed)(na nb:Nat):Prop where
 p:HP a b out na nb
 a0:0<na
 a1:na<=a.size
 b0:1<nb
 b1:nb<=b.size
theorem RP{st:SortSt}{a b:Array Keyed}{Q:Array Keyed->SortSt->Prop}(hk:kindOf st=oneType')(hA:IK a)(hB:IK b)(ha:0<a.size)(hb:0<b.size)(h:∀out st',jj st st'->out.toList.Perm (a.toList++b.toList)->Q out st') :
  wpS (model prog w) A E s (Dz a b) Q st:=by
 rw[Oi];refine ql6 (wpS_lift (qn6 ⟨rfl,?_⟩));refine ql6 (aX (show a.size - 1<a.size by omega) ?_);have h0:HP a b #[a[a.size - 1]'(by omega)] (a.size - 1) b.size:=by
  have:=HP.a (a:=a) (b:=b) (out:=#[]) (na:=a.size) (nb:=b.size) (by unfold HP;simp[qnM]) ha (ql7 _);exact this
 dsimp only
 by_cases ha1:(a.size - 1 == 0)=true
 ·rw[if_pos ha1];exact ql5 (h _ _ (jj.refl _) h0.done)
 rw[if_neg ha1]
 by_cases hb1:(b.size == 1)=true
 ·rw[if_pos hb1];exact ql5 (h _ _ (jj.refl _) h0.first)
 rw[if_neg hb1];have m0:vL a b #[a[a.size - 1]'(by omega)] (a.size - 1) b.size:=⟨h0,by simp at ha1;omega,by omega,by simp at hb1;omega,ql7 _⟩;refine ql6 (wpS_get ?_);refine ql6 (qnj (qmN (I:=λi (c:Option (Array Keyed)×Nat×Nat×Array Keyed×Nat) st'=>c.1=none/\vL a b c.2.2.2.1 c.2.1 c.2.2.1/\jj st st'/\i+1<=(c.2.2.2.1).size)
  (Q:=λc st'=>jj st st'/\∃r,c.1=some r/\r.toList.Perm (a.toList++b.toList)) ?_ ?_ ⟨rfl,m0,jj.refl _,ql7 _⟩) ?_)
 ·rintro i ⟨c0,na0,nb0,KC,mg⟩ st1 _ hi ⟨hc,m1,g1,p1⟩;dsimp only at hc m1 p1⊢;subst hc;refine ql6 (qnj (qmN (I:=λj (c:Option (Array Keyed)×Nat×Nat×Array Keyed×Nat×Nat) st'=>c.1=none/\vL a b c.2.2.2.1 c.2.1 c.2.2.1/\st'=st1/\KC.size+j<=c.2.2.2.1.size)
   (Q:=λc st'=>st'=st1/\((∃r,c.1=some r/\r.toList.Perm (a.toList++b.toList))\/(c.1=none/\vL a b c.2.2.2.1 c.2.1 c.2.2.1/\KC.size+1<=c.2.2.2.1.size))) ?_ ?_ ⟨rfl,m1,rfl,ql7 _⟩) ?_)
  ·rintro j ⟨c0,na,nb,out,ac,bc⟩ st2 _ hj ⟨hc,m2,rfl,p2⟩;dsimp only at hc m2 p2⊢;subst hc;have a0:=m2.a0;have a1:=m2.a1;have b0:=m2.b0;have b1:=m2.b1;refine ql6 (aX (show nb - 1<b.size by omega) (ql6 (aX (show na - 1<a.size by omega) ?_)));obtain⟨x,xt,hx⟩:=hB.at (show nb - 1<b.size by omega);obtain⟨y,yt,hy⟩:=hA.at (show na - 1<a.size by omega);refine ql6 (Og (g1.1.trans hk) hx hy λbw=>?_);cases bw with
   |true=>
    simp only[if_true];refine ql6 (aX (show na - 1<a.size by omega) ?_);have m3:=m2.p.a a0 a1
    by_cases h2:(na - 1 == 0)=true
    ·rw[if_pos h2];exact ql5 ⟨rfl,.inl ⟨_,rfl,m3.done⟩⟩
    ·rw[if_neg h2];have m4:vL a b (out.push (a[na - 1]'(by omega))) (na - 1) nb:=⟨m3,by simp at h2;omega,by omega,b0,b1⟩
     by_cases h3:ac+1≥mg
     ·rw[if_pos h3];exact ql5 ⟨rfl,.inr ⟨rfl,m4,by rw[qma];omega⟩⟩
     ·rw[if_neg h3];exact ql5 ⟨rfl,m4,rfl,by rw[qma];omega⟩
   |false=>
    simp only[qm8,if_false];refine ql6 (aX (show nb - 1<b.size by omega) ?_);have m3:=m2.p.b (by omega) b1
    by_cases h2:(nb - 1 == 1)=true
    ·rw[if_pos h2];exact ql5 ⟨rfl,.inl ⟨_,rfl,m3.first⟩⟩
    ·rw[if_neg h2];have m4:vL a b (out.push (b[nb - 1]'(by omega))) na (nb - 1):=⟨m3,a0,a1,by simp at h2;omega,by omega⟩
     by_cases h3:bc+1≥mg
     ·rw[if_pos h3];exact ql5 ⟨rfl,.inr ⟨rfl,m4,by rw[qma];omega⟩⟩
     ·rw[if_neg h3];exact ql5 ⟨rfl,m4,rfl,by rw[qma];omega⟩
  ·rintro⟨c0,na,nb,out,ac,bc⟩ st2 ⟨hc,m2,rfl,p2⟩;dsimp only at hc m2 p2⊢;exact⟨rfl,.inr ⟨hc,m2,by omega⟩⟩
  ·rintro⟨c0,na,nb,out,ac,bc⟩ st2 ⟨rfl,⟨r,hc,hr⟩|⟨hc,m2,p2⟩⟩
   ·dsimp only at hc⊢;subst hc;exact ql5 ⟨g1,r,rfl,hr⟩
   ·dsimp only at hc m2 p2⊢;subst hc;dsimp only;refine ql6 (wpS_lift (qn6 ⟨rfl,?_⟩));refine ql6 (qnj (qmN (I:=λj (c:Option (Array Keyed)×Nat×Nat×Array Keyed×Nat×Nat×Nat) st'=>c.1=none/\vL a b c.2.2.2.1 c.2.1 c.2.2.1/\jj st st'/\out.size<=c.2.2.2.1.size)
     (Q:=λc st'=>jj st st'/\((∃r,c.1=some r/\r.toList.Perm (a.toList++b.toList))\/(c.1=none/\vL a b c.2.2.2.1 c.2.1 c.2.2.1/\out.size<=c.2.2.2.1.size))) ?_ ?_ ⟨rfl,m2,g1,ql7 _⟩) ?_)
    ·rintro j ⟨c0,na,nb,eN,mg,ac,bc⟩ st3 _ hj ⟨hc,m3,g3,p3⟩;dsimp only at hc m3 p3⊢;subst hc;have a0:=m3.a0;have a1:=m3.a1;have b0:=m3.b0;have b1:=m3.b1
     by_cases hmg:mg > 1
     ·rw[if_pos hmg];rw[d7];refine ql6 (qnp ?_);have g4:=g3.set (mg - 1);generalize zQ st3 (mg - 1)=Rh at g4⊢;have Nj:=g4.1.trans hk;refine ql6 (aX (show nb - 1<b.size by omega) (ql6 (dB Nj hA (hB.at (show nb - 1<b.size by omega)) (by omega) (by omega) λat1 qfq=>?_)));dsimp only
      by_cases d2:na - at1 > 0
      ·rw[if_pos d2];have q6:=m3.p.as qfq
       by_cases d3:(at1 == 0)=true
       ·rw[if_pos d3];exact ql5 ⟨g4,.inl ⟨_,rfl,q6.done⟩⟩
       ·rw[if_neg d3];have qfr:0<at1:=by simp at d3;omega
        have q1:=q6;have q2:0<at1:=qfr;have q4:out.size<=(eN++(a.extract at1 na).reverse).size:=by rw[qnt];omega
        refine ql6 (aX (show nb - 1<b.size by omega) ?_);have q5:=q1.b (show 0<nb by omega) b1
        by_cases f1:(nb - 1 == 1)=true
        ·rw[if_pos f1];exact ql5 ⟨g4,.inl ⟨_,rfl,q5.first⟩⟩
        ·rw[if_neg f1];have b2:1<nb - 1:=by simp at f1;omega
         refine ql6 (aX (show at1 - 1<a.size by omega) (ql6 (dB Nj hB (hA.at (show at1 - 1<a.size by omega)) (by omega) (by omega) λat2 RQ=>?_)));dsimp only
         by_cases f2:nb - 1 - at2 > 0
         ·rw[if_pos f2];have q6:=q5.bs RQ
          by_cases f3:(at2 == 1)=true
          ·rw[if_pos f3];exact ql5 ⟨g4,.inl ⟨_,rfl,q6.first⟩⟩
          ·rw[if_neg f3]
           by_cases f4:(at2 == 0)=true
           ·rw[if_pos f4];exact ql5 ⟨g4,.inl ⟨_,rfl,q6.done⟩⟩
           ·rw[if_neg f4];have RV:1<at2:=by simp at f3 f4;omega
            have r1:=q6;have r2:0<at1:=q2;have r3:1<at2:=RV;have r4:out.size<=((eN++(a.extract at1 na).reverse).push (b[nb - 1]'(show nb - 1<b.size by omega))++(b.extract at2 (nb - 1)).reverse).size:=by rw[qnt,qma];omega
            refine ql6 (aX (show at1 - 1<a.size by omega) ?_);have r5:=r1.a r2 (show at1<=a.size by omega)
            by_cases e1:(at1 - 1 == 0)=true
            ·rw[if_pos e1];exact ql5 ⟨g4,.inl ⟨_,rfl,r5.done⟩⟩
            ·rw[if_neg e1];have m4:vL a b (((eN++(a.extract at1 na).reverse).push (b[nb - 1]'(show nb - 1<b.size by omega))++(b.extract at2 (nb - 1)).reverse).push (a[at1 - 1]'(show at1 - 1<a.size by omega))) (at1 - 1) (at2):=⟨r5,by simp at e1;omega,by omega,r3,by omega⟩;split
             ·exact ql5 ⟨g4,.inr ⟨rfl,m4,by rw[qma];omega⟩⟩
             ·exact ql5 ⟨rfl,m4,g4,by rw[qma];omega⟩
         ·rw[if_neg f2];have r1:=q5;have r2:0<at1:=q2;have r3:1<nb - 1:=b2;have r4:out.size<=((eN++(a.extract at1 na).reverse).push (b[nb - 1]'(show nb - 1<b.size by omega))).size:=by rw[qma];omega
          refine ql6 (aX (show at1 - 1<a.size by omega) ?_);have r5:=r1.a r2 (show at1<=a.size by omega)
          by_cases e1:(at1 - 1 == 0)=true
          ·rw[if_pos e1];exact ql5 ⟨g4,.inl ⟨_,rfl,r5.done⟩⟩
          ·rw[if_neg e1];have m4:vL a b (((eN++(a.extract at1 na).reverse).push (b[nb - 1]'(show nb - 1<b.size by omega))).push (a[at1 - 1]'(show at1 - 1<a.size by omega))) (at1 - 1) (nb - 1):=⟨r5,by simp at e1;omega,by omega,r3,by omega⟩;split
           ·exact ql5 ⟨g4,.inr ⟨rfl,m4,by rw[qma];omega⟩⟩
           ·exact ql5 ⟨rfl,m4,g4,by rw[qma];omega⟩
      ·rw[if_neg d2];have q1:=m3.p;have q2:0<na:=a0;have q4:out.size<=(eN).size:=p3;refine ql6 (aX (show nb - 1<b.size by omega) ?_);have q5:=q1.b (show 0<nb by omega) b1
       by_cases f1:(nb - 1 == 1)=true
       ·rw[if_pos f1];exact ql5 ⟨g4,.inl ⟨_,rfl,q5.first⟩⟩
       ·rw[if_neg f1];have b2:1<nb - 1:=by simp at f1;omega
        refine ql6 (aX (show na - 1<a.size by omega) (ql6 (dB Nj hB (hA.at (show na - 1<a.size by omega)) (by omega) (by omega) λat2 RQ=>?_)));dsimp only
        by_cases f2:nb - 1 - at2 > 0
        ·rw[if_pos f2];have q6:=q5.bs RQ
         by_cases f3:(at2 == 1)=true
         ·rw[if_pos f3];exact ql5 ⟨g4,.inl ⟨_,rfl,q6.first⟩⟩
         ·rw[if_neg f3]
          by_cases f4:(at2 == 0)=true
          ·rw[if_pos f4];exact ql5 ⟨g4,.inl ⟨_,rfl,q6.done⟩⟩
          ·rw[if_neg f4];have RV:1<at2:=by simp at f3 f4;omega
           have r1:=q6;have r2:0<na:=q2;have r3:1<at2:=RV;have r4:out.size<=((eN).push (b[nb - 1]'(show nb - 1<b.size by omega))++(b.extract at2 (nb - 1)).reverse).size:=by rw[qnt,qma];omega
           refine ql6 (aX (show na - 1<a.size by omega) ?_);have r5:=r1.a r2 (show na<=a.size by omega)
           by_cases e1:(na - 1 == 0)=true
           ·rw[if_pos e1];exact ql5 ⟨g4,.inl ⟨_,rfl,r5.done⟩⟩
           ·rw[if_neg e1];have m4:vL a b (((eN).push (b[nb - 1]'(show nb - 1<b.size by omega))++(b.extract at2 (nb - 1)).reverse).push (a[na - 1]'(show na - 1<a.size by omega))) (na - 1) (at2):=⟨r5,by simp at e1;omega,by omega,r3,by omega⟩;split
            ·exact ql5 ⟨g4,.inr ⟨rfl,m4,by rw[qma];omega⟩⟩
            ·exact ql5 ⟨rfl,m4,g4,by rw[qma];omega⟩
        ·rw[if_neg f2];have r1:=q5;have r2:0<na:=q2;have r3:1<nb - 1:=b2;have r4:out.size<=((eN).push (b[nb - 1]'(show nb - 1<b.size by omega))).size:=by rw[qma];omega
         refine ql6 (aX (show na - 1<a.size by omega) ?_);have r5:=r1.a r2 (show na<=a.size by omega)
         by_cases e1:(na - 1 == 0)=true
         ·rw[if_pos e1];exact ql5 ⟨g4,.inl ⟨_,rfl,r5.done⟩⟩
         ·rw[if_neg e1];have m4:vL a b (((eN).push (b[nb - 1]'(show nb - 1<b.size by omega))).push (a[na - 1]'(show na - 1<a.size by omega))) (na - 1) (nb - 1):=⟨r5,by simp at e1;omega,by omega,r3,by omega⟩;split
          ·exact ql5 ⟨g4,.inr ⟨rfl,m4,by rw[qma];omega⟩⟩
          ·exact ql5 ⟨rfl,m4,g4,by rw[qma];omega⟩
     ·rw[if_neg hmg];rw[d7];refine ql6 (qnp ?_);have g4:=g3.set mg;generalize zQ st3 mg=Rh at g4⊢;have Nj:=g4.1.trans hk;refine ql6 (aX (show nb - 1<b.size by omega) (ql6 (dB Nj hA (hB.at (show nb - 1<b.size by omega)) (by omega) (by omega) λat1 qfq=>?_)));dsimp only
      by_cases d2:na - at1 > 0
      ·rw[if_pos d2];have q6:=m3.p.as qfq
       by_cases d3:(at1 == 0)=true
       ·rw[if_pos d3];exact ql5 ⟨g4,.inl ⟨_,rfl,q6.done⟩⟩
       ·rw[if_neg d3];have qfr:0<at1:=by simp at d3;omega
        have q1:=q6;have q2:0<at1:=qfr;have q4:out.size<=(eN++(a.extract at1 na).reverse).size:=by rw[qnt];omega
        refine ql6 (aX (show nb - 1<b.size by omega) ?_);have q5:=q1.b (show 0<nb by omega) b1
        by_cases f1:(nb - 1 == 1)=true
        ·rw[if_pos f1];exact ql5 ⟨g4,.inl ⟨_,rfl,q5.first⟩⟩
        ·rw[if_neg f1];have b2:1<nb - 1:=by simp at f1;omega
         refine ql6 (aX (show at1 - 1<a.size by omega) (ql6 (dB Nj hB (hA.at (show at1 - 1<a.size by omega)) (by omega) (by omega) λat2 RQ=>?_)));dsimp only
         by_cases f2:nb - 1 - at2 > 0
         ·rw[if_pos f2];have q6:=q5.bs RQ
          by_cases f3:(at2 == 1)=true
          ·rw[if_pos f3];exact ql5 ⟨g4,.inl ⟨_,rfl,q6.first⟩⟩
          ·rw[if_neg f3]
           by_cases f4:(at2 == 0)=true
           ·rw[if_pos f4];exact ql5 ⟨g4,.inl ⟨_,rfl,q6.done⟩⟩
           ·rw[if_neg f4];have RV:1<at2:=by simp at f3 f4;omega
            have r1:=q6;have r2:0<at1:=q2;have r3:1<at2:=RV;have r4:out.size<=((eN++(a.extract at1 na).reverse).push (b[nb - 1]'(show nb - 1<b.size by omega))++(b.extract at2 (nb - 1)).reverse).size:=by rw[qnt,qma];omega
            refine ql6 (aX (show at1 - 1<a.size by omega) ?_);have r5:=r1.a r2 (show at1<=a.size by omega)
            by_cases e1:(at1 - 1 == 0)=true
            ·rw[if_pos e1];exact ql5 ⟨g4,.inl ⟨_,rfl,r5.done⟩⟩
            ·rw[if_neg e1];have m4:vL a b (((eN++(a.extract at1 na).reverse).push (b[nb - 1]'(show nb - 1<b.size by omega))++(b.extract at2 (nb - 1)).reverse).push (a[at1 - 1]'(show at1 - 1<a.size by omega))) (at1 - 1) (at2):=⟨r5,by simp at e1;omega,by omega,r3,by omega⟩;split
             ·exact ql5 ⟨g4,.inr ⟨rfl,m4,by rw[qma];omega⟩⟩
             ·exact ql5 ⟨rfl,m4,g4,by rw[qma];omega⟩
         ·rw[if_neg f2];have r1:=q5;have r2:0<at1:=q2;have r3:1<nb - 1:=b2;have r4:out.size<=((eN++(a.extract at1 na).reverse).push (b[nb - 1]'(show nb - 1<b.size by omega))).size:=by rw[qma];omega
          refine ql6 (aX (show at1 - 1<a.size by omega) ?_);have r5:=r1.a r2 (show at1<=a.size by omega)
          by_cases e1:(at1 - 1 == 0)=true
          ·rw[if_pos e1];exact ql5 ⟨g4,.inl ⟨_,rfl,r5.done⟩⟩
          ·rw[if_neg e1];have m4:vL a b (((eN++(a.extract at1 na).reverse).push (b[nb - 1]'(show nb - 1<b.size by omega))).push (a[at1 - 1]'(show at1 - 1<a.size by omega))) (at1 - 1) (nb - 1):=⟨r5,by simp at e1;omega,by omega,r3,by omega⟩;split
           ·exact ql5 ⟨g4,.inr ⟨rfl,m4,by rw[qma];omega⟩⟩
           ·exact ql5 ⟨rfl,m4,g4,by rw[qma];omega⟩
      ·rw[if_neg d2];have q1:=m3.p;have q2:0<na:=a0;have q4:out.size<=(eN).size:=p3;refine ql6 (aX (show nb - 1<b.size by omega) ?_);have q5:=q1.b (show 0<nb by omega) b1
       by_cases f1:(nb - 1 == 1)=true
       ·rw[if_pos f1];exact ql5 ⟨g4,.inl ⟨_,rfl,q5.first⟩⟩
       ·rw[if_neg f1];have b2:1<nb - 1:=by simp at f1;omega
        refine ql6 (aX (show na - 1<a.size by omega) (ql6 (dB Nj hB (hA.at (show na - 1<a.size by omega)) (by omega) (by omega) λat2 RQ=>?_)));dsimp only
        by_cases f2:nb - 1 - at2 > 0
        ·rw[if_pos f2];have q6:=q5.bs RQ
         by_cases f3:(at2 == 1)=true
         ·rw[if_pos f3];exact ql5 ⟨g4,.inl ⟨_,rfl,q6.first⟩⟩
         ·rw[if_neg f3]
          by_cases f4:(at2 == 0)=true
          ·rw[if_pos f4];exact ql5 ⟨g4,.inl ⟨_,rfl,q6.done⟩⟩
          ·rw[if_neg f4];have RV:1<at2:=by simp at f3 f4;omega
           have r1:=q6;have r2:0<na:=q2;have r3:1<at2:=RV;have r4:out.size<=((eN).push (b[nb - 1]'(show nb - 1<b.size by omega))++(b.extract at2 (nb - 1)).reverse).size:=by rw[qnt,qma];omega
           refine ql6 (aX (show na - 1<a.size by omega) ?_);have r5:=r1.a r2 (show na<=a.size by omega)
           by_cases e1:(na - 1 == 0)=true
           ·rw[if_pos e1];exact ql5 ⟨g4,.inl ⟨_,rfl,r5.done⟩⟩
           ·rw[if_neg e1];have m4:vL a b (((eN).push (b[nb - 1]'(show nb - 1<b.size by omega))++(b.extract at2 (nb - 1)).reverse).push (a[na - 1]'(show na - 1<a.size by omega))) (na - 1) (at2):=⟨r5,by simp at e1;omega,by omega,r3,by omega⟩;split
            ·exact ql5 ⟨g4,.inr ⟨rfl,m4,by rw[qma];omega⟩⟩
            ·exact ql5 ⟨rfl,m4,g4,by rw[qma];omega⟩
        ·rw[if_neg f2];have r1:=q5;have r2:0<na:=q2;have r3:1<nb - 1:=b2;have r4:out.size<=((eN).push (b[nb - 1]'(show nb - 1<b.size by omega))).size:=by rw[qma];omega
         refine ql6 (aX (show na - 1<a.size by omega) ?_);have r5:=r1.a r2 (show na<=a.size by omega)
         by_cases e1:(na - 1 == 0)=true
         ·rw[if_pos e1];exact ql5 ⟨g4,.inl ⟨_,rfl,r5.done⟩⟩
         ·rw[if_neg e1];have m4:vL a b (((eN).push (b[nb - 1]'(show nb - 1<b.size by omega))).push (a[na - 1]'(show na - 1<a.size by omega))) (na - 1) (nb - 1):=⟨r5,by simp at e1;omega,by omega,r3,by omega⟩;split
          ·exact ql5 ⟨g4,.inr ⟨rfl,m4,by rw[qma];omega⟩⟩
          ·exact ql5 ⟨rfl,m4,g4,by rw[qma];omega⟩
    ·rintro⟨c0,na,nb,eN,mg,ac,bc⟩ st3 ⟨hc,m3,g3,p3⟩;exact⟨g3,.inr ⟨hc,m3,p3⟩⟩
    ·rintro⟨c0,na,nb,eN,mg,ac,bc⟩ st3 ⟨g3,⟨r,hc,hr⟩|⟨hc,m3,p3⟩⟩
     ·dsimp only at hc⊢;subst hc;exact ql5 ⟨g3,r,rfl,hr⟩
     ·dsimp only at hc m3 p3⊢;subst hc;dsimp only;rw[d7];exact ql6 (qnp (ql5 ⟨rfl,m3,g3.set _,by dsimp only;omega⟩))
 ·rintro⟨c0,na0,nb0,KC,mg⟩ st1 ⟨hc,m1,g1,p1⟩;dsimp only at hc m1 p1⊢;have:=m1.p.size;have h1:=m1.a0;have h2:=m1.b0;have h3:=m1.a1;have h4:=m1.b1;omega
 ·rintro⟨c0,na0,nb0,KC,mg⟩ st1 ⟨g1,r,hc,hr⟩;dsimp only at hc⊢;subst hc;exact ql5 (h _ _ g1 hr)
end
section
variable {prog:Program}{w:World}{A:Around}{E:QAB}{s:Shared}{a₀:Array Keyed}
structure SI(a₀:Array Keyed)(p:Array (Nat×Nat×Nat))(st:SortSt):Prop where
 perm:(arrOf st).Perm a₀
 kind:kindOf st=oneType'
 failed:failedOf st=none
 pend:pendingOf st=p
theorem SI.size{p:Array (Nat×Nat×Nat)}{st:SortSt}(h:SI a₀ p st):(arrOf st).size=a₀.size:=h.perm.size_eq
theorem SI.ik{p:Array (Nat×Nat×Nat)}{st:SortSt}(h:SI a₀ p st)(h0:IK a₀):IK (arrOf st):=λx hx=>h0 x ((Array.perm_iff_toList_perm.mp h.perm).mem_iff.mp hx)
theorem SI.arr{p:Array (Nat×Nat×Nat)}{st:SortSt}(h:SI a₀ p st){xs:Array Keyed}(hp:xs.Perm (arrOf st)):SI a₀ p (setArr st xs):=⟨hp.trans h.perm,h.kind,h.failed,h.pend⟩
theorem jX{p:Array (Nat×Nat×Nat)}{st:SortSt}{i j:Nat}{Q:Option Bool->SortSt->Prop}(hS:SI a₀ p st)(h0:IK a₀)(hi:i<a₀.size)(hj:j<a₀.size)(h:∀b,Q (some b) st):wpS (model prog w) A E s (ltAt' i j) Q st:=by
 rw[ltAt'_eq];refine ql6 (wpS_get ?_);have hs:=hS.size;have hI:=hS.ik h0;refine ql6 (aX (show i<(arrOf st).size by omega) (ql6 (aX (show j<(arrOf st).size by omega) ?_)));obtain⟨x,xt,hx⟩:=hI.at (show i<(arrOf st).size by omega);obtain⟨y,yt,hy⟩:=hI.at (show j<(arrOf st).size by omega);exact Og hS.kind hx hy h
theorem rM{p:Array (Nat×Nat×Nat)}{st:SortSt}{i j:Nat}{Q:Unit->SortSt->Prop}(hS:SI a₀ p st)(h:∀st',SI a₀ p st'->Q () st'):wpS (model prog w) A E s (reverseSlice' i j) Q st:=by
 rw[reverseSlice'_eq];exact qnp (h _ (hS.arr (mirror_perm _ _ _ _)))
theorem WX{p:Array (Nat×Nat×Nat)}{st:SortSt}{lo n ok:Nat}{Q:Bool->SortSt->Prop}(hS:SI a₀ p st)(h0:IK a₀)(hn:lo+n<=a₀.size)(h:∀st',SI a₀ p st'->Q true st'):wpS (model prog w) A E s (binarySort' lo n ok) Q st:=by
 rw[binarySort'_eq];refine ql6 (qnj (qmN (I:=λ_ c st'=>c=(none,())/\SI a₀ p st') (Q:=λc st'=>c=(none,())/\SI a₀ p st') ?_ (λ_ _ h=>h) ⟨rfl,hS⟩) ?_)
 ·rintro k c st1 h1 h2 ⟨rfl,hS1⟩;refine ql6 (qnj (qmN (I:=λ_ (c:Option Bool×Nat×Nat) st'=>c.1=none/\c.2.2<=k/\st'=st1) (Q:=λc st'=>c.1=none/\st'=st1) ?_ (λ_ _ h=>⟨h.1,h.2.2⟩) ⟨rfl,ql7 _,rfl⟩) ?_)
  ·rintro i ⟨c0,l,r⟩ st2 _ _ ⟨hc,hr,rfl⟩;dsimp only at hc hr⊢;subst hc
   by_cases hle:l≥r
   ·rw[if_pos hle];exact ql5 ⟨rfl,rfl⟩
   ·rw[if_neg hle];refine ql6 (jX hS1 h0 (by omega) (by omega) λb=>?_);cases b with
    |true=>exact ql5 ⟨rfl,by dsimp only;omega,rfl⟩
    |false=>exact ql5 ⟨rfl,hr,rfl⟩
  ·rintro⟨c0,l,r⟩ st2 ⟨hc,rfl⟩;dsimp only at hc⊢;subst hc;dsimp only;rw[moveDown'_eq];exact ql6 (qnp (ql5 ⟨rfl,hS1.arr (bubble_perm _ _ _)⟩))
 ·rintro c st1 ⟨rfl,hS1⟩;exact ql5 (h _ hS1)
theorem qaC{p:Array (Nat×Nat×Nat)}{st:SortSt}{lo nrem:Nat}{Q:Option Nat->SortSt->Prop}(hS:SI a₀ p st)(h0:IK a₀)(hn:lo+nrem<=a₀.size)(h1:1<=nrem)(h:∀n st',SI a₀ p st'->1<=n->n<=nrem->Q (some n) st'):wpS (model prog w) A E s (countRun' lo nrem) Q st:=by
 rw[countRun'_eq];dsimp only;refine ql6 (qnj (qmN (I:=λi (c:Option (Option Nat)×Nat) st'=>c.1=none/\c.2=i/\st'=st) (Q:=λc st'=>c.1=none/\1<=c.2/\c.2<=nrem/\st'=st) ?_ ?_ ⟨rfl,rfl,rfl⟩) ?_)
 ·rintro i ⟨c0,n⟩ st1 hi1 hi2 ⟨hc,hn',rfl⟩;dsimp only at hc hn'⊢;subst hc hn';refine ql6 (jX hS h0 (by omega) (by omega) λb=>?_);cases b with
  |true=>exact ql5 ⟨rfl,hi1,by dsimp only;omega,rfl⟩
  |false=>exact ql5 ⟨rfl,rfl,rfl⟩
 ·rintro⟨c0,n⟩ st1 ⟨hc,hn',rfl⟩;dsimp only at hc hn'⊢;exact⟨hc,by omega,by omega,rfl⟩
 ·rintro⟨c0,n⟩ st1 ⟨hc,hn1,hn2,rfl⟩;dsimp only at hc hn1 hn2⊢;subst hc;dsimp only
  by_cases he:(n == nrem)=true
  ·rw[if_pos he];exact ql5 (h _ _ hS hn1 hn2)
  ·rw[if_neg he];have hlt:n<nrem:=by simp at he;omega
   by_cases Gx:n > 1
   ·rw[if_pos Gx];refine ql6 (jX hS h0 (by omega) (by omega) λb=>?_);cases b with
    |true=>exact ql5 (h _ _ hS hn1 hn2)
    |false=>
     simp only[qm8,if_false];refine ql6 (rM hS λst3 tX=>?_);refine ql6 (wpS_lift (qn6 ⟨rfl,?_⟩));refine ql6 (qnj (qmN (I:=λi (c:Option (Option Nat)×Nat×Nat) st'=>c.1=none/\c.2.1=i/\SI a₀ p st') (Q:=λc st'=>c.1=none/\1<=c.2.1/\c.2.1<=nrem/\SI a₀ p st') ?_ ?_ ⟨rfl,rfl,tX⟩) ?_)
     ·rintro i ⟨c0,n5,q5⟩ Vz hi1 hi2 ⟨hc,hn',DG⟩;dsimp only at hc hn'⊢;subst hc hn';refine ql6 (jX DG h0 (by omega) (by omega) λb=>?_);cases b with
      |true=>
       simp only[if_true]
       by_cases hq:q5 > 0
       ·rw[if_pos hq];refine ql6 (rM DG λst6 hS6=>ql5 ⟨rfl,rfl,hS6⟩)
       ·rw[if_neg hq];exact ql5 ⟨rfl,rfl,DG⟩
      |false=>
       simp only[qm8,if_false];refine ql6 (jX DG h0 (by omega) (by omega) λb=>?_);cases b with
       |true=>exact ql5 ⟨rfl,by dsimp only;omega,by dsimp only;omega,DG⟩
       |false=>exact ql5 ⟨rfl,rfl,DG⟩
     ·rintro⟨c0,n5,q5⟩ Vz ⟨hc,hn',DG⟩;dsimp only at hc hn'⊢;exact⟨hc,by omega,by omega,DG⟩
     ·rintro⟨c0,n5,q5⟩ Vz ⟨hc,WY,hn6,DG⟩;dsimp only at hc WY hn6⊢;subst hc;dsimp only
      by_cases hq:q5 > 0
      ·rw[if_pos hq];refine ql6 (rM DG λst6 hS6=>ql6 ?_);refine rM hS6 λst7 hS7=>?_;refine ql6 (qnj (qmN (I:=λi (c:Option (Option Nat)×Nat) st'=>c.1=none/\c.2=i/\st'=st7) (Q:=λc st'=>c.1=none/\1<=c.2/\c.2<=nrem/\st'=st7) ?_ ?_ ⟨rfl,rfl,rfl⟩) ?_)
       ·rintro i ⟨c0,n7⟩ st8 hi1 hi2 ⟨hc,hn',rfl⟩;dsimp only at hc hn'⊢;subst hc hn';refine ql6 (jX hS7 h0 (by omega) (by omega) λb=>?_);cases b with
        |true=>exact ql5 ⟨rfl,by dsimp only;omega,by dsimp only;omega,rfl⟩
        |false=>exact ql5 ⟨rfl,rfl,rfl⟩
       ·rintro⟨c0,n7⟩ st8 ⟨hc,hn',rfl⟩;dsimp only at hc hn'⊢;exact⟨hc,by omega,by omega,rfl⟩
       ·rintro⟨c0,n7⟩ st8 ⟨hc,Ol,hn8,rfl⟩;dsimp only at hc Ol hn8⊢;subst hc;exact ql5 (h _ _ hS7 Ol hn8)
      ·rw[if_neg hq];refine ql6 ?_;refine rM DG λst7 hS7=>?_;refine ql6 (qnj (qmN (I:=λi (c:Option (Option Nat)×Nat) st'=>c.1=none/\c.2=i/\st'=st7) (Q:=λc st'=>c.1=none/\1<=c.2/\c.2<=nrem/\st'=st7) ?_ ?_ ⟨rfl,rfl,rfl⟩) ?_)
       ·rintro i ⟨c0,n7⟩ st8 hi1 hi2 ⟨hc,hn',rfl⟩;dsimp only at hc hn'⊢;subst hc hn';refine ql6 (jX hS7 h0 (by omega) (by omega) λb=>?_);cases b with
        |true=>exact ql5 ⟨rfl,by dsimp only;omega,by dsimp only;omega,rfl⟩
        |false=>exact ql5 ⟨rfl,rfl,rfl⟩
       ·rintro⟨c0,n7⟩ st8 ⟨hc,hn',rfl⟩;dsimp only at hc hn'⊢;exact⟨hc,by omega,by omega,rfl⟩
       ·rintro⟨c0,n7⟩ st8 ⟨hc,Ol,hn8,rfl⟩;dsimp only at hc Ol hn8⊢;subst hc;exact ql5 (h _ _ hS7 Ol hn8)
   ·rw[if_neg Gx];refine ql6 (wpS_lift (qn6 ⟨rfl,?_⟩));refine ql6 (qnj (qmN (I:=λi (c:Option (Option Nat)×Nat×Nat) st'=>c.1=none/\c.2.1=i/\SI a₀ p st') (Q:=λc st'=>c.1=none/\1<=c.2.1/\c.2.1<=nrem/\SI a₀ p st') ?_ ?_ ⟨rfl,rfl,hS⟩) ?_)
    ·rintro i ⟨c0,n5,q5⟩ Vz hi1 hi2 ⟨hc,hn',DG⟩;dsimp only at hc hn'⊢;subst hc hn';refine ql6 (jX DG h0 (by omega) (by omega) λb=>?_);cases b with
     |true=>
      simp only[if_true]
      by_cases hq:q5 > 0
      ·rw[if_pos hq];refine ql6 (rM DG λst6 hS6=>ql5 ⟨rfl,rfl,hS6⟩)
      ·rw[if_neg hq];exact ql5 ⟨rfl,rfl,DG⟩
     |false=>
      simp only[qm8,if_false];refine ql6 (jX DG h0 (by omega) (by omega) λb=>?_);cases b with
      |true=>exact ql5 ⟨rfl,by dsimp only;omega,by dsimp only;omega,DG⟩
      |false=>exact ql5 ⟨rfl,rfl,DG⟩
    ·rintro⟨c0,n5,q5⟩ Vz ⟨hc,hn',DG⟩;dsimp only at hc hn'⊢;exact⟨hc,by omega,by omega,DG⟩
    ·rintro⟨c0,n5,q5⟩ Vz ⟨hc,WY,hn6,DG⟩;dsimp only at hc WY hn6⊢;subst hc;dsimp only
     by_cases hq:q5 > 0
     ·rw[if_pos hq];refine ql6 (rM DG λst6 hS6=>ql6 ?_);refine rM hS6 λst7 hS7=>?_;refine ql6 (qnj (qmN (I:=λi (c:Option (Option Nat)×Nat) st'=>c.1=none/\c.2=i/\st'=st7) (Q:=λc st'=>c.1=none/\1<=c.2/\c.2<=nrem/\st'=st7) ?_ ?_ ⟨rfl,rfl,rfl⟩) ?_)
      ·rintro i ⟨c0,n7⟩ st8 hi1 hi2 ⟨hc,hn',rfl⟩;dsimp only at hc hn'⊢;subst hc hn';refine ql6 (jX hS7 h0 (by omega) (by omega) λb=>?_);cases b with
       |true=>exact ql5 ⟨rfl,by dsimp only;omega,by dsimp only;omega,rfl⟩
       |false=>exact ql5 ⟨rfl,rfl,rfl⟩
      ·rintro⟨c0,n7⟩ st8 ⟨hc,hn',rfl⟩;dsimp only at hc hn'⊢;exact⟨hc,by omega,by omega,rfl⟩
      ·rintro⟨c0,n7⟩ st8 ⟨hc,Ol,hn8,rfl⟩;dsimp only at hc Ol hn8⊢;subst hc;exact ql5 (h _ _ hS7 Ol hn8)
     ·rw[if_neg hq];refine ql6 ?_;refine rM DG λst7 hS7=>?_;refine ql6 (qnj (qmN (I:=λi (c:Option (Option Nat)×Nat) st'=>c.1=none/\c.2=i/\st'=st7) (Q:=λc st'=>c.1=none/\1<=c.2/\c.2<=nrem/\st'=st7) ?_ ?_ ⟨rfl,rfl,rfl⟩) ?_)
      ·rintro i ⟨c0,n7⟩ st8 hi1 hi2 ⟨hc,hn',rfl⟩;dsimp only at hc hn'⊢;subst hc hn';refine ql6 (jX hS7 h0 (by omega) (by omega) λb=>?_);cases b with
       |true=>exact ql5 ⟨rfl,by dsimp only;omega,by dsimp only;omega,rfl⟩
       |false=>exact ql5 ⟨rfl,rfl,rfl⟩
      ·rintro⟨c0,n7⟩ st8 ⟨hc,hn',rfl⟩;dsimp only at hc hn'⊢;exact⟨hc,by omega,by omega,rfl⟩
      ·rintro⟨c0,n7⟩ st8 ⟨hc,Ol,hn8,rfl⟩;dsimp only at hc Ol hn8⊢;subst hc;exact ql5 (h _ _ hS7 Ol hn8)
end
section
variable {prog:Program}{w:World}{A:Around}{E:QAB}{s:Shared}{a₀:Array Keyed}
theorem qcJ{M:Model}{v st:SortSt}{Q:PUnit->SortSt->Prop}(h:Q ⟨⟩ v):wpS M A E s (set v:StateT SortSt Sem PUnit) Q st:=by
 unfold wpS;rw[StateT.run_set];exact qmb ⟨rfl,h⟩
theorem Om(i:Nat):mergeAt' i=(do
 let s <- get
 let (some (sa,na,power),some (sb,nb,_)):=((pendingOf s)[i]?,(pendingOf s)[i+1]?)|unsupported "internal:list.sort.pending"
 set (SortSt.mk' (kindOf s) (arrOf s) (((pendingOf s).setIfInBounds i (sa,na+nb,power)).eraseIdxIfInBounds (i+1)) (gallopOf s) (failedOf s))
 let some k <- pF false (<- elem' (arrOf s) sb) (arrOf s) sa na 0|return false
 let (sa,na):=(sa+k,na - k)
 if na == 0 then return true
 let some nb <- pF true (<- elem' (arrOf s) (sa+na - 1)) (arrOf s) sb nb (nb - 1)|return false
 if nb == 0 then return true
 let x:=(arrOf s).extract sa sb
 let y:=(arrOf s).extract sb (sb+nb)
 let merged <- if na<=nb then Dy x y else Dz x y
 modify λs=>SortSt.mk' (kindOf s) (merged.toList.zipIdx.foldl (λa (p,j)=>a.setIfInBounds (sa+j) p) (arrOf s)) (pendingOf s) (gallopOf s) (failedOf s)
 return (failedOf (<- get)).isNone):=rfl
def Ma:Nat->List (Nat×Nat×Nat)->Nat->Prop
 |s,[],e=>s=e
 |s,(a,n,_)::r,e=>a=s/\0<n/\Ma (s+n) r e
theorem Ma.le:∀{s e:Nat}{p:List (Nat×Nat×Nat)},Ma s p e->s<=e
 |_,_,[],h=>Nat.le_of_eq h
 |_,_,(a,n,_)::r,⟨_,_,h⟩=>by have:=Ma.le h;omega
theorem Ma.merge:∀{s e i sa na pw sb nb q:Nat}{p:List (Nat×Nat×Nat)},Ma s p e->p[i]? = some (sa,na,pw)->p[i+1]? = some (sb,nb,q)->
  sb=sa+na/\0<na/\0<nb/\sb+nb<=e/\Ma s ((p.set i (sa,na+nb,pw)).eraseIdx (i+1)) e
 |s,e,0,sa,na,pw,sb,nb,q,(a,n,x)::(b,m,y)::r,⟨h1,h2,h3,h4,h5⟩,e1,e2=>by
  simp at e1 e2;obtain⟨rfl,rfl,rfl⟩:=e1;obtain⟨rfl,rfl,rfl⟩:=e2;have:=h5.le;refine⟨by omega,h2,h4,by omega,?_⟩;simp only[List.set_cons_zero,List.eraseIdx_cons_succ,List.eraseIdx_cons_zero];exact⟨h1,by omega,by rw[<- Nat.add_assoc];exact h5⟩
 |s,e,i+1,sa,na,pw,sb,nb,q,(a,n,x)::r,⟨h1,h2,h3⟩,e1,e2=>by
  obtain⟨q1,q2,q3,q4,q5⟩:=Ma.merge h3 (by simpa using e1) (by simpa using e2);refine⟨q1,q2,q3,q4,?_⟩;simp only[List.set_cons_succ,List.eraseIdx_cons_succ];exact⟨h1,h2,q5⟩
 |_,_,0,_,_,_,_,_,_,[],_,e1,_=>by simp at e1
 |_,_,0,_,_,_,_,_,_,[_],_,_,e2=>by simp at e2
 |_,_,_+1,_,_,_,_,_,_,[],_,e1,_=>by simp at e1
theorem Ig:∀(m:List Keyed)(a:Array Keyed)(sa j:Nat),sa+j+m.length<=a.size->((m.zipIdx j).foldl (λa (p,j)=>a.setIfInBounds (sa+j) p) a).toList=a.toList.take (sa+j)++m++a.toList.drop (sa+j+m.length)
 |[],a,sa,j,_=>by simp
 |x::m,a,sa,j,h=>by
  simp only[qmq] at h;rw[List.zipIdx_cons,qnV];rw[Ig m _ sa (j+1) (by simp;omega)];simp only[qow];rw[List.take_set,List.drop_set_of_lt (by omega)];have h2:sa+j<a.toList.length:=by simp;omega
  rw[show sa+(j+1)=(sa+j)+1 by omega,List.take_succ,qmM h2];have h3:(a.toList.take (sa+j)).length=sa+j:=by simp;omega
  rw[List.set_append_right _ _ (by omega),h3];simp only[Nat.sub_self,Option.toList,List.set_cons_zero,qmo,qnN,List.nil_append,qmq];rw[show sa+j+1+m.length=sa+j+(m.length+1) by omega]
theorem Oo{a m:Array Keyed}{sa e:Nat}(hm:m.toList.Perm ((a.toList.take e).drop sa))(h1:sa<=e)(h2:e<=a.size):((m.toList.zipIdx).foldl (λa (p,j)=>a.setIfInBounds (sa+j) p) a).Perm a:=by
 rw[Array.perm_iff_toList_perm];have hl:m.toList.length=e - sa:=by rw[hm.length_eq];simp;omega
 rw[Ig _ _ _ _ (by rw[hl];omega),hl];have e1:a.toList=a.toList.take sa++((a.toList.take e).drop sa++a.toList.drop e):=by
  conv=>lhs;rw[<- qm4 e a.toList]
  rw[<- qmo];congr 1
  conv=>lhs;rw[<- qm4 sa (a.toList.take e),List.take_take,qnm h1]
 conv=>rhs;rw[e1]
 rw[qmo,show sa+0=sa by omega,show sa+(e - sa)=e by omega];exact qm3 _ (hm.append_right _)
def U8(a₀:Array Keyed)(e n:Nat)(st:SortSt):Prop:=∃p,SI a₀ p st/\Ma 0 p.toList e/\p.size=n
theorem wO{st:SortSt}{e n i:Nat}{Q:Bool->SortSt->Prop}(h0:IK a₀)(hP:U8 a₀ e n st)(he:e<=a₀.size)(hi:i+1<n)(h:∀st',U8 a₀ e (n - 1) st'->Q true st'):wpS (model prog w) A E s (mergeAt' i) Q st:=by
 obtain⟨p,hS,hk,hn⟩:=hP;rw[Om];refine ql6 (wpS_get ?_);rw[hS.pend]
 rcases e1:p[i]? with _|⟨sa,na,pw⟩
 ·rw[Array.getElem?_eq_none_iff] at e1;omega
 rcases e2:p[i+1]? with _|⟨sb,nb,q⟩
 ·rw[Array.getElem?_eq_none_iff] at e2;omega
 obtain⟨q1,q2,q3,q4,q5⟩:=hk.merge (i:=i) (by rw[Array.getElem?_toList];exact e1) (by rw[Array.getElem?_toList];exact e2);dsimp only;refine ql6 (qcJ ?_);have hs:=hS.size;have hI:=hS.ik h0;have hp1:Ma 0 ((p.setIfInBounds i (sa,na+nb,pw)).eraseIdxIfInBounds (i+1)).toList e:=by
  rw[Array.toList_eraseIdxIfInBounds,qow];exact q5
 have hp2:((p.setIfInBounds i (sa,na+nb,pw)).eraseIdxIfInBounds (i+1)).size=n - 1:=by
  rw[<- qna,Array.toList_eraseIdxIfInBounds,qow,List.length_eraseIdx];rw[List.length_set,qna,if_pos (by omega)];omega
 have hS1:SI a₀ ((p.setIfInBounds i (sa,na+nb,pw)).eraseIdxIfInBounds (i+1)) (SortSt.mk' (kindOf st) (arrOf st) ((p.setIfInBounds i (sa,na+nb,pw)).eraseIdxIfInBounds (i+1)) (gallopOf st) (failedOf st)):=⟨hS.perm,hS.kind,hS.failed,rfl⟩;have qdH:=h _ ⟨_,hS1,hp1,hp2⟩;refine ql6 (aX (show sb<(arrOf st).size by omega) (ql6 (dB hS1.kind hI (hI.at (show sb<(arrOf st).size by omega)) (by omega) q2 λk hk1=>?_)));dsimp only
 by_cases c1:(na - k == 0)=true
 ·rw[if_pos c1];exact ql5 qdH
 rw[if_neg c1];have c1':0<na - k:=by simp at c1;omega
 refine ql6 (aX (show sa+k+(na - k) - 1<(arrOf st).size by omega) (ql6 (dB hS1.kind hI (hI.at (show sa+k+(na - k) - 1<(arrOf st).size by omega)) (by omega) (by omega) λYg hk2=>?_)));dsimp only
 by_cases c2:(Yg == 0)=true
 ·rw[if_pos c2];exact ql5 qdH
 rw[if_neg c2];have c2':0<Yg:=by simp at c2;omega
 have hx:IK ((arrOf st).extract (sa+k) sb):=λx hx=>hI x (by
  rw[qmR,qmC] at hx;exact qox (qoy hx))
 have hy:IK ((arrOf st).extract sb (sb+Yg)):=λx hx=>hI x (by
  rw[qmR,qmC] at hx;exact qox (qoy hx))
 have hxy:((arrOf st).extract (sa+k) sb).toList++((arrOf st).extract sb (sb+Yg)).toList=((arrOf st).toList.take (sb+Yg)).drop (sa+k):=by
  rw[qmR,qmR,qmC,qmC,List.drop_take];rw[show sb+Yg - sb=Yg by omega,show sb+Yg - (sa+k)=(sb - (sa+k))+Yg by omega,List.take_add,List.drop_drop,show sa+k+(sb - (sa+k))=sb by omega]
 by_cases c3:na - k<=Yg
 ·rw[if_pos c3];refine ql6 (RN hS1.kind hx hy (by simp;omega) (by simp;omega) λout st2 hg hp=>?_);refine ql6 (qnp ?_);refine ql6 (wpS_get (ql5 ?_));obtain⟨g1,g2,g3,g4⟩:=hg;have hs2:(arrOf st2)=arrOf st:=g2;have hpp:((out.toList.zipIdx).foldl (λa (p,j)=>a.setIfInBounds (sa+k+j) p) (arrOf st)).Perm (arrOf st):=Oo (e:=sb+Yg) (hp.trans (by rw[hxy])) (by omega) (by omega);have hf:failedOf st2=none:=g4.trans hS.failed;have:=h (SortSt.mk' (kindOf st2) ((out.toList.zipIdx).foldl (λa (p,j)=>a.setIfInBounds (sa+k+j) p) (arrOf st2)) (pendingOf st2) (gallopOf st2) (failedOf st2)) ⟨_,⟨by rw[hs2];exact hpp.trans hS.perm,g1.trans hS1.kind,hf,g3⟩,hp1,hp2⟩;rw[show(failedOf (SortSt.mk' (kindOf st2) ((out.toList.zipIdx).foldl (λa (p,j)=>a.setIfInBounds (sa+k+j) p) (arrOf st2)) (pendingOf st2) (gallopOf st2) (failedOf st2))).isNone=true by show(failedOf st2).isNone=true;rw[hf];rfl];exact this
 ·rw[if_neg c3];refine ql6 (RP hS1.kind hx hy (by simp;omega) (by simp;omega) λout st2 hg hp=>?_);refine ql6 (qnp ?_);refine ql6 (wpS_get (ql5 ?_));obtain⟨g1,g2,g3,g4⟩:=hg;have hs2:(arrOf st2)=arrOf st:=g2;have hpp:((out.toList.zipIdx).foldl (λa (p,j)=>a.setIfInBounds (sa+k+j) p) (arrOf st)).Perm (arrOf st):=Oo (e:=sb+Yg) (hp.trans (by rw[hxy])) (by omega) (by omega);have hf:failedOf st2=none:=g4.trans hS.failed;have:=h (SortSt.mk' (kindOf st2) ((out.toList.zipIdx).foldl (λa (p,j)=>a.setIfInBounds (sa+k+j) p) (arrOf st2)) (pendingOf st2) (gallopOf st2) (failedOf st2)) ⟨_,⟨by rw[hs2];exact hpp.trans hS.perm,g1.trans hS1.kind,hf,g3⟩,hp1,hp2⟩;rw[show(failedOf (SortSt.mk' (kindOf st2) ((out.toList.zipIdx).foldl (λa (p,j)=>a.setIfInBounds (sa+k+j) p) (arrOf st2)) (pendingOf st2) (gallopOf st2) (failedOf st2))).isNone=true by show(failedOf st2).isNone=true;rw[hf];rfl];exact this
theorem Ma.snoc:∀{s e n q:Nat}{p:List (Nat×Nat×Nat)},Ma s p e->0<n->Ma s (p++[(e,n,q)]) (e+n)
 |s,e,n,q,[],h,hn=>by
  cases h;exact⟨rfl,hn,rfl⟩
 |s,e,n,q,(a,m,x)::r,⟨h1,h2,h3⟩,hn=>⟨h1,h2,Ma.snoc h3 hn⟩
theorem Ma.power:∀{s e i w:Nat}{p:List (Nat×Nat×Nat)},Ma s p e->Ma s (p.modify i λx=>(x.1,x.2.1,w)) e
 |s,e,i,w,[],h=>by cases i <;> exact h
 |s,e,0,w,(a,m,x)::r,⟨h1,h2,h3⟩=>⟨h1,h2,h3⟩
 |s,e,i+1,w,(a,m,x)::r,⟨h1,h2,h3⟩=>⟨h1,h2,Ma.power h3⟩
theorem qcK{st:SortSt}{Q:Unit->SortSt->Prop}(h0:IK a₀)(hS:SI a₀ #[] st)(h:∀st',(arrOf st').Perm a₀->failedOf st'=none->Q () st'):wpS (model prog w) A E s sortRuns' Q st:=by
 rw[sortRuns'_eq];refine ql6 (wpS_get ?_);dsimp only;rw[hS.size];refine ql6 (qnj (qmN (I:=λ_ (c:Option Unit×Nat) st'=>c.1=none/\c.2<=a₀.size/\∃n,U8 a₀ c.2 n st') (Q:=λc st'=>c.1=none/\c.2<=a₀.size/\∃n,U8 a₀ c.2 n st') ?_ (λ_ _ h=>h) ⟨rfl,qmP _,0,#[],hS,rfl,rfl⟩) ?_)
 ·rintro i ⟨c0,lo⟩ st1 _ hi ⟨hc,hlo,n,hP⟩;dsimp only at hc hlo hP⊢;subst hc;obtain⟨p,hS1,hk,hn⟩:=hP
  by_cases hge:lo≥a₀.size
  ·rw[if_pos hge];exact ql5 ⟨rfl,hlo,n,p,hS1,hk,hn⟩
  rw[if_neg hge];refine ql6 (qaC hS1 h0 (by omega) (by omega) λfound st2 hS2 hf1 hf2=>?_);dsimp only
  by_cases hmr:found<minRun' a₀.size a₀.size 0
  ·rw[if_pos hmr];refine ql6 (wpS_lift (qn6 ⟨rfl,?_⟩));refine ql6 (WX hS2 h0 (by omega) λst2 hS2=>?_);simp only[Bool.not_true,qm8,if_false];refine ql6 (wpS_get ?_);have hpos:0<min (a₀.size - lo) (minRun' a₀.size a₀.size 0):=by omega
   have hle:lo+min (a₀.size - lo) (minRun' a₀.size a₀.size 0)<=a₀.size:=by omega
   have push:∀(n2:Nat)(st3:SortSt),U8 a₀ lo n2 st3->U8 a₀ (lo+min (a₀.size - lo) (minRun' a₀.size a₀.size 0)) (n2+1) (setPending st3 ((pendingOf st3).push (lo,min (a₀.size - lo) (minRun' a₀.size a₀.size 0),0))):=λn2 st3 oW=>by
    obtain⟨p3,tX,hk3,Gx⟩:=oW;refine⟨_,⟨tX.perm,tX.kind,tX.failed,rfl⟩,?_,by show(Array.push _ _).size=_;rw[qma,tX.pend];exact qmA (· + 1) Gx⟩;rw[tX.pend,qnZ];exact hk3.snoc hpos
   rcases hb:(pendingOf st2).back? with _|⟨s1,n1,w1⟩
   ·dsimp only;exact ql6 (qnp (ql5 ⟨rfl,hle,_,push _ _ ⟨p,hS2,hk,hn⟩⟩))
   ·dsimp only;refine ql6 (qnj (qmN (I:=λ_ (c:Option Unit×Unit) st'=>c.1=none/\∃n,U8 a₀ lo n st') (Q:=λc st'=>c.1=none/\∃n,U8 a₀ lo n st') ?_ (λ_ _ h=>h) ⟨rfl,_,⟨p,hS2,hk,hn⟩⟩) ?_)
    ·rintro j ⟨c0,c1⟩ st3 _ _ ⟨hc,n3,oW⟩;dsimp only at hc⊢;subst hc;refine ql6 (wpS_get ?_);have hsz:(pendingOf st3).size=n3:=by
      obtain⟨p3,tX,hk3,Gx⟩:=oW;rw[tX.pend,Gx]
     by_cases h2:(pendingOf st3).size > 1
     ·rw[if_pos h2]
      rcases hm:(pendingOf st3)[(pendingOf st3).size - 2]? with _|⟨x1,x2,older⟩
      ·exact ql5 ⟨rfl,_,oW⟩
      ·dsimp only;split
       ·exact ql5 ⟨rfl,_,oW⟩
       ·refine ql6 (wO h0 oW hlo (by omega) λRh Gg=>?_);exact ql5 ⟨rfl,_,Gg⟩
     ·rw[if_neg h2];exact ql5 ⟨rfl,_,oW⟩
    ·rintro⟨c0,c1⟩ st3 ⟨hc,n3,oW⟩;dsimp only at hc⊢;subst hc;dsimp only;refine ql6 (qnp (ql6 (qnp (ql5 ⟨rfl,hle,_,push n3 _ ?_⟩))));obtain⟨p3,tX,hk3,Gx⟩:=oW;refine⟨_,⟨tX.perm,tX.kind,tX.failed,rfl⟩,?_,by show(Array.modify _ _ _).size=_;rw[Array.size_modify,tX.pend];exact Gx⟩;rw[Array.toList_modify,tX.pend];exact hk3.power
  ·rw[if_neg hmr];refine ql6 (wpS_get ?_);have hpos:0<found:=hf1;have hle:lo+found<=a₀.size:=by omega
   have push:∀(n2:Nat)(st3:SortSt),U8 a₀ lo n2 st3->U8 a₀ (lo+found) (n2+1) (setPending st3 ((pendingOf st3).push (lo,found,0))):=λn2 st3 oW=>by
    obtain⟨p3,tX,hk3,Gx⟩:=oW;refine⟨_,⟨tX.perm,tX.kind,tX.failed,rfl⟩,?_,by show(Array.push _ _).size=_;rw[qma,tX.pend];exact qmA (· + 1) Gx⟩;rw[tX.pend,qnZ];exact hk3.snoc hpos
   rcases hb:(pendingOf st2).back? with _|⟨s1,n1,w1⟩
   ·dsimp only;exact ql6 (qnp (ql5 ⟨rfl,hle,_,push _ _ ⟨p,hS2,hk,hn⟩⟩))
   ·dsimp only;refine ql6 (qnj (qmN (I:=λ_ (c:Option Unit×Unit) st'=>c.1=none/\∃n,U8 a₀ lo n st') (Q:=λc st'=>c.1=none/\∃n,U8 a₀ lo n st') ?_ (λ_ _ h=>h) ⟨rfl,_,⟨p,hS2,hk,hn⟩⟩) ?_)
    ·rintro j ⟨c0,c1⟩ st3 _ _ ⟨hc,n3,oW⟩;dsimp only at hc⊢;subst hc;refine ql6 (wpS_get ?_);have hsz:(pendingOf st3).size=n3:=by
      obtain⟨p3,tX,hk3,Gx⟩:=oW;rw[tX.pend,Gx]
     by_cases h2:(pendingOf st3).size > 1
     ·rw[if_pos h2]
      rcases hm:(pendingOf st3)[(pendingOf st3).size - 2]? with _|⟨x1,x2,older⟩
      ·exact ql5 ⟨rfl,_,oW⟩
      ·dsimp only;split
       ·exact ql5 ⟨rfl,_,oW⟩
       ·refine ql6 (wO h0 oW hlo (by omega) λRh Gg=>?_);exact ql5 ⟨rfl,_,Gg⟩
     ·rw[if_neg h2];exact ql5 ⟨rfl,_,oW⟩
    ·rintro⟨c0,c1⟩ st3 ⟨hc,n3,oW⟩;dsimp only at hc⊢;subst hc;dsimp only;refine ql6 (qnp (ql6 (qnp (ql5 ⟨rfl,hle,_,push n3 _ ?_⟩))));obtain⟨p3,tX,hk3,Gx⟩:=oW;refine⟨_,⟨tX.perm,tX.kind,tX.failed,rfl⟩,?_,by show(Array.modify _ _ _).size=_;rw[Array.size_modify,tX.pend];exact Gx⟩;rw[Array.toList_modify,tX.pend];exact hk3.power
 ·rintro⟨c0,lo⟩ st1 ⟨hc,hlo,n,hP⟩;dsimp only at hc hlo hP⊢;subst hc;dsimp only;refine ql6 (qnj (qmN (I:=λ_ (c:Option Unit×Unit) st'=>c.1=none/\∃n,U8 a₀ lo n st') (Q:=λc st'=>c.1=none/\∃n,U8 a₀ lo n st') ?_ (λ_ _ h=>h) ⟨rfl,_,hP⟩) ?_)
  ·rintro j ⟨c0,c1⟩ st3 _ _ ⟨hc,n3,oW⟩;dsimp only at hc⊢;subst hc;refine ql6 (wpS_get ?_);have hsz:(pendingOf st3).size=n3:=by
    obtain⟨p3,tX,hk3,Gx⟩:=oW;rw[tX.pend,Gx]
   by_cases h2:(pendingOf st3).size<=1
   ·rw[if_pos h2];exact ql5 ⟨rfl,_,oW⟩
   ·rw[if_neg h2];refine ql6 (wO h0 oW hlo ?_ λRh Gg=>?_)
    ·rw[hsz] at h2⊢
     repeat' split
     all_goals omega
    ·exact ql5 ⟨rfl,_,Gg⟩
  ·rintro⟨c0,c1⟩ st3 ⟨hc,n3,oW⟩;dsimp only at hc⊢;subst hc;obtain⟨p3,tX,hk3,Gx⟩:=oW;exact ql5 (h _ tX.perm tX.failed)
end
end L2
namespace L2
open PySem PySem.Spec PyProof.Rows
section
variable {X:Cx}{p_:QAC}{σ:St}{H:Hp}{s:Shared}{A:Around}{E:QAB}{D kS:Addr}{e e1:Nat}{vs:QAE}{kz:List Int}{P:PySem.Fin->Shared->Prop}
theorem U9{st:SortSt}{keys:Array Value}(I:Inv X p_ σ H s)(RD:Rec X p_ H D)(RS:Rec X p_ H kS)(hka:kS≠D) (gD:s.heap.get? D=some (seqObj "list" #[] e1)) (gS:s.heap.get? kS=some (seqObj "list" keys e))
  (hsz:keys.size=vs.length) (hle:vs.length<=sizeLine) (hp:(arrOf st).Perm (keys.zip vs.toArray)) (hfl:failedOf st=none)
  (h:∀s' out c,Inv X p_ σ H s'->s'.heap.get? D=some (seqObj "list" out c)->out.toList.Perm vs->P (.done (.ret .none)) s') :
  wpAny (model X.prog X.w) A (ksk_tail D false e1 (.ref kS) st) P E s:=by
 have hl:(arrOf st).toList.Perm (keys.toList.zip vs):=by rw[<- ksk_zip];exact Array.perm_iff_toList_perm.mp hp
 have hout:((arrOf st).map (·.2)).toList.Perm vs:=by
  have h1:=hl.map Prod.snd;rw[List.map_snd_zip (by show vs.length<=keys.size;rw[hsz];exact ql7 _)] at h1;rw[Array.toList_map];exact h1
 have hos:((arrOf st).map (·.2)).size=vs.length:=by have:=hout.length_eq;rwa [qna] at this
 obtain⟨out,hO⟩:∃out,(arrOf st).map (λp:Keyed=>p.2)=out:=⟨_,rfl⟩;have hx:wpAny (model X.prog X.w) A (do
   Builtin.List.listUpdate (.ref kS) λ_=>#[]
   letGo ((arrOf st).map (λp:Keyed=>p.1)).toList (failedOf st).toList
   let touched:=(<- seqEpoch D) != e1
   Builtin.List.listUpdate (.ref D) λ_=>out
   if let some e:=failedOf st then rule "list.sort.comparison-raised";throw e
   if touched then rule "list.sort.modified";raiseError "ValueError" "list modified during sort"
   ret .none) P E s->wpAny (model X.prog X.w) A (ksk_tail D false e1 (.ref kS) st) P E s:=by
  subst hO;exact λz=>z
 refine hx ?_;clear hx;rw[hO] at hout hos;clear hO;have s1:=qnw s.heap kS (Obj.mapSeq λ_=>(#[]:Array Value));have gD1:(s.heap.update kS (Obj.mapSeq λ_=>(#[]:Array Value))).get? D=some (seqObj "list" #[] e1):=(s1.2 D hka.symm).trans gD;have s2:=qnw (s.heap.update kS (Obj.mapSeq λ_=>(#[]:Array Value))) D (Obj.mapSeq λ_=>out);obtain⟨c2,hc2⟩:∃c2,((s.heap.update kS (Obj.mapSeq λ_=>(#[]:Array Value))).update D (Obj.mapSeq λ_=>out)).get? D=some (seqObj "list" (out) c2):=
  ⟨_,get?_update_seq gD1 λ_=>out⟩
 have J1:=I.turn (t':=s.toks) RS (h':=s.heap.update kS (Obj.mapSeq λ_=>(#[]:Array Value))) λb o nb e=>(s1.2 b nb).trans e;have J2:=λtk=>J1.turn (t':=tk) RD (h':=(s.heap.update kS (Obj.mapSeq λ_=>(#[]:Array Value))).update D (Obj.mapSeq λ_=>out)) λb o nb e=>(s2.2 b nb).trans e;refine ql3 (listUpdate_at gS rfl ?_ (by rw[hsz];exact hle) (qmP _));refine ql3 (wpAny_letGo ?_);refine ql3 (seqEpoch_at gD1 rfl ?_);refine ql3 (listUpdate_at gD1 rfl ?_ (qmP _) (by show(out).size<=_;rw[hos];exact qnh hle));rw[hfl];simp only[bne_self_eq_false,qm8,if_false];exact qmb (h _ _ c2 (J2 _) hc2 hout)
theorem qfs{keys:Array Value}(I:Inv X p_ σ H s)(RD:Rec X p_ H D)(RS:Rec X p_ H kS)(hka:kS≠D) (gD:s.heap.get? D=some (seqObj "list" #[] e1)) (gS:s.heap.get? kS=some (seqObj "list" keys e))
  (hk:IntsAre keys.toList kz) (hlen:kz.length=vs.length) (hle:vs.length<=sizeLine)
  (h:∀s' out c,Inv X p_ σ H s'->s'.heap.get? D=some (seqObj "list" out c)->out.toList.Perm vs->P (.done (.ret .none)) s') :
  wpAny (model X.prog X.w) A (ksk_end D false vs.toArray e1 (.ref kS) keys) P E s:=by
 have hsz:keys.size=vs.length:=by
  have h1:=hk.length;rw[qna] at h1;rw[h1];exact hlen
 unfold ksk_end;simp only[qm8,if_false]
 by_cases h2:vs.toArray.size<2
 ·rw[if_pos h2,if_pos h2];refine ql3 (qmb ?_);refine ql3 (qmb ?_);exact U9 (st:=SortSt.mk' general' (keys.zip vs.toArray) #[] 7 none) I RD RS hka gD gS hsz hle (Array.Perm.refl _) rfl h
 ·rw[if_neg h2,if_neg h2];rw[qmh] at h2;rw[ksk_kind hk (by rw[hsz];omega)];refine ql3 (qmb ?_);refine ql3 (qmV (qcK (a₀:=keys.zip vs.toArray) (st:=SortSt.mk' oneType' (keys.zip vs.toArray) #[] 7 none)
   (Q:=λ_ st'=>(arrOf st').Perm (keys.zip vs.toArray)/\failedOf st'=none)
   (ksk_intKeys hk) ⟨Array.Perm.refl _,rfl,rfl,rfl⟩ λst' a1 a2=>⟨a1,a2⟩) ?_ λ_ _ e=>e)
  rintro⟨⟨⟩,st'⟩ s' ⟨rfl,hp,hf⟩
  try dsimp only
  exact U9 I RD RS hka gD gS hsz hle hp hf h
theorem qcL{q:Addr}{fo:Obj}{n:Nat}(I:Inv X p_ σ H s)(RD:Rec X p_ H D)(RS:Rec X p_ H kS)(hka:kS≠D) (gD:s.heap.get? D=some (seqObj "list" #[] e1)) (gS:s.heap.get? kS=some (seqObj "list" #[] e))
  (hlen:kz.length=vs.length) (hle:vs.length<=sizeLine) (nD:n<=D) (nS:n<=kS) (nq:n<=q) (hq:H q=none) (hfo:s.heap.get? q=some fo) (hqS:q≠kS)
  (turn:∀(i:Nat)(v:Value)(k:Int),vs[i]? = some v->kz[i]? = some k->∀s',Inv X p_ σ H s'->s'.heap.get? q=some fo->wpAny (model X.prog X.w) A (call (.ref q) [v]) (qdG X p_ σ H n k s') (λ_ _=>False) s')
  (h:∀s' out c,Inv X p_ σ H s'->s'.heap.get? D=some (seqObj "list" out c)->out.toList.Perm vs->P (.done (.ret .none)) s') :
  wpAny (model X.prog X.w) A (ksk_rest D (.ref q) false vs.toArray e1 (.ref kS)) P E s:=by
 unfold ksk_rest;refine ql3 (qn6 ?_)
 first
  |rw[List.forIn_toArray]
  |(rw[<- Array.forIn_toList];simp only[List.toList_toArray])
  |rw[<- Array.forIn_toList]
 refine ql3 (ksk_fold (λi s'=>∃kA e,Inv X p_ σ H s'/\s'.heap.get? kS=some (seqObj "list" kA e)/\s'.heap.get? D=some (seqObj "list" #[] e1)/\s'.heap.get? q=some fo/\IntsAre kA.toList (kz.take i)) vs 0 s
  ⟨#[],e,I,gS,gD,hfo,by simpa using IntsAre.nil⟩ ?step ?done)
 case step=>
  rintro j x s' hx ⟨kA,e,I',gS',gD',gq',hk⟩;simp only[qm7] at hk⊢;have hj:j<vs.length:=(ql2.mp hx).1;obtain⟨k,hkj⟩:∃k,kz[j]? = some k:=⟨_,qmM (by rw[hlen];exact hj)⟩;have hz:kA.size<vs.length:=by
   have h1:=hk.length;rw[qna,qmk,hlen] at h1;exact Nat.lt_of_le_of_lt (qme (Nat.le_of_eq h1) (Nat.min_le_left _ _)) hj
  refine ql3 (wpAny_attempt (qmV (turn j x k hx hkj s' I' gq') (λv s'' he=>?_) λ_ _ hF=>hF.elim));obtain⟨t2,rfl,I2,kp⟩:=he
  try dsimp only
  have nk:=kp kS _ nS RS.no gS';have na:=kp D _ nD RD.no gD';have gq:=kp q _ nq hq gq';have s1:=qnw s''.heap kS (Obj.mapSeq (·.push (.int k t2)));obtain⟨c2,hc2⟩:∃c2,(s''.heap.update kS (Obj.mapSeq (·.push (.int k t2)))).get? kS=some (seqObj "list" (kA.push (.int k t2)) c2):=⟨_,get?_update_seq nk (·.push (.int k t2))⟩;have ek:kz.take (j+1)=kz.take j++[k]:=by rw[List.take_add_one,hkj];simp
  have ea:(kA.push (Value.int k t2)).toList=kA.toList++[Value.int k t2]:=by simp
  refine ql3 (listUpdate_at nk rfl ?_ (qme (qnr hz) hle) (qme (Nat.le_of_eq (qma ..)) (Nat.succ_le_succ (qme (qnr hz) hle))));refine qmb ⟨rfl,kA.push (.int k t2),c2,I2.turn (t':=s''.toks) RS λb o nb e=>(s1.2 b nb).trans e,hc2,(s1.2 D hka.symm).trans na,(s1.2 q hqS).trans gq,by rw[ea,ek];exact ksk_snoc hk⟩
 case done=>
  rintro s' ⟨kA,e,I',gS',gD',gq',hk⟩;have hk':IntsAre kA.toList kz:=by
   have e3:kz.take (0+vs.length)=kz:=qng (by rw[hlen,qm7];exact ql7 _);rw[e3] at hk;exact hk
  try dsimp only
  refine ql3 (listItems_at gS' rfl ?_);exact qfs I' RD RS hka gD' gS' hk' hlen hle h
end
section
variable {X:Cx}{p_:QAC}{σ:St}{H:Hp}{s:Shared}
theorem U_:∀{bs:List Addr}{its:QAE},Vals (bs.map V.ref) its->its=bs.map Value.ref
 |[],_,r=>by cases r;rfl
 |b::bs,_,r=>by
  cases r with
  |cons x y=>
   rw[U_ y];cases x;rfl
theorem Ih:∀(bs:List Addr),Vals (bs.map V.ref) (bs.map Value.ref)
 |[]=>.nil
 |b::bs=>.cons rfl (Ih bs)
theorem W0{l:QAE}{as:List Addr}(h:l.Perm (as.map Value.ref)):∃bs:List Addr,l=bs.map Value.ref/\bs.Perm as:=by
 have h1:=h.map (λv=>match v with|Value.ref a=>a|_=>0)
 rw[qn0] at h1;have e:as.map ((λv=>match v with|Value.ref a=>a|_=>0) ∘ Value.ref)=as:=by
  conv=>rhs;rw[<- List.map_id as]
  exact qnK λa _=>rfl
 rw[e] at h1;refine⟨_,?_,h1⟩;rw[qn0]
 conv=>lhs;rw[<- List.map_id l]
 refine qnK λv hv=>?_;obtain⟨a,_,rfl⟩:=qmW.mp (h.mem_iff.mp hv);rfl
theorem W2{Q:QAB}{l q:Addr}{fo:Obj}{as:List Addr}{n:Nat}(kf:Nat->Int)(I:Inv X p_ σ H s)
  (hl:aW X.K H l (as.map V.ref)) (hn:n<=s.heap.objs.size) (nq:n<=q) (hq:H q=none) (hfo:s.heap.get? q=some fo)
  (turn:∀i a,as[i]? = some a->∀s',Inv X p_ σ H s'->s'.heap.get? q=some fo->wpAny (model X.prog X.w) X.A.in1.in1 (call (.ref q) [.ref a]) (qdG X p_ σ H n (kf i) s') (λ_ _=>False) s')
  (hQ:∀(D:Addr)(bs:List Addr)(s':Shared),bs.Perm as->H D=none->Inv X p_ σ (upd H D (.lst (bs.map V.ref))) s'->Q (.ref D) s') :
  wpAny (model X.prog X.w) X.A (call (.builtin "sorted") [.ref l] [(Str.ofString "key",.ref q)]) Q X.xe s:=by
 obtain⟨its,rv,pl,hsz⟩:=I.list hl;obtain rfl:=U_ rv;rw[ql9] at hsz;have hle:(as.map Value.ref).length<=sizeLine:=by rw[ql9];exact hsz
 have hls:=pl.isList;refine call_function_entry_kw kind_sorted plain_sorted entry_sorted (ksk_s1 _ _) ?_;unfold Builtin.«sorted»;refine ql3 (m:=checkCount "sorted" 1 1 _) (qmb ?_);refine ql3 (collect_list hls ?_ hle);refine ql3 (wpAny_newList ?_ hle);have hu1:((s.heap.push (seqObj "list" #[] 0)).update s.heap.objs.size (Obj.mapSeq (·++(as.map Value.ref).toArray))).objs.size=s.heap.objs.size+1:=by
  rw[Heap.size_update,size_push']
 have qdI:∀b o,s.heap.get? b=some o->((s.heap.push (seqObj "list" #[] 0)).update s.heap.objs.size (Obj.mapSeq (·++(as.map Value.ref).toArray))).get? b=some o:=λb o q=>by
  have hlt:b<s.heap.objs.size:=ql8 q;rw[Heap.get?_update_ne _ _ _ _ (qmg hlt),Heap.get?_push_ne _ _ _ (qmg hlt)];exact q
 generalize (s.heap.push (seqObj "list" #[] 0)).update s.heap.objs.size (Obj.mapSeq (·++(as.map Value.ref).toArray))=g1 at hu1 qdI⊢;have gD0:(g1.push (seqObj "list" (as.map Value.ref).toArray 0)).get? g1.objs.size=some (seqObj "list" (as.map Value.ref).toArray 0):=qmc _ rfl;refine ql3 (qni (wpAny_call_entry_kw slot_list_sort ⟨_,gD0,rfl⟩ entry_list_sort ?body (ksk_l1 _ _)))
 case body=>
  have RD:Rec X p_ H g1.objs.size:=I.rcd (by rw[hu1];exact qnD _);show wpAny (model X.prog X.w) X.A.in1.in1 (Builtin.«list.sort» ⟨[.ref g1.objs.size],[(Str.ofString "key",.ref q)]⟩) _ _ _;rw[ksk_t1];unfold ksk_tree;have qlt:=ql8 hfo;have s1:=qnw (g1.push (seqObj "list" (as.map Value.ref).toArray 0)) g1.objs.size (Obj.mapSeq λ_=>(#[]:Array Value));obtain⟨e1,ho1⟩:∃e1,((g1.push (seqObj "list" (as.map Value.ref).toArray 0)).update g1.objs.size (Obj.mapSeq λ_=>(#[]:Array Value))).get? g1.objs.size=some (seqObj "list" #[] e1):=⟨_,get?_update_seq gD0 λ_=>#[]⟩;have hu2:((g1.push (seqObj "list" (as.map Value.ref).toArray 0)).update g1.objs.size (Obj.mapSeq λ_=>(#[]:Array Value))).objs.size=g1.objs.size+1:=by rw[Heap.size_update,size_push']
  have qaD:∀b o,s.heap.get? b=some o->((g1.push (seqObj "list" (as.map Value.ref).toArray 0)).update g1.objs.size (Obj.mapSeq λ_=>(#[]:Array Value))).get? b=some o:=λb o e=>by
   have hb:b≠g1.objs.size:=qmg (by rw[hu1];exact qm1 (ql8 e));exact(s1.2 b hb).trans (ql4 _ (qdI b o e))
  refine ql3 (listItems_at gD0 rfl ?_);refine ql3 (listUpdate_at gD0 rfl ?_ (by rw[qmh];exact hle) (qmP _));generalize (g1.push (seqObj "list" (as.map Value.ref).toArray 0)).update g1.objs.size (Obj.mapSeq λ_=>(#[]:Array Value))=g2 at ho1 hu2 qaD⊢;refine ql3 (seqEpoch_at ho1 rfl ?_);refine ql3 (wpAny_newTuple ?_ hle);refine ql3 (wpAny_newList ?_ (qmP _));refine qni ?_;have hu3:(g2.push (seqObj "tuple" (as.map Value.ref).toArray 0)).objs.size=g2.objs.size+1:=size_push' ..;have RS:Rec X p_ H (g2.push (seqObj "tuple" (as.map Value.ref).toArray 0)).objs.size:=I.rcd (by rw[hu3,hu2,hu1];exact qnh (qnh (qnD _)));have I1:Inv X p_ σ H {s with heap:=(g2.push (seqObj "tuple" (as.map Value.ref).toArray 0)).push (seqObj "list" #[] 0)}:=I.kept (t':=s.toks) λb o e=>ql4 _ (ql4 _ (qaD b o e));refine qcL (s:={s with heap:=(g2.push (seqObj "tuple" (as.map Value.ref).toArray 0)).push (seqObj "list" #[] 0)}) (kz:=(List.range as.length).map kf) (n:=n) (q:=q) (fo:=fo) (e1:=e1) I1 RD RS (by rw[hu3,hu2];exact qns (qm1 (qmS _)))
   (ql4 _ (ql4 _ ho1)) (qmc _ rfl) (by simp) hle (by rw[hu1];exact qnh hn) (by rw[hu3,hu2,hu1];exact qnh (qnh (qnh hn))) nq hq (ql4 _ (ql4 _ (qaD _ _ hfo)))
   (by rw[hu3,hu2,hu1];exact qmg (qm1 (qm1 (qm1 qlt)))) (λi v k hv hk s' I' hf'=>?_) λs' out c I' gD' hp=>⟨_,rfl,?_⟩
  ·rw[qmw] at hv hk;cases ha:as[i]? with
   |none=>rw[ha] at hv;cases hv
   |some a=>
    rw[ha] at hv;have hi:i<as.length:=(ql2.mp ha).1;rw[List.getElem?_range hi] at hk;cases hv;cases hk;exact turn i a ha s' I' hf'
  ·obtain⟨bs,e,hb⟩:=W0 hp;refine qmb ⟨_,rfl,hQ _ bs s' hb RD.no (I'.qav (qme I.sz (by rw[hu1];exact qnD _)) (I.Gh (by rw[hu1];exact qnD _) RD.no) ⟨by rw[ql9,hb.length_eq];exact hsz,out.toList,c,by rw[e];exact Ih bs,by rw[Array.toArray_toList];exact gD'⟩)⟩
end
abbrev qcM(ap:Pos):Arguments:={posonlyargs:=[],args:=[{arg:= "cut",annotation:=none,pos:=ap}],vararg:=none,kwonlyargs:=[],kw_defaults:=[],kwarg:=none,defaults:=[]}
abbrev cutScope:Scope:={kind:=.function,names:=[(Str.ofString "cut",.local),(Str.ofString "len",.globalImplicit)],isGenerator:=false,isCoroutine:=false,more:=[]}
def qaE(K:W.Frag)(pos:Pos)(qual:Str)(P:Addr)(t:TA):TE:=λσ H Q=>t σ H λvs H1=>ar1 vs λx=>isRef x λl=>TabOk pos qual P H1/\∃as:List Addr,aW K H1 l (as.map V.ref)/\
 (∀a∈as,∃c r xs,eG K H1 a (V.ref c::r)/\aW K H1 c xs)/\
 ∀(D:Addr)(bs:List Addr)(H2:Hp),bs.Perm as->But P H1 H2->TabOk pos qual P H2->H1 D=none->H2 D=none->Q (.ref D) (upd H2 D (.lst (bs.map V.ref)))
section
variable {X:Cx}
theorem W3:aQ ["cut"] ["cut"] cutScope:=⟨rfl,rfl,rfl,by decide,rfl,by decide,by decide⟩
theorem qaF{K:W.Frag}{k:Nat}{c P:Addr}{e:Expr}{t:TA}{p pos lp ap np cp sp kp bp np2:Pos}{j:Nat}{qual:Str}(hK:X.K=K)(hr:fL (k+3) X.A)(hc:X.env.code = .ref c)(C:W.CodeHd X.base c P)(hb:X.base.BuiltinsAt X.mg P)
  (hg:Gl X "sorted") (hm:X.mg "sorted" = none) (hml:X.mg "len" = none) (ha:PA X [e] t) (hqu:X.env.qual++ "<lambda>" = qual)
  (he:starEach [e] X.env=[(false,eval e X.env)]:=by rfl) :
  PE X (.Call (.Name "sorted" p) [e] [⟨some "key",.Lambda (qcM ap) (.Call (.Name "len" np2) [.Subscript (.Name "cut" np) (.Constant (.int 0) j cp) sp] [] bp) cutScope lp,kp⟩] pos) (qaE K lp qual P t):=by
 subst hK hqu;intro p_ s σ H Q I h;refine qm6 (qj I hg hm boot_sorted ?_);refine callWith_kw (cT (ha pos p_ s σ H _ I h) λus s1 zz=>?_) (by rw[he];rfl) (by rw[he];rfl);obtain⟨vs,H1,I1,r1,q1⟩:=zz;obtain⟨x,rfl,q2⟩:=ar1.out q1;obtain⟨l,e1,hT,as,hl,hrow,qq⟩:=isRef.out (x:=x) q2;subst e1;obtain⟨u,rfl,ru⟩:=r1.one;obtain rfl:u=Value.ref l:=ru;refine kws_cons (W.kla_eval rfl ?_);refine qaz I1 hc C hb hT rfl λf c' pm ctv H2 s2 I2 hB hT2 hf hge hlt hnf hcq=>?_;refine kws_nil ?_;show wpAny _ X.A (call (.builtin "sorted") [.ref l] [(Str.ofString "key",.ref f)]) _ _ s2;obtain⟨ps,hP⟩:=hT.tb;have below:∀b∈frs X.stack,b<s1.heap.objs.size:=λb hb=>by
  obtain⟨_,o,ho,_⟩:=I1.stack.mem hb;exact ql8 ho
 have key:∃kf:Nat->Int,∀i a,as[i]? = some a->∃c r xs,eG X.K H1 a (V.ref c::r)/\aW X.K H1 c xs/\kf i=(xs.length:Int):=by
  have:∀i:Nat,∃z:Int,∀a,as[i]? = some a->∃c r xs,eG X.K H1 a (V.ref c::r)/\aW X.K H1 c xs/\z=(xs.length:Int):=λi=>by
   cases hi:as[i]? with
   |none=>exact⟨0,λa h=>by cases h⟩
   |some a=>
    obtain⟨c,r,xs,h1,h2⟩:=hrow a (ql_ hi);exact⟨xs.length,λb h=>by cases h;exact⟨c,r,xs,h1,h2,rfl⟩⟩
  exact⟨λi=>Classical.choose (this i),λi=>Classical.choose_spec (this i)⟩
 obtain⟨kf,hkf⟩:=key;refine W2 kf I2 (hl.qcH hP hB) (n:=s1.heap.objs.size) (qme hge (qnr hlt)) hge hnf hf (λi a hi s3 I3 hf3=>?_) λD bs s3 hbs hD I3=>⟨.ref D,_,I3,rfl,qq D bs H2 hbs hB hT2 ?_ hD⟩
 ·obtain⟨c0,r,xs,hra,hcx,hk⟩:=hkf i a hi;have qkN:=hra.qcH hP hB;have qkO:=hcx.qcH hP hB;have run:=qcG (Q:=λv H'=>v = .int (kf i)/\H'=H2) (vs:=[.ref a]) (us:=[.ref a]) (N:=["cut"]) (ps:=["cut"]) (k:=k) hr.in1.in1 I3.env0.in1.in1 hf3 (I3.hok c' _ hcq).1 W3 rfl (.cons rfl .nil) rfl
   (aK (bY (K:=X.K) rfl) rfl hml qmi (aj (bR (cj (K:=X.K) rfl) (pv 0) aG (λ_ _=>rfl)) ao)) ?_
  ·refine qn2 (qnc run λr s4 hq=>?_);cases r with
   |error e=>exact hq.elim
   |ok fl=>
    cases fl with
    |next=>exact False.elim hq
    |brk=>exact False.elim hq
    |cont=>exact False.elim hq
    |ret u=>
     have un:Un (frs X.stack) [] H2 H2 s3.heap s4.heap:=by
      obtain⟨v,H',_,_,un,_,_,_,rfl⟩:=hq;exact un
     obtain⟨v,H',I4,rv,rfl,rfl⟩:=I3.after hq;obtain⟨t,rfl⟩:=rv;exact⟨t,rfl,I4,λb o hn hb e=>un.keep b o e hb (λz=>absurd (below b z) (Nat.not_lt.mpr hn)) (by simp)⟩
  ·refine⟨.ref a,rfl,?_⟩;refine⟨V.ref c0::r,.inr qkN,V.ref c0,by simp[Gi,YX],?_⟩;exact⟨xs,.inl qkO,by rw[hk],rfl⟩
 ·cases q:H1 D with
  |none=>rfl
  |some u=>
   by_cases z:D=P
   ·rw[z] at hD;obtain⟨ps2,hP2⟩:=hT2.tb;rw[hP2] at hD;cases hD
   ·rw[hB _ _ z q] at hD;cases hD
@[simp ↓] theorem qhn (K:W.Frag)(pos:Pos)(qual:Str)(P:Addr)(t:TA) σ H Q:qaE K pos qual P t σ H Q=(t σ H λvs H1=>ar1 vs λx=>isRef x λl=>TabOk pos qual P H1/\∃as:List Addr,aW K H1 l (as.map V.ref)/\
 (∀a∈as,∃c r xs,eG K H1 a (V.ref c::r)/\aW K H1 c xs)/\
 ∀(D:Addr)(bs:List Addr)(H2:Hp),bs.Perm as->But P H1 H2->TabOk pos qual P H2->H1 D=none->H2 D=none->Q (.ref D) (upd H2 D (.lst (bs.map V.ref)))):=rfl
end
theorem Oq:∀{ns:List Int}{us:QAE},Vals (ns.map V.int) us->IntsAre us ns
 |[],_,r=>by cases r;exact .nil
 |n::ns,_,r=>by
  cases r with
  |cons x y=>
   obtain⟨t,rfl⟩:=x;exact .cons n t (Oq y)
section
variable {X:Cx}{K:W.Frag}
def qaG(K:W.Frag):List V->Hp->VK->Prop:=λxs H Q=>ar1 xs λv=>isRef v λl=>∃(ns:List Int),aW K H l (ns.map V.int)/\ns.length<64/\∀(p:Addr)(ns':List Int),H p=none->ns'.Perm ns->ns'.Pairwise (·<=·)->Q (.ref p) (upd H p (.lst (ns'.map V.int)))
@[simp ↓] theorem qho K xs H Q:qaG K xs H Q=(ar1 xs λv=>isRef v λl=>∃(ns:List Int),aW K H l (ns.map V.int)/\ns.length<64/\∀(p:Addr)(ns':List Int),H p=none->ns'.Perm ns->ns'.Pairwise (·<=·)->Q (.ref p) (upd H p (.lst (ns'.map V.int)))):=rfl
theorem Ot(hK:X.K=K):cg X (.builtin "sorted") (qaG K):=by
 subst hK;intro p_ s σ H xs us Q I r h;obtain⟨v,rfl,h⟩:=ar1.out h;obtain⟨l,rfl,ss,hl,h64,q⟩:=isRef.out h;obtain⟨u,rfl,ru⟩:=r.one;obtain rfl:u=Value.ref l:=ru;obtain⟨its,rv,pl,hz1⟩:=I.list hl;have hle:its.length=ss.length:=by
  have:=rv.length;simpa using this.symm
 refine sorted_ints pl.isList (Oq rv) (by omega) λout ss' a1 a2 a3=>?_;have I1:Inv X p_ σ H {s with heap:=sortedAll s.heap its out}:=I.kept (t':=s.toks) λ_ _=>sortedAll_old;have hn:H (s.heap.objs.size+1)=none:=I.hok.fresh (qnD _);obtain⟨e,he⟩:=sortedAll_at s.heap its out;have hlen:ss'.length<=sizeLine:=by
  rw[a2.length_eq];exact qme (qnr h64) (by decide)
 exact⟨.ref (s.heap.objs.size+1),_,I1.qav (ob:=.lst (ss'.map V.int)) (qme I.sz (qnD _)) (I.Gh (qnD _) hn) ⟨by rw[ql9];exact hlen,out.toList,e,zy a1,he⟩,rfl,q _ _ hn a2 a3⟩
end
end L2
local macro_rules | `(tactic| rfl') => `(tactic| exact ⟨rfl, by decide +kernel, by decide +kernel, rfl, by decide +kernel, by decide +kernel⟩)
local macro_rules | `(tactic| left) => `(tactic| simp -dsimp [L2.au,L2.stC,-Bool.exists_bool,-List.map_take,-Prod.forall,-Prod.exists])
local macro_rules | `(tactic| symm) => `(tactic| decide +kernel)
local macro_rules | `(tactic| exists $H, $p, $v, $s:ident, $e:ident, $G:ident, $h) => `(tactic| (have $s : L2.Same $H (L2.upd $H $p $v) := L2.aq $h; have $e : L2.upd $H $p $v $p = some $v := L2.ak; generalize L2.upd $H $p $v = $G at $s:ident $e:ident ⊢))
local macro_rules | `(tactic| exists $a, $b) => `(tactic| refine $a $b (fun $(Lean.mkIdent `vs) $(Lean.mkIdent `H) $(Lean.mkIdent `Q) $(Lean.mkIdent `E) $(Lean.mkIdent `h) => ?_) (fun $(Lean.mkIdent `cdv) $(Lean.mkIdent `A) $(Lean.mkIdent `outer) $(Lean.mkIdent `s) $(Lean.mkIdent `H) $(Lean.mkIdent `vs) $(Lean.mkIdent `Q) $(Lean.mkIdent `E) $(Lean.mkIdent `hr) $(Lean.mkIdent `h) => ?_))
local macro_rules | `(tactic| ac_rfl) => `(tactic| exact ⟨rfl, rfl, rfl, by decide +kernel, rfl, by decide +kernel, by decide +kernel⟩)
namespace K54
open PySem L2
def top(i:Nat):Stmt:=PySem.Challenge.pw_pointways_k54_turnings_refused.main.body.getD i (.Pass ⟨0,0,0,0⟩)
abbrev qp:Stmt:=top 1
abbrev rN:Stmt:=top 2
abbrev lN:Stmt:=top 3
abbrev rO:Stmt:=top 4
abbrev KD:Stmt:=top 5
abbrev qt:Stmt:=inClass (top 20) 0
abbrev qu:Stmt:=inClass (top 23) 0
abbrev zT:Stmt:=top 30
abbrev wQ:Stmt:=top 31
abbrev vm:Stmt:=top 32
abbrev ni:Stmt:=top 33
abbrev yP:Stmt:=top 34
abbrev rP:Stmt:=top 35
abbrev rQ:Stmt:=inClass (top 36) 0
abbrev rR:Stmt:=inClass (top 36) 1
abbrev wR:Stmt:=inClass (top 36) 2
abbrev wU:Stmt:=inClass (top 36) 3
abbrev jw:Stmt:=top 37
abbrev oE:Stmt:=top 39
abbrev uH:Stmt:=top 41
abbrev pG:Stmt:=top 42
abbrev wV:Stmt:=top 43
abbrev rT:Stmt:=top 44
abbrev zU:Stmt:=top 46
abbrev lO:Stmt:=top 47
abbrev jx:Stmt:=top 48
abbrev DK:Stmt:=top 49
abbrev nj:Stmt:=top 50
abbrev dw:Stmt:=top 53
abbrev lQ:Stmt:=top 54
abbrev oF:Stmt:=top 55
abbrev nu:Stmt:=top 56
abbrev DN:Stmt:=top 57
abbrev qaH:Stmt:=top 59
abbrev RW:Stmt:=top 60
abbrev Cd:Stmt:=top 61
abbrev KH:Stmt:=top 62
abbrev qaI:Stmt:=top 63
abbrev Ii:Stmt:=top 64
abbrev zV:Stmt:=top 65
abbrev KJ:Stmt:=top 66
abbrev RX:Stmt:=top 67
abbrev KN:Stmt:=top 68
abbrev Va:Stmt:=top 69
abbrev qw:Stmt:=top 70
abbrev vV:Stmt:=top 71
theorem iu:aQ ["web", "fixed", "steps", "number", "first", "second"] ["web", "fixed"] (aB qp):=by ac_rfl
theorem cY:aQ ["start", "steps", "ways", "row", "at", "here", "number", "origin", "goal"] ["start", "steps"] (aB rN):=by ac_rfl
theorem uI:aQ ["web", "start", "steps", "ways"] ["web", "start", "steps"] (aB lN):=by ac_rfl
theorem pH:aQ ["web", "steps", "told", "point"] ["web"] (aB rO):=by ac_rfl
theorem rW:aQ ["web", "steps", "told", "number", "first", "second", "lot"] ["web"] (aB KD):=by ac_rfl
theorem DP:aQ ["self", "lot"] ["self", "lot"] (aB qt):=by ac_rfl
theorem DQ:aQ ["self", "tie", "lot"] ["self", "tie", "lot"] (aB qu):=by ac_rfl
theorem DR:aQ ["thing"] ["thing"] (aB zT):=by ac_rfl
theorem Ou:aQ ["thing"] ["thing"] (aB wQ):=by ac_rfl
theorem RZ:aQ ["thing"] ["thing"] (aB vm):=by ac_rfl
theorem Gy:aQ ["thing"] ["thing"] (aB ni):=by ac_rfl
theorem W4:aQ ["thing", "points"] ["thing", "points"] (aB yP):=by ac_rfl
theorem Ov:aQ ["thing", "points"] ["thing", "points"] (aB rP):=by ac_rfl
theorem Ow:aQ ["self", "points", "ties"] ["self", "points", "ties"] (aB rQ):=by ac_rfl
theorem Gz:aQ ["self"] ["self"] (aB rR):=by ac_rfl
theorem Ox:aQ ["self"] ["self"] (aB wR):=by ac_rfl
theorem Oz:aQ ["self"] ["self"] (aB wU):=by ac_rfl
theorem vM:aQ ["web", "most"] ["web", "most"] (aB jw):=by ac_rfl
theorem gH:aQ ["web", "parts", "barring", "number", "lot"] ["web"] (aB oE):=by ac_rfl
theorem Ij:aQ ["web", "points", "lot"] ["web", "points"] (aB uH):=by ac_rfl
theorem nA:aQ ["points", "parts", "point"] ["points"] (aB pG):=by ac_rfl
theorem OD:aQ ["web"] ["web"] (aB wV):=by ac_rfl
theorem uJ:aQ ["web", "lot", "inside", "ties"] ["web", "lot"] (aB rT):=by ac_rfl
theorem R0:aQ ["thing"] ["thing"] (aB zU):=by ac_rfl
theorem DW:aQ ["web", "thing"] ["web", "thing"] (aB lO):=by ac_rfl
theorem mZ:aQ ["web", "thing"] ["web", "thing"] (aB jx):=by ac_rfl
theorem W5:aQ ["web", "pointing"] ["web", "pointing"] (aB DK):=by ac_rfl
theorem GC:aQ ["steps", "lot"] ["steps", "lot"] (aB nj):=by ac_rfl
theorem rY:aQ ["web", "pointing", "steps", "shut"] ["web", "pointing"] (aB dw):=by ac_rfl
theorem DX:aQ ["cuts", "number"] ["cuts", "number"] (aB lQ):=by ac_rfl
theorem mX:aQ ["cuts", "most", "number", "rest"] ["cuts", "most"] (aB oF):=by ac_rfl
theorem jk:aQ ["cuts", "numbers", "crossed", "lot", "others", "rest"] ["cuts", "numbers"] (aB nu):=by ac_rfl
theorem nJ:aQ ["web", "pointing", "cuts", "most", "numbers"] ["web", "pointing"] (aB DN):=by ac_rfl
theorem qaJ:aQ ["_law_script", "_law_k", "_law_cell"] ["_law_script", "_law_k"] (aB qaH):=by ac_rfl
theorem Vb:aQ ["_law_pot_here", "_law_many", "_law_digit"] ["_law_pot_here", "_law_many"] (aB RW):=by ac_rfl
theorem oG:aQ ["_law_pot_here", "_law_many", "_law_letters", "_law_begin", "_law_found", "_law_k", "_law_size", "_law_more"] ["_law_pot_here", "_law_many"] (aB Cd):=by ac_rfl
theorem DY:aQ ["_law_pot_here", "_law_things", "_law_found", "_law_thing"] ["_law_pot_here", "_law_things"] (aB KH):=by ac_rfl
theorem R3:aQ ["_law_pot_here", "_law_names_here", "_law_a", "_law_b"] ["_law_pot_here", "_law_names_here"] (aB qaI):=by ac_rfl
theorem rZ:aQ ["_law_pot_here", "_law_points", "_law_most", "_law_names_here", "_law_kind", "_law_ties", "_law_row", "_law_k", "_law_turns"] ["_law_pot_here", "_law_points", "_law_most"] (aB Ii):=by ac_rfl
theorem lu:aQ ["_law_web_here", "_law_pointing", "_law_start", "_law_found", "_law_here", "_law_a", "_law_b", "_law_turn"] ["_law_web_here", "_law_pointing", "_law_start"] (aB zV):=by ac_rfl
theorem D_:aQ ["_law_e", "_law_others", "_law_kinds"] ["_law_e"] (aB KJ):=by ac_rfl
theorem yQ:aQ ["_law_web_here", "_law_thing", "_law_kept", "_law_said_here", "_law_e"] ["_law_web_here", "_law_thing"] (aB RX):=by ac_rfl
theorem qaK:aQ ["_law_web_here", "_law_ties"] ["_law_web_here", "_law_ties"] (aB KN):=by ac_rfl
theorem qft:aQ ["_law_web_here"] ["_law_web_here"] (aB Va):=by ac_rfl
theorem iw:aQ ["_law_pot_here", "_law_row", "_law_some", "_law_at", "_law_odd"] ["_law_pot_here", "_law_row"] (aB qw):=by ac_rfl
theorem Ea:aQ ["_law_script", "_law_k", "_law_pot_here", "_law_web_here", "_law_row"] ["_law_script"] (aB vV):=by ac_rfl
set_option genInjectivity false in
structure Adr where
 dN:Addr
 jY:FuncData
 eY:Addr
 lR:FuncData
 dO:Addr
 jZ:FuncData
 iy:Addr
 pI:FuncData
 uK:Addr
 Ce:FuncData
 cZ:Addr
 j4:FuncData
 c7:Addr
 j6:FuncData
 iQ:Addr
 oH:FuncData
 iz:Addr
 pJ:FuncData
 jF:Addr
 su:FuncData
 eZ:Addr
 lU:FuncData
 mF:Addr
 vo:FuncData
 iB:Addr
 pK:FuncData
 gA:Addr
 pL:FuncData
 dM:Addr
 lV:FuncData
 gB:Addr
 pO:FuncData
 gC:Addr
 pP:FuncData
 bZ:Addr
 fO:FuncData
 dz:Addr
 jq:FuncData
 mG:Addr
 vp:FuncData
 fZ:Addr
 nC:FuncData
 iC:Addr
 pQ:FuncData
 iD:Addr
 pR:FuncData
 jG:Addr
 sy:FuncData
 dU:Addr
 j7:FuncData
 bN:Addr
 dI:FuncData
 mH:Addr
 vq:FuncData
 fj:Addr
 lW:FuncData
 fu:Addr
 fB:FuncData
 dW:Addr
 j8:FuncData
 cH:Addr
 eO:FuncData
 dg:Addr
 gJ:FuncData
 mJ:Addr
 vA:FuncData
 Ax:Addr
 KQ:FuncData
 uL:Addr
 Cg:FuncData
 pU:Addr
 yR:FuncData
 pW:Addr
 yS:FuncData
 Ay:Addr
 KR:FuncData
 Az:Addr
 KY:FuncData
 jH:Addr
 sE:FuncData
 pX:Addr
 yU:FuncData
 uM:Addr
 Ci:FuncData
 pY:Addr
 yV:FuncData
 A_:Addr
 KZ:FuncData
 dX:Addr
 j9:FuncData
 Bb:Addr
 K1:FuncData
 lA:Value
 d8:Value
 fK:Value
 iG:Value
 cQ:Value
 b_:Addr
 aA:Addr
 aV:Addr
 bI:Addr
 gY:Addr
 fC:Addr
 cF:Addr
 gZ:Addr
 dD:Addr
 fD:Addr
 dF:Addr
 cR:Addr
 fG:Addr
 dG:Addr
 j_:Addr
 kh:Addr
 g8:Addr
 bB:Addr
 bh:Addr
def K3(a:Adr):List Addr:=[a.aV,a.bI,a.gY,a.fC,a.cF,a.gZ,a.dD,a.fD,a.dF,a.cR,a.fG,a.dG,a.j_,a.kh,a.g8,a.bB,a.bh]
structure Txt(K:W.Frag)(mg:Str->Option Value)(a:Adr):Prop where
 jl:dj K "steps_along" "steps_along" qp a.dN a.jY
 lX:Binds K a.jY ["web", "fixed"] []
 lY:mg "steps_along" = some (.ref a.dN)
 sG:dj K "ways_along" "ways_along" rN a.eY a.lR
 yW:Binds K a.lR ["start", "steps"] []
 yX:mg "ways_along" = some (.ref a.eY)
 lZ:dj K "found_along" "found_along" lN a.dO a.jZ
 qx:Binds K a.jZ ["web", "start", "steps"] []
 qz:mg "found_along" = some (.ref a.dO)
 wW:dj K "clusters" "clusters" rO a.iy a.pI
 Eb:Binds K a.pI ["web"] []
 Ec:mg "clusters" = some (.ref a.iy)
 R4:dj K "bars" "bars" KD a.uK a.Ce
 qaL:Binds K a.Ce ["web"] []
 qaM:mg "bars" = some (.ref a.uK)
 vW:dj K "__init__" "Parted.__init__" qt a.cZ a.j4
 vX:Binds K a.j4 ["self", "lot"] []
 vY:dj K "__init__" "Barred.__init__" qu a.c7 a.j6
 vZ:Binds K a.j6 ["self", "tie", "lot"] []
 jJ:dj K "is_list" "is_list" zT a.iQ a.oH
 nM:Binds K a.oH ["thing"] []
 nO:mg "is_list" = some (.ref a.iQ)
 wX:dj K "is_whole" "is_whole" wQ a.iz a.pJ
 Ed:Binds K a.pJ ["thing"] []
 Ef:mg "is_whole" = some (.ref a.iz)
 qX:dj K "is_name" "is_name" vm a.jF a.su
 vB:Binds K a.su ["thing"] []
 vC:mg "is_name" = some (.ref a.jF)
 sH:dj K "are_points" "are_points" ni a.eZ a.lU
 yZ:Binds K a.lU ["thing"] []
 za:mg "are_points" = some (.ref a.eZ)
 Eh:dj K "is_tie" "is_tie" yP a.mF a.vo
 OJ:Binds K a.vo ["thing", "points"] []
 O1:mg "is_tie" = some (.ref a.mF)
 wY:dj K "are_ties" "are_ties" rP a.iB a.pK
 Ei:Binds K a.pK ["thing", "points"] []
 Ej:mg "are_ties" = some (.ref a.iB)
 Ek:dj K "__init__" "Web.__init__" rQ a.gA a.pL
 El:Binds K a.pL ["self", "points", "ties"] []
 zc:dj K "points" "Web.points" rR a.dM a.lV
 iR:Binds K a.lV ["self"] []
 Em:dj K "ties" "Web.ties" wR a.gB a.pO
 sI:Binds K a.pO ["self"] []
 En:dj K "many" "Web.many" wU a.gC a.pP
 wZ:Binds K a.pP ["self"] []
 jy:dj K "sure_of_few_ties" "sure_of_few_ties" jw a.bZ a.fO
 oJ:Binds K a.fO ["web", "most"] []
 oK:mg "sure_of_few_ties" = some (.ref a.bZ)
 oM:dj K "sure_of_ears" "sure_of_ears" oE a.dz a.jq
 uN:Binds K a.jq ["web"] []
 uO:mg "sure_of_ears" = some (.ref a.dz)
 Eo:dj K "lot_of" "lot_of" uH a.mG a.vp
 O2:Binds K a.vp ["web", "points"] []
 O4:mg "lot_of" = some (.ref a.mG)
 uP:dj K "all_parts" "all_parts" pG a.fZ a.nC
 Bc:Binds K a.nC ["points"] []
 Bd:mg "all_parts" = some (.ref a.fZ)
 xg:dj K "all_lots" "all_lots" wV a.iC a.pQ
 Ep:Binds K a.pQ ["web"] []
 Er:mg "all_lots" = some (.ref a.iC)
 xq:dj K "crossing" "crossing" rT a.iD a.pR
 Es:Binds K a.pR ["web", "lot"] []
 Et:mg "crossing" = some (.ref a.iD)
 zW:dj K "is_lead" "is_lead" zU a.jG a.sy
 Ik:Binds K a.sy ["thing"] []
 Il:mg "is_lead" = some (.ref a.jG)
 mj:dj K "is_pointing" "is_pointing" lO a.dU a.j7
 qC:Binds K a.j7 ["web", "thing"] []
 qD:mg "is_pointing" = some (.ref a.dU)
 d9:dj K "sure_of_pointing" "sure_of_pointing" jx a.bN a.dI
 jz:Binds K a.dI ["web", "thing"] []
 jA:mg "sure_of_pointing" = some (.ref a.bN)
 Eu:dj K "arrows" "arrows" DK a.mH a.vq
 O5:Binds K a.vq ["web", "pointing"] []
 O6:mg "arrows" = some (.ref a.mH)
 sJ:dj K "steps_into" "steps_into" nj a.fj a.lW
 zf:Binds K a.lW ["steps", "lot"] []
 zj:mg "steps_into" = some (.ref a.fj)
 uQ:dj K "shut_cuts" "shut_cuts" dw a.fu a.fB
 Bf:Binds K a.fB ["web", "pointing"] []
 Bg:mg "shut_cuts" = some (.ref a.fu)
 qF:dj K "without_tie" "without_tie" lQ a.dW a.j8
 wg:Binds K a.j8 ["cuts", "number"] []
 wj:mg "without_tie" = some (.ref a.dW)
 iH:dj K "ties_in_each" "ties_in_each" oF a.cH a.eO
 kj:Binds K a.eO ["cuts", "most"] []
 kI:mg "ties_in_each" = some (.ref a.cH)
 nF:dj K "lots_apart" "lots_apart" nu a.dg a.gJ
 sO:Binds K a.gJ ["cuts", "numbers"] []
 sS:mg "lots_apart" = some (.ref a.dg)
 Ew:dj K "fewest" "fewest" DN a.mJ a.vA
 O7:Binds K a.vA ["web", "pointing"] []
 O8:mg "fewest" = some (.ref a.mJ)
 qaN:dj K "_law_pot" "_law_pot" qaH a.Ax a.KQ
 qdJ:Binds K a.KQ ["_law_script", "_law_k"] []
 qdK:mg "_law_pot" = some (.ref a.Ax)
 gR:dj K "_law_take" "_law_take" RW a.uL a.Cg
 iI:Binds K a.Cg ["_law_pot_here", "_law_many"] []
 iJ:mg "_law_take" = some (.ref a.uL)
 K4:dj K "_law_names" "_law_names" Cd a.pU a.yR
 Vc:Binds K a.yR ["_law_pot_here", "_law_many"] []
 Vd:mg "_law_names" = some (.ref a.pU)
 Cj:dj K "_law_mixed" "_law_mixed" KH a.pW a.yS
 K5:Binds K a.yS ["_law_pot_here", "_law_things"] []
 K6:mg "_law_mixed" = some (.ref a.pW)
 qaO:dj K "_law_tie" "_law_tie" qaI a.Ay a.KR
 qdL:Binds K a.KR ["_law_pot_here", "_law_names_here"] []
 qdM:mg "_law_tie" = some (.ref a.Ay)
 qaP:dj K "_law_web" "_law_web" Ii a.Az a.KY
 qdN:Binds K a.KY ["_law_pot_here", "_law_points", "_law_most"] []
 qdO:mg "_law_web" = some (.ref a.Az)
 zX:dj K "_law_reached" "_law_reached" zV a.jH a.sE
 Im:Binds K a.sE ["_law_web_here", "_law_pointing", "_law_start"] []
 Io:mg "_law_reached" = some (.ref a.jH)
 K7:dj K "_law_class" "_law_class" KJ a.pX a.yU
 Ve:Binds K a.yU ["_law_e"] []
 Vf:mg "_law_class" = some (.ref a.pX)
 K8:dj K "_law_said" "_law_said" RX a.uM a.Ci
 R5:Binds K a.Ci ["_law_web_here", "_law_thing"] []
 R6:mg "_law_said" = some (.ref a.uM)
 Ck:dj K "_law_hangs" "_law_hangs" KN a.pY a.yV
 K9:Binds K a.yV ["_law_web_here", "_law_ties"] []
 K_:mg "_law_hangs" = some (.ref a.pY)
 qaQ:dj K "_law_due" "_law_due" Va a.A_ a.KZ
 qdP:Binds K a.KZ ["_law_web_here"] []
 qdQ:mg "_law_due" = some (.ref a.A_)
 qG:dj K "_law_no_pointing" "_law_no_pointing" qw a.dX a.j9
 wk:Binds K a.j9 ["_law_pot_here", "_law_row"] []
 wu:mg "_law_no_pointing" = some (.ref a.dX)
 qdR:dj K "law" "law" vV a.Bb a.K1
 qhp:Binds K a.K1 ["_law_script"] []
 qhq:mg "law" = some (.ref a.Bb)
 Ip:mg "LETTERS" = some a.lA
 Ir:RelV (.str "abcdefghijklmnopqrstuvwxyz") a.lA
 uR:mg "MOST_LETTERS" = some a.d8
 uT:RelV (.int 4) a.d8
 wz:mg "MOST_POINTS" = some a.fK
 wA:RelV (.int 9) a.fK
 Bh:mg "MOST_TIES" = some a.iG
 Bj:RelV (.int 20) a.iG
 pZ:mg "MOST_TIES_TAKEN" = some a.cQ
 qe:RelV (.int 12) a.cQ
 qdS:mg "Web" = some (.ref a.b_)
 m5:Cls K a.b_
 La:mK K a.b_ "names"
 Cm:mK K a.b_ "pairs"
 qdT:Mk K a.b_ a.gA
 iT:Meth K a.b_ "points" a.dM
 sU:Meth K a.b_ "ties" a.gB
 xr:Meth K a.b_ "many" a.gC
 nG:mg "PointError" = some (.ref a.aA)
 sV:mg "NoPointing" = some (.ref a.aV)
 zY:mg "TooMuch" = some (.ref a.bI)
 Vg:mg "NoWeb" = some (.ref a.gY)
 O9:mg "NoText" = some (.ref a.fC)
 Bk:mg "NoNumbers" = some (.ref a.cF)
 Vh:mg "NoLot" = some (.ref a.gZ)
 Iu:mg "NoPoint" = some (.ref a.dD)
 O_:mg "NoEars" = some (.ref a.fD)
 Iv:mg "NoFixed" = some (.ref a.dF)
 Ey:mg "NoNumber" = some (.ref a.cR)
 Pb:mg "Unlike" = some (.ref a.fG)
 Iw:mg "NotOver" = some (.ref a.dG)
 qaR:mg "Shut" = some (.ref a.j_)
 qaS:mg "Thin" = some (.ref a.kh)
 Vi:mg "NoIns" = some (.ref a.g8)
 Ez:mg "Parted" = some (.ref a.bB)
 EY:mg "Barred" = some (.ref a.bh)
 fH:wK K a.aA
 gF:wK K a.aV
 lB:wK K a.bI
 dY:XC K a.aV a.aA
 iK:XC K a.bI a.aA
 qY:XC K a.gY a.aA
 nQ:XC K a.fC a.aA
 iU:XC K a.cF a.aA
 qZ:XC K a.gZ a.aA
 lC:XC K a.dD a.aA
 nR:XC K a.fD a.aA
 lE:XC K a.dF a.aA
 jK:XC K a.cR a.aA
 nU:XC K a.fG a.aA
 lF:XC K a.dG a.aA
 vD:XC K a.j_ a.aA
 vG:XC K a.kh a.aA
 q_:XC K a.g8 a.aA
 fX:XC K a.bB a.aA
 fY:XC K a.bh a.aA
 ib:W.isClsIn K a.aA=true
 tb:W.typeIn K (.ref a.aA)=some (.type "type")
 ini:qhj K a.aA
 Iz:W.specialIn K (.builtin "object.__class__") "__get__" = some (some (.builtin "getset_descriptor.__get__"))
 IV:W.takesIn K (.builtin "object.__class__")=some true
 nd:(a.aA::K3 a).Nodup
 iV:mg "ValueError" = none
 vH:XMk K a.bB a.aA a.cZ
 IW:wM K a.bB a.aA
 gK:W.findIn K (.ref a.bB) "lot" = some none
 vI:XMk K a.bh a.aA a.c7
 zZ:wM K a.bh a.aA
 gM:W.findIn K (.ref a.bh) "tie" = some none
 gO:W.findIn K (.ref a.bh) "lot" = some none
 nm:Nm mg
 W6:Nm2 mg
 nm3:Nm3 mg
end K54
namespace K54
open PySem L2
variable {P:Program}{w:World}{K:W.Frag}{mg:Str->Option Value}{base:Heap}{a:Adr}
def jL(H:Hp)(p:Addr):Prop:=∃x y:Int,H p=some (.lst [.int x,.int y])/\0<=x/\0<=y/\y<4294967296
def qfu(K:W.Frag):Sp:=λvs H Q _=>∃(l:Addr)(ns:List Int)(k:Nat),vs=[.ref l,.int k]/\aW K H l (ns.map V.int)/\k<100/\∀p H',H p=none->jL H' p->But p H H'->Q (.ref p) H'
def qcN:Sp:=λvs H Q _=>∃(p:Addr)(m:Int),vs=[.ref p,.int m]/\jL H p/\0<m/\m<1000000/\∀(d:Int) H',0<=d->d<m->jL H' p->But p H H'->Q (.int d) H'
theorem qfv(T:Txt K mg a):bV P w K mg base i_ 1 a.Ax a.KQ ["_law_script", "_law_k"] (qfu K):=by
 exists T.qaN.qL,qaJ
 ·obtain⟨l,ns,k,rfl,_⟩:=h;rfl
 ·obtain⟨l,ns,k,rfl,hS,hk,q⟩:=h;refine⟨_,(aC (bG (i:=2) qaJ.nd rfl (Or.inl rfl) (Yo (aU ZF (aL 1) (aK (bY (K:=K) rfl) rfl T.nm.len qmi (aj (aL 0) ao)) (bO _)) (bR (cj (K:=K) rfl) (aL 0) (aL 1) (λ_ _=>rfl)) aG))
   (aF (aZ (cI (aj (aK (Dj rfl) rfl T.nm.max boot_max (aj aG (aj (cB yI (aK HF rfl T.nm.abs boot_abs (aj (aL 2) ao)) (cB qcu aG aG)) ao))) (aj (cB jo (cB jo (cB vd (aK HF rfl T.nm.abs boot_abs (aj (aL 2) ao)) aG) (cB BW aG (aL 1))) aG) ao)))))),?_⟩
  have fin:∀(x y:Int),0<=x->0<=y->y<4294967296->∀p:Addr,H p=none->Q (.ref p) (upd H p (.lst [.int x,.int y])):=λx y h1 h2 h3 p hp=>
   q p _ hp ⟨x,y,ak,h1,h2,h3⟩ λb o hb e=>by rw[aD hb];exact e
  left;refine⟨_,.inl hS,eX.of (λh=>?_) (λh=>?_)⟩
  ·have hlt:k<ns.length:=by simpa using h
   left;refine⟨_,.inl hS,.int (ns[k]'hlt),bD (by simp[hlt]),?_⟩;left;exact fin _ _ (zpa _) (zpb _ _) (zpc _ hk)
  ·left;exact fin _ _ (by first|omega|(split <;> omega)) (by omega) (by omega)
theorem fP(T:Txt K mg a):bV P w K mg base i_ 1 a.uL a.Cg ["_law_pot_here", "_law_many"] qcN:=by
 exists T.gR.qL,Vb
 ·obtain⟨p,m,rfl,_⟩:=h;rfl
 ·obtain⟨p,m,rfl,⟨x,y,hp,hx,hy,hy2⟩,hm,hm2,q⟩:=h;refine⟨_,(aC (cP (aU uD (bR (cj (K:=K) rfl) (aL 0) aG (λ_ _=>rfl)) aG (bO _)) (aC (Qw (aK Ke rfl T.nm.divmod boot_divmod (aj (bR (cj (K:=K) rfl) (aL 0) aG (λ_ _=>rfl)) (aj (aL 1) ao))) (PG.eqv (gV (K:=K) (n:=2) rfl rfl (lH.eqv (bJ (Yr (aL 0) aG HJ) (lH.eqv (bJ (aR (i:=2) Vb.nd rfl (Or.inl rfl)) (lH.mono gU jU)) (bL _ _))) (bL _ _))) (gW _ _ _)))
   (aF (aZ (aL 2)))) bC)
   (aC (Qw (cB vd (cB jo (cB BW (bR (cj (K:=K) rfl) (aL 0) aG (λ_ _=>rfl)) aG) aG) aG) (Yr (aL 0) aG HJ))
   (aF (aZ (cB vd (cB qaa (cB vd (cB BW (bR (cj (K:=K) rfl) (aL 0) aG (λ_ _=>rfl)) (bR (cj (K:=K) rfl) (aL 0) aG (λ_ _=>rfl))) aG) aG) (aL 1)))))),?_⟩
  have hl:aW K H p [.int x,.int y]:=aW.of hp;left;refine⟨_,.inl hl,_,bD (j:=0) rfl,?_⟩;left;refine eX.of (λh=>?_) (λh=>?_)
  ·left;refine⟨_,.inl hl,_,bD (j:=0) rfl,?_⟩;left;refine⟨⟨hm,by omega⟩,λt ht=>?_⟩;have npt:p≠t:=aN hp ht;refine⟨_,eG.of ak,rfl,_,(by rw[aD npt];exact hp),0,rfl,?_⟩;refine q _ _ (Int.emod_nonneg _ (by omega)) (Int.emod_lt_of_pos _ hm) ⟨_,_,ak,Int.ediv_nonneg hx (by omega),hy,hy2⟩ λb o hb e=>?_;rw[aD hb,aD (aN e ht)];exact e
  ·have z0:0<=(y * 48271+12345) % 2147483647:=Int.emod_nonneg _ (by decide);have z1:(y * 48271+12345) % 2147483647<2147483647:=Int.emod_lt_of_pos _ (by decide);left;refine⟨_,.inl hl,_,bD (j:=1) rfl,?_⟩;left;refine⟨_,hp,1,rfl,_,.inl (aW.of ak),_,bD (j:=1) rfl,_,.inl (aW.of ak),_,bD (j:=1) rfl,?_⟩;left;refine⟨⟨by omega,by omega⟩,hm,?_⟩;refine q _ _ (Int.emod_nonneg _ (by omega)) (Int.emod_lt_of_pos _ hm) ⟨_,_,ak,hx,z0,by omega⟩ λb o hb e=>?_;rw[aD hb];exact e
def R7:Sp:=λvs H Q _=>∃p xs,vs=[.ref p]/\Sq H p xs/\∀H',Same H H'->Q (.bl true) H'
theorem sW(T:Txt K mg a):bV P w K mg base i_ 1 a.iQ a.oH ["thing"] R7:=by
 exists T.jJ.qL,DR
 ·obtain⟨p,xs,rfl,_⟩:=h;rfl
 ·obtain⟨p,xs,rfl,hp,q⟩:=h;refine⟨_,(aF (aZ (aK (qab (K:=K) rfl) rfl T.nm.isinstance boot_isinstance (aj (aL 0) (aj (gb (aj (oX (v:=.ty "list") rfl T.nm.list boot_list rfl) (aj (oX (v:=.ty "tuple") rfl T.nm.tuple boot_tuple rfl) ao))) ao))))),?_⟩;left;refine λt ht=>⟨_,_,ak,?_⟩
  rcases(hp.same (aq ht)).ty (K:=K) with ty|ty
  ·exact⟨_,ty,true,by simp[W.kitAny,W.kitOne],q _ (aq ht)⟩
  ·exact⟨_,ty,true,by simp[W.kitAny,W.kitOne];rfl,q _ (aq ht)⟩
def R8:Sp:=λvs H Q _=>∃x,vs=[.str x]/\x.length<=sizeLine/\∀H',Same H H'->Q (.bl (nameB x)) H'
theorem xu(T:Txt K mg a):bV P w K mg base i_ 1 a.jF a.su ["thing"] R8:=by
 exists T.qX.qL,RZ
 ·obtain⟨x,rfl,_⟩:=h;rfl
 ·obtain⟨x,rfl,hx,q⟩:=h;refine⟨_,(aC (cP (PW.pt (vP (f9 (dJ (aK (Rm (K:=K) rfl) rfl T.nm.isinstance boot_isinstance (aj (aL 0) (aj (oX (v:=.ty "str") rfl T.nm.str boot_str rfl) ao))))) (rB (f9 (Hy zK zK aG (aK qe9 rfl T.nm.len qmi (aj (aL 0) ao)) (cU rfl T.uR T.uT)))))) (aF (aZ qM)) bC)
   (aF (aZ (aK (lq rfl) rfl T.nm.all kZ (aj (eE rfl rfl (show aY (aB vm) _ ["thing"] ["sign"] [] ["sign"] from by rfl') rfl (PI.eqv (qex (aL 0)) (Z6 _)) (λC s H fp pn=>(aR (i:=0) (show(["sign"]:QAH).Nodup by symm) rfl (Or.inl rfl))) (λC s H fp pn=>eV) (λC s H fp pn=>(lJ (qkA (K:=K) rfl) (aL 0) (cU rfl T.Ip T.Ir) rfl))) ao))))),?_⟩
  left;refine⟨_,.str x,_,M8 K,eX.neg rfl ?_⟩;left;refine⟨hx,eX.of (λh1=>?_) (λh1=>?_)⟩
  ·have h1':1<=x.length:=by simp at h1;omega
   left;refine eX.of (λh2=>?_) (λh2=>?_)
   ·have h2':¬x.length<=4:=by simp at h2;omega
    have e:nameB x=false:=by
     unfold nameB;rw[qmx h2'];simp
    rw[e] at q;left;exact q H (Same.refl H)
   ·have h2':x.length<=4:=by simp at h2;omega
    left;refine λD hD=>cmS (λi σ' H'=>(∃o,σ'=[o])/\Same H H'/\H' D=some (.lst ((x.cps.toList.take i).map λc=>.bl (isL c)))) ⟨⟨none,rfl⟩,aq hD,by simpa using ak⟩ ?_ ?_
    ·rintro i c σ' H' hc ⟨⟨o,rfl⟩,sm,GF⟩;have h4:4<sizeLine:=by decide
     have hsz:x.cps.size=x.length:=rfl;left;refine⟨_,GF,by simp;omega,bx sm hD,?_⟩;rw[ak,take_one (l:=x.cps.toList) (x:=c) (by simpa using hc),qnl];rfl
    ·rintro σ' H' ⟨⟨o,rfl⟩,sm,GF⟩;left;refine⟨_,GF,_,jD isL _,?_⟩;rw[Q0];have e:nameB x=(x.cps.toList.take x.cps.size).all isL:=by
      unfold nameB;rw[qm0 h1',qm0 h2',show x.cps.toList.take x.cps.size=x.cps.toList from qng (by simp)];rfl
     rw[<- e];exact q H' sm
  ·have h1':¬1<=x.length:=by simp at h1;omega
   have e:nameB x=false:=by
    unfold nameB;rw[qmx h1'];simp
   rw[e] at q;left;exact q H (Same.refl H)
theorem qaT{xs:QAH}{i:Nat}{x:V}(h:(xs.map V.str)[i]? = some x):∃z,z∈xs/\x = .str z:=by
 rw[qmw] at h;cases e:xs[i]? with
 |none=>rw[e] at h;cases h
 |some z=>
  rw[e] at h;exact⟨z,ql_ e,(qmB h).symm⟩
theorem xG{x:Str}(h:nameB x=true):x.length<=sizeLine:=by
 unfold nameB at h;simp at h;have h4:4<=sizeLine:=by decide
 omega
theorem rm:∀n,pq (List.replicate n (.bl true)) (List.replicate n true)
 |0=>rfl
 |n+1=>⟨true,_,rfl,rfl,rm n⟩
theorem E_:∀xs:QAH,keysOf (xs.map V.str)=xs.map Sum.inr
 |[]=>rfl
 |x::xs=>by
  show Sum.inr x::keysOf (xs.map V.str)=_;rw[E_ xs];rfl
theorem qfw{xs:QAH}(h:xs.Nodup):(Gm (λi=>(keysOf (xs.map V.str))[i]?.getD (Sum.inl 0)) (xs.map V.str).length).length=xs.length:=by
 rw[E_,ql9];refine(Za _ xs.length λi j hi hj e=>?_).1;simp[hi,hj] at e;exact(List.getElem_inj h).mp e
structure Qt(xs:QAH):Prop where
 len:1<=xs.length/\xs.length<=9
 nm:∀x∈xs,nameB x=true
 nd:xs.Nodup
def GJ:Sp:=λvs H Q _=>∃p xs,vs=[.ref p]/\Sq H p (xs.map V.str)/\Qt xs/\∀H',Same H H'->Q (.bl true) H'
theorem GK(T:Txt K mg a):bV P w K mg base i_ 2 a.eZ a.lU ["thing"] GJ:=by
 exists T.sH.qL,Gy
 ·obtain⟨p,xs,rfl,_⟩:=h;rfl
 ·obtain⟨p,xs,rfl,hp,hx,q⟩:=h;refine⟨_,(aC (cP (PW.pt (vP (f9 (dJ (PE.eqv (aO (sW T) hr.d rfl T.nO T.jJ.kp T.nM .nil bA (aj (aL 0) ao)) (aJ _ _ _)))) (rB (f9 (Hy zK zK aG (aK (bY (K:=K) rfl) rfl T.nm.len qmi (aj (aL 0) ao)) (cU rfl T.wz T.wA)))))) (aF (aZ qM)) bC)
   (aF (aZ (BL (aK (lq rfl) rfl T.nm.all kZ (aj (eE rfl rfl (show aY (aB ni) _ ["thing"] ["one"] [] ["one"] from by rfl') rfl (PI.eqv (u_ (K:=K) rfl (aL 0)) (qT _ _)) (λC s H fp pn=>(aR (i:=0) (show(["one"]:QAH).Nodup by symm) rfl (Or.inl rfl))) (λC s H fp pn=>eV) (λC s H fp pn=>(PE.eqv (aO (xu T) hr.d rfl T.vC T.qX.kp T.vB .nil bA (aj (aL 0) ao)) (aJ _ _ _)))) ao)) (Jl (lJ mU (aK Wa rfl T.nm.len qmi (aj (fQ (V_ rfl) rfl T.nm.set V7 (aj (aL 0) ao)) ao)) (aK (bY (K:=K) rfl) rfl T.nm.len qmi (aj (aL 0) ao)) (bO _))))))),?_⟩
  have hl:=hx.len;have h60:60<sizeLine:=by decide
  left;refine⟨p,_,rfl,hp,λH1 s1=>?_⟩;have hp1:=hp.same s1;left;refine⟨_,hp1.q,eX.pos (by simp;omega) ?_⟩;left;refine eX.neg (by simp;omega) ?_;obtain⟨b,hb⟩:=hp.b;left;refine⟨b,⟨_,hb K H1 s1⟩,λD hD=>cmQ (xs.map V.str) (λi σ' H'=>(∃o,σ'=[o])/\Same H1 H'/\H' D=some (.lst (List.replicate i (.bl true)))) ⟨⟨none,rfl⟩,aq hD,ak⟩ (λi σ' H' _ h=>hb K H' (s1.trans h.2.1)) ?_ ?_⟩
  ·rintro i x σ' H' hi ⟨⟨o,rfl⟩,sm,GF⟩;obtain⟨z,hz,rfl⟩:=qaT hi;have hi2:i<xs.length:=by simpa using (ql2.mp hi).1
   left;refine⟨z,rfl,xG (hx.nm z hz),λH2 s2=>?_⟩;left;refine⟨_,s2 _ _ GF,by simp;omega,bx (sm.trans s2) hD,?_⟩;rw[ak,hx.nm z hz,<- qoz]
  ·rintro σ' H' ⟨⟨o,rfl⟩,sm,GF⟩;have hp2:=hp1.same sm;left;refine⟨_,GF,_,rm _,?_⟩;rw[show(List.replicate (xs.map V.str).length true).all id=true by simp];left;refine⟨_,hp2.q,by simp[isKey],by simp;unfold scanBound;omega,λt ht=>⟨_,ak,_,(hp2.same (aq ht)).q,?_⟩⟩;rw[qm0 (by rw[qfw hx.nd];simp)];exact q _ (s1.trans (sm.trans (aq ht)))
theorem qcO{x:Str}{xs:QAH}(h:x∈xs):inV (.str x) (xs.map V.str)=true:=by
 unfold inV;rw[qnB];exact⟨.str x,qmW.mpr ⟨x,h,rfl⟩,by simp[V0]⟩
theorem qaU(xs:QAH):(xs.map V.str).all jP=true:=by
 rw[qmn];intro v hv;obtain⟨x,_,rfl⟩:=qmW.mp hv;rfl
def W7:Sp:=λvs H Q _=>∃t p x y xs,vs=[.ref t,.ref p]/\Sq H t [.str x,.str y]/\Sq H p (xs.map V.str)/\Qt xs/\x∈xs/\y∈xs/\x≠y/\∀H',Same H H'->Q (.bl true) H'
theorem W8(T:Txt K mg a):bV P w K mg base i_ 2 a.mF a.vo ["thing", "points"] W7:=by
 exists T.Eh.qL,W4
 ·obtain⟨t,p,x,y,xs,rfl,_⟩:=h;rfl
 ·obtain⟨t,p,x,y,xs,rfl,ht,hp,hx,hxm,hym,hne,q⟩:=h;refine⟨_,(aC (cP (PW.pt (vP (f9 (dJ (PE.eqv (aO (sW T) hr.d rfl T.nO T.jJ.kp T.nM .nil bA (aj (aL 0) ao)) (aJ _ _ _)))) (rB (aU mV (aK (bY (K:=K) rfl) rfl T.nm.len qmi (aj (aL 0) ao)) aG (bO _))))) (aF (aZ qM)) bC)
   (aC (cP (f9 (dJ (aK (lq rfl) rfl T.nm.all kZ (aj (eE rfl rfl (show aY (aB yP) _ ["thing", "points"] ["end"] [1] ["end", "points"] from by rfl') rfl (PI.eqv (u_ (K:=K) rfl (aL 0)) (qT _ _)) (λC s H fp pn=>(aR (i:=0) (show(["end", "points"]:QAH).Nodup by symm) rfl (Or.inl rfl))) (λC s H fp pn=>eV) (λC s H fp pn=>(BL (PE.eqv (aO (xu T) hr.d rfl T.vC T.qX.kp T.vB .nil bA (aj (aL 0) ao)) (aJ _ _ _)) (Jl (lJ (Gv (K:=K) rfl) (aL 0) (aL 1) rfl))))) ao)))) (aF (aZ qM)) bC)
   (aF (aZ (lJ mV (bR (cj (K:=K) rfl) (aL 0) aG (λ_ _=>rfl)) (bR (cj (K:=K) rfl) (aL 0) aG (λ_ _=>rfl)) (bO _)))))),?_⟩
  have h60:60<sizeLine:=by decide
  left;refine⟨t,_,rfl,ht,λH1 s1=>?_⟩;left;refine⟨_,(ht.same s1).q,false,rfl,eX.neg rfl ?_⟩;obtain⟨b,hb⟩:=ht.b;left;refine⟨b,⟨_,hb K H1 s1⟩,λD hD=>cmQ [.str x,.str y] (λi σ' H'=>(∃o,σ'=[o,some (.ref p)])/\Same H1 H'/\H' D=some (.lst (List.replicate i (.bl true)))) ⟨⟨none,rfl⟩,aq hD,ak⟩ (λi σ' H' _ h=>hb K H' (s1.trans h.2.1)) ?_ ?_⟩
  ·rintro i v σ' H' hi ⟨⟨o,rfl⟩,sm,GF⟩;obtain⟨z,hz,rfl⟩:∃z,z∈xs/\v = .str z:=by
    match i,hi with
    |0,hi=>exact⟨x,hxm,(qmB hi).symm⟩
    |1,hi=>exact⟨y,hym,(qmB hi).symm⟩
   have hi2:i<2:=(ql2.mp hi).1;left;refine⟨z,rfl,xG (hx.nm z hz),λH2 s2=>?_⟩;rw[hx.nm z hz];left;refine⟨_,(hp.same (s1.trans (sm.trans s2))).q,rfl,qmn.mp (qaU xs),_,s2 _ _ GF,by simp;omega,bx (sm.trans s2) hD,?_⟩;rw[ak,qcO hz,<- qoz]
  ·rintro σ' H' ⟨⟨o,rfl⟩,sm,GF⟩;have Yh:=ht.same (s1.trans sm);left;refine⟨_,GF,_,rm _,?_⟩;rw[show(List.replicate [V.str x,V.str y].length true).all id=true by simp];left;refine⟨_,Yh.q,_,bD (j:=0) rfl,_,Yh.q,_,bD (j:=1) rfl,?_⟩;left;refine⟨true,by simp[hne],?_⟩;exact q _ (s1.trans sm)
def Fb(H:Hp)(v:V)(e:Str×Str):Prop:=∃t,v = .ref t/\Sq H t [.str e.1,.str e.2]
theorem Fb.same{H H':Hp}{v:V}{e:Str×Str}(h:Fb H v e)(s:Same H H'):Fb H' v e:=by
 obtain⟨t,rfl,h⟩:=h;exact⟨t,rfl,h.same s⟩
def qg(H:Hp)(vs:List V)(ps:QAD):Prop:=vs.length=ps.length/\∀(i:Nat) v e,vs[i]? = some v->ps[i]? = some e->Fb H v e
theorem qg.same{H H':Hp}{vs:List V}{ps:QAD}(h:qg H vs ps)(s:Same H H'):qg H' vs ps:=⟨h.1,λi v e h1 h2=>(h.2 i v e h1 h2).same s⟩
theorem qg.at{H:Hp}{vs:List V}{ps:QAD}(h:qg H vs ps){i:Nat}{v:V}(hv:vs[i]? = some v):∃e,ps[i]? = some e/\Fb H v e:=by
 have hi:i<ps.length:=by rw[<- h.1];exact(ql2.mp hv).1
 exact⟨ps[i],by simp[hi],h.2 i v _ hv (by simp[hi])⟩
structure uU(xs:QAH)(ps:QAD):Prop where
 len:ps.length<=20
 ok:∀e∈ps,e.1∈xs/\e.2∈xs/\e.1≠e.2
def Pg:Sp:=λvs H Q _=>∃t p tv xs ps,vs=[.ref t,.ref p]/\Sq H t tv/\qg H tv ps/\Sq H p (xs.map V.str)/\Qt xs/\uU xs ps/\∀H',Same H H'->Q (.bl true) H'
theorem Ph(T:Txt K mg a):bV P w K mg base i_ 3 a.iB a.pK ["thing", "points"] Pg:=by
 exists T.wY.qL,Ov
 ·obtain⟨t,p,tv,xs,ps,rfl,_⟩:=h;rfl
 ·obtain⟨t,p,tv,xs,ps,rfl,ht,hpr,hp,hx,hts,q⟩:=h;refine⟨_,(aC (cP (PW.pt (vP (f9 (dJ (PE.eqv (aO (sW T) hr.d rfl T.nO T.jJ.kp T.nM .nil bA (aj (aL 0) ao)) (aJ _ _ _)))) (rB (aU uD (aK (bY (K:=K) rfl) rfl T.nm.len qmi (aj (aL 0) ao)) (cU rfl T.Bh T.Bj) (bO _))))) (aF (aZ qM)) bC)
   (aF (aZ (aK (lq rfl) rfl T.nm.all kZ (aj (eE rfl rfl (show aY (aB rP) _ ["thing", "points"] ["one"] [1] ["one", "points"] from by rfl') rfl (PI.eqv (u_ (K:=K) rfl (aL 0)) (qT _ _)) (λC s H fp pn=>(aR (i:=0) (show(["one", "points"]:QAH).Nodup by symm) rfl (Or.inl rfl))) (λC s H fp pn=>eV) (λC s H fp pn=>(PE.eqv (aO (W8 T) hr.d rfl T.O1 T.Eh.kp T.OJ .nil bA (aj (aL 0) (aj (aL 1) ao))) (aJ _ _ _)))) ao))))),?_⟩
  have hlen:=hpr.1;have z6:=hts.len;have h60:60<sizeLine:=by decide
  left;refine⟨t,_,rfl,ht,λH1 s1=>?_⟩;left;refine⟨_,(ht.same s1).q,eX.neg (by simp;omega) ?_⟩;obtain⟨b,hb⟩:=ht.b;left;refine⟨b,⟨_,hb K H1 s1⟩,λD hD=>cmQ tv (λi σ' H'=>(∃o,σ'=[o,some (.ref p)])/\Same H1 H'/\H' D=some (.lst (List.replicate i (.bl true)))) ⟨⟨none,rfl⟩,aq hD,ak⟩ (λi σ' H' _ h=>hb K H' (s1.trans h.2.1)) ?_ ?_⟩
  ·rintro i v σ' H' hi ⟨⟨o,rfl⟩,sm,GF⟩;obtain⟨e,he,t2,rfl,Yh⟩:=hpr.at hi;have hi2:i<tv.length:=(ql2.mp hi).1;obtain⟨h1,h2,h3⟩:=hts.ok e (ql_ he);have s2:=s1.trans sm;left;refine⟨t2,p,e.1,e.2,xs,rfl,Yh.same s2,hp.same s2,hx,h1,h2,h3,λH2 s3=>?_⟩;left;refine⟨_,s3 _ _ GF,by simp;omega,bx (sm.trans s3) hD,?_⟩;rw[ak,<- qoz]
  ·rintro σ' H' ⟨⟨o,rfl⟩,sm,GF⟩;left;refine⟨_,GF,_,rm _,?_⟩;rw[show(List.replicate tv.length true).all id=true by simp];exact q _ (s1.trans sm)
def bF(H:Hp)(vs:List V)(ps:QAD):Prop:=vs.length=ps.length/\∀(i:Nat) v e,vs[i]? = some v->ps[i]? = some e->∃t,v = .ref t/\H t=some (.tup [.str e.1,.str e.2])
def cX(H H':Hp):Prop:=∀b xs,H b=some (.tup xs)->H' b=some (.tup xs)
theorem bF.keep{H H':Hp}{vs:List V}{ps:QAD}(h:bF H vs ps)(s:cX H H'):bF H' vs ps:=⟨h.1,λi v e h1 h2=>by
 obtain⟨t,rfl,e⟩:=h.2 i v e h1 h2;exact⟨t,rfl,s _ _ e⟩⟩
theorem bF.snoc{H:Hp}{vs:List V}{ps:QAD}{t:Addr}{e:Str×Str}(h:bF H vs ps)(ht:H t=some (.tup [.str e.1,.str e.2])):bF H (vs++[.ref t]) (ps++[e]):=by
 refine⟨by simp[h.1],λi v d h1 h2=>?_⟩
 by_cases hi:i<vs.length
 ·rw[qms hi] at h1;rw[qms (by rw[<- h.1];exact hi)] at h2;exact h.2 i v d h1 h2
 ·rw[qmu (by omega)] at h1;rw[qmu (by rw[<- h.1];omega),<- h.1] at h2;cases hk:i - vs.length with
  |zero=>
   rw[hk] at h1 h2;cases h1;cases h2;exact⟨t,rfl,ht⟩
  |succ j=>
   rw[hk] at h1;simp at h1
structure iZ(C:Addr)(H:Hp)(o:Addr)(xs:QAH)(ps:QAD):Prop where
 ex:∃dx n m tv,H o=some (.ins C dx [("names",V.ref n),("pairs",V.ref m)])/\H n=some (.tup (xs.map V.str))/\H m=some (.tup tv)/\bF H tv ps/\ps.length<=20
def qcP(C:Addr):Sp:=λvs H Q _=>∃o dx p t tv xs ps,vs=[.ref o,.ref p,.ref t]/\H o=some (.ins C dx [])/\Sq H t tv/\qg H tv ps/\Sq H p (xs.map V.str)/\Qt xs/\uU xs ps/\
 ∀H',iZ C H' o xs ps->But o H H'->Q .non H'
theorem Pj(T:Txt K mg a):bV P w K mg base i_ 4 a.gA a.pL ["self", "points", "ties"] (qcP a.b_):=by
 exists T.Ek.qL,Ow
 ·obtain⟨o,dx,p,t,tv,xs,ps,rfl,_⟩:=h;rfl
 ·obtain⟨o,dx,p,t,tv,xs,ps,rfl,ho,ht,hpr,hp,hx,hts,q⟩:=h;refine⟨_,(aC (cP (f9 (dJ (PE.eqv (aO (GK T) hr.d rfl T.za T.sH.kp T.yZ .nil bA (aj (aL 1) ao)) (aJ _ _ _)))) (aF qN) bC)
   (aC (cP (f9 (dJ (PE.eqv (aO (Ph T) hr.d rfl T.Ej T.wY.kp T.Ei .nil bA (aj (aL 2) (aj (aL 1) ao))) (aJ _ _ _)))) (aF qN) bC)
   (aC (Uq (K:=K) rfl (aL 0) (fQ qW rfl T.nm.tuple boot_tuple (aj (aL 1) ao)) rfl)
   (aF (Uq (K:=K) rfl (aL 0) (fQ qW rfl T.nm.tuple boot_tuple (aj (eE rfl rfl (show aY (aB rQ) _ ["self", "points", "ties"] ["pair"] [] ["pair"] from by rfl') rfl (PI.eqv (u_ (K:=K) rfl (aL 2)) (qT _ _)) (λC s H fp pn=>(aR (i:=0) (show(["pair"]:QAH).Nodup by symm) rfl (Or.inl rfl))) (λC s H fp pn=>eV) (λC s H fp pn=>(gb (aj (bR (cj (K:=K) rfl) (aL 0) aG (λ_ _=>rfl)) (aj (bR (cj (K:=K) rfl) (aL 0) aG (λ_ _=>rfl)) ao))))) ao)) rfl))))),?_⟩
  left;refine⟨p,xs,rfl,hp,hx,λH1 s1=>?_⟩;left;refine⟨t,p,tv,xs,ps,rfl,ht.same s1,hpr.same s1,hp.same s1,hx,hts,λH2 s2'=>?_⟩;have s2:=s1.trans s2';left;refine⟨_,hp.same s2,λn H3 hn s3'=>?_⟩;have s3:=s2.trans s3';have nno:n≠o:=jN hn (s3 _ _ ho) (by intro z;cases z);refine⟨_,_,_,s3 _ _ ho,T.m5,T.La,by simp,?_⟩;have hto:t≠o:=by rcases ht with z|z <;> exact jN z ho (by intro y;cases y)
  have qhr:∀{ob:HO}{b:Addr}{u:HO},b≠o->H b=some u->upd H3 o ob b=some u:=λhb e=>by rw[aD hb];exact s3 _ _ e
  obtain⟨b,hb⟩:∃b,∀H',(∀c u,c≠o->H c=some u->H' c=some u)->SqB b K H' t tv:=by
   rcases ht with z|z
   ·exact⟨true,λH' k=>aW.of (k _ _ hto z)⟩
   ·exact⟨false,λH' k=>eG.of (k _ _ hto z)⟩
  have e1:kW "names" (V.ref n) []=([("names",V.ref n)]:List (Str×V)):=rfl;rw[e1];have Rh:∀(c:Addr)(u:HO),c≠o->H c=some u->upd H3 o (.ins a.b_ dx [("names",V.ref n)]) c=some u:=λc u hc e=>qhr hc e;generalize h4:upd H3 o (.ins a.b_ dx [("names",V.ref n)])=H4 at Rh⊢;have ho4:H4 o=some (.ins a.b_ dx [("names",V.ref n)]):=by rw[<- h4];exact ak
  have hn4:H4 n=some (.tup (xs.map V.str)):=by rw[<- h4,aD nno];exact hn
  refine⟨b,⟨_,hb H4 Rh⟩,λD hD=>cmQ tv (λi σ' H'=>(∃o',σ'=[o'])/\Same H4 H'/\∃tvs,H' D=some (.lst tvs)/\bF H' tvs (ps.take i)) ⟨⟨none,rfl⟩,aq hD,[],ak,by simp[bF]⟩ (λi σ' H' _ h=>hb H' λc u hc e=>h.2.1 _ _ (Rh c u hc e)) ?_ ?_⟩
  ·rintro i v σ' H' hi ⟨⟨o',rfl⟩,sm,tvs,GF,htv⟩;have hi2:i<tv.length:=(ql2.mp hi).1;have hlen:=hpr.1;have z6:=hts.len;obtain⟨e,he,t2,rfl,Yh⟩:=hpr.at hi;have t2o:t2≠o:=by rcases Yh with z|z <;> exact jN z ho (by intro y;cases y)
   have ht3:Sq H' t2 [.str e.1,.str e.2]:=by
    rcases Yh with z|z
    ·exact .inl (sm _ _ (Rh _ _ t2o z))
    ·exact .inr (sm _ _ (Rh _ _ t2o z))
   left;refine⟨_,ht3.q,_,bD (j:=0) rfl,_,ht3.q,_,bD (j:=1) rfl,λpt hpt=>?_⟩;have hDp:D≠pt:=aN GF hpt;refine⟨tvs,by rw[aD hDp];exact GF,?_,bx (sm.trans (aq hpt)) hD,_,ak,?_⟩
   ·have h4':20<sizeLine:=by decide
    have:=htv.1;simp at this;omega
   ·rw[take_one he];refine(htv.keep ?_).snoc ?_
    ·intro c zs ec;rw[aD (jN ec GF (by intro y;cases y)),aD (aN ec hpt)];exact ec
    ·rw[aD (qnF hDp)];exact ak
  ·rintro σ' H' ⟨⟨o',rfl⟩,sm,tvs,GF,htv⟩;left;refine⟨tvs,.inl GF,λm H5 hm s5=>⟨_,_,_,s5 _ _ (sm _ _ ho4),T.m5,T.Cm,by simp,?_⟩⟩;have ho5:=s5 _ _ (sm _ _ ho4);have mno:m≠o:=jN hm ho5 (by intro z;cases z);have e2:kW "pairs" (V.ref m) ([("names",V.ref n)]:List (Str×V))=([("names",V.ref n),("pairs",V.ref m)]:List (Str×V)):=by
    show(if ("names" : Str) = "pairs" then _ else (("names" : Str),V.ref n)::kW "pairs" (V.ref m) [])=_
    rw[if_neg (by symm)];rfl
   rw[e2];refine q _ ⟨dx,n,m,tvs,ak,?_,?_,?_,hts.len⟩ λc u hc e=>?_
   ·rw[aD nno];exact s5 _ _ (sm _ _ hn4)
   ·rw[aD mno];exact hm
   ·have hl:=hpr.1;rw[hl,qmv] at htv;refine htv.keep λc zs ec=>?_;rw[aD (jN (s5 _ _ ec) ho5 (by intro z;cases z))];exact s5 _ _ ec
   ·rw[aD hc];exact s5 _ _ (sm _ _ (Rh c u hc e))
def W9(C:Addr):Sp:=λvs H Q _=>∃o xs ps,vs=[.ref o]/\iZ C H o xs ps/\∀l,H l=none->Q (.ref l) (upd H l (.lst (xs.map V.str)))
theorem jm(T:Txt K mg a):bV P w K mg base i_ 1 a.dM a.lV ["self"] (W9 a.b_):=by
 exists T.zc.qL,Gz
 ·obtain⟨o,xs,ps,rfl,_⟩:=h;rfl
 ·obtain⟨o,xs,ps,rfl,⟨dx,n,m,tv,h1,h2,h3,h4,h5⟩,q⟩:=h;refine⟨_,(aF (aZ (fQ (yL (K:=K) rfl) rfl T.nm.list boot_list (aj (PE.eqv (JF (K:=K) rfl (aL 0) rfl) (Kc _ _ _)) ao)))),?_⟩;left;refine⟨_,_,_,h1,T.m5,T.La,_,rfl,_,.inr (eG.of h2),q⟩
def qcQ(C:Addr):Sp:=λvs H Q _=>∃o xs ps,vs=[.ref o]/\iZ C H o xs ps/\∀l tv,H l=none->bF H tv ps->Q (.ref l) (upd H l (.lst tv))
theorem uV(T:Txt K mg a):bV P w K mg base i_ 1 a.gB a.pO ["self"] (qcQ a.b_):=by
 exists T.Em.qL,Ox
 ·obtain⟨o,xs,ps,rfl,_⟩:=h;rfl
 ·obtain⟨o,xs,ps,rfl,⟨dx,n,m,tv,h1,h2,h3,h4,h5⟩,q⟩:=h;refine⟨_,(aF (aZ (fQ (yL (K:=K) rfl) rfl T.nm.list boot_list (aj (PE.eqv (JF (K:=K) rfl (aL 0) rfl) (Kc _ _ _)) ao)))),?_⟩;left;refine⟨_,_,_,h1,T.m5,T.Cm,_,rfl,_,.inr (eG.of h3),λl hl=>q l tv hl h4⟩
theorem jL.upd{p q:Addr}{H:Hp}{u:HO}(x:jL H p)(h:p≠q):jL (L2.upd H q u) p:=by
 obtain⟨a,b,e,r⟩:=x;exact⟨a,b,by rw[aD h];exact e,r⟩
theorem jL.ne{p q:Addr}{H:Hp}(x:jL H p)(h:H q=none):p≠q:=by
 obtain⟨a,b,e,r⟩:=x;exact aN e h
theorem jL.none{p b:Addr}{H H':Hp}(x:But p H H')(hp:jL H' p)(h:H' b = .none):H b = .none:=by
 obtain⟨a,b,e,r⟩:=hp;exact x.none e h
def qaV:Sp:=λvs H Q _=>∃p l xs,vs=[.ref p,.ref l]/\jL H p/\l≠p/\H l=some (.lst xs)/\xs.length<=100/\∀r ys H',H r=none->H' r=some (.lst ys)->ys.Perm xs->jL H' p->But p H H'->Q (.ref r) H'
theorem Pk(T:Txt K mg a):bV P w K mg base i_ 2 a.pW a.yS ["_law_pot_here", "_law_things"] qaV:=by
 exists T.Cj.qL,DY
 ·obtain⟨p,l,xs,rfl,_⟩:=h;rfl
 ·obtain⟨p,l,xs,rfl,hp,hlp,hl,h100,q⟩:=h;refine⟨_,(aC (bG (i:=2) DY.nd rfl (Or.inl rfl) (cI ao))
   (aC (kO qmZ rfl (PI.eqv (cJ (K:=K) rfl (aL 1)) (bT _ _)) (aR (i:=3) DY.nd rfl (Or.inl rfl))
   (aF (eU (kY (K:=K) rfl qmI PySem.F.slot_list_insert PySem.F.type_list_insert Rp (aL 2) (aj (PE.eqv (aO (fP T) hr.d rfl T.iJ T.gR.kp T.iI .nil bA (aj (aL 0) (aj (cB jo (aK (bY (K:=K) rfl) rfl T.nm.len qmi (aj (aL 2) ao)) aG) ao))) (aJ _ _ _)) (aj (aL 3) ao))))))
   (aF (aZ (aL 2))))),?_⟩
  have h4':100<sizeLine:=by decide
  left;intro r hr0;have hpr:p≠r:=hp.ne hr0;refine⟨⟨_,aW.of (bW hl hr0)⟩,frL xs (λi σ H'=>∃v ys,σ=[some (.ref p),some (.ref l),some (.ref r),v]/\H' r=some (.lst ys)/\ys.Perm (xs.take i)/\jL H' p/\But p H H') ⟨none,[],rfl,ak,by simp,hp.upd hpr,(But.refl _ _).new hr0⟩ (λi σ H' _ ⟨_,_,_,_,_,_,hb⟩=>aW.of (hb _ _ hlp hl)) ?_ ?_⟩
  ·rintro i x σ H' hi ⟨v,ys,rfl,hr',hperm,hP,hB⟩;have hi2:i<xs.length:=(ql2.mp hi).1;have hly:ys.length=i:=by
    have:=hperm.length_eq;simp at this;omega
   left;refine⟨⟨_,aW.of hr'⟩,ys,.inl (aW.of hr'),p,_,rfl,hP,by omega,by omega,λd H1 hd0 hd1 hP1 Yi=>?_⟩;have hr1:H1 r=some (.lst ys):=Yi _ _ (qnF hpr) hr';left;refine⟨ys,hr1,hd0,by omega,by omega,_,ak,?_,hP1.upd hpr,(hB.trans Yi).new hr0⟩
   ·rw[take_one hi];have e:(ys.take d.toNat++x::ys.drop d.toNat).Perm (x::ys):=by
     refine List.perm_middle.trans ?_;rw[qm4]
    exact e.trans ((List.Perm.cons x hperm).trans (List.perm_append_singleton x _).symm)
  ·rintro σ H' ⟨v,ys,rfl,hr',hperm,hP,hB⟩;rw[qmv] at hperm;left;exact q r ys H' hr0 hr' hperm hP hB
def qfx:Sp:=λvs H Q _=>∃(p l:Addr)(xs:QAH),vs=[.ref p,.ref l]/\jL H p/\l≠p/\H l=some (.lst (xs.map V.str))/\2<=xs.length/\xs.length<=9/\xs.Nodup/\∀t x y H',H t=none->H' t=some (.tup [.str x,.str y])->x∈xs->y∈xs->x≠y->jL H' p->But p H H'->Q (.ref t) H'
theorem qfy(T:Txt K mg a):bV P w K mg base i_ 2 a.Ay a.KR ["_law_pot_here", "_law_names_here"] qfx:=by
 exists T.qaO.qL,R3
 ·obtain⟨p,l,xs,rfl,_⟩:=h;rfl
 ·obtain⟨p,l,xs,rfl,hp,hlp,hl,h2,h9,hnd,q⟩:=h;refine⟨_,(aC (bG (i:=2) R3.nd rfl (Or.inl rfl) (PE.eqv (aO (fP T) hr.d rfl T.iJ T.gR.kp T.iI .nil bA (aj (aL 0) (aj (aK (bY (K:=K) rfl) rfl T.nm.len qmi (aj (aL 1) ao)) ao))) (aJ _ _ _)))
   (aC (bG (i:=3) R3.nd rfl (Or.inl rfl) (cB vd (cB jo (cB jo (aL 2) aG) (PE.eqv (aO (fP T) hr.d rfl T.iJ T.gR.kp T.iI .nil bA (aj (aL 0) (aj (cB yI (aK (bY (K:=K) rfl) rfl T.nm.len qmi (aj (aL 1) ao)) aG) ao))) (aJ _ _ _))) (aK (bY (K:=K) rfl) rfl T.nm.len qmi (aj (aL 1) ao))))
   (aF (aZ (gb (aj (bR (cj (K:=K) rfl) (aL 1) (aL 2) (λ_ _=>rfl)) (aj (bR (cj (K:=K) rfl) (aL 1) (aL 3) (λ_ _=>rfl)) ao))))))),?_⟩
  left;refine⟨_,.inl (aW.of hl),p,_,rfl,hp,by simp;omega,by simp;omega,λd H1 hd0 hd1 hP1 Yi=>?_⟩;have hl1:=Yi _ _ hlp hl;left;refine⟨_,.inl (aW.of hl1),p,_,rfl,hP1,by simp;omega,by simp;omega,λe H2 he0 Gf hP2 hB2=>?_⟩;have hl2:=hB2 _ _ hlp hl1;simp only[ql9] at hd1 Gf;obtain⟨m0,m1,m2⟩:=qeF hd0 hd1 he0 Gf;obtain⟨vx,ex,ax⟩:=Ul (xs:=xs.map V.str) hd0 (by simpa using hd1);obtain⟨vy,ey,ay⟩:=Ul (xs:=xs.map V.str) m0 (by simpa using m1);obtain⟨x,ex',rfl⟩:=um ex;obtain⟨y,ey',rfl⟩:=um ey;have sl:=aW.of (K:=K) hl2;left;refine⟨_,.inl sl,by simp;omega,_,.inl sl,_,ax,_,.inl sl,_,(by simpa using ay),λt ht=>?_⟩;refine q t x y _ (jL.none (Yi.trans hB2) hP2 ht) ak (ql_ ex') (ql_ ey') (λz=>?_) (hP2.upd (hP2.ne ht)) ((Yi.trans hB2).same (aq ht));subst z;have:=uo hnd ex' ey';omega
def qaW:Sp:=λvs H Q _=>∃(p:Addr)(m:Nat),vs=[.ref p,.int m]/\jL H p/\1<=m/\m<=9/\∀(r:Addr)(xs:QAH)(H':Hp),H r=none->H' r=some (.lst (xs.map V.str))->Qt xs->xs.length=m->jL H' p->But p H H'->Q (.ref r) H'
theorem qaX(T:Txt K mg a):bV P w K mg base i_ 2 a.pU a.yR ["_law_pot_here", "_law_many"] qaW:=by
 exists T.K4.qL,oG
 ·obtain⟨p,m,rfl,_⟩:=h;rfl
 ·obtain⟨p,m,rfl,hp,h1,h9,q⟩:=h;refine⟨_,(aC (bG (i:=2) oG.nd rfl (Or.inr rfl) eF)
   (aC (bG (i:=3) oG.nd rfl (Or.inl rfl) (PE.eqv (aO (fP T) hr.d rfl T.iJ T.gR.kp T.iI .nil bA (aj (aL 0) (aj aG ao))) (aJ _ _ _)))
   (aC (bG (i:=4) oG.nd rfl (Or.inl rfl) (cI ao))
   (aC (kO qmZ rfl (PI.eqv (qO rfl T.nm.range (aj (aL 1) ao)) (qU _)) (aR (i:=5) oG.nd rfl (Or.inl rfl))
   (aC (bG (i:=6) oG.nd rfl (Or.inl rfl) (PE.eqv (aO (fP T) hr.d rfl T.iJ T.gR.kp T.iI .nil bA (aj (aL 0) (aj aG ao))) (aJ _ _ _)))
   (aC (bG (i:=7) oG.nd rfl (Or.inl rfl) (kY (K:=K) rfl PySem.F.plainAttrs_str PySem.F.slot_str_join PySem.F.type_str_join qac eF (aj (eE rfl rfl (show aY (aB Cd) _ ["_law_pot_here", "_law_many", "_law_letters", "_law_begin", "_law_found", "_law_k", "_law_size", "_law_more"] ["_law_j"] [2,0] ["_law_j", "_law_letters", "_law_pot_here"] from by rfl') rfl (PI.eqv (qO rfl T.nm.range (aj (aL 6) ao)) (qU _)) (λC s H fp pn=>(aR (i:=0) (show(["_law_j", "_law_letters", "_law_pot_here"]:QAH).Nodup by symm) rfl (Or.inl rfl))) (λC s H fp pn=>eV) (λC s H fp pn=>(bR Uv (aL 1) (PE.eqv (aO (fP T) hr.d rfl T.iJ T.gR.kp T.iI .nil bA (aj (aL 2) (aj aG ao))) (aJ _ _ _)) (λ_ _=>rfl)))) ao)))
   (aF (eU (kY (K:=K) rfl qmI qmT qmU gk (aL 4) (aj (cB Ny (bR Uv (aL 2) (cB vd (cB jo (aL 3) (cB BW aG (aL 5))) aG) (λ_ _=>rfl)) (aL 7)) ao)))))))
   (aF (aZ (aL 4))))))),?_⟩
  left;refine⟨p,_,rfl,hp,by decide,by decide,λd H1 hd0 hd1 hP1 Yi=>?_⟩;obtain⟨b,rfl,qlV,hbl⟩:=uq hd0 hd1;have hP2:=hP1;have hB2:=Yi;left;intro r hr0;refine⟨zlt h9 (by decide),frR (λi σ H'=>∃v8 v9 v10 ws,σ=[some (.ref p),some (.int m),some (.str (Str.ofString "abcdefghijklmnopqrstuvwxyz")),some (.int b),some (.ref r),v8,v9,v10]/\H' r=some (.lst (ws.map V.str))/\ws.length=i/\(∀(j:Nat) x,ws[j]? = some x->∃k,1<=k/\k<=4/\rD (97+(b+5 * j) % 26) k x)/\jL H' p/\But p H H') ⟨none,none,none,[],rfl,ak,rfl,λj x e=>by simp at e,hP2.upd (hP2.ne hr0),hB2.same (aq hr0)⟩ ?_ ?_⟩
  ·rintro i σ H' hi ⟨v8,v9,v10,ws,rfl,hr',hl,hw,hP,hB⟩;left;obtain⟨c,hc,qkP,hcl⟩:=uq (i:=((b:Int)+5 * i) % 26) zn1 zn2;have hc':c=(b+5 * i) % 26:=zn3 hc;have pr:r≠p:=λz=>by subst z;obtain⟨_,_,u,_⟩:=hP2;rw[hr0] at u;cases u
   refine⟨p,_,rfl,hP,by decide,by decide,λe H3 he0 Gf oW hB3=>?_⟩;left;have hDr:∀{D:Addr},H3 D=none->r≠D:=λhD=>aN (hB3 _ _ pr hr') hD;refine⟨zlo he0,zhi Gf (by decide),λD hD=>cmR (λj σ H4=>∃v ys,σ=[v,some (.str (Str.ofString "abcdefghijklmnopqrstuvwxyz")),some (.ref p)]/\H4 D=some (.lst (ys.map V.str))/\H4 r=some (.lst (ws.map V.str))/\ys.length=j/\(∀y∈ys,∃n,n<26/\y=(⟨#[97+n]⟩:Str))/\jL H4 p/\But p H H4) ⟨_,[],rfl,ak,bW (hB3 _ _ pr hr') hD,rfl,by simp,oW.upd (oW.ne hD),(hB.trans hB3).same (aq hD)⟩ ?_ ?_⟩
   ·rintro j σ H4 hj ⟨v,ys,rfl,tY,W_,hyl,hys,Gg,R9⟩;have hDp:D≠p:=(oW.ne hD).symm;left;refine⟨p,_,rfl,Gg,by decide,by decide,λf H5 hf0 hf1 Bl Pn=>?_⟩;obtain⟨n,rfl,qkQ,hnl⟩:=uq hf0 hf1;simp -dsimp[au,stC,-Bool.exists_bool,-List.map_take,-Prod.forall,-Prod.exists,Ao,hnl];have s20:=qnC yj;refine⟨_,Pn _ _ hDp tY,by rw[ql9];exact zn4 hj Gf hyl,ys++[⟨#[97+n]⟩],by rw[ak];simp,by rw[aD (hDr hD)];exact Pn _ _ pr W_,by simp[hyl],λy hy=>?_,Bl.upd hDp.symm,(R9.trans Pn).new (jL.none (hB.trans hB3) oW hD)⟩
    rcases qmm.mp hy with hy|hy
    ·exact hys y hy
    ·exact⟨n,qkQ,by simpa using hy⟩
   ·rintro σ H4 ⟨v,ys,rfl,tY,W_,hyl,hys,Gg,R9⟩;have hy3:=uz ys hys;left;have hw4:=(rD.one qkP).glue (by decide) hys;have s20:=qnC yj;refine⟨ys,tY,by rw[hy3.2.2];exact zn5 hyl Gf,?_⟩;simp -dsimp[au,stC,-Bool.exists_bool,-List.map_take,-Prod.forall,-Prod.exists,Ao,hcl];have hlen:(⟨#[97+c]⟩:Str).length+(Txt.join (Str.ofString "") ys).length=1+ys.length:=by
     rw[<- hw4.len];exact(qnt).symm
    refine⟨⟨_,aW.of W_⟩,by rw[hlen];exact qkF (zn6 hyl Gf) (by decide),_,W_,by rw[ql9,hl];exact zsz hi (qme h9 (by decide)),ws++[_],by rw[ak];simp;rfl,by simp[hl],λj y e=>?_,Gg.upd pr.symm,R9.new (jL.none hB2 hP2 hr0)⟩
    by_cases hj:j<ws.length
    ·rw[qms hj] at e;exact hw j y e
    ·rw[qmu (Nat.not_lt.mp hj)] at e;cases hk:j - ws.length with
     |zero=>
      rw[hk] at e;simp at e;subst e;have ej:j=i:=(zn8 hj hk).trans hl;subst ej;exact⟨1+ys.length,Nat.le_add_right 1 _,zn6 hyl Gf,by rw[<- hc'];exact hw4⟩
     |succ k=>
      rw[hk] at e;simp at e
  ·rintro σ H' ⟨v8,v9,v10,ws,rfl,hr',hl,hw,hP,hB⟩;left;have nd:ws.Nodup:=by
    unfold List.Nodup;rw[List.pairwise_iff_getElem];intro i j hi hj hij e;obtain⟨k1,_,_,w1⟩:=hw i _ (by simp[hi]:ws[i]? = some ws[i]);obtain⟨k2,_,_,w2⟩:=hw j _ (by simp[hj]:ws[j]? = some ws[j]);have z:=w1.fst;rw[e,w2.fst] at z;simp at z;exact zn7 hi hj hij (by rw[hl];exact h9) z
   refine q r ws H' (jL.none hB2 hP2 hr0) hr' ⟨⟨by rw[hl];exact h1,by rw[hl];exact h9⟩,λx hx=>?_,nd⟩ hl hP hB;obtain⟨j,hj,e⟩:=qos.mp hx;obtain⟨k,k1,k4,w⟩:=hw j x (by simp[hj,e]);exact w.name k1 k4
theorem bF.perm{H:Hp}{vs ys:List V}{ps:QAD}(h:bF H vs ps)(hp:ys.Perm vs):∃qs:QAD,bF H ys qs/\qs.Perm ps:=by
 have e1:vs=(vs.zip ps).map (·.1):=by rw[List.map_fst_zip (by rw[h.1];exact ql7 _)]
 have e2:ps=(vs.zip ps).map (·.2):=by rw[List.map_snd_zip (by rw[h.1];exact ql7 _)]
 obtain⟨l',pl,e⟩:=yp hp _ e1;refine⟨l'.map (·.2),⟨by rw[e];simp,λi v d h1 h2=>?_⟩,by rw[e2];exact pl.map _⟩;rw[e,qmw] at h1;rw[qmw] at h2;cases hz:l'[i]? with
 |none=>rw[hz] at h1;cases h1
 |some z=>
  rw[hz] at h1 h2;cases h1;cases h2;have hm:z∈vs.zip ps:=pl.mem_iff.mp (ql_ hz);obtain⟨j,hj,ez⟩:=qos.mp hm;have hj':j<vs.length/\j<ps.length:=by
   simp at hj;omega
  simp at ez;subst ez;exact h.2 j _ _ (by simp[hj'.1]) (by simp[hj'.2])
theorem bF.at{H:Hp}{vs:List V}{ps:QAD}(h:bF H vs ps){i:Nat}{v:V}(hv:vs[i]? = some v):∃e,ps[i]? = some e/\∃t,v = .ref t/\H t=some (.tup [.str e.1,.str e.2]):=by
 have hi:i<ps.length:=by rw[<- h.1];exact(ql2.mp hv).1
 exact⟨ps[i],by simp[hi],h.2 i v _ hv (by simp[hi])⟩
theorem bF.but{p:Addr}{H H':Hp}{vs:List V}{ps:QAD}(h:bF H vs ps)(hp:jL H p)(b:But p H H'):bF H' vs ps:=h.keep λc xs e=>b c _ (λz=>by
 subst z;obtain⟨_,_,u,_⟩:=hp;rw[e] at u;cases u) e
theorem bF.same{H H':Hp}{vs:List V}{ps:QAD}(h:bF H vs ps)(b:Same H H'):bF H' vs ps:=h.keep λc xs e=>b c _ e
theorem jL.nl{p q:Addr}{H:Hp}(x:jL H p)(h:H q = .none):q≠p:=λz=>(x.ne h) z.symm
def qfz:Sp:=λvs H Q _=>∃(p:Addr)(m k:Nat),vs=[.ref p,.int m,.int k]/\jL H p/\1<=m/\m<=9/\m<=k/\k<=20/\∀(t n l:Addr)(xs:QAH)(tv:List V)(ps:QAD)(H':Hp),
 H t=none->H n=none->H l=none->H' t=some (.tup [.ref n,.ref l])->H' n=some (.lst (xs.map V.str))->H' l=some (.lst tv)->bF H' tv ps->Qt xs->uU xs ps->xs.length<=m->ps.length<=k->jL H' p->But p H H'->Q (.ref t) H'
theorem qfA(T:Txt K mg a):bV P w K mg base i_ 3 a.Az a.KY ["_law_pot_here", "_law_points", "_law_most"] qfz:=by
 exists T.qaP.qL,rZ
 ·obtain⟨p,m,k,rfl,_⟩:=h;rfl
 ·obtain⟨p,m,k,rfl,hp,h1,h9,hmk,hk,q⟩:=h;refine⟨_,(aC (bG (i:=3) rZ.nd rfl (Or.inl rfl) (PE.eqv (aO (qaX T) hr.d rfl T.Vd T.K4.kp T.Vc .nil bA (aj (aL 0) (aj (cB jo aG (PE.eqv (aO (fP T) hr.d rfl T.iJ T.gR.kp T.iI .nil bA (aj (aL 0) (aj (aL 1) ao))) (aJ _ _ _))) ao))) (aJ _ _ _)))
   (aC (bG (i:=4) rZ.nd rfl (Or.inl rfl) (PE.eqv (aO (fP T) hr.d rfl T.iJ T.gR.kp T.iI .nil bA (aj (aL 0) (aj aG ao))) (aJ _ _ _)))
   (aC (bG (i:=5) rZ.nd rfl (Or.inl rfl) (cI ao))
   (aC (cP (aU uD (aK (bY (K:=K) rfl) rfl T.nm.len qmi (aj (aL 3) ao)) aG (bO _)) (aC (bG (i:=6) rZ.nd rfl (Or.inr rfl) (PE.eqv (aO (Pk T) hr.d rfl T.K6 T.Cj.kp T.K5 .nil bA (aj (aL 0) (aj (aL 3) ao))) (aJ _ _ _)))
   (aC (cP (aU uD (aL 4) aG (bO _)) (aF (jr (i:=5) rZ.nd rfl rfl rfl rfl (show aY (aB Ii) _ ["_law_pot_here", "_law_points", "_law_most", "_law_names_here", "_law_kind", "_law_ties", "_law_row", "_law_k", "_law_turns"] ["_law_k"] [6] ["_law_k", "_law_row"] from by rfl') rfl (PI.eqv (Vx rfl T.nm.range (aj (fQ Rn rfl T.nm.int Hj (aj (lJ mU (aL 4) aG (bO _)) ao)) (aj (aK (bY (K:=K) rfl) rfl T.nm.len qmi (aj (aL 6) ao)) ao))) (Wx _)) (λC s H fp pn=>(aR (i:=0) (show(["_law_k", "_law_row"]:QAH).Nodup by symm) rfl (Or.inl rfl))) (λC s H fp pn=>eV) (λC s H fp pn=>(gb (aj (bR (cj (K:=K) rfl) (aL 1) (cB yI (aL 0) aG) (λ_ _=>rfl)) (aj (bR (cj (K:=K) rfl) (aL 1) (aL 0) (λ_ _=>rfl)) ao)))))) bC)
   (aF (kO qmZ rfl (PI.eqv (qO rfl T.nm.range (aj (PE.eqv (aO (fP T) hr.d rfl T.iJ T.gR.kp T.iI .nil bA (aj (aL 0) (aj (cB jo (cB yI (aL 2) (aK (bY (K:=K) rfl) rfl T.nm.len qmi (aj (aL 5) ao))) aG) ao))) (aJ _ _ _)) ao)) (qU _)) (aR (i:=7) rZ.nd rfl (Or.inl rfl))
   (aF (eU (kY (K:=K) rfl qmI qmT qmU gk (aL 5) (aj (PE.eqv (aO (qfy T) hr.d rfl T.qdM T.qaO.kp T.qdL .nil bA (aj (aL 0) (aj (aL 3) ao))) (aJ _ _ _)) ao)))))))) bC)
   (aC (jr (i:=8) rZ.nd rfl rfl rfl rfl (show aY (aB Ii) _ ["_law_pot_here", "_law_points", "_law_most", "_law_names_here", "_law_kind", "_law_ties", "_law_row", "_law_k", "_law_turns"] ["_law_tie_here"] [0] ["_law_tie_here", "_law_pot_here"] from by rfl') rfl (PI.eqv (cJ (K:=K) rfl (aL 5)) (bT _ _)) (λC s H fp pn=>(aR (i:=0) (show(["_law_tie_here", "_law_pot_here"]:QAH).Nodup by symm) rfl (Or.inl rfl))) (λC s H fp pn=>eV) (λC s H fp pn=>(PE.eqv (aO (fP T) hr.d rfl T.iJ T.gR.kp T.iI .nil bA (aj (aL 1) (aj aG ao))) (aJ _ _ _))))
   (aC (jr (i:=5) rZ.nd rfl rfl rfl rfl (show aY (aB Ii) _ ["_law_pot_here", "_law_points", "_law_most", "_law_names_here", "_law_kind", "_law_ties", "_law_row", "_law_k", "_law_turns"] ["_law_turn", "_law_a", "_law_b"] [] ["_law_turn", "_law_a", "_law_b"] from by rfl') rfl (PI.eqv (Uo (K:=K) rfl rfl T.nm.zip (aj (aL 5) (aj (aL 8) ao))) (NQ _ _)) (λC s H fp pn=>(PG.eqv (gV (K:=K) (n:=2) rfl rfl (lH.eqv (bJ (PG.eqv (gV (K:=K) (n:=2) rfl rfl (lH.eqv (bJ (aR (i:=1) (show(["_law_turn", "_law_a", "_law_b"]:QAH).Nodup by symm) rfl (Or.inl rfl)) (lH.eqv (bJ (aR (i:=2) (show(["_law_turn", "_law_a", "_law_b"]:QAH).Nodup by symm) rfl (Or.inl rfl)) (lH.mono gU jU)) (bL _ _))) (bL _ _))) (gW _ _ _)) (lH.eqv (bJ (aR (i:=0) (show(["_law_turn", "_law_a", "_law_b"]:QAH).Nodup by symm) rfl (Or.inl rfl)) (lH.mono gU jU)) (bL _ _))) (bL _ _))) (gW _ _ _))) (λC s H fp pn=>eV) (λC s H fp pn=>(bR (cj (K:=K) rfl) (cI (aj (gb (aj (aL 1) (aj (aL 2) ao))) (aj (gb (aj (aL 2) (aj (aL 1) ao))) ao))) (aL 0) (λ_ _=>rfl))))
   (aF (aZ (gb (aj (aL 3) (aj (PE.eqv (aO (Pk T) hr.d rfl T.K6 T.Cj.kp T.K5 .nil bA (aj (aL 0) (aj (aL 5) ao))) (aJ _ _ _)) ao))))))))))),?_⟩
  left;refine⟨p,_,rfl,hp,qkC h1,zlt h9 (by decide),λd H1 hd0 hd1 hP1 Yi=>?_⟩;left;refine⟨p,d.toNat+1,?_,hP1,Nat.le_add_left 1 _,ztn hd0 hd1 h9,λn xs H2 hn hn2 hX hxl hP2 hB2'=>?_⟩
  ·simp;exact qkE hd0 1
  have hxm:xs.length<=m:=by rw[hxl];exact ztn hd0 hd1 (ql7 m)
  have hx9:=qme hxm h9;have hB2:=Yi.trans hB2';left;refine⟨p,_,rfl,hP2,by decide,by decide,λkd H3 hk0 hk1 oW qhs=>?_⟩;have hB3:=hB2.trans qhs;have np:n≠p:=λz=>by subst z;obtain⟨_,_,u,_⟩:=hP1;rw[hn] at u;cases u
  have Gx:=qhs _ _ np hn2;left;refine λL hL=>⟨_,.inl (aW.of (bW Gx hL)),Dc (λσ H4=>∃v6 v7 L tv ps,σ=[some (.ref p),some (.int m),some (.int k),some (.ref n),some (.int kd),some (.ref L),v6,v7,none]/\H L=none/\H4 L=some (.lst tv)/\bF H4 tv ps/\uU xs ps/\ps.length<=k/\H4 n=some (.lst (xs.map V.str))/\jL H4 p/\But p H H4) ?_ ?_⟩
  ·rintro σ H4 ⟨v6,v7,L,tv,ps,rfl,hL0,I_,htv,hts,hpk,hn4,Gg,R9⟩;left;have Lp:L≠p:=hp.nl hL0;have R_:tv.length<=20:=by rw[htv.1];exact qme hpk hk
   have s20:=qnC yj;refine⟨⟨_,aW.of I_⟩,λD hD=>Wh tv (λi σ H'=>∃v ds,σ=[v,some (.ref p)]/\H' D=some (.lst (ds.map V.int))/\ds.length=i/\(∀d∈ds,0<=d/\d<2)/\H' L=some (.lst tv)/\bF H' tv ps/\H' n=some (.lst (xs.map V.str))/\jL H' p/\But p H H') ⟨none,[],rfl,ak,rfl,by simp,bW I_ hD,htv.same (aq hD),bW hn4 hD,Gg.upd (Gg.ne hD),R9.same (aq hD)⟩ (λi σ H' _ h=>by
    obtain⟨_,_,_,_,_,_,z,_⟩:=h;exact aW.of z) ?_ ?_⟩
   ·rintro i x σ H5 hi ⟨v,ds,rfl,Bt,hl,hds,hL5,qfB,WY,Bl,Pn⟩;have hi2:i<tv.length:=(ql2.mp hi).1;left;refine⟨p,_,rfl,Bl,by decide,by decide,λd H6 hd0 hd1 Sd Pq=>?_⟩;have Dp:D≠p:=Gg.nl hD;have LD:L≠D:=aN I_ hD;have nD:n≠D:=aN hn4 hD;have hD6:=Pq _ _ Dp Bt;left;refine⟨_,hD6,by rw[ql9,hl];exact zsz hi2 R_,ds++[d],by rw[ak];simp,by simp[hl],?_,by rw[aD LD];exact Pq _ _ Lp hL5,(qfB.but Bl Pq).keep (λc zs e=>BK e hD6 (by intro z;cases z)),by rw[aD nD];exact Pq _ _ np WY,Sd.upd (Dp.symm),(Pn.trans Pq).new (jL.none R9 Gg hD)⟩;intro z hz
    rcases qmm.mp hz with y|y
    ·exact hds z y
    ·simp at y;subst y;exact⟨hd0,hd1⟩
   ·rintro σ H5 ⟨v,ds,rfl,Bt,hl,hds,hL5,qfB,WY,Bl,Pn⟩;left;have hD0:=jL.none R9 Gg hD;have LD:L≠D:=aN I_ hD;refine⟨⟨_,aW.of hL5⟩,⟨_,aW.of Bt⟩,λD2 hD2=>cmZ tv (ds.map V.int) (λi σ H'=>(∃o1 o2 o3,σ=[o1,o2,o3])/\∃tvs qs,H' D2=some (.lst tvs)/\bF H' tvs qs/\qs.length=i/\(∀e∈qs,e.1∈xs/\e.2∈xs/\e.1≠e.2)/\H' L=some (.lst tv)/\H' D=some (.lst (ds.map V.int))/\bF H' tv ps/\H' n=some (.lst (xs.map V.str))/\jL H' p/\But p H H') ⟨⟨_,_,_,rfl⟩,[],[],ak,⟨rfl,by simp⟩,rfl,by simp,bW hL5 hD2,bW Bt hD2,qfB.same (aq hD2),bW WY hD2,Bl.upd (Bl.ne hD2),Pn.same (aq hD2)⟩ (by simp[hl]) (λi σ H' _ h=>by
     obtain⟨_,_,_,_,_,_,_,z1,z2,_⟩:=h;exact⟨aW.of z1,aW.of z2⟩) ?_ ?_⟩
    ·rintro i x y t σ H6 hx hy ht ⟨⟨o1,o2,o3,rfl⟩,tvs,qs,qfC,GP,hql,hqs,hL6,hD6,qfD,hn6,Sd,Pq⟩;left;obtain⟨e,he,tt,rfl,htt⟩:=qfD.at hx;have hi2:i<tv.length:=(ql2.mp hx).1;have hem:=ql_ he;rw[qmw] at hy;obtain⟨d,hd,rfl⟩:∃d,ds[i]? = some d/\y = .int d:=by
      cases z:ds[i]? with
      |none=>rw[z] at hy;cases hy
      |some d=>rw[z] at hy;exact⟨d,rfl,(qmB hy).symm⟩
     have hd2:=hds d (ql_ hd);refine⟨_,eG.of ak,rfl,_,eG.of (bW htt ht),rfl,?_⟩;left;refine λp1 h1 p2 h2 p3 h3=>⟨_,.inl (aW.of ak),?_⟩;have hp1:=bW (u:=HO.lst [V.ref p1,V.ref p2]) (bW (u:=HO.tup [.str e.2,.str e.1]) (ak (H:=upd H6 t (HO.tup [V.ref tt,V.int d])) (a:=p1) (o:=HO.tup [.str e.1,.str e.2])) h2) h3;have hp2:=bW (u:=HO.lst [V.ref p1,V.ref p2]) (ak (H:=upd (upd H6 t (HO.tup [V.ref tt,V.int d])) p1 (HO.tup [.str e.1,.str e.2])) (a:=p2) (o:=HO.tup [.str e.2,.str e.1])) h3;have sm:=(((aq (o:=HO.tup [V.ref tt,V.int d]) ht).trans (aq (o:=HO.tup [.str e.1,.str e.2]) h1)).trans (aq (o:=HO.tup [.str e.2,.str e.1]) h2)).trans (aq (o:=HO.lst [V.ref p1,V.ref p2]) h3);generalize upd (upd (upd (upd H6 t (HO.tup [V.ref tt,V.int d])) p1 (HO.tup [.str e.1,.str e.2])) p2 (HO.tup [.str e.2,.str e.1])) p3 (HO.lst [V.ref p1,V.ref p2])=H9 at hp1 hp2 sm⊢;have key:∃(pp:Addr)(e':Str×Str),Gi [V.ref p1,V.ref p2] d=some (.ref pp)/\H9 pp=some (.tup [.str e'.1,.str e'.2])/\e'.1∈xs/\e'.2∈xs/\e'.1≠e'.2:=by
      have ⟨q1,q2,q3⟩:=hts.ok e hem;have:d=0\/d=1:=z01 hd2.1 hd2.2
      rcases this with rfl|rfl
      ·exact⟨p1,e,rfl,hp1,q1,q2,q3⟩
      ·exact⟨p2,(e.2,e.1),rfl,hp2,q2,q1,qnF q3⟩
     obtain⟨pp,e',a1,hpp,k1,k2,k3⟩:=key;have D2n:=hD2;have D2p:D2≠p:=Bl.nl hD2;have LD2:L≠D2:=aN hL5 hD2;have DD2:D≠D2:=aN Bt hD2;have nD2:n≠D2:=aN WY hD2;have qht:=sm _ _ qfC;have kp:cX H9 (upd H9 D2 (.lst (tvs++[.ref pp]))):=λc zs e=>BK e qht (by intro z;cases z);have hP9:jL H9 p:=by
      obtain⟨u1,u2,u3,u4⟩:=Sd;exact⟨u1,u2,sm _ _ u3,u4⟩
     refine⟨_,a1,_,qht,?_,_,ak,qs++[e'],((GP.same sm).keep kp).snoc (kp _ _ hpp),by simp[hql],?_,by rw[aD LD2];exact sm _ _ hL6,by rw[aD DD2];exact sm _ _ hD6,(qfD.same sm).keep kp,by rw[aD nD2];exact sm _ _ hn6,hP9.upd D2p.symm,(Pq.same sm).new (jL.none Pn Bl hD2)⟩
     ·rw[GP.1,hql];exact zsz hi2 R_
     ·intro z hz
      rcases qmm.mp hz with y|y
      ·exact hqs z y
      ·simp at y;subst y;exact⟨k1,k2,k3⟩
    ·rintro σ H6 ⟨⟨o1,o2,o3,rfl⟩,tvs,qs,qfC,GP,hql,hqs,hL6,hD6,qfD,hn6,Sd,Pq⟩;left;have D2p:D2≠p:=Bl.nl hD2;have qlW:=jL.none Pn Bl hD2;have tl:tvs.length=tv.length:=by rw[GP.1,hql]
     refine⟨p,D2,_,rfl,Sd,D2p,qfC,by rw[tl];exact qme R_ (by decide),λl ys H7 hl0 hl7 hperm Sg hB7=>?_⟩;left;intro t ht;obtain⟨rs,hrs,hrp⟩:=(GP.but Sd hB7).perm hperm;refine q t n l xs ys rs _ (jL.none (Pq.trans hB7) Sg ht) (jL.none Yi hP1 hn) (jL.none Pq Sd hl0) ak (bW (hB7 _ _ np hn6) ht) (bW hl7 ht) (hrs.same (aq ht)) hX ⟨?_,λe he=>hqs e (hrp.mem_iff.mp he)⟩ hxm ?_ (Sg.upd (Sg.ne ht)) ((Pq.trans hB7).same (aq ht))
     ·rw[hrp.length_eq,hql];exact R_
     ·rw[hrp.length_eq,hql,htv.1];exact hpk
  ·intro N hN;refine eX.of (λh=>?_) (λh=>?_)
   ·left;have hx2:2<=xs.length:=by simp at h;exact z2 h
    have qhu:upd H3 L (.lst []) n=some (.lst (xs.map V.str)):=bW Gx hL;refine⟨p,n,_,rfl,oW.upd (oW.ne hL),np,qhu,by rw[ql9];exact qme hx9 (by decide),λrw ys H4 hrw qhv hperm Gg qfE=>?_⟩;have R9:=(hB3.same (aq hL)).trans qfE;obtain⟨zs,hzp,rfl⟩:=yp hperm xs rfl;have hzl:zs.length=xs.length:=hzp.length_eq;have qhw:zs.Nodup:=hzp.nodup_iff.mpr hX.nd;have hn4:=qfE _ _ np qhu;have I_:H4 L=some (.lst []):=qfE _ _ (oW.nl hL) ak;have hL0:=jL.none hB3 oW hL;left;refine Dc (λσ H5=>∃v6 v7 L tv ps,σ=[some (.ref p),some (.int m),some (.int k),some (.ref n),some (.int kd),some (.ref L),v6,v7,none]/\H L=none/\H5 L=some (.lst tv)/\bF H5 tv ps/\uU xs ps/\ps.length<=m/\H5 n=some (.lst (xs.map V.str))/\jL H5 p/\But p H H5) ?_ ?_
    ·rintro σ H5 ⟨v6,v7,L,tv,ps,rfl,hL0,hL5,htv,hts,hpm,WY,Bl,Pn⟩;left;have Lp:L≠p:=hp.nl hL0;have R_:tv.length=ps.length:=htv.1;have s20:=qnC yj;have htk:tv.length<=k:=by rw[R_];exact qme hpm hmk
     refine⟨_,.inl (aW.of hL5),p,_,rfl,Bl,zk1 htk,zk2 hk (by decide),λf H6 hf0 hf1 Sd qcR=>?_⟩;left;refine⟨zlo hf0,Int.lt_trans hf1 (zk2 hk (by decide)),frR (λi σ H7=>∃v7 tv ps,σ=[some (.ref p),some (.int m),some (.int k),some (.ref n),some (.int kd),some (.ref L),v6,v7,none]/\H7 L=some (.lst tv)/\bF H7 tv ps/\uU xs ps/\ps.length+f.toNat<=k+i/\H7 n=some (.lst (xs.map V.str))/\jL H7 p/\But p H H7) ⟨v7,tv,ps,rfl,qcR _ _ Lp hL5,htv.but Bl qcR,hts,zk3 hf0 hf1 R_,qcR _ _ np WY,Sd,Pn.trans qcR⟩ ?_ ?_⟩
     ·rintro i σ H7 hi ⟨v7,tv,ps,rfl,Yj,Pr,qfF,hpl,Ol,Sg,hB7⟩;left;refine⟨⟨_,aW.of Yj⟩,p,n,xs,rfl,Sg,np,Ol,hx2,hx9,hX.nd,λt x y H8 ht ht8 hx hy hxy hP8 hB8=>?_⟩;left;have hL8:=hB8 _ _ Lp Yj;have hl7:=Pr.1;have kp:cX H8 (upd H8 L (.lst (tv++[.ref t]))):=λc zs e=>BK e hL8 (by intro z;cases z);have nL:n≠L:=λz=>by subst z;rw[jL.none Yi hP1 hn] at hL0;rw[Ol] at Yj;cases tv with
       |nil=>simp at Yj;rw[Yj] at hx2;simp at hx2
       |cons v tv=>
        obtain⟨e,_,u,rfl,_⟩:=Pr.at (i:=0) rfl;cases xs with
        |nil=>simp at hx2
        |cons x xs=>simp at Yj
      refine⟨_,hL8,zk4 hl7 hpl hi hk,_,ak,ps++[(x,y)],((Pr.but Sg hB8).keep kp).snoc (kp _ _ ht8),⟨by rw[qmD];exact Nat.succ_le_succ (zk5 hpl hi hk),?_⟩,by rw[qmD];exact zk6 hpl,by rw[aD nL];exact hB8 _ _ np Ol,hP8.upd Lp.symm,(hB7.trans hB8).new hL0⟩;intro e he
      rcases qmm.mp he with z|z
      ·exact qfF.ok e z
      ·simp at z;subst z;exact⟨hx,hy,hxy⟩
     ·rintro σ H7 ⟨v7,tv,ps,rfl,Yj,Pr,qfF,hpl,Ol,Sg,hB7⟩;left;exact hN _ _ ⟨_,_,L,tv,ps,rfl,hL0,Yj,Pr,qfF,zk7 hpl,Ol,Sg,hB7⟩
    ·intro N2 hN2;refine eX.of (λh=>?_) (λh=>?_)
     ·left;obtain⟨lo,hlo,lo1⟩:∃lo:Nat,(if kd=3 then (1:Int) else 0)=lo/\lo<=1:=by
       split
       ·exact⟨1,rfl,ql7 _⟩
       ·exact⟨0,rfl,by decide⟩
      simp only[hlo];have s20:=qnC yj;refine⟨_,.inl (aW.of qhv),⟨qkD,zlt lo1 (by decide),zlt (by rw[ql9,hzl];exact hx9) (by decide)⟩,λD hD=>cmR (λi σ H5=>(∃o,σ=[o,some (.ref rw)])/\∃tvs qs,H5 D=some (.lst tvs)/\bF H5 tvs qs/\qs.length=i/\(∀e∈qs,e.1∈xs/\e.2∈xs/\e.1≠e.2)/\Same H4 H5) ⟨⟨_,rfl⟩,[],[],ak,⟨rfl,by simp⟩,rfl,by simp,aq hD⟩ ?_ ?_⟩
      ·rintro i σ H5 hi ⟨⟨o,rfl⟩,tvs,qs,Bt,GP,hql,hqs,sm⟩;have hk:lo+i<zs.length:=by simp at hi;exact qkG hi
       obtain⟨j,vx,hj,ex,ax⟩:=Zo (xs:=zs.map V.str) (k:=lo+i) (by rw[ql9,hzl];exact hx2) (by simpa using hk);obtain⟨x,ex',rfl⟩:=um ex;have ey':zs[lo+i]? = some (zs[lo+i]'hk):=by simp[hk]
       have ay:Gi (zs.map V.str) ((lo+i:Nat):Int)=some (.str (zs[lo+i]'hk)):=bD (by rw[qmw,ey'];rfl);have c1:((lo+i:Nat):Int)=(lo:Int)+i:=Int.natCast_add ..;rw[c1] at ax ay;have sl:=aW.of (K:=K) (sm _ _ qhv);left;refine⟨_,.inl sl,_,ax,_,.inl sl,_,ay,λpt hpt=>?_⟩;have Dpt:=aN Bt hpt;have hD6:upd H5 pt (.tup [.str x,.str (zs[lo+i]'hk)]) D=some (.lst tvs):=bW Bt hpt;have kp:cX (upd H5 pt (.tup [.str x,.str (zs[lo+i]'hk)])) (upd (upd H5 pt (.tup [.str x,.str (zs[lo+i]'hk)])) D (.lst (tvs++[.ref pt]))):=λc zs e=>BK e hD6 (by intro z;cases z);have hl:=GP.1;refine⟨_,hD6,by rw[hl,hql];exact zsz (Nat.lt_of_le_of_lt (Nat.le_add_left i lo) hk) (by rw[hzl];exact qme hx9 (by decide)),_,ak,qs++[(x,zs[lo+i]'hk)],((GP.same (aq hpt)).keep kp).snoc (kp _ _ ak),by simp[hql],?_,bx (sm.trans (aq hpt)) hD⟩;intro e he
       rcases qmm.mp he with z|z
       ·exact hqs e z
       ·simp at z;subst z;refine⟨hzp.mem_iff.mp (ql_ ex'),hzp.mem_iff.mp (ql_ ey'),λz=>hj ?_⟩;simp only at z;rw[<- z] at ey';exact uo qhw ex' ey'
      ·rintro σ H5 ⟨⟨o,rfl⟩,tvs,qs,Bt,GP,hql,hqs,sm⟩;left;simp at hql;have hqm:qs.length<=m:=by rw[hql,hzl];exact qme (Nat.sub_le ..) hxm
       have Bl:jL H5 p:=by
        obtain⟨u1,u2,u3,u4⟩:=Gg;exact⟨u1,u2,sm _ _ u3,u4⟩
       exact hN2 _ _ ⟨_,_,D,tvs,qs,rfl,jL.none R9 Gg hD,Bt,GP,⟨qme hqm (qme h9 (by decide)),hqs⟩,hqm,sm _ _ hn4,Bl,R9.same sm⟩
     ·left;exact hN2 _ _ ⟨_,_,L,[],[],rfl,hL0,I_,⟨rfl,by simp⟩,⟨by simp,by simp⟩,by simp,hn4,Gg,R9⟩
   ·left;exact hN _ _ ⟨_,_,L,[],[],rfl,jL.none hB3 oW hL,ak,⟨rfl,by simp⟩,⟨by simp,by simp⟩,by simp,bW Gx hL,oW.upd (oW.ne hL),hB3.same (aq hL)⟩
theorem qhx{m:Str}{u v:V} (h1:¬m = "names") (h2:¬m = "pairs"):∀p∈([("names",u),("pairs",v)]:List (Str×V)),¬m=p.1:=λp hp=>by
 simp at hp
 rcases hp with rfl|rfl
 ·exact h1
 ·exact h2
theorem iZ.same{C:Addr}{H H':Hp}{o:Addr}{xs:QAH}{ps:QAD}(h:iZ C H o xs ps)(s:Same H H'):iZ C H' o xs ps:=by
 obtain⟨dx,n,m,tv,h1,h2,h3,h4,h5⟩:=h.ex;exact⟨⟨dx,n,m,tv,s _ _ h1,s _ _ h2,s _ _ h3,bF.same h4 s,h5⟩⟩
theorem iZ.ins{C:Addr}{H:Hp}{o:Addr}{xs:QAH}{ps:QAD}(h:iZ C H o xs ps){m:Str} (h1:¬m = "names") (h2:¬m = "pairs"):∃dx fs,H o=some (.ins C dx fs)/\∀p∈fs,¬m=p.1:=by
 obtain⟨dx,n,mm,tv,e,_⟩:=h.ex;exact⟨dx,_,e,qhx h1 h2⟩
theorem vJ:¬(("ties" : Str) = "names")/\¬(("ties" : Str) = "pairs"):=by symm
theorem gQ:¬(("points" : Str) = "names")/\¬(("points" : Str) = "pairs"):=by symm
theorem Cp:¬(("many" : Str) = "names")/\¬(("many" : Str) = "pairs"):=by symm
def Fd(C:Addr):Sp:=λvs H Q _=>∃o d xs ps fx,vs=[.ref o,.ref d]/\iZ C H o xs ps/\qdn H d fx/\∀l tv H',H l=none->H' l=some (.lst tv)->cW H' tv (aH fx ps 0)->tv.length<=40->Same H H'->Q (.ref l) H'
theorem oN(T:Txt K mg a):bV P w K mg base i_ 2 a.dN a.jY ["web", "fixed"] (Fd a.b_):=by
 exists T.jl.qL,iu
 ·obtain⟨o,d,xs,ps,fx,rfl,_⟩:=h;rfl
 ·obtain⟨o,d,xs,ps,fx,rfl,hw,hfx,q⟩:=h;refine⟨_,(aC (bG (i:=2) iu.nd rfl (Or.inl rfl) (cI ao))
   (aC (kO qmZ rfl (PI.eqv (JL (K:=K) rfl rfl T.W6.enumerate (aj (PE.eqv (jd (aL 0) T.m5 T.sU (uV T) hr.d T.sI .nil bA) (jg _ _ _ _ _ _)) ao)) (zL _ _)) (PG.eqv (gV (K:=K) (n:=2) rfl rfl (lH.eqv (bJ (aR (i:=3) iu.nd rfl (Or.inl rfl)) (lH.eqv (bJ (PG.eqv (gV (K:=K) (n:=2) rfl rfl (lH.eqv (bJ (aR (i:=4) iu.nd rfl (Or.inl rfl)) (lH.eqv (bJ (aR (i:=5) iu.nd rfl (Or.inl rfl)) (lH.mono gU jU)) (bL _ _))) (bL _ _))) (gW _ _ _)) (lH.mono gU jU)) (bL _ _))) (bL _ _))) (gW _ _ _))
   (aC (cP (aU mU (PE.eqv (M7 (Hi hr) (aL 1) (aL 3) aG ⟨rfl,rfl,rfl,rfl⟩) (HB _ _ _)) aG (bO _)) (aF (eU (kY (K:=K) rfl qmI qmT qmU gk (aL 2) (aj (gb (aj (aL 3) (aj (aL 4) (aj (aL 5) ao)))) ao)))) bC)
   (aF (cP (aU mU (PE.eqv (M7 (Hi hr) (aL 1) (aL 3) aG ⟨rfl,rfl,rfl,rfl⟩) (HB _ _ _)) aG (bO _)) (aF (eU (kY (K:=K) rfl qmI qmT qmU gk (aL 2) (aj (gb (aj (aL 3) (aj (aL 5) (aj (aL 4) ao)))) ao)))) bC))))
   (aF (aZ (aL 2))))),?_⟩
  obtain⟨dx,fs,hi,hno⟩:=hw.ins vJ.1 vJ.2;obtain⟨_,_,_,_,_,_,_,_,z6⟩:=hw.ex;left;intro L hL;refine⟨_,_,bW hi hL,hno,o,xs,ps,rfl,hw.same (aq hL),λl2 wB hl2 qaY=>?_⟩;have sa:Same H (upd (upd H L (.lst [])) l2 (.lst wB)):=(aq hL).trans (aq hl2);have eL:upd (upd H L (.lst [])) l2 (.lst wB) L=some (.lst []):=bW ak hl2;have e2:upd (upd H L (.lst [])) l2 (.lst wB) l2=some (.lst wB):=ak;have z7:=bF.same qaY (aq (o:=HO.lst wB) hl2);have L2n:L≠l2:=λz=>by subst z;rw[ak] at hl2;cases hl2
  generalize upd (upd H L (.lst [])) l2 (.lst wB)=H1 at sa eL e2 z7⊢;obtain⟨kvs,hd,hv⟩:=hfx;have dL:d≠L:=aN hd hL;left;refine⟨⟨_,aW.of e2⟩,frE wB (λi σ H'=>(∃v3 v4 v5 sv,σ=[some (.ref o),some (.ref d),some (.ref L),v3,v4,v5]/\H' L=some (.lst sv)/\cW H' sv (aH fx (ps.take i) 0)/\sv.length<=2 * i)/\H' l2=some (.lst wB)/\bF H' wB ps/\Same H H') ⟨⟨_,_,_,[],rfl,eL,bH.nil,by simp⟩,e2,z7,sa⟩ (λi σ H' _ h=>aW.of h.2.1) ?_ ?_⟩
  ·rintro i x t σ H2 hi ht ⟨⟨v3,v4,v5,sv,rfl,hL2,hsv,hsl⟩,qhy,htv,s2⟩;have hi2:i<wB.length:=(ql2.mp hi).1;have tl:=htv.1;obtain⟨e,he,tt,rfl,htt⟩:=htv.at hi;rw[rE fx he];unfold jQ;left;have st:Same H2 (upd H2 t (.tup [.int i,.ref tt])):=aq ht;refine⟨_,eG.of ak,rfl,_,eG.of (st _ _ htt),rfl,isD (st _ _ (s2 _ _ hd)),_,qgP i (st _ _ (s2 _ _ hd)),?_⟩;have tL:L≠t:=aN hL2 ht;have Pu:=st _ _ hL2;have GQ:=st _ _ qhy;have z7:=bF.same htv st;have s3:=s2.trans st;have qfG:=cW.keep hsv (L2.cX.of st);generalize upd H2 t (.tup [.int i,.ref tt])=H3 at Pu GQ z7 s3 qfG⊢;have s60:60<=sizeLine:=by decide
   have add:∀(H3:Hp)(sv:List V)(S:List iM)(n:Nat)(x y:Str)(b:Addr),H3 L=some (.lst sv)->cW H3 sv S->H3 b=none->H3 l2=some (.lst wB)->bF H3 wB ps->Same H H3->
     (upd (upd H3 b (.tup [.int n,.str x,.str y])) L (.lst (sv++[.ref b])) L=some (.lst (sv++[.ref b]))/\cW (upd (upd H3 b (.tup [.int n,.str x,.str y])) L (.lst (sv++[.ref b]))) (sv++[.ref b]) (S++[(n,x,y)]))/\upd (upd H3 b (.tup [.int n,.str x,.str y])) L (.lst (sv++[.ref b])) l2=some (.lst wB)/\bF (upd (upd H3 b (.tup [.int n,.str x,.str y])) L (.lst (sv++[.ref b]))) wB ps/\Same H (upd (upd H3 b (.tup [.int n,.str x,.str y])) L (.lst (sv++[.ref b]))):=by
    intro H3 sv S n x y b Pu hsv hb hl2 htv s3;have sb:Same H3 (upd H3 b (.tup [.int n,.str x,.str y])):=aq hb;have kp:L2.cX (upd H3 b (.tup [.int n,.str x,.str y])) (upd (upd H3 b (.tup [.int n,.str x,.str y])) L (.lst (sv++[.ref b]))):=L2.cX.set (sb _ _ Pu) (by intro z e;cases e);refine⟨⟨ak,bH.snoc (cW.keep (cW.keep hsv (L2.cX.of sb)) kp) ⟨b,rfl,kp _ _ ak⟩⟩,by rw[aD L2n.symm];exact sb _ _ hl2,(bF.same htv sb).keep kp,bx (s3.trans sb) hL⟩
   rw[hv i,Ng];left;refine Dc (λσ H4=>(∃sv,σ=[some (.ref o),some (.ref d),some (.ref L),some (.int i),some (.str e.1),some (.str e.2)]/\H4 L=some (.lst sv)/\cW H4 sv (aH fx (ps.take i) 0++if (fx i).getD 0=0 then [(i,e.1,e.2)] else [])/\sv.length<=2 * i+1)/\H4 l2=some (.lst wB)/\bF H4 wB ps/\Same H H4) ?_ ?_
   ·rintro σ H4 ⟨⟨sv,rfl,I_,qhz,qfH⟩,Xa,Xb,s4⟩;left;refine⟨isD (s4 _ _ hd),_,qgP i (s4 _ _ hd),?_⟩;rw[hv i,Ng];left;refine eX.of (λh=>?_) (λh=>?_)
    ·have h':(fx i).getD 1=1:=by simpa using h
     left;refine⟨⟨_,aW.of I_⟩,λb hb=>?_⟩;refine⟨_,bW I_ hb,zs1 qfH hi2 tl z6,?_⟩;obtain⟨⟨k1,k2⟩,k3,k4,k5⟩:=add H4 sv _ i e.2 e.1 b I_ qhz hb Xa Xb s4;refine⟨⟨_,k1,?_,by rw[qmD];exact zs2 qfH⟩,k3,k4,k5⟩;rw[if_pos h',<- qmo];exact k2
    ·have h':¬(fx i).getD 1=1:=by simpa using h
     left;refine⟨⟨_,I_,?_,Nat.le_of_succ_le (zs2 qfH)⟩,Xa,Xb,s4⟩;rw[if_neg h',qmz];exact qhz
   ·intro N hN;refine eX.of (λh=>?_) (λh=>?_)
    ·have h':(fx i).getD 0=0:=by simpa using h
     left;refine⟨⟨_,aW.of Pu⟩,λb hb=>?_⟩;refine⟨_,bW Pu hb,zs1 (qnh hsl) hi2 tl z6,?_⟩;obtain⟨⟨k1,k2⟩,k3,k4,k5⟩:=add H3 sv _ i e.1 e.2 b Pu qfG hb GQ z7 s3;refine hN _ _ ⟨⟨_,rfl,k1,?_,by rw[qmD];exact Nat.succ_le_succ hsl⟩,k3,k4,k5⟩;rw[if_pos h'];exact k2
    ·have h':¬(fx i).getD 0=0:=by simpa using h
     left;refine hN _ _ ⟨⟨_,rfl,Pu,?_,qnh hsl⟩,GQ,z7,s3⟩;rw[if_neg h',qmz];exact qfG
  ·rintro σ H2 ⟨⟨v3,v4,v5,sv,rfl,hL2,hsv,hsl⟩,qhy,htv,s2⟩;left;rw[htv.1,qmv] at hsv;have tl:=htv.1;exact q L sv H2 hL hL2 hsv (zs3 hsl tl z6) s2
def GR:Sp:=λvs H Q _=>∃(start:Str)(l:Addr)(tv:List V)(S:List iM)(xs:QAH),vs=[.str start,.ref l]/\H l=some (.lst tv)/\cW H tv S/\start∈xs/\(∀s∈S,s.2.2∈xs)/\xs.length<=9/\
 ∀(d:Addr)(kvs:List (Key×V))(R:BR)(H':Hp),H d=none->H' d=some (.dK kvs)->fW H' kvs R->Qq S start R.length R->qkB S start R->rG H kvs->Same H H'->Q (.ref d) H'
theorem GX(T:Txt K mg a):bV P w K mg base i_ 1 a.eY a.lR ["start", "steps"] GR:=by
 exists T.sG.qL,cY
 ·obtain⟨start,l,tv,S,xs,rfl,_⟩:=h;rfl
 ·obtain⟨start,l,tv,S,xs,rfl,hl,hS,hsx,Qu,h9,q⟩:=h;refine⟨_,(aC (bG (i:=2) cY.nd rfl (Or.inl rfl) (qb8 (Zm (aL 0) (cI ao) qb7) rfl rfl (by simp) (by decide)))
   (aC (bG (i:=3) cY.nd rfl (Or.inl rfl) (cI (aj (aL 0) ao)))
   (aC (bG (i:=4) cY.nd rfl (Or.inl rfl) aG)
   (aC (Mp qmZ (aU ZF (aL 4) (aK (bY (K:=K) rfl) rfl T.nm.len qmi (aj (aL 3) ao)) (bO _))
   (aC (bG (i:=5) cY.nd rfl (Or.inl rfl) (bR (cj (K:=K) rfl) (aL 3) (aL 4) (λ_ _=>rfl)))
   (aC (kO qmZ rfl (PI.eqv (cJ (K:=K) rfl (aL 1)) (bT _ _)) (PG.eqv (gV (K:=K) (n:=3) rfl rfl (lH.eqv (bJ (aR (i:=6) cY.nd rfl (Or.inl rfl)) (lH.eqv (bJ (aR (i:=7) cY.nd rfl (Or.inl rfl)) (lH.eqv (bJ (aR (i:=8) cY.nd rfl (Or.inl rfl)) (lH.mono gU jU)) (bL _ _))) (bL _ _))) (bL _ _))) (gW _ _ _))
   (aF (cP (PW.pt (zu (aU mU (aL 7) (aL 5) (bO _)) (Bx (Us (PC.eqv (Wf (Hi hr) (aL 8) (aL 2)) (Rk _ _)))))) (aC (PS.eqv (qb6 (Hi hr) (aL 2) (aL 8) (cB lM (PE.eqv (qb5 (Hi hr) (aL 2) (aL 5) (λ_ _=>rfl)) (Z9 _ _)) (cI (aj (aL 6) ao))) rfl) (Z_ _ _ _))
   (aF (eU (kY (K:=K) rfl qmI qmT qmU gk (aL 3) (aj (aL 8) ao))))) bC)))
   (aF (PS.mono (Ys (i:=4) cY.nd rfl (Or.inl rfl) aG Uw) Z0)))))
   (aF (aZ (aL 2))))))),?_⟩
  left;intro d hd p1 hp1;refine⟨bW ak hp1,[(Sum.inr start,.ref p1)],rfl,by simp,λrl hrl=>?_⟩;have em:wH [] [((Sum.inr start:Key),V.ref p1)]=[(Sum.inr start,.ref p1)]:=rfl;rw[em] at hrl⊢;have dp1:d≠p1:=λz=>by subst z;rw[ak] at hp1;cases hp1
  have qkR:H p1=none:=bQ (aq hd) hp1;have sa:Same H (upd (upd (upd H d (.dK [])) p1 (.lst [])) d (.dK [(Sum.inr start,.ref p1)])):=bx ((aq hd).trans (aq hp1)) hd;have qkS:H rl=none:=bQ sa hrl;have e1:upd (upd (upd H d (.dK [])) p1 (.lst [])) d (.dK [(Sum.inr start,.ref p1)]) d=some (.dK [(Sum.inr start,.ref p1)]):=ak;have e2:upd (upd (upd H d (.dK [])) p1 (.lst [])) d (.dK [(Sum.inr start,.ref p1)]) p1=some (.lst []):=by rw[aD dp1.symm];exact ak
  generalize upd (upd (upd H d (.dK [])) p1 (.lst [])) d (.dK [(Sum.inr start,.ref p1)])=H1 at sa hrl e1 e2⊢;have sb:=sa.trans (aq (o:=.lst [.str start]) hrl);have dr:d≠rl:=aN e1 hrl;have qhA:rG H [((Sum.inr start:Key),V.ref p1)]:=by
   intro kv hkv q hq;simp at hkv;subst hkv;cases hq;exact qkR
  refine whB (λσ H'=>∃(n:Nat)(R:BR)(kvs:List (Key×V))(o5 o6 o7 o8:Option V),σ=[some (.str start),some (.ref l),some (.ref d),some (.ref rl),some (.int n),o5,o6,o7,o8]/\H' d=some (.dK kvs)/\fW H' kvs R/\H' rl=some (.lst (R.map λyw=>.str yw.1))/\Qq S start n R/\zM S start n=R/\rG H kvs/\n<=R.length/\Same H H')
   (λσ _=>qgQ 4 σ)
   ⟨0,[(start,[])],[(Sum.inr start,.ref p1)],none,none,none,none,rfl,bW e1 hrl,⟨rfl,?_⟩,ak,Qq.begin S start,rfl,qhA,by simp,sb⟩ ?_ NZ
  ·intro i kv yw h1 h2;have hi:i=0:=by have:=(ql2.mp h1).1;simp at this;omega
   subst hi;simp at h1 h2;subst h1 h2;exact⟨rfl,p1,rfl,bW e2 hrl⟩
  ·rintro σ H2 ⟨n,R,kvs,o5,o6,o7,o8,rfl,hd2,hW2,hr2,hB,hF,hN,hnR,s2⟩;have hR9:R.length<=9:=by
    have h1:=fV hB.nd (hB.sub hsx Qu);simp at h1;omega
   left;refine⟨_,.inl (aW.of hr2),eX.of (λhlt=>?_) (λhlt=>?_)⟩
   ·have hlt':n<R.length:=by simpa using hlt
    left;obtain⟨⟨hh,wh⟩,hR⟩:∃x,R[n]? = some x:=⟨R[n],by simp[hlt']⟩;refine⟨_,.inl (aW.of hr2),.str hh,bD (by rw[qmw,hR];rfl),⟨_,aW.of (s2 _ _ hl)⟩,frL tv (λj σ H'=>∃(R:BR)(kvs:List (Key×V))(o6 o7 o8:Option V),σ=[some (.str start),some (.ref l),some (.ref d),some (.ref rl),some (.int n),some (.str hh),o6,o7,o8]/\H' d=some (.dK kvs)/\fW H' kvs R/\H' rl=some (.lst (R.map λyw=>.str yw.1))/\mQ S (S.take j) start n hh wh R/\yN (S.take j) hh wh (zM S start n)=R/\rG H kvs/\Same H H') ⟨R,kvs,o6,o7,o8,rfl,hd2,hW2,hr2,mQ.enter hB hR,hF,hN,s2⟩ (λj σ H' _ h=>by
     obtain⟨_,_,_,_,_,_,_,_,_,_,_,_,z⟩:=h;exact aW.of (z _ _ hl)) ?_ ?_⟩
    ·rintro j x σ H3 hj ⟨R,kvs,o6,o7,o8,rfl,hd3,hW3,hr3,hM,hF3,hN3,s3⟩;obtain⟨⟨sn,so,sg⟩,hs,t,rfl,ht⟩:=hS.at hj;have hR9:R.length<=9:=by
      have h1:=fV hM.bf.nd (hM.bf.sub hsx Qu);simp at h1;omega
     have hFs:=Rq (S.take j) (sn,so,sg) hh wh (zM S start n);rw[hF3] at hFs;rw[take_one hs];left;refine⟨_,eG.of (s3 _ _ ht),rfl,?_⟩;left
     by_cases hoh:so=hh
     ·subst hoh;refine eX.pos (by simp) ?_;left;refine⟨_,qeN sg hd3,?_⟩;rw[hW3.qkf hM.bf.nd];refine eX.of (λhg=>?_) (λhg=>?_)
      ·have hg':¬sg∈R.map (·.1):=by simpa using hg
       obtain⟨pw,hpw,qkT⟩:=hW3.some hM.bf.nd (ql_ hM.hr);have hwl:=hM.bf.qkd (ql_ hM.hr);have s20:=qnC yj;left;refine⟨.ref pw,?_,λb hb=>?_⟩
       ·have:=qeN so hd3;rw[hpw] at this;exact this
       refine⟨_,bW qkT hb,_,ak,by simp;omega,λc hc=>?_⟩;have s4:Same H3 (upd (upd H3 b (.lst [.int sn])) c (.lst (wh.map (λn:Nat=>V.int n)++[.int sn]))):=(aq hb).trans (aq hc);have ec:upd (upd H3 b (.lst [.int sn])) c (.lst (wh.map (λn:Nat=>V.int n)++[.int sn])) c=some (.lst (wh.map (λn:Nat=>V.int n)++[.int sn])):=ak;generalize upd (upd H3 b (.lst [.int sn])) c (.lst (wh.map (λn:Nat=>V.int n)++[.int sn]))=H4 at s4 ec⊢;have hd4:=s4 _ _ hd3;have W_:=s4 _ _ hr3;have hkl:=hW3.len;have epk:putK kvs (Sum.inr sg) (.ref c)=kvs++[(Sum.inr sg,.ref c)]:=Zh _ (hW3.none hg');refine⟨_,qkc sg hd4 (by omega),?_⟩;rw[epk];have hr5:upd H4 d (.dK (kvs++[(Sum.inr sg,.ref c)])) rl=some (.lst (R.map λyw=>.str yw.1)):=by rw[aD dr.symm];exact W_
       have ne0:∀w:List Nat,R.map (λyw=>V.str yw.1)≠w.map (λn:Nat=>V.int n):=λw e=>by
        have hst:=hM.bf.st;cases R with
        |nil=>simp at hst
        |cons r R=>
         cases w with
         |nil=>simp at e
         |cons n w=>simp at e
       have kp:∀(p:Addr)(w:List Nat),H4 p=some (.lst (w.map λn:Nat=>V.int n))->upd (upd H4 d (.dK (kvs++[(Sum.inr sg,.ref c)]))) rl (.lst (R.map (λyw=>V.str yw.1)++[.str sg])) p=some (.lst (w.map λn:Nat=>V.int n)):=λp w e=>by
        have h1:p≠d:=λz=>by subst z;rw[hd4] at e;cases e
        have h2:p≠rl:=λz=>by subst z;rw[W_] at e;exact ne0 w (HO.lst.inj (qmB e))
        rw[aD h2,aD h1];exact e
       have ec':H4 c=some (.lst ((wh++[sn]).map λn:Nat=>V.int n)):=by rw[ec];simp
       refine⟨⟨_,aW.of hr5⟩,_,hr5,by simp;omega,R++[(sg,wh++[sn])],_,by rw[aD dr];exact ak,?_,by rw[ak];simp,hM.add (ql_ hs) hg',hFs.trans (if_pos ⟨rfl,hg'⟩),hN3.snoc (bQ (s3.trans (aq hb)) hc),bx (bx (s3.trans s4) hd) qkS⟩;refine fW.snoc (fW.keep (H:=H4) (fW.keep hW3 λp w e=>s4 _ _ e) kp) (kp _ _ ec')
      ·have hg':sg∈R.map (·.1):=by simpa using hg
       left;exact⟨R,kvs,hd3,hW3,hr3,hM.skip λ_=>hg',hFs.trans (if_neg (λz=>z.2 hg')),hN3,s3⟩
     ·refine eX.neg (by simp[hoh]) ?_;left;exact⟨R,kvs,hd3,hW3,hr3,hM.skip λz=>absurd z hoh,hFs.trans (if_neg (λz=>hoh z.1)),hN3,s3⟩
    ·rintro σ H3 ⟨R,kvs,o6,o7,o8,rfl,hd3,hW3,hr3,hM,hF3,hN3,s3⟩;have hl3:S.take tv.length=S:=by rw[hS.1,qmv]
     rw[hl3] at hM hF3;left;have hlen:=(ql2.mp hM.hr).1;refine⟨⟨n+1,by omega,R,kvs,hd3,hW3,hr3,hM.leave,(Wy (by rw[hF];exact hR)).trans hF3,hN3,hlen,s3⟩,?_⟩;simp[qgQ];omega
   ·have hlt':¬n<R.length:=by simpa using hlt
    have en:n=R.length:=by omega
    subst en;left;exact q d kvs R H2 hd hd2 hW2 hB hF hN s2
def Fe(C:Addr):Sp:=λvs H Q _=>∃(o:Addr)(start:Str)(l:Addr)(tv:List V)(S:List iM)(xs:QAH)(ps:QAD),vs=[.ref o,.str start,.ref l]/\iZ C H o xs ps/\H l=some (.lst tv)/\cW H tv S/\start∈xs/\(∀s∈S,s.2.2∈xs)/\xs.length<=9/\
 ∀(r:Addr)(H':Hp),H r=none->H' r=some (.lst ((tG S xs start).map V.str))->Same H H'->Q (.ref r) H'
theorem uW(T:Txt K mg a):bV P w K mg base i_ 2 a.dO a.jZ ["web", "start", "steps"] (Fe a.b_):=by
 exists T.lZ.qL,uI
 ·obtain⟨o,start,l,tv,S,xs,ps,rfl,_⟩:=h;rfl
 ·obtain⟨o,start,l,tv,S,xs,ps,rfl,hw,hl,hS,hsx,Qu,h9,q⟩:=h;refine⟨_,(aC (bG (i:=3) uI.nd rfl (Or.inr rfl) (PE.eqv (aO (GX T) hr.d rfl T.yX T.sG.kp T.yW .nil bA (aj (aL 1) (aj (aL 2) ao))) (aJ _ _ _)))
   (aF (aZ (eE rfl rfl (show aY (aB lN) _ ["web", "start", "steps", "ways"] ["point"] [3] ["point", "ways"] from by rfl') rfl (PI.eqv (cJ (K:=K) rfl (PE.eqv (jd (aL 0) T.m5 T.iT (jm T) hr.d T.iR .nil bA) (jg _ _ _ _ _ _))) (bT _ _)) (λC s H fp pn=>(aR (i:=0) (show(["point", "ways"]:QAH).Nodup by symm) rfl (Or.inl rfl))) (λC s H fp pn=>(o_ (Us (PC.eqv (qeH (Hi hr) (aL 0) (aL 1)) (qct _ _))))) (λC s H fp pn=>(aL 0)))))),?_⟩
  left;refine⟨start,l,tv,S,xs,rfl,hl,hS,hsx,Qu,h9,λd kvs R H1 hd hd1 hW hB _ _ s1=>?_⟩;obtain⟨dx,fs,hi,hno⟩:=(hw.same s1).ins gQ.1 gQ.2;left;refine⟨_,_,hi,hno,o,xs,ps,rfl,hw.same s1,λl2 hl2=>?_⟩;exists H1,l2,(.lst (xs.map V.str)),s2,e2,H2,hl2;have hd2:=s2 _ _ hd1;have hW2:=hW.keep λp w e=>s2 _ _ e;have s20:=qnC yj;left;refine⟨⟨_,aW.of e2⟩,λD hD=>Wh (xs.map V.str) (λi σ H'=>(∃o,σ=[o,some (.ref d)])/\H' D=some (.lst ((tG S (xs.take i) start).map V.str))/\Same H2 H') ⟨⟨_,rfl⟩,ak,aq hD⟩ (λi σ H' _ h=>aW.of (h.2.2 _ _ e2)) ?_ ?_⟩
  ·rintro i x σ H3 hi ⟨⟨o',rfl⟩,Di,s3⟩;obtain⟨y,hy,rfl⟩:=um hi;have hi2:i<xs.length:=(ql2.mp hy).1;left;refine⟨_,qeN y (s3 _ _ hd2),?_⟩;rw[hW2.has hB.nd,Zr hy (decide (y∈R.map (·.1))) (by rw[qnX];exact hB.iff y)];refine eX.of (λh=>?_) (λh=>?_)
   ·rw[if_pos h];left;have hfl:=yu (S:=S) (xs:=xs.take i) (x:=start);rw[qmk] at hfl;refine⟨_,Di,by simp;omega,by simp[ak],bx s3 hD⟩
   ·rw[if_neg (by rw[h];exact qml),qmz];left;exact⟨Di,s3⟩
  ·rintro σ H3 ⟨⟨o',rfl⟩,Di,s3⟩;rw[ql9,qmv] at Di;left;exact q D H3 (bQ (s1.trans s2) hD) Di ((s1.trans s2).trans s3)
theorem Lb{xs:QAH}{ps:QAD}{fx:Nat->Option Int}(h:uU xs ps):∀s∈aH fx ps 0,s.2.2∈xs:=by
 intro s hs;obtain⟨j,e,h1,h2⟩:=jE.mp hs;obtain⟨q1,q2,_⟩:=h.ok e (ql_ h1);obtain⟨_,q|q⟩:=lg.mp h2
 ·rw[q.2.2];exact q2
 ·rw[q.2.2];exact q1
def Px(C:Addr):Sp:=λvs H Q _=>∃(o:Addr)(xs:QAH)(ps:QAD),vs=[.ref o]/\iZ C H o xs ps/\Qt xs/\uU xs ps/\
 ∀(l:Addr)(rs:List V)(H':Hp),H l=none->H' l=some (.lst rs)->yr H' rs (Df (aH (λ_=>none) ps 0) xs xs)->(∀v∈rs,∀b,v = .ref b->H b=none)->Same H H'->Q (.ref l) H'
theorem Py(T:Txt K mg a):bV P w K mg base i_ 3 a.iy a.pI ["web"] (Px a.b_):=by
 exists T.wW.qL,pH
 ·obtain⟨o,xs,ps,rfl,_⟩:=h;rfl
 ·obtain⟨o,xs,ps,rfl,hw,hX,hTs,q⟩:=h;refine⟨_,(aC (bG (i:=1) pH.nd rfl (Or.inl rfl) (PE.eqv (aO (oN T) hr.d rfl T.lY T.jl.kp T.lX .nil bA (aj (aL 0) (aj CW ao))) (aJ _ _ _)))
   (aC (bG (i:=2) pH.nd rfl (Or.inl rfl) (cI ao))
   (aC (kO qmZ rfl (PI.eqv (cJ (K:=K) rfl (PE.eqv (jd (aL 0) T.m5 T.iT (jm T) hr.d T.iR .nil bA) (jg _ _ _ _ _ _))) (bT _ _)) (aR (i:=3) pH.nd rfl (Or.inr rfl))
   (aF (cP (f9 (dJ (aK (HD rfl) rfl T.W6.any Ho (aj (eE rfl rfl (show aY (aB rO) _ ["web", "steps", "told", "point"] ["cluster"] [3] ["cluster", "point"] from by rfl') rfl (PI.eqv (cJ (K:=K) rfl (aL 2)) (bT _ _)) (λC s H fp pn=>(aR (i:=0) (show(["cluster", "point"]:QAH).Nodup by symm) rfl (Or.inl rfl))) (λC s H fp pn=>eV) (λC s H fp pn=>(lJ (Gv (K:=K) rfl) (aL 1) (aL 0) rfl))) ao)))) (aF (eU (kY (K:=K) rfl qmI qmT qmU gk (aL 2) (aj (PE.eqv (aO (uW T) hr.d rfl T.qz T.lZ.kp T.qx .nil bA (aj (aL 0) (aj (aL 3) (aj (aL 1) ao)))) (aJ _ _ _)) ao)))) bC)))
   (aF (aZ (aL 2)))))),?_⟩
  have Qu:=Lb (fx:=λ_=>none) hTs;left;intro d hd;refine⟨o,d,xs,ps,λ_=>none,rfl,hw.same (aq hd),Nf ak,λl tv H1 hl0 hl1 hS _ s1'=>?_⟩;have s1:=(aq hd).trans s1';have qlX:=bQ (aq hd) hl0;left;intro L hL;obtain⟨dx,fs,hi,hno⟩:=(hw.same (s1.trans (aq (o:=HO.lst []) hL))).ins gQ.1 gQ.2;refine⟨_,_,hi,hno,o,xs,ps,rfl,hw.same (s1.trans (aq hL)),λl2 hl2=>?_⟩;have s2:Same H1 (upd (upd H1 L (.lst [])) l2 (.lst (xs.map V.str))):=(aq hL).trans (aq hl2);have e2:upd (upd H1 L (.lst [])) l2 (.lst (xs.map V.str)) l2=some (.lst (xs.map V.str)):=ak;have eL:upd (upd H1 L (.lst [])) l2 (.lst (xs.map V.str)) L=some (.lst []):=bW ak hl2;have l2L:l2≠L:=λz=>by subst z;rw[ak] at hl2;cases hl2
  generalize upd (upd H1 L (.lst [])) l2 (.lst (xs.map V.str))=H2 at s2 e2 eL⊢;have hL0:=bQ s1 hL;have s20:=qnC yj;have l9:=hX.len;left;refine⟨⟨_,aW.of e2⟩,frL (xs.map V.str) (λi σ H'=>(∃v3 rs,σ=[some (.ref o),some (.ref l),some (.ref L),v3]/\H' L=some (.lst rs)/\yr H' rs (Df (aH (λ_=>none) ps 0) xs (xs.take i))/\∀v∈rs,∀b,v = .ref b->H b=none/\b≠L)/\H' l2=some (.lst (xs.map V.str))/\Same H1 H') ⟨⟨_,[],rfl,eL,bH.nil,by simp⟩,e2,s2⟩ (λi σ H' _ h=>aW.of h.2.1) ?_ ?_⟩
  ·rintro i x σ H3 hi ⟨⟨v3,rs,rfl,Pu,hrs,hfr⟩,GQ,s3⟩;obtain⟨y,hy,rfl⟩:=um hi;have hi2:i<xs.length:=(ql2.mp hy).1;have hcl:=Nh (S:=aH (λ_=>none) ps 0) (xs:=xs) (xs.take i) [];have qev:(Df (aH (λ_=>none) ps 0) xs (xs.take i)).length<=i:=by
    unfold Df;rw[qmk] at hcl;simp at hcl;omega
   have hrl:=hrs.1;rw[Wk hy];generalize hcs:Df (aH (λ_=>none) ps 0) xs (xs.take i)=cs at hrs qev hrl⊢;left;refine⟨⟨_,aW.of Pu⟩,λD hD=>Wh rs (λj σ H'=>(∃o',σ=[o',some (.str y)])/\H' D=some (.lst ((cs.take j).map λc=>V.bl (decide (y∈c))))/\Same H3 H') ⟨⟨_,rfl⟩,ak,aq hD⟩ (λj σ H' _ h=>aW.of (h.2.2 _ _ Pu)) ?_ ?_⟩
   ·rintro j x σ H4 hj ⟨⟨o',rfl⟩,tY,s4⟩;obtain⟨c,hc,t,rfl,ht⟩:=hrs.at hj;have hj2:j<cs.length:=(ql2.mp hc).1;left;refine⟨_,.inl (aW.of (s4 _ _ ht)),rfl,qmn.mp (cu c),_,tY,by simp;omega,?_,bx s4 hD⟩;rw[ak,bK,take_one hc];simp
   ·rintro σ H4 ⟨⟨o',rfl⟩,tY,s4⟩;rw[hrl,qmv] at tY;left;refine⟨_,tY,_,jD _ _,?_⟩;have ea:(cs.map λc=>decide (y∈c)).any id=cs.any λc=>decide (y∈c):=by rw[List.any_map];rfl
    rw[ea];have I_:=s4 _ _ Pu;refine eX.of (λh=>?_) (λh=>?_)
    ·have h':(cs.any λc=>decide (y∈c))=false:=by simpa using h
     have ef:h_ (aH (λ_=>none) ps 0) xs cs y=cs++[tG (aH (λ_=>none) ps 0) xs y]:=by unfold h_;rw[if_neg (by rw[h'];exact qml)]
     rw[ef];have hl4:=s4 _ _ (s3 _ _ hl1);have hS4:=cW.keep hS (L2.cX.of (s3.trans s4));left;refine⟨⟨_,aW.of I_⟩,o,y,l,tv,aH (λ_=>none) ps 0,xs,ps,rfl,hw.same ((s1.trans s3).trans s4),hl4,hS4,ql_ hy,Qu,l9.2,λr H5 hr0 hr5 s5=>?_⟩;have hL5:=s5 _ _ I_;have rL:r≠L:=λz=>by subst z;rw[I_] at hr0;cases hr0
     have s6:Same H1 (upd H5 L (.lst (rs++[.ref r]))):=bx ((s3.trans s4).trans s5) hL;have l2n:l2≠L:=l2L;left;refine⟨_,hL5,by omega,⟨_,ak,?_,?_⟩,by rw[aD l2n];exact s5 _ _ (s4 _ _ GQ),s6⟩
     ·have kp:∀v c,v∈rs->Zq H3 v c->Zq (upd H5 L (.lst (rs++[.ref r]))) v c:=λv c hv ⟨t,e,ht⟩=>⟨t,e,by rw[aD (hfr v hv t e).2];exact s5 _ _ (s4 _ _ ht)⟩;refine bH.snoc ⟨hrs.1,λj v c h1 h2=>kp v c (ql_ h1) (hrs.2 j v c h1 h2)⟩ ⟨r,rfl,by rw[aD rL];exact hr5⟩
     ·intro v hv b e
      rcases qmm.mp hv with z|z
      ·exact hfr v z b e
      ·simp at z;rw[z] at e;cases e;exact⟨bQ ((s1.trans s3).trans s4) hr0,rL⟩
    ·have h':(cs.any λc=>decide (y∈c))=true:=by simpa using h
     have ef:h_ (aH (λ_=>none) ps 0) xs cs y=cs:=by unfold h_;rw[if_pos h']
     rw[ef];left;exact⟨⟨rs,I_,hrs.same s4,hfr⟩,s4 _ _ GQ,s3.trans s4⟩
  ·rintro σ H3 ⟨⟨v3,rs,rfl,Pu,hrs,hfr⟩,GQ,s3⟩;rw[ql9,qmv] at hrs;left;exact q L rs H3 hL0 Pu hrs (λv hv b e=>(hfr v hv b e).1) (s1.trans s3)
def qcS(C:Addr):Sp:=λvs H Q _=>∃(o:Addr)(xs:QAH)(ps:QAD),vs=[.ref o]/\iZ C H o xs ps/\Qt xs/\uU xs ps/\
 ∀(l:Addr)(rs:List V)(H':Hp),H l=none->H' l=some (.lst rs)->∀(zs:List (Addr×Nat×QAH)),bH zH H' rs zs->zs.map (·.2)=jt ps xs->(zs.map (·.1)).Nodup->(∀z∈zs,H z.1=none/\z.1≠l)->Same H H'->Q (.ref l) H'
theorem qcT(T:Txt K mg a):bV P w K mg base i_ 3 a.uK a.Ce ["web"] (qcS a.b_):=by
 exists T.R4.qL,rW
 ·obtain⟨o,xs,ps,rfl,_⟩:=h;rfl
 ·obtain⟨o,xs,ps,rfl,hw,hX,hTs,q⟩:=h;refine⟨_,(aC (bG (i:=1) rW.nd rfl (Or.inl rfl) (PE.eqv (aO (oN T) hr.d rfl T.lY T.jl.kp T.lX .nil bA (aj (aL 0) (aj CW ao))) (aJ _ _ _)))
   (aC (bG (i:=2) rW.nd rfl (Or.inl rfl) (cI ao))
   (aC (kO qmZ rfl (PI.eqv (JL (K:=K) rfl rfl T.W6.enumerate (aj (PE.eqv (jd (aL 0) T.m5 T.sU (uV T) hr.d T.sI .nil bA) (jg _ _ _ _ _ _)) ao)) (zL _ _)) (PG.eqv (gV (K:=K) (n:=2) rfl rfl (lH.eqv (bJ (aR (i:=3) rW.nd rfl (Or.inr rfl)) (lH.eqv (bJ (PG.eqv (gV (K:=K) (n:=2) rfl rfl (lH.eqv (bJ (aR (i:=4) rW.nd rfl (Or.inl rfl)) (lH.eqv (bJ (aR (i:=5) rW.nd rfl (Or.inl rfl)) (lH.mono gU jU)) (bL _ _))) (bL _ _))) (gW _ _ _)) (lH.mono gU jU)) (bL _ _))) (bL _ _))) (gW _ _ _))
   (aC (bG (i:=6) rW.nd rfl (Or.inl rfl) (PE.eqv (aO (uW T) hr.d rfl T.qz T.lZ.kp T.qx .nil bA (aj (aL 0) (aj (aL 5) (aj (eE rfl rfl (show aY (aB KD) _ ["web", "steps", "told", "number", "first", "second", "lot"] ["step"] [3] ["step", "number"] from by rfl') rfl (PI.eqv (cJ (K:=K) rfl (aL 1)) (bT _ _)) (λC s H fp pn=>(aR (i:=0) (show(["step", "number"]:QAH).Nodup by symm) rfl (Or.inl rfl))) (λC s H fp pn=>(o_ (aU mV (bR (cj (K:=K) rfl) (aL 0) aG (λ_ _=>rfl)) (aL 1) (bO _)))) (λC s H fp pn=>(aL 0))) ao)))) (aJ _ _ _)))
   (aF (cP (aU (yK (K:=K) rfl) (aL 4) (aL 6) rfl) (aF (eU (kY (K:=K) rfl qmI qmT qmU gk (aL 2) (aj (gb (aj (aL 3) (aj (aL 6) ao))) ao)))) bC))))
   (aF (aZ (aL 2)))))),?_⟩
  have Qu:=Lb (fx:=λ_=>none) hTs;have s50:50<=sizeLine:=by decide
  have l9:=hX.len;left;intro d hd;refine⟨o,d,xs,ps,λ_=>none,rfl,hw.same (aq hd),Nf ak,λl tv H1 hl0 hl1 hS qlE s1'=>?_⟩;have s1:=(aq hd).trans s1';left;intro L hL;obtain⟨dx,fs,hi,hno⟩:=(hw.same (s1.trans (aq (o:=HO.lst []) hL))).ins vJ.1 vJ.2;refine⟨_,_,hi,hno,o,xs,ps,rfl,hw.same (s1.trans (aq hL)),λl2 wB hl2 qaY=>?_⟩;have s2:Same H1 (upd (upd H1 L (.lst [])) l2 (.lst wB)):=(aq hL).trans (aq hl2);have e2:upd (upd H1 L (.lst [])) l2 (.lst wB) l2=some (.lst wB):=ak;have eL:upd (upd H1 L (.lst [])) l2 (.lst wB) L=some (.lst []):=bW ak hl2;have l2L:l2≠L:=λz=>by subst z;rw[ak] at hl2;cases hl2
  have z7:=bF.same qaY (aq (o:=HO.lst wB) hl2);generalize upd (upd H1 L (.lst [])) l2 (.lst wB)=H2 at s2 e2 eL z7⊢;have hL0:=bQ s1 hL;left;refine⟨⟨_,aW.of e2⟩,frE wB (λi σ H'=>(∃o3 o4 o5 o6 rs zs,σ=[some (.ref o),some (.ref l),some (.ref L),o3,o4,o5,o6]/\H' L=some (.lst rs)/\bH zH H' rs zs/\zs.map (·.2)=mR (qR ps xs) (ps.take i) 0/\(zs.map (·.1)).Nodup/\∀z∈zs,H z.1=none/\z.1≠L)/\H' l2=some (.lst wB)/\bF H' wB ps/\Same H1 H') ⟨⟨_,_,_,_,[],[],rfl,eL,bH.nil,rfl,by simp,by simp⟩,e2,z7,s2⟩ (λi σ H' _ h=>aW.of h.2.1) ?_ ?_⟩
  ·rintro i x t σ H3 hi ht ⟨⟨o3,o4,o5,o6,rs,zs,rfl,Pu,hrs,hzs,hzn,hfr⟩,GQ,htv,s3⟩;obtain⟨e,he,tt,rfl,htt⟩:=htv.at hi;have hem:=ql_ he;obtain⟨q1,q2,q3⟩:=hTs.ok e hem;have hi2:i<ps.length:=(ql2.mp he).1;have hcl:(mR (qR ps xs) (ps.take i) 0).length<=20:=by
    have h1:=yC (Wm ps xs) (ps.take i) 0;rw[qmk] at h1;have:=hTs.len;omega
   have hrl:rs.length=(mR (qR ps xs) (ps.take i) 0).length:=by rw[hrs.1,<- hzs,ql9]
   have st:Same H3 (upd H3 t (.tup [.int i,.ref tt])):=aq ht;rw[Hu _ he];generalize hcs:mR (qR ps xs) (ps.take i) 0=cs at hzs hcl hrl⊢;left;refine⟨_,eG.of ak,rfl,_,eG.of (st _ _ htt),rfl,?_⟩;have I_:=st _ _ Pu;have Xa:=st _ _ GQ;have Xb:=bF.same htv st;have s4:=s3.trans st;have qfI:=zH.same hrs st;generalize upd H3 t (.tup [.int i,.ref tt])=H4 at I_ Xa Xb s4 qfI⊢;have hl4:=s4 _ _ hl1;have hS4:=cW.keep hS (L2.cX.of s4);refine⟨⟨_,aW.of hl4⟩,λD hD=>Wh tv (λj σ H'=>(∃o',σ=[o',some (.int i)])/\(∃fv,H' D=some (.lst fv)/\fv.length<=j/\cW H' fv ((((aH (λ_=>none) ps 0)).take j).filter (Rb i)))/\Same H4 H') ⟨⟨_,rfl⟩,⟨[],ak,by simp,bH.nil⟩,aq hD⟩ (λj σ H' _ h=>aW.of (h.2.2 _ _ hl4)) ?_ ?_⟩
   ·rintro j x σ H5 hj ⟨⟨o',rfl⟩,⟨fv,Bt,hfl,hfv⟩,s5⟩;obtain⟨⟨sn,so,sg⟩,hs,t5,rfl,ht5⟩:=hS4.at hj;have hj2:j<tv.length:=(ql2.mp hj).1;rw[take_one hs,qnn];left;refine⟨_,.inr (eG.of (s5 _ _ ht5)),_,bD (j:=0) rfl,?_⟩;left
    by_cases hsi:sn=i
    ·refine⟨false,by simp[hsi],eX.neg rfl ?_⟩;have ef : [((sn,so,sg):iM)].filter (Rb i)=[]:=by simp[Rb,hsi]
     rw[ef,qmz];left;exact⟨⟨fv,Bt,by omega,hfv⟩,s5⟩
    ·refine⟨true,?_,eX.pos rfl ?_⟩
     ·simp;omega
     have ef : [((sn,so,sg):iM)].filter (Rb i)=[(sn,so,sg)]:=by simp[Rb,hsi]
     rw[ef];left;have kp:L2.cX H5 (upd H5 D (.lst (fv++[.ref t5]))):=L2.cX.set Bt (by intro z e;cases e);exact⟨_,Bt,by omega,⟨_,ak,by simp;omega,bH.snoc (cW.keep hfv kp) ⟨t5,rfl,kp _ _ (s5 _ _ ht5)⟩⟩,bx s5 hD⟩
   ·rintro σ H5 ⟨⟨o',rfl⟩,⟨fv,Bt,hfl,hfv⟩,s5⟩;rw[hS.1,qmv] at hfv;left;refine⟨o,e.2,D,fv,_,xs,ps,rfl,hw.same ((s1.trans s4).trans s5),Bt,hfv,q2,λs hs=>Qu s ((qm9.mp hs).1),l9.2,λr H6 hr0 hr6 s6=>?_⟩;have qhB:H6 r=some (.lst ((vR ps xs i e.2).map V.str)):=hr6;left;refine⟨_,.inl (aW.of qhB),rfl,qmn.mp (cu _),?_⟩;rw[bK];have hL6:=s6 _ _ (s5 _ _ I_);have sH5:Same H H5:=(s1.trans s4).trans s5;have rH:H r=none:=bQ sH5 hr0;have rL:r≠L:=λz=>by subst z;rw[s5 _ _ I_] at hr0;cases hr0
    have qhC:=zH.same (zH.same qfI s5) s6;refine⟨!decide (e.1∈vR ps xs i e.2),by simp,eX.of (λh=>?_) (λh=>?_)⟩
    ·have h':¬e.1∈vR ps xs i e.2:=by simpa using h
     have eb:qR ps xs e i=[(i,vR ps xs i e.2)]:=by unfold qR;rw[if_neg h']
     rw[eb];left;refine⟨⟨_,aW.of hL6⟩,λt7 ht7=>?_⟩;have s7:Same H6 (upd H6 t7 (.tup [.int i,.ref r])):=aq ht7;have Yj:=s7 _ _ hL6;have e7:upd H6 t7 (.tup [.int i,.ref r]) t7=some (.tup [.int i,.ref r]):=ak;have hr7:=s7 _ _ qhB;have qfJ:=zH.same qhC s7;have t7H:H t7=none:=bQ (sH5.trans s6) ht7;have s27:=(s4.trans s5).trans (s6.trans s7);have qhD:=s7 _ _ (s6 _ _ (s5 _ _ Xa));have Pr:=bF.same Xb ((s5.trans s6).trans s7);generalize upd H6 t7 (.tup [.int i,.ref r])=H7 at s7 Yj e7 hr7 qfJ s27 qhD Pr⊢;have kt:L2.cX H7 (upd H7 L (.lst (rs++[.ref t7]))):=L2.cX.set Yj (by intro z e;cases e);have rzs:¬r∈zs.map (·.1):=λz=>by
      obtain⟨y,hy,e0⟩:=qmW.mp z;have:=zH.there (zH.same qfI s5) y hy;rw[e0,hr0] at this;cases this
     refine⟨_,Yj,by omega,⟨_,ak,zs++[(r,i,vR ps xs i e.2)],?_,by simp[hzs],?_,?_⟩,by rw[aD l2L];exact qhD,Pr.keep kt,bx s27 hL⟩
     ·refine bH.snoc ⟨qfJ.1,λj v z h1 h2=>?_⟩ ⟨t7,rfl,kt _ _ e7,by rw[aD rL];exact hr7⟩;obtain⟨t',z1,z2,z3⟩:=qfJ.2 j v z h1 h2;exact⟨t',z1,kt _ _ z2,by rw[aD (hfr z (ql_ h2)).2];exact z3⟩
     ·rw[qnl,List.nodup_append];refine⟨hzn,by simp,?_⟩;intro x hx y hy e0;simp at hy;subst hy;exact rzs (e0▸hx)
     ·intro z hz
      rcases qmm.mp hz with y|y
      ·exact hfr z y
      ·simp at y;subst y;exact⟨rH,rL⟩
    ·have h':e.1∈vR ps xs i e.2:=by simpa using h
     have eb:qR ps xs e i=[]:=by unfold qR;rw[if_pos h']
     rw[eb,qmz];left;exact⟨⟨rs,hL6,zs,qhC,hzs,hzn,hfr⟩,s6 _ _ (s5 _ _ Xa),bF.same Xb (s5.trans s6),(s4.trans s5).trans s6⟩
  ·rintro σ H3 ⟨⟨o3,o4,o5,o6,rs,zs,rfl,Pu,hrs,hzs,hzn,hfr⟩,GQ,htv,s3⟩;rw[htv.1,qmv] at hzs;left;exact q L rs H3 hL0 Pu zs hrs hzs hzn hfr (s1.trans s3)
def Vj(H:Hp)(e C:Addr)(fs:List (Str×V)):Prop:=∃dx,dx≠e/\H e=some (dZ e C (some dx))/\H dx=some (ju dx fs)
def qaZ(C:Addr)(f:Str):Sp:=λvs H Q _=>∃(e l:Addr)(xs:List V),vs=[.ref e,.ref l]/\H e=some (dZ e C none)/\H l=some (.lst xs)/\
 ∀(b:Addr)(H':Hp),H b=none->H' b=some (.lst xs)->Vj H' e C [(f,.ref b)]->But e H H'->Q .non H'
theorem Pz{H:Hp}{e l C:Addr}{xs:List V}{f:Str}{Q:VK}{K:W.Frag}(he:H e=some (dZ e C none))(hl:H l=some (.lst xs))(q:∀(b:Addr) (H':Hp),H b=none->H' b=some (.lst xs)->Vj H' e C [(f,.ref b)]->But e H H'->Q .non H') :
  (∃x,H e=some (dZ e C x))/\∃ys,(aW K H l ys\/eG K H l ys)/\∀(l:Addr),H l=none->upd H l (.lst ys) e=some (dZ e C none)/\∀dx,upd H l (.lst ys) dx=none->Q .non (upd (upd (upd H l (.lst ys)) dx (ju dx [(f,.ref l)])) e (dZ e C (some dx))):=by
 refine⟨⟨_,he⟩,xs,.inl (aW.of hl),λb hb=>?_⟩;exists H,b,(.lst xs),s1,e1,H1,hb;refine⟨s1 _ _ he,λdx hdx=>?_⟩;have ne:dx≠e:=λz=>by rw[z,s1 _ _ he] at hdx;cases hdx
 have be:b≠e:=λz=>by rw[z,he] at hb;cases hb
 have bd:b≠dx:=λz=>by rw[<- z,e1] at hdx;cases hdx
 refine q b _ hb (by rw[aD be,aD bd];exact e1) ⟨dx,ne,ak,by rw[aD ne];exact ak⟩ λc o hc z=>?_;rw[aD hc,aD (λy=>by rw[<- y,s1 _ _ z] at hdx;cases hdx)];exact s1 _ _ z
theorem PB{H:Hp}{e l C:Addr}{xs:List V}{f g:Str}{y:V}{Q:VK}{K:W.Frag}(fg:g≠f)(he:H e=some (dZ e C none))(hl:H l=some (.lst xs))(q:∀(b:Addr) (H':Hp),H b=none->H' b=some (.lst xs)->Vj H' e C [(f,y),(g,.ref b)]->But e H H'->Q .non H') :
  (∃x,H e=some (dZ e C x))/\H e=some (dZ e C none)/\∀dx,H dx=none->∃ys,(aW K (upd (upd H dx (ju dx [(f,y)])) e (dZ e C (some dx))) l ys\/eG K (upd (upd H dx (ju dx [(f,y)])) e (dZ e C (some dx))) l ys)/\
   ∀(l:Addr),upd (upd H dx (ju dx [(f,y)])) e (dZ e C (some dx)) l=none->∃d2,upd (upd (upd H dx (ju dx [(f,y)])) e (dZ e C (some dx))) l (.lst ys) e=some (dZ e C (some d2))/\∃fs,upd (upd (upd H dx (ju dx [(f,y)])) e (dZ e C (some dx))) l (.lst ys) d2=some (ju d2 fs)/\fs.length<1000/\
    Q .non (upd (upd (upd (upd H dx (ju dx [(f,y)])) e (dZ e C (some dx))) l (.lst ys)) d2 (ju d2 (kW g (.ref l) fs))):=by
 refine⟨⟨_,he⟩,he,λdx hdx=>?_⟩;have ne:dx≠e:=λz=>by rw[z,he] at hdx;cases hdx
 have le:l≠e:=λz=>by rw[z,he] at hl;cases hl
 have ld:l≠dx:=λz=>by rw[z,hdx] at hl;cases hl
 have e1:upd (upd H dx (ju dx [(f,y)])) e (dZ e C (some dx)) e=some (dZ e C (some dx)):=ak;have d1:upd (upd H dx (ju dx [(f,y)])) e (dZ e C (some dx)) dx=some (ju dx [(f,y)]):=by rw[aD ne];exact ak
 have b1:But e H (upd (upd H dx (ju dx [(f,y)])) e (dZ e C (some dx))):=λc o hc z=>by
  rw[aD hc,aD (λy=>by rw[y,hdx] at z;cases z)];exact z
 generalize upd (upd H dx (ju dx [(f,y)])) e (dZ e C (some dx))=H1 at e1 d1 b1⊢;refine⟨xs,.inl (aW.of (b1 _ _ le hl)),λb hb=>?_⟩;exists H1,b,(.lst xs),s2,e2,H2,hb;refine⟨dx,s2 _ _ e1,_,s2 _ _ d1,by show(1:Nat)<1000;decide,?_⟩;have bd:b≠dx:=λz=>by rw[z,d1] at hb;cases hb
 have be:b≠e:=λz=>by rw[z,e1] at hb;cases hb
 have hb0:H b=none:=by
  cases z:H b with
  |none=>rfl
  |some o=>rw[b1 _ _ be z] at hb;cases hb
 have ep:kW g (.ref b) [(f,y)]=[(f,y),(g,.ref b)]:=by
  show(if f=g then _ else _)=_
  rw[if_neg (λz=>fg z.symm)];rfl
 rw[ep];refine q b _ hb0 (by rw[aD bd];exact e2) ⟨dx,ne,by rw[aD (qnF ne)];exact s2 _ _ e1,ak⟩ λc o hc z=>?_;rw[aD (λy=>by rw[y,hdx] at z;cases z)];exact s2 _ _ (b1 _ _ hc z)
def qa0(C:Addr)(f g:Str):Sp:=λvs H Q _=>∃(e l:Addr)(y:V)(xs:List V),vs=[.ref e,y,.ref l]/\H e=some (dZ e C none)/\H l=some (.lst xs)/\
 ∀(b:Addr)(H':Hp),H b=none->H' b=some (.lst xs)->Vj H' e C [(f,y),(g,.ref b)]->But e H H'->Q .non H'
theorem Fg(T:Txt K mg a):bV P w K mg base i_ 1 a.cZ a.j4 ["self", "lot"] (qaZ a.bB "lot"):=by
 exists T.vW.qL,DP
 ·obtain⟨e,l,xs,rfl,_⟩:=h;rfl
 ·obtain⟨e,l,xs,rfl,he,hl,q⟩:=h;refine⟨_,(aC (eU (UW T.vH T.ini rfl T.nG (aj (aL 0) (aj eF ao))))
   (aF (qdC T.IW T.gK (aL 0) (fQ (yL (K:=K) rfl) rfl T.nm.list boot_list (aj (aL 1) ao)) rfl))),?_⟩
  left;exact Pz he hl q
theorem Fi(T:Txt K mg a):bV P w K mg base i_ 1 a.c7 a.j6 ["self", "tie", "lot"] (qa0 a.bh "tie" "lot"):=by
 exists T.vY.qL,DQ
 ·obtain⟨e,l,y,xs,rfl,_⟩:=h;rfl
 ·obtain⟨e,l,y,xs,rfl,he,hl,q⟩:=h;refine⟨_,(aC (eU (UW T.vI T.ini rfl T.nG (aj (aL 0) (aj eF ao))))
   (aC (qdC T.zZ T.gM (aL 0) (aL 1) rfl)
   (aF (qhk T.zZ T.gO (aL 0) (fQ (yL (K:=K) rfl) rfl T.nm.list boot_list (aj (aL 2) ao)) rfl)))),?_⟩
  left;exact PB (by decide) he hl q
def jB(ps:QAD)(xs:QAH):List (QAH):=Df (aH (λ_=>none) ps 0) xs xs
def Bu(C Pa Ba:Addr):Sp:=λvs H Q E=>∃(o:Addr)(xs:QAH)(ps:QAD),vs=[.ref o]/\iZ C H o xs ps/\Qt xs/\uU xs ps/\
 ((jB ps xs).length<=1->jt ps xs=[]->∀H',Same H H'->Q .non H')/\
 (∀c r,jB ps xs=c::r->r≠[]->∀(dx cc:Addr)(H':Hp),H cc=none->H' dx=some (ju dx [("lot",.ref cc)])->H' cc=some (.lst (c.map V.str))->Same H H'->E (.ref Pa) (some dx) H')/\
 ((jB ps xs).length<=1->∀k lot rest,jt ps xs=(k,lot)::rest->∀(dx c:Addr)(H':Hp),H c=none->H' dx=some (ju dx [("tie",.int (k:Nat)),("lot",.ref c)])->H' c=some (.lst (lot.map V.str))->Same H H'->E (.ref Ba) (some dx) H')
theorem Bv(T:Txt K mg a):bV P w K mg base (Wz P w) 5 a.dz a.jq ["web"] (Bu a.b_ a.bB a.bh):=by
 exists T.oM.qcw,gH
 ·obtain⟨o,xs,ps,rfl,_⟩:=h;rfl
 ·obtain⟨o,xs,ps,rfl,hw,hX,hTs,q1,q2,q3⟩:=h;refine⟨_,(aC (bG (i:=1) gH.nd rfl (Or.inl rfl) (PE.eqv (aO (Py T) hr.d rfl T.Ec T.wW.kp T.Eb .nil bA (aj (aL 0) ao)) (aJ _ _ _)))
   (aC (cP (aU uD (aK (bY (K:=K) rfl) rfl T.nm.len qmi (aj (aL 1) ao)) aG (bO _)) (aF (Ia (E:=E) rJ rfl rfl T.vH (Fg T) hr.d rfl T.Ez T.vX (aj (bR (cj (K:=K) rfl) (aL 1) aG (λ_ _=>rfl)) ao))) bC)
   (aC (bG (i:=2) gH.nd rfl (Or.inl rfl) (PE.eqv (aO (qcT T) hr.d rfl T.qaM T.R4.kp T.qaL .nil bA (aj (aL 0) ao)) (aJ _ _ _)))
   (aF (cP (aU uD (aK (bY (K:=K) rfl) rfl T.nm.len qmi (aj (aL 2) ao)) aG (bO _)) (aC (Qw (bR (cj (K:=K) rfl) (aL 2) aG (λ_ _=>rfl)) (PG.eqv (gV (K:=K) (n:=2) rfl rfl (lH.eqv (bJ (aR (i:=3) gH.nd rfl (Or.inl rfl)) (lH.eqv (bJ (aR (i:=4) gH.nd rfl (Or.inl rfl)) (lH.mono gU jU)) (bL _ _))) (bL _ _))) (gW _ _ _)))
   (aF (Ia (E:=E) rJ rfl rfl T.vI (Fi T) hr.d rfl T.EY T.vZ (aj (aL 3) (aj (aL 4) ao))))) bC))))),?_⟩
  left;refine⟨o,xs,ps,rfl,hw,hX,hTs,λl1 rs1 H1 hl1 e1 hls hnw s1=>?_⟩;have hcl:rs1.length=(jB ps xs).length:=hls.1;left;refine⟨_,.inl (aW.of e1),eX.of (λh=>?_) (λh=>?_)⟩
  ·have hpos:=qmj h;obtain⟨c,r,hcr⟩:∃c r,jB ps xs=c::r:=by
    cases hc:jB ps xs with
    |nil=>rw[hc] at hcl;simp at hcl;rw[hcl] at hpos;simp at hpos
    |cons c r=>exact⟨c,r,rfl⟩
   have hr0:r≠[]:=λz=>by rw[hcr,z] at hcl;simp at hcl;rw[hcl] at hpos;simp at hpos
   obtain⟨v,hv⟩:∃v,rs1[0]? = some v:=⟨_,qmM (by rw[hcl,hcr];simp)⟩;obtain⟨c',hc',t,rfl,ht⟩:=hls.at hv;have:c'=c:=by
    have h2:(jB ps xs)[0]? = some c':=hc';rw[hcr] at h2;simpa using h2.symm
   subst this;left;refine⟨_,.inl (aW.of e1),_,bD (j:=0) hv,?_⟩;intro e5 he5;have s5:Same H1 (upd H1 e5 (dZ e5 a.bB none)):=aq he5;have x5:upd H1 e5 (dZ e5 a.bB none) e5=some (dZ e5 a.bB none):=ak;have hc5:=s5 _ _ ht;have e50:H e5=none:=bQ s1 he5;have S5:=s1.trans s5;generalize upd H1 e5 (dZ e5 a.bB none)=H5 at s5 x5 hc5 S5⊢;refine⟨e5,t,_,rfl,x5,hc5,λcc H6 hc0 ec hbe hB=>⟨rfl,?_⟩⟩;obtain⟨dx,dxe,hx5,hdx⟩:=hbe;have ce:cc≠e5:=λz=>by rw[z,x5] at hc0;cases hc0
   refine⟨_,hx5,q2 _ _ hcr hr0 dx cc _ (bQ S5 hc0) (fJ dxe hdx) (fJ ce ec) λb' u e=>?_⟩;have be:b'≠e5:=λz=>by rw[z,e50] at e;cases e
   exact fJ be (hB b' u be (S5 _ _ e))
  ·have h1:(jB ps xs).length<=1:=by
    have h0:=qmL h;omega
   left;refine⟨o,xs,ps,rfl,hw.same s1,hX,hTs,λl rs H2 hl0 e2 zs hzs qa1 qhw hzn s2=>?_⟩;have S2:=s1.trans s2;left;refine⟨_,.inl (aW.of e2),eX.of (λh=>?_) (λh=>?_)⟩
   ·have hpos:=qmj h;cases rs with
    |nil=>simp at hpos
    |cons v rs=>
    cases zs with
    |nil=>have:=hzs.1;simp at this
    |cons z zs=>
    obtain⟨t,rfl,ht,hc⟩:=hzs.2 0 v z rfl rfl;have hz0:=(hzn z qmr).1;rw[qmG] at qa1;left;refine⟨_,.inl (aW.of e2),_,bD (j:=0) rfl,?_⟩;left;refine⟨_,eG.of ht,rfl,?_⟩;left;intro e5 he5;have s5:Same H2 (upd H2 e5 (dZ e5 a.bh none)):=aq he5;have x5:upd H2 e5 (dZ e5 a.bh none) e5=some (dZ e5 a.bh none):=ak;have hc5:=s5 _ _ hc;have e50:H e5=none:=bQ S2 he5;have S5:=S2.trans s5;generalize upd H2 e5 (dZ e5 a.bh none)=H5 at s5 x5 hc5 S5⊢;refine⟨e5,z.1,.int z.2.1,_,rfl,x5,hc5,λc H6 hc0 ec hbe hB=>⟨rfl,?_⟩⟩;obtain⟨dx,dxe,hx,hdx⟩:=hbe;have ce:c≠e5:=λz=>by rw[z,x5] at hc0;cases hc0
    refine⟨_,hx,q3 h1 z.2.1 z.2.2 _ qa1.symm dx c _ (bQ S5 hc0) (fJ dxe hdx) (fJ ce ec) λb' u e=>?_⟩;have be:b'≠e5:=λz=>by rw[z,e50] at e;cases e
    exact fJ be (hB b' u be (S5 _ _ e))
   ·have h0:=qmL h;cases zs with
    |cons z zs=>have:=hzs.1;simp at this;omega
    |nil=>
     left;exact q1 h1 qa1.symm _ S2
def tyD:PyData->String
 |.none=> "NoneType"
 |.bool _=> "bool"
 |.int _=> "int"
 |.str _=> "str"
 |.list _=> "list"
 |.tuple _=> "tuple"
 |.dict _=> "dict"
def Ld:PyData->Bool
 |.list _=>true
 |.tuple _=>true
 |_=>false
def intD:PyData->Bool
 |.int _=>true
 |.bool _=>true
 |_=>false
def qdU:PyData->Bool
 |.bool _=>true
 |_=>false
def Le:PyData->Bool
 |.int _=>true
 |_=>false
def Vk:PyData->Bool
 |.int i=>decide (0<=i) && decide (i<=1)
 |_=>false
def kids:PyData->List PyData
 |.list ds=>ds
 |.tuple ds=>ds
 |_=>[]
def xT(n:Nat)(d:PyData):Bool:=Ld d && (decide ((kids d).length=n) && (kids d).all Vk)
theorem Sh{H:Hp}{d:PyData}{v:V}(h:bU H d v):mL K H v (.type (tyD d)):=by
 cases d with
 |none=>simp only[bU] at h;subst h;exact .non
 |bool b=>simp only[bU] at h;subst h;exact .bl b
 |int i=>simp only[bU] at h;subst h;exact .int i
 |str x=>simp only[bU] at h;subst h;exact .str x
 |list ds=>simp only[bU] at h;obtain⟨a,xs,rfl,h1,_⟩:=h;exact .lst h1
 |tuple ds=>simp only[bU] at h;obtain⟨a,xs,rfl,h1,_⟩:=h;exact .tup h1
 |dict ds=>simp only[bU] at h;obtain⟨_,a,rfl,h1⟩:=h;exact .dK h1
theorem qcU(d:PyData):W.kitAny K (.type (tyD d)) [.type "list",.type "tuple"]=some (Ld d):=by
 cases d <;> simp[W.kitAny,W.kitOne,tyD,Ld] <;> rfl
theorem qa2(d:PyData):W.kitOne K (.type (tyD d)) (.type "int")=some (intD d):=by
 cases d with
 |none=>exact zG K
 |bool b=>exact JR K
 |int i=>exact M_ K
 |str x=>exact M9 K
 |list ds=>exact JM K
 |tuple ds=>exact Gq K
 |dict ds=>exact JT K
theorem Xc(d:PyData):W.kitOne K (.type (tyD d)) (.type "bool")=some (qdU d):=by
 cases d with
 |none=>exact yq K
 |bool b=>exact Gs K
 |int i=>exact JQ K
 |str x=>exact JN K
 |list ds=>exact Gp K
 |tuple ds=>exact Dd K
 |dict ds=>exact Gu K
theorem qfK{H:Hp}{t:Addr}{ns:List Int}(h:Sq H t (ns.map V.int)):∃d,bU H d (.ref t)/\Ld d=true/\kids d=ns.map PyData.int:=by
 rcases h with h|h
 ·exact⟨.list (ns.map PyData.int),by simp only[bU];exact⟨t,_,rfl,h,aM.ints H ns⟩,rfl,rfl⟩
 ·exact⟨.tuple (ns.map PyData.int),by simp only[bU];exact⟨t,_,rfl,h,aM.ints H ns⟩,rfl,rfl⟩
theorem qa3{H:Hp}{d:PyData}{v:V}(h:bU H d v)(hs:Ld d=true):∃t xs,v = .ref t/\Sq H t xs/\aM H (kids d) xs:=by
 cases d with
 |list ds=>simp only[bU] at h;obtain⟨a,xs,rfl,h1,h2⟩:=h;exact⟨a,xs,rfl,.inl h1,h2⟩
 |tuple ds=>simp only[bU] at h;obtain⟨a,xs,rfl,h1,h2⟩:=h;exact⟨a,xs,rfl,.inr h1,h2⟩
 |_=>cases hs
def qcV(C:Addr):Sp:=λvs H Q _=>∃o xs ps,vs=[.ref o]/\iZ C H o xs ps/\Q (.int ps.length) H
theorem Bm(T:Txt K mg a):bV P w K mg base i_ 1 a.gC a.pP ["self"] (qcV a.b_):=by
 exists T.En.qL,Oz
 ·obtain⟨o,xs,ps,rfl,_⟩:=h;rfl
 ·obtain⟨o,xs,ps,rfl,⟨dx,n,m,tv,h1,h2,h3,h4,h5⟩,q⟩:=h;refine⟨_,(aF (aZ (aK (bY (K:=K) rfl) rfl T.nm.len qmi (aj (PE.eqv (JF (K:=K) rfl (aL 0) rfl) (Kc _ _ _)) ao)))),?_⟩;left;refine⟨_,_,_,h1,T.m5,T.Cm,_,rfl,_,.inr (eG.of h3),?_⟩;rw[h4.1];exact q
def PJ:Sp:=λvs H Q _=>∃(d:PyData)(v:V),vs=[v]/\bU H d v/\∀H',Same H H'->Q (.bl (Ld d)) H'
theorem PK(T:Txt K mg a):bV P w K mg base i_ 1 a.iQ a.oH ["thing"] PJ:=by
 exists T.jJ.qL,DR
 ·obtain⟨d,v,rfl,_⟩:=h;rfl
 ·obtain⟨d,v,rfl,hd,q⟩:=h;refine⟨_,(aF (aZ (aK (qab (K:=K) rfl) rfl T.nm.isinstance boot_isinstance (aj (aL 0) (aj (gb (aj (oX (v:=.ty "list") rfl T.nm.list boot_list rfl) (aj (oX (v:=.ty "tuple") rfl T.nm.tuple boot_tuple rfl) ao))) ao))))),?_⟩;left;refine λt ht=>⟨_,_,ak,_,Sh (bU.same (aq ht) d v hd),_,qcU d,q _ (aq ht)⟩
def PN:Sp:=λvs H Q _=>∃(d:PyData)(v:V),vs=[v]/\bU H d v/\Q (.bl (Le d)) H
theorem PX(T:Txt K mg a):bV P w K mg base i_ 1 a.iz a.pJ ["thing"] PN:=by
 exists T.wX.qL,Ou
 ·obtain⟨d,v,rfl,_⟩:=h;rfl
 ·obtain⟨d,v,rfl,hd,q⟩:=h;refine⟨_,(aF (aZ (BL (aK (Rm (K:=K) rfl) rfl T.nm.isinstance boot_isinstance (aj (aL 0) (aj (oX (v:=.ty "int") rfl T.nm.int Hj rfl) ao))) (Jl (qci (aK (Rm (K:=K) rfl) rfl T.nm.isinstance boot_isinstance (aj (aL 0) (aj (oX (v:=.ty "bool") rfl T.W6.bool QW rfl) ao)))))))),?_⟩;left;refine⟨_,Sh hd,_,qa2 d,?_⟩;cases hi:intD d with
  |false=>
   refine eX.neg rfl ?_;left;rw[show Le d=false by cases d <;> first|rfl|cases hi] at q
   exact q
  |true=>
   refine eX.pos rfl ?_;left;refine⟨_,Sh hd,_,Xc d,?_⟩;rw[show Le d = !qdU d by cases d <;> first|rfl|cases hi] at q
   exact q
def Ss:Sp:=λvs H Q _=>∃(d:PyData)(v:V),vs=[v]/\bU H d v/\Q (.bl (Vk d)) H
theorem Sv(T:Txt K mg a):bV P w K mg base i_ 2 a.jG a.sy ["thing"] Ss:=by
 exists T.zW.qL,R0
 ·obtain⟨d,v,rfl,_⟩:=h;rfl
 ·obtain⟨d,v,rfl,hd,q⟩:=h;refine⟨_,(aF (aZ (BL (PE.eqv (aO (PX T) hr.d rfl T.Ef T.wX.kp T.Ed .nil bA (aj (aL 0) ao)) (aJ _ _ _)) (Jl (Wq zK zK aG (aL 0) aG))))),?_⟩;left;refine⟨d,v,rfl,hd,?_⟩;cases hw:Le d with
  |false=>
   rw[show Vk d=false by cases d <;> first|rfl|cases hw] at q
   left;exact q
  |true=>
   obtain⟨i,rfl⟩:∃i,d = .int i:=by cases d <;> first|exact⟨_,rfl⟩|cases hw
   simp only[bU] at hd;subst hd;left;simp only[Vk] at q;refine eX.of (λh=>?_) (λh=>?_)
   ·rw[h] at q;left;exact q
   ·rw[h] at q;left;exact q
theorem jD:∀l:List Bool,pq (l.map V.bl) l
 |[]=>rfl
 |b::l=>⟨b,_,rfl,rfl,jD l⟩
def Fj(C:Addr):Sp:=λvs H Q _=>∃(o:Addr)(v:V)(d:PyData)(xs:QAH)(ps:QAD),vs=[.ref o,v]/\iZ C H o xs ps/\bU H d v/\ps.length<=20/\
 ∀H',Same H H'->Q (.bl (xT ps.length d)) H'
theorem uX(T:Txt K mg a):bV P w K mg base i_ 3 a.dU a.j7 ["web", "thing"] (Fj a.b_):=by
 exists T.mj.qL,DW
 ·obtain⟨o,v,d,xs,ps,rfl,_⟩:=h;rfl
 ·obtain⟨o,v,d,xs,ps,rfl,hw,hd,z6,q⟩:=h;refine⟨_,(aC (cP (PW.pt (vP (f9 (dJ (PE.eqv (aO (PK T) hr.d rfl T.nO T.jJ.kp T.nM .nil bA (aj (aL 1) ao)) (aJ _ _ _)))) (rB (aU mV (aK (bY (K:=K) rfl) rfl T.nm.len qmi (aj (aL 1) ao)) (PE.eqv (jd (aL 0) T.m5 T.xr (Bm T) hr.d T.wZ .nil bA) (jg _ _ _ _ _ _)) (bO _))))) (aF (aZ qM)) bC)
   (aF (aZ (aK (lq rfl) rfl T.nm.all kZ (aj (eE rfl rfl (show aY (aB lO) _ ["web", "thing"] ["one"] [] ["one"] from by rfl') rfl (PI.eqv (u_ (K:=K) rfl (aL 1)) (qT _ _)) (λC s H fp pn=>(aR (i:=0) (show(["one"]:QAH).Nodup by symm) rfl (Or.inl rfl))) (λC s H fp pn=>eV) (λC s H fp pn=>(PE.eqv (aO (Sv T) hr.d rfl T.Il T.zW.kp T.Ik .nil bA (aj (aL 0) ao)) (aJ _ _ _)))) ao))))),?_⟩
  left;refine⟨d,v,rfl,hd,λH1 s1=>?_⟩;cases hs:Ld d with
  |false=>
   left;have e:xT ps.length d=false:=by unfold xT;rw[hs];rfl
   rw[e] at q;exact q _ s1
  |true=>
   obtain⟨t,ys,rfl,hq,hall⟩:=qa3 hd hs;obtain⟨dx,fs,hi,hno⟩:=(hw.same s1).ins Cp.1 Cp.2;have hq1:=hq.same s1;have hlen:=hall.length;left;refine⟨_,hq1.q,_,_,hi,hno,o,xs,ps,rfl,hw.same s1,?_⟩;left
   by_cases hn:ys.length=ps.length
   ·refine⟨false,by simp[hn],eX.neg rfl ?_⟩;obtain⟨b,hb⟩:=hq1.b;left;refine⟨b,⟨_,hb K H1 (Same.refl _)⟩,λD hD=>cmQ ys (λi σ H'=>(∃o',σ=[o'])/\H' D=some (.lst ((((kids d).take i).map Vk).map V.bl))/\Same H1 H') ⟨⟨_,rfl⟩,ak,aq hD⟩ (λi σ H' _ h=>hb K H' h.2.2) ?_ ?_⟩
    ·rintro i x σ H2 hi ⟨⟨o',rfl⟩,hD2,s2⟩;have hi2:i<ys.length:=(ql2.mp hi).1;obtain⟨c,hc,hx⟩:=hall.at hi;left;refine⟨c,x,rfl,bU.same (s1.trans s2) c x hx,?_⟩;left;refine⟨_,hD2,by rw[ql9,ql9];exact zsz (Nat.lt_of_le_of_lt (List.length_take_le ..) hi2) (by rw[hn];exact z6),?_,bx s2 hD⟩;rw[ak,List.take_add_one,hc];simp
    ·rintro σ H2 ⟨⟨o',rfl⟩,hD2,s2⟩;left;refine⟨_,hD2,_,jD _,?_⟩;have e:xT ps.length d=(((kids d).take ys.length).map Vk).all id:=by
      unfold xT;rw[hs,<- hlen,qmv,qm0 (by rw[hlen];exact hn),List.all_map];rfl
     rw[<- e];exact q _ (s1.trans s2)
   ·refine⟨true,by simp;exact λz=>hn (Int.ofNat.inj z),eX.pos rfl ?_⟩;left;have e:xT ps.length d=false:=by unfold xT;rw[qmx (by rw[hlen];exact hn)];simp
    rw[e] at q;exact q _ s1
theorem Vl:∀{ns:List Int},(∀n∈ns,0<=n/\n<=1)->(ns.map PyData.int).all Vk=true
 |[],_=>rfl
 |n::ns,h=>by
  have h1:=h n qmr;rw[qmG,List.all_cons,Vl λm hm=>h m (qmp _ hm)];simp[Vk,h1]
theorem P0{d:PyData}{ns:List Int}(h1:Ld d=true)(h2:kids d=ns.map PyData.int)(h01:∀n∈ns,0<=n/\n<=1):xT ns.length d=true:=by
 unfold xT;rw[h1,h2,Vl h01];simp
def qcW(C:Addr)(H:Hp)(o t:Addr)(xs:QAH)(ps:QAD)(ns:List Int):Prop:=iZ C H o xs ps/\Sq H t (ns.map V.int)/\(∀n∈ns,0<=n/\n<=1)/\ns.length=ps.length/\ps.length<=20
def vN(C:Addr):Sp:=λvs H Q _=>∃(o t:Addr)(xs:QAH)(ps:QAD)(ns:List Int),vs=[.ref o,.ref t]/\qcW C H o t xs ps ns/\∀H',Same H H'->Q .non H'
theorem vO(T:Txt K mg a):bV P w K mg base i_ 4 a.bN a.dI ["web", "thing"] (vN a.b_):=by
 exists T.d9.qL,mZ
 ·obtain⟨o,t,xs,ps,ns,rfl,_⟩:=h;rfl
 ·obtain⟨o,t,xs,ps,ns,rfl,⟨hw,ht,h01,hl,z6⟩,q⟩:=h;refine⟨_,(aF (cP (f9 (dJ (PE.eqv (aO (uX T) hr.d rfl T.qD T.mj.kp T.qC .nil bA (aj (aL 0) (aj (aL 1) ao))) (aJ _ _ _)))) (aF qN) bC)),?_⟩;obtain⟨d,hd,hs,hk⟩:=qfK ht;left;refine⟨o,.ref t,d,xs,ps,rfl,hw,hd,z6,λH1 s1=>?_⟩;rw[<- hl,P0 hs hk h01];left;exact q _ s1
theorem Ja:∀(xs:List V)(n k:Nat),mO (nums n xs) (Sum.inl ((n+k:Nat):Int):Key)=xs[k]?
 |[],n,k=>by simp[nums,mO]
 |x::xs,n,0=>by rw[nums,yg (by simp)];rfl
 |x::xs,n,k+1=>by
  rw[nums,yh (by intro z;injection z with z;omega)];have:=Ja xs (n+1) k;rw[show n+1+k=n+(k+1) by omega] at this;rw[this];simp
def qhE(ns:List Int)(ps:QAD):List iM:=aH (λk=>ns[k]?) ps 0
def Xd(C:Addr):Sp:=λvs H Q _=>∃(o t:Addr)(xs:QAH)(ps:QAD)(ns:List Int),vs=[.ref o,.ref t]/\qcW C H o t xs ps ns/\
 ∀l tv H',H l=none->H' l=some (.lst tv)->cW H' tv (qhE ns ps)->tv.length<=40->Same H H'->Q (.ref l) H'
theorem Xe(T:Txt K mg a):bV P w K mg base i_ 5 a.mH a.vq ["web", "pointing"] (Xd a.b_):=by
 exists T.Eu.qL,W5
 ·obtain⟨o,t,xs,ps,ns,rfl,_⟩:=h;rfl
 ·obtain⟨o,t,xs,ps,ns,rfl,hp,q⟩:=h;refine⟨_,(aC (eU (PE.eqv (aO (vO T) hr.d rfl T.jA T.d9.kp T.jz .nil bA (aj (aL 0) (aj (aL 1) ao))) (aJ _ _ _)))
   (aF (aZ (PE.eqv (aO (oN T) hr.d rfl T.lY T.jl.kp T.lX .nil bA (aj (aL 0) (aj (Nq (K:=K) rfl rfl rfl T.W6.dict rfl T.W6.enumerate (aj (aL 1) ao)) ao))) (aJ _ _ _))))),?_⟩
  left;refine⟨o,t,xs,ps,ns,rfl,hp,λH1 s1=>?_⟩;obtain⟨hw,ht,h01,hl,z6⟩:=hp;left;refine⟨_,(ht.same s1).q,λd hd=>⟨o,d,xs,ps,(λk=>ns[k]?),rfl,hw.same (s1.trans (aq hd)),⟨_,ak,λk=>?_⟩,λl tv H2 hl hl2 hst h40 s2=>q l tv H2 (bQ (s1.trans (aq hd)) hl) hl2 hst h40 ((s1.trans (aq hd)).trans s2)⟩⟩;have:=Ja (ns.map V.int) 0 k;rw[qm7,qmw] at this;exact this
def uY(C N:Addr):Sp:=λvs H Q E=>∃(o:Addr)(v:V)(d:PyData)(xs:QAH)(ps:QAD),vs=[.ref o,v]/\iZ C H o xs ps/\bU H d v/\ps.length<=20/\
 ∀H',Same H H'->(xT ps.length d=true->Q .non H')/\(xT ps.length d=false->E (.ref N) none H')
theorem uZ(T:Txt K mg a):bV P w K mg base (Wz P w) 4 a.bN a.dI ["web", "thing"] (uY a.b_ a.aV):=by
 exists T.d9.qcw,mZ
 ·obtain⟨o,v,d,xs,ps,rfl,_⟩:=h;rfl
 ·obtain⟨o,v,d,xs,ps,rfl,hw,hd,z6,q⟩:=h;refine⟨_,(aF (cP (f9 (dJ (PE.eqv (aO (uX T) hr.d rfl T.qD T.mj.kp T.qC .nil bA (aj (aL 0) (aj (aL 1) ao))) (aJ _ _ _)))) (aF (N6 (E:=E) rJ rfl rfl T.gF rfl T.sV (aj eF ao))) bC)),?_⟩;left;refine⟨o,v,d,xs,ps,rfl,hw,hd,z6,λH1 s1=>?_⟩;cases hb:xT ps.length d with
  |true=>
   left;exact(q _ s1).1 hb
  |false=>
   left;exact(q _ s1).2 hb
theorem qcX{H:Hp}{d:PyData}{v:V}{n:Nat}(h:bU H d v)(hp:xT n d=true):∃(t:Addr)(ns:List Int),v = .ref t/\Sq H t (ns.map V.int)/\(∀m∈ns,0<=m/\m<=1)/\ns.length=n:=by
 unfold xT at hp;rw[qnf,qnf] at hp;obtain⟨h1,h2,h3⟩:=hp;obtain⟨t,ys,rfl,hq,hall⟩:=qa3 h h1;have key:∀(ds:List PyData)(ys:List V),aM H ds ys->ds.all Vk=true->∃ns:List Int,ys=ns.map V.int/\(∀m∈ns,0<=m/\m<=1)/\ns.length=ds.length:=by
  intro ds
  induction ds with
  |nil=>intro ys h _;exact⟨[],by simpa [aM] using h,by simp,rfl⟩
  |cons c ds ih=>
   intro ys h hl;rw[List.all_cons,qnf] at hl;simp only[aM] at h;obtain⟨x,r,rfl,hx,hr⟩:=h;obtain⟨ns,rfl,e2,e3⟩:=ih r hr hl.2;cases c with
   |int i=>
    simp only[bU] at hx;subst hx;have hi:0<=i/\i<=1:=by simpa [Vk] using hl.1
    refine⟨i::ns,rfl,λm hm=>?_,by simp[e3]⟩
    rcases qmd.mp hm with rfl|hm
    ·exact hi
    ·exact e2 m hm
   |_=>exact absurd hl.1 (by simp[Vk])
 obtain⟨ns,rfl,e2,e3⟩:=key _ _ hall h3;exact⟨t,ns,rfl,hq,e2,by rw[e3];exact qmj h2⟩
def tU(m k:Nat):Bool:=decide (m / 2 ^ k % 2=1)
theorem qcY:∀n:Nat,n<=9->∀m:Nat,m<512->1<=m->m+1<2 ^ n->(List.range n).any (tU m)=true/\(List.range n).all (tU m)=false:=by symm
theorem qa4{n m:Nat}(h9:n<=9)(h5:m<512)(h1:1<=m)(h2:m+1<2 ^ n):(∃k,k<n/\tU m k=true)/\∃k,k<n/\tU m k=false:=by
 obtain⟨a,b⟩:=qcY n h9 m h5 h1 h2;rw[qnB] at a;rw[List.all_eq_false] at b;obtain⟨k,hk,e⟩:=a;obtain⟨j,hj,f⟩:=b;exact⟨⟨k,qm_.mp hk,e⟩,⟨j,qm_.mp hj,by simpa using f⟩⟩
def m6(b:Nat->Bool)(xs:QAH):QAH:=(xs.zipIdx.filter λe=>b e.2).map (·.1)
theorem bits_sub(b:Nat->Bool)(xs:QAH):(m6 b xs).Sublist xs:=by
 have h:=List.Sublist.map (λe:Str×Nat=>e.1) (List.filter_sublist (p:=λe:Str×Nat=>b e.2) (l:=xs.zipIdx));rw[List.zipIdx_map_fst] at h;exact h
theorem qa5{b:Nat->Bool}{xs:QAH}{k:Nat}(hk:k<xs.length)(hb:b k=true):0<(m6 b xs).length:=by
 refine List.length_pos_of_mem (a:=xs[k]) ?_;unfold m6;rw[qmW];refine⟨(xs[k],k),?_,rfl⟩;rw[qm9];refine⟨?_,hb⟩;rw[qoj];simp[hk]
theorem qcZ{b:Nat->Bool}{xs:QAH}{k:Nat}(hk:k<xs.length)(hb:b k=false):(m6 b xs).length<xs.length:=by
 unfold m6;rw[ql9];have:(xs.zipIdx.filter λe=>b e.2).length<xs.zipIdx.length:=by
  rw[List.length_filter_lt_length_iff_exists];refine⟨(xs[k],k),?_,by simp[hb]⟩;rw[qoj];simp[hk]
 rwa [List.length_zipIdx] at this
theorem Jb{b:Nat->Bool}{l:QAH}{x:Str}:m6 b (l++[x])=m6 b l++if b l.length=true then [x] else []:=by
 unfold m6;rw[List.zipIdx_append,qnn,qnl]
 by_cases h:b l.length=true <;> simp[h]
theorem qc0{m n:Nat}(h:m<2 ^ n):tU m n=false:=by
 unfold tU;rw[Nat.div_eq_of_lt h];rfl
theorem qc1{m n:Nat}(h:m<2 ^ n):tU (2 ^ n+m) n=true:=by
 unfold tU;rw[Nat.add_div_left _ (Nat.two_pow_pos n),Nat.div_eq_of_lt h];rfl
theorem Sw{m n k:Nat}(h:k<n):tU (2 ^ n+m) k=tU m k:=by
 unfold tU;have e:2 ^ n=2 ^ k * (2 * 2 ^ (n - k - 1)):=by
  rw[<- Nat.mul_assoc,<- Nat.pow_succ,<- Nat.pow_add];congr 1;omega
 rw[e,Nat.mul_add_div (Nat.two_pow_pos k),Nat.mul_add_mod]
theorem Xf{b b':Nat->Bool}{xs:QAH}(h:∀k,k<xs.length->b k=b' k):m6 b xs=m6 b' xs:=by
 unfold m6;congr 1;refine List.filter_congr λe he=>?_;obtain⟨x,k⟩:=e;rw[qoj] at he;exact h k (ql2.mp he).1
def lG(xs:QAH):List (QAH):=(List.range (2 ^ xs.length)).map λm=>m6 (tU m) xs
theorem parts_nil:lG []=[[]]:=rfl
theorem Sx(l:QAH)(x:Str):lG (l++[x])=lG l++(lG l).map (·++[x]):=by
 unfold lG;rw[qmD,qol,Nat.pow_succ,Nat.mul_two,List.range_add,qnl,qn0,qn0];congr 1
 ·refine qnK λm hm=>?_;rw[Jb,qc0 (qm_.mp hm)];simp
 ·refine qnK λm hm=>?_;show m6 (tU (2 ^ l.length+m)) (l++[x])=m6 (tU m) l++[x];rw[Jb,qc1 (qm_.mp hm),Xf (b':=tU m) λk hk=>Sw hk];simp
def rA(xs:QAH):List (QAH):=(List.range (2 ^ xs.length - 2)).map λm=>m6 (tU (1+m)) xs
theorem z8(xs:QAH):(lG xs).length=2 ^ xs.length:=by simp[lG]
theorem u0(xs:QAH):(rA xs).length=2 ^ xs.length - 2:=by simp[rA]
theorem qc2{xs:QAH}{i:Nat}(h:i<2 ^ xs.length - 2):(rA xs)[i]? = some (m6 (tU (1+i)) xs):=by
 unfold rA;rw[qmw,List.getElem?_range h];rfl
theorem Sy{xs:QAH}:((lG xs).take (2 ^ xs.length - 1)).drop 1=rA xs:=by
 refine List.ext_getElem? λi=>?_;rw[List.getElem?_drop]
 by_cases h:i<2 ^ xs.length - 2
 ·rw[qc2 h,qn4 (by omega)];unfold lG;rw[qmw,List.getElem?_range (by omega)];rfl
 ·rw[List.getElem?_eq_none (by rw[qmk,z8];omega),List.getElem?_eq_none (by rw[u0];omega)]
theorem qa6{xs c:QAH}(h9:xs.length<=9)(h:c∈rA xs):c.Sublist xs/\0<c.length/\c.length<xs.length:=by
 unfold rA at h;obtain⟨m,hm,rfl⟩:=qmW.mp h;have hm:=qm_.mp hm;have p9:2 ^ xs.length<=2 ^ 9:=qoA (by decide) h9;obtain⟨⟨k1,hk1,hb1⟩,⟨k2,hk2,hb2⟩⟩:=qa4 (n:=xs.length) (m:=1+m) h9 (by omega) (by omega) (by omega);exact⟨bits_sub _ _,qa5 hk1 hb1,qcZ hk2 hb2⟩
def qkU(G H:Hp)(v:V)(c:QAH):Prop:=∃t,v = .ref t/\G t=none/\H t=some (.lst (c.map V.str))
def Lg(G H:Hp)(tv:List V)(cs:List (QAH)):Prop:=bH (qkU G) H tv cs
theorem Lg.same{G H H':Hp}{tv:List V}{cs:List (QAH)}(h:Lg G H tv cs)(s:Same H H'):Lg G H' tv cs:=⟨h.1,λi v c h1 h2=>by
 obtain⟨t,rfl,h0,ht⟩:=h.2 i v c h1 h2;exact⟨t,rfl,h0,s _ _ ht⟩⟩
def Lh:Sp:=λvs H Q _=>∃(n:Addr)(xs:QAH),vs=[.ref n]/\H n=some (.lst (xs.map V.str))/\xs.length<=9/\
 ∀(r:Addr)(tv:List V)(H':Hp),H r=none->H' r=some (.lst tv)->Lg H H' tv (lG xs)->Same H H'->Q (.ref r) H'
theorem Li(T:Txt K mg a):bV P w K mg base i_ 1 a.fZ a.nC ["points"] Lh:=by
 exists T.uP.qL,nA
 ·obtain⟨n,xs,rfl,_⟩:=h;rfl
 ·obtain⟨n,xs,rfl,hn,h9,q⟩:=h;refine⟨_,(aC (bG (i:=1) nA.nd rfl (Or.inl rfl) (cI (aj (cI ao) ao)))
   (aC (kO qmZ rfl (PI.eqv (cJ (K:=K) rfl (aL 0)) (bT _ _)) (aR (i:=2) nA.nd rfl (Or.inr rfl))
   (aF (bG (i:=1) nA.nd rfl (Or.inl rfl) (cB lM (aL 1) (eE rfl rfl (show aY (aB pG) _ ["points", "parts", "point"] ["part"] [2] ["part", "point"] from by rfl') rfl (PI.eqv (cJ (K:=K) rfl (aL 1)) (bT _ _)) (λC s H fp pn=>(aR (i:=0) (show(["part", "point"]:QAH).Nodup by symm) rfl (Or.inl rfl))) (λC s H fp pn=>eV) (λC s H fp pn=>(cB lM (aL 0) (cI (aj (aL 1) ao)))))))))
   (aF (aZ (aL 1))))),?_⟩
  have qfL:600<sizeLine:=by decide
  left;intro p hp;exists H,p,(.lst []),s1,e1,H1,hp;intro r hr;exists H1,r,(.lst [.ref p]),s2,e2,H2,hr;have S2:=s1.trans s2;refine⟨⟨_,aW.of (S2 _ _ hn)⟩,frL (xs.map V.str) (λi σ H'=>(∃rp o2,σ=[some (.ref n),some (.ref rp),o2]/\H rp=none/\∃tv,H' rp=some (.lst tv)/\Lg H H' tv (lG (xs.take i)))/\Same H H') ⟨⟨r,none,rfl,s1.free hr,_,e2,?_⟩,S2⟩ (λi σ H' _ h=>aW.of (h.2 _ _ hn)) ?_ ?_⟩
  ·exact⟨rfl,λi v c h1 h2=>by
    cases i with
    |succ i=>simp at h1
    |zero=>
     simp at h1;rw[qob,parts_nil] at h2;simp at h2;subst h1 h2;exact⟨p,rfl,hp,s2 _ _ e1⟩⟩
  ·rintro i v σ H3 hi ⟨⟨rp,o2,rfl,qhF,tv,hrp,hN⟩,s3⟩;obtain⟨y,hy,rfl⟩:=um hi;have hi9:i<xs.length:=(ql2.mp hy).1;have hlt:tv.length=2 ^ i:=by
    have:=hN.1;rw[z8,qmk,qnm (by omega)] at this;exact this
   have p8:2 ^ i<=2 ^ 8:=qoA (by decide) (by omega);rw[take_one hy,Sx];have h9c:∀c∈lG (xs.take i),c.length<=9:=λc hc=>by
    obtain⟨m,_,rfl⟩:=qmW.mp hc;have:=(bits_sub (tU m) (xs.take i)).length_le;rw[qmk] at this;omega
   generalize hC:lG (xs.take i)=cs at hN h9c⊢;left;refine⟨⟨_,aW.of hrp⟩,λD hD=>Wh tv (λj σ H'=>(∃o1,σ=[o1,some (.str y)])/\(∃uv,H' D=some (.lst uv)/\bH (λH' v c=>∃t,v = .ref t/\H t=none/\t≠D/\H' t=some (.lst (c.map V.str))) H' uv ((cs.take j).map (·++[y])))/\Same H3 H') ⟨⟨_,rfl⟩,⟨[],ak,bH.nil⟩,aq hD⟩ (λi σ H' _ h=>aW.of (h.2.2 _ _ hrp)) ?_ ?_⟩
   ·rintro j v σ H4 hj ⟨⟨o1,rfl⟩,⟨uv,tY,hA⟩,s4⟩;have hj2:j<tv.length:=(ql2.mp hj).1;obtain⟨c,hc,t,rfl,ht0,ht⟩:=bH.at hN hj;have hul:uv.length=j:=by
     have:=hA.1;have hcl:=hN.1;rw[ql9,qmk] at this;omega
    have ht4:=s4 _ _ ht;left;intro p5 hp5;exists H4,p5,(.lst [.str y]),s5,e5,H5,hp5;have hc9:=h9c c (ql_ hc);refine⟨_,s5 _ _ ht4,_,e5,by simp;omega,λp6 hp6=>?_⟩;exists H5,p6,(.lst (c.map V.str++[.str y])),s6,e6,H6,hp6;have hD6:=(s5.trans s6) _ _ tY;have p6D:p6≠D:=λz=>by rw[z,s5 _ _ tY] at hp6;cases hp6
    refine⟨uv,hD6,by omega,⟨_,ak,?_⟩,bx (s4.trans (s5.trans s6)) hD⟩;rw[take_one hc,qnl];refine bH.snoc (bH.keep hA ?_) ⟨p6,rfl,(s3.trans (s4.trans s5)).free hp6,p6D,by rw[aD p6D,e6];simp⟩;rintro v b ⟨t,rfl,h0,hne,ht⟩;exact⟨t,rfl,h0,hne,by rw[aD hne];exact(s5.trans s6) _ _ ht⟩
   ·rintro σ H4 ⟨⟨o1,rfl⟩,⟨uv,tY,hA⟩,s4⟩;rw[hN.1,qmv] at hA;have hul:uv.length=cs.length:=by rw[hA.1,ql9]
    have hcl:=hN.1;left;refine⟨_,s4 _ _ hrp,_,tY,by omega,λp5 hp5=>⟨⟨(s3.trans s4).free hp5,_,ak,?_⟩,(s3.trans s4).trans (aq hp5)⟩⟩;have s5:Same H4 (upd H4 p5 (.lst (tv++uv))):=aq hp5;generalize upd H4 p5 (.lst (tv++uv))=H5 at s5⊢;refine⟨by simp[hN.1,hA.1],λk v c h1 h2=>?_⟩
    by_cases hk:k<tv.length
    ·rw[qms hk] at h1;rw[qms (by omega)] at h2;obtain⟨t,rfl,h0,ht⟩:=hN.2 k v c h1 h2;exact⟨t,rfl,h0,(s4.trans s5) _ _ ht⟩
    ·rw[qmu (by omega)] at h1;rw[qmu (by omega),<- hcl] at h2;obtain⟨t,rfl,h0,_,ht⟩:=hA.2 _ v c h1 h2;exact⟨t,rfl,h0,s5 _ _ ht⟩
  ·rintro σ H3 ⟨⟨rp,o2,rfl,qhF,tv,hrp,hN⟩,s3⟩;rw[ql9,qmv] at hN;left;exact q rp tv H3 qhF hrp hN s3
theorem qa7{xs:List V}:mC xs (some 1) (some (-1))=(xs.take (xs.length - 1)).drop 1:=by
 unfold mC;have e1:HT.uf xs.length 0 (some 1)=min 1 xs.length:=by
  unfold HT.uf;simp
  try omega
 have e2:HT.uf xs.length xs.length (some (-1))=xs.length - 1:=by
  unfold HT.uf;simp
  try omega
 rw[e1,e2,List.drop_take];cases xs with
 |nil=>rfl
 |cons x xs=>
  rw[qnm (by simp)]
def P_(C:Addr):Sp:=λvs H Q _=>∃(o:Addr)(xs:QAH)(ps:QAD),vs=[.ref o]/\iZ C H o xs ps/\xs.length<=9/\
 ∀(r:Addr)(tv:List V)(H':Hp),H r=none->H' r=some (.lst tv)->Lg H H' tv (rA xs)->Same H H'->Q (.ref r) H'
theorem Qa(T:Txt K mg a):bV P w K mg base i_ 2 a.iC a.pQ ["web"] (P_ a.b_):=by
 exists T.xg.qL,OD
 ·obtain⟨o,xs,ps,rfl,_⟩:=h;rfl
 ·obtain⟨o,xs,ps,rfl,hw,h9,q⟩:=h;refine⟨_,(aF (aZ (jO (yM (K:=K) rfl) (PE.eqv (aO (Li T) hr.d rfl T.Bd T.uP.kp T.Bc .nil bA (aj (PE.eqv (jd (aL 0) T.m5 T.iT (jm T) hr.d T.iR .nil bA) (jg _ _ _ _ _ _)) ao)) (aJ _ _ _)) (PO.eqv (lK aG) (jh _)) (PO.eqv (lK (Yy J0 aG)) (jh _))))),?_⟩;have qfL:600<sizeLine:=by decide
  obtain⟨dx,fs,hin,hno⟩:=hw.ins gQ.1 gQ.2;left;refine⟨dx,fs,hin,hno,o,xs,ps,rfl,hw,λn hn=>?_⟩;exists H,n,(.lst (xs.map V.str)),s1,e1,H1,hn;left;refine⟨n,xs,rfl,e1,h9,λr tv H2 hr e2 hN s2=>?_⟩;left;have tl:tv.length=2 ^ xs.length:=by rw[hN.1,z8]
  refine⟨_,aW.of e2,λp3 hp3=>?_⟩;exists H2,p3,(.lst (mC tv (some 1) (some (-1)))),s3,e3,H3,hp3;refine q p3 _ H3 ((s1.trans s2).free hp3) e3 ?_ (s1.trans (s2.trans s3));rw[qa7,tl,<- Sy];refine⟨by rw[List.length_drop,qmk,List.length_drop,qmk,hN.1],λk v c h1 h2=>?_⟩;rw[List.getElem?_drop] at h1 h2;have hk:1+k<2 ^ xs.length - 1:=by
   have:=(ql2.mp h1).1;rw[qmk] at this;omega
  rw[qn4 hk] at h1 h2;obtain⟨t,rfl,h0,ht⟩:=hN.2 _ v c h1 h2;exact⟨t,rfl,s1.free h0,s3 _ _ ht⟩
def Fl(c:QAH)(st:iM):Bool:=decide (¬st.2.1∈c/\st.2.2∈c)
def GZ:Sp:=λvs H Q _=>∃(s l:Addr)(tv:List V)(S:List iM)(c:QAH),vs=[.ref s,.ref l]/\H s=some (.lst tv)/\cW H tv S/\H l=some (.lst (c.map V.str))/\tv.length<=40/\
 ∀(r:Addr)(Vm:List V)(H':Hp),H r=none->H' r=some (.lst Vm)->Vm.length=(S.filter (Fl c)).length->Same H H'->Q (.ref r) H'
theorem G3(T:Txt K mg a):bV P w K mg base i_ 1 a.fj a.lW ["steps", "lot"] GZ:=by
 exists T.sJ.qL,GC
 ·obtain⟨s,l,tv,S,c,rfl,_⟩:=h;rfl
 ·obtain⟨s,l,tv,S,c,rfl,hs,hS,hl,h40,q⟩:=h;refine⟨_,(aF (aZ (eE rfl rfl (show aY (aB nj) _ ["steps", "lot"] ["step"] [1] ["step", "lot"] from by rfl') rfl (PI.eqv (cJ (K:=K) rfl (aL 0)) (bT _ _)) (λC s H fp pn=>(aR (i:=0) (show(["step", "lot"]:QAH).Nodup by symm) rfl (Or.inl rfl))) (λC s H fp pn=>(o_ (PW.pt (zu (aU (yK (K:=K) rfl) (bR (cj (K:=K) rfl) (aL 0) aG (λ_ _=>rfl)) (aL 1) rfl) (Bx (aU (Gv (K:=K) rfl) (bR (cj (K:=K) rfl) (aL 0) aG (λ_ _=>rfl)) (aL 1) rfl)))))) (λC s H fp pn=>(aL 0))))),?_⟩;have s60:60<=sizeLine:=by decide
  left;refine⟨⟨_,aW.of hs⟩,λD hD=>Wh tv (λi σ H'=>(∃o',σ=[o',some (.ref l)])/\(∃Vm,H' D=some (.lst Vm)/\Vm.length=((S.take i).filter (Fl c)).length)/\Same H H') ⟨⟨_,rfl⟩,⟨[],ak,rfl⟩,aq hD⟩ (λi σ H' _ h=>aW.of (h.2.2 _ _ hs)) ?_ ?_⟩
  ·rintro i x σ H2 hi ⟨⟨o',rfl⟩,⟨Vm,hD2,hl2⟩,s2⟩;obtain⟨st,hst,t,rfl,ht⟩:=hS.at hi;have hi2:i<S.length:=(ql2.mp hst).1;have Yh:=s2 _ _ ht;have hll:=s2 _ _ hl;have hle:((S.take i).filter (Fl c)).length<=(S.take i).length:=qnA _ _;rw[qmk,<- hS.1] at hle;rw[take_one hst,qnn];left;have d1:inV (.str st.2.1) (c.map V.str) = !decide (¬st.2.1∈c):=by rw[bK];simp
   refine⟨_,.inr (eG.of Yh),_,bD (j:=1) rfl,_,.inl (aW.of hll),rfl,qmn.mp (cu _),_,d1,eX.of (λh=>?_) (λh=>?_)⟩
   ·have h':¬st.2.1∈c:=qmj h;left;refine⟨_,.inr (eG.of Yh),_,bD (j:=2) rfl,_,.inl (aW.of hll),rfl,qmn.mp (cu _),?_⟩;rw[bK];refine eX.of (λh2=>?_) (λh2=>?_)
    ·have h2':st.2.2∈c:=qmj h2;left;refine⟨_,hD2,by omega,⟨_,ak,?_⟩,bx s2 hD⟩;simp[Fl,h',h2',hl2]
    ·have h2':¬st.2.2∈c:=qmL h2;left;refine⟨⟨_,hD2,?_⟩,s2⟩;simp[Fl,h',h2',hl2]
   ·have h':st.2.1∈c:=by simpa using h
    left;refine⟨⟨_,hD2,?_⟩,s2⟩;simp[Fl,h',hl2]
  ·rintro σ H2 ⟨⟨o',rfl⟩,⟨Vm,hD2,hl2⟩,s2⟩;rw[hS.1,qmv] at hl2;left;exact q D Vm H2 hD hD2 hl2 s2
def Xg(C:Addr):Sp:=λvs H Q _=>∃(o p:Addr)(xs c:QAH)(ps:QAD),vs=[.ref o,.ref p]/\iZ C H o xs ps/\Qt xs/\Sq H p (c.map V.str)/\c.Nodup/\(∀x∈c,x∈xs)/\0<c.length/\c.length<xs.length/\
 ∀(r:Addr)(H':Hp),H r=none->H' r=some (.lst ((xs.filter λy=>decide (y∈c)).map V.str))->Same H H'->Q (.ref r) H'
theorem Xh(T:Txt K mg a):bV P w K mg base i_ 2 a.mG a.vp ["web", "points"] (Xg a.b_):=by
 exists T.Eo.qL,Ij
 ·obtain⟨o,p,xs,c,ps,rfl,_⟩:=h;rfl
 ·obtain⟨o,p,xs,c,ps,rfl,hw,hX,hp,hcn,hcx,hc0,hc9,q⟩:=h;refine⟨_,(aC (cP (PW.pt (vP (f9 (dJ (PE.eqv (aO (sW T) hr.d rfl T.nO T.jJ.kp T.nM .nil bA (aj (aL 1) ao)) (aJ _ _ _)))) (rB (f9 (dJ (aK (lq rfl) rfl T.nm.all kZ (aj (eE rfl rfl (show aY (aB uH) _ ["web", "points", "lot"] ["point"] [] ["point"] from by rfl') rfl (PI.eqv (u_ (K:=K) rfl (aL 1)) (qT _ _)) (λC s H fp pn=>(aR (i:=0) (show(["point"]:QAH).Nodup by symm) rfl (Or.inl rfl))) (λC s H fp pn=>eV) (λC s H fp pn=>(PE.eqv (aO (xu T) hr.d rfl T.vC T.qX.kp T.vB .nil bA (aj (aL 0) ao)) (aJ _ _ _)))) ao))))))) (aF qN) bC)
   (aC (jr (i:=2) Ij.nd rfl rfl rfl rfl (show aY (aB uH) _ ["web", "points", "lot"] ["point"] [1] ["point", "points"] from by rfl') rfl (PI.eqv (cJ (K:=K) rfl (PE.eqv (jd (aL 0) T.m5 T.iT (jm T) hr.d T.iR .nil bA) (jg _ _ _ _ _ _))) (bT _ _)) (λC s H fp pn=>(aR (i:=0) (show(["point", "points"]:QAH).Nodup by symm) rfl (Or.inl rfl))) (λC s H fp pn=>(o_ (aU (Gv (K:=K) rfl) (aL 0) (aL 1) rfl))) (λC s H fp pn=>(aL 0)))
   (aC (cP (aU mV (aK (bY (K:=K) rfl) rfl T.nm.len qmi (aj (aL 2) ao)) (aK (bY (K:=K) rfl) rfl T.nm.len qmi (aj (aL 1) ao)) (bO _)) (aF qN) bC)
   (aC (cP (PW.pt (vP (aU mU (aK (bY (K:=K) rfl) rfl T.nm.len qmi (aj (aL 2) ao)) aG (bO _)) (rB (aU mU (aK (bY (K:=K) rfl) rfl T.nm.len qmi (aj (aL 2) ao)) (aK (bY (K:=K) rfl) rfl T.nm.len qmi (aj (PE.eqv (jd (aL 0) T.m5 T.iT (jm T) hr.d T.iR .nil bA) (jg _ _ _ _ _ _)) ao)) (bO _))))) (aF qN) bC)
   (aF (aZ (aL 2))))))),?_⟩
  have s20:=qnC yj;have l9:=hX.len;have hfl:=Rf hX.nd hcn hcx;left;refine⟨p,_,rfl,hp,λH1 s1=>?_⟩;left;obtain⟨b,hb⟩:=(hp.same s1).b;refine⟨b,⟨_,hb K H1 (Same.refl _)⟩,λD hD=>cmQ (c.map V.str) (λi σ H'=>(∃o',σ=[o'])/\H' D=some (.lst (List.replicate i (.bl true)))/\Same H1 H') ⟨⟨_,rfl⟩,ak,aq hD⟩ (λi σ H' _ h=>hb K H' h.2.2) ?_ ?_⟩
  ·rintro i x σ H2 hi ⟨⟨o',rfl⟩,hD2,s2⟩;obtain⟨y,hy,rfl⟩:=um hi;have hi2:i<c.length:=(ql2.mp hy).1;have hn:=hX.nm y (hcx y (ql_ hy));left;refine⟨y,rfl,xG hn,λH3 s3=>?_⟩;rw[hn];left;refine⟨_,s3 _ _ hD2,by simp;omega,?_,bx (s2.trans s3) hD⟩;rw[ak,qoz]
  ·rintro σ H2 ⟨⟨o',rfl⟩,hD2,s2⟩;have sH2:=s1.trans s2;left;refine⟨_,hD2,_,rm _,?_⟩;rw[show(List.replicate (c.map V.str).length true).all id=true by simp];obtain⟨dx,fs,hi,hno⟩:=(hw.same sH2).ins gQ.1 gQ.2;left;refine⟨_,_,hi,hno,o,xs,ps,rfl,hw.same sH2,λl2 hl2=>?_⟩;exists H2,l2,(.lst (xs.map V.str)),s3,e2,H3,hl2;have sH3:=sH2.trans s3;left;refine⟨⟨_,aW.of e2⟩,λD2 hD2=>Wh (xs.map V.str) (λi σ H'=>(∃o',σ=[o',some (.ref p)])/\H' D2=some (.lst (((xs.take i).filter λy=>decide (y∈c)).map V.str))/\Same H3 H') ⟨⟨_,rfl⟩,ak,aq hD2⟩ (λi σ H' _ h=>aW.of (h.2.2 _ _ e2)) ?_ ?_⟩
   ·rintro i x σ H4 hi ⟨⟨o',rfl⟩,tY,s4⟩;obtain⟨y,hy,rfl⟩:=um hi;have hi2:i<xs.length:=(ql2.mp hy).1;left;refine⟨_,(hp.same (sH3.trans s4)).q,rfl,qmn.mp (cu _),?_⟩;rw[bK,take_one hy,qnn];have qkV:((xs.take i).filter λy=>decide (y∈c)).length<=(xs.take i).length:=qnA _ _;rw[qmk] at qkV;refine eX.of (λh=>?_) (λh=>?_)
    ·have h':y∈c:=qmj h;left;refine⟨_,tY,by simp;omega,?_,bx s4 hD2⟩;rw[ak];simp[h']
    ·have h':¬y∈c:=qmL h;left;refine⟨?_,s4⟩;rw[tY];simp[h']
   ·rintro σ H4 ⟨⟨o',rfl⟩,tY,s4⟩;rw[ql9,qmv] at tY;have sH4:=sH3.trans s4;left;refine⟨_,.inl (aW.of tY),_,(hp.same sH4).q,false,by simp[hfl],eX.neg rfl ?_⟩;left;refine⟨_,.inl (aW.of tY),eX.neg (qmx λz=>?_) ?_⟩
    ·have z2:=qmA List.length z;rw[ql9,hfl,qoh] at z2;omega
    obtain⟨dx,fs,hi,hno⟩:=(hw.same sH4).ins gQ.1 gQ.2;left;refine⟨_,.inl (aW.of tY),_,_,hi,hno,o,xs,ps,rfl,hw.same sH4,λl5 hl5=>?_⟩;have s5:Same H4 (upd H4 l5 (.lst (xs.map V.str))):=aq hl5;left;refine⟨_,.inl (aW.of ak),eX.neg (by simp only[ql9,hfl];exact qmx (by omega)) ?_⟩;left;exact q D2 _ (bQ sH3 hD2) (s5 _ _ tY) (sH4.trans s5)
def Qc(C:Addr):Sp:=λvs H Q _=>∃(o p:Addr)(xs c:QAH)(ps:QAD),vs=[.ref o,.ref p]/\iZ C H o xs ps/\Qt xs/\uU xs ps/\Sq H p (c.map V.str)/\c.Nodup/\(∀x∈c,x∈xs)/\0<c.length/\c.length<xs.length/\
 ∀(r:Addr)(H':Hp),H r=none->H' r=some (.lst ((uw c ps).map λn:Nat=>V.int n))->Same H H'->Q (.ref r) H'
theorem Qd(T:Txt K mg a):bV P w K mg base i_ 3 a.iD a.pR ["web", "lot"] (Qc a.b_):=by
 exists T.xq.qL,uJ
 ·obtain⟨o,p,xs,c,ps,rfl,_⟩:=h;rfl
 ·obtain⟨o,p,xs,c,ps,rfl,hw,hX,hTs,hp,hcn,hcx,hc0,hc9,q⟩:=h;refine⟨_,(aC (bG (i:=2) uJ.nd rfl (Or.inr rfl) (PE.eqv (aO (Xh T) hr.d rfl T.O4 T.Eo.kp T.O2 .nil bA (aj (aL 0) (aj (aL 1) ao))) (aJ _ _ _)))
   (aC (bG (i:=3) uJ.nd rfl (Or.inl rfl) (PE.eqv (jd (aL 0) T.m5 T.sU (uV T) hr.d T.sI .nil bA) (jg _ _ _ _ _ _)))
   (aF (aZ (eE rfl rfl (show aY (aB rT) _ ["web", "lot", "inside", "ties"] ["number", "first", "second"] [2] ["number", "first", "second", "inside"] from by rfl') rfl (PI.eqv (JL (K:=K) rfl rfl T.W6.enumerate (aj (aL 3) ao)) (zL _ _)) (λC s H fp pn=>(PG.eqv (gV (K:=K) (n:=2) rfl rfl (lH.eqv (bJ (aR (i:=0) (show(["number", "first", "second", "inside"]:QAH).Nodup by symm) rfl (Or.inl rfl)) (lH.eqv (bJ (PG.eqv (gV (K:=K) (n:=2) rfl rfl (lH.eqv (bJ (aR (i:=1) (show(["number", "first", "second", "inside"]:QAH).Nodup by symm) rfl (Or.inl rfl)) (lH.eqv (bJ (aR (i:=2) (show(["number", "first", "second", "inside"]:QAH).Nodup by symm) rfl (Or.inl rfl)) (lH.mono gU jU)) (bL _ _))) (bL _ _))) (gW _ _ _)) (lH.mono gU jU)) (bL _ _))) (bL _ _))) (gW _ _ _))) (λC s H fp pn=>(o_ (aU mV (lJ (Gv (K:=K) rfl) (aL 1) (aL 3) rfl) (lJ (Gv (K:=K) rfl) (aL 2) (aL 3) rfl) (bO _)))) (λC s H fp pn=>(aL 0))))))),?_⟩
  have s50:50<=sizeLine:=by decide
  have z6:=hTs.len;left;refine⟨o,p,xs,c,ps,rfl,hw,hX,hp,hcn,hcx,hc0,hc9,λr H1 hr0 hr1 s1=>?_⟩;obtain⟨dx,fs,hi,hno⟩:=(hw.same s1).ins vJ.1 vJ.2;left;refine⟨_,_,hi,hno,o,xs,ps,rfl,hw.same s1,λl2 wB hl2 qaY=>?_⟩;have s2:Same H1 (upd H1 l2 (.lst wB)):=aq hl2;have e2:upd H1 l2 (.lst wB) l2=some (.lst wB):=ak;have z7:=bF.same qaY s2;have hr2:=s2 _ _ hr1;generalize upd H1 l2 (.lst wB)=H2 at s2 e2 z7 hr2⊢;left;refine⟨⟨_,aW.of e2⟩,λD hD=>cmE wB (λi σ H'=>(∃o1 o2 o3,σ=[o1,o2,o3,some (.ref r)])/\H' D=some (.lst ((mR (nZ c) (ps.take i) 0).map λn:Nat=>V.int n))/\Same H2 H') ⟨⟨_,_,_,rfl⟩,ak,aq hD⟩ (λi σ H' _ h=>aW.of (h.2.2 _ _ e2)) ?_ ?_⟩
  ·rintro i x t σ H3 hi ht ⟨⟨o1,o2,o3,rfl⟩,Di,s3⟩;obtain⟨e,he,tt,rfl,htt⟩:=z7.at hi;obtain⟨q1,q2,_⟩:=hTs.ok e (ql_ he);have hi2:i<ps.length:=(ql2.mp he).1;have hcl:(mR (nZ c) (ps.take i) 0).length<=20:=by
    have h1:=yC (Dg c) (ps.take i) 0;rw[qmk] at h1;omega
   have st:Same H3 (upd H3 t (.tup [.int i,.ref tt])):=aq ht;rw[Hu _ he];left;refine⟨_,eG.of ak,rfl,_,eG.of (st _ _ (s3 _ _ htt)),rfl,?_⟩;have W_:=st _ _ (s3 _ _ hr2);have tY:=st _ _ Di;have s4:=s3.trans st;generalize upd H3 t (.tup [.int i,.ref tt])=H4 at W_ tY s4⊢;refine⟨_,.inl (aW.of W_),rfl,qmn.mp (cu _),_,.inl (aW.of W_),rfl,qmn.mp (cu _),?_⟩;rw[bK,bK];have m1:(e.1∈xs.filter λy=>decide (y∈c))↔e.1∈c:=by simp[q1]
   have m2:(e.2∈xs.filter λy=>decide (y∈c))↔e.2∈c:=by simp[q2]
   by_cases hif:e.1∈c↔e.2∈c
   ·have ef:nZ c e i=[]:=by unfold nZ;rw[if_pos hif]
    refine⟨false,by simp only[m1,m2,hif];simp,eX.neg rfl ?_⟩;rw[ef,qmz];left;exact⟨tY,s4⟩
   ·have ef:nZ c e i=[i]:=by unfold nZ;rw[if_neg hif]
    refine⟨true,?_,eX.pos rfl ?_⟩
    ·simp only[m1,m2];simp;exact λz=>hif z
    rw[ef];left;refine⟨_,tY,by simp;omega,?_,bx s4 hD⟩;rw[ak]
  ·rintro σ H3 ⟨⟨o1,o2,o3,rfl⟩,Di,s3⟩;rw[z7.1,qmv] at Di;left;exact q D H3 (bQ (s1.trans s2) hD) Di ((s1.trans s2).trans s3)
abbrev G4:Pos:=⟨192,67,192,90⟩
abbrev G5:Str:= "shut_cuts" ++ ".<locals>." ++ "<lambda>"
def Qe(G H:Hp)(v:V)(z:List Nat×QAH):Prop:=∃u p q,v = .ref u/\H u=some (.tup [.ref p,.ref q])/\H p=some (.lst (z.1.map λn:Nat=>V.int n))/\G q=none/\H q=some (.lst (z.2.map V.str))
def gG(G H:Hp)(vs:List V)(zs:List (List Nat×QAH)):Prop:=bH (Qe G) H vs zs
theorem Qe.keep{G H H':Hp}{v:V}{z:List Nat×QAH}(h:Qe G H v z)(k:∀b o,(∀ps,o≠.xR ps)->H b=some o->H' b=some o):Qe G H' v z:=by
 obtain⟨u,p,q,e,h1,h2,h3,h4⟩:=h;exact⟨u,p,q,e,k _ _ (by simp) h1,k _ _ (by simp) h2,h3,k _ _ (by simp) h4⟩
theorem Qe.same{G H H':Hp}{v:V}{z:List Nat×QAH}(h:Qe G H v z)(k:Same H H'):Qe G H' v z:=h.keep λb o _ e=>k b o e
theorem gG.same{G H H':Hp}{vs:List V}{zs:List (List Nat×QAH)}(h:gG G H vs zs)(k:Same H H'):gG G H' vs zs:=bH.keep h λ_ _ x=>x.same k
theorem Jc{H H':Hp}{vs:List V}{S:List iM}(h:cW H vs S)(k:Same H H'):cW H' vs S:=bH.keep h λv s ⟨t,e,z⟩=>⟨t,e,k _ _ z⟩
def Fo(D:Addr)(H:Hp):Hp:=λb=>if b=D then none else H b
theorem qa8{D:Addr}{H:Hp}{o:HO}:Fo D (upd H D o)=Fo D H:=by
 funext b
 unfold Fo
 by_cases h:b=D
 ·rw[if_pos h,if_pos h]
 ·rw[if_neg h,if_neg h,aD h]
theorem Xi{D:Addr}{H H':Hp}(s:Same H H'):Same (Fo D H) (Fo D H'):=λb o e=>by
 unfold Fo at e⊢
 by_cases h:b=D
 ·rw[if_pos h] at e;cases e
 ·rw[if_neg h] at e⊢;exact s b o e
theorem qc3{D:Addr}{H:Hp}:Same (Fo D H) H:=λb o e=>by
 unfold Fo at e
 by_cases h:b=D
 ·rw[if_pos h] at e;cases e
 ·rw[if_neg h] at e;exact e
theorem Lj{D b:Addr}{H:Hp}{o:HO}(h:b≠D)(e:H b=some o):Fo D H b=some o:=by
 unfold Fo;rw[if_neg h];exact e
def Jd(ns:List Int)(ps:QAD)(c:QAH):Bool:=decide (((qhE ns ps).filter (Fl c)).length=0)
def Je(xs:QAH)(ps:QAD)(ns:List Int):List (List Nat×QAH):=((rA xs).filter (Jd ns ps)).map λc=>(uw c ps,c)
theorem Qf:∀{uv:List V},(∀v∈uv,∃t,v = .ref t)->∃as:List Addr,uv=as.map V.ref
 |[],_=>⟨[],rfl⟩
 |v::uv,h=>by
  obtain⟨t,rfl⟩:=h v qmr;obtain⟨as,rfl⟩:=Qf (uv:=uv) λu hu=>h u (qmp _ hu);exact⟨t::as,rfl⟩
theorem qa9{β:Type}{R:Hp->V->β->Prop}{H:Hp}{us vs:List V}{zs:List β}(h:bH R H vs zs)(p:us.Perm vs):∃ys,ys.Perm zs/\bH R H us ys:=by
 have key:∀{us vs:List V},us.Perm vs->∀{zs:List β},bH R H vs zs->∃ys,ys.Perm zs/\bH R H us ys:=by
  have qa_:∀{v:V}{vs:List V}{zs:List β},bH R H (v::vs) zs->∃z r,zs=z::r/\R H v z/\bH R H vs r:=by
   rintro v vs zs ⟨h1,h2⟩;cases zs with
   |nil=>simp at h1
   |cons z r=>exact⟨z,r,rfl,h2 0 v z rfl rfl,by simpa using h1,λi u y a b=>h2 (i+1) u y (by simpa using a) (by simpa using b)⟩
  have mk:∀{v:V}{vs:List V}{z:β}{r:List β},R H v z->bH R H vs r->bH R H (v::vs) (z::r):=by
   rintro v vs z r a ⟨b1,b2⟩;refine⟨by simp[b1],λi u y hu hy=>?_⟩;cases i with
   |zero=>
    simp at hu hy;subst hu hy;exact a
   |succ i=>exact b2 i u y (by simpa using hu) (by simpa using hy)
  intro us vs p
  induction p with
  |nil=>intro zs h;exact⟨zs,.refl _,h⟩
  |cons x _ ih=>
   intro zs h;obtain⟨z,r,rfl,a,b⟩:=qa_ h;obtain⟨ys,p1,p2⟩:=ih b;exact⟨z::ys,p1.cons z,mk a p2⟩
  |swap x y l=>
   intro zs h;obtain⟨z,r,rfl,a,b⟩:=qa_ h;obtain⟨z2,r,rfl,a2,b2⟩:=qa_ b;exact⟨z2::z::r,.swap ..,mk a2 (mk a b2)⟩
  |trans _ _ i1 i2=>
   intro zs h;obtain⟨ys,p1,q1⟩:=i2 h;obtain⟨ws,p2,q2⟩:=i1 q1;exact⟨ws,p2.trans p1,q2⟩
 exact key p h
def Lk(C Pt:Addr):Sp:=λvs H Q _=>∃(o t:Addr)(xs:QAH)(ps:QAD)(ns:List Int),vs=[.ref o,.ref t]/\qcW C H o t xs ps ns/\Qt xs/\uU xs ps/\TabOk G4 G5 Pt H/\
 ∀(r:Addr)(us:List V)(zs:List (List Nat×QAH))(H':Hp),zs.Perm (Je xs ps ns)->H r=none->H' r=some (.lst us)->gG H H' us zs->But Pt H H'->TabOk G4 G5 Pt H'->Q (.ref r) H'
theorem Ln(T:Txt K mg a){c Pt:Addr}(L:U7 a.fB base mg c Pt):bV P w K mg base i_ 7 a.fu a.fB ["web", "pointing"] (Lk a.b_ Pt):=by
 refine T.uQ.okC L.cd rY (λvs H Q E h=>?_) (λA outer s H vs Q E hr h=>?_)
 ·obtain⟨o,t,xs,ps,ns,rfl,_⟩:=h;rfl
 ·obtain⟨o,t,xs,ps,ns,rfl,hp,hX,hTs,hT,q⟩:=h;refine⟨_,(aC (bG (i:=2) rY.nd rfl (Or.inr rfl) (PE.eqv (aO (Xe T) hr.d rfl T.O6 T.Eu.kp T.O5 .nil bA (aj (aL 0) (aj (aL 1) ao))) (aJ _ _ _)))
   (aC (jr (i:=3) rY.nd rfl rfl rfl rfl (show aY (aB dw) _ ["web", "pointing", "steps", "shut"] ["lot"] [2] ["lot", "steps"] from by rfl') rfl (PI.eqv (cJ (K:=K) rfl (PE.eqv (aO (Qa T) hr.d rfl T.Er T.xg.kp T.Ep .nil bA (aj (aL 0) ao)) (aJ _ _ _))) (bT _ _)) (λC s H fp pn=>(aR (i:=0) (show(["lot", "steps"]:QAH).Nodup by symm) rfl (Or.inl rfl))) (λC s H fp pn=>(o_ (aU mU (aK (bY (K:=K) rfl) rfl T.nm.len qmi (aj (PE.eqv (aO (G3 T) hr.d rfl T.zj T.sJ.kp T.zf .nil bA (aj (aL 1) (aj (aL 0) ao))) (aJ _ _ _)) ao)) aG (bO _)))) (λC s H fp pn=>(aL 0)))
   (aF (aZ (qaF (K:=K) (k:=0) rfl hr.d rfl L.hd L.bt rfl T.W6.sorted T.nm.len (aj (eE rfl rfl (show aY (aB dw) _ ["web", "pointing", "steps", "shut"] ["lot"] [0] ["lot", "web"] from by rfl') rfl (PI.eqv (cJ (K:=K) rfl (aL 3)) (bT _ _)) (λC s H fp pn=>(aR (i:=0) (show(["lot", "web"]:QAH).Nodup by symm) rfl (Or.inl rfl))) (λC s H fp pn=>eV) (λC s H fp pn=>(gb (aj (PE.eqv (aO (Qd T) hr.d rfl T.Et T.xq.kp T.Es .nil bA (aj (aL 1) (aj (aL 0) ao))) (aJ _ _ _)) (aj (aL 0) ao))))) ao) rfl))))),?_⟩
  have qfL:600<sizeLine:=by decide
  have hw:=hp.1;left;refine⟨o,t,xs,ps,ns,rfl,hp,λl sv H1 hl0 hl1 hS h40 s1=>?_⟩;left;refine⟨o,xs,ps,rfl,hw.same s1,hX.len.2,λr2 tv H2 hr2 e2 hN s2=>?_⟩;have hl2:=s2 _ _ hl1;have hS2:=Jc hS s2;have tl:tv.length=2 ^ xs.length - 2:=by rw[hN.1,u0]
  have p9:2 ^ xs.length<=2 ^ 9:=qoA (by decide) hX.len.2;left;refine⟨⟨_,aW.of e2⟩,λD hD=>Wh tv (λj σ H'=>(∃o1,σ=[o1,some (.ref l)])/\(∃uv,H' D=some (.lst uv)/\Lg H1 H2 uv (((rA xs).take j).filter (Jd ns ps)))/\Same H2 H') ⟨⟨_,rfl⟩,⟨[],ak,by rw[qob];exact bH.nil⟩,aq hD⟩ (λj σ H' _ h=>aW.of (h.2.2 _ _ e2)) ?_ ?_⟩
  ·rintro j v σ H3 hj ⟨⟨o1,rfl⟩,⟨uv,Di,huv⟩,s3⟩;have hj2:j<tv.length:=(ql2.mp hj).1;obtain⟨c,hc,t4,rfl,ht0,ht4⟩:=bH.at hN hj;have hle:(((rA xs).take j).filter (Jd ns ps)).length<=((rA xs).take j).length:=qnA _ _;rw[qmk] at hle;have hul:=huv.1;rw[take_one hc,qnn];left;refine⟨l,t4,sv,_,_,rfl,s3 _ _ hl2,Jc hS2 s3,s3 _ _ ht4,h40,λl5 lv H5 hl5 e5 qhG s5=>?_⟩;left;have hb:Jd ns ps c=decide (lv=[]):=by
    unfold Jd;rw[<- qhG];simp
   have Bt:=s5 _ _ Di;refine⟨lv,.inl (aW.of e5),eX.of (λh=>?_) (λh=>?_)⟩
   ·rw[h] at hb;left;refine⟨uv,Bt,by omega,⟨_,ak,?_⟩,bx (s3.trans s5) hD⟩;rw[List.filter_cons_of_pos hb,qok];exact bH.snoc huv ⟨t4,rfl,ht0,ht4⟩
   ·rw[h] at hb;left;refine⟨⟨uv,Bt,?_⟩,s3.trans s5⟩;rw[List.filter_cons_of_neg (by rw[hb];simp),qok,qmz];exact huv
  ·rintro σ H3 ⟨⟨o1,rfl⟩,⟨uv,Di,huv⟩,s3⟩;rw[tl,<- u0,qmv] at huv;have S3:=s2.trans s3;have hN3:=huv.same s3;generalize hZ:(rA xs).filter (Jd ns ps)=Z at huv hN3;have hZ9:∀z∈Z,z.Sublist xs/\0<z.length/\z.length<xs.length:=λz hz=>by
    rw[<- hZ] at hz;exact qa6 hX.len.2 (qm9.mp hz).1
   have zl:Z.length<=2 ^ xs.length - 2:=by
    rw[<- hZ,<- u0];exact qnA _ _
   have ul:=huv.1;left;refine⟨⟨_,aW.of Di⟩,λD2 hD2=>Wh uv (λj σ H'=>(∃o1,σ=[o1,some (.ref o)])/\(∃wv,H' D2=some (.lst wv)/\gG H1 (Fo D2 H') wv ((Z.take j).map λc=>(uw c ps,c)))/\Same H3 H') ⟨⟨_,rfl⟩,⟨[],ak,by rw[qob];exact bH.nil⟩,aq hD2⟩ (λj σ H' _ h=>aW.of (h.2.2 _ _ Di)) ?_ ?_⟩
   ·rintro j v σ H4 hj ⟨⟨o1,rfl⟩,⟨wv,tY,hcs⟩,s4⟩;obtain⟨c,hc,t4,rfl,ht0,ht4⟩:=bH.at hN3 hj;have hwl:=hcs.1;rw[ql9,qmk] at hwl;have hj2:j<Z.length:=(ql2.mp hc).1;obtain⟨z1,z2,z3⟩:=hZ9 c (ql_ hc);have S4:=S3.trans s4;have qhH:=s4 _ _ ht4;have t4D:t4≠D2:=λz=>by rw[z,hD2] at ht4;cases ht4
    rw[take_one hc,qnl];left;refine⟨o,t4,xs,c,ps,rfl,hw.same (s1.trans S4),hX,hTs,.inl qhH,hX.nd.sublist z1,λx hx=>z1.mem hx,z2,z3,λr5 H5 hr0 hr5 s5=>?_⟩;have Bt:=s5 _ _ tY;have r5D:r5≠D2:=λz=>by rw[z,tY] at hr0;cases hr0
    left;intro p6 hp6;have s6:Same H5 (upd H5 p6 (.tup [.ref r5,.ref t4])):=aq hp6;have e6:upd H5 p6 (.tup [.ref r5,.ref t4]) p6=some (.tup [.ref r5,.ref t4]):=ak;have p6D:p6≠D2:=λz=>by rw[z,Bt] at hp6;cases hp6
    generalize upd H5 p6 (.tup [.ref r5,.ref t4])=H6 at s6 e6⊢;refine⟨wv,s6 _ _ Bt,by omega,⟨_,ak,?_⟩,bx (s4.trans (s5.trans s6)) hD2⟩;rw[qa8];refine bH.snoc (gG.same hcs (Xi (s5.trans s6))) ⟨p6,r5,t4,rfl,Lj p6D e6,Lj r5D (s6 _ _ hr5),ht0,Lj t4D (s6 _ _ (s5 _ _ qhH))⟩
   ·rintro σ H4 ⟨⟨o1,rfl⟩,⟨wv,tY,hcs⟩,s4⟩;rw[ul,qmv] at hcs;have qfM:gG H1 H4 wv (Z.map λc=>(uw c ps,c)):=gG.same hcs qc3;obtain⟨as,rfl⟩:=Qf (uv:=wv) λv hv=>by
     obtain⟨k,hk⟩:=List.getElem?_of_mem hv;obtain⟨z,_,u,_,_,e,_⟩:=bH.at qfM hk;exact⟨u,e⟩
    have S4:=(s1.trans S3).trans s4;have hT4:=hT.same S4;have nP:∀{b:Addr}{o:HO},H4 b=some o->(∀ps,o≠.xR ps)->b≠Pt:=λ{b o} e n z=>by
     obtain⟨qs,hq⟩:=hT4.tb;rw[z,hq] at e;cases e;exact n _ rfl
    left;refine⟨hT4,as,aW.of tY,λu hu=>?_,λD3 bs H5 hb hB hT5 qkW Di=>?_⟩
    ·obtain⟨k,hk⟩:=List.getElem?_of_mem hu;obtain⟨z,_,u',p,q,e,h1,h2,_⟩:=bH.at qfM (v:=.ref u) (by rw[qmw,hk];rfl);cases e;exact⟨p,⟨_,eG.of h1⟩,_,aW.of h2⟩
    ·have k5:∀b o,(∀ps,o≠.xR ps)->H4 b=some o->H5 b=some o:=λb o n e=>hB _ _ (nP e n) e;obtain⟨zs,hz,hzs⟩:=qa9 (R:=Qe H1) (bH.keep qfM λv z h=>h.keep k5) (hb.map V.ref);have s6:Same H5 (upd H5 D3 (.lst (bs.map V.ref))):=aq Di;refine q D3 _ zs _ (by rw[<- hZ] at hz;exact hz) (bQ S4 qkW) ak ?_ (λb o n e=>s6 _ _ (hB _ _ n (S4 _ _ e))) (hT5.same s6);refine⟨hzs.1,λi v z hv hz=>?_⟩;obtain⟨u,p,q,e,h1,h2,h3,h4⟩:=(hzs.2 i v z hv hz).same s6;exact⟨u,p,q,e,h1,h2,s1.free h3,h4⟩
theorem bV.no{P:Program}{w:World}{K:W.Frag}{mg:Str->Option Value}{base:Heap}{k:Nat}{f:Addr}{fd:FuncData}{ps:QAH}:bV P w K mg base i_ k f fd ps (λ_ _ _ _=>False):=⟨λ_ _ _ _ h=>h.elim,λ_ _ _ _ _ _ _ _ _ _ _ _ _ h=>h.elim⟩
def preS(f:Nat->Sp):Nat->Sp
 |0=>λ_ _ _ _=>False
 |k+1=>f k
def Lq(n:Nat)(z:List Nat×QAH):Bool:=!decide (n∈z.1)
def Fp:Sp:=λvs H Q _=>∃(l:Addr)(us:List V)(zs:List (List Nat×QAH))(n:Nat)(G:Hp),vs=[.ref l,.int n]/\H l=some (.lst us)/\us.length<=600/\gG G H us zs/\
 ∀(r:Addr)(us':List V)(H':Hp),H r=none->H' r=some (.lst us')->us'.length<=us.length->gG G H' us' (zs.filter (Lq n))->Same H H'->Q (.ref r) H'
theorem qc4(k:Int)(ks:List Int):inV (.int k) (ks.map V.int)=decide (k∈ks):=by
 unfold inV;rw[List.any_map]
 induction ks with
 |nil=>rfl
 |cons a ks ih=>
  rw[qn5,ih]
  by_cases e:a=k
  ·subst e;simp[V0]
  ·simp[V0,e,qnF e]
theorem Lr(n:Nat)(ks:List Nat):inV (.int n) (ks.map λn:Nat=>V.int n)=decide (n∈ks):=by
 have h:=qc4 (n:Int) (ks.map λn:Nat=>(n:Int));rw[qn0] at h;have e:(V.int ∘ λn:Nat=>(n:Int))=λn:Nat=>V.int n:=rfl;rw[e] at h;rw[h];rw[qnx,qnX,qnX,qmW];constructor
 ·rintro⟨x,hx,e⟩;have:x=n:=by omega
  rwa [this] at hx
 ·intro hx;exact⟨n,hx,rfl⟩
theorem z9(ks:List Nat):∀z∈ks.map (λn:Nat=>V.int n),jP z=true:=by
 intro z hz;obtain⟨k,_,rfl⟩:=qmW.mp hz;rfl
theorem Fq(T:Txt K mg a):bV P w K mg base i_ 1 a.dW a.j8 ["cuts", "number"] Fp:=by
 exists T.qF.qL,DX
 ·obtain⟨l,us,zs,n,G,rfl,_⟩:=h;rfl
 ·obtain⟨l,us,zs,n,G,rfl,hl,qfN,hz,q⟩:=h;refine⟨_,(aF (aZ (eE rfl rfl (show aY (aB lQ) _ ["cuts", "number"] ["cut"] [1] ["cut", "number"] from by rfl') rfl (PI.eqv (cJ (K:=K) rfl (aL 0)) (bT _ _)) (λC s H fp pn=>(aR (i:=0) (show(["cut", "number"]:QAH).Nodup by symm) rfl (Or.inl rfl))) (λC s H fp pn=>(o_ (aU (yK (K:=K) rfl) (aL 1) (bR (cj (K:=K) rfl) (aL 0) aG (λ_ _=>rfl)) rfl))) (λC s H fp pn=>(aL 0))))),?_⟩;have qhI:700<sizeLine:=by decide
  left;refine⟨⟨_,aW.of hl⟩,λD hD=>Wh us (λj σ H'=>(∃o1,σ=[o1,some (.int n)])/\(∃wv,H' D=some (.lst wv)/\wv.length<=j/\gG G H wv ((zs.take j).filter (Lq n)))/\Same H H') ⟨⟨_,rfl⟩,⟨[],ak,ql7 _,by rw[qob];exact bH.nil⟩,aq hD⟩ (λj σ H' _ h=>aW.of (h.2.2 _ _ hl)) ?_ ?_⟩
  ·rintro j v σ H2 hj ⟨⟨o1,rfl⟩,⟨wv,hD2,hwl,hw⟩,s2⟩;have hj2:j<us.length:=(ql2.mp hj).1;obtain⟨z,hzj,hv⟩:=bH.at hz hj;obtain⟨u,p,q',rfl,h1,h2,h3,h4⟩:=id hv;rw[take_one hzj,qnn];left;refine⟨_,.inr (eG.of (s2 _ _ h1)),_,bD (j:=0) rfl,_,.inl (aW.of (s2 _ _ h2)),rfl,z9 _,Lq n z,by rw[Lr];simp[Lq],eX.of (λh=>?_) (λh=>?_)⟩
   ·have ho:=h;left;refine⟨wv,hD2,by omega,⟨_,ak,by simp;omega,?_⟩,bx s2 hD⟩;rw[List.filter_cons_of_pos ho,qok];exact bH.snoc hw hv
   ·have ho:=h;left;refine⟨⟨wv,hD2,by omega,?_⟩,s2⟩;rw[List.filter_cons_of_neg (by rw[ho];simp),qok,qmz];exact hw
  ·rintro σ H2 ⟨⟨o1,rfl⟩,⟨wv,hD2,hwl,hw⟩,s2⟩;rw[hz.1,qmv] at hw;left;exact q D wv H2 hD hD2 hwl (gG.same hw s2) s2
def tV:Nat->List (List Nat×QAH)->Option (List Nat)
 |0,zs=>if zs=[] then some [] else none
 |m+1,zs=>match zs with
  |[]=>some []
  |z::r=>z.1.findSome? λn=>(tV m ((z::r).filter (Lq n))).map (n::·)
theorem qba(m:Nat):tV m []=some []:=by cases m <;> rfl
theorem Qg{α β:Type}{f:α->Option β}{l:List α}{i:Nat}{n:α}{r:β}(h:l[i]? = some n)(h0:(l.take i).findSome? f=none)(h1:f n=some r):l.findSome? f=some r:=by
 have hi:i<l.length:=(ql2.mp h).1;have e:l=l.take i++n::l.drop (i+1):=by
  have h2:l[i]=n:=by rw[qmM hi] at h;injection h
  rw[<- h2,<- List.drop_eq_getElem_cons hi,qm4]
 rw[e,List.findSome?_append,h0];simp[h1]
theorem z_{α β:Type}{f:α->Option β}{l:List α}{i:Nat}{n:α}(h:l[i]? = some n)(h0:(l.take i).findSome? f=none)(h1:f n=none):(l.take (i+1)).findSome? f=none:=by
 rw[take_one h,List.findSome?_append,h0];simp[h1]
theorem Ft:∀{m:Nat}{zs:List (List Nat×QAH)}{ks:List Nat},tV m zs=some ks->ks.length<=m
 |0,zs,ks,h=>by
  unfold tV at h;split at h
  ·cases h;exact ql7 _
  ·cases h
 |m+1,zs,ks,h=>by
  unfold tV at h;cases zs with
  |nil=>cases h;exact qmP _
  |cons z r=>
   dsimp only at h;obtain⟨n,_,hn⟩:=List.exists_of_findSome?_eq_some h;rw[qnL] at hn;obtain⟨ks',h1,rfl⟩:=hn;have:=Ft h1;simp;omega
def Ls(k:Nat):Sp:=λvs H Q _=>∃(l:Addr)(us:List V)(zs:List (List Nat×QAH))(m:Nat)(G:Hp),vs=[.ref l,.int m]/\m<=k/\k<=20/\H l=some (.lst us)/\us.length<=600/\gG G H us zs/\
 (tV m zs=none->∀H',Same H H'->Q .non H')/\(∀ks,tV m zs=some ks->∀(r:Addr)(H':Hp),H r=none->H' r=some (.lst (ks.map λn:Nat=>V.int n))->Same H H'->Q (.ref r) H')
theorem Jf(T:Txt K mg a){k:Nat} (ih:bV P w K mg base i_ (k+1) a.cH a.eO ["cuts", "most"] (preS Ls k)):bV P w K mg base i_ (k+2) a.cH a.eO ["cuts", "most"] (Ls k):=by
 exists T.iH.qL,mX
 ·obtain⟨l,us,zs,m,G,rfl,_⟩:=h;rfl
 ·obtain⟨l,us,zs,m,G,rfl,hmk,hk,hl,qfN,hz,q1,q2⟩:=h;refine⟨_,(aC (cP (aU mU (aK (bY (K:=K) rfl) rfl T.nm.len qmi (aj (aL 0) ao)) aG (bO _)) (aF (aZ (cI ao))) bC)
   (aC (cP (aU mU (aL 1) aG (bO _)) (aF (aZ tZ)) bC)
   (aC (kO qmZ rfl (PI.eqv (cJ (K:=K) rfl (bR (cj (K:=K) rfl) (bR (cj (K:=K) rfl) (aL 0) aG (λ_ _=>rfl)) aG (λ_ _=>rfl))) (bT _ _)) (aR (i:=2) mX.nd rfl (Or.inl rfl))
   (aC (bG (i:=3) mX.nd rfl (Or.inl rfl) (PE.eqv (aO ih (hr.mono (by omega)) rfl T.kI T.iH.kp T.kj .nil bA (aj (PE.eqv (aO (Fq T) (hr.mono (by omega)) rfl T.wj T.qF.kp T.wg .nil bA (aj (aL 0) (aj (aL 2) ao))) (aJ _ _ _)) (aj (cB yI (aL 1) aG) ao))) (aJ _ _ _)))
   (aF (cP (aU Uc (aL 3) tZ (bO _)) (aF (aZ (cB lM (cI (aj (aL 2) ao)) (aL 3)))) bC))))
   (aF (aZ tZ))))),?_⟩
  have qhI:700<sizeLine:=by decide
  have s0:=Same.refl H;left;refine⟨us,.inl (aW.of hl),eX.of (λh=>?_) (λh=>?_)⟩
  ·have h0:us=[]:=qmj h;subst h0;have z0:zs=[]:=List.length_eq_zero_iff.mp hz.1.symm;subst z0;left;exact λp hp=>q2 [] (qba m) p _ hp ak (aq hp)
  ·have h0:us≠[]:=qmL h;obtain⟨z,zs',rfl⟩:∃z r,zs=z::r:=by
    cases zs with
    |nil=>exact absurd (List.length_eq_zero_iff.mp hz.1) h0
    |cons z r=>exact⟨z,r,rfl⟩
   obtain⟨v,us',rfl⟩:∃v r,us=v::r:=by
    cases us with
    |nil=>exact absurd rfl h0
    |cons z r=>exact⟨z,r,rfl⟩
   obtain⟨u,p,q',rfl,e1,e2,e3,e4⟩:=hz.2 0 _ z rfl rfl;left;refine eX.of (λh=>?_) (λh=>?_)
   ·have hm:m=0:=by have:=qmj h;omega
    subst hm;left;exact q1 rfl _ s0
   ·obtain⟨m',rfl⟩:∃m',m=m'+1:=⟨m - 1,by have:=qmL h;omega⟩;obtain⟨k',rfl⟩:∃k',k=k'+1:=⟨k - 1,by omega⟩;left;refine⟨_,.inl (aW.of hl),_,bD (j:=0) rfl,_,.inr (eG.of e1),_,bD (j:=0) rfl,⟨_,aW.of e2⟩,frL (z.1.map λn:Nat=>V.int n) (λi σ H'=>(∃o1 o2,σ=[some (.ref l),some (.int (m'+1)),o1,o2])/\((z.1.take i).findSome? λn=>(tV m' ((z::zs').filter (Lq n))).map (n::·))=none/\Same H H') ⟨⟨_,_,rfl⟩,by rw[qob];rfl,s0⟩ (λi σ H' _ h=>aW.of (h.2.2 _ _ e2)) ?_ ?_⟩
    ·rintro i x σ H2 hi ⟨⟨o1,o2,rfl⟩,hno,s2⟩;rw[qmw,qnL] at hi;obtain⟨n,hn,rfl⟩:=hi;left;refine⟨l,_,_,n,G,rfl,s2 _ _ hl,qfN,gG.same hz s2,λr us2 H3 hr0 hr3 hul hcs s3=>?_⟩;have qlY:=hcs;left;refine⟨r,us2,_,m',G,rfl,by omega,by omega,hr3,by omega,hcs,λh0 H4 s4=>?_,λks h0 r4 H4 qlZ W_ s4=>?_⟩
     ·left;exact⟨by simpa using z_ hn hno (by rw[h0];rfl),s2.trans (s3.trans s4)⟩
     ·have kl:=Ft h0;left;intro p5 hp5;have s5:Same H4 (upd H4 p5 (.lst [.int n])):=aq hp5;have e5:upd H4 p5 (.lst [.int n]) p5=some (.lst [.int n]):=ak;have e6:=s5 _ _ W_;generalize upd H4 p5 (.lst [.int n])=H5 at s5 e5 e6⊢;refine⟨_,e5,_,e6,by simp;omega,λp7 hp7=>?_⟩;have S5:=s2.trans (s3.trans (s4.trans s5));exact q2 (n::ks) (Qg hn hno (by rw[h0];rfl)) p7 _ (bQ S5 hp7) (by rw[ak];rfl) (S5.trans (aq hp7))
    ·rintro σ H2 ⟨⟨o1,o2,rfl⟩,hno,s2⟩;rw[ql9,qmv] at hno;left;exact q1 hno _ s2
theorem Lw(T:Txt K mg a):∀k:Nat,bV P w K mg base i_ (k+2) a.cH a.eO ["cuts", "most"] (Ls k)
 |0=>Jf T bV.no
 |k+1=>Jf T (Lw T k)
def Fv(z y:List Nat×QAH):Bool:=!(y.1.any λk=>decide (k∈z.1))
def Qh:List Nat->List (List Nat×QAH)->Option (List (QAH))
 |[],_=>some []
 |n::ns,zs=>zs.findSome? λz=>if n∈z.1 then (Qh ns (zs.filter (Fv z))).map (z.2::·) else none
theorem Qi:∀{ns:List Nat}{zs:List (List Nat×QAH)}{cs:List (QAH)},Qh ns zs=some cs->cs.length=ns.length
 |[],zs,cs,h=>by
  unfold Qh at h;cases h;rfl
 |n::ns,zs,cs,h=>by
  unfold Qh at h;obtain⟨z,_,hz⟩:=List.exists_of_findSome?_eq_some h;split at hz
  ·rw[qnL] at hz;obtain⟨cs',h1,rfl⟩:=hz;simp[Qi h1]
  ·cases hz
def Lx(k:Nat):Sp:=λvs H Q _=>∃(l t:Addr)(us:List V)(zs:List (List Nat×QAH))(ns:List Nat)(G:Hp),vs=[.ref l,.ref t]/\ns.length<=k/\k<=20/\H l=some (.lst us)/\us.length<=600/\gG G H us zs/\(∀z∈zs,z.1.length<=20)/\H t=some (.lst (ns.map λn:Nat=>V.int n))/\
 (Qh ns zs=none->∀H',Same H H'->Q .non H')/\(∀cs,Qh ns zs=some cs->∀(r:Addr)(lv:List V)(H':Hp),H r=none->H' r=some (.lst lv)->Lg G H' lv cs->Same H H'->Q (.ref r) H')
theorem qbb(x:V)(xs:List V):mC (x::xs) (some 1) none=xs:=by
 unfold mC;have e1:HT.uf (x::xs).length 0 (some 1)=1:=by
  unfold HT.uf;simp
  try omega
 have e2:HT.uf (x::xs).length (x::xs).length none=xs.length+1:=by simp[HT.uf]
 rw[e1,e2];simp
theorem Fw(T:Txt K mg a){k:Nat} (ih:bV P w K mg base i_ (k+1) a.dg a.gJ ["cuts", "numbers"] (preS Lx k)):bV P w K mg base i_ (k+2) a.dg a.gJ ["cuts", "numbers"] (Lx k):=by
 exists T.nF.qL,jk
 ·obtain⟨l,t,us,zs,ns,G,rfl,_⟩:=h;rfl
 ·obtain⟨l,t,us,zs,ns,G,rfl,hmk,hk,hl,qfN,hz,z6,ht,q1,q2⟩:=h;refine⟨_,(aC (cP (aU mU (aK (bY (K:=K) rfl) rfl T.nm.len qmi (aj (aL 1) ao)) aG (bO _)) (aF (aZ (cI ao))) bC)
   (aC (kO qmZ rfl (PI.eqv (cJ (K:=K) rfl (aL 0)) (bT _ _)) (PG.eqv (gV (K:=K) (n:=2) rfl rfl (lH.eqv (bJ (aR (i:=2) jk.nd rfl (Or.inr rfl)) (lH.eqv (bJ (aR (i:=3) jk.nd rfl (Or.inl rfl)) (lH.mono gU jU)) (bL _ _))) (bL _ _))) (gW _ _ _))
   (aF (cP (aU (Gv (K:=K) rfl) (bR (cj (K:=K) rfl) (aL 1) aG (λ_ _=>rfl)) (aL 2) rfl) (aC (jr (i:=4) jk.nd rfl rfl rfl rfl (show aY (aB nu) _ ["cuts", "numbers", "crossed", "lot", "others", "rest"] ["cut"] [2] ["cut", "crossed"] from by rfl') rfl (PI.eqv (cJ (K:=K) rfl (aL 0)) (bT _ _)) (λC s H fp pn=>(aR (i:=0) (show(["cut", "crossed"]:QAH).Nodup by symm) rfl (Or.inl rfl))) (λC s H fp pn=>(o_ (f9 (dJ (aK (HD rfl) rfl T.W6.any Ho (aj (Zx (show aY (_) _ ["cut", "crossed"] ["number"] [1] ["number", "crossed"] from by rfl') rfl (PI.eqv (cJ (K:=K) rfl (bR (cj (K:=K) rfl) (aL 0) aG (λ_ _=>rfl))) (bT _ _)) (λC s H fp pn=>(aR (i:=0) (show(["number", "crossed"]:QAH).Nodup by symm) rfl (Or.inl rfl))) (λC s H fp pn=>eV) (λC s H fp pn=>(lJ (Gv (K:=K) rfl) (aL 0) (aL 1) rfl))) ao)))))) (λC s H fp pn=>(aL 0)))
   (aC (bG (i:=5) jk.nd rfl (Or.inl rfl) (PE.eqv (aO ih (hr.mono (by omega)) rfl T.sS T.nF.kp T.sO .nil bA (aj (aL 4) (aj (jO (yM (K:=K) rfl) (aL 1) (PO.eqv (lK aG) (jh _)) oZ) ao))) (aJ _ _ _)))
   (aF (cP (aU Uc (aL 5) tZ (bO _)) (aF (aZ (cB lM (cI (aj (aL 3) ao)) (aL 5)))) bC)))) bC)))
   (aF (aZ tZ)))),?_⟩
  have qhI:700<sizeLine:=by decide
  have s0:=Same.refl H;left;refine⟨_,.inl (aW.of ht),eX.of (λh=>?_) (λh=>?_)⟩
  ·have h0:ns=[]:=by simpa using qmj h
   subst h0;left;exact λp hp=>q2 [] rfl p [] _ hp ak bH.nil (aq hp)
  ·obtain⟨n,ns',rfl⟩:∃n r,ns=n::r:=by
    cases ns with
    |nil=>simp at h
    |cons z r=>exact⟨z,r,rfl⟩
   obtain⟨k',rfl⟩:∃k',k=k'+1:=⟨k - 1,by simp at hmk;omega⟩;rw[qmq] at hmk;left;refine⟨⟨_,aW.of hl⟩,frL us (λi σ H'=>(∃o1 o2 o3 o4,σ=[some (.ref l),some (.ref t),o1,o2,o3,o4])/\((zs.take i).findSome? λz=>if n∈z.1 then (Qh ns' (zs.filter (Fv z))).map (z.2::·) else none)=none/\Same H H') ⟨⟨_,_,_,_,rfl⟩,by rw[qob];rfl,s0⟩ (λi σ H' _ h=>aW.of (h.2.2 _ _ hl)) ?_ ?_⟩
   ·rintro i v σ H2 hi ⟨⟨o1,o2,o3,o4,rfl⟩,hno,s2⟩;obtain⟨z,hzi,hv⟩:=bH.at hz hi;obtain⟨u,p,q',rfl,e1,e2,e3,e4⟩:=id hv;left;have t2:=s2 _ _ ht;have p2:=s2 _ _ e2;refine⟨_,eG.of (s2 _ _ e1),rfl,_,.inl (aW.of t2),_,bD (j:=0) rfl,_,.inl (aW.of p2),rfl,z9 _,?_⟩;rw[Lr];refine eX.of (λh=>?_) (λh=>?_)
    ·have hin:=qmj h;left;refine⟨⟨_,aW.of (s2 _ _ hl)⟩,λD hD=>Wh us (λj σ H'=>(∃o1,σ=[o1,some (.ref p)])/\(∃wv,H' D=some (.lst wv)/\wv.length<=j/\gG G H wv ((zs.take j).filter (Fv z)))/\Same H2 H') ⟨⟨_,rfl⟩,⟨[],ak,ql7 _,by rw[qob];exact bH.nil⟩,aq hD⟩ (λj σ H' _ h=>aW.of (h.2.2 _ _ (s2 _ _ hl))) ?_ ?_⟩
     ·rintro j v σ H3 hj ⟨⟨o1,rfl⟩,⟨wv,Di,hwl,hw⟩,s3⟩;have hj2:j<us.length:=(ql2.mp hj).1;obtain⟨y,hyj,hvy⟩:=bH.at hz hj;obtain⟨uy,py,qy,rfl,f1,f2,f3,f4⟩:=id hvy;have y20:=z6 y (ql_ hyj);rw[take_one hyj,qnn];have S3:=s2.trans s3;left;refine⟨_,.inr (eG.of (S3 _ _ f1)),_,bD (j:=0) rfl,⟨_,aW.of (S3 _ _ f2)⟩,λD1 hD1=>Wh (y.1.map λn:Nat=>V.int n) (λi σ H'=>(∃o,σ=[o,some (.ref p)])/\H' D1=some (.lst (((y.1.take i).map λk=>decide (k∈z.1)).map V.bl))/\Same H3 H') ⟨⟨_,rfl⟩,ak,aq hD1⟩ (λi σ H' _ h=>aW.of (h.2.2 _ _ (S3 _ _ f2))) ?_ ?_⟩
      ·rintro i5 x5 σ H4 hi5 ⟨⟨o5,rfl⟩,tY,s4⟩;rw[qmw,qnL] at hi5;obtain⟨n5,WY,rfl⟩:=hi5;have hi6:i5<y.1.length:=(ql2.mp WY).1;rw[take_one WY];left;refine⟨_,.inl (aW.of ((S3.trans s4) _ _ e2)),rfl,z9 _,?_⟩;rw[Lr];refine⟨_,tY,by simp;omega,?_,bx s4 hD1⟩;rw[ak];simp
      ·rintro σ H4 ⟨⟨o5,rfl⟩,tY,s4⟩;rw[ql9,qmv] at tY;left;refine⟨_,tY,_,jD _,?_⟩;rw[show(!(y.1.map λk=>decide (k∈z.1)).any id)=Fv z y by unfold Fv;rw[List.any_map];rfl];have Bt:=s4 _ _ Di;refine eX.of (λh=>?_) (λh=>?_)
       ·left;refine⟨wv,Bt,by omega,⟨_,ak,by simp;omega,?_⟩,bx (s3.trans s4) hD⟩;rw[List.filter_cons_of_pos h,qok];exact bH.snoc hw hvy
       ·left;refine⟨⟨wv,Bt,by omega,?_⟩,s3.trans s4⟩;rw[List.filter_cons_of_neg (by rw[h];simp),qok,qmz];exact hw
     ·rintro σ H3 ⟨⟨o1,rfl⟩,⟨wv,Di,hwl,hw⟩,s3⟩;rw[hz.1,qmv] at hw;have S3:=s2.trans s3;left;refine⟨_,aW.of (S3 _ _ ht),λp4 hp4=>?_⟩;have s4:Same H3 (upd H3 p4 (.lst (ns'.map λn:Nat=>V.int n))):=aq hp4;have e44:upd H3 p4 (.lst (ns'.map λn:Nat=>V.int n)) p4=some (.lst (ns'.map λn:Nat=>V.int n)):=ak;rw[show mC ((n::ns').map λn:Nat=>V.int n) (some 1) none=ns'.map λn:Nat=>V.int n from qbb _ _];generalize upd H3 p4 (.lst (ns'.map λn:Nat=>V.int n))=H4 at s4 e44⊢;have S4:=S3.trans s4;refine⟨D,p4,wv,_,ns',G,rfl,by omega,by omega,s4 _ _ Di,by omega,gG.same hw S4,λy hy=>z6 y (qm9.mp hy).1,e44,λh0 H5 s5=>?_,λcs h0 r5 lv H5 ql0 hr5 hlv s5=>?_⟩
      ·left;exact⟨by simpa using z_ hzi hno (by rw[if_pos hin,h0];rfl),S4.trans s5⟩
      ·have cl:=Qi h0;have lvl:=hlv.1;have S5:=S4.trans s5;left;intro p6 hp6;have s6:Same H5 (upd H5 p6 (.lst [.ref q'])):=aq hp6;have e6:upd H5 p6 (.lst [.ref q']) p6=some (.lst [.ref q']):=ak;have e7:=s6 _ _ hr5;generalize upd H5 p6 (.lst [.ref q'])=H6 at s6 e6 e7⊢;refine⟨_,e6,_,e7,by simp;omega,λp8 hp8=>?_⟩;have S6:=S5.trans s6;have s8:Same H6 (upd H6 p8 (.lst ([.ref q']++lv))):=aq hp8;refine q2 (z.2::cs) (Qg hzi hno (by rw[if_pos hin,h0];rfl)) p8 _ _ (bQ S6 hp8) ak ?_ (S6.trans s8);have hx:=hlv.same (s6.trans s8);refine⟨by simp[lvl],λi v c hv hc=>?_⟩;cases i with
       |zero=>
        simp at hv hc;subst hv hc;exact⟨q',rfl,e3,(S6.trans s8) _ _ e4⟩
       |succ i=>exact hx.2 i v c (by simpa using hv) (by simpa using hc)
    ·have hin:=qmL h;left;exact⟨by simpa using z_ hzi hno (by rw[if_neg hin]),s2⟩
   ·rintro σ H2 ⟨⟨o1,o2,o3,o4,rfl⟩,hno,s2⟩;rw[hz.1,qmv] at hno;left;exact q1 hno _ s2
theorem Vn(T:Txt K mg a):∀k:Nat,bV P w K mg base i_ (k+2) a.dg a.gJ ["cuts", "numbers"] (Lx k)
 |0=>Fw T bV.no
 |k+1=>Fw T (Vn T k)
theorem fw0:(Str.ofString "the web has more than ").length<=sizeLine/\(Str.empty++Str.ofString "the web has more than ").length<=sizeLine/\Nat.log2 12<1920/\(Str.ofString (Int.repr 12)).length<=sizeLine/\(Str.empty++Str.ofString "the web has more than " ++Str.ofString (Int.repr 12)).length<=sizeLine/\(Str.ofString " ties").length<=sizeLine/\
 (Str.empty++Str.ofString "the web has more than " ++Str.ofString (Int.repr 12)++Str.ofString " ties").length<=sizeLine:=by symm
def qfO(C N:Addr):Sp:=λvs H Q E=>∃(o:Addr)(xs:QAH)(ps:QAD),vs=[.ref o,.int 12]/\iZ C H o xs ps/\ps.length<=20/\(ps.length<=12->Q .non H)/\(12<ps.length->∀H',Same H H'->E (.ref N) none H')
theorem qfP(T:Txt K mg a):bV P w K mg base (Wz P w) 2 a.bZ a.fO ["web", "most"] (qfO a.b_ a.bI):=by
 exists T.jy.qcw,vM
 ·obtain⟨o,xs,ps,rfl,_⟩:=h;rfl
 ·obtain⟨o,xs,ps,rfl,hw,z6,q1,q2⟩:=h;refine⟨_,(aF (cP (aU uD (PE.eqv (jd (aL 0) T.m5 T.xr (Bm T) hr.d T.wZ .nil bA) (jg _ _ _ _ _ _)) (aL 1) (bO _)) (aF (N6 (E:=E) rJ rfl rfl T.lB rfl T.zY (aj (WR (.cons (qao eF) (.cons (qfp (aL 1)) (.cons (qao eF) .nil)))) ao))) bC)),?_⟩;left;obtain⟨dx,fs,hi,hno⟩:=hw.ins Cp.1 Cp.2;refine⟨_,_,hi,hno,o,xs,ps,rfl,hw,?_⟩
  by_cases hb:12<ps.length
  ·have:=q2 hb _ (Same.refl _);refine eX.pos (d:=⟨0⟩) (qm0 (by omega)) ?_;left;obtain⟨a1,a2,a3,a4,a5,a6,a7⟩:=fw0;exact⟨a1,a2,a3,a4,a5,a6,a7,this⟩
  ·refine eX.neg (d:=⟨0⟩) (qmx (by omega)) ?_;left;exact q1 (by omega)
theorem Xj{ns':List Int}{ks:List Nat}(h:ns'.Perm (ks.map λn:Nat=>(n:Int)))(hp:ns'.Pairwise (·<=·)):∃ks':List Nat,ns'=ks'.map (λn:Nat=>(n:Int))/\ks'.Perm ks/\ks'.Pairwise (·<=·):=by
 have e:ns'=(ns'.map Int.toNat).map (λn:Nat=>(n:Int)):=by
  rw[qn0]
  conv=>lhs;rw[<- List.map_id ns']
  refine qnK λn hn=>?_;obtain⟨k,_,rfl⟩:=qmW.mp (h.mem_iff.mp hn);rfl
 refine⟨ns'.map Int.toNat,e,?_,?_⟩
 ·have h1:=h.map Int.toNat;rw[qn0] at h1;have e2:ks.map (Int.toNat ∘ λn:Nat=>(n:Int))=ks:=by
   conv=>rhs;rw[<- List.map_id ks]
   exact qnK λn _=>rfl
  rwa [e2] at h1
 ·rw[List.pairwise_map];exact hp.imp λh=>Int.toNat_le_toNat h
def qbc(G H:Hp)(x:V)(m:Nat)(zs:List (List Nat×QAH)):Prop:=(tV m zs=none/\x = .non)\/∃ks r,tV m zs=some ks/\x = .ref r/\G r=none/\H r=some (.lst (ks.map λn:Nat=>V.int n))
theorem Vo{G:Hp}{m:Nat}{zs:List (List Nat×QAH)}{R:V->Hp->Prop}(rest:∀x H',Same G H'->qbc G H' x m zs->R x H'):(tV m zs=none->∀H',Same G H'->R .non H')/\(∀ks,tV m zs=some ks->∀(r:Addr)(H':Hp),G r=none->H' r=some (.lst (ks.map λn:Nat=>V.int n))->Same G H'->R (.ref r) H'):=
 ⟨λh H' s=>rest _ _ s (.inl ⟨h,rfl⟩),λks h r H' h0 h1 s=>rest _ _ s (.inr ⟨ks,r,h,rfl,h0,h1⟩)⟩
def hits(xs:QAH)(ps:QAD)(ns:List Int):Prop:=∀zs:List (List Nat×QAH),zs.Perm (Je xs ps ns)->∃ks,tV 12 zs=some ks
def Xk(C Pt NP TM Pa Ba:Addr):Sp:=λvs H Q E=>∃(o:Addr)(v:V)(d:PyData)(xs:QAH)(ps:QAD),vs=[.ref o,v]/\iZ C H o xs ps/\Qt xs/\uU xs ps/\bU H d v/\ps.length<=20/\TabOk G4 G5 Pt H/\
 (xT ps.length d=false->∀H',Same H H'->E (.ref NP) none H')/\
 (xT ps.length d=true->12<ps.length->∀H',Same H H'->E (.ref TM) none H')/\
 (xT ps.length d=true->ps.length<=12->∀c r,jB ps xs=c::r->r≠[]->∀(dx cc:Addr)(H':Hp),H cc=none->H' dx=some (ju dx [("lot",.ref cc)])->H' cc=some (.lst (c.map V.str))->Same H H'->E (.ref Pa) (some dx) H')/\
 (xT ps.length d=true->ps.length<=12->(jB ps xs).length<=1->∀k lot rest,jt ps xs=(k,lot)::rest->∀(dx c:Addr)(H':Hp),H c=none->H' dx=some (ju dx [("tie",.int (k:Nat)),("lot",.ref c)])->H' c=some (.lst (lot.map V.str))->Same H H'->E (.ref Ba) (some dx) H')/\
 (xT ps.length d=true->ps.length<=12->(jB ps xs).length<=1->jt ps xs=[]->∀(t:Addr)(ns:List Int),v = .ref t->qcW C H o t xs ps ns->hits xs ps ns/\
  ∀(zs:List (List Nat×QAH))(m:Nat)(ks ks':List Nat)(r k1:Addr)(lv:V)(H':Hp),zs.Perm (Je xs ps ns)->tV m zs=some ks->(∀j,j<m->tV j zs=none)->ks'.Perm ks->ks'.Pairwise (·<=·)->H' r=some (.tup [.ref k1,lv])->H k1=none->H' k1=some (.lst (ks'.map λn:Nat=>V.int n))->
   (match Qh ks zs with
    |none=>lv = .non
    |some cs=>∃l2 ws,lv = .ref l2/\H l2=none/\H' l2=some (.lst ws)/\Lg H H' ws cs)->But Pt H H'->TabOk G4 G5 Pt H'->Q (.ref r) H')
theorem Xl(T:Txt K mg a){c Pt:Addr}(L:U7 a.fB base mg c Pt):bV P w K mg base (Wz P w) 15 a.mJ a.vA ["web", "pointing"] (Xk a.b_ Pt a.aV a.bI a.bB a.bh):=by
 exists T.Ew.qcw,nJ
 ·obtain⟨o,v,d,xs,ps,rfl,_⟩:=h;rfl
 ·obtain⟨o,v,d,xs,ps,rfl,hw,hX,hTs,hd,z6,hT,q1,q2,q3,q4,q5⟩:=h;refine⟨_,(aC (eU (PE.eqv (aO (uZ T) hr.d rfl T.jA T.d9.kp T.jz .nil (rJ.passes rfl) (aj (aL 0) (aj (aL 1) ao))) (aJ _ _ _)))
   (aC (eU (PE.eqv (aO (qfP T) hr.d rfl T.oK T.jy.kp T.oJ .nil (rJ.passes rfl) (aj (aL 0) (aj (cU rfl T.pZ T.qe) ao))) (aJ _ _ _)))
   (aC (eU (PE.eqv (aO (Bv T) hr.d rfl T.uO T.oM.kp T.uN .nil (rJ.passes rfl) (aj (aL 0) ao)) (aJ _ _ _)))
   (aC (bG (i:=2) nJ.nd rfl (Or.inl rfl) (PE.eqv (aO (Ln (L:=L) (K:=K) T) hr.d rfl T.Bg T.uQ.kp T.Bf .nil bA (aj (aL 0) (aj (aL 1) ao))) (aJ _ _ _)))
   (aC (bG (i:=3) nJ.nd rfl (Or.inl rfl) aG)
   (aC (bG (i:=4) nJ.nd rfl (Or.inl rfl) (PE.eqv (aO (Lw (K:=K) T 12) (hr.mono (by omega)) rfl T.kI T.iH.kp T.kj .nil bA (aj (aL 2) (aj (aL 3) ao))) (aJ _ _ _)))
   (aC (Mp PassesOwn.leaving (aU qei (aL 4) tZ (bO _))
   (aC (PS.mono (Ys (i:=3) nJ.nd rfl (Or.inl rfl) aG Uw) Z0)
   (aF (bG (i:=4) nJ.nd rfl (Or.inl rfl) (PE.eqv (aO (Lw (K:=K) T 12) (hr.mono (by omega)) rfl T.kI T.iH.kp T.kj .nil bA (aj (aL 2) (aj (aL 3) ao))) (aJ _ _ _))))))
   (aF (aZ (gb (aj (aK (Ot (K:=K) rfl) rfl T.W6.sorted PyProof.Rows.boot_sorted (aj (aL 4) ao)) (aj (PE.eqv (aO (Vn (K:=K) T 12) (hr.mono (by omega)) rfl T.sS T.nF.kp T.sO .nil bA (aj (aL 2) (aj (aL 4) ao))) (aJ _ _ _)) ao)))))))))))),?_⟩
  have qfL:600<sizeLine:=by decide
  left;refine⟨o,v,d,xs,ps,rfl,hw,hd,z6,λH1 s1=>⟨λhb=>?_,λhb=>q1 hb _ s1⟩⟩;left;refine⟨o,xs,ps,rfl,hw.same s1,z6,λh12=>?_,λh12 H2 s2=>q2 hb h12 _ (s1.trans s2)⟩;left;refine⟨o,xs,ps,rfl,hw.same s1,hX,hTs,λhc1 hb1 H2 s2=>?_,λc r hcr hr0 dx cc H2 e1 e2 e3 s2=>q3 hb h12 c r hcr hr0 dx cc H2 (s1.free e1) e2 e3 (s1.trans s2),λhc1 k lot rest hbr dx c H2 e1 e2 e3 s2=>q4 hb h12 hc1 k lot rest hbr dx c H2 (s1.free e1) e2 e3 (s1.trans s2)⟩;obtain⟨t,ns,rfl,ht,h01,hln⟩:=qcX hd hb;obtain⟨hit,q⟩:=q5 hb h12 hc1 hb1 t ns rfl ⟨hw,ht,h01,hln,z6⟩;have S2:=s1.trans s2;left;refine⟨o,t,xs,ps,ns,rfl,⟨hw.same S2,ht.same S2,h01,hln,z6⟩,hX,hTs,hT.same S2,λl us zs H3 hz hl0 hl3 hcs hB hT3=>?_⟩;obtain⟨kz,hkz⟩:=hit zs hz;have B3:But Pt H H3:=λb u n e=>hB b u n (S2 _ _ e);have zl:zs.length<=600:=by
   rw[hz.length_eq];unfold Je;rw[ql9];refine qme (qnA _ _) ?_;rw[u0];have:2 ^ xs.length<=2 ^ 9:=qoA (by decide) hX.len.2;omega
  have ul:us.length<=600:=by rw[hcs.1];exact zl
  left;refine⟨l,us,zs,0,H2,rfl,by omega,by omega,hl3,ul,hcs,?_⟩;generalize hR:(fun(x:V) (H1:Hp)=>Al 4 x _ H1 _)=R;refine Vo (R:=R) λx H4 s4 hx4=>?_;rw[<- hR];clear hR R;left;refine whB (λσ H'=>∃(m:Nat)(x:V),σ=[some (.ref o),some (.ref t),some (.ref l),some (.int m),some x]/\m<=12/\(∀j,j<m->tV j zs=none)/\qbc H3 H' x m zs/\Same H3 H') (λσ _=>match σ with
   |[_,_,_,some (.int m),_]=>(12 - m).toNat
   |_=>0) ⟨0,x,rfl,by omega,λj hj=>absurd hj (Nat.not_lt_zero _),hx4,s4⟩ ?_ ?_
  ·rintro σ H5 ⟨m,x,rfl,hm,hno,hx,s5⟩
   rcases hx with⟨h0,rfl⟩|⟨ks,r,h0,rfl,hr0,hr5⟩
   ·have m12:m≠12:=λz=>by rw[z,hkz] at h0;cases h0
    left;refine⟨l,us,zs,m+1,H2,rfl,by omega,by omega,s5 _ _ hl3,ul,gG.same hcs s5,?_⟩;generalize hR:(fun(x:V) (H1:Hp)=>Al 4 x _ H1 _)=R;refine Vo (R:=R) λx H6 s6 hx6=>?_;rw[<- hR];clear hR R;left;have num:qbc H3 H6 x (m+1) zs:=by
     rcases hx6 with h|⟨ks,r,h1,h2,h3,h4⟩
     ·exact .inl h
     ·exact .inr ⟨ks,r,h1,h2,bQ s5 h3,h4⟩
    refine⟨⟨m+1,x,⟨by omega,rfl⟩,by omega,λj hj=>?_,num,s5.trans s6⟩,?_⟩
    ·by_cases e:j=m
     ·rw[e];exact h0
     ·exact hno j (by omega)
    ·omega
   ·have kl:=Ft h0;left;refine⟨ks.map λn:Nat=>(n:Int),by rw[qn0];exact aW.of hr5,by rw[ql9];omega,λp ns' hp hperm hpw=>?_⟩;obtain⟨ks',rfl,hk1,hk2⟩:=Xj hperm hpw;have s6:Same H5 (upd H5 p (.lst ((ks'.map λn:Nat=>(n:Int)).map V.int))):=aq hp;have e6:upd H5 p (.lst ((ks'.map λn:Nat=>(n:Int)).map V.int)) p=some (.lst (ks'.map λn:Nat=>V.int n)):=by rw[ak,qn0];rfl
    generalize upd H5 p (.lst ((ks'.map λn:Nat=>(n:Int)).map V.int))=H6 at s6 e6⊢;have S6:=s5.trans s6;have z20:∀z∈zs,z.1.length<=20:=λz hz'=>by
     have h1:=hz.mem_iff.mp hz';unfold Je at h1;obtain⟨c,_,rfl⟩:=qmW.mp h1;have h2:=yC (Dg c) ps 0;show(uw c ps).length<=20;unfold uw;omega
    have S3:∀b u,b≠Pt->H b=some u->H6 b=some u:=λb u n e=>S6 _ _ (B3 b u n e);have T6:TabOk G4 G5 Pt H6:=hT3.same S6;have fr:∀{b:Addr},H3 b=none->H b=none:=λ{b} e=>by
     cases z:H b with
     |none=>rfl
     |some u=>
      by_cases n:b=Pt
      ·obtain⟨qs,hq⟩:=hT3.tb;rw[n,hq] at e;cases e
      ·rw[B3 b u n z] at e;cases e
    refine⟨l,r,us,zs,ks,H2,rfl,by omega,by omega,S6 _ _ hl3,ul,gG.same hcs S6,z20,s6 _ _ hr5,λha H7 s7=>?_,λcs ha r7 lv H7 h70 h71 h72 s7=>?_⟩
    ·left;intro p8 hp8;refine q zs m ks ks' p8 p .non _ hz h0 hno hk1 hk2 ak (fr (bQ s5 hp)) ((aq hp8) _ _ (s7 _ _ e6)) (by rw[ha]) (λb u n e=>(aq hp8) _ _ (s7 _ _ (S3 b u n e))) (T6.same (s7.trans (aq hp8)))
    ·left;intro p8 hp8;refine q zs m ks ks' p8 p (.ref r7) _ hz h0 hno hk1 hk2 ak (fr (bQ s5 hp)) ((aq hp8) _ _ (s7 _ _ e6)) ?_ (λb u n e=>(aq hp8) _ _ (s7 _ _ (S3 b u n e))) (T6.same (s7.trans (aq hp8)));rw[ha];have s8:Same H7 (upd H7 p8 (.tup [.ref p,.ref r7])):=aq hp8;refine⟨r7,lv,rfl,fr (bQ S6 h70),s8 _ _ h71,?_⟩;refine⟨h72.1,λi v c hv hc=>?_⟩;obtain⟨t8,e8,h8,h9⟩:=h72.2 i v c hv hc;exact⟨t8,e8,S2.free h8,s8 _ _ h9⟩
  ·intro σ H8 Q8 Q9 h8 h9;revert h9;left;exact λh9=>getSt.imp (λv hv=>h8 _ _ hv) h9
theorem SJ{ps:QAD}{n:Nat}{a b:Str}:(n,a,b)∈aH (λ_=>none) ps 0↔∃e,ps[n]? = some e/\((a=e.1/\b=e.2)\/(a=e.2/\b=e.1)):=by
 rw[Kw];simp
theorem qfQ{ps:QAD}:∀a b,jf (aH (λ_=>none) ps 0) a b->jf (aH (λ_=>none) ps 0) b a:=λa b ⟨n,h⟩=>by
 obtain⟨e,he,h⟩:=SJ.mp h;exact⟨n,SJ.mpr ⟨e,he,h.elim (λz=>.inr ⟨z.2,z.1⟩) λz=>.inl ⟨z.2,z.1⟩⟩⟩
theorem Qj{S:List iM}{xs:QAH}:∀(ys:QAH)(acc:List (QAH))(c:QAH),c∈acc->c∈ys.foldl (h_ S xs) acc
 |[],acc,c,h=>h
 |y::ys,acc,c,h=>by
  refine Qj ys _ c ?_;unfold h_;split
  ·exact h
  ·exact qmt _ h
theorem Fx{S:List iM}{xs:QAH}:∀(ys:QAH)(acc:List (QAH))(y:Str),y∈ys->y∈xs->∃c∈ys.foldl (h_ S xs) acc,y∈c
 |[],acc,y,h,_=>by cases h
 |x::ys,acc,y,h,hx=>by
  rcases qmd.mp h with rfl|h
  ·obtain⟨c,hc,hy⟩:∃c∈h_ S xs acc y,y∈c:=by
    unfold h_;split
    ·rename_i h2;obtain⟨c,h1,h2⟩:=qnB.mp h2;exact⟨c,h1,qmj h2⟩
    ·exact⟨tG S xs y,by simp,rF.mpr ⟨hx,.refl _⟩⟩
   exact⟨c,Qj ys _ c hc,hy⟩
  ·exact Fx ys _ y h hx
theorem qbd{ps:QAD}{xs:QAH}(h:(jB ps xs).length<=1):∀x∈xs,∀y∈xs,RT (jf (aH (λ_=>none) ps 0)) x y:=λx hx y hy=>by
 unfold jB Df at h;obtain⟨c,hc,h1⟩:=Fx (S:=aH (λ_=>none) ps 0) (xs:=xs) xs [] x hx hx;obtain⟨d,hd,h2⟩:=Fx (S:=aH (λ_=>none) ps 0) (xs:=xs) xs [] y hy hy;have hm:=Ni (S:=aH (λ_=>none) ps 0) (xs:=xs) xs [] (by simp) (λz hz=>hz);generalize xs.foldl (h_ (aH (λ_=>none) ps 0) xs) []=cs at h hc hd hm;have hcd:c=d:=by
  match cs,h,hc,hd with
  |[z],_,hc,hd=>
   rw[qmH] at hc hd;rw[hc,hd]
 subst hcd;obtain⟨x0,_,rfl⟩:=hm c hc;exact((rF.mp h1).2.symm qfQ).trans (rF.mp h2).2
theorem Jg{S:List iM}{xs c:QAH}:∀(ys:QAH),(∀y∈ys,y∈c)->ys.foldl (h_ S xs) [c]=[c]
 |[],_=>rfl
 |y::ys,h=>by
  rw[qnV];have e:h_ S xs [c] y=[c]:=by
   unfold h_;rw[if_pos (by simp;exact h y qmr)]
  rw[e];exact Jg ys λz hz=>h z (qmp _ hz)
theorem Fy{ps:QAD}{xs:QAH}{x0:Str}(h:xs[0]? = some x0):(jB ps xs).length<=1↔¬(tG (aH (λ_=>none) ps 0) xs x0).length<xs.length:=by
 have hx0:=ql_ h;constructor
 ·intro hl hlt;have con:=qbd hl;have:tG (aH (λ_=>none) ps 0) xs x0=xs:=by
   unfold tG;refine qoD.mpr λy hy=>?_;simp;exact con x0 hx0 y hy
  rw[this] at hlt;omega
 ·intro hn;have hall:∀y∈xs,y∈tG (aH (λ_=>none) ps 0) xs x0:=λy hy=>by
   have hle:(tG (aH (λ_=>none) ps 0) xs x0).length<=xs.length:=yu;have heq:tG (aH (λ_=>none) ps 0) xs x0=xs:=by
    unfold tG at hn hle⊢;exact qoD.mpr (List.length_filter_eq_length_iff.mp (by omega))
   rw[heq];exact hy
  cases xs with
  |nil=>simp at h
  |cons x ys=>
   simp at h;subst h;unfold jB Df;rw[qnV];have e:h_ (aH (λ_=>none) ps 0) (x::ys) [] x=[tG (aH (λ_=>none) ps 0) (x::ys) x]:=by simp[h_]
   rw[e,Jg ys λy hy=>hall y (qmp _ hy)];simp
theorem Qk:∀(m:Nat)(zs:List (List Nat×QAH))(N:List Nat),N.length<=m->(∀z∈zs,z.1≠[]/\∀n∈z.1,n∈N)->∃ks,tV m zs=some ks
 |0,zs,N,hN,h=>by
  cases zs with
  |nil=>exact⟨[],rfl⟩
  |cons z r=>
   obtain⟨h1,h2⟩:=h z qmr;cases hz:z.1 with
   |nil=>exact absurd hz h1
   |cons n q=>
    have:=h2 n (by rw[hz];exact qmr);have:N=[]:=List.length_eq_zero_iff.mp (by omega);subst this;cases ‹n∈([]:List Nat)›
 |m+1,zs,N,hN,h=>by
  cases zs with
  |nil=>exact⟨[],rfl⟩
  |cons z r=>
   obtain⟨h1,h2⟩:=h z qmr;cases hz:z.1 with
   |nil=>exact absurd hz h1
   |cons n q=>
    have hn:n∈z.1:=by rw[hz];exact qmr
    obtain⟨ks,hk⟩:=Qk m ((z::r).filter (Lq n)) (N.erase n) (by rw[List.length_erase_of_mem (h2 n hn)];omega) λy hy=>by
     obtain⟨y1,y2⟩:=qm9.mp hy;obtain⟨a1,a2⟩:=h y y1;refine⟨a1,λk hk=>?_⟩;have ne:k≠n:=λz=>by
      subst z;unfold Lq at y2;simp[hk] at y2
     exact(List.mem_erase_of_ne ne).mpr (a2 k hk)
    have some:(z.1.findSome? λn=>(tV m ((z::r).filter (Lq n))).map (n::·)).isSome=true:=by
     rw[List.findSome?_isSome_iff];exact⟨n,hn,by rw[hk];rfl⟩
    obtain⟨ks',hk'⟩:=qn3.mp some;exact⟨ks',hk'⟩
theorem SM{ps:QAD}{xs c:QAH}(hnd:xs.Nodup)(hcl:(jB ps xs).length<=1)(hs:c.Sublist xs)(h0:0<c.length)(h1:c.length<xs.length):uw c ps≠[]:=by
 intro hz;obtain⟨x,hx⟩:∃x,x∈c:=List.exists_mem_of_length_pos h0;obtain⟨y,hy,hyc⟩:∃y∈xs,¬y∈c:=by
  apply qnT;intro h;have:xs.length<=c.length:=by
   have hh:∀y∈xs,y∈c:=λy hy=>qnT λhc=>h ⟨y,hy,hc⟩;exact fV hnd hh
  omega
 have con:=qbd hcl x (hs.mem hx) y hy;refine hyc (con.closed (P:=λz=>z∈c) (λa b hab ha=>?_) hx);obtain⟨n,hn⟩:=hab;obtain⟨e,he,ht⟩:=SJ.mp hn;have hno:¬n∈uw c ps:=by rw[hz];simp
 have hc:e.1∈c↔e.2∈c:=by
  apply qnT;intro hne;exact hno (yx.mpr ⟨n,e,he,by unfold nZ;rw[if_neg hne];simp⟩)
 rcases ht with⟨rfl,rfl⟩|⟨rfl,rfl⟩
 ·exact hc.mp ha
 ·exact hc.mpr ha
theorem Kv{xs:QAH}{ps:QAD}{ns:List Int}(hX:Qt xs)(hcl:(jB ps xs).length<=1)(h12:ps.length<=12):hits xs ps ns:=λzs hz=>by
 refine Qk 12 zs (List.range ps.length) (by rw[List.length_range];exact h12) λz hz'=>?_;have h1:=hz.mem_iff.mp hz';unfold Je at h1;obtain⟨c,hc,rfl⟩:=qmW.mp h1;obtain⟨a1,a2,a3⟩:=qa6 hX.len.2 (qm9.mp hc).1;refine⟨SM hX.nd hcl a1 a2 a3,λn hn=>?_⟩;obtain⟨j,e,he,hm⟩:=yx.mp hn;unfold nZ at hm;split at hm
 ·cases hm
 ·rw[qmH] at hm;rw[qm_,hm,qm7];exact(ql2.mp he).1
def oO(H:Hp)(t n l:Addr)(xs:QAH)(tv:List V)(ps:QAD):Prop:=H t=some (.tup [.ref n,.ref l])/\H n=some (.lst (xs.map V.str))/\H l=some (.lst tv)/\bF H tv ps/\Qt xs/\uU xs ps
theorem int_at{ns:List Int}{i:Nat}{x:V}(h:(ns.map V.int)[i]? = some x):∃m,ns[i]? = some m/\x = .int m:=by
 rw[qmw] at h;cases hn:ns[i]? with
 |none=>rw[hn] at h;cases h
 |some n=>rw[hn] at h;cases h;exact⟨n,rfl,rfl⟩
theorem jL.qkX{p b:Addr}{H:Hp}{o:HO}(x:jL H p)(h:H b=some o)(hn:∀zs,o≠.lst zs):b≠p:=λz=>by
 subst z;obtain⟨u,v,e,_⟩:=x;rw[h] at e;exact hn _ (qmB e)
theorem oO.but{p:Addr}{H H':Hp}{t n l:Addr}{xs:QAH}{tv:List V}{ps:QAD}(h:oO H t n l xs tv ps)(hp:jL H p)(b:But p H H')(np:n≠p)(lp:l≠p):oO H' t n l xs tv ps:=
 ⟨b _ _ (hp.qkX h.1 (by intro zs z;cases z)) h.1,b _ _ np h.2.1,b _ _ lp h.2.2.1,h.2.2.2.1.but hp b,h.2.2.2.2⟩
def qhJ(zs:List Int)(fx:Nat->Option Int):Prop:=∀(j:Nat) z,zs[j]? = some z->(z=0/\fx j=some 0)\/(z=1/\fx j=some 1)\/(z=2/\fx j=none)
theorem rE{fx:Nat->Option Int}{ps:QAD}{j:Nat}{e:Str×Str}(he:ps[j]? = some e):aH fx (ps.take (j+1)) 0=aH fx (ps.take j) 0++jQ fx e j:=by
 have hj:j<ps.length:=(ql2.mp he).1;rw[take_one he,nY,qmk,qnm (by omega),qm7];simp[aH]
def SN:Sp:=λvs H Q _=>∃(t n l g:Addr)(xs:QAH)(tv:List V)(ps:QAD)(zs:List Int)(fx:Nat->Option Int)(x:Str),vs=[.ref t,.ref g,.str x]/\oO H t n l xs tv ps/\H g=some (.lst (zs.map V.int))/\zs.length=ps.length/\qhJ zs fx/\x∈xs/\
 ∀(r:Addr)(f:QAH)(H':Hp),H r=none->H' r=some (.lst (f.map V.str))->f.length=(tG (aH fx ps 0) xs x).length->(∀y,y∈f↔RT (jf (aH fx ps 0)) x y)->Same H H'->Q (.ref r) H'
theorem SQ(T:Txt K mg a):bV P w K mg base i_ 1 a.jH a.sE ["_law_web_here", "_law_pointing", "_law_start"] SN:=by
 exists T.zX.qL,lu
 ·obtain⟨t,n,l,g,xs,tv,ps,zs,fx,x,rfl,_⟩:=h;rfl
 ·obtain⟨t,n,l,g,xs,tv,ps,zs,fx,x,rfl,hG,hg,hlen,hst,hx,q⟩:=h;refine⟨_,(aC (bG (i:=3) lu.nd rfl (Or.inl rfl) (cI (aj (aL 2) ao)))
   (aC (kO qmZ rfl (PI.eqv (cJ (K:=K) rfl (bR (cj (K:=K) rfl) (aL 0) aG (λ_ _=>rfl))) (bT _ _)) (aR (i:=4) lu.nd rfl (Or.inl rfl))
   (aF (kO qmZ rfl (PI.eqv (Uo (K:=K) rfl rfl T.nm.zip (aj (bR (cj (K:=K) rfl) (aL 0) aG (λ_ _=>rfl)) (aj (aL 1) ao))) (NQ _ _)) (PG.eqv (gV (K:=K) (n:=2) rfl rfl (lH.eqv (bJ (PG.eqv (gV (K:=K) (n:=2) rfl rfl (lH.eqv (bJ (aR (i:=5) lu.nd rfl (Or.inl rfl)) (lH.eqv (bJ (aR (i:=6) lu.nd rfl (Or.inl rfl)) (lH.mono gU jU)) (bL _ _))) (bL _ _))) (gW _ _ _)) (lH.eqv (bJ (aR (i:=7) lu.nd rfl (Or.inl rfl)) (lH.mono gU jU)) (bL _ _))) (bL _ _))) (gW _ _ _))
   (aC (cP (PW.pt (zu (aU mV (aL 7) aG (bO _)) (zu (aU (Gv (K:=K) rfl) (aL 5) (aL 3) rfl) (Bx (aU (yK (K:=K) rfl) (aL 6) (aL 3) rfl))))) (aF (eU (kY (K:=K) rfl qmI qmT qmU gk (aL 3) (aj (aL 6) ao)))) bC)
   (aF (cP (PW.pt (zu (aU mV (aL 7) aG (bO _)) (zu (aU (Gv (K:=K) rfl) (aL 6) (aL 3) rfl) (Bx (aU (yK (K:=K) rfl) (aL 5) (aL 3) rfl))))) (aF (eU (kY (K:=K) rfl qmI qmT qmU gk (aL 3) (aj (aL 5) ao)))) bC))))))
   (aF (aZ (aL 3))))),?_⟩
  have s60:60<=sizeLine:=by decide
  have hX:=hG.2.2.2.2.1;have hTs:=hG.2.2.2.2.2;have l9:=hX.len;have z6:=hTs.len;have tl:=hG.2.2.2.1.1;have Qu:∀s∈aH fx ps 0,s.2.2∈xs:=Lb hTs;left;intro f hf;exists H,f,(.lst [.str x]),sf,ef,H1,hf;refine⟨_,.inr (eG.of (sf _ _ hG.1)),_,bD (j:=0) rfl,⟨_,aW.of (sf _ _ hG.2.1)⟩,?_⟩;refine frL (xs.map V.str) (λi σ H'=>∃(fs:QAH)(o4 o5 o6 o7:Option V),σ=[some (.ref t),some (.ref g),some (.str x),some (.ref f),o4,o5,o6,o7]/\H' f=some (.lst (fs.map V.str))/\Qs (aH fx ps 0) x fs/\(pC (aH fx ps 0) fs\/i+1<=fs.length)/\Same H H') ⟨[x],none,none,none,none,rfl,ef,Qs.begin _ _,.inr (ql7 _),sf⟩ (λi σ H' _ h=>by
   obtain⟨_,_,_,_,_,_,_,_,_,z⟩:=h;exact aW.of (z _ _ hG.2.1)) ?_ ?_
  ·rintro i z σ H2 hi ⟨fs,o4,o5,o6,o7,rfl,hf2,hR,hC,s2⟩;left;refine⟨_,.inr (eG.of (s2 _ _ hG.1)),_,bD (j:=1) rfl,?_⟩;left;refine⟨⟨_,aW.of (s2 _ _ hG.2.2.1)⟩,⟨_,aW.of (s2 _ _ hg)⟩,?_⟩;refine frZ tv (zs.map V.int) (λj σ H'=>∃(fs':QAH)(o5 o6 o7:Option V),σ=[some (.ref t),some (.ref g),some (.str x),some (.ref f),some z,o5,o6,o7]/\H' f=some (.lst (fs'.map V.str))/\gw (aH fx ps 0) (aH fx (ps.take j) 0) x fs fs'/\Same H H') ⟨fs,o5,o6,o7,rfl,hf2,gw.enter hR,s2⟩ (by simp;omega) (λi σ H' _ h=>by
    obtain⟨_,_,_,_,_,_,_,z⟩:=h;exact⟨aW.of (z _ _ hG.2.2.1),aW.of (z _ _ hg)⟩) ?_ ?_
   ·rintro j z1 z2 tt σ H4 hj1 hj2 htt ⟨fs',o5,o6,o7,rfl,hf4,hM,s4⟩;obtain⟨e,he,t2,rfl,Yh⟩:=hG.2.2.2.1.at hj1;obtain⟨m,hm,rfl⟩:=int_at hj2;have st:Same H4 (upd H4 tt (.tup [.ref t2,.int m])):=aq htt;have zm:=st _ _ hf4;have ht5:=st _ _ (s4 _ _ Yh);have s5:=s4.trans st;have ett:upd H4 tt (.tup [.ref t2,.int m]) tt=some (.tup [.ref t2,.int m]):=ak;generalize upd H4 tt (.tup [.ref t2,.int m])=H5 at zm ht5 s5 ett⊢;have hf9:=hM.r.len hx Qu;have qc5:∀s∈jQ fx e j,s∈aH fx ps 0:=λs hs=>jE.mpr ⟨j,e,he,by rw[qm7];exact hs⟩;have hT1:=rE (fx:=fx) he;generalize aH fx (ps.take (j+1)) 0=T1 at hT1⊢;left;refine⟨_,eG.of ett,rfl,_,eG.of ht5,rfl,?_⟩
    rcases hst j m hm with⟨rfl,hfx⟩|⟨rfl,hfx⟩|⟨rfl,hfx⟩
    ·have so:jQ fx e j=[(j,e.1,e.2)]:=by unfold jQ;rw[hfx];rfl
     have hin:(j,e.1,e.2)∈aH fx ps 0:=qc5 _ (by rw[so];simp);rw[so] at hT1;have cv:∀{f:QAH},gw (aH fx ps 0) (aH fx (ps.take j) 0++[(j,e.1,e.2)]) x fs f->gw (aH fx ps 0) T1 x fs f:=λh=>by rw[hT1];exact h
     left;refine⟨_,.inl (aW.of zm),rfl,qmn.mp (cu _),?_⟩;rw[bK];refine eX.of (λh1=>?_) (λh1=>?_)
     ·have h1':e.1∈fs':=qmj h1;have d1:inV (.str e.2) (fs'.map V.str) = !decide (¬e.2∈fs'):=by rw[bK];simp
      left;refine⟨_,.inl (aW.of zm),rfl,qmn.mp (cu _),_,d1,eX.of (λh2=>?_) (λh2=>?_)⟩
      ·have h2':¬e.2∈fs':=qmj h2;left;refine⟨⟨_,aW.of zm⟩,_,zm,by simp;omega,fs'++[e.2],by rw[ak];simp,cv (hM.add hin h1' h2'),bx s5 hf⟩
      ·have h2':e.2∈fs':=by simpa using h2
       left;exact⟨fs',zm,cv (hM.skip (s:=(j,e.1,e.2)) λ_=>h2'),s5⟩
     ·have h1':¬e.1∈fs':=qmL h1;left;exact⟨fs',zm,cv (hM.skip (s:=(j,e.1,e.2)) λz=>absurd z h1'),s5⟩
    ·have so:jQ fx e j=[(j,e.2,e.1)]:=by unfold jQ;rw[hfx];rfl
     have qbe:(j,e.2,e.1)∈aH fx ps 0:=qc5 _ (by rw[so];simp);rw[so] at hT1;have cv:∀{f:QAH},gw (aH fx ps 0) (aH fx (ps.take j) 0++[(j,e.2,e.1)]) x fs f->gw (aH fx ps 0) T1 x fs f:=λh=>by rw[hT1];exact h
     left;refine⟨_,.inl (aW.of zm),rfl,qmn.mp (cu _),?_⟩;rw[bK];refine eX.of (λg1=>?_) (λg1=>?_)
     ·have SX:e.2∈fs':=qmj g1;have d2:inV (.str e.1) ((fs').map V.str) = !decide (¬e.1∈fs'):=by rw[bK];simp
      have l9':=(hM).r.len hx Qu;left;refine⟨_,.inl (aW.of zm),rfl,qmn.mp (cu _),_,d2,eX.of (λg2=>?_) (λg2=>?_)⟩
      ·have S8:¬e.1∈fs':=qmj g2;left;exact⟨⟨_,aW.of zm⟩,_,zm,by rw[ql9];omega,fs'++[e.1],by rw[ak];simp,cv ((hM).add qbe SX S8),bx s5 hf⟩
      ·have S8:e.1∈fs':=by simpa using g2
       left;exact⟨fs',zm,cv ((hM).skip (s:=(j,e.2,e.1)) λ_=>S8),s5⟩
     ·have SX:¬e.2∈fs':=qmL g1;left;exact⟨fs',zm,cv ((hM).skip (s:=(j,e.2,e.1)) λz=>absurd z SX),s5⟩
    ·have so:jQ fx e j=[(j,e.1,e.2)]++[(j,e.2,e.1)]:=by unfold jQ;rw[hfx];rfl
     have hin:(j,e.1,e.2)∈aH fx ps 0:=qc5 _ (by rw[so];simp);have qbe:(j,e.2,e.1)∈aH fx ps 0:=qc5 _ (by rw[so];simp);rw[so,<- qmo] at hT1;have cv:∀{f:QAH},gw (aH fx ps 0) (aH fx (ps.take j) 0++[(j,e.1,e.2)]++[(j,e.2,e.1)]) x fs f->gw (aH fx ps 0) T1 x fs f:=λh=>by rw[hT1];exact h
     left;refine⟨_,.inl (aW.of zm),rfl,qmn.mp (cu _),?_⟩;rw[bK];refine eX.of (λh1=>?_) (λh1=>?_)
     ·have h1':e.1∈fs':=qmj h1;have d1:inV (.str e.2) (fs'.map V.str) = !decide (¬e.2∈fs'):=by rw[bK];simp
      left;refine⟨_,.inl (aW.of zm),rfl,qmn.mp (cu _),_,d1,eX.of (λh2=>?_) (λh2=>?_)⟩
      ·have h2':¬e.2∈fs':=qmj h2;left;have hM6:=hM.add hin h1' h2';have hf6:upd H5 f (.lst (fs'.map V.str++[.str e.2])) f=some (.lst ((fs'++[e.2]).map V.str)):=by rw[ak];simp
       have s6:Same H (upd H5 f (.lst (fs'.map V.str++[.str e.2]))):=bx s5 hf;refine⟨⟨_,aW.of zm⟩,_,zm,by simp;omega,?_⟩;generalize upd H5 f (.lst (fs'.map V.str++[.str e.2]))=H6 at hf6 s6⊢;have qbf:gw (aH fx ps 0) (aH fx (ps.take j) 0++[(j,e.1,e.2)]) x fs (fs'++[e.2]):=hM6;generalize fs'++[e.2]=fs6 at hf6 qbf;refine⟨_,.inl (aW.of hf6),rfl,qmn.mp (cu _),?_⟩;rw[bK];refine eX.of (λg1=>?_) (λg1=>?_)
       ·have SX:e.2∈fs6:=qmj g1;have d2:inV (.str e.1) ((fs6).map V.str) = !decide (¬e.1∈fs6):=by rw[bK];simp
        have l9':=(qbf).r.len hx Qu;left;refine⟨_,.inl (aW.of hf6),rfl,qmn.mp (cu _),_,d2,eX.of (λg2=>?_) (λg2=>?_)⟩
        ·have S8:¬e.1∈fs6:=qmj g2;left;exact⟨⟨_,aW.of hf6⟩,_,hf6,by rw[ql9];omega,fs6++[e.1],by rw[ak];simp,cv ((qbf).add qbe SX S8),bx s6 hf⟩
        ·have S8:e.1∈fs6:=by simpa using g2
         left;exact⟨fs6,hf6,cv ((qbf).skip (s:=(j,e.2,e.1)) λ_=>S8),s6⟩
       ·have SX:¬e.2∈fs6:=qmL g1;left;exact⟨fs6,hf6,cv ((qbf).skip (s:=(j,e.2,e.1)) λz=>absurd z SX),s6⟩
      ·have h2':e.2∈fs':=by simpa using h2
       have hM6:=hM.skip (s:=(j,e.1,e.2)) λ_=>h2';left;refine⟨_,.inl (aW.of zm),rfl,qmn.mp (cu _),?_⟩;rw[bK];refine eX.of (λg1=>?_) (λg1=>?_)
       ·have SX:e.2∈fs':=qmj g1;have d2:inV (.str e.1) ((fs').map V.str) = !decide (¬e.1∈fs'):=by rw[bK];simp
        have l9':=(hM6).r.len hx Qu;left;refine⟨_,.inl (aW.of zm),rfl,qmn.mp (cu _),_,d2,eX.of (λg2=>?_) (λg2=>?_)⟩
        ·have S8:¬e.1∈fs':=qmj g2;left;exact⟨⟨_,aW.of zm⟩,_,zm,by rw[ql9];omega,fs'++[e.1],by rw[ak];simp,cv ((hM6).add qbe SX S8),bx s5 hf⟩
        ·have S8:e.1∈fs':=by simpa using g2
         left;exact⟨fs',zm,cv ((hM6).skip (s:=(j,e.2,e.1)) λ_=>S8),s5⟩
       ·have SX:¬e.2∈fs':=qmL g1;left;exact⟨fs',zm,cv ((hM6).skip (s:=(j,e.2,e.1)) λz=>absurd z SX),s5⟩
     ·have h1':¬e.1∈fs':=qmL h1;have hM6:=hM.skip (s:=(j,e.1,e.2)) λz=>absurd z h1';left;refine⟨_,.inl (aW.of zm),rfl,qmn.mp (cu _),?_⟩;rw[bK];refine eX.of (λg1=>?_) (λg1=>?_)
      ·have SX:e.2∈fs':=qmj g1;have d2:inV (.str e.1) ((fs').map V.str) = !decide (¬e.1∈fs'):=by rw[bK];simp
       have l9':=(hM6).r.len hx Qu;left;refine⟨_,.inl (aW.of zm),rfl,qmn.mp (cu _),_,d2,eX.of (λg2=>?_) (λg2=>?_)⟩
       ·have S8:¬e.1∈fs':=qmj g2;left;exact⟨⟨_,aW.of zm⟩,_,zm,by rw[ql9];omega,fs'++[e.1],by rw[ak];simp,cv ((hM6).add qbe SX S8),bx s5 hf⟩
       ·have S8:e.1∈fs':=by simpa using g2
        left;exact⟨fs',zm,cv ((hM6).skip (s:=(j,e.2,e.1)) λ_=>S8),s5⟩
      ·have SX:¬e.2∈fs':=qmL g1;left;exact⟨fs',zm,cv ((hM6).skip (s:=(j,e.2,e.1)) λz=>absurd z SX),s5⟩
   ·rintro σ H4 ⟨fs',o5,o6,o7,rfl,hf4,hM,s4⟩;rw[tl,qmv] at hM;obtain⟨hR',hC'⟩:=hM.leave hC;left;exact⟨fs',hf4,hR',hC',s4⟩
  ·rintro σ H2 ⟨fs,o4,o5,o6,o7,rfl,hf2,hR,hC,s2⟩;have hle:=hR.len hx Qu;rw[ql9] at hC;have hcl:pC (aH fx ps 0) fs:=hC.elim id λz=>absurd z (by omega);left;exact q f fs H2 hf hf2 (hR.tG hcl hX.nd hx Qu) (hR.closed hcl) s2
theorem qc6{S:List iM}{xs:QAH}{x:Str}:(tG S xs x).length=xs.length↔∀y∈xs,RT (jf S) x y:=by
 constructor
 ·intro h y hy;have h2:tG S xs x=xs:=by
   unfold tG at h⊢;exact qoD.mpr (List.length_filter_eq_length_iff.mp h)
  have:y∈tG S xs x:=by rw[h2];exact hy
  exact(rF.mp this).2
 ·intro h;apply qnT;intro hne;have hlt:(tG S xs x).length<xs.length:=by have:=yu (S:=S) (xs:=xs) (x:=x);omega
  unfold tG at hlt;rw[List.length_filter_lt_length_iff_exists] at hlt;obtain⟨y,hy,hn⟩:=hlt;exact hn (by simpa using h y hy)
theorem rep2(m:Nat):(List.replicate m [V.int 2]).flatten=(List.replicate m (2:Int)).map V.int:=by
 induction m with
 |zero=>rfl
 |succ m ih=>rw[qnv,qoo,ih];rfl
theorem st2(m:Nat):qhJ (List.replicate m 2) (λ_=>none):=λj z hz=>by
 rw[List.getElem?_replicate] at hz;split at hz
 ·cases hz;exact .inr (.inr ⟨rfl,rfl⟩)
 ·cases hz
def qbg:Sp:=λvs H Q _=>∃(t n l b:Addr)(xs:QAH)(tv Vm:List V)(ps ps':QAD),vs=[.ref t,.ref b]/\oO H t n l xs tv ps/\H b=some (.lst Vm)/\bF H Vm ps'/\uU xs ps'/\
 ∀H',Same H H'->Q (.bl (decide ((jB ps' xs).length<=1))) H'
theorem Ql(T:Txt K mg a):bV P w K mg base i_ 2 a.pY a.yV ["_law_web_here", "_law_ties"] qbg:=by
 exists T.Ck.qL,qaK
 ·obtain⟨t,n,l,b,xs,tv,Vm,ps,ps',rfl,_⟩:=h;rfl
 ·obtain⟨t,n,l,b,xs,tv,Vm,ps,ps',rfl,hG,hb,htv,hTs,q⟩:=h;refine⟨_,(aF (aZ (lJ mU (aK (bY (K:=K) rfl) rfl T.nm.len qmi (aj (PE.eqv (aO (SQ T) hr.d rfl T.Io T.zX.kp T.Im .nil bA (aj (gb (aj (bR (cj (K:=K) rfl) (aL 0) aG (λ_ _=>rfl)) (aj (aL 1) ao))) (aj (cB qeu (cI (aj aG ao)) (aK (bY (K:=K) rfl) rfl T.nm.len qmi (aj (aL 1) ao))) (aj (bR (cj (K:=K) rfl) (bR (cj (K:=K) rfl) (aL 0) aG (λ_ _=>rfl)) aG (λ_ _=>rfl)) ao)))) (aJ _ _ _)) ao)) (aK (bY (K:=K) rfl) rfl T.nm.len qmi (aj (bR (cj (K:=K) rfl) (aL 0) aG (λ_ _=>rfl)) ao)) (bO _)))),?_⟩;have s60:60<=sizeLine:=by decide
  have hX:=hG.2.2.2.2.1;have z6:=hTs.len;have tl:=htv.1;obtain⟨x0,hx0⟩:∃x,xs[0]? = some x:=⟨_,qmM (by have:=hX.len.1;omega)⟩;left;refine⟨_,.inr (eG.of hG.1),_,bD (j:=0) rfl,λp1 hp1=>?_⟩;exists H,p1,(.tup [.ref n,.ref b]),s1,e1,H1,hp1;intro b5 hb5;exists H1,b5,(.lst [.int 2]),s5,e5,H5,hb5;have S5:=s1.trans s5;refine⟨_,.inl (aW.of (S5 _ _ hb)),_,e5,by omega,by simp only[qmq,qoh];omega,λb6 hb6=>?_⟩;rw[rep2,tl];generalize hm:ps'.length=m at tl z6;exists H5,b6,(.lst ((List.replicate m (2:Int)).map V.int)),s6,e6,H6,hb6;have S6:=S5.trans s6;have hG6:oO H6 p1 n b xs Vm ps':=⟨(s5.trans s6) _ _ e1,S6 _ _ hG.2.1,S6 _ _ hb,htv.same S6,hX,hTs⟩;refine⟨_,.inr (eG.of (S6 _ _ hG.1)),_,bD (j:=0) rfl,_,.inl (aW.of (S6 _ _ hG.2.1)),_,bD (j:=0) (by rw[qmw,hx0];rfl),p1,n,b,b6,xs,_,ps',List.replicate m 2,λ_=>none,x0,rfl,hG6,e6,by rw[List.length_replicate,hm],st2 m,ql_ hx0,λr f H7 hr e7 hfl _ s7=>?_⟩;have S7:=S6.trans s7;left;refine⟨_,.inl (aW.of e7),_,.inr (eG.of (S7 _ _ hG.1)),_,bD (j:=0) rfl,_,.inl (aW.of (S7 _ _ hG.2.1)),?_⟩;have:=q H7 S7;have hle:(tG (aH (λ_=>none) ps' 0) xs x0).length<=xs.length:=yu;have hj:=Fy (ps:=ps') hx0;rw[show decide (((f.map V.str).length:Int)=((xs.map V.str).length:Int))=decide ((jB ps' xs).length<=1) by
   rw[decide_eq_decide,hj,ql9,ql9,hfl];omega]
  exact this
def xH(ps:QAD)(xs:QAH):Str:=if 12<ps.length then "much" else if ¬(jB ps xs).length<=1 then "parted" else if jt ps xs=[] then "told" else "barred"
theorem qdV{n j:Nat}{d:Nat}:HT.uf n d (some (j:Int))=min j n:=by
 simp[HT.uf];intro h;omega
theorem qhK{xs:List V}{j:Nat}:mC xs none (some (j:Int))=xs.take j:=by
 unfold mC;rw[qdV];simp[HT.uf,List.take_eq_take_iff]
theorem qc7{xs:List V}{j:Nat}:mC xs (some (j:Int)) none=xs.drop j:=by
 unfold mC;rw[qdV];simp[HT.uf];rw[qng (by simp)]
 by_cases h:j<=xs.length
 ·rw[qnm h]
 ·rw[Nat.min_eq_right (by omega),qnM (ql7 _),qnM (by omega)]
theorem Cq{α:Type}{l:List α}{k:Nat}(j:Nat)(hk:k<l.length):(l.take k++l.drop (k+1))[j]? = if j<k then l[j]? else l[j+1]?:=by
 split
 ·rename_i h;rw[qms (by rw[qmk];omega),qn4 h]
 ·rename_i h;rw[qmu (by rw[qmk];omega),qmk,qnm (by omega),List.getElem?_drop];congr 1;omega
theorem qbh{H:Hp}{vs:List V}{ps:QAD}{k:Nat}(h:bF H vs ps)(hk:k<ps.length):bF H (vs.take k++vs.drop (k+1)) (ps.take k++ps.drop (k+1)):=by
 have hl:=h.1;refine⟨by simp;omega,λi v e h1 h2=>?_⟩;rw[Cq i (by omega)] at h1;rw[Cq i hk] at h2;split at h1
 ·rename_i hi;rw[if_pos hi] at h2;exact h.2 _ _ _ h1 h2
 ·rename_i hi;rw[if_neg hi] at h2;exact h.2 _ _ _ h1 h2
theorem Jh{ps:QAD}{k:Nat}(hk:k<ps.length){x y:Str}:jf (aH (λ_=>none) (ps.take k++ps.drop (k+1)) 0) x y↔g_ (λi=>i≠k) ps x y:=by
 constructor
 ·rintro⟨n,hn⟩;rw[Kw] at hn;obtain⟨e,he,h⟩:=hn;rw[Cq n hk] at he;refine⟨if n<k then n else n+1,by split <;> omega,?_⟩
  have he':ps[if n<k then n else n+1]? = some e:=by
   rw[<- he];split <;> rfl
  rw[he']
  rcases h with⟨_,rfl,rfl⟩|⟨_,rfl,rfl⟩
  ·exact .inl rfl
  ·exact .inr rfl
 ·rintro⟨j,hj,h⟩;refine⟨if j<k then j else j - 1,?_⟩
  rw[Kw];have he:(ps.take k++ps.drop (k+1))[if j<k then j else j - 1]? = ps[j]?:=by
   rw[Cq _ hk]
   by_cases h1:j<k
   ·rw[if_pos h1,if_pos h1]
   ·rw[if_neg h1,if_neg (by omega),show j - 1+1=j by omega]
  rw[he]
  rcases h with h|h
  ·exact⟨_,h,.inl ⟨rfl,rfl,rfl⟩⟩
  ·exact⟨_,h,.inr ⟨rfl,rfl,rfl⟩⟩
theorem Qm{f:Str×Str->Nat->List (Nat×QAH)}:∀{ps:QAD}{k:Nat},mR f ps k=[]->∀(j:Nat) e,ps[j]? = some e->f e (k+j)=[]
 |[],k,_,j,e,h=>by simp at h
 |d::ps,k,h,j,e,he=>by
  rw[mR,List.append_eq_nil_iff] at h;cases j with
  |zero=>simp at he;subst he;exact h.1
  |succ j=>
   have:=Qm h.2 j e (by simpa using he)
   rwa [show k+(j+1)=k+1+j by omega]
theorem qbi{ps:QAD}{xs:QAH}(h:jt ps xs=[]):∀(j:Nat) e,ps[j]? = some e->RT (g_ (λi=>i≠j) ps) e.1 e.2:=λj e he=>by
 have h1:=Qm h j e he;rw[qm7] at h1;unfold qR at h1;split at h1
 ·rename_i h2;exact((Hv.mp h2).2).symm λ_ _ z=>z.symm
 ·cases h1
theorem qbj{ps:QAD}{xs:QAH}(hTs:uU xs ps)(h:∀(k:Nat) e,ps[k]? = some e->RT (g_ (λi=>i≠k) ps) e.1 e.2):jt ps xs=[]:=by
 cases hb:jt ps xs with
 |nil=>rfl
 |cons z rest=>
  have hm:z∈jt ps xs:=by rw[hb];exact qmr
  unfold jt at hm;obtain⟨j,e,h1,h2⟩:=yx.mp hm;rw[qm7] at h2;unfold qR at h2;rw[if_pos ?_] at h2
  ·cases h2
  ·exact Hv.mpr ⟨(hTs.ok e (ql_ h1)).1,(h j e h1).symm λa b ⟨i,g1,g2⟩=>⟨i,g1,g2.symm⟩⟩
theorem Ji{ps:QAD}{xs:QAH}(hX:Qt xs)(hTs:uU xs ps)(hcl:(jB ps xs).length<=1):jt ps xs=[]↔∀k,k<ps.length->(jB (ps.take k++ps.drop (k+1)) xs).length<=1:=by
 obtain⟨x0,hx0⟩:∃x,xs[0]? = some x:=⟨_,qmM (by have:=hX.len.1;omega)⟩;have m0:=ql_ hx0;have qfR:∀qs:QAD,(jB qs xs).length<=1↔∀y∈xs,RT (jf (aH (λ_=>none) qs 0)) x0 y:=λqs=>by
  rw[Fy hx0,<- qc6];have hle:(tG (aH (λ_=>none) qs 0) xs x0).length<=xs.length:=yu;omega
 constructor
 ·intro h k hk;rw[qfR];intro y hy;have con:=(qfR ps).mp hcl y hy;have bc:=qbi h;have step:∀a b,g_ (λ_=>True) ps a b->RT (g_ (λi=>i≠k) ps) a b:=by
   rintro a b ⟨j,_,hj⟩
   by_cases e:j=k
   ·subst e
    rcases hj with hj|hj
    ·exact bc j _ hj
    ·exact(bc j _ hj).symm λ_ _ z=>z.symm
   ·exact .one ⟨j,e,hj⟩
  have all:∀{z:Str},RT (jf (aH (λ_=>none) ps 0)) x0 z->RT (g_ (λi=>i≠k) ps) x0 z:=λr=>by
   induction r with
   |refl=>exact .refl _
   |tail _ r ih=>exact ih.trans (step _ _ (Wj.mp r))
  exact(all con).mono λ_ _=>(Jh hk).mpr
 ·intro h;refine qbj hTs λk e he=>?_;have hk:k<ps.length:=(ql2.mp he).1;obtain⟨m1,m2,_⟩:=hTs.ok e (ql_ he);have h1:=(qfR _).mp (h k hk);have j1:∀y∈xs,RT (g_ (λi=>i≠k) ps) x0 y:=λy hy=>(h1 y hy).mono λ_ _=>(Jh hk).mp;exact((j1 _ m1).symm λ_ _ z=>z.symm).trans (j1 _ m2)
def qfS:Sp:=λvs H Q _=>∃(t n l:Addr)(xs:QAH)(tv:List V)(ps:QAD),vs=[.ref t]/\oO H t n l xs tv ps/\∀H',Same H H'->Q (.str (xH ps xs)) H'
theorem qfT(T:Txt K mg a):bV P w K mg base i_ 3 a.A_ a.KZ ["_law_web_here"] qfS:=by
 exists T.qaQ.qL,qft
 ·obtain⟨t,n,l,xs,tv,ps,rfl,_⟩:=h;rfl
 ·obtain⟨t,n,l,xs,tv,ps,rfl,hG,q⟩:=h;refine⟨_,(aC (cP (aU uD (aK (bY (K:=K) rfl) rfl T.nm.len qmi (aj (bR (cj (K:=K) rfl) (aL 0) aG (λ_ _=>rfl)) ao)) aG (bO _)) (aF (aZ eF)) bC)
   (aC (cP (f9 (dJ (PE.eqv (aO (Ql T) hr.d rfl T.K_ T.Ck.kp T.K9 .nil bA (aj (aL 0) (aj (bR (cj (K:=K) rfl) (aL 0) aG (λ_ _=>rfl)) ao))) (aJ _ _ _)))) (aF (aZ eF)) bC)
   (aC (cP (f9 (dJ (aK (lq rfl) rfl T.nm.all kZ (aj (eE rfl rfl (show aY (aB Va) _ ["_law_web_here"] ["_law_k"] [0] ["_law_k", "_law_web_here"] from by rfl') rfl (PI.eqv (qO rfl T.nm.range (aj (aK (bY (K:=K) rfl) rfl T.nm.len qmi (aj (bR (cj (K:=K) rfl) (aL 0) aG (λ_ _=>rfl)) ao)) ao)) (qU _)) (λC s H fp pn=>(aR (i:=0) (show(["_law_k", "_law_web_here"]:QAH).Nodup by symm) rfl (Or.inl rfl))) (λC s H fp pn=>eV) (λC s H fp pn=>(PE.eqv (aO (Ql T) hr.d rfl T.K_ T.Ck.kp T.K9 .nil bA (aj (aL 1) (aj (cB lM (jO (yM (K:=K) rfl) (bR (cj (K:=K) rfl) (aL 1) aG (λ_ _=>rfl)) oZ (PO.eqv (lK (aL 0)) (jh _))) (jO (yM (K:=K) rfl) (bR (cj (K:=K) rfl) (aL 1) aG (λ_ _=>rfl)) (PO.eqv (lK (cB jo (aL 0) aG)) (jh _)) oZ)) ao))) (aJ _ _ _)))) ao)))) (aF (aZ eF)) bC)
   (aF (aZ eF))))),?_⟩
  have s60:60<=sizeLine:=by decide
  have hX:=hG.2.2.2.2.1;have hTs:=hG.2.2.2.2.2;have z6:=hTs.len;have tl:=hG.2.2.2.1.1;left;refine⟨_,.inr (eG.of hG.1),_,bD (j:=1) rfl,_,.inl (aW.of hG.2.2.1),?_⟩;refine eX.of (λh=>?_) (λh=>?_)
  ·have h12:12<ps.length:=by have:=qmj h;omega
   have:=q H (Same.refl H);rw[show xH ps xs = "much" by unfold xH;rw[if_pos h12]] at this;left;exact this
  ·have h12:¬12<ps.length:=by have:=qmL h;omega
   left;refine⟨_,.inr (eG.of hG.1),_,bD (j:=1) rfl,t,n,l,l,xs,tv,tv,ps,ps,rfl,hG,hG.2.2.1,hG.2.2.2.1,hTs,λH1 s1=>?_⟩
   by_cases hcl:(jB ps xs).length<=1
   ·rw[qm0 hcl];left;refine⟨_,.inr (eG.of (s1 _ _ hG.1)),_,bD (j:=1) rfl,_,.inl (aW.of (s1 _ _ hG.2.2.1)),by rw[tl];omega,λD hD=>cmR (λi σ H'=>(∃o,σ=[o,some (.ref t)])/\H' D=some (.lst (((List.range i).map λk=>decide ((jB (ps.take k++ps.drop (k+1)) xs).length<=1)).map V.bl))/\Same H1 H') ⟨⟨_,rfl⟩,ak,aq hD⟩ ?_ ?_⟩
    ·rintro k σ H2 hk ⟨⟨o,rfl⟩,hD2,s2⟩;have S2:=s1.trans s2;have hk':k<ps.length:=by rw[<- tl];exact hk
     left;refine⟨_,.inr (eG.of (S2 _ _ hG.1)),_,bD (j:=1) rfl,_,aW.of (S2 _ _ hG.2.2.1),λb1 hb1=>?_⟩;rw[qhK];exists H2,b1,(.lst (tv.take k)),s3,e3,H3,hb1;have S3:=S2.trans s3;refine⟨_,.inr (eG.of (S3 _ _ hG.1)),_,bD (j:=1) rfl,_,aW.of (S3 _ _ hG.2.2.1),λb2 hb2=>?_⟩;rw[show((k:Nat):Int)+1=((k+1:Nat):Int) by omega,qc7];exists H3,b2,(.lst (tv.drop (k+1))),s4,e4,H4,hb2;refine⟨_,s4 _ _ e3,_,e4,by simp;omega,λb3 hb3=>?_⟩;exists H4,b3,(.lst (tv.take k++tv.drop (k+1))),s5,e5,H5,hb3;have s35:=s3.trans (s4.trans s5);have S5:=S2.trans s35;have sub:∀d∈ps.take k++ps.drop (k+1),d∈ps:=λd hd=>(qmm.mp hd).elim qoy qox;refine⟨t,n,l,b3,xs,tv,_,ps,ps.take k++ps.drop (k+1),rfl,⟨S5 _ _ hG.1,S5 _ _ hG.2.1,S5 _ _ hG.2.2.1,hG.2.2.2.1.same S5,hX,hTs⟩,e5,(qbh hG.2.2.2.1 hk').same S5,⟨by simp;omega,λd hd=>hTs.ok d (sub d hd)⟩,λH6 s6=>?_⟩;left;refine⟨_,s6 _ _ (s35 _ _ hD2),by simp;omega,?_,bx (s2.trans (s35.trans s6)) hD⟩;rw[ak,List.range_succ];simp
    ·rintro σ H2 ⟨⟨o,rfl⟩,hD2,s2⟩;have S2:=s1.trans s2;rw[tl] at hD2;left;refine⟨_,hD2,_,jD _,?_⟩;have hq:=q H2 S2
     by_cases hb:jt ps xs=[]
     ·have hall:=(Ji hG.2.2.2.2.1 hTs hcl).mp hb;rw[show xH ps xs = "told" by unfold xH;rw[if_neg h12,if_neg (λz=>z hcl),if_pos hb]] at hq;rw[show((List.range ps.length).map λk=>decide ((jB (ps.take k++ps.drop (k+1)) xs).length<=1)).all id=true by
       rw[List.all_map,qmn];intro k hk;exact qm0 (hall k (qm_.mp hk))]
      left;exact hq
     ·have hall:=λz=>hb ((Ji hG.2.2.2.2.1 hTs hcl).mpr z);rw[show xH ps xs = "barred" by unfold xH;rw[if_neg h12,if_neg (λz=>z hcl),if_neg hb]] at hq;rw[show((List.range ps.length).map λk=>decide ((jB (ps.take k++ps.drop (k+1)) xs).length<=1)).all id=false by
       rw[Bool.eq_false_iff];intro hz;rw[List.all_map,qmn] at hz;exact hall λk hk=>qmj (hz k (qm_.mpr hk))]
      left;exact hq
   ·rw[qmx hcl];have:=q H1 s1;rw[show xH ps xs = "parted" by unfold xH;rw[if_neg h12,if_pos hcl]] at this;left;exact this
end K54
namespace L2
open PySem PySem.Spec PyProof.Rows
def qbk(K:W.Frag):List V->Hp->VK->Prop:=λxs H Q=>ar2 xs λx y=>isRef x λa=>isRef y λp=>∃(C:Addr)(od:Option Addr)(Ds:List Addr)(b:Bool),H a=some (Dq a C od)/\zN K C/\H p=some (.tup (Ds.map V.ref))/\W.kitAny K (.ref C) (Ds.map Value.ref)=some b/\Q (.bl b) H
@[simp ↓] theorem qhL (K:W.Frag) xs H Q:qbk K xs H Q=(ar2 xs λx y=>isRef x λa=>isRef y λp=>∃(C:Addr)(od:Option Addr)(Ds:List Addr)(b:Bool),H a=some (Dq a C od)/\zN K C/\H p=some (.tup (Ds.map V.ref))/\W.kitAny K (.ref C) (Ds.map Value.ref)=some b/\Q (.bl b) H):=rfl
theorem qbl{X:Cx}{K:W.Frag}(hK:X.K=K):cg X (.builtin "isinstance") (qbk K):=by
 subst hK;intro p_ s σ H xs us Q I r h;obtain⟨v1,v2,rfl,h⟩:=ar2.out h;obtain⟨a,rfl,h⟩:=isRef.out h;obtain⟨p,rfl,C,od,Ds,b,e,⟨L,cd,hcd⟩,hp,hk,q⟩:=isRef.out h;obtain⟨u,v,rfl,r1,r2⟩:=r.two;obtain rfl:u=Value.ref a:=r1;obtain rfl:v=Value.ref p:=r2;obtain⟨ex,_⟩:=I.hok a _ e;obtain⟨_,its,rv,o,e1,e2,k,e3⟩:=(show cD X.prog X.w H s.heap p (.tup (Ds.map V.ref)) from I.hok p _ hp);obtain rfl:=HY rv;obtain⟨c,dd,dt,sl⟩:=o;replace e2:c = .type "tuple" :=e2;replace e3:dt = .seq (Ds.map Value.ref).toArray k:=e3;subst e2 e3;exact W.kia_tup (N7 hcd L) I.oU ex.at e1 hk (λz=>by cases z) λtk=>⟨.bl b,H,I.kept (λ_ _ e=>e),rfl,q⟩
theorem xJ{K:W.Frag}{C:Addr}:∀{Ds:List Addr},(∀D∈Ds,N8 K C (.ref D)=some false)->W.kitAny K (.ref C) (Ds.map Value.ref)=some false
 |[],_=>RG
 |D::Ds,h=>by
  have:=Od (h D qmr) (xJ λD' h'=>h D' (qmp _ h'));exact this
end L2
namespace K54
open PySem L2
variable {P:Program}{w:World}{K:W.Frag}{mg:Str->Option Value}{base:Heap}{a:Adr}
@[simp ↓] theorem qjC (K:W.Frag)(xs:List V)(H:Hp)(Q:VK):qdD K xs H Q=(ar2 xs λx y=>isRef x λa=>∃C od b,H a=some (Dq a C od)/\zN K C/\N8 K C y=some b/\Q (.bl b) H):=rfl
theorem Jj{l:List Addr}(nd:l.Nodup){x y:Addr}(i j:Nat)(hi:l[i]? = some x)(hj:l[j]? = some y)(h:i≠j):x≠y:=λz=>h (uo nd hi (z▸hj))
def clsOf(NP TM Pa Ba C:Addr)(wd:Str):Prop:=(C=NP/\wd = "pointing")\/(C=TM/\wd = "much")\/(C=Pa/\wd = "parted")\/(C=Ba/\wd = "barred")
def Qn(NP TM Pa Ba:Addr):Addr->Sp:=λe vs H Q _=>∃(C:Addr)(od:Option Addr)(wd:Str),vs=[.ref e]/\clsOf NP TM Pa Ba C wd/\H e=some (Dq e C od)/\∀(H':Hp),Same H H'->Q (.str wd) H'
theorem qbm(T:Txt K mg a):UG P w K mg base 1 a.pX a.yU ["_law_e"] (Qn a.aV a.bI a.bB a.bh):=by
 refine T.K7.qkI D_ (λe vs H Q E h=>?_) (λe cdv A outer s H vs Q hr h=>?_)
 ·obtain⟨C,od,wd,rfl,_⟩:=h;rfl
 ·obtain⟨C,od,wd,rfl,hC,he,q⟩:=h;refine⟨_,(aC (bG (i:=1) D_.nd rfl (Or.inl rfl) (aK (qbl (K:=K) rfl) rfl T.nm.isinstance boot_isinstance (aj (aL 0) (aj (gb (aj (cU (v:=.ref a.fD) rfl T.O_ rfl) (aj (cU (v:=.ref a.dF) rfl T.Iv rfl) (aj (cU (v:=.ref a.g8) rfl T.Vi rfl) (aj (cU (v:=.ref a.gZ) rfl T.Vh rfl) (aj (cU (v:=.ref a.cR) rfl T.Ey rfl) (aj (cU (v:=.ref a.cF) rfl T.Bk rfl) (aj (cU (v:=.ref a.dD) rfl T.Iu rfl) (aj (cU (v:=.ref a.fC) rfl T.O9 rfl) (aj (cU (v:=.ref a.gY) rfl T.Vg rfl) ao)))))))))) ao))))
   (aC (cP (PW.pt (vP (dJ (aL 1)) (vP (dJ (aK (qbl (K:=K) rfl) rfl T.nm.isinstance boot_isinstance (aj (aL 0) (aj (gb (aj (cU (v:=.ref a.dG) rfl T.Iw rfl) (aj (cU (v:=.ref a.j_) rfl T.qaR rfl) (aj (cU (v:=.ref a.kh) rfl T.qaS rfl) (aj (cU (v:=.ref a.fG) rfl T.Pb rfl) ao))))) ao)))) (rB (f9 (dJ (aK (Oe (K:=K) rfl) rfl T.nm.isinstance boot_isinstance (aj (aL 0) (aj (oX (v:=.ty "ValueError") rfl T.iV qcx rfl) ao))))))))) (aF (aZ eF)) bC)
   (aC (bG (i:=2) D_.nd rfl (Or.inl rfl) (cI (aj (aK (Oe (K:=K) rfl) rfl T.nm.isinstance boot_isinstance (aj (aL 0) (aj (cU (v:=.ref a.aV) rfl T.sV rfl) ao))) (aj (aK (Oe (K:=K) rfl) rfl T.nm.isinstance boot_isinstance (aj (aL 0) (aj (cU (v:=.ref a.bI) rfl T.zY rfl) ao))) (aj (aK (Oe (K:=K) rfl) rfl T.nm.isinstance boot_isinstance (aj (aL 0) (aj (cU (v:=.ref a.bB) rfl T.Ez rfl) ao))) (aj (aK (Oe (K:=K) rfl) rfl T.nm.isinstance boot_isinstance (aj (aL 0) (aj (cU (v:=.ref a.bh) rfl T.EY rfl) ao))) ao))))))
   (aC (cP (aU mV (kY (K:=K) rfl qmI PySem.F.slot_list_count PySem.F.type_list_count (Rz (K:=K) rfl) (aL 2) (aj qM ao)) aG (bO _)) (aF (aZ eF)) bC)
   (aF (aZ (bR (cj (K:=K) rfl) (cI (aj eF (aj eF (aj eF (aj eF ao))))) (kY (K:=K) rfl qmI PySem.F.slot_list_index PySem.F.type_list_index (RB (K:=K) rfl) (aL 2) (aj qM ao)) (λ_ _=>rfl)))))))),?_⟩
  have xcC:XC K C a.aA:=by
   rcases hC with⟨rfl,_⟩|⟨rfl,_⟩|⟨rfl,_⟩|⟨rfl,_⟩
   ·exact T.dY
   ·exact T.iK
   ·exact T.fX
   ·exact T.fY
  have S9:zN K C:=xcC.ask T.Iz T.IV;have ndB:=(qnk.mp T.nd).1;have ndA:=(qnk.mp T.nd).2;have kE:∀{D:Addr}(i:Nat),XC K D a.aA->(K3 a)[i]? = some D->N8 K C (.ref D)=some (decide (C=D)):=λi x h=>xcC.kit x λz=>ndB (z▸ql_ h);have k1:=kE 0 T.dY rfl;have k2:=kE 1 T.iK rfl;have k3:=kE 15 T.fX rfl;have k4:=kE 16 T.fY rfl;have kV:=xcC.qkL;obtain⟨i,hi,ei⟩:∃i∈[0,1,15,16],(K3 a)[i]? = some C:=by
   rcases hC with⟨rfl,_⟩|⟨rfl,_⟩|⟨rfl,_⟩|⟨rfl,_⟩
   ·exact⟨0,by decide,rfl⟩
   ·exact⟨1,by decide,rfl⟩
   ·exact⟨15,by decide,rfl⟩
   ·exact⟨16,by decide,rfl⟩
  have no:∀D∈[a.fD,a.dF,a.g8,a.gZ,a.cR,a.cF,a.dD,a.fC,a.gY,a.dG,a.j_,a.kh,a.fG],N8 K C (.ref D)=some false:=by
   intro D hD;obtain⟨j,hj,ej,hx⟩:∃j∈[7,8,14,5,9,4,6,3,2,11,12,13,10],(K3 a)[j]? = some D/\XC K D a.aA:=by
    simp only[qmd,qmF,qnz] at hD
    rcases hD with rfl|rfl|rfl|rfl|rfl|rfl|rfl|rfl|rfl|rfl|rfl|rfl|rfl
    ·exact⟨7,by decide,rfl,T.nR⟩
    ·exact⟨8,by decide,rfl,T.lE⟩
    ·exact⟨14,by decide,rfl,T.q_⟩
    ·exact⟨5,by decide,rfl,T.qZ⟩
    ·exact⟨9,by decide,rfl,T.jK⟩
    ·exact⟨4,by decide,rfl,T.iU⟩
    ·exact⟨6,by decide,rfl,T.lC⟩
    ·exact⟨3,by decide,rfl,T.nQ⟩
    ·exact⟨2,by decide,rfl,T.qY⟩
    ·exact⟨11,by decide,rfl,T.lF⟩
    ·exact⟨12,by decide,rfl,T.vD⟩
    ·exact⟨13,by decide,rfl,T.vG⟩
    ·exact⟨10,by decide,rfl,T.nU⟩
   rw[kE j hx ej,qmx λz=>?_];rw[z] at ei;exact(show ∀i∈[0,1,15,16],∀j∈[7,8,14,5,9,4,6,3,2,11,12,13,10],i≠j by decide) i hi j hj (uo ndA ei ej)
  obtain⟨A,hA⟩:∃A,A=[a.fD,a.dF,a.g8,a.gZ,a.cR,a.cF,a.dD,a.fC,a.gY]:=⟨_,rfl⟩;obtain⟨B,hB⟩:∃B,B=[a.dG,a.j_,a.kh,a.fG]:=⟨_,rfl⟩;have n1:W.kitAny K (.ref C) (A.map Value.ref)=some false:=xJ λD hD=>no D (by rw[hA] at hD;exact qmt [a.dG,a.j_,a.kh,a.fG] hD);have n2:W.kitAny K (.ref C) (B.map Value.ref)=some false:=xJ λD hD=>no D (by rw[hB] at hD;exact qmE [a.fD,a.dF,a.g8,a.gZ,a.cR,a.cF,a.dD,a.fC,a.gY] hD);have eA : [V.ref a.fD,V.ref a.dF,V.ref a.g8,V.ref a.gZ,V.ref a.cR,V.ref a.cF,V.ref a.dD,V.ref a.fC,V.ref a.gY]=A.map V.ref:=by rw[hA];rfl
  have eB : [V.ref a.dG,V.ref a.j_,V.ref a.kh,V.ref a.fG]=B.map V.ref:=by rw[hB];rfl
  obtain⟨b1,b2,b3,b4,e1,e2,e3,e4,hw⟩:∃b1 b2 b3 b4:Bool,decide (C=a.aV)=b1/\decide (C=a.bI)=b2/\decide (C=a.bB)=b3/\decide (C=a.bh)=b4/\(([b1,b2,b3,b4]=[true,false,false,false]/\wd=Str.ofString "pointing")\/([b1,b2,b3,b4]=[false,true,false,false]/\wd=Str.ofString "much")\/([b1,b2,b3,b4]=[false,false,true,false]/\wd=Str.ofString "parted")\/([b1,b2,b3,b4]=[false,false,false,true]/\wd=Str.ofString "barred")):=by
   have x1:a.aV≠a.bI:=Jj ndA 0 1 rfl rfl (by decide);have x2:a.aV≠a.bB:=Jj ndA 0 15 rfl rfl (by decide);have x3:a.aV≠a.bh:=Jj ndA 0 16 rfl rfl (by decide);have x4:a.bI≠a.bB:=Jj ndA 1 15 rfl rfl (by decide);have x5:a.bI≠a.bh:=Jj ndA 1 16 rfl rfl (by decide);have x6:a.bB≠a.bh:=Jj ndA 15 16 rfl rfl (by decide)
   rcases hC with⟨rfl,rfl⟩|⟨rfl,rfl⟩|⟨rfl,rfl⟩|⟨rfl,rfl⟩
   ·exact⟨_,_,_,_,rfl,rfl,rfl,rfl,.inl ⟨by simp[x1,x2,x3],rfl⟩⟩
   ·exact⟨_,_,_,_,rfl,rfl,rfl,rfl,.inr (.inl ⟨by simp[x1.symm,x4,x5],rfl⟩)⟩
   ·exact⟨_,_,_,_,rfl,rfl,rfl,rfl,.inr (.inr (.inl ⟨by simp[x2.symm,x4.symm,x6],rfl⟩))⟩
   ·exact⟨_,_,_,_,rfl,rfl,rfl,rfl,.inr (.inr (.inr ⟨by simp[x3.symm,x5.symm,x6.symm],rfl⟩))⟩
  rw[e1] at k1;rw[e2] at k2;rw[e3] at k3;rw[e4] at k4;have ql1:200<=sizeLine:=by decide
  left;rw[eA];intro p1 h1;exists H,p1,(.tup (A.map V.ref)),s1,f1,H1,h1;have Gf:=s1 _ _ he;refine⟨C,⟨_,Gf⟩,S9,_,f1,_,n1,eX.neg rfl ?_⟩;left;rw[eB];intro p2 h2;exists H1,p2,(.tup (B.map V.ref)),s2,f2,H2,h2;have he2:=s2 _ _ Gf;refine⟨C,⟨_,he2⟩,S9,_,f2,_,n2,eX.neg rfl ?_⟩;left;refine⟨C,⟨_,he2⟩,S9,_,kV,?_⟩;left;refine⟨C,⟨_,he2⟩,S9,_,k1,C,⟨_,he2⟩,S9,_,k2,C,⟨_,he2⟩,S9,_,k3,C,⟨_,he2⟩,S9,_,k4,λp3 h3=>?_⟩;exists H2,p3,(.lst [.bl b1,.bl b2,.bl b3,.bl b4]),s3,l3,H3,h3;have S3:=s1.trans (s2.trans s3);have hcount:List.count true [b1,b2,b3,b4]=1:=by rcases hw with⟨z,_⟩|⟨z,_⟩|⟨z,_⟩|⟨z,_⟩ <;> rw[z] <;> rfl
  refine⟨⟨_,aW.of l3⟩,[b1,b2,b3,b4],aW.of l3,false,by rw[hcount];rfl,eX.neg rfl ?_⟩;left;refine λp4 h4=>?_;exists H3,p4,(.lst [.str (Str.ofString "pointing"),.str (Str.ofString "much"),.str (Str.ofString "parted"),.str (Str.ofString "barred")]),s4,f4,H4,h4;have l4:=s4 _ _ l3;have fin:=q _ (S3.trans s4)
  rcases hw with⟨z,rfl⟩|⟨z,rfl⟩|⟨z,rfl⟩|⟨z,rfl⟩ <;> simp only[List.cons.injEq,and_true] at z <;> obtain⟨rfl,rfl,rfl,rfl⟩:=z
  ·refine⟨⟨_,aW.of l4⟩,[true,false,false,false],aW.of l4,by simp,_,.inl (aW.of f4),_,rfl,fin⟩
  ·refine⟨⟨_,aW.of l4⟩,[false,true,false,false],aW.of l4,by simp,_,.inl (aW.of f4),_,rfl,fin⟩
  ·refine⟨⟨_,aW.of l4⟩,[false,false,true,false],aW.of l4,by simp,_,.inl (aW.of f4),_,rfl,fin⟩
  ·refine⟨⟨_,aW.of l4⟩,[false,false,false,true],aW.of l4,by simp,_,.inl (aW.of f4),_,rfl,fin⟩
end K54
namespace L2
open PySem
def S_:List V->Hp->VK->Prop:=λxs H Q=>ar1 xs λv=>∃d:PyData,fM H d v/\d.showable=true/\d.depth<=32/\d.shown.length<=sizeLine/\Q (.str d.shown) H
@[simp ↓] theorem qhM xs H Q:S_ xs H Q=(ar1 xs λv=>∃d:PyData,fM H d v/\d.showable=true/\d.depth<=32/\d.shown.length<=sizeLine/\Q (.str d.shown) H):=rfl
theorem Bo{X:Cx}(hg:X.A.guards=some [])(hu:X.A.units+64<cLine):cg X (.builtin "repr") S_:=by
 intro p_ s σ H xs us Q I r h;obtain⟨v,rfl,d,hi,hs,hd,hz,q⟩:=ar1.out h
 by_cases hl:∃ds,d = .list ds
 ·obtain⟨ds,rfl⟩:=hl;exact Ob hg hu p_ s σ H [v] us Q I r (show Ry [v] H Q from⟨ds,hi,hs,hd,hz,q⟩)
 by_cases ht:∃ds,d = .tuple ds
 ·obtain⟨ds,rfl⟩:=ht;obtain⟨u,rfl,ru⟩:=r.one;have hi0:=hi;simp only[fM] at hi;obtain⟨a,xs,rfl,hq,hall⟩:=hi;cases ru;obtain⟨its,rv,pl,hzz⟩:=I.tuple (eG.of hq);obtain⟨o,e,c,n,dt⟩:=pl;have Yd:(tupleText (PyData.shownAll ds)).length<=sizeLine:=by simpa only[PyData.shown] using hz
  obtain⟨as,ra⟩:=fM.reads I (.tuple ds) (.ref a) (.ref a) hi0 rfl;obtain⟨bs,mb,kb⟩:=cA.tH I ds xs its hall rv (by simpa [PyData.showable] using hs) (λt ht=>qme (tupleText_mem_le ht) Yd);have nab:a∉bs:=qoq ra (by simp only[PyData.depth];exact qmS _) mb;simp only[PyData.depth] at hd;simp only[PyData.shown] at q;refine call_repr_slot (by omega) ⟨o,e,c⟩ F.slot_tuple_repr ?_;refine call_tuple_reprK e c dt nab (by simpa using kb) hg (λb _=>Clear.nil b) ?_ (λ_ _ z=>z) (λh' u tk hk=>⟨_,_,rfl,.str _,H,I.kept (t':=tk) hk,⟨u,rfl⟩,q⟩) Yd;show X.A.units+1+_<_;omega
 ·cases d with
  |list ds=>exact(hl ⟨ds,rfl⟩).elim
  |tuple ds=>exact(ht ⟨ds,rfl⟩).elim
  |dict kvs=>
   obtain⟨u,rfl,ru⟩:=r.one;simp only[fM] at hi;obtain⟨a,rfl,h1⟩:=hi;cases ru;obtain⟨ra,hd2⟩:=wL I.hok h1;refine repr_of_reads' (h₀:=s.heap) ra hs (λ_ hm=>?_) hg (by omega) (λ_ _ e=>e) (λh' u tk hk=>⟨.str _,H,I.kept (t':=tk) hk,⟨u,rfl⟩,q⟩) hz;rw[qmH] at hm;rw[<- hm] at hd2;simp at hd2
  |_=>
   refine Oa hg hu p_ s σ H [v] us Q I r (show Rw [v] H Q from⟨_,.thg ?_ rfl,hs,hd,hz,q⟩)
   first
   |(simp only[fM] at hi;subst hi;simp[bU])
   |(simp[fM] at hi)
end L2
namespace K54
open PySem L2
variable {P:Program}{w:World}{K:W.Frag}{mg:Str->Option Value}{base:Heap}{a:Adr}
mutual
theorem Vp{P:Addr}{H:Hp}(hT:∃ps,H P=some (.xR ps)):∀(d:PyData)(v:V),bU H d v->bU (hid P H) d v
 |.none,v,h=>by simp only[bU] at h⊢;exact h
 |.bool b,v,h=>by simp only[bU] at h⊢;exact h
 |.int i,v,h=>by simp only[bU] at h⊢;exact h
 |.str x,v,h=>by simp only[bU] at h⊢;exact h
 |.list ds,v,h=>by
  simp only[bU] at h⊢;obtain⟨b,xs,e,h1,h2⟩:=h;exact⟨b,xs,e,fJ (λz=>by obtain⟨ps,hp⟩:=hT;rw[z,hp] at h1;cases h1) h1,Fz hT ds xs h2⟩
 |.tuple ds,v,h=>by
  simp only[bU] at h⊢;obtain⟨b,xs,e,h1,h2⟩:=h;exact⟨b,xs,e,fJ (λz=>by obtain⟨ps,hp⟩:=hT;rw[z,hp] at h1;cases h1) h1,Fz hT ds xs h2⟩
 |.dict kvs,v,h=>by
  simp only[bU] at h⊢;obtain⟨h0,b,e,h1⟩:=h;exact⟨h0,b,e,fJ (λz=>by obtain⟨ps,hp⟩:=hT;rw[z,hp] at h1;cases h1) h1⟩
theorem Fz{P:Addr}{H:Hp}(hT:∃ps,H P=some (.xR ps)):∀(ds:List PyData)(vs:List V),aM H ds vs->aM (hid P H) ds vs
 |[],vs,h=>by simp only[aM] at h⊢;exact h
 |d::ds,vs,h=>by
  simp only[aM] at h⊢;obtain⟨v,r,e,h1,h2⟩:=h;exact⟨v,r,e,Vp hT d v h1,Fz hT ds r h2⟩
end
theorem qbn{P:Addr}{H H':Hp}{d:PyData}{v:V}(hT:∃ps,H P=some (.xR ps))(B:But P H H')(h:bU H d v):bU H' d v:=bU.same (ig (p:=P)) d v (bU.same (vf B) d v (Vp hT d v h))
def tW(ps:QAD)(xs:QAH)(d:PyData):Str:=if xT ps.length d=true then xH ps xs else "pointing"
def qc8(Pt:Addr):Sp:=λvs H Q _=>∃(t n l:Addr)(v:V)(d:PyData)(xs:QAH)(tv:List V)(ps:QAD),vs=[.ref t,v]/\oO H t n l xs tv ps/\bU H d v/\tK 30 30000 d/\TabOk G4 G5 Pt H/\
 ∀(H':Hp),But Pt H H'->TabOk G4 G5 Pt H'->Q (.str (tW ps xs d)) H'
theorem Vq(T:Txt K mg a){c Pt:Addr}(L:U7 a.fB base mg c Pt):bV P w K mg base i_ 16 a.uM a.Ci ["_law_web_here", "_law_thing"] (qc8 Pt):=by
 exists T.K8.qL,yQ
 ·obtain⟨t,n,l,v,d,xs,tv,ps,rfl,_⟩:=h;rfl
 ·obtain⟨t,n,l,v,d,xs,tv,ps,rfl,hG,hd,hsm,hT,q⟩:=h;refine⟨_,(aC (bG (i:=2) yQ.nd rfl (Or.inl rfl) (aK (Bo hr.gd hr.units) rfl T.W6.repr boot_repr (aj (aL 1) ao)))
   (aC (bG (i:=3) yQ.nd rfl (Or.inl rfl) eF)
   (aC (qfa (i:=4) rfl rfl rfl yQ.nd rfl rfl (λR pn xe hx=>(aF (eU (qai hx rfl (Xl (L:=L) (K:=K) T) hr.d rfl T.O8 T.Ew.kp T.O7 (aj (PE.eqv (qbS T.qdT (Pj T) hr.d rfl T.qdS T.El .nil bA (aj (bR (cj (K:=K) rfl) (aL 0) aG (λ_ _=>rfl)) (aj (bR (cj (K:=K) rfl) (aL 0) aG (λ_ _=>rfl)) ao))) (Z7 _ _ _ _)) (aj (aL 1) ao)))))) rfl T.nG T.fH (λe=>(aF (bG (i:=3) yQ.nd rfl (Or.inl rfl) (qak (qbm T) hr.d rfl T.Vf T.K7.kp T.Ve (aj (aL 4) ao))))))
   (aC (cP (aU mV (aK (Bo hr.gd hr.units) rfl T.W6.repr boot_repr (aj (aL 1) ao)) (aL 2) (bO _)) (aF (aZ eF)) bC)
   (aF (aZ (aL 3))))))),?_⟩
  have s5:(100000:Nat)<=sizeLine:=by decide
  have hX:=hG.2.2.2.2.1;have hTs:=hG.2.2.2.2.2;left;refine⟨d,bU.x _ _ hd,hsm.sh,qme hsm.dp (by decide),qme hsm.ln (by decide),?_⟩;generalize hNx:qbI (qbJ (vU (Mr fNe (tCB S_ (ud (fVar 1) Bq)) (fVar 2))) _ _) _ _=Nx;have tail:∀(o5:Option V)(H':Hp),But Pt H H'->TabOk G4 G5 Pt H'->Nx [some (.ref t),some v,some (.str d.shown),some (.str (tW ps xs d)),o5] H':=by
   intro o5 H' B' T';subst hNx;left;refine⟨d,bU.x _ _ (qbn hT.tb B' hd),hsm.sh,qme hsm.dp (by decide),qme hsm.ln (by decide),false,by simp,eX.neg rfl ?_⟩;left;exact q _ B' T'
  have qhN:∀(o5:Option V)(H':Hp),Same H H'->Nx [some (.ref t),some v,some (.str d.shown),some (.str (tW ps xs d)),o5] H':=λo5 H' S'=>tail o5 H' (λb u _ e=>S' b u e) (hT.same S');have neP:∀{D:Addr},D∈K3 a->D≠a.aA:=λh z=>(qnk.mp T.nd).1 (z▸h);have go:∀(C:Addr)(od:Option Addr),clsOf a.aV a.bI a.bB a.bh C (tW ps xs d)->∀H3,Same H H3->
    qaj 4 K a.aA (λe=>Vw (Rv (Qn a.aV a.bI a.bB a.bh e) (ud (fVar 4) Bq)) (Al 3)) {nx:=Nx,rt:=Q} [some (.ref t),some v,some (.str d.shown),some (.str (Str.ofString "told")),none] C od H3:=λC od hC H3 S3=>by
   have hob:(uE K C/\W.mroIn K C (.ref a.aA)=some true/\C≠a.aA):=by
    rcases hC with⟨rfl,_⟩|⟨rfl,_⟩|⟨rfl,_⟩|⟨rfl,_⟩
    ·exact⟨uE.of T.gF,by rw[T.dY.mro];simp,neP (by simp[K3])⟩
    ·exact⟨uE.of T.lB,by rw[T.iK.mro];simp,neP (by simp[K3])⟩
    ·exact⟨uE.ofX T.vH T.fX,by rw[T.fX.mro];simp,neP (by simp[K3])⟩
    ·exact⟨uE.ofX T.vI T.fY,by rw[T.fY.mro];simp,neP (by simp[K3])⟩
   refine⟨hob,λex hex=>?_⟩;exists H3,ex,(Dq ex C od),se,ee,H4,hex;left;refine⟨C,od,_,rfl,hC,ee,λH5 s5=>?_⟩;left;exact qhN _ H5 (S3.trans (se.trans s5))
  refine⟨_,.inr (eG.of hG.1),_,bD (j:=0) rfl,_,.inr (eG.of hG.1),_,bD (j:=1) rfl,λo dx ho hdx hne=>?_⟩;have so:Same H (upd (upd H dx (.own o)) o (.ins a.b_ dx [])):=λb u e=>by
   rw[aD (aN e ho),aD (aN e hdx)];exact e
  have hpr:qg H tv ps:=⟨hG.2.2.2.1.1,λi v e h1 h2=>by
   obtain⟨t,rfl,z⟩:=hG.2.2.2.1.2 i v e h1 h2;exact⟨t,rfl,.inr z⟩⟩
  refine⟨o,dx,n,l,tv,xs,ps,rfl,ak,.inl (so _ _ hG.2.2.1),hpr.same so,.inl (so _ _ hG.2.1),hX,hTs,λH6 hW6 Pq=>⟨rfl,?_⟩⟩;have s6:Same H H6:=λb u e=>Pq b u (aN e ho) (so b u e);left;have w1:xT ps.length d=false->clsOf a.aV a.bI a.bB a.bh a.aV (tW ps xs d):=λh=>.inl ⟨rfl,by unfold tW;rw[if_neg (by rw[h];simp)]⟩;have w2:xT ps.length d=true->12<ps.length->clsOf a.aV a.bI a.bB a.bh a.bI (tW ps xs d):=λh h12=>.inr (.inl ⟨rfl,by unfold tW xH;rw[if_pos h,if_pos h12]⟩);have w3:xT ps.length d=true->ps.length<=12->∀c r,jB ps xs=c::r->r≠[]->clsOf a.aV a.bI a.bB a.bh a.bB (tW ps xs d):=λh h12 c r hcr hr0=>.inr (.inr (.inl ⟨rfl,by
   have:¬(jB ps xs).length<=1:=by
    rw[hcr];have:=List.length_pos_iff.mpr hr0;simp;omega
   unfold tW xH;rw[if_pos h,if_neg (by omega),if_pos this]⟩))
  have w4:xT ps.length d=true->ps.length<=12->(jB ps xs).length<=1->∀y rest,jt ps xs=y::rest->clsOf a.aV a.bI a.bB a.bh a.bh (tW ps xs d):=λh h12 hc y rest hb=>.inr (.inr (.inr ⟨rfl,by
   unfold tW xH;rw[if_pos h,if_neg (by omega),if_neg (λz=>z hc),if_neg (by rw[hb];simp)]⟩))
  have w5:xT ps.length d=true->ps.length<=12->(jB ps xs).length<=1->jt ps xs=[]->tW ps xs d=Str.ofString "told" :=λh h12 hc hb=>by
   unfold tW xH;rw[if_pos h,if_neg (by omega),if_neg (λz=>z hc),if_pos hb]
  refine⟨o,v,d,xs,ps,rfl,hW6,hX,hTs,bU.same s6 _ _ hd,hTs.len,hT.same s6,λh H7 s7=>⟨_,rfl,go _ _ (w1 h) H7 (s6.trans s7)⟩,λh h12 H7 s7=>⟨_,rfl,go _ _ (w2 h h12) H7 (s6.trans s7)⟩,λh h12 c r hcr hr0 dx7 cc H7 _ _ _ s7=>⟨_,rfl,go _ _ (w3 h h12 c r hcr hr0) H7 (s6.trans s7)⟩,λh h12 hc k lot rest hb dx7 cc H7 _ _ _ s7=>⟨_,rfl,go _ _ (w4 h h12 hc _ _ hb) H7 (s6.trans s7)⟩,λh h12 hc hb t7 ns e7 hp7=>⟨Kv hX hc h12,λzs m ks ks' r k1 lv H7 _ _ _ _ _ _ _ _ _ B7 T7=>?_⟩⟩;have:=tail none H7 (λb u nb e=>B7 b u nb (s6 b u e)) T7;rw[w5 h h12 hc hb] at this;exact this
theorem jL.Qo{H H':Hp}{p:Addr}(h:jL H p)(s:Same H H'):jL H' p:=by
 obtain⟨x,y,e,z⟩:=h;exact⟨x,y,s _ _ e,z⟩
theorem jL.ex{H:Hp}{p:Addr}(h:jL H p):∃o,H p=some o:=by
 obtain⟨x,y,u,_⟩:=h;exact⟨_,u⟩
theorem jL.lst{H:Hp}{p:Addr}(h:jL H p):∃xs,H p=some (.lst xs):=by
 obtain⟨x,y,u,_⟩:=h;exact⟨_,u⟩
structure Tc(n:Nat)(d:PyData):Prop where
 no:xT n d=false
 sm:tK 30 30000 d
theorem zp{n:Nat}{d:PyData}(hs:Ld d=false)(hm:tK 30 30000 d):Tc n d:=⟨by unfold xT;rw[hs];rfl,hm⟩
theorem Td{n:Nat}{d:PyData}(h:(kids d).length≠n)(hm:tK 30 30000 d):Tc n d:=⟨by unfold xT;rw[qmx h];simp,hm⟩
theorem Cr{n:Nat}{d c:PyData}(hc:c∈kids d)(h:Vk c=false)(hm:tK 30 30000 d):Tc n d:=⟨by
 unfold xT;have:(kids d).all Vk=false:=by rw[List.all_eq_false];exact⟨c,hc,by rw[h];simp⟩
 rw[this];simp,hm⟩
theorem qc9{i:Int}(h0:0<=i)(h1:i<=20):tK 0 100 (.int i):=by
 obtain⟨n,rfl⟩:∃n:Nat,i=(n:Int):=⟨i.toNat,by omega⟩;have h:n<=20:=by omega
 have z:∀n,n<=20->(PyData.int (n:Nat)).showable=true/\(PyData.int (n:Nat)).depth<=0/\(PyData.int (n:Nat)).shown.length<=100:=by symm
 exact⟨(z n h).1,(z n h).2.1,(z n h).2.2⟩
theorem smL{ds:List PyData}(h:∀c∈ds,tK 29 300 c)(hl:ds.length<=60):tK 30 30000 (.list ds):=tK.list h (by omega)
theorem smT{ds:List PyData}(h:∀c∈ds,tK 29 300 c)(hl:ds.length<=60):tK 30 30000 (.tuple ds):=tK.tuple h (by omega)
theorem Jk{ns:List Int}(h01:∀n∈ns,0<=n/\n<=1):∀c∈ns.map PyData.int,tK 0 100 c:=λc hc=>by
 obtain⟨i,hi,rfl⟩:=qmW.mp hc;have:=h01 i hi;exact qc9 (by omega) (by omega)
theorem lit(d:PyData)(h1:d.showable=true:=by symm)(h2:d.depth<=3:=by symm)(h3:d.shown.length<=100:=by symm):tK 3 100 d:=⟨h1,h2,h3⟩
theorem qbo{d:PyData}{k:Nat}(h:tK k 100 d)(hk:k<=3):tK 29 300 d:=h.mono (by omega) (by decide)
theorem qc_{d:PyData}(h:tK 3 100 d):tK 30 30000 d:=h.mono (by decide) (by decide)
theorem Aa{H:Hp}{r:Addr}{ns:List Int}(h:H r=some (.lst (ns.map V.int))):bU H (.list (ns.map PyData.int)) (.ref r):=by
 simp only[bU];exact⟨r,_,rfl,h,aM.ints H ns⟩
theorem qbp{xs:List V}:mC xs none (some (-1))=xs.dropLast:=by
 have e:=qa7 (xs:=(V.non::xs));rw[List.dropLast_eq_take];unfold mC;have e1:HT.uf xs.length 0 none=0:=by simp[HT.uf]
 have e2:HT.uf xs.length xs.length (some (-1))=xs.length - 1:=by
  unfold HT.uf;simp
  try omega
 rw[e1,e2];simp
theorem qbq{H:Hp}:∀{ds:List PyData}{xs:List V},aM H ds xs->aM H ds.dropLast xs.dropLast:=λ{ds xs} h=>by
 have hl:ds.length=xs.length:=h.length;rw[List.dropLast_eq_take,List.dropLast_eq_take,hl];exact zP _ h
theorem qda{p:Addr}{σ:St}{H:Hp}{t:TE}{ds:List PyData}(h1:GD p t σ H (.list ds)):GD p (tSl (Ww K) t xX (NT (tC (.int (-1))))) σ H (.list ds.dropLast):=λH1 Q hp s q=>
 h1 H1 _ hp s λv H2 s2 hv=>by
  simp only[bU] at hv;obtain⟨a,xs,rfl,a1,a2⟩:=hv;refine⟨xs,aW.of (ig _ _ a1),λc hc=>q _ _ (s2.trans (aq hc)) ?_⟩;rw[qbp];simp only[bU];exact⟨c,_,rfl,fJ (qm hp (s.trans s2) hc) ak,aM.same (cG (aq hc)) _ _ (qbq a2)⟩
def qkY(d:PyData):Prop:=Vk d=false/\tK 3 100 d
def FJ:Sp:=λvs H Q _=>∃(p r:Addr)(ns:List Int),vs=[.ref p,.ref r]/\jL H p/\H r=some (.lst (ns.map V.int))/\r≠p/\ns.length<=20/\(∀n∈ns,0<=n/\n<=1)/\
 ∀(v:V)(d:PyData)(H':Hp),bU (hid p H') d v->Tc ns.length d->jL H' p->But p H H'->Q v H'
theorem FN(T:Txt K mg a):bV P w K mg base i_ 2 a.dX a.j9 ["_law_pot_here", "_law_row"] FJ:=by
 exists T.qG.qL,iw
 ·obtain⟨p,r,ns,rfl,_⟩:=h;rfl
 ·obtain⟨p,r,ns,rfl,hp,hrx,rp,l20,h01,q⟩:=h;refine⟨_,(@Oc.out _ _ _ (vg (Ko (i:=2) iw.nd rfl (Or.inl rfl) (Kp (Km (cM tZ (cM qM (cM aG (cM (cB qau eF (aK (bY (K:=K) rfl) rfl T.nm.len qmi (aj (aL 1) ao))) (cM (cB lM (aL 1) (cI (aj aG ao))) (cM (cB Du (fQ qW rfl T.nm.tuple boot_tuple (aj (aL 1) ao)) (gb (aj aG ao))) (cM (cI (aj (aL 1) ao)) (cM CW (cM (cI (aj (aL 1) (aj (aL 1) ao))) Kl))))))))))))
   (vg (qfc (aU (qe8 (K:=K) rfl hr.units) (aL 1) (cI ao) (bO _)) (vg (PSq.mk (bG (i:=3) iw.nd rfl (Or.inl rfl) (PE.eqv (aO (fP T) hr.d rfl T.iJ T.gR.kp T.iI .nil bA (aj (aL 0) (aj (aK (bY (K:=K) rfl) rfl T.nm.len qmi (aj (aL 1) ao)) ao))) (aJ _ _ _))))
   (vg (Ko (i:=4) iw.nd rfl (Or.inl rfl) (qfe (cj (K:=K) rfl) (Kp (Km (cM qM (cM qM (cM aG (cM (Yy J0 aG) (cM tZ (cM eF (cM (cI (aj aG ao)) (cM (gb (aj aG ao)) Kl)))))))))) (Ye.mk (PE.eqv (aO (fP T) hr.d rfl T.iJ T.gR.kp T.iI .nil bA (aj (aL 0) (aj aG ao))) (aJ _ _ _))) (λ_ _=>rfl)))
   (qap (Ko (i:=2) iw.nd rfl (Or.inl rfl) (qfd lM (Ye.mk (aL 2)) (Kp (Km (cM (jO (yM (K:=K) rfl) (aL 1) oZ (PO.eqv (lK (Yy J0 aG)) (jh _))) (cM (cB lM (cB lM (jO (yM (K:=K) rfl) (aL 1) oZ (PO.eqv (lK (aL 3)) (jh _))) (cI (aj (aL 4) ao))) (jO (yM (K:=K) rfl) (aL 1) (PO.eqv (lK (cB jo (aL 3) aG)) (jh _)) oZ)) (cM (cB Du (cB Du (fQ qW rfl T.nm.tuple boot_tuple (aj (jO (yM (K:=K) rfl) (aL 1) oZ (PO.eqv (lK (aL 3)) (jh _))) ao)) (gb (aj (aL 4) ao))) (fQ qW rfl T.nm.tuple boot_tuple (aj (jO (yM (K:=K) rfl) (aL 1) (PO.eqv (lK (cB jo (aL 3) aG)) (jh _)) oZ) ao))) Kl)))))))))) (Oc.mk bC))
   (Oc.mk (aF (aZ (bR (cj (K:=K) rfl) (aL 2) (PE.eqv (aO (fP T) hr.d rfl T.iJ T.gR.kp T.iI .nil bA (aj (aL 0) (aj (aK (bY (K:=K) rfl) rfl T.nm.len qmi (aj (aL 2) ao)) ao))) (aJ _ _ _)) (λ_ _=>rfl)))))))),?_⟩
  have s60:60<=sizeLine:=by decide
  have tr:bU (hid p H) (.list (ns.map PyData.int)) (.ref r):=Aa (fJ rp hrx);have sl:=Jk h01;have sl2:∀c∈ns.map PyData.int,tK 29 300 c:=λc hc=>qbo (sl c hc) (by decide);have v1:∀{o2 o3 o4:Option V},GD p (fVar 1) [some (V.ref p),some (V.ref r),o2,o3,o4] H (.list (ns.map PyData.int)):=Kh rfl tr;left;refine Dw (φ:=Tc ns.length) (p:=p) (n:=9) (
   cN (jW qal (zp rfl (qc_ (lit .none)))) <|
   cN (jW qam (zp rfl (qc_ (lit (.bool true))))) <|
   cN (jW uF (zp rfl (qc_ (lit (.int 1))))) <|
   cN (qfo (k:=ns.length) qan (by have:=qfn (K:=K) (v1 (o2:=none) (o3:=none) (o4:=none));rw[ql9] at this;exact this) (by omega) (by show 1 * ns.length<=_;omega) (λz hz=>zp rfl (by
    have hc:∀c∈z.cps.toList,c=49:=λc hc=>by
     rw[hz,List.mem_flatten] at hc;obtain⟨l,hl,hc⟩:=hc;obtain rfl:=List.eq_of_mem_replicate hl;rw[show(Str.ofString "1").cps.toList=[49] by symm,qmH] at hc;exact hc
    have hl:z.length=ns.length:=by
     have:=qmA List.length hz;rw[List.length_flatten,List.map_replicate,List.sum_replicate_nat,show(Str.ofString "1").cps.toList.length=1 by symm] at this;show z.cps.size=_;rw[qna] at this;omega
    exact(tK.str (n:=300) (λc h=>by rw[hc c h];decide) (by omega)).mono (by decide) (by decide)))) <|
   cN (jW (RJ v1 (Dt (jV uF pD) (by simp)) (by simp;omega)) (Td (by simp[kids]) (smL (λc hc=>by
    rcases qmm.mp hc with h|h
    ·exact sl2 c h
    ·rw[qmH] at h;subst h;exact qbo (lit (.int 1)) (by decide)) (by simp;omega)))) <|
   cN (jW (Ky hp.lst (Dv hp.lst v1) (Rx (jV uF pD) (by simp)) (by simp;omega)) (Td (by simp[kids]) (smT (λc hc=>by
    rcases qmm.mp hc with h|h
    ·exact sl2 c h
    ·rw[qmH] at h;subst h;exact qbo (lit (.int 0)) (by decide)) (by simp;omega)))) <|
   cN (jW (Dt (jV v1 pD) (by simp)) (Cr (c:=.list (ns.map PyData.int)) (by simp[kids]) rfl (tK.list (k:=29) (n:=29000) (m:=30000) (λc hc=>by
    rw[qmH] at hc;subst hc;exact(tK.list (k:=0) (n:=100) (m:=29000) sl (by rw[ql9];omega)).mono (by decide) (by decide)) (by simp)))) <|
   cN (jW qay (zp rfl (qc_ (lit (.dict []))))) <|
   cN (jW (Dt (jV v1 (jV v1 pD)) (by simp)) (Cr (c:=.list (ns.map PyData.int)) (by simp[kids]) rfl (tK.list (k:=29) (n:=14900) (m:=30000) (λc hc=>by
    have hc:c = .list (ns.map PyData.int):=by simpa using hc
    subst hc;exact(tK.list (k:=0) (n:=100) (m:=14900) sl (by rw[ql9];omega)).mono (by decide) (by decide)) (by simp)))) Kz) hp.ex (by decide) λb vs H1 hb s1 hn e1 a1=>?_
  have bp:b≠p:=qm hp.ex (Same.refl _) hb;generalize hNx:qd5 (Mr (qcj K) (fVar 2) _) _=Nx;have tail:∀(c:Addr)(oV:List V)(o3 o4:Option V)(H':Hp),c≠p->H' c=some (.lst oV)->0<oV.length->oV.length<=100->Gw (Tc ns.length) (hid p H') oV->jL H' p->But p H H'->Nx [some (.ref p),some (.ref r),some (.ref c),o3,o4] H':=by
   intro c oV o3 o4 H' cp hc h0 h1 hW hP hB;subst hNx;left;refine⟨_,.inl (aW.of hc),p,_,rfl,hP,by omega,by omega,λk H2 hk0 hk1 hP2 hB2=>?_⟩;obtain⟨v,hv,ha⟩:=B_ (n:=oV.length) rfl hk0 hk1;obtain⟨d,hd1,hd2⟩:=hW v hv;exact⟨_,.inl (aW.of (hB2 _ _ cp hc)),v,ha,q v d H2 (bU.same (vf hB2) d v hd1) hd2 hP2 (hB.trans hB2)⟩
  intro c hc;exists H1,c,(.lst []),s2,e2,H2,hc;have S2:=s1.trans s2;have hP2:=hp.Qo S2;have r2:=S2 _ _ hrx;have hic:PyData.canLay0 (.list (jR ns))=true:=by simp[PyData.canLay0,lay_ints]
  have qkZ:(PyData.list (jR ns)).depth<=64:=by
   have:=Nt ns;simp[PyData.depth];omega
  refine⟨.list (jR ns),⟨r,_,rfl,aW.of r2,Ur _⟩,.list [],⟨c,_,rfl,aW.of e2,rfl⟩,hic,rfl,qkZ,!decide (ns=[]),by
   simpa [PyData.eqv,jR] using Nu ns [],?_⟩
  by_cases hne:ns=[]
  ·rw[qm0 hne];refine eX.neg rfl ?_;left;exact tail b vs _ _ H2 bp (s2 _ _ e1) (by omega) (by omega) (a1.same (cG s2)) hP2 (But.of S2)
  ·rw[qmx hne];refine eX.pos rfl ?_;have n0:0<ns.length:=List.length_pos_iff.mpr hne;left;refine⟨_,.inl (aW.of r2),p,_,rfl,hP2,by simp;omega,by simp;omega,λj0 H3 hj0 hj1 oW hB3=>?_⟩;rw[ql9] at hj1;obtain⟨j,rfl⟩:∃j:Nat,j0=(j:Int):=⟨j0.toNat,by omega⟩;have B3:=(But.of S2).trans hB3;left;refine Dw (φ:=qkY) (p:=p) (n:=8) (
    cN (jW qam ⟨rfl,lit _⟩) <| cN (jW qam ⟨rfl,lit _⟩) <| cN (jW uF ⟨rfl,lit _⟩) <|
    cN (jW (qfm uF) ⟨rfl,lit _⟩) <| cN (jW qal ⟨rfl,lit _⟩) <| cN (jW qan ⟨rfl,lit _⟩) <|
    cN (jW (Dt (jV uF pD) (by simp)) ⟨rfl,lit _⟩) <| cN (jW (Rx (jV uF pD) (by simp)) ⟨rfl,lit _⟩) Kz) oW.ex (by decide) λb4 w4 H4 hb4 s4 hn4 e4 a4=>?_
   have b4p:b4≠p:=qm oW.ex (Same.refl _) hb4;refine⟨p,8,rfl,oW.Qo s4,by decide,by decide,λk5 H5 hk0 hk1 Bl Pn=>?_⟩;obtain⟨v5,hv5,ha5⟩:=B_ (n:=8) hn4 hk0 hk1;obtain⟨d5,hd5,hod⟩:=a4 v5 hv5;refine⟨_,.inl (aW.of (Pn _ _ b4p e4)),v5,ha5,?_⟩;have B5:=(B3.same s4).trans Pn;have t5:=bU.same (vf Pn) d5 v5 hd5;have tr5:bU (hid p H5) (.list (ns.map PyData.int)) (.ref r):=Aa (fJ rp (B5 _ _ rp hrx));left;have eb5:=Pn _ _ bp (s4 _ _ (hB3 _ _ bp (s2 _ _ e1)));have ab5:=((((a1.same (cG s2)).same (vf hB3)).same (cG s4)).same (vf Pn));have w1:GD p (fVar 1) [some (V.ref p),some (V.ref r),some (V.ref b),some (V.int j),some v5] H5 (.list (ns.map PyData.int)):=Kh rfl tr5;have w3:GD p (fVar 3) [some (V.ref p),some (V.ref r),some (V.ref b),some (V.int j),some v5] H5 (.int (j:Nat)):=Kh rfl (by simp[bU]);have w4:GD p (fVar 4) [some (V.ref p),some (V.ref r),some (V.ref b),some (V.int j),some v5] H5 d5:=Kh rfl t5;have w5:GD p (Mr (Zy λi j=>V.int (i+j)) (fVar 3) (tC (V.int 1))) [some (V.ref p),some (V.ref r),some (V.ref b),some (V.int j),some v5] H5 (.int ((j+1:Nat):Int)):=qfl w3 uF;have hm:∀c∈((ns.map PyData.int).take j++[d5])++(ns.map PyData.int).drop (j+1),tK 29 300 c:=λc hc=>by
    simp only[qmm,qmH] at hc
    rcases hc with(h|h)|h
    ·exact sl2 c (qoy h)
    ·exact h▸qbo hod.2 (by decide)
    ·exact sl2 c (qox h)
   have hml:(((ns.map PyData.int).take j++[d5])++(ns.map PyData.int).drop (j+1)).length<=60:=by simp;omega
   have hmd:d5∈((ns.map PyData.int).take j++[d5])++(ns.map PyData.int).drop (j+1):=by simp
   refine Dw (φ:=Tc ns.length) (p:=p) (n:=3) (
    cN (jW (qda w1) (Td (by simp[kids];omega) (smL (λc hc=>sl2 c (List.dropLast_subset _ hc)) (by simp;omega)))) <|
    cN (jW (RJ (RJ (qdE w1 w3) (Dt (jV w4 pD) (by simp)) (by simp;omega)) (U6 w1 w5) (by simp;omega)) (Cr hmd hod.1 (smL hm hml))) <|
    cN (jW (Ky Bl.lst (Ky Bl.lst (Dv Bl.lst (qdE w1 w3)) (Rx (jV w4 pD) (by simp)) (by simp;omega)) (Dv Bl.lst (U6 w1 w5)) (by simp;omega)) (Cr hmd hod.1 (smT hm hml))) Kz) Bl.ex (by decide) λb6 w6 H6 hb6 s6 hn6 e6 a6=>?_
   refine⟨_,s6 _ _ eb5,_,e6,by omega,λb7 hb7=>?_⟩;have s7:Same H6 (upd H6 b7 (.lst (vs++w6))):=aq hb7;exact tail b7 (vs++w6) _ _ _ (qm Bl.ex s6 hb7) ak (by rw[qmD];omega) (by rw[qmD];omega) (((ab5.same (cG s6)).app a6).same (cG s7)) (Bl.Qo (s6.trans s7)) (B5.same (s6.trans s7))
def kJ(H H':Hp):Prop:=∀b o,(∀ps,o≠.xR ps)->H b=some o->H' b=some o
theorem kJ.of{H H':Hp}(s:Same H H'):kJ H H':=λb o _ e=>s b o e
theorem kJ.trans{H H1 H2:Hp}(a:kJ H H1)(b:kJ H1 H2):kJ H H2:=λc o n e=>b c o n (a c o n e)
theorem Vr{pos:Pos}{qual:Str}{Pt:Addr}{H H':Hp}(t:TabOk pos qual Pt H)(b:But Pt H H'):kJ H H':=λc o n e=>b c o (λz=>by
 obtain⟨ps,h⟩:=t.tb;rw[z,h] at e;cases e;exact n _ rfl) e
theorem kJ.tups{H H':Hp}{tv:List V}{ps:QAD}(k:kJ H H')(h:bF H tv ps):bF H' tv ps:=⟨h.1,λi v e h1 h2=>by
 obtain⟨t,rfl,z⟩:=h.2 i v e h1 h2;exact⟨t,rfl,k _ _ (by simp) z⟩⟩
theorem kJ.goals{H H':Hp}{t n l:Addr}{xs:QAH}{tv:List V}{ps:QAD}(k:kJ H H')(h:oO H t n l xs tv ps):oO H' t n l xs tv ps:=
 ⟨k _ _ (by simp) h.1,k _ _ (by simp) h.2.1,k _ _ (by simp) h.2.2.1,k.tups h.2.2.2.1,h.2.2.2.2⟩
theorem kJ.seq{K:W.Frag}{H H':Hp}{a:Addr}{xs:List V}(k:kJ H H')(h:aW K H a xs):aW K H' a xs:=by
 rcases h with(h|⟨o,h⟩)|h
 ·exact .inl (.inl (k _ _ (by simp) h))
 ·exact .inl (.inr ⟨o,k _ _ (by simp) h⟩)
 ·exact .inr h
theorem Ly{pos:Pos}{qual:Str}{Pt p:Addr}{H H':Hp}(t:TabOk pos qual Pt H)(x:jL H p)(b:But p H H'):TabOk pos qual Pt H':=by
 obtain⟨xs,e⟩:=x.lst;exact t.but e b
def Lz(K:W.Frag)(Pt:Addr):Sp:=λvs H Q _=>∃(l:Addr)(ns:List Int),vs=[.ref l]/\aW K H l (ns.map V.int)/\ns.length<=63/\TabOk G4 G5 Pt H/\∀H',Q (.bl true) H'
theorem qfU(T:Txt K mg a){c Pt:Addr}(L:U7 a.fB base mg c Pt):bV P w K mg base i_ 17 a.Bb a.K1 ["_law_script"] (Lz K Pt):=by
 exists T.qdR.qL,Ea
 ·obtain⟨l,ns,rfl,_⟩:=h;rfl
 ·obtain⟨sl,zs,rfl,hS,hlen,hT,q⟩:=h;refine⟨_,(aC (kO qmZ rfl (PI.eqv (qO rfl T.nm.range (aj (aK (Dj rfl) rfl T.nm.max boot_max (aj aG (aj (aK (Ro rfl) rfl T.nm.min boot_min (aj aG (aj (aK (bY (K:=K) rfl) rfl T.nm.len qmi (aj (aL 0) ao)) ao))) ao))) ao)) (qU _)) (aR (i:=1) Ea.nd rfl (Or.inl rfl))
   (aC (bG (i:=2) Ea.nd rfl (Or.inr rfl) (PE.eqv (aO (qfv T) hr.d rfl T.qdK T.qaN.kp T.qdJ .nil bA (aj (aL 0) (aj (aL 1) ao))) (aJ _ _ _)))
   (aC (bG (i:=3) Ea.nd rfl (Or.inl rfl) (PE.eqv (aO (qfA T) hr.d rfl T.qdO T.qaP.kp T.qdN .nil bA (aj (aL 2) (aj (bR (cj (K:=K) rfl) (cI (aj aG (aj aG ao))) (PE.eqv (aO (fP T) hr.d rfl T.iJ T.gR.kp T.iI .nil bA (aj (aL 2) (aj aG ao))) (aJ _ _ _)) (λ_ _=>rfl)) (aj (bR (cj (K:=K) rfl) (cI (aj aG (aj aG (aj aG ao)))) (PE.eqv (aO (fP T) hr.d rfl T.iJ T.gR.kp T.iI .nil bA (aj (aL 2) (aj aG ao))) (aJ _ _ _)) (λ_ _=>rfl)) ao)))) (aJ _ _ _)))
   (aC (jr (i:=4) Ea.nd rfl rfl rfl rfl (show aY (aB vV) _ ["_law_script", "_law_k", "_law_pot_here", "_law_web_here", "_law_row"] ["_law_tie_here"] [2] ["_law_tie_here", "_law_pot_here"] from by rfl') rfl (PI.eqv (cJ (K:=K) rfl (bR (cj (K:=K) rfl) (aL 3) aG (λ_ _=>rfl))) (bT _ _)) (λC s H fp pn=>(aR (i:=0) (show(["_law_tie_here", "_law_pot_here"]:QAH).Nodup by symm) rfl (Or.inl rfl))) (λC s H fp pn=>eV) (λC s H fp pn=>(PE.eqv (aO (fP T) hr.d rfl T.iJ T.gR.kp T.iI .nil bA (aj (aL 1) (aj aG ao))) (aJ _ _ _))))
   (aF (cP (PW.pt (vP (aU mV (PE.eqv (aO (Vq (L:=L) (K:=K) T) hr.d rfl T.R6 T.K8.kp T.R5 .nil bA (aj (aL 3) (aj (PE.eqv (aO (FN T) hr.d rfl T.wu T.qG.kp T.wk .nil bA (aj (aL 2) (aj (aL 4) ao))) (aJ _ _ _)) ao))) (aJ _ _ _)) eF (bO _)) (rB (aU mV (PE.eqv (aO (Vq (L:=L) (K:=K) T) hr.d rfl T.R6 T.K8.kp T.R5 .nil bA (aj (aL 3) (aj (aL 4) ao))) (aJ _ _ _)) (PE.eqv (aO (qfT T) hr.d rfl T.qdQ T.qaQ.kp T.qdP .nil bA (aj (aL 3) ao)) (aJ _ _ _)) (bO _))))) (aF (aZ qM)) bC))))))
   (aF (aZ qM))),?_⟩
  have s20:=qnC yj;left;refine⟨_,.inl hS,?_⟩;simp only[ql9];obtain⟨m,hm,hm6⟩:∃m:Nat,(if 1<if (zs.length:Int)<8 then (zs.length:Int) else 8 then if (zs.length:Int)<8 then (zs.length:Int) else 8 else 1)=m/\m<=8:=by
   by_cases h1:(zs.length:Int)<8
   ·rw[if_pos h1]
    by_cases h2:1<(zs.length:Int)
    ·exact⟨zs.length,by rw[if_pos h2],by omega⟩
    ·exact⟨1,by rw[if_neg h2];rfl,by decide⟩
   ·rw[if_neg h1];exact⟨8,rfl,by decide⟩
  simp only[hm];refine⟨by omega,by omega,frR (λi σ H'=>(∃o1 o2 o3 o4,σ=[some (.ref sl),o1,o2,o3,o4])/\kJ H H'/\TabOk G4 G5 Pt H') ⟨⟨_,_,_,_,rfl⟩,kJ.of (Same.refl _),hT⟩ ?_ ?_⟩
  ·rintro i σ H1 hi ⟨⟨o1,o2,o3,o4,rfl⟩,k1,hT1⟩;left;refine⟨sl,zs,i,rfl,k1.seq hS,by simp at hi;omega,λp H2 hp0 hP2 hB2=>?_⟩;have s2:Same H1 H2:=λb o e=>hB2 b o (aN e hp0) e;have hT2:=hT1.same s2;left;intro a1 ha1;have s3:Same H2 (upd H2 a1 (.lst [.int 5,.int 9])):=aq ha1;have f3:upd H2 a1 (.lst [.int 5,.int 9]) a1=some (.lst [.int 5,.int 9]):=ak;have a1p:a1≠p:=(hP2.ne ha1).symm;generalize upd H2 a1 (.lst [.int 5,.int 9])=H3 at s3 f3⊢;have oW:=hP2.Qo s3;refine⟨p,2,rfl,oW,by decide,by decide,λd1 H4 hd0 hd1 Gg R9=>?_⟩;obtain⟨v1,hv1,hx1⟩:=B_ (n:=2) (vs:=[V.int 5,.int 9]) rfl hd0 hd1;obtain⟨m1,rfl,hm1⟩:∃m1:Nat,v1 = .int m1/\(m1=5\/m1=9):=by
    simp only[qmd,qmF,qnz] at hv1
    rcases hv1 with rfl|rfl
    ·exact⟨5,rfl,.inl rfl⟩
    ·exact⟨9,rfl,.inr rfl⟩
   refine⟨_,.inl (aW.of (R9 _ _ a1p f3)),_,hx1,?_⟩;left;intro a2 ha2;have s5:Same H4 (upd H4 a2 (.lst [.int 9,.int 12,.int 20])):=aq ha2;have f5:upd H4 a2 (.lst [.int 9,.int 12,.int 20]) a2=some (.lst [.int 9,.int 12,.int 20]):=ak;have a2p:a2≠p:=(Gg.ne ha2).symm;generalize upd H4 a2 (.lst [.int 9,.int 12,.int 20])=H5 at s5 f5⊢;have Bl:=Gg.Qo s5;refine⟨p,3,rfl,Bl,by decide,by decide,λd2 H6 qk0 qk1 Sd Pq=>?_⟩;obtain⟨v2,hv2,hx2⟩:=B_ (n:=3) (vs:=[V.int 9,.int 12,.int 20]) rfl qk0 qk1;obtain⟨m2,rfl,hm2⟩:∃m2:Nat,v2 = .int m2/\9<=m2/\m2<=20:=by
    simp only[qmd,qmF,qnz] at hv2
    rcases hv2 with rfl|rfl|rfl
    ·exact⟨9,rfl,by decide,by decide⟩
    ·exact⟨12,rfl,by decide,by decide⟩
    ·exact⟨20,rfl,by decide,by decide⟩
   refine⟨_,.inl (aW.of (Pq _ _ a2p f5)),_,hx2,?_⟩;have B6:But p H1 H6:=(hB2.same s3).trans ((R9.same s5).trans Pq);have hT6:=Ly (hT2.same s3) oW ((R9.same s5).trans Pq);left;refine⟨p,m1,m2,rfl,Sd,by omega,by omega,by omega,by omega,λt n l xs tv ps H7 ht0 hn0 hl0 ht1 hn1 hl1 qhO hX hTs _ _ Sg hB7=>?_⟩;have hT7:=Ly hT6 Sd hB7;have np:n≠p:=(Sd.ne hn0).symm;have lp:l≠p:=(Sd.ne hl0).symm;have tp:t≠p:=(Sd.ne ht0).symm;have z6:=hTs.len;have tl:=qhO.1;have B7:But p H1 H7:=B6.trans hB7;have hG7:oO H7 t n l xs tv ps:=⟨ht1,hn1,hl1,qhO,hX,hTs⟩;have keep:∀{H8 H9},But p H7 H8->kJ H8 H9->kJ H H9:=λb k c o n e=>k c o n (b c o (aN (k1 _ _ n e) hp0) (B7 c o (aN (k1 _ _ n e) hp0) (k1 _ _ n e)));left;refine⟨_,.inr (eG.of ht1),_,bD (j:=1) rfl,⟨_,aW.of hl1⟩,λD hD=>Wh tv (λi σ H'=>(∃o',σ=[o',some (.ref p)])/\(∃ns:List Int,H' D=some (.lst (ns.map V.int))/\ns.length=i/\∀n∈ns,0<=n/\n<=1)/\H' l=some (.lst tv)/\jL H' p/\But p H7 H') ⟨⟨_,rfl⟩,⟨[],ak,rfl,by simp⟩,bW hl1 hD,Sg.upd (Sg.ne hD),But.of (aq hD)⟩ (λi σ H' _ h=>aW.of h.2.2.1) ?_ ?_⟩
   ·rintro i x σ H8 hi ⟨⟨o',rfl⟩,⟨ns,hD2,hn,h01⟩,hl2,hP8,hB8⟩;have hi2:i<tv.length:=(ql2.mp hi).1;have Dp:D≠p:=(Sg.ne hD).symm;have lD:l≠D:=aN hl1 hD;left;refine⟨p,_,rfl,hP8,by decide,by decide,λf H9 hf0 hf1 hP9 hB9=>?_⟩;left;refine⟨_,hB9 _ _ Dp hD2,by simp;omega,⟨ns++[f],by rw[ak];simp,by simp[hn],λm hm=>?_⟩,by rw[aD lD];exact hB9 _ _ lp hl2,hP9.upd Dp.symm,(hB8.trans hB9).new hD⟩
    rcases qmm.mp hm with hm|hm
    ·exact h01 m hm
    ·simp at hm;subst hm;omega
   ·rintro σ H8 ⟨⟨o',rfl⟩,⟨ns,hD8,hnl,h01⟩,hl8,hP8,hB8⟩;have Dp:D≠p:=(Sg.ne hD).symm;have hT8:=Ly hT7 Sg hB8;have hnl:ns.length=ps.length:=by omega
    left;refine⟨p,D,ns,rfl,hP8,hD8,Dp,by omega,h01,λv d H9 hd hbad hP9 hB9=>?_⟩;have hT9:=Ly hT8 hP8 hB9;have hG9:=hG7.but Sg (hB8.trans hB9) np lp;have D9:=hB9 _ _ Dp hD8;refine⟨t,n,l,v,d,xs,tv,ps,rfl,hG9,bU.same ig _ _ hd,hbad.sm,hT9,λH10 B10 qhP=>?_⟩;have k10:=Vr hT9 B10;have qhQ:=k10.goals hG9;have D10:=k10 _ _ (by simp) D9;rw[show tW ps xs d = "pointing" by unfold tW;rw[if_neg (by have:=hbad.no;rw[hnl] at this;rw[this];simp)]];refine⟨false,by decide,eX.neg (d:=⟨0⟩) rfl ?_⟩;left;have hdl:bU H10 (.list (ns.map PyData.int)) (.ref D):=Aa D10;have hpt:xT ps.length (.list (ns.map PyData.int))=true:=by rw[<- hnl];exact P0 rfl rfl h01
    refine⟨t,n,l,.ref D,.list (ns.map PyData.int),xs,tv,ps,rfl,qhQ,hdl,smL (λc hc=>qbo (Jk h01 c hc) (by decide)) (by rw[ql9];omega),qhP,λH11 B11 qk2=>?_⟩;have k11:=Vr qhP B11;have qk3:=k11.goals qhQ;rw[show tW ps xs (.list (ns.map PyData.int))=xH ps xs by unfold tW;rw[if_pos hpt]];refine⟨t,n,l,xs,tv,ps,rfl,qk3,λH12 s12=>?_⟩;left;exact⟨keep (hB8.trans hB9) (k10.trans (k11.trans (kJ.of s12))),qk2.same s12⟩
  ·rintro σ H1 ⟨⟨o1,o2,o3,o4,rfl⟩,k1,hT1⟩;left;exact q _
end K54
namespace L2
open PySem PySem.Spec PyProof.Rows
def jM(K:W.Frag)(x:Str)(f:Addr):Prop:=W.nsIn K mainGlobals x=some (some (.ref f))
theorem qhR{K:W.Frag}{C B:Addr}{cd:ClassData}(c:W.clsIn K C=some cd)(m:cd.mro = .ref C::.ref B::mD)(h:cd.hasDict=true) (t:W.typeIn K (.ref C)=some (.type "type")) (a:W.findIn K (.ref C) "__getattribute__" = some (some (.builtin "BaseException.__getattribute__")))
  (n:W.findIn K (.ref C) "__getattr__" = some none) (g:W.findIn K (.ref C) "__class__" = some (some (.builtin "object.__class__"))) (k:W.keepIn K (.ref C)=true):XC K C B:=⟨⟨_,c,m,h⟩,t,a,n,g,k⟩
end L2
namespace K54
open PySem L2
theorem unc{α:Type}{n:Nat}(l:List α)(h:l.length=n+1):∃a r,l=a::r:=by
 cases l with
 |nil=>cases h
 |cons a r=>exact⟨a,r,rfl⟩
theorem jc{fd:FuncData}{ps:QAH}(h:∀v0,bindArgs fd {pos:=[v0]}=pure (ps.zip [v0])):∀us:QAE,us.length=1->bindArgs fd {pos:=us}=pure (ps.zip us):=by
 intro us hl;obtain⟨v0,us,rfl⟩:=unc us hl;replace hl:=Nat.succ.inj hl;obtain rfl:=qmQ hl;exact h v0
theorem dH{fd:FuncData}{ps:QAH}(h:∀v0 v1,bindArgs fd {pos:=[v0,v1]}=pure (ps.zip [v0,v1])):∀us:QAE,us.length=2->bindArgs fd {pos:=us}=pure (ps.zip us):=by
 intro us hl;obtain⟨v0,us,rfl⟩:=unc us hl;replace hl:=Nat.succ.inj hl;obtain⟨v1,us,rfl⟩:=unc us hl;replace hl:=Nat.succ.inj hl;obtain rfl:=qmQ hl;exact h v0 v1
theorem FP{fd:FuncData}{ps:QAH}(h:∀v0 v1 v2,bindArgs fd {pos:=[v0,v1,v2]}=pure (ps.zip [v0,v1,v2])):∀us:QAE,us.length=3->bindArgs fd {pos:=us}=pure (ps.zip us):=by
 intro us hl;obtain⟨v0,us,rfl⟩:=unc us hl;replace hl:=Nat.succ.inj hl;obtain⟨v1,us,rfl⟩:=unc us hl;replace hl:=Nat.succ.inj hl;obtain⟨v2,us,rfl⟩:=unc us hl;replace hl:=Nat.succ.inj hl;obtain rfl:=qmQ hl;exact h v0 v1 v2
theorem all_mk{l:W.OpenLaw}{w:World}{K:W.Frag}{h:Heap}{mg:Str->Option Value}{fa b_ aA aV bI gY fC cF gZ dD fD dF cR fG dG j_ kh g8 bB bh dN eY dO iy uK cZ c7 iQ iz jF eZ mF iB gA dM gB gC bZ dz mG fZ iC iD jG dU bN mH fj fu dW cH dg mJ Ax uL pU pW Ay Az jH pX uM pY A_ dX Bb:Addr}(X:K.In h)(G:h.Ns mainGlobals mg) (hfa:mg "law" = some (.ref fa))
  {fd1 fd2 fd3 fd4 fd5 fd6 fd7 fd8 fd9 qhS qhT qhU qhV qhW qhX qhY qhZ qh0 qh1 qh2 qh3 qh4 qh5 qh6 qh7 qh8 qh9 qh_ qia qib qic qid qie qif qig qih qii qij qik qil qim qin qio qip:FuncData}
  {qk4 qiq qk5 qir:Option Addr}{qk6 qk7:Array (QAG)}{qk8 qis qit qiu qdb qiv qk9 qiw qix qiy qfV qiz:Value}{xK mY oR sX jC:Tok}
  {wC:ClassData}{Xm Xn:Str}{qbr:Addr}{Xo Tf:QAE}{Xp Xq:Bool}{Xr:QAH}{Tg:Option Bool}{Xu:Option Addr}{Xv Xw Xx Xy Xz:QAG}{XD XF:Str}{qbs:Addr}{XH Tj:QAE}{XJ XM:Bool}{XQ:QAH}{Tn:Option Bool}{XR:Option Addr}{XS X3 X4 X5 X6:QAG}
  (Tp:jM K "Web" b_)
  (qH:jM K "PointError" aA)
  (qI:jM K "NoPointing" aV)
  (xM:jM K "TooMuch" bI)
  (FQ:jM K "NoWeb" gY)
  (Ab:jM K "NoText" fC)
  (sY:jM K "NoNumbers" cF)
  (FT:jM K "NoLot" gZ)
  (xO:jM K "NoPoint" dD)
  (Ac:jM K "NoEars" fD)
  (xP:jM K "NoFixed" dF)
  (u5:jM K "NoNumber" cR)
  (Ad:jM K "Unlike" fG)
  (xQ:jM K "NotOver" dG)
  (LC:jM K "Shut" j_)
  (LK:jM K "Thin" kh)
  (FW:jM K "NoIns" g8)
  (Ae:jM K "Parted" bB)
  (Af:jM K "Barred" bh)
  (a1:jM K "steps_along" dN)
  (F1:dj K "steps_along" "steps_along" qp dN fd1)
  (a2:jM K "ways_along" eY)
  (F2:dj K "ways_along" "ways_along" rN eY fd2)
  (a3:jM K "found_along" dO)
  (F3:dj K "found_along" "found_along" lN dO fd3)
  (a4:jM K "clusters" iy)
  (F4:dj K "clusters" "clusters" rO iy fd4)
  (a5:jM K "bars" uK)
  (F5:dj K "bars" "bars" KD uK fd5)
  (a6:W.findIn K (.ref bB) "__init__" = some (some (.ref cZ))) (i6:W.isFn K (.ref cZ)=true)
  (F6:dj K "__init__" "Parted.__init__" qt cZ fd6)
  (a7:W.findIn K (.ref bh) "__init__" = some (some (.ref c7))) (i7:W.isFn K (.ref c7)=true)
  (F7:dj K "__init__" "Barred.__init__" qu c7 fd7)
  (a8:jM K "is_list" iQ)
  (F8:dj K "is_list" "is_list" zT iQ fd8)
  (a9:jM K "is_whole" iz)
  (F9:dj K "is_whole" "is_whole" wQ iz fd9)
  (a10:jM K "is_name" jF)
  (F10:dj K "is_name" "is_name" vm jF qhS)
  (a11:jM K "are_points" eZ)
  (F11:dj K "are_points" "are_points" ni eZ qhT)
  (a12:jM K "is_tie" mF)
  (F12:dj K "is_tie" "is_tie" yP mF qhU)
  (a13:jM K "are_ties" iB)
  (F13:dj K "are_ties" "are_ties" rP iB qhV)
  (a14:W.findIn K (.ref b_) "__init__" = some (some (.ref gA))) (i14:W.isFn K (.ref gA)=true)
  (F14:dj K "__init__" "Web.__init__" rQ gA qhW)
  (a15:W.findIn K (.ref b_) "points" = some (some (.ref dM))) (i15:W.isFn K (.ref dM)=true)
  (F15:dj K "points" "Web.points" rR dM qhX)
  (a16:W.findIn K (.ref b_) "ties" = some (some (.ref gB))) (i16:W.isFn K (.ref gB)=true)
  (F16:dj K "ties" "Web.ties" wR gB qhY)
  (a17:W.findIn K (.ref b_) "many" = some (some (.ref gC))) (i17:W.isFn K (.ref gC)=true)
  (F17:dj K "many" "Web.many" wU gC qhZ)
  (a18:jM K "sure_of_few_ties" bZ)
  (F18:dj K "sure_of_few_ties" "sure_of_few_ties" jw bZ qh0)
  (a19:jM K "sure_of_ears" dz)
  (F19:dj K "sure_of_ears" "sure_of_ears" oE dz qh1)
  (a20:jM K "lot_of" mG)
  (F20:dj K "lot_of" "lot_of" uH mG qh2)
  (a21:jM K "all_parts" fZ)
  (F21:dj K "all_parts" "all_parts" pG fZ qh3)
  (a22:jM K "all_lots" iC)
  (F22:dj K "all_lots" "all_lots" wV iC qh4)
  (a23:jM K "crossing" iD)
  (F23:dj K "crossing" "crossing" rT iD qh5)
  (a24:jM K "is_lead" jG)
  (F24:dj K "is_lead" "is_lead" zU jG qh6)
  (a25:jM K "is_pointing" dU)
  (F25:dj K "is_pointing" "is_pointing" lO dU qh7)
  (a26:jM K "sure_of_pointing" bN)
  (F26:dj K "sure_of_pointing" "sure_of_pointing" jx bN qh8)
  (a27:jM K "arrows" mH)
  (F27:dj K "arrows" "arrows" DK mH qh9)
  (a28:jM K "steps_into" fj)
  (F28:dj K "steps_into" "steps_into" nj fj qh_)
  (a29:jM K "shut_cuts" fu)
  (l29:K.lookup fu=some ⟨qk8,qk4,.func (W.fnOf "shut_cuts" "shut_cuts" (o9 dw) (gj dw) (aB dw) .none qis qit qiu qiq qdb qiv),qk6⟩) (c29:W.codeIn K qdb "shut_cuts" = true) (k29:W.keepIn K (.ref fu)=true)
  (a30:jM K "without_tie" dW)
  (F30:dj K "without_tie" "without_tie" lQ dW qia)
  (a31:jM K "ties_in_each" cH)
  (F31:dj K "ties_in_each" "ties_in_each" oF cH qib)
  (a32:jM K "lots_apart" dg)
  (F32:dj K "lots_apart" "lots_apart" nu dg qic)
  (a33:jM K "fewest" mJ)
  (F33:dj K "fewest" "fewest" DN mJ qid)
  (a34:jM K "_law_pot" Ax)
  (F34:dj K "_law_pot" "_law_pot" qaH Ax qie)
  (a35:jM K "_law_take" uL)
  (F35:dj K "_law_take" "_law_take" RW uL qif)
  (a36:jM K "_law_names" pU)
  (F36:dj K "_law_names" "_law_names" Cd pU qig)
  (a37:jM K "_law_mixed" pW)
  (F37:dj K "_law_mixed" "_law_mixed" KH pW qih)
  (a38:jM K "_law_tie" Ay)
  (F38:dj K "_law_tie" "_law_tie" qaI Ay qii)
  (a39:jM K "_law_web" Az)
  (F39:dj K "_law_web" "_law_web" Ii Az qij)
  (a40:jM K "_law_reached" jH)
  (F40:dj K "_law_reached" "_law_reached" zV jH qik)
  (a41:jM K "_law_class" pX)
  (F41:dj K "_law_class" "_law_class" KJ pX qil)
  (a42:jM K "_law_said" uM)
  (F42:dj K "_law_said" "_law_said" RX uM qim)
  (a43:jM K "_law_hangs" pY)
  (F43:dj K "_law_hangs" "_law_hangs" KN pY qin)
  (a44:jM K "_law_due" A_)
  (F44:dj K "_law_due" "_law_due" Va A_ qio)
  (a45:jM K "_law_no_pointing" dX)
  (F45:dj K "_law_no_pointing" "_law_no_pointing" qw dX qip)
  (a46:jM K "law" Bb)
  (l46:K.lookup Bb=some ⟨qk9,qk5,.func (W.fnOf "law" "law" (o9 vV) (gj vV) (aB vV) .none qiw qix qiy qir qfV qiz),qk7⟩) (c46:W.codeIn K qfV "law" = true) (k46:W.keepIn K (.ref Bb)=true)
  (lA:W.nsIn K mainGlobals "LETTERS" = some (some (.str "abcdefghijklmnopqrstuvwxyz" xK)))
  (d8:W.nsIn K mainGlobals "MOST_LETTERS" = some (some (.int 4 mY)))
  (fK:W.nsIn K mainGlobals "MOST_POINTS" = some (some (.int 9 oR)))
  (iG:W.nsIn K mainGlobals "MOST_TIES" = some (some (.int 20 sX)))
  (cQ:W.nsIn K mainGlobals "MOST_TIES_TAKEN" = some (some (.int 12 jC)))
  (Tq:W.plainGet K b_ Str.empty=true) (Tr:W.hasDictIn K b_=true) (Tt:W.plainOver K b_=true) (Tv:W.findIn K (.ref b_) "__setattr__" = some (some (.builtin "object.__setattr__"))) (Tw:W.makesIn K b_=true) (Tz:W.keepIn K (.ref b_)=true)
  (FZ:W.findIn K (.ref b_) "names" = some none)
  (Ga:W.findIn K (.ref b_) "pairs" = some none)
  (qbt:W.nsIn K mainGlobals "len" = some none)
  (qbu:W.nsIn K mainGlobals "max" = some none)
  (qbw:W.nsIn K mainGlobals "min" = some none)
  (qbx:W.nsIn K mainGlobals "abs" = some none)
  (Gb:W.nsIn K mainGlobals "divmod" = some none)
  (LQ:W.nsIn K mainGlobals "range" = some none)
  (qby:W.nsIn K mainGlobals "zip" = some none)
  (TF:W.nsIn K mainGlobals "list" = some none)
  (LR:W.nsIn K mainGlobals "tuple" = some none)
  (qbz:W.nsIn K mainGlobals "int" = some none)
  (qbA:W.nsIn K mainGlobals "str" = some none)
  (qbB:W.nsIn K mainGlobals "set" = some none)
  (qbC:W.nsIn K mainGlobals "all" = some none)
  (sZ:W.nsIn K mainGlobals "isinstance" = some none)
  (u6:W.nsIn K mainGlobals "enumerate" = some none)
  (qbD:W.nsIn K mainGlobals "any" = some none)
  (TJ:W.nsIn K mainGlobals "dict" = some none)
  (Gd:W.nsIn K mainGlobals "sorted" = some none)
  (TQ:W.nsIn K mainGlobals "repr" = some none)
  (TV:W.nsIn K mainGlobals "bool" = some none)
  (qbE:W.nsIn K mainGlobals "sum" = some none)
  (mq:W.clsIn K aA=some wC) (mz:wC.mro=[.ref aA,.type "ValueError",.type "Exception",.type "BaseException",.type "object"]) (qJ:W.typeIn K (.ref aA)=some (.type "type"))
  (fH:W.excIn K aA mD "ValueError.__new__" = true)
  (gF:W.excIn K aV mD "ValueError.__new__" = true)
  (lB:W.excIn K bI mD "ValueError.__new__" = true)
  (qK:W.isClsIn K aA=true) (qfW:W.specialIn K (.ref aA) "__getattribute__" = some (some (.builtin "type.__getattribute__"))) (qfX:W.readsIn K aA (.type "type")=true) (qfY:W.findCls K (.ref aA) (.type "type") "__init__" = some (.val (.builtin "ValueError.__init__")))
  (Iz:W.specialIn K (.builtin "object.__class__") "__get__" = some (some (.builtin "getset_descriptor.__get__"))) (IV:W.takesIn K (.builtin "object.__class__")=some true)
  (TX:Ku [aA,aV,bI,gY,fC,cF,gZ,dD,fD,dF,cR,fG,dG,j_,kh,g8,bB,bh]=true)
  (dY:XC K aV aA)
  (iK:XC K bI aA)
  (qY:XC K gY aA)
  (nQ:XC K fC aA)
  (iU:XC K cF aA)
  (qZ:XC K gZ aA)
  (lC:XC K dD aA)
  (nR:XC K fD aA)
  (lE:XC K dF aA)
  (jK:XC K cR aA)
  (nU:XC K fG aA)
  (lF:XC K dG aA)
  (vD:XC K j_ aA)
  (vG:XC K kh aA)
  (q_:XC K g8 aA)
  (fX:XC K bB aA)
  (fY:XC K bh aA)
  (Ag:K.lookup bB=some (excClassObj Xm Xn bB qbr Xo [.ref aA,.type "ValueError",.type "Exception",.type "BaseException",.type "object"] Xp Xr Tf Xq Tg Xu Xv Xw Xx Xy Xz "ValueError.__new__")) (Ah:W.findIn K (.ref bB) "__setattr__" = some (some (.builtin "object.__setattr__")))
  (gK:W.findIn K (.ref bB) "lot" = some none)
  (Ai:K.lookup bh=some (excClassObj XD XF bh qbs XH [.ref aA,.type "ValueError",.type "Exception",.type "BaseException",.type "object"] XJ XQ Tj XM Tn XR XS X3 X4 X5 X6 "ValueError.__new__")) (Aj:W.findIn K (.ref bh) "__setattr__" = some (some (.builtin "object.__setattr__")))
  (gM:W.findIn K (.ref bh) "tie" = some none)
  (gO:W.findIn K (.ref bh) "lot" = some none)
  (iV:W.nsIn K mainGlobals "ValueError" = some none)
  {cL PL:Addr} (cdl:qdb=Value.ref cL)
  : ∃fd:FuncData,(∀(s:Shared)(v:Value),BindsTo s fd ⟨[v],[]⟩ [("_law_script",v)])/\∀base:Heap,K.In base->base.Ns mainGlobals mg->W.CodeHd base cL PL->base.BuiltinsAt mg PL->bV l.prog w K mg base i_ 17 fa fd ["_law_script"] (Lz K PL):=by
 have e:=hfa.symm.trans (qmy X G a46);cases e;have b1:=F1.binds (ps:=["web", "fixed"]) λ_ _ _ _ _ _=>dH λ_ _=>rfl;have b2:=F2.binds (ps:=["start", "steps"]) λ_ _ _ _ _ _=>dH λ_ _=>rfl;have b3:=F3.binds (ps:=["web", "start", "steps"]) λ_ _ _ _ _ _=>FP λ_ _ _=>rfl;have b4:=F4.binds (ps:=["web"]) λ_ _ _ _ _ _=>jc λ_=>rfl;have b5:=F5.binds (ps:=["web"]) λ_ _ _ _ _ _=>jc λ_=>rfl;have b6:=F6.binds (ps:=["self", "lot"]) λ_ _ _ _ _ _=>dH λ_ _=>rfl;have b7:=F7.binds (ps:=["self", "tie", "lot"]) λ_ _ _ _ _ _=>FP λ_ _ _=>rfl;have b8:=F8.binds (ps:=["thing"]) λ_ _ _ _ _ _=>jc λ_=>rfl;have b9:=F9.binds (ps:=["thing"]) λ_ _ _ _ _ _=>jc λ_=>rfl;have b10:=F10.binds (ps:=["thing"]) λ_ _ _ _ _ _=>jc λ_=>rfl;have b11:=F11.binds (ps:=["thing"]) λ_ _ _ _ _ _=>jc λ_=>rfl;have b12:=F12.binds (ps:=["thing", "points"]) λ_ _ _ _ _ _=>dH λ_ _=>rfl;have b13:=F13.binds (ps:=["thing", "points"]) λ_ _ _ _ _ _=>dH λ_ _=>rfl;have b14:=F14.binds (ps:=["self", "points", "ties"]) λ_ _ _ _ _ _=>FP λ_ _ _=>rfl;have b15:=F15.binds (ps:=["self"]) λ_ _ _ _ _ _=>jc λ_=>rfl;have b16:=F16.binds (ps:=["self"]) λ_ _ _ _ _ _=>jc λ_=>rfl;have b17:=F17.binds (ps:=["self"]) λ_ _ _ _ _ _=>jc λ_=>rfl;have b18:=F18.binds (ps:=["web", "most"]) λ_ _ _ _ _ _=>dH λ_ _=>rfl;have b19:=F19.binds (ps:=["web"]) λ_ _ _ _ _ _=>jc λ_=>rfl;have b20:=F20.binds (ps:=["web", "points"]) λ_ _ _ _ _ _=>dH λ_ _=>rfl;have b21:=F21.binds (ps:=["points"]) λ_ _ _ _ _ _=>jc λ_=>rfl;have b22:=F22.binds (ps:=["web"]) λ_ _ _ _ _ _=>jc λ_=>rfl;have b23:=F23.binds (ps:=["web", "lot"]) λ_ _ _ _ _ _=>dH λ_ _=>rfl;have b24:=F24.binds (ps:=["thing"]) λ_ _ _ _ _ _=>jc λ_=>rfl;have b25:=F25.binds (ps:=["web", "thing"]) λ_ _ _ _ _ _=>dH λ_ _=>rfl;have b26:=F26.binds (ps:=["web", "thing"]) λ_ _ _ _ _ _=>dH λ_ _=>rfl;have b27:=F27.binds (ps:=["web", "pointing"]) λ_ _ _ _ _ _=>dH λ_ _=>rfl;have b28:=F28.binds (ps:=["steps", "lot"]) λ_ _ _ _ _ _=>dH λ_ _=>rfl;have F29:=QM (st:=dw) l29 c29 k29;have b29:=F29.binds (ps:=["web", "pointing"]) λ_ _ _ _ _ _=>dH λ_ _=>rfl;have b30:=F30.binds (ps:=["cuts", "number"]) λ_ _ _ _ _ _=>dH λ_ _=>rfl;have b31:=F31.binds (ps:=["cuts", "most"]) λ_ _ _ _ _ _=>dH λ_ _=>rfl;have b32:=F32.binds (ps:=["cuts", "numbers"]) λ_ _ _ _ _ _=>dH λ_ _=>rfl;have b33:=F33.binds (ps:=["web", "pointing"]) λ_ _ _ _ _ _=>dH λ_ _=>rfl;have b34:=F34.binds (ps:=["_law_script", "_law_k"]) λ_ _ _ _ _ _=>dH λ_ _=>rfl;have b35:=F35.binds (ps:=["_law_pot_here", "_law_many"]) λ_ _ _ _ _ _=>dH λ_ _=>rfl;have b36:=F36.binds (ps:=["_law_pot_here", "_law_many"]) λ_ _ _ _ _ _=>dH λ_ _=>rfl;have b37:=F37.binds (ps:=["_law_pot_here", "_law_things"]) λ_ _ _ _ _ _=>dH λ_ _=>rfl;have b38:=F38.binds (ps:=["_law_pot_here", "_law_names_here"]) λ_ _ _ _ _ _=>dH λ_ _=>rfl;have b39:=F39.binds (ps:=["_law_pot_here", "_law_points", "_law_most"]) λ_ _ _ _ _ _=>FP λ_ _ _=>rfl;have b40:=F40.binds (ps:=["_law_web_here", "_law_pointing", "_law_start"]) λ_ _ _ _ _ _=>FP λ_ _ _=>rfl;have b41:=F41.binds (ps:=["_law_e"]) λ_ _ _ _ _ _=>jc λ_=>rfl;have b42:=F42.binds (ps:=["_law_web_here", "_law_thing"]) λ_ _ _ _ _ _=>dH λ_ _=>rfl;have b43:=F43.binds (ps:=["_law_web_here", "_law_ties"]) λ_ _ _ _ _ _=>dH λ_ _=>rfl;have b44:=F44.binds (ps:=["_law_web_here"]) λ_ _ _ _ _ _=>jc λ_=>rfl;have b45:=F45.binds (ps:=["_law_pot_here", "_law_row"]) λ_ _ _ _ _ _=>dH λ_ _=>rfl;have F46:=QM (st:=vV) l46 c46 k46;have b46:=F46.binds (ps:=["_law_script"]) λ_ _ _ _ _ _=>jc λ_=>rfl;have T:Txt K mg {dN:=dN,jY:=fd1,eY:=eY,lR:=fd2,dO:=dO,jZ:=fd3,iy:=iy,pI:=fd4,uK:=uK,Ce:=fd5,cZ:=cZ,j4:=fd6,c7:=c7,j6:=fd7,iQ:=iQ,oH:=fd8,iz:=iz,pJ:=fd9,jF:=jF,su:=qhS,eZ:=eZ,lU:=qhT,mF:=mF,vo:=qhU,iB:=iB,pK:=qhV,gA:=gA,pL:=qhW,dM:=dM,lV:=qhX,gB:=gB,pO:=qhY,gC:=gC,pP:=qhZ,bZ:=bZ,fO:=qh0,dz:=dz,jq:=qh1,mG:=mG,vp:=qh2,fZ:=fZ,nC:=qh3,iC:=iC,pQ:=qh4,iD:=iD,pR:=qh5,jG:=jG,sy:=qh6,dU:=dU,j7:=qh7,bN:=bN,dI:=qh8,mH:=mH,vq:=qh9,fj:=fj,lW:=qh_,fu:=fu,fB:=W.fnOf "shut_cuts" "shut_cuts" (o9 dw) (gj dw) (aB dw) .none qis qit qiu qiq qdb qiv,dW:=dW,j8:=qia,cH:=cH,eO:=qib,dg:=dg,gJ:=qic,mJ:=mJ,vA:=qid,Ax:=Ax,KQ:=qie,uL:=uL,Cg:=qif,pU:=pU,yR:=qig,pW:=pW,yS:=qih,Ay:=Ay,KR:=qii,Az:=Az,KY:=qij,jH:=jH,sE:=qik,pX:=pX,yU:=qil,uM:=uM,Ci:=qim,pY:=pY,yV:=qin,A_:=A_,KZ:=qio,dX:=dX,j9:=qip,Bb:=fa,K1:=W.fnOf "law" "law" (o9 vV) (gj vV) (aB vV) .none qiw qix qiy qir qfV qiz,lA:=.str "abcdefghijklmnopqrstuvwxyz" xK,d8:=.int 4 mY,fK:=.int 9 oR,iG:=.int 20 sX,cQ:=.int 12 jC,b_:=b_,aA:=aA,aV:=aV,bI:=bI,gY:=gY,fC:=fC,cF:=cF,gZ:=gZ,dD:=dD,fD:=fD,dF:=dF,cR:=cR,fG:=fG,dG:=dG,j_:=j_,kh:=kh,g8:=g8,bB:=bB,bh:=bh}:={jl:=F1,lX:=b1,lY:=qmy X G a1,sG:=F2,yW:=b2,yX:=qmy X G a2,lZ:=F3,qx:=b3,qz:=qmy X G a3,wW:=F4,Eb:=b4,Ec:=qmy X G a4,R4:=F5,qaL:=b5,qaM:=qmy X G a5,vW:=F6,vX:=b6,vY:=F7,vZ:=b7,jJ:=F8,nM:=b8,nO:=qmy X G a8,wX:=F9,Ed:=b9,Ef:=qmy X G a9,qX:=F10,vB:=b10,vC:=qmy X G a10,sH:=F11,yZ:=b11,za:=qmy X G a11,Eh:=F12,OJ:=b12,O1:=qmy X G a12,wY:=F13,Ei:=b13,Ej:=qmy X G a13,Ek:=F14,El:=b14,zc:=F15,iR:=b15,iT:=⟨a15,i15,F15.kp⟩,Em:=F16,sI:=b16,sU:=⟨a16,i16,F16.kp⟩,En:=F17,wZ:=b17,xr:=⟨a17,i17,F17.kp⟩,jy:=F18,oJ:=b18,oK:=qmy X G a18,oM:=F19,uN:=b19,uO:=qmy X G a19,Eo:=F20,O2:=b20,O4:=qmy X G a20,uP:=F21,Bc:=b21,Bd:=qmy X G a21,xg:=F22,Ep:=b22,Er:=qmy X G a22,xq:=F23,Es:=b23,Et:=qmy X G a23,zW:=F24,Ik:=b24,Il:=qmy X G a24,mj:=F25,qC:=b25,qD:=qmy X G a25,d9:=F26,jz:=b26,jA:=qmy X G a26,Eu:=F27,O5:=b27,O6:=qmy X G a27,sJ:=F28,zf:=b28,zj:=qmy X G a28,uQ:=F29,Bf:=b29,Bg:=qmy X G a29,qF:=F30,wg:=b30,wj:=qmy X G a30,iH:=F31,kj:=b31,kI:=qmy X G a31,nF:=F32,sO:=b32,sS:=qmy X G a32,Ew:=F33,O7:=b33,O8:=qmy X G a33,qaN:=F34,qdJ:=b34,qdK:=qmy X G a34,gR:=F35,iI:=b35,iJ:=qmy X G a35,K4:=F36,Vc:=b36,Vd:=qmy X G a36,Cj:=F37,K5:=b37,K6:=qmy X G a37,qaO:=F38,qdL:=b38,qdM:=qmy X G a38,qaP:=F39,qdN:=b39,qdO:=qmy X G a39,zX:=F40,Im:=b40,Io:=qmy X G a40,K7:=F41,Ve:=b41,Vf:=qmy X G a41,K8:=F42,R5:=b42,R6:=qmy X G a42,Ck:=F43,K9:=b43,K_:=qmy X G a43,qaQ:=F44,qdP:=b44,qdQ:=qmy X G a44,qG:=F45,wk:=b45,wu:=qmy X G a45,qdR:=F46,qhp:=b46,qhq:=qmy X G a46,Ip:=qmy X G lA,Ir:=⟨xK,rfl⟩,uR:=qmy X G d8,uT:=⟨mY,rfl⟩,wz:=qmy X G fK,wA:=⟨oR,rfl⟩,Bh:=qmy X G iG,Bj:=⟨sX,rfl⟩,pZ:=qmy X G cQ,qe:=⟨jC,rfl⟩,La:=FZ,Cm:=Ga,qdS:=qmy X G Tp,m5:=⟨Tq,Tr,Tt,Tv⟩,qdT:=⟨Tw,a14,i14,Tz⟩,nm:=⟨qmO X G qbt,qmO X G qbu,qmO X G qbw,qmO X G qbx,qmO X G Gb,qmO X G LQ,qmO X G qby,qmO X G TF,qmO X G LR,qmO X G qbz,qmO X G qbA,qmO X G qbB,qmO X G qbC,qmO X G sZ⟩,W6:=⟨qmO X G u6,qmO X G qbD,qmO X G TJ,qmO X G Gd,qmO X G TQ,qmO X G TV⟩,nm3:=⟨qmO X G qbE⟩,nG:=qmy X G qH,sV:=qmy X G qI,zY:=qmy X G xM,Vg:=qmy X G FQ,O9:=qmy X G Ab,Bk:=qmy X G sY,Vh:=qmy X G FT,Iu:=qmy X G xO,O_:=qmy X G Ac,Iv:=qmy X G xP,Ey:=qmy X G u5,Pb:=qmy X G Ad,Iw:=qmy X G xQ,qaR:=qmy X G LC,qaS:=qmy X G LK,Vi:=qmy X G FW,Ez:=qmy X G Ae,EY:=qmy X G Af,fH:=fH,gF:=gF,lB:=lB,ib:=qK,tb:=qJ,ini:=⟨qfW,qfX,qfY⟩,Iz:=Iz,IV:=IV,nd:=H_ TX,dY:=dY,iK:=iK,qY:=qY,nQ:=nQ,iU:=iU,qZ:=qZ,lC:=lC,nR:=nR,lE:=lE,jK:=jK,nU:=nU,lF:=lF,vD:=vD,vG:=vG,q_:=q_,fX:=fX,fY:=fY,vH:=⟨⟨_,_,_,_,_,_,_,_,_,_,_,_,_,_,_,Ag⟩,fH,⟨_,mq,mz⟩,a6,qn1.mp i6,fX.kp⟩,IW:=XC.set fX Ah,gK:=gK,vI:=⟨⟨_,_,_,_,_,_,_,_,_,_,_,_,_,_,_,Ai⟩,fH,⟨_,mq,mz⟩,a7,qn1.mp i7,fY.kp⟩,zZ:=XC.set fY Aj,gM:=gM,gO:=gO,iV:=qmO X G iV};exact⟨_,λs v=>.of_eq rfl,λbase _ _ hCL hBL=>qfU T ⟨cdl,hCL,hBL⟩⟩
theorem walk{l:W.OpenLaw}{q:Program}{loose:QAH}{XP:(Str->Option Value)->Heap->Prop}{YP:World->Heap->Prop}{d dt:DefRec}{K:Params->W.Frag}{c Pt:Addr}(hn:l.most=some 63)(hdf:d.params.defaults=[])
  (hY:∀(w:World)(h:Heap),YP w h->(K w.params).In h) (hrec:(PyProof.Rows.recsOf q).find? (λe=>e.name == ("shut_cuts" : Str))=some dt) (htab:∀w:World,W.tabIn (K w.params) "shut_cuts" = some (c,Pt)) (hnt:∀w:World,W.noTabs (K w.params)=true)
  (F:∀(w:World)(mg:Str->Option Value)(fa:Addr)(h:Heap),(K w.params).In h->h.Ns mainGlobals mg->mg d.name=some (.ref fa)->
   ∃fd:FuncData,(∀(s:Shared)(u:Value),BindsTo s fd ⟨[u],[]⟩ [("_law_script",u)])/\∀base:Heap,(K w.params).In base->base.Ns mainGlobals mg->W.CodeHd base c Pt->base.BuiltinsAt mg Pt->bV l.prog w (K w.params) mg base i_ 17 fa fd ["_law_script"] (Lz (K w.params) Pt)) :
  W.WalkO q loose XP YP l.row.toRowW d [] (λf vs=>PySem.call f vs):=
 L2.qaA (n:=63) (k:=17) (x:= "_law_script") (CX:=λ_=>i_) (sp:=λw=>Lz (K w.params) Pt) hn (by decide) hdf ⟨rfl,by decide,by decide,rfl⟩ hY hrec htab hnt F (λ_ _ a ns hl hP hS=>⟨a,ns,rfl,hS,hl,.inl hP,λ_=>rfl⟩) λ_ _ _ _ _ z=>z
end K54
end
set_option Elab.async false
set_option maxRecDepth 100000
set_option maxHeartbeats 4000000
open PySem PySem.W PyProof.Rows
namespace PySem.W.Fast
def tw16148348078814019482:=0
def tw17913861664554343871:=0
def tw17601833724021922122:=0
def tw13857053321115653477:=0
def tw442653232202127686:=0
def tw18220534821385150746:=0
def tw9801418560059410091:=0
def tw2004454495267664755:=0
def tw15652852301354336963:=0
def tw6627983026789892495:=0
def tw8450806281066098054:=0
def tw10579135430015361195:=0
def tw17349560952655091056:=0
def tw1568422486518540372:=0
def tw11862331401874363:=0
def tw9768341862538782361:=0
def tw8081530044275258943:=0
def tw3407583160198883431:=0
def tw2448141603557273801:=0
def tw9321957806247322828:=0
def tw7687279989600306835:=0
def tw46094607307517445:=0
def tw15727283928687894058:=0
def tw7230997091336328114:=0
def tw396023940366915293:=0
def tw3183667437786320985:=0
def tw7802704948401306715:=0
def tw13442890924258085246:=0
def tw11055519123714131442:=0
def tw6200493765380828121:=0
def tw11075280545811177439:=0
def tw12530929726557944413:=0
def tw10052012724806700988:=0
def tw2192084112285361981:=0
def tw7516449661581922894:=0
def tw6211908721051982064:=0
def tw12580956495422050354:=0
def tw12602790468221456550:=0
def tw4602998866234047693:=0
def tw13492815914011882852:=0
def tw12979572131087553599:=0
def tw11953730257600224536:=0
def tw6511980951315540615:=0
def tw14181866584199236991:=0
def tw3180364462886633088:=0
def tw13302300852744000320:=0
def tw16223126547115643675:=0
def tw11262944658653492778:=0
def tw15639408593685569116:=0
def tw13029646175204142681:=0
def tw15870363077791335208:=0
def tw17850723045875995710:=0
def tw15975514831938538410:=0
def tw7607862515695670072:=0
def tw9258311201491430660:=0
def tw2492163638808381412:=0
def tw14608276740573021491:=0
def tw17036280561323534664:=0
def tw10855138595707703071:=0
def tw12853671795032649940:=0
def tw3303475077417240217:=0
def tw1165060373525856588:=0
def tw7726997653674905483:=0
def tw780742038528605213:=0
def tw14859280434089037119:=0
def tw14267074376120532210:=0
def tw9658149965450245230:=0
def tw12039784906398057615:=0
def tw5778740668010176647:=0
def tw737320219391714150:=0
def tw9702846860181333941:=0
def tw8073007762372871012:=0
def tw5860172908863558774:=0
def tw4430880001270492737:=0
def tw7906250049495925314:=0
def tw7602301109100575122:=0
def tw8165680864179541250:=0
def tw17522305981218705890:=0
def tw2629010523821977373:=0
def tw12405366902118371788:=0
def tw10059127918462020269:=0
def tw4295959117217837953:=0
def tw11982171993192030921:=0
def tw9858296349749179912:=0
def tw15986841983233290919:=0
def tw15155963883066009652:=0
def tw13388733868055220578:=0
def tw2732594297811675279:=0
def tw353879999679327770:=0
def tw12091703841148042058:=0
def tw8353776381580465437:=0
def tw17831565110371462750:=0
def tw3741879104440126879:=0
def tw16781821912697563981:=0
def tw1031683362778733891:=0
def tw8718534030104976883:=0
def tw15388548200887547255:=0
def tw5898345304226439017:=0
def tw11987753755287535338:=0
def tw2705932387109367523:=0
def tw10735976705321370051:=0
def tw359258313074163647:=0
def tw17184492716725987608:=0
def tw10379712623200920353:=0
def tw2678214200524104415:=0
def tw15851920496929183531:=0
def tw8392797506492665351:=0
def tw15407554404508262771:=0
def tw16488422559627383297:=0
def tw2496337961915413281:=0
def tw6743657771827175833:=0
def tw15363079440411548760:=0
def tw14436503788897395666:=0
def tw9359856449076032508:=0
def tw13321402402348050157:=0
def tw15861023136175399269:=0
def tw3077809227550906565:=0
def tw15241663992056607157:=0
def tw2864655814841311101:=0
def tw554928911849648924:=0
def tw13791961280164867340:=0
def tw513767643566823397:=0
def tw16432013391782414422:=0
def tw15123467055811487888:=0
def tw16102303310465986416:=0
def tw15675909630393218079:=0
def tw1269441151909952997:=0
def tw9435252161334486899:=0
def tw6853680582872433468:=0
def tw18059478193297888180:=0
def tw2812675993745234414:=0
def tw17366133543201329588:=0
def tw9624898392473087890:=0
def tw3962364255383819013:=0
def tw17930855231106090658:=0
def tw14593360956155307808:=0
def tw2544274209339813155:=0
def tw7538892778985164747:=0
def tw11602299394747299114:=0
def tw6566923031837413758:=0
def tw5086652857966031038:=0
def tw2699476222238076991:=0
def tw7158352121847313948:=0
def tw125572341275673784:=0
def tw17409778834432127146:=0
def tw329441828004973161:=0
def tw15829625869591983903:=0
def tw8750486812650415731:=0
def tw688248750485873437:=0
def tw10663219891922156289:=0
def tw4837384285345407950:=0
def tw7017732734420502752:=0
def tw9451601566456292180:=0
def tw7845233123073156004:=0
def tw10301611756340167648:=0
def tw17100435947726182372:=0
def tw1214505724318719301:=0
def tw16518619069272744598:=0
def tw17332311645291343252:=0
def tw3429028251689302316:=0
def tw3641541908703981900:=0
def tw11317357238865649258:=0
def tw673450279044346706:=0
def tw11958167021027817204:=0
def tw4947622130318972896:=0
def tw2555021809108824874:=0
def tw15922083367660473013:=0
def tw16186064804992823827:=0
def tw12327191140133112886:=0
def tw17200915230585091323:=0
end PySem.W.Fast
set_option maxRecDepth 100000 in
set_option maxHeartbeats 0 in
theorem PySem.Challenge.cw_pointways_k54_turnings_refused_holds : PySem.Challenge.rw_pointways_k54_turnings_refused.Holds := by
  w_on;o_law;k_head;(case hw=>w_witness2)
  k_fill
  refine' K54.walk (l:=PySem.Challenge.rw_pointways_k54_turnings_refused) rfl rfl (fun w h Y=>W.km_in_of Y) ?qk_ ?qla ?qlb ?F
  case qk_=>rfl
  case qla=>
    intro w;refine' L2.qaB ?b1 ?b2 ?b3 ?b4 ?b5
    (case b1=>k_is)
    (case b2=>k_is)
    (case b3=>rfl)
    (case b4=>k_is)
    (case b5=>rfl)
  case qlb=>intro w;kernel_rfl
  case F=>
    intro w mg fa h KX G hmg;refine' K54.all_mk KX G hmg ?Tp ?qH ?qI ?xM ?FQ ?Ab ?sY ?FT ?xO ?Ac ?xP ?u5 ?Ad ?xQ ?LC ?LK ?FW ?Ae ?Af ?a1 ?F1 ?a2 ?F2 ?a3 ?F3 ?a4 ?F4 ?a5 ?F5 ?a6 ?i6 ?F6 ?a7 ?i7 ?F7 ?a8 ?F8 ?a9 ?F9 ?a10 ?F10 ?a11 ?F11 ?a12 ?F12 ?a13 ?F13 ?a14 ?i14 ?F14 ?a15 ?i15 ?F15 ?a16 ?i16 ?F16 ?a17 ?i17 ?F17 ?a18 ?F18 ?a19 ?F19 ?a20 ?F20 ?a21 ?F21 ?a22 ?F22 ?a23 ?F23 ?a24 ?F24 ?a25 ?F25 ?a26 ?F26 ?a27 ?F27 ?a28 ?F28 ?a29 ?l29 ?c29 ?k29 ?a30 ?F30 ?a31 ?F31 ?a32 ?F32 ?a33 ?F33 ?a34 ?F34 ?a35 ?F35 ?a36 ?F36 ?a37 ?F37 ?a38 ?F38 ?a39 ?F39 ?a40 ?F40 ?a41 ?F41 ?a42 ?F42 ?a43 ?F43 ?a44 ?F44 ?a45 ?F45 ?a46 ?l46 ?c46 ?k46 ?lA ?d8 ?fK ?iG ?cQ ?Tq ?Tr ?Tt ?Tv ?Tw ?Tz ?FZ ?Ga ?qbt ?qbu ?qbw ?qbx ?Gb ?LQ ?qby ?TF ?LR ?qbz ?qbA ?qbB ?qbC ?sZ ?u6 ?qbD ?TJ ?Gd ?TQ ?TV ?qbE ?mq ?mz ?qJ ?fH ?gF ?lB ?qK ?qfW ?qfX ?qfY ?Iz ?IV ?TX ?dY ?iK ?qY ?nQ ?iU ?qZ ?lC ?nR ?lE ?jK ?nU ?lF ?vD ?vG ?q_ ?fX ?fY ?Ag ?Ah ?gK ?Ai ?Aj ?gM ?gO ?iV ?cdl
    case Tp | qH | qI | xM | FQ | Ab | sY | FT | xO | Ac | xP | u5 | Ad | xQ | LC | LK | FW | Ae | Af | a1 | a2 | a3 | a4 | a5 | a8 | a9 | a10 | a11 | a12 | a13 | a18 | a19 | a20 | a21 | a22 | a23 | a24 | a25 | a26 | a27 | a28 | a29 | a30 | a31 | a32 | a33 | a34 | a35 | a36 | a37 | a38 | a39 | a40 | a41 | a42 | a43 | a44 | a45 | a46=>unfold L2.jM;k_is
    case a6 | i6 | a7 | i7 | a14 | i14 | a15 | i15 | a16 | i16 | a17 | i17 | l29 | c29 | k29 | l46 | c46 | k46 | lA | d8 | fK | iG | cQ | Tq | Tr | Tt | Tv | Tw | Tz | FZ | Ga | qbt | qbu | qbw | qbx | Gb | LQ | qby | TF | LR | qbz | qbA | qbB | qbC | sZ | u6 | qbD | TJ | Gd | TQ | TV | qbE | mq | qJ | qK | qfW | qfX | qfY | Iz | IV | Ag | Ah | gK | Ai | Aj | gM | gO | iV=>k_is
    case mz | cdl=>rfl
    case F1 | F2 | F3 | F4 | F5 | F6 | F7 | F8 | F9 | F10 | F11 | F12 | F13 | F14 | F15 | F16 | F17 | F18 | F19 | F20 | F21 | F22 | F23 | F24 | F25 | F26 | F27 | F28 | F30 | F31 | F32 | F33 | F34 | F35 | F36 | F37 | F38 | F39 | F40 | F41 | F42 | F43 | F44 | F45=>refine' L2.QM ?l ?c ?k;(case l=>k_is);(case c=>k_is);(case k=>k_is)
    case fH | gF | lB=>k_exc
    case TX=>decide+kernel
    case dY | iK | qY | nQ | iU | qZ | lC | nR | lE | jK | nU | lF | vD | vG | q_ | fX | fY=>refine' L2.qhR ?c ?m ?h ?t ?a ?n ?g ?k;(case c=>k_is);(case m=>rfl);(case h=>rfl);(case t=>k_is);(case a=>k_is);(case n=>k_is);(case g=>k_is);(case k=>k_is)


