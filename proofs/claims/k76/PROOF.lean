import PyProof.Rows.All
import Wide.All
import OpenK.AllK
import Wide.FinOn
import Lean
import PyProof.EqAt
import PyProof.EqKinds
import PyProof.TupleCall
import PyProof.NeData
import PyProof.AttrMissHeap
import PyProof.FactsAll.enumerate_1
import KE.KDictOf
import PyProof.EnumMake
import PyProof.Rows.SumAny
import PyProof.Rows.StrJoin2
import PyProof.Rows.CountFlat
import PyProof.Rows.FoldWordsD
import PyProof.Rows.SeqMore2
import PyProof.Rows.MinMaxN
import PyProof.Rows.StrInSeq3
import PyProof.Rows.ReprR
import PyProof.StrLawsRepr
import PyProof.DictItems
import KE.KPairComp
import PyProof.StrCalls2
import PyProof.Rows.StrNews2
import PyProof.Rows.StrSplitJoin
import PyProof.StrLawsTight
import PyProof.StrLawsChain
import PyProof.FString4
import PyProof.RulesTry
import PyProof.StrOps2
import PyProof.Rows.SeqMore
import KE.KEqDict
import PySem.Challenge.RW_pointways_k76_ways_and_times_refused
set_option genSizeOf false
noncomputable section
set_option Elab.async false
set_option linter.all false
set_option maxRecDepth 100000
local macro_rules | `(term| #[$x,$xs,*]) => `(term| ⟨$x,$xs,*⟩) | `(term| #[$x]) => `(term| ⟨$x⟩)
local macro_rules | `(term| ⋯) => `(term| by lia)
local macro_rules | `(term| ∅) => `(term| by omega)
local macro_rules|`(command|def $i:declId $s:optDeclSig $v:declVal)=>`(command|noncomputable def $i $s:optDeclSig $v:declVal)
def qvT:=@PySem.wpAny_bind
def qvU:=@List.getElem?_eq_some_iff
def qvV:=@PySem.Heap.get?_push_of_some
def qvW:=@PySem.wpAny_pure
def qvX:=@List.mem_of_getElem?
def qvY:=@Nat.le_refl
def qvZ:=@List.mem_cons_of_mem
def qv0:=@List.mem_cons
def qv1:=@List.length_map
def qv2:=@PySem.Heap.lt_size
def qv3:=@List.mem_cons_self
def qv4:=@PySem.Heap.get?_push_size
def qv5:=@List.take_length
def qv6:=@List.mem_singleton
def qv7:=@Nat.le_trans
def qv8:=@List.getElem?_map
def qv9:=@PySem.boot_len
def qv_:=@Nat.lt_of_lt_of_le
def qwa:=@List.all_eq_true
def qwb:=@List.mem_filter
def qwc:=@List.mem_append
def qwd:=@List.map_cons
def qwe:=@List.length_take
def qwf:=@List.mem_append_right
def qwg:=@PySem.W.mg_of
def qwh:=@decide_eq_false
def qwi:=@List.getElem?_eq_getElem
def qwj:=@List.length_cons
def qwk:=@Nat.ne_of_lt
def qwl:=@List.size_toArray
def qwm:=@List.length_append
def qwn:=@List.not_mem_nil
def qwo:=@List.getElem?_append_left
def qwp:=@of_decide_eq_true
def qwq:=@List.getElem?_append_right
def qwr:=@List.mem_map
def qws:=@congrArg
def qwt:=@Option.some.inj
def qwu:=@PySem.wpAny_mono
def qwv:=@decide_eq_true
def qww:=@List.mem_append_left
def qwx:=@decide_eq_true_eq
def qwy:=@List.append_nil
def qwz:=@PySem.F.plainAttrs_list
def qwA:=@Bool.and_eq_true
def qwB:=@PyProof.Rows.callWith_type1
def qwC:=@List.nodup_cons
def qwD:=@PySem.Heap.size_push
def qwE:=@PySem.mem_of_lookup
def qwF:=@Nat.zero_le
def qwG:=@List.map_append
def qwH:=@PySem.wpAny_field
def qwI:=@PySem.PassesOwn.never
def qwJ:=@PySem.W.mg_none_of
def qwK:=@List.eq_nil_of_length_eq_zero
def qwL:=@PySem.wpAny_holding
def qwM:=@PySem.Heap.get?_update_self
def qwN:=@Nat.lt_succ_self
def qwO:=@PySem.wpAny_Call_Name_kw
def qwP:=@of_decide_eq_false
def qwQ:=@PySem.codeAny_mono
def qwR:=@PySem.wpAny_setField_rec
def qwS:=@PySem.wpAny_truthy_bool
def qwT:=@PySem.Around.under_plainId
def qwU:=@List.filter_append
def qwV:=@Nat.lt_irrefl
def qwW:=@PySem.wpAny_call_entry
def qwX:=@List.filter_cons
def qwY:=@PySem.F.slot_list_append
def qwZ:=@PySem.F.type_list_append
def qw0:=@PySem.Heap.SameBut.update
def qw1:=@List.length_filter_le
def qw2:=@or_false
def qw3:=@Bool.eq_iff_iff
def qw4:=@PySem.codeAny_builtin
def qw5:=@PySem.Heap.get?_update_other
def qw6:=@PySem.F.plain_min_loop
def qw7:=@List.replicate_succ
def qw8:=@PySem.wpAny_standAt
def qw9:=@PySem.wpAny_seqItems
def qw_:=@Nat.ne_of_gt
def qxa:=@List.mem_zipIdx_iff_getElem?
def qxb:=@Array.mem_toList_iff
def qxc:=@List.lookup_cons
def qxd:=@PySem.wpAny_callSpecial?_slot
def qxe:=@List.getElem?_cons_succ
def qxf:=@Nat.pow_le_pow_right
def qxg:=@List.sum_cons
def qxh:=@PySem.wpAny_newObj_type
def qxi:=@List.length_pos_of_mem
def qxj:=@Array.getElem?_eq_some_iff
def qxk:=@Classical.byContradiction
def qxl:=@PySem.F.slot_dict_get
def qxm:=@List.mem_iff_getElem?
def qxn:=@PySem.F.slot_enumerate_next
def qxo:=@Bool.false_ne_true
def qxp:=@List.length_filter_lt_length_iff_exists
def qxq:=@Nat.zero_add
def qxr:=@List.mem_range
def qxs:=@List.replicate_succ'
def qxt:=@Ne.symm
def qxu:=@List.append_assoc
def qxv:=@eq_true
def qxw:=@Array.size_append
def qxx:=@PySem.wpAny_loadPart_at
def qxy:=@PySem.wpAny_updateSeq
def qxz:=@of_eq_true
def qxA:=@beq_eq_false_iff_ne
def qxB:=@PyProof.Rows.F.plain_set_update_loop
def qxC:=@List.any_cons
def qxD:=@PySem.plainId_quiet
def qxE:=@Nat.le_add_right
def qxF:=@PySem.wpAny_rule
def qxG:=@PySem.wpAny_pyIter_tuple
def qxH:=@PySem.Calls.spliced_cons
def qxI:=@Nat.lt_of_le_of_lt
def qxJ:=@PySem.tupleKind_room_in1
def qxK:=@PySem.F.slot_tuple_iterator_next
def qxL:=@PySem.Obj.data_mapFields
def qxM:=@PySem.wpAny_tryCatch
def qxN:=@PySem.wpAny_passesOwn
def qxO:=@PySem.wpAny_loadPart'
def qxP:=@Nat.le_of_lt
def qxQ:=@Nat.lt_succ_of_lt
def qxR:=@PySem.codeAny_call_builtin
def qxS:=@PySem.PyData.noDict_hsm
def qxT:=@PySem.wpAny_comprehension_free
def qxU:=@Array.getElem?_setIfInBounds_ne
def qxV:=@List.map_congr_left
def qxW:=@PySem.W.kia_one
def qxX:=@PySem.F.slot_list_index
def qxY:=@PySem.ReprK.of_reads
def qxZ:=@PySem.F.slot_list_count
def qx0:=@PySem.wpAny_getItem_str_slice
def qx1:=@List.exists_mem_of_length_pos
def qx2:=@List.getElem?_set_self
def qx3:=@PySem.wpAny_call
def qx4:=@PySem.typeIs_str
def qx5:=@PySem.Calls.callWith_builtin
def qx6:=@PySem.call_meets
def qx7:=@List.map_nil
def qx8:=@List.take_of_length_le
def qx9:=@PySem.F.entry_dict_get
def qx_:=@Nat.lt_of_succ_lt_succ
def qya:=@List.find?_cons
def qyb:=@Nat.min_eq_left
def qyc:=@List.length_singleton
def qyd:=@PySem.Obj.isFreed_of_fields
def qye:=@PySem.builtinLookup_eq_fast
def qyf:=@PySem.F.slot_enumerate_iter
def qyg:=@List.getElem?_eq_none
def qyh:=@PySem.wpAny_pyIter_list
def qyi:=@PySem.Calls.spliced_nil
def qyj:=@List.flatten_cons
def qyk:=@PySem.not_mem_of_deeper
def qyl:=@PySem.W.hideAll_none
def qym:=@PySem.Heap.get?_none_of_le
def qyn:=@PySem.Calls.evalArgs_plain
def qyo:=@PySem.wpAny_setField
def qyp:=@PySem.F.excBase_ValueError
def qyq:=@List.cons_append
def qyr:=@List.filterMap_cons
def qys:=@Array.length_toList
def qyt:=@List.filter_eq_self
abbrev QAB:=PySem.Value->PySem.Shared->Prop
abbrev QAC:=List (PySem.Addr×PySem.Obj)
abbrev QAD:=List (PySem.Str×PySem.Str)
abbrev QAE:=List PySem.Value
abbrev QAG:=Option PySem.Value
abbrev QAH:=List PySem.Str
abbrev Qv:=PySem.Addr
abbrev W5:=PySem.W.Frag
abbrev Zu:=PySem.Str->Option PySem.Value
abbrev Zw:=PySem.Shared
abbrev J9:=PySem.Program
abbrev qZ:=List Int
abbrev qw:=List Nat
abbrev qx:=Array PySem.Value
abbrev qy:=List PySem.Expr
abbrev wJ:=Option PySem.Addr
abbrev zT:=PySem.Value
abbrev zX:=PySem.World
abbrev zY:=PySem.Around
abbrev zf:=PySem.Heap
abbrev zp:=PySem.Expr
abbrev zq:=PySem.FuncData
abbrev xP:=Nat->Option Int
abbrev xQ:=List PySem.Addr
abbrev xu:=Unit->PySem.Shared->Prop
namespace L2
open PySem PySem.Spec PyProof.Rows
abbrev Key:=Sum Int Str
def nH:Key->Value->Bool
 |.inl k,v=>Value.isInt k v
 |.inr x,v=>Value.isStrOf x v
def qi2(w:zX):Key->Int
 |.inl k=>hashInt k
 |.inr x=>hashStr w x
def nJ:∀{k:Key}{v:zT},nH k v=true->(∃i t,k=Sum.inl i/\v=Value.int i t)\/(∃x t,k=Sum.inr x/\v=Value.str x t)
 |.inl i,v,h=>by
  obtain⟨t,e⟩:=Value.isInt_shape (k:=i) (v:=v) h;exact .inl #[i,t,rfl,e]
 |.inr x,v,h=>by
  obtain⟨t,e⟩:=Value.isStrOf_shape (x:=x) (v:=v) h;exact .inr #[x,t,rfl,e]
def Zq(i:Int)(t:Tok):nH (.inl i) (.int i t)=true:=by simp[nH,Value.isInt]
def Zr(x:Str)(t:Tok):nH (.inr x) (.str x t)=true:=by simp[nH,Value.isStrOf]
def qi3(a b:Int):decide ((Sum.inl a:Key)=Sum.inl b)=(a == b):=by
 by_cases e:a=b
 ·subst e;simp
 ·have h:¬(Sum.inl a:Key)=Sum.inl b:=λq=>e (Sum.inl.inj q);rw[qwh h];exact(qxA.mpr e).symm
def qi4(a b:Str):decide ((Sum.inr a:Key)=Sum.inr b)=decide (a=b):=by
 by_cases e:a=b
 ·subst e;simp
 ·have h:¬(Sum.inr a:Key)=Sum.inr b:=λq=>e (Sum.inr.inj q);rw[qwh h,qwh e]
def qi5(a:Int)(b:Str):decide ((Sum.inl a:Key)=Sum.inr b)=false:=qwh (λq=>nomatch q)
def qi6(a:Str)(b:Int):decide ((Sum.inr a:Key)=Sum.inl b)=false:=qwh (λq=>nomatch q)
def cU(prog:J9)(w:zX):PySem.KeyKind prog w Key where
 is:=nH
 hash:=qi2 w
 inj:=λv a b n l=>by
  rcases nJ n with⟨i,t,rfl,rfl⟩|⟨x,t,rfl,rfl⟩
  ·rcases nJ l with⟨j,u,rfl,e⟩|⟨y,u,rfl,e⟩
   ·injection e with c _;rw[c]
   ·exact nomatch e
  ·rcases nJ l with⟨j,u,rfl,e⟩|⟨y,u,rfl,e⟩
   ·exact nomatch e
   ·injection e with c _;rw[c]
 byValue:=λk v h=>by
  rcases nJ h with⟨i,t,rfl,rfl⟩|⟨x,t,rfl,rfl⟩ <;> rfl
 pyHash:=λf h=>by
  rcases nJ f with⟨i,t,rfl,rfl⟩|⟨x,t,rfl,rfl⟩
  ·exact wpAny_pyHash_int h
  ·exact wpAny_pyHash_str h
 eqBool:=λm f h=>by
  rcases nJ m with⟨i,t,rfl,rfl⟩|⟨x,t,rfl,rfl⟩
  ·rcases nJ f with⟨j,u,rfl,rfl⟩|⟨y,u,rfl,rfl⟩
   ·rw[qi3] at h;exact wpAny_eqBool_int h
   ·rw[qi5] at h;exact SeqAt.EqAt.int_str i t y u _ _ _ _ h
  ·rcases nJ f with⟨j,u,rfl,rfl⟩|⟨y,u,rfl,rfl⟩
   ·rw[qi6] at h;exact SeqAt.EqAt.str_int x t j u _ _ _ _ h
   ·rw[qi4] at h;exact wpAny_eqBool_str h
 «strs»:=λk x t v h=>by
  rcases nJ h with⟨i,u,rfl,e⟩|⟨y,u,rfl,e⟩
  ·exact nomatch e
  ·injection e with c _;subst c;cases v <;> rfl
def qi7(prog:J9)(w:zX)(k:Key)(v:zT):(cU prog w).is k v=nH k v:=rfl
def Zt(prog:J9)(w:zX)(i:Int)(t:Tok):(cU prog w).is (.inl i) (.int i t)=true:=Zq i t
def qi8(prog:J9)(w:zX)(x:Str)(t:Tok):(cU prog w).is (.inr x) (.str x t)=true:=Zr x t
inductive V where
 |non|bl (b:Bool)|int (i:Int)|str (x:Str)|mD (b:Array UInt8)|flt (b:UInt64)|ref (a:Qv)|ty (n:String)
 deriving DecidableEq
abbrev kE:=List V
def RelV:V->Value->Prop
 |.non,u=>u=Value.none
 |.bl b,u=>u=Value.bool b
 |.int i,u=>∃t,u=Value.int i t
 |.str x,u=>∃t,u=Value.str x t
 |.mD b,u=>∃t,u=Value.bytes b t
 |.flt b,u=>∃t,u=Value.float b t
 |.ref a,u=>u=Value.ref a
 |.ty n,u=>u=Value.type n
abbrev Vals:List V->List Value->Prop:=Paired RelV
theorem Vals.length{xs:kE}{us:QAE}(r:Vals xs us):xs.length=us.length:=Paired.length r
theorem Vals.get:∀{xs:kE}{us:QAE}{i:Nat}{x:V},Vals xs us->xs[i]? = some x->∃u,us[i]? = some u/\RelV x u
 |_,_,_,_,.nil,e=>by simp at e
 |_,_,0,_,.cons r _,e=>by simp at e;subst e;exact#[_,rfl,r]
 |_,_,i+1,x,.cons _ t,e=>by
  obtain⟨u,c,a⟩:=Vals.get (i:=i) (x:=x) t (by simpa using e);exact#[u,by simpa using c,a]
theorem Vals.set(r:RelV x u):∀{xs:kE}{us:QAE}(i:Nat),Vals xs us->Vals (xs.set i x) (us.set i u)
 |_,_,_,.nil=>.nil
 |_,_,0,.cons _ t=>.cons r t
 |_,_,i+1,.cons q t=>.cons q (Vals.set r i t)
theorem Vals.append:∀{xs ys:kE}{us a:QAE},Vals xs us->Vals ys a->Vals (xs++ys) (us++a)
 |_,_,_,_,.nil,s=>s
 |_,_,_,_,.cons r t,s=>.cons r (Vals.append t s)
theorem Vals.take:∀{xs:kE}{us:QAE}(n:Nat),Vals xs us->Vals (xs.take n) (us.take n)
 |_,_,0,_=>.nil
 |_,_,_+1,.nil=>.nil
 |_,_,n+1,.cons r t=>.cons r (Vals.take n t)
theorem Vals.drop:∀{xs:kE}{us:QAE}(n:Nat),Vals xs us->Vals (xs.drop n) (us.drop n)
 |_,_,0,r=>r
 |_,_,_+1,.nil=>.nil
 |_,_,n+1,.cons _ t=>Vals.drop n t
def fX:Option V->Option Value->Prop
 |some v,some u=>RelV v u
 |none,none=>True
 |_,_=>False
def KV{κ:Type}:List (κ×V)->List (κ×Value)->Prop:=Paired fun(p:κ×V) (q:κ×Value)=>p.1=q.1/\RelV p.2 q.2
def kV:Key->V
 |.inl i=>.int i
 |.inr x=>.str x
inductive HO where
 |lst (xs:kE)
 |tup (xs:kE)
 |dK (kvs:List (Key×V))|dT (kvs:List (List Key×V))
 |set (S:Int->Bool) (n:Nat)
 |ins (C dx:Qv) (fs:List (Str×V))
 |own (x:Qv)
 |xd (fs:List (Str×V))
 |met (f x:Qv)
 |rng (lo hi:Int)
 |dH (o:Obj) (u:HO)
 |cY (ps:qx)
 |ext (φ:Heap->Prop)
abbrev Hp:=Addr->Option HO
def upd(H:Hp)(a:Qv)(o:HO):Hp:=λb=>if b=a then some o else H b
def aB:upd H a o a=some o:=by unfold upd;rw[if_pos rfl]
def aN(h:b≠a):upd H a o b=H b:=by unfold upd;rw[if_neg h]
def g_{H:Hp}{a b:Qv}{o u:HO}(h:H a=some o)(h':H b=some u)(d:o≠u):a≠b:=by
 intro e;subst e;rw[h] at h';exact d (qwt h')
def cF{H:Hp}{a b:Qv}{o:HO}(h:H a=some o)(h':H b=none):a≠b:=by
 intro e;subst e;rw[h] at h';cases h'
section
variable (P:J9)(w:zX)
def b_(H:Hp)(h:zf)(a:Qv):HO->Prop
 |.lst i=>i.length<=sizeLine/\∃(e:QAE)(n:Nat),Vals i e/\h.get? a=some {cls:=.type "list",data:=.seq e.toArray n}
 |.tup i=>i.length<=sizeLine/\∃e:QAE,Vals i e/\IsTup h a e.toArray
 |.dK c=>c.length<=sizeLine/\(a == sysModules)=false/\∃m,KV c m/\h.DictOf (cU P w) a m
 |.dT c=>c.length<=sizeLine/\(a == sysModules)=false/\∃i:List (List Key×Addr×Value),
   Paired (fun(p:List Key×V) (q:List Key×Addr×Value)=>p.1=q.1/\H q.2.1=some (.tup (p.1.map kV))/\RelV p.2 q.2.2) c i/\
   ∃o z D,h.get? a=some o/\o.ExactDict/\o.data = .dict z D/\z.toList=i.map (entryOfKey (tupleKind (cU P w)))/\(i.map (·.1)).Nodup
 |.set S n=>h.SetOf (intKind P w) a S n
 |.ins C l fs=>H l=some (.own a)/\fs.length<=1000/\l≠a/\h.get? a=some (W.instObj C l)/\
   ∃j,h.Ns1 l j/\(∀f,fX (fs.lookup f) (j f))/\PySem.Within j (fs.map (·.1))
 |.own _=>∃o,h.get? a=some o
 |.xd fs=>∃j,h.Ns1 a j/\∀f,fX (fs.lookup f) (j f)
 |.rng lo B=>∃t u v,h.get? a=some {cls:=.type "range",data:=.fields [.int lo t,.int B u,.int 1 v].toArray}
 |.dH o u=>h.get? a=some o/\b_ H h a u
 |.cY A=>h.get? a=some {cls:=.none,data:=.fields A}
 |.met f x=>h.get? a=some (W.methodObj (.ref f) (.ref x))
 |.ext φ=>φ h/\(∃o,h.get? a=some o)/\∀y r:Heap,φ y->(∀o,y.get? a=some o->r.get? a=some o)->φ r
def cP(H:Hp)(h:zf):Prop:=∀a o,H a=some o->b_ P w H h a o
end
section
variable {P:J9}{w:zX}{H H':Hp}{h h':zf}{a:Qv}{o:HO}
theorem b_.lt(x:b_ P w H h a o):a<h.objs.size:=by
 cases o with
 |lst i=>obtain⟨_,_,_,_,e⟩:=x;exact qv2 e
 |tup i=>obtain⟨_,_,_,p⟩:=x;exact p.lt
 |dK c=>obtain⟨_,_,_,_,o,_,_,e,_⟩:=x;exact qv2 e
 |dT c=>obtain⟨_,_,_,_,o,_,_,e,_⟩:=x;exact qv2 e
 |set S n=>obtain⟨o,_,_,_,e,_⟩:=x;exact qv2 e
 |ins C r fs=>obtain⟨_,_,_,e,_⟩:=x;exact qv2 e
 |own y=>obtain⟨_,e⟩:=x;exact qv2 e
 |xd fs=>obtain⟨_,⟨_,_,_,e,_⟩,_⟩:=x;exact qv2 e
 |rng lo m=>obtain⟨_,_,_,e⟩:=x;exact qv2 e
 |dH l u=>obtain⟨e,_⟩:=x;exact qv2 e
 |cY j=>exact qv2 (show h.get? a=some _ from x)
 |met f y=>exact qv2 (show h.get? a=some _ from x)
 |ext φ=>obtain⟨_,⟨_,e⟩,_⟩:=x;exact qv2 e
theorem Paired.Oq:∀{e:List i}{c:List β},Paired F e c->(∀a b,F a b->G a b)->Paired G e c
 |_,_,.nil,_=>.nil
 |_,_,.cons r t,f=>.cons (f _ _ r) (Paired.Oq t f)
def b_.stay(x:b_ P w H h a o)(k:∀b u,(b=a\/H b=some (.own a))->h.get? b=some u->h'.get? b=some u)(J:∀b,H b=some (.own a)->H' b=some (.own a))(I:∀b xs,H b=some (.tup xs)->H' b=some (.tup xs)):b_ P w H' h' a o:=by
 induction o with
 |lst xs=>obtain⟨z,m,n,r,e⟩:=x;exact#[z,m,n,r,k _ _ (.inl rfl) e]
 |tup xs=>obtain⟨z,m,r,i,e,c⟩:=x;exact#[z,m,r,i,k _ _ (.inl rfl) e,c]
 |dK D=>obtain⟨z,y,G,r,i,j,l,e,c⟩:=x;exact#[z,y,G,r,i,j,l,k _ _ (.inl rfl) e,c]
 |dT D=>
  obtain⟨z,y,xs,r,i,j,l,e,c⟩:=x;exact#[z,y,xs,Paired.Oq r λp q z=>#[z.1,I _ _ z.2.1,z.2.2],i,j,l,k _ _ (.inl rfl) e,c]
 |set S n=>obtain⟨i,j,l,t,e,c⟩:=x;exact#[i,j,l,t,k _ _ (.inl rfl) e,c]
 |ins C N fs=>
  obtain⟨d,z,ne,e,B,⟨A,j,l,L,c⟩,r⟩:=x;exact#[J _ d,z,ne,k _ _ (.inl rfl) e,B,#[A,j,l,k _ _ (.inr d) L,c],r]
 |own y=>obtain⟨i,e⟩:=x;exact#[i,k _ _ (.inl rfl) e]
 |xd fs=>obtain⟨B,⟨A,j,l,e,c⟩,r⟩:=x;exact#[B,#[A,j,l,k _ _ (.inl rfl) e,c],r]
 |rng lo M=>obtain⟨t,u,v,e⟩:=x;exact#[t,u,v,k _ _ (.inl rfl) e]
 |dH i u ih=>obtain⟨e,q⟩:=x;exact#[k _ _ (.inl rfl) e,ih q]
 |cY E=>
  have e:h.get? a=some {cls:=.none,data:=.fields E}:=x;show h'.get? a=some {cls:=.none,data:=.fields E};exact k a _ (.inl rfl) e
 |met f y=>
  have e:h.get? a=some (W.methodObj (.ref f) (.ref y)):=x;show h'.get? a=some (W.methodObj (.ref f) (.ref y));exact k a _ (.inl rfl) e
 |ext φ=>obtain⟨p,⟨o,e⟩,st⟩:=x;exact#[st _ _ p λo q=>k _ _ (.inl rfl) q,#[o,k _ _ (.inl rfl) e],st]
theorem cP.lt(x:cP P w H h)(e:H a=some o):a<h.objs.size:=(x a o e).lt
def cP.fresh(x:cP P w H h)(e:h.objs.size<=a):H a=none:=by
 cases q:H a with
 |none=>rfl
 |some u=>exact absurd (qv_ (x.lt q) e) (qwV _)
def cP.kept(x:cP P w H h)(k:∀b u,h.get? b=some u->h'.get? b=some u):cP P w H h':=λa o e=>
 (x a o e).stay (λb u _ q=>k b u q) (λ_ q=>q) λ_ _ q=>q
def cP.laid(x:cP P w H h)(k:∀b u,h.get? b=some u->h'.get? b=some u)(j:h.objs.size<=a)(new:b_ P w (upd H a o) h' a o):cP P w (upd H a o) h':=λb u e=>by
 have f:=x.fresh j
 by_cases i:b=a
 ·subst i;rw[aB] at e;cases e;exact new
 ·rw[aN i] at e;exact(x b u e).stay (λc v _ q=>k c v q) (λc q=>by rw[aN (cF q f)];exact q) λc l q=>by rw[aN (cF q f)];exact q
end
def Rd(H:Hp)(a:Qv)(u:HO):Prop:=H a=some u\/∃o,H a=some (.dH o u)
def Rd.ok(r:Rd H a u)(x:cP P w H h):b_ P w H h a u:=by
 rcases r with r|⟨o,r⟩
 ·exact x a u r
 ·obtain⟨_,q⟩:=x a _ r;exact q
def CZ:Option HO->Prop
 |some (.lst _)=>True
 |some (.dK _)=>True
 |some (.dT _)=>True
 |some (.set _ _)=>True
 |some (.ins _ _ _)=>True
 |some (.ext _)=>True
 |_=>False
def cP.write(ok:cP P w H h)(i:CZ (H x))(B:e=x\/H e=some (.own x))(k:∀b u,b≠e->h.get? b=some u->h'.get? b=some u)(n:∃u,h'.get? e=some u)(new:b_ P w (upd H x A) h' x A):cP P w (upd H x A) h':=λb u q=>by
 have C:∀c y,H c=some (.own y)->c≠x:=λc y r z=>by subst z;rw[r] at i;exact i
 have m:∀c f,H c=some (.tup f)->c≠x:=λc f r z=>by subst z;rw[r] at i;exact i
 by_cases l:b=x
 ·subst l;rw[aB] at q;cases q;exact new
 ·rw[aN l] at q
  by_cases a:b=e
  ·have o:H b=some (.own x):=by
    rcases B with z|z
    ·exact absurd (a.trans z) l
    ·rw[a];exact z
   rw[q] at o;cases o;obtain⟨v,D⟩:=n;exact#[v,by rw[a];exact D]
  ·refine(ok b u q).stay (λc v j r=>k c v ?_ r) (λc r=>by rw[aN (C c b r)];exact r) λc f r=>by rw[aN (m c f r)];exact r
   rcases j with rfl|j
   ·exact a
   ·rintro rfl
    rcases B with z|z
    ·exact C c b j z
    ·rw[j] at z;cases z;exact l rfl
structure Un(fs ex:xQ)(H H':Hp)(h h':zf):Prop where
 keep:∀b o,h.get? b=some o->H b=none->b∉fs->b∉ex->h'.get? b=some o
 slot:∀b o,h.get? b=some o->H b=none->b∈fs->b∉ex->∃sl,h'.get? b=some {o with slots:=sl}
 free:∀b o,h.get? b=some o->H b=none->b∉ex->H' b=none
 there:∀b o,h.get? b=some o->b∉ex->∃o',h'.get? b=some o'
 tups:∀b xs,H b=some (.tup xs)->H' b=some (.tup xs)
 jO:∀b o u,H b=some (.dH o u)->H' b=some (.dH o u)
 jP:∀b ps,H b=some (.cY ps)->∃more,H' b=some (.cY (ps++more))
section
variable {fs fs' ex ex':xQ}{H H1 H2:Hp}{h h1 h2 h':zf}{a x e:Qv}{o:HO}
def Un.any(u:Un fs ex H H1 h h1)(q:h.get? b=some c)(n:H b=none)(f:b∉ex):∃j,h1.get? b=some {c with slots:=j}:=by
 by_cases i:b∈fs
 ·exact u.slot b c q n i f
 ·exact#[c.slots,u.keep b c q n i f]
def Un.kept(k:∀b u,h.get? b=some u->h'.get? b=some u):Un fs ex H H h h':=
 #[λb c q _ _ _=>k b c q,λb c q _ _ _=>#[c.slots,k b c q],λ_ _ _ n _=>n,λb c q _=>#[c,k b c q],λ_ _ q=>q,λ_ _ _ q=>q,λ_ f q=>#[#[],by rw[q];simp]]
def Un.refl:Un fs ex H H h h:=Un.kept λ_ _ q=>q
def Un.laid(k:∀b u,h.get? b=some u->h'.get? b=some u)(i:h.objs.size<=a)(c:H a=none):Un fs ex H (upd H a o) h h' where
 keep:=λb u q _ _ _=>k b u q
 slot:=λb u q _ _ _=>#[u.slots,k b u q]
 free:=λb u q n _=>by rw[aN (qwk (qv_ (qv2 q) i))];exact n
 there:=λb u q _=>#[u,k b u q]
 tups:=λb f q=>by rw[aN (cF q c)];exact q
 jO:=λb u f q=>by rw[aN (cF q c)];exact q
 jP:=λb j q=>#[#[],by rw[aN (cF q c),q];simp]
def Un.write(f:CZ (H x))(y:e=x\/H e=some (.own x))(k:∀b u,b≠e->h.get? b=some u->h'.get? b=some u)(j:∃u,h'.get? e=some u):Un fs ex H (upd H x o) h h':=by
 have l:∀b,H b=none->b≠x:=λb n z=>by subst z;rw[n] at f;exact f
 have m:∀b,H b=none->b≠e:=λb n z=>by
  subst z
  rcases y with r|r
  ·exact l b n r
  ·rw[n] at r;cases r
 have i:∀b u,H b=some u->¬CZ (some u)->b≠x:=λb u q w z=>by subst z;rw[q] at f;exact w f
 refine#[λb u q n _ _=>k b u (m b n) q,λb u q n _ _=>#[u.slots,k b u (m b n) q],λb u q n _=>by rw[aN (l b n)];exact n,λb u q _=>?_,
  λb v q=>by rw[aN (i b _ q λz=>z)];exact q,λb u v q=>by rw[aN (i b _ q λz=>z)];exact q,λb A q=>#[#[],by rw[aN (i b _ q λz=>z),q];simp]]
 by_cases c:b=e
 ·subst c;exact j
 ·exact#[u,k b u c q]
end
def wL(h:zf)(H:Hp):List Addr:=(List.range h.objs.size).filter λa=>(H a).isSome
def nM(h:zf)(H:Hp):Heap:=W.hideAll h (wL h H)
def qi_(h:zf)(H:Hp):(nM h H).objs.size=h.objs.size:=W.hideAll_size _ _
def qja(e:h.get? b=some o)(n:H b=none):(nM h H).get? b=some o:=
 W.hideAll_get _ e λa=>by
  have q:(H b).isSome=true:=(qwb.mp a).2;rw[n] at q;simp at q
def qjb(e:(nM h H).get? b=some o):h.get? b=some o/\H b=none:=by
 have a:h.get? b=some o:=W.of_hideAll (wL h H) e;refine#[a,?_];cases q:H b with
 |none=>rfl
 |some x=>
  have c:b∈wL h H:=qwb.mpr #[qxr.mpr (qv2 a),by simp[q]];have z:(nM h H).get? b=none:=qyl (wL h H) c;rw[z] at e;cases e
def qjc(g h:zf)(L:Qv):QAC:=(List.range h.objs.size).filterMap λa=>if a=L\/(g.get? a).isSome=true then none else (h.get? a).map λo=>(a,o)
def rest(g h:zf)(L d:Qv):QAC:=(qjc g h L).filter λp=>decide (p.1≠d)
structure Mod(K:W5)(mg:Zu)(base:zf):Prop where
 jQ:K.In base
 glob:base.Ns mainGlobals mg
 blt:∃mb,base.Ns builtinsNs mb/\∀x:Str,x≠ "__name__" ->mb x=bootBuiltins x
 nolimit:base.NoLimit
set_option genInjectivity false in
structure Cx where
 prog:Program
 w:World
 K:W.Frag
 mg:Str->Option Value
 base:Heap
 A:Around
 N:QAH
 s₀:Shared
 H₀:Hp
 env:Env
 outer:List Env
 stack:List Env
 ex:List Addr
 fn:Str->Bool
 calm:Bool
 pn:QAC
 xe:QAB
def frs(l:List Env):List Addr:=l.filterMap (·.frame)
abbrev Cx.fs(X:Cx):List Addr:=frs X.outer
def zL(sc:Scope)(x:Str):Prop:=sc.names.lookup x=some .local\/sc.names.lookup x=some .cell\/sc.names.lookup x=some .free
def Loc(sc:Scope)(x:Str):Prop:=sc.names.lookup x=some .local\/sc.names.lookup x=some .cell
def Look(a:Env)(h:zf)(m:Zu)(x:Str)(u:zT):Prop:=
 (a.kindOf x=some .local/\m x=some u)\/((a.kindOf x=some .cell\/a.kindOf x=some .free)/\∃c,a.cells.lookup x=some c/\h.IsCell c (some u))
structure Cx.Ok(X:Cx):Prop where
 mod:Mod X.K X.mg X.base
 kind:X.env.scope.kind = .function
 glob:X.env.globals=mainGlobals
 blt:X.env.builtins=builtinsNs
 above:X.s₀.heap.objs.size<=X.env.locals
 inj:∀x y c,X.env.cells.lookup x=some c->X.env.cells.lookup y=some c->x=y
 has:∀x,(X.env.kindOf x=some .cell\/X.env.kindOf x=some .free)->∃c,X.env.cells.lookup x=some c
 cab:∀x c,X.fn x=true->X.env.cells.lookup x=some c->X.s₀.heap.objs.size<=c
 hd:X.calm=true->X.A.handled=none
 frames:X.A.frames=some X.stack
 stk:X.stack=X.outer\/(X.stack=X.env::X.outer/\X.env.frame=some X.env.locals)
 qG:∀b∈X.ex,b≠X.env.locals/\∀x c,X.env.cells.lookup x=some c->c≠b
 bs:∀b o,X.base.get? b=some o->X.s₀.heap.get? b=some o/\X.H₀ b=none
 jR:X.base.objs.size<=X.s₀.heap.objs.size
 sZ:∀b o,X.base.get? b=some o->b∉X.ex
 qH:∀b∈X.ex,b∉X.fs
 iC:X.s₀.heap.FunFrames X.base X.outer
 mF:∀b∈X.fs,X.H₀ b=none
structure Inv(X:Cx)(p_:QAC)(σ:List (Option V))(H:Hp)(s:Zw):Prop where
 ok:X.Ok
 os:s.os=X.s₀.os
 bare:AllBare s.gens
 base:Un X.fs X.ex X.H₀ H X.s₀.heap s.heap
 loc:∃m,s.heap.Ns X.env.locals m/\∀(i:Nat)(x:Str)(v:V),X.N[i]? = some x->σ[i]? = some (some v)->zL X.env.scope x->∃u,RelV v u/\Look X.env s.heap m x u
 cell:∀x c,X.env.cells.lookup x=some c->∃v,s.heap.IsCell c v
 free:H X.env.locals=none
 iD:∀x c,X.env.cells.lookup x=some c->H c=none
 pin:∀p∈X.pn++p_,s.heap.get? p.1=some p.2/\H p.1=none/\p.1≠X.env.locals/\p.1∉X.fs/\∀v,p.2.data≠.cell v
 hok:cP X.prog X.w H s.heap
 len:σ.length=X.N.length
section
variable {X:Cx}{p_:QAC}{σ:List (Option V)}{H H':Hp}{s:Zw}{h':zf}
def Cx.Ok.qjd(ok:X.Ok)(e:X.base.get? b=some o):b∉X.fs:=λa=>by
 have:=(ok.iC.mem a).1;rw[e] at this;cases this
theorem Inv.bs(I:Inv X p_ σ H s):∀b o,X.base.get? b=some o->s.heap.get? b=some o/\H b=none:=λb o e=>
 #[I.base.keep b o (I.ok.bs b o e).1 (I.ok.bs b o e).2 (I.ok.qjd e) (I.ok.sZ b o e),I.base.free b o (I.ok.bs b o e).1 (I.ok.bs b o e).2 (I.ok.sZ b o e)]
def Inv.bk(I:Inv X p_ σ H s):∀b o,X.base.get? b=some o->s.heap.get? b=some o:=λb o e=>(I.bs b o e).1
theorem Inv.mod(I:Inv X p_ σ H s):Mod X.K X.mg X.base:=I.ok.mod
def Inv.cg(I:Inv X p_ σ H s):X.K.In s.heap:=I.ok.mod.jQ.keeps I.bk
theorem Inv.lt(I:Inv X p_ σ H s):X.env.locals<s.heap.objs.size:=let ⟨_,a,_⟩:=I.loc;a.lt
def Inv.sz(I:Inv X p_ σ H s):X.s₀.heap.objs.size<=s.heap.objs.size:=qv7 I.ok.above (qxP I.lt)
def Inv.qje(I:Inv X p_ σ H s){a:Qv}(h:s.heap.objs.size<=a):a∉X.fs:=λe=>by
 obtain⟨_,o,c,_⟩:=I.ok.iC.mem e;exact absurd (qv_ (qv2 c) (qv7 I.sz h)) (qwV _)
def Inv.qI(I:Inv X p_ σ H s):∀x c,X.env.cells.lookup x=some c->c≠X.env.locals:=λx c e z=>by
 obtain⟨v,o,h,i⟩:=I.cell x c e;obtain⟨m,⟨j,l,n,a,f,_⟩,_⟩:=I.loc;rw[z,a] at h;cases h;rw[f] at i;cases i
theorem Inv.iC(I:Inv X p_ σ H s):s.heap.FunFrames X.base X.outer:=by
 have all:∀(l:List Env),(∀b∈frs l,b∈X.fs)->X.s₀.heap.FunFrames X.base l->s.heap.FunFrames X.base l:=by
  intro l
  induction l with
  |nil=>intro _ _;trivial
  |cons w r ih=>
   intro h n;obtain⟨u,⟨L,o,a,m,j,v⟩,i⟩:=n;have f:L∈X.fs:=h L (by unfold frs;rw[qyr,a];exact qv3);obtain⟨y,e⟩:=I.base.slot L o j (I.ok.mF L f) f λz=>I.ok.qH L z f;exact#[u,#[L,_,a,m,e,v],ih (λb c=>h b (by unfold frs;rw[qyr,a];exact qvZ _ c)) i]
 exact all X.outer (λ_ c=>c) I.ok.iC
theorem Inv.stack(I:Inv X p_ σ H s):s.heap.FunFrames X.base X.stack:=by
 rcases I.ok.stk with e|⟨e,c⟩
 ·rw[e];exact I.iC
 ·rw[e];obtain⟨m,a,_⟩:=I.loc;refine .cons (by rw[I.ok.kind];decide) c a ?_ I.iC;exact qym (qv7 I.ok.jR I.ok.above)
def Inv.wM(I:Inv X p_ σ H s):∀b∈frs X.stack,b∈X.env.locals::X.fs:=λb a=>by
 rcases I.ok.stk with e|⟨e,c⟩
 ·rw[e] at a;exact qvZ _ a
 ·rw[e] at a;unfold frs at a;rw[qyr,c] at a;exact a
def Inv.G8(I:Inv X p_ σ H s):∀b∈frs X.stack,H b=none:=λb a=>by
 rcases qv0.mp (I.wM b a) with e|a
 ·rw[e];exact I.free
 ·obtain⟨_,o,c,_⟩:=I.ok.iC.mem a;exact I.base.free b o c (I.ok.mF b a) λz=>I.ok.qH b z a
def Inv.step{g':Array GenState}{t':Nat}{d':Drawn}{ch:xQ}(I:Inv X p_ σ H s)(f:∀b∈ch,(b∈X.ex\/X.s₀.heap.objs.size<=b)/\b≠X.env.locals/\(∀x c,X.env.cells.lookup x=some c->c≠b)/\∀p∈X.pn++p_,p.1≠b)(keep:∀b o,b≠X.env.locals->b∉X.fs->b∉ch->s.heap.get? b=some o->H b=none->h'.get? b=some o)(y:∀b o,b≠X.env.locals->b∈X.fs->b∉ch->s.heap.get? b=some o->H b=none->∃O,h'.get? b=some {o with slots:=O})(free:∀b o,b∉ch->s.heap.get? b=some o->H b=none->H' b=none)(A:∀b o,b∉ch->s.heap.get? b=some o->∃E,h'.get? b=some E)(D:∀b xs,H b=some (.tup xs)->H' b=some (.tup xs))(jO:∀b o u,H b=some (.dH o u)->H' b=some (.dH o u))(jP:∀b ps,H b=some (.cY ps)->∃G,H' b=some (.cY (ps++G)))(ns:∀m,s.heap.Ns X.env.locals m->h'.Ns X.env.locals m)(Q:cP X.prog X.w H' h')(hg:AllBare g'):
  Inv X p_ σ H' {s with heap:=h',gens:=g',drawn:=d',toks:=t'}:=by
 have Zv:∀b o,X.s₀.heap.get? b=some o->b≠X.env.locals:=λb o e=>qwk (qv_ (qv2 e) I.ok.above);have M:∀b o,X.s₀.heap.get? b=some o->b∉X.ex->b∉ch:=λb o e a B=>by
  rcases(f b B).1 with z|z
  ·exact a z
  ·exact absurd (qv_ (qv2 e) z) (qwV _)
 have h:∀x c,X.env.cells.lookup x=some c->∀v,s.heap.IsCell c v->h'.IsCell c v:=λx c e v ⟨o,C,T⟩=>by
  have L:c∉ch:=λz=>(f c z).2.2.1 x c e rfl
  by_cases hc:c∈X.fs
  ·obtain⟨O,q⟩:=y c o (I.qI x c e) hc L C (I.iD x c e);exact#[_,q,T]
  ·exact#[o,keep c o (I.qI x c e) hc L C (I.iD x c e),T]
 refine#[I.ok,I.os,hg,#[λb o e n B a=>?_,λb o e n B a=>?_,λb o e n a=>?_,λb o e a=>?_,λb xs e=>D b xs (I.base.tups b xs e),λb o xs e=>jO b o xs (I.base.jO b o xs e),λb ps e=>?_],?_,λx c e=>?_,?_,λx c e=>?_,λp Y=>?_,Q,I.len]
 ·exact keep b o (Zv b o e) B (M b o e a) (I.base.keep b o e n B a) (I.base.free b o e n a)
 ·obtain⟨O,j⟩:=I.base.slot b o e n B a;obtain⟨N,J⟩:=y b _ (Zv b o e) B (M b o e a) j (I.base.free b o e n a);exact#[N,J]
 ·obtain⟨E,j⟩:=I.base.there b o e a;exact free b E (M b o e a) j (I.base.free b o e n a)
 ·obtain⟨E,j⟩:=I.base.there b o e a;exact A b E (M b o e a) j
 ·obtain⟨m1,j⟩:=I.base.jP b ps e;obtain⟨m2,J⟩:=jP b _ j;exact#[m1++m2,by rw[J,Array.append_assoc]]
 ·obtain⟨m,hn,hl⟩:=I.loc;refine#[m,ns m hn,λi x v j J e3=>?_];obtain⟨u,r,l⟩:=hl i x v j J e3;refine#[u,r,?_]
  rcases l with l|⟨k,c,e,z⟩
  ·exact .inl l
  ·exact .inr #[k,c,e,h x c e _ z]
 ·obtain⟨v,z⟩:=I.cell x c e;exact#[v,h x c e v z]
 ·obtain⟨m,⟨o,_,_,C,_⟩,_⟩:=I.loc;exact free _ o (λz=>(f _ z).2.1 rfl) C I.free
 ·obtain⟨v,o,C,T⟩:=I.cell x c e;exact free c o (λz=>(f c z).2.2.1 x c e rfl) C (I.iD x c e)
 ·obtain⟨e,n,ne,U,d⟩:=I.pin p Y;have L:p.1∉ch:=λz=>(f p.1 z).2.2.2 p Y rfl;exact#[keep p.1 p.2 ne U L e n,free p.1 p.2 L e n,ne,U,d]
def Inv.un(I:Inv X p_ σ H s)(u:Un X.fs [] H H' s.heap h')(c:cP X.prog X.w H' h'):Inv X p_ σ H' {s with heap:=h',toks:=t'}:=by
 obtain⟨m,⟨o,D,E,j,r⟩,_⟩:=id I.loc;obtain⟨A,y⟩:=u.any j I.free (by simp);exact I.step (g':=s.gens) (d':=s.drawn) (ch:=[]) (λ_ z=>nomatch z) (λb o _ f _ e n=>u.keep b o e n f (by simp)) (λb o _ f _ e n=>u.slot b o e n f (by simp)) (λb o _ e n=>u.free b o e n (by simp)) (λb o _ e=>u.there b o e (by simp)) u.tups u.jO u.jP (λC v=>by
  obtain⟨B,h,i,a,l⟩:=v;rw[j] at a;cases a;exact#[_,h,i,y,l]) c I.bare
def Inv.call(I:Inv X p_ σ H s)(u:Un (frs X.stack) ch H H' s.heap h')(i:cP X.prog X.w H' h')(C:AllBare g')(h:∀b∈ch,(b∈X.ex\/X.s₀.heap.objs.size<=b)/\b≠X.env.locals/\(∀x c,X.env.cells.lookup x=some c->c≠b)/\∀p∈X.pn++p_,p.1≠b):
  Inv X p_ σ H' {s with heap:=h',gens:=g',drawn:=d',toks:=t'}:=by
 obtain⟨m,⟨o,L,M,y,r⟩,_⟩:=id I.loc;obtain⟨E,j⟩:=u.any y I.free λz=>(h _ z).2.1 rfl;exact I.step (ch:=ch) h (λb o j D a e n=>u.keep b o e n (λz=>(qv0.mp (I.wM b z)).elim j D) a) (λb o _ _ a e n=>u.any e n a) (λb o a e n=>u.free b o e n a) (λb o a e=>u.there b o e a) u.tups u.jO u.jP (λJ B=>by
  obtain⟨G,l,v,f,A⟩:=B;rw[y] at f;cases f;exact#[_,l,v,j,A]) i C
def Inv.turned(I:Inv X p_ σ H s)(k:∀b o,b≠it->s.heap.get? b=some o->h'.get? b=some o)(j:H it=none)(f:it≠X.env.locals)(B:it∈X.ex\/X.s₀.heap.objs.size<=it)(A:∀x c,X.env.cells.lookup x=some c->c≠it)(y:∀p∈X.pn++p_,p.1≠it):Inv X p_ σ H {s with heap:=h',toks:=t'}:=by
 have h:∀b u,H b=some u->b≠it:=λb u e z=>by rw[z,j] at e;cases e
 refine I.step (g':=s.gens) (d':=s.drawn) (ch:=[it]) (λb w=>?_) (λb o _ _ a e _=>k b o (λz=>a (by simp[z])) e) (λb o _ _ a e _=>#[o.slots,k b o (λz=>a (by simp[z])) e]) (λ_ _ _ _ n=>n)
  (λb o a e=>#[o,k b o (λz=>a (by simp[z])) e]) (λ_ _ e=>e) (λ_ _ _ e=>e) (λb E e=>#[#[],by rw[e];simp]) (λm l=>?_) (λb u e=>?_) I.bare
 ·have e:b=it:=by simpa using w
  subst e;exact#[B,f,A,y]
 ·obtain⟨o,C,D,i,r⟩:=l;exact#[o,C,D,k _ o (qxt f) i,r]
 ·refine(I.hok b u e).stay (λc v a q=>k c v ?_ q) (λ_ q=>q) λ_ _ q=>q
  rcases a with z|z
  ·rw[z];exact h b u e
  ·exact h c _ z
def Inv.tok(I:Inv X p_ σ H s)(t:Nat):Inv X p_ σ H {s with toks:=t}:=I.un (h':=s.heap) (t':=t) Un.refl I.hok
theorem Inv.kept(I:Inv X p_ σ H s)(k:∀b u,s.heap.get? b=some u->h'.get? b=some u):Inv X p_ σ H {s with heap:=h',toks:=t'}:=I.un (Un.kept k) (I.hok.kept k)
theorem Inv.laid{a:Qv}{o:HO}{t':Nat}(I:Inv X p_ σ H s)(k:∀b u,s.heap.get? b=some u->h'.get? b=some u)(c:s.heap.objs.size<=a)(new:b_ X.prog X.w (upd H a o) h' a o):
  Inv X p_ σ (upd H a o) {s with heap:=h',toks:=t'}:=I.un (Un.laid k c (I.hok.fresh c)) (I.hok.laid k c new)
theorem Inv.write(I:Inv X p_ σ H s)(c:CZ (H x))(f:e=x\/H e=some (.own x))(k:∀b u,b≠e->s.heap.get? b=some u->h'.get? b=some u)(a:∃u,h'.get? e=some u)(new:b_ X.prog X.w (upd H x o) h' x o):Inv X p_ σ (upd H x o) {s with heap:=h',toks:=t'}:=I.un (Un.write c f k a) (I.hok.write c f k a new)
def Inv.Zx(I:Inv X p_ σ H s)(h:∀p∈a,s.heap.get? p.1=some p.2/\H p.1=none/\p.1≠X.env.locals/\p.1∉X.fs/\∀v,p.2.data≠.cell v):Inv X a σ H s:=
 #[I.ok,I.os,I.bare,I.base,I.loc,I.cell,I.free,I.iD,λp c=>(qwc.mp c).elim (λz=>I.pin p (qww _ z)) (h p),I.hok,I.len]
def Ot{N:QAH}(c:N.Nodup){i j:Nat}{x:Str}(a:N[i]? = some x)(b:N[j]? = some x):i=j:=by
 obtain⟨l,f⟩:=qvU.mp a;obtain⟨h,e⟩:=qvU.mp b;exact(List.getElem_inj c).mp (f.trans e.symm)
abbrev wN(X:Cx)(x:Str):Prop:=X.fn x=true\/X.env.scope.names.lookup x=some .local
def Dc{M:Model}{A:zY}{E:QAB}{i:Nat}{x:Str}{v:V}{u:zT}{Q:xu}(I:Inv X p_ σ H s)(hN:X.N.Nodup)(hi:X.N[i]? = some x)(D:Loc X.env.scope x)(r:RelV v u)(h:∀s',Inv X p_ (σ.set i (some v)) H s'->(∃a,Heap.SameBut a s.heap s'.heap/\(a=X.env.locals\/X.env.cells.lookup x=some a))->Q () s')(hf:wN X x:=by first|exact .inl rfl|exact .inr rfl|assumption):wpAny M A (storeName X.env x u) Q E s:=by
 obtain⟨m,hn,hl⟩:=id I.loc;have a0:(X.env.scope.kind == .class || (X.env.scope.kind == .module && X.env.locals != X.env.globals))=false:=by rw[I.ok.kind];rfl
 have zM:i<σ.length:=by rw[I.len];exact(qvU.mp hi).1
 have qI:=I.qI;have l:∀{a:Qv}{h':zf},(∃o,s.heap.get? a=some o/\H a=none)->Heap.SameBut a s.heap h'->cP X.prog X.w H h':=λ{a h'} ha f b ob e=>by
  obtain⟨_,_,G⟩:=ha;refine(I.hok b ob e).stay (λc w' C q=>(f.2 c ?_).trans q) (λ_ q=>q) λ_ _ q=>q;rintro rfl
  rcases C with rfl|C
  ·rw[G] at e;cases e
  ·rw[G] at C;cases C
 rcases D with L|L
 ·refine wpAny_storeName_local L hn (λh' af f=>?_) a0;obtain⟨oL,_,_,ae,_⟩:=id hn;refine h _ #[I.ok,I.os,I.bare,#[λb o e n U D=>?_,λb o e n U D=>?_,I.base.free,λb o e D=>?_,I.base.tups,I.base.jO,I.base.jP],#[_,af,λj y v' B J e3=>?_],λy c e=>?_,I.free,I.iD,λp hp=>?_,l #[oL,ae,I.free] f,by simpa using I.len] #[_,f,.inl rfl]
  ·exact(f.2 b (qwk (qv_ (qv2 e) I.ok.above))).trans (I.base.keep b o e n U D)
  ·obtain⟨sl,B⟩:=I.base.slot b o e n U D;exact#[sl,(f.2 b (qwk (qv_ (qv2 e) I.ok.above))).trans B]
  ·obtain⟨o',B⟩:=I.base.there b o e D;exact#[o',(f.2 b (qwk (qv_ (qv2 e) I.ok.above))).trans B]
  ·by_cases O:j=i
   ·subst O;rw[hi] at B;cases B;rw[qx2 zM] at J;cases J;exact#[u,r,.inl #[L,by simp]]
   ·rw[List.getElem?_set_ne (qxt O)] at J;obtain⟨u',r',q⟩:=hl j y v' B J e3;refine#[u',r',?_]
    rcases q with⟨k,e⟩|⟨k,c,e,z⟩
    ·refine .inl #[k,?_];have:y≠x:=λe=>O (Ot hN B (e▸hi));simp[this,e]
    ·exact .inr #[k,c,e,z.sameBut f (qI y c e)]
  ·obtain⟨w',z⟩:=I.cell y c e;exact#[w',z.sameBut f (qI y c e)]
  ·obtain⟨e,n,ne,nf,d⟩:=I.pin p hp;exact#[(f.2 p.1 ne).trans e,n,ne,nf,d]
 ·have T:X.fn x=true:=by
   rcases hf with z|z
   ·exact z
   ·rw[z] at L;cases L
  obtain⟨c,C⟩:=I.ok.has x (.inl L);obtain⟨w',z⟩:=I.cell x c C;refine wpAny_storeName_cell I.ok.kind L C z (λh' ab f=>?_);obtain⟨oc,Y,ac⟩:=id z;refine h {s with heap:=h'} #[I.ok,I.os,I.bare,#[λb o e n U D=>?_,λb o e n U D=>?_,I.base.free,λb o e D=>?_,I.base.tups,I.base.jO,I.base.jP],#[m,hn.sameBut f (qxt (qI x c C)),λj y v' B J e3=>?_],λy c' e=>?_,I.free,I.iD,λp hp=>?_,l #[oc,Y,I.iD x c C] f,by simpa using I.len] #[c,f,.inr C]
  ·exact(f.2 b (qwk (qv_ (qv2 e) (I.ok.cab x c T C)))).trans (I.base.keep b o e n U D)
  ·obtain⟨sl,B⟩:=I.base.slot b o e n U D;exact#[sl,(f.2 b (qwk (qv_ (qv2 e) (I.ok.cab x c T C)))).trans B]
  ·obtain⟨o',B⟩:=I.base.there b o e D;exact#[o',(f.2 b (qwk (qv_ (qv2 e) (I.ok.cab x c T C)))).trans B]
  ·by_cases O:j=i
   ·subst O;rw[hi] at B;cases B;rw[qx2 zM] at J;cases J;exact#[u,r,.inr #[.inl L,c,C,ab]]
   ·rw[List.getElem?_set_ne (qxt O)] at J;obtain⟨u',r',q⟩:=hl j y v' B J e3;refine#[u',r',?_]
    rcases q with q|⟨k,c',e,z'⟩
    ·exact .inl q
    ·refine .inr #[k,c',e,z'.sameBut f ?_];rintro rfl;exact O (Ot hN B (I.ok.inj _ _ _ e C▸hi))
  ·by_cases aa:c'=c
   ·subst aa;exact#[_,ab]
   ·obtain⟨w2,z2⟩:=I.cell y c' e;exact#[w2,z2.sameBut f aa]
  ·obtain⟨e,n,ne,nf,d⟩:=I.pin p hp;refine#[(f.2 p.1 ?_).trans e,n,ne,nf,d];intro q;rw[q,Y] at e;have q':oc=p.2:=qwt e;exact d w' (by rw[<- q'];exact ac)
def Dd{M:Model}{A:zY}{E:QAB}{i:Nat}{x:Str}{v:V}{u:zT}{Q:xu}(I:Inv X p_ σ H s)(j:X.N.Nodup)(e:X.N[i]? = some x)(c:Loc X.env.scope x)(r:RelV v u)(h:∀a,Inv X p_ (σ.set i (some v)) H a->Q () a)(f:wN X x:=by first|exact .inl rfl|exact .inr rfl|assumption):wpAny M A (storeName X.env x u) Q E s:=
 Dc I j e c r (λa l _=>h a l) f
def Inv.call'(I:Inv X p_ σ H s)(j:a.os=s.os)(u:Un (frs X.stack) ch H H' s.heap a.heap)(f:cP X.prog X.w H' a.heap)(l:AllBare a.gens)(h:∀b∈ch,(b∈X.ex\/X.s₀.heap.objs.size<=b)/\b≠X.env.locals/\(∀x c,X.env.cells.lookup x=some c->c≠b)/\∀p∈X.pn++p_,p.1≠b):Inv X p_ σ H' a:=by
 obtain⟨h',g',d',t',i⟩:=a;have e:i=s.os:=j;subst e;exact I.call (g':=g') (t':=t') (d':=d') u f l h
end
abbrev XK:=Value->Option Addr->Hp->Prop
abbrev St:=List (Option V)
abbrev yh:=St->Hp->Prop
abbrev yO:=Nat->St->Hp->Prop
abbrev VK:=V->Hp->Prop
abbrev yZ:=List V->Hp->VK->Prop
abbrev yV:=V->List V->Hp->VK->Prop
abbrev TE:=St->Hp->VK->Prop
abbrev TT:=St->Hp->(Bool->Hp->Prop)->Prop
abbrev TA:=St->Hp->(List V->Hp->Prop)->Prop
structure Ends where
 nx:St->Hp->Prop
 rt:VK
 bk:St->Hp->Prop:=λ_ _=>False
 ct:St->Hp->Prop:=λ_ _=>False
abbrev TS:=Ends->St->Hp->Prop
def EP(X:Cx)(e:QAC)(σ:St)(Q:VK)(u:zT)(c:Zw):Prop:=∃v a,Inv X e σ a c/\RelV v u/\Q v a
def TP(X:Cx)(e:QAC)(σ:St)(Q:Bool->Hp->Prop)(b:Bool)(c:Zw):Prop:=∃a,Inv X e σ a c/\Q b a
def AP(X:Cx)(f:QAC)(σ:St)(Q:List V->Hp->Prop)(us:QAE)(e:Zw):Prop:=∃a c,Inv X f σ c e/\Vals a us/\Q a c
def SP(X:Cx)(h:QAC)(D:Ends)(f:Flow)(e:Zw):Prop:=
 match f with
 |.next=>∃a c,Inv X h a c e/\D.nx a c
 |.brk=>∃a c,Inv X h a c e/\D.bk a c
 |.cont=>∃a c,Inv X h a c e/\D.ct a c
 |.ret u=>∃v a c,Inv X h a c e/\RelV v u/\D.rt v c
abbrev wX{a:Type}(X:Cx)(t:Sem a)(Q:a->Shared->Prop)(E:QAB)(s:Zw):Prop:=wpAny (model X.prog X.w) X.A t Q E s
def PE(X:Cx)(e:zp)(t:TE):Prop:=
 ∀(c:QAC)(s:Zw)(a:St)(H:Hp)(Q:VK),Inv X c a H s->t a H Q->wX X (eval e X.env) (EP X c a Q) X.xe s
def PT(X:Cx)(e:zp)(t:TT):Prop:=
 ∀(c:QAC)(s:Zw)(a:St)(H:Hp)(Q:Bool->Hp->Prop),Inv X c a H s->t a H Q->wX X (isTrue e X.env (eval e X.env)) (TP X c a Q) X.xe s
def PW(X:Cx)(e:zp)(t:TT):Prop:=
 ∀(a:Sem Value)(f:QAC)(s:Zw)(c:St)(H:Hp)(Q:Bool->Hp->Prop),Inv X f c H s->t c H Q->wX X (isTrue e X.env a) (TP X f c Q) X.xe s
def PW.pt(h:PW X e t):PT X e t:=h _
def PA(X:Cx)(e:qy)(t:TA):Prop:=
 ∀(pos:Pos)(c:QAC)(s:Zw)(a:St)(H:Hp)(Q:List V->Hp->Prop),Inv X c a H s->t a H Q->wX X (spliced (backTo pos (starEach e X.env))) (AP X c a Q) X.xe s
def PS(X:Cx)(st:Stmt)(t:TS):Prop:=
 ∀(c:QAC)(s:Zw)(a:St)(H:Hp)(D:Ends),Inv X c a H s->t D a H->wX X (exec st X.env) (SP X c D) X.xe s
def fQ(X:Cx)(st:List Stmt)(t:TS):Prop:=
 ∀(c:QAC)(s:Zw)(a:St)(H:Hp)(D:Ends),Inv X c a H s->t D a H->wX X (execs st X.env) (SP X c D) X.xe s
def aD{c:Type}{t:Sem c}{Q e:c->Shared->Prop}{M:Model}{A:zY}{E:QAB}{s:Zw}(h:wpAny M A t Q E s)(f:∀a s,Q a s->e a s):wpAny M A t e E s:=qwu h f λ_ _ x=>x
section
variable {X:Cx}
abbrev iG(x:Str):Prop:=(x == ("__debug__" : Str))=false
@[simp] def Ou(i:Nat):TE:=λa H Q=>∃v,a[i]? = some (some v)/\Q v H
@[simp] def tC(v:V):TE:=λ_ H Q=>Q v H
def Zy{i:Nat}{x:Str}{pos:Pos}(E:X.N[i]? = some x)(A:zL X.env.scope x)(n:iG x:=by decide)(o:(x == ("__classdict__" : Str))=false:=by decide):PE X (.Name x pos) (Ou i):=by
 intro z s y H Q I h;obtain⟨v,e,h⟩:=h;obtain⟨m,B,D⟩:=I.loc;obtain⟨u,r,l⟩:=D i x v E e A;have j:EP X z y Q u s:=#[v,H,I,r,h]
 rcases l with⟨f,C⟩|⟨f,c,w,a⟩
 ·exact wpAny_Name (wpAny_loadName_local I.ok.kind f B C j) n
 ·rcases f with f|f
  ·exact wpAny_Name (wpAny_loadName_cell I.ok.kind f w a j) n
  ·exact wpAny_Name (wpAny_loadName_free I.ok.kind f w a j o) n
def aH{i j pos}:PE X (.Constant (.int i) j pos) (tC (.int i)):=λ_ _ _ H _ I h=>wpAny_Constant_int #[.int i,H,I.tok _,#[_,rfl],h]
def eX{b j pos}:PE X (.Constant (.bool b) j pos) (tC (.bl b)):=λ_ _ _ H _ I h=>Constant_bool #[.bl b,H,I,rfl,h]
def tD{j pos}:PE X (.Constant .none j pos) (tC .non):=λ_ _ _ H _ I h=>Constant_none #[.non,H,I,rfl,h]
def cZ{x j pos}:PE X (.Constant (.str x) j pos) (tC (.str x)):=λ_ _ _ H _ I h=>Calls.Constant_str #[.str x,H,I.tok _,#[_,rfl],h]
def Gl(X:Cx)(x:Str):Prop:=X.env.kindOf x=some .globalImplicit
def qJ{E:QAB}{a:QAC}{s:Zw}{σ:St}{H:Hp}{x:Str}{u:zT}{pos:Pos}{Q:QAB}(I:Inv X a σ H s)(e:Gl X x)(c:X.mg x=some u)(h:Q u s)(f:iG x:=by decide):wX X (eval (.Name x pos) X.env) Q E s:=
 Calls.Name_function_global I.ok.kind e (Calls.loadGlobal_global (by rw[I.ok.glob];exact I.mod.glob.keeps I.bk) c h) f
def lB{E:QAB}{a:QAC}{s:Zw}{σ:St}{H:Hp}{x:Str}{u:zT}{pos:Pos}{Q:QAB}(I:Inv X a σ H s)(i:Gl X x)(f:X.mg x=none)(c:bootBuiltins x=some u)(h:Q u s)(e:x≠ "__name__" :=by decide)(j:iG x:=by decide):wX X (eval (.Name x pos) X.env) Q E s:=by
 obtain⟨n,m,l⟩:=I.mod.blt;exact Calls.Name_function_global I.ok.kind i (Calls.loadGlobal_builtin (by rw[I.ok.glob];exact I.mod.glob.keeps I.bk) f (by rw[I.ok.blt];exact m.keeps I.bk) ((l x e).trans c) h) j
def eY(c:Gl X x)(a:X.mg x=some u)(r:RelV v u)(e:iG x:=by decide):PE X (.Name x pos) (tC v):=
 λ_ _ _ H _ I h=>qJ I c a #[v,H,I,r,h] e
def qK{x:Str}{v:V}{u:zT}{pos:Pos}(f:Gl X x)(e:X.mg x=none)(a:bootBuiltins x=some u)(r:RelV v u)(c:x≠ "__name__" :=by decide)(i:iG x:=by decide):PE X (.Name x pos) (tC v):=
 λ_ _ _ H _ I h=>lB I f e a #[v,H,I,r,h] c i
def PC(X:Cx)(i:CmpOp)(a b:zp)(t:TE):Prop:=
 ∀(h:QAC)(s:Zw)(f:St)(H:Hp)(Q:VK),Inv X h f H s->t f H Q->
  wX X (eval a X.env) (λv e=>wX X (eval b X.env) (λu c=>wX X (compareOp i v u) (EP X h f Q) X.xe c) X.xe e) X.xe s
def Zz(b:zp)(h:a≠.In)(c:a≠.NotIn):behindInMarks a b=false:=by
 have f:(a == CmpOp.In)=false:=by cases a <;> first|rfl|exact absurd rfl h
 have e:(a == CmpOp.NotIn)=false:=by cases a <;> first|rfl|exact absurd rfl c
 cases b <;> simp[behindInMarks,f,e]
@[simp] def qtr(c:TE):TE:=λa H Q=>c a H λx e=>Q (.bl (decide (x = .non))) e
@[simp] def qts(c:TE):TE:=λa H Q=>c a H λx e=>Q (.bl (!decide (x = .non))) e
@[simp] def tB(t:TE):TT:=λa H Q=>t a H λx e=>∃c,x = .bl c/\Q c e
def qjg(h:PC X f a b t)(e:behindInMarks f b=false:=by first|exact Zz _ (by decide) (by decide)|rfl):PT X (.Compare a [f] [b] pos) (tB t):=by
 intro n s i H Q I hw;refine wpAny_isTrue_Compare1 (aD (h n s i H _ I hw) λv A e=>aD e λu z o=>aD o λc y j=>?_) e;obtain⟨x,w,r,l,m⟩:=j;obtain⟨d,rfl,q⟩:=m;cases l;exact qwS #[w,r,q]
def qjh(h:PE X e t)(m:∀a,isTrue e X.env a=(do let v <- a;standAt e.pos;holding [v] (truthy v)):=by intro _;rfl):PT X e (tB t):=by
 intro l s c H Q I hw;refine isTrue_plain (aD (h l s c H _ I hw) λv r f=>?_) (m _);obtain⟨x,o,n,i,j⟩:=f;obtain⟨d,rfl,q⟩:=j;cases i;exact qwS #[o,n,q]
variable {tA G_:TT}{rest:qy}
def ZC(t u:TT):TT:=λa H Q=>t a H λc e=>if c=true then u a e Q else Q false e
def Df(t u:TT):TT:=λa H Q=>t a H λc e=>if c=true then Q true e else u a e Q
@[simp] def qji(t:TT):TT:=λa H Q=>t a H λc e=>Q (!c) e
def Ov(j:PT X a tA):PW X (.BoolOp .And [a] pos) tA:=by
 intro l i s f H Q I h;refine isTrue_and (aD (j i s f H Q I h) λc m e=>?_);cases c with
 |true=>exact isTrue_and_nil e
 |false=>exact e
def jq(j:PT X a tA):PW X (.BoolOp .Or [a] pos) tA:=by
 intro l i s f H Q I h;refine isTrue_or (aD (j i s f H Q I h) λc m e=>?_);cases c with
 |false=>exact isTrue_or_nil e
 |true=>exact e
def Ow(u:PT X a tA)(r:PW X (.BoolOp .And (b::rest) pos) G_):PW X (.BoolOp .And (a::b::rest) pos) (ZC tA G_):=by
 intro n i s e H Q I h;refine isTrue_and (aD (u i s e H _ I h) λc o m=>?_);obtain⟨l,j,f⟩:=m;cases c with
 |true=>exact r n i o e l Q j f
 |false=>exact#[l,j,f]
def je(u:PT X a tA)(r:PW X (.BoolOp .Or (b::rest) pos) G_):PW X (.BoolOp .Or (a::b::rest) pos) (Df tA G_):=by
 intro n i s e H Q I h;refine isTrue_or (aD (u i s e H _ I h) λc o m=>?_);obtain⟨l,j,f⟩:=m;cases c with
 |true=>exact#[l,j,f]
 |false=>exact r n i o e l Q j f
def d9(i:PT X a tA):PT X (.UnaryOp .Not a pos) (qji tA):=by
 intro f s e H Q I h;exact isTrue_not (i f s e H (λc j=>Q (!c) j) I h)
def Ox(f tb:TE):TE:=λa H Q=>f a H λx e=>∃c,x = .bl c/\if c=true then tb a e Q else Q (.bl false) e
@[simp] def ZD(e:TE):TE:=λa H Q=>e a H λx f=>∃c,x = .bl c/\Q (.bl (!c)) f
def tE{f}(h:PE X a t):PE X (.BoolOp f [a] pos) t:=λe s c H Q I hw=>BoolOp_one (h e s c H Q I hw)
def qjj(w:PE X a n)(u:PE X (.BoolOp .And (b::rest) pos) tb):PE X (.BoolOp .And (a::b::rest) pos) (Ox n tb):=by
 intro i s f H Q I h;refine BoolOp_and (aD (w i s f H _ I h) λv o m=>?_);obtain⟨x,l,j,r,e⟩:=m;obtain⟨c,rfl,e⟩:=e;cases r;refine qwS ?_;cases c with
 |true=>exact u i o f l Q j e
 |false=>exact#[.bl false,l,j,rfl,e]
def qjk(n:PE X a j):PE X (.UnaryOp .Not a pos) (ZD j):=by
 intro m s f H Q I h;refine UnaryOp_ (aD (n m s f H _ I h) λv u i=>?_);obtain⟨x,r,o,l,e⟩:=i;obtain⟨c,rfl,e⟩:=e;cases l;exact not_of (qwS #[.bl (!c),r,o,rfl,e])
def ZF(t:TT)(f tb:TE):TE:=λa H Q=>t a H λc e=>if c=true then f a e Q else tb a e Q
def Oz(r:PT X c tA)(v:PE X a o)(u:PE X b tb):PE X (.IfExp c a b pos) (ZF tA o tb):=by
 intro f s e H Q I h;refine wpAny_IfExp (aD (r f s e H _ I h) λd i n=>?_);obtain⟨m,l,j⟩:=n;cases d with
 |true=>exact v f i e m Q l j
 |false=>exact u f i e m Q l j
end
def au(K:W5)(H:Hp)(a:Qv)(xs:kE):Prop:=
 Rd H a (.lst xs)\/
  ∃(o:Obj)(c:qx)(n:Nat),K.lookup a=some o/\o.cls = .type "list" /\o.dict=none/\o.data = .seq c n/\c.size<=sizeLine/\Vals xs c.toList
def aQ(K:W5)(H:Hp)(a:Qv)(xs:kE):Prop:=
 Rd H a (.tup xs)\/
  ∃(o:Obj)(c:qx)(n:Nat),K.lookup a=some o/\o.cls = .type "tuple" /\o.data = .seq c n/\c.size<=sizeLine/\Vals xs c.toList
def qjl:Value->Option V
 |.none=>some .non
 |.bool b=>some (.bl b)
 |.int i _=>some (.int i)
 |.str x _=>some (.str x)
 |.bytes b _=>some (.mD b)
 |.float b _=>some (.flt b)
 |.ref a=>some (.ref a)
 |.type n=>some (.ty n)
 |_=>none
def RelV.abs(r:RelV x u):qjl u=some x:=by
 cases x with
 |non=>cases r;rfl
 |bl _=>cases r;rfl
 |int _=>obtain⟨t,rfl⟩:=r;rfl
 |str _=>obtain⟨t,rfl⟩:=r;rfl
 |mD _=>obtain⟨t,rfl⟩:=r;rfl
 |flt _=>obtain⟨t,rfl⟩:=r;rfl
 |ref _=>cases r;rfl
 |ty _=>cases r;rfl
def RelV.inj(r:RelV x u)(q:RelV y u):x=y:=qwt (r.abs.symm.trans q.abs)
theorem Vals.inj:∀{xs ys:kE}{us:QAE},Vals xs us->Vals ys us->xs=ys
 |_,_,_,.nil,.nil=>rfl
 |_,_,_,.cons r t,.cons c a=>by rw[r.inj c,Vals.inj t a]
section
variable {X:Cx}{p_:QAC}{σ:St}{H:Hp}{s:Zw}{a:Qv}{xs ys:kE}
def au.of{K:W5}(h:H a=some (.lst xs)):au K H a xs:=.inl (.inl h)
def aQ.of{K:W5}(h:H a=some (.tup xs)):aQ K H a xs:=.inl (.inl h)
def Inv.list(I:Inv X p_ σ H s)(h:au X.K H a xs):∃its:QAE,Vals xs its/\PlainL s.heap a its.toArray/\xs.length<=sizeLine:=by
 rcases h with h|⟨o,its,n,f,j,i,c,l,r⟩
 ·obtain⟨z,its,n,r,e⟩:=h.ok I.hok;exact#[its,r,#[_,n,e,rfl,rfl,rfl],z]
 ·refine#[its.toList,r,#[o,n,I.cg a o f,j,i,by simpa using c],?_];have e:=r.length;simp only[qys] at e;lia
def Inv.tuple(I:Inv X p_ σ H s)(h:aQ X.K H a xs):∃its:QAE,Vals xs its/\IsTup s.heap a its.toArray/\xs.length<=sizeLine:=by
 rcases h with h|⟨o,its,n,f,i,c,j,r⟩
 ·obtain⟨z,its,r,p⟩:=h.ok I.hok;exact#[its,r,p,z]
 ·refine#[its.toList,r,#[o,I.cg a o f,i,n,by simpa using c],?_];have e:=r.length;simp only[qys] at e;omega
def Inv.Dg(I:Inv X p_ σ H s)(h:au X.K H a xs)(h':au X.K H a ys):xs=ys:=by
 obtain⟨f,r,⟨o,n,e,_,_,d⟩,_⟩:=I.list h;obtain⟨c,l,⟨u,v,i,_,_,j⟩,_⟩:=I.list h';rw[e] at i;cases i;rw[d] at j;injection j with m _;have:f=c:=by simpa using qws Array.toList m
 subst this;exact r.inj l
def Inv.ZG(I:Inv X p_ σ H s)(h:aQ X.K H a xs)(h':aQ X.K H a ys):xs=ys:=by
 obtain⟨f,r,⟨o,e,_,n,d⟩,_⟩:=I.tuple h;obtain⟨c,l,⟨u,i,_,v,j⟩,_⟩:=I.tuple h';rw[e] at i;cases i;rw[d] at j;injection j with m _;have:f=c:=by simpa using qws Array.toList m
 subst this;exact r.inj l
end
abbrev Cx.wish(X:Cx)(E:QAB):Cx:={X with xe:=E}
abbrev Cx.lC(X:Cx):Cx:=X.wish λ_ _=>False
theorem Cx.Ok.wish{X:Cx}(ok:X.Ok)(E:QAB):(X.wish E).Ok:=
 #[ok.mod,ok.kind,ok.glob,ok.blt,ok.above,ok.inj,ok.has,ok.cab,ok.hd,ok.frames,ok.stk,ok.qG,ok.bs,ok.jR,ok.sZ,ok.qH,ok.iC,ok.mF]
def Cx.Ok.tG{X:Cx}{E:QAB}(ok:(X.wish E).Ok):X.Ok:=
 #[ok.mod,ok.kind,ok.glob,ok.blt,ok.above,ok.inj,ok.has,ok.cab,ok.hd,ok.frames,ok.stk,ok.qG,ok.bs,ok.jR,ok.sZ,ok.qH,ok.iC,ok.mF]
section
variable {X:Cx}{p_:QAC}{σ:St}{H:Hp}{s:Zw}{E:QAB}
theorem Inv.wish(I:Inv X p_ σ H s)(E:QAB):Inv (X.wish E) p_ σ H s:=#[I.ok.wish E,I.os,I.bare,I.base,I.loc,I.cell,I.free,I.iD,I.pin,I.hok,I.len]
theorem Inv.tG(I:Inv (X.wish E) p_ σ H s):Inv X p_ σ H s:=#[I.ok.tG,I.os,I.bare,I.base,I.loc,I.cell,I.free,I.iD,I.pin,I.hok,I.len]
theorem SP.tG(h:SP (X.wish E) p_ D f e):SP X p_ D f e:=by
 cases f with
 |next=>obtain⟨a,c,I,q⟩:=h;exact#[a,c,I.tG,q]
 |brk=>obtain⟨a,c,I,q⟩:=h;exact#[a,c,I.tG,q]
 |cont=>obtain⟨a,c,I,q⟩:=h;exact#[a,c,I.tG,q]
 |ret u=>obtain⟨v,a,c,I,r,q⟩:=h;exact#[v,a,c,I.tG,r,q]
theorem fQ.lC{st:List Stmt}{t:TS}(h:fQ X.lC st t):fQ X st t:=λp_ s σ H D I hw=>
 qwu (h p_ s σ H D (I.wish _) hw) (λ_ _ q=>q.tG) λ_ _ z=>False.elim z
end
section
variable {X:Cx}{st:Stmt}{rest:List Stmt}{t u:TS}{e:zp}{te:TE}{pos:Pos}
@[simp] def qjm:TS:=λD a H=>D.nx a H
@[simp] def tH(t u:TS):TS:=λD a H=>t {D with nx:=u D} a H
def cA:fQ X [] qjm:=λ_ _ a H _ I h=>wpAny_execs_nil #[a,H,I,h]
def aK(m:PS X st t)(l:fQ X rest u):fQ X (st::rest) (tH t u):=by
 intro c s i H D I h;refine wpAny_execs_cons (aD (m c s i H {D with nx:=u D} I h) λf j q=>?_);cases f with
 |next=>
  obtain⟨a,o,n,q⟩:=q;exact l c j a o D n q
 |ret v=>exact q
 |brk=>exact q
 |cont=>exact q
def aF(i:PS X st t):fQ X [st] t:=by
 intro c s a H D I h;refine wpAny_execs_cons (aD (i c s a H D I h) λf j q=>?_);cases f with
 |next=>exact wpAny_execs_nil q
 |ret v=>exact q
 |brk=>exact q
 |cont=>exact q
@[simp] def qtt:TS:=λD a H=>D.bk a H
@[simp] def qtu:TS:=λD a H=>D.ct a H
def Inv.quiet{a:QAC}{σ:St}{H:Hp}{s:Zw}(I:Inv X a σ H s):interactive X.env=false:=by simp[interactive,I.ok.kind]
@[simp] def qjn(te:TE):TS:=λD a H=>te a H λ_ c=>D.nx a c
def eE(l:PE X e te)(j:swapsWith e none pos.line X.env=pure false:=by rfl):PS X (.Expr e pos) (qjn te):=by
 intro i s a H D I h;refine wpAny_Expr_any (aD (l i s a H _ I h) λv o c=>?_) I.quiet j;obtain⟨x,n,m,r,f⟩:=c;exact#[a,n,m,f]
@[simp] def ZJ(te:TE):TS:=λD a H=>te a H D.rt
def aX(l:PE X e te):PS X (.Return (some e) pos) (ZJ te):=by
 intro j s a H D I h;refine wpAny_Return_some (aD (l j s a H _ I h) λv o c=>?_);obtain⟨x,n,m,f,i⟩:=c;exact#[x,a,n,m,f,i]
@[simp] def qtv:TS:=λD _ H=>D.rt .non H
def tK(c:TT)(t u:TS):TS:=λD a H=>c a H λb f=>if b=true then t D a f else u D a f
def bU(v:PT X c r)(y:fQ X a t)(w:fQ X b u):PS X (.If c a b pos) (tK r t u):=by
 intro i s f H D I h;refine wpAny_If (aD (v i s f H _ I h) λd j o=>?_);obtain⟨n,m,l⟩:=o;cases d with
 |true=>exact y i j f n D m l
 |false=>exact w i j f n D m l
@[simp] def ZK:TS:=λ_ _ _=>False
def pA:PS X st ZK:=λ_ _ _ _ _ _ h=>h.elim
def qjo:fQ X a ZK:=λ_ _ _ _ _ _ h=>h.elim
end
abbrev TG:=V->St->Hp->(St->Hp->Prop)->Prop
abbrev iV:=List V->St->Hp->(St->Hp->Prop)->Prop
def PG(X:Cx)(a:zp)(t:TG):Prop:=
 ∀(f:QAC)(s:Zw)(e:St)(H:Hp)(v:V)(u:zT)(Q:yh),Inv X f e H s->RelV v u->t v e H Q->
  wX X (assign a X.env u) (λ_ i=>∃c h,Inv X f c h i/\Q c h) X.xe s
def bB(X:Cx)(j:qy)(t:iV):Prop:=
 ∀(h:QAC)(s:Zw)(c:St)(H:Hp)(e:kE)(f:QAE)(Q:yh),Inv X h c H s->Vals e f->t e c H Q->
  wX X (assignInOrder ((assignEach j X.env).map (·.2)) f) (λ_ l=>∃a i,Inv X h a i l/\Q a i) X.xe s
abbrev zN:=V->V->V->Hp->(Hp->Prop)->Prop
def zP(X:Cx)(t:zN):Prop:=
 ∀(c:QAC)(s:Zw)(a:St)(H:Hp)(o i v:V)(e f u:zT)(Q:Hp->Prop),Inv X c a H s->RelV o e->RelV i f->RelV v u->t o i v H Q->
  wX X (setItem e f u) (λ_ j=>∃h,Inv X c a h j/\Q h) X.xe s
abbrev qL:=V->V->Hp->VK->Prop
def zQ(X:Cx)(e:Operator)(t:qL):Prop:=
 ∀(c:QAC)(s:Zw)(a:St)(H:Hp)(x y:V)(v u:zT)(Q:VK),Inv X c a H s->RelV x v->RelV y u->t x y H Q->
  wX X (inplaceOp e v u) (EP X c a Q) X.xe s
section
variable {X:Cx}{pos:Pos}
@[simp] def wO(i:Nat):TG:=λv a H Q=>Q (a.set i (some v)) H
def eF(f:X.N.Nodup)(c:X.N[i]? = some x)(a:Loc X.env.scope x)(e:wN X x:=by first|exact .inl rfl|exact .inr rfl|assumption):PG X (.Name x pos) (wO i):=by
 intro n s l H v u Q I r h;exact wpAny_assign_Name (Dd I f c a r (λm j=>#[_,H,j,h]) e)
@[simp] def ZL:iV:=λc a H Q=>c=[]/\Q a H
@[simp] def ZM(t:TG)(u:iV):iV:=λe c H Q=>∃v r,e=v::r/\t v c H λa f=>u r a f Q
def iH:bB X [] ZL:=by
 intro i s a H c f Q I r h;obtain⟨e,h⟩:=h;subst e;cases r;exact assignInOrder_nil #[a,H,I,h]
def cI(y:PG X e t)(w:bB X c u)(o:(assignEach (e::c) X.env).map (·.2)=assign e X.env::(assignEach c X.env).map (·.2):=by rfl):bB X (e::c) (ZM t u):=by
 intro f s i H C E Q I r h;obtain⟨v,D,z,h⟩:=h;subst z;cases r with
 |cons r m=>
  rw[o];refine assignInOrder_cons (aD (y f s i H _ _ _ I r h) λ_ l j=>?_);obtain⟨a,B,A,n⟩:=j;exact w f l a B _ _ Q A m n
@[simp] def OD(K:W5)(n:Nat)(t:iV):TG:=λv e H Q=>∃a c,v = .ref a/\aQ K H a c/\c.length=n/\t c e H Q
def qjp{c:qy}{k:Nat}{t:iV}{n:Nat}(D:X.calm=true)(h:bB X c t)(B:(assignEach c X.env).length=n:=by rfl)(f:(assignEach c X.env).findIdx? (·.1)=none:=by rfl):PG X (.Tuple c k pos) (OD X.K n t):=by
 intro l s i H v u Q I r hw;obtain⟨a,m,G,A,C,hw⟩:=hw;subst G;cases r;obtain⟨w,j,z,L⟩:=I.tuple A;refine assign_Tuple_tuple (I.ok.hd D) z (by simp[B,<- C,j.length]) f λE y=>?_;have J:Inv X l i H {s with heap:=E}:=I.kept (t':=s.toks) λb o e=>y b o (qwk (qv2 e)) e;exact h l _ i H m _ Q J (by simpa using j) hw
@[simp] def qjq(c e:TE)(t:zN):TG:=λv a H Q=>c a H λo j=>e a j λi h=>t o i v h λf=>Q a f
def ZP(G:PE X o l)(J:PE X i m)(E:zP X t)(L:∀v,assign (.Subscript o i pos) X.env v=(do
   let a <- holding [v] (eval o X.env)
   let e <- holding [v,a] (eval i X.env)
   standAt pos
   holding [v,a,e] (setItem a e v)
   release [v,a,e] []):=by intro _;rfl):PG X (.Subscript o i pos) (qjq l m t):=by
 intro j s f H v u Q I r h;rw[L];refine qvT (qwL (aD (G j s f H _ I h) λa w c=>?_));obtain⟨x,Y,O,A,D⟩:=c;refine qvT (qwL (aD (J j w f Y _ O D) λe n c=>?_));obtain⟨y,U,N,z,C⟩:=c;refine qvT (qw8 (qvT (qwL (aD (E j n f U x y v a e u _ N A z r C) λ_ s3 c=>?_))));obtain⟨T,M,B⟩:=c;exact wpAny_release #[f,T,M,B]
@[simp] def wQ(c:TE)(g:TG):TS:=λD a H=>c a H λx e=>g x a e D.nx
def Hf(u:PE X e j)(r:PG X a g)(o:swapsWithSole [a] e pos.line X.env=pure false:=by rfl)(hw:swappedStores [a] e X.env=pure none:=by rfl)(w:(assignEach [a] X.env).map (·.2)=[assign a X.env]:=by rfl):PS X (.Assign [a] e pos) (wQ j g):=by
 intro f s c H D I h;refine wpAny_Assign_stores (aD (u f s c H _ I h) λv l i=>?_) o hw;obtain⟨x,z,y,m,n⟩:=i;rw[w];exact aD (r f l c z x v _ y m n) λ_ A q=>q
def bF(A:X.N.Nodup)(u:X.N[i]? = some x)(o:Loc X.env.scope x)(z:PE X e j)(r:swapsWith e (some (.Name x a)) pos.line X.env=pure false:=by rfl)(w:wN X x:=by first|exact .inl rfl|exact .inr rfl|assumption):
  PS X (.Assign [.Name x a] e pos) (wQ j (wO i)):=by
 intro n s c H D I h;refine wpAny_Assign_Name (aD (z n s c H _ I h) λv J f=>?_) r;obtain⟨y,E,C,l,m⟩:=f;exact Dd C A u o l (λG B=>#[_,E,B,m]) w
@[simp] def ZQ(i j:Nat)(e:TA):TS:=λD a H=>e a H λc f=>∃v w,c=[v,w]/\D.nx ((a.set i (some v)).set j (some w)) f
def ZR{n k2 z}(hc:X.calm=true)(L:X.N.Nodup)(hi:X.N[i]? = some x)(hj:X.N[j]? = some y)(u:i≠j)(J:X.env.scope.names.lookup x=some .local)(G:X.env.scope.names.lookup y=some .local)(ha:PA X [a,b] U)(hw:swappedStores [.Tuple [.Name x C,.Name y B] n pt] (.Tuple [a,b] k2 z) X.env=pure (some [x,y]))(hs:swapsWithSole [.Tuple [.Name x C,.Name y B] n pt] (.Tuple [a,b] k2 z) pos.line X.env=pure false:=by rfl):
  PS X (.Assign [.Tuple [.Name x C,.Name y B] n pt] (.Tuple [a,b] k2 z) pos) (ZQ i j U):=by
 intro E s A H D I h;rw[exec_Assign_arm];refine qvT (qw8 ?_);rw[hs];refine qvT (qvW ?_);rw[if_neg (by decide)];refine qvT (Tuple_ (aD (ha _ E s A H _ I h) λT l Q=>?_));obtain⟨vs,O,I1,r1,m⟩:=Q;obtain⟨v,w,e1,m⟩:=m;subst e1;obtain⟨f,c,rfl,Y,jr⟩:∃f c,T=[f,c]/\RelV v f/\RelV w c:=by
  cases r1 with
  |cons p q=>
   cases q with
   |cons p' q'=>
    cases q';exact#[_,_,rfl,p,p']
 refine qxh ?_ (by show 2<=sizeLine;decide);have I2:Inv X E A O {l with heap:=l.heap.push {cls:=.type "tuple",data:=.seq [f,c].toArray}}:=I1.kept (t':=l.toks) λb o e=>qvV _ e;rw[hw];refine qvT (qvW ?_);show wX X (do rule "assign.swapped-stores";let items <- unpackItems (.ref l.heap.objs.size) 2 none;assignInOrder [λv=>bindName X.env y v,λv=>bindName X.env x v] items.reverse;pure Flow.next) _ _ _
 refine qvT (qxF (qvT (unpackItems_tuple (items:=[f,c].toArray) (I.ok.hd hc) (IsTup.new l.heap _) λh' r=>?_)));have I3:=I2.kept (h':=h') (t':=l.toks) λb o e=>r b o (qwk (qv2 e)) e;show wpAny _ _ (assignInOrder [λv=>bindName X.env y v,λv=>bindName X.env x v] [c,f] >>= λ_=>pure Flow.next) _ _ _;refine qvT (assignInOrder_cons (wpAny_bindName (Dd I3 L hj (.inl G) jr (λs2 I4=>?_) (.inr G))));refine assignInOrder_cons (wpAny_bindName (Dd I4 L hi (.inl J) Y (λs3 M=>assignInOrder_nil (qvW ?_)) (.inr J)));rw[List.set_comm _ _ (qxt u)] at M;exact#[_,O,M,m]
@[simp] def ZS(i:Nat)(e:TE)(c:qL):TS:=λD a H=>∃x,a[i]? = some (some x)/\e a H λy h=>c x y h λz f=>D.nx (a.set i (some z)) f
def qjr(hN:X.N.Nodup)(L:X.N[i]? = some x)(C:Loc X.env.scope x)(he:PE X e O)(ho:zQ X J M)(hf:wN X x:=by first|exact .inl rfl|exact .inr rfl|assumption):
  PS X (.AugAssign (.Name x G) J e pos) (ZS i O M):=by
 intro B s E H D I h;obtain⟨v,e1,h⟩:=h;obtain⟨m,hn,hl⟩:=I.loc;have A:zL X.env.scope x:=by rcases C with k|k;exact .inl k;exact .inr (.inl k)
 obtain⟨u,r,l⟩:=hl i x v L e1 A;refine wpAny_AugAssign_Name ?_;have go:wX X (eval e X.env) (λw n=>wX X (inplaceOp J u w) (λr j=>wX X (storeName X.env x r) (λ_=>SP X B D .next) X.xe j) X.xe n) X.xe s:=by
  refine aD (he B s E H _ I h) λw Q o=>?_;obtain⟨y,H1,I1,U,q1⟩:=o;refine aD (ho B Q E H1 v y u w _ I1 r U q1) λz s2 o=>?_;obtain⟨zv,H2,I2,T,Y⟩:=o;exact Dd I2 hN L C T (λs3 I3=>#[_,H2,I3,Y]) hf
 rcases l with⟨a,hm⟩|⟨a,c,hc,f⟩
 ·exact wpAny_loadName_local I.ok.kind a hn hm go
 ·rcases a with a|a
  ·exact wpAny_loadName_cell I.ok.kind a hc f go
  ·rcases C with k|k
   ·have:X.env.scope.names.lookup x=some .free:=a;rw[k] at this;cases this
   ·have:X.env.scope.names.lookup x=some .free:=a;rw[k] at this;cases this
@[simp] def qtw(h j l:TE)(f:V->V->Hp->VK->Prop)(c:qL)(e:zN):TS:=λD a H=>h a H λo w=>j a w λi v=>f o i v λx u=>l a u λy r=>c x y r λz n=>e o i z n λm=>D.nx a m
@[simp] def ZV(f:Int->Int->Int):qL:=λx y H Q=>∃i j,x = .int i/\y = .int j/\Q (.int (f i j)) H
def qju:zQ X .Add (ZV λi j=>i+j):=by
 intro n s l H x y v u Q I c a h;obtain⟨i,j,f,e,q⟩:=h;subst f;subst e;obtain⟨t,rfl⟩:=c;obtain⟨m,rfl⟩:=a;exact iadd_int #[.int _,H,I.tok _,#[_,rfl],q]
end
def Dh(c:TT)(tb:TS):TS:=λD a H=>∃f:Nat->St->Hp->Prop,(∃m,f m a H)/\∀m a H,f m a H->
 c a H λb i=>if b=true then ∃N:St->Hp->Prop,(∀e j,N e j->∃h,h<m/\f h e j)/\tb {D with nx:=N,ct:=N,bk:=D.nx} a i else D.nx a i
def Hg(E:PassesOwn (model X.prog X.w) X.A X.env X.xe)(hc:PT X c tc)(hb:fQ X j tb):PS X (.While c j [] pos) (Dh tc tb):=by
 intro u s Q H D I h;obtain⟨aU,⟨m0,Y⟩,turn⟩:=h;refine wpAny_While (codeAny_whileLoop (λn s'=>∃i O,Inv X u i O s'/\aU n i O) ?_ m0 #[Q,H,I,Y]);rintro n s1 ⟨e,M,I1,U⟩;refine qxN E (aD (hc u s1 e M _ I1 (turn n e M U)) λb s2 T=>?_);obtain⟨L,J,o⟩:=T;cases b with
 |true=>
  obtain⟨N,G,o⟩:=o;rw[if_pos rfl];refine qxN E (aD (hb u s2 e L _ J o) λf s3 m=>?_);cases f with
  |next=>
   obtain⟨a,l,C,y⟩:=m;obtain⟨z,B,r⟩:=G a l y;exact#[z,B,a,l,C,r]
  |cont=>
   obtain⟨a,l,C,y⟩:=m;obtain⟨z,B,r⟩:=G a l y;exact#[z,B,a,l,C,r]
  |brk=>exact m
  |ret v=>exact m
 |false=>
  rw[if_neg qxo];exact wpAny_execs_nil #[e,L,J,o]
structure It where
 go:Nat->Hp->Prop
 jf:Nat->Hp->V->Hp->Prop
 stop:Nat->Hp->Prop
def dj(X:Cx)(a:QAC)(H:Hp)(b:Qv):Prop:=
 H b=none/\b≠X.env.locals/\b∉X.fs/\(b∈X.ex\/X.s₀.heap.objs.size<=b)/\(∀x c,X.env.cells.lookup x=some c->c≠b)/\∀p∈X.pn++a,p.1≠b
def Inv.lE{X:Cx}{f:QAC}{σ:St}{H h:Hp}{s:Zw}{b:Qv}(I:Inv X f σ H s)(a:s.heap.objs.size<=b)(j:h b=none):dj X f h b:=by
 refine#[j,qw_ (qv_ I.lt a),I.qje a,.inr (qv7 I.sz a),λx c e z=>?_,λp i z=>?_]
 ·obtain⟨v,q⟩:=I.cell x c e;exact absurd (qv_ q.lt (by rw[z];exact a)) (qwV _)
 ·exact absurd (qv_ (qv2 (I.pin p i).1) (by rw[z];exact a)) (qwV _)
structure Turn(P:J9)(w:zX)(K:W5)(tg:zp)(J:It)(fp:xQ)(it:Qv)(tn:Nat->Heap->Prop):Prop where
 mem:it∈fp
 obj:∀i h,tn i h->∀b∈fp,∃o,h.get? b=some o/\∀v,o.data≠.cell v
 keep:∀i h h',tn i h->(∀b∈fp,∀o,h.get? b=some o->h'.get? b=some o)->tn i h'
 item:∀(X:Cx),X.prog=P->X.w=w->X.K=K->X.calm=true->∀(i:Nat)(p_:QAC)(s:Zw)(σ:St)(H:Hp)(E:QAB),Inv X p_ σ H s->(∀b∈fp,dj X p_ H b)->tn i s.heap->J.go i H->
  wpAny (model P w) X.A (pyNext (.ref it)) (λr s1=>∃u,r=some u/\
   wpAny (model P w) X.A (letOwnedTupleGo tg (.ref it) u) (λ_ s2=>∃x H',Inv X p_ σ H' s2/\RelV x u/\J.jf i H x H'/\tn (i+1) s2.heap/\∀b∈fp,H' b=none) E s1) E s
 done:∀(X:Cx),X.prog=P->X.w=w->X.K=K->X.calm=true->∀(i:Nat)(p_:QAC)(s:Zw)(σ:St)(H:Hp)(E:QAB),Inv X p_ σ H s->(∀b∈fp,dj X p_ H b)->tn i s.heap->J.stop i H->
  wpAny (model P w) X.A (pyNext (.ref it)) (λr s1=>r=none/\Inv X p_ σ H s1) E s
 self:∀(A:zY)(i:Nat)(s:Zw)(Q:QAB)(E:QAB),tn i s.heap->Q (.ref it) s->wpAny (model P w) A (pyIter (.ref it)) Q E s
abbrev TI:=St->Hp->(It->Hp->Prop)->Prop
def PIE(X:Cx)(h:QAC)(σ:St)(l:zp)(R:It->Hp->Prop)(a:zT)(f:Zw):Prop:=
 ∃(i:Qv)(j:xQ)(e:Nat->Heap->Prop)(J:It)(c:Hp),a = .ref i/\Inv X h σ c f/\Turn X.prog X.w X.K l J j i e/\e 0 f.heap/\(∀b∈j,dj X h c b)/\R J c
def PI(X:Cx)(f iter:zp)(e:TI):Prop:=
 ∀(c:QAC)(s:Zw)(a:St)(H:Hp)(R:It->Hp->Prop),Inv X c a H s->e a H R->
  wX X (eval iter X.env) (λv h=>wX X (pyIter v) (PIE X c a f R) X.xe h) X.xe s
def O1{M:Model}{A:zY}{E:QAB}{s:Zw}{c:zp}{it:Qv}{u:zT}{o:Obj}{n:String}{vs:qx}{Q:xu}(e:s.heap.get? it=some o)(j:o.cls = .type n)(i:o.data = .fields vs)(f : ["enumerate", "zip", "dict_itemiterator", "dict_reverseitemiterator", "odict_iterator", "itertools.zip_longest", "itertools.pairwise"].contains n=false)(a:Q () s):wpAny M A (letOwnedTupleGo c (.ref it) u) Q E s:=by
 unfold letOwnedTupleGo;cases c <;> first
  |exact qvW a
  |(cases u <;> first
    |exact qvW a
    |(refine qvT (wpAny_load e ?_)
      rw[j,i];show wpAny M A (if (["enumerate", "zip", "dict_itemiterator", "dict_reverseitemiterator", "odict_iterator", "itertools.zip_longest", "itertools.pairwise"].contains n && vs[0]? == some (rawInt _))=true then _ else _) Q E s
      rw[if_neg (by intro h;rw[f,Bool.false_and] at h;cases h)];exact qvW a))
def lF(K:W5)(a:Qv):It:=
 #[λi H=>∃c x,au K H a c/\c[i]? = some x,λi H x e=>e=H/\∀c,au K H a c->c[i]? = some x,λi H=>∃c,au K H a c/\c.length<=i]
def tM(K:W5)(a:Qv):It:=
 #[λi H=>∃c x,aQ K H a c/\c[i]? = some x,λi H x e=>e=H/\∀c,aQ K H a c->c[i]? = some x,λi H=>∃c,aQ K H a c/\c.length<=i]
def mG(lo:Int)(n:Nat):It:=#[λi _=>i<n,λi H x a=>a=H/\x = .int (lo+i),λi _=>n<=i]
def ZW{P:J9}{w:zX}{K:W5}{Y:zp}(a it:Qv):Turn P w K Y (lF K a) [it] it (λi h=>h.IsListIter it a i) where
 mem:=by simp
 obj:=λi h st b f=>by
  have e:b=it:=by simpa using f
  subst e;obtain⟨o,e,c,d⟩:=st;exact#[o,e,λv z=>by rw[d] at z;cases z]
 keep:=λi h n st k=>st.at λo e=>k it (by simp) o e
 item:=by
  intro X C hw D T i Q s O H E I m st B;subst C hw D;obtain⟨U,x,l,A⟩:=B;obtain⟨y,r,p,hz⟩:=I.list l;obtain⟨u,hu,ru⟩:=r.get A;obtain⟨N,M,f2,L,J,G⟩:=m it (by simp);refine wpAny_pyNext_list_item st p.isList (x:=u) (by simpa using hu) λn j sb=>?_;have I1:Inv X Q O H {s with heap:=n}:=I.turned (t':=s.toks) (λb o f e=>(sb.2 b f).trans e) N M L J G;obtain⟨o,e,c,d⟩:=id j;exact#[u,rfl,O1 (s:={s with heap:=n}) e c d (by decide) #[x,H,I1,ru,#[rfl,λys hy=>by rw[I.Dg hy l];exact A],j,λb f=>(m b f).1]]
 done:=by
  intro X C hw D T i Q s O H E I m st B;subst C hw D;obtain⟨U,l,A⟩:=B;obtain⟨y,r,p,hz⟩:=I.list l;obtain⟨N,M,f2,L,J,G⟩:=m it (by simp);have hl:=r.length;exact wpAny_pyNext_list_end (I.ok.hd T) st p.isList (by simp;lia) λn eb=>#[rfl,I.turned (t':=s.toks) (λb o f e=>eb b o f e) N M L J G]
 self:=λ_ _ _ _ _ st h=>wpAny_pyIter_listiter st h
def ZX{P:J9}{w:zX}{K:W5}{Y:zp}(a it:Qv):Turn P w K Y (tM K a) [it] it (λi h=>h.IsTupleIter it a i) where
 mem:=by simp
 obj:=λi h st b j=>by
  have e:b=it:=by simpa using j
  subst e;obtain⟨o,e,c,d⟩:=st;exact#[o,e,λv z=>by rw[d] at z;cases z]
 keep:=λi h r st k=>st.at λo e=>k it (by simp) o e
 item:=by
  intro X C hw D T i Q s O H E I n st B;subst C hw D;obtain⟨U,x,m,A⟩:=B;obtain⟨f,y,p,hz⟩:=I.tuple m;obtain⟨u,hu,ru⟩:=y.get A;obtain⟨N,M,f2,L,J,G⟩:=n it (by simp);refine wpAny_pyNext_tuple_item st (show s.heap.IsTuple a f.toArray from p) (x:=u) (by simpa using hu) λr l sb=>?_;have I1:Inv X Q O H {s with heap:=r}:=I.turned (t':=s.toks) (λb o j e=>(sb.2 b j).trans e) N M L J G;obtain⟨o,e,c,d⟩:=id l;exact#[u,rfl,O1 (s:={s with heap:=r}) e c d (by decide) #[x,H,I1,ru,#[rfl,λys hy=>by rw[I.ZG hy m];exact A],l,λb j=>(n b j).1]]
 done:=by
  intro X C hw D T i Q s O H E I n st B;subst C hw D;obtain⟨U,m,A⟩:=B;obtain⟨f,y,p,hz⟩:=I.tuple m;obtain⟨N,M,f2,L,J,G⟩:=n it (by simp);have hl:=y.length;exact wpAny_pyNext_tuple_end (I.ok.hd T) st (show s.heap.IsTuple a f.toArray from p) (by simp;omega) λr eb=>#[rfl,I.turned (t':=s.toks) (λb o j e=>eb b o j e) N M L J G]
 self:=λ_ _ _ _ _ st h=>wpAny_pyIter_tupleiter st h
def qjv{P:J9}{w:zX}{K:W5}{M:zp}(it:Qv)(lo:Int)(n:Nat):Turn P w K M (mG lo n) [it] it (λi h=>IsRangeIter h it (lo+(i:Nat) * 1) ((n:Int) - (i:Nat)) 1) where
 mem:=by simp
 obj:=λi h st b a=>by
  have e:b=it:=by simpa using a
  subst e;exact#[_,st,λv z=>by
   have z':Data.fields _=Data.cell v:=z;cases z']
 keep:=λi h j st k=>k it (by simp) _ st
 item:=by
  intro X r hw u m i L s G H E I f st l;subst r hw u;obtain⟨D,C,Q,B,A,y⟩:=f it (by simp);have U:=Walks.range (prog:=X.prog) (w:=X.w) (I.ok.hd m) it lo 1 n;refine U.item i s _ _ l st λv j J O c N=>?_;obtain⟨t,rfl⟩:=O;have Y:Inv X L G H {s with heap:=j,toks:=J}:=I.turned (λb o a e=>N b o (by simpa using a) e) D C B A y;refine#[_,rfl,O1 (s:={s with heap:=j,toks:=J}) (n:= "range_iterator") c rfl rfl (by decide) #[.int (lo+i),H,Y,#[t,?_],#[rfl,rfl],c,λb a=>(f b a).1]];rw[Int.mul_one]
 done:=by
  intro X r hw u m i L s G H E I f st l;subst r hw u;obtain⟨D,C,Q,B,A,y⟩:=f it (by simp);exact wpAny_pyNext_range_end (I.ok.hd m) st (by have:n<=i:=l;lia) λj T=>#[rfl,I.turned (t':=s.toks) (λb o a e=>T b o a e) D C B A y]
 self:=λ_ _ _ _ _ st h=>wpAny_pyIter_rangeiter st h
section
variable {X:Cx}{tg:zp}
@[simp] def O2(K:W5)(h:TE):TI:=λe H R=>h e H λx c=>∃a,x = .ref a/\(∃f,au K c a f)/\R (lF K a) c
@[simp] def Z0(K:W5)(h:TE):TI:=λe H R=>h e H λx c=>∃a,x = .ref a/\(∃f,aQ K c a f)/\R (tM K a) c
def qjw(z:PE X l m):PI X tg l (O2 X.K m):=by
 intro u s i H R I h;refine aD (z u s i H _ I h) λv c j=>?_;obtain⟨x,B,f,n,r⟩:=j;obtain⟨a,e,⟨C,y⟩,q⟩:=r;subst e;cases n;obtain⟨w,D,p,E⟩:=f.list y;refine qyh p.isList ?_;refine#[c.heap.objs.size,[c.heap.objs.size],_,_,B,rfl,f.kept (t':=c.toks) λb o e=>qvV _ e,ZW a _,#[_,qv4 _ rfl,rfl,rfl],λb A=>?_,q];have e:b=c.heap.objs.size:=by simpa using A
 subst e;exact f.lE (qvY _) (f.hok.fresh (qvY _))
def qjx(z:PE X l n):PI X tg l (Z0 X.K n):=by
 intro w s j H R I h;refine aD (z w s j H _ I h) λv c m=>?_;obtain⟨x,B,f,r,u⟩:=m;obtain⟨a,e,⟨C,y⟩,q⟩:=u;subst e;cases r;obtain⟨i,D,p,E⟩:=f.tuple y;refine qxG (show c.heap.IsTuple a i.toArray from p) ?_;refine#[c.heap.objs.size,[c.heap.objs.size],_,_,B,rfl,f.kept (t':=c.toks) λb o e=>qvV _ e,ZX a _,#[_,qv4 _ rfl,rfl,rfl],λb A=>?_,q];have e:b=c.heap.objs.size:=by simpa using A
 subst e;exact f.lE (qvY _) (f.hok.fresh (qvY _))
def Z1{c:QAC}{σ:St}{H:Hp}{s:Zw}{R:It->Hp->Prop}{E:QAB}{lo a:Int}{t u v:Tok}{tk:Nat}(I:Inv X c σ H s)(m : -(2 ^ 62)<=lo)(l:lo<2 ^ 62)(j : -(2 ^ 62)<=a)(i:a<2 ^ 62)(q:R (mG lo (a - lo).toNat) H):wX X (pyIter (.ref s.heap.objs.size)) (PIE X c σ tg R) E {s with heap:=s.heap.push {cls:=.type "range",data:=.fields [.int lo t,.int a u,.int 1 v].toArray},toks:=tk}:=by
 refine wpAny_pyIter_range (IsRange.new ..) (small_one m l j i) ?_;have f:Inv X c σ H {s with heap:=s.heap.push {cls:=.type "range",data:=.fields [.int lo t,.int a u,.int 1 v].toArray},toks:=tk}:=I.kept λb o e=>qvV _ e;refine#[(s.heap.push {cls:=.type "range",data:=.fields [.int lo t,.int a u,.int 1 v].toArray}).objs.size,[(s.heap.push {cls:=.type "range",data:=.fields [.int lo t,.int a u,.int 1 v].toArray}).objs.size],_,_,H,rfl,
  f.kept (t':=tk) λb o e=>qvV _ e,qjv _ lo (a - lo).toNat,?_,λb h=>?_,q]
 ·have r:lo+((0:Nat):Int) * 1=lo:=by simp
  have n:(((a - lo).toNat:Nat):Int) - ((0:Nat):Int)=Builtin.Range.rangeSize lo a 1:=by rw[rangeSize_one];split <;> lia
  show IsRangeIter _ _ (lo+((0:Nat):Int) * 1) ((((a - lo).toNat:Nat):Int) - ((0:Nat):Int)) 1;rw[r,n];exact qv4 _ rfl
 ·have e:b=(s.heap.push {cls:=.type "range",data:=.fields [.int lo t,.int a u,.int 1 v].toArray}).objs.size:=by simpa using h
  subst e;exact f.lE (qvY _) (f.hok.fresh (qvY _))
@[simp] def Z2(e:TA):TI:=λa H R=>e a H λc f=>∃j:Int,c=[.int j]/\-(2 ^ 62)<=j/\j<2 ^ 62/\R (mG 0 j.toNat) f
@[simp] def Z4(e:TA):TI:=λa H R=>e a H λc f=>∃i j:Int,c=[.int i,.int j]/\(-(2 ^ 62)<=i/\i<2 ^ 62/\-(2 ^ 62)<=j/\j<2 ^ 62)/\R (mG i (j - i).toNat) f
def Hh(y:Gl X "range")(w:X.mg "range" = none)(z:PA X [a] l)(v:starEach [a] X.env=[(false,eval a X.env)]:=by rfl):PI X tg (.Call (.Name "range" p) [a] [] pos) (Z2 l):=by
 intro u s f H R I h;refine Call_ (lB I y w boot_range (qwB (aD (z pos u s f H _ I h) λC D i=>?_) v rfl));obtain⟨B,E,A,n,c⟩:=i;obtain⟨j,e,c,o,q⟩:=c;subst e;cases n with
 |cons r m=>
  cases m;obtain⟨t,rfl⟩:=r;exact call_range_1 (Z1 A ⋯ ⋯ c o (by simpa using q))
def qjy{a b:zp}{m:TA}{p pos:Pos}(D:Gl X "range")(C:X.mg "range" = none)(E:PA X [a,b] m)(B:starEach [a,b] X.env=[(false,eval a X.env),(false,eval b X.env)]:=by rfl)(c:starEach [b] X.env=[(false,eval b X.env)]:=by rfl):
  PI X tg (.Call (.Name "range" p) [a,b] [] pos) (Z4 m):=by
 intro A s n H R I h;refine Call_ (lB I D C boot_range (qwB (aD (E pos A s n H _ I h) λL N o=>?_) (by rw[B,c]) (by rw[c];rfl)));obtain⟨J,O,G,u,l⟩:=o;obtain⟨i,j,e,⟨l,z,y,w⟩,q⟩:=l;subst e;cases u with
 |cons r f=>
  cases f with
  |cons v f=>
   cases f;obtain⟨t,rfl⟩:=r;obtain⟨M,rfl⟩:=v;exact call_range_2 (Z1 G l z y w q)
def O4(l:TI)(g:TG)(tb:TS):TS:=λD a H=>l a H λJ o=>∃h:Nat->Nat->St->Hp->Prop,(∃m,h 0 m a o)/\∀i m a H,h i m a H->
 (J.stop i H/\D.nx a H)\/(J.go i H/\∃N:St->Hp->Prop,(∀c e,N c e->∃j,j<m/\h (i+1) j c e)/\∀x e,J.jf i H x e->g x a e λf n=>tb {D with nx:=N,ct:=N,bk:=D.nx} f n)
def wR(a:xQ)(h:zf):QAC:=a.filterMap λb=>(h.get? b).map λo=>(b,o)
def tO(a:b∈c)(e:h.get? b=some o):(b,o)∈wR c h:=List.mem_filterMap.mpr #[b,a,by rw[e];rfl]
def qjz(a:p∈wR f h):p.1∈f/\h.get? p.1=some p.2:=by
 obtain⟨b,c,e⟩:=List.mem_filterMap.mp a;cases q:h.get? b with
 |none=>rw[q] at e;cases e
 |some o=>
  rw[q] at e;have i:(b,o)=p:=qwt e;subst i;exact#[c,q]
def Inv.pinned{a:QAC}{σ:St}{H:Hp}{s:Zw}{c:xQ}(I:Inv X a σ H s)(l:∀b∈c,dj X a H b)(j:∀b∈c,∃o,s.heap.get? b=some o/\∀v,o.data≠.cell v):Inv X (a++wR c s.heap) σ H s:=
 I.Zx λp i=>(qwc.mp i).elim (λz=>I.pin p (qwf _ z)) λz=>by
  obtain⟨f,e⟩:=qjz z;obtain⟨r,n,m,_⟩:=l p.1 f;obtain⟨o,h,d⟩:=j p.1 f;rw[e] at h;cases h;exact#[e,r,n,m,d]
def Inv.zR{a pl:QAC}{σ:St}{H:Hp}{s:Zw}(I:Inv X (a++pl) σ H s):Inv X a σ H s:=I.Zx λp c=>I.pin p (qwf _ (qww _ c))
def jT(U:PassesOwn (model X.prog X.w) X.A X.env X.xe)(hc:X.calm=true)(hi:PI X tg iter wi)(hg:PG X tg g)(y:fQ X a0 tb)(hs:∀x,foldedSetIterable iter X.env x=pure x:=by intro _;rfl):PS X (.For tg iter a0 [] pos) (O4 wi g tb):=by
 intro L s σ H D I h;refine wpAny_For (aD (hi L s σ H _ I h) λv s1 h1=>aD h1 λac s2 h2=>?_) hs;obtain⟨it,Y,tn,J,H2,e,I2,T,ab,f2,aU,⟨m0,w0⟩,turn⟩:=h2;subst e;have l:∀{C:Hp},(∀b∈Y,C b=none)->∀b∈Y,dj X L C b:=λhn b y=>#[hn b y,(f2 b y).2];refine codeAny_forLoop_any (λn s'=>∃i j C,Inv X L j C s'/\tn i s'.heap/\(∀b∈Y,C b=none)/\aU i n j C) ?_ m0 #[0,σ,H2,I2,ab,λb y=>(f2 b y).1,w0];rintro n s3 ⟨i,c,H3,I3,O,nO,w3⟩
 rcases turn i n c H3 w3 with⟨M,qn⟩|⟨go,N,hN,step⟩
 ·refine qxN U (aD (T.done X rfl rfl rfl hc i L s3 c H3 X.xe I3 (l nO) O M) λr s4 G=>?_);obtain⟨hr,I4⟩:=G;subst hr;exact wpAny_execs_nil #[c,H3,I4,qn]
 ·refine qxN U (aD (T.item X rfl rfl rfl hc i L s3 c H3 X.xe I3 (l nO) O go) λr s4 G=>?_);obtain⟨u,hr,h4⟩:=G;subst hr;refine qxN U (aD h4 λ_ s5 G=>?_);obtain⟨x,H5,I5,r5,y5,jt,wU⟩:=G;have wV:=I5.pinned (l wU) (T.obj _ _ jt);refine qxN U (aD (hg _ s5 c H5 x u _ wV r5 (step x H5 y5)) λ_ s6 G=>?_);obtain⟨aa,H6,I6,q6⟩:=G;refine qxN U (aD (y _ s6 aa H6 _ I6 q6) λf s7 E=>?_);have again:∀{a:St}{B:Hp},Inv X (L++wR Y s5.heap) a B s7->N a B->∃m,m<n/\∃i j C,Inv X L j C s7/\tn i s7.heap/\(∀b∈Y,C b=none)/\aU i m j C:=λ{a B} z Q=>by
   obtain⟨m',hm,w7⟩:=hN a B Q;refine#[m',hm,i+1,a,B,z.zR,T.keep _ _ _ jt λb y o e=>(z.pin (b,o) (qwf _ (qwf _ (tO y e)))).1,λb y=>?_,w7];obtain⟨o,e,d⟩:=T.obj _ _ jt b y;exact(z.pin (b,o) (qwf _ (qwf _ (tO y e)))).2.1
  cases f with
  |next=>obtain⟨a,B,z,Q⟩:=E;exact again z Q
  |cont=>obtain⟨a,B,z,Q⟩:=E;exact again z Q
  |brk=>obtain⟨a,B,z,E⟩:=E;exact#[a,B,z.zR,E]
  |ret v=>obtain⟨x7,a,B,z,r7,E⟩:=E;exact#[x7,a,B,z.zR,r7,E]
end
def qjA{K:W5}{a:Qv}{xs:kE}{g:TG}{tb:TS}{D:Ends}{σ:St}{H:Hp}(Pv:yO)(A:Pv 0 σ H)(v:∀i σ H,i<=xs.length->Pv i σ H->au K H a xs)(u:∀i x σ H,xs[i]? = some x->Pv i σ H->g x σ H λc n=>tb {D with nx:=Pv (i+1),ct:=Pv (i+1),bk:=D.nx} c n)(z:∀σ H,Pv xs.length σ H->D.nx σ H):
  ∃l:Nat->Nat->St->Hp->Prop,(∃m,l 0 m σ H)/\∀i m σ H,l i m σ H->
   ((lF K a).stop i H/\D.nx σ H)\/((lF K a).go i H/\∃N:St->Hp->Prop,(∀f h,N f h->∃o,o<m/\l (i+1) o f h)/\∀x h,(lF K a).jf i H x h->g x σ h λc n=>tb {D with nx:=N,ct:=N,bk:=D.nx} c n):=by
 refine#[λi m σ H=>m=xs.length - i/\i<=xs.length/\Pv i σ H,#[xs.length,by simp,qwF _,A],?_];rintro i m σ H ⟨rfl,w,p⟩;have q:=v i σ H w p
 by_cases j:i<xs.length
 ·refine .inr #[#[xs,xs[i],q,by simp[j]],Pv (i+1),λf h r=>#[xs.length - (i+1),∅,rfl,j,r],λx h y=>?_];obtain⟨e,y⟩:=y;subst e;exact u i x σ _ (y xs q) p
 ·have e:i=xs.length:=⋯
  subst e;exact .inl #[#[xs,q,qvY _],z σ H p]
def qjB{K:W5}{a:Qv}{xs:kE}{g:TG}{tb:TS}{D:Ends}{σ:St}{H:Hp}(Pv:yO)(A:Pv 0 σ H)(v:∀i σ H,i<=xs.length->Pv i σ H->aQ K H a xs)(u:∀i x σ H,xs[i]? = some x->Pv i σ H->g x σ H λc n=>tb {D with nx:=Pv (i+1),ct:=Pv (i+1),bk:=D.nx} c n)(z:∀σ H,Pv xs.length σ H->D.nx σ H):
  ∃l:Nat->Nat->St->Hp->Prop,(∃m,l 0 m σ H)/\∀i m σ H,l i m σ H->
   ((tM K a).stop i H/\D.nx σ H)\/((tM K a).go i H/\∃N:St->Hp->Prop,(∀f h,N f h->∃o,o<m/\l (i+1) o f h)/\∀x h,(tM K a).jf i H x h->g x σ h λc n=>tb {D with nx:=N,ct:=N,bk:=D.nx} c n):=by
 refine#[λi m σ H=>m=xs.length - i/\i<=xs.length/\Pv i σ H,#[xs.length,by simp,qwF _,A],?_];rintro i m σ H ⟨rfl,w,p⟩;have q:=v i σ H w p
 by_cases j:i<xs.length
 ·refine .inr #[#[xs,xs[i],q,by simp[j]],Pv (i+1),λf h r=>#[xs.length - (i+1),∅,rfl,j,r],λx h y=>?_];obtain⟨e,y⟩:=y;subst e;exact u i x σ _ (y xs q) p
 ·have e:i=xs.length:=∅
  subst e;exact .inl #[#[xs,q,qvY _],z σ H p]
def qjC{lo:Int}{n:Nat}{g:TG}{tb:TS}{D:Ends}{σ:St}{H:Hp}(Pv:yO)(w:Pv 0 σ H)(u:∀i σ H,i<n->Pv i σ H->g (.int (lo+i)) σ H λa l=>tb {D with nx:=Pv (i+1),ct:=Pv (i+1),bk:=D.nx} a l)(v:∀σ H,Pv n σ H->D.nx σ H):
  ∃j:Nat->Nat->St->Hp->Prop,(∃m,j 0 m σ H)/\∀i m σ H,j i m σ H->
   ((mG lo n).stop i H/\D.nx σ H)\/((mG lo n).go i H/\∃N:St->Hp->Prop,(∀c h,N c h->∃o,o<m/\j (i+1) o c h)/\∀x h,(mG lo n).jf i H x h->g x σ h λa l=>tb {D with nx:=N,ct:=N,bk:=D.nx} a l):=by
 refine#[λi m σ H=>m=n - i/\i<=n/\Pv i σ H,#[n,by simp,qwF _,w],?_];rintro i m σ H ⟨rfl,z,p⟩
 by_cases f:i<n
 ·refine .inr #[f,Pv (i+1),λc h r=>#[n - (i+1),∅,rfl,f,r],λx h y=>?_];obtain⟨e,y⟩:=y;subst e y;exact u i σ _ f p
 ·have e:i=n:=⋯
  subst e;exact .inl #[qvY _,v σ H p]
def qjD(Pv:yh)(μ:St->Hp->Nat)(n:Pv σ H)(j:∀σ H,Pv σ H->c σ H λb e=>if b=true then tb {D with nx:=λa f=>Pv a f/\μ a f<μ σ H,ct:=λa f=>Pv a f/\μ a f<μ σ H,bk:=D.nx} σ e else D.nx σ e)(mono:∀σ H Q h,(∀b e,Q b e->h b e)->c σ H Q->c σ H h):Dh c tb D σ H:=by
 refine#[λm σ H=>m=μ σ H/\Pv σ H,#[_,rfl,n],?_];rintro m σ H ⟨rfl,p⟩;refine mono σ H _ _ (λb e q=>?_) (j σ H p);cases b with
 |true=>exact#[_,λa f ⟨i,l⟩=>#[_,l,rfl,i],q]
 |false=>exact q
abbrev R2:=V->V->Hp->VK->Prop
def aZ(X:Cx)(f:Value->Value->Sem Value)(r:R2):Prop:=
 ∀(c:QAC)(s:Zw)(a:St)(H:Hp)(x y:V)(v u:zT)(Q:VK),Inv X c a H s->RelV x v->RelV y u->r x y H Q->
  wX X (f v u) (EP X c a Q) X.xe s
def wW(X:Cx)(f:Value->Sem Value)(r:V->Hp->VK->Prop):Prop:=
 ∀(c:QAC)(s:Zw)(a:St)(H:Hp)(x:V)(v:zT)(Q:VK),Inv X c a H s->RelV x v->r x H Q->
  wX X (f v) (EP X c a Q) X.xe s
def bY(X:Cx)(f:zT)(r:yZ):Prop:=
 ∀(h:QAC)(s:Zw)(a:St)(H:Hp)(c:kE)(e:QAE)(Q:VK),Inv X h a H s->Vals c e->r c H Q->
  wX X (call f e) (EP X h a Q) X.xe s
@[simp] def dX(r:R2)(c tb:TE):TE:=λa H Q=>c a H λx f=>tb a f λy e=>r x y e Q
@[simp] def Z5(r:V->Hp->VK->Prop)(c:TE):TE:=λa H Q=>c a H λx e=>r x e Q
@[simp] def rI(C:Int->Int->Prop)(g:Int->Int->V):R2:=λx y H Q=>∃i j,x = .int i/\y = .int j/\C i j/\Q (g i j) H
@[simp] def qM(g:Int->Int->V):R2:=λx y H Q=>∃i j,x = .int i/\y = .int j/\Q (g i j) H
@[simp] def rU(g:Int->V):V->Hp->VK->Prop:=λx H Q=>∃i,x = .int i/\Q (g i) H
def O5(E:PE X a o)(D:PE X b tb){l:QAC}{s:Zw}{σ:St}{H:Hp}{R:V->V->Hp->Prop}(I:Inv X l σ H s)(h:o σ H λx n=>tb σ n λy c=>R x y c){Q:QAB}{f:Value->Value->Sem Value}(C:∀v u j x y c,Inv X l σ c j->RelV x v->RelV y u->R x y c->wX X (f v u) Q X.xe j):
  wX X (eval a X.env) (λv i=>wX X (eval b X.env) (λu e=>wX X (f v u) Q X.xe e) X.xe i) X.xe s:=by
 refine aD (E l s σ H _ I h) λv r m=>?_;obtain⟨x,n,J,z,B⟩:=m;refine aD (D l r σ n _ J B) λu j m=>?_;obtain⟨y,c,G,w,A⟩:=m;exact C v u j x y c G z w A
def bI(n:aZ X (binaryOp m) r)(w:PE X a e)(o:PE X b tb):PE X (.BinOp a m b pos) (dX r e tb):=by
 intro l s c H Q I h;exact wpAny_BinOp (O5 w o I h λv u f x y A z j i q=>n l f c A x y v u Q z j i q)
def Hi(o:wW X (unaryOp n) r)(u:PE X a i):PE X (.UnaryOp n a pos) (Z5 r i):=by
 intro e s c H Q I h;refine UnaryOp_ (aD (u e s c H _ I h) λv j f=>?_);obtain⟨x,y,w,l,m⟩:=f;exact o e j c y x v Q w l m
def Hj{f:Value->Value->Sem Value}{C:Int->Int->Prop}{g:Int->Int->Int}(rule:∀(i j:Int)(t u:Tok)(s:Zw)(Q:QAB)(E:QAB),C i j->Q (.int (g i j) s.toks) {s with toks:=s.toks+1}->wX X (f (.int i t) (.int j u)) Q E s):
  aZ X f (rI C λi j=>.int (g i j)):=by
 intro n s m H x y v u Q I e c h;obtain⟨i,j,rfl,rfl,l,q⟩:=h;obtain⟨t,rfl⟩:=e;obtain⟨a,rfl⟩:=c;exact rule i j t a s _ _ l #[.int (g i j),H,I.tok _,#[_,rfl],q]
def Z6{f:Value->Value->Sem Value}{g:Int->Int->Int}(rule:∀(i j:Int)(t u:Tok)(s:Zw)(Q:QAB)(E:QAB),Q (.int (g i j) s.toks) {s with toks:=s.toks+1}->wX X (f (.int i t) (.int j u)) Q E s):
  aZ X f (qM λi j=>.int (g i j)):=by
 intro m s l H x y v u Q I e c h;obtain⟨i,j,rfl,rfl,q⟩:=h;obtain⟨t,rfl⟩:=e;obtain⟨a,rfl⟩:=c;exact rule i j t a s _ _ #[.int (g i j),H,I.tok _,#[_,rfl],q]
def Hl{f:Value->Value->Sem Value}{g:Int->Int->Bool}(rule:∀(i j:Int)(t u:Tok)(s:Zw)(Q:QAB)(E:QAB),Q (.bool (g i j)) s->wX X (f (.int i t) (.int j u)) Q E s):
  aZ X f (qM λi j=>.bl (g i j)):=by
 intro m s l H x y v u Q I e c h;obtain⟨i,j,rfl,rfl,q⟩:=h;obtain⟨t,rfl⟩:=e;obtain⟨a,rfl⟩:=c;exact rule i j t a s _ _ #[.bl (g i j),H,I,rfl,q]
@[simp] def Di(i j:Int):Prop:=0<j/\j<1073741824
@[simp] def zU(i j:Int):Prop:=0<=j/\j<=1000000/\i.natAbs<2 ^ 64
@[simp] def Ho(i j:Int):Prop:=(-(2 ^ 64)<i/\i<2 ^ 64)\/(-(2 ^ 64)<j/\j<2 ^ 64)
def Ho.ok(h:Ho i j):IntMulOk i j:=by
 rcases h with⟨c,a⟩|⟨c,a⟩
 ·exact .of_left (intBits_le_64 c a)
 ·exact .of_right (intBits_le_64 c a)
def qjE:aZ X (binaryOp .Add) (qM λi j=>.int (i+j)):=Z6 λ_ _ _ _ _ _ _ q=>add_int q
def qjF:aZ X (binaryOp .Sub) (qM λi j=>.int (i - j)):=Z6 λ_ _ _ _ _ _ _ q=>sub_int q
def qjG:aZ X (binaryOp .Mult) (rI Ho λi j=>.int (i * j)):=Hj λ_ _ _ _ _ _ _ a q=>mul_int q a.ok
def qjH:aZ X (binaryOp .FloorDiv) (rI Di λi j=>.int (i / j)):=Hj λi j _ _ _ _ _ a q=>by
 have e:(0:Int)<j:=a.1;have c:j<1073741824:=a.2;exact floordiv_int ⋯ (by rw[Int.fdiv_eq_ediv_of_nonneg i ⋯];exact q) (.inl (PyProof.noPylong_small ∅))
def qjI:aZ X (binaryOp .Mod) (rI (λ_ j=>0<j) λi j=>.int (i % j)):=Hj λi j _ _ _ _ _ a q=>by
 have c:(0:Int)<j:=a;exact mod_int' ⋯ (by rw[Int.fmod_eq_emod_of_nonneg i ⋯];exact q)
def qjJ:aZ X (binaryOp .Pow) (rI zU λi j=>.int (i ^ j.toNat)):=Hj λ_ _ _ _ _ _ _ a q=>pow_int_small a.1 a.2.1 a.2.2 q
def unI{f:Value->Sem Value}{g:Int->Int}(rule:∀(i:Int)(t:Tok)(s:Zw)(Q:QAB)(E:QAB),Q (.int (g i) s.toks) {s with toks:=s.toks+1}->wX X (f (.int i t)) Q E s):
  wW X f (rU λi=>.int (g i)):=by
 intro e s c H x v Q I a h;obtain⟨i,rfl,q⟩:=h;obtain⟨t,rfl⟩:=a;exact rule i t s _ _ #[.int (g i),H,I.tok _,#[_,rfl],q]
def qjK:wW X (unaryOp .USub) (rU λi=>.int (-i)):=unI λ_ _ _ _ _ q=>neg_int q
def mH:V->V->Bool
 |.non,.non=>true|.non,.int _=>true|.int _,.non=>true|.non,.bl _=>true|.bl _,.non=>true|.non,.str _=>true|.str _,.non=>true
 |.int _,.int _=>true|.bl _,.bl _=>true|.str _,.str _=>true|.mD _,.mD _=>true
 |.int _,.str _=>true|.str _,.int _=>true|.bl _,.str _=>true|.str _,.bl _=>true
 |_,_=>false
@[simp] def Z7:R2:=λx y H Q=>mH x y=true/\Q (.bl (decide (x=y))) H
@[simp] def Z8:R2:=λx y H Q=>mH x y=true/\Q (.bl (!decide (x=y))) H
def Z9:decide (V.int i=V.int j)=(i == j):=by
 rw[qw3];simp
def Z_:decide (V.bl i=V.bl j)=(i == j):=by
 rw[qw3];simp
def qaa:decide (V.str i=V.str j)=(i == j):=by
 rw[qw3];simp
def qab:decide (V.mD i=V.mD j)=(i.toList == j.toList):=by
 rw[qw3];cases i;cases j;simp
def c7{a:QAC}{σ:St}{H:Hp}{s:Zw}{Q:VK}{k c:Bool}(I:Inv X a σ H s)(q:Q (.bl k) H)(e:k=c):EP X a σ Q (.bool c) s:=by
 subst e;exact#[.bl k,H,I,rfl,q]
def qjL:aZ X (compareOp .Eq) Z7:=by
 intro m s l H x y v u Q I f a h;obtain⟨e,q⟩:=h;cases x with
 |non=>
  cases f;cases y with
  |non=>cases a;exact PySem.EqNone.eq_none_none (c7 I q (by simp))
  |bl j=>cases a;exact PySem.EqNone.eq_none_bool (c7 I q (by simp))
  |int j=>obtain⟨c,rfl⟩:=a;exact PySem.EqNone.eq_none_int (c7 I q (by simp))
  |str j=>obtain⟨c,rfl⟩:=a;exact PySem.EqNone.eq_none_str (c7 I q (by simp))
  |_=>cases (show false=true from e)
 |bl i=>
  cases f;cases y with
  |non=>cases a;exact PySem.EqNone.eq_bool_none (c7 I q (by simp))
  |bl j=>cases a;exact eq_bool (c7 I q Z_)
  |str j=>obtain⟨c,rfl⟩:=a;exact PySem.EqMixed.eq_bool_str (c7 I q (by simp))
  |_=>cases (show false=true from e)
 |int i=>
  obtain⟨t,rfl⟩:=f;cases y with
  |non=>cases a;exact PySem.EqNone.eq_int_none (c7 I q (by simp))
  |int j=>obtain⟨c,rfl⟩:=a;exact eq_int (c7 I q Z9)
  |str j=>obtain⟨c,rfl⟩:=a;exact PySem.EqMixed.eq_int_str (c7 I q (by simp))
  |_=>cases (show false=true from e)
 |str i=>
  obtain⟨t,rfl⟩:=f;cases y with
  |non=>cases a;exact PySem.EqNone.eq_str_none (c7 I q (by simp))
  |bl j=>cases a;exact PySem.EqMixed.eq_str_bool (c7 I q (by simp))
  |int j=>obtain⟨c,rfl⟩:=a;exact PySem.EqMixed.eq_str_int (c7 I q (by simp))
  |str j=>obtain⟨c,rfl⟩:=a;exact eq_str (c7 I q qaa)
  |_=>cases (show false=true from e)
 |mD i=>
  obtain⟨t,rfl⟩:=f;cases y with
  |mD j=>obtain⟨c,rfl⟩:=a;exact W.eq_bytes (c7 I q qab)
  |_=>cases (show false=true from e)
 |_=>cases y <;> cases (show false=true from e)
def qjM:aZ X (compareOp .NotEq) Z8:=by
 intro m s l H x y v u Q I f a h;obtain⟨e,q⟩:=h;cases x with
 |non=>
  cases f;cases y with
  |non=>cases a;exact PySem.EqNone.ne_none_none (c7 I q (by simp))
  |bl j=>cases a;exact PySem.EqNone.ne_none_bool (c7 I q (by simp))
  |int j=>obtain⟨c,rfl⟩:=a;exact PySem.EqNone.ne_none_int (c7 I q (by simp))
  |str j=>obtain⟨c,rfl⟩:=a;exact PySem.EqNone.ne_none_str (c7 I q (by simp))
  |_=>cases (show false=true from e)
 |bl i=>
  cases f;cases y with
  |non=>cases a;exact PySem.EqNone.ne_bool_none (c7 I q (by simp))
  |bl j=>cases a;exact ne_bool (c7 I q (qws not Z_))
  |str j=>obtain⟨c,rfl⟩:=a;exact PySem.EqMixed.ne_bool_str (c7 I q (by simp))
  |_=>cases (show false=true from e)
 |int i=>
  obtain⟨t,rfl⟩:=f;cases y with
  |non=>cases a;exact PySem.EqNone.ne_int_none (c7 I q (by simp))
  |int j=>obtain⟨c,rfl⟩:=a;exact ne_int (c7 I q (qws not Z9))
  |str j=>obtain⟨c,rfl⟩:=a;exact PySem.EqMixed.ne_int_str (c7 I q (by simp))
  |_=>cases (show false=true from e)
 |str i=>
  obtain⟨t,rfl⟩:=f;cases y with
  |non=>cases a;exact PySem.EqNone.ne_str_none (c7 I q (by simp))
  |bl j=>cases a;exact PySem.EqMixed.ne_str_bool (c7 I q (by simp))
  |int j=>obtain⟨c,rfl⟩:=a;exact PySem.EqMixed.ne_str_int (c7 I q (by simp))
  |str j=>obtain⟨c,rfl⟩:=a;exact ne_str (c7 I q (qws not qaa))
  |_=>cases (show false=true from e)
 |mD i=>
  obtain⟨t,rfl⟩:=f;cases y with
  |mD j=>obtain⟨c,rfl⟩:=a;exact W.ne_bytes (c7 I q (qws not qab))
  |_=>cases (show false=true from e)
 |_=>cases y <;> cases (show false=true from e)
def qjN:aZ X (compareOp .Lt) (qM λi j=>.bl (decide (i<j))):=Hl λ_ _ _ _ _ _ _ q=>lt_int q
def qjO:aZ X (compareOp .LtE) (qM λi j=>.bl (decide (i<=j))):=Hl λ_ _ _ _ _ _ _ q=>le_int q
def qjP:aZ X (compareOp .Gt) (qM λi j=>.bl (decide (j<i))):=Hl λ_ _ _ _ _ _ _ q=>gt_int q
def qjQ:aZ X (compareOp .GtE) (qM λi j=>.bl (decide (j<=i))):=Hl λ_ _ _ _ _ _ _ q=>ge_int q
def qjR:aZ X (compareOp .In) (λx y H Q=>∃i j,x = .str i/\y = .str j/\Q (.bl (!(Builtin.Str.occurrences j i 0 j.length 1).isEmpty)) H):=by
 intro l s e H x y v u Q I c a h;obtain⟨i,j,rfl,rfl,q⟩:=h;obtain⟨t,rfl⟩:=c;obtain⟨f,rfl⟩:=a;exact in_str (c7 I q rfl)
def qjS:aZ X (compareOp .Is) (λx y H Q=>y = .non/\Q (.bl (decide (x = .non))) H):=by
 intro f s e H x y v u Q I a c h;obtain⟨rfl,q⟩:=h;cases c;refine is_none_gen (c7 I q ?_);cases x <;> first
  |(cases a;rfl)
  |(obtain⟨t,rfl⟩:=a;rfl)
def qac:aZ X (compareOp .IsNot) (λx y H Q=>y = .non/\Q (.bl (!decide (x = .non))) H):=by
 intro f s e H x y v u Q I a c h;obtain⟨rfl,q⟩:=h;cases c;refine isnot_none_gen (c7 I q ?_);cases x <;> first
  |(cases a;rfl)
  |(obtain⟨t,rfl⟩:=a;rfl)
def aZ.or(h:aZ X f r)(h':aZ X f j):aZ X f (λx y H Q=>r x y H Q\/j x y H Q):=by
 intro i s a H x y v u Q I e c q
 rcases q with q|q
 ·exact h i s a H x y v u Q I e c q
 ·exact h' i s a H x y v u Q I e c q
def bV(b:zp)(h:a≠.In:=by decide)(c:a≠.NotIn:=by decide):behindInMarks a b=false:=by
 have f:(a == CmpOp.In)=false:=by cases a <;> first|rfl|exact absurd rfl h
 have e:(a == CmpOp.NotIn)=false:=by cases a <;> first|rfl|exact absurd rfl c
 cases b <;> simp[behindInMarks,f,e]
def mJ(n:aZ X (compareOp c) r)(z:PE X a f)(w:PE X b tb)(o:behindInMarks c b=false):PE X (.Compare a [c] [b] pos) (dX r f tb):=by
 intro m s e H Q I h;exact wpAny_Compare1 (O5 z w I h λv u i x y B A l j q=>n m i e B x y v u Q A l j q) o
@[simp] def O6(t:TE):TT:=λa H Q=>t a H λx c=>∃k,x = .bl k/\Q k c
def qjT(E:aZ X (compareOp j) r)(L:PE X a l)(J:PE X b tb)(G:behindInMarks j b=false):PT X (.Compare a [j] [b] pos) (O6 (dX r l tb)):=by
 intro i s f H Q I h;refine wpAny_isTrue_Compare1 (aD (L i s f H _ I h) λv n ⟨x,Y,O,A,D⟩=>aD (J i n f Y _ O D) λu m ⟨y,U,N,w,C⟩=>
  aD (E i m f U x y v u _ N A w C) λc s3 ⟨z,T,M,o,k,e,B⟩=>?_) G
 subst e;cases o;exact qwS #[T,M,B]
def Hq(r h:R2)(f tb e:TE):TE:=λa H Q=>f a H λx l=>tb a l λy j=>r x y j λz c=>∃k,z = .bl k/\
 (if k=true then e a c λw' i=>h y w' i Q else Q (.bl false) c)
def qjU(ho:aZ X (compareOp o) r)(l:aZ X (compareOp j) O)(ha:PE X a C)(hb:PE X b tb)(hc:PE X c B)(hm:lastMarks [o,j] [b,c]=false:=by with_unfolding_all rfl):PE X (.Compare a [o,j] [b,c] pos) (Hq r O C tb B):=by
 intro i s f H Q I h;refine Compare_chain (aD (ha i s f H _ I h) λv J ⟨x,H1,I1,N,Y⟩=>chain_link (aD (hb i J f H1 _ I1 Y) λu G ⟨y,H2,I2,m,U⟩=>
  aD (ho i G f H2 x y v u _ I2 N m U) λd E ⟨z,A,w,M,k,e,n⟩=>?_)) hm
 subst e;cases M;refine qwS ?_;cases k with
 |false=>exact ite_ff #[.bl false,A,w,rfl,n]
 |true=>exact ite_tt (chain_last (aD (hc i E f A _ w n) λw' D ⟨z',H4,I4,L,T⟩=>l i D f H4 y z' u w' Q I4 m L T))
def qjV(ho:aZ X (compareOp w) r)(m:aZ X (compareOp j) U)(ha:PE X a D)(hb:PE X b tb)(hc:PE X c C)(hm:lastMarks [w,j] [b,c]=false:=by with_unfolding_all rfl):PT X (.Compare a [w,j] [b,c] pos) (O6 (Hq r U D tb C)):=by
 intro i s f H Q I h;refine isTrue_chain (aD (ha i s f H _ I h) λv L ⟨x,H1,I1,T,q1⟩=>test_link (aD (hb i L f H1 _ I1 q1) λu J ⟨y,H2,I2,n,q2⟩=>
  aD (ho i J f H2 x y v u _ I2 T n q2) λd G ⟨z,B,A,O,k,e,o⟩=>?_)) hm
 subst e;cases O;refine qwS ?_;cases k with
 |false=>
  obtain⟨k',e',q'⟩:=o;cases e';exact ite_ff #[B,A,q']
 |true=>
  refine ite_tt (test_last (aD (hc i G f B _ A o) λw' E l=>?_));obtain⟨z',H4,I4,N,q4⟩:=l;refine aD (m i E f H4 y z' u w' _ I4 n N q4) λd' s5 l=>?_;obtain⟨z2,H5,I5,M,k2,e2,Y⟩:=l;subst e2;cases M;exact qwS #[H5,I5,Y]
def wY:(sizeLine:Nat)<2 ^ 63:=by rw[sizeLine_eq];decide
def qjW:aZ X (binaryOp .Add) (λx y H Q=>∃i j,x = .str i/\y = .str j/\i.length+j.length<=sizeLine/\Q (.str (i++j)) H):=by
 intro n s l H x y v u Q I e c h;obtain⟨i,j,rfl,rfl,f,q⟩:=h;obtain⟨t,rfl⟩:=e;obtain⟨a,rfl⟩:=c;exact add_str (λa m=>#[.str (i++j),H,I.tok _,#[_,rfl],q]) f
def vals1{x:V}{us:QAE}(r:Vals [x] us):∃u,us=[u]/\RelV x u:=by
 cases r with
 |cons c a=>cases a;exact#[_,rfl,c]
def vals2{x y:V}{us:QAE}(r:Vals [x,y] us):∃u w',us=[u,w']/\RelV x u/\RelV y w':=by
 cases r with
 |cons f e=>
  cases e with
  |cons c a=>cases a;exact#[_,_,rfl,f,c]
def qjX:bY X (.builtin "abs") (λxs H Q=>∃i,xs=[.int i]/\Q (.int (if i<0 then -i else i)) H):=by
 intro f s a H xs c Q I r h;obtain⟨i,rfl,q⟩:=h;obtain⟨u,rfl,t,rfl⟩:=vals1 r;exact call_abs_int λu e=>#[.int (if i<0 then -i else i),H,I.tok _,#[_,rfl],q]
def qjY(c:X.calm=true):bY X (.builtin "max") (λxs H Q=>∃i j,xs=[.int i,.int j]/\Q (.int (if j > i then j else i)) H):=by
 intro n s e H xs f Q I r h;obtain⟨i,j,rfl,q⟩:=h;obtain⟨u,w',rfl,⟨t,rfl⟩,⟨m,rfl⟩⟩:=vals2 r;refine max_two_ints (I.ok.hd c) λo l k=>#[_,H,I.kept k,?_,q]
 by_cases a:j > i
 ·rw[if_pos a,if_pos a];exact#[_,rfl]
 ·rw[if_neg a,if_neg a];exact#[_,rfl]
def qjZ(c:X.calm=true):bY X (.builtin "min") (λxs H Q=>∃i j,xs=[.int i,.int j]/\Q (.int (if j<i then j else i)) H):=by
 intro n s e H xs f Q I r h;obtain⟨i,j,rfl,q⟩:=h;obtain⟨u,w',rfl,⟨t,rfl⟩,⟨m,rfl⟩⟩:=vals2 r;refine min_two_ints (I.ok.hd c) λo l k=>#[_,H,I.kept k,?_,q]
 by_cases a:j<i
 ·rw[if_pos a,if_pos a];exact#[_,rfl]
 ·rw[if_neg a,if_neg a];exact#[_,rfl]
def qj0:bY X (.type "int") (λxs H Q=>(∃i,xs=[.int i]/\Q (.int i) H)\/∃k,xs=[.bl k]/\Q (.int (if k then 1 else 0)) H):=by
 intro f s c H xs e Q I r h
 rcases h with⟨i,rfl,q⟩|⟨k,rfl,q⟩
 ·obtain⟨u,rfl,t,rfl⟩:=vals1 r;exact call_int_int #[.int i,H,I,#[_,rfl],q]
 ·obtain⟨u,rfl,a⟩:=vals1 r;cases a;exact call_int_bool #[.int (if k then 1 else 0),H,I.tok _,#[_,rfl],q]
def qj1:bY X (.builtin "divmod") (λxs H Q=>∃i j,xs=[.int i,.int j]/\Di i j/\∀p,H p=none->Q (.ref p) (upd H p (.tup [.int (i / j),.int (i % j)]))):=by
 intro m s c H xs f Q I r h;obtain⟨i,j,rfl,⟨v,n⟩,q⟩:=h;obtain⟨u,w',rfl,⟨t,rfl⟩,⟨l,rfl⟩⟩:=vals2 r;refine divmod_int ∅ ?_ (.inl (PyProof.noPylong_small ∅));rw[Int.fdiv_eq_ediv_of_nonneg i ∅,Int.fmod_eq_emod_of_nonneg i ∅];have a:H s.heap.objs.size=none:=I.hok.fresh (qvY _);refine#[.ref s.heap.objs.size,_,?_,rfl,q _ a];refine I.laid (λb o e=>qvV _ e) (qvY _) #[by simp only[qwj,List.length_nil];rw[sizeLine_eq];decide,[.int (i / j) s.toks,.int (i % j) (s.toks+1)],.cons #[_,rfl] (.cons #[_,rfl] .nil),?_];exact#[_,qv4 s.heap rfl,rfl,0,rfl]
structure wZ(h:zf)(x dx C:Qv)(mA:Zu):Prop where
 obj:h.get? x=some (W.instObj C dx)
 ns:h.Ns1 dx mA
 ne:dx≠x
def qj2{h:zf}{l:Qv}{i:Zu}(n:h.Ns1 l i):∃f,h.get? l=some f/\∀name,W.lookIn name f=some (i name):=by
 obtain⟨o,j,B,r,w,v,_,u⟩:=n;refine#[o,r,λname=>?_];have e:=u name;unfold nsFind findBy at e;rw[<- Array.find?_toList] at e;unfold W.lookIn;rw[w];dsimp only;split
 ·rename_i y q;rw[q] at e;exact qws some e
 ·rename_i q;rw[q] at e;have a:j.toList.any (·.refKey)=false:=by
   rw[List.any_eq_false];intro y m;obtain⟨z,t,c⟩:=v y (qxb.mp m);simp[DictEntry.refKey,c]
  have A:¬j.toList.any (·.refKey)=true:=by rw[a];exact qxo
  rw[if_neg A];exact qws some e
def wZ.look(I:wZ h x i C c):∃a,W.InstAt h x (W.instObj C i) C (some a)/\∀name,W.lookIn name a=some (c name):=
 let ⟨a,e,f⟩:=qj2 I.ns
 #[a,#[I.obj,rfl,rfl,e],f]
section
variable {prog:J9}{w:zX}{A:zY}{E:QAB}{s:Zw}{K:W5}{x dx C f:Qv}{mA:Zu}{name:Str}{v:zT}
def get_map{a:Bool}{Q:QAB}(X:K.In s.heap)(I:wZ s.heap x dx C mA)(l:W.plainGet K C name=true)(j:W.hasDictIn K C=true)(m:W.findIn K (.ref C) name=some none)(e:mA name=some v)(c:W.handedIn v=true)(h:Q v {s with toks:=s.toks+1}):
  wpAny (model prog w) A (getAttr (.ref x) name a) Q E s:=by
 obtain⟨n,J,i⟩:=I.look;exact W.get_value X J (W.plainGet_of l).1 (W.findObj_own j m rfl (by rw[i,e])) c h
def qj3{pl:Sem Bool}{Q:Value×QAE->Shared->Prop}(X:K.In s.heap)(I:wZ s.heap x dx C mA)(a:W.plainGet K C name=true)(l:W.findIn K (.ref C) name=some (some (.ref f)))(i:W.isFn K (.ref f)=true)(e:mA name=none)(h:Q (.ref f,[.ref x]) s):
  wpAny (model prog w) A (getMethod (.ref x) name pl) Q E s:=by
 obtain⟨c,J,j⟩:=I.look;exact W.method_fn X J (W.plainGet_of a).1 (W.plainGet_of a).2 l (beq_iff_eq.mp i) (by show(W.lookIn name c).map (·.isSome)=some false;rw[j,e];rfl) h
def qj4{ns:QAH}{Q:xu}(X:K.In s.heap)(I:wZ s.heap x dx C mA)(u:W.findIn K (.ref C) "__setattr__" = some (some (.builtin "object.__setattr__")))(z:W.plainOver K C=true)(o:W.takerIn K C name=some none)(B:W.hasDictIn K C=true)(hw:PySem.Within mA ns)(hsz:ns.length<=sizeLine)(h:∀h',wZ h' x dx C (λy=>if y=name then some v else mA y)->Heap.SameBut dx s.heap h'->Q () {s with heap:=h',toks:=s.toks+2}):
  wpAny (model prog w) A (setAttr (.ref x) name v) Q E s:=by
 obtain⟨L,J,N⟩:=I.look;refine W.set_plain X J u (W.osa_open (s:={s with toks:=s.toks+1}) (r:=none) X J z o λb=>?_);obtain⟨O,D,l⟩:=W.any_some B;have n:s.heap.get? x=some #[.ref C,some dx,.plain,#[]]:=I.obj;refine qvT (qvW (qvT (qvT (wpAny_loadPart n (qvT (W.Looks.here (s:={s with toks:=s.toks+1}) (W.looks_clsIn X D) ?_))))));rw[l];refine qvW (a:=some dx) (qvT (qvW (qvT ?_)));refine wpAny_nsSet1 (s:={s with toks:=s.toks+1}) I.ns λh' e c=>?_;obtain⟨M,G,H,i,j,m⟩:=e.count (PySem.Within.cons name v hw);refine qvT (wpAny_lookBehind i (by rw[j];exact pastItsLine_dict (qv7 m (by rw[qwj];lia))) ?_);exact qvW (h _ #[(c.2 _ (qxt I.ne)).trans I.obj,e,I.ne] c)
def qj5{R:Result->Shared->Prop}{vs:QAE}{c:List (Str×Value)}(X:K.In s.heap)(e:W.makesIn K C=true)(i:W.findIn K (.ref C) "__init__" = some (some (.ref f)))(j:W.typeIn K (.ref f)=some (.type "function"))(h:codeAny (model prog w) (A.under (.builtin "type.__call__" #[.ref C::vs,c])) (.call (.ref f) #[.ref (s.heap.objs.size+1)::vs,c]) (W.InitBack (s.heap.objs.size+1) R)
   {s with heap:=(s.heap.push W.emptyDict).push (W.instObj C s.heap.objs.size)}):
  codeAny (model prog w) A (.call (.ref C) #[vs,c]) R s:=by
 obtain⟨l,g,d,t,os⟩:=s;exact W.make_core (W.makes_of X e) (W.looks_findIn X i) (λa=>W.bind_fn X a j) (.inl rfl) h
end
def fY(f:Str)(v:V):List (Str×V)->List (Str×V)
 |[]=>[(f,v)]
 |(g,x)::r=>if g=f then (g,v)::r else (g,x)::fY f v r
theorem O7(f g:Str)(v:V):∀fs:List (Str×V),(fY f v fs).lookup g=if g=f then some v else fs.lookup g
 |[]=>by
  show List.lookup g [(f,v)]=_
  by_cases h:g=f
  ·have a:(g == f)=true:=beq_iff_eq.mpr h;simp only[List.lookup,a,if_pos h]
  ·have a:(g == f)=false:=qxA.mpr h;simp only[List.lookup,a,if_neg h]
 |(k,x)::r=>by
  have ih:=O7 f g v r;rw[show fY f v ((k,x)::r)=(if k=f then (k,v)::r else (k,x)::fY f v r) from rfl]
  by_cases c:k=f
  ·rw[if_pos c]
   by_cases h:g=k
   ·have a:(g == k)=true:=beq_iff_eq.mpr h;simp only[List.lookup,a,if_pos (h.trans c)]
   ·have a:(g == k)=false:=qxA.mpr h;simp only[List.lookup,a,if_neg (λe:g=f=>h (e.trans c.symm))]
  ·rw[if_neg c]
   by_cases h:g=k
   ·have a:(g == k)=true:=beq_iff_eq.mpr h;simp only[List.lookup,a,if_neg (λe:g=f=>c (h.symm.trans e))]
   ·have a:(g == k)=false:=qxA.mpr h;simp only[List.lookup,a];exact ih
theorem O8(f:Str)(v:V):∀fs:List (Str×V),f∈(fY f v fs).map (·.1)/\∀g,g∈fs.map (·.1)->g∈(fY f v fs).map (·.1)
 |[]=>#[by simp[fY],λg h=>by simp at h]
 |(k,x)::r=>by
  obtain⟨i,c⟩:=O8 f v r;rw[show fY f v ((k,x)::r)=(if k=f then (k,v)::r else (k,x)::fY f v r) from rfl]
  by_cases a:k=f
  ·rw[if_pos a];subst a;exact#[by simp,λg h=>by simpa using h]
  ·rw[if_neg a];refine#[?_,λg h=>?_]
   ·rw[qwd];exact qvZ _ i
   ·rw[qwd] at h⊢
    rcases qv0.mp h with e|e
    ·exact qv0.mpr (.inl e)
    ·exact qvZ _ (c g e)
theorem qad(f:Str)(v:V):∀fs:List (Str×V),(fY f v fs).length<=fs.length+1
 |[]=>by simp[fY]
 |(k,x)::r=>by
  have ih:=qad f v r;rw[show fY f v ((k,x)::r)=(if k=f then (k,v)::r else (k,x)::fY f v r) from rfl]
  by_cases a:k=f
  ·rw[if_pos a,qwj,qwj];lia
  ·rw[if_neg a,qwj,qwj];lia
def fX.some_of{v:V}{o:QAG}(r:fX (some v) o):∃u,o=some u/\RelV v u:=by
 cases o with
 |none=>exact(show False from r).elim
 |some u=>exact#[u,rfl,r]
def fX.none_of{o:QAG}(r:fX none o):o=none:=by
 cases o with
 |none=>rfl
 |some u=>exact(show False from r).elim
def qj6(r:RelV v u):W.handedIn u=true:=by
 cases v with
 |non=>cases (show u=Value.none from r);rfl
 |bl b=>cases (show u=Value.bool b from r);rfl
 |int i=>obtain⟨t,e⟩:=(show ∃t,u=Value.int i t from r);cases e;rfl
 |str x=>obtain⟨t,e⟩:=(show ∃t,u=Value.str x t from r);cases e;rfl
 |mD b=>obtain⟨t,e⟩:=(show ∃t,u=Value.bytes b t from r);cases e;rfl
 |flt b=>obtain⟨t,e⟩:=(show ∃t,u=Value.float b t from r);cases e;rfl
 |ref a=>cases (show u=Value.ref a from r);rfl
 |ty n=>cases (show u=Value.type n from r);rfl
def Dj(i:cP P w H h)(e:H a=some (.ins C j fs)):∃c,wZ h a j C c/\(∀f,fX (fs.lookup f) (c f))/\PySem.Within c (fs.map (·.1))/\fs.length<=1000/\H j=some (.own a):=by
 obtain⟨d,z,ne,l,c,n,r,q⟩:=(show b_ P w H h a (.ins C j fs) from i a _ e);exact#[c,#[l,n,ne],r,q,z,d]
structure Cls(K:W5)(C:Qv):Prop where
 pg:W.plainGet K C Str.empty=true
 hd:W.hasDictIn K C=true
 po:W.plainOver K C=true
 sa:W.findIn K (.ref C) "__setattr__" = some (some (.builtin "object.__setattr__"))
def Cls.get{K:W5}{C:Qv}(c:Cls K C)(f:Str):W.plainGet K C f=true:=c.pg
def pB(K:W5)(C:Qv)(f:Str):Prop:=W.findIn K (.ref C) f=some none
def pB.taker{K:W5}{C:Qv}{f:Str}(n:pB K C f):W.takerIn K C f=some none:=by
 unfold W.takerIn;rw[show W.findIn K (.ref C) f=some none from n];rfl
structure Con(K:W5)(C:Qv)(f:Str)(v:V)(u:zT):Prop where
 at_:W.findIn K (.ref C) f=some (some u)
 rel:RelV v u
 get:W.specialIn K u "__get__" = some none
 cp:W.copiedNames.contains f=false
structure Meth(K:W5)(C:Qv)(m:Str)(f:Qv):Prop where
 at_:W.findIn K (.ref C) m=some (some (.ref f))
 fn:W.isFn K (.ref f)=true
 kp:W.keepIn K (.ref f)=true
section
variable {X:Cx}{p_:QAC}{σ:St}{H:Hp}{s:Zw}{a C dx:Qv}{fs:List (Str×V)}{f:Str}{v:V}{A:zY}{E:QAB}
def qj7{b:Bool}{Q:QAB}(I:Inv X p_ σ H s)(e:H a=some (.ins C dx fs))(c:Cls X.K C)(n:pB X.K C f)(l:fs.lookup f=some v)(h:∀u i,Inv X p_ σ H i->RelV v u->Q u i):wpAny (model X.prog X.w) A (getAttr (.ref a) f b) Q E s:=by
 obtain⟨m,O,r,_,_,_⟩:=Dj I.hok e;obtain⟨u,y,j⟩:=fX.some_of (v:=v) (o:=m f) (by rw[<- l];exact r f);exact get_map I.cg O (c.get f) c.hd n y (qj6 j) (h u _ (I.tok _) j)
def qj8{m:Str}{g:Qv}{pl:Sem Bool}{Q:Value×QAE->Shared->Prop}(I:Inv X p_ σ H s)(e:H a=some (.ins C dx fs))(c:Cls X.K C)(k:Meth X.K C m g)(l:fs.lookup m=none)(h:Q (.ref g,[.ref a]) s):wpAny (model X.prog X.w) A (getMethod (.ref a) m pl) Q E s:=by
 obtain⟨i,O,r,_,_,_⟩:=Dj I.hok e;have j:i m=none:=fX.none_of (by rw[<- l];exact r m);exact qj3 I.cg O (c.get m) k.at_ k.fn j h
def qj9(I:Inv X p_ σ H s)(e:H a=some (.ins C dx fs))(c:Cls X.K C)(n:pB X.K C f)(Y:fs.length<1000)(G:RelV y u)(h:∀l,Inv X p_ σ (upd H a (.ins C dx (fY f y fs))) l->Q () l):wpAny (model X.prog X.w) A (setAttr (.ref a) f u) Q E s:=by
 obtain⟨m,O,r,j,_,B⟩:=Dj I.hok e;have J:(fs.map (·.1)).length<=sizeLine:=by rw[qv1,sizeLine_eq];lia
 refine qj4 I.cg O c.sa c.po n.taker c.hd j J λT i D=>h _ ?_;have M:∃o,T.get? dx=some o:=let ⟨o,_,_,U,_⟩:=i.ns;#[o,U];refine I.write (x:=a) (e:=dx) (by rw[e];exact True.intro) (.inr B) (λb q N z=>(D.2 b N).trans z) M ?_;refine#[by rw[aN O.ne];exact B,?_,O.ne,i.obj,_,i.ns,λg=>?_,λg L=>?_]
 ·have:=qad f y fs;lia
 ·show fX ((fY f y fs).lookup g) (if g=f then some u else m g)
  rw[O7]
  by_cases q:g=f
  ·rw[if_pos q,if_pos q];exact G
  ·rw[if_neg q,if_neg q];exact r g
 ·by_cases q:g=f
  ·rw[q];exact(O8 f y fs).1
  ·refine(O8 f y fs).2 g (j g λz=>L ?_);show(if g=f then some u else m g)=none
   rw[if_neg q];exact z
def Inv.made(I:Inv X p_ σ H s):Inv X p_ σ (upd (upd H s.heap.objs.size (.own (s.heap.objs.size+1))) (s.heap.objs.size+1) (.ins C s.heap.objs.size []))
  {s with heap:=(s.heap.push W.emptyDict).push (W.instObj C s.heap.objs.size)}:=by
 have c:(s.heap.push W.emptyDict).get? s.heap.objs.size=some W.emptyDict:=qv4 s.heap rfl;have l:((s.heap.push W.emptyDict).push (W.instObj C s.heap.objs.size)).get? (s.heap.objs.size+1)=some (W.instObj C s.heap.objs.size):=by
  have:=qv4 (s.heap.push W.emptyDict) (o:=W.instObj C s.heap.objs.size) rfl
  rwa [qwD] at this
 have j:(s.heap.push W.emptyDict).Ns s.heap.objs.size (λ_=>none):=#[W.emptyDict,#[],_,c,rfl,(λe i=>absurd i (by simp)),λ_=>rfl];have m:=I.laid (a:=s.heap.objs.size) (o:=.own (s.heap.objs.size+1)) (h':=s.heap.push W.emptyDict) (t':=s.toks) (λb u q=>qvV _ q) (qvY _) #[_,c];refine m.laid (a:=s.heap.objs.size+1) (o:=.ins C s.heap.objs.size []) (t':=s.toks) (λb u q=>qvV _ q) (Nat.le_of_eq (qwD _ _)) ?_;have ne:s.heap.objs.size≠s.heap.objs.size+1:=qwk (qwN _);refine#[by rw[aN ne,aB],qwF _,ne,l,λ_=>none,(Heap.Ns1.of_empty j).at λo q=>qvV _ q,λ_=>True.intro,λy h=>absurd rfl h]
def qj_{prog:J9}{w:zX}{c:Env}{e:zp}{f:Str}{pos:Pos}{s:Zw}{Q:QAB}(j:attributeBase e f c (eval e c)=eval e c)(h:wpAny (model prog w) A (eval e c) (λo i=>wpAny (model prog w) A (getAttr o f true) Q E i) E s):wpAny (model prog w) A (eval (.Attribute e f pos) c) Q E s:=
 Attribute_any_ h (by rw[arm_eval_Attribute,j])
end
@[simp] def O9(K:W5)(h:TE)(f:Str):TE:=λe H Q=>h e H λx c=>∃a C i fs v,x = .ref a/\c a=some (.ins C i fs)/\Cls K C/\pB K C f/\fs.lookup f=some v/\Q v c
@[simp] def qtx(K:W5)(h:TE)(f:Str):TE:=λe H Q=>h e H λx c=>∃a C i fs v u,x = .ref a/\c a=some (.ins C i fs)/\Cls K C/\Con K C f v u/\fs.lookup f=none/\Q v c
@[simp] def qae(K:W5)(j i:TE)(f:Str):TS:=λD c H=>i c H λy l=>j c l λx h=>∃a C e fs,x = .ref a/\h a=some (.ins C e fs)/\Cls K C/\pB K C f/\fs.length<1000/\
 D.nx c (upd h a (.ins C e (fY f y fs)))
@[simp] def qty(K:W5)(m l:TE)(n:V->V->Hp->VK->Prop)(f:Str):TS:=λD h H=>m h H λx j=>∃a C o fs v,x = .ref a/\j a=some (.ins C o fs)/\Cls K C/\pB K C f/\fs.lookup f=some v/\
 l h j λy r=>n v y r λz i=>∃e c,i a=some (.ins C e c)/\c.length<1000/\D.nx h (upd i a (.ins C e (fY f z c)))
def qka(y:PE X e m)(z:attributeBase e f X.env (eval e X.env)=eval e X.env):PE X (.Attribute e f pos) (O9 X.K m f):=by
 intro w s i H Q I h;refine qj_ z (aD (y w s i H _ I h) λu L j=>?_);obtain⟨x,E,D,o,a,C,M,fs,v,ex,A,c,n,l,q⟩:=j;subst ex;obtain rfl:u=Value.ref a:=o;exact qj7 D A c n l λG J B r=>#[v,E,B,r,q]
def qkb(M:PE X o w)(J:PE X e v)(L:swapsWith e (some (.Attribute o f i)) pos.line X.env=pure false):PS X (.Assign [.Attribute o f i] e pos) (qae X.K w v f):=by
 intro r s j H D I h;refine plainObj_wpAny_Assign_Attribute (aD (J r s j H _ I h) λu z m=>?_) L;obtain⟨y,U,T,A,q⟩:=m;refine aD (M r z j U _ T q) λG s2 m=>?_;obtain⟨x,H2,Q,B,a,C,dx,fs,ex,N,c,n,l,E⟩:=m;subst ex;obtain rfl:G=Value.ref a:=B;exact qj9 Q N c n l A λY O=>#[j,_,O,E]
section
variable {X:Cx}{p_:QAC}{σ:St}{H:Hp}{s:Zw}{A:zY}{E:QAB}{Q:QAB}{c:zT}{b:Bool}
inductive fH(K:W5)(H:Hp):V->Value->Prop where
 |non:fH K H .non (.type "NoneType")
 |bl (x:Bool):fH K H (.bl x) (.type "bool")
 |int (i:Int):fH K H (.int i) (.type "int")
 |str (x:Str):fH K H (.str x) (.type "str")
 |flt (x:UInt64):fH K H (.flt x) (.type "float")
 |lst {a:Qv}{xs:kE} (e:H a=some (.lst xs)):fH K H (.ref a) (.type "list")
 |dH {a:Qv}{o:Obj}{xs:kE} (e:H a=some (.dH o (.lst xs))):fH K H (.ref a) (.type "list")
 |tup {a:Qv}{xs:kE} (e:H a=some (.tup xs)):fH K H (.ref a) (.type "tuple")
 |dK {a:Qv}{kvs:List (Key×V)} (e:H a=some (.dK kvs)):fH K H (.ref a) (.type "dict")
 |dT {a:Qv}{kvs:List (List Key×V)} (e:H a=some (.dT kvs)):fH K H (.ref a) (.type "dict")
 |ins {a C dx:Qv}{fs:List (Str×V)} (e:H a=some (.ins C dx fs)) (cl:Cls K C) (ha:W.findIn K (.ref C) "__class__" = some (some (.builtin "object.__class__")))
   (hn:W.specialIn K (.builtin "object.__class__") "__get__" = some (some (.builtin "getset_descriptor.__get__"))) (htk:W.takesIn K (.builtin "object.__class__")=some true)
   (hm:W.mroIn K C (.type "object")=some true):fH K H (.ref a) (.ref C)
def qkc(I:Inv X p_ σ H s)(f:RelV x u)(ty:fH X.K H x t)(e:W.kitOne X.K t c=some b)(h:∀tk,Q (.bool b) {s with toks:=tk}):
  wpAny (model X.prog X.w) A (call (.builtin "isinstance") [u,c]) Q E s:=by
 cases ty with
 |non=>cases (show u=Value.none from f);exact qxW W.kitx_none I.cg True.intro e (λz=>nomatch z) h
 |bl y=>cases (show u=Value.bool y from f);exact qxW W.kitx_bool I.cg True.intro e (λz=>nomatch z) h
 |int i=>obtain⟨t,q⟩:=(show ∃t,u=Value.int i t from f);cases q;exact qxW W.kitx_int I.cg True.intro e (λz=>nomatch z) h
 |str y=>obtain⟨t,q⟩:=(show ∃t,u=Value.str y t from f);cases q;exact qxW W.kitx_str I.cg True.intro e (λz=>nomatch z) h
 |flt y=>obtain⟨t,q⟩:=(show ∃t,u=Value.float y t from f);cases q;exact qxW W.kitx_float I.cg True.intro e (λz=>nomatch z) h
 | @lst a r j=>
  cases (show u=Value.ref a from f);obtain⟨_,_,n,_,l⟩:=(show b_ X.prog X.w H s.heap a (.lst r) from I.hok a _ j);exact qxW W.kitx_list I.cg #[_,l,rfl] e (λz=>nomatch z) h
 | @dH a G r j=>
  cases (show u=Value.ref a from f);obtain⟨_,_,_,n,_,l⟩:=(show b_ X.prog X.w H s.heap a (.dH G (.lst r)) from I.hok a _ j);exact qxW W.kitx_list I.cg #[_,l,rfl] e (λz=>nomatch z) h
 | @tup a r j=>
  cases (show u=Value.ref a from f);obtain⟨_,_,_,p⟩:=(show b_ X.prog X.w H s.heap a (.tup r) from I.hok a _ j);obtain⟨o,l,v,_⟩:=p;exact qxW W.kitx_tuple I.cg #[o,l,v] e (λz=>nomatch z) h
 | @dK a m j=>
  cases (show u=Value.ref a from f);obtain⟨_,_,Y,_,p⟩:=(show b_ X.prog X.w H s.heap a (.dK m) from I.hok a _ j);obtain⟨o,T,U,l,v,_⟩:=p;exact qxW W.kitx_dict I.cg #[o,l,v.1] e (λz=>nomatch z) h
 | @dT a m j=>
  cases (show u=Value.ref a from f);obtain⟨_,_,r,_,o,T,U,l,v,_⟩:=(show b_ X.prog X.w H s.heap a (.dT m) from I.hok a _ j);exact qxW W.kitx_dict I.cg #[o,l,v.1] e (λz=>nomatch z) h
 | @ins a C dx fs j D N L B M=>
  cases (show u=Value.ref a from f);obtain⟨mA,O,_⟩:=Dj I.hok j;obtain⟨od,J,_⟩:=O.look;exact qxW (W.kitx_own (D.get _) D.hd N L B M) I.cg J e (λz=>nomatch z) h
end
structure cB(k:Nat)(A:zY):Prop where
 hd:A.handled=none
 dp:A.depth+3 * k+5<recursionLimit
 un:A.units+16 * k+200<cLine
 gd:A.guards=some []
def cB.mono(r:cB k A)(h:j<=k):cB j A:=#[r.hd,by have:=r.dp;lia,by have:=r.un;lia,r.gd]
def cB.d(r:cB k A)(h:j<=k:=by decide):cB j A:=r.mono h
theorem cB.deeper(r:cB (k+1) A)(a:Env):cB k (A.deeper a):=
 #[r.hd,by have:=r.dp;show A.depth+1+3 * k+5<_;lia,by have:=r.un;show A.units+3+16 * k+200<_;lia,r.gd]
theorem cB.in1(r:cB (k+1) A):cB k A.in1:=
 #[r.hd,by have:=r.dp;show A.depth+3 * k+5<_;lia,by have:=r.un;show A.units+1+16 * k+200<_;lia,r.gd]
def qkd{A:zY}{C:Qv}{us:QAE}{a:List (Str×Value)}:(A.under (.builtin "type.__call__" #[.ref C::us,a])).depth=A.depth+1:=by
 first|rfl|simp[Around.under,Code.weight,Code.isCreation,Code.isGuard,Code.isCaller,Code.frames,Code.isFrame,guardIds]
def qke{A:zY}{C:Qv}{us:QAE}{a:List (Str×Value)}:(A.under (.builtin "type.__call__" #[.ref C::us,a])).units=A.units+1:=by
 first|rfl|simp[Around.under,Code.cUnits,Code.frames,Code.isFrame]
def qkf{A:zY}{C:Qv}{us:QAE}{a:List (Str×Value)}:(A.under (.builtin "type.__call__" #[.ref C::us,a])).guards=A.guards:=by
 first|rfl|simp[Around.under,Code.isGuard,guardIds]
def cB.make(r:cB (k+1) A)(C:Qv)(us:QAE)(a:List (Str×Value)):cB k (A.under (.builtin "type.__call__" #[.ref C::us,a])):=
 #[r.hd,by have:=r.dp;rw[qkd];lia,by have:=r.un;rw[qke];lia,by rw[qkf];exact r.gd]
theorem cB.depth(r:cB k A):A.depth<recursionLimit:=by have:=r.dp;lia
theorem cB.units(r:cB k A):A.units+64<cLine:=by have:=r.un;lia
@[simp] def jg:TA:=λ_ H Q=>Q [] H
@[simp] def ju(f:TE)(e:TA):TA:=λa H Q=>f a H λx i=>e a i λc h=>Q (x::c) h
def aq:PA X [] jg:=λ_ _ _ _ H Q I h=>qyi #[[],H,I,.nil,h]
abbrev lG(X:Cx)(e:zp)(a:qy):Prop:=starEach (e::a) X.env=(false,eval e X.env)::starEach a X.env
def ak(z:PE X e l)(y:PA X c t)(w:lG X e c:=by rfl):PA X (e::c) (ju l t):=by
 intro pos i s f H Q I h;rw[w];show wpAny _ _ (spliced ((false,eval e X.env)::backTo pos (starEach c X.env))) _ _ s;refine qxH (aD (z i s f H _ I h) λu m a=>?_);obtain⟨x,D,B,o,v⟩:=a;refine aD (y pos i m f D _ B v) λE G a=>?_;obtain⟨j,C,A,n,r⟩:=a;exact#[x::j,C,A,.cons o n,r]
@[simp] def qaf(t:TA):TE:=λe H Q=>t e H λa c=>a.length<=sizeLine/\∀p,c p=none->Q (.ref p) (upd c p (.tup a))
@[simp] def Dk(t:TA):TE:=λe H Q=>t e H λa c=>a.length<=sizeLine/\∀p,c p=none->Q (.ref p) (upd c p (.lst a))
def dY{m}(h:PA X y t):PE X (.Tuple y m pos) (qaf t):=by
 intro o s i H Q I v;refine wpAny_Tuple_spliced (aD (h pos o s i H _ I v) λn a j=>?_);obtain⟨l,f,c,r,z,q⟩:=j;refine#[by rw[<- r.length];exact z,?_];have w:f a.heap.objs.size=none:=c.hok.fresh (qvY _);refine#[.ref a.heap.objs.size,upd f a.heap.objs.size (.tup l),c.laid (t':=a.toks) (λb u e=>qvV _ e) (qvY _) ?_,rfl,q _ w];exact#[z,n,r,#[_,qv4 _ rfl,rfl,_,rfl]]
def cM(h:PA X w t):PE X (.List w pos) (Dk t):=by
 intro n s i H Q I o;refine wpAny_List_spliced (aD (h pos n s i H _ I o) λm a j=>?_);obtain⟨l,f,c,r,z,q⟩:=j;refine#[by rw[<- r.length];exact z,?_];have v:f a.heap.objs.size=none:=c.hok.fresh (qvY _);refine#[.ref a.heap.objs.size,upd f a.heap.objs.size (.lst l),c.laid (t':=a.toks) (λb u e=>qvV _ e) (qvY _) ?_,rfl,q _ v];exact#[z,m,0,r,qv4 _ rfl]
abbrev Sp:=List V->Hp->VK->XK->Prop
abbrev lH:=List Env->Hp->Shared->XK->Value->Shared->Prop
structure mK(P:J9)(w:zX)(K:W5)(mg:Zu)(base:zf)(A:zY)(outer:List Env)(s:Zw)(H:Hp):Prop where
 frames:A.frames=some outer
 mod:Mod K mg base
 bs:∀b o,base.get? b=some o->s.heap.get? b=some o/\H b=none
 jR:base.objs.size<=s.heap.objs.size
 iC:s.heap.FunFrames base outer
 mF:∀b∈frs outer,H b=none
 hok:cP P w H s.heap
 bare:AllBare s.gens
def CE(a:List Env)(P:J9)(w:zX)(H:Hp)(s:Zw)(Q:VK)(u:zT)(c:Zw):Prop:=
 ∃v e,c.os=s.os/\AllBare c.gens/\Un (frs a) [] H e s.heap c.heap/\cP P w e c.heap/\RelV v u/\Q v e
def CR(CX:lH)(a:List Env)(P:J9)(w:zX)(H:Hp)(s:Zw)(Q:VK)(E:XK)(r:Result)(c:Zw):Prop:=
 match r with
 |.ok (.ret u)=>CE a P w H s Q u c
 |.ok _=>False
 |.error e=>CX a H s E e c
structure aO(P:J9)(w:zX)(K:W5)(mg:Zu)(base:zf)(CX:lH)(k:Nat)(f:Qv)(fd:zq)(ps:QAH)(sp:Sp):Prop where
 len:∀vs H Q E,sp vs H Q E->vs.length=ps.length
 run:∀(A:zY)(outer:List Env)(s:Zw)(H:Hp)(args:Args)(us:QAE)(vs:kE)(Q:VK)(E:XK),cB k A->mK P w K mg base A outer s H->BindsTo s fd args (ps.zip us)->Vals vs us->sp vs H Q E->
  codeAny (model P w) A (.call (.ref f) args) (CR CX outer P w H s Q E) s
def aO.imp{P:J9}{w:zX}{K:W5}{mg:Zu}{base:zf}{CX:lH}{k:Nat}{f:Qv}{e:zq}{ps:QAH}{sp i:Sp}(F:aO P w K mg base CX k f e ps sp)(h:∀vs H Q E,i vs H Q E->sp vs H Q E):aO P w K mg base CX k f e ps i:=
 #[λvs H Q E q=>F.len vs H Q E (h _ _ _ _ q),λA a s H c j vs Q E n o r l m=>F.run A a s H c j vs Q E n o r l (h _ _ _ _ m)]
def mK.make{P:J9}{w:zX}{K:W5}{mg:Zu}{base:zf}{A:zY}{a:List Env}{s:Zw}{H:Hp}(e:mK P w K mg base A a s H)(C:Qv)(us:QAE)(c:List (Str×Value)):
  mK P w K mg base (A.under (.builtin "type.__call__" #[.ref C::us,c])) a s H:=#[by first|exact e.frames|(simpa [Around.under,Code.envs,Code.isFrame,pushEnvs] using e.frames),e.mod,e.bs,e.jR,e.iC,e.mF,e.hok,e.bare]
theorem mK.in1{P:J9}{w:zX}{K:W5}{mg:Zu}{base:zf}{A:zY}{a:List Env}{s:Zw}{H:Hp}(e:mK P w K mg base A a s H):
  mK P w K mg base A.in1 a s H:=#[e.frames,e.mod,e.bs,e.jR,e.iC,e.mF,e.hok,e.bare]
section
variable {X:Cx}{p_:QAC}{σ:St}{H:Hp}{s s':Zw}
def Inv.env0(I:Inv X p_ σ H s):mK X.prog X.w X.K X.mg X.base X.A X.stack s H:=
 #[I.ok.frames,I.ok.mod,I.bs,qv7 I.ok.jR I.sz,I.stack,I.G8,I.hok,I.bare]
def Inv.after(I:Inv X p_ σ H s)(h:CE X.stack X.prog X.w H s Q u s'):EP X p_ σ Q u s':=by
 obtain⟨v,i,os,a,un,e,r,q⟩:=h;obtain⟨f,g,d,t,c⟩:=s';obtain rfl:c=s.os:=os;exact#[v,i,I.call (h':=f) (g':=g) (d':=d) (t':=t) (ch:=[]) un e a (λb z=>absurd z (by simp)),r,q]
end
def O_(sp:Sp)(e:kE)(E:XK)(t:TA):TE:=λa H Q=>t a H λc f=>sp (c++e) f Q E
def Pa(C:Qv)(m:Str)(sp:Sp)(j:kE)(E:XK)(h:TE)(t:TA):TE:=λc H Q=>h c H λx e=>∃a i fs,x = .ref a/\e a=some (.ins C i fs)/\fs.lookup m=none/\
 t c e λf l=>sp (x::(f++j)) l Q E
def Pb(C:Qv)(sp:Sp)(h:kE)(E:XK)(t:TA):TE:=λe H Q=>t e H λf c=>∀x a,c x=none->c a=none->a≠x->
 sp (.ref x::(f++h)) (upd (upd c a (.own x)) x (.ins C a [])) (λv i=>v = .non/\Q (.ref x) i) E
def Binds(K:W5)(e:zq)(ps:QAH)(c:QAE):Prop:=
 ∀(s:Zw)(a:QAE),K.In s.heap->(a++c).length=ps.length->BindsTo s e #[a,[]] (ps.zip (a++c))
def Binds.all{K:W5}{c:zq}{ps:QAH}(h:∀us:QAE,us.length=ps.length->bindArgs c #[us,[]]=pure (ps.zip us)):Binds K c ps []:=λs us _ a=>by
 rw[qwy] at a⊢;exact .of_eq (h us a)
def Passes(CX:lH)(X:Cx)(E:XK):Prop:=∀(f:QAC)(c:St)(H:Hp)(s:Zw)(e:zT)(a:Zw),Inv X f c H s->CX X.stack H s E e a->X.xe e a
section
variable {X:Cx}{CX:lH}{k:Nat}{f C:Qv}{fd:zq}{ps:QAH}{sp:Sp}{dW:kE}{ds:QAE}{E:XK}{x m:Str}{p pos apos:Pos}{e o:zp}{es:qy}{ta:TE}{t:TA}
def qag{c:QAC}{σ:St}{H:Hp}{s:Zw}{Q:VK}{us:QAE}{vs:kE}(F:aO X.prog X.w X.K X.mg X.base CX k f fd ps sp)(n:cB k X.A)(z:Binds X.K fd ps ds)(y:Vals dW ds)(l:Passes CX X E)(I:Inv X c σ H s)(r:Vals vs us)(h:sp (vs++dW) H Q E):wX X (call (.ref f) us) (EP X c σ Q) X.xe s:=by
 have i:Vals (vs++dW) (us++ds):=r.append y;have v:(us++ds).length=ps.length:=by rw[<- i.length];exact F.len _ _ _ _ h
 refine qx3 (qwQ (F.run X.A X.stack s H #[us,[]] (us++ds) (vs++dW) Q E n I.env0 (z s us I.cg v) i h) λr j a=>?_);cases r with
 |error e=>exact l c σ H s e j I a
 |ok B=>
  cases B with
  |ret u=>exact I.after a
  |next=>exact False.elim a
  |brk=>exact False.elim a
  |cont=>exact False.elim a
abbrev nQ(X:Cx)(pos:Pos)(es:qy):Prop:=(backTo pos (starEach es X.env)).any (·.1)=false
def qN(F:aO X.prog X.w X.K X.mg X.base CX k f fd ps sp)(v:cB k X.A)(B:Gl X x)(y:X.mg x=some (.ref f))(z:W.keepIn X.K (.ref f)=true)(J:Binds X.K fd ps ds)(G:Vals dW ds)(u:Passes CX X E)(L:PA X (e::es) t)(c:iG x:=by decide)(D:lG X e es:=by rfl)(a:nQ X pos es:=by rfl):
  PE X (.Call (.Name x p) (e::es) [] pos) (O_ sp dW E t):=by
 intro n s j H Q I h;refine qwO (qJ I B y ?_ c);refine W.callWith_K (h₀:=X.base) I.ok.mod.jQ z (aD (L pos n s j H _ I h) λN O l=>?_) D a;obtain⟨M,T,i,r,q⟩:=l;refine#[i.cg,?_];exact qag F v J G u i r q
def gK(J:PE X o ta)(c:Cls X.K C)(n:Meth X.K C m f)(F:aO X.prog X.w X.K X.mg X.base CX k f fd ps sp)(G:cB k X.A)(M:Binds X.K fd ps ds)(L:Vals dW ds)(B:Passes CX X E)(D:eval (.Call (.Attribute o m apos) [] [] pos) X.env=(do
   let j <- eval o X.env
   standAt apos.atName
   let (f,first) <- holding [j] (getMethod j m pl)
   callWith pos f first (backTo pos (starEach [] X.env)) (backToKw pos (keywordEach [] X.env))):=by rfl):
  PE X (.Call (.Attribute o m apos) [] [] pos) (Pa C m sp dW E ta jg):=by
 intro z s r H Q I h;refine W.methodCall_KW (pl:=pl) (aD (J z s r H _ I h) λu O v=>?_) D;obtain⟨x,U,i,y,a,T,fs,ex,N,l,q⟩:=v;subst ex;obtain rfl:u=Value.ref a:=y;refine qj8 i N c n l ?_;exact W.callWith_K0 (first:=[.ref a]) i.cg n.kp (qag (us:=[.ref a]) (vs:=[.ref a]) F G M L B i (.cons rfl .nil) q)
structure Mk(K:W5)(C f:Qv):Prop where
 makes:W.makesIn K C=true
 init:W.findIn K (.ref C) "__init__" = some (some (.ref f))
 fn:W.isFn K (.ref f)=true
 kp:W.keepIn K (.ref C)=true
def qkg{j:QAC}{σ:St}{H:Hp}{s:Zw}{Q:VK}{us:QAE}{vs:kE}(M:Mk X.K C f)(F:aO X.prog X.w X.K X.mg X.base CX k f fd ps sp)(G:cB (k+1) X.A)(N:Binds X.K fd ps ds)(L:Vals dW ds)(D:Passes CX X E)(I:Inv X j σ H s)(r:Vals vs us)(h:∀x c,H x=none->H c=none->c≠x->sp (.ref x::(vs++dW)) (upd (upd H c (.own x)) x (.ins C c [])) (λv Y=>v = .non/\Q (.ref x) Y) E):
  wX X (call (.ref C) us) (EP X j σ Q) X.xe s:=by
 have n:=h (s.heap.objs.size+1) s.heap.objs.size (I.hok.fresh (Nat.le_succ _)) (I.hok.fresh (qvY _)) (qwk (qwN _));have i:=Inv.made (C:=C) I;have l:Vals (V.ref (s.heap.objs.size+1)::(vs++dW)) (Value.ref (s.heap.objs.size+1)::(us++ds)):=.cons rfl (r.append L);have J:(Value.ref (s.heap.objs.size+1)::us++ds).length=ps.length:=by
  have e:=l.length;rw[F.len _ _ _ _ n] at e;exact e.symm
 refine qx3 (qj5 (f:=f) I.cg M.makes M.init (beq_iff_eq.mp M.fn) (qwQ (F.run _ X.stack _ _ #[Value.ref (s.heap.objs.size+1)::us,[]] (Value.ref (s.heap.objs.size+1)::(us++ds)) _ _ E (G.make C us [])
  (i.env0.make C us []) (N _ (Value.ref (s.heap.objs.size+1)::us) i.cg J) l n) λr y a=>?_))
 cases r with
 |error e=>exact D j σ _ _ e y i a
 |ok O=>
  cases O with
  |ret u=>
   obtain⟨v,H',U,z,T,B⟩:=i.after a;subst T;exact#[z,#[V.ref (s.heap.objs.size+1),H',U,rfl,B]]
  |next=>exact False.elim a
  |brk=>exact False.elim a
  |cont=>exact False.elim a
def qkh(M:Mk X.K C f)(F:aO X.prog X.w X.K X.mg X.base CX k f fd ps sp)(v:cB (k+1) X.A)(z:Gl X x)(y:X.mg x=some (.ref C))(G:Binds X.K fd ps ds)(D:Vals dW ds)(u:Passes CX X E)(J:PA X (e::es) t)(c:iG x:=by decide)(B:lG X e es:=by rfl)(a:nQ X pos es:=by rfl):
  PE X (.Call (.Name x p) (e::es) [] pos) (Pb C sp dW E t):=by
 intro n s j H Q I h;refine qwO (qJ I z y ?_ c);refine W.callWith_K (h₀:=X.base) I.ok.mod.jQ M.kp (aD (J pos n s j H _ I h) λN O l=>?_) B a;obtain⟨L,T,i,r,q⟩:=l;refine#[i.cg,?_];exact qkg M F v G D u i r q
end
structure bh(N P:QAH)(sc:Scope):Prop where
 kind:sc.kind = .function
 co:sc.isCoroutine=false
 gen:sc.isGenerator=false
 nd:N.Nodup
 pre:N.take P.length=P
 par:∀x∈P,sc.names.lookup x=some .local\/sc.names.lookup x=some .cell
 qki:∀y∈sc.names,y.2≠.free
theorem qah{kindOf:Str->Option NameKind}{x:Str}:∀{binds:List (Str×Value)}{m:Zu},(∀v,(x,v)∉binds)->bindL kindOf binds m x=m x
 |[],_,_=>rfl
 |(n,v)::r,m,h=>by
  unfold bindL;rw[qah λw hw=>h w (qvZ _ hw)];split
  ·have:x≠n:=by rintro rfl;exact h v qv3
   simp[this]
  ·rfl
theorem qai{kindOf:Str->Option NameKind}{x:Str}:∀{binds:List (Str×Value)}{m:Zu},(∀v,(x,v)∉binds)->bindC kindOf binds m x=m x
 |[],_,_=>rfl
 |(n,v)::r,m,h=>by
  unfold bindC;rw[qai λw hw=>h w (qvZ _ hw)];split
  ·rfl
  ·have:x≠n:=by rintro rfl;exact h v qv3
   simp[this]
theorem qaj{kindOf:Str->Option NameKind}{x:Str}{v:zT}:∀{P:QAH}{vs:QAE}{i:Nat}{m:Zu},P.Nodup->P[i]? = some x->vs[i]? = some v->kindOf x=some .local->
  bindL kindOf (P.zip vs) m x=some v
 |[],_,_,_,_,h,_,_=>by simp at h
 |_::_,[],_,_,_,_,h,_=>by simp at h
 |p::P,w::vs,0,m,e,c,a,f=>by
  simp at c a;subst c;subst a;show bindL kindOf ((p,w)::P.zip vs) m p=_;unfold bindL;rw[qah λv j=>(qwC.mp e).1 (List.of_mem_zip j).1,if_pos f];simp
 |p::P,w::vs,i+1,m,e,c,a,f=>by
  show bindL kindOf ((p,w)::P.zip vs) m x=_;unfold bindL;exact qaj (i:=i) (qwC.mp e).2 (by simpa using c) (by simpa using a) f
theorem qak{kindOf:Str->Option NameKind}{x:Str}{v:zT}:∀{P:QAH}{vs:QAE}{i:Nat}{m:Zu},P.Nodup->P[i]? = some x->vs[i]? = some v->kindOf x≠some .local->
  bindC kindOf (P.zip vs) m x=some v
 |[],_,_,_,_,h,_,_=>by simp at h
 |_::_,[],_,_,_,_,h,_=>by simp at h
 |p::P,w::vs,0,m,e,c,a,f=>by
  simp at c a;subst c;subst a;show bindC kindOf ((p,w)::P.zip vs) m p=_;unfold bindC;rw[qai λv j=>(qwC.mp e).1 (List.of_mem_zip j).1,if_neg f];simp
 |p::P,w::vs,i+1,m,e,c,a,f=>by
  show bindC kindOf ((p,w)::P.zip vs) m x=_;unfold bindC;exact qak (i:=i) (qwC.mp e).2 (by simpa using c) (by simpa using a) f
def start(N:QAH)(vs:kE):St:=vs.map some++List.replicate (N.length - vs.length) none
def ao(CX:lH)(P:J9)(w:zX)(K:W5)(mg:Zu)(base:zf)(N:QAH)(c:Str)(a:Scope)(f:Qv)(i:zT)(A:zY)(outer:List Env)(s:Zw)(H:Hp)(E:XK):Cx where
 prog:=P
 w:=w
 K:=K
 mg:=mg
 base:=base
 A:=A.deeper (envOfC c a s.heap.objs.size f i)
 N:=N
 s₀:=s
 H₀:=H
 env:=envOfC c a s.heap.objs.size f i
 outer:=outer
 stack:=envOfC c a s.heap.objs.size f i::outer
 ex:=[]
 calm:=true
 fn:=λ_=>true
 pn:=[]
 xe:=λe j=>wpAny (model P w) (A.deeper (envOfC c a s.heap.objs.size f i)) (leaving (envOfC c a s.heap.objs.size f i) e) (λ_ h=>CX outer H s E e h) (λl h=>CX outer H s E l h) j
def qal{sc:Scope}{n:Nat}{x:Str}(h:sc.names.lookup x=some .cell):∃c,(cellsFrom n sc.names []).lookup x=some c:=by
 have q:=W.cellsFrom_some sc.names n [] (.inl h);exact Option.isSome_iff_exists.mp q
def Pg{CX:lH}{P:J9}{w:zX}{K:W5}{mg:Zu}{base:zf}{N ps:QAH}{m:Str}{j:Scope}{f:Qv}{L:zT}{A:zY}{l:List Env}{s O:Zw}{H:Hp}{E:XK}{us:QAE}{vs:kE}(S:bh N ps j)(hd:A.handled=none)(B:mK P w K mg base A l s H)(hl:vs.length=ps.length)(r:Vals vs us)(x:InCallC s s.heap.objs.size (bindL (envOfC m j s.heap.objs.size f L).kindOf (ps.zip us) λ_=>none) (cellsFrom (s.heap.objs.size+1) j.names []) (bindC (envOfC m j s.heap.objs.size f L).kindOf (ps.zip us) λ_=>none) O):
  Inv (ao CX P w K mg base N m j f L A l s H E) [] (start N vs) H O:=by
 have Y:ps.length<=N.length:=by have:=qws List.length S.pre;rw[qwe] at this;lia
 obtain⟨J,tk,rfl,T⟩:=x.done;have M:∀b:Addr,b∉(ao CX P w K mg base N m j f L A l s H E).ex:=λb z=>absurd (show b∈([]:List Addr) from z) (by simp);refine#[#[B.mod,S.kind,rfl,rfl,qvY _,λy z c J o=>?_,λy C=>?_,λy c _ h=>?_,λ_=>hd,Around.frames_deeper B.frames,.inr #[rfl,rfl],λb z=>absurd z (M b),B.bs,B.jR,λb _ _=>M b,λb z=>absurd z (M b),B.iC,B.mF],
  rfl,B.bare,Un.kept T,#[_,x.toInCall.ns,λi y v J o h3=>?_],λy c h=>#[_,x.cell y c h],B.hok.fresh (qvY _),λy c h=>?_,λp G=>absurd (show p∈([]:QAC) from G) (by simp),B.hok.kept T,?_]
 ·exact name_of_addr x.apart (qwE J) (qwE o)
 ·have C:j.names.lookup y=some .cell\/j.names.lookup y=some .free:=C
  rcases C with C|C
  ·exact qal C
  ·exact absurd rfl (S.qki _ (qwE C))
 ·exact qxP (x.above y c (qwE h))
 ·have I:i<vs.length:=by
   unfold start at o
   by_cases I:i<vs.length
   ·exact I
   ·rw[qwq (by simpa using I)] at o;rw[List.getElem?_replicate] at o;split at o <;> cases o
  have ha:vs[i]? = some v:=by
   unfold start at o;rw[qwo (by simpa using I),qv8] at o;cases e:vs[i]? with
   |none=>rw[e] at o;cases o
   |some a=>rw[e] at o;cases o;rfl
  obtain⟨u,Q,U⟩:=r.get ha;have G:ps[i]? = some y:=by
   rw[<- S.pre,List.getElem?_take_of_lt ⋯];exact J
  have D:ps.Nodup:=by rw[<- S.pre];exact S.nd.sublist (List.take_sublist _ _)
  refine#[u,U,?_]
  rcases S.par y (qvX G) with k|k
  ·exact .inl #[k,qaj D G Q k]
  ·obtain⟨c,e⟩:=qal (n:=s.heap.objs.size+1) k;refine .inr #[.inl k,c,e,?_];have q:=x.cell y c e;rw[qak D G Q (by show j.names.lookup y≠_;rw[k];decide)] at q;exact q
 ·exact B.hok.fresh (qxP (x.above y c (qwE h)))
 ·unfold start;show _=N.length;rw[qwm,qv1,List.length_replicate];lia
def Ph{CX:lH}{P:J9}{w:zX}{K:W5}{mg:Zu}{base:zf}{k:Nat}{f:Qv}{name h:Str}{j:Arguments}{l:List Stmt}{a:Scope}{dV kV O pm i ct oc:zT}{an od:wJ}{Y:Array (QAG)}{N ps:QAH}{sp:Sp}(lk:K.lookup f=some #[oc,od,.func (W.fnOf name h j l a dV kV O pm an i ct),Y])(aa:W.codeIn K i h=true)(S:bh N ps a)(len:∀vs H Q E,sp vs H Q E->vs.length=ps.length)(C:∀(A:zY)(c:List Env)(s:Zw)(H:Hp)(vs:kE)(Q:VK)(E:XK),cB k (A.deeper (envOfC h a s.heap.objs.size f i))->sp vs H Q E->
   ∃t,fQ (ao CX P w K mg base N h a f i A c s H E) l t/\t {nx:=λ_ z=>Q .non z,rt:=Q} (start N vs) H):
  aO P w K mg base CX (k+1) f (W.fnOf name h j l a dV kV O pm an i ct) ps sp:=by
 refine#[len,λA c s H ab us vs Q E hr M hb r G=>?_];have hl:=len _ _ _ _ G;have KX:K.In s.heap:=M.mod.jQ.keeps λb o e=>(M.bs b o e).1;have a0:s.heap.NoLimit:=M.mod.nolimit.keeps λb o e=>(M.bs b o e).1;have B:∀y∈ps.zip us,a.names.lookup y.1=some .local\/(a.names.lookup y.1=some .cell/\((cellsFrom (s.heap.objs.size+1) a.names []).lookup y.1).isSome=true):=λ⟨n,v⟩ hy=>by
  rcases S.par n (List.of_mem_zip hy).1 with q|q
  ·exact .inl q
  ·exact .inr #[q,W.cellsFrom_some _ _ _ (.inl q)]
 refine codeAny_call_function hr.depth (KX _ _ lk) rfl S.co S.gen rfl (W.codeRec_of KX aa) (hb _ _ _ _ ?_);refine wpAny_newFunctionEnv_cells S.kind B λac he s1 x=>?_;subst he;refine#[a0.keeps x.toInCall.keep,codeAny_func ?_];obtain⟨t,ht,hq⟩:=C A c s H vs Q E (hr.deeper _) G;have I:Inv (ao CX P w K mg base N h a f i A c s H E) [] (start N vs) H s1:=Pg S hr.hd M hl r x;refine qwu (ht [] s1 (start N vs) H _ I hq) (λfl T D=>?_) λe T D=>D;have L:∀{m:St}{z:Hp}{v:V}{u:zT},Inv (ao CX P w K mg base N h a f i A c s H E) [] m z T->RelV v u->Q v z->CE c P w H s Q u T:=
  λ{m z v u} J U q=>#[v,z,J.os,J.bare,J.base,J.hok,U,q]
 cases fl with
 |ret u=>
  obtain⟨v,m,z,J,U,q⟩:=D;exact L J U q
 |next=>
  obtain⟨m,z,J,q⟩:=D;exact L (v:=V.non) (u:=Value.none) J rfl q
 |brk=>
  obtain⟨_,_,_,q⟩:=D;exact False.elim q
 |cont=>
  obtain⟨_,_,_,q⟩:=D;exact False.elim q
section
variable {X:Cx}{x:Str}{p pos:Pos}{e:zp}{es:qy}{t:TA}{id T:String}{r:yZ}
@[simp] def nR(r:yZ)(t:TA):TE:=λa H Q=>t a H λc f=>r c f Q
def bw(B:bY X (.builtin id) r)(z:Gl X x)(y:X.mg x=none)(v:bootBuiltins x=some (.builtin id))(C:PA X (e::es) t)(w:x≠ "__name__" :=by decide)(c:iG x:=by decide)(A:lG X e es:=by rfl)(a:nQ X pos es:=by rfl):PE X (.Call (.Name x p) (e::es) [] pos) (nR r t):=by
 intro i s f H Q I h;refine qwO (lB I z y v ?_ w c);refine PyProof.Rows.callWith_builtin1 (aD (C pos i s f H _ I h) λm n j=>?_) A a;obtain⟨l,E,D,o,u⟩:=j;exact B i n f E l m Q D o u
def mL(B:bY X (.type T) r)(z:Gl X x)(y:X.mg x=none)(v:bootBuiltins x=some (.type T))(C:PA X (e::es) t)(w:x≠ "__name__" :=by decide)(c:iG x:=by decide)(A:lG X e es:=by rfl)(a:nQ X pos es:=by rfl):PE X (.Call (.Name x p) (e::es) [] pos) (nR r t):=by
 intro i s f H Q I h;refine qwO (lB I z y v ?_ w c);refine qwB (aD (C pos i s f H _ I h) λm n j=>?_) A a;obtain⟨l,E,D,o,u⟩:=j;exact B i n f E l m Q D o u
end
end L2
namespace HT
open PySem PyProof.Rows
def lexLt:List Int->List Int->Bool
 |[],[]=>false
 |[],_::_=>true
 |_::_,[]=>false
 |x::c,y::a=>if x=y then lexLt c a else decide (x<y)
def eZ(n d:Nat):Option Int->Nat
 |none=>d
 |some v=>if v<0 then (v+(n:Int)).toNat else min v.toNat n
end HT
namespace L2
open PySem PySem.Spec PyProof.Rows
abbrev TO:=St->Hp->(Option Int->Hp->Prop)->Prop
def PO(X:Cx)(e:Option Expr)(t:TO):Prop:=
 ∀(c:QAC)(s:Zw)(a:St)(H:Hp)(Q:Option Int->Hp->Prop),Inv X c a H s->t a H Q->
  wX X (evalPart e X.env) (λu h=>∃o f,Inv X c a f h/\IsPart u o/\Q o f) X.xe s
@[simp] def Pj:TO:=λ_ H Q=>Q none H
@[simp] def qam(t:TE):TO:=λa H Q=>t a H λx c=>∃i,x = .int i/\Q (some i) c
section
variable {X:Cx}{e:zp}{te:TE}{lo hi:Option Expr}{tl th:TO}{pos p2:Pos}
def xg:PO X none Pj:=by
 intro c s a H Q I h;rw[evalPart_none];exact qvW #[none,H,I,.none,h]
def qO(h:PE X e te):PO X (some e) (qam te):=by
 intro l s a H Q I hw;rw[evalPart_some];refine aD (h l s a H _ I hw) λu o c=>?_;obtain⟨x,n,m,f,j⟩:=c;obtain⟨i,rfl,q⟩:=j;obtain⟨t,rfl⟩:=f;exact#[some i,n,m,.int i t,q]
def tQ(X:Cx)(r:V->Option Int->Option Int->Hp->VK->Prop):Prop:=
 ∀(i:QAC)(s:Zw)(a:St)(H:Hp)(x:V)(v f c:zT)(lo hi:Option Int)(h:Qv)(Q:VK),Inv X i a H s->RelV x v->s.heap.IsSliceOf h f c .none->IsPart f lo->IsPart c hi->r x lo hi H Q->
  ∃T id,typeLookup (.type T) "__getitem__" = pure (some (.builtin id))/\s.TypeIs v T/\wX X (getItem v (.ref h)) (EP X i a Q) X.xe s
@[simp] def Pk(r:V->Option Int->Option Int->Hp->VK->Prop)(te:TE)(tl th:TO):TE:=λa H Q=>te a H λx h=>tl a h λl f=>th a f λu c=>r x l u c Q
def tU(J:tQ X r)(N:PE X e te)(L:PO X lo tl)(E:PO X hi th):PE X (.Subscript e (.Slice lo hi none p2) pos) (Pk r te tl th):=by
 intro f s c H Q I h;refine Subscript_ (aD (N f s c H _ I h) λv w i=>?_);obtain⟨x,H1,I1,y,B⟩:=i;refine wpAny_Slice (aD (L f w c H1 _ I1 B) λm o i=>?_);obtain⟨l,H2,I2,D,A⟩:=i;refine aD (E f o c H2 _ I2 A) λj a i=>?_;obtain⟨u,n,Y,C,z⟩:=i;rw[evalPart_none];refine qvW ?_;have U:Inv X f c n {a with heap:=a.heap.push {cls:=.type "slice",data:=.fields [m,j,.none].toArray}}:=Y.kept (t':=a.toks) λb ob q=>qvV _ q;obtain⟨T,id,O,G,M⟩:=J f {a with heap:=a.heap.push {cls:=.type "slice",data:=.fields [m,j,.none].toArray}} c n x v m j l u a.heap.objs.size Q U y (Heap.IsSliceOf.new ..) D C z;show wX X (subscriptTail e (.Slice lo hi none p2) v (.ref a.heap.objs.size)) (EP X f c Q) X.xe {a with heap:=a.heap.push {cls:=.type "slice",data:=.fields [m,j,.none].toArray}};exact tail_any (ops:=[.ref a.heap.objs.size,v]) G O M (by with_unfolding_all rfl)
def jU(xs:kE)(lo hi:Option Int):List V:=(xs.drop (HT.eZ xs.length 0 lo)).take (HT.eZ xs.length xs.length hi - HT.eZ xs.length 0 lo)
def qkj(xs:kE)(lo hi:Option Int):(jU xs lo hi).length<=xs.length:=by
 unfold jU;rw[qwe,List.length_drop];lia
@[simp] def qtz(K:W5):V->Option Int->Option Int->Hp->VK->Prop:=λx lo hi H Q=>∃a c,x = .ref a/\aQ K H a c/\
 ¬(HT.eZ c.length 0 lo=0/\HT.eZ c.length c.length hi=c.length)/\∀p,H p=none->Q (.ref p) (upd H p (.tup (jU c lo hi)))
@[simp] def qtA(K:W5):R2:=λx y H Q=>∃a b c f,x = .ref a/\y = .ref b/\aQ K H a (c.map V.int)/\aQ K H b (f.map V.int)/\Q (.bl (HT.lexLt c f)) H
@[simp] def qtB(K:W5):R2:=λx y H Q=>∃a b f c,x = .ref a/\y = .ref b/\aQ K H a f/\aQ K H b c/\f≠[]/\f.length+c.length<=sizeLine/\
 (c=[]->Q (.ref a) H)/\(c≠[]->∀p,H p=none->Q (.ref p) (upd H p (.tup (f++c))))
end
def pC(n:Nat)(i:Int):Option Nat:=if 0<=i then (if i<n then some i.toNat else none) else if -(n:Int)<=i then some (i+n).toNat else none
def gM{a:Type}(xs:List a)(i:Int):Option a:=(pC xs.length i).bind λj=>xs[j]?
def qan(h:pC n i=some j):seqIndex? i n=some j/\j<n/\-(n:Int)<=i/\i<n:=by
 unfold pC at h
 by_cases c:0<=i
 ·rw[if_pos c] at h
  by_cases a:i<n
  ·rw[if_pos a] at h;have e:i.toNat=j:=qwt h;exact#[by rw[seqIndex_of c a,e],⋯,⋯,a]
  ·rw[if_neg a] at h;cases h
 ·rw[if_neg c] at h
  by_cases a : -(n:Int)<=i
  ·rw[if_pos a] at h;have e:(i+n).toNat=j:=qwt h;exact#[by rw[seqIndex_neg ⋯ a,e],⋯,a,⋯]
  ·rw[if_neg a] at h;cases h
def Pn(h:gM xs i=some v):∃j,seqIndex? i xs.length=some j/\xs[j]? = some v/\j<xs.length/\-(xs.length:Int)<=i/\i<xs.length:=by
 unfold gM at h;cases e:pC xs.length i with
 |none=>rw[e] at h;cases h
 |some j=>
  rw[e] at h;obtain⟨l,f,c,a⟩:=qan e;exact#[j,l,h,f,c,a]
def cV{a:Type}{xs:List a}{j:Nat}{v:a}(h:xs[j]? = some v):gM xs (j:Int)=some v:=by
 have c:j<xs.length:=(qvU.mp h).1;have e:pC xs.length (j:Int)=some j:=by
  unfold pC;rw[if_pos ⋯,if_pos ⋯];simp
 unfold gM;rw[e];exact h
def qao(b:zp):Prop:=∀o i,subscripted b false o i=operate [o,i] (getItem o i)
def mO(X:Cx)(r:R2):Prop:=
 ∀(c a:zp)(f:QAC)(s:Zw)(e:St)(H:Hp)(x y:V)(v u:zT)(Q:VK),Inv X f e H s->RelV x v->RelV y u->r x y H Q->
  subscripted a false v u=operate [v,u] (getItem v u)->wX X (subscriptTail c a v u) (EP X f e Q) X.xe s
def gO(X:Cx)(id:String)(r:yV):Prop:=
 ∀(f:QAC)(s:Zw)(a:St)(H:Hp)(x:V)(c:kE)(v:zT)(e:QAE)(Q:VK),Inv X f a H s->RelV x v->Vals c e->r x c H Q->
  wX X (call (.builtin id) (v::e)) (EP X f a Q) X.xe s
section
def bQ(n:mO X r)(w:PE X a e)(o:PE X b tb)(m:qao b):PE X (.Subscript a b pos) (dX r e tb):=by
 intro l s c H Q I h;exact Subscript_ (O5 w o I h λv u f x y A z j i q=>n a b l f c A x y v u Q z j i q (m _ _))
@[simp] def qkk(K:W5):R2:=λx y H Q=>∃p a i v,x = .ref p/\y = .int i/\au K H p a/\gM a i=some v/\Q v H
@[simp] def qkl(K:W5):R2:=λx y H Q=>∃p a i v,x = .ref p/\y = .int i/\aQ K H p a/\gM a i=some v/\Q v H
@[simp] def qap:R2:=λx y H Q=>∃z i c,x = .str z/\y = .int i/\z.length<=sizeLine/\gM z.cps.toList i=some c/\Q (.str #[[c].toArray]) H
def qkm:mO X (qkk X.K):=by
 intro e f A s o H x y v u Q I J G h B;obtain⟨p,xs,i,z,rfl,rfl,M,O,q⟩:=h;cases J;obtain⟨t,rfl⟩:=G;obtain⟨m,r,l,hz⟩:=I.list M;obtain⟨j,c,Y,h3,U,T⟩:=Pn O;obtain⟨w,D,L⟩:=r.get Y;have N:=r.length;have hn:=wY;have a:EP X A o Q w s:=#[z,H,I,L,q]
 by_cases C:0<=i
 ·have n:i.toNat=j:=by
   rw[seqIndex_of C T] at c;exact qwt c
  exact item_listR l.isList C ⋯ (by rw[n];simpa using D) a B
 ·have n:(i+(m.toArray.size:Int)).toNat=j:=by
   rw[seqIndex_neg ⋯ U] at c;rw[qwl,<- N];exact qwt c
  exact subscriptTail_builtinR (x:=w) l.isList.typeIs slot_list_getitem.lookup
   (wpAny_getItem_list_neg (Q:=λr E=>r=w/\EP X A o Q r E) l.isList ∅ (by rw[qwl] <;> lia) ⋯ (by rw[n];simpa using D) #[rfl,a]) B
def qkn:mO X (qkl X.K):=by
 intro a c m s f H x y v u Q I A o h D;obtain⟨p,O,i,z,rfl,rfl,E,J,q⟩:=h;cases A;obtain⟨t,rfl⟩:=o;obtain⟨C,r,l,T⟩:=I.tuple E;obtain⟨j,M,L,h3,h4,Y⟩:=Pn J;obtain⟨w,N,B⟩:=r.get L;have G:=r.length;have U:=wY;have e:EP X m f Q w s:=#[z,H,I,B,q];exact subscriptTail_builtinR (x:=w) l.typeIs slot_tuple_getitem.lookup
  (getItem_tuple (j:=j) (Q:=λr n=>r=w/\EP X m f Q r n) l ⋯ ⋯ (by rw[qwl,<- G];exact M) (by simpa using N) #[rfl,e]) D
def qko:mO X qap:=by
 intro a e J s E H x y v u Q I m l h n;obtain⟨z,i,c,rfl,rfl,L,r,q⟩:=h;obtain⟨t,rfl⟩:=m;obtain⟨G,rfl⟩:=l;obtain⟨j,f,B,N,A,w⟩:=Pn r;have o:z.cps.toList.length=z.length:=by simp[Str.length]
 rw[o] at f A w;have M:=wY;exact tail_any (qx4 s z t) slot_str_getitem.lookup (getItem_str (c:=c) (by
  have D:decide (i < -(2 ^ 63:Int))=false:=qwh ⋯;have C:decide (i≥2 ^ 63)=false:=qwh ⋯;rw[D,C,Bool.or_false]) (by rw[f];simpa using B) #[.str #[[c].toArray],H,I.tok _,#[_,rfl],q]) n
def qkp(its:QAE)(n j:Nat)(u:zT):Obj.mapSeq (·.setIfInBounds j u) {cls:=.type "list",data:=.seq its.toArray n}={cls:=.type "list",data:=.seq (its.set j u).toArray n}:=by
 simp[Obj.mapSeq]
theorem Inv.lst{a:QAC}{σ:St}{H:Hp}{s:Zw}{p:Qv}{xs:kE}(I:Inv X a σ H s)(h:H p=some (.lst xs)):
  ∃(its:QAE)(n:Nat),Vals xs its/\s.heap.get? p=some {cls:=.type "list",data:=.seq its.toArray n}/\xs.length<=sizeLine:=by
 obtain⟨z,its,n,r,e⟩:=I.hok p _ h;exact#[its,n,r,e,z]
def Inv.qkq{c:QAC}{σ:St}{H:Hp}{s:Zw}{p:Qv}{xs ys:kE}{its its':QAE}{n a:Nat}{f:Obj->Obj}(I:Inv X c σ H s)(h:H p=some (.lst xs))(j:s.heap.get? p=some {cls:=.type "list",data:=.seq its.toArray n})(i:f {cls:=.type "list",data:=.seq its.toArray n}={cls:=.type "list",data:=.seq its'.toArray a})(r:Vals ys its')(hz:ys.length<=sizeLine)(t:Nat):
  Inv X c σ (upd H p (.lst ys)) {s with heap:=s.heap.update p f,toks:=t}:=by
 have e:(s.heap.update p f).get? p=some {cls:=.type "list",data:=.seq its'.toArray a}:=by
  rw[qwM f j (by rw[i] <;> rfl),i]
 refine I.write (x:=p) (e:=p) (by rw[h];trivial) (.inl rfl) (λb u l q=>(qw5 _ _ (qxt l)).trans q) #[_,e] ?_;exact#[hz,its',a,r,e]
@[simp] def qaq:V->V->V->Hp->(Hp->Prop)->Prop:=λo i v H Q=>∃p a k j,o = .ref p/\i = .int k/\H p=some (.lst a)/\pC a.length k=some j/\Q (upd H p (.lst (a.set j v)))
def set_list:zP X qaq:=by
 intro J s B H o i v N O u Q I E G D h;obtain⟨p,C,k,j,rfl,rfl,m,M,q⟩:=h;cases E;obtain⟨t,rfl⟩:=G;obtain⟨a,n,r,e,L⟩:=I.lst m;obtain⟨c,U,y,w⟩:=qan M;have f:=r.length;have T:=wY;have A:Inv X J B (upd H p (.lst (C.set j v))) {s with heap:=s.heap.update p (Obj.mapSeq (·.setIfInBounds j u))}:=
  I.qkq m e (qkp a n j u) (r.set D j) (by rw[List.length_set];exact L) s.toks
 by_cases z:0<=k
 ·have l:k.toNat=j:=by
   rw[seqIndex_of z w] at c;exact qwt c
  exact W.ki_setAt e z ⋯ (by rw[qwl,<- f];exact w) (by rw[l];exact#[_,A,q])
 ·have l:(k+(a.toArray.size:Int)).toNat=j:=by
   rw[seqIndex_neg ⋯ y] at c;rw[qwl,<- f];exact qwt c
  exact W.ki_setBack e ∅ (by rw[qwl,<- f];exact y) ⋯ (by rw[l];exact#[_,A,q])
def qkr(lo a:Option Int)(n:Nat):(sliceBounds lo a none n).1=((HT.eZ n 0 lo:Nat):Int)/\(sliceBounds lo a none n).2.1=((HT.eZ n n a:Nat):Int)/\(sliceBounds lo a none n).2.2=1:=by
 refine#[?_,?_,rfl]
 ·cases lo with
  |none=>simp[sliceBounds,HT.eZ]
  |some i=>
   simp only[sliceBounds,HT.eZ,Option.getD_none,show(1:Int) > 0 by decide,if_true]
   by_cases h:i<0
   ·simp only[h,if_true] <;> lia
   ·simp only[h,if_false] <;> lia
 ·cases a with
  |none=>simp[sliceBounds,HT.eZ]
  |some i=>
   simp only[sliceBounds,HT.eZ,Option.getD_none,show(1:Int) > 0 by decide,if_true]
   by_cases h:i<0
   ·simp only[h,if_true] <;> omega
   ·simp only[h,if_false] <;> omega
def qks(its:QAE)(lo a:Option Int):slicePick its.toArray lo a none=((its.drop (HT.eZ its.length 0 lo)).take (HT.eZ its.length its.length a - HT.eZ its.length 0 lo)).toArray:=by
 obtain⟨f,e,c⟩:=qkr lo a its.toArray.size;unfold slicePick;rw[f,e,c];simp only[sliceRange_one,pick_run,qwl] <;> rfl
@[simp] def Hr(K:W5):V->Option Int->Option Int->Hp->VK->Prop:=λx lo e H Q=>∃a c,x = .ref a/\au K H a c/\∀p,H p=none->Q (.ref p) (upd H p (.lst (jU c lo e)))
def qkt:tQ X (Hr X.K):=by
 intro D s z H x v B A lo f C Q I j y m l h;obtain⟨a,c,rfl,w,q⟩:=h;cases j;obtain⟨n,r,i,u⟩:=I.list w;have e:=r.length;refine#["list",_,slot_list_getitem.lookup,i.isList.typeIs,?_];refine wpAny_getItem_list_slice i.isList y m l .none (by simp) ?_ (by rw[qwl] <;> lia);rw[qks,<- e];refine#[.ref s.heap.objs.size,_,I.laid (t':=s.toks) (o:=.lst (jU c lo f)) (λb E q=>qvV _ q) (qvY _) ?_,rfl,q _ (I.hok.fresh (qvY _))];exact#[qv7 (qkj c lo f) u,_,0,(r.drop (HT.eZ c.length 0 lo)).take (HT.eZ c.length c.length f - HT.eZ c.length 0 lo),qv4 _ rfl]
def jw:V->Bool
 |.non=>true
 |.bl _=>true
 |.int _=>true
 |.str _=>true
 |_=>false
def lJ:V->V->Bool
 |.non,.non=>true
 |.bl a,.bl b=>a == b
 |.bl a,.int b=>(if a then 1 else 0) == b
 |.int a,.bl b=>a == (if b then 1 else 0)
 |.int a,.int b=>a == b
 |.str a,.str b=>a == b
 |_,_=>false
def qku(f:RelV y u)(c:RelV x v)(i:jw y=true)(h:jw x=true):SeqAt.EqAt A s u v (lJ y x):=by
 cases y with
 |non=>
  cases f;cases x with
  |non=>cases c;exact SeqAt.EqAt.same _
  |bl b=>cases c;exact SeqAt.EqAt.none_bool b
  |int b=>obtain⟨t,rfl⟩:=c;exact SeqAt.EqAt.none_int b t
  |str b=>obtain⟨t,rfl⟩:=c;exact SeqAt.EqAt.none_str b t
  |_=>cases (show false=true from h)
 |bl a=>
  cases f;cases x with
  |non=>cases c;exact SeqAt.EqAt.bool_none a
  |bl b=>cases c;exact SeqAt.EqAt.bool_bool a b
  |int b=>obtain⟨t,rfl⟩:=c;exact SeqAt.EqAt.bool_int a b t
  |str b=>obtain⟨t,rfl⟩:=c;exact SeqAt.EqAt.bool_str a b t
  |_=>cases (show false=true from h)
 |int a=>
  obtain⟨e,rfl⟩:=f;cases x with
  |non=>cases c;exact SeqAt.EqAt.int_none a e
  |bl b=>cases c;exact SeqAt.EqAt.int_bool a e b
  |int b=>obtain⟨t,rfl⟩:=c;exact SeqAt.EqAt.int_int a e b t
  |str b=>obtain⟨t,rfl⟩:=c;exact SeqAt.EqAt.int_str a e b t
  |_=>cases (show false=true from h)
 |str a=>
  obtain⟨e,rfl⟩:=f;cases x with
  |non=>cases c;exact SeqAt.EqAt.str_none a e
  |bl b=>cases c;exact SeqAt.EqAt.str_bool a e b
  |int b=>obtain⟨t,rfl⟩:=c;exact SeqAt.EqAt.str_int a e b t
  |str b=>obtain⟨t,rfl⟩:=c;exact SeqAt.EqAt.str_str a e b t
  |_=>cases (show false=true from h)
 |_=>cases (show false=true from i)
def jx(x:V)(u:zT):Bool:=match u with
 |.none=>lJ .non x
 |.bool b=>lJ (.bl b) x
 |.int i _=>lJ (.int i) x
 |.str z _=>lJ (.str z) x
 |_=>false
def qar(r:RelV y u)(f:jw y=true):jx x u=lJ y x:=by
 cases y with
 |non=>cases r;rfl
 |bl b=>cases r;rfl
 |int i=>obtain⟨t,rfl⟩:=r;rfl
 |str z=>obtain⟨t,rfl⟩:=r;rfl
 |_=>cases (show false=true from f)
theorem Dm:∀{xs:kE}{us:QAE},Vals xs us->xs.all jw=true->us.any (jx x)=xs.any λy=>lJ y x
 |_,_,.nil,_=>rfl
 |y::xs,u::us,.cons r t,f=>by
  rw[List.all_cons,qwA] at f;rw[qxC,qxC,qar r f.1,Dm t f.2]
theorem Dq(c:RelV x v)(e:jw x=true):∀{xs:kE}{us:QAE},Vals xs us->xs.all jw=true->∀u∈us,SeqAt.EqAt A s u v (jx x u)
 |_,_,.nil,_=>λu a=>by cases a
 |y::xs,u::us,.cons r t,f=>λh a=>by
  rw[List.all_cons,qwA] at f
  rcases qv0.mp a with rfl|a
  ·rw[qar r f.1];exact qku r c f.1 e
  ·exact Dq c e t f.2 h a
def inV(x:V)(xs:kE):Bool:=xs.any λy=>lJ y x
@[simp] def Hs(K:W5)(neg:Bool):R2:=λx y H Q=>∃p a,y = .ref p/\(au K H p a\/aQ K H p a)/\jw x=true/\a.all jw=true/\Q (.bl (if neg then !inV x a else inV x a)) H
def qkv:aZ X (compareOp .In) (Hs X.K false):=by
 intro o s m H x y v u Q I f j h;obtain⟨p,n,rfl,c,i,fs,q⟩:=h;cases j
 rcases c with c|c
 ·obtain⟨a,r,e,l⟩:=I.list c;refine SeqAt.in_listAt (jx x) e.isList (λw hw=>Dq f i r fs w (by simpa using hw)) #[.bl _,H,I,rfl,?_];rw[show a.toArray.any (jx x)=a.any (jx x) by simp,Dm r fs];exact q
 ·obtain⟨a,r,e,l⟩:=I.tuple c;refine SeqAt.in_tupleAt (jx x) e (λw hw=>Dq f i r fs w (by simpa using hw)) #[.bl _,H,I,rfl,?_];rw[show a.toArray.any (jx x)=a.any (jx x) by simp,Dm r fs];exact q
def qkw:aZ X (compareOp .NotIn) (Hs X.K true):=by
 intro o s m H x y v u Q I f j h;obtain⟨p,n,rfl,c,i,fs,q⟩:=h;cases j
 rcases c with c|c
 ·obtain⟨a,r,e,l⟩:=I.list c;refine SeqAt.notIn_listAt (jx x) e.isList (λw hw=>Dq f i r fs w (by simpa using hw)) #[.bl _,H,I,rfl,?_];rw[show a.toArray.any (jx x)=a.any (jx x) by simp,Dm r fs];exact q
 ·obtain⟨a,r,e,l⟩:=I.tuple c;refine SeqAt.notIn_tupleAt (jx x) e (λw hw=>Dq f i r fs w (by simpa using hw)) #[.bl _,H,I,rfl,?_];rw[show a.toArray.any (jx x)=a.any (jx x) by simp,Dm r fs];exact q
def qkx:aZ X (compareOp .NotIn) (λx y H Q=>∃i j,x = .str i/\y = .str j/\Q (.bl (!(!(Builtin.Str.occurrences j i 0 j.length 1).isEmpty))) H):=by
 intro l s e H x y v u Q I c a h;obtain⟨i,j,rfl,rfl,q⟩:=h;obtain⟨t,rfl⟩:=c;obtain⟨f,rfl⟩:=a;exact notIn_str #[.bl _,H,I,rfl,q]
def qky:bY X (.builtin "len") (λxs H Q=>∃p ys,xs=[.ref p]/\(au X.K H p ys\/aQ X.K H p ys)/\Q (.int ys.length) H):=by
 intro o s m H xs n Q I r h;obtain⟨p,ys,rfl,c,q⟩:=h;obtain⟨u,rfl,j⟩:=vals1 r;cases j;have v:=wY
 rcases c with c|c
 ·obtain⟨i,e,f,l⟩:=I.list c;have a:=e.length;exact Calls.call_len_list f.isList (by simp only[qwl] <;> lia) #[.int ys.length,H,I.tok _,#[s.toks+1,by rw[qwl,a]],q]
 ·obtain⟨i,e,f,l⟩:=I.tuple c;have a:=e.length;exact len_tuple f (by simp only[qwl] <;> omega) #[.int ys.length,H,I.tok _,#[s.toks+1,by rw[qwl,a]],q]
def qkz:bY X (.builtin "len") (λxs H Q=>∃z,xs=[.str z]/\z.length<=sizeLine/\Q (.int z.length) H):=by
 intro e s a H xs c Q I r h;obtain⟨z,rfl,f,q⟩:=h;obtain⟨u,rfl,t,rfl⟩:=vals1 r;have i:=wY;exact len_str ⋯ #[.int z.length,H,I.tok _,#[_,rfl],q]
def qkA:bY X (.type "list") (λxs H Q=>∃p ys,xs=[.ref p]/\(au X.K H p ys\/aQ X.K H p ys)/\∀l,H l=none->Q (.ref l) (upd H l (.lst ys))):=by
 intro L s G H xs M Q I r h;obtain⟨p,ys,rfl,v,q⟩:=h;obtain⟨u,rfl,J⟩:=vals1 r;cases J;have z:∀(a:QAE),Vals ys a->ys.length<=sizeLine->∀(c:zf)(i:Nat),(∀b E,s.heap.get? b=some E->c.get? b=some E)->
   c.get? s.heap.objs.size=some {cls:=.type "list",dict:=none,data:=.seq a.toArray i,slots:=#[]}->EP X L G Q (.ref s.heap.objs.size) {s with heap:=c}:=λa f m c i j e=>
  #[.ref s.heap.objs.size,_,I.laid (t':=s.toks) j (qvY _) (show b_ X.prog X.w _ c _ (.lst ys) from#[m,a,i,f,e]),rfl,q _ (I.hok.fresh (qvY _))]
 rcases v with v|v
 ·obtain⟨a,f,A,m⟩:=I.list v;have y:=f.length;obtain⟨o,B,D,n,C⟩:=A.isList;exact call_list_seq p (.inl rfl) B D C (λc i j e=>z a f m c i j e) (by simp only[qwl] <;> omega)
 ·obtain⟨a,f,A,m⟩:=I.tuple v;have y:=f.length;obtain⟨o,B,D,n,C⟩:=A;exact call_list_seq p (.inr rfl) B D C (λc i j e=>z a f m c i j e) (by simp only[qwl] <;> omega)
def qkB:bY X (.type "tuple") (λxs H Q=>∃p ys,xs=[.ref p]/\((au X.K H p ys/\∀l,H l=none->Q (.ref l) (upd H l (.tup ys)))\/(aQ X.K H p ys/\Q (.ref p) H))):=by
 intro n s m H xs D Q I r h;obtain⟨p,ys,rfl,h⟩:=h;obtain⟨u,rfl,A⟩:=vals1 r;cases A
 rcases h with⟨j,q⟩|⟨j,q⟩
 ·obtain⟨a,f,i,v⟩:=I.list j;have y:=f.length;refine call_tuple_list i.isList (λc B=>?_) (by simp only[qwl] <;> omega);have z:Inv X n m H {s with heap:=c}:=I.kept (t':=s.toks) B;have C:Inv X n m (upd H c.objs.size (.tup ys)) {s with heap:=c.push {cls:=.type "tuple",data:=.seq a.toArray}}:=
   z.laid (t':=s.toks) (λb o e=>qvV _ e) (qvY _) (show b_ X.prog X.w _ _ _ (.tup ys) from#[v,a,f,IsTup.new _ _])
  exact#[.ref c.objs.size,_,C,rfl,q _ (z.hok.fresh (qvY _))]
 ·obtain⟨a,f,i,v⟩:=I.tuple j;exact call_tuple_same i #[.ref p,H,I,rfl,q]
def xq(K:W5)(T:String)(x:V)(H:Hp):Prop:=match x with
 |.str _=>T = "str"
 |.int _=>T = "int"
 |.ref p=>(T = "list" /\∃c,au K H p c)\/(T = "tuple" /\∃o,K.lookup p=some o/\o.cls = .type "tuple" /\o.dict=none)\/
   (T = "dict" /\((∃a,H p=some (.dK a))\/∃a,H p=some (.dT a)))\/(T = "set" /\∃S n,H p=some (.set S n))
 |_=>False
def qas{w:QAC}{σ:St}{H:Hp}{s:Zw}{T:String}{x:V}{v:zT}(I:Inv X w σ H s)(r:RelV x v)(ty:xq X.K T x H):
  s.TypeIs v T/\∀a,v = .ref a->∃u,s.heap.get? a=some u/\u.dict=none:=by
 cases x with
 |str z=>
  obtain⟨t,rfl⟩:=r;cases (show T = "str" from ty);exact#[qx4 s z t,λ_ e=>nomatch e]
 |int i=>
  obtain⟨t,rfl⟩:=r;cases (show T = "int" from ty);exact#[typeIs_int s i t,λ_ e=>nomatch e]
 |ref p=>
  cases r
  rcases ty with⟨rfl,C,A⟩|⟨rfl,o,f,B,j⟩|⟨rfl,f⟩|⟨rfl,S,n,f⟩
  ·obtain⟨y,_,m,_⟩:=I.list A;refine#[m.isList.typeIs,λa e=>?_];cases e;obtain⟨o,n,e,c,j,_⟩:=m;exact#[o,e,j]
  ·refine#[#[o,I.cg p o f,B],λa e=>?_];cases e;exact#[o,I.cg _ o f,j]
  ·have z:∃o,s.heap.get? p=some o/\o.ExactDict:=by
    rcases f with⟨h,f⟩|⟨h,f⟩
    ·obtain⟨_,_,_,_,o,_,_,e,ex,_⟩:=I.hok p _ f;exact#[o,e,ex]
    ·obtain⟨_,_,_,_,o,_,_,e,ex,_⟩:=I.hok p _ f;exact#[o,e,ex]
   obtain⟨o,e,ex⟩:=z;refine#[#[o,e,ex.1],λa l=>?_];cases l;exact#[o,e,ex.2.1]
  ·obtain⟨o,_,_,_,e,ex,_⟩:=I.hok p _ f;refine#[#[o,e,ex.1],λa l=>?_];cases l;exact#[o,e,ex.2.1]
 |_=>exact False.elim ty
@[simp] def Pq(K:W5)(T:String)(r:yV)(e:TE):TE:=λc H Q=>e c H λx a=>xq K T x a/\r x [] a Q
@[simp] def tBM(K:W5)(T:String)(r:yV)(f:TE)(t:TA):TE:=λa H Q=>f a H λx c=>xq K T x c/\t a c λe h=>r x e h Q
variable {o e:zp}{es:qy}{to:TE}{t:TA}{name:Str}{apos cpos:Pos}{T id:String}{r:yV}
def qkC(z:PlainAttrs T)(f:Slot T name id)(i:typeOf (.builtin id)=pure (.type "method_descriptor"))(B:gO X id r)(A:PE X o to)(c:attributeBase o name X.env (eval o X.env)=eval o X.env:=by rfl)(a:(apos.endLine == cpos.line)=true:=by rfl):PE X (.Call (.Attribute o name apos) [] [] cpos) (Pq X.K T r to):=by
 intro m s j H Q I h;refine wpAny_Call_method0_late c a (aD (A m s j H _ I h) λv w u=>?_);obtain⟨x,E,n,l,ty,y⟩:=u;obtain⟨D,C⟩:=qas n l ty;exact#[T,id,z,f,i,D,C,qx5 rfl (PySem.evalArgs_none (B m w j E x [] v [] Q n l .nil y))]
def qkD(L:PlainAttrs T)(i:Slot T name id)(u:typeOf (.builtin id)=pure (.type "method_descriptor"))(O:gO X id r)(N:PE X o to)(U:PA X (e::es) t)(f:attributeBase o name X.env (eval o X.env)=eval o X.env:=by rfl)(j:((backTo cpos (starEach (e::es) X.env)).all (λx=>!x.1) && (backToKw cpos (keywordEach [] X.env)).all (λx=>x.1.isSome)
   && decide ((e::es).length+([]:List Keyword).length+(if ([]:List Keyword).isEmpty then 0 else 1)<30))=true:=by rfl)(c:(apos.endLine == cpos.line)=true:=by rfl)(M:lG X e es:=by rfl)(a:nQ X cpos es:=by rfl):
  PE X (.Call (.Attribute o name apos) (e::es) [] cpos) (tBM X.K T r to t):=by
 intro n s l H Q I h;refine wpAny_Call_method_late f j c rfl (aD (N n s l H _ I h) λv D m=>?_);obtain⟨x,H1,z,w,ty,J⟩:=m;obtain⟨h1,Y⟩:=qas z w ty;refine#[T,id,L,i,u,h1,Y,?_];have y:=U cpos n D l H1 _ z J;rw[M] at y⊢;refine qx5 (by show(false || (backTo cpos (starEach es X.env)).any (·.1))=false;rw[a] <;> rfl) (qyn ?_)
 refine aD y λB C m=>?_;obtain⟨A,H2,I2,E,G⟩:=m;exact O n C l H2 x A v B Q I2 w E G
end
def MtM(X:Cx)(id:String)(r:yV):Prop:=
 ∀(f:QAC)(s:Zw)(a:St)(H:Hp)(x:V)(c:kE)(v:zT)(e:QAE)(Q:VK),Inv X f a H s->RelV x v->Vals c e->r x c H Q->
  wX X (call (.builtin id) (v::e)) (EP X f a Q) X.xe s
def Vals.one{x:V}{us:QAE}(h:Vals [x] us):∃u,us=[u]/\RelV x u:=vals1 h
def Vals.two{x y:V}{us:QAE}(h:Vals [x,y] us):∃u v,us=[u,v]/\RelV x u/\RelV y v:=vals2 h
theorem Vals.rep{xs:kE}{us:QAE}(h:Vals xs us):∀k:Nat,Vals (List.replicate k xs).flatten (List.replicate k us).flatten
 |0=>.nil
 |k+1=>by
  rw[qw7,qw7,qyj,qyj];exact Vals.append h (Vals.rep h k)
theorem foldl_rep(its:QAE):∀(k:Nat)(a:QAE),
  List.foldl (λf c=>f++c) a.toArray (List.replicate k its.toArray)=(a++(List.replicate k its).flatten).toArray
 |0,a=>by simp
 |k+1,a=>by
  have e:a.toArray++its.toArray=(a++its).toArray:=by simp
  have h:(a++its)++(List.replicate k its).flatten=a++(List.replicate (k+1) its).flatten:=by
   rw[qw7,qyj,qxu]
  rw[<- h,<- foldl_rep its k (a++its),<- e,qw7,List.foldl_cons]
section
variable {X:Cx}{p_:QAC}{σ:St}{H:Hp}{s:Zw}{l b:Qv}{xs ys zs:kE}
def Inv.qat{its its':QAE}{n:Nat}{f:Array Value->Array Value}{t':Nat}(I:Inv X p_ σ H s)(j:H l=some (.lst xs))(e:s.heap.get? l=some {cls:=.type "list",data:=.seq its.toArray n})(h:f its.toArray=its'.toArray)(a:Vals ys its')(hz:ys.length<=sizeLine):
  Inv X p_ σ (upd H l (.lst ys)) {s with heap:=s.heap.update l (Obj.mapSeq f),toks:=t'}:=by
 have q:=PySem.IsL.update e f;rw[h] at q;refine I.write (x:=l) (e:=l) (by rw[j];exact trivial) (.inl rfl) (λm u i c=>(qw5 s.heap (Obj.mapSeq f) (qxt i)).trans c) #[_,q] ?_;exact#[hz,its',_,a,q]
def Inv.zW{its:QAE}{t':Nat}(I:Inv X p_ σ H s)(a:Vals ys its)(hz:ys.length<=sizeLine):
  Inv X p_ σ (upd H s.heap.objs.size (.lst ys)) {s with heap:=s.heap.push {cls:=.type "list",data:=.seq its.toArray},toks:=t'}:=
 I.laid (λ_ _ q=>qvV _ q) (qvY _) #[hz,its,0,a,qv4 _ rfl]
theorem Inv.fresh(I:Inv X p_ σ H s):H s.heap.objs.size=none:=I.hok.fresh (qvY _)
def Inv.zZ(I:Inv X p_ σ H s)(a:H l=some (.lst xs)):xs.length<=sizeLine/\∃(its:QAE)(n:Nat),Vals xs its/\xs.length=its.length/\s.heap.get? l=some {cls:=.type "list",data:=.seq its.toArray n}:=by
 obtain⟨z,its,n,r,e⟩:=I.hok l _ a;exact#[z,its,n,r,r.length,e]
def qkE(h:n<=sizeLine):Builtin.List.listTooLong n=false:=by
 unfold Builtin.List.listTooLong;exact qwh ⋯
end
@[simp] def Pr:V->List V->Hp->VK->Prop:=λx c H Q=>∃l a y,x = .ref l/\c=[y]/\H l=some (.lst a)/\a.length<sizeLine/\Q .non (upd H l (.lst (a++[y])))
def Pu:MtM X "list.append" Pr:=by
 intro B s m H x w v A Q I f i h;obtain⟨l,o,y,rfl,rfl,c,C,q⟩:=h;cases f;obtain⟨u,rfl,j⟩:=i.one;obtain⟨z,a,n,r,D,e⟩:=I.zZ c;refine qx6 F.slot_list_append #[_,e,rfl] F.entry_list_append (F.args_list_append_2 _ _) (PySem.list_append l a.toArray n u (by rw[qwl];lia)) #[e,?_];refine#[.non,_,I.qat (its':=a++[u]) c e (by simp) (r.append (.cons j .nil)) ?_,rfl,q];rw[qwm,qyc];lia
@[simp] def qtC:V->List V->Hp->VK->Prop:=λx e H Q=>∃l b c a,x = .ref l/\e=[.ref b]/\H l=some (.lst c)/\H b=some (.lst a)/\c.length+a.length<=sizeLine/\Q .non (upd H l (.lst (c++a)))
@[simp] def qtD:V->List V->Hp->VK->Prop:=λx c H Q=>∃l a y,x = .ref l/\c=[]/\H l=some (.lst a)/\a[a.length - 1]? = some y/\Q y (upd H l (.lst a.dropLast))
@[simp] def qtE:V->List V->Hp->VK->Prop:=λx c H Q=>∃l a i k y,x = .ref l/\c=[.int i]/\H l=some (.lst a)/\-(2 ^ 63)<=i/\i<2 ^ 63/\seqIndex? i a.length=some k/\a[k]? = some y/\Q y (upd H l (.lst (a.eraseIdx k)))
@[simp] def qtF:V->List V->Hp->VK->Prop:=λx c H Q=>∃l a,x = .ref l/\c=[]/\H l=some (.lst a)/\Q .non (upd H l (.lst a.reverse))
@[simp] def qtG:V->List V->Hp->VK->Prop:=λx c H Q=>∃l a,x = .ref l/\c=[]/\H l=some (.lst a)/\Q .non (upd H l (.lst []))
@[simp] def qau:R2:=λx y H Q=>∃l b c a,x = .ref l/\y = .ref b/\H l=some (.lst c)/\H b=some (.lst a)/\c.length+a.length<=sizeLine/\∀p,H p=none->Q (.ref p) (upd H p (.lst (c++a)))
def qkF:aZ X (binaryOp .Add) qau:=by
 intro G s C H x y v u Q I i f h;obtain⟨l,b,E,D,rfl,rfl,o,w,L,q⟩:=h;cases i;cases f;obtain⟨z,c,n,r,M,e⟩:=I.zZ o;obtain⟨z2,a,J,j,m,B⟩:=I.zZ w;refine PySem.P.add_list e B ?_ (by rw[qwl,qwl];omega);have A:c.toArray++a.toArray=(c++a).toArray:=by simp
 rw[A];exact#[.ref _,_,I.zW (t':=s.toks) (r.append j) (by rw[qwm];omega),rfl,q _ I.fresh]
@[simp] def qkG:R2:=λx y H Q=>∃l k a,x = .ref l/\y = .int k/\H l=some (.lst a)/\-(2 ^ 63)<=k/\k<2 ^ 63/\a.length * k.toNat<=sizeLine/\
 ∀p,H p=none->Q (.ref p) (upd H p (.lst (List.replicate k.toNat a).flatten))
def len_rep{a:Type}(xs:List a)(k:Nat):(List.replicate k xs).flatten.length=k * xs.length:=by
 induction k with
 |zero=>simp
 |succ k ih=>rw[qw7,qyj,qwm,ih,Nat.succ_mul,Nat.add_comm]
def qkH:aZ X (binaryOp .Mult) qkG:=by
 intro p_ s Y H x y v u Q I G E h;obtain⟨l,k,xs,rfl,rfl,L,N,M,C,q⟩:=h;cases G;obtain⟨t,rfl⟩:=E;obtain⟨z,c,n,r,J,e⟩:=I.zZ L;have i:c.toArray.size * k.toNat<=sizeLine:=by rw[qwl,<- J];exact C
 have o:¬c.toArray.size * k.toNat > (2 ^ 63 - 1) / 8:=by
  have:(sizeLine:Nat)<=(2 ^ 63 - 1) / 8:=by decide
  lia
 have j:¬(!Builtin.List.listFitsIndex k)=true:=by
  rw[fitsIndex_both N M];exact qxo
 have B:¬Builtin.List.listTooLong (c.toArray.size * k.toNat)=true:=by
  rw[qkE i];exact qxo
 have f:List.foldl (λA w=>A++w) #[] (List.replicate (if c.toArray.isEmpty=true then 0 else k.toNat) c.toArray)=(List.replicate k.toNat c).flatten.toArray:=by
  have O:∀m:Nat,List.foldl (λA w=>A++w) #[] (List.replicate m c.toArray)=(List.replicate m c).flatten.toArray:=λm=>by
   have:=foldl_rep c m [];rw[List.nil_append] at this;exact this
  rw[O];cases c with
  |nil=>simp
  |cons a r'=>rw[if_neg (by simp)]
 refine wpAny_binaryOp_repeat_ref (T:= "list") (U:= "int") (by decide) #[_,e,rfl] (λD=>typeIs_int D k t) noFill_list_mul F.fills_int_mul F.slot_int_rmul repeat_list F.slot_int_index.lookup
  (qx6 F.slot_int_rmul (typeIs_int s k t) F.entry_int_rmul (F.args_int_rmul_2 _ _) (int___rmul___int_list k t l c.toArray n)
   #[e,rfl,#[_,e,rfl],qx6 F.slot_list_mul #[_,e,rfl] F.entry_list_mul (F.args_list_mul_2 _ _) (AutoListH.list___mul___list_int_3 l c.toArray n k t j o B) #[e,?_]])
 rw[f];exact#[.ref _,_,I.zW (t':=s.toks) (r.rep k.toNat) (by rw[len_rep,Nat.mul_comm];exact C),rfl,q _ I.fresh]
end L2
namespace Att
open PySem PySem.W PySem.Calls PyProof.Rows
def qkJ:∀(ns:qZ)(vs:QAE),WellAll P h vs (ns.map WData.int)->IntsAre vs ns:=by
 intro ns
 induction ns with
 |nil=>
  intro vs w;rw[qx7] at w;cases w;exact .nil
 |cons n ns ih=>
  intro vs w;rw[qwd] at w;cases w with
  |cons a b=>
   cases a;exact .cons _ _ (ih _ b)
def qkK{l:OpenLaw}{n:Nat}(B:l.most=some n){P:Params}{h:zf}{args:List WData}{c:QAE}(e:l.row.toRowW.claim.pre args=true)(o:WellAll P h c args):
  ∃a vs ns,c=[Value.ref a]/\args=[WData.list (ns.map WData.int)]/\h.get? a=some {cls:=.type "list",data:=.seq vs.toArray}/\IntsAre vs ns/\ns.length<=n:=by
 have u:WShape.hasAll [] args [.list .int]=true:=(pre_splitW e).1;have v:l.pre.holds [] {args:=args}=true:=(pre_splitW e).2;obtain⟨d,r,rfl,E,D⟩:=hasAllW_cons u;obtain rfl:=hasAllW_nil D;obtain⟨G,rfl,C⟩:=hasW_list E;obtain⟨ns,rfl⟩:=items_int C;have f:ns.length<=n:=by
  unfold OpenLaw.pre at v;have m:(WTm.not (.lt (.lit (.int (n:Int))) (.len (.arg 0)))).holds [] {args:=[.list (ns.map .int)]}=true:=by
   have m:=(holds_andW v).1;rw[B] at m;exact m
  have j:=condW_of m (w_not (w_lt w_lit (w_len_list (w_arg rfl))));rw[qv1] at j;refine Nat.le_of_not_lt λq=>?_;have z:(n:Int)<((ns.length:Nat):Int):=∅
  first
   |(rw[qwv z] at j;exact absurd j (by decide))
   |(simp at j;omega)
 cases o with
 |cons y w=>
  cases w;cases y with
  |list A i=>exact#[_,_,ns,rfl,rfl,A,qkJ ns _ i,f]
def qkL(l:OpenLaw)(args:List WData):l.row.toRowW.claim.post args (.bool true) args=true:=
 postW_of (r:=l.row.toRowW) (X:=(true == true))
  (show WShape.has [] (.bool true) .bool=true by first|rfl|decide|simp[WShape.has,WShape.arms,WShape.armsAll])
  (show(WTm.eq .res (.lit (.bool true))).value [] {args:=args,res:=some (.bool true),after:=args}=some (.bool (true == true)) from w_eq_bool (w_res rfl) w_lit) rfl
def qkM{l:OpenLaw}{n:Nat}{q:J9}{h:QAH}{N:(Str->Option Value)->Heap->Prop}{M:World->Heap->Prop}{d:DefRec}(U:l.most=some n)(D:d.params.defaults=[])(call:∀(w:zX)(e c:Zw)(mg B:Zu)(fa:Qv)(o:Obj)(A z j:zT)(a:Qv)(vs:QAE)(ns:qZ),
   Ground q h [] N w e mg B c.heap->M w c.heap->
   c.heap.get? fa=some o->o.data = .func (docDef d.name d.params d.body d.scope A z j)->c.heap.CodeRec z d.name->mg d.name=some (.ref fa)->
   c.heap.get? a=some {cls:=.type "list",data:=.seq vs.toArray}->IntsAre vs ns->ns.length<=n->c.gens = #[]->
   codeAny (model l.prog w) callerA (.call (.ref fa) #[[.ref a],[]]) (λr y=>r = .ok (.ret (.bool true))/\OldK c.heap y.heap/\y.os=c.os/\AllBare y.gens) c):
  WalkO q h N M l.row.toRowW d [] (λf vs=>PySem.call f vs):=by
 intro w e c mg B G Y fa o A z j dV kV T hd E J hmg hg L H as m I O C a0;obtain rfl:dV = .none:=Dflts.none J D;obtain rfl:kV = .none:=Dflts.noKw J;obtain⟨a,vs,ns,rfl,rfl,u,i,v⟩:=qkK U m C;refine enter_call (qwQ (call w e c mg B fa o A z j a vs ns G Y T (fd_plain hd) E hmg u i v hg) λr y Q=>?_);obtain⟨rfl,h2,h3,h4⟩:=Q;exact#[.inl #[.bool true,.bool true,[],rfl,λ_=>rfl,.bool true,qkL l _,λ_=>#[List.Pairwise.nil,λ_ hm=>(nomatch hm)]],h2,h3,h4]
end Att
namespace L2
open PySem PySem.Spec PyProof.Rows
theorem qav:∀{vs:QAE}{ns:qZ},IntsAre vs ns->Vals (ns.map V.int) vs
 |_,_,.nil=>.nil
 |_,_,.cons n t h=>.cons #[t,rfl] (qav h)
def inClass(s:Stmt)(j:Nat):Stmt:=match s with
 |.ClassDef _ _ _ a _ _ _ _ _ _ _=>a.getD j (.Pass #[0,0,0,0])
 |_=>.Pass #[0,0,0,0]
def nU(s:Stmt):Arguments:=match s with
 |.FunctionDef _ a _ _ _ _ _ _ _ _=>a
 |_=>{posonlyargs:=[],args:=[],vararg:=none,kwonlyargs:=[],kw_defaults:=[],kwarg:=none,defaults:=[]}
def iI(s:Stmt):List Stmt:=match s with
 |.FunctionDef _ _ b _ _ _ _ _ _ _=>b
 |_=>[]
def aG(s:Stmt):Scope:=match s with
 |.FunctionDef _ _ _ _ _ _ a _ _ _=>a
 |_=>{kind:=.function,names:=[],isGenerator:=false,isCoroutine:=false}
abbrev aW:lH:=λ_ _ _ _ _ _=>False
abbrev E0:XK:=λ_ _ _=>False
def fZ:Passes aW X E0:=λ_ _ _ _ _ _ _ h=>h.elim
structure aC(K:W5)(x qual:Str)(st:Stmt)(f:Qv)(fd:zq):Prop where
 ex:∃(oc:zT)(od:wJ)(kV doc pm:zT)(an:wJ)(cdv ct:zT)(osl:Array (QAG)),
  fd=W.fnOf x qual (nU st) (iI st) (aG st) .none kV doc pm an cdv ct/\K.lookup f=some #[oc,od,.func fd,osl]/\W.codeIn K cdv qual=true
 kp:W.keepIn K (.ref f)=true
section
variable {P:J9}{w:zX}{K:W5}{mg:Zu}{base:zf}
def aC.ok{x c:Str}{st:Stmt}{f:Qv}{m:zq}{N ps:QAH}{k:Nat}{sp:Sp}(F:aC K x c st f m)(S:bh N ps (aG st))(len:∀vs H Q E,sp vs H Q E->vs.length=ps.length)(i:∀(e:zT)(A:zY)(a:List Env)(s:Zw)(H:Hp)(vs:kE)(Q:VK)(E:XK),cB k (A.deeper (envOfC c (aG st) s.heap.objs.size f e))->sp vs H Q E->
   ∃t,fQ (ao aW P w K mg base N c (aG st) f e A a s H E).lC (iI st) t/\t {nx:=λ_ v=>Q .non v,rt:=Q} (start N vs) H):aO P w K mg base aW (k+1) f m ps sp:=by
 obtain⟨B,z,kV,u,y,D,e,C,n,rfl,o,l⟩:=F.ex;refine Ph o l S len λA a s H vs Q E r j=>?_;obtain⟨t,h,q⟩:=i e A a s H vs Q E r j;exact#[t,h.lC,q]
def aC.binds{x a:Str}{st:Stmt}{f:Qv}{m:zq}{ps:QAH}(F:aC K x a st f m)(h:∀(kV c i:zT)(l:wJ)(e j:zT)(us:QAE),us.length=ps.length->bindArgs (W.fnOf x a (nU st) (iI st) (aG st) .none kV c i l e j) #[us,[]]=pure (ps.zip us)):Binds K m ps []:=by
 obtain⟨u,r,kV,c,i,l,e,j,n,rfl,v,o⟩:=F.ex;exact .all (h kV c i l e j)
def Px{x a:Str}{st:Stmt}{f:Qv}{r:zT}{o n:wJ}{i:Array (QAG)}{kV h j e m:zT}(l:K.lookup f=some #[r,o,.func (W.fnOf x a (nU st) (iI st) (aG st) .none kV h j n e m),i])(c:W.codeIn K e a=true)(k:W.keepIn K (.ref f)=true):aC K x a st f (W.fnOf x a (nU st) (iI st) (aG st) .none kV h j n e m):=#[#[r,o,kV,h,j,n,e,m,i,rfl,l,c],k]
end
def nW(a:cB k A):A.units+1<cLine:=qxI (Nat.add_le_add_left (by decide:1<=64) _) a.units
section
variable {X:Cx}
def pv(i:Nat){x:Str}{pos:Pos}(f:X.N[i]? = some x:=by rfl)(c:zL X.env.scope x:=by first|exact Or.inl rfl|exact Or.inr (Or.inl rfl)|exact Or.inr (Or.inr rfl))(e:iG x:=by decide)(a:(x == ("__classdict__" : Str))=false:=by decide):PE X (.Name x pos) (Ou i):=Zy f c e a
end
def Same(H a:Hp):Prop:=∀b o,H b=some o->a b=some o
def Same.refl(H:Hp):Same H H:=λ_ _ h=>h
def Same.trans(a:Same H f)(b:Same f e):Same H e:=λc o h=>b c o (a c o h)
def Same.free(e:Same H a)(h:a l=Option.none):H l=Option.none:=by
 cases q:H l with
 |none=>rfl
 |some o=>
  rw[e l o q] at h;cases h
def pF(a:Env)(c:List (Str×Addr))(p:Str×NameKind):List (Str×Addr):=if p.2 == .free then (p.1,(a.cells.lookup p.1).getD 0)::c else c
def qP(c:Env)(a:List (Str×NameKind)):List (Str×Addr):=a.foldl (pF c) []
theorem qaw{a β:Type}(f:a->β->Sem (ForInStep β))(g:β->a->β):∀(l:List a)(b:β),(∀x∈l,∀b,f x b=pure (.yield (g b x)))->forIn l b f=pure (l.foldl g b)
 |[],_,_=>rfl
 |x::l,b,h=>by
  rw[List.forIn_cons,h x qv3,pure_bind];exact qaw f g l (g b x) λy c=>h y (qvZ _ c)
def Ht(h:∀x,(x,NameKind.free)∈sc.names->∃c,a.cells.lookup x=some c):closureFor sc a=pure (qP a sc.names):=by
 simp only[closureFor];rw[qaw _ (pF a) sc.names [] (λp e i=>by
  obtain⟨n,k⟩:=p;cases k with
  |free=>
   obtain⟨c,f⟩:=h n e;simp only[pF,cellOf,f,beq_self_eq_true,if_true,Option.getD_some,pure_bind]
  |_=>simp only[pF];rfl)]
 rfl
theorem Hu:∀(a:List (Str×NameKind))(i:List (Str×Addr))(x:Str)(c:Qv),(∀x,(x,NameKind.free)∈a->∃c,f.cells.lookup x=some c)->(∀x c,(x,c)∈i->f.cells.lookup x=some c)->
  (x,c)∈a.foldl (pF f) i->f.cells.lookup x=some c
 |[],_,x,c,_,h,m=>h x c m
 |(n,k)::r,i,x,c,o,h,m=>by
  refine Hu r (pF f i (n,k)) x c (λy j=>o y (qvZ _ j)) (λy d j=>?_) m;unfold pF at j;split at j
  ·rename_i u;have l:k = .free:=by simpa using u
   subst l;obtain⟨e,v⟩:=o n qv3
   rcases qv0.mp j with z|z
   ·cases z;show f.cells.lookup n=some _;rw[v];rfl
   ·exact h y d z
  ·exact h y d j
theorem Py:∀(a:List (Str×NameKind))(c:List (Str×Addr)),((x,NameKind.free)∈a\/(c.lookup x).isSome=true)->((a.foldl (pF e) c).lookup x).isSome=true
 |[],_,h=>h.elim (λz=>nomatch z) id
 |(n,k)::r,c,h=>by
  refine Py r (pF e c (n,k)) ?_
  by_cases f:(x,NameKind.free)∈r
  ·exact .inl f
  ·refine .inr ?_;unfold pF
   rcases h with h|h
   ·rcases qv0.mp h with z|z
    ·cases z;simp[qxc]
    ·exact absurd z f
   ·split
    ·simp only[qxc];cases x == n <;> simp[h]
    ·exact h
def Dr(a:Env)(sc:Scope)(C:Qv):List (Str×Addr):=cellsFrom (C+1) sc.names (qP a sc.names)
theorem Dt:∀(a:List (Str×NameKind))(n:Nat)(c:List (Str×Addr)),(x,NameKind.cell)∈a\/(c.lookup x).isSome=true->((cellsFrom n a c).lookup x).isSome=true
 |[],_,_,h=>h.elim (λz=>nomatch z) id
 |(y,k)::r,n,c,h=>by
  unfold cellsFrom;split
  ·refine Dt r (n+1) ((y,n)::c) ?_
   by_cases e:(x,NameKind.cell)∈r
   ·exact .inl e
   ·refine .inr ?_
    rcases h with h|h
    ·rcases qv0.mp h with z|z
     ·cases z;simp[qxc]
     ·exact absurd z e
    ·simp only[qxc];cases x == y <;> simp[h]
  ·rename_i f;refine Dt r n c ?_
   rcases h with h|h
   ·rcases qv0.mp h with z|z
    ·cases z;exact absurd rfl f
    ·exact .inl z
   ·exact .inr h
theorem Pz:∀(a:List (Str×NameKind))(h:zf)(f:List (Str×Addr))(x:Str)(c:Qv),(x,c)∈cellsFrom h.objs.size a f->(x,c)∈f\/(h.objs.size<=c/\(pushCells h a).IsCell c none)
 |[],_,_,_,_,m=>.inl m
 |(n,k)::r,h,f,x,c,m=>by
  unfold cellsFrom at m;unfold pushCells;split at m
  ·rename_i i;rw[if_pos i];have l:(x,c)∈cellsFrom (h.push {cls:=.type "cell",data:=.cell none}).objs.size r ((n,h.objs.size)::f):=by rw[qwD];exact m
   rcases Pz r (h.push {cls:=.type "cell",data:=.cell none}) _ x c l with z|⟨j,z2⟩
   ·rcases qv0.mp z with e|e
    ·cases e;exact .inr #[qvY _,#[_,pushCells_keeps _ _ _ _ (qv4 _ rfl),rfl]]
    ·exact .inl e
   ·rw[qwD] at j;exact .inr #[⋯,z2]
  ·rename_i i;rw[if_neg i];exact Pz r h f x c m
theorem PB{n0:Nat}{x:Str}:∀(a:List (Str×NameKind))(n:Nat)(f:List (Str×Addr))(c:Qv),((x,NameKind.cell)∈a\/∀d,f.lookup x=some d->n0<=d)->n0<=n->(cellsFrom n a f).lookup x=some c->n0<=c
 |[],_,_,c,h,_,e=>h.elim (λz=>nomatch z) λz=>z c e
 |(y,k)::r,n,f,c,h,m,e=>by
  unfold cellsFrom at e;split at e
  ·refine PB r (n+1) ((y,n)::f) c ?_ ⋯ e
   by_cases o:(x,NameKind.cell)∈r
   ·exact .inl o
   ·refine .inr λd l=>?_
    by_cases i:x=y
    ·subst i;have j:n=d:=by simpa [qxc] using l
     rw[<- j];exact m
    ·have v:(x == y)=false:=by simpa using i
     simp only[qxc,v] at l
     rcases h with h|h
     ·rcases qv0.mp h with z|z
      ·cases z;exact absurd rfl i
      ·exact absurd z o
     ·exact h d l
  ·rename_i u;refine PB r n f c ?_ m e
   rcases h with h|h
   ·rcases qv0.mp h with z|z
    ·cases z;exact absurd rfl u
    ·exact .inl z
   ·exact .inr h
theorem PJ:∀(c:List (Str×NameKind))(n:Nat)(a:List (Str×Addr)),(∀y d,(y,d)∈a->d<n)->(∀y z d,(y,d)∈a->(z,d)∈a->y=z)->
  ∀y z d,(y,d)∈cellsFrom n c a->(z,d)∈cellsFrom n c a->y=z
 |[],_,_,_,h=>h
 |(x,k)::r,n,a,j,h=>by
  unfold cellsFrom;split
  ·refine PJ r (n+1) ((x,n)::a) (λy d l=>?_) λy z d o m=>?_
   ·rcases qv0.mp l with e|e
    ·cases e;exact qwN _
    ·exact qxQ (j y d e)
   ·rcases qv0.mp o with i|i <;> rcases qv0.mp m with f|f
    ·cases i;cases f;rfl
    ·cases i;exact absurd (j z n f) (qwV _)
    ·cases f;exact absurd (j y n i) (qwV _)
    ·exact h y z d i f
  ·exact PJ r n a j h
abbrev eG:QAB:=λ_ _=>False
def qkN(I:Nat->Shared->Prop)(turn:∀n s,I n s->wpAny (model prog w) A (pyNext it) (λr i=>match r with
   |none=>R (.ok .next) i
   |some v=>wpAny (model prog w) A (letOwnedTupleGo a it v) (λ_ y=>wpAny (model prog w) A (assign a e v) (λ_ u=>
     wpAny (model prog w) A (forIn D true λc r=>if r=true then do let ok <- isTrue c e (eval c e);pure (ForInStep.yield ok) else pure (ForInStep.yield r)) (λok f=>
      if ok=true then wpAny (model prog w) A (eval L e) (λx o=>
       wpAny (model prog w) A (call (.builtin "list.append") [M,x]) (λ_ l=>∃m,m<n/\I m l) eG o) eG f
      else ∃m,m<n/\I m f) eG u) eG y) eG i) eG s)(n:Nat)(h:I n s):codeAny (model prog w) A (.compLoop (.ListComp L [#[a,iter,D,0]] C pos) 0 it M e) R s:=by
 refine codeAny_loop rfl I (λn s N=>?_) n h;show wpAny _ A ((compTurn (.ListComp L [#[a,iter,D,0]] C pos) 0 it M e).onRaise (λx=>do noteFrame x e;theTreesLotGoes x)) _ _ s
 refine wpAny_noted ?_;rw[compTurn_list];refine qvT (qw8 (qvT (qwu (turn n s N) (λr i B=>?_) λ_ _ j=>j.elim)));cases r with
 |none=>exact qvW B
 |some v=>
  refine qvT (qwu B (λ_ y J=>?_) λ_ _ j=>j.elim);refine qvT (qwu J (λ_ u H=>qvT (qwu H (λok f z=>?_) λ_ _ j=>j.elim)) λ_ _ j=>j.elim);cases ok with
  |false=>exact qvW #[rfl,z]
  |true=>
   exact qvT (qvT (qwu z (λx o G=>qvT (qwu G (λ_ l E=>qvW (qvW #[rfl,E])) λ_ _ j=>j.elim)) λ_ _ j=>j.elim))
def bD(X:Cx)(sc:Scope)(N:QAH)(C:Qv)(s:Zw)(H:Hp)(a:xQ)(pn:QAC):Cx:=
 {X with env:=compEnvC sc (Dr X.env sc C) C X.env,N:=N,s₀:=s,H₀:=H,outer:=X.stack,ex:=a,fn:=λx=>sc.names.any λp=>p.1 == x && p.2 == .cell,pn:=pn,xe:=eG}
def PK(x:Str):(relabel sc a).names.lookup x=(sc.names.lookup x).map λk=>if (k == NameKind.free && a.scope.kind == .function && a.kindOf x == some .cell)=true then NameKind.cell else k:=by
 unfold relabel;show List.lookup x (sc.names.map _)=_
 induction sc.names with
 |nil=>rfl
 |cons p r ih=>
  obtain⟨n,k⟩:=p;rw[qwd];have f:(if (k == NameKind.free && a.scope.kind == .function && a.kindOf n == some .cell)=true then (n,NameKind.cell) else (n,k))=(n,if (k == NameKind.free && a.scope.kind == .function && a.kindOf n == some .cell)=true then NameKind.cell else k):=by split <;> rfl
  show List.lookup x ((if (k == NameKind.free && a.scope.kind == .function && a.kindOf n == some .cell)=true then (n,NameKind.cell) else (n,k))::_)=_
  rw[f]
  by_cases c:x=n
  ·subst c;simp only[qxc,beq_self_eq_true,Option.map_some]
  ·have e:(x == n)=false:=by simpa using c
   simp only[qxc,e];exact ih
structure bM(ps sc:Scope)(pN own:QAH)(caps:qw)(N:QAH):Prop where
 kind:sc.kind = .function
 uniq:∀p∈sc.names,sc.names.lookup p.1=some p.2
 nd:N.Nodup
 names:N=own++caps.map λj=>pN.getD j ""
 free:∀p∈sc.names,p.2 = .free->ps.names.lookup p.1=some .cell\/ps.names.lookup p.1=some .free
 qax:∀j∈caps,j<pN.length/\sc.names.lookup (pN.getD j "")=some .free
def stC(c:QAH)(a:qw)(σ:St):St:=c.map (λ_=>none)++a.map λj=>(σ[j]?).getD none
section
variable {X:Cx}{p_:QAC}{σ:St}{H:Hp}{s:Zw}{ps sc:Scope}{own pN:QAH}{caps:qw}{N:QAH}{fp:xQ}
theorem bM.cells(S:bM ps sc pN own caps N)(a:X.env.scope=ps)(ok:X.Ok):∀x,(x,NameKind.free)∈sc.names->∃c,X.env.cells.lookup x=some c:=λx e=>by
 refine ok.has x ?_;show X.env.scope.names.lookup x=_\/X.env.scope.names.lookup x=_;rw[a];exact S.free (x,.free) e rfl
def qay(a:∀x,(x,NameKind.free)∈sc.names->∃c,X.env.cells.lookup x=some c){C:Qv}{x:Str}{c:Qv}{h:zf}(e:C+1=h.objs.size)(m:(x,c)∈Dr X.env sc C):X.env.cells.lookup x=some c\/(h.objs.size<=c/\(pushCells h sc.names).IsCell c none):=by
 unfold Dr at m;rw[e] at m
 rcases Pz sc.names h _ x c m with z|z
 ·exact .inl (Hu sc.names [] x c a (λ_ _ z=>nomatch z) z)
 ·exact .inr z
def PN(I:Inv X p_ σ H s)(n:X.env.scope=ps)(S:bM ps sc pN own caps N)(u:∀b∈fp,dj X p_ H b)(D:∀b∈fp,∃o,s.heap.get? b=some o/\∀v,o.data≠.cell v):
  (bD X sc N s.heap.objs.size s H fp (X.pn++p_)).Ok where
 mod:=I.ok.mod
 kind:=S.kind
 glob:=I.ok.glob
 blt:=I.ok.blt
 above:=qvY _
 inj:=λx y c G E=>by
  have w:∀y d,(y,d)∈qP X.env sc.names->X.env.cells.lookup y=some d:=λy d m=>Hu sc.names [] y d (S.cells n I.ok) (λ_ _ z=>nomatch z) m;refine PJ sc.names (s.heap.objs.size+1) (qP X.env sc.names) (λy d m=>?_) (λy z d C B=>I.ok.inj y z d (w y d C) (w z d B)) x y c (qwE G) (qwE E);obtain⟨v,q⟩:=I.cell y d (w y d m);exact qxQ q.lt
 has:=λx l=>by
  have f:(relabel sc X.env).names.lookup x=some .cell\/(relabel sc X.env).names.lookup x=some .free:=l;have i:(x,NameKind.cell)∈sc.names\/(x,NameKind.free)∈sc.names:=by
   rw[PK] at f;cases e:sc.names.lookup x with
   |none=>rw[e] at f;simp at f
   |some k=>
    rw[e] at f;have r:=qwE e;cases k with
    |free=>exact .inr r
    |cell=>exact .inl r
    |_=>simp at f
  have q:((cellsFrom (s.heap.objs.size+1) sc.names (qP X.env sc.names)).lookup x).isSome=true:=by
   rcases i with z|z
   ·exact Dt sc.names _ _ (.inl z)
   ·exact Dt sc.names _ _ (.inr (Py sc.names [] (.inl z)))
  exact Option.isSome_iff_exists.mp q
 cab:=λx c l h=>by
  have i:(x,NameKind.cell)∈sc.names:=by
   have l:(sc.names.any λp=>p.1 == x && p.2 == .cell)=true:=l;obtain⟨⟨a,b⟩,r,A⟩:=List.any_eq_true.mp l;simp at A;obtain⟨rfl,rfl⟩:=A;exact r
  exact PB (n0:=s.heap.objs.size) sc.names (s.heap.objs.size+1) (qP X.env sc.names) c (.inl i) (Nat.le_succ _) h
 hd:=I.ok.hd
 frames:=I.ok.frames
 stk:=.inl rfl
 qG:=λb j=>by
  obtain⟨o,e,_⟩:=D b j;refine#[qwk (qv2 e),λx c h z=>?_];subst z
  rcases qay (S.cells n I.ok) (h:=s.heap.push {cls:=.type "dict",data:=.dict #[]}) (by rw[qwD]) (qwE h) with q|⟨q,_⟩
  ·exact(u c j).2.2.2.2.1 x c q rfl
  ·rw[qwD] at q;exact absurd (qv_ (qv_ (qv2 e) (Nat.le_succ _)) q) (qwV _)
 bs:=I.bs
 jR:=qv7 I.ok.jR I.sz
 sZ:=λb o e j=>by
  rcases(u b j).2.2.2.1 with z|z
  ·exact I.ok.sZ b o e z
  ·exact absurd (qv_ (qv2 e) (qv7 I.ok.jR z)) (qwV _)
 qH:=λb j z=>by
  rcases qv0.mp (I.wM b z) with q|q
  ·exact(u b j).2.1 q
  ·exact(u b j).2.2.1 q
 iC:=I.stack
 mF:=I.G8
def blockAt(sc:Scope)(s:Zw):Shared:={s with heap:=pushCells (s.heap.push {cls:=.type "dict",data:=.dict #[]}) sc.names}
def qaz(I:Inv X p_ σ H s)(A:X.env.scope=ps)(ac:X.N=pN)(S:bM ps sc pN own caps N)(hf:∀b∈fp,dj X p_ H b)(ho:∀b∈fp,∃o,s.heap.get? b=some o/\∀v,o.data≠.cell v):
  Inv (bD X sc N s.heap.objs.size s H fp (X.pn++p_)) [] (stC own caps σ) H (blockAt sc s):=by
 have U:∀b o,s.heap.get? b=some o->(blockAt sc s).heap.get? b=some o:=λb o e=>pushCells_keeps _ _ b o (qvV _ e);have ae:(blockAt sc s).heap.Ns s.heap.objs.size λ_=>none:=(Heap.Ns.new s.heap (.type "dict")).keeps (pushCells_keeps _ _);have E:∀x c,(Dr X.env sc s.heap.objs.size).lookup x=some c->X.env.cells.lookup x=some c\/(s.heap.objs.size+1<=c/\(blockAt sc s).heap.IsCell c none):=λx c e=>by
  rcases qay (S.cells A I.ok) (h:=s.heap.push {cls:=.type "dict",data:=.dict #[]}) (by rw[qwD]) (qwE e) with q|⟨q,r⟩
  ·exact .inl q
  ·rw[qwD] at q;exact .inr #[q,r]
 refine#[PN I A S hf ho,rfl,I.bare,Un.kept U,#[_,ae,λi x v e1 w e3=>?_],λx c e=>?_,I.hok.fresh (qvY _),λx c e=>?_,λp hp=>?_,I.hok.kept U,?_]
 ·have C:N[i]? = some x:=e1;rw[S.names] at C;unfold stC at w
  by_cases hi:i<own.length
  ·rw[qwo (by simpa using hi),qv8] at w;cases q:own[i]? with
   |none=>rw[q] at w;cases w
   |some y=>rw[q] at w;cases w
  ·rw[qwq ⋯,qv8] at C;rw[qwq (by simp;omega),qv8] at w;simp only[qv1] at w;cases q:caps[i - own.length]? with
   |none=>rw[q] at w;cases w
   |some j=>
    rw[q] at C w;have M:pN.getD j "" = x:=qwt C;have B:(σ[j]?).getD none=some v:=qwt w;have hj:σ[j]? = some (some v):=by
     cases z:σ[j]? with
     |none=>rw[z] at B;cases B
     |some o=>rw[z] at B;exact qws some B
    obtain⟨ag,a⟩:=S.qax j (qvX q);rw[M] at a;have ai:X.N[j]? = some x:=by
     rw[ac,<- M];simp[List.getD,qwi ag]
    have L:=S.free (x,.free) (qwE a) rfl;have a0:zL X.env.scope x:=by rw[A];exact .inr L
    obtain⟨m,hn,hl⟩:=I.loc;obtain⟨u,r,l⟩:=hl j x v ai hj a0;refine#[u,r,.inr ?_];have D:(relabel sc X.env).names.lookup x=some .cell\/(relabel sc X.env).names.lookup x=some .free:=by
     rw[PK,a];show some (if _ then _ else _)=_\/some (if _ then _ else _)=_
     split
     ·exact .inl rfl
     ·exact .inr rfl
    refine#[D,?_];have G:X.env.kindOf x=some .cell\/X.env.kindOf x=some .free:=by
     show X.env.scope.names.lookup x=_\/X.env.scope.names.lookup x=_;rw[A];exact L
    rcases l with⟨Q,_⟩|⟨_,c,hc,Y⟩
    ·rcases G with z|z <;> (rw[Q] at z;cases z)
    ·have q2:((Dr X.env sc s.heap.objs.size).lookup x).isSome=true:=Dt sc.names _ _ (.inr (Py sc.names [] (.inl (qwE a))));obtain⟨d,hd⟩:=Option.isSome_iff_exists.mp q2;refine#[d,hd,?_]
     rcases E x d hd with z|⟨z,_⟩
     ·rw[hc] at z;cases z;exact Y.keeps U
     ·
      exfalso;have af:(x,NameKind.cell)∉sc.names:=λO=>by
       have:=S.uniq _ O;rw[a] at this;cases this
      have al:=qwE hd;have aa:∀(f:List (Str×NameKind))(n:Nat)(J:List (Str×Addr)),(x,NameKind.cell)∉f->(cellsFrom n f J).lookup x=J.lookup x:=by
       intro f
       induction f with
       |nil=>intro _ _ _;rfl
       |cons p r ih=>
        intro n J O;obtain⟨y,k⟩:=p;unfold cellsFrom;split
        ·rename_i ah;have T:k = .cell:=by simpa using ah
         subst T;rw[ih _ _ λz=>O (qvZ _ z)];have ab:(x == y)=false:=by
          cases hb:x == y with
          |false=>rfl
          |true=>exact absurd (by rw[beq_iff_eq.mp hb];exact qv3) O
         simp only[qxc,ab]
        ·exact ih _ _ λz=>O (qvZ _ z)
      have e5:(qP X.env sc.names).lookup x=some d:=(aa sc.names _ _ af).symm.trans hd;have e6:=Hu sc.names [] x d (S.cells A I.ok) (λ_ _ z=>nomatch z) (qwE e5);rw[hc] at e6;cases e6;exact absurd (qv_ (qv_ Y.lt (Nat.le_succ _)) z) (qwV _)
 ·rcases E x c e with z|⟨_,z⟩
  ·obtain⟨v,q⟩:=I.cell x c z;exact#[v,q.keeps U]
  ·exact#[_,z]
 ·rcases E x c e with z|⟨z,_⟩
  ·exact I.iD x c z
  ·exact I.hok.fresh ⋯
 ·rw[qwy] at hp;obtain⟨e,n,ne,nf,d⟩:=I.pin p hp;refine#[U _ _ e,n,qwk (qv2 e),λz=>?_,d]
  rcases qv0.mp (I.wM p.1 z) with q|q
  ·exact ne q
  ·exact nf q
 ·show(stC own caps σ).length=N.length;rw[S.names];simp[stC]
def qaC(I:Inv X p_ σ H s)(a:∀b∈fp,dj X p_ H b){C:Qv}{l:QAC}{j:QAC}{f:St}{i:Hp}{h:Zw}(e:Inv (bD X sc N C s H fp l) j f i h):Inv X p_ σ i h:=
 I.call' (ch:=fp) e.os e.base e.hok e.bare λb c=>#[(a b c).2.2.2.1,(a b c).2.1,(a b c).2.2.2.2.1,(a b c).2.2.2.2.2]
end
def jV(X:Cx)(e:qy)(t:TT):Prop:=
 ∀(f:QAC)(s:Zw)(a:St)(H:Hp)(Q:Bool->Hp->Prop),Inv X f a H s->t a H Q->
  wX X (forIn e true λc r=>if r=true then do let ok <- isTrue c X.env (eval c X.env);pure (ForInStep.yield ok) else pure (ForInStep.yield r)) (TP X f a Q) X.xe s
@[simp] def qkP:TT:=λ_ H Q=>Q true H
def dZ:jV X [] qkP:=λ_ _ _ H _ I h=>wpAny_tests_nil #[H,I,h]
def mQ(h:PT X c t):jV X [c] t:=λe s a H Q I hw=>wpAny_tests_one (h e s a H Q I hw)
def qQ(l:QAH)(e:qw)(J:It)(g:TG)(v:TT)(w:TE)(D:Qv)(σ:St)(H:Hp)(Q:Hp->Prop):Prop:=
 ∃n:Nat->Nat->St->Hp->Prop,(∃m,n 0 m (stC l e σ) H)/\∀i m c h,n i m c h->
  (J.stop i h/\Q h)\/(J.go i h/\∃N:St->Hp->Prop,(∀a f,N a f->∃o,o<m/\n (i+1) o a f)/\∀x f,J.jf i h x f->g x c f λa z=>v a z λb u=>
   if b=true then w a u λy r=>∃j,r D=some (.lst j)/\j.length<sizeLine/\N a (upd r D (.lst (j++[y]))) else N a u)
def Du(c:QAH)(a:qw)(h:TI)(g:TG)(i:TT)(j:TE):TE:=λe H Q=>h e H λJ f=>∀D,f D=none->qQ c a J g i j D e (upd f D (.lst [])) (Q (.ref D))
def qaD{M:Model}{A:zY}{E:QAB}{s:Zw}{sc:Scope}{g:Qv}{i:List (Str×Addr)}{a:Str}{e:Env}{Q:Env->Shared->Prop}(h:Q (newEnv sc s.heap.objs.size g (cellsFrom (s.heap.objs.size+1) sc.names i) a none .none (some e) builtinsNs) (blockAt sc s)):wpAny M A (newFunctionEnv sc g i [] a none .none (some e)) Q E s:=by
 simp only[newFunctionEnv,Option.isSome_some,if_true];refine qvT (wpAny_alloc ?_);refine qvT (wpAny_layCells _ (λname c cells=>by cases f:c == NameKind.cell <;> simp[f]) _ _ _ _ ?_);rw[show({s with heap:=s.heap.push {cls:=.type "dict",data:=.dict #[]}}:Shared).heap.objs.size=s.heap.objs.size+1 from qwD ..];rw[List.forIn_nil];exact qvT (qvW (qvW h))
def Hv(X:Cx)(e:QAC)(σ:St)(Q:Hp->Prop)(C:Qv)(r:Result)(c:Zw):Prop:=
 ∃a,r = .ok .next/\Inv X e σ a c/\(∃m,c.heap.Ns C m)/\dj X e a C/\Q a
structure qR(Y:Cx->Prop)(P:J9)(w:zX)(K:W5)(tg:zp)(J:It)(fp:xQ)(it:Qv)(tn:Nat->Heap->Prop):Prop where
 mem:it∈fp
 obj:∀i h,tn i h->∀b∈fp,∃o,h.get? b=some o/\∀v,o.data≠.cell v
 keep:∀i h h',tn i h->(∀b∈fp,∀o,h.get? b=some o->h'.get? b=some o)->tn i h'
 item:∀(X:Cx),X.prog=P->X.w=w->X.K=K->Y X->∀(i:Nat)(p_:QAC)(s:Zw)(σ:St)(H:Hp)(E:QAB),Inv X p_ σ H s->(∀b∈fp,dj X p_ H b)->tn i s.heap->J.go i H->
  wpAny (model P w) X.A (pyNext (.ref it)) (λr s1=>∃u,r=some u/\
   wpAny (model P w) X.A (letOwnedTupleGo tg (.ref it) u) (λ_ s2=>∃x H',Inv X p_ σ H' s2/\RelV x u/\J.jf i H x H'/\tn (i+1) s2.heap/\∀b∈fp,H' b=none) E s1) E s
 done:∀(X:Cx),X.prog=P->X.w=w->X.K=K->Y X->∀(i:Nat)(p_:QAC)(s:Zw)(σ:St)(H:Hp)(E:QAB),Inv X p_ σ H s->(∀b∈fp,dj X p_ H b)->tn i s.heap->J.stop i H->
  wpAny (model P w) X.A (pyNext (.ref it)) (λr s1=>r=none/\Inv X p_ σ H s1) E s
 self:∀(A:zY)(i:Nat)(s:Zw)(Q:QAB)(E:QAB),tn i s.heap->Q (.ref it) s->wpAny (model P w) A (pyIter (.ref it)) Q E s
section
variable {P:J9}{w:zX}{K:W5}{tg:zp}{J:It}{fp:xQ}{it:Qv}{tn:Nat->Heap->Prop}
def Turn.g(T:Turn P w K tg J fp it tn):qR (λX=>X.calm=true) P w K tg J fp it tn:=#[T.mem,T.obj,T.keep,T.item,T.done,T.self]
def qR.t(T:qR (λX=>X.calm=true) P w K tg J fp it tn):Turn P w K tg J fp it tn:=#[T.mem,T.obj,T.keep,T.item,T.done,T.self]
end
def PIG(Y:Cx->Prop)(X:Cx)(n iter:zp)(m:TI):Prop:=
 ∀(c:QAC)(s:Zw)(a:St)(H:Hp)(R:It->Hp->Prop),Inv X c a H s->m a H R->
  wX X (eval iter X.env) (λv o=>wX X (pyIter v) (λe i=>∃(j:Qv)(l:xQ)(h:Nat->Heap->Prop)(J:It)(f:Hp),e = .ref j/\Inv X c a f i/\qR Y X.prog X.w X.K n J l j h/\h 0 i.heap/\(∀b∈l,dj X c f b)/\R J f) X.xe o) X.xe s
theorem PI.g(h:PI X i iter c):PIG (λX=>X.calm=true) X i iter c:=λj s a H R I w=>
 aD (h j s a H R I w) λv A n=>aD n λl z ⟨m,o,f,J,y,e,u,T,r⟩=>#[m,o,f,J,y,e,u,T.g,r]
def qaE{Y:Cx->Prop}{j:QAC}{σ:St}{H:Hp}{s:Zw}{E:QAB}{ab tg iter:zp}{aa:qy}{pos:Pos}{J:It}{a:xQ}{it D:Qv}{tn:Nat->Heap->Prop}{g:TG}{tt:TT}{te:TE}{Q:Hp->Prop}(I:Inv X j σ H s)(ag:X.env.scope=ps)(al:X.N=pN)(S:bM ps sc pN ai ah N)(T:qR Y X.prog X.w X.K tg J a it tn)(st:tn 0 s.heap)(hf:∀b∈a,dj X j H b)(hY:∀C s H a pn,Y (bD X sc N C s H a pn))(hg:∀C s H a pn,PG (bD X sc N C s H a pn) tg g)(ht:∀C s H a pn,jV (bD X sc N C s H a pn) aa tt)(he:∀C s H a pn,PE (bD X sc N C s H a pn) ab te)(h:qQ ai ah J g tt te D σ H Q):
  wX X (newFunctionEnv sc X.env.globals (qP X.env sc.names) [] X.env.qual none .none (some X.env)) (λU s4=>
   codeAny (model X.prog X.w) X.A (.compStart (.ListComp ab [#[tg,iter,aa,0]] sc pos) 0 (.ref it) (.ref D) {U with scope:=relabel sc X.env}) (Hv X j σ Q U.locals) s4) E s:=by
 obtain⟨aU,⟨m0,w0⟩,turn⟩:=h;refine qaD ?_;have ho:=T.obj 0 _ st;have I0:=qaz I ag al S hf ho;have a0:=PN I ag S hf ho;have hk:∀b o,s.heap.get? b=some o->(blockAt sc s).heap.get? b=some o:=λb o e=>pushCells_keeps _ _ b o (qvV _ e);have af:tn 0 (blockAt sc s).heap:=T.keep 0 _ _ st λb _ o e=>hk b o e;have B:∀{G:Hp},(∀b∈a,G b=none)->∀b∈a,dj (bD X sc N s.heap.objs.size s H a (X.pn++j)) [] G b:=λhn b f=>
  #[hn b f,(a0.qG b f).1,a0.qH b f,.inl f,(a0.qG b f).2,λp hp=>(hf b f).2.2.2.2.2 p (by rw[qwy] at hp;exact hp)]
 have O:codeAny (model X.prog X.w) X.A (.compLoop (.ListComp ab [#[tg,iter,aa,0]] sc pos) 0 (.ref it) (.ref D) (bD X sc N s.heap.objs.size s H a (X.pn++j)).env) (Hv X j σ Q s.heap.objs.size) (blockAt sc s):=by
  refine qkN (λn s'=>∃i z G,Inv (bD X sc N s.heap.objs.size s H a (X.pn++j)) [] z G s'/\tn i s'.heap/\(∀b∈a,G b=none)/\aU i n z G) ?_ m0 #[0,_,H,I0,af,λb f=>(hf b f).1,w0];rintro n s3 ⟨i,M,H3,I3,ae,nO,w3⟩
  rcases turn i n M H3 w3 with⟨ac,qn⟩|⟨go,N',hN,step⟩
  ·refine aD (T.done (bD X sc N s.heap.objs.size s H a (X.pn++j)) rfl rfl rfl (hY _ _ _ _ _) i [] s3 M H3 eG I3 (B nO) ae ac) λr s4 c=>?_;obtain⟨hr,I4⟩:=c;subst hr;obtain⟨m,hn,_⟩:=I4.loc;exact#[H3,rfl,qaC I hf I4,#[m,hn],I.lE (qvY _) I4.free,qn]
  ·refine aD (T.item (bD X sc N s.heap.objs.size s H a (X.pn++j)) rfl rfl rfl (hY _ _ _ _ _) i [] s3 M H3 eG I3 (B nO) ae go) λr s4 c=>?_;obtain⟨u,hr,h4⟩:=c;subst hr;refine aD h4 λ_ s5 c=>?_;obtain⟨x,H5,I5,r5,y5,jt,wU⟩:=c;have wV:=I5.pinned (B wU) (T.obj _ _ jt);refine aD (hg _ _ _ _ _ _ s5 M H5 x u _ wV r5 (step x H5 y5)) λ_ s6 c=>?_;obtain⟨L,H6,I6,q6⟩:=c;refine aD (ht _ _ _ _ _ _ s6 L H6 _ I6 q6) λb s7 c=>?_;obtain⟨H7,I7,q7⟩:=c;have again:∀{l:St}{H8:Hp}{s8:Zw},Inv (bD X sc N s.heap.objs.size s H a (X.pn++j)) ([]++wR a s5.heap) l H8 s8->N' l H8->
     ∃m,m<n/\∃i z G,Inv (bD X sc N s.heap.objs.size s H a (X.pn++j)) [] z G s8/\tn i s8.heap/\(∀b∈a,G b=none)/\aU i m z G:=λ{l H8 s8} I8 n8=>by
    obtain⟨m',hm,w8⟩:=hN l H8 n8;refine#[m',hm,i+1,l,H8,I8.zR,T.keep _ _ _ jt λb f o e=>(I8.pin (b,o) (qwf _ (qwf _ (tO f e)))).1,λb f=>?_,w8];obtain⟨o,e,d⟩:=T.obj _ _ jt b f;exact(I8.pin (b,o) (qwf _ (qwf _ (tO f e)))).2.1
   cases b with
   |false=>
    rw[if_neg qxo] at q7⊢;exact again I7 q7
   |true=>
    rw[if_pos rfl] at q7⊢;refine aD (he _ _ _ _ _ _ s7 L H7 _ I7 q7) λv s8 c=>?_;obtain⟨y,H8,I8,r8,ys,hD,hz,n8⟩:=c;refine aD (Pu (X:=bD X sc N s.heap.objs.size s H a (X.pn++j)) _ s8 L H8 (.ref D) [y] (.ref D) [v] (λ_ H9=>N' L H9) I8 rfl (.cons r8 .nil) #[D,ys,y,rfl,rfl,hD,hz,n8]) λ_ s9 c=>?_;obtain⟨_,H9,I9,_,n9⟩:=c;exact again I9 n9
 exact codeAny_compStart_list O (T.self X.A 0 _ _ _ af O)
def bM.locs(S:bM ps sc pN c a N):∀x∈sc.names,x.2 = .local->sc.names.lookup x.1=some .local:=λx f e=>by rw[<- e];exact S.uniq x f
def qkQ(j:X.env.scope=ps)(E:X.N=pN)(S:bM ps sc pN A w N)(hY:∀C s H a f,Y (bD X sc N C s H a f))(hi:PIG Y X M iter wi)(hg:∀C s H a f,PG (bD X sc N C s H a f) M g)(ht:∀C s H a f,jV (bD X sc N C s H a f) B tt)(he:∀C s H a f,PE (bD X sc N C s H a f) G te)(hs:∀x,foldedSetIterable iter X.env x=pure x:=by intro _;rfl):PE X (.ListComp G [#[M,iter,B,0]] sc pos) (Du A w wi g tt te):=by
 intro y s z H Q I h;rw[eval_ListComp];refine qxT (use:=none) rfl hs (Ht (S.cells j I.ok)) S.kind S.locs (aD (hi y s z H _ I h) λv s1 h1=>aD h1 λa0 c h2=>?_);obtain⟨it,a,tn,J,L,e,I2,T,i,U,q⟩:=h2;subst e;have fr:L c.heap.objs.size=none:=I2.fresh;refine qxh ?_;have I3:Inv X y z (upd L c.heap.objs.size (.lst [])) {c with heap:=c.heap.push {cls:=.type "list",data:=.seq ([]:QAE).toArray},toks:=c.toks}:=I2.zW (its:=[]) (ys:=[]) .nil (qwF _);have f3:∀b∈a,dj X y (upd L c.heap.objs.size (.lst [])) b:=λb l=>by
  obtain⟨o,e,_⟩:=T.obj 0 _ i b l;exact#[by rw[aN (qwk (qv2 e))];exact(U b l).1,(U b l).2]
 refine aD (qaE (iter:=iter) (pos:=pos) I3 j E S T (T.keep 0 _ _ i λb _ o e=>qvV _ e) f3 hY hg ht he (q _ fr)) λu s4 h4=>?_;refine qwQ h4 λr O ⟨H5,hr,I5,⟨m,hn⟩,n,q5⟩=>?_;subst hr;refine#[m,hn,λh' D=>?_];have I6:Inv X y z H5 {O with heap:=h',toks:=O.toks}:=I5.turned (it:=u.locals) (λb o l e=>(D.2 b l).trans e) n.1 n.2.1 n.2.2.2.1 n.2.2.2.2.1 n.2.2.2.2.2;exact#[.ref c.heap.objs.size,H5,I6,rfl,q5]
def fJ(i:X.env.scope=ps)(j:X.N=pN)(S:bM ps sc pN f e N)(A:X.calm=true)(w:PI X m iter n)(y:∀C s H c a,PG (bD X sc N C s H c a) m g)(u:∀C s H c a,jV (bD X sc N C s H c a) h o)(z:∀C s H c a,PE (bD X sc N C s H c a) l r)(v:∀x,foldedSetIterable iter X.env x=pure x:=by intro _;rfl):PE X (.ListComp l [#[m,iter,h,0]] sc pos) (Du f e n g o r):=qkQ i j S (λ_ _ _ _ _=>A) w.g y u z v
def nY{i:Nat}{y:Str}{D f:Pos}(hN:X.N.Nodup)(hy:X.N[i]? = some y)(hl:X.env.scope.names.lookup y=some .local)(L:X.env.scope=ps)(ae:X.N=pN)(S:bM ps sc pN a0 O N)(hc:X.calm=true)(hi:PI X U iter wi)(hg:∀C s H n E,PG (bD X sc N C s H n E) U g)(ht:∀C s H n E,jV (bD X sc N C s H n E) l tt)(he:∀C s H n E,PE (bD X sc N C s H n E) w te)(aa:swapsWith (.ListComp w [#[U,iter,l,0]] sc pos) (some (.Name y D)) f.line X.env=pure true:=by rfl)(hs:∀x,foldedSetIterable iter X.env x=pure x:=by intro _;rfl):PS X (.Assign [.Name y D] (.ListComp w [#[U,iter,l,0]] sc pos) f) (wQ (Du a0 O wi g tt te) (wO i)):=by
 intro G s Y H D0 I h;rw[exec_Assign_Name_used _ _ _ _ aa];refine qvT (qw8 (qvT ?_));show wpAny _ X.A (do let _ <- comprehension (.ListComp w [#[U,iter,l,0]] sc pos) sc X.env _ (newList []) false (eval iter X.env) (some (assign (.Name y D) X.env))) _ _ s
 refine qvT (qwu (qxT (use:=some (assign (.Name y D) X.env)) (Q:=λ_ s'=>SP X G D0 .next s') rfl hs (Ht (S.cells L I.ok)) S.kind S.locs
  (aD (hi G s Y H _ I h) λv s1 h1=>aD h1 λag c h2=>?_)) (λ_ s' hq=>qvW (qvW hq)) λ_ _ e=>e)
 obtain⟨it,n,tn,J,H2,e,I2,T,B,f2,q⟩:=h2;subst e;have fr:H2 c.heap.objs.size=none:=I2.fresh;refine qxh ?_;have I3:Inv X G Y (upd H2 c.heap.objs.size (.lst [])) {c with heap:=c.heap.push {cls:=.type "list",data:=.seq ([]:QAE).toArray},toks:=c.toks}:=I2.zW (its:=[]) (ys:=[]) .nil (qwF _);have f3:∀b∈n,dj X G (upd H2 c.heap.objs.size (.lst [])) b:=λb M=>by
  obtain⟨o,e,_⟩:=T.obj 0 _ B b M;exact#[by rw[aN (qwk (qv2 e))];exact(f2 b M).1,(f2 b M).2]
 refine aD (qaE (iter:=iter) (pos:=pos) I3 L ae S T.g (T.keep 0 _ _ B λb _ o e=>qvV _ e) f3 (λ_ _ _ _ _=>hc) hg ht he (q _ fr)) λj s4 h4=>?_;refine qwQ h4 λr s5 ⟨H5,hr,I5,⟨m,hn⟩,u,q5⟩=>?_;subst hr;show wpAny _ X.A (assign (.Name y D) X.env (.ref c.heap.objs.size)) _ _ _;refine wpAny_assign_Name (Dc I5 hN hy (.inl hl) (v:=.ref c.heap.objs.size) rfl (λs6 I6 ab=>?_) (.inr hl));obtain⟨a,sb,ha⟩:=ab;have af:j.locals≠a:=by
  rcases ha with z|z
  ·rw[z];exact u.2.1
  ·exact λe=>u.2.2.2.2.1 y a z e.symm
 refine#[m,hn.sameBut sb af,λh' ac=>?_];have I7:Inv X G (Y.set i (some (.ref c.heap.objs.size))) H5 {s6 with heap:=h',toks:=s6.toks}:=I6.turned (it:=j.locals) (λb o M e=>(ac.2 b M).trans e) u.1 u.2.1 u.2.2.2.1 u.2.2.2.2.1 u.2.2.2.2.2;exact#[_,H5,I7,q5]
section
variable {X:Cx}{p_:QAC}{σ:St}{H:Hp}{s:Zw}{h':zf}
def Inv.tV{t':Nat}{ch:xQ}(I:Inv X p_ σ H s)(k:∀b o,b∉ch->s.heap.get? b=some o->h'.get? b=some o)(f:∀b∈ch,dj X p_ H b):Inv X p_ σ H {s with heap:=h',toks:=t'}:=by
 refine I.step (g':=s.gens) (d':=s.drawn) (ch:=ch) (λb i=>#[(f b i).2.2.2.1,(f b i).2.1,(f b i).2.2.2.2.1,(f b i).2.2.2.2.2]) (λb o _ _ a e _=>k b o a e) (λb o _ _ a e _=>#[o.slots,k b o a e]) (λ_ _ _ _ n=>n)
  (λb o a e=>#[o,k b o a e]) (λ_ _ e=>e) (λ_ _ _ e=>e) (λb B e=>#[#[],by rw[e];simp]) (λm l=>?_) (λb u e=>?_) I.bare
 ·obtain⟨o,w,A,j,r⟩:=l;exact#[o,w,A,k _ o (λz=>(f _ z).2.1 rfl) j,r]
 ·refine(I.hok b u e).stay (λc v a q=>k c v (λz=>?_) q) (λ_ q=>q) λ_ _ q=>q;have h:=(f c z).1
  rcases a with y|y
  ·rw[y,e] at h;cases h
  ·rw[y] at h;cases h
def Inv.wL(I:Inv X p_ σ H s)(new:X.s₀.heap.get? a=none)(un:H a=none)(D:a≠X.env.locals)(C:∀x c,X.env.cells.lookup x=some c->c≠a)(B:∀p∈X.pn++p_,p.1≠a)(ok:b_ X.prog X.w (upd H a f) s.heap a f):Inv X p_ σ (upd H a f) s:=by
 have k:∀{b u},H b=some u->upd H a f b=some u:=λq=>(aN (λz=>by rw[z,un] at q;cases q)).trans q;refine#[I.ok,I.os,I.bare,#[I.base.keep,I.base.slot,λb o e n r=>(aN λz=>by rw[z,new] at e;cases e).trans (I.base.free b o e n r),I.base.there,λb j q=>k (I.base.tups b j q),λb o u q=>k (I.base.jO b o u q),λb l q=>have ⟨m,z⟩:=I.base.jP b l q;#[m,k z]],
  I.loc,I.cell,(aN D.symm).trans I.free,λx c q=>(aN (C x c q)).trans (I.iD x c q),λp h=>have ⟨A,y,v⟩:=I.pin p h;#[A,(aN (B p h)).trans y,v],λb u q=>?_,I.len]
 by_cases i:b=a
 ·subst i;rw[aB] at q;cases q;exact ok
 ·rw[aN i] at q;exact(I.hok b u q).stay (λ_ _ _ z=>z) (λ_ z=>k z) λ_ _ z=>k z
def Inv.qaF{a:Qv}{e:HO}(I:Inv X p_ σ H s)(new:X.s₀.heap.objs.size<=a)(c:dj X p_ H a)(ok:b_ X.prog X.w (upd H a e) s.heap a e):Inv X p_ σ (upd H a e) s:=
 I.wL (qym new) c.1 c.2.1 c.2.2.2.2.1 c.2.2.2.2.2 ok
def Inv.qaG{a:zf}{t':Nat}{xs:kE}{us:QAE}(I:Inv X p_ σ H s)(h:Inv X p_ σ H {s with heap:=a,toks:=t'})(c:Vals xs us)(f:xs.length<=sizeLine)(e:a.get? s.heap.objs.size=some {cls:=.type "tuple",data:=.seq us.toArray}):Inv X p_ σ (upd H s.heap.objs.size (.tup xs)) {s with heap:=a,toks:=t'}:=
 h.qaF I.sz (I.lE (qvY _) (I.hok.fresh (qvY _))) #[f,us,c,_,e,rfl,0,rfl]
def Inv.PX(I:Inv X p_ σ H s)(i:Inv X p_ σ H {s with heap:=a,toks:=t'})(e:RelV x u)(h:RelV y c)(f:a.get? s.heap.objs.size=some {cls:=.type "tuple",data:=.seq [u,c].toArray}):Inv X p_ σ (upd H s.heap.objs.size (.tup [x,y])) {s with heap:=a,toks:=t'}:=
 I.qaG i (.cons e (.cons h .nil)) (by show 2<=sizeLine;decide) f
end
def Its(x:Str):It:=#[λi _=>i<x.cps.size,λi H v a=>a=H/\∃c,x.cps[i]? = some c/\v = .str #[[c].toArray],λi _=>x.cps.size<=i]
def qkR{P:J9}{w:zX}{K:W5}{Y:zp}(x:Str)(t:Tok)(it:Qv):Turn P w K Y (Its x) [it] it (λi h=>h.IsStrIter it (strIterType x) x t i) where
 mem:=by simp
 obj:=λi h st b l=>by
  have e:b=it:=by simpa using l
  subst e;obtain⟨o,e,c,d⟩:=st;exact#[o,e,λv z=>by rw[d] at z;cases z]
 keep:=λi h a st k=>by
  obtain⟨o,e,c,d⟩:=st;exact#[o,k it (by simp) o e,c,d]
 item:=by
  intro X hP hw hK hc i J s G H E I L st n;subst hP hw hK;obtain⟨U,T,f2,O,N,M⟩:=L it (by simp);have B:x.cps[i]? = some (x.cps[i]'n):=Array.getElem?_eq_getElem n;have D:∀a,a.IsStrIter it (strIterType x) x t (i+1)->Heap.SameBut it s.heap a->∃u,(some (Value.str #[[x.cps[i]'n].toArray] s.toks))=some u/\
    wX X (letOwnedTupleGo Y (.ref it) u) (λ_ s2=>∃y r,Inv X J G r s2/\RelV y u/\(Its x).jf i H y r/\s2.heap.IsStrIter it (strIterType x) x t (i+1)/\∀b∈[it],r b=none) E {s with heap:=a,toks:=s.toks+1}:=λa j C=>by
   have I1:Inv X J G H {s with heap:=a,toks:=s.toks+1}:=I.turned (λb o l e=>(C.2 b l).trans e) U T O N M;refine#[_,rfl,?_];have a0:∃y r,Inv X J G r {s with heap:=a,toks:=s.toks+1}/\RelV y (Value.str #[[x.cps[i]'n].toArray] s.toks)/\(Its x).jf i H y r/\a.IsStrIter it (strIterType x) x t (i+1)/\∀b∈[it],r b=none:=
    #[.str #[[x.cps[i]'n].toArray],H,I1,#[_,rfl],#[rfl,_,B,rfl],j,λb l=>(L b l).1]
   unfold letOwnedTupleGo;cases Y <;> exact qvW a0
  by_cases m:x.cps.all (· < 128)=true
  ·have f:strIterType x = "str_ascii_iterator" :=by unfold strIterType;rw[if_pos m]
   rw[f] at st;exact wpAny_pyNext_ascii_item st B λa j C=>D a (by rw[f];exact j) C
  ·have f:strIterType x = "str_iterator" :=by unfold strIterType;rw[if_neg m]
   rw[f] at st;exact wpAny_pyNext_wide_item st B λa j C=>D a (by rw[f];exact j) C
 done:=by
  intro X hP hw hK hc i J s G H E I L st n;subst hP hw hK;obtain⟨U,T,f2,O,N,M⟩:=L it (by simp);have B:x.cps[i]? = none:=Array.getElem?_eq_none n
  by_cases m:x.cps.all (· < 128)=true
  ·have f:strIterType x = "str_ascii_iterator" :=by unfold strIterType;rw[if_pos m]
   rw[f] at st;exact wpAny_pyNext_ascii_end (I.ok.hd hc) st B λa eb=>#[rfl,I.turned (t':=s.toks) (λb o l e=>eb b o l e) U T O N M]
  ·have f:strIterType x = "str_iterator" :=by unfold strIterType;rw[if_neg m]
   rw[f] at st;exact wpAny_pyNext_wide_end (I.ok.hd hc) st B λa eb=>#[rfl,I.turned (t':=s.toks) (λb o l e=>eb b o l e) U T O N M]
 self:=λA i s Q E st h=>by
  by_cases m:x.cps.all (· < 128)=true
  ·have f:strIterType x = "str_ascii_iterator" :=by unfold strIterType;rw[if_pos m]
   rw[f] at st;exact wpAny_pyIter_striter_ascii st h
  ·have f:strIterType x = "str_iterator" :=by unfold strIterType;rw[if_neg m]
   rw[f] at st;exact wpAny_pyIter_striter_wide st h
@[simp] def qaH(c:TE):TI:=λa H R=>c a H λx e=>∃z,x = .str z/\R (Its z) e
def qaI(u:PE X l j):PI X A l (qaH j):=by
 intro r s f H R I h;refine aD (u r s f H _ I h) λv a i=>?_;obtain⟨x,y,c,m,n⟩:=i;obtain⟨z,e,q⟩:=n;subst e;obtain⟨t,rfl⟩:=m;refine wpAny_pyIter_strU ?_;refine#[a.heap.objs.size,[a.heap.objs.size],_,_,y,rfl,c.kept (t':=a.toks) λb o e=>qvV _ e,qkR z t _,#[_,qv4 _ rfl,rfl,rfl],λb w=>?_,q];have e:b=a.heap.objs.size:=by simpa using w
 subst e;exact c.lE (qvY _) (c.hok.fresh (qvY _))
def pG(K:W5)(a b:Qv):It:=
 #[λi H=>∃e c x y,au K H a e/\au K H b c/\e[i]? = some x/\c[i]? = some y,
  λi H v f=>∃t x y,v = .ref t/\H t=none/\f=upd H t (.tup [x,y])/\(∀e,au K H a e->e[i]? = some x)/\∀c,au K H b c->c[i]? = some y,
  λi H=>∃e c,au K H a e/\au K H b c/\(e.length<=i\/c.length<=i)]
structure Hw(z TI TO i1 i2 a b:Qv)(i:Nat)(h:zf):Prop where
 hz:IsZip h z TI TO .none
 hI:IsPair h TI (.ref i1) (.ref i2)
 hO:∃p q,IsPair h TO p q
 h1:h.IsListIter i1 a i
 h2:h.IsListIter i2 b i
def gQ{h:zf}{a b:Qv}{o u:Obj}{T U:String}(j:h.get? a=some o)(f:h.get? b=some u)(m:o.cls = .type T)(i:u.cls = .type U)(c:T≠U):a≠b:=λe=>by
 subst e;rw[j] at f;cases f;rw[m] at i;injection i with l;exact c l
def qaJ{h:zf}{z TI TO i1 v a b:Qv}{i:Nat}{p q:zT}{y w:Obj}(u:i1≠v)(A:TI≠TO)(st:Hw z TI TO i1 v a b i h)(c:IsPair h TO p q)(n:h.get? a=some y)(r:y.cls = .type "list")(m:h.get? b=some w)(o:w.cls = .type "list"):ZipApart z TI TO i1 v a b:=by
  obtain⟨C,f,l,_⟩:=id st.h1;obtain⟨B,e,j,_⟩:=id st.h2;exact#[gQ st.hI st.hz rfl rfl (by decide),gQ c st.hz rfl rfl (by decide),gQ f st.hz l rfl (by decide),gQ e st.hz j rfl (by decide),A,gQ st.hI f rfl l (by decide),gQ st.hI e rfl j (by decide),
    gQ c f rfl l (by decide),gQ c e rfl j (by decide),u,gQ n st.hz r rfl (by decide),gQ n c r rfl (by decide),gQ n f r l (by decide),gQ n e r j (by decide),
    gQ m st.hz o rfl (by decide),gQ m c o rfl (by decide),gQ m f o l (by decide),gQ m e o j (by decide)]
def qkS{Y:Cx->Prop}{C:Nat->Hp->Prop}{P:J9}{w:zX}{K:W5}{es:qy}{k:Nat}{pos:Pos}{z TI TO i1 l a b:Qv}(M:i1≠l)(nT:TI≠TO)(hd:∀(X:Cx),X.K=K->Y X->∀(i:Nat)(m:QAC)(s:Zw)(σ:St)(H:Hp)(E:QAB),Inv X m σ H s->(∀c∈[z,TI,TO,i1,l],dj X m H c)->Hw z TI TO i1 l a b i s.heap->C i H->wX X (pyNext (.ref z)) (λr s1=>r=none/\Inv X m σ H s1) E s):
  qR Y P w K (.Tuple es k pos) #[(pG K a b).go,(pG K a b).jf,C] [z,TI,TO,i1,l] z (Hw z TI TO i1 l a b) where
 mem:=by simp
 obj:=λi h st c f=>by
  simp only[qv0,qwn,qw2] at f
  rcases f with rfl|rfl|rfl|rfl|rfl
  ·exact#[_,st.hz,λv e=>nomatch e]
  ·exact#[_,st.hI,λv e=>nomatch e]
  ·obtain⟨p,q,e⟩:=st.hO;exact#[_,e,λv e=>nomatch e]
  ·obtain⟨o,e,_,d⟩:=st.h1;exact#[o,e,λv y=>by rw[d] at y;cases y]
  ·obtain⟨o,e,_,d⟩:=st.h2;exact#[o,e,λv y=>by rw[d] at y;cases y]
 keep:=λi h h' st j=>by
  obtain⟨p,q,e⟩:=st.hO;exact#[j z (by simp) _ st.hz,j TI (by simp) _ st.hI,#[p,q,j TO (by simp) _ e],st.h1.at λo e=>j i1 (by simp) o e,st.h2.at λo e=>j l (by simp) o e]
 item:=by
  intro X T hw U _ i m s σ H E I G st Q;subst T hw U;obtain⟨xs,ys,x,y,qa,qb,hx,hy⟩:=Q;obtain⟨ac,rv,pl,af⟩:=I.list qa;obtain⟨a0,J,qU,ae⟩:=I.list qb;obtain⟨u,hu,ru⟩:=rv.get hx;obtain⟨u',N,P0⟩:=J.get hy;obtain⟨p,q,A⟩:=st.hO;obtain⟨oa,ea,ca,_⟩:=id pl.isList;obtain⟨ob,eb,cb,_⟩:=id qU.isList;obtain⟨o1,e1,c1,_⟩:=id st.h1;obtain⟨o2,e2,c2,_⟩:=id st.h2;have D:ZipApart z TI TO i1 l a b:=qaJ M nT st A ea ca eb cb;refine wpAny_pyNext_zip_item D st.hz st.hI A st.h1 st.h2 pl.isList qU.isList (x:=u) (y:=u') (by simpa using hu) (by simpa using N) λh' a1 a2 a3 a4 a5 a6 j=>?_;refine#[_,rfl,wpAny_letOwnedTupleGo_zip a1 λh2 b1 B=>?_];have lt:∀{c o},s.heap.get? c=some o->s.heap.objs.size≠c:=λe=>qw_ (qv2 e);have hn:H s.heap.objs.size=none:=I.hok.fresh (qvY _);have xr:∀c o,c∉[z,TI,TO,i1,l]->s.heap.get? c=some o->h2.get? c=some o:=λc o f e=>by
   simp only[qv0,qwn,qw2,not_or] at f;exact(B.2 c f.1).trans (j c o f.1 f.2.2.1 f.2.2.2.1 f.2.2.2.2 e)
  have I1:Inv X m σ H {s with heap:=h2,toks:=s.toks}:=I.tV xr G;have qT:IsPair h2 s.heap.objs.size u u':=B.extBut _ _ (lt st.hz) a5;have I2:=I.PX I1 ru P0 qT;refine#[.ref s.heap.objs.size,_,I2,rfl,#[s.heap.objs.size,x,y,rfl,hn,rfl,λab L=>by rw[I.Dg L qa];exact hx,λaa L=>by rw[I.Dg L qb];exact hy],?_,λc n=>?_]
  ·exact#[b1,B.extBut _ _ D.TIz (j _ _ D.TIz D.TITO D.TIi1 D.TIi2 st.hI),#[_,_,B.extBut _ _ D.TOz a2],a3.extBut B.extBut D.i1z,a4.extBut B.extBut D.i2z]
  ·have O:c≠s.heap.objs.size:=by
    simp only[qv0,qwn,qw2] at n
    rcases n with rfl|rfl|rfl|rfl|rfl
    ·exact(lt st.hz).symm
    ·exact(lt st.hI).symm
    ·exact(lt A).symm
    ·exact(lt e1).symm
    ·exact(lt e2).symm
   rw[aN O];exact(G c n).1
 done:=by
  intro X T hw U hY i m s σ H E I G st Q;subst T hw;exact hd X U hY i m s σ H E I G st Q
 self:=λ_ _ _ _ _ st h=>wpAny_pyIter_zip st.hz h
def qkT{P:J9}{w:zX}{K:W5}{U:qy}{k:Nat}{pos:Pos}{z TI TO i1 l a b:Qv}(h:i1≠l)(v:TI≠TO):
  Turn P w K (.Tuple U k pos) (pG K a b) [z,TI,TO,i1,l] z (Hw z TI TO i1 l a b):=by
 refine qR.t (qkS h v ?_);intro X T Q i p_ s σ H E I O st N;subst T;obtain⟨xs,ys,C,B,n⟩:=N;obtain⟨J,A,u,M⟩:=I.list C;obtain⟨y,m,r,L⟩:=I.list B;obtain⟨p,q,j⟩:=st.hO;obtain⟨oa,ea,ca,_⟩:=id u.isList;obtain⟨ob,Y,cb,_⟩:=id r.isList;have D:ZipApart z TI TO i1 l a b:=qaJ h v st j ea ca Y cb;have l1:=A.length;have l2:=m.length;refine wpAny_pyNext_zip_end (I.ok.hd Q) D st.hz st.hI j st.h1 st.h2 u.isList r.isList ?_ λh' G=>#[rfl,I.tV (t':=s.toks) (λc o f e=>?_) O]
 ·rcases n with n|n
  ·exact .inl (by simp;lia)
  ·exact .inr (by simp;lia)
 ·simp only[qv0,qwn,qw2,not_or] at f;exact G c o f.1 f.2.2.1 f.2.2.2.1 f.2.2.2.2 e
@[simp] def P_(K:W5)(t:TA):TI:=λe H R=>t e H λi c=>∃a b h f,i=[.ref a,.ref b]/\au K c a h/\au K c b f/\R (pG K a b) c
def boot_zip:bootBuiltins "zip" = some (.type "zip"):=by decide+kernel
def qkU{es:qy}{k:Nat}{i:Pos}{a b:zp}{o:TA}{p pos:Pos}(hg:Gl X "zip")(hm:X.mg "zip" = none)(ha:PA X [a,b] o)(hs:starEach [a,b] X.env=[(false,eval a X.env),(false,eval b X.env)]:=by rfl)(j:starEach [b] X.env=[(false,eval b X.env)]:=by rfl):
  PI X (.Tuple es k i) (.Call (.Name "zip" p) [a,b] [] pos) (P_ X.K o):=by
 intro w s n H R I h;refine Call_ (lB I hg hm boot_zip (qwB (aD (ha pos w s n H _ I h) λus f C=>?_) (by rw[hs,j]) (by rw[j];rfl)));obtain⟨vs,B,m,E,N⟩:=C;obtain⟨T,Q,xs,ys,e,L,J,q⟩:=N;subst e;obtain⟨u,v,rfl,r,G⟩:=E.two;obtain rfl:u=Value.ref T:=r;obtain rfl:v=Value.ref Q:=G;obtain⟨Y,rv,O,aa⟩:=m.list L;obtain⟨y,D,M,a0⟩:=m.list J;refine call_zip_2 O.isList M.isList λA b1 b2 b3 b4 b5 b6 U=>?_;refine wpAny_pyIter_zip (s:={f with heap:=A}) b1 ?_;have I2:Inv X w n B {f with heap:=A}:=m.kept (t':=f.toks) U;refine#[f.heap.objs.size+4,[f.heap.objs.size+4,f.heap.objs.size+2,f.heap.objs.size+3,f.heap.objs.size,f.heap.objs.size+1],_,_,B,rfl,I2,qkT (qwk (qwN _)) (qwk (qwN (f.heap.objs.size+2))),#[b1,b2,#[_,_,b3],b4,b5],λc z=>?_,q];have l:f.heap.objs.size<=c:=by
  simp only[qv0,qwn,qw2] at z
  rcases z with rfl|rfl|rfl|rfl|rfl <;> first|exact qxE _ _|exact qvY _
 exact m.lE l (m.hok.fresh l)
def iW(b:Bool)(h:zf)(a:Qv)(items:qx):Prop:=match b with
 |true=>h.IsList a items
 |false=>h.IsTuple a items
def iW.at(x:iW b h l items)(k:∀o,h.get? l=some o->h'.get? l=some o):iW b h' l items:=by
 cases b <;> exact have ⟨o,e,c⟩:=x;#[o,k _ e,c]
def iW.lt(x:iW b h l items):l<h.objs.size:=by
 cases b <;> exact have ⟨_,e,_⟩:=x;qv2 e
abbrev nZ(b:Bool)(l:Qv):Obj:={cls:=.type (if b then "list_iterator" else "tuple_iterator"),data:=.fields [.ref l,.int 0 0].toArray}
def Hx{prog:J9}{w:zX}{A:zY}{E:QAB}{s:Zw}{b:Bool}{l:Qv}{items:qx}{Q:QAB}(x:iW b s.heap l items)(h:Q (.ref s.heap.objs.size) {s with heap:=s.heap.push (nZ b l)}):wpAny (model prog w) A (pyIter (.ref l)) Q E s:=by
 cases b with
 |true=>exact qyh x h
 |false=>exact qxG x h
section
variable {X:Cx}{p_:QAC}{σ:St}{H:Hp}{s:Zw}
def fH.kit(I:Inv X p_ σ H s)(c:RelV x u)(ty:fH X.K H x t):∃Φ,W.KitX X.K u t Φ/\Φ s.heap/\u≠.builtin "__main__.__loader__#opaque" :=by
 cases ty with
 |non=>cases (show u=Value.none from c);exact#[_,W.kitx_none,True.intro,λz=>nomatch z]
 |bl y=>cases (show u=Value.bool y from c);exact#[_,W.kitx_bool,True.intro,λz=>nomatch z]
 |int i=>obtain⟨t,q⟩:=(show ∃t,u=Value.int i t from c);cases q;exact#[_,W.kitx_int,True.intro,λz=>nomatch z]
 |str y=>obtain⟨t,q⟩:=(show ∃t,u=Value.str y t from c);cases q;exact#[_,W.kitx_str,True.intro,λz=>nomatch z]
 |flt y=>obtain⟨t,q⟩:=(show ∃t,u=Value.float y t from c);cases q;exact#[_,W.kitx_float,True.intro,λz=>nomatch z]
 | @lst a j e=>
  cases (show u=Value.ref a from c);obtain⟨_,_,n,_,f⟩:=(show b_ X.prog X.w H s.heap a (.lst j) from I.hok a _ e);exact#[_,W.kitx_list,#[_,f,rfl],λz=>nomatch z]
 | @dH a v j e=>
  cases (show u=Value.ref a from c);obtain⟨_,_,_,n,_,f⟩:=(show b_ X.prog X.w H s.heap a (.dH v (.lst j)) from I.hok a _ e);exact#[_,W.kitx_list,#[_,f,rfl],λz=>nomatch z]
 | @tup a j e=>
  cases (show u=Value.ref a from c);obtain⟨_,_,_,p⟩:=(show b_ X.prog X.w H s.heap a (.tup j) from I.hok a _ e);obtain⟨o,f,l,_⟩:=p;exact#[_,W.kitx_tuple,#[o,f,l],λz=>nomatch z]
 | @dK a h e=>
  cases (show u=Value.ref a from c);obtain⟨_,_,L,_,p⟩:=(show b_ X.prog X.w H s.heap a (.dK h) from I.hok a _ e);obtain⟨o,E,G,f,l,_⟩:=p;exact#[_,W.kitx_dict,#[o,f,l.1],λz=>nomatch z]
 | @dT a h e=>
  cases (show u=Value.ref a from c);obtain⟨_,_,j,_,o,E,G,f,l,_⟩:=(show b_ X.prog X.w H s.heap a (.dT h) from I.hok a _ e);exact#[_,W.kitx_dict,#[o,f,l.1],λz=>nomatch z]
 | @ins a C Q fs e r D A m B=>
  cases (show u=Value.ref a from c);obtain⟨N,O,_⟩:=Dj I.hok e;obtain⟨M,J,_⟩:=O.look;exact#[_,W.kitx_own (r.get _) r.hd D A m B,J,λz=>nomatch z]
def qkV:bY X (.builtin "isinstance") (λxs H Q=>∃x n t b,xs=[x,.ty n]/\fH X.K H x t/\W.kitOne X.K t (.type n)=some b/\Q (.bl b) H):=by
 intro p_ s σ H xs i Q I r h;obtain⟨x,n,t,b,rfl,ty,e,q⟩:=h;obtain⟨u,v,rfl,c,f⟩:=r.two;obtain rfl:v=Value.type n:=f;exact qkc I c ty e λa=>#[.bl b,H,I.tok a,rfl,q]
def qkW:bY X (.builtin "isinstance") (λxs H Q=>∃x p m n t b,xs=[x,.ref p]/\H p=some (.tup [.ty m,.ty n])/\fH X.K H x t/\W.kitAny X.K t [.type m,.type n]=some b/\Q (.bl b) H):=by
 intro p_ s σ H xs N Q I r h;obtain⟨x,p,m,n,t,b,rfl,J,ty,e,q⟩:=h;obtain⟨u,v,rfl,A,C⟩:=r.two;obtain rfl:v=Value.ref p:=C;obtain⟨Φ,Z,a,f⟩:=ty.kit I A;obtain⟨_,G,B,o,L,j,k,i⟩:=(show b_ X.prog X.w H s.heap p (.tup [.ty m,.ty n]) from I.hok p _ J);obtain⟨y,l,rfl,E,D⟩:=B.two;obtain rfl:y=Value.type m:=E;obtain rfl:l=Value.type n:=D;obtain⟨c,T,M,O⟩:=o;replace j:c = .type "tuple" :=j;replace i:M = .seq [Value.type m,Value.type n].toArray k:=i;subst j i;exact W.kia_tup Z I.cg a L e f λz=>#[.bl b,H,I.tok z,rfl,q]
def boot_isinstance:bootBuiltins "isinstance" = some (.builtin "isinstance"):=by decide+kernel
def boot_str:bootBuiltins "str" = some (.type "str"):=by decide+kernel
def boot_list:bootBuiltins "list" = some (.type "list"):=by decide+kernel
def boot_tuple:bootBuiltins "tuple" = some (.type "tuple"):=by decide+kernel
def qaK:bootBuiltins "int" = some (.type "int"):=by decide+kernel
def qkX:bootBuiltins "bool" = some (.type "bool"):=by decide+kernel
def qkY:bootBuiltins "dict" = some (.type "dict"):=by decide+kernel
def qaL:bootBuiltins "set" = some (.type "set"):=by decide+kernel
end
mutual
def Is(K:W5)(H:Hp):PyData->V->Prop
 |.none,v=>v = .non
 |.bool b,v=>v = .bl b
 |.int i,v=>v = .int i
 |.str x,v=>v = .str x
 |.list e,v=>∃a c,v = .ref a/\au K H a c/\n6 K H e c
 |.tuple e,v=>∃a c,v = .ref a/\aQ K H a c/\n6 K H e c
 |.dict _,_=>False
def n6(K:W5)(H:Hp):List PyData->List V->Prop
 |[],a=>a=[]
 |d::c,a=>∃v r,a=v::r/\Is K H d v/\n6 K H c r
end
section
variable {X:Cx}{p_:QAC}{σ:St}{H:Hp}{s:Zw}
mutual
theorem Is.reads(I:Inv X p_ σ H s):∀(d:PyData)(v:V)(u:zT),Is X.K H d v->RelV v u->∃as,Reads s.heap u d as
 |.none,v,u,h,r=>by
  simp only[Is] at h;subst h;cases r;exact#[_,.none]
 |.bool b,v,u,h,r=>by
  simp only[Is] at h;subst h;cases r;exact#[_,.bool b]
 |.int i,v,u,h,r=>by
  simp only[Is] at h;subst h;obtain⟨t,rfl⟩:=r;exact#[_,.int i t]
 |.str x,v,u,h,r=>by
  simp only[Is] at h;subst h;obtain⟨t,rfl⟩:=r;exact#[_,.str x t]
 |.list B,v,u,h,r=>by
  simp only[Is] at h;obtain⟨a,j,rfl,z,y⟩:=h;cases r;obtain⟨f,l,w,C⟩:=I.list z;obtain⟨o,e,c,n,A⟩:=w.isList;obtain⟨as,m⟩:=n6.reads I B j f y l;exact#[_,.list e c A (by simpa using m)]
 |.tuple B,v,u,h,r=>by
  simp only[Is] at h;obtain⟨a,j,rfl,z,y⟩:=h;cases r;obtain⟨f,l,w,C⟩:=I.tuple z;obtain⟨o,e,c,n,A⟩:=w;obtain⟨as,m⟩:=n6.reads I B j f y l;exact#[_,.tuple e c A (by simpa using m)]
 |.dict _,v,u,h,r=>by
  simp only[Is] at h
theorem n6.reads(I:Inv X p_ σ H s):∀(ds:List PyData)(vs:kE)(us:QAE),n6 X.K H ds vs->Vals vs us->∃as,ReadsAll s.heap us ds as
 |[],vs,us,h,r=>by
  simp only[n6] at h;subst h;cases r;exact#[_,.nil]
 |d::ds,vs,us,h,r=>by
  simp only[n6] at h;obtain⟨v,a,rfl,l,j⟩:=h;cases r with
  |cons i f=>
   obtain⟨as,e⟩:=Is.reads I d v _ l i;obtain⟨bs,c⟩:=n6.reads I ds a _ j f;exact#[_,.cons e c]
end
def qkZ:aZ X (compareOp .NotEq) (λx y H Q=>∃d e,Is X.K H d x/\Is X.K H e y/\d.canLay0=true/\e.canLay0=true/\X.A.units+min d.depth e.depth<cLine/\Q (.bl (!PyData.eqv d e)) H):=by
 intro p_ s σ H x y v u Q I c a h;obtain⟨d,e,l,j,o,n,m,q⟩:=h;obtain⟨r,i⟩:=l.reads I d x v c;obtain⟨bs,f⟩:=j.reads I e y u a;exact SeqAt.compareNe_reads i f o n m #[.bl _,H,I,rfl,q]
end
@[simp] def Qa:V->List V->Hp->VK->Prop:=λx c H Q=>∃l a i y,x = .ref l/\c=[.int i,y]/\H l=some (.lst a)/\0<=i/\i<=a.length/\a.length<sizeLine/\Q .non (upd H l (.lst (a.take i.toNat++y::a.drop i.toNat)))
def Vals.ins(a:RelV y u):∀{xs:kE}{us:QAE}(i:Nat),Vals xs us->Vals (xs.take i++y::xs.drop i) (us.take i++u::us.drop i):=λi r=>(r.take i).append (.cons a (r.drop i))
def qk0:MtM X "list.insert" Qa:=by
 intro G s A H x C v D Q I j m h;obtain⟨l,B,i,y,rfl,rfl,f,O,N,J,q⟩:=h;cases j;obtain⟨E,u,rfl,⟨t,rfl⟩,o⟩:=m.two;obtain⟨z,a,n,r,M,e⟩:=I.zZ f;have L:=wY;have c:¬(!Builtin.List.listFitsIndex i)=true:=by
  unfold Builtin.List.listFitsIndex;simp;lia
 refine qx6 F.slot_list_insert #[_,e,rfl] F.entry_list_insert (F.args_list_insert_3 _ _ _) (PySem.AutoListH.list_insert_list_int_val_1 l a.toArray n i t u c (by rw[qwl];lia)) #[e,?_];refine#[.non,_,I.qat (its':=a.take i.toNat++u::a.drop i.toNat) f e ?_ (r.ins o i.toNat) ?_,rfl,q]
 ·have w:min i.toNat a.length=i.toNat:=⋯
  simp only[qwl];rw[if_neg ⋯,w];apply Array.toList_inj.mp;simp;exact qx8 (by simp)
 ·simp;lia
def mR:List V->List Bool->Prop
 |[],bs=>bs=[]
 |x::a,bs=>∃b r,bs=b::r/\x = .bl b/\mR a r
theorem mR.get:∀{xs:kE}{bs:List Bool}{its:QAE},mR xs bs->Vals xs its->xs.length=bs.length/\∀(i:Nat)(v:zT),its[i]? = some v->v = .bool (bs.getD i false)
 |[],bs,its,h,r=>by
  cases h;cases r;exact#[rfl,λi v e=>by simp at e]
 |x::xs,bs,its,h,r=>by
  obtain⟨b,l,rfl,rfl,h⟩:=h;cases r with
  |cons c a=>
   obtain⟨j,f⟩:=mR.get h a;refine#[by simp[j],λi v e=>?_];cases i with
   |zero=>
    simp at e;subst e;exact c
   |succ i=>
    simp at e;simpa using f i v e
def range_all(bs:List Bool):(List.range bs.length).all (λi=>bs.getD i false)=bs.all id:=by
 rw[qw3,qwa,qwa];constructor
 ·intro h b e;obtain⟨i,c,rfl⟩:=List.mem_iff_getElem.mp e;have:=h i (qxr.mpr c);simpa [List.getD,c] using this
 ·intro h i c;have a:=qxr.mp c;have:=h bs[i] (List.getElem_mem a);simpa [List.getD,a] using this
def qk1(C:X.calm=true):bY X (.builtin "all") (λxs H Q=>∃a ys bs,xs=[.ref a]/\H a=some (.lst ys)/\mR ys bs/\Q (.bl (bs.all id)) H):=by
 intro p_ s T H xs U Q I r h;obtain⟨a,ys,bs,rfl,E,D,q⟩:=h;obtain⟨u,rfl,y⟩:=r.one;obtain rfl:u=Value.ref a:=y;obtain⟨z,c,n,w,B,e⟩:=I.zZ E;obtain⟨N,M⟩:=D.get w;have L:s.heap.IsList a c.toArray:=#[_,e,rfl,n,rfl];refine call_all_walk ?_;refine qyh L ?_;have f:a≠s.heap.objs.size:=qwk (qv2 e);have j:(s.heap.push {cls:=.type "list_iterator",data:=.fields [.ref a,.int 0 0].toArray}).IsList a c.toArray:=#[_,qvV _ e,rfl,n,rfl];refine#[s.heap.objs.size,_,_,_,_,_,λi=>bs.getD i false,rfl,Walks.list (by exact I.ok.hd C) s.heap.objs.size a f c.toArray,#[#[_,qv4 _ rfl,rfl,rfl],j],λi v Y Q' E' J G=>?_,λh' m A=>?_]
 ·obtain rfl:=M i v (by simpa using J);exact qwS G
 ·have O:(List.range c.toArray.size).all (λi=>bs.getD i false)=bs.all id:=by
   rw[qwl,<- B,N];exact range_all bs
  rw[O];refine#[.bl _,H,?_,rfl,q];exact I.kept (h':=h') (t':=m) λb o l=>A b o (by simp;exact qwk (qv2 l)) (qvV _ l)
def qW(l:List Key)(k:Key):Bool:=l.any λx=>decide (x=k)
def qk2:qW l k=true↔k∈l:=by
 unfold qW;rw[List.any_eq_true];constructor
 ·rintro⟨x,a,e⟩;have c:=qwp e;subst c;exact a
 ·intro h;exact#[k,h,qwv rfl]
def qk3(l:List Key)(x k:Key):qW (l++[x]) k=(qW l k || decide (k=x)):=by
 unfold qW;rw[List.any_append];simp only[qxC,List.any_nil,Bool.or_false];congr 1;exact decide_eq_decide.mpr #[λe=>e.symm,λe=>e.symm]
def z6(a:List Key)(k:Key):List Key:=if qW a k=true then a else a++[k]
def gR(val:Nat->Key)(i:Nat):List Key:=((List.range i).map val).foldl z6 []
def Hy(val:Nat->Key)(i:Nat):gR val (i+1)=z6 (gR val i) (val i):=by
 unfold gR;rw[List.range_succ,qwG,List.foldl_append];rfl
theorem qaM(val:Nat->Key):∀i,(gR val i).length<=i
 |0=>qvY _
 |i+1=>by
  rw[Hy];have ih:=qaM val i;unfold z6;split
  ·lia
  ·rw[qwm,qyc];lia
theorem Qc(val:Nat->Key):∀n,(∀i j,i<n->j<n->val i=val j->i=j)->(gR val n).length=n/\∀k,k∈gR val n->∃i,i<n/\val i=k
 |0,_=>#[rfl,λk h=>by simp[gR] at h]
 |n+1,h=>by
  obtain⟨o,f⟩:=Qc val n λi j c r=>h i j ⋯ ⋯;have a:¬qW (gR val n) (val n)=true:=λl=>by
   obtain⟨i,c,e⟩:=f _ (qk2.mp l);have:=h i n ⋯ ⋯ e;lia
  rw[Hy];unfold z6;rw[if_neg a];refine#[by simp[o],λk m=>?_]
  rcases qwc.mp m with z|z
  ·obtain⟨i,c,e⟩:=f k z;exact#[i,∅,e]
  ·exact#[n,⋯,(qv6.mp z).symm]
def qk4(h:nH k v=true):v.scannable=true:=by
 rcases nJ h with⟨i,t,rfl,rfl⟩|⟨x,t,rfl,rfl⟩ <;> rfl
def qk5{P:J9}{w:zX}{h:zf}{a:Qv}{S c:Key->Bool}{n f:Nat}(x:h.SetOf (cU P w) a S n)(e:∀k,S k=c k)(i:n=f):h.SetOf (cU P w) a c f:=by
 have:S=c:=funext e;subst this;subst i;exact x
abbrev mU(P:J9)(w:zX)(h:zf)(a:Qv)(l:List Key):Prop:=h.SetOf (cU P w) a (qW l) l.length
def mU.at(x:mU P w h a l)(k:∀o,h.get? a=some o->h'.get? a=some o):mU P w h' a l:=by
 obtain⟨o,c,f,t,e,r⟩:=x;exact#[o,c,f,t,k o e,r]
abbrev jh(a:Bool):Obj:={cls:=.type "set",dict:=none,data:=.set #[] 0 (.fresh 0 0 a)}
def qk6(e:h.get? a=some (jh c)):mU P w h a []:=
 #[_,#[],0,.fresh 0 0 c,e,#[rfl,rfl,rfl],rfl,(λx f=>by simp at f),(λk=>by simp[qW]),(by unfold scanBound;decide),(by cases c <;> rfl),rfl]
section
variable {P:J9}{w:zX}{A:zY}{R:Result->Shared->Prop}{I:Qv}{fp wr:xQ}{n:Nat}{PP:Nat->Value->Prop}{St:Nat->Heap->Prop}
def qk7(G:Walks P w A.in1 I fp wr n PP St)(S:Qv)(D:S∉fp)(val:Nat->Key)(a:∀i v,PP i v->nH (val i) v=true)(E:n+1<scanBound):
  ∀(k i:Nat)(s:Zw),n - i=k->i<=n->St i s.heap->mU P w s.heap S (gR val i)->
   (∀h' tk,(∀b o,b≠S->b∉wr->s.heap.get? b=some o->h'.get? b=some o)->mU P w h' S (gR val n)->R (.ok (.ret .none)) {s with heap:=h',toks:=tk})->
   codeAny (model P w) A (.builtin "set.update.loop" #[[.ref S,.ref I],[]]) R s:=by
 have C:S∉wr:=λh=>D (G.sub _ h);intro k
 induction k with
 |zero=>
  intro i s hk hi f Q T;obtain rfl:i=n:=⋯
  refine qw4 PyProof.Rows.F.entry_set_update_loop ?_;rw[qwT qxB _];show wpAny _ A.in1 (pyNext (.ref I) >>= _) _ _ s;refine qvT (G.done s _ _ f λh' tk r=>?_);exact qvW (T h' tk (λb o _ E e=>r b o E e) (Q.at λo e=>r S o C e))
 |succ k ih=>
  intro i s hk hi f Q T;have u:i<n:=∅
  refine qw4 PyProof.Rows.F.entry_set_update_loop ?_;rw[qwT qxB _];show wpAny _ A.in1 (pyNext (.ref I) >>= _) _ _ s;refine qvT (G.item i s _ _ u f λv h' tk U l r=>?_);have c:(cU P w).is (val i) v=true:=a i v U;have O:mU P w h' S (gR val i):=Q.at λo e=>r S o C e;show wpAny _ A.in1 (holding [v] (setAdd S v) >>= _) _ _ _;refine qvT (qwL ?_);unfold setAdd;refine qwL (qvT ((cU P w).pyHash (k:=val i) c ?_));have j:(gR val i).length+1<scanBound:=by have:=qaM val i;lia
  refine wpAny_setAddHashed_of (knd:=cU P w) (s:={s with heap:=h',toks:=tk+1}) c (qk4 (a i v U)) O j λh2 m N=>?_;have L:mU P w h2 S (gR val (i+1)):=by
   refine qk5 N (λY=>?_) ?_
   ·rw[Hy];unfold z6;split
    ·rename_i J
     by_cases e:Y=val i
     ·rw[e,J];rfl
     ·rw[qwh e,Bool.or_false]
    ·exact(qk3 _ _ _).symm
   ·rw[Hy];unfold z6;split
    ·rfl
    ·rw[qwm,qyc]
  refine qvW #[qxD qxB _,ih (i+1) _ ⋯ u (G.frame _ h' _ l λb E o e=>?_) L λh3 H Dv M=>?_]
  ·exact(m.2 b (λz:b=S=>D (by rw[<- z];exact E))).trans e
  ·refine T h3 H (λb o B y e=>Dv b o B y ?_) M;exact(m.2 b B).trans (r b o y e)
end
def qk8:isSubtype (.type "list") (.type "set")=pure false:=by rw[isSubtype_type];kernel_rfl
def qk9:isSubtype (.type "list") (.type "frozenset")=pure false:=by rw[isSubtype_type];kernel_rfl
def qk_:isSubtype (.type "tuple") (.type "set")=pure false:=by rw[isSubtype_type];kernel_rfl
def qla:isSubtype (.type "tuple") (.type "frozenset")=pure false:=by rw[isSubtype_type];kernel_rfl
set_option maxHeartbeats 4000000 in
def qlb{b:Bool}{P:J9}{w:zX}{A:zY}{E:QAB}{s:Zw}{l:Qv}{its:qx}{val:Nat->Key}{Q:QAB}(hh:A.handled=none)(hl:iW b s.heap l its)(y:∀i v,its[i]? = some v->nH (val i) v=true)(hb:its.size+1<scanBound)(h:∀(g:zf)(tk:Nat),mU P w g s.heap.objs.size (gR val its.size)->(∀b o,s.heap.get? b=some o->g.get? b=some o)->Q (.ref s.heap.objs.size) {s with heap:=g,toks:=tk}):
  wpAny (model P w) A (call (.type "set") [.ref l]) Q E s:=by
 obtain⟨c,tl,a0⟩:=PySem.F.called_set.mro;have q1:=PySem.F.called_set.made;have q2:=PySem.F.called_set.sub;refine qx3 (codeAny_of_tree ?_);show wpAny _ _ (callAny (.type "set") _) _ _ s;refine qvW #[Code.quiet_builtin _ (by decide+kernel),qw4 PySem.F.entry_type_call ?_];rw[Around.under_plain (weight_type_call_type "set" [.ref l] []) rfl];have q3:=PySem.F.called_set.notType;have q4:=PySem.F.called_set.canCreate;have q5:=PySem.F.typeCall_set_1 (.ref l)
 repeat (any_goals (first|assumption|wp_step))
 refine qwQ (code_set_new_1 (.ref l) (E:=E) (Q₁:=λU O=>∃a:Bool,U = .ref s.heap.objs.size/\O={s with heap:=s.heap.push (jh a)}) λa=>#[a,rfl,rfl]) λr O H=>?_;cases r with
 |error e=>exact H
 |ok fl=>
  cases fl with
  |ret U=>
   obtain⟨a,rfl,rfl⟩:=H;have new:(s.heap.push (jh a)).get? s.heap.objs.size=some (jh a):=qv4 _ rfl;have ty:Shared.TypeIs {s with heap:=s.heap.push (jh a)} (.ref s.heap.objs.size) "set" :=#[_,new,rfl];have q6:=PySem.F.called_set.init.lookup;have q7:=PySem.F.called_set.init.bind (.ref s.heap.objs.size)
   repeat (any_goals (first|assumption|wp_step))
   refine qwQ (qxR (R:=wants (λr N=>r = .none/\∃g tk,N={s with heap:=g,toks:=tk}/\mU P w g s.heap.objs.size (gR val its.size)/\(∀b o,s.heap.get? b=some o->g.get? b=some o)) E)
    PySem.F.called_set.init.plain PySem.F.entry_set_init (check_set_init_1 ty ?_)) λr2 N j=>?_
   ·obtain⟨T,m,nl,f,q8,q9,aa,B⟩:∃T m nl f,isSubtype (.type T) (.type "set")=pure false/\isSubtype (.type T) (.type "frozenset")=pure false/\(Value.type T == Value.type "dict")=false/\s.heap.get? l=some {cls:=.type T,dict:=m,data:=.seq its nl,slots:=f}:=by
     cases b <;> obtain⟨⟨oc,m,ab,f⟩,B,rfl,nl,rfl⟩:=hl
     ·exact#[_,m,nl,f,qk_,qla,by decide,B]
     ·exact#[_,m,nl,f,qk8,qk9,by decide,B]
    have ac:(s.heap.push (jh a)).get? l=some {cls:=.type T,dict:=m,data:=.seq its nl,slots:=f}:=qvV _ B;have C:=hl.at (h':=s.heap.push (jh a)) λo e=>qvV _ e;unfold Builtin.«set.__init__» noKeywords Builtin.Frozenset.updateFrom;generalize J:pyIter=PI
    wp_walk
    subst J;refine Hx C ?_;refine qvT (wpAny_runValue ?_);have u:l<s.heap.objs.size:=qv2 B;have D:A.in1.in1.in1.handled=none:=by simp[hh]
    have n:l≠(s.heap.push (jh a)).objs.size:=by
     rw[qwD];exact qwk (qxQ u)
    have nf:s.heap.objs.size∉[(s.heap.push (jh a)).objs.size,l]:=by
     rw[qwD];simp only[qv0,qv6,qwn,qw2,not_or];exact#[qwk (qwN _),qw_ u]
    have M:∃St:Nat->Heap->Prop,Walks P w A.in1.in1.in1 (s.heap.push (jh a)).objs.size [(s.heap.push (jh a)).objs.size,l] [(s.heap.push (jh a)).objs.size] its.size (λi v=>its[i]? = some v) St/\St 0 ((s.heap.push (jh a)).push (nZ b l)):=by
     have z:=C.at (h':=(s.heap.push (jh a)).push (nZ b l)) λo e=>qvV _ e;cases b with
     |true=>exact#[_,Walks.list D _ l n its,#[_,qv4 _ rfl,rfl,rfl],z]
     |false=>exact#[_,Walks.tuple D _ l n its,#[_,qv4 _ rfl,rfl,rfl],z]
    obtain⟨St,M,w0⟩:=M;refine qk7 M s.heap.objs.size nf val y hb (its.size - 0) 0 _ ⋯ (qwF _) w0 ?hS0 ?hR
    case hS0=>
     have G:((s.heap.push (jh a)).push (nZ b l)).get? s.heap.objs.size
       = some (jh a):=qvV _ new
     exact qk6 G
    case hR=>
     intro g tk hm I;show wpAny _ _ _ _ _ _;refine qvW ?_;show wpAny _ _ (ret Value.none) _ _ _;refine qvW #[rfl,g,tk,rfl,I,λb o e=>?_];have Y:b<s.heap.objs.size:=qv2 e;refine hm b o (qwk Y) ?_ (qvV _ (qvV _ e));simp only[qv0,qwn,qw2];rw[qwD];exact qwk (qxQ Y)
   ·cases r2 with
    |error e=>exact j
    |ok L=>
     cases L with
     |ret r=>
      obtain⟨rfl,g,tk,rfl,I,hk⟩:=j
      repeat (any_goals (first|assumption|wp_step))
      exact h _ _ I hk
     |_=>exact j.elim
  |_=>exact H.elim
def Dw(P:J9)(w:zX)(a:Qv)(l:List Key):HO:=.ext λh=>mU P w h a l
def keysOf:List V->List Key
 |[]=>[]
 |.int i::r=>.inl i::keysOf r
 |.str x::r=>.inr x::keysOf r
 |_::r=>keysOf r
def isKey:V->Bool
 |.int _=>true
 |.str _=>true
 |_=>false
theorem qaN:∀{xs:kE}{its:QAE},xs.all isKey=true->Vals xs its->(keysOf xs).length=its.length/\∀(i:Nat)(v:zT),its[i]? = some v->nH ((keysOf xs).getD i (.inl 0)) v=true
 |[],_,_,.nil=>#[rfl,λi v e=>by simp at e]
 |x::xs,u::m,h,.cons a l=>by
  rw[List.all_cons,qwA] at h;obtain⟨f,c⟩:=qaN h.2 l;cases x with
  |int i=>
   obtain⟨t,rfl⟩:=a;refine#[by simp[keysOf,f],λj v e=>?_];cases j with
   |zero=>simp at e;subst e;exact Zq i t
   |succ j=>simp at e;simpa [keysOf] using c j v e
  |str z=>
   obtain⟨t,rfl⟩:=a;refine#[by simp[keysOf,f],λj v e=>?_];cases j with
   |zero=>simp at e;subst e;exact Zr z t
   |succ j=>simp at e;simpa [keysOf] using c j v e
  |_=>cases (show false=true from h.1)
def qaO(J:X.calm=true):bY X (.type "set") (λxs H Q=>∃a ys,xs=[.ref a]/\(au X.K H a ys\/aQ X.K H a ys)/\ys.all isKey=true/\ys.length+1<scanBound/\
  ∀p,H p=none->Q (.ref p) (upd H p (Dw X.prog X.w p (gR (λi=>(keysOf ys).getD i (.inl 0)) ys.length)))):=by
 intro D s B H xs M Q I r h;obtain⟨a,ys,rfl,l,G,L,q⟩:=h;obtain⟨u,rfl,C⟩:=r.one;obtain rfl:u=Value.ref a:=C;have z:∀(g:zf)(n:Nat),mU X.prog X.w g s.heap.objs.size (gR (λi=>(keysOf ys).getD i (.inl 0)) ys.length)->(∀b o,s.heap.get? b=some o->g.get? b=some o)->EP X D B Q (.ref s.heap.objs.size) {s with heap:=g,toks:=n}:=λg n m y=>by
  have E:H s.heap.objs.size=none:=I.hok.fresh (qvY _);refine#[.ref s.heap.objs.size,_,I.laid (o:=Dw X.prog X.w s.heap.objs.size (gR (λi=>(keysOf ys).getD i (.inl 0)) ys.length)) (λb o e=>y b o e) (qvY _) #[m,?_,λO N p k=>p.at k],rfl,q _ E];obtain⟨o,_,_,_,e,_⟩:=m;exact#[o,e]
 obtain⟨b,c,f,j⟩:∃b c,Vals ys c/\iW b s.heap a c.toArray:=by
  rcases l with l|l
  ·obtain⟨c,f,j,_⟩:=I.list l;exact#[true,c,f,j.isList]
  ·obtain⟨c,f,j,_⟩:=I.tuple l;exact#[false,c,f,j]
 have A:c.toArray.size=ys.length:=by rw[qwl,f.length]
 refine qlb (val:=λi=>(keysOf ys).getD i (.inl 0)) (I.ok.hd J) j (λi v e=>(qaN G f).2 i v (by simpa using e)) (by rw[A];exact L) λg n m y=>z g n ?_ y;rw[A] at m;exact m
def qaP:bY X (.builtin "len") (λxs H Q=>∃a l,xs=[.ref a]/\H a=some (Dw X.prog X.w a l)/\Q (.int l.length) H):=by
 intro z s v H xs y Q I r h;obtain⟨a,l,rfl,n,q⟩:=h;obtain⟨u,rfl,f⟩:=r.one;obtain rfl:u=Value.ref a:=f;obtain⟨⟨o,A,B,t,e,ex,m,_,_,c,j,i⟩,_⟩:=(show b_ X.prog X.w H s.heap a (Dw X.prog X.w a l) from I.hok a _ n);refine call_len_set e ex m j (by unfold scanBound at c;lia) #[.int l.length,H,I.tok _,#[_,by rw[i]],q]
section
@[simp] def qlc:R2:=λx y H Q=>∃i j,x = .str i/\y = .str j/\i.length+j.length<=sizeLine/\Q (.str (i++j)) H
@[simp] def qld:R2:=λx y H Q=>∃i j,x = .str i/\y = .str j/\Q (.bl (!(Builtin.Str.occurrences j i 0 j.length 1).isEmpty)) H
@[simp] def qle:R2:=λx y H Q=>∃i j,x = .str i/\y = .str j/\Q (.bl (!(!(Builtin.Str.occurrences j i 0 j.length 1).isEmpty))) H
@[simp] def Hz(K:W5):R2:=λx y H Q=>Hs K false x y H Q\/qld x y H Q
@[simp] def Qd(K:W5):R2:=λx y H Q=>Hs K true x y H Q\/qle x y H Q
def qlf:aZ X (compareOp .In) (Hz X.K):=qkv.or qjR
def qlg:aZ X (compareOp .NotIn) (Qd X.K):=qkw.or qkx
@[simp] def Qe(K:W5):R2:=λx y H Q=>∃p a i v,x = .ref p/\y = .int i/\(au K H p a\/aQ K H p a)/\gM a i=some v/\Q v H
def ixQ:mO X (Qe X.K):=by
 intro a c n s f H x y v u Q I m l h o;obtain⟨p,j,i,z,A,w,e|e,r,q⟩:=h
 ·exact qkm a c n s f H x y v u Q I m l #[p,j,i,z,A,w,e,r,q] o
 ·exact qkn a c n s f H x y v u Q I m l #[p,j,i,z,A,w,e,r,q] o
@[simp] def qaQ(K:W5):List V->Hp->VK->Prop:=λc H Q=>∃p a,c=[.ref p]/\(au K H p a\/aQ K H p a)/\Q (.int a.length) H
@[simp] def qaR:List V->Hp->VK->Prop:=λa H Q=>∃z,a=[.str z]/\z.length<=sizeLine/\Q (.int z.length) H
@[simp] def qtH(P:J9)(w:zX):List V->Hp->VK->Prop:=λc H Q=>∃a l,c=[.ref a]/\H a=some (Dw P w a l)/\Q (.int l.length) H
variable {K:W5}
def qlh(a:X.K=K):mO X (Qe K):=by subst a;exact ixQ
def inK(a:X.K=K):aZ X (compareOp .In) (Hz K):=by subst a;exact qlf
def qli(a:X.K=K):aZ X (compareOp .NotIn) (Qd K):=by subst a;exact qlg
def qlj(a:X.K=K):bY X (.builtin "len") (qaQ K):=by subst a;exact qky
def qlk:bY X (.builtin "len") qaR:=qkz
@[simp] def qaS(K:W5):List V->Hp->VK->Prop:=λc H Q=>∃p a,c=[.ref p]/\(au K H p a\/aQ K H p a)/\∀l,H l=none->Q (.ref l) (upd H l (.lst a))
def qll(a:X.K=K):bY X (.type "list") (qaS K):=by subst a;exact qkA
@[simp] def qtI(K:W5):List V->Hp->VK->Prop:=λc H Q=>∃p a,c=[.ref p]/\((au K H p a/\∀l,H l=none->Q (.ref l) (upd H l (.tup a)))\/(aQ K H p a/\Q (.ref p) H))
@[simp] def qaT(K:W5):List V->Hp->VK->Prop:=λa H Q=>∃x n t b,a=[x,.ty n]/\fH K H x t/\W.kitOne K t (.type n)=some b/\Q (.bl b) H
def qlm(a:X.K=K):bY X (.builtin "isinstance") (qaT K):=by subst a;exact qkV
@[simp] def qaU(K:W5):List V->Hp->VK->Prop:=λa H Q=>∃x p m n t b,a=[x,.ref p]/\H p=some (.tup [.ty m,.ty n])/\fH K H x t/\W.kitAny K t [.type m,.type n]=some b/\Q (.bl b) H
def qln(a:X.K=K):bY X (.builtin "isinstance") (qaU K):=by subst a;exact qkW
def iJ(i:X.K=K){a:qy}{k:Nat}{pos:Pos}{t:iV}{n:Nat}(f:X.calm=true)(h:bB X a t)(e:(assignEach a X.env).length=n:=by rfl)(c:(assignEach a X.env).findIdx? (·.1)=none:=by rfl):PG X (.Tuple a k pos) (OD K n t):=by subst i;exact qjp f h e c
def qlo(e:X.K=K)(c:PE X l a):PI X f l (O2 K a):=by subst e;exact qjw c
def qlp(e:X.K=K)(c:PE X l a):PI X f l (Z0 K a):=by subst e;exact qjx c
def Qf(i:X.K=K)(c:PE X e a)(h:attributeBase e f X.env (eval e X.env)=eval e X.env):PE X (.Attribute e f pos) (O9 K a f):=by subst i;exact qka c h
def jW(B:X.K=K){o e:zp}{j:qy}{u:TE}{t:TA}{name:Str}{f a:Pos}{T id:String}{r:yV}(v:PlainAttrs T)(l:Slot T name id)(n:typeOf (.builtin id)=pure (.type "method_descriptor"))(z:gO X id r)(y:PE X o u)(A:PA X (e::j) t)(i:attributeBase o name X.env (eval o X.env)=eval o X.env:=by rfl)(m:((backTo a (starEach (e::j) X.env)).all (λx=>!x.1) && (backToKw a (keywordEach [] X.env)).all (λx=>x.1.isSome)
   && decide ((e::j).length+([]:List Keyword).length+(if ([]:List Keyword).isEmpty then 0 else 1)<30))=true:=by rfl)(h:(f.endLine == a.line)=true:=by rfl)(w:lG X e j:=by rfl)(c:nQ X a j:=by rfl):
  PE X (.Call (.Attribute o name f) (e::j) [] a) (tBM K T r u t):=by subst B;exact qkD v l n z y A i m h w c
def qX:bootBuiltins "all" = some (.builtin "all"):=by decide+kernel
def boot_max:bootBuiltins "max" = some (.builtin "max"):=by decide+kernel
def boot_min:bootBuiltins "min" = some (.builtin "min"):=by decide+kernel
def boot_abs:bootBuiltins "abs" = some (.builtin "abs"):=by decide+kernel
def boot_divmod:bootBuiltins "divmod" = some (.builtin "divmod"):=by decide+kernel
end
structure Nm(mg:Zu):Prop where
 len:mg "len" = none
 max:mg "max" = none
 min:mg "min" = none
 abs:mg "abs" = none
 divmod:mg "divmod" = none
 range:mg "range" = none
 zip:mg "zip" = none
 list:mg "list" = none
 tuple:mg "tuple" = none
 int:mg "int" = none
 str:mg "str" = none
 set:mg "set" = none
 all:mg "all" = none
 isinstance:mg "isinstance" = none
section
variable {K:W5}{own:QAH}{caps:qw}{g:TG}{tt:TT}{te:TE}{D:Qv}{σ:St}{H:Hp}{Q:Hp->Prop}
abbrev z7(g:TG)(tt:TT)(te:TE)(D:Qv)(N:yh)(x:V)(σ:St)(H:Hp):Prop:=
 g x σ H λa h=>tt a h λb f=>if b=true then te a f λy e=>∃c,e D=some (.lst c)/\c.length<sizeLine/\N a (upd e D (.lst (c++[y]))) else N a f
def qaV(Pv:yO)(r:Pv 0 (stC own caps σ) H)(j:∀i σ H,i<=xs.length->Pv i σ H->au K H l xs)(h:∀i x σ H,xs[i]? = some x->Pv i σ H->z7 g tt te D (Pv (i+1)) x σ H)(o:∀σ H,Pv xs.length σ H->Q H):qQ own caps (lF K l) g tt te D σ H Q:=by
 refine#[λi m σ H=>m=xs.length - i/\i<=xs.length/\Pv i σ H,#[xs.length,by simp,qwF _,r],?_];rintro i m σ H ⟨rfl,n,p⟩;have q:=j i σ H n p
 by_cases a:i<xs.length
 ·refine .inr #[#[xs,xs[i],q,by simp[a]],Pv (i+1),λc u f=>#[xs.length - (i+1),∅,rfl,a,f],λx u y=>?_];obtain⟨e,y⟩:=y;subst e;exact h i x σ _ (y xs q) p
 ·have e:i=xs.length:=⋯
  subst e;exact .inl #[#[xs,q,qvY _],o σ H p]
def qlq(Pv:yO)(r:Pv 0 (stC own caps σ) H)(j:∀i σ H,i<=xs.length->Pv i σ H->aQ K H l xs)(h:∀i x σ H,xs[i]? = some x->Pv i σ H->z7 g tt te D (Pv (i+1)) x σ H)(o:∀σ H,Pv xs.length σ H->Q H):qQ own caps (tM K l) g tt te D σ H Q:=by
 refine#[λi m σ H=>m=xs.length - i/\i<=xs.length/\Pv i σ H,#[xs.length,by simp,qwF _,r],?_];rintro i m σ H ⟨rfl,n,p⟩;have q:=j i σ H n p
 by_cases a:i<xs.length
 ·refine .inr #[#[xs,xs[i],q,by simp[a]],Pv (i+1),λc u f=>#[xs.length - (i+1),∅,rfl,a,f],λx u y=>?_];obtain⟨e,y⟩:=y;subst e;exact h i x σ _ (y xs q) p
 ·have e:i=xs.length:=∅
  subst e;exact .inl #[#[xs,q,qvY _],o σ H p]
def qlr{lo:Int}{n:Nat}(Pv:yO)(l:Pv 0 (stC own caps σ) H)(h:∀i σ H,i<n->Pv i σ H->z7 g tt te D (Pv (i+1)) (.int (lo+i)) σ H)(j:∀σ H,Pv n σ H->Q H):qQ own caps (mG lo n) g tt te D σ H Q:=by
 refine#[λi m σ H=>m=n - i/\i<=n/\Pv i σ H,#[n,by simp,qwF _,l],?_];rintro i m σ H ⟨rfl,r,p⟩
 by_cases a:i<n
 ·refine .inr #[a,Pv (i+1),λc o f=>#[n - (i+1),∅,rfl,a,f],λx o y=>?_];obtain⟨e,y⟩:=y;subst e y;exact h i σ _ a p
 ·have e:i=n:=⋯
  subst e;exact .inl #[qvY _,j σ H p]
def qls(Pv:yO)(o:Pv 0 (stC own caps σ) H)(j:∀i c σ H,z.cps[i]? = some c->Pv i σ H->z7 g tt te D (Pv (i+1)) (.str #[[c].toArray]) σ H)(l:∀σ H,Pv z.cps.size σ H->Q H):qQ own caps (Its z) g tt te D σ H Q:=by
 refine#[λi m σ H=>m=z.cps.size - i/\i<=z.cps.size/\Pv i σ H,#[z.cps.size,by simp,qwF _,o],?_];rintro i m σ H ⟨rfl,u,p⟩
 by_cases a:i<z.cps.size
 ·refine .inr #[a,Pv (i+1),λf r h=>#[z.cps.size - (i+1),∅,rfl,a,h],λx r y=>?_];obtain⟨e,c,n,rfl⟩:=y;subst e;exact j i c σ _ n p
 ·have e:i=z.cps.size:=⋯
  subst e;exact .inl #[qvY _,l σ H p]
def qlt(Pv:yO)(C:Pv 0 (stC own caps σ) H)(J:xs.length=ys.length)(z:∀i σ H,i<=xs.length->Pv i σ H->au K H o xs/\au K H n ys)(w:∀i x y t σ H,xs[i]? = some x->ys[i]? = some y->H t=none->Pv i σ H->z7 g tt te D (Pv (i+1)) (.ref t) σ (upd H t (.tup [x,y])))(B:∀σ H,Pv xs.length σ H->Q H):qQ own caps (pG K o n) g tt te D σ H Q:=by
 refine#[λi m σ H=>m=xs.length - i/\i<=xs.length/\Pv i σ H,#[xs.length,by simp,qwF _,C],?_];rintro i m σ H ⟨rfl,A,p⟩;obtain⟨h,f⟩:=z i σ H A p
 by_cases c:i<xs.length
 ·have a:i<ys.length:=⋯
  refine .inr #[#[xs,ys,xs[i],ys[i],h,f,by simp[c],by simp[a]],Pv (i+1),λj I l=>#[xs.length - (i+1),⋯,rfl,c,l],λx I y=>?_];obtain⟨t,u,v,rfl,r,rfl,G,E⟩:=y;exact w i u v t σ H (G xs h) (E ys f) r p
 ·have e:i=xs.length:=⋯
  subst e;exact .inl #[#[xs,ys,h,f,.inl (qvY _)],B σ H p]
end
def ji(b:Bool)(K:W5)(H:Hp)(p:Qv)(xs:kE):Prop:=match b with|true=>au K H p xs|false=>aQ K H p xs
def HB(b:Bool)(K:W5)(p:Qv):It:=match b with|true=>lF K p|false=>tM K p
@[simp] def qaW(K:W5)(f:TE):TI:=λc H R=>f c H λx a=>∃b p,x = .ref p/\(∃e,ji b K a p e)/\R (HB b K p) a
def tW{X:Cx}{K:W5}(J:X.K=K){A l:zp}{n:TE}(G:PE X l n):PI X A l (qaW K n):=by
 intro D s w H R I h;refine aD (G D s w H _ I h) λv a y=>?_;obtain⟨x,u,c,r,C⟩:=y;obtain⟨b,p,e,f,q⟩:=C;subst e;subst J;cases b with
 |true=>
  cases r;obtain⟨z,f⟩:=f;obtain⟨i,B,j,E⟩:=c.list f;refine qyh j.isList ?_;refine#[a.heap.objs.size,[a.heap.objs.size],_,_,u,rfl,c.kept (t':=a.toks) λb o e=>qvV _ e,ZW p _,#[_,qv4 _ rfl,rfl,rfl],λb m=>?_,q];have e:b=a.heap.objs.size:=by simpa using m
  subst e;exact c.lE (qvY _) (c.hok.fresh (qvY _))
 |false=>
  cases r;obtain⟨z,f⟩:=f;obtain⟨i,B,j,E⟩:=c.tuple f;refine qxG (show a.heap.IsTuple p i.toArray from j) ?_;refine#[a.heap.objs.size,[a.heap.objs.size],_,_,u,rfl,c.kept (t':=a.toks) λb o e=>qvV _ e,ZX p _,#[_,qv4 _ rfl,rfl,rfl],λb m=>?_,q];have e:b=a.heap.objs.size:=by simpa using m
  subst e;exact c.lE (qvY _) (c.hok.fresh (qvY _))
section
variable {K:W5}{own:QAH}{caps:qw}{g:TG}{tt:TT}{te:TE}{D:Qv}{σ:St}{H:Hp}{Q:Hp->Prop}
def qlu(Pv:yO)(f:Pv 0 (stC own caps σ) H)(c:∀i σ H,i<=xs.length->Pv i σ H->ji b K H l xs)(a:∀i x σ H,xs[i]? = some x->Pv i σ H->z7 g tt te D (Pv (i+1)) x σ H)(e:∀σ H,Pv xs.length σ H->Q H):qQ own caps (HB b K l) g tt te D σ H Q:=by
 cases b with
 |true=>exact qaV Pv f c a e
 |false=>exact qlq Pv f c a e
end
def aJ(h:H p=none):Same H (upd H p o):=λb u e=>by rw[aN (cF e h)];exact e
def cN(s:Same H a)(h:H p=none):Same H (upd a p o):=λb u e=>by rw[aN (cF e h)];exact s b u e
def Sq(H:Hp)(p:Qv)(xs:kE):Prop:=H p=some (.lst xs)\/H p=some (.tup xs)
def Sq.q{K:W5}{H:Hp}{p:Qv}{xs:kE}(h:Sq H p xs):au K H p xs\/aQ K H p xs:=h.elim (λe=>.inl (au.of e)) λe=>.inr (aQ.of e)
theorem Sq.b(h:Sq H p xs):∃b,∀K a,Same H a->ji b K a p xs:=h.elim (λe=>#[true,λ_ _ s=>au.of (s _ _ e)]) λe=>#[false,λ_ _ s=>aQ.of (s _ _ e)]
def Sq.same(h:Sq H p xs)(s:Same H a):Sq a p xs:=h.elim (λe=>.inl (s _ _ e)) λe=>.inr (s _ _ e)
def Sq.ty{K:W5}{H:Hp}{p:Qv}{xs:kE}(h:Sq H p xs):fH K H (.ref p) (.type "list")\/fH K H (.ref p) (.type "tuple"):=h.elim (λe=>.inl (.lst e)) λe=>.inr (.tup e)
theorem Dy{a:Type}(f:a->Bool):∀l:List a,mR (l.map λc=>.bl (f c)) (l.map f)
 |[]=>rfl
 |c::l=>#[f c,l.map f,rfl,rfl,Dy f l]
def qlv{a:Type}(f:a->Bool)(l:List a):(l.map f).all id=l.all f:=by
 rw[List.all_map];rfl
def take_one{a:Type}{l:List a}{i:Nat}{x:a}(h:l[i]? = some x):l.take (i+1)=l.take i++[x]:=by
 rw[List.take_succ,h];rfl
@[simp] def qaX:List V->Hp->VK->Prop:=λe H Q=>∃p c,e=[.ref p]/\Sq H p c/\∀l a,a l=some (.tup c)->Same H a->Q (.ref l) a
def qlw:bY X (.type "tuple") qaX:=by
 intro i s a H n f Q I r h;obtain⟨p,c,rfl,j,q⟩:=h;refine qkB i s a H _ f Q I r #[p,c,rfl,?_]
 rcases j with e|e
 ·exact .inl #[au.of e,λl m=>q l _ aB (aJ m)]
 ·exact .inr #[aQ.of e,q p H e (Same.refl H)]
def qlx(J:It)(g:TG)(tb:TS):TS:=λD c H=>∃h:Nat->Nat->St->Hp->Prop,(∃m,h 0 m c H)/\∀i m c H,h i m c H->
   (J.stop i H/\D.nx c H)\/(J.go i H/\∃N:St->Hp->Prop,(∀a e,N a e->∃j,j<m/\h (i+1) j a e)/\∀x e,J.jf i H x e->g x c e λf l=>tb {D with nx:=N,ct:=N,bk:=D.nx} f l)
def cj(h:H b=some o)(n:H p=none):upd H p u b=some o:=by rw[aN (cF h n)];exact h
def HD(h:H b=some o)(n:H p=some a)(d:o≠a):upd H p u b=some o:=by
 rw[aN (λe=>d (by subst e;rw[h] at n;exact qwt n))];exact h
def gU(s:Same H a)(h:a b=none):H b=none:=by
 cases e:H b with
 |none=>rfl
 |some o=>rw[s b o e] at h;cases h
def But(p:Qv)(H a:Hp):Prop:=∀b o,b≠p->H b=some o->a b=some o
def But.refl(p:Qv)(H:Hp):But p H H:=λ_ _ _ e=>e
def But.trans(x:But p H f)(y:But p f c):But p H c:=λb o a e=>y b o a (x b o a e)
def But.new(x:But p H c)(h:H q=none):But p H (upd c q u):=λb o a e=>by
 rw[aN (cF e h)];exact x b o a e
def But.of(x:Same H a):But p H a:=λb o _ e=>x b o e
def But.same(x:But p H f)(y:Same f c):But p H c:=λb o a e=>y b o (x b o a e)
theorem But.none(x:But p H a)(c:a p=some u)(h:a b = .none):H b = .none:=by
 cases e:H b with
 |none=>rfl
 |some o=>
  have f:b≠p:=λz=>by subst z;rw[c] at h;cases h
  rw[x b o f e] at h;cases h
def qaY(e:0<=i)(c:i<xs.length):∃v,xs[i.toNat]? = some v/\gM xs i=some v:=by
 obtain⟨j,rfl⟩:∃j:Nat,i=j:=#[i.toNat,⋯];have a:j<xs.length:=⋯
 exact#[xs[j],by simp[a],cV (by simp[a])]
def qly{d e n:Int}(i:0<=d)(f:d<n)(c:0<=e)(a:e<n - 1):0<=(d+1+e) % n/\(d+1+e) % n<n/\(d+1+e) % n≠d:=by
 refine#[Int.emod_nonneg _ ⋯,Int.emod_lt_of_pos _ ⋯,?_]
 by_cases h:d+1+e<n
 ·rw[Int.emod_eq_of_lt ⋯ h];lia
 ·have z:d+1+e=(d+1+e - n)+n * 1:=⋯
  rw[z,Int.add_mul_emod_self_left,Int.emod_eq_of_lt ⋯ ⋯];lia
def jy{xs:QAH}{i:Nat}{x:V}(h:(xs.map V.str)[i]? = some x):∃z,xs[i]? = some z/\x = .str z:=by
 rw[qv8] at h;cases e:xs[i]? with
 |none=>rw[e] at h;cases h
 |some z=>rw[e] at h;exact#[z,rfl,(qwt h).symm]
def Dz{a:Type}{xs:List a}(h:xs.Nodup){i j:Nat}{x:a}(e:xs[i]? = some x)(c:xs[j]? = some x):i=j:=by
 obtain⟨n,l⟩:=qvU.mp e;obtain⟨m,f⟩:=qvU.mp c;exact(List.getElem_inj h).mp (l.trans f.symm)
def jj(c:Nat):Bool:=!(Builtin.Str.occurrences ("abcdefghijklmnopqrstuvwxyz" : Str) #[[c].toArray] 0 ("abcdefghijklmnopqrstuvwxyz" : Str).length 1).isEmpty
def nameB(x:Str):Bool:=decide (1<=x.length) && decide (x.length<=4) && x.cps.toList.all jj
def qaZ:∀n<26,jj (97+n)=true:=by decide+kernel
def qlz:∀n:Nat,n<26->gM (Str.ofString "abcdefghijklmnopqrstuvwxyz").cps.toList (n:Int)=some (97+n):=by decide+kernel
def qa0:(Str.ofString "abcdefghijklmnopqrstuvwxyz").length<=sizeLine:=by decide+kernel
def Qg{i:Int}(c:0<=i)(a:i<26):∃n:Nat,i=n/\n<26/\gM (Str.ofString "abcdefghijklmnopqrstuvwxyz").cps.toList i=some (97+n):=
 #[i.toNat,⋯,⋯,by
  obtain⟨n,rfl⟩:∃n:Nat,i=n:=#[i.toNat,∅];exact qlz n ⋯]
structure qY(c:Nat)(k:Nat)(x:Str):Prop where
 len:x.length=k
 fst:x.cps[0]? = some c
 all:x.cps.toList.all jj=true
def qY.one(h:n<26):qY (97+n) 1 #[[97+n].toArray]:=#[rfl,rfl,by simp[qaZ n h]]
def qY.name(h:qY c k x)(e:1<=k)(a:k<=4):nameB x=true:=by
 unfold nameB;rw[h.len,h.all];simp;lia
section
variable {κ:Type}[DecidableEq κ]
def dI(kvs:List (κ×V))(k:κ):Option V:=(kvs.find? λa=>decide (a.1=k)).map (·.2)
def putK(kvs:List (κ×V))(k:κ)(v:V):List (κ×V):=
 if (kvs.any λa=>decide (a.1=k))=true then kvs.map (λa=>if a.1=k then (a.1,v) else a) else kvs++[(k,v)]
def HF{p:κ×V}{r:List (κ×V)}{k:κ}(e:p.1=k):dI (p::r) k=some p.2:=by simp[dI,qya,e]
def HJ{p:κ×V}{r:List (κ×V)}{k:κ}(e:¬p.1=k):dI (p::r) k=dI r k:=by simp[dI,qya,e]
theorem Qh(k:κ):∀kvs:List (κ×V),(kvs.any λa=>decide (a.1=k))=(dI kvs k).isSome
 |[]=>rfl
 |p::r=>by
  rw[qxC]
  by_cases e:p.1=k
  ·simp only[HF e,qwv e,Bool.true_or,Option.isSome_some]
  ·rw[HJ e,qwh e,Bool.false_or];exact Qh k r
def Qi(kvs:List (κ×V))(k:κ)(v:V):(putK kvs k v).length<=kvs.length+1:=by
 unfold putK;split
 ·rw[qv1];lia
 ·rw[qwm,qwj,List.length_nil];lia
def qlA{kvs:List (κ×V)}{k:κ}(v:V)(h:dI kvs k=none):putK kvs k v=kvs++[(k,v)]:=by
 unfold putK;rw[Qh,h];exact if_neg (by decide)
def fX.DG{o:Option V}{u:QAG}(r:fX o u):o.isSome=u.isSome:=by
 cases o with
 |none=>cases u with
  |none=>rfl
  |some _=>exact(show False from r).elim
 |some _=>cases u with
  |none=>exact(show False from r).elim
  |some _=>rfl
theorem fX.getD{o:Option V}{u:QAG}{d:V}{d':zT}(r:fX o u)(a:RelV d d'):RelV (o.getD d) (u.getD d'):=by
 cases o with
 |none=>cases u with
  |none=>exact a
  |some _=>exact(show False from r).elim
 |some _=>cases u with
  |none=>exact(show False from r).elim
  |some _=>exact r
def KV.val(r:KV kvs vs)(k:κ):fX (dI kvs k) (valueAt vs k):=by
 unfold KV at r
 induction r with
 |nil=>exact True.intro
 | @cons p q j a h t ih=>
  obtain⟨f,i⟩:=h
  by_cases e:p.1=k
  ·have c:q.1=k:=f.symm.trans e;have b:valueAt (q::a) k=some q.2:=by simp[valueAt,qya,c]
   rw[HF e,b];exact i
  ·have c:¬q.1=k:=λz=>e (f.trans z);have b:valueAt (q::a) k=valueAt a k:=by simp[valueAt,qya,c]
   rw[HJ e,b];exact ih
theorem KV.any(r:KV kvs vs)(k:κ):(kvs.any λa=>decide (a.1=k))=vs.any λa=>decide (a.1=k):=by
 unfold KV at r
 induction r with
 |nil=>rfl
 |cons h t ih=>rw[qxC,qxC,ih,h.1]
def KV.repl(r:KV kvs vs)(k:κ)(f:RelV y u):
  KV (kvs.map λa=>if a.1=k then (a.1,y) else a) (vs.map λa=>if a.1=k then (a.1,u) else a):=by
 unfold KV at r⊢
 induction r with
 |nil=>exact .nil
 | @cons p q l j h t ih=>
  rw[qwd,qwd];refine .cons ?_ ih;obtain⟨c,i⟩:=h
  by_cases e:p.1=k
  ·rw[if_pos e,if_pos (c.symm.trans e)];exact#[c,f]
  ·rw[if_neg e,if_neg (λz=>e (c.trans z))];exact#[c,i]
def KV.put(r:KV kvs vs)(k:κ)(a:RelV y u):KV (putK kvs k y) (stored vs k u):=by
 unfold putK stored;rw[r.any k]
 by_cases e:(vs.any λc=>decide (c.1=k))=true
 ·rw[if_pos e,if_pos e];exact r.repl k a
 ·rw[if_neg e,if_neg e];exact Paired.snoc r #[rfl,a]
theorem KV.length{kvs:List (κ×V)}{vs:List (κ×Value)}(r:KV kvs vs):kvs.length=vs.length:=Paired.length r
end
def tX(r:RelV (kV k) u):(cU P w).is k u=true:=by
 cases k with
 |inl i=>obtain⟨t,e⟩:=(show ∃t,u=Value.int i t from r);subst e;exact Zt P w i t
 |inr x=>obtain⟨t,e⟩:=(show ∃t,u=Value.str x t from r);subst e;exact qi8 P w x t
theorem qa1:∀{ks:List Key}{us:QAE},Vals (ks.map kV) us->ItemsAre (cU P w) ks us
 |[],_,r=>by rw[qx7] at r;cases r;exact .nil
 |k::ks,_,r=>by
  rw[qwd] at r;cases r with
  |cons h t=>exact .cons (tX h) (qa1 t)
abbrev KT(H:Hp):List (List Key×V)->List (List Key×Addr×Value)->Prop:=Paired λp q=>p.1=q.1/\H q.2.1=some (.tup (p.1.map kV))/\RelV p.2 q.2.2
def KT.val(r:KT H kvs xs)(k:List Key):fX (dI kvs k) ((atKey xs k).map (·.2)):=by
 induction r with
 |nil=>exact True.intro
 | @cons p q j a h t ih=>
  obtain⟨f,_,i⟩:=h
  by_cases e:p.1=k
  ·have c:q.1=k:=f.symm.trans e;have b:atKey (q::a) k=some q.2:=by simp[atKey,qya,c]
   rw[HF e,b];exact i
  ·have c:¬q.1=k:=λz=>e (f.trans z);have b:atKey (q::a) k=atKey a k:=by simp[atKey,qya,c]
   rw[HJ e,b];exact ih
def KT.repl(r:KT H kvs xs)(k:List Key)(i:RelV y u):
  KT H (kvs.map λc=>if c.1=k then (c.1,y) else c) (xs.map (putAt k u)):=by
 induction r with
 |nil=>exact .nil
 | @cons p q m l h t ih=>
  rw[qwd,qwd];refine .cons ?_ ih;obtain⟨a,f,j⟩:=h;unfold putAt
  by_cases e:p.1=k
  ·rw[if_pos e,if_pos (a.symm.trans e)];exact#[a,f,i]
  ·rw[if_neg e,if_neg (λz=>e (a.trans z))];exact#[a,f,j]
def KT.put(r:KT H kvs xs)(k:List Key)(f:H b=some (.tup (k.map kV)))(a:RelV y u):
  KT H (putK kvs k y) (storedH xs k b u):=by
 have e:(kvs.any λc=>decide (c.1=k))=(atKey xs k).isSome:=by
  rw[Qh,(r.val k).DG,Option.isSome_map]
 unfold putK storedH;rw[e]
 by_cases q:(atKey xs k).isSome=true
 ·rw[if_pos q,if_pos q];exact r.repl k a
 ·rw[if_neg q,if_neg q];exact Paired.snoc r #[rfl,f,a]
def KT.keeps(r:KT H kvs xs)(a:∀b ys,H b=some (.tup ys)->c b=some (.tup ys)):KT c kvs xs:=
 Paired.Oq r λ_ _ z=>#[z.1,a _ _ z.2.1,z.2.2]
def qa2(ok:cP P w H h)(e:Rd H a u):b_ P w H h a u:=e.ok ok
def pH(ok:cP P w H h)(e:Rd H a (.dK kvs)):kvs.length<=sizeLine/\(a == sysModules)=false/\∃vs,KV kvs vs/\h.DictOf (cU P w) a vs:=
 show b_ P w H h a (.dK kvs) from qa2 ok e
def xG(ok:cP P w H h)(e:H a=some (.dK kvs)):kvs.length<=sizeLine/\(a == sysModules)=false/\∃vs,KV kvs vs/\h.DictOf (cU P w) a vs:=pH ok (.inl e)
def xH(ok:cP P w H h)(e:H a=some (.tup (ks.map kV))):(tupleKind (cU P w)).is h ks a:=by
 obtain⟨_,c,r,o,j,i,n,f⟩:=(show b_ P w H h a (.tup (ks.map kV)) from ok a _ e);exact#[o,c.toArray,n,j,i,f,by simpa using qa1 r]
def tY(ok:cP P w H h)(e:Rd H a (.dT kvs)):kvs.length<=sizeLine/\(a == sysModules)=false/\
  ∃xs,KT H kvs xs/\h.DictOfH (tupleKind (cU P w)) a xs:=by
 obtain⟨z,y,xs,r,o,A,B,v,u,n,j,i⟩:=(show b_ P w H h a (.dT kvs) from qa2 ok e);refine#[z,y,xs,r,o,A,B,v,u,n,j,λx c=>?_,i];have all:∀{l:List (List Key×V)}{m:List (List Key×Addr×Value)},KT H l m->∀x∈m,(tupleKind (cU P w)).is h x.1 x.2.1:=by
  intro l m q
  induction q with
  |nil=>intro x c;exact nomatch c
  | @cons p q D C f t ih=>
   intro x c
   rcases qv0.mp c with e|c
   ·subst e;exact xH ok (by rw[<- f.1];exact f.2.1)
   ·exact ih x c
 exact all r x c
def qa3(ok:cP P w H h)(e:H a=some (.dT kvs)):kvs.length<=sizeLine/\(a == sysModules)=false/\
  ∃xs,KT H kvs xs/\h.DictOfH (tupleKind (cU P w)) a xs:=tY ok (.inl e)
def fK(H:Hp)(a:Qv)(y:V)(r:Option V):Prop:=
 (∃c k,Rd H a (.dK c)/\y=kV k/\r=dI c k)\/∃c k b,Rd H a (.dT c)/\y = .ref b/\H b=some (.tup (k.map kV))/\r=dI c k
def xJ(H:Hp)(a:Qv)(y v:V)(e:Hp):Prop:=
 (∃c k,H a=some (.dK c)/\y=kV k/\c.length<sizeLine/\e=upd H a (.dK (putK c k v)))\/
 ∃c k b,H a=some (.dT c)/\y = .ref b/\H b=some (.tup (k.map kV))/\c.length<sizeLine/\e=upd H a (.dT (putK c k v))
theorem fK.k{H:Hp}{a:Qv}{kvs:List (Key×V)}{k:Key}(e:H a=some (.dK kvs)):fK H a (kV k) (dI kvs k):=.inl #[kvs,k,.inl e,rfl,rfl]
theorem xJ.k{H:Hp}{a:Qv}{kvs:List (Key×V)}{k:Key}{v:V}(e:H a=some (.dK kvs))(c:kvs.length<sizeLine):xJ H a (kV k) v (upd H a (.dK (putK kvs k v))):=.inl #[kvs,k,e,rfl,c,rfl]
section
variable {X:Cx}{p_:QAC}{σ:St}{H:Hp}{s:Zw}{a:Qv}{y v:V}{u r:zT}{o:Option V}{A:zY}{E:QAB}
def Inv.big(I:Inv X p_ σ H s):sysModules<s.heap.objs.size:=by
 have h:mainGlobals<s.heap.objs.size:=(I.mod.glob.keeps I.bk).lt;exact Nat.lt_trans (by decide) h
def qlB{Q:QAB}(J:A.units+1<cLine)(I:Inv X p_ σ H s)(g:fK H a y (some v))(C:RelV y u)(h:∀w' B,Inv X p_ σ H B->RelV v w'->Q w' B):
  wpAny (model X.prog X.w) A (getItem (.ref a) u) Q E s:=by
 rcases g with⟨f,k,e,m,l⟩|⟨f,k,b,e,m,N,l⟩
 ·subst m;obtain⟨z,M,G,c,n⟩:=pH I.hok e;obtain⟨w',hw,i⟩:=fX.some_of (v:=v) (o:=valueAt G k) (by rw[l];exact c.val k);exact wpAny_getItem_of (tX C) n.mapOf hw (h w' _ (I.tok _) i)
 ·subst m;cases (show u=Value.ref b from C);obtain⟨z,M,D,c,n⟩:=tY I.hok e;obtain⟨w',hw,i⟩:=fX.some_of (v:=v) (o:=(atKey D k).map (·.2)) (by rw[l];exact c.val k);obtain⟨p,L,j⟩:=Option.map_eq_some_iff.mp hw;refine wpAny_getItem_heap (qxJ J) (xH I.hok N) n L ?_;rw[j];exact h w' _ (I.tok _) i
def qlC{Q:QAB}(C:A.units+1<cLine)(I:Inv X p_ σ H s)(g:fK H a y o)(B:RelV y u)(h:∀n,Inv X p_ σ H n->Q (.bool o.isSome) n):
  wpAny (model X.prog X.w) A (compareOp .In u (.ref a)) Q E s:=by
 rcases g with⟨f,k,e,j,l⟩|⟨f,k,b,e,j,D,l⟩
 ·subst j;obtain⟨z,i,J,c,m⟩:=pH I.hok e;refine wpAny_in_of (tX B) i m.mapOf ?_;rw[<- (c.val k).DG,<- l];exact h _ (I.tok _)
 ·subst j;cases (show u=Value.ref b from B);obtain⟨z,i,G,c,m⟩:=tY I.hok e;refine wpAny_in_heap (qxJ C) (xH I.hok D) i m ?_;have q:=(c.val k).DG;rw[Option.isSome_map] at q;rw[<- q,<- l];exact h _ (I.tok _)
def qlD{Q:QAB}(C:A.units+1<cLine)(I:Inv X p_ σ H s)(g:fK H a y o)(B:RelV y u)(h:∀n,Inv X p_ σ H n->Q (.bool (!o.isSome)) n):
  wpAny (model X.prog X.w) A (compareOp .NotIn u (.ref a)) Q E s:=by
 rcases g with⟨f,k,e,j,l⟩|⟨f,k,b,e,j,D,l⟩
 ·subst j;obtain⟨z,i,J,c,m⟩:=pH I.hok e;refine wpAny_notIn_of (tX B) i m.mapOf ?_;rw[<- (c.val k).DG,<- l];exact h _ (I.tok _)
 ·subst j;cases (show u=Value.ref b from B);obtain⟨z,i,G,c,m⟩:=tY I.hok e;refine wpAny_notIn_heap (qxJ C) (xH I.hok D) i m ?_;have q:=(c.val k).DG;rw[Option.isSome_map] at q;rw[<- q,<- l];exact h _ (I.tok _)
def Qj(I:Inv X p_ σ H s)(f:CZ (H a))(h:Heap.SameBut a s.heap h')(i:∃q,h'.get? a=some q)(new:b_ X.prog X.w (upd H a c) h' a c):
  Inv X p_ σ (upd H a c) {s with heap:=h',toks:=t'}:=
 I.write (x:=a) (e:=a) f (.inl rfl) (λb q j z=>(h.2 b j).trans z) i new
def qa4(z:kvs.length<=sizeLine)(e:(a == sysModules)=false)(c:KV kvs vs)(dd:h'.DictOf (cU P w) a vs):
  b_ P w f h' a (.dK kvs):=#[z,e,vs,c,dd]
def qlE(hu:A.units+1<cLine)(I:Inv X p_ σ H s)(g:xJ H a y v H')(N:RelV y u)(O:RelV v r)(h:∀M,Inv X p_ σ H' M->Q () M):
  wpAny (model X.prog X.w) A (setItem (.ref a) u r) Q E s:=by
 rcases g with⟨i,k,e,G,l,J⟩|⟨i,k,b,e,G,Y,l,J⟩
 ·subst G J;obtain⟨z,D,vs,f,L⟩:=xG I.hok e;have n:vs.length<=sizeLine:=by rw[<- f.length];exact z
  have C:(putK i k v).length<=sizeLine:=by have:=Qi i k v;lia
  refine wpAny_setItem_pairs (hsz:=n) (tX N) L λT j B=>h _ ?_;have he:∃q,T.get? a=some q:=let ⟨q,_,_,m,_⟩:=j;#[q,m];exact Qj I (by rw[e];exact True.intro) B he (qa4 C D (f.put k O) j)
 ·subst G J;cases (show u=Value.ref b from N);obtain⟨z,D,xs,f,L⟩:=qa3 I.hok e;have n:xs.length<=sizeLine:=by rw[<- Paired.length f];exact z
  have C:(putK i k v).length<=sizeLine:=by have:=Qi i k v;lia
  refine wpAny_setItem_heap (hsz:=n) (qxJ hu) (xH I.hok Y) L λT j B=>h _ ?_;obtain⟨q,es,ep,m,h2,h3,h4,_,h5⟩:=j;refine Qj I (by rw[e];exact True.intro) B #[q,m] #[C,D,_,(f.put k Y O).keeps λc ys U=>?_,q,es,ep,m,h2,h3,h4,h5];rw[aN (g_ U e (λz=>nomatch z))];exact U
end
def qa5(i:zp):Prop:=∀a c,subscripted i false a c=operate [a,c] (getItem a c)
def qlF{prog:J9}{w:zX}{A:zY}{E:QAB}{s:Zw}{n:Env}{c a:zp}{pos:Pos}{T id:String}{Q:QAB}(B:typeLookup (.type T) "__getitem__" = pure (some (.builtin id)))(z:qa5 a)(h:wpAny (model prog w) A (eval c n) (λo l=>wpAny (model prog w) A (eval a n) (λi e=>e.TypeIs o T/\wpAny (model prog w) A (getItem o i) Q E e) E l) E s):
  wpAny (model prog w) A (eval (.Subscript c a pos) n) Q E s:=by
 refine Subscript_ (qwu h (λo l v=>qwu v (λi e f=>?_) λ_ _ x=>x) λ_ _ x=>x);obtain⟨y,f⟩:=f;unfold subscriptTail;refine qvT ?_;rw[getitemInPython_of_ne y.not_modules];refine qvT (wpAny_specialOf y B ?_);have m:wpAny (model prog w) A (subscripted a false o i) (λr j=>wpAny (model prog w) A (letTemporaryGo c o r >>= λ_=>pure r) Q E j) E e:=by
  rw[z o i];exact wpAny_operating (qwu f (λr j u=>qvT (wpAny_letTemporaryGo (qvW u))) λ_ _ x=>x)
 first
  |exact qvW (qvT m)
  |exact qvT (qvW (qvT m))
  |exact qvT m
def qlG{X:Cx}{h:QAC}{σ:St}{H:Hp}{s:Zw}{a:Qv}{y:V}{o:Option V}(I:Inv X h σ H s)(g:fK H a y o):s.TypeIs (.ref a) "dict" :=by
 rcases g with⟨c,k,e,_,_⟩|⟨c,k,b,e,_,_,_⟩
 ·obtain⟨_,_,j,_,f⟩:=pH I.hok e;exact f.typeIs
 ·obtain⟨_,_,i,_,f⟩:=tY I.hok e;exact f.typeIs
@[simp] def qa6(f ty:TE):TE:=λc H Q=>f c H λx h=>ty c h λy e=>∃a v,x = .ref a/\fK e a y (some v)/\Q v e
@[simp] def qa7(ty f:TE):TE:=λc H Q=>ty c H λy h=>f c h λx e=>∃a o,x = .ref a/\fK e a y o/\Q (.bl o.isSome) e
@[simp] def qa8(ty f:TE):TE:=λc H Q=>ty c H λy h=>f c h λx e=>∃a o,x = .ref a/\fK e a y o/\Q (.bl (!o.isSome)) e
@[simp] def qa9(h ty f:TE):TS:=λD c H=>f c H λv l=>h c l λx j=>ty c j λy i=>∃a e,x = .ref a/\xJ i a y v e/\D.nx c e
def qa_(C:X.A.units+1<cLine)(E:PE X o l)(G:PE X i ty)(D:qa5 i):PE X (.Subscript o i pos) (qa6 l ty):=by
 intro f s e H Q I h;refine qlF PySem.F.slot_dict_getitem.lookup D (aD (E f s e H _ I h) λu m c=>?_);obtain⟨x,N,L,r,z⟩:=c;refine aD (G f m e N _ L z) λU T c=>?_;obtain⟨y,M,j,n,a,v,ex,g,w⟩:=c;subst ex;obtain rfl:u=Value.ref a:=r;exact#[qlG j g,qlB C j g n λw' O J B=>#[v,M,J,B,w]]
def qba(z:X.A.units+1<cLine)(C:PE X i ty)(B:PE X o j):PC X .In i o (qa7 ty j):=by
 intro f s e H Q I h;refine aD (C f s e H _ I h) λO l c=>?_;obtain⟨y,L,G,m,v⟩:=c;refine aD (B f l e L _ G v) λu N c=>?_;obtain⟨x,J,E,n,a,w,ex,g,r⟩:=c;subst ex;obtain rfl:u=Value.ref a:=n;exact qlC z E g m λM D=>#[.bl w.isSome,J,D,rfl,r]
def qlH(z:X.A.units+1<cLine)(C:PE X i ty)(B:PE X o j):PC X .NotIn i o (qa8 ty j):=by
 intro f s e H Q I h;refine aD (C f s e H _ I h) λO l c=>?_;obtain⟨y,L,G,m,v⟩:=c;refine aD (B f l e L _ G v) λu N c=>?_;obtain⟨x,J,E,n,a,w,ex,g,r⟩:=c;subst ex;obtain rfl:u=Value.ref a:=n;exact qlD z E g m λM D=>#[.bl (!w.isSome),J,D,rfl,r]
def qlI(N:X.A.units+1<cLine)(Q:PE X o n)(T:PE X i ty)(M:PE X c m)(O:swapsWith c (some (.Subscript o i f)) pos.line X.env=pure false):
  PS X (.Assign [.Subscript o i f] c pos) (qa9 n ty m):=by
 intro l s j H D I h;refine wpAny_Assign_Subscript (aD (M l s j H _ I h) λr z e=>?_) O;obtain⟨v,H1,I1,E,L⟩:=e;refine aD (Q l z j H1 _ I1 L) λu w e=>?_;obtain⟨x,H2,I2,C,J⟩:=e;refine aD (T l w j H2 _ I2 J) λiv s3 e=>?_;obtain⟨y,H3,Y,B,a,H4,ex,g,G⟩:=e;subst ex;obtain rfl:u=Value.ref a:=C;exact qlE N Y g B E λs4 U=>#[j,H4,U,G]
def qbb(h:zf)(a:sysModules<h.objs.size):b_ P w H (h.push {cls:=.type "dict",data:=.dict #[]}) h.objs.size (.dK []):=
 #[qwF _,qxA.mpr (qxt (qwk a)),[],.nil,Heap.DictOf.new h]
@[simp] def qbc:TE:=λ_ H Q=>∀p,H p=none->Q (.ref p) (upd H p (.dK []))
def Qk:PE X (.Dict [] [] pos) qbc:=λe s c H Q I h=>
 wpAny_Dict_empty #[.ref s.heap.objs.size,_,I.laid (a:=s.heap.objs.size) (o:=.dK []) (t':=s.toks) (λ_ _ q=>qvV _ q) (qvY _) (qbb s.heap I.big),rfl,h _ (I.hok.fresh (qvY _))]
def z8:List (TE×TE)->St->Hp->(List (V×V)->Hp->Prop)->Prop
 |[],_,H,Q=>Q [] H
 |(e,c)::r,a,H,Q=>e a H λx j=>c a j λy i=>z8 r a i λf h=>Q ((x,y)::f) h
abbrev VV:List (V×V)->List (Value×Value)->Prop:=Paired λp q=>RelV p.1 q.1/\RelV p.2 q.2
def HN(X:Cx)(pos:Pos)(c:List (Option Expr))(a:qy)(m:List (TE×TE)):Prop:=
 ∀(h:QAC)(s:Zw)(e:St)(H:Hp)(Q:List (V×V)->Hp->Prop),Inv X h e H s->z8 m e H Q->
  wX X (evalPairs (pairTrees c a X.env pos)) (λj l=>∃f i,Inv X h e i l/\VV f j/\Q f i) X.xe s
def qbd:HN X pos [] [] []:=λc s a H Q I h=>pairTrees_nil_walk #[[],H,I,.nil,h]
def qbe(C:PE X k tk)(A:PE X v f)(B:HN X pos ks vs n):
  HN X pos (some k::ks) (v::vs) ((tk,f)::n):=λe s a H Q I h=>
 pairTrees_cons_walk (aD (C e s a H _ I h) λu j ⟨x,M,G,m,w⟩=>aD (A e j a M _ G w) λO i ⟨y,L,E,l,r⟩=>
  aD (B e i a L _ E r) λN T ⟨z,J,D,c,o⟩=>#[(x,y)::z,J,D,.cons #[m,l] c,o])
def z_(kvs a:List (Key×V)):List (Key×V):=a.foldl (λc e=>putK c e.1 e.2) kvs
def KV.merge:∀{a:List (Key×V)}{c:List (Key×Value)}{kvs:List (Key×V)}{vs:List (Key×Value)},KV a c->KV kvs vs->KV (z_ kvs a) (merged vs c):=by
 intro a c kvs vs r;unfold KV at r
 induction r generalizing kvs vs with
 |nil=>intro q;exact q
 | @cons p q j i h t ih=>
  intro f;have e:KV (putK kvs p.1 p.2) (stored vs q.1 q.2):=by
   have:=f.put p.1 h.2;rw[<- h.1];exact this
  exact ih e
theorem qbf:∀(a kvs:List (Key×V)),(z_ kvs a).length<=kvs.length+a.length
 |[],kvs=>by show kvs.length<=kvs.length+0;lia
 |p::r,kvs=>by
  have e:=qbf r (putK kvs p.1 p.2);have c:=Qi kvs p.1 p.2;show(z_ (putK kvs p.1 p.2) r).length<=_;rw[qwj];lia
theorem qbg:∀{kvs:List (Key×V)}{f:List (Value×Value)},VV (kvs.map λi=>(kV i.1,i.2)) f->∃e,Carries (cU P w) f e/\KV kvs e
 |[],_,r=>by rw[qx7] at r;cases r;exact#[[],True.intro,.nil]
 |p::kvs,_,r=>by
  rw[qwd] at r;cases r with
  | @cons a b j bs h t=>
   obtain⟨e,c,q⟩:=qbg (P:=P) (w:=w) t;obtain⟨b1,b2⟩:=b;exact#[(p.1,b2)::e,#[tX h.1,rfl,c],.cons #[rfl,h.2] q]
@[simp] def qbh(h:List (TE×TE)):TE:=λf H Q=>∀p,H p=none->z8 h f (upd H p (.dK [])) λi e=>e p=some (.dK [])/\∃a:List (Key×V),i=a.map (λc=>(kV c.1,c.2))/\a.length<=15/\Q (.ref p) (upd e p (.dK (z_ [] a)))
def qbi(h:HN X pos f i E)(l:f.all (·.isSome)=true)(T:f.length=i.length)(h0:f≠[])(n:f.length<=15):PE X (.Dict f i pos) (qbh E):=by
 intro J s v H Q I q;have O:=I.hok.fresh (qvY s.heap.objs.size);have I1:=I.laid (a:=s.heap.objs.size) (o:=.dK []) (h':=s.heap.push {cls:=.type "dict",data:=.dict #[]}) (t':=s.toks) (λ_ _ q=>qvV _ q) (qvY _) (qbb s.heap I.big);refine wpAny_Dict_walk (knd:=cU X.prog X.w) l T h0 n (aD (h J _ v _ _ I1 (q _ O)) λws s2 y=>?_);obtain⟨ps,H2,u,m,e,j,ep,lk,G⟩:=y;subst ep;obtain⟨B,c,C⟩:=qbg (P:=X.prog) (w:=X.w) m;obtain⟨z,Y,A,D,dd⟩:=xG u.hok e;cases D;refine#[B,c,dd,λh' r M=>#[.ref s.heap.objs.size,_,?_,rfl,G]];have L:(z_ [] j).length<=sizeLine:=by
  have h1:=qbf j [];rw[List.length_nil] at h1;rw[sizeLine_eq];lia
 have U:∃q,h'.get? s.heap.objs.size=some q:=let ⟨q,_,_,N,_⟩:=r;#[q,N];exact Qj u (by rw[e];exact True.intro) M U (qa4 L Y (C.merge .nil) r)
structure M1(X:Cx)(o:zp)(m:Str)(apos:Pos)(e:zp)(cpos:Pos):Prop where
 base:attributeBase o m X.env (eval o X.env)=eval o X.env
 few:((backTo cpos (starEach [e] X.env)).all (λx=>!x.1) && (backToKw cpos (keywordEach [] X.env)).all (λx=>x.1.isSome)
  && decide (([e]:List Expr).length+([]:List Keyword).length+(if ([]:List Keyword).isEmpty then 0 else 1)<30))=true
 line:(apos.endLine == cpos.line)=true
 trees:backTo cpos (starEach [e] X.env)=[(false,eval e X.env)]
structure M2(X:Cx)(o:zp)(m:Str)(apos:Pos)(e f:zp)(cpos:Pos):Prop where
 base:attributeBase o m X.env (eval o X.env)=eval o X.env
 few:((backTo cpos (starEach [e,f] X.env)).all (λx=>!x.1) && (backToKw cpos (keywordEach [] X.env)).all (λx=>x.1.isSome)
  && decide (([e,f]:List Expr).length+([]:List Keyword).length+(if ([]:List Keyword).isEmpty then 0 else 1)<30))=true
 line:(apos.endLine == cpos.line)=true
 trees:backTo cpos (starEach [e,f] X.env)=[(false,eval e X.env),(false,eval f X.env)]
def Aa(H:Hp)(a:Qv):Prop:=(∃c,Rd H a (.dK c))\/∃c,Rd H a (.dT c)
def qbj{X:Cx}{m:QAC}{σ:St}{H:Hp}{s:Zw}{a:Qv}(I:Inv X m σ H s)(d:Aa H a):
  s.TypeIs (.ref a) "dict" /\(∀b,Value.ref a = .ref b->∃c,s.heap.get? b=some c/\c.dict=none)/\(a == sysModules)=false:=by
 rcases d with⟨h,e⟩|⟨h,e⟩
 ·obtain⟨_,i,o,_,f⟩:=pH I.hok e;refine#[f.typeIs,λb q=>?_,i];cases q;obtain⟨c,_,_,l,j,_⟩:=f;exact#[c,l,j.2.1]
 ·obtain⟨_,i,n,_,f⟩:=tY I.hok e;refine#[f.typeIs,λb q=>?_,i];cases q;obtain⟨c,_,_,l,j,_⟩:=f;exact#[c,l,j.2.1]
section
variable {X:Cx}{p_:QAC}{σ:St}{H:Hp}{s:Zw}{a:Qv}{y d:V}{u r:zT}{o:Option V}{A:zY}{E:QAB}
def qlJ{Q:QAB}(C:A.units+1<cLine)(I:Inv X p_ σ H s)(g:fK H a y o)(v:RelV y u)(h:∀w' n,Inv X p_ σ H n->RelV (o.getD .non) w'->Q w' n):
  wpAny (model X.prog X.w) A (call (.builtin "dict.get") [.ref a,u]) Q E s:=by
 rcases g with⟨i,k,e,m,l⟩|⟨i,k,b,e,m,D,l⟩
 ·subst m;obtain⟨z,j,G,c,f⟩:=pH I.hok e;refine call_meetsIn qxl f.typeIs qx9 (PySem.F.args_dict_get_2 _ _) (meets_dict_get (cU X.prog X.w) a (tX v) j) #[_,f.mapOf,h _ _ (I.tok _) ?_];rw[l];exact(c.val k).getD rfl
 ·subst m;cases (show u=Value.ref b from v);obtain⟨z,j,B,c,f⟩:=tY I.hok e;refine call_meetsIn qxl f.typeIs qx9 (PySem.F.args_dict_get_2 _ _) (meetsH_dict_get (tupleKind (cU X.prog X.w)) a b j) #[qxJ C,k,B,xH I.hok D,f,h _ _ (I.tok _) ?_];rw[l];exact(c.val k).getD rfl
def qlK{Q:QAB}(D:A.units+1<cLine)(I:Inv X p_ σ H s)(g:fK H a y o)(v:RelV y u)(B:RelV d r)(h:∀w' n,Inv X p_ σ H n->RelV (o.getD d) w'->Q w' n):
  wpAny (model X.prog X.w) A (call (.builtin "dict.get") [.ref a,u,r]) Q E s:=by
 rcases g with⟨i,k,e,m,l⟩|⟨i,k,b,e,m,G,l⟩
 ·subst m;obtain⟨z,j,J,c,f⟩:=pH I.hok e;refine call_meetsIn qxl f.typeIs qx9 (PySem.F.args_dict_get_3 _ _ _) (meets_dict_get_default (cU X.prog X.w) a (tX v) j r) #[_,f.mapOf,h _ _ (I.tok _) ?_];rw[l];exact(c.val k).getD B
 ·subst m;cases (show u=Value.ref b from v);obtain⟨z,j,C,c,f⟩:=tY I.hok e;refine call_meetsIn qxl f.typeIs qx9 (PySem.F.args_dict_get_3 _ _ _) (meetsH_dict_get_default (tupleKind (cU X.prog X.w)) a b j r) #[qxJ D,k,C,xH I.hok G,f,h _ _ (I.tok _) ?_];rw[l];exact(c.val k).getD B
end
@[simp] def qbk(h ty:TE):TE:=λc H Q=>h c H λx f=>∃a,x = .ref a/\Aa f a/\ty c f λy e=>∃o,fK e a y o/\Q (o.getD .non) e
@[simp] def qbl(i ty h:TE):TE:=λc H Q=>i c H λx f=>∃a,x = .ref a/\Aa f a/\ty c f λy j=>h c j λz e=>∃o,fK e a y o/\Q (o.getD z) e
def Ql(J:X.A.units+1<cLine)(L:PE X o r)(M:PE X e ty)(m:M1 X o "get" f e c):PE X (.Call (.Attribute o "get" f) [e] [] c) (qbk r ty):=by
 intro l s j H Q I h;refine wpAny_Call_method m.base m.few m.line PySem.F.plainAttrs_dict qxl PySem.F.type_dict_get (aD (L l s j H _ I h) λu z i=>?_);obtain⟨x,U,n,C,a,ex,d,E⟩:=i;subst ex;obtain rfl:u=Value.ref a:=C;obtain⟨w,v,_⟩:=qbj n d;refine#[w,v,?_];rw[m.trees];refine qx5 rfl (qyn (qxH (aD (M l z j U _ n E) λiv s2 i=>?_)));obtain⟨y,T,O,B,ov,g,D⟩:=i;refine qyi ?_;exact qlJ J O g B λw' Y N G=>#[_,T,N,G,D]
def qbm(U:X.A.units+1<cLine)(Y:PE X o w)(he:PE X e ty)(hf:PE X f v)(m:M2 X o "get" i e f c):PE X (.Call (.Attribute o "get" i) [e,f] [] c) (qbl w ty v):=by
 intro l s j H Q I h;refine wpAny_Call_method m.base m.few m.line PySem.F.plainAttrs_dict qxl PySem.F.type_dict_get (aD (Y l s j H _ I h) λu E r=>?_);obtain⟨x,H1,n,L,a,ex,d,O⟩:=r;subst ex;obtain rfl:u=Value.ref a:=L;obtain⟨C,B,_⟩:=qbj n d;refine#[C,B,?_];rw[m.trees];refine qx5 rfl (qyn (qxH (aD (he l E j H1 _ n O) λiv D ⟨y,H2,I2,J,N⟩=>
  qxH (aD (hf l D j H2 _ I2 N) λfv s3 ⟨z,H3,I3,G,ov,g,M⟩=>qyi ?_))))
 exact qlK U I3 g J G λw' s4 I4 T=>#[_,H3,I4,T,M]
structure Nm2(mg:Zu):Prop where
 enumerate:mg "enumerate" = none
 any:mg "any" = none
 dict:mg "dict" = none
 sorted:mg "sorted" = none
 repr:mg "repr" = none
 bool:mg "bool" = none
def Ite(K:W5)(a:Qv):It:=
 #[λi H=>∃c x,au K H a c/\c[i]? = some x,
  λi H v e=>∃t x,v = .ref t/\H t=none/\e=upd H t (.tup [.int i,x])/\∀c,au K H a c->c[i]? = some x,
  λi H=>∃c,au K H a c/\c.length<=i]
structure Qm(e it a:Qv)(i:Nat)(h:zf):Prop where
 he:∃old,IsEnum h e it i old
 hi:h.IsListIter it a i
def qlL{Y:Cx->Prop}{m:Nat->Hp->Prop}{P:J9}{w:zX}{K:W5}{es:qy}{k:Nat}{pos:Pos}{e it a:Qv}(Q:e≠it)(hd:∀(X:Cx),X.K=K->Y X->∀(i:Nat)(f:QAC)(s:Zw)(σ:St)(H:Hp)(E:QAB),Inv X f σ H s->(∀c∈[e,it],dj X f H c)->Qm e it a i s.heap->m i H->wX X (pyNext (.ref e)) (λr s1=>r=none/\Inv X f σ H s1) E s):
  qR Y P w K (.Tuple es k pos) #[(Ite K a).go,(Ite K a).jf,m] [e,it] e (Qm e it a) where
 mem:=by simp
 obj:=λi h st c l=>by
  simp only[qv0,qwn,qw2] at l
  rcases l with rfl|rfl
  ·obtain⟨old,q⟩:=st.he;exact#[_,q,λv e=>nomatch e]
  ·obtain⟨o,e,_,d⟩:=st.hi;exact#[o,e,λv y=>by rw[d] at y;cases y]
 keep:=λi h h' st n=>by
  obtain⟨old,q⟩:=st.he;exact#[#[old,n e (by simp) _ q],st.hi.at λo z=>n it (by simp) o z]
 item:=by
  intro X G hw J _ i f s σ H E I A st D;subst G hw J;obtain⟨xs,x,N,O⟩:=D;obtain⟨a0,rv,pl,aa⟩:=I.list N;obtain⟨u,hu,ru⟩:=rv.get O;obtain⟨old,L⟩:=st.he;obtain⟨o1,e1,c1,_⟩:=id st.hi;refine wpAny_pyNext_enum_item L st.hi pl.isList (x:=u) (by simpa using hu) Q λh' a1 a2 a3 a4 n=>?_;refine#[_,rfl,wpAny_letOwnedTupleGo_enum a1 λM b1 B=>?_];have lt:∀{c o},s.heap.get? c=some o->s.heap.objs.size≠c:=λe=>qw_ (qv2 e);have hn:H s.heap.objs.size=none:=I.hok.fresh (qvY _);have U:∀c o,c∉[e,it]->s.heap.get? c=some o->M.get? c=some o:=λc o l z=>by
   simp only[qv0,qwn,qw2,not_or] at l;exact(B.2 c l.1).trans (n c o l.1 l.2 z)
  have I1:Inv X f σ H {s with heap:=M,toks:=s.toks+1}:=I.tV U A;have qT:=B.extBut _ _ (lt L) a3;have I2:Inv X f σ (upd H s.heap.objs.size (.tup [.int i,x])) {s with heap:=M,toks:=s.toks+1}:=I.PX I1 #[_,rfl] ru qT;refine#[.ref s.heap.objs.size,_,I2,rfl,#[s.heap.objs.size,x,rfl,hn,rfl,λT q'=>by rw[I.Dg q' N];exact O],?_,λc j=>?_]
  ·exact#[#[_,b1],a2.extBut B.extBut Q.symm]
  ·have C:c≠s.heap.objs.size:=by
    simp only[qv0,qwn,qw2] at j
    rcases j with rfl|rfl
    ·exact(lt L).symm
    ·exact(lt e1).symm
   rw[aN C];exact(A c j).1
 done:=by
  intro X G hw J hY i f s σ H E I A st D;subst G hw;exact hd X J hY i f s σ H E I A st D
 self:=λ_ _ _ _ _ st h=>by
  obtain⟨old,q⟩:=st.he;exact wpAny_pyIter_enum q h
def qlM{P:J9}{w:zX}{K:W5}{C:qy}{k:Nat}{pos:Pos}{e it a:Qv}(D:e≠it):
  Turn P w K (.Tuple C k pos) (Ite K a) [e,it] e (Qm e it a):=by
 refine qR.t (qlL D ?_);intro X A y i L s G H E I v st u;subst A;obtain⟨J,j,N⟩:=u;obtain⟨n,h,l,r⟩:=I.list j;obtain⟨old,B⟩:=st.he;have M:=h.length;refine wpAny_pyNext_enum_end (I.ok.hd y) B st.hi l.isList (by simp;lia) λO m=>#[rfl,I.tV (t':=s.toks) (λc o f z=>?_) v];simp only[qv0,qwn,qw2,not_or] at f;exact m c o f.2 z
section
variable {X:Cx}{K:W5}
@[simp] def qbn(K:W5)(t:TA):TI:=λe H R=>t e H λh c=>∃a f,h=[.ref a]/\au K c a f/\R (Ite K a) c
def Qn:bootBuiltins "enumerate" = some (.type "enumerate"):=by decide+kernel
def Qo(T:X.K=K)(O:Gl X "enumerate")(N:X.mg "enumerate" = none)(Q:PA X [a] z)(M:starEach [a] X.env=[(false,eval a X.env)]:=by rfl):
  PI X (.Tuple es k m) (.Call (.Name "enumerate" p) [a] [] pos) (qbn K z):=by
 subst T;intro n s l H R I h;refine Call_ (lB I O N Qn (qwB (aD (Q pos n s l H _ I h) λus f y=>?_) (by rw[M];rfl) (by rfl)));obtain⟨vs,w,j,A,C⟩:=y;obtain⟨E,Y,e,B,q⟩:=C;subst e;obtain⟨u,rfl,r⟩:=vals1 A;obtain rfl:u=Value.ref E:=r;obtain⟨J,rv,D,L⟩:=j.list B;refine call_enumerate_list D.isList λv b1 b2 b3 G=>?_;refine wpAny_pyIter_enum (s:={f with heap:=v}) b1 ?_;have U:Inv X n l w {f with heap:=v}:=j.kept (t':=f.toks) G;refine#[f.heap.objs.size+1,[f.heap.objs.size+1,f.heap.objs.size],_,_,w,rfl,U,qlM (Nat.succ_ne_self _),#[#[_,b1],b2],λc o=>?_,q];have i:f.heap.objs.size<=c:=by
  simp only[qv0,qwn,qw2] at o
  rcases o with rfl|rfl <;> first|exact qxE _ _|exact qvY _
 exact j.lE i (j.hok.fresh i)
end
section
variable {X:Cx}{K:W5}{tg:zp}
def qlN(m:X.K=K){n:qy}{k:Nat}{c:Pos}{a b:zp}{f:TA}{p pos:Pos}(j:Gl X "zip")(i:X.mg "zip" = none)(l:PA X [a,b] f)(h:starEach [a,b] X.env=[(false,eval a X.env),(false,eval b X.env)]:=by rfl)(e:starEach [b] X.env=[(false,eval b X.env)]:=by rfl):
  PI X (.Tuple n k c) (.Call (.Name "zip" p) [a,b] [] pos) (P_ K f):=by subst m;exact qkU j i l h e
def qlO(u:X.K=K){o:zp}{j:TE}{name:Str}{c a:Pos}{T id:String}{r:yV}(l:PlainAttrs T)(h:Slot T name id)(i:typeOf (.builtin id)=pure (.type "method_descriptor"))(n:gO X id r)(m:PE X o j)(f:attributeBase o name X.env (eval o X.env)=eval o X.env:=by rfl)(e:(c.endLine == a.line)=true:=by rfl):PE X (.Call (.Attribute o name c) [] [] a) (Pq K T r j):=by subst u;exact qkC l h i n m f e
def qbo(m:X.K=K)(l:PE X o h)(i:PE X a e)(j:swapsWith a (some (.Attribute o f c)) pos.line X.env=pure false):PS X (.Assign [.Attribute o f c] a pos) (qae K h e f):=by subst m;exact qkb l i j
end
structure qlP(Q:VK) where
 n:Nat
structure Qp(g:TG)(tb:TS)(D:Ends) where
 n:Nat
structure qbp(c:TT)(tb:TS)(D:Ends) where
 n:Nat
structure HS(g:TG)(tt:TT)(te:TE)(Q:Hp->Prop) where
 n:Nat
structure xK(A B:Prop) where
 n:Nat
def n_(sp:Sp)(vs:kE)(H:Hp)(Q:VK)(d:qlP Q)(E:XK):Prop:=sp vs H Q E
def xM(J:It)(g:TG)(tb:TS)(D:Ends)(d:Qp g tb D)(σ:St)(H:Hp):Prop:=qlx J g tb D σ H
def tWh(c:TT)(tb:TS)(D:Ends)(d:qbp c tb D)(σ:St)(H:Hp):Prop:=Dh c tb D σ H
def tZ(c:QAH)(a:qw)(J:It)(g:TG)(e:TT)(f:TE)(Q:Hp->Prop)(d:HS g e f Q)(D:Qv)(σ:St)(H:Hp):Prop:=qQ c a J g e f D σ H Q
def aM(b:Bool)(A B:Prop)(d:xK A B):Prop:=if b=true then A else B
@[simp] theorem qtJ(A B:Prop)(d:xK A B):aM true A B d=A:=rfl
@[simp] theorem qtK(A B:Prop)(d:xK A B):aM false A B d=B:=rfl
def aM.of(c:b=true->A)(a:b=false->B):aM b A B d:=by
 cases b with
 |true=>exact c rfl
 |false=>exact a rfl
def aM.pos(h:b=true)(a:A):aM b A B d:=by subst h;exact a
def aM.neg(h:b=false)(a:B):aM b A B d:=by subst h;exact a
@[simp ↓] theorem qtL(sp:Sp)(a:kE)(E:XK)(t:TA)(σ:St)(H:Hp)(Q:VK):O_ sp a E t σ H Q=t σ H λvs c=>n_ sp (vs++a) c Q #[0] E:=rfl
@[simp ↓] theorem qtM(C:Qv)(m:Str)(sp:Sp)(e:kE)(E:XK)(c:TE)(t:TA)(σ:St)(H:Hp)(Q:VK):Pa C m sp e E c t σ H Q=c σ H λx f=>∃a h fs,x = .ref a/\f a=some (.ins C h fs)/\fs.lookup m=none/\t σ f λvs i=>n_ sp (x::(vs++e)) i Q #[0] E:=rfl
@[simp ↓] theorem qtN(C:Qv)(sp:Sp)(e:kE)(E:XK)(t:TA)(σ:St)(H:Hp)(Q:VK):Pb C sp e E t σ H Q=t σ H λvs c=>∀x a,c x=none->c a=none->a≠x->
 n_ sp (.ref x::(vs++e)) (upd (upd c a (.own x)) x (.ins C a [])) (λv f=>v = .non/\Q (.ref x) f) #[0] E:=rfl
@[simp ↓] theorem qtO(a:TI)(g:TG)(tb:TS)(D:Ends)(σ:St)(H:Hp):O4 a g tb D σ H=a σ H λJ c=>xM J g tb D #[0] σ c:=rfl
@[simp ↓] theorem qtP(c:TT)(tb:TS)(D:Ends)(σ:St)(H:Hp):Dh c tb D σ H=tWh c tb D #[0] σ H:=rfl
@[simp ↓] theorem qtQ(c:QAH)(a:qw)(e:TI)(g:TG)(f:TT)(h:TE)(σ:St)(H:Hp)(Q:VK):Du c a e g f h σ H Q=e σ H λJ i=>∀D,i D=none->tZ c a J g f h (Q (.ref D)) #[0] D σ (upd i D (.lst [])):=rfl
@[simp ↓] theorem qtR(c:TT)(t u:TS)(D:Ends)(σ:St)(H:Hp):tK c t u D σ H=c σ H λb a=>aM b (t D σ a) (u D σ a) #[0]:=rfl
@[simp ↓] theorem qtS(c:TT)(t u:TE)(σ:St)(H:Hp)(Q:VK):ZF c t u σ H Q=c σ H λb a=>aM b (t σ a Q) (u σ a Q) #[0]:=rfl
@[simp ↓] theorem qtT(t u:TT)(σ:St)(H:Hp)(Q:Bool->Hp->Prop):ZC t u σ H Q=t σ H λc a=>aM c (u σ a Q) (Q false a) #[0]:=rfl
@[simp ↓] theorem qtU(t u:TT)(σ:St)(H:Hp)(Q:Bool->Hp->Prop):Df t u σ H Q=t σ H λc a=>aM c (Q true a) (u σ a Q) #[0]:=rfl
@[simp ↓] theorem qtV(a tb:TE)(σ:St)(H:Hp)(Q:VK):Ox a tb σ H Q=a σ H λx e=>∃c,x = .bl c/\aM c (tb σ e Q) (Q (.bl false) e) #[0]:=rfl
@[simp ↓] theorem qtW(r e:R2)(c tb a:TE)(σ:St)(H:Hp)(Q:VK):Hq r e c tb a σ H Q=c σ H λx j=>tb σ j λy i=>r x y i λz f=>∃k,z = .bl k/\aM k (a σ f λz h=>e y z h Q) (Q (.bl false) f) #[0]:=rfl
def t_(g:TG)(h:TT)(i:TE)(D:Qv)(N:yh)(x:V)(σ:St)(H:Hp):Prop:=
 g x σ H λa j=>h a j λb f=>aM b (i a f λy e=>∃c,e D=some (.lst c)/\c.length<sizeLine/\N a (upd e D (.lst (c++[y])))) (N a f) #[0]
@[simp ↓] theorem qtX(g:TG)(c:TT)(e:TE)(D:Qv)(N:yh)(x:V)(σ:St)(H:Hp):t_ g c e D N x σ H =
 (g x σ H λa i=>c a i λb h=>aM b (e a h λy f=>∃ys,f D=some (.lst ys)/\ys.length<sizeLine/\N a (upd f D (.lst (ys++[y])))) (N a h) #[0]):=rfl
@[simp ↓] theorem qtY{c:Type}(a b:c)(R:c->c->Prop):(∃v w,[a,b]=[v,w]/\R v w)=R a b:=by
 refine propext #[?_,λh=>#[a,b,rfl,h]];rintro⟨_,_,e,h⟩;cases e;exact h
@[simp] theorem qtZ{c β:Type}(a:c)(b:β)(R:c->β->Prop):(∃v w,(a=v/\b=w)/\R v w)=R a b:=by
 refine propext #[?_,λh=>#[a,b,#[rfl,rfl],h]];rintro⟨_,_,⟨rfl,rfl⟩,h⟩;exact h
@[simp] theorem sz0:(0<=sizeLine)=True:=qxv (by decide)
@[simp] theorem sz1:(1<=sizeLine)=True:=qxv (by decide)
@[simp] theorem Qq:(2<=sizeLine)=True:=qxv (by decide)
@[simp] theorem sz3:(3<=sizeLine)=True:=qxv (by decide)
@[simp] theorem sz4:(4<=sizeLine)=True:=qxv (by decide)
@[simp] theorem sz5:(5<=sizeLine)=True:=qxv (by decide)
@[simp] theorem sz6:(6<=sizeLine)=True:=qxv (by decide)
@[simp] theorem sz7:(7<=sizeLine)=True:=qxv (by decide)
@[simp] theorem sz8:(8<=sizeLine)=True:=qxv (by decide)
@[simp] theorem sz9:(9<=sizeLine)=True:=qxv (by decide)
@[simp] theorem qt0:(10<=sizeLine)=True:=qxv (by decide)
@[simp] theorem qt1:(11<=sizeLine)=True:=qxv (by decide)
@[simp] theorem qt2:(12<=sizeLine)=True:=qxv (by decide)
@[simp] theorem qt3:(13<=sizeLine)=True:=qxv (by decide)
@[simp] theorem qt4:(14<=sizeLine)=True:=qxv (by decide)
@[simp] theorem qt5:(15<=sizeLine)=True:=qxv (by decide)
@[simp] theorem qt6:(16<=sizeLine)=True:=qxv (by decide)
@[simp] theorem qt7:(17<=sizeLine)=True:=qxv (by decide)
@[simp] theorem qt8:(18<=sizeLine)=True:=qxv (by decide)
@[simp] theorem qt9:(19<=sizeLine)=True:=qxv (by decide)
@[simp] theorem lK:(20<=sizeLine)=True:=qxv (by decide)
@[simp] theorem qt_(i j:Int):mH (.int i) (.int j)=true:=rfl
@[simp] theorem qub(i j:Str):mH (.str i) (.str j)=true:=rfl
@[simp] theorem quc(i j:Bool):mH (.bl i) (.bl j)=true:=rfl
@[simp] theorem qud(i:Int)(j:Str):mH (.int i) (.str j)=true:=rfl
@[simp] theorem que(i:Int)(j:Str):mH (.str j) (.int i)=true:=rfl
@[simp] theorem quf(K:W5)(p:Qv)(H:Hp):xq K "list" (.ref p) H=(∃xs,au K H p xs):=by simp[xq]
@[simp] theorem qug(K:W5)(p:Str)(H:Hp):xq K "str" (.str p) H=True:=by simp[xq]
section
variable {K:W5}{l:Qv}{xs:kE}{g:TG}{tb:TS}{D:Ends}{d:Qp g tb D}{σ:St}{H:Hp}
def lM(xs:kE)(Pv:yO)(h:Pv 0 σ H)(e:∀i σ H,i<=xs.length->Pv i σ H->au K H l xs)(c:∀i x σ H,xs[i]? = some x->Pv i σ H->g x σ H λa j=>tb {D with nx:=Pv (i+1),ct:=Pv (i+1),bk:=D.nx} a j)(f:∀σ H,Pv xs.length σ H->D.nx σ H):xM (lF K l) g tb D d σ H:=qjA Pv h e c f
def frT(xs:kE)(Pv:yO)(h:Pv 0 σ H)(e:∀i σ H,i<=xs.length->Pv i σ H->aQ K H l xs)(c:∀i x σ H,xs[i]? = some x->Pv i σ H->g x σ H λa j=>tb {D with nx:=Pv (i+1),ct:=Pv (i+1),bk:=D.nx} a j)(f:∀σ H,Pv xs.length σ H->D.nx σ H):xM (tM K l) g tb D d σ H:=qjB Pv h e c f
def Qs{lo:Int}{n:Nat}(Pv:yO)(f:Pv 0 σ H)(c:∀i σ H,i<n->Pv i σ H->g (.int (lo+i)) σ H λa h=>tb {D with nx:=Pv (i+1),ct:=Pv (i+1),bk:=D.nx} a h)(e:∀σ H,Pv n σ H->D.nx σ H):xM (mG lo n) g tb D d σ H:=qjC Pv f c e
end
section
variable {K:W5}{own:QAH}{caps:qw}{g:TG}{tt:TT}{te:TE}{D l l1 l2:Qv}{σ:St}{H:Hp}{Q:Hp->Prop}{d:HS g tt te Q}
def h_(xs:kE)(Pv:yO)(f:Pv 0 (stC own caps σ) H)(c:∀i σ H,i<=xs.length->Pv i σ H->au K H l xs)(a:∀i x σ H,xs[i]? = some x->Pv i σ H->t_ g tt te D (Pv (i+1)) x σ H)(e:∀σ H,Pv xs.length σ H->Q H):tZ own caps (lF K l) g tt te Q d D σ H:=qaV Pv f c a e
def uc(xs:kE)(Pv:yO)(f:Pv 0 (stC own caps σ) H)(c:∀i σ H,i<=xs.length->Pv i σ H->ji b K H l xs)(a:∀i x σ H,xs[i]? = some x->Pv i σ H->t_ g tt te D (Pv (i+1)) x σ H)(e:∀σ H,Pv xs.length σ H->Q H):tZ own caps (HB b K l) g tt te Q d D σ H:=qlu Pv f c a e
def cmR{lo:Int}{n:Nat}(Pv:yO)(e:Pv 0 (stC own caps σ) H)(a:∀i σ H,i<n->Pv i σ H->t_ g tt te D (Pv (i+1)) (.int (lo+i)) σ H)(c:∀σ H,Pv n σ H->Q H):tZ own caps (mG lo n) g tt te Q d D σ H:=qlr Pv e a c
def cmS(Pv:yO)(f:Pv 0 (stC own caps σ) H)(a:∀i c σ H,z.cps[i]? = some c->Pv i σ H->t_ g tt te D (Pv (i+1)) (.str #[[c].toArray]) σ H)(e:∀σ H,Pv z.cps.size σ H->Q H):tZ own caps (Its z) g tt te Q d D σ H:=qls Pv f a e
def cmZ(xs ys:kE)(Pv:yO)(h:Pv 0 (stC own caps σ) H)(e:xs.length=ys.length)(c:∀i σ H,i<=xs.length->Pv i σ H->au K H l1 xs/\au K H l2 ys)(a:∀i x y t σ H,xs[i]? = some x->ys[i]? = some y->H t=none->Pv i σ H->t_ g tt te D (Pv (i+1)) (.ref t) σ (upd H t (.tup [x,y])))(f:∀σ H,Pv xs.length σ H->Q H):tZ own caps (pG K l1 l2) g tt te Q d D σ H:=qlt Pv h e c a f
end
def Qt{c:Bool}{t u:TS}{D:Ends}{σ:St}{H:Hp}{d:xK (t D σ H) (u D σ H)}(R:yh)(a:∀σ H,R σ H->D.nx σ H)(h:∀N:St->Hp->Prop,(∀σ H,R σ H->N σ H)->aM c (t {D with nx:=N} σ H) (u {D with nx:=N} σ H) #[0]):aM c (t D σ H) (u D σ H) d:=h D.nx a
def qbq{i β:Type}{f:i->β}{ys o:List β}(h:ys.Perm o):∀l:List i,o=l.map f->∃c:List i,c.Perm l/\ys=c.map f:=by
 induction h with
 |nil=>
  intro l e;cases l with
  |nil=>exact#[[],.nil,rfl]
  |cons a l=>cases e
 |cons x _ ih=>
  intro l e;cases l with
  |nil=>cases e
  |cons a l=>
   simp only[qwd,List.cons.injEq] at e;obtain⟨c,p,n⟩:=ih l e.2;exact#[a::c,p.cons a,by rw[n,e.1,qwd]]
 |swap x y _=>
  intro l e
  match l,e with
  |a::b::l,e=>
   simp only[qwd,List.cons.injEq] at e;exact#[b::a::l,.swap ..,by rw[e.1,e.2.1,e.2.2];rfl]
 |trans _ _ m j=>
  intro l e;obtain⟨c,p,n⟩:=j l e;obtain⟨u,r,v⟩:=m c n;exact#[u,r.trans p,v]
def qlQ{c:Type}{xs:List c}{k:Nat}(h:2<=xs.length)(f:k<xs.length):∃j x,j≠k/\xs[j]? = some x/\gM xs ((k:Int) - 1)=some x:=by
 cases k with
 |zero=>
  have a:xs.length - 1<xs.length:=∅
  refine#[xs.length - 1,xs[xs.length - 1],∅,by simp[a],?_];unfold gM pC;rw[if_neg ⋯,if_pos ⋯];have e:(((0:Nat):Int) - 1+xs.length).toNat=xs.length - 1:=⋯
  show xs[(((0:Nat):Int) - 1+xs.length).toNat]? = _;rw[e];simp[a]
 |succ k=>
  have a:k<xs.length:=⋯
  have e:((k+1:Nat):Int) - 1=(k:Int):=⋯
  rw[e];exact#[k,xs[k],⋯,by simp[a],cV (by simp[a])]
end L2
namespace L2
open PySem
def qlR(K:W5):W.kitOne K (.type "list") (.type "str")=some false:=by simp[W.kitOne];rfl
def qlS(K:W5):W.kitOne K (.type "list") (.type "int")=some false:=by simp[W.kitOne];rfl
def qlT(K:W5):W.kitOne K (.type "list") (.type "bool")=some false:=by simp[W.kitOne];rfl
def qlU(K:W5):W.kitOne K (.type "tuple") (.type "str")=some false:=by simp[W.kitOne];rfl
def qlV(K:W5):W.kitOne K (.type "tuple") (.type "int")=some false:=by simp[W.kitOne];rfl
def qlW(K:W5):W.kitOne K (.type "tuple") (.type "bool")=some false:=by simp[W.kitOne];rfl
def qbr(K:W5):W.kitOne K (.type "str") (.type "str")=some true:=by simp[W.kitOne]
def qlX(K:W5):W.kitOne K (.type "str") (.type "int")=some false:=by simp[W.kitOne];rfl
def qlY(K:W5):W.kitOne K (.type "str") (.type "bool")=some false:=by simp[W.kitOne];rfl
def qlZ(K:W5):W.kitOne K (.type "int") (.type "str")=some false:=by simp[W.kitOne];rfl
def ql0(K:W5):W.kitOne K (.type "int") (.type "int")=some true:=by simp[W.kitOne]
def ql1(K:W5):W.kitOne K (.type "int") (.type "bool")=some false:=by simp[W.kitOne];rfl
def ql2(K:W5):W.kitOne K (.type "bool") (.type "str")=some false:=by simp[W.kitOne];rfl
def ql3(K:W5):W.kitOne K (.type "bool") (.type "int")=some true:=by simp[W.kitOne];rfl
def ql4(K:W5):W.kitOne K (.type "bool") (.type "bool")=some true:=by simp[W.kitOne]
def ql5(K:W5):W.kitOne K (.type "dict") (.type "str")=some false:=by simp[W.kitOne];rfl
def ql6(K:W5):W.kitOne K (.type "dict") (.type "int")=some false:=by simp[W.kitOne];rfl
def ql7(K:W5):W.kitOne K (.type "dict") (.type "bool")=some false:=by simp[W.kitOne];rfl
def ql8(K:W5):W.kitOne K (.type "NoneType") (.type "str")=some false:=by simp[W.kitOne];rfl
def ql9(K:W5):W.kitOne K (.type "NoneType") (.type "int")=some false:=by simp[W.kitOne];rfl
def ql_(K:W5):W.kitOne K (.type "NoneType") (.type "bool")=some false:=by simp[W.kitOne];rfl
end L2
namespace L2
open PySem PySem.Spec PyProof.Rows
section
variable {X:Cx}{K:W5}
@[simp] def quh(K:W5):R2:=λx y H Q=>∃d e,Is K H d x/\Is K H e y/\d.canLay0=true/\e.canLay0=true/\d.depth<=64/\Q (.bl (PyData.eqv d e)) H
@[simp] def qbs(K:W5):R2:=λx y H Q=>∃d e,Is K H d x/\Is K H e y/\d.canLay0=true/\e.canLay0=true/\d.depth<=64/\Q (.bl (!PyData.eqv d e)) H
def qma(j:X.K=K)(r:X.A.units+64<cLine):aZ X (compareOp .NotEq) (qbs K):=by
 subst j;intro i s a H x y v u Q I f c h;obtain⟨d,e,o,n,m,l,w,q⟩:=h;exact qkZ i s a H x y v u Q I f c #[d,e,o,n,m,l,∅,q]
end
def qbt(c:Nat):jj c=decide (c∈("abcdefghijklmnopqrstuvwxyz" : Str).cps.toList):=PySem.StrLaws.found_one _ c
def qbu(h:jj c=true):c<128:=by
 rw[qbt] at h;have e:=qwp h;have a:∀x∈("abcdefghijklmnopqrstuvwxyz" : Str).cps.toList,x<128:=by decide+kernel
 exact a c e
def q_(h:nameB x=true):PyData.strOk x=true:=by
 unfold nameB at h;simp only[qwA] at h;have a:=h.2;unfold PyData.strOk;rw[<- Array.all_toList];rw[qwa] at a⊢;intro c e;have:=qbu (a c e);exact qwv ⋯
@[simp ↓] theorem qui(σ:St)(H:Hp)(Q:List (V×V)->Hp->Prop):z8 [] σ H Q=Q [] H:=rfl
@[simp ↓] theorem quj(tk a:TE)(r:List (TE×TE))(σ:St)(H:Hp)(Q:List (V×V)->Hp->Prop):z8 ((tk,a)::r) σ H Q=(tk σ H λx f=>a σ f λy e=>z8 r σ e λps c=>Q ((x,y)::ps) c):=rfl
def qbw{H:Hp}{a:Qv}{kvs:List (Key×V)}(i:Int)(e:H a=some (.dK kvs)):fK H a (.int i) (dI kvs (Sum.inl i)):=fK.k (k:=Sum.inl i) e
def Ac{H:Hp}{a:Qv}{kvs:List (Key×V)}(x:Str)(e:H a=some (.dK kvs)):fK H a (.str x) (dI kvs (Sum.inr x)):=fK.k (k:=Sum.inr x) e
def qmb(x:Str)(e:H a=some (.dK kvs))(c:kvs.length<sizeLine):xJ H a (.str x) v (upd H a (.dK (putK kvs (Sum.inr x) v))):=xJ.k (k:=Sum.inr x) e c
def isD(e:H a=some (.dK kvs)):Aa H a:=.inl #[kvs,.inl e]
@[simp] def quk:List V->Hp->VK->Prop:=λe H Q=>∃a c bs,e=[.ref a]/\H a=some (.lst c)/\mR c bs/\Q (.bl (bs.any id)) H
@[simp] def qul(K:W5)(neg:Bool):R2:=λx y H Q=>∃d a,Is K H d x/\Is K H (.list a) y/\d.canLay0=true/\PyData.canLayAll0 a=true/\d.depth<=32/\Q (.bl (if neg then !a.any (λy=>PyData.eqv y d) else a.any λy=>PyData.eqv y d)) H
section
variable {K:W5}{l:Qv}{g:TG}{tb:TS}{D:Ends}{d:Qp g tb D}{σ:St}{H:Hp}
def frE(xs:kE)(Pv:yO)(w:Pv 0 σ H)(o:∀i σ H,i<=xs.length->Pv i σ H->au K H l xs)(n:∀i x t σ H,xs[i]? = some x->H t=none->Pv i σ H->g (.ref t) σ (upd H t (.tup [.int i,x])) λc z=>tb {D with nx:=Pv (i+1),ct:=Pv (i+1),bk:=D.nx} c z)(v:∀σ H,Pv xs.length σ H->D.nx σ H):xM (Ite K l) g tb D d σ H:=by
 refine#[λi m σ H=>m=xs.length - i/\i<=xs.length/\Pv i σ H,#[xs.length,by simp,qwF _,w],?_];rintro i m σ H ⟨rfl,r,p⟩;have q:=o i σ H r p
 by_cases a:i<xs.length
 ·refine .inr #[#[xs,xs[i],q,by simp[a]],Pv (i+1),λf A h=>#[xs.length - (i+1),∅,rfl,a,h],λx A y=>?_];obtain⟨t,u,rfl,j,rfl,e⟩:=y;exact n i u t σ H (e xs q) j p
 ·have e:i=xs.length:=⋯
  subst e;exact .inl #[#[xs,q,qvY _],v σ H p]
end
section
variable {K:W5}{own:QAH}{caps:qw}{g:TG}{tt:TT}{te:TE}{D l:Qv}{σ:St}{H:Hp}{Q:Hp->Prop}{d:HS g tt te Q}
def cmE(xs:kE)(Pv:yO)(v:Pv 0 (stC own caps σ) H)(n:∀i σ H,i<=xs.length->Pv i σ H->au K H l xs)(j:∀i x t σ H,xs[i]? = some x->H t=none->Pv i σ H->t_ g tt te D (Pv (i+1)) (.ref t) σ (upd H t (.tup [.int i,x])))(r:∀σ H,Pv xs.length σ H->Q H):tZ own caps (Ite K l) g tt te Q d D σ H:=by
 refine#[λi m σ H=>m=xs.length - i/\i<=xs.length/\Pv i σ H,#[xs.length,by simp,qwF _,v],?_];rintro i m σ H ⟨rfl,o,p⟩;have q:=n i σ H o p
 by_cases a:i<xs.length
 ·refine .inr #[#[xs,xs[i],q,by simp[a]],Pv (i+1),λc w f=>#[xs.length - (i+1),∅,rfl,a,f],λx w y=>?_];obtain⟨t,u,rfl,h,rfl,e⟩:=y;exact j i u t σ H (e xs q) h p
 ·have e:i=xs.length:=∅
  subst e;exact .inl #[#[xs,q,qvY _],r σ H p]
end
def HW(Pv:yh)(μ:St->Hp->Nat)(j:Pv σ H)(i:∀σ H,Pv σ H->c σ H λb e=>aM b (tb {D with nx:=λa f=>Pv a f/\μ a f<μ σ H,ct:=λa f=>Pv a f/\μ a f<μ σ H,bk:=D.nx} σ e) (D.nx σ e) #[0])(mono:∀σ H Q h,(∀b e,Q b e->h b e)->c σ H Q->c σ H h):tWh c tb D d σ H:=qjD Pv μ j i mono
end L2
namespace L2
open PySem
inductive RT{α:Type}(R:α->α->Prop):α->α->Prop where
 |refl (a:α):RT R a a
 |tail {a b c:α}:RT R a b->R b c->RT R a c
def RT.one(h:R a b):RT R a b:=.tail (.refl a) h
def RT.trans(h:RT R a b)(e:RT R b c):RT R a c:=by
 induction e with
 |refl=>exact h
 |tail _ r ih=>exact .tail ih r
abbrev bL:=Nat×Str×Str
def jk(S:List bL)(a b:Str):Prop:=∃n,(n,a,b)∈S
def HX(a:xP)(e:Str×Str)(k:Nat):List bL:=
 (if (a k).getD 0=0 then [(k,e.1,e.2)] else [])++(if (a k).getD 1=1 then [(k,e.2,e.1)] else [])
def jz(a:xP):QAD->Nat->List bL
 |[],_=>[]
 |e::r,k=>HX a e k++jz a r (k+1)
theorem qbx(a:xP):∀(l m:QAD)(k:Nat),jz a (l++m) k=jz a l k++jz a m (k+l.length)
 |[],m,k=>by simp[jz]
 |e::l,m,k=>by
  simp only[qyq,jz,qbx a l m (k+1),qxu,qwj];rw[show k+1+l.length=k+(l.length+1) by lia]
def qmc(a:xP){ps:QAD}{i:Nat}{e:Str×Str}(h:ps[i]? = some e):jz a (ps.take (i+1)) 0=jz a (ps.take i) 0++HX a e i:=by
 have c:i<ps.length:=(qvU.mp h).1;rw[take_one h,qbx,qwe,qyb (qxP c),qxq];simp[jz]
end L2
namespace L2
open PySem PySem.Spec PyProof.Rows
def bH{β:Type}(R:Hp->V->β->Prop)(H:Hp)(vs:kE)(bs:List β):Prop:=vs.length=bs.length/\∀(i:Nat) v b,vs[i]? = some v->bs[i]? = some b->R H v b
section
variable {β:Type}{R:Hp->V->β->Prop}{H H':Hp}{vs:kE}{bs:List β}
def bH.nil:bH R H [] []:=#[rfl,λi v b h=>by simp at h]
def bH.keep(h:bH R H vs bs)(k:∀v b,R H v b->R H' v b):bH R H' vs bs:=#[h.1,λi v b c a=>k v b (h.2 i v b c a)]
def bH.at(h:bH R H vs bs){i:Nat}{v:V}(a:vs[i]? = some v):∃b,bs[i]? = some b/\R H v b:=by
 have c:i<bs.length:=by rw[<- h.1];exact(qvU.mp a).1
 exact#[bs[i],by simp[c],h.2 i v _ a (by simp[c])]
def bH.snoc(h:bH R H vs bs)(l:R H v b):bH R H (vs++[v]) (bs++[b]):=by
 refine#[by simp[h.1],λi u d a c=>?_]
 by_cases f:i<vs.length
 ·rw[qwo f] at a;rw[qwo (by rw[<- h.1];exact f)] at c;exact h.2 i u d a c
 ·rw[qwq ⋯] at a;rw[qwq (by rw[<- h.1];omega),<- h.1] at c;cases e:i - vs.length with
  |zero=>
   rw[e] at a c;cases a;cases c;exact l
  |succ j=>
   rw[e] at a;simp at a
end
def DK(H:Hp)(v:V)(s:bL):Prop:=∃t,v = .ref t/\H t=some (.tup [.int s.1,.str s.2.1,.str s.2.2])
abbrev dw:=bH DK
def d7(H c:Hp):Prop:=∀b a,H b=some (.tup a)->c b=some (.tup a)
def d7.of(s:Same H a):d7 H a:=λb c e=>s b _ e
def d7.set(h:H p=some o)(a:∀xs,o≠.tup xs):d7 H (upd H p u):=λb xs e=>by
 rw[aN (λz=>by subst z;rw[h] at e;exact a xs (qwt e))];exact e
def DK.keep(k:d7 H a):∀v s,DK H v s->DK a v s:=λv s ⟨t,e,h⟩=>#[t,e,k _ _ h]
theorem dw.keep(h:dw H vs S)(k:d7 H a):dw a vs S:=bH.keep h (DK.keep k)
def qmd(H:Hp)(d:Qv)(c:xP):Prop:=∃a,H d=some (.dK a)/\∀k:Nat,dI a (Sum.inl (k:Int))=(c k).map V.int
def qby(o:Option Int)(x:Int):(o.map V.int).getD (.int x) = .int (o.getD x):=by cases o <;> rfl
end L2
namespace L2
open PySem
inductive lN(S:List bL)(a:Str):List Nat->List Str->Str->Prop where
 |nil:lN S a [] [a] a
 |snoc {w:qw}{vs:QAH}{b c:Str}{n:Nat}:lN S a w vs b->(n,b,c)∈S->lN S a (w++[n]) (vs++[c]) c
def lN.reach{S:List bL}{a:Str}{w:qw}{vs:QAH}{b:Str}(h:lN S a w vs b):RT (jk S) a b:=by
 induction h with
 |nil=>exact .refl _
 |snoc _ q ih=>exact .tail ih #[_,q]
inductive Walk(S:List bL)(a:Str):Nat->Str->Prop where
 |nil:Walk S a 0 a
 |snoc {k:Nat}{b c:Str}{n:Nat}:Walk S a k b->(n,b,c)∈S->Walk S a (k+1) c
def Walk.of(h:RT (jk S) a b):∃k,Walk S a k b:=by
 induction h with
 |refl=>exact#[0,.nil]
 |tail _ q ih=>
  obtain⟨k,e⟩:=ih;obtain⟨n,c⟩:=q;exact#[k+1,.snoc e c]
abbrev BR:=List (Str×List Nat)
structure ig(S:List bL)(a:Str)(at_:Nat)(R:BR):Prop where
 st:R[0]? = some (a,[])
 nd:(R.map (·.1)).Nodup
 oh:∀y w,(y,w)∈R->∃vs,lN S a w vs y/\vs.Nodup/\∀v∈vs,v∈R.map (·.1)
 cl:∀(i:Nat) y w,i<at_->R[i]? = some (y,w)->∀n c,(n,y,c)∈S->∃w',(c,w')∈R/\w'.length<=w.length+1
 mono:∀(i j:Nat) y w z u,i<=j->R[i]? = some (y,w)->R[j]? = some (z,u)->w.length<=u.length
 bd:∀(y:Str)(w:qw) z u,R[at_]? = some (y,w)->(z,u)∈R->u.length<=w.length+1
structure mV(S T:List bL)(a:Str)(at_:Nat)(h:Str)(wh:qw)(R:BR):Prop where
 bf:ig S a at_ R
 hr:R[at_]? = some (h,wh)
 md:∀n c,(n,h,c)∈T->∃w',(c,w')∈R/\w'.length<=wh.length+1
def ig.begin(S:List bL)(a:Str):ig S a 0 [(a,[])]:=by
 refine#[rfl,by simp,?_,by intro i y w h;lia,?_,?_]
 ·intro y w h;simp at h;obtain⟨rfl,rfl⟩:=h;exact#[[y],.nil,by simp,by simp]
 ·intro i j y w z u l e c;have m:i=0:=by have:=(qvU.mp e).1;simp at this;omega
  have f:j=0:=by have:=(qvU.mp c).1;simp at this;omega
  subst m f;rw[e] at c;cases c;exact qvY _
 ·intro y w z u e c;simp at e c;rw[c.2,<- e.2];simp
def mV.enter(b:ig S a c R)(f:R[c]? = some (h,e)):mV S [] a c h e R:=#[b,f,by simp]
def mV.skip(b:mV S T a f h i R)(j:s.2.1=h->s.2.2∈R.map (·.1)):mV S (T++[s]) a f h i R:=by
 refine#[b.bf,b.hr,λn c l=>?_]
 rcases qwc.mp l with q|q
 ·exact b.md n c q
 ·simp at q;subst q;obtain⟨⟨m,w'⟩,hw,e⟩:=qwr.mp (j rfl);simp only at e;subst e;exact#[w',hw,b.bf.bd _ _ _ _ b.hr hw]
def mV.add(b:mV S T a G h l R)(hS:(n,h,c)∈S)(hc:¬c∈R.map (·.1)):mV S (T++[(n,h,c)]) a G h l (R++[(c,l++[n])]):=by
 obtain⟨⟨st,nd,oh,cl,mono,bd⟩,B,md⟩:=b;have D:G<R.length:=(qvU.mp B).1;have C:∀{i:Nat}{x},i<R.length->(R++[(c,l++[n])])[i]? = some x->R[i]? = some x:=λA e=>by rwa [qwo A] at e
 have o:∀{i:Nat}{x},¬i<R.length->(R++[(c,l++[n])])[i]? = some x->x=(c,l++[n]):=λA e=>by
  rw[qwq ⋯] at e;cases hk:_ - R.length with
  |zero=>rw[hk] at e;simp at e;exact e.symm
  |succ k=>rw[hk] at e;simp at e
 refine#[#[?_,?_,?_,?_,?_,?_],?_,?_]
 ·rw[qwo ⋯];exact st
 ·rw[qwG,List.nodup_append];refine#[nd,by simp,?_];intro x N y H e;simp at H;subst H;exact hc (e▸N)
 ·intro y w H
  rcases qwc.mp H with q|q
  ·obtain⟨J,f,r,I⟩:=oh y w q;exact#[J,f,r,λv O=>by rw[qwG];exact qww _ (I v O)]
  ·simp at q;obtain⟨rfl,rfl⟩:=q;obtain⟨J,f,r,I⟩:=oh h l (qvX B);refine#[J++[y],.snoc f hS,?_,?_]
   ·rw[List.nodup_append];refine#[r,by simp,?_];intro x N z hz e;simp at hz;subst hz;exact hc (e▸I x N)
   ·intro v O;rw[qwG]
    rcases qwc.mp O with q|q
    ·exact qww _ (I v q)
    ·simp at q;subst q;simp
 ·intro i y w A e m Y Q;obtain⟨w',M,L⟩:=cl i y w A (C ⋯ e) m Y Q;exact#[w',qww _ M,L]
 ·intro i j y w z u U f r
  by_cases hj:j<R.length
  ·exact mono i j y w z u U (C ⋯ f) (C hj r)
  ·have e2:=o hj r;cases e2
   by_cases A:i<R.length
   ·have:=bd h l y w B (qvX (C A f));simp;exact this
   ·have e1:=o A f;cases e1;exact qvY _
 ·intro y w z u f r;have E:=C D f;rw[B] at E;cases E
  rcases qwc.mp r with q|q
  ·exact bd _ _ z u B q
  ·simp at q;rw[q.2];simp
 ·rw[qwo D];exact B
 ·intro m Y Q
  rcases qwc.mp Q with q|q
  ·obtain⟨w',M,L⟩:=md m Y q;exact#[w',qww _ M,L]
  ·simp at q;obtain⟨rfl,rfl⟩:=q;exact#[l++[m],by simp,by simp]
def mV.leave(b:mV S S a f h m R):ig S a (f+1) R:=by
 obtain⟨⟨st,v,r,D,mono,E⟩,j,A⟩:=b;refine#[st,v,r,?_,mono,?_]
 ·intro i y w I e n c o
  by_cases l:i=f
  ·subst l;rw[j] at e;cases e;exact A n c o
  ·exact D i y w ⋯ e n c o
 ·intro y w z u C B;have H:=E h m z u j B;have G:=mono f (f+1) h m y w ⋯ j C;lia
def ig.all(b:ig S a R.length R)(h:Walk S a k y):∃w,(y,w)∈R/\w.length<=k:=by
 induction h with
 |nil=>exact#[[],qvX b.st,qvY _]
 | @snoc k l c n _ q ih=>
  obtain⟨w,j,o⟩:=ih;obtain⟨i,e⟩:=qxm.mp j;obtain⟨w',f,m⟩:=b.cl i l w (qvU.mp e).1 e n c q;exact#[w',f,⋯]
def ig.iff(b:ig S a R.length R)(y:Str):y∈R.map (·.1)↔RT (jk S) a y:=by
 constructor
 ·intro h;obtain⟨⟨z,w⟩,c,e⟩:=qwr.mp h;simp only at e;subst e;obtain⟨i,p,_⟩:=b.oh z w c;exact p.reach
 ·intro h;obtain⟨k,f⟩:=Walk.of h;obtain⟨w,c,_⟩:=b.all f;exact qwr.mpr #[(y,w),c,rfl]
def ig.sub{S:List bL}{a:Str}{i:Nat}{R:BR}(b:ig S a i R){xs:QAH}(c:a∈xs)(f:∀s∈S,s.2.2∈xs):∀y∈R.map (·.1),y∈xs:=by
 intro y h;obtain⟨⟨z,w⟩,j,e⟩:=qwr.mp h;simp only at e;subst e;obtain⟨l,p,_⟩:=b.oh z w j;cases p with
 |nil=>exact c
 |snoc _ q=>exact f _ q
theorem rm{a:Type}[DecidableEq a]:∀{l xs:List a},l.Nodup->(∀y∈l,y∈xs)->l.length<=xs.length
 |[],_,_,_=>qwF _
 |y::l,xs,i,h=>by
  obtain⟨m,j⟩:=qwC.mp i;have f:y∈xs:=h y qv3;have:=rm (l:=l) (xs:=xs.erase y) j λz c=>(List.mem_erase_of_ne (fun(e:z=y)=>m (e▸c))).mpr (h z (qvZ _ c));rw[List.length_erase_of_mem f] at this;have n:0<xs.length:=qxi f;simp only[qwj];lia
def lN.len{S:List bL}{a:Str}{w:qw}{vs:QAH}{b:Str}(h:lN S a w vs b):vs.length=w.length+1:=by
 induction h with
 |nil=>rfl
 |snoc _ _ ih=>simp[ih]
def ig.Qu(b:ig S a i R)(h:(y,w)∈R):w.length<R.length:=by
 obtain⟨f,p,c,sub⟩:=b.oh y w h;have e:=rm c sub;have j:=p.len;simp at e;lia
def qme(H:Hp)(c:Key×V)(a:Str×List Nat):Prop:=c.1=Sum.inr a.1/\∃p,c.2 = .ref p/\H p=some (.lst (a.2.map λn:Nat=>V.int n))
structure gj(H:Hp)(kvs:List (Key×V))(R:BR):Prop where
 len:kvs.length=R.length
 ok:∀(i:Nat) kv yw,kvs[i]? = some kv->R[i]? = some yw->qme H kv yw
def gj.keep(h:gj H kvs R)(k:∀(p:Qv) (w:qw),H p=some (.lst (w.map λn:Nat=>V.int n))->m p=some (.lst (w.map λn:Nat=>V.int n))):gj m kvs R:=
 #[h.len,λi c a j f=>by
  obtain⟨e,p,l,q⟩:=h.ok i c a j f;exact#[e,p,l,k _ _ q]]
theorem gj.none(h:gj H kvs R)(j:¬y∈R.map (·.1)):dI kvs (Sum.inr y)=Option.none:=by
 unfold dI;rw[List.find?_eq_none.mpr]
 ·rfl
 ·intro f l;obtain⟨i,c⟩:=qxm.mp l;have a:i<R.length:=by rw[<- h.len];exact(qvU.mp c).1
  obtain⟨e,_⟩:=h.ok i f R[i] c (by simp[a]);simp only[qwx];intro z;rw[e] at z;cases z;exact j (qwr.mpr #[R[i],List.getElem_mem a,rfl])
theorem gj.some(h:gj H kvs R)(z:(R.map (·.1)).Nodup)(A:(y,w)∈R):∃p,dI kvs (Sum.inr y)=Option.some (.ref p)/\H p=Option.some (.lst (w.map λn:Nat=>V.int n)):=by
 obtain⟨i,f⟩:=qxm.mp A;have r:i<kvs.length:=by rw[h.len];exact(qvU.mp f).1
 have C:kvs[i]? = Option.some kvs[i]:=by simp[r]
 unfold dI;have D:∃a,kvs.find? (λa=>decide (a.1=Sum.inr y))=Option.some a:=by
  cases e:kvs.find? (λa=>decide (a.1=Sum.inr y)) with
  |some a=>exact#[a,rfl]
  |none=>
   have:=List.find?_eq_none.mp e kvs[i] (List.getElem_mem r);obtain⟨l,_⟩:=h.ok i _ _ C f;simp[l] at this
 obtain⟨a,c⟩:=D;rw[c];have B:=List.mem_of_find?_eq_some c;have o:=List.find?_some c;simp only[qwx] at o;obtain⟨j,u⟩:=qxm.mp B;have m:j<R.length:=by rw[<- h.len];exact(qvU.mp u).1
 obtain⟨l,p,I,v⟩:=h.ok j a R[j] u (by simp[m]);rw[o] at l;have E:R[j].1=y:=(Sum.inr.inj l).symm;have G:j=i:=Dz z (x:=y) (by rw[qv8,show R[j]? = Option.some R[j] by simp[m]];simp[E]) (by rw[qv8,f];rfl);subst G;have:R[j]=(y,w):=by
  have:=f;simp[m] at this;exact this
 rw[this] at v;exact#[p,by simp[I],v]
def gj.has(h:gj H kvs R)(c:(R.map (·.1)).Nodup)(y:Str):(dI kvs (Sum.inr y)).isSome=decide (y∈R.map (·.1)):=by
 by_cases a:y∈R.map (·.1)
 ·obtain⟨⟨z,w⟩,f,e⟩:=qwr.mp a;simp only at e;subst e;obtain⟨p,e,_⟩:=h.some c f;rw[e,qwv a];rfl
 ·rw[h.none a,qwh a];rfl
def gj.qmf(h:gj H kvs R)(a:(R.map (·.1)).Nodup)(y:Str):(dI kvs (Sum.inr y)).isNone = !decide (y∈R.map (·.1)):=by
 rw[<- h.has a y];cases dI kvs (Sum.inr y) <;> rfl
def gj.snoc(h:gj H kvs R)(o:H p=Option.some (.lst (w.map λn:Nat=>V.int n))):gj H (kvs++[(Sum.inr y,.ref p)]) (R++[(y,w)]):=by
 refine#[by simp[h.len],λi m l a c=>?_]
 by_cases f:i<kvs.length
 ·rw[qwo f] at a;rw[qwo (by rw[<- h.len];exact f)] at c;exact h.ok i m l a c
 ·rw[qwq ⋯] at a;rw[qwq (by rw[<- h.len];omega),<- h.len] at c;cases e:i - kvs.length with
  |zero=>
   rw[e] at a c;cases a;cases c;exact#[rfl,p,rfl,o]
  |succ j=>
   rw[e] at a;simp at a
def qbz(i:Nat)(σ:St):Nat:=match σ[i]? with|some (some (V.int n))=>(10 - n).toNat|_=>0
def ou(x:Str)(xs:QAH):inV (.str x) (xs.map V.str)=decide (x∈xs):=by
 unfold inV;rw[List.any_map,qw3,List.any_eq_true,qwx];constructor
 ·rintro⟨y,a,e⟩;simp[lJ] at e;exact e▸a
 ·intro h;exact#[x,h,by simp[lJ]]
def mW(xs:QAH):(xs.map V.str).all jw=true:=by
 rw[List.all_map,qwa];intro x _;rfl
end L2
namespace L2
open PySem PySem.Spec PyProof.Rows
@[simp] theorem qum(i:Int):mH (.int i) .non=true:=rfl
@[simp] theorem qun(i:Int):mH .non (.int i)=true:=rfl
@[simp] theorem qup(i:Str):mH (.str i) .non=true:=rfl
end L2
namespace L2
open PySem
def fV{a β:Type}(f:a->Nat->List β):List a->Nat->List β
 |[],_=>[]
 |e::r,k=>f e k++fV f r (k+1)
theorem qbA(f:a->Nat->List β):∀(l m:List a)(k:Nat),fV f (l++m) k=fV f l k++fV f m (k+l.length)
 |[],m,k=>by simp[fV]
 |e::l,m,k=>by
  simp only[qyq,fV,qbA f l m (k+1),qxu,qwj];rw[show k+1+l.length=k+(l.length+1) by lia]
def qbB{a β:Type}(f:a->Nat->List β){ps:List a}{i:Nat}{e:a}(h:ps[i]? = some e):fV f (ps.take (i+1)) 0=fV f (ps.take i) 0++f e i:=by
 have c:i<ps.length:=(qvU.mp h).1;rw[take_one h,qbA,qwe,qyb (qxP c),qxq];simp[fV]
theorem Qw{a β:Type}{f:a->Nat->List β}(c:∀e k,(f e k).length<=1):∀(ps:List a)(k:Nat),(fV f ps k).length<=ps.length
 |[],_=>by simp[fV]
 |e::r,k=>by
  have i:=Qw c r (k+1);have h:=c e k;simp only[fV,qwm,qwj];lia
def jX(c:QAH)(e:Str×Str)(k:Nat):List Nat:=if (e.1∈c↔e.2∈c) then [] else [k]
def Ad(c:QAH)(ps:QAD):List Nat:=fV (jX c) ps 0
def qmg(c:QAH)(e:Str×Str)(k:Nat):(jX c e k).length<=1:=by
 unfold jX;split <;> simp
def qmh{xs c:QAH}(e:xs.Nodup)(f:c.Nodup)(h:∀x∈c,x∈xs):(xs.filter λy=>decide (y∈c)).length=c.length:=by
 refine Nat.le_antisymm (rm (e.filter _) λy a=>?_) (rm f λy a=>?_)
 ·exact qwp (qwb.mp a).2
 ·exact qwb.mpr #[h y a,qwv a]
end L2
set_option maxHeartbeats 4000000
namespace L2
open PySem PySem.Spec PyProof.Rows
section
variable {prog:J9}{w:zX}{A:zY}{E:QAB}{s:Zw}
def qmi(h:Q (s.heap.get? a) s):wpAny (model prog w) A (loadIfAlive a) Q E s:=λΓ p _=>by
 show Sem.wp _ _ (Sem.loadIfAlive a Sem.pure) _ _ _ _;rw[Sem.wp_loadIfAlive];exact h
def gC(b:Bool)(it l:Qv)(items:qx)(i:Nat)(h:zf):Prop:=match b with
 |true=>h.IsListIter it l i/\h.IsList l items
 |false=>h.IsTupleIter it l i/\h.IsTuple l items
def qmj(st:gC b it l items i h):l≠it:=by
 cases b with
 |true=>
  obtain⟨⟨o,e,c,_⟩,⟨u,a,f,_⟩⟩:=st;exact gQ a e f c (by decide)
 |false=>
  obtain⟨⟨o,e,c,_⟩,⟨u,a,f,_⟩⟩:=st;exact gQ a e f c (by decide)
def qbC(st:gC b it l items i h):∃o T,h.get? it=some o/\o.cls = .type T/\T≠ "enumerate" :=by
 cases b with
 |true=>obtain⟨⟨o,e,c,_⟩,_⟩:=st;exact#[o,_,e,c,by decide]
 |false=>obtain⟨⟨o,e,c,_⟩,_⟩:=st;exact#[o,_,e,c,by decide]
def qbD(st:gC b it l items i h):∃o T,h.get? l=some o/\o.cls = .type T/\T≠ "enumerate" :=by
 cases b with
 |true=>obtain⟨_,⟨o,e,c,_⟩⟩:=st;exact#[o,_,e,c,by decide]
 |false=>obtain⟨_,⟨o,e,c,_⟩⟩:=st;exact#[o,_,e,c,by decide]
def Ae(st:gC b it l items i h)(k1:∀o,h.get? it=some o->h'.get? it=some o)(k2:∀o,h.get? l=some o->h'.get? l=some o):gC b it l items i h':=by
 cases b with
 |true=>obtain⟨⟨o,e,c⟩,⟨u,a,f⟩⟩:=st;exact#[#[o,k1 _ e,c],#[u,k2 _ a,f]]
 |false=>obtain⟨⟨o,e,c⟩,⟨u,a,f⟩⟩:=st;exact#[#[o,k1 _ e,c],#[u,k2 _ a,f]]
def Qx{b:Bool}{it l:Qv}{items:qx}{i:Nat}{x:zT}{Q:QAB}(st:gC b it l items i s.heap)(n:items[i]? = some x)(r:∀h',gC b it l items (i+1) h'->Heap.SameBut it s.heap h'->Q x {s with heap:=h'}):wpAny (model prog w) A (Builtin.SmallTypes.nextOf (.ref it)) Q E s:=by
 have ne:=qmj st;cases b with
 |true=>
  obtain⟨f,j⟩:=st;refine wpAny_nextOf_list_item f j n λh' a1 a2=>r h' #[a1,?_] a2;obtain⟨u,B,C⟩:=j;exact#[u,(a2.2 _ ne).trans B,C]
 |false=>
  obtain⟨f,j⟩:=st;obtain⟨o,h,y,e⟩:=id f;obtain⟨v,a,m,nl,c⟩:=id j;unfold Builtin.SmallTypes.nextOf;refine qvT (qxd (name:=Str.ofString "__next__") f.typeIs qxK (qwW qxK f.typeIs F.entry_tuple_iterator_next ?_ (F.args_tuple_iterator_next_1 _)));show wpAny (model prog w) _ (field (.ref it) 0 >>= _) _ _ s;refine qvT (qwH h e (x:=.ref l) rfl ?_);show wpAny (model prog w) _ (if (Value.ref l == Value.none)=true then _ else _) _ _ s
  rw[if_neg (λz=>by cases z)];show wpAny (model prog w) _ (field (.ref it) 1 >>= _) _ _ s;refine qvT (qwH h e (x:=.int i 0) rfl ?_);show wpAny (model prog w) _ (seqItems? (.ref l) >>= _) _ _ s;refine qvT (qw9 a c ?_);simp only[Int.toNat_natCast,n];refine qvT (qyo h e (by simp) (qvW #[x,rfl,qvW (r _ #[?_,?_] (qw0 ..))]))
  ·exact#[_,qwM _ h (qyd (qxL e _)),(Obj.cls_mapFields ..).trans y,by rw[qxL e];simp[rawInt]]
  ·exact#[v,((qw0 ..).2 _ ne).trans a,m,nl,c]
def qbE{b:Bool}{it l:Qv}{items:qx}{i:Nat}{Q:QAB}(h:A.handled=none)(st:gC b it l items i s.heap)(u:items[i]? = none)(v:∀h' e,Heap.ExtBut it s.heap h'->(∃o,h'.get? e=some o/\o.cls = .type "StopIteration")->E (.ref e) {s with heap:=h'}):wpAny (model prog w) A (Builtin.SmallTypes.nextOf (.ref it)) Q E s:=by
 cases b with
 |true=>exact wpAny_nextOf_list_end h st.1 st.2 u v
 |false=>
  obtain⟨r,B⟩:=st;obtain⟨o,f,D,n⟩:=id r;obtain⟨C,c,y,nl,j⟩:=id B;unfold Builtin.SmallTypes.nextOf;refine qvT (qxd (name:=Str.ofString "__next__") r.typeIs qxK (qwW qxK r.typeIs F.entry_tuple_iterator_next ?_ (F.args_tuple_iterator_next_1 _)));show wpAny (model prog w) _ (field (.ref it) 0 >>= _) _ _ s;refine qvT (qwH f n (x:=.ref l) rfl ?_);show wpAny (model prog w) _ (if (Value.ref l == Value.none)=true then _ else _) _ _ s
  rw[if_neg (λz=>by cases z)];show wpAny (model prog w) _ (field (.ref it) 1 >>= _) _ _ s;refine qvT (qwH f n (x:=.int i 0) rfl ?_);show wpAny (model prog w) _ (seqItems? (.ref l) >>= _) _ _ s;refine qvT (qw9 c j ?_);simp only[Int.toNat_natCast,u];refine qvT (qxF (qvT (qyo f n (by simp) ?_)));show wpAny (model prog w) _ (newExc (.type "StopIteration") [] >>= _) _ _ _;refine qvT ?_;simp only[newExc,newTuple];refine qvT (qxh ?_ (by size_fits));refine qvT (m:=firstArgMember _ _) (wpAny_of_eq (a:=Value.none) (by first|rfl|(simp only[firstArgMember];rfl)) ?_)
  refine qxh ?_ (by size_fits);simp only[raiseNew];refine qvT (wpAny_handled ?_)
  first|rw[show A.in1.handled=none from h]|rw[h]
  refine qvT (qvW (wpAny_throw ?_));exact v _ _ (((qw0 ..).extBut.push _).push _) #[_,qv4 _ rfl,rfl]
def mX(h:zf)(e it:Qv)(i:Int):Prop:=∃c f old,h.get? e=some {cls:=.type "enumerate",dict:=none,data:=.fields [c,f,.ref it,rawInt i,.none,old].toArray,slots:=#[]}/\(c = .none\/∃a:Int,c=rawInt a)
def qmk(f:s.heap.get? e=some {cls:=.type "enumerate",dict:=none,data:=.fields [f0,y,.ref it,rawInt i,.none,old].toArray,slots:=#[]})(D:f0 = .none\/∃a:Int,f0=rawInt a)(v:∀h',mX h' e it i->Heap.SameBut e s.heap h'->Q (.done (.ret (.ref r))) {s with heap:=h'}):
  wpAny (model prog w) A (Builtin.SmallTypes.ownedTupleIsFree (.ref e) >>= λb=>if b=true then (rule "enumerate.__next__.owned-tuple-again" >>= λ_=>field (.ref e) 5 >>= λo=>setField (.ref e) 5 x >>= λ_=>Builtin.SmallTypes.ownedTupleHandOut (.ref e) (.ref r) >>= λ_=>letGo [o] [.ref r] >>= λ_=>ret (.ref r)) else ret (.ref r)) Q E s:=by
 have out:wpAny (model prog w) A (rule "enumerate.__next__.owned-tuple-again" >>= λ_=>field (.ref e) 5 >>= λo=>setField (.ref e) 5 x >>= λ_=>Builtin.SmallTypes.ownedTupleHandOut (.ref e) (.ref r) >>= λ_=>letGo [o] [.ref r] >>= λ_=>ret (.ref r)) Q E s:=by
  refine qvT (qxF ?_);refine qvT (qwH f rfl (x:=old) rfl ?_);refine qvT (qwR f (by simp) λC z l=>?_);refine qvT ?_;unfold Builtin.SmallTypes.ownedTupleHandOut;refine qvT (qwR z (by simp) λJ n j=>?_);refine qwR n (by simp) λG m h=>?_;refine qvT (wpAny_letGo (qvW (v G #[rawInt r,.bool false,x,m,.inr #[_,rfl]] ?_)));exact#[h.1.trans (j.1.trans l.1),λc u=>(h.2 c u).trans ((j.2 c u).trans (l.2 c u))]
 refine qvT ?_;unfold Builtin.SmallTypes.ownedTupleIsFree;refine qvT (qwH f rfl (x:=f0) rfl ?_)
 rcases D with rfl|⟨a,rfl⟩
 ·exact qvW out
 ·show wpAny (model prog w) A (loadIfAlive a.toNat >>= _) _ _ s;refine qvT (qmi ?_);cases I:s.heap.get? a.toNat with
  |none=>exact qvW out
  |some H=>
   show wpAny (model prog w) A (field (.ref e) 1 >>= _) _ _ s;refine qvT (qwH f rfl (x:=y) rfl ?_)
   by_cases B:(y != .bool true)=true
   ·rw[if_pos B];refine qvT (qwR f (by simp) λC z l=>?_);exact qvW (qvW (v C #[rawInt a,.bool true,old,z,.inr #[_,rfl]] l))
   ·rw[if_neg B];exact qvW (qvW (v s.heap #[rawInt a,y,old,f,.inr #[_,rfl]] #[rfl,λ_ _=>rfl]))
def qbF{b:Bool}{e it l:Qv}{i:Nat}{items:qx}{x:zT}{Q:QAG->Shared->Prop}(u:mX s.heap e it i)(st:gC b it l items i s.heap)(hx:items[i]? = some x)(hQ:∀h',mX h' e it ((i:Int)+1)->gC b it l items (i+1) h'->h'.get? s.heap.objs.size=some {cls:=.type "tuple",data:=.seq [.int i s.toks,x].toArray}->
   (∀c o,c≠e->c≠it->s.heap.get? c=some o->h'.get? c=some o)->Q (some (.ref s.heap.objs.size)) {s with heap:=h',toks:=s.toks+1}):
  wpAny (model prog w) A (pyNext (.ref e)) Q E s:=by
 obtain⟨f0,f1,old,u,hf⟩:=u;obtain⟨oi,Ti,I,U,a0⟩:=qbC st;obtain⟨ol,Tl,H,T,Y⟩:=qbD st;have r:it≠e:=gQ I u U rfl a0;have v:l≠e:=gQ H u T rfl Y;have hT:s.TypeIs (.ref e) "enumerate" :=#[_,u,rfl];unfold pyNext;refine qvT (wpAny_attempt (qxd (name:=Str.ofString "__next__") hT qxn (qwW qxn hT F.entry_enumerate_next ?_ (F.args_enumerate_next_1 _))));obtain⟨B,g,d,a,os⟩:=s;show wpAny (model prog w) _ (field (.ref e) 2 >>= _) _ _ _;refine qvT (qwH u rfl (x:=.ref it) rfl ?_);refine qvT (Qx st hx λm G n=>?_);replace n:Heap.SameBut it B m:=n;have fL:=(n.2 e r.symm).trans u;show wpAny (model prog w) _ (field (.ref e) 3 >>= _) _ _ #[m,g,d,a,os];refine qvT (qwH fL rfl (x:=rawInt i) rfl ?_);show wpAny (model prog w) _ (field (.ref e) 4 >>= _) _ _ #[m,g,d,a,os];refine qvT (qwH fL rfl (x:=.none) rfl ?_);show wpAny (model prog w) _ (mkInt i >>= _) _ _ #[m,g,d,a,os];refine qvT (wpAny_mkInt ?_);show wpAny (model prog w) _ (setField (.ref e) 3 (rawInt ((i:Int)+1)) >>= _) _ _ #[m,g,d,a+1,os];refine qvT (qwR fL (by simp) λy O h=>?_);replace h:Heap.SameBut e m y:=h;show wpAny (model prog w) _ (setField (.ref e) 4 .none >>= _) _ _ #[y,g,d,a+1,os];refine qvT (qwR O (by simp) λj N f=>?_);replace f:Heap.SameBut e y j:=f;show wpAny (model prog w) _ (newTuple [.int i a,x] >>= _) _ _ #[j,g,d,a+1,os];refine qvT (wpAny_newTuple ?_);have C:j.objs.size=B.objs.size:=by rw[f.1,h.1,n.1]
 have L:e<B.objs.size:=qv2 u;have M:(j.push {cls:=.type "tuple",data:=.seq [.int i a,x].toArray}).get? e=some {cls:=.type "enumerate",dict:=none,data:=.fields [f0,f1,.ref it,rawInt ((i:Int)+1),.none,old].toArray,slots:=#[]}:=qvV _ N;have xO:(j.push {cls:=.type "tuple",data:=.seq [.int i a,x].toArray}).get? B.objs.size=some {cls:=.type "tuple",data:=.seq [.int i a,x].toArray}:=by rw[<- C];exact qv4 _ rfl
 have J:∀c o,c≠e->c≠it->B.get? c=some o->(j.push {cls:=.type "tuple",data:=.seq [.int i a,x].toArray}).get? c=some o:=λc o m y j=>qvV _ (f.extBut c o m (h.extBut c o m (n.extBut c o y j)));have ud:gC b it l items (i+1) (j.push {cls:=.type "tuple",data:=.seq [.int i a,x].toArray}):=Ae G (λo z=>qvV _ (f.extBut _ _ r (h.extBut _ _ r z))) (λo z=>qvV _ (f.extBut _ _ v (h.extBut _ _ v z)));refine qmk (s:=#[j.push {cls:=.type "tuple",data:=.seq [.int i a,x].toArray},g,d,a+1,os]) M hf λh5 aa D=>#[_,rfl,qvW ?_];rw[show(Shared.mk j g d (a+1) os).heap.objs.size=B.objs.size from C];refine hQ h5 aa (Ae ud (λo z=>(D.2 _ r).trans z) (λo z=>(D.2 _ v).trans z)) ((D.2 _ (qw_ L)).trans xO) λc o m y j=>(D.2 c m).trans (J c o m y j)
end
end L2
namespace PySem
open Sem (wp)
def qml:typeLookup (.type "enumerate") "__getattr__" = pure none:=by rw[typeLookup_type,qye];kernel_rfl
def qmm:typeLookup (.type "enumerate") "keys" = pure none:=by rw[typeLookup_type,qye];kernel_rfl
def qmn:entryFor table "enumerate.__getattribute__" = some Builtin.«object.__getattribute__»:=
 entryFor_alias (id':= "object.__getattribute__") (by kernel_rfl) (by decide+kernel) (by decide+kernel) (by kernel_rfl)
def qmo(a:Qv)(xs:qx)(j:Array (QAG))(name:Str)(u:Tok)(f:typeLookup (.type "enumerate") name=pure none)(c:(["__module__", "__name__", "__qualname__", "__doc__", "__annotations__"]:QAH).contains name=false)(hsz:name.length+100<=sizeLine:=by size_fits):
  Meets (Builtin.«object.__getattribute__» #[[.ref a,.str name u],[]]) (λA R s=>s.heap.get? a=some {cls:=.type "enumerate",dict:=none,data:=.fields xs,slots:=j}/\raisesAttr (.ref a) name A R s):=
 Meets.of_wp λh w A R s e=>by
  obtain⟨m,g,d,i,os⟩:=s;obtain⟨l,e⟩:=e;have n:(#[m,g,d,i,os]:Shared).TypeIs (.ref a) "enumerate" :=#[_,l,rfl];unfold Builtin.«object.__getattribute__»
  repeat (any_goals (first|assumption|wp_step))
  simp only[c,Bool.false_eq_true,if_false]
  repeat (any_goals (first|assumption|wp_step))
  exact wpAny_raiseAttrError e.1 e.2 (attrMsg_fits (by decide+kernel) hsz)
def qmp{prog:J9}{w:zX}{A:zY}{E:QAB}{s:Zw}{a:Qv}{xs:qx}{Q:QAG->Shared->Prop}(j:s.heap.get? a=some {cls:=.type "enumerate",dict:=none,data:=.fields xs,slots:=#[]})(n:A.handled=none)(h:∀h' tk,(∀b o,s.heap.get? b=some o->h'.get? b=some o)->Q none {s with heap:=h',toks:=tk}):
  wpAny (model prog w) A (getAttr? (.ref a) "keys") Q E s:=by
 obtain⟨m,g,d,tk,os⟩:=s;have l:∀f,(#[m,g,d,f,os]:Shared).TypeIs (.ref a) "enumerate" :=λ_=>#[_,j,rfl];have C:=sub_AttributeError;have B:=F.slot_enumerate_getattribute.lookup;have z:=F.slot_enumerate_getattribute.bind (.ref a);have y:=qml;have c:(["__module__", "__name__", "__qualname__", "__doc__", "__annotations__"]:QAH).contains "keys" = false:=by decide
 unfold getAttr? getAttrBy? getAttrBy
 repeat (any_goals (first|assumption|exact l _|((with_reducible show wpAny _ _ (call (Value.builtin "enumerate.__getattribute__") _ _) _ _ _);refine qx6 F.slot_enumerate_getattribute (l _) qmn (F.args_enumerate_getattribute_2 _ _) (qmo a xs #[] "keys" _ qmm c) #[j,n,λh' f e i=>?_])|wp_step))
 obtain⟨u,r,v⟩:=i.there;show wpAny _ _ (getattributeRaised _ _ _ _ _ _ _) _ _ _;unfold getattributeRaised
 repeat (any_goals (first|assumption|wp_step))
 exact h _ _ i.of.keeps
end PySem
namespace PySem
open Sem (wp)
open AutoSeq1 (wpAny_loadPart')
def qmq(l:Qv)(items:qx)(n:Nat)(f:wJ)(o:Array (QAG)):
  Meets (Builtin.«enumerate.__new__» #[[.type "enumerate",.ref l],[]]) (λ_ R s=>s.heap.get? l=some {cls:=.type "tuple",dict:=f,data:=.seq items n,slots:=o}/\
   R (.ok (.ret (.ref (s.heap.push {cls:=.type "tuple_iterator",data:=.fields [.ref l,.int 0 0].toArray}).objs.size)))
    {s with heap:=(s.heap.push {cls:=.type "tuple_iterator",data:=.fields [.ref l,.int 0 0].toArray}).push {cls:=.type "enumerate",data:=.fields [.none,.bool false,.ref s.heap.objs.size,rawInt 0,.none,.none].toArray}}):=
 .of_wp λi w A R s h=>by
  obtain⟨r,g,d,m,os⟩:=s;obtain⟨a,h⟩:=h;have j:=sub_enumerate;have e:Heap.IsTuple (Shared.heap #[r,g,d,m,os]) l items:=#[_,a,rfl,n,rfl]
  wp_walk using qxO a
  refine wpAny_stack_any λst=>qvW ?_;split
  ·rename_i c _ _ _ _ _;cases (c == Value.type "enumerate")
   ·wp_walk using qxO a,qxG e
    exact#[_,rfl,h]
   ·wp_walk using qxO a,qxG e
    exact#[_,rfl,h]
  ·wp_walk using qxO a,qxG e
   exact#[_,rfl,h]
section
variable {prog:J9}{w:zX}{A:zY}{E:QAB}{s:Zw}
def qbG{b:Bool}{l:Qv}{items:qx}{Q:QAB}(m:match b with|true=>s.heap.IsList l items|false=>s.heap.IsTuple l items)(h:∀h',L2.mX h' (s.heap.objs.size+1) s.heap.objs.size 0->L2.gC b s.heap.objs.size l items 0 h'->h'.objs.size=s.heap.objs.size+2->
   (∀b o,s.heap.get? b=some o->h'.get? b=some o)->Q (.ref (s.heap.objs.size+1)) {s with heap:=h'}):
  wpAny (model prog w) A (call (.type "enumerate") [.ref l]) Q E s:=by
 cases b with
 |true=>
  exact call_enumerate_list m λh' b1 b2 b3 a=>h h' #[_,_,_,b1,.inl rfl] #[b2,m.at λo z=>a _ _ z] b3 a
 |false=>
  obtain⟨⟨c,r,B,y⟩,u,j,n,i⟩:=id m;replace j:c = .type "tuple" :=j;replace i:B = .seq items n:=i;subst j i;refine callType_new F.called_enumerate (by decide) (F.typeCall_enumerate_1 _) (F.newCall_enumerate_1 _) (λobj=>F.args_object_init_2 obj _) F.entry_enumerate_new
   (qmq l items n r y) #[u,?_]
  have e:(s.heap.push {cls:=.type "tuple_iterator",data:=.fields [.ref l,.int 0 0].toArray}).objs.size=s.heap.objs.size+1:=qwD ..;show _/\_;rw[e];have v:L2.mX ((s.heap.push {cls:=.type "tuple_iterator",data:=.fields [.ref l,.int 0 0].toArray}).push
    {cls:=.type "enumerate",data:=.fields [.none,.bool false,.ref s.heap.objs.size,rawInt 0,.none,.none].toArray}) (s.heap.objs.size+1) s.heap.objs.size 0:=by
   have:=qv4 (s.heap.push {cls:=.type "tuple_iterator",data:=.fields [.ref l,.int 0 0].toArray})
    (o:={cls:=.type "enumerate",data:=.fields [.none,.bool false,.ref s.heap.objs.size,rawInt 0,.none,.none].toArray}) rfl
   rw[e] at this;exact#[_,_,_,this,.inl rfl]
  obtain⟨_,_,_,f,_⟩:=id v;have a:∀b o,s.heap.get? b=some o->((s.heap.push {cls:=.type "tuple_iterator",data:=.fields [.ref l,.int 0 0].toArray}).push
    {cls:=.type "enumerate",data:=.fields [.none,.bool false,.ref s.heap.objs.size,rawInt 0,.none,.none].toArray}).get? b=some o:=λb o x=>qvV _ (qvV _ x)
  refine#[#[_,f,rfl],h _ v #[#[_,qvV _ (qv4 _ rfl),rfl,rfl],#[_,a _ _ u,rfl,n,rfl]] (by rw[qwD,e]) a]
end
end PySem
namespace L2
open PySem PySem.Spec PyProof.Rows
section
variable {prog:J9}{w:zX}{A:zY}{E:QAB}{s:Zw}
def qbH{b:Bool}{e it l:Qv}{i:Nat}{items:qx}{Q:QAG->Shared->Prop}(n:A.handled=none)(a:mX s.heap e it i)(st:gC b it l items i s.heap)(j:items[i]? = none)(u:∀h',Heap.ExtBut it s.heap h'->Q none {s with heap:=h'}):wpAny (model prog w) A (pyNext (.ref e)) Q E s:=by
 obtain⟨z,y,old,a,v⟩:=a;have h:s.TypeIs (.ref e) "enumerate" :=#[_,a,rfl];unfold pyNext;refine qvT (wpAny_attempt (qxd (name:=Str.ofString "__next__") h qxn
  (qwW qxn h F.entry_enumerate_next ?_ (F.args_enumerate_next_1 _))))
 show wpAny _ _ (field (.ref e) 2 >>= _) _ _ _;refine qvT (qwH a rfl (x:=.ref it) rfl ?_);refine qvT (qbE n st j λh' x f c=>?_);obtain⟨o,m,r⟩:=c;refine qvT (wpAny_isInstance (T:= "StopIteration") (b:=true) #[o,m,r] isSubtype_stop ?_);exact qvW (u _ f)
end
def qbI:entryFor table "dict.update.loop" = some Builtin.«dict.update.loop»:=entryFor_of_fast (by kernel_rfl)
def HY:plainId "dict.update.loop" = true:=by decide+kernel
def nums{a:Type}:Nat->List a->List (Key×a)
 |_,[]=>[]
 |n,x::c=>(Sum.inl (n:Int),x)::nums (n+1) c
theorem Qy:∀(n:Nat)(xs:List a),(nums n xs).length=xs.length
 |_,[]=>rfl
 |n,x::xs=>by rw[nums,qwj,qwj,Qy]
theorem qbJ:∀(n:Nat)(xs:List a)(y:a),nums n (xs++[y])=nums n xs++[(Sum.inl ((n+xs.length:Nat):Int),y)]
 |n,[],y=>rfl
 |n,x::xs,y=>by
  rw[qyq,nums,qbJ (n+1) xs y,nums,qyq,qwj,Nat.add_right_comm,Nat.add_assoc]
theorem qbK:∀(n:Nat)(xs:List f)(m:Nat),(nums n xs).any (λc=>decide (c.1=(Sum.inl (m:Int):Key)))=true->n<=m/\m<n+xs.length
 |n,[],m,h=>by simp[nums] at h
 |n,x::xs,m,h=>by
  rw[nums,qxC,Bool.or_eq_true] at h
  rcases h with h|h
  ·have a:=qwp h;injection a with a;have e:n=m:=⋯
   subst e;simp
  ·have:=qbK (n+1) xs m h;rw[qwj];lia
def qmr:∀{ys:kE}{its:QAE}(n:Nat),Vals ys its->KV (nums n ys) (nums n its):=by
 intro ys its n r
 induction r generalizing n with
 |nil=>exact .nil
 |cons h t ih=>exact .cons #[rfl,h] (ih (n+1))
section
variable {P:J9}{w:zX}{A:zY}{R:Result->Shared->Prop}{b:Bool}{e it l D:Qv}{its:QAE}
def qms(Y:A.handled=none)(N:D≠e)(H:D≠it)(h3:D≠l)(hs:its.length<=sizeLine):
  ∀(k i:Nat)(s:Zw),its.length - i=k->i<=its.length->mX s.heap e it i->gC b it l its.toArray i s.heap->s.heap.DictOf (cU P w) D (nums 0 (its.take i))->
   (∀h' tk,(∀c o,c≠D->c≠e->c≠it->s.heap.get? c=some o->h'.get? c=some o)->h'.DictOf (cU P w) D (nums 0 its)->R (.ok (.ret .none)) {s with heap:=h',toks:=tk})->
   codeAny (model P w) A (.builtin "dict.update.loop" #[[.ref D,.ref e,rawInt i,.none],[]]) R s:=by
 intro k
 induction k with
 |zero=>
  intro i s T U C f v B;obtain rfl:i=its.length:=⋯
  refine qw4 qbI ?_;rw[qwT HY _];show wpAny _ A.in1 (pyNext (.ref e) >>= _) _ _ s;refine qvT (qbH (A:=A.in1) Y C f (by simp) λh' m=>?_);refine qvT (qvW ?_);refine qvW (B h' s.toks (λc o L J y z=>m c o y z) ?_);rw[qv5] at v;exact v.extBut m H
 |succ k ih=>
  intro i s T U C f v B;have h:i<its.length:=∅
  refine qw4 qbI ?_;rw[qwT HY _];show wpAny _ A.in1 (pyNext (.ref e) >>= _) _ _ s;refine qvT (qbF C f (x:=its[i]) (by simp[h]) λh' n j M m=>?_);have hT:(Shared.mk h' s.gens s.drawn (s.toks+1) s.os).TypeIs (.ref s.heap.objs.size) "tuple" :=#[_,M,rfl];show wpAny _ A.in1 (holding _ _ >>= _) _ _ _;refine qvT (qwL ?_);refine qvT (qxM ?_);unfold Builtin.Dict.pairItems;refine qvT (wpAny_typeOf hT ?_);rw[if_pos (by decide)];refine qvT (qw9 M rfl ?_);refine qvW ?_;show wpAny _ A.in1 (holding _ (dictSet D (.int i s.toks) its[i])) _ _ _;refine qwL ?_;have E:h'.DictOf (cU P w) D (nums 0 (its.take i)):=by
   obtain⟨o,es,ep,Q,r⟩:=v;exact#[o,es,ep,m D o N H Q,r]
  refine wpAny_dictSet_pairs (knd:=cU P w) (k:=Sum.inl (i:Int)) (s:=Shared.mk h' s.gens s.drawn (s.toks+1) s.os) (Zt P w i s.toks) E (λa0 u a=>?_) (by rw[Qy,qwe];lia);have O:(i:Int)+1=((i+1:Nat):Int):=⋯
  have I:stored (nums 0 (its.take i)) (Sum.inl (i:Int)) its[i]=nums 0 (its.take (i+1)):=by
   unfold stored;rw[if_neg (λz=>?_)]
   ·rw[List.take_succ_eq_append_getElem h,qbJ,qwe,qyb ∅,qxq]
   ·have:=qbK _ _ _ z;rw[qwe] at this;lia
  rw[I] at u;rw[O] at n;refine qvW #[qxD HY _,?_];show codeAny _ A (.builtin "dict.update.loop" #[[.ref D,.ref e,rawInt ((i:Int)+1),.none],[]]) _ _;rw[O];refine ih (i+1) _ ⋯ h ?_ (Ae j (λo z=>(a.2 _ H.symm).trans z) (λo z=>(a.2 _ h3.symm).trans z)) u λG tk Dv bJ=>?_
  ·obtain⟨f0,f1,old,q,hf⟩:=n;exact#[f0,f1,old,(a.2 _ N.symm).trans q,hf]
  ·exact B G tk (λc o L J y z=>Dv c o L J y ((a.2 c L).trans (m c o J y z))) bJ
end
section
variable {P:J9}{w:zX}{A:zY}{E:QAB}{s:Zw}{b:Bool}{e it l:Qv}{its:QAE}
def qmt{Q:QAB}(a:s.TypeIs (.ref e) "enumerate")(h:Q (.ref e) s):wpAny (model P w) A (pyIter (.ref e)) Q E s:=by
 refine wpAny_pyIter_slot a qyf (qwW qyf a F.entry_enumerate_iter ?_ (F.args_enumerate_iter_1 _));show wpAny _ _ (ret (.ref e)) _ _ s;exact qvW #[_,rfl, "enumerate",_,a,qxn.lookup,h]
def qmu{Q:QAB}(G:A.handled=none)(hE:mX s.heap e it 0)(i:gC b it l its.toArray 0 s.heap)(I:its.length<=sizeLine)(h:∀h' tk,(∀c o,c≠e->c≠it->s.heap.get? c=some o->h'.get? c=some o)->h'.DictOf (cU P w) s.heap.objs.size (nums 0 its)->Q (.ref s.heap.objs.size) {s with heap:=h',toks:=tk}):
  wpAny (model P w) A (call (.type "dict") [.ref e]) Q E s:=by
 obtain⟨f0,f1,old,u,M⟩:=hE;obtain⟨oi,Ti,y,O,U⟩:=qbC i;obtain⟨ol,Tl,v,N,T⟩:=qbD i;refine callType_codes (Q₁:=λobj f=>obj = .ref s.heap.objs.size/\f={s with heap:=s.heap.push {cls:=.type "dict",data:=.dict #[]}}) F.kt_called_dict (F.kt_typeCall_dict_1 _) F.entry_dict_init (kt_code_dict_new _ #[rfl,rfl]) ?_;rintro obj f ⟨rfl,rfl⟩;have a:(s.heap.push {cls:=.type "dict",data:=.dict #[]}).DictOf (cU P w) s.heap.objs.size []:=Heap.DictOf.new s.heap;have j:∀c o,s.heap.get? c=some o->(s.heap.push {cls:=.type "dict",data:=.dict #[]}).get? c=some o:=λc o z=>qvV _ z;have ne:∀{c o},s.heap.get? c=some o->s.heap.objs.size≠c:=λz=>qw_ (qv2 z);have Y:(Shared.mk (s.heap.push {cls:=.type "dict",data:=.dict #[]}) s.gens s.drawn s.toks s.os).TypeIs (.ref e) "enumerate" :=#[_,j _ _ u,rfl];refine#[a.typeIs,F.args_dict_init_2 _ _,?_];unfold Builtin.«dict.__init__»;refine qvT ?_;unfold Builtin.Dict.selfAndRest;refine qvT (wpAny_notOrdered_dict a.typeIs ?_);show wpAny _ _ (pure (s.heap.objs.size,[Value.ref e])) _ _ _;refine qvW ?_;show wpAny _ _ (Builtin.Dict.updateFrom "dict.__init__" s.heap.objs.size (.ref e) [] .none) _ _ _;unfold Builtin.Dict.updateFrom;refine qvT (wpAny_typeOf Y ?_);rw[if_pos (by decide)];show wpAny (model P w) A.in1.in1 (getAttr? (.ref e) "keys" >>= _) _ _ _;refine qvT (qmp (A:=A.in1.in1) (j _ _ u) G λD m n=>?_);have H:=n _ _ (j _ _ u);have B:(Shared.mk D s.gens s.drawn m s.os).TypeIs (.ref e) "enumerate" :=#[_,H,rfl];simp only[Option.isNone_none,if_true];refine qvT (qxF ?_);refine qvT (qmt (s:=Shared.mk D s.gens s.drawn m s.os) B ?_);refine qvW #[qxD HY _,?_];have C:D.DictOf (cU P w) s.heap.objs.size []:=by
  obtain⟨o,es,ep,J,r⟩:=a;exact#[o,es,ep,n _ o J,r]
 refine qms (A:=A.in1) (b:=b) (l:=l) (it:=it) G (ne u) (ne y) (ne v) I its.length 0 _ ⋯ (qwF _) #[f0,f1,old,H,M] (Ae i (λo z=>n _ _ (j _ _ z)) (λo z=>n _ _ (j _ _ z))) (by simpa [nums] using C) λh' tk L hD=>#[rfl,h h' tk (λc o c1 c2 z=>L c o (ne z).symm c1 c2 (n _ _ (j _ _ z))) hD]
end
section
variable {X:Cx}{K:W5}
@[simp] def tDE(K:W5)(t:TA):TE:=λf H Q=>t f H λh c=>∃a e,h=[.ref a]/\(au K c a e\/aQ K c a e)/\∀p,c p=none->Q (.ref p) (upd c p (.dK (nums 0 e)))
def qbL(hK:X.K=K)(hc:X.calm=true){a:zp}{N:TA}{p A pos f:Pos}(L:Gl X "dict")(G:X.mg "dict" = none)(J:Gl X "enumerate")(E:X.mg "enumerate" = none)(ha:PA X [a] N)(hs:starEach [a] X.env=[(false,eval a X.env)]:=by rfl)(w:starEach [.Call (.Name "enumerate" A) [a] [] f] X.env=[(false,eval (.Call (.Name "enumerate" A) [a] [] f) X.env)]:=by rfl):
  PE X (.Call (.Name "dict" p) [.Call (.Name "enumerate" A) [a] [] f] [] pos) (tDE K N):=by
 subst hK;intro p_ s O H Q I h;refine qwO (lB I L G qkY ?_ (by decide) (by decide));refine qwB ?_ (by rw[w];rfl) (by rfl);rw[w];show wpAny _ _ (spliced ((false,eval (.Call (.Name "enumerate" A) [a] [] f) X.env)::[])) _ _ s;refine qxH ?_;refine qwO (lB I J E Qn ?_ (by decide) (by decide));refine qwB (aD (ha f p_ s O H _ I h) λus n T=>?_) (by rw[hs];rfl) (by rfl);obtain⟨vs,H1,m,r1,q1⟩:=T;obtain⟨D,B,rfl,v,q⟩:=q1;obtain⟨u,rfl,r⟩:=vals1 r1;obtain rfl:u=Value.ref D:=r;have go:∃(b:Bool)(e:QAE),Vals B e/\e.length<=sizeLine/\(match b with|true=>n.heap.IsList D e.toArray|false=>n.heap.IsTuple D e.toArray):=by
  rcases v with v|v
  ·obtain⟨e,i,C,l⟩:=m.list v;exact#[true,e,i,by rw[<- i.length];exact l,C.isList]
  ·obtain⟨e,i,C,l⟩:=m.tuple v;exact#[false,e,i,by rw[<- i.length];exact l,C]
 obtain⟨b,e,i,l,hL⟩:=go;refine qbG (b:=b) hL λy b1 b2 b3 kk=>?_;refine qyi ?_;refine qmu (s:={n with heap:=y}) (b:=b) (m.ok.hd hc) b1 b2 l λM Y km hD=>?_;have U:∀c o,n.heap.get? c=some o->M.get? c=some o:=λc o z=>km c o (qwk (qxQ (qv2 z))) (qwk (qv2 z)) (kk c o z);have j:n.heap.objs.size<=y.objs.size:=by rw[b3];lia
 have hf:H1 y.objs.size=none:=m.hok.fresh j;refine#[.ref y.objs.size,_,m.laid (o:=.dK (nums 0 B)) (t':=Y) U j ?_,rfl,q _ hf];refine(show b_ _ _ _ _ _ (.dK (nums 0 B)) from#[by rw[Qy,i.length];exact l,?_,nums 0 e,qmr 0 i,hD]);have h1:=m.big;have M:sysModules<y.objs.size:=qv_ h1 j;exact qxA.mpr (qw_ M)
end
structure Nm3(mg:Zu):Prop where
 sum:mg "sum" = none
def boot_sum:bootBuiltins "sum" = some (.builtin "sum"):=by decide+kernel
theorem H_:∀{ys:QAH}{us:QAE},Vals (ys.map V.str) us->StrsAre us ys
 |[],_,r=>by rw[qx7] at r;cases r;exact .nil
 |y::ys,_,r=>by
  rw[qwd] at r;cases r with
  |cons h t=>
   obtain⟨k,rfl⟩:=h;exact .cons y k (H_ t)
theorem qbM:∀{ns:qZ}{us:QAE},Vals (ns.map V.int) us->∃l:List (Int×Tok),us.toArray=intItems l.toArray/\l.map (·.1)=ns
 |[],_,r=>by rw[qx7] at r;cases r;exact#[[],by simp[intItems],rfl]
 |y::e,_,r=>by
  rw[qwd] at r;cases r with
  | @cons _ _ _ us h t=>
   obtain⟨k,rfl⟩:=h;obtain⟨l,c,a⟩:=qbM t;refine#[(y,k)::l,?_,by rw[qwd,a]];have:us=l.map λp=>Value.int p.1 p.2:=by simpa [intItems] using qws Array.toList c
   rw[this];simp[intItems]
section
variable {X:Cx}{K:W5}
@[simp] def rJoin:V->List V->Hp->VK->Prop:=λx e H Q=>∃(a:Str)(l:Qv)(c:QAH),x = .str a/\e=[.ref l]/\H l=some (.lst (c.map V.str))/\(c.map (·.length)).sum+c.length * a.length<=16777216/\Q (.str (Txt.join a c)) H
def qmv:gO X "str.join" rJoin:=by
 intro B s w H x z v A Q I e i q;obtain⟨c,l,y,rfl,rfl,r,o,q⟩:=q;obtain⟨u,rfl,h⟩:=i.one;obtain rfl:u=Value.ref l:=h;obtain⟨t,rfl⟩:=e;obtain⟨m,f,j,n⟩:=I.list (au.of r);exact join_list j.isList (by simpa using H_ f) o λa k=>#[.str _,H,I.tok _,#[a,rfl],q]
@[simp] def qbN(K:W5):V->List V->Hp->VK->Prop:=λx c H Q=>∃(l:Qv)(a:QAH)(k:Str),x = .ref l/\c=[.str k]/\au K H l (a.map V.str)/\Q (.int (a.count k:Nat)) H
theorem qbO(k:Str):∀ys:QAH,countIn (.str k) (ys.map PyData.str)=((ys.count k:Nat):Int)
 |[]=>rfl
 |y::ys=>by
  rw[countIn_strs_sum,qwd,qxg,<- countIn_strs_sum,qbO k ys,List.count_cons]
  by_cases h:(y == k)=true
  ·rw[if_pos h,if_pos h];lia
  ·rw[if_neg h,if_neg h];lia
def qmw(n:X.K=K):gO X "list.count" (qbN K):=by
 subst n;intro z s o H x w v y Q I a f q;obtain⟨l,r,k,rfl,rfl,m,q⟩:=q;obtain⟨u,rfl,e⟩:=f.one;obtain⟨t,rfl⟩:=e;obtain rfl:v=Value.ref l:=a;obtain⟨i,c,h,j⟩:=I.list m;refine count_list_strs h.isList (H_ c) ?_;rw[qbO];exact#[.int _,H,I.tok _,#[_,rfl],q]
@[simp] def qbP(K:W5):List V->Hp->VK->Prop:=λc H Q=>∃(l:Qv)(a:qZ),c=[.ref l]/\au K H l (a.map V.int)/\Q (.int a.sum) H
def qmx(z:X.K=K)(y:X.calm=true):bY X (.builtin "sum") (qbP K):=by
 subst z;intro G s C H D E Q I r h;obtain⟨l,j,rfl,w,q⟩:=h;obtain⟨u,rfl,f⟩:=r.one;obtain rfl:u=Value.ref l:=f;obtain⟨o,e,i,v⟩:=I.list w;obtain⟨m,B,A⟩:=qbM e;have a:=i.isList;rw[B] at a;refine sum_intListG (I.ok.hd y) a λJ c t' n=>#[.int _,H,I.kept (t':=c) n,#[t',rfl],?_];rw[preSum_eq,qx8 (by simp)];rw[show(m.toArray.toList.map (·.1))=j from A];exact q
def qmy(a:X.K=K):tQ X (Hr K):=by subst a;exact qkt
@[simp ↓] theorem quq(K:W5)x lo c H Q:Hr K x lo c H Q=(∃a xs,x = .ref a/\au K H a xs/\∀p,H p=none->Q (.ref p) (upd H p (.lst (jU xs lo c)))):=rfl
theorem qbQ:∀(xs:QAH)(a:Array Nat),(xs.foldl (λc p=>c++(Str.ofString "").cps++p.cps) a).toList=a.toList++xs.flatMap (·.cps.toList)
 |[],a=>by simp
 |x::xs,a=>by
  rw[List.foldl_cons,qbQ xs];rw[show(Str.ofString "").cps = #[] from rfl,Array.append_empty];simp
def qmz(ys:QAH):(Txt.join (Str.ofString "") ys).cps.toList=ys.flatMap (·.cps.toList):=by
 cases ys with
 |nil=>rfl
 |cons x a=>
  show(List.foldl _ x.cps a).toList=_;exact(qbQ a x.cps).trans (by simp)
theorem Qz:∀(ys:QAH),(∀y∈ys,∃n,n<26/\y=#[[97+n].toArray])->(ys.flatMap (·.cps.toList)).length=ys.length/\(ys.flatMap (·.cps.toList)).all jj=true/\(ys.map (·.length)).sum=ys.length
 |[],_=>by simp
 |y::ys,h=>by
  obtain⟨n,c,rfl⟩:=h y (qv3 ..);obtain⟨i,f,e⟩:=Qz ys λz a=>h z (qvZ _ a);refine#[by simp only[List.flatMap_cons,qwm,qwj,i];simp;lia,by rw[List.flatMap_cons,List.all_append,f];simp[qaZ n c],?_];rw[qwd,qxg,e,qwj];show 1+_=_;omega
def qY.glue{c k:Nat}{x:Str}(h:qY c k x)(r:0<k){ys:QAH}(i:∀y∈ys,∃n,n<26/\y=#[[97+n].toArray]):qY c (k+ys.length) (x++Txt.join (Str.ofString "") ys):=by
 obtain⟨o,m,l⟩:=h;obtain⟨f,a,_⟩:=Qz ys i;have e:=qmz ys;have j:x.cps.size=k:=o;refine#[?_,?_,?_]
 ·show(x.cps++(Txt.join (Str.ofString "") ys).cps).size=_;rw[qxw,j,<- qys,e,f]
 ·show(x.cps++(Txt.join (Str.ofString "") ys).cps)[0]? = _;rw[Array.getElem?_append_left ⋯];exact m
 ·show(x.cps++(Txt.join (Str.ofString "") ys).cps).toList.all jj=true;rw[Array.toList_append,List.all_append,l,e,a];rfl
end
def qmA{n l m j i}(S:bM a sc c r f N)(M:(bD X a c n l m j i).calm=true)(I:PI (bD X a c n l m j i) y iter z)(J:∀C s H u o,PG (bD (bD X a c n l m j i) sc N C s H u o) y g)(D:∀C s H u o,jV (bD (bD X a c n l m j i) sc N C s H u o) v A)(L:∀C s H u o,PE (bD (bD X a c n l m j i) sc N C s H u o) w B)(E:∀x,foldedSetIterable iter (bD X a c n l m j i).env x=pure x:=by intro _;rfl):PE (bD X a c n l m j i) (.ListComp w [#[y,iter,v,0]] sc pos) (Du r f z g A B):=by
 have O:bM (relabel a X.env) sc c r f N:=by
  refine#[S.kind,S.uniq,S.nd,S.names,λp G e=>?_,S.qax];rw[PK]
  rcases S.free p G e with h|h
  ·rw[h];exact .inl rfl
  ·rw[h];simp only[Option.map_some];split
   ·exact .inl rfl
   ·exact .inr rfl
 exact fJ (ps:=relabel a X.env) (pN:=c) rfl rfl O M I J D L E
def iu(ns:qZ):List PyData:=ns.map PyData.int
theorem qbR{K:W5}{H:Hp}:∀ns:List Int,n6 K H (iu ns) (ns.map V.int)
 |[]=>rfl
 |n::ns=>#[_,_,rfl,rfl,qbR ns]
theorem lay_ints:∀ns:List Int,PyData.canLayAll0 (iu ns)=true
 |[]=>by simp[iu,PyData.canLayAll0]
 |x::a=>by
  have:=lay_ints a;simp[iu] at this;simp[iu,PyData.canLayAll0,PyData.canLay0,this]
theorem qbS:∀xs:List Int,PyData.depthAll (iu xs)<=1
 |[]=>by simp[iu,PyData.depthAll]
 |x::xs=>by
  have:=qbS xs;simp[iu] at this;simp[iu,PyData.depthAll,PyData.depth,this]
theorem qbT:∀a b:List Int,PyData.eqvAll (iu a) (iu b)=decide (a=b)
 |[],[]=>rfl
 |[],y::b=>by simp[iu,PyData.eqvAll]
 |x::a,[]=>by simp[iu,PyData.eqvAll]
 |x::a,y::b=>by
  show(PyData.eqv (.int x) (.int y) && PyData.eqvAll (iu a) (iu b))=_;rw[qbT a b,qw3];simp[PyData.eqv]
def jA(n:Int)(e:Str×Str):Str:=if n=0 then e.1 else e.2
def fj(n:Int)(e:Str×Str):Str:=if n=0 then e.2 else e.1
def dB:List Int->List (Str×Str)->Nat->List bL
 |n::c,e::a,k=>(k,jA n e,fj n e)::dB c a (k+1)
 |_,_,_=>[]
theorem QB(f:xP):∀(ps:QAD)(ns:qZ)(k:Nat),(∀i,f (k+i)=ns[i]?)->ns.length=ps.length->(∀n∈ns,0<=n/\n<=1)->jz f ps k=dB ns ps k
 |[],ns,k,_,a,_=>by
  have:ns=[]:=List.length_eq_zero_iff.mp a;subst this;rfl
 |e::ps,[],k,_,a,_=>by simp at a
 |e::ps,n::ns,k,h,a,c=>by
  have j:=h 0;rw[Nat.add_zero] at j;have o:=c n qv3;have ih:=QB f ps ns (k+1) (λi=>by rw[show k+1+i=k+(i+1) by lia,h (i+1)];simp) (by simpa using a) λm l=>c m (qvZ _ l);rw[jz,dB,ih];unfold HX jA fj;rw[j];have:n=0\/n=1:=⋯
  rcases this with rfl|rfl <;> simp
def dJ:List Int->List (Str×Str)->List Str
 |n::c,e::a=>fj n e::dJ c a
 |_,_=>[]
def Ia(c:QAH):List Int->List (Str×Str)->Nat
 |n::f,e::a=>(if ¬jA n e∈c/\fj n e∈c then 1 else 0)+Ia c f a
 |_,_=>0
def QC(c:QAH)(ps:QAD):Nat:=(ps.filter λe=>decide (e.1∈c) && decide (e.2∈c)).length
theorem QD:∀(ns:qZ)(ps:QAD)(k:Nat),(dB ns ps k).map (·.2.2)=dJ ns ps
 |[],_,_=>by simp[dB,dJ]
 |n::ns,[],_=>by simp[dB,dJ]
 |n::ns,e::ps,k=>by rw[dB,dJ,qwd,QD ns ps]
theorem Ib:∀(ns:qZ)(ps:QAD)(c:QAH),ns.length=ps.length->((dJ ns ps).filter λx=>decide (x∈c)).length=QC c ps+Ia c ns ps
 |[],[],c,_=>by simp[dJ,QC,Ia]
 |[],e::ps,c,h=>by simp at h
 |n::ns,[],c,h=>by simp at h
 |n::ns,e::ps,c,h=>by
  have ih:=Ib ns ps c (by simpa using h);unfold QC at ih⊢;rw[dJ,Ia,qwX,qwX];unfold fj jA
  by_cases i:e.1∈c <;> by_cases f:e.2∈c <;> by_cases a:n=0 <;> simp[i,f,a] <;> omega
theorem QF(k:Str):∀{vs:QAE}{ys:QAH},StrsAre vs ys->∀(j:Nat)(c:j<vs.length)(a:j<ys.length),isStrOf k vs[j]=(ys[j] == k)
 |_,_,.cons n t _,0,_,_=>rfl
 |_,_,.cons n t r,j+1,c,a=>QF k r j (qx_ c) (qx_ a)
theorem qbU:∀{ys:QAH}{j:Nat},j<ys.idxOf k->∀(a:j<ys.length),(ys[j] == k)=false
 |n::r,0,h,_=>by
  by_cases e:n=k
  ·subst e;simp at h
  ·simpa using e
 |n::r,j+1,h,a=>by
  by_cases e:n=k
  ·subst e;simp at h
  ·have c:(n == k)=false:=by simpa using e
   have f:j<r.idxOf k:=by
    rw[List.idxOf_cons,c] at h;exact qx_ h
   exact qbU f (qx_ a)
theorem qbV:∀{vs:QAE}{ys:QAH},StrsAre vs ys->vs.length=ys.length
 |_,_,.nil=>rfl
 |_,_,.cons _ _ r=>qws (· + 1) (qbV r)
section
variable {X:Cx}{K:W5}
@[simp] def qbW(K:W5):V->List V->Hp->VK->Prop:=λx c H Q=>∃(l:Qv)(a:QAH)(k:Str),x = .ref l/\c=[.str k]/\au K H l (a.map V.str)/\k∈a/\Q (.int (a.idxOf k:Nat)) H
def qmB(T:X.K=K):gO X "list.index" (qbW K):=by
 subst T;intro p_ s σ H x xs v us Q I C G q;obtain⟨l,c,k,rfl,rfl,N,O,q⟩:=q;obtain⟨u,rfl,E⟩:=G.one;obtain⟨t,rfl⟩:=E;obtain rfl:v=Value.ref l:=C;obtain⟨a,D,J,h⟩:=I.list N;have f:=H_ D;obtain⟨⟨Y,U,A,B⟩,r,z,n,w⟩:=J.isList;simp only at z w;subst z w;have e:=qbV f;have o:c.idxOf k<c.length:=List.idxOf_lt_length_iff.mpr O;have L:c.length<=sizeLine:=by simpa using h
 have hs:sizeLine=2 ^ 24:=rfl;refine qx6 qxX #[_,r,rfl] PySem.F.entry_list_index (PySem.F.args_list_index_2 _ _)
  (SeqAt.list_indexAt l a.toArray n U B (.str k t) (isStrOf k) (c.idxOf k) (by simpa [e] using o) ⋯ ?_ ?_) #[r,λy M=>(eq_isStrOf k t f y (by simpa using M)).at _ _,#[.int _,H,I.tok _,#[_,rfl],q]]
 ·show isStrOf k a[c.idxOf k]=true;rw[QF k f _ ∅ o];simpa using List.getElem_idxOf o
 ·intro j m i;show isStrOf k a[j]=false;rw[QF k f j (by simpa using m) ⋯];exact qbU i _
@[simp] def qur(K:W5):List V->Hp->VK->Prop:=λc H Q=>∃(l:Qv)(a:qZ),c=[.ref l]/\au K H l (a.map V.int)/\a≠[]/\∀m,m∈a->(∀x∈a,m<=x)->Q (.int m) H
@[simp] def qus(K:W5):List V->Hp->VK->Prop:=λc H Q=>∃(l:Qv)(a:qZ),c=[.ref l]/\au K H l (a.map V.int)/\a≠[]/\∀m,m∈a->(∀x∈a,x<=m)->Q (.int m) H
@[simp] def qut(K:W5):List V->Hp->VK->Prop:=λa H Q=>∃(v:V)(d:PyData),a=[v]/\Is K H d v/\d.showable=true/\d.hasDict=false/\d.depth<=32/\d.shown.length<=sizeLine/\Q (.str d.shown) H
def boot_repr:bootBuiltins "repr" = some (.builtin "repr"):=by decide+kernel
end
def isInt(x:V)(R:Int->Prop):Prop:=match x with|.int i=>R i|_=>False
def isStr(x:V)(R:Str->Prop):Prop:=match x with|.str i=>R i|_=>False
def gD(x:V)(R:Bool->Prop):Prop:=match x with|.bl i=>R i|_=>False
def isRef(x:V)(R:Addr->Prop):Prop:=match x with|.ref i=>R i|_=>False
def DN(x:V)(R:String->Prop):Prop:=match x with|.ty n=>R n|_=>False
def uf(xs:kE)(R:Prop):Prop:=match xs with|[]=>R|_=>False
def ar1(xs:kE)(R:V->Prop):Prop:=match xs with|[x]=>R x|_=>False
def ar2(xs:kE)(R:V->V->Prop):Prop:=match xs with|[x,y]=>R x y|_=>False
def Ag(xs:kE)(R:V->List V->Prop):Prop:=match xs with|x::r=>R x r|[]=>False
def getSt:St->Nat->(V->Prop)->Prop
 |[],_,_=>False
 |o::_,0,R=>match o with|some v=>R v|none=>False
 |_::a,n+1,R=>getSt a n R
@[simp ↓] theorem quu(i:Int)R:isInt (.int i) R=R i:=rfl
@[simp ↓] theorem quv(i:Str)R:isStr (.str i) R=R i:=rfl
@[simp ↓] theorem quw(i:Bool)R:gD (.bl i) R=R i:=rfl
@[simp ↓] theorem quy(i:Qv)R:isRef (.ref i) R=R i:=rfl
@[simp ↓] theorem quz(i:String)R:DN (.ty i) R=R i:=rfl
@[simp ↓] theorem quAR:uf [] R=R:=rfl
@[simp ↓] theorem quBx R:ar1 [x] R=R x:=rfl
@[simp ↓] theorem quCx y R:ar2 [x,y] R=R x y:=rfl
@[simp ↓] theorem quDx r R:Ag (x::r) R=R x r:=rfl
@[simp ↓] theorem quEv σ R:getSt (some v::σ) 0 R=R v:=rfl
@[simp ↓] theorem quFo σ n R:getSt (o::σ) (n+1) R=getSt σ n R:=rfl
def isInt.out{R}(h:isInt x R):∃i,x = .int i/\R i:=by cases x <;> first|exact#[_,rfl,h]|exact h.elim
def isStr.out{R}(h:isStr x R):∃i,x = .str i/\R i:=by cases x <;> first|exact#[_,rfl,h]|exact h.elim
def gD.out{R}(h:gD x R):∃i,x = .bl i/\R i:=by cases x <;> first|exact#[_,rfl,h]|exact h.elim
def isRef.out{R}(h:isRef x R):∃i,x = .ref i/\R i:=by cases x <;> first|exact#[_,rfl,h]|exact h.elim
def DN.out{R}(h:DN x R):∃i,x = .ty i/\R i:=by cases x <;> first|exact#[_,rfl,h]|exact h.elim
def uf.out{R}(h:uf xs R):xs=[]/\R:=by cases xs <;> first|exact#[rfl,h]|exact h.elim
def ar1.out{R}(h:ar1 xs R):∃x,xs=[x]/\R x:=by
 match xs,h with
 |[x],h=>exact#[x,rfl,h]
def ar2.out{R}(h:ar2 xs R):∃x y,xs=[x,y]/\R x y:=by
 match xs,h with
 |[x,y],h=>exact#[x,y,rfl,h]
def Ag.out{R}(h:Ag xs R):∃x r,xs=x::r/\R x r:=by cases xs <;> first|exact#[_,_,rfl,h]|exact h.elim
theorem getSt.out:∀{σ:St}{i:Nat}{R},getSt σ i R->∃v,σ[i]? = some (some v)/\R v
 |[],_,_,h=>h.elim
 |some v::_,0,_,h=>#[v,rfl,h]
 |none::_,0,_,h=>h.elim
 |_::σ,n+1,R,h=>by
  obtain⟨v,e,q⟩:=getSt.out (σ:=σ) (i:=n) h;exact#[v,by simpa using e,q]
def PE.mono(o:PE X e t)(h:∀{σ H Q},t' σ H Q->t σ H Q):PE X e t':=λa s σ H Q I q=>o a s σ H Q I (h q)
def PS.mono(o:PS X e t)(h:∀{D σ H},t' D σ H->t D σ H):PS X e t':=λa s σ H D I q=>o a s σ H D I (h q)
def bB.mono(o:bB X e t)(h:∀{v σ H Q},t' v σ H Q->t v σ H Q):bB X e t':=λa s σ H v u Q I r q=>o a s σ H v u Q I r (h q)
def aZ.mono(o:aZ X f r)(h:∀{x y H Q},i x y H Q->r x y H Q):aZ X f i:=λj s a H x y v u Q I e c q=>o j s a H x y v u Q I e c (h q)
def wW.mono(o:wW X f r)(h:∀{x H Q},e x H Q->r x H Q):wW X f e:=λi s a H x v Q I c q=>o i s a H x v Q I c (h q)
def bY.mono(o:bY X f r)(h:∀{x H Q},e x H Q->r x H Q):bY X f e:=λi s a H x v Q I c q=>o i s a H x v Q I c (h q)
def gO.mono(o:gO X f r)(h:∀{x y H Q},i x y H Q->r x y H Q):gO X f i:=λj s a H x y v u Q I e c q=>o j s a H x y v u Q I e c (h q)
def mO.mono(o:mO X r)(h:∀{x y H Q},i x y H Q->r x y H Q):mO X i:=λa b j s c H x y v u Q I f e q z=>o a b j s c H x y v u Q I f e (h q) z
def tQ.mono(o:tQ X r)(h:∀{x lo a H Q},n x lo a H Q->r x lo a H Q):tQ X n:=λu s c H x v j i lo a l Q I m f z2 e q=>o u s c H x v j i lo a l Q I m f z2 e (h q)
def zQ.mono(o:zQ X j r)(h:∀{x y H Q},f x y H Q->r x y H Q):zQ X j f:=λi s a H x y v u Q I e c q=>o i s a H x y v u Q I e c (h q)
def zP.mono(o:zP X r)(h:∀{x y z H Q},f x y z H Q->r x y z H Q):zP X f:=λj s e H m i v l n u Q I a b c q=>o j s e H m i v l n u Q I a b c (h q)
def fVar(i:Nat):TE:=λa H Q=>getSt a i λv=>Q v H
@[simp ↓] theorem quG(i:Nat)σ H Q:fVar i σ H Q=getSt σ i (λv=>Q v H):=rfl
def qmC{σ H Q}(h:fVar i σ H Q):Ou i σ H Q:=getSt.out h
def jY:QAH->List V->St
 |_::N,v::a=>some v::jY N a
 |_::N,[]=>none::jY N []
 |[],_=>[]
@[simp ↓] theorem quHn N v vs:jY (n::N) (v::vs)=some v::jY N vs:=rfl
@[simp ↓] theorem quIn N:jY (n::N) []=none::jY N []:=rfl
@[simp ↓] theorem quJ:jY [] []=[]:=rfl
theorem Ah:∀(N:QAH)(vs:kE),vs.length<=N.length->jY N vs=start N vs
 |[],[],_=>rfl
 |[],_::_,h=>by simp at h
 |n::N,[],_=>by
  rw[jY,Ah N [] (by simp)];simp[start,qw7]
 |n::N,v::vs,h=>by
  rw[jY,Ah N vs (by simpa using h)];simp[start]
@[simp] def jB(g:Int->Int->V):R2:=λx y H Q=>isInt x λi=>isInt y λj=>Q (g i j) H
@[simp] def fI(C:Int->Int->Prop)(g:Int->Int->V):R2:=λx y H Q=>isInt x λi=>isInt y λj=>C i j/\Q (g i j) H
@[simp] def fU(g:Int->V):V->Hp->VK->Prop:=λx H Q=>isInt x λi=>Q (g i) H
def Ai{x y H Q}(h:jB g x y H Q):qM g x y H Q:=by
 obtain⟨i,rfl,c⟩:=isInt.out h;obtain⟨j,rfl,a⟩:=isInt.out c;exact#[i,j,rfl,rfl,a]
def Ie{C}{x y H Q}(h:fI C g x y H Q):rI C g x y H Q:=by
 obtain⟨i,rfl,c⟩:=isInt.out h;obtain⟨j,rfl,a⟩:=isInt.out c;exact#[i,j,rfl,rfl,a]
def qmD{x H Q}(h:fU g x H Q):rU g x H Q:=by
 obtain⟨i,rfl,h⟩:=isInt.out h;exact#[i,rfl,h]
def fEq:R2:=λx y H Q=>match x,y with
 |.int i,.int j=>Q (.bl (decide (i=j))) H
 |.str i,.str j=>Q (.bl (decide (i=j))) H
 |.bl i,.bl j=>Q (.bl (decide (i=j))) H
 |x,y=>mH x y=true/\Q (.bl (decide (x=y))) H
def pJ:R2:=λx y H Q=>match x,y with
 |.int i,.int j=>∃k,decide (i=j) = !k/\Q (.bl k) H
 |.str i,.str j=>∃k,decide (i=j) = !k/\Q (.bl k) H
 |.bl i,.bl j=>∃k,decide (i=j) = !k/\Q (.bl k) H
 |x,y=>mH x y=true/\∃k,decide (x=y) = !k/\Q (.bl k) H
@[simp ↓] theorem quKi j H Q:fEq (.int i) (.int j) H Q=Q (.bl (decide (i=j))) H:=rfl
@[simp ↓] theorem quLi j H Q:fEq (.str i) (.str j) H Q=Q (.bl (decide (i=j))) H:=rfl
@[simp ↓] theorem quMi j H Q:fEq (.bl i) (.bl j) H Q=Q (.bl (decide (i=j))) H:=rfl
@[simp ↓] theorem quNi j H Q:pJ (.int i) (.int j) H Q=∃k,decide (i=j) = !k/\Q (.bl k) H:=rfl
@[simp ↓] theorem quOi j H Q:pJ (.str i) (.str j) H Q=∃k,decide (i=j) = !k/\Q (.bl k) H:=rfl
@[simp ↓] theorem quPi j H Q:pJ (.bl i) (.bl j) H Q=∃k,decide (i=j) = !k/\Q (.bl k) H:=rfl
def Aj{b:Bool}{R:Bool->Prop}(h:∃k,b = !k/\R k):R (!b):=by
 obtain⟨k,e,q⟩:=h;rw[e,Bool.not_not];exact q
def qmE{x y H Q}(h:fEq x y H Q):Z7 x y H Q:=by
 unfold fEq at h;split at h
 ·exact#[rfl,by simpa using h]
 ·exact#[rfl,by simpa using h]
 ·exact#[rfl,by simpa using h]
 ·exact h
def qmF{x y H Q}(h:pJ x y H Q):Z8 x y H Q:=by
 unfold pJ at h;split at h
 ·exact#[rfl,by simpa using Aj (R:=λk=>Q (.bl k) H) h]
 ·exact#[rfl,by simpa using Aj (R:=λk=>Q (.bl k) H) h]
 ·exact#[rfl,by simpa using Aj (R:=λk=>Q (.bl k) H) h]
 ·exact#[h.1,Aj (R:=λk=>Q (.bl k) H) h.2]
@[simp] def QG:R2:=λx y H Q=>isStr x λi=>isStr y λj=>i.length+j.length<=sizeLine/\Q (.str (i++j)) H
def qmG{x y H Q}(h:QG x y H Q):qlc x y H Q:=by
 obtain⟨i,rfl,c⟩:=isStr.out h;obtain⟨j,rfl,a⟩:=isStr.out c;exact#[i,j,rfl,rfl,a]
@[simp] def QH:R2:=λx y H Q=>isRef x λl=>isRef y λb=>∃c,H l=some (.lst c)/\∃a,H b=some (.lst a)/\c.length+a.length<=sizeLine/\∀p,H p=none->Q (.ref p) (upd H p (.lst (c++a)))
def qmH{x y H Q}(h:QH x y H Q):qau x y H Q:=by
 obtain⟨i,rfl,m⟩:=isRef.out h;obtain⟨j,rfl,c,l,a,f,e⟩:=isRef.out m;exact#[i,j,c,a,rfl,rfl,l,f,e]
@[simp] def qmI:R2:=λx y H Q=>isRef x λl=>isInt y λk=>∃a,H l=some (.lst a)/\-(2 ^ 63)<=k/\k<2 ^ 63/\a.length * k.toNat<=sizeLine/\∀p,H p=none->Q (.ref p) (upd H p (.lst (List.replicate k.toNat a).flatten))
@[simp] def iK(t:TE):TT:=λa H Q=>t a H λx c=>gD x λk=>Q k c
@[simp] def qbX(e:TE):TE:=λa H Q=>e a H λx f=>gD x λc=>Q (.bl (!c)) f
@[simp] def qbY(f tb:TE):TE:=λa H Q=>f a H λx e=>gD x λc=>aM c (tb a e Q) (Q (.bl false) e) #[0]
@[simp] def quQ(f tb:TE):TE:=λa H Q=>f a H λx e=>gD x λc=>aM c (Q (.bl true) e) (tb a e Q) #[0]
@[simp] def QJ(r h:R2)(f tb e:TE):TE:=λa H Q=>f a H λx l=>tb a l λy j=>r x y j λz c=>gD z λk=>aM k (e a c λw' i=>h y w' i Q) (Q (.bl false) c) #[0]
section
variable {X:Cx}{K:W5}{a b c:zp}{ta tb tc:TE}{tA:TT}{pos:Pos}
def aj(i:Nat)(j:X.N[i]? = some x:=by rfl)(f:zL X.env.scope x:=by first|exact Or.inl rfl|exact Or.inr (Or.inl rfl)|exact Or.inr (Or.inr rfl))(h:iG x:=by decide)(e:(x == ("__classdict__" : Str))=false:=by decide):PE X (.Name x pos) (fVar i):=(Zy j f h e).mono qmC
def mY:aZ X (binaryOp .Add) (jB λi j=>.int (i+j)):=qjE.mono Ai
def Ak:aZ X (binaryOp .Sub) (jB λi j=>.int (i - j)):=qjF.mono Ai
def Al:aZ X (compareOp .Lt) (jB λi j=>.bl (decide (i<j))):=qjN.mono Ai
def oA:aZ X (compareOp .LtE) (jB λi j=>.bl (decide (i<=j))):=qjO.mono Ai
def xR:aZ X (compareOp .Gt) (jB λi j=>.bl (decide (j<i))):=qjP.mono Ai
def qmJ:aZ X (compareOp .GtE) (jB λi j=>.bl (decide (j<=i))):=qjQ.mono Ai
def lO:aZ X (compareOp .Eq) fEq:=qjL.mono qmE
def jC:aZ X (compareOp .NotEq) pJ:=qjM.mono qmF
def Ig:aZ X (binaryOp .Add) QG:=qjW.mono qmG
def ug:aZ X (binaryOp .Add) QH:=qkF.mono qmH
def Ih:wW X (unaryOp .USub) (fU λi=>.int (-i)):=qjK.mono qmD
def DP(x:V)(R:Bool->Prop):gD x R=(∃k,x = .bl k/\R k):=propext #[gD.out,λ⟨k,e,q⟩=>by subst e;exact q]
def qmK(x:V)(R:Int->Prop):isInt x R=(∃k,x = .int k/\R k):=propext #[isInt.out,λ⟨k,e,q⟩=>by subst e;exact q]
def QK(x:V)(R:Addr->Prop):isRef x R=(∃k,x = .ref k/\R k):=propext #[isRef.out,λ⟨k,e,q⟩=>by subst e;exact q]
def qmL(x:V)(R:Str->Prop):isStr x R=(∃k,x = .str k/\R k):=propext #[isStr.out,λ⟨k,e,q⟩=>by subst e;exact q]
def qmM(x:kE)(R:V->V->Prop):ar2 x R=(∃k j,x=[k,j]/\R k j):=propext #[ar2.out,λ⟨k,j,e,q⟩=>by subst e;exact q]
def qmN(x:kE)(R:V->List V->Prop):Ag x R=(∃k j,x=k::j/\R k j):=propext #[Ag.out,λ⟨k,j,e,q⟩=>by subst e;exact q]
def qbZ(t:TE):iK t=O6 t:=by
 funext σ H Q
 exact qws (t σ H) (funext λx=>funext λe=>DP _ _)
def qb0(t:TE):iK t=tB t:=by
 funext σ H Q
 exact qws (t σ H) (funext λx=>funext λe=>DP _ _)
def qmO(t:TE):qbX t=ZD t:=by
 funext σ H Q
 exact qws (t σ H) (funext λx=>funext λe=>DP _ _)
def qmP(t u:TE):qbY t u=Ox t u:=by
 funext σ H Q
 exact qws (t σ H) (funext λx=>funext λe=>DP _ _)
def qb1(r e:R2)(ta tb tc:TE):QJ r e ta tb tc=Hq r e ta tb tc:=by
 funext σ H Q
 exact qws (ta σ H) (funext λx=>funext λh=>qws (tb σ h) (funext λy=>funext λf=>qws (r x y f) (funext λz=>funext λi=>DP _ _)))
def bN(f:aZ X (compareOp e) r)(j:PE X a ta)(i:PE X b tb)(h:behindInMarks e b=false):PT X (.Compare a [e] [b] pos) (iK (dX r ta tb)):=qbZ _▸qjT f j i h
def QL(h:PC X e a b t)(f:behindInMarks e b=false:=by first|exact Zz _ (by decide) (by decide)|rfl):PT X (.Compare a [e] [b] pos) (iK t):=qb0 _▸qjg h f
def fu(h:PE X e t)(i:∀f,isTrue e X.env f=(do let v <- f;standAt e.pos;holding [v] (truthy v)):=by intro _;rfl):PT X e (iK t):=qb0 _▸qjh h i
def qb2(j:aZ X (compareOp h) r)(f:aZ X (compareOp e) i)(o:PE X a ta)(n:PE X b tb)(m:PE X c tc)(l:lastMarks [h,e] [b,c]=false:=by with_unfolding_all rfl):PE X (.Compare a [h,e] [b,c] pos) (QJ r i ta tb tc):=qb1 _ _ _ _ _▸qjU j f o n m l
def Ii(j:aZ X (compareOp h) r)(f:aZ X (compareOp e) i)(o:PE X a ta)(n:PE X b tb)(m:PE X c tc)(l:lastMarks [h,e] [b,c]=false:=by with_unfolding_all rfl):PT X (.Compare a [h,e] [b,c] pos) (iK (QJ r i ta tb tc)):=by
 rw[qbZ,qb1];exact qjV j f o n m l
def qmQ(e:PE X a ta):PE X (.UnaryOp .Not a pos) (qbX ta):=qmO _▸qjk e
def uh{rest:qy}(f:PE X a ta)(e:PE X (.BoolOp .And (b::rest) pos) tb):PE X (.BoolOp .And (a::b::rest) pos) (qbY ta tb):=qmP _ _▸qjj f e
end
@[simp] def QM(K:W5):R2:=λx y H Q=>isRef x λp=>isInt y λi=>∃a,(au K H p a\/aQ K H p a)/\∃v,gM a i=some v/\Q v H
def qmR{K:W5}{x y H Q}(h:QM K x y H Q):Qe K x y H Q:=by
 obtain⟨p,rfl,j⟩:=isRef.out h;obtain⟨i,rfl,a,f,v,e,c⟩:=isInt.out j;exact#[p,a,i,v,rfl,rfl,f,e,c]
@[simp] def qb3: R2:=λx y H Q=>isStr x λz=>isInt y λi=>z.length<=sizeLine/\∃c,gM z.cps.toList i=some c/\Q (.str #[[c].toArray]) H
def qmS{x y H Q}(h:qb3 x y H Q):qap x y H Q:=by
 obtain⟨z,rfl,j⟩:=isStr.out h;obtain⟨i,rfl,f,c,e,a⟩:=isInt.out j;exact#[z,i,c,rfl,rfl,f,e,a]
@[simp] def rB(K:W5):List V->Hp->VK->Prop:=λc H Q=>ar1 c λx=>isRef x λp=>∃a,(au K H p a\/aQ K H p a)/\Q (.int a.length) H
def qmT{K:W5}{xs H Q}(h:rB K xs H Q):qaQ K xs H Q:=by
 obtain⟨x,rfl,f⟩:=ar1.out h;obtain⟨p,rfl,a,e,c⟩:=isRef.out f;exact#[p,a,rfl,e,c]
@[simp] def qb4: List V->Hp->VK->Prop:=λa H Q=>ar1 a λx=>isStr x λz=>z.length<=sizeLine/\Q (.int z.length) H
def qmU{xs H Q}(h:qb4 xs H Q):qaR xs H Q:=by
 obtain⟨x,rfl,c⟩:=ar1.out h;obtain⟨p,rfl,a⟩:=isStr.out c;exact#[p,rfl,a]
@[simp] def qb5(K:W5):List V->Hp->VK->Prop:=λc H Q=>ar1 c λx=>isRef x λp=>∃a,(au K H p a\/aQ K H p a)/\∀l,H l=none->Q (.ref l) (upd H l (.lst a))
def qmV{K:W5}{xs H Q}(h:qb5 K xs H Q):qaS K xs H Q:=by
 obtain⟨x,rfl,f⟩:=ar1.out h;obtain⟨p,rfl,a,e,c⟩:=isRef.out f;exact#[p,a,rfl,e,c]
@[simp] def QS: List V->Hp->VK->Prop:=λe H Q=>ar1 e λx=>isRef x λp=>∃c,Sq H p c/\∀l a,a l=some (.tup c)->Same H a->Q (.ref l) a
def qmW{xs H Q}(h:QS xs H Q):qaX xs H Q:=by
 obtain⟨x,rfl,f⟩:=ar1.out h;obtain⟨p,rfl,a,e,c⟩:=isRef.out f;exact#[p,a,rfl,e,c]
@[simp] def qb6(K:W5):List V->Hp->VK->Prop:=λa H Q=>ar2 a λx y=>DN y λn=>∃t,fH K H x t/\∃b,W.kitOne K t (.type n)=some b/\Q (.bl b) H
def qmX{K:W5}{xs H Q}(h:qb6 K xs H Q):qaT K xs H Q:=by
 obtain⟨x,y,rfl,f⟩:=ar2.out h;obtain⟨n,rfl,t,e,b,c,a⟩:=DN.out f;exact#[x,n,t,b,rfl,e,c,a]
@[simp] def qb7(K:W5):List V->Hp->VK->Prop:=λa H Q=>ar2 a λx y=>isRef y λp=>∃m n,H p=some (.tup [.ty m,.ty n])/\∃t,fH K H x t/\∃b,W.kitAny K t [.type m,.type n]=some b/\Q (.bl b) H
def qmY{K:W5}{xs H Q}(h:qb7 K xs H Q):qaU K xs H Q:=by
 obtain⟨x,y,rfl,f⟩:=ar2.out h;obtain⟨p,rfl,m,n,i,t,e,b,c,a⟩:=isRef.out f;exact#[x,p,m,n,t,b,rfl,i,e,c,a]
@[simp] def fIn(K:W5):R2:=λx y H Q=>isRef y λp=>∃a,(au K H p a\/aQ K H p a)/\jw x=true/\(∀z∈a,jw z=true)/\Q (.bl (inV x a)) H
def qmZ{K:W5}{x y H Q}(h:fIn K x y H Q):Hz K x y H Q:=by
 obtain⟨p,rfl,a,i,f,e,c⟩:=isRef.out h;exact .inl #[p,a,rfl,i,f,qwa.mpr e,c]
@[simp] def qb8(K:W5):R2:=λx y H Q=>isRef y λp=>∃a,(au K H p a\/aQ K H p a)/\jw x=true/\(∀z∈a,jw z=true)/\∃k,inV x a = !k/\Q (.bl k) H
def qm0{K:W5}{x y H Q}(h:qb8 K x y H Q):Qd K x y H Q:=by
 obtain⟨p,rfl,a,i,f,e,c⟩:=isRef.out h;exact .inl #[p,a,rfl,i,f,qwa.mpr e,Aj (R:=λk=>Q (.bl k) H) c]
@[simp] def qb9(K:W5):R2:=λx y H Q=>isStr x λi=>isStr y λj=>Q (.bl (!(Builtin.Str.occurrences j i 0 j.length 1).isEmpty)) H
def qm1{K:W5}{x y H Q}(h:qb9 K x y H Q):Hz K x y H Q:=by
 obtain⟨i,rfl,c⟩:=isStr.out h;obtain⟨j,rfl,a⟩:=isStr.out c;exact .inr #[i,j,rfl,rfl,a]
@[simp] def qb_: V->List V->Hp->VK->Prop:=λx c H Q=>isRef x λl=>ar1 c λy=>∃a,H l=some (.lst a)/\a.length<sizeLine/\Q .non (upd H l (.lst (a++[y])))
def qm2{x vs H Q}(h:qb_ x vs H Q):Pr x vs H Q:=by
 obtain⟨l,rfl,f⟩:=isRef.out h;obtain⟨y,rfl,a,e,c⟩:=ar1.out f;exact#[l,a,y,rfl,rfl,e,c]
@[simp] def qca: V->List V->Hp->VK->Prop:=λx c H Q=>isRef x λl=>ar2 c λj y=>isInt j λi=>∃a,H l=some (.lst a)/\0<=i/\i<=a.length/\a.length<sizeLine/\Q .non (upd H l (.lst (a.take i.toNat++y::a.drop i.toNat)))
def qm3{x vs H Q}(h:qca x vs H Q):Qa x vs H Q:=by
 obtain⟨l,rfl,f⟩:=isRef.out h;obtain⟨j,y,rfl,e⟩:=ar2.out f;obtain⟨i,rfl,a,c⟩:=isInt.out e;exact#[l,a,i,y,rfl,rfl,c]
@[simp] def quR: V->List V->Hp->VK->Prop:=λx c H Q=>isRef x λl=>uf c (∃a,H l=some (.lst a)/\Q .non (upd H l (.lst [])))
@[simp] def quS: V->List V->Hp->VK->Prop:=λx c H Q=>isRef x λl=>uf c (∃a,H l=some (.lst a)/\Q .non (upd H l (.lst a.reverse)))
@[simp] def quT: V->List V->Hp->VK->Prop:=λx c H Q=>isRef x λl=>uf c (∃a,H l=some (.lst a)/\∃y,a[a.length - 1]? = some y/\Q y (upd H l (.lst a.dropLast)))
@[simp] def quU: V->List V->Hp->VK->Prop:=λx e H Q=>isRef x λl=>ar1 e λy=>isRef y λb=>∃c,H l=some (.lst c)/\∃a,H b=some (.lst a)/\c.length+a.length<=sizeLine/\Q .non (upd H l (.lst (c++a)))
@[simp] def qcb: V->List V->Hp->VK->Prop:=λx e H Q=>isStr x λa=>ar1 e λy=>isRef y λl=>∃c:QAH,H l=some (.lst (c.map V.str))/\(c.map (·.length)).sum+c.length * a.length<=16777216/\Q (.str (Txt.join a c)) H
def qm4{x vs H Q}(h:qcb x vs H Q):rJoin x vs H Q:=by
 obtain⟨a,rfl,i⟩:=isStr.out h;obtain⟨y,rfl,f⟩:=ar1.out i;obtain⟨l,rfl,c,e⟩:=isRef.out f;exact#[a,l,c,rfl,rfl,e]
@[simp] def qcc(K:W5):V->List V->Hp->VK->Prop:=λx c H Q=>isRef x λl=>ar1 c λy=>isStr y λk=>∃a:QAH,au K H l (a.map V.str)/\Q (.int (a.count k:Nat)) H
def qm5{K:W5}{x vs H Q}(h:qcc K x vs H Q):qbN K x vs H Q:=by
 obtain⟨l,rfl,f⟩:=isRef.out h;obtain⟨y,rfl,e⟩:=ar1.out f;obtain⟨k,rfl,a,c⟩:=isStr.out e;exact#[l,a,k,rfl,rfl,c]
@[simp] def qcd(K:W5):V->List V->Hp->VK->Prop:=λx c H Q=>isRef x λl=>ar1 c λy=>isStr y λk=>∃a:QAH,au K H l (a.map V.str)/\k∈a/\Q (.int (a.idxOf k:Nat)) H
def qm6{K:W5}{x vs H Q}(h:qcd K x vs H Q):qbW K x vs H Q:=by
 obtain⟨l,rfl,f⟩:=isRef.out h;obtain⟨y,rfl,e⟩:=ar1.out f;obtain⟨k,rfl,a,c⟩:=isStr.out e;exact#[l,a,k,rfl,rfl,c]
@[simp] def qce(K:W5):List V->Hp->VK->Prop:=λc H Q=>ar1 c λx=>isRef x λl=>∃a:List Int,au K H l (a.map V.int)/\Q (.int a.sum) H
def qm7{K:W5}{xs H Q}(h:qce K xs H Q):qbP K xs H Q:=by
 obtain⟨x,rfl,e⟩:=ar1.out h;obtain⟨l,rfl,a,c⟩:=isRef.out e;exact#[l,a,rfl,c]
@[simp] def quV(K:W5):List V->Hp->VK->Prop:=λc H Q=>ar1 c λx=>isRef x λl=>∃a:List Int,au K H l (a.map V.int)/\a≠[]/\∀m,m∈a->(∀x∈a,m<=x)->Q (.int m) H
@[simp] def quW(K:W5):List V->Hp->VK->Prop:=λc H Q=>ar1 c λx=>isRef x λl=>∃a:List Int,au K H l (a.map V.int)/\a≠[]/\∀m,m∈a->(∀x∈a,x<=m)->Q (.int m) H
@[simp] def quX(K:W5):List V->Hp->VK->Prop:=λa H Q=>ar1 a λv=>∃d:PyData,Is K H d v/\d.showable=true/\d.hasDict=false/\d.depth<=32/\d.shown.length<=sizeLine/\Q (.str d.shown) H
@[simp] def qcf(K:W5):R2:=λx y H Q=>∃d,Is K H d x/\∃e,Is K H e y/\d.canLay0=true/\e.canLay0=true/\d.depth<=64/\∃k,PyData.eqv d e = !k/\Q (.bl k) H
def qm8{K:W5}{x y H Q}(h:qcf K x y H Q):qbs K x y H Q:=by
 obtain⟨d,l,e,j,i,f,c,a⟩:=h;exact#[d,e,l,j,i,f,c,Aj (R:=λk=>Q (.bl k) H) a]
@[simp] def quY(K:W5):R2:=λx y H Q=>∃d,Is K H d x/\∃e,Is K H e y/\d.canLay0=true/\e.canLay0=true/\d.depth<=64/\Q (.bl (PyData.eqv d e)) H
@[simp] def qcg: List V->Hp->VK->Prop:=λa H Q=>ar1 a λx=>isInt x λi=>Q (.int (if i<0 then -i else i)) H
def qm9{xs H Q}(h:qcg xs H Q):(λxs H Q=>∃i,xs=[.int i]/\Q (.int (if i<0 then -i else i)) H:yZ) xs H Q:=by
 obtain⟨x,rfl,c⟩:=ar1.out h;obtain⟨i,rfl,a⟩:=isInt.out c;exact#[i,rfl,a]
@[simp] def qch: List V->Hp->VK->Prop:=λa H Q=>ar2 a λx y=>isInt x λi=>isInt y λj=>Q (.int (if j > i then j else i)) H
def qm_{xs H Q}(h:qch xs H Q):(λxs H Q=>∃i j,xs=[.int i,.int j]/\Q (.int (if j > i then j else i)) H:yZ) xs H Q:=by
 obtain⟨x,y,rfl,e⟩:=ar2.out h;obtain⟨i,rfl,c⟩:=isInt.out e;obtain⟨j,rfl,a⟩:=isInt.out c;exact#[i,j,rfl,a]
@[simp] def qci: List V->Hp->VK->Prop:=λa H Q=>ar2 a λx y=>isInt x λi=>isInt y λj=>Q (.int (if j<i then j else i)) H
def qna{xs H Q}(h:qci xs H Q):(λxs H Q=>∃i j,xs=[.int i,.int j]/\Q (.int (if j<i then j else i)) H:yZ) xs H Q:=by
 obtain⟨x,y,rfl,e⟩:=ar2.out h;obtain⟨i,rfl,c⟩:=isInt.out e;obtain⟨j,rfl,a⟩:=isInt.out c;exact#[i,j,rfl,a]
@[simp] def qcj: List V->Hp->VK->Prop:=λa H Q=>ar2 a λx y=>isInt x λi=>isInt y λj=>Di i j/\∀p,H p=none->Q (.ref p) (upd H p (.tup [.int (i / j),.int (i % j)]))
def qnb{xs H Q}(h:qcj xs H Q):(λxs H Q=>∃i j,xs=[.int i,.int j]/\Di i j/\∀p,H p=none->Q (.ref p) (upd H p (.tup [.int (i / j),.int (i % j)])):List V->Hp->VK->Prop) xs H Q:=by
 obtain⟨x,y,rfl,e⟩:=ar2.out h;obtain⟨i,rfl,c⟩:=isInt.out e;obtain⟨j,rfl,a⟩:=isInt.out c;exact#[i,j,rfl,a]
@[simp] def qck: List V->Hp->VK->Prop:=λe H Q=>ar1 e λx=>isRef x λa=>∃c,H a=some (.lst c)/\∃bs,mR c bs/\Q (.bl (bs.all id)) H
def qnc{xs H Q}(h:qck xs H Q):(λxs H Q=>∃a ys bs,xs=[.ref a]/\H a=some (.lst ys)/\mR ys bs/\Q (.bl (bs.all id)) H:yZ) xs H Q:=by
 obtain⟨x,rfl,i⟩:=ar1.out h;obtain⟨a,rfl,ys,f,bs,e,c⟩:=isRef.out i;exact#[a,ys,bs,rfl,f,e,c]
@[simp] def quZ: List V->Hp->VK->Prop:=λe H Q=>ar1 e λx=>isRef x λa=>∃c,H a=some (.lst c)/\∃bs,mR c bs/\Q (.bl (bs.any id)) H
def Ij:List V->Hp->VK->Prop:=λa H Q=>ar1 a λx=>match x with|.int i=>Q (.int i) H|.bl k=>Q (.int (if k=true then 1 else 0)) H|_=>False
@[simp ↓] theorem qu0i H Q:Ij [.int i] H Q=Q (.int i) H:=rfl
@[simp ↓] theorem qu1k H Q:Ij [.bl k] H Q=Q (.int (if k=true then 1 else 0)) H:=rfl
def qnd{xs H Q}(h:Ij xs H Q):(λxs H Q=>(∃i,xs=[.int i]/\Q (.int i) H)\/∃k,xs=[.bl k]/\Q (.int (if k then 1 else 0)) H:yZ) xs H Q:=by
 obtain⟨x,rfl,a⟩:=ar1.out h;cases x with
 |int i=>exact .inl #[i,rfl,a]
 |bl k=>exact .inr #[k,rfl,a]
 |_=>exact a.elim
@[simp] def qcl:zN:=λo i v H Q=>isRef o λp=>isInt i λk=>∃a,H p=some (.lst a)/\∃j,pC a.length k=some j/\Q (upd H p (.lst (a.set j v)))
def qne{o i v H Q}(h:qcl o i v H Q):qaq o i v H Q:=by
 obtain⟨p,rfl,l⟩:=isRef.out h;obtain⟨k,rfl,a,f,j,e,c⟩:=isInt.out l;exact#[p,a,k,j,rfl,rfl,f,e,c]
@[simp] def Ik(K:W5):V->Option Int->Option Int->Hp->VK->Prop:=λx lo e H Q=>isRef x λa=>∃c,au K H a c/\∀p,H p=none->Q (.ref p) (upd H p (.lst (jU c lo e)))
def qnf{K:W5}{x lo c H Q}(h:Ik K x lo c H Q):Hr K x lo c H Q:=by
 obtain⟨a,rfl,e,f⟩:=isRef.out h;exact#[a,e,rfl,f]
@[simp] def qng:iV:=λc a H Q=>uf c (Q a H)
@[simp] def qnh(t:TG)(u:iV):iV:=λe c H Q=>Ag e λv r=>t v c H λa f=>u r a f Q
@[simp] def qcm(K:W5)(n:Nat)(t:iV):TG:=λv e H Q=>isRef v λa=>∃c,aQ K H a c/\c.length=n/\t c e H Q
def iM{vs σ H Q}(h:qng vs σ H Q):ZL vs σ H Q:=uf.out h
def cJ(t:TG)(u:iV):qnh t u=ZM t u:=by
 funext vs a H Q
 exact qmN _ _
def iQ(K:W5)(n:Nat)(t:iV):qcm K n t=OD K n t:=by
 funext v i H Q
 refine propext #[λh=>?_,λ⟨a,c,e,h⟩=>by subst e;exact#[c,h]];obtain⟨a,rfl,c,f⟩:=isRef.out h;exact#[a,c,rfl,f]
@[simp] def qni(i j:Nat)(e:TA):TS:=λD a H=>e a H λc f=>ar2 c λv w=>D.nx ((a.set i (some v)).set j (some w)) f
def qcn(i j:Nat)(a:TA):qni i j a=ZQ i j a:=by
 funext D c H
 exact qws (a c H) (funext λe=>funext λf=>qmM _ _)
@[simp] def qco(f:Int->Int->Int):qL:=λx y H Q=>isInt x λi=>isInt y λj=>Q (.int (f i j)) H
def qnj{x y H Q}(h:qco f x y H Q):ZV f x y H Q:=by
 obtain⟨i,rfl,c⟩:=isInt.out h;obtain⟨j,rfl,a⟩:=isInt.out c;exact#[i,j,rfl,rfl,a]
@[simp] def qnk(i:Nat)(e:TE)(c:qL):TS:=λD a H=>getSt a i λx=>e a H λy h=>c x y h λz f=>D.nx (a.set i (some z)) f
def qnl{D σ H}(h:qnk i c a D σ H):ZS i c a D σ H:=getSt.out h
@[simp] def qcp(K:W5)(h:TE):TI:=λe H R=>h e H λx c=>isRef x λa=>(∃f,au K c a f)/\R (lF K a) c
@[simp] def qnm(K:W5)(f:TE):TI:=λc H R=>f c H λx a=>isRef x λp=>∃b,(∃e,ji b K a p e)/\R (HB b K p) a
@[simp] def qnn(c:TE):TI:=λa H R=>c a H λx e=>isStr x λz=>R (Its z) e
@[simp] def qnp(e:TA):TI:=λa H R=>e a H λc f=>ar1 c λv=>isInt v λj=>-(2 ^ 62)<=j/\j<2 ^ 62/\R (mG 0 j.toNat) f
@[simp] def qnq(e:TA):TI:=λa H R=>e a H λc f=>ar2 c λv w=>isInt v λi=>isInt w λj=>(-(2 ^ 62)<=i/\i<2 ^ 62/\-(2 ^ 62)<=j/\j<2 ^ 62)/\R (mG i (j - i).toNat) f
@[simp] def qnr(K:W5)(t:TA):TI:=λe H R=>t e H λi c=>ar2 i λx y=>isRef x λa=>isRef y λb=>(∃h,au K c a h)/\(∃f,au K c b f)/\R (pG K a b) c
@[simp] def qns(K:W5)(t:TA):TI:=λe H R=>t e H λh c=>ar1 h λx=>isRef x λa=>(∃f,au K c a f)/\R (Ite K a) c
def qnt(K:W5)(a:TE):qcp K a=O2 K a:=by
 funext σ H R
 exact qws (a σ H) (funext λx=>funext λc=>QK _ _)
def um(K:W5)(a:TE):qnm K a=qaW K a:=by
 funext σ H R
 refine qws (a σ H) (funext λx=>funext λf=>propext #[λh=>?_,λ⟨b,p,e,h⟩=>by subst e;exact#[b,h]]);obtain⟨p,rfl,b,c⟩:=isRef.out h;exact#[b,p,rfl,c]
def qcq(a:TE):qnn a=qaH a:=by
 funext σ H R
 exact qws (a σ H) (funext λx=>funext λc=>qmL _ _)
def Il(a:TA):qnp a=Z2 a:=by
 funext σ H R
 refine qws (a σ H) (funext λx=>funext λj=>propext #[λh=>?_,λ⟨b,e,h⟩=>by subst e;exact h]);obtain⟨v,rfl,f⟩:=ar1.out h;obtain⟨i,rfl,c⟩:=isInt.out f;exact#[i,rfl,c]
def qnu(a:TA):qnq a=Z4 a:=by
 funext σ H R
 refine qws (a σ H) (funext λx=>funext λn=>propext #[λh=>?_,λ⟨b,c,e,h⟩=>by subst e;exact h]);obtain⟨v,w,rfl,m⟩:=ar2.out h;obtain⟨i,rfl,l⟩:=isInt.out m;obtain⟨j,rfl,f⟩:=isInt.out l;exact#[i,j,rfl,f]
def qnv(K:W5)(t:TA):qnr K t=P_ K t:=by
 funext σ H R
 refine qws (t σ H) (funext λx=>funext λu=>propext #[λh=>?_,λ⟨a,b,f,c,e,n,m,l⟩=>by subst e;exact#[#[f,n],#[c,m],l]]);obtain⟨v,w,rfl,n⟩:=ar2.out h;obtain⟨i,rfl,m⟩:=isRef.out n;obtain⟨j,rfl,⟨f,l⟩,⟨c,r⟩,o⟩:=isRef.out m;exact#[i,j,f,c,rfl,l,r,o]
def QT(K:W5)(t:TA):qns K t=qbn K t:=by
 funext σ H R
 refine qws (t σ H) (funext λx=>funext λm=>propext #[λh=>?_,λ⟨a,c,e,j,f⟩=>by subst e;exact#[#[c,j],f]]);obtain⟨v,rfl,j⟩:=ar1.out h;obtain⟨i,rfl,⟨c,f⟩,l⟩:=isRef.out j;exact#[i,c,rfl,f,l]
@[simp] def QV(sp:Sp)(E:XK)(t:TA):TE:=λa H Q=>t a H λc e=>n_ sp c e Q #[0] E
def rC(sp:Sp)(E:XK)(t:TA):QV sp E t=O_ sp [] E t:=by
 funext σ H Q
 exact qws (t σ H) (funext λa=>funext λc=>by rw[qwy];rfl)
@[simp] def qnw(C:Qv)(m:Str)(sp:Sp)(E:XK)(h:TE)(t:TA):TE:=λc H Q=>h c H λx e=>isRef x λa=>∃i fs,e a=some (.ins C i fs)/\fs.lookup m=none/\t c e λf j=>n_ sp (.ref a::f) j Q #[0] E
def gV(C:Qv)(m:Str)(sp:Sp)(E:XK)(f:TE)(t:TA):qnw C m sp E f t=Pa C m sp [] E f t:=by
 funext σ H Q
 refine qws (f σ H) (funext λx=>funext λn=>propext #[λh=>?_,λ⟨a,l,fs,e,j,i,c⟩=>?_])
 ·obtain⟨a,rfl,l,fs,j,i,c⟩:=isRef.out h;refine#[a,l,fs,rfl,j,i,?_];simp only[qwy];exact c
 ·subst e;refine#[l,fs,j,i,?_];simp only[qwy] at c;exact c
@[simp] def qnx(C:Qv)(sp:Sp)(E:XK)(t:TA):TE:=λe H Q=>t e H λf c=>∀x a,c x=none->c a=none->a≠x->
 n_ sp (.ref x::f) (upd (upd c a (.own x)) x (.ins C a [])) (λv h=>v = .non/\Q (.ref x) h) #[0] E
def qny(C:Qv)(sp:Sp)(E:XK)(t:TA):qnx C sp E t=Pb C sp [] E t:=by
 funext σ H Q
 refine qws (t σ H) (funext λa=>funext λc=>?_);simp only[qwy];rfl
@[simp] def qnz(K:W5)(h:TE)(f:Str):TE:=λe H Q=>h e H λx c=>isRef x λa=>∃C i fs,c a=some (.ins C i fs)/\Cls K C/\pB K C f/\∃v,fs.lookup f=some v/\Q v c
def QW(K:W5)(c:TE)(f:Str):qnz K c f=O9 K c f:=by
 funext σ H Q
 refine qws (c σ H) (funext λx=>funext λo=>propext #[λh=>?_,λ⟨a,C,n,fs,v,e,m,l,j,i⟩=>by subst e;exact#[C,n,fs,m,l,j,v,i]]);obtain⟨a,rfl,C,n,fs,m,l,j,v,i⟩:=isRef.out h;exact#[a,C,n,fs,v,rfl,m,l,j,i]
@[simp] def qnA(f ty:TE):TE:=λc H Q=>f c H λx h=>ty c h λy e=>isRef x λa=>∃v,fK e a y (some v)/\Q v e
@[simp] def qnB(ty f:TE):TE:=λc H Q=>ty c H λy h=>f c h λx e=>isRef x λa=>∃o,fK e a y o/\Q (.bl o.isSome) e
@[simp] def qnC(ty f:TE):TE:=λc H Q=>ty c H λy h=>f c h λx e=>isRef x λa=>∃o,fK e a y o/\Q (.bl o.isNone) e
@[simp] def qnD(h ty f:TE):TS:=λD c H=>f c H λv l=>h c l λx j=>ty c j λy i=>isRef x λa=>∃e,xJ i a y v e/\D.nx c e
@[simp] def qnE(h ty:TE):TE:=λc H Q=>h c H λx f=>isRef x λa=>Aa f a/\ty c f λy e=>∃o,fK e a y o/\Q (o.getD .non) e
@[simp] def qnF(i ty h:TE):TE:=λc H Q=>i c H λx f=>isRef x λa=>Aa f a/\ty c f λy j=>h c j λz e=>∃o,fK e a y o/\Q (o.getD z) e
def Im{x:V}{β:Type}{R:Addr->β->Prop}:(isRef x λa=>∃b,R a b)=(∃a b,x = .ref a/\R a b):=propext #[λh=>by obtain⟨a,rfl,b,c⟩:=isRef.out h;exact#[a,b,rfl,c],λ⟨a,b,e,h⟩=>by subst e;exact#[b,h]]
def qcr(a ty:TE):qnA a ty=qa6 a ty:=by
 funext σ H Q
 exact qws (a σ H) (funext λx=>funext λc=>qws (ty σ c) (funext λy=>funext λe=>Im))
def qcs(ty a:TE):qnB ty a=qa7 ty a:=by
 funext σ H Q
 exact qws (ty σ H) (funext λx=>funext λc=>qws (a σ c) (funext λy=>funext λe=>Im))
def qnG(ty a:TE):qnC ty a=qa8 ty a:=by
 funext σ H Q
 refine qws (ty σ H) (funext λx=>funext λc=>qws (a σ c) (funext λy=>funext λe=>?_));rw[Im];simp only[Option.not_isSome]
def qnH(e ty c:TE):qnD e ty c=qa9 e ty c:=by
 funext D a H
 exact qws (c a H) (funext λv=>funext λh=>qws (e a h) (funext λx=>funext λf=>qws (ty a f) (funext λy=>funext λi=>Im)))
def QX(a ty:TE):qnE a ty=qbk a ty:=by
 funext σ H Q
 exact qws (a σ H) (funext λx=>funext λc=>QK _ _)
def qct(a ty c:TE):qnF a ty c=qbl a ty c:=by
 funext σ H Q
 exact qws (a σ H) (funext λx=>funext λe=>QK _ _)
@[simp] def QZ(t:TE):TO:=λa H Q=>t a H λx c=>isInt x λi=>Q (some i) c
def rE(t:TE):QZ t=qam t:=by
 funext σ H Q
 exact qws (t σ H) (funext λx=>funext λa=>qmK _ _)
section
variable {X:Cx}{K:W5}
def PE.eqv(o:PE X e t)(h:t'=t):PE X e t':=h▸o
def PC.eqv(o:PC X c a b t)(h:t'=t):PC X c a b t':=h▸o
def PS.eqv(o:PS X e t)(h:t'=t):PS X e t':=h▸o
def PG.eqv(o:PG X e t)(h:t'=t):PG X e t':=h▸o
def bB.eqv(o:bB X e t)(h:t'=t):bB X e t':=h▸o
def PI.eqv(o:PI X a e t)(h:t'=t):PI X a e t':=h▸o
def PO.eqv(o:PO X e t)(h:t'=t):PO X e t':=h▸o
def DQ:aZ X (binaryOp .Mult) (fI Ho λi j=>.int (i * j)):=qjG.mono Ie
def Io:aZ X (binaryOp .FloorDiv) (fI Di λi j=>.int (i / j)):=qjH.mono Ie
def xT:aZ X (binaryOp .Mod) (fI (λ_ j=>0<j) λi j=>.int (i % j)):=qjI.mono Ie
def Q0:aZ X (binaryOp .Pow) (fI zU λi j=>.int (i ^ j.toNat)):=qjJ.mono Ie
def bT(a:X.K=K):mO X (QM K):=(qlh a).mono qmR
def Q5:mO X qb3:=qko.mono qmS
def pK(a:X.K=K):aZ X (compareOp .In) (fIn K):=(inK a).mono qmZ
def qcu(a:X.K=K):aZ X (compareOp .In) (qb9 K):=(inK a).mono qm1
def DR(a:X.K=K):aZ X (compareOp .NotIn) (qb8 K):=(qli a).mono qm0
def qnI(c:X.K=K)(a:X.A.units+64<cLine):aZ X (compareOp .NotEq) (qcf K):=(qma c a).mono qm8
def cW(a:X.K=K):bY X (.builtin "len") (rB K):=(qlj a).mono qmT
def qcv:bY X (.builtin "len") qb4:=qlk.mono qmU
def Ip(a:X.K=K):bY X (.type "list") (qb5 K):=(qll a).mono qmV
def DW:bY X (.type "tuple") QS:=qlw.mono qmW
def Ir(a:X.K=K):bY X (.builtin "isinstance") (qb6 K):=(qlm a).mono qmX
def qcw(a:X.K=K):bY X (.builtin "isinstance") (qb7 K):=(qln a).mono qmY
def rF(a:X.calm=true):bY X (.builtin "all") qck:=(qk1 a).mono qnc
def qnJ:bY X (.type "int") Ij:=qj0.mono qnd
def qcx:bY X (.builtin "abs") qcg:=qjX.mono qm9
def qcy(a:X.calm=true):bY X (.builtin "max") qch:=(qjY a).mono qm_
def qnK(a:X.calm=true):bY X (.builtin "min") qci:=(qjZ a).mono qna
def qnL:bY X (.builtin "divmod") qcj:=qj1.mono qnb
def qcz(c:X.K=K)(a:X.calm=true):bY X (.builtin "sum") (qce K):=(qmx c a).mono qm7
def xU:gO X "list.append" qb_:=gO.mono (r:=Pr) Pu qm2
def qnM:gO X "list.insert" qca:=gO.mono (r:=Qa) qk0 qm3
def qnN:gO X "str.join" qcb:=qmv.mono qm4
def qcA(a:X.K=K):gO X "list.count" (qcc K):=(qmw a).mono qm5
def qnO(a:X.K=K):gO X "list.index" (qcd K):=(qmB a).mono qm6
def Am(a:X.K=K):tQ X (Ik K):=(qmy a).mono qnf
def qcB:zP X qcl:=set_list.mono qne
def qnP:zQ X .Add (qco λi j=>i+j):=qju.mono qnj
end
def getSt.imp(f:∀v,R v->a v):getSt σ i R->getSt σ i a:=by
 induction σ generalizing i with
 |nil=>exact λh=>h.elim
 |cons o σ ih=>
  cases i with
  |zero=>cases o with
   |none=>exact λh=>h.elim
   |some v=>exact f v
  |succ n=>exact ih
def isInt.imp(f:∀v,R v->a v):isInt x R->isInt x a:=by cases x <;> first|exact f _|exact λh=>h.elim
def isRef.imp(f:∀v,R v->a v):isRef x R->isRef x a:=by cases x <;> first|exact f _|exact λh=>h.elim
def gD.imp(f:∀v,R v->a v):gD x R->gD x a:=by cases x <;> first|exact f _|exact λh=>h.elim
def qnQ{K:W5}{g:Int->Int->V}{i j:Nat}:∀(σ:St)(H:Hp)(Q a:Bool->Hp->Prop),(∀(b:Bool)(c:Hp),Q b c->a b c)->iK (dX (jB g) (fVar i) (nR (rB K) (ju (fVar j) jg))) σ H Q->iK (dX (jB g) (fVar i) (nR (rB K) (ju (fVar j) jg))) σ H a:=
 λ_ _ _ _ f h=>getSt.imp (λ_ h=>getSt.imp (λ_ h=>isRef.imp (λ_ ⟨e,m,l⟩=>#[e,m,isInt.imp (λ_ h=>isInt.imp (λ_ h=>gD.imp (λ_ h=>f _ _ h) h) h) l]) h) h) h
def aC.bG{P:J9}{w:zX}{K:W5}{mg:Zu}{base:zf}{x c:Str}{st:Stmt}{f:Qv}{l:zq}{N ps:QAH}{k:Nat}{sp:Sp}(F:aC K x c st f l)(S:bh N ps (aG st))(len:∀vs H Q E,sp vs H Q E->vs.length=ps.length)(i:∀(e:zT)(A:zY)(a:List Env)(s:Zw)(H:Hp)(vs:kE)(Q:VK)(E:XK),cB k (A.deeper (envOfC c (aG st) s.heap.objs.size f e))->sp vs H Q E->
   ∃t,fQ (ao aW P w K mg base N c (aG st) f e A a s H E).lC (iI st) t/\t {nx:=λ_ o=>Q .non o,rt:=Q} (jY N vs) H):aO P w K mg base aW (k+1) f l ps sp:=by
 refine F.ok S len λe A a s H vs Q E m h=>?_;obtain⟨t,n,j⟩:=i e A a s H vs Q E m h;refine#[t,n,?_];have u:=len _ _ _ _ h;have r:ps.length<=N.length:=by have:=qws List.length S.pre;rw[qwe] at this;lia
 rw[Ah N vs ⋯] at j;exact j
end L2
namespace L2
open PySem PySem.Spec
section
variable {X:Cx}
def aL{k n:Nat}{f:Qv}{x y a:Str}{p pos:Pos}{st:Stmt}{e:zp}{c:qy}{j:zq}{ps:QAH}{sp:Sp}{t:TA}(F:aO X.prog X.w X.K X.mg X.base aW k f j ps sp)(l:cB n X.A)(m:X.mg x=some (.ref f))(g:aC X.K y a st f j)(v:Binds X.K j ps [])(z:PA X (e::c) t)(o:k<=n:=by decide)(r:Gl X x:=by rfl)(i:iG x:=by decide)(u:lG X e c:=by rfl)(h:nQ X pos c:=by rfl):PE X (.Call (.Name x p) (e::c) [] pos) (QV sp E0 t):=
 (qN F (l.mono o) r m g.kp v .nil fZ z i u h).eqv (rC _ _ _)
def bO{x:Str}{pos:Pos}(N:QAH)(i:Nat)(h:N.Nodup:=by decide+kernel)(e:X.N=N:=by rfl)(c:N[i]? = some x:=by rfl)(a:Loc X.env.scope x:=by exact Or.inl rfl)(f:wN X x:=by first|exact .inl rfl|exact .inr rfl|assumption):PG X (.Name x pos) (wO i):=eF (e▸h) (e▸c) a f
def dD(h:PE X e t)(a:X.K=K:=by rfl):PI X g e (qcp K t):=(qlo a h).eqv (qnt _ _)
end
def len0{P:QAE->Prop}(h:P []):∀l:QAE,l.length=0->P l:=λl e=>by
 rw[qwK e];exact h
def pL{n:Nat}{P:QAE->Prop}(h:∀(v:zT) (l:QAE),l.length=n->P (v::l)):∀l:QAE,l.length=n+1->P l:=λl e=>by
 cases l with
 |nil=>cases e
 |cons v l=>exact h v l (Nat.succ.inj e)
def aC.b1(F:aC K x e st f m)(p:Str)(h:∀(kV a i:zT) (l:wJ) (c j u:zT),bindArgs (W.fnOf x e (nU st) (iI st) (aG st) .none kV a i l c j) #[[u],[]]=pure [(p,u)]:=by intros;rfl):Binds K m [p] []:=F.binds λkV a i l c j=>pL λu=>len0 (h kV a i l c j u)
def aC.b2(F:aC K x e st f m)(p q:Str)(h:∀(kV a i:zT) (l:wJ) (c j u v:zT),bindArgs (W.fnOf x e (nU st) (iI st) (aG st) .none kV a i l c j) #[[u,v],[]]=pure [(p,u),(q,v)]:=by intros;rfl):Binds K m [p,q] []:=F.binds λkV a i l c j=>pL λu=>pL λv=>len0 (h kV a i l c j u v)
def aC.b3(F:aC K x e st f m)(p q r:Str)(h:∀(kV a i:zT) (l:wJ) (c j u v w:zT),bindArgs (W.fnOf x e (nU st) (iI st) (aG st) .none kV a i l c j) #[[u,v,w],[]]=pure [(p,u),(q,v),(r,w)]:=by intros;rfl):Binds K m [p,q,r] []:=F.binds λkV a i l c j=>pL λu=>pL λv=>pL λw=>len0 (h kV a i l c j u v w)
def cQ(c:H r=none)(h:upd H r o=a):Same H a/\a r=some o:=by
 subst h;exact#[aJ c,aB]
end L2
namespace L2
open PySem PySem.Spec PyProof.Rows
abbrev two(a t0 i0:zp)(f0:qy)(c i1:zp)(e:qy)(sc:Scope)(pos:Pos):Expr:=.ListComp a [#[t0,i0,f0,0],#[c,i1,e,0]] sc pos
def qnR:compTurn (two e t0 i0 f0 h i1 i sc pos) 0 it f a=(do
   standAt i0.pos
   match <- pyNext it with
   |none=>pure (.done .next)
   |some v=>
    letOwnedTupleGo t0 it v
    assign t0 a v
    let mut ok:=true
    for c in f0 do
     if ok then ok <- isTrue c a (eval c a)
    if ok then
     let x <- eval i1 a
     standAt i1.pos
     let x <- foldedSetIterable i1 a x
     let _ <- runOwn (.compStart (two e t0 i0 f0 h i1 i sc pos) 1 (<- holding [x] (pyIter x)) f a) a
    again (.compLoop (two e t0 i0 f0 h i1 i sc pos) 0 it f a)):=by rfl
def qnS:compTurn (two e t0 i0 f0 h i1 i sc pos) 1 it f a=(do
   standAt i1.pos
   match <- pyNext it with
   |none=>pure (.done .next)
   |some v=>
    letOwnedTupleGo h it v
    assign h a v
    let mut ok:=true
    for c in i do
     if ok then ok <- isTrue c a (eval c a)
    if ok then
     (do let _ <- call (.builtin "list.append") [f,<- eval e a])
    again (.compLoop (two e t0 i0 f0 h i1 i sc pos) 1 it f a)):=by rfl
def qnT(I:Nat->Shared->Prop)(turn:∀n s,I n s->wpAny (model prog w) A (pyNext it) (λr f=>match r with
   |none=>R (.ok .next) f
   |some v=>wpAny (model prog w) A (letOwnedTupleGo J it v) (λ_ u=>wpAny (model prog w) A (assign J a v) (λ_ o=>
     wpAny (model prog w) A (forIn L true λc r=>if r=true then do let ok <- isTrue c a (eval c a);pure (ForInStep.yield ok) else pure (ForInStep.yield r)) (λok e=>
      if ok=true then wpAny (model prog w) A (eval G a) (λx l=>
       wpAny (model prog w) A (call (.builtin "list.append") [H,x]) (λ_ j=>∃m,m<n/\I m j) eG l) eG e
      else ∃m,m<n/\I m e) eG o) eG u) eG f) eG s)(n:Nat)(h:I n s):codeAny (model prog w) A (.compLoop (two G t0 i0 f0 J i1 L sc pos) 1 it H a) R s:=by
 refine codeAny_loop rfl I (λn s M=>?_) n h;show wpAny _ A ((compTurn (two G t0 i0 f0 J i1 L sc pos) 1 it H a).onRaise (λx=>do noteFrame x a;theTreesLotGoes x)) _ _ s
 refine wpAny_noted ?_;rw[qnS];refine qvT (qw8 (qvT (qwu (turn n s M) (λr f z=>?_) λ_ _ i=>i.elim)));cases r with
 |none=>exact qvW z
 |some v=>
  refine qvT (qwu z (λ_ u E=>?_) λ_ _ i=>i.elim);refine qvT (qwu E (λ_ o D=>qvT (qwu D (λok e y=>?_) λ_ _ i=>i.elim)) λ_ _ i=>i.elim);cases ok with
  |false=>exact qvW #[rfl,y]
  |true=>
   exact qvT (qvT (qwu y (λx l C=>qvT (qwu C (λ_ j B=>qvW (qvW #[rfl,B])) λ_ _ i=>i.elim)) λ_ _ i=>i.elim))
def qnU(Q:∀x,foldedSetIterable i1 a x=pure x)(I:Nat->Shared->Prop)(turn:∀n s,I n s->wpAny (model prog w) A (pyNext it) (λr f=>match r with
   |none=>R (.ok .next) f
   |some v=>wpAny (model prog w) A (letOwnedTupleGo t0 it v) (λ_ z=>wpAny (model prog w) A (assign t0 a v) (λ_ y=>
     wpAny (model prog w) A (forIn f0 true λc r=>if r=true then do let ok <- isTrue c a (eval c a);pure (ForInStep.yield ok) else pure (ForInStep.yield r)) (λok e=>
      if ok=true then wpAny (model prog w) A (eval i1 a) (λx u=>wpAny (model prog w) A (pyIter x) (λD o=>
       codeAny (model prog w) A (.compStart (two L t0 i0 f0 N i1 O sc pos) 1 D M a) (λr l=>r = .ok .next/\∃m,m<n/\I m l) o) eG u) eG e
      else ∃m,m<n/\I m e) eG y) eG z) eG f) eG s)(n:Nat)(h:I n s):codeAny (model prog w) A (.compLoop (two L t0 i0 f0 N i1 O sc pos) 0 it M a) R s:=by
 refine codeAny_loop rfl I (λn s T=>?_) n h;show wpAny _ A ((compTurn (two L t0 i0 f0 N i1 O sc pos) 0 it M a).onRaise (λx=>do noteFrame x a;theTreesLotGoes x)) _ _ s
 refine wpAny_noted ?_;rw[qnR];refine qvT (qw8 (qvT (qwu (turn n s T) (λr f C=>?_) λ_ _ j=>j.elim)));cases r with
 |none=>exact qvW C
 |some v=>
  refine qvT (qwu C (λ_ z J=>?_) λ_ _ j=>j.elim);refine qvT (qwu J (λ_ y H=>qvT (qwu H (λok e B=>?_) λ_ _ j=>j.elim)) λ_ _ j=>j.elim);cases ok with
  |false=>exact qvW #[rfl,B]
  |true=>
   refine qvT (qwu B (λx u G=>qvT (qw8 (qvT (wpAny_of_eq (Q x) (qvT (qwL (qwu G (λD o E=>qvT (wpAny_runOwn (qwQ E λr l i=>?_))) λ_ _ j=>j.elim))))))) λ_ _ j=>j.elim);obtain⟨rfl,i⟩:=i;exact qvW #[rfl,i]
def qnV(n:codeAny (model prog w) A (.compLoop (two e t0 i0 f0 j i1 m sc pos) 1 it f a) R s)(h:wpAny (model prog w) A (pyIter it) (λc i=>codeAny (model prog w) A (.compLoop (two e t0 i0 f0 j i1 m sc pos) 1 c f a) R i)
   (notedBy (model prog w) A a λx i=>R (.error x) i) s):
  codeAny (model prog w) A (.compStart (two e t0 i0 f0 j i1 m sc pos) 1 it f a) R s:=by
 refine codeAny_of_tree ?_;show wpAny _ _ ((compStart (two e t0 i0 f0 j i1 m sc pos) 1 it f a).onRaise (λx=>do noteFrame x a;standAt theWindowsPlace)) _ _ s
 refine wpAny_notedAt ?_;unfold compStart;show wpAny _ _ (ask >>= _) _ _ s;refine qvT (wpAny_askSetting (wpAny_ite ?_));split
 ·first
   |exact qvT (qvW (qvW (And.intro rfl n)))
   |exact qvW (And.intro rfl n)
 ·first
   |exact qvT (qxF (qvT (qw8 (qvT (qwu h (λc i l=>qvW (And.intro rfl l)) λ_ _ x=>x)))))
   |(refine qvT (qxF ?_);show wpAny _ _ (standAt i1.pos >>= _) _ _ s;exact qvT (qw8 (qvT (qwu h (λc i l=>qvW (And.intro rfl l)) λ_ _ x=>x))))
def qcC(J:It)(g:TG)(r:TT)(u:TE)(D:Qv)(σ:St)(H:Hp)(v:yh):Prop:=
 ∃j:Nat->Nat->St->Hp->Prop,(∃m,j 0 m σ H)/\∀i m c f,j i m c f->
  (J.stop i f/\v c f)\/(J.go i f/\∃N:St->Hp->Prop,(∀a e,N a e->∃l,l<m/\j (i+1) l a e)/\∀x e,J.jf i f x e->g x c e λa w=>r a w λb o=>
   if b=true then u a o λy n=>∃h,n D=some (.lst h)/\h.length<sizeLine/\N a (upd n D (.lst (h++[y]))) else N a o)
def qcD(j:QAH)(e:qw)(J:It)(g:TG)(r:TT)(v:TI)(y:TG)(w:TT)(u:TE)(D:Qv)(σ:St)(H:Hp)(Q:Hp->Prop):Prop:=
 ∃l:Nat->Nat->St->Hp->Prop,(∃m,l 0 m (stC j e σ) H)/\∀i m c h,l i m c h->
  (J.stop i h/\Q h)\/(J.go i h/\∃N:St->Hp->Prop,(∀a f,N a f->∃n,n<m/\l (i+1) n a f)/\∀x f,J.jf i h x f->g x c f λa B=>r a B λb o=>
   if b=true then v a o λz A=>qcC z y w u D a A N else N a o)
def Q6(c:QAH)(a:qw)(h:TI)(g:TG)(i:TT)(l:TI)(n:TG)(m:TT)(j:TE):TE:=λe H Q=>h e H λJ f=>∀D,f D=none->qcD c a J g i l n m j D e (upd f D (.lst [])) (Q (.ref D))
section
variable {X:Cx}{ps sc:Scope}{own pN:QAH}{caps:qw}{N:QAH}{elt t0 i0 t1 i1:zp}{f0 f1:qy}{pos:Pos}{wi jD:TI}{g g2:TG}{tt iY:TT}{te:TE}
def qnW{Y:Cx}{B:QAC}{σ:St}{H:Hp}{s:Zw}{J:It}{L:xQ}{it D:Qv}{tn:Nat->Heap->Prop}{Nx:yh}(hx:Y.xe=eG)(I:Inv Y B σ H s)(T:Turn Y.prog Y.w Y.K t1 J L it tn)(st:tn 0 s.heap)(hf:∀b∈L,dj Y B H b)(hc:Y.calm=true)(hg:PG Y t1 g2)(ht:jV Y f1 iY)(he:PE Y elt te)(h:qcC J g2 iY te D σ H Nx):
  codeAny (model Y.prog Y.w) Y.A (.compStart (two elt t0 i0 f0 t1 i1 f1 sc pos) 1 (.ref it) (.ref D) Y.env) (λr Q=>r = .ok .next/\∃a c,Inv Y B a c Q/\Nx a c) s:=by
 obtain⟨aU,⟨m0,w0⟩,turn⟩:=h;have z:∀{c:Hp},(∀b∈L,c b=none)->∀b∈L,dj Y B c b:=λhn b E=>#[hn b E,(hf b E).2];have G:codeAny (model Y.prog Y.w) Y.A (.compLoop (two elt t0 i0 f0 t1 i1 f1 sc pos) 1 (.ref it) (.ref D) Y.env) (λr Q=>r = .ok .next/\∃a c,Inv Y B a c Q/\Nx a c) s:=by
  refine qnT (λn Q=>∃i a c,Inv Y B a c Q/\tn i Q.heap/\(∀b∈L,c b=none)/\aU i n a c) ?_ m0 #[0,_,H,I,st,λb E=>(hf b E).1,w0];rintro n s3 ⟨i,l,H3,I3,a0,nO,w3⟩
  rcases turn i n l H3 w3 with⟨U,qn⟩|⟨go,N',hN,step⟩
  ·refine aD (T.done Y rfl rfl rfl hc i B s3 l H3 eG I3 (z nO) a0 U) λr s4 f=>?_;obtain⟨hr,I4⟩:=f;subst hr;exact#[rfl,l,H3,I4,qn]
  ·refine aD (T.item Y rfl rfl rfl hc i B s3 l H3 eG I3 (z nO) a0 go) λr s4 f=>?_;obtain⟨u,hr,h4⟩:=f;subst hr;refine aD h4 λ_ s5 f=>?_;obtain⟨x,H5,I5,r5,y5,jt,wU⟩:=f;have wV:=I5.pinned (z wU) (T.obj _ _ jt);have ab:=hg _ s5 l H5 x u _ wV r5 (step x H5 y5);rw[hx] at ab;refine aD ab λ_ s6 f=>?_;obtain⟨C,H6,I6,q6⟩:=f;have aa:=ht _ s6 C H6 _ I6 q6;rw[hx] at aa;refine aD aa λb s7 f=>?_;obtain⟨H7,I7,q7⟩:=f;have again:∀{j:St}{M:Hp}{O:Zw},Inv Y (B++wR L s5.heap) j M O->N' j M->
     ∃m,m<n/\∃i a c,Inv Y B a c O/\tn i O.heap/\(∀b∈L,c b=none)/\aU i m a c:=λ{j M O} I8 n8=>by
    obtain⟨m',hm,w8⟩:=hN j M n8;refine#[m',hm,i+1,j,M,I8.zR,T.keep _ _ _ jt λb E o e=>(I8.pin (b,o) (qwf _ (qwf _ (tO E e)))).1,λb E=>?_,w8];obtain⟨o,e,d⟩:=T.obj _ _ jt b E;exact(I8.pin (b,o) (qwf _ (qwf _ (tO E e)))).2.1
   cases b with
   |false=>
    rw[if_neg qxo] at q7⊢;exact again I7 q7
   |true=>
    rw[if_pos rfl] at q7⊢;have ac:=he _ s7 C H7 _ I7 q7;rw[hx] at ac;refine aD ac λv O f=>?_;obtain⟨y,M,I8,r8,ys,hD,hz,n8⟩:=f;have ha:=Pu (X:=Y) _ O C M (.ref D) [y] (.ref D) [v] (λ_ H9=>N' C H9) I8 rfl (.cons r8 .nil) #[D,ys,y,rfl,rfl,hD,hz,n8];rw[hx] at ha;refine aD ha λ_ s9 f=>?_;obtain⟨_,H9,I9,_,n9⟩:=f;exact again I9 n9
 exact qnV G (T.self Y.A 0 _ _ _ st G)
def qcE{B:QAC}{σ:St}{H:Hp}{s:Zw}{E:QAB}{J:It}{a:xQ}{it D:Qv}{tn:Nat->Heap->Prop}{Q:Hp->Prop}(I:Inv X B σ H s)(ac:X.env.scope=ps)(ag:X.N=pN)(S:bM ps sc pN own caps N)(T:Turn X.prog X.w X.K t0 J a it tn)(st:tn 0 s.heap)(hf:∀b∈a,dj X B H b)(hc:X.calm=true)(hg:∀C s H a z,PG (bD X sc N C s H a z) t0 g)(ht:∀C s H a z,jV (bD X sc N C s H a z) f0 tt)(hi:∀C s H a z,PI (bD X sc N C s H a z) t1 i1 jD)(ah:∀C s H a z,PG (bD X sc N C s H a z) t1 g2)(dM:∀C s H a z,jV (bD X sc N C s H a z) f1 iY)(he:∀C s H a z,PE (bD X sc N C s H a z) elt te)(hs:∀(ai:Env) x,foldedSetIterable i1 ai x=pure x)(h:qcD own caps J g tt jD g2 iY te D σ H Q):
  wX X (newFunctionEnv sc X.env.globals (qP X.env sc.names) [] X.env.qual none .none (some X.env)) (λO s4=>
   codeAny (model X.prog X.w) X.A (.compStart (two elt t0 i0 f0 t1 i1 f1 sc pos) 0 (.ref it) (.ref D) {O with scope:=relabel sc X.env}) (Hv X B σ Q O.locals) s4) E s:=by
 obtain⟨aU,⟨m0,w0⟩,turn⟩:=h;refine qaD ?_;have ho:=T.obj 0 _ st;have I0:=qaz I ac ag S hf ho;have U:=PN I ac S hf ho;have hk:∀b o,s.heap.get? b=some o->(blockAt sc s).heap.get? b=some o:=λb o e=>pushCells_keeps _ _ b o (qvV _ e);have ab:tn 0 (blockAt sc s).heap:=T.keep 0 _ _ st λb _ o e=>hk b o e;have y:∀{G:Hp},(∀b∈a,G b=none)->∀b∈a,dj (bD X sc N s.heap.objs.size s H a (X.pn++B)) [] G b:=λhn b c=>
  #[hn b c,(U.qG b c).1,U.qH b c,.inl c,(U.qG b c).2,λp hp=>(hf b c).2.2.2.2.2 p (by rw[qwy] at hp;exact hp)]
 have M:codeAny (model X.prog X.w) X.A (.compLoop (two elt t0 i0 f0 t1 i1 f1 sc pos) 0 (.ref it) (.ref D) (bD X sc N s.heap.objs.size s H a (X.pn++B)).env) (Hv X B σ Q s.heap.objs.size) (blockAt sc s):=by
  refine qnU (hs _) (λn s'=>∃i j G,Inv (bD X sc N s.heap.objs.size s H a (X.pn++B)) [] j G s'/\tn i s'.heap/\(∀b∈a,G b=none)/\aU i n j G) ?_ m0 #[0,_,H,I0,ab,λb c=>(hf b c).1,w0];rintro n s3 ⟨i,L,H3,I3,aa,nO,w3⟩
  rcases turn i n L H3 w3 with⟨a0,qn⟩|⟨go,N',hN,step⟩
  ·refine aD (T.done (bD X sc N s.heap.objs.size s H a (X.pn++B)) rfl rfl rfl hc i [] s3 L H3 eG I3 (y nO) aa a0) λr s4 l=>?_;obtain⟨hr,I4⟩:=l;subst hr;obtain⟨m,hn,_⟩:=I4.loc;exact#[H3,rfl,qaC I hf I4,#[m,hn],I.lE (qvY _) I4.free,qn]
  ·refine aD (T.item (bD X sc N s.heap.objs.size s H a (X.pn++B)) rfl rfl rfl hc i [] s3 L H3 eG I3 (y nO) aa go) λr s4 l=>?_;obtain⟨u,hr,h4⟩:=l;subst hr;refine aD h4 λ_ s5 l=>?_;obtain⟨x,H5,I5,r5,y5,jt,wU⟩:=l;have wV:=I5.pinned (y wU) (T.obj _ _ jt);refine aD (hg _ _ _ _ _ _ s5 L H5 x u _ wV r5 (step x H5 y5)) λ_ s6 l=>?_;obtain⟨Y,H6,I6,q6⟩:=l;refine aD (ht _ _ _ _ _ _ s6 Y H6 _ I6 q6) λb s7 l=>?_;obtain⟨H7,I7,q7⟩:=l;have again:∀{f:St}{H8:Hp}{s8:Zw},Inv (bD X sc N s.heap.objs.size s H a (X.pn++B)) ([]++wR a s5.heap) f H8 s8->N' f H8->
     ∃m,m<n/\∃i j G,Inv (bD X sc N s.heap.objs.size s H a (X.pn++B)) [] j G s8/\tn i s8.heap/\(∀b∈a,G b=none)/\aU i m j G:=λ{f H8 s8} I8 n8=>by
    obtain⟨m',hm,w8⟩:=hN f H8 n8;refine#[m',hm,i+1,f,H8,I8.zR,T.keep _ _ _ jt λb c o e=>(I8.pin (b,o) (qwf _ (qwf _ (tO c e)))).1,λb c=>?_,w8];obtain⟨o,e,d⟩:=T.obj _ _ jt b c;exact(I8.pin (b,o) (qwf _ (qwf _ (tO c e)))).2.1
   cases b with
   |false=>
    rw[if_neg qxo] at q7⊢;exact again I7 q7
   |true=>
    rw[if_pos rfl] at q7⊢;refine aD (hi _ _ _ _ _ _ s7 Y H7 _ I7 q7) λv s8 h8=>aD h8 λap s9 h9=>?_;obtain⟨ar,as,an,J2,H9,e9,I9,T2,ae,f9,q9⟩:=h9;subst e9;refine qwQ (qnW (i0:=i0) (f0:=f0) (t0:=t0) (i1:=i1) (pos:=pos) (sc:=sc) rfl I9 T2 ae f9 hc (ah _ _ _ _ _) (dM _ _ _ _ _) (he _ _ _ _ _) q9) λr fB l=>?_;obtain⟨hr,am,uo,al,af⟩:=l;exact#[hr,again al af]
 exact codeAny_compStart_list M (T.self X.A 0 _ _ _ ab M)
def qnX(j:X.env.scope=ps)(B:X.N=pN)(S:bM ps sc pN own caps N)(hc:X.calm=true)(D:PI X t0 i0 wi)(hg:∀C s H a c,PG (bD X sc N C s H a c) t0 g)(ht:∀C s H a c,jV (bD X sc N C s H a c) f0 tt)(hi:∀C s H a c,PI (bD X sc N C s H a c) t1 i1 jD)(E:∀C s H a c,PG (bD X sc N C s H a c) t1 g2)(dM:∀C s H a c,jV (bD X sc N C s H a c) f1 iY)(he:∀C s H a c,PE (bD X sc N C s H a c) elt te)(z:∀x,foldedSetIterable i0 X.env x=pure x:=by intro _;rfl)(hs:∀(G:Env) x,foldedSetIterable i1 G x=pure x:=by intro _ _;rfl):PE X (two elt t0 i0 f0 t1 i1 f1 sc pos) (Q6 own caps wi g tt jD g2 iY te):=by
 intro w s y H Q I h;rw[eval_ListComp];refine qxT (use:=none) rfl z (Ht (S.cells j I.ok)) S.kind S.locs (aD (D w s y H _ I h) λv s1 h1=>aD h1 λa0 f h2=>?_);obtain⟨it,a,tn,J,L,e,U,T,i,O,q⟩:=h2;subst e;have fr:L f.heap.objs.size=none:=U.fresh;refine qxh ?_;have I3:Inv X w y (upd L f.heap.objs.size (.lst [])) {f with heap:=f.heap.push {cls:=.type "list",data:=.seq ([]:QAE).toArray},toks:=f.toks}:=U.zW (its:=[]) (ys:=[]) .nil (qwF _);have f3:∀b∈a,dj X w (upd L f.heap.objs.size (.lst [])) b:=λb l=>by
  obtain⟨o,e,_⟩:=T.obj 0 _ i b l;exact#[by rw[aN (qwk (qv2 e))];exact(O b l).1,(O b l).2]
 refine aD (qcE (i0:=i0) (pos:=pos) I3 j B S T (T.keep 0 _ _ i λb _ o e=>qvV _ e) f3 hc hg ht hi E dM he hs (q _ fr)) λu s4 h4=>?_;refine qwQ h4 λr M ⟨Y,hr,I5,⟨m,hn⟩,n,q5⟩=>?_;subst hr;refine#[m,hn,λh' A=>?_];have I6:Inv X w y Y {M with heap:=h',toks:=M.toks}:=I5.turned (it:=u.locals) (λb o l e=>(A.2 b l).trans e) n.1 n.2.1 n.2.2.2.1 n.2.2.2.2.1 n.2.2.2.2.2;exact#[.ref f.heap.objs.size,Y,I6,rfl,q5]
def qnY{i:Nat}{y:Str}{B l:Pos}(hN:X.N.Nodup)(hy:X.N[i]? = some y)(hl:X.env.scope.names.lookup y=some .local)(E:X.env.scope=ps)(a0:X.N=pN)(S:bM ps sc pN own caps N)(hc:X.calm=true)(ab:PI X t0 i0 wi)(hg:∀C s H c f,PG (bD X sc N C s H c f) t0 g)(ht:∀C s H c f,jV (bD X sc N C s H c f) f0 tt)(hi:∀C s H c f,PI (bD X sc N C s H c f) t1 i1 jD)(ac:∀C s H c f,PG (bD X sc N C s H c f) t1 g2)(dM:∀C s H c f,jV (bD X sc N C s H c f) f1 iY)(he:∀C s H c f,PE (bD X sc N C s H c f) elt te)(M:swapsWith (two elt t0 i0 f0 t1 i1 f1 sc pos) (some (.Name y B)) l.line X.env=pure true:=by rfl)(U:∀x,foldedSetIterable i0 X.env x=pure x:=by intro _;rfl)(hs:∀(ae:Env) x,foldedSetIterable i1 ae x=pure x:=by intro _ _;rfl):PS X (.Assign [.Name y B] (two elt t0 i0 f0 t1 i1 f1 sc pos) l) (wQ (Q6 own caps wi g tt jD g2 iY te) (wO i)):=by
 intro D s L H D0 I h;rw[exec_Assign_Name_used _ _ _ _ M];refine qvT (qw8 (qvT ?_));show wpAny _ X.A (do let _ <- comprehension (two elt t0 i0 f0 t1 i1 f1 sc pos) sc X.env _ (newList []) false (eval i0 X.env) (some (assign (.Name y B) X.env))) _ _ s
 refine qvT (qwu (qxT (use:=some (assign (.Name y B) X.env)) (Q:=λ_ s'=>SP X D D0 .next s') rfl U (Ht (S.cells E I.ok)) S.kind S.locs
  (aD (ab D s L H _ I h) λv s1 h1=>aD h1 λaf j h2=>?_)) (λ_ s' hq=>qvW (qvW hq)) λ_ _ e=>e)
 obtain⟨it,c,tn,J,H2,e,I2,T,w,f2,q⟩:=h2;subst e;have fr:H2 j.heap.objs.size=none:=I2.fresh;refine qxh ?_;have I3:Inv X D L (upd H2 j.heap.objs.size (.lst [])) {j with heap:=j.heap.push {cls:=.type "list",data:=.seq ([]:QAE).toArray},toks:=j.toks}:=I2.zW (its:=[]) (ys:=[]) .nil (qwF _);have f3:∀b∈c,dj X D (upd H2 j.heap.objs.size (.lst [])) b:=λb G=>by
  obtain⟨o,e,_⟩:=T.obj 0 _ w b G;exact#[by rw[aN (qwk (qv2 e))];exact(f2 b G).1,(f2 b G).2]
 refine aD (qcE (i0:=i0) (pos:=pos) I3 E a0 S T (T.keep 0 _ _ w λb _ o e=>qvV _ e) f3 hc hg ht hi ac dM he hs (q _ fr)) λn s4 h4=>?_;refine qwQ h4 λr s5 ⟨H5,hr,I5,⟨m,hn⟩,u,q5⟩=>?_;subst hr;show wpAny _ X.A (assign (.Name y B) X.env (.ref j.heap.objs.size)) _ _ _;refine wpAny_assign_Name (Dc I5 hN hy (.inl hl) (v:=.ref j.heap.objs.size) rfl (λs6 I6 O=>?_) (.inr hl));obtain⟨a,sb,ha⟩:=O;have aa:n.locals≠a:=by
  rcases ha with z|z
  ·rw[z];exact u.2.1
  ·exact λe=>u.2.2.2.2.1 y a z e.symm
 refine#[m,hn.sameBut sb aa,λh' Y=>?_];have I7:Inv X D (L.set i (some (.ref j.heap.objs.size))) H5 {s6 with heap:=h',toks:=s6.toks}:=I6.turned (it:=n.locals) (λb o G e=>(Y.2 b G).trans e) u.1 u.2.1 u.2.2.2.1 u.2.2.2.2.1 u.2.2.2.2.2;exact#[_,H5,I7,q5]
end
def qcF(a:yh):Ends:={nx:=a,ct:=a,bk:=a,rt:=λ_ _=>False}
def qcG(Q:Hp->Prop):Ends:={nx:=λ_ H=>Q H,ct:=λ_ H=>Q H,bk:=λ_ H=>Q H,rt:=λ_ _=>False}
@[simp] def tbI(h:TT)(i:TE)(D:Qv):TS:=λE a H=>h a H λb f=>aM b (i a f λy e=>∃c,e D=some (.lst c)/\c.length<sizeLine/\E.nx a (upd e D (.lst (c++[y])))) (E.nx a f) #[0]
@[simp] def tbO(e:TT)(h:TI)(j:TG)(i:TT)(f:TE)(D:Qv):TS:=λE a H=>e a H λb c=>aM b (h a c λl m=>xM l j (tbI i f D) (qcF E.nx) #[0] a m) (E.nx a c) #[0]
@[simp] theorem qu2(a:yh):(qcF a).nx=a:=rfl
@[simp] theorem qu3(Q:Hp->Prop):(qcG Q).nx=λ_ H=>Q H:=rfl
@[simp ↓] theorem qu4(c:QAH)(a:qw)(e:TI)(g:TG)(f:TT)(i:TI)(l:TG)(j:TT)(h:TE)(σ:St)(H:Hp)(Q:VK):
  Q6 c a e g f i l j h σ H Q=e σ H λJ m=>∀D,m D=none->xM J g (tbO f i l j h D) (qcG (Q (.ref D))) #[0] (stC c a σ) (upd m D (.lst [])):=rfl
end L2
namespace L2
section
variable {α:Type}[DecidableEq α]
def bR(f:α->Int)(X:α->Bool):List α->Int
 |[]=>0
 |x::l=>(if X x=true then f x else 0)+bR f X l
def oE(X:α->Bool):List (α×α)->Int
 |[]=>0
 |e::l=>(if X e.1=true/\X e.2=true then 1 else 0)+oE X l
def lQ(X Y:α->Bool)(x:α):Bool:=X x || Y x
def rG(X Y:α->Bool)(x:α):Bool:=X x && Y x
def DX(X:α->Bool)(x:α):Bool:=!X x
def allB(_:α):Bool:=true
theorem Q7(f:α->Int)(X Y:α->Bool):∀l,bR f (lQ X Y) l+bR f (rG X Y) l=bR f X l+bR f Y l
 |[]=>rfl
 |x::l=>by
  have:=Q7 f X Y l;simp only[bR,lQ,rG] at this⊢
  by_cases c:X x=true <;> by_cases a:Y x=true <;> simp[c,a] <;> lia
theorem qcH(X Y:α->Bool):∀l:List (α×α),oE X l+oE Y l<=oE (lQ X Y) l+oE (rG X Y) l
 |[]=>Int.le_refl _
 |e::l=>by
  have:=qcH X Y l;simp only[oE,lQ,rG] at this⊢
  by_cases h:X e.1=true <;> by_cases f:Y e.1=true <;> by_cases c:X e.2=true <;> by_cases a:Y e.2=true <;> simp[h,f,c,a] <;> omega
theorem Iu:∀{l:List α},(∀x∈l,X x=Y x)->(∀x∈l,X x=true->f x=g x)->bR f X l=bR g Y l
 |[],_,_=>rfl
 |x::l,h,k=>by
  have:=Iu (l:=l) (λy c=>h y (qvZ _ c)) λy c=>k y (qvZ _ c);simp only[bR];rw[this,<- h x qv3]
  by_cases a:X x=true
  ·rw[if_pos a,if_pos a,k x qv3 a]
  ·rw[if_neg a,if_neg a]
theorem Q8(f:α->Int):∀l:List α,bR f (λ_=>false) l=0
 |[]=>rfl
 |x::l=>by
  simp only[bR];rw[Q8 f l];simp
def qnZ{f:α->Int}{X Y:α->Bool}{l:List α}(h:∀x∈l,X x=true->Y x=false):bR f (lQ X Y) l=bR f X l+bR f Y l:=by
 have a:=Q7 f X Y l;have b:bR f (rG X Y) l=0:=by
  rw[<- Q8 f l];refine Iu (λx c=>?_) λ_ _ _=>rfl;unfold rG;cases e:X x
  ·rfl
  ·rw[h x c e];rfl
 lia
def xV(xs:List α)(X:α->Bool):Prop:=(∃x∈xs,X x=true)/\∃x∈xs,X x=false
def pO(xs:List α)(ps:List (α×α))(c k:Int)(m:α->Int):Prop:=∀X,xV xs X->c * oE X ps+k<=bR m X xs
def rH(xs:List α)(ps:List (α×α))(c k:Int)(m:α->Int)(X:α->Bool):Prop:=xV xs X/\bR m X xs=c * oE X ps+k
def qn0{xs:List α}{ps:List (α×α)}{c k:Int}{m:α->Int}(o:0<=c)(h:pO xs ps c k m){X Y:α->Bool}(v:rH xs ps c k m X)(r:rH xs ps c k m Y){z u:α}(hz:z∈xs)(i:u∈xs)(a:X z=true)(j:Y z=true)(e:X u=false)(l:Y u=false):rH xs ps c k m (lQ X Y):=by
 have f:xV xs (lQ X Y):=#[#[z,hz,by simp[lQ,a]],#[u,i,by simp[lQ,e,l]]];have n:xV xs (rG X Y):=#[#[z,hz,by simp[rG,a,j]],#[u,i,by simp[rG,e]]];have E:=h _ f;have D:=h _ n;have C:=Q7 m X Y xs;have y:=qcH X Y ps;have B:=v.2;have A:=r.2;have w:=Int.mul_le_mul_of_nonneg_left y o;rw[Int.mul_add,Int.mul_add] at w;exact#[f,⋯]
def Iv(xs:List α)(F:List (α->Bool)):Prop:=F.Pairwise λX Y=>∀x∈xs,X x=true->Y x=false
theorem Q9(B:0<=c)(h:pO xs ps c k m)(A:u∈xs):∀(F:List (α->Bool))(T:α->Bool),Iv xs F->(∀X∈F,rH xs ps c k m X/\X u=false)->rH xs ps c k m T->T u=false->
  ∃n,Iv xs n/\(∀X∈n,rH xs ps c k m X/\X u=false)/\∀x∈xs,(∃X∈n,X x=true)↔(T x=true\/∃X∈F,X x=true)
 |[],T,_,_,y,r=>#[[T],List.pairwise_singleton _ _,λX f=>by rw[qv6] at f;subst f;exact#[y,r],λx _=>by simp]
 |Y::F,T,G,C,y,r=>by
  have l:=List.pairwise_cons.mp G;have w:=C Y qv3
  by_cases v:∃z∈xs,T z=true/\Y z=true
  ·obtain⟨z,v,E,D⟩:=v;obtain⟨n,a,b,d⟩:=Q9 B h A F (lQ T Y) l.2 (λX f=>C X (qvZ _ f)) (qn0 B h y w.1 v A E D r w.2) (by simp[lQ,r,w.2]);refine#[n,a,b,λx i=>?_];rw[d x i];simp[lQ,or_assoc]
  ·obtain⟨n,a,b,d⟩:=Q9 B h A F T l.2 (λX f=>C X (qvZ _ f)) y r;refine#[Y::n,List.pairwise_cons.mpr #[λX f x i o=>?_,a],λX f=>?_,λx i=>?_]
   ·cases e:X x with
    |false=>rfl
    |true=>
     rcases(d x i).mp ⟨X,f,e⟩ with t|⟨Z,j,t⟩
     ·exact absurd #[x,i,t,o] v
     ·rw[l.1 Z j x i o] at t;cases t
   ·rcases qv0.mp f with rfl|f
    ·exact w
    ·exact b X f
   ·constructor
    ·rintro⟨X,f,e⟩
     rcases qv0.mp f with rfl|f
     ·exact .inr #[X,qv3,e]
     ·rcases(d x i).mp ⟨X,f,e⟩ with t|⟨Z,j,t⟩
      ·exact .inl t
      ·exact .inr #[Z,qvZ _ j,t]
    ·rintro(t|⟨Z,j,t⟩)
     ·obtain⟨X,f,e⟩:=(d x i).mpr (.inl t);exact#[X,qvZ _ f,e]
     ·rcases qv0.mp j with rfl|j
      ·exact#[Z,qv3,t]
      ·obtain⟨X,f,e⟩:=(d x i).mpr (.inr #[Z,j,t]);exact#[X,qvZ _ f,e]
theorem qcI(j:0<=c)(h:pO xs ps c k m)(i:u∈xs):∀L:List α,(∀v∈L,v∈xs)->(∀v∈L,∃T,rH xs ps c k m T/\T v=true/\T u=false)->
  ∃F,Iv xs F/\(∀X∈F,rH xs ps c k m X/\X u=false)/\∀v∈L,∃X∈F,X v=true
 |[],_,_=>#[[],List.Pairwise.nil,by simp,by simp]
 |v::L,f,l=>by
  obtain⟨F,a,b,d⟩:=qcI j h i L (λw hw=>f w (qvZ _ hw)) λw hw=>l w (qvZ _ hw);obtain⟨T,y,r,o⟩:=l v qv3;obtain⟨B,A,z,n⟩:=Q9 j h i F T a b y o;refine#[B,A,z,λw hw=>?_]
  rcases qv0.mp hw with rfl|e
  ·exact(n w (f w qv3)).mpr (.inl r)
  ·exact(n w (f w hw)).mpr (.inr (d w e))
def anyB(F:List (α->Bool))(x:α):Bool:=F.any λX=>X x
theorem qcJ(P:Int->Int->Prop)(n:P 0 0)(i:∀a b c d,P a b->P c d->P (a+c) (b+d)):∀{F:List (α->Bool)},Iv xs F->(∀X∈F,P (bR f X xs) (bR g X xs))->P (bR f (anyB F) xs) (bR g (anyB F) xs)
 |[],_,_=>by
  have e:∀h:α->Int,bR h (anyB []) xs=0:=λh=>by
   rw[<- Q8 h xs];exact Iu (λ_ _=>rfl) λ_ _ _=>rfl
  rw[e,e];exact n
 |X::F,r,m=>by
  have j:=List.pairwise_cons.mp r;have ih:=qcJ P n i j.2 λY l=>m Y (qvZ _ l);have e:∀h:α->Int,bR h (anyB (X::F)) xs=bR h X xs+bR h (anyB F) xs:=λh=>by
   rw[<- qnZ (Y:=anyB F)]
   ·exact Iu (λ_ _=>by simp[anyB,lQ]) λ_ _ _=>rfl
   ·intro x o e;unfold anyB;rw[List.any_eq_false];intro Y l;rw[j.1 Y l x o e];simp
  rw[e,e];exact i _ _ _ _ (m X qv3) ih
theorem qcK(f:α->Int)(X:α->Bool):∀l,bR f allB l=bR f X l+bR f (DX X) l
 |[]=>rfl
 |x::l=>by
  have:=qcK f X l;simp only[bR,allB,DX] at this⊢
  by_cases a:X x=true <;> simp[a] <;> lia
theorem qcL(n:f u % 2=1)(i:X u=true):∀{l:List α},l.Nodup->(∀x∈l,x≠u->X x=true->f x % 2=0)->bR f X l % 2=if u∈l then 1 else 0
 |[],_,_=>rfl
 |x::l,j,h=>by
  have a:=qwC.mp j;have ih:=qcL n i a.2 λy m=>h y (qvZ _ m);simp only[bR]
  by_cases e:x=u
  ·subst e;rw[if_neg a.1] at ih;rw[if_pos i,if_pos qv3];lia
  ·have o:=h x qv3 e;have:(u∈x::l)=(u∈l):=by
    rw[qv0];exact propext #[λz=>z.resolve_left λz=>e z.symm,.inr]
   simp only[this];rw[<- ih]
   by_cases c:X x=true
   ·rw[if_pos c];have:=o c;lia
   ·rw[if_neg c];lia
def qn1{xs:List α}{ps:List (α×α)}{k:Int}{m:α->Int}(B:xs.Nodup)(h:pO xs ps 2 (2 * k) m)(H:bR m allB xs % 2=0){u:α}(A:u∈xs)(D:m u % 2=1):
  ∃v∈xs,v≠u/\m v % 2=1/\∀X,xV xs X->X v=true->X u=false->2 * oE X ps+2 * k<bR m X xs:=by
 apply qxk;intro l;have E:∀v∈xs.filter (λv=>decide (v≠u/\m v % 2=1)),∃T,rH xs ps 2 (2 * k) m T/\T v=true/\T u=false:=λv j=>by
  rw[qwb,qwx] at j;apply qxk;intro z;refine l #[v,j.1,j.2.1,j.2.2,λX e o r=>?_];have J:=h X e;apply qxk;intro I;exact z #[X,#[e,⋯],o,r]
 obtain⟨F,a,b,d⟩:=qcI (by decide) h A _ (λv j=>(qwb.mp j).1) E;have N:bR m (anyB F) xs % 2=0:=qcJ (f:=m) (g:=m) (λi _=>i % 2=0) rfl (λa b c d L z=>by lia) a λX e=>by
  have:=(b X e).1.2;rw[this];lia
 have G:=qcL (f:=m) (X:=DX (anyB F)) (u:=u) D (by
  unfold DX anyB;rw[List.any_eq_false.mpr]
  ·rfl
  ·intro X e;rw[(b X e).2];simp) B λx C n e=>by
  apply qxk;intro z;obtain⟨X,y,w⟩:=d x (by
   rw[qwb,qwx];exact#[C,n,⋯])
  unfold DX anyB at e;rw[List.any_eq_true.mpr #[X,y,w]] at e;cases e
 rw[if_pos A] at G;have M:=qcK m (anyB F) xs;lia
def lR(m:α->Int)(u v:α)(x:α):Int:=if x=u then m u+1 else if x=v then m v - 1 else m x
theorem Iw(a:v≠u):∀{l:List α},l.Nodup->bR (lR m u v) X l=bR m X l+(if u∈l/\X u=true then 1 else 0) - (if v∈l/\X v=true then 1 else 0)
 |[],_=>by simp[bR]
 |x::l,j=>by
  have c:=qwC.mp j;have ih:=Iw (m:=m) a (X:=X) c.2;simp only[bR,qv0];rw[ih]
  by_cases i:x=u
  ·subst i;have f:¬v=x:=a;cases e:X x <;> simp[lR,c.1,f,e] <;> lia
  ·by_cases h:x=v
   ·subst h;have f:¬u=x:=λz=>a z.symm;cases e:X x <;> simp[lR,c.1,f,e,a] <;> lia
   ·have f:¬u=x:=λz=>i z.symm;have n:¬v=x:=λz=>h z.symm;simp[lR,i,h,f,n];lia
def qn2(B:xs.Nodup):∀(n:Nat)(m:α->Int),(xs.filter λx=>decide (m x % 2=1)).length<=n->pO xs ps 2 (2 * k) m->bR m allB xs % 2=0->
  ∃g:α->Int,(∀x∈xs,2 * g x=m x\/(m x % 2=1/\(2 * g x=m x+1\/2 * g x=m x - 1)))/\pO xs ps 1 k g/\2 * bR g allB xs=bR m allB xs:=by
 have done:∀m:α->Int,(∀x∈xs,m x % 2=0)->pO xs ps 2 (2 * k) m->bR m allB xs % 2=0->∃g:α->Int,(∀x∈xs,2 * g x=m x\/(m x % 2=1/\(2 * g x=m x+1\/2 * g x=m x - 1)))/\pO xs ps 1 k g/\2 * bR g allB xs=bR m allB xs:=by
  intro m E h w;have e:∀X,∀l:List α,(∀x∈l,m x % 2=0)->2 * bR (λx=>m x / 2) X l=bR m X l:=by
   intro X l
   induction l with
   |nil=>intro _;rfl
   |cons x l ih=>
    intro H;have f:=ih λy M=>H y (qvZ _ M);have c:=H x qv3;simp only[bR]
    by_cases a:X x=true
    ·rw[if_pos a,if_pos a];lia
    ·rw[if_neg a,if_neg a];lia
  refine#[λx=>m x / 2,λx a=>.inl ?_,λX D=>?_,e allB xs E]
  ·have:=E x a;show 2 * (m x / 2)=m x;lia
  ·have f:=h X D;have c:=e X xs E;lia
 intro n
 induction n with
 |zero=>
  intro m O h w;refine done m (λx a=>?_) h w;have:xs.filter (λx=>decide (m x % 2=1))=[]:=qwK ⋯;rw[List.filter_eq_nil_iff] at this;have:=this x a;rw[qwx] at this;lia
 |succ n ih=>
  intro m O h w
  by_cases j:∃u∈xs,m u % 2=1
  ·obtain⟨u,j,G⟩:=j;obtain⟨v,C,i,N,o⟩:=qn1 B h w j G;have J:lR m u v u=m u+1:=by simp[lR]
   have I:lR m u v v=m v - 1:=by simp[lR,i]
   have L:∀x,x≠u->x≠v->lR m u v x=m x:=λx f c=>by simp[lR,f,c]
   obtain⟨g,U,T,Q⟩:=ih (lR m u v) (by
    have:(xs.filter λx=>decide (lR m u v x % 2=1)).length<(xs.filter λx=>decide (m x % 2=1)).length:=by
     rw[show xs.filter (λx=>decide (lR m u v x % 2=1))=(xs.filter λx=>decide (m x % 2=1)).filter (λx=>decide (x≠u/\x≠v)) from by
      rw[List.filter_filter];refine List.filter_congr λx a=>?_;rw[qw3,qwA,qwx,qwx,qwx]
      by_cases f:x=u
      ·subst f;rw[J];constructor
       ·intro z;lia
       ·rintro⟨⟨z,_⟩,_⟩;exact absurd rfl z
      ·by_cases c:x=v
       ·subst c;rw[I];constructor
        ·intro z;lia
        ·rintro⟨⟨_,z⟩,_⟩;exact absurd rfl z
       ·rw[L x f c];exact#[λz=>#[#[f,c],z],λz=>z.2]]
     rw[qxp];refine#[u,by rw[qwb,qwx];exact#[j,G],by simp]
    lia) (λX D=>by
    have f:=h X D;rw[Iw i B]
    by_cases A:X v=true
    ·by_cases r:X u=true
     ·rw[if_pos #[j,r],if_pos #[C,A]];lia
     ·have c:=o X D A (by simpa using r);rw[if_neg λz=>r z.2,if_pos #[C,A]];lia
    ·rw[if_neg λz:v∈xs/\X v=true=>A z.2]
     by_cases r:X u=true
     ·rw[if_pos #[j,r]];lia
     ·rw[if_neg λz:u∈xs/\X u=true=>r z.2];lia) (by
    rw[Iw i B,if_pos #[j,rfl],if_pos #[C,rfl]];lia)
   refine#[g,λx a=>?_,T,?_]
   ·have:=U x a
    by_cases f:x=u
    ·subst f;rw[J] at this
     refine Or.inr ?_
     lia
    ·by_cases c:x=v
     ·subst c;rw[I] at this
      refine Or.inr ?_
      lia
     ·rw[L x f c] at this;exact this
   ·rw[Q,Iw i B,if_pos #[j,rfl],if_pos #[C,rfl]];lia
  ·refine done m (λx a=>?_) h w;have:¬m x % 2=1:=λz=>j #[x,a,z];lia
end
end L2
namespace L2
open PySem PySem.Spec PyProof.Rows
def Iz(H a:Hp):Hp:=λb=>match a b,H b with
 |some (.dH o u),some (.dH _ _)=>some (.dH o u)
 |some (.dH o u),none=>some (.dH o u)
 |some (.dH _ u),some _=>some u
 |x,_=>x
def Itd(a:Qv)(o:Obj)(kvs:List (Key×V)):It:=
 #[λi H=>H a=some (.dH o (.dK kvs))/\i<kvs.length,
  λi H v c=>∃t k x,v = .ref t/\H t=none/\c=upd H t (.tup [kV k,x])/\kvs[i]? = some (k,x),
  λi H=>H a=some (.dH o (.dK kvs))/\kvs.length<=i]
theorem KV.len:∀{kvs:List (κ×V)}{vs:List (κ×Value)},KV kvs vs->vs.length=kvs.length
 |_,_,.nil=>rfl
 |_,_,.cons _ t=>qws (· + 1) (KV.len t)
mutual
def aA(H:Hp):PyData->V->Prop
 |.none,v=>v = .non
 |.bool b,v=>v = .bl b
 |.int i,v=>v = .int i
 |.str x,v=>v = .str x
 |.list f,v=>∃a c,v = .ref a/\H a=some (.lst c)/\aR H f c
 |.tuple f,v=>∃a c,v = .ref a/\H a=some (.tup c)/\aR H f c
 |.dict e,v=>e=[]/\∃a,v = .ref a/\H a=some (.dK [])
def aR(H:Hp):List PyData->List V->Prop
 |[],a=>a=[]
 |d::c,a=>∃v r,a=v::r/\aA H d v/\aR H c r
end
mutual
theorem aA.same(s:Same H H'):∀(d:PyData)(v:V),aA H d v->aA H' d v
 |.none,v,h=>by simp only[aA] at h⊢;exact h
 |.bool b,v,h=>by simp only[aA] at h⊢;exact h
 |.int i,v,h=>by simp only[aA] at h⊢;exact h
 |.str x,v,h=>by simp only[aA] at h⊢;exact h
 |.list l,v,h=>by
  simp only[aA] at h⊢;obtain⟨a,c,e,f,j⟩:=h;exact#[a,c,e,s _ _ f,aR.same s l c j]
 |.tuple l,v,h=>by
  simp only[aA] at h⊢;obtain⟨a,c,e,f,j⟩:=h;exact#[a,c,e,s _ _ f,aR.same s l c j]
 |.dict m,v,h=>by
  simp only[aA] at h⊢;obtain⟨n,a,e,f⟩:=h;exact#[n,a,e,s _ _ f]
theorem aR.same(s:Same H H'):∀(ds:List PyData)(vs:kE),aR H ds vs->aR H' ds vs
 |[],vs,h=>by simp only[aR] at h⊢;exact h
 |d::ds,vs,h=>by
  simp only[aR] at h⊢;obtain⟨v,r,e,c,a⟩:=h;exact#[v,r,e,aA.same s d v c,aR.same s ds r a]
end
theorem aR.ints(H:Hp):∀ns:List Int,aR H (ns.map PyData.int) (ns.map V.int)
 |[]=>by simp[aR]
 |n::ns=>by simp only[qwd,aR];exact#[_,_,rfl,by simp[aA],aR.ints H ns]
theorem aR.append:∀{a c:List PyData}{xs ys:kE},aR H a xs->aR H c ys->aR H (a++c) (xs++ys)
 |[],_,_,_,h,q=>by simp only[aR] at h;subst h;exact q
 |d::a,_,_,_,h,q=>by
  simp only[aR] at h;obtain⟨v,r,rfl,f,e⟩:=h;simp only[qyq,aR];exact#[_,_,rfl,f,aR.append e q]
theorem aR.length:∀{a:List PyData}{xs:kE},aR H a xs->a.length=xs.length
 |[],_,h=>by simp only[aR] at h;subst h;rfl
 |d::a,_,h=>by
  simp only[aR] at h;obtain⟨v,r,rfl,e,c⟩:=h;simp[aR.length c]
theorem aR.at:∀{a:List PyData}{xs:kE}{i:Nat}{v:V},aR H a xs->xs[i]? = some v->∃d,a[i]? = some d/\aA H d v
 |[],_,i,v,h,e=>by simp only[aR] at h;subst h;simp at e
 |d::a,_,0,v,h,e=>by
  simp only[aR] at h;obtain⟨w,r,rfl,f,c⟩:=h;simp at e;subst e;exact#[d,rfl,f]
 |d::a,_,i+1,v,h,e=>by
  simp only[aR] at h;obtain⟨w,r,rfl,f,c⟩:=h;exact aR.at (i:=i) c (by simpa using e)
def hid(p:Qv)(H:Hp):Hp:=λb=>if b=p then none else H b
def oF:Same (hid p H) H:=λb o e=>by
 unfold hid at e;split at e
 ·cases e
 ·exact e
def mZ(s:But p H a):Same (hid p H) (hid p a):=λb o e=>by
 unfold hid at e⊢;split at e
 ·cases e
 ·rename_i h;rw[if_neg h];exact s b o h e
def eN(s:Same H a):Same (hid p H) (hid p a):=mZ λb o _ e=>s b o e
def fW(h:b≠p)(e:H b=some o):hid p H b=some o:=by
 unfold hid;rw[if_neg h];exact e
section
variable {X:Cx}{p_:QAC}{σ:St}{H:Hp}{s:Zw}{K:W5}
def Q_(ok:cP P w H h)(e:H a=some (.dK [])):Reads h (.ref a) (.dict []) [a]/\(a == sysModules)=false:=by
 obtain⟨_,n,j,m,o,f,z,v,u,r,_,c,_⟩:=xG ok e;refine#[?_,n];have y:j=[]:=by cases m;rfl
 subst y;have i:f.toList=[]:=by
  generalize f.toList=l at c;cases c;rfl
 have:=Reads.dict (kvs:=[]) (as:=[]) (bs:=[]) v u.1 r (by rw[i];exact .nil) (by rw[i];exact .nil);exact this
mutual
theorem aA.reads(I:Inv X p_ σ H s):∀(d:PyData)(v:V)(u:zT),aA H d v->RelV v u->∃as,Reads s.heap u d as
 |.none,v,u,h,r=>by
  simp only[aA] at h;subst h;cases r;exact#[_,.none]
 |.bool b,v,u,h,r=>by
  simp only[aA] at h;subst h;cases r;exact#[_,.bool b]
 |.int i,v,u,h,r=>by
  simp only[aA] at h;subst h;obtain⟨t,rfl⟩:=r;exact#[_,.int i t]
 |.str x,v,u,h,r=>by
  simp only[aA] at h;subst h;obtain⟨t,rfl⟩:=r;exact#[_,.str x t]
 |.list B,v,u,h,r=>by
  simp only[aA] at h;obtain⟨a,j,rfl,z,y⟩:=h;cases r;obtain⟨f,l,w,D⟩:=I.list (au.of z);obtain⟨o,e,c,n,A⟩:=w.isList;obtain⟨as,m⟩:=aR.reads I B j f y l;exact#[_,.list e c A (by simpa using m)]
 |.tuple B,v,u,h,r=>by
  simp only[aA] at h;obtain⟨a,j,rfl,z,y⟩:=h;cases r;obtain⟨f,l,w,D⟩:=I.tuple (aQ.of z);obtain⟨o,e,c,n,A⟩:=w;obtain⟨as,m⟩:=aR.reads I B j f y l;exact#[_,.tuple e c A (by simpa using m)]
 |.dict C,v,u,h,r=>by
  simp only[aA] at h;obtain⟨rfl,a,rfl,E⟩:=h;cases r;exact#[_,(Q_ I.hok E).1]
theorem aR.reads(I:Inv X p_ σ H s):∀(ds:List PyData)(vs:kE)(us:QAE),aR H ds vs->Vals vs us->∃as,ReadsAll s.heap us ds as
 |[],vs,us,h,r=>by
  simp only[aR] at h;subst h;cases r;exact#[_,.nil]
 |d::ds,vs,us,h,r=>by
  simp only[aR] at h;obtain⟨v,a,rfl,l,j⟩:=h;cases r with
  |cons i f=>
   obtain⟨as,e⟩:=aA.reads I d v _ l i;obtain⟨bs,c⟩:=aR.reads I ds a _ j f;exact#[_,.cons e c]
end
def PyData.lone(d:PyData):Prop:=d.hasDict=false\/d = .dict []
def Flat(d:PyData):Prop:=PyData.lone d\/∃a,d = .list a/\∀c∈a,PyData.lone c
def aA.m5(I:Inv X p_ σ H s)(h:aA H d v)(r:RelV v u)(e:PyData.lone d)(f:d.showable=true)(hz:d.shown.length<=sizeLine):
  ∃bs,ReadAtMost s.heap d.depth bs/\ReprK X.prog X.w bs s.heap d.depth u d.shown:=by
 rcases e with e|rfl
 ·obtain⟨m,c⟩:=aA.reads I d v u h r;exact qxY c f (qxS e) hz
 ·simp only[aA] at h;obtain⟨_,a,rfl,l⟩:=h;cases r;obtain⟨c,j⟩:=Q_ I.hok l;refine qxY c f (λ_ i=>?_) hz;rw[qv6] at i;rw[<- i] at j;simp at j
theorem aR.m5(I:Inv X p_ σ H s):∀{a:List PyData}{vs:kE}{us:QAE},aR H a vs->Vals vs us->(∀c∈a,PyData.lone c)->PyData.showableAll a=true->(∀t∈PyData.shownAll a,t.length<=sizeLine)->
  ∃bs,ReadAtMost s.heap (PyData.depthAll a) bs/\ReprAllK X.prog X.w bs s.heap (PyData.depthAll a) us (PyData.shownAll a)
 |[],vs,us,h,r,_,_,_=>by
  simp only[aR] at h;subst h;cases r;exact#[[],(λ_ h=>nomatch h),.nil]
 |d::a,vs,us,h,r,j,f,e=>by
  simp only[aR] at h;obtain⟨v,C,rfl,B,A⟩:=h;simp only[PyData.showableAll,qwA] at f;simp only[PyData.shownAll,qv0,forall_eq_or_imp] at e;cases r with
  |cons m l=>
   obtain⟨b1,o,y⟩:=aA.m5 I B m (j d qv3) f.1 e.1;obtain⟨b2,n,u⟩:=aR.m5 I A l (λc z=>j c (qvZ _ z)) f.2 e.2;refine#[b1++b2,(o.mono ?_).append (n.mono ?_),?_]
   ·simp only[PyData.depthAll];exact Nat.le_max_left ..
   ·simp only[PyData.depthAll];exact Nat.le_max_right ..
   ·simp only[PyData.shownAll];refine .cons ((y.more λb i=>qww _ i).level_le ?_) (u.more_le (λb i=>qwf _ i) ?_)
    ·simp only[PyData.depthAll];exact Nat.le_max_left ..
    ·simp only[PyData.depthAll];exact Nat.le_max_right ..
@[simp] def IK:List V->Hp->VK->Prop:=λa H Q=>ar1 a λv=>∃d:PyData,aA H d v/\Flat d/\d.showable=true/\d.depth<=32/\d.shown.length<=sizeLine/\Q (.str d.shown) H
def qn3{xs H Q}(h:IK xs H Q):∃(v:V)(d:PyData),xs=[v]/\aA H d v/\Flat d/\d.showable=true/\d.depth<=32/\d.shown.length<=sizeLine/\Q (.str d.shown) H:=by
 unfold IK ar1 at h;split at h
 ·obtain⟨d,q⟩:=h;exact#[_,d,rfl,q]
 ·exact h.elim
def qn4(hg:X.A.guards=some [])(hu:X.A.units+64<cLine):bY X (.builtin "repr") IK:=by
 intro p_ s σ H xs us Q I r h;obtain⟨v,d,rfl,f,hf,T,E,O,q⟩:=qn3 h;obtain⟨u,rfl,m⟩:=r.one;have Ra:PyData.lone d->∀a:Addr,u = .ref a->wX X (call (.builtin "repr") [u]) (EP X p_ σ Q) X.xe s:=by
  rintro w a rfl;have done:∀C,Reads s.heap (.ref a) d C->(d.hasDict=true->sysModules∉C)->wX X (call (.builtin "repr") [.ref a]) (EP X p_ σ Q) X.xe s:=λC J D=>
   repr_of_reads' (h₀:=s.heap) J T D hg ⋯ (λ_ _ e=>e) (λh' u G U=>#[.str _,H,I.kept (t':=G) U,#[u,rfl],q]) O
  rcases w with w|rfl
  ·obtain⟨C,J⟩:=aA.reads I d v (.ref a) f m;exact done C J (qxS w)
  ·simp only[aA] at f;obtain⟨_,b,rfl,h1⟩:=f;cases m;obtain⟨L,E⟩:=Q_ I.hok h1;refine done _ L λ_ D=>?_;rw[qv6] at D;rw[<- D] at E;simp at E
 rcases hf with w|⟨B,rfl,hc⟩
 ·cases d with
  |none=>
   simp only[aA] at f;subst f;cases m;exact PySem.P.repr_of_none #[.str _,H,I.tok _,#[_,rfl],by simpa only[PyData.shown] using q]
  |bool b=>
   simp only[aA] at f;subst f;cases m;exact PySem.P.repr_of_bool #[.str _,H,I.tok _,#[_,rfl],by simpa only[PyData.shown] using q]
  |int i=>
   simp only[aA] at f;subst f;obtain⟨t,rfl⟩:=m;exact PySem.P.repr_of_int (by simpa [PyData.showable] using T) #[.str _,H,I.tok _,#[_,rfl],by simpa only[PyData.shown] using q]
  |str x=>
   simp only[aA] at f;subst f;obtain⟨t,rfl⟩:=m;exact PySem.P.repr_of_str #[.str _,H,I.tok _,#[_,rfl],by simpa only[PyData.shown] using q] (by simpa only[PyData.shown] using O)
  |list B=>simp only[aA] at f;obtain⟨a,_,rfl,_⟩:=id f;exact Ra w a (by cases m;rfl)
  |tuple B=>simp only[aA] at f;obtain⟨a,_,rfl,_⟩:=id f;exact Ra w a (by cases m;rfl)
  |dict a0=>simp only[aA] at f;obtain⟨_,a,rfl,_⟩:=id f;exact Ra w a (by cases m;rfl)
 ·have Y:=f;simp only[aA] at f;obtain⟨a,xs,rfl,hq,j⟩:=f;cases m;obtain⟨N,rv,pl,IV⟩:=I.list (au.of hq);obtain⟨o,e,c,n,dt⟩:=pl.isList;have m6:(listText (PyData.shownAll B)).length<=sizeLine:=by simpa only[PyData.shown] using O
  obtain⟨C,L⟩:=aA.reads I (.list B) (.ref a) (.ref a) Y rfl;obtain⟨bs,mb,kb⟩:=aR.m5 I j rv hc (by simpa [PyData.showable] using T) (λt ht=>qv7 (listText_mem_le ht) m6);have M:a∉bs:=qyk L (by simp only[PyData.depth];exact qwN _) mb;simp only[PyData.depth] at E;simp only[PyData.shown] at q;refine call_repr_slot ⋯ #[o,e,c] F.slot_list_repr.toG ?_;cases N with
  |nil=>
   cases rv;have e2:B=[]:=by
    cases B with
    |nil=>rfl
    |cons d B=>simp only[aR] at j;obtain⟨_,_,z,_⟩:=j;cases z
   subst e2;simp only[PyData.shownAll,listText_nil] at q;exact call_list_repr_empty #[o,e,c] e dt #[_,_,rfl,.str _,H,I.tok _,#[_,rfl],q]
  |cons x l=>
   refine call_list_reprK e c dt M (by simpa using kb.length_eq) (λi y z=>kb.item i y (by simpa using z)) hg (λb _=>Clear.nil b) ?_ (λ_ _ z=>z) (λh' u G U=>#[_,_,rfl,.str _,H,I.kept (t':=G) U,#[u,rfl],q]) m6;show X.A.units+1+_<_;lia
@[simp] def tLR(e:TA):TE:=λσ H Q=>e σ H λc a=>ar1 c λv=>isInt v λn=>0<=n/\n<=1000/\∀p,a p=none->Q (.ref p) (upd a p (.lst ((List.range n.toNat).map λi=>V.int (i:Nat))))
@[simp] def qu5(K:W5)(f:TE)(tk:TO):TE:=λσ H Q=>f σ H λx h=>tk σ h λk c=>k=some (-1)/\isRef x λa=>∃e,au K c a e/\∀p,c p=none->Q (.ref p) (upd c p (.lst e.reverse))
end
section
variable {prog:J9}{w:zX}{A:zY}{E:QAB}{s:Zw}
def qcM{e it:Qv}{i:Int}{Q:QAB}(a:mX s.heap e it i)(h:Q (.ref e) s):wpAny (model prog w) A (pyIter (.ref e)) Q E s:=by
 obtain⟨j,f,old,a,_⟩:=a;have c:s.TypeIs (.ref e) "enumerate" :=#[_,a,rfl];refine wpAny_pyIter_slot c qyf (qwW qyf c F.entry_enumerate_iter (?_:wpAny _ _ (ret (.ref e)) _ _ s) (F.args_enumerate_iter_1 _));exact qvW #[_,rfl, "enumerate",_,c,qxn.lookup,h]
def qn5{m}(c:mX s.heap e it i)(h:∀h',mX h' e it i->Heap.SameBut e s.heap h'->Q () {s with heap:=h'}):wpAny (model prog w) A (letOwnedTupleGo (.Tuple l m pos) (.ref e) (.ref a)) Q E s:=by
 obtain⟨o,j,old,c,n⟩:=c;unfold letOwnedTupleGo;refine qvT (wpAny_load c ?_);dsimp only;split
 ·refine qvT (qxF ?_);exact qwR (a:=e) c (by simp) λh' z f=>h h' #[.none,j,old,z,.inl rfl] f
 ·exact qvW (h s.heap #[o,j,old,c,n] #[rfl,λ_ _=>rfl])
end
def Rb(b:Bool)(K:W5)(a:Qv):It:=
 #[λi H=>∃c x,ji b K H a c/\c[i]? = some x,
  λi H v e=>∃t x,v = .ref t/\H t=none/\e=upd H t (.tup [.int i,x])/\∀c,ji b K H a c->c[i]? = some x,
  λi H=>∃c,ji b K H a c/\c.length<=i]
def Inv.Ao{X:Cx}{i:QAC}{σ:St}{H:Hp}{s:Zw}(I:Inv X i σ H s){b:Bool}{a:Qv}{xs:kE}(h:ji b X.K H a xs):
  ∃its:QAE,Vals xs its/\its.length<=sizeLine/\iW b s.heap a its.toArray:=by
 cases b with
 |true=>
  obtain⟨its,c,e,f⟩:=I.list h;exact#[its,c,by rw[<- c.length];exact f,e.isList]
 |false=>
  obtain⟨its,c,e,f⟩:=I.tuple h;exact#[its,c,by rw[<- c.length];exact f,e]
def Inv.qn6{X:Cx}{c:QAC}{σ:St}{H:Hp}{s:Zw}(I:Inv X c σ H s){b:Bool}{a:Qv}{xs ys:kE}(h:ji b X.K H a xs)(q:ji b X.K H a ys):xs=ys:=by
 cases b with
 |true=>exact I.Dg h q
 |false=>exact I.ZG h q
def m7(b:Bool)(it a:Qv)(i:Nat)(h:zf):Prop:=match b with
 |true=>h.IsListIter it a i
 |false=>h.IsTupleIter it a i
def m7.src(st:m7 b it a i h)(q:iW b h a items):gC b it a items i h:=by
 cases b with
 |true=>exact#[st,q]
 |false=>exact#[st,q]
def m7.of(st:gC b it a items i h):m7 b it a i h:=by
 cases b with
 |true=>exact st.1
 |false=>exact st.1
def m7.keep(st:m7 b it a i h)(k:∀o,h.get? it=some o->h'.get? it=some o):m7 b it a i h':=by
 cases b with
 |true=>obtain⟨o,e,c⟩:=st;exact#[o,k _ e,c]
 |false=>obtain⟨o,e,c⟩:=st;exact#[o,k _ e,c]
def m7.obj(st:m7 b it a i h):∃o,h.get? it=some o/\∀v,o.data≠.cell v:=by
 cases b with
 |true=>obtain⟨o,e,_,d⟩:=(show h.IsListIter it a i from st);exact#[o,e,λv y=>by rw[d] at y;cases y]
 |false=>obtain⟨o,e,_,d⟩:=(show h.IsTupleIter it a i from st);exact#[o,e,λv y=>by rw[d] at y;cases y]
structure qn7(b:Bool)(e it a:Qv)(i:Nat)(h:zf):Prop where
 he:mX h e it i
 hi:m7 b it a i h
def qn8{b:Bool}{P:J9}{w:zX}{K:W5}{es:qy}{k:Nat}{pos:Pos}{e it a:Qv}(Ab:e≠it):
  Turn P w K (.Tuple es k pos) (Rb b K a) [e,it] e (qn7 b e it a) where
 mem:=by simp
 obj:=λi h st c j=>by
  simp only[qv0,qwn,qw2] at j
  rcases j with rfl|rfl
  ·obtain⟨T,Q,old,q,_⟩:=st.he;exact#[_,q,λv e=>nomatch e]
  ·exact st.hi.obj
 keep:=λi h O st l=>by
  obtain⟨T,Q,old,q,m⟩:=st.he;exact#[#[T,Q,old,l e (by simp) _ q,m],st.hi.keep λo z=>l it (by simp) o z]
 item:=by
  intro X L hw M j i C s r H E I m st J;subst L hw M;obtain⟨xs,x,n,U⟩:=J;obtain⟨D,A,hz,B⟩:=I.Ao n;obtain⟨u,hu,ru⟩:=A.get U;obtain⟨T,Q,old,Y,_⟩:=id st.he;obtain⟨o1,e1,_⟩:=st.hi.obj;refine qbF st.he (st.hi.src B) (x:=u) (by simpa using hu) λO a1 a2 a3 l=>?_;refine#[_,rfl,qn5 (s:={s with heap:=O,toks:=s.toks+1}) a1 λN b1 y=>?_];have lt:∀{c o},s.heap.get? c=some o->s.heap.objs.size≠c:=λe=>qw_ (qv2 e);have hn:H s.heap.objs.size=none:=I.hok.fresh (qvY _);have xr:∀c o,c∉[e,it]->s.heap.get? c=some o->N.get? c=some o:=λc o j z=>by
   simp only[qv0,qwn,qw2,not_or] at j;exact(y.2 c j.1).trans (l c o j.1 j.2 z)
  have I1:Inv X C r H {s with heap:=N,toks:=s.toks+1}:=I.tV xr m;have qT:=y.extBut _ _ (lt Y) a3;have I2:Inv X C r (upd H s.heap.objs.size (.tup [.int i,x])) {s with heap:=N,toks:=s.toks+1}:=I.PX I1 #[_,rfl] ru qT;refine#[.ref s.heap.objs.size,_,I2,rfl,#[s.heap.objs.size,x,rfl,hn,rfl,λa0 q'=>by rw[I.qn6 q' n];exact U],?_,λc f=>?_]
  ·exact#[b1,(m7.of a2).keep λo z=>(y.2 it Ab.symm).trans z]
  ·have G:c≠s.heap.objs.size:=by
    simp only[qv0,qwn,qw2] at f
    rcases f with rfl|rfl
    ·exact(lt Y).symm
    ·exact(lt e1).symm
   rw[aN G];exact(m c f).1
 done:=by
  intro X L hw M j i C s r H E I m st J;subst L hw M;obtain⟨xs,n,hl⟩:=J;obtain⟨D,A,hz,B⟩:=I.Ao n;have l1:=A.length;refine qbH (I.ok.hd j) st.he (st.hi.src B) (by simp;lia) λO l=>#[rfl,I.tV (t':=s.toks) (λc o f z=>?_) m];simp only[qv0,qwn,qw2,not_or] at f;exact l c o f.2 z
 self:=λ_ _ _ _ _ st h=>qcM st.he h
section
variable {X:Cx}{K:W5}
@[simp] def qn9(K:W5)(t:TA):TI:=λe H R=>t e H λh c=>ar1 h λx=>isRef x λa=>∃b,(∃f,ji b K c a f)/\R (Rb b K a) c
def qn_(T:X.K=K)(O:Gl X "enumerate")(N:X.mg "enumerate" = none)(Q:PA X [a] A)(M:starEach [a] X.env=[(false,eval a X.env)]:=by rfl):
  PI X (.Tuple es k m) (.Call (.Name "enumerate" p) [a] [] pos) (qn9 K A):=by
 subst T;intro n s l H R I h;refine Call_ (lB I O N Qn (qwB (aD (Q pos n s l H _ I h) λus e z=>?_) (by rw[M];rfl) (by rfl)));obtain⟨vs,y,i,B,E⟩:=z;obtain⟨v,rfl,D⟩:=ar1.out E;obtain⟨J,rfl,b,⟨Y,C⟩,q⟩:=isRef.out D;obtain⟨u,rfl,r⟩:=vals1 B;obtain rfl:u=Value.ref J:=r;obtain⟨j,rv,hz,G⟩:=i.Ao C;refine qbG (b:=b) (items:=j.toArray) (by cases b <;> exact G) λw b1 b2 b3 L=>?_;refine qcM (s:={e with heap:=w}) b1 ?_;have U:Inv X n l y {e with heap:=w}:=i.kept (t':=e.toks) L;refine#[e.heap.objs.size+1,[e.heap.objs.size+1,e.heap.objs.size],_,_,y,rfl,U,qn8 (Nat.succ_ne_self _),#[b1,m7.of b2],λc o=>?_,q];have f:e.heap.objs.size<=c:=by
  simp only[qv0,qwn,qw2] at o
  rcases o with rfl|rfl <;> first|exact qxE _ _|exact qvY _
 exact i.lE f (i.hok.fresh f)
end
section
variable {K:W5}{own:QAH}{caps:qw}{g:TG}{tt:TT}{te:TE}{D l:Qv}{σ:St}{H:Hp}{Q:Hp->Prop}{d:HS g tt te Q}
def qoa(xs:kE)(Pv:yO)(v:Pv 0 (stC own caps σ) H)(n:∀i σ H,i<=xs.length->Pv i σ H->ji b K H l xs)(j:∀i x t σ H,xs[i]? = some x->H t=none->Pv i σ H->t_ g tt te D (Pv (i+1)) (.ref t) σ (upd H t (.tup [.int i,x])))(r:∀σ H,Pv xs.length σ H->Q H):tZ own caps (Rb b K l) g tt te Q d D σ H:=by
 refine#[λi m σ H=>m=xs.length - i/\i<=xs.length/\Pv i σ H,#[xs.length,by simp,qwF _,v],?_];rintro i m σ H ⟨rfl,o,p⟩;have q:=n i σ H o p
 by_cases a:i<xs.length
 ·refine .inr #[#[xs,xs[i],q,by simp[a]],Pv (i+1),λc w f=>#[xs.length - (i+1),∅,rfl,a,f],λx w y=>?_];obtain⟨t,u,rfl,h,rfl,e⟩:=y;exact j i u t σ H (e xs q) h p
 ·have:i=xs.length:=⋯
  subst this;exact .inl #[#[xs,q,qvY _],r σ H p]
end
def qob:(Obj.mapFields f o).dict=o.dict:=by
 obtain⟨c,d,a,e⟩:=o;cases a <;> rfl
def IW(base h:zf)(e:Qv)(cls:Value×Option Addr)(j:zT)(T:Qv):Prop:=
 ∃a c i f,h.get? e=some a/\(a.cls,a.dict)=cls/\a.data = .fields c/\c[2]? = some .none/\c[1]? = some (.ref T)/\base.get? T=none/\T≠e/\h.get? T=some i/\i.data = .fields f/\f[3]? = some j
structure xW(base:zf)(l:List Env)(e:Qv)(cls:Value×Option Addr)(fl:zT)(h h':zf):Prop where
 stays:base.StaysIn h'
 frames:h'.FunFrames base l
 Aq:∃T,IW base h' e cls fl T
 slots:h.UpToSlots h'
section
variable {M:Model}{A:zY}{E:QAB}{s:Zw}{base:zf}{env:Env}{outer l:List Env}{L e:Qv}{Q:xu}
def qcN(fr:A.frames=some (env::outer))(r:s.heap.FunFrames base (env::outer))(Y:env.frame=some L)(B:s.heap.get? e=some n)(st:base.StaysIn s.heap)(w:base.get? e=none)(u:n.data = .fields vs)(D:vs[2]? = some .none)(hq:∀h',xW base (env::outer) e (n.cls,n.dict) (rawInt L) s.heap h'->Q () {s with heap:=h'}):
  wpAny M A (do let a <- frameOf env;let pl <- entryPlaceOf L a0;let b <- EntryCells.newEntry i a .none (rawInt L) .none pl;setField (.ref e) 1 b) Q E s:=by
 have Qq:2<vs.size:=(qxj.mp D).1;have ne:e∉frs (env::outer):=λz=>by
  obtain⟨_,o,y,d⟩:=r.mem z;rw[B] at y;cases y;exact d vs u
 refine qvT (wpAny_frameOf_fun fr r Y λc j=>?_);refine qvT (wpAny_entryPlaceOf λpl v=>?_);unfold EntryCells.newEntry newFields;refine qvT (qxh ?_ (v.sizeOk5 _ _ _ _ _));have J:c.get? e=some n:=(j.2.1 e ne).trans B;have f:base.StaysIn c:=λb o z=>(j.2.1 b λy=>by rw[(r.mem y).1] at z;cases z).trans (st b o z);generalize hR:({cls:=.type "traceback",dict:=none,data:=.fields ([i,.ref L,.none,rawInt L,.none]++(if pl.isEmpty then List.replicate 6 Value.none else pl)).toArray}:Obj)=R
 have C:∃m,R.data = .fields m/\m[3]? = some (rawInt L)/\R.isFreed=false:=by
  subst hR;exact#[_,rfl,by simp,rfl]
 obtain⟨m,C,U,fR⟩:=C;have I:=qvV (h:=c) R J;refine qyo I u (Nat.lt_of_succ_lt Qq) (hq _ ?_);have O:c.objs.size≠e:=qw_ (qv2 J);have keep:∀{b o},b≠e->c.get? b=some o->((c.push R).update e (Obj.mapFields (·.setIfInBounds 1 (Value.ref c.objs.size)))).get? b=some o:=λ{b o} w z=>by
  rw[qw5 _ _ (qxt w)];exact qvV _ z
 have H:∀{b o},s.heap.get? b=some o->(∀T,o.data≠.fields T)->b≠e:=λ{b o} z d y=>by
  rw[y,B] at z;cases z;exact d vs u
 have N:=qxL u (·.setIfInBounds 1 (Value.ref c.objs.size));refine#[λb o z=>keep (λy=>by rw[y,w] at z;cases z) (f b o z),r.of_keeps λb o z d=>?_,#[c.objs.size,?_],λb o z d=>?_]
 ·obtain⟨G,y⟩:=j.2.2 b o z;exact#[_,keep (H z d) y,rfl]
 ·refine#[_,_,R,m,qwM _ I (qyd N),by rw[Obj.cls_mapFields,qob],N,?_,?_,f.fresh,O,?_,C,U]
  ·rw[qxU (by decide)];exact D
  ·simp[Nat.lt_of_succ_lt Qq]
  ·rw[qw5 _ _ (qxt O)];exact qv4 c fR
 ·obtain⟨G,y⟩:=j.2.2 b o z;exact#[G,keep (H z d) y]
def qoc(o:A.frames=some (env::outer))(r:s.heap.FunFrames base (env::outer))(c:env.frame=some L)(f:s.heap.get? e=some a)(st:base.StaysIn s.heap)(m:base.get? e=none)(h:a.data = .fields vs)(j:vs[1]? = some .none)(i:vs[2]? = some .none)(n:∀h',xW base (env::outer) e (a.cls,a.dict) (rawInt L) s.heap h'->Q () {s with heap:=h'}):
  wpAny M A (noteFrame (.ref e) env) Q E s:=by
 unfold noteFrame;simp only[c];refine qvT (qwH f h j ?_);rw[if_neg (by decide)];exact qcN o r c f st m h i n
def qcO(I:A.frames=some (env::outer))(J:s.heap.FunFrames base (env::outer))(j:env.frame=some L)(C:IW base s.heap e cls .none T)(st:base.StaysIn s.heap)(D:base.get? e=none)(H:∀h',xW base (env::outer) e cls (rawInt L) s.heap h'->Q () {s with heap:=h'}):
  wpAny M A (noteFrame (.ref e) env) Q E s:=by
 obtain⟨U,O,Y,B,m,rfl,r,u,v,G,N,c,f,h⟩:=C;unfold noteFrame;simp only[j];refine qvT (qwH m r v ?_);rw[if_pos (by simp)];refine qvT (qwH c f h ?_);rw[if_neg (by simp[rawInt])];refine qvT (qyo c f (qxj.mp h).1 ?_);have a:∀{b},b≠T->(s.heap.update T (Obj.mapFields (·.setIfInBounds 3 Value.none))).get? b=s.heap.get? b:=λn=>qw5 _ _ (qxt n);have i:∀{b o},s.heap.get? b=some o->(∀w,o.data≠.fields w)->b≠T:=λ{b o} z d y=>by
  rw[y,c] at z;cases z;exact d B f
 refine qcN (s:={s with heap:=s.heap.update T (Obj.mapFields (·.setIfInBounds 3 Value.none))}) I (J.of_keeps λb o z d=>#[o,(a (i z d)).trans z,rfl]) j ((a (qxt N)).trans m) (λb o z=>(a λy=>by rw[y,G] at z;cases z).trans (st b o z)) D r u λh' x=>H h' #[x.stays,x.frames,x.Aq,λb o z d=>x.slots b o ((a (i z d)).trans z) d]
def Rf(O:s.heap.FunFrames base l)(H:IW base s.heap e cls Y T)(st:base.StaysIn s.heap)(N:∀h',xW base l e cls .none s.heap h'->Q () {s with heap:=h'}):
  wpAny M A (setFlight (.ref e) none) Q E s:=by
 obtain⟨J,C,U,m,v,rfl,w,D,j,u,B,h,c,I⟩:=H;have i:3<m.size:=(qxj.mp I).1;unfold setFlight;refine qvT (qwH v w j ?_);rw[if_pos (by simp)];refine qyo h c i (N _ ?_);have a:∀{b}(f:Obj->Obj),b≠T->(s.heap.update T f).get? b=s.heap.get? b:=λf n=>qw5 _ _ (qxt n);have r:∀{b o},s.heap.get? b=some o->(∀G,o.data≠.fields G)->b≠T:=λ{b o} z d y=>by
  rw[y,h] at z;cases z;exact d m c
 refine#[λb o z=>(a _ λy=>by rw[y,u] at z;cases z).trans (st b o z),O.of_keeps λb o z d=>#[o,(a _ (r z d)).trans z,rfl],#[T,J,C,_,_,(a _ (qxt B)).trans v,rfl,w,D,j,u,B,qwM _ h (qyd (qxL c _)),qxL c _,?_],λb o z d=>#[o.slots,(a _ (r z d)).trans z]];simp[i]
def qcP(a:∀h:Unit->Shared->Prop,(∀h',xW base (env::outer) e cls (rawInt L) s.heap h'->h () {s with heap:=h'})->wpAny M A (noteFrame (.ref e) env) h E s)(j:∀h',xW base (env::outer) e cls .none s.heap h'->Q () {s with heap:=h'}):wpAny M A (leaving env (.ref e)) Q E s:=by
 unfold leaving;refine qvT (a _ λn f=>?_);obtain⟨T,i⟩:=f.Aq;exact Rf (s:={s with heap:=n}) f.frames i f.stays λm c=>j m #[c.stays,c.frames,c.Aq,f.slots.trans c.slots]
end
structure Ar(h0 h:zf)(H:Hp)(a C:Qv)(od:wJ):Prop where
 new:h0.get? a=none
 un:H a=none
 ob:∃oe vs,h.get? a=some oe/\(oe.cls,oe.dict)=(Value.ref C,od)/\oe.data = .fields vs/\vs[2]? = some .none/\(vs[1]? = some .none\/
  ∃T oT ts,vs[1]? = some (.ref T)/\T≠a/\h0.get? T=none/\H T=none/\h.get? T=some oT/\oT.data = .fields ts/\ts[3]? = some .none)
structure D_(h0 h:zf)(H:Hp)(a C:Qv)(od:wJ)(T:Qv):Prop where
 new:h0.get? a=none
 newT:h0.get? T=none
 un:H a=none
 Rg:H T=none
 ob:∃oe vs oT ts,h.get? a=some oe/\(oe.cls,oe.dict)=(Value.ref C,od)/\oe.data = .fields vs/\vs[2]? = some .none/\vs[1]? = some (.ref T)/\T≠a/\h.get? T=some oT/\oT.data = .fields ts/\ts[3]? = some .none
def D_.in(x:D_ B h H a C u T):Ar B h H a C u:=by
 obtain⟨A,z,y,w,r,c,v,e,o,n,m,l,j,i,f⟩:=x;exact#[A,y,r,c,o,n,m,l,.inr #[T,v,e,j,i,z,w,f]]
def gW(P:J9)(w:zX):lH:=λc H s E e f=>∃(a C:Qv)(i:wJ)(h:Hp),e = .ref a/\f.os=s.os/\AllBare f.gens/\Un (frs c) [] H h s.heap f.heap/\cP P w h f.heap/\(∃T,D_ s.heap f.heap h a C i T)/\E (.ref C) i h
def Rh(x:cP P w H h)(e:h.get? b=none):H b=none:=by
 cases q:H b with
 |none=>rfl
 |some u=>
  obtain⟨o,c⟩:∃o,h.get? b=some o:=by
   have:=x b u q;cases u with
   |lst i=>obtain⟨_,_,_,_,e⟩:=this;exact#[_,e]
   |tup i=>obtain⟨_,_,_,o,e,_⟩:=this;exact#[_,e]
   |dK a=>obtain⟨_,_,_,_,o,_,_,e,_⟩:=this;exact#[_,e]
   |dT a=>obtain⟨_,_,_,_,o,_,_,e,_⟩:=this;exact#[_,e]
   |set S n=>obtain⟨o,_,_,_,e,_⟩:=this;exact#[_,e]
   |ins C r fs=>obtain⟨_,_,_,e,_⟩:=this;exact#[_,e]
   |own y=>obtain⟨_,e⟩:=this;exact#[_,e]
   |xd fs=>obtain⟨_,⟨_,_,_,e,_⟩,_⟩:=this;exact#[_,e]
   |rng lo m=>obtain⟨_,_,_,e⟩:=this;exact#[_,e]
   |dH l u=>obtain⟨e,_⟩:=this;exact#[_,e]
   |cY j=>exact#[_,(show h.get? b=some _ from this)]
   |met f y=>exact#[_,(show h.get? b=some _ from this)]
   |ext φ=>obtain⟨_,⟨o,e⟩,_⟩:=this;exact#[_,e]
  rw[e] at c;cases c
section
variable {X:Cx}{p_:QAC}{σ:St}{H:Hp}{s:Zw}
def Inv.old(I:Inv X p_ σ H s)(a:X.ex=[])(e:s.heap.get? b=none):X.s₀.heap.get? b=none:=by
 cases q:X.s₀.heap.get? b with
 |none=>rfl
 |some o=>
  obtain⟨f,c⟩:=I.base.there b o q (by rw[a];simp);rw[e] at c;cases c
def qcQ(I:Inv X p_ σ H s)(r:X.ex=[])(B:∀b∈l,b∈frs X.stack\/(X.s₀.heap.get? b=none/\H b=none))(ha:X.s₀.heap.get? a=none)(hH:H a=none)(hs:∀b∈frs X.stack,b∈l)(hE:E (.ref C) O H)(x:xW (W.hideAll s.heap l) X.stack a (.ref C,O) .none s.heap h'):gW X.prog X.w X.outer X.H₀ X.s₀ E (.ref a) {s with heap:=h'}:=by
 obtain⟨k1,k2,⟨T,oe,Y,oT,ts,t1,t2,t3,t4,tt,N,t6,M,L,t9⟩,k4⟩:=x;have nl:∀{b:Qv}{o:Obj},b∉l->s.heap.get? b=some o->h'.get? b=some o:=λf e=>k1 _ _ (W.hideAll_get _ e f);have m:∀{b:Qv}{o:Obj},X.s₀.heap.get? b=some o->b∉X.fs->b∉l:=λ{b o} e f i=>by
  rcases B b i with z|⟨z,_⟩
  ·rcases qv0.mp (I.wM b z) with z|z
   ·rw[z] at e;exact absurd (qv2 e) (Nat.not_lt.mpr I.ok.above)
   ·exact f z
  ·rw[z] at e;cases e
 have j:∀{b:Qv}{u:HO},H b=some u->b∉l:=λ{b u} e i=>by
  rcases B b i with z|⟨_,z⟩
  ·rw[I.G8 b z] at e;cases e
  ·rw[z] at e;cases e
 have U:∀{b:Qv}{o:Obj},b∈X.fs->s.heap.get? b=some o->∃A,h'.get? b=some {o with slots:=A}:=λ{b o} f e=>by
  obtain⟨_,o2,h,D⟩:=I.iC.mem f;rw[e] at h;cases h;exact k4 b o e D
 have lC:∀b:Addr,b∉X.ex:=λb=>by rw[r];simp
 refine#[a,C,O,H,rfl,I.os,I.bare,#[λb o e n f _=>?_,λb o e n f _=>?_,λb o e n _=>I.base.free b o e n (lC b),λb o e _=>?_,I.base.tups,I.base.jO,I.base.jP],λb u e=>?_,#[T,ha,?_,hH,?_,oe,Y,oT,ts,t1,t2,t3,t4,tt,t6,M,L,t9],hE]
 ·exact nl (m e f) (I.base.keep b o e n f (lC b))
 ·obtain⟨A,h⟩:=I.base.slot b o e n f (lC b);obtain⟨y,J⟩:=U f h;exact#[y,J]
 ·obtain⟨o',h⟩:=I.base.there b o e (lC b)
  by_cases f:b∈X.fs
  ·obtain⟨A,J⟩:=U f h;exact#[_,J]
  ·exact#[o',nl (m e f) h]
 ·refine(I.hok b u e).stay (λc v G q=>?_) (λc q=>q) λc xs q=>q
  rcases G with rfl|G
  ·exact nl (j e) q
  ·exact nl (j G) q
 all_goals
  have hT:T∉frs X.stack:=λi=>by
   obtain⟨_,o2,h,D⟩:=k2.mem i;rw[M] at h;cases h;exact D _ L
  have Q:s.heap.get? T=none\/(X.s₀.heap.get? T=none/\H T=none):=by
   cases q:s.heap.get? T with
   |none=>exact .inl rfl
   |some o=>
    by_cases i:T∈l
    ·exact .inr ((B T i).resolve_left hT)
    ·rw[W.hideAll_get _ q i] at N;cases N
 ·exact Q.elim (λz=>I.old r z) λz=>z.1
 ·exact Q.elim (λz=>Rh I.hok z) λz=>z.2
def qod(I:Inv X p_ σ H s)(c:X.stack=X.env::X.outer)(i:X.env.frame=some X.env.locals)(j:X.ex=[])(x:Ar X.s₀.heap s.heap H a C A)(G:E (.ref C) A H):
  wX X (leaving X.env (.ref a)) (λ_ r=>gW X.prog X.w X.outer X.H₀ X.s₀ E (.ref a) r) E' s:=by
 obtain⟨new,un,N,L,n,D,B,J,Q⟩:=x;have v:=I.ok.frames;rw[c] at v;have h:∀l:List Addr,s.heap.FunFrames (W.hideAll s.heap (frs X.stack++l)) (X.env::X.outer):=λl=>by
  rw[<- c];exact W.funFrames_hide I.stack λy n b f=>qww _ (List.mem_filterMap.mpr #[y,n,f])
 rcases Q with u|⟨T,O,M,u,h2,h3,h4,h5,Y,U⟩
 ·refine qcP (base:=W.hideAll s.heap (frs X.stack++[a])) (λQ' q=>qoc v (h _) i n (λb o e=>W.of_hideAll _ e) (qyl _ (by simp)) B u J q) λh' m=>?_;rw[D,<- c] at m;refine qcQ I j (λb f=>?_) new un (λb f=>qww _ f) G m
  rcases qwc.mp f with z|z
  ·exact .inl z
  ·rw[qv6.mp z];exact .inr #[new,un]
 ·refine qcP (base:=W.hideAll s.heap (frs X.stack++[a,T])) (cls:=(.ref C,A)) (λQ' q=>qcO v (h _) i (T:=T) #[N,L,O,M,n,D,B,J,u,qyl _ (by simp),h2,h5,Y,U] (λb o e=>W.of_hideAll _ e) (qyl _ (by simp)) q) λh' m=>?_;rw[<- c] at m;refine qcQ I j (λb f=>?_) new un (λb f=>qww _ f) G m
  rcases qwc.mp f with z|z
  ·exact .inl z
  ·simp only[qv0,qwn,qw2] at z
   rcases z with rfl|rfl
   ·exact .inr #[new,un]
   ·exact .inr #[h3,h4]
def Ar.back(x:Ar c h H a C l)(k:∀b,c.get? b=none->z.get? b=none):Ar z h H a C l:=by
 obtain⟨new,un,j,f,n,r,o,e,u⟩:=x;refine#[k _ new,un,j,f,n,r,o,e,?_]
 rcases u with c|⟨T,m,i,c,e,y,w,v⟩
 ·exact .inl c
 ·exact .inr #[T,m,i,c,e,k _ y,w,v]
def Lets(X:Cx)(E:XK):Prop:=∀(p_:QAC)(σ:St)(H:Hp)(s:Zw)(a C:Qv)(c:wJ),Inv X p_ σ H s->Ar X.s₀.heap s.heap H a C c->E (.ref C) c H->X.xe (.ref a) s
def lU{P:J9}{w:zX}{K:W5}{mg:Zu}{base:zf}{N:QAH}{h:Str}{c:Scope}{f:Qv}{j:zT}{A:zY}{e:List Env}{s:Zw}{H:Hp}{E:XK}:
  Lets (ao (gW P w) P w K mg base N h c f j A e s H E) E:=λp_ σ n l a C m I x i=>qod I rfl rfl rfl x i
def Lets.passes(h:Lets X E)(f:X.ex=[]):Passes (gW X.prog X.w) X E:=λp_ σ H s e i I m=>by
 obtain⟨a,C,l,j,rfl,n,o,un,c,⟨T,ex⟩,r⟩:=m;have u:Inv X p_ σ j i:=I.call' (ch:=[]) n un c o λb z=>(nomatch z);exact h p_ σ j i a C l u (ex.in.back λb e=>I.old f e) r
def I_{K:W5}{h:zf}{C:Qv}{j:QAE}{a:String}(X:K.In h)(q:W.excIn K C j a=true):
  ∃bm N nm q bs hdct sn sub ab col dd k0 k1 k2 k3 k5 mN,h.get? C=some (excClassObj nm q C N bs bm hdct sn sub ab col dd k0 k1 k2 k3 k5 a)/\h.Ns N mN/\mN "__init__" = none/\OwnTail h j bm/\∀v b,W.mroIn K C v=some b->(Value.ref C::bm).contains v=b:=by
 unfold W.excIn at q;split at q
 ·rename_i dd D m r;split at q
  ·rename_i E bm k0 k1 k2 k3 n k5 u o;simp only[qwA,beq_iff_eq,Bool.not_eq_true'] at q;obtain⟨⟨⟨⟨⟨rfl,rfl⟩,c⟩,z⟩,f⟩,i⟩:=q;obtain⟨nm,bs,mro,y,w,A,sn,sub,ab,col,B⟩:=D;dsimp only at u c f i;subst u c;obtain rfl:m = [k0,k1,k2,k3,some (.builtin n),k5].toArray:=by
    obtain⟨l⟩:=m;simp only at o;rw[o]
   exact#[bm,y,nm,w,bs,A,sn,sub,ab,col,dd,k0,k1,k2,k3,k5,_,X _ _ r,.of_isNs (W.isNs_of_in X f),W.nsMap_none_of_in X f i,W.tail_of_in X z,λv b e=>by
    unfold W.mroIn W.clsIn at e;rw[r] at e;simpa using e]
  ·cases q
 ·cases q
abbrev iR:QAE:=[.type "ValueError",.type "Exception",.type "BaseException",.type "object"]
def uq(K:W5)(C:Qv):Prop:=W.excIn K C iR "ValueError.__new__" = true
@[simp] def qoe(C:Qv)(E:XK)(c:TA):TS:=λ_ σ H=>c σ H λa e=>a.length<=sizeLine/\E (.ref C) none e
def Ja{X:Cx}{E:XK}{C:Qv}{x:Str}{B c pos:Pos}{e:zp}{i:qy}{r:TA}(hL:Lets X E)(n:X.ex=[])(Y:X.calm=true)(cl:uq X.K C)(U:Gl X x)(T:X.mg x=some (.ref C))(ha:PA X (e::i) r)(o:iG x:=by decide)(O:lG X e i:=by rfl)(l:(backTo c (starEach (e::i) X.env)).any (·.1)=false:=by rfl):
  PS X (.Raise (some (.Call (.Name x B) (e::i) [] c)) none pos) (qoe C E r):=by
 intro p_ s σ H D I h;obtain⟨bm,N,nm,q,bs,hdct,sn,sub,ab,col,dd,k0,k1,k2,k3,k5,mN,Jb,Ri,m,w,_⟩:=I_ I.ok.mod.jQ cl;refine wpAny_Raise_call_subT (bm:=bm) (N:=N) (nm:=nm) (q:=q) (bs:=bs) (hdct:=hdct) (sn:=sn) (sub:=sub) (ab:=ab) (col:=col) (dd:=dd) (k0:=k0) (k1:=k1) (k2:=k2) (k3:=k3) (k5:=k5) (mN:=mN) (C:=C) qyp (w.hasType (by decide)) (I.ok.hd Y) l m ?_;refine qJ I U T #[rfl,?_] o;have v:=λQ q=>ha c p_ s σ H Q I q;rw[O] at v⊢;show wpAny _ _ (evalArgs (.ref C) true ((false,eval e X.env)::backTo c (starEach i X.env)) []) _ _ s;refine qyn (aD (v _ h) λus u z=>?_);obtain⟨vs,y,f,A,G,hE⟩:=z;refine#[rfl,by rw[<- A.length];exact G,f.bk _ _ Jb,Ri.keeps f.bk,w.keeps f.bk,λh' a j=>?_];obtain⟨t,M,L,J⟩:=j.there;have I2:Inv X p_ σ y {u with heap:=h',toks:=u.toks}:=f.kept j.keeps;exact hL p_ σ y _ a C none I2 #[f.old n j.new,Rh f.hok j.new,_,_,M,rfl,rfl,rfl,.inl rfl] hE
def aC.okE{P:J9}{w:zX}{K:W5}{mg:Zu}{base:zf}{x c:Str}{st:Stmt}{f:Qv}{l:zq}{N ps:QAH}{k:Nat}{sp:Sp}(F:aC K x c st f l)(S:bh N ps (aG st))(len:∀vs H Q E,sp vs H Q E->vs.length=ps.length)(h:∀(e:zT)(A:zY)(a:List Env)(s:Zw)(H:Hp)(vs:kE)(Q:VK)(E:XK),cB k (A.deeper (envOfC c (aG st) s.heap.objs.size f e))->sp vs H Q E->
   ∃t,fQ (ao (gW P w) P w K mg base N c (aG st) f e A a s H E) (iI st) t/\t {nx:=λ_ u=>Q .non u,rt:=Q} (start N vs) H):aO P w K mg base (gW P w) (k+1) f l ps sp:=by
 obtain⟨z,y,kV,r,v,C,e,B,m,rfl,n,j⟩:=F.ex;exact Ph n j S len λA a s H vs Q E o i=>h e A a s H vs Q E o i
def Inv.gone{X:Cx}{p_:QAC}{σ:St}{H:Hp}{s:Zw}{h':zf}{t':Nat}{ch:xQ}(I:Inv X p_ σ H s)(M:X.ex=[])(h:∀b∈ch,X.s₀.heap.get? b=none/\H b=none/\(∀vs o,s.heap.get? b=some o->o.data = .fields vs->True)/\(∃o vs,s.heap.get? b=some o/\o.data = .fields vs)/\∀p∈X.pn++p_,p.1≠b)(k1:∀b o,b∉frs X.stack->b∉ch->s.heap.get? b=some o->h'.get? b=some o)(k2:∀b o,s.heap.get? b=some o->(∀vs,o.data≠.fields vs)->∃j,h'.get? b=some {o with slots:=j}):
  Inv X p_ σ H {s with heap:=h',toks:=t'}:=by
 have nf:∀{b o},s.heap.get? b=some o->(∀vs,o.data≠.fields vs)->b∉ch:=λ{b o} e N a=>by
  obtain⟨_,_,_,⟨Y,vs,w,d2⟩,_⟩:=h b a;rw[e] at w;cases w;exact N vs d2
 have T:∀{b:Qv}{o:Obj},b∈frs X.stack->s.heap.get? b=some o->∃j,h'.get? b=some {o with slots:=j}:=λ{b o} a e=>by
  obtain⟨_,Y,w,N⟩:=I.stack.mem a;rw[e] at w;cases w;exact k2 b o e N
 have Rj:∀{b:Qv}{o:Obj},b∉ch->s.heap.get? b=some o->∃O,h'.get? b=some O:=λ{b o} a e=>by
  by_cases E:b∈frs X.stack
  ·obtain⟨j,z⟩:=T E e;exact#[_,z]
  ·exact#[o,k1 b o E a e]
 have old:∀{b:Qv}{o:Obj},X.s₀.heap.get? b=some o->b∉ch:=λe a=>by
  rw[(h _ a).1] at e;cases e
 have L:∀{b:Qv}{o:Obj},X.s₀.heap.get? b=some o->b∉X.fs->b∉frs X.stack:=λ{b o} e a f=>by
  rcases qv0.mp (I.wM b f) with z|z
  ·rw[z] at e;exact absurd (qv2 e) (Nat.not_lt.mpr I.ok.above)
  ·exact a z
 have lC:∀b:Addr,b∉X.ex:=λb=>by rw[M];simp
 have cells:∀{c:Qv}{v:QAG},s.heap.IsCell c v->h'.IsCell c v:=λ{c v} ⟨o,e,d⟩=>by
  obtain⟨j,z⟩:=k2 c o e (λvs q=>by rw[d] at q;cases q);exact#[_,z,d]
 have A:∀{b:Qv},b∈X.fs->b∈frs X.stack:=λ{b} a=>by
  rcases I.ok.stk with e|⟨e,E⟩
  ·rw[e];exact a
  ·rw[e];show b∈List.filterMap _ (X.env::X.outer);rw[qyr,E];exact qvZ _ a
 refine#[I.ok,I.os,I.bare,#[λb o e n a C=>?_,λb o e n a C=>?_,I.base.free,λb o e C=>?_,I.base.tups,I.base.jO,I.base.jP],?_,λx c e=>?_,I.free,I.iD,λp Q=>?_,λb u e=>?_,I.len]
 ·exact k1 b o (L e a) (old e) (I.base.keep b o e n a C)
 ·obtain⟨j,z⟩:=I.base.slot b o e n a C;obtain⟨J,z'⟩:=T (A a) z;exact#[J,z']
 ·obtain⟨O,z⟩:=I.base.there b o e C;exact Rj (old e) z
 ·obtain⟨m,⟨o,es,ep,e,d,r⟩,q⟩:=I.loc;obtain⟨j,z⟩:=k2 _ o e (λvs y=>by rw[d] at y;cases y);refine#[m,#[_,es,ep,z,d,r],λi x v e1 w e3=>?_];obtain⟨u,U,l⟩:=q i x v e1 w e3;refine#[u,U,?_]
  rcases l with l|⟨kd,c,ec,y⟩
  ·exact .inl l
  ·exact .inr #[kd,c,ec,cells y]
 ·obtain⟨v,z⟩:=I.cell x c e;exact#[v,cells z]
 ·obtain⟨e,n,ne,B,d⟩:=I.pin p Q;refine#[k1 _ _ (λf=>?_) (λf=>(h _ f).2.2.2.2 p Q rfl) e,n,ne,B,d]
  rcases qv0.mp (I.wM _ f) with z|z
  ·exact ne z
  ·exact B z
 ·have D:∀{c:Qv}{u:HO},H c=some u->c∉frs X.stack/\c∉ch:=λ{c u} q=>#[λf=>(by rw[I.G8 _ f] at q;cases q),λf=>(by rw[(h _ f).2.1] at q;cases q)];refine(I.hok b u e).stay (λc v G q=>?_) (λc q=>q) λc xs q=>q
  rcases G with rfl|G
  ·exact k1 _ _ (D e).1 (D e).2 q
  ·exact k1 _ _ (D G).1 (D G).2 q
end
end L2
namespace L2
open PySem PySem.Spec PySem.W PyProof.Rows
section
variable {prog:J9}{w:zX}{A:zY}{E:QAB}{K:W5}{h:zf}{g:Array GenState}{d:Drawn}{t:Nat}{os:OsState}{x C:Qv}
structure xX(K:W5)(C:Qv):Prop where
 ga:findIn K (.ref C) "__getattribute__" = some (some (.builtin "BaseException.__getattribute__"))
 gn:findIn K (.ref C) "__getattr__" = some none
 cl:findIn K (.ref C) "__class__" = some (some (.builtin "object.__class__"))
 sp:specialIn K (.builtin "object.__class__") "__get__" = some (some (.builtin "getset_descriptor.__get__"))
 tk:takesIn K (.builtin "object.__class__")=some true
 mo:mroIn K C (.type "object")=some true
 mb:mroIn K C (.type "BaseException")=some true
def m8(x C:Qv)(h:zf):Prop:=∃a c,h.get? x=some a/\a.cls = .ref C/\a.data = .fields c
def m8.type(e:m8 x C h):Looks M h (typeOf (.ref x)) (.ref C):=by
 obtain⟨i,f,c,a,_⟩:=e;exact a▸(Looks.ld c).andThen .now
def qog(X:K.In h)(I:m8 x C h)(L:xX K C)(i:R (.ok (.ret (.ref C))) #[h,g,d,t,os]):
  codeAny (model prog w) A (.call (.builtin "getset_descriptor.__get__") #[[.builtin "object.__class__",.ref x,f],[]]) R #[h,g,d,t,os]:=by
 have c:=I.type (M:=model prog w);have e:=looks_mroIn (M:=model prog w) X L.mo;have a:(#[h,g,d,t,os]:Shared).TypeIs (.builtin "object.__class__") "getset_descriptor" :=F.typeOf_object_class;refine qxR F.slot_gs_get.plain F.entry_gs_get (F.slot_gs_get.check _ _ _ _ _ _ _ _ a (F.args_gs_get _ _ _) ?_)
 repeat (any_goals (first|assumption|with_reducible refine c.at ?_|with_reducible refine e.at ?_|wp_step))
 rw[show(".".intercalate ("object.__class__".cutAt '.').dropLast) = "object" by decide+kernel];refine e.at ?_
 repeat (any_goals (first|assumption|with_reducible refine c.at ?_|wp_step))
 refine#[Code.quiet_builtin _ (by decide+kernel),qw4 KF.entry_class ?_];unfold Builtin.«object.__class__»
 repeat (any_goals (first|assumption|with_reducible refine c.at ?_|wp_step))
def qoh(X:K.In h)(I:m8 x C h)(L:xX K C)(f:Q (.done (.ret (.ref C))) #[h,g,d,t,os]):
  wpAny (model prog w) A (Builtin.«object.__getattribute__» #[[.ref x,.str "__class__" tk],[]]) Q E #[h,g,d,t,os]:=by
 have e:=I.type (M:=model prog w);have c:=looks_findIn (M:=model prog w) X L.cl;have a:(#[h,g,d,t,os]:Shared).TypeIs (.builtin "object.__class__") "getset_descriptor" :=F.typeOf_object_class;have l:=F.typeOf_object_class;have j:=F.slot_gs_get.lookup;have i:=F.slot_gs_set.lookup
 repeat (any_goals (first|assumption|with_reducible refine e.at ?_|with_reducible refine c.at ?_|wp_step))
 refine qog X I L ?_
 repeat (any_goals (first|assumption|wp_step))
def qoi(X:K.In h)(I:m8 x C h)(L:xX K C)(e:Q () #[h,g,d,t,os]):
  wpAny M A (checkBuiltinCall "BaseException.__getattribute__" #[[.ref x,a],[]]) Q E #[h,g,d,t,os]:=by
 have f:builtinKind "BaseException.__getattribute__" = some .slot:=by decide+kernel
 have c:splitId "BaseException.__getattribute__" = some ("BaseException", "__getattribute__"):=by decide+kernel
 have j:=I.type (M:=M);have i:=looks_mroIn (M:=M) X L.mb;have l:=F.args_bexc_ga (.ref x) a;simp only[checkBuiltinCall,f,c];refine qvT ?_;unfold isInstance
 repeat (first|with_reducible refine j.at ?_|with_reducible refine i.at ?_|wp_step)
 exact e
def qoj{tk:Tok}{fill:Bool}{Q:QAB}(X:K.In h)(I:m8 x C h)(L:xX K C)(i:Q (.ref C) #[h,g,d,t,os]):
  wpAny (model prog w) A (getAttrBy (.ref x) (.str "__class__" tk) fill) Q E #[h,g,d,t,os]:=by
 have f:=I.type (M:=model prog w);have e:=looks_findIn (M:=model prog w) X L.ga;have L2:=looks_findIn (M:=model prog w) X L.gn;have j:=(F.attrBase_ValueError.ga).bind (.ref x);have a:(Value.builtin "BaseException.__getattribute__" == Value.builtin "object.__getattribute__")=false:=by decide+kernel
 have c:(onTheHeap (Value.ref C) && Value.builtin "BaseException.__getattribute__" == Value.builtin "object.__getattribute__")=false:=by rw[a];rfl
 repeat (any_goals (first|assumption|with_reducible refine f.at ?_|with_reducible refine e.at ?_|with_reducible refine L2.at ?_|wp_step))
 refine qxR F.attrBase_ValueError.ga.plain F.entry_bexc_ga (qoi X I L (qoh X I L ?_))
 repeat (any_goals (first|assumption|wp_step))
def qok{s:Zw}{Q:QAG->Shared->Prop}(X:K.In s.heap)(I:m8 x C s.heap)(L:xX K C)(a:Q (some (.ref C)) {s with toks:=s.toks+1}):
  wpAny (model prog w) A (getAttr? (.ref x) "__class__") Q E s:=by
 obtain⟨h,g,d,t,os⟩:=s;unfold getAttr? getAttrBy?
 repeat (any_goals (first|assumption|with_reducible apply qoj X I L|wp_step))
end
def qcT{K:W5}{x C:Qv}{r:ClassData}(a:clsIn K C=some r)(L:xX K C):KitX K (.ref x) (.ref C) (m8 x C) where
 ty:=λM h _ e=>e.type
 it:=λ_ _ X _=>by
  unfold clsIn at a;split at a
  ·rename_i u o j c i;intro D A B w k q;unfold isType loadHead;exact qvT (wpAny_loadPart (k _ _ (X _ _ i)) (qvW q))
  ·cases a
 ne:=λh l y m n v X f=>by
  refine Bool.eq_false_iff.mpr λq=>?_;have e:C=l:=Value.ref.inj (beq_iff_eq.mp q);subst e;unfold clsIn at a;split at a
  ·rename_i u o j c i;have z:=(X _ _ i).symm.trans f;cases z
  ·cases a
 ca:=λX e k=>qok X e L k
end L2
namespace L2
open PySem PySem.Spec PyProof.Rows
def Cx.caught(X:Cx)(a:Qv):Cx:={X with A:=X.A.mark (some (.ref a)),calm:=false,xe:=λ_ _=>False}
def Cx.tried(X:Cx)(pn:QAC)(xe:QAB):Cx:={X with pn:=pn,xe:=xe}
section
variable {X:Cx}{p_:QAC}{σ:St}{H:Hp}{s:Zw}
theorem Inv.caught(I:Inv X p_ σ H s)(a:Qv):Inv (X.caught a) p_ σ H s:=
 #[#[I.ok.mod,I.ok.kind,I.ok.glob,I.ok.blt,I.ok.above,I.ok.inj,I.ok.has,I.ok.cab,λz=>(nomatch z),I.ok.frames,I.ok.stk,I.ok.qG,I.ok.bs,I.ok.jR,I.ok.sZ,I.ok.qH,I.ok.iC,I.ok.mF],I.os,I.bare,I.base,I.loc,I.cell,I.free,I.iD,I.pin,I.hok,I.len]
def Inv.uncaught{a:Qv}{e:Zw}(I:Inv X p_ σ H s){c:St}{f:Hp}(J:Inv (X.caught a) p_ c f e):Inv X p_ c f e:=
 #[I.ok,J.os,J.bare,J.base,J.loc,J.cell,J.free,J.iD,J.pin,J.hok,J.len]
theorem Inv.tried(I:Inv X p_ σ H s)(c:QAB):Inv (X.tried (X.pn++p_) c) [] σ H s:=
 #[#[I.ok.mod,I.ok.kind,I.ok.glob,I.ok.blt,I.ok.above,I.ok.inj,I.ok.has,I.ok.cab,I.ok.hd,I.ok.frames,I.ok.stk,I.ok.qG,I.ok.bs,I.ok.jR,I.ok.sZ,I.ok.qH,I.ok.iC,I.ok.mF],I.os,I.bare,I.base,I.loc,I.cell,I.free,I.iD,λp a=>I.pin p (by rw[qwy] at a;exact a),I.hok,I.len]
def Inv.Eb{f:QAB}{h:QAC}{c:Zw}(I:Inv X p_ σ H s){a:St}{e:Hp}(J:Inv (X.tried (X.pn++p_) f) h a e c):Inv X p_ a e c:=
 #[I.ok,J.os,J.bare,J.base,J.loc,J.cell,J.free,J.iD,λp i=>J.pin p (qww _ i),J.hok,J.len]
def Takes(X:Cx)(e:QAC)(c:QAB)(R:St->Addr->Option Addr->Hp->Prop):Prop:=
 ∀(p_:QAC)(σ:St)(H:Hp)(s:Zw)(a C:Qv)(f:wJ)(T:Qv),Inv (X.tried e c) p_ σ H s->D_ X.s₀.heap s.heap H a C f T->(∀p∈e,p.1≠a/\p.1≠T)->R σ C f H->c (.ref a) s
@[simp] def qol(sp:Sp)(R:St->Addr->Option Addr->Hp->Prop)(t:TA):TE:=λσ H Q=>t σ H λa e=>n_ sp a e Q #[0] (λv c f=>∃C,v = .ref C/\R σ C c f)
def Rk{k:Nat}{f:Qv}{M:zq}{ps:QAH}{sp:Sp}{x:Str}{p pos:Pos}{e:zp}{o:qy}{t:TA}{n:QAC}{l:QAB}{R:St->Addr->Option Addr->Hp->Prop}(hx:Takes X n l R)(G:X.ex=[])(F:aO X.prog X.w X.K X.mg X.base (gW X.prog X.w) k f M ps sp)(hr:cB k X.A)(hg:Gl X x)(hm:X.mg x=some (.ref f))(hk:W.keepIn X.K (.ref f)=true)(hb:Binds X.K M ps [])(ha:PA (X.tried n l) (e::o) t)(J:iG x:=by decide)(he:lG X e o:=by rfl)(B:nQ X pos o:=by rfl):
  PE (X.tried n l) (.Call (.Name x p) (e::o) [] pos) (qol sp R t):=by
 intro p_ s σ H Q I h;refine qwO (qJ I hg hm ?_ J);refine W.callWith_K (h₀:=X.base) I.ok.mod.jQ hk (aD (ha pos p_ s σ H _ I h) λm y O=>?_) he B;obtain⟨U,H1,c,r,q⟩:=O;refine#[c.cg,?_];have hl:m.length=ps.length:=by rw[<- r.length];exact F.len _ _ _ _ q
 have j:=hb y m c.cg (by rw[qwy];exact hl);rw[qwy] at j;refine qx3 (qwQ (F.run X.A X.stack y H1 #[m,[]] m U Q _ hr c.env0 j r q) λY L i=>?_);cases Y with
 |error e=>
  obtain⟨a,C,od,N,rfl,ho,E,un,D,⟨T,ex⟩,C',e2,hR⟩:=i;cases e2;have I':Inv (X.tried n l) p_ σ N L:=c.call' (ch:=[]) ho un D E λb z=>(nomatch z);have old:∀b,y.heap.get? b=none->X.s₀.heap.get? b=none:=λb z=>c.old G z;refine hx p_ σ N L a C od T I' #[old _ ex.new,old _ ex.newT,ex.un,ex.Rg,ex.ob] (λp hp=>?_) hR;have v:=(c.pin p (qww _ hp)).1;exact#[λz=>(by rw[z,ex.new] at v;cases v),λz=>(by rw[z,ex.newT] at v;cases v)]
 |ok fl=>
  cases fl with
  |ret u=>exact c.after i
  |next=>exact False.elim i
  |brk=>exact False.elim i
  |cont=>exact False.elim i
def Jc(x C:Qv)(e:wJ)(h:zf):Prop:=∃a c,h.get? x=some a/\(a.cls,a.dict)=(Value.ref C,e)/\a.data = .fields c/\c[2]? = some .none
def Jc.at(e:Jc x C l h):m8 x C h:=by
 obtain⟨c,a,j,i,f,m⟩:=e;exact#[c,a,j,qws Prod.fst i,f]
def lV(a C:Qv)(c:wJ):HO:=.ext λh=>Jc a C c h
abbrev Rm(a C:Qv):HO:=lV a C none
def jZ(K:W5)(C:Qv):Prop:=∀h,K.In h->∃e N i q bs a f sub u c r o n m l j,h.get? C=some (excClassObj i q C N bs e a f sub u c r o n m l j "ValueError.__new__")/\∀v b,W.mroIn K C v=some b->(Value.ref C::e).contains v=b
def jZ.of{K:W5}{C:Qv}(c:uq K C):jZ K C:=λh X=>by
 obtain⟨w,N,j,q,bs,e,i,sub,y,f,v,r,o,n,m,l,z,u,_,_,_,a⟩:=I_ X c;exact#[w,N,j,q,bs,e,i,sub,y,f,v,r,o,n,m,l,u,a]
def Inv.qcU(I:Inv X p_ σ H s)(new:X.s₀.heap.get? a=none)(un:H a=none)(e:∃f vs,s.heap.get? a=some f/\f.data = .fields vs)(ok:b_ X.prog X.w (upd H a i) s.heap a i)(n:∀p∈X.pn++p_,p.1≠a):Inv X p_ σ (upd H a i) s:=by
 obtain⟨f,vs,B,A⟩:=e;have j:∀{b o},s.heap.get? b=some o->(∀vs,o.data≠.fields vs)->b≠a:=λl u z=>by
  rw[z,B] at l;cases l;exact u _ A
 obtain⟨m,⟨o,C,D,h,d,r⟩,_⟩:=id I.loc;refine I.wL new un (j h λvs y=>by rw[d] at y;cases y).symm (λx c q=>?_) n ok;obtain⟨v,o,h,d⟩:=I.cell x c q;exact j h λvs y=>by rw[d] at y;cases y
def Inv.track(I:Inv X p_ σ H s)(new:X.s₀.heap.get? a=none)(un:H a=none)(e:Jc a C i s.heap)(j:∀p∈X.pn++p_,p.1≠a):Inv X p_ σ (upd H a (lV a C i)) s:=
 have ⟨c,f,h,_,l,_⟩:=id e
 I.qcU new un #[c,f,h,l] #[e,#[c,h],λ_ _ ⟨c,f,a1,a2,a3⟩ k=>#[c,f,k _ a1,a2,a3]] j
def qom{M:Model}{A:zY}{E:QAB}{i:Nat}{n:Str}{v:V}{Q:xu}(I:Inv X p_ σ H s)(hN:X.N.Nodup)(G:X.N[i]? = some n)(B:X.env.scope.names.lookup n=some .local)(hv:σ[i]? = some (some v))(h:∀O,Inv X p_ (σ.set i none) H O->Q () O):wpAny M A (unbindName X.env n) Q E s:=by
 obtain⟨m,U,q⟩:=id I.loc;obtain⟨u,rv,l⟩:=q i n v G hv (.inl B);have hm:m n=some u:=by
  rcases l with⟨_,l⟩|⟨k,c,_⟩
  ·exact l
  ·rcases k with k|k
   ·have:X.env.kindOf n=some .local:=B;rw[k] at this;cases this
   ·have:X.env.kindOf n=some .local:=B;rw[k] at this;cases this
 have w:(X.env.scope.kind == .class || (X.env.scope.kind == .module && X.env.locals != X.env.globals))=false:=by rw[I.ok.kind];rfl
 have zM:i<σ.length:=by rw[I.len];exact(qvU.mp G).1
 refine wpAny_unbindName_local B U hm w λh' u' D f=>?_;obtain⟨oL,_,_,a0,_⟩:=id U;have a:∀b o,X.s₀.heap.get? b=some o->b≠X.env.locals:=λb o e=>qwk (qv_ (qv2 e) I.ok.above);refine h _ #[I.ok,I.os,I.bare,#[λb o e n L r=>?_,λb o e n L r=>?_,I.base.free,λb o e r=>?_,I.base.tups,I.base.jO,I.base.jP],#[_,D,λj y v' e1 C e3=>?_],λy c e=>?_,I.free,I.iD,λp hp=>?_,λb ob e=>?_,by simpa using I.len]
 ·exact(f.2 b (a b o e)).trans (I.base.keep b o e n L r)
 ·obtain⟨sl,z⟩:=I.base.slot b o e n L r;exact#[sl,(f.2 b (a b o e)).trans z]
 ·obtain⟨o',z⟩:=I.base.there b o e r;exact#[o',(f.2 b (a b o e)).trans z]
 ·have Y:j≠i:=λz=>by
   subst z;rw[qx2 zM] at C;cases C
  rw[List.getElem?_set_ne (qxt Y)] at C;obtain⟨u2,r2,l2⟩:=q j y v' e1 C e3;refine#[u2,r2,?_]
  rcases l2 with⟨k,e⟩|⟨k,c,e,z⟩
  ·have:y≠n:=λe=>Y (Ot hN e1 (e▸G));exact .inl #[k,by simp[this,e]]
  ·exact .inr #[k,c,e,z.sameBut f (I.qI y c e)]
 ·obtain⟨w',z⟩:=I.cell y c e;exact#[w',z.sameBut f (I.qI y c e)]
 ·obtain⟨e,n,ne,nf,d⟩:=I.pin p hp;exact#[(f.2 p.1 ne).trans e,n,ne,nf,d]
 ·have T:∀{c:Qv}{u:HO},H c=some u->c≠X.env.locals:=λ{c u} q z=>by
   rw[z,I.free] at q;cases q
  refine(I.hok b ob e).stay (λc w' J q=>(f.2 c ?_).trans q) (λ_ q=>q) λ_ _ q=>q
  rcases J with rfl|J
  ·exact T e
  ·exact T J
end
section
variable {M:Model}{A:zY}{E:QAB}{h:zf}{g:Array GenState}{d:Drawn}{t:Nat}{os:OsState}
variable {nm q:Str}{C N:Qv}{bs bm:QAE}{hdct:Bool}{sn:QAH}{sub:QAE}{ab:Bool}{col:Option Bool}{dd:wJ}{k0 k1 k2 k3 k5:QAG}{newId:String}
variable {nm' q':Str}{D N':Qv}{bs' bm':QAE}{qcV:Bool}{sn':QAH}{sub':QAE}{ab':Bool}{col':Option Bool}{pI:wJ}{j0 j1 j2 j3 j5:QAG}{newId':String}
def qon(u:h.get? C=some (excClassObj nm q C N bs bm hdct sn sub ab col dd k0 k1 k2 k3 k5 newId))(m:h.get? D=some (excClassObj nm' q' D N' bs' bm' qcV sn' sub' ab' col' pI j0 j1 j2 j3 j5 newId'))(r:h.get? e=some n)(c:n.cls = .ref C)(a:bm'.contains (.type "BaseException")=true)(i:bm.contains (.ref D)=true)(o:Q true #[h,g,d,t,os]):wpAny M A (excMatches (.ref e) (.ref D)) Q E #[h,g,d,t,os]:=by
 have j:(Value.ref D::bm').contains (.type "BaseException")=true:=by rw[List.contains_cons,a,Bool.or_true]
 have l:(Value.ref C::bm).contains (.ref D)=true:=by rw[List.contains_cons,i,Bool.or_true]
 have f:=tc_notTuple;unfold excMatches
 repeat (first|(with_reducible refine qxx r ?_;rw[c])|with_reducible refine qxx m ?_|(with_reducible refine wpAny_isSubtype_exc m ?_;rw[j])|(with_reducible refine wpAny_isSubtype_exc u ?_;rw[l])|wp_step)
 exact o
end
def Jd(i:Nat)(K:W5)(D:Qv)(l:Addr->TS)(f:Ends):St->Addr->Option Addr->Hp->Prop:=λh C m j=>(jZ K C/\W.mroIn K C (.ref D)=some true/\C≠D)/\∀a,j a=none->
  l a {nx:=λc e=>f.nx (c.set i none) e,rt:=f.rt,bk:=λc e=>f.bk (c.set i none) e,ct:=λc e=>f.ct (c.set i none) e} (h.set i (some (.ref a))) (upd j a (lV a C m))
@[simp] def qoo(i:Nat)(K:W5)(D:Qv)(e:Addr->TS)(tb:(St->Addr->Option Addr->Hp->Prop)->TS):TS:=λa c H=>tb (Jd i K D e a) a c H
def qop(ac:X.stack=X.env::X.outer)(aw:X.env.frame=some X.env.locals)(ax:X.ex=[])(hN:X.N.Nodup)(hi:X.N[i]? = some n)(hl:X.env.scope.names.lookup n=some .local)(Y:∀R pn xe,Takes X pn xe R->fQ (X.tried pn xe) ag (tb R))(hg:Gl X cls)(hm:X.mg cls=some (.ref D))(b6:uq X.K D)(ar:∀a,fQ (X.caught a) (af::L) (ts a))(ay:iG cls:=by decide):
  PS X (.Try ag [.ExceptHandler (some (.Name cls np)) (some n) (af::L) G] [] [] pos) (qoo i X.K D ts tb):=by
 intro B s σ H Dn I h;have zM:∀{c:St}{j:Hp}{E:Zw},Inv X B c j E->i<c.length:=λJ=>by rw[J.len];exact(qvU.mp hi).1
 refine wpAny_Try_except (qwu (Y (Jd i X.K D ts Dn) (X.pn++B) (λe l=>∃a C U T m O,e = .ref a/\Inv X B m O l/\D_ X.s₀.heap l.heap O a C U T/\(∀p∈X.pn++B,p.1≠a/\p.1≠T)/\Jd i X.K D ts Dn m C U O) ?_ [] s σ H Dn (I.tried _) h) (λf l y=>?_) λe l hx=>?_)
 ·intro tu m O l a C U T J ex hp hR;exact#[a,C,U,T,m,O,rfl,I.Eb J,ex,hp,hR]
 ·cases f with
  |next=>obtain⟨c,j,J,q⟩:=y;exact wpAny_execs_nil #[c,j,I.Eb J,q]
  |brk=>obtain⟨c,j,J,q⟩:=y;exact#[c,j,I.Eb J,q]
  |cont=>obtain⟨c,j,J,q⟩:=y;exact#[c,j,I.Eb J,q]
  |ret u=>obtain⟨v,c,j,J,r,q⟩:=y;exact#[v,c,j,I.Eb J,r,q]
 ·obtain⟨a,C,U,T,m,O,rfl,J,ex,hp,⟨b7,az,as⟩,hR⟩:=hx;obtain⟨new,aa,un,Rg,oe,vs,oT,a0,t1,t2,t3,t4,t5,t6,t7,t8,t9⟩:=ex;have fr:=J.ok.frames;rw[ac] at fr;have an:(W.hideAll l.heap (frs X.stack++[a,T])).StaysIn l.heap:=λb o e=>W.of_hideAll _ e;have na:(W.hideAll l.heap (frs X.stack++[a,T])).get? a=none:=qyl _ (by simp);have ff:l.heap.FunFrames (W.hideAll l.heap (frs X.stack++[a,T])) (X.env::X.outer):=by
   rw[<- ac];exact W.funFrames_hide J.stack λb0 he b Y=>qww _ (List.mem_filterMap.mpr #[b0,he,Y])
  have am:IW (W.hideAll l.heap (frs X.stack++[a,T])) l.heap a (.ref C,U) .none T:=#[oe,vs,oT,a0,t1,t2,t3,t4,t5,qyl _ (by simp),t6,t7,t8,t9];have gone:∀(h':zf),(W.hideAll l.heap (frs X.stack++[a,T])).StaysIn h'->l.heap.UpToSlots h'->Inv X B m O {l with heap:=h'}:=λh' k1 k2=>by
   refine J.gone (t':=l.toks) (ch:=[a,T]) ax (λb Y=>?_) (λb o y hc e=>k1 b o (W.hideAll_get _ e (by rw[qwc];exact λz=>z.elim y hc))) λb o e hd=>k2 b o e hd;simp only[qv0,qwn,qw2] at Y
   rcases Y with rfl|rfl
   ·exact#[new,un,λ_ _ _ _=>trivial,#[oe,vs,t1,t3],λp q=>(hp p q).1]
   ·exact#[aa,Rg,λ_ _ _ _=>trivial,#[oT,a0,t7,t8],λp q=>(hp p q).2]
  refine qcO fr ff aw am an na λh4 x4=>?_;obtain⟨T4,al⟩:=x4.Aq;refine Rf (s:={l with heap:=h4}) x4.frames al x4.stays λh5 Q=>?_;obtain⟨T5,Je⟩:=Q.Aq;have J5:=gone h5 Q.stays (x4.slots.trans Q.slots);refine wpAny_handleBy_cons (codeAny_handlers_test (qJ (J5.caught a) hg hm ?_ ay)) (by intro q;cases q);obtain⟨bn,bd,bp,bf,u1,u2,u3,_⟩:=id Je;obtain⟨bm,N,nm,q,bs,bb,sn,sub,ab,bt,dd,k0,k1,k2,k3,k5,hC,ae⟩:=b7 _ J5.cg;obtain⟨bv,N',bq,q',bu,bl,bg,ba,bx,bc,pI,j0,j1,j2,j3,j5,br,hD,bj,bi,b8,_⟩:=I_ J5.cg b6;have av:bm.contains (.ref D)=true:=by
   have z:=ae _ _ az;rw[List.contains_cons] at z
   rcases Bool.or_eq_true_iff.mp z with z|z
   ·exact absurd (Value.ref.inj (beq_iff_eq.mp z)).symm as
   ·exact z
  refine qon hC hD u1 (qws Prod.fst u2) (b8.hasType (by decide)) av ?_;refine codeAny_handlers_suite_as ?_;refine Rf (s:={l with heap:=h5}) Q.frames Je Q.stays λh6 x6=>?_;have J6:=gone h6 x6.stays ((x4.slots.trans Q.slots).trans x6.slots);obtain⟨T6,ap,ai,bo,be,v1,v2,v3,v4,_⟩:=x6.Aq;have J7:=J6.track new un #[ap,ai,v1,v2,v3,v4] λp q=>(hp p q).1;refine Dc J7 hN hi (.inl hl) (v:=.ref a) rfl (λs8 J8 _=>?_) (.inr hl);refine qwu (ar a B s8 _ _ _ (J8.caught a) (hR a un)) (λf s9 y=>?_) λ_ _ z=>False.elim z;show wX X (do bindName X.env n .none;unbindBehindTheSuite X.env n G) (λ_ w=>SP X B Dn f w) X.xe s9
  have go:∀{c:St}{j:Hp}(Q':Shared->Prop),Inv X B c j s9->(∀E,Inv X B (c.set i none) j E->Q' E)->wX X (do bindName X.env n .none;unbindBehindTheSuite X.env n G) (λ_ w=>Q' w) X.xe s9:=λ{c j} Q' A hq=>by
   refine qvT ?_;unfold bindName;refine qvT (qwL (wpAny_point (qvT (Dc A hN hi (.inl hl) (v:=.non) rfl (λfB b9 _=>wpAny_point ?_) (.inr hl)))));unfold unbindBehindTheSuite;refine wpAny_onRaise (qom (v:=.non) b9 hN hi hl (qx2 (zM A)) λjl ah=>?_);rw[List.set_set] at ah;exact hq jl ah
  cases f with
  |next=>obtain⟨c,j,A,q⟩:=y;exact go _ (I.uncaught A) λE M=>#[_,j,M,q]
  |brk=>obtain⟨c,j,A,q⟩:=y;exact go _ (I.uncaught A) λE M=>#[_,j,M,q]
  |cont=>obtain⟨c,j,A,q⟩:=y;exact go _ (I.uncaught A) λE M=>#[_,j,M,q]
  |ret u=>obtain⟨v,c,j,A,r,q⟩:=y;exact go _ (I.uncaught A) λE M=>#[v,_,j,M,r,q]
def Jf(H:Hp)(a:Qv):Prop:=∃C c,H a=some (lV a C c)
@[simp] def qu8(a:Qv)(K:W5)(n:Nat)(t:iV):TG:=λv c H Q=>Jf H a/\qcm K n t v c H Q
def qoq(c:Qv)(K:W5)(a b:Qv):It:=#[(pG K a b).go,(pG K a b).jf,λi H=>(pG K a b).stop i H/\Jf H c]
@[simp] def qu9(c:Qv)(K:W5)(t:TA):TI:=λf H R=>t f H λj e=>ar2 j λx y=>isRef x λa=>isRef y λb=>(∃i,au K e a i)/\(∃h,au K e b h)/\R (qoq c K a b) e
structure Jg(P:J9)(w:zX)(K:W5)(mg:Zu)(base:zf)(k:Nat)(f:Qv)(fd:zq)(ps:QAH)(sp:Addr->Sp):Prop where
 len:∀a vs H Q E,sp a vs H Q E->vs.length=ps.length
 run:∀(a:Qv)(A:zY)(outer:List Env)(s:Zw)(H:Hp)(args:Args)(us:QAE)(vs:kE)(Q:VK),cB k A->mK P w K mg base A outer s H->BindsTo s fd args (ps.zip us)->Vals vs us->sp a vs H Q E0->
  codeAny (model P w) (A.mark (some (.ref a))) (.call (.ref f) args) (CR aW outer P w H s Q E0) s
def aC.okH{P:J9}{w:zX}{K:W5}{mg:Zu}{base:zf}{x h:Str}{st:Stmt}{f:Qv}{fd:zq}{N ps:QAH}{k:Nat}{sp:Addr->Sp}(F:aC K x h st f fd)(S:bh N ps (aG st))(len:∀a vs H Q E,sp a vs H Q E->vs.length=ps.length)(z:∀(a:Qv)(j:zT)(A:zY)(c:List Env)(s:Zw)(H:Hp)(vs:kE)(Q:VK),cB k (A.deeper (envOfC h (aG st) s.heap.objs.size f j))->sp a vs H Q E0->
   ∃t,fQ ((ao aW P w K mg base N h (aG st) f j A c s H E0).caught a) (iI st) t/\t {nx:=λ_ l=>Q .non l,rt:=Q} (start N vs) H):Jg P w K mg base (k+1) f fd ps sp:=by
 obtain⟨oc,od,kV,ac,pm,an,j,ct,aa,rfl,lk,U⟩:=F.ex;refine#[len,λa A c s H a0 us vs Q T G hb r C=>?_];have hl:=len _ _ _ _ _ C;have KX:K.In s.heap:=G.mod.jQ.keeps λb o e=>(G.bs b o e).1;have O:s.heap.NoLimit:=G.mod.nolimit.keeps λb o e=>(G.bs b o e).1;have m:∀y∈ps.zip us,(aG st).names.lookup y.1=some .local\/((aG st).names.lookup y.1=some .cell/\((cellsFrom (s.heap.objs.size+1) (aG st).names []).lookup y.1).isSome=true):=λ⟨n,v⟩ hy=>by
  rcases S.par n (List.of_mem_zip hy).1 with q|q
  ·exact .inl q
  ·exact .inr #[q,W.cellsFrom_some _ _ _ (.inl q)]
 refine codeAny_call_function (A:=A.mark (some (.ref a))) T.depth (KX _ _ lk) rfl S.co S.gen rfl (W.codeRec_of KX U) (hb _ _ _ _ ?_);refine wpAny_newFunctionEnv_cells S.kind m λab he Y x=>?_;subst he;refine#[O.keeps x.toInCall.keep,codeAny_func ?_];obtain⟨t,ht,hq⟩:=z a j A c s H vs Q (T.deeper _) C;have I:Inv (ao aW P w K mg base N h (aG st) f j A c s H E0) [] (start N vs) H Y:=Pg S T.hd G hl r x;refine qwu (ht [] Y (start N vs) H _ (I.caught a) hq) (λfl L B=>?_) λe L B=>B.elim;have D:∀{i:St}{l:Hp}{v:V}{u:zT},Inv ((ao aW P w K mg base N h (aG st) f j A c s H E0).caught a) [] i l L->RelV v u->Q v l->CE c P w H s Q u L:=
  λ{i l v u} J M q=>#[v,l,J.os,J.bare,J.base,J.hok,M,q]
 cases fl with
 |ret u=>
  obtain⟨v,i,l,J,M,q⟩:=B;exact D J M q
 |next=>
  obtain⟨i,l,J,q⟩:=B;exact D (v:=V.non) (u:=Value.none) J rfl q
 |brk=>obtain⟨i,l,J,q⟩:=B;exact False.elim q
 |cont=>obtain⟨i,l,J,q⟩:=B;exact False.elim q
@[simp] def qcW(sp:Sp)(t:TA):TE:=λa H Q=>t a H λc e=>n_ sp c e Q #[0] E0
def qor{k:Nat}{f:Qv}{z:zq}{ps:QAH}{sp:Addr->Sp}{x:Str}{p pos:Pos}{e:zp}{m:qy}{t:TA}(F:Jg X.prog X.w X.K X.mg X.base k f z ps sp)(J:cB k X.A)(O:Gl X x)(L:X.mg x=some (.ref f))(N:W.keepIn X.K (.ref f)=true)(U:Binds X.K z ps [])(Y:PA (X.caught a) (e::m) t)(v:iG x:=by decide)(T:lG X e m:=by rfl)(o:nQ X pos m:=by rfl):
  PE (X.caught a) (.Call (.Name x p) (e::m) [] pos) (qcW (sp a) t):=by
 intro G s B H Q I h;refine qwO (qJ I O L ?_ v);refine W.callWith_K (h₀:=X.base) I.ok.mod.jQ N (aD (Y pos G s B H _ I h) λl y C=>?_) T o;obtain⟨D,H1,n,r,q⟩:=C;refine#[n.cg,?_];have M:l.length=ps.length:=by rw[<- r.length];exact F.len _ _ _ _ _ q
 have j:=U y l n.cg (by rw[qwy];exact M);rw[qwy] at j;have c:=n.env0;refine qx3 (qwQ (F.run a X.A X.stack y H1 #[l,[]] l D Q J #[c.frames,c.mod,c.bs,c.jR,c.iC,c.mF,c.hok,c.bare] j r q) λE s' i=>?_);cases E with
 |error e=>exact i.elim
 |ok fl=>
  cases fl with
  |ret u=>exact n.after i
  |next=>exact False.elim i
  |brk=>exact False.elim i
  |cont=>exact False.elim i
def xY(K:W5)(C:Qv):Prop:=xX K C/\∃a,W.clsIn K C=some a
def pP(K:W5)(C:Qv):V->Option Bool
 |.ref D=>W.kitOne K (.ref C) (.ref D)
 |.ty n=>W.kitOne K (.ref C) (.type n)
 |_=>none
@[simp] def qu_(K:W5):List V->Hp->VK->Prop:=λc H Q=>ar2 c λx y=>isRef x λa=>∃C b,H a=some (Rm a C)/\xY K C/\pP K C y=some b/\Q (.bl b) H
def aC.rJ{P:J9}{w:zX}{K:W5}{mg:Zu}{base:zf}{x c:Str}{st:Stmt}{f:Qv}{l:zq}{N ps:QAH}{k:Nat}{sp:Sp}(F:aC K x c st f l)(S:bh N ps (aG st))(len:∀vs H Q E,sp vs H Q E->vs.length=ps.length)(i:∀(e:zT)(A:zY)(a:List Env)(s:Zw)(H:Hp)(vs:kE)(Q:VK)(E:XK),cB k (A.deeper (envOfC c (aG st) s.heap.objs.size f e))->sp vs H Q E->
   ∃t,fQ (ao (gW P w) P w K mg base N c (aG st) f e A a s H E) (iI st) t/\t {nx:=λ_ o=>Q .non o,rt:=Q} (jY N vs) H):aO P w K mg base (gW P w) (k+1) f l ps sp:=by
 refine F.okE S len λe A a s H vs Q E m h=>?_;obtain⟨t,n,j⟩:=i e A a s H vs Q E m h;refine#[t,n,?_];have u:=len _ _ _ _ h;have r:ps.length<=N.length:=by have:=qws List.length S.pre;rw[qwe] at this;lia
 rw[Ah N vs ⋯] at j;exact j
def aC.qos{P:J9}{w:zX}{K:W5}{mg:Zu}{base:zf}{x e:Str}{st:Stmt}{f:Qv}{m:zq}{N ps:QAH}{k:Nat}{sp:Addr->Sp}(F:aC K x e st f m)(S:bh N ps (aG st))(len:∀a vs H Q E,sp a vs H Q E->vs.length=ps.length)(j:∀(a:Qv)(i:zT)(A:zY)(c:List Env)(s:Zw)(H:Hp)(vs:kE)(Q:VK),cB k (A.deeper (envOfC e (aG st) s.heap.objs.size f i))->sp a vs H Q E0->
   ∃t,fQ ((ao aW P w K mg base N e (aG st) f i A c s H E0).caught a) (iI st) t/\t {nx:=λ_ r=>Q .non r,rt:=Q} (jY N vs) H):Jg P w K mg base (k+1) f m ps sp:=by
 refine F.okH S len λa i A c s H vs Q n h=>?_;obtain⟨t,o,l⟩:=j a i A c s H vs Q n h;refine#[t,o,?_];have v:=len _ _ _ _ _ h;have u:ps.length<=N.length:=by have:=qws List.length S.pre;rw[qwe] at this;omega
 rw[Ah N vs ∅] at l;exact l
def qot:bootBuiltins "ValueError" = some (.type "ValueError"):=by decide+kernel
@[simp] def qva(i:Nat)(C:Qv)(b:Bool):TE:=λa H Q=>getSt a i λx=>isRef x λp=>H p=some (Rm p C)/\Q (.bl b) H
end L2
namespace L2
open PySem PySem.Spec PySem.W PyProof.Rows
section
variable {prog:J9}{w:zX}{A:zY}{E:QAB}{K:W5}{h:zf}{g:Array GenState}{d:Drawn}{t:Nat}{os:OsState}
variable {nm q:Str}{C N:Qv}{bs bm:QAE}{hdct:Bool}{sn:QAH}{sub:QAE}{ab:Bool}{col:Option Bool}{dd:wJ}{k0 k1 k2 k3 k5:QAG}
def qou{rest:QAE}{f:Qv}{Q:PySem.Fin->Shared->Prop}(X:K.In h)(T:OwnTail h iR bm)(y:findIn K (.ref C) "__init__" = some (some (.ref f)))(z:typeIn K (.ref f)=some (.type "function"))(c:h.get? C=some (excClassObj nm q C N bs bm hdct sn sub ab col dd k0 k1 k2 k3 k5 "ValueError.__new__"))(v:∀h' e,Heap.MadeExcOf h h' e (.ref C) rest->wpAny (model prog w) A (call (.ref f) (.ref e::rest)) (λr m=>r = .none/\Q (.done (.ret (.ref e))) m) E #[h',g,d,t,os])(hz:rest.length<=sizeLine):
  wpAny (model prog w) A (Builtin.«type.__call__» #[.ref C::rest,[]]) Q E #[h,g,d,t,os]:=by
 have F:=qyp
 repeat (first|with_reducible refine qxx c ?_|with_reducible refine wpAny_madeBy_exc c ?_|wp_step)
 refine codeAny_call_builtin_code (Code.quiet_builtin _ F.quiet) (wpAny_check_new_subT F T c (codeAny_exc_new_subT F T c ?_ hz));show wpAny _ _ _ _ _ _;generalize l:(h.push {cls:=.type "tuple",data:=.seq rest.toArray}).push {cls:=.ref C,data:=.fields [.ref h.objs.size,.none,.none,.none,.bool false,.none].toArray}=G;have i:∀b o,h.get? b=some o->G.get? b=some o:=λb o e=>by
  rw[<- l];exact qvV _ (qvV _ e)
 have a:G.get? (h.objs.size+1)=some {cls:=.ref C,data:=.fields [.ref h.objs.size,.none,.none,.none,.bool false,.none].toArray}:=by
  rw[<- l]
  heap_get
 have B:G.get? h.objs.size=some {cls:=.type "tuple",data:=.seq rest.toArray}:=by
  rw[<- l];exact qvV _ (Heap.get?_push_at rfl rfl)
 have n:K.In G:=λb o e=>i b o (X b o e);have H:=i _ _ c;have j:(Value.ref C::bm).contains (.ref C)=true:=by simp
 unfold isInstance
 repeat (first|with_reducible refine qxx a ?_|(with_reducible refine wpAny_isSubtype_exc H ?_;rw[j])|wp_step)
 show wpAny _ _ (typeLookup (.ref C) _) _ _ _;refine(looks_findIn (M:=model prog w) n y).at ?_;refine qwL (qvT ?_);unfold bindSpecial;refine qvT ((looks_typeIn (M:=model prog w) n z).at ?_);rw[if_pos (by decide)];refine qvW (qvT (qwu (v G (h.objs.size+1) #[i,qym (Nat.le_succ _),h.objs.size,a,qym (qvY _),B]) (λr m u=>?_) λ_ _ x=>x));obtain⟨rfl,D⟩:=u
 wp_walk
 exact D
def qov{rest:QAE}{f:Qv}{Q:QAB}(X:K.In h)(T:OwnTail h iR bm)(l:findIn K (.ref C) "__init__" = some (some (.ref f)))(m:typeIn K (.ref f)=some (.type "function"))(a:h.get? C=some (excClassObj nm q C N bs bm hdct sn sub ab col dd k0 k1 k2 k3 k5 "ValueError.__new__"))(i:∀h' e,Heap.MadeExcOf h h' e (.ref C) rest->wpAny (model prog w) (A.under (.builtin "type.__call__" #[.ref C::rest,[]])) (call (.ref f) (.ref e::rest)) (λr c=>r = .none/\Q (.ref e) c) E #[h',g,d,t,os])(hz:rest.length<=sizeLine):
  wpAny (model prog w) A (call (.ref C) rest) Q E #[h,g,d,t,os]:=by
 have u:=tc_lookup;have o:=tc_bind (.ref C);have n:(#[h,g,d,t,os]:Shared).TypeIs (.ref C) "type" :=#[_,a,rfl];refine qx3 (codeAny_of_tree ?_);show wpAny _ _ (callAny (.ref C) _) _ _ _
 repeat (any_goals (first|assumption|with_reducible refine qxx a ?_|wp_step))
 refine#[rfl,codeAny_call_builtin_at (Code.quiet_builtin _ (by decide+kernel)) entry_typeCall (wpAny_check_type_call_sub a (qou X T l m a (λh' e j=>?_) hz))];exact i h' e j
def qow{rest:QAE}{e t0:Qv}{a:Obj}{vs:qx}{Q:QAB}(T:OwnTail h iR bm)(v:h.get? C=some (excClassObj nm q C N bs bm hdct sn sub ab col dd k0 k1 k2 k3 k5 "ValueError.__new__"))(j:h.get? e=some a)(r:a.cls = .ref C)(f:a.data = .fields vs)(l:vs[0]? = some (.ref t0))(n:∀h' m,(∀b o,b≠e->h.get? b=some o->h'.get? b=some o)->h'.get? e=some {a with data:=.fields (vs.setIfInBounds 0 (.ref m))}->Q .none #[h',g,d,t,os])(hz:rest.length<=sizeLine):
  wpAny (model prog w) A (call (.builtin "ValueError.__init__") (.ref e::rest)) Q E #[h,g,d,t,os]:=by
 have F:=qyp;refine qx3 (qxR F.init.plain F.initEntry (wpAny_check_init_subT F T v j r ?_));have i:(h.push {cls:=.type "tuple",data:=.seq rest.toArray}).get? e=some a:=qvV _ j;unfold Builtin.«BaseException.__init__» Builtin.BaseException.bexcPut
 repeat (first|with_reducible refine qwH i f l ?_|with_reducible refine qyo i f (qxj.mp l).1 ?_|wp_step)
 have D:=qxL f (·.setIfInBounds 0 (Value.ref h.objs.size));refine n _ h.objs.size (λb o u z=>?_) ?_
 ·rw[qw5 _ _ (qxt u)];exact qvV _ z
 ·refine(qwM _ i (qyd D)).trans (qws some ?_);obtain⟨c,y,B,G⟩:=a;cases f;rfl
def ur(x C:Qv)(f:wJ)(h:zf):Prop:=∃c a e,h.get? x=some c/\c.cls = .ref C/\c.data = .fields a/\a[0]? = some (.ref e)/\a[1]? = some .none/\a[2]? = some .none/\c.dict=f
def ur.at(e:ur x C m h):m8 x C h:=by
 obtain⟨c,a,l,j,i,f,_⟩:=e;exact#[c,a,j,i,f]
structure qvb(K:W5)(C:Qv):Prop where
 ga:findIn K (.ref C) "__getattribute__" = some (some (.builtin "BaseException.__getattribute__"))
 gn:findIn K (.ref C) "__getattr__" = some none
 mb:mroIn K C (.type "BaseException")=some true
 hd:hasDictIn K C=true
structure Ed(K:W5)(C PE:Qv):Prop where
 sa:findIn K (.ref C) "__setattr__" = some (some (.builtin "object.__setattr__"))
 mo:mroIn K C (.type "object")=some true
 cl:∃cd,clsIn K C=some cd/\cd.mro = .ref C::.ref PE::iR/\cd.hasDict=true
def qox{x PE:Qv}{name:Str}{tk:Tok}{v:zT}{R:Result->Shared->Prop}(X:K.In h)(I:m8 x C h)(S:Ed K C PE)(r:findIn K (.ref C) name=some none)(m:wpAny (model prog w) A.in1 (Builtin.ObjectAttr.storeInOwnDict (.ref x) (.ref C) (.str name tk) name v false)
   (λi c=>match i with|.done f=>R (.ok f) c|.again l=>l.quiet=true/\codeAny (model prog w) A l R c) (λe c=>R (.error e) c) #[h,g,d,t,os]):
  codeAny (model prog w) A (.call (.builtin "object.__setattr__") #[[.ref x,.str name tk,v],[]]) R #[h,g,d,t,os]:=by
 have a:=PySem.F.store_object;obtain⟨u,o,n,_⟩:=S.cl;have j:=I.type (M:=model prog w);have sub:Looks (model prog w) h (isInstance (.ref x) (.type "object")) true:=j.andThen (looks_mroIn X S.mo);refine qxR a.slot.plain a.entry (@check_slot (model prog w) _ _ #[h,g,d,t,os] "object.__setattr__" "object" "__setattr__" (.ref x) [.str name tk,v] [] _ a.kind a.split sub (a.args (.ref x) (.str name tk) v) ?_);have y:Looks (model prog w) h (mroOf (.ref C)) u.mro:=(looks_clsIn X o).andThen .now;rw[osa_eq,refuse_eq];refine qvT (qvT (Looks.here (s:=#[h,g,d,t,os]) j (qvT (Looks.here (s:=#[h,g,d,t,os]) y ?_))));rw[n,refuseLoop_ref,refuseLoop_ref,PySem.F.store_ValueError.passes];exact qvW (qvT (Looks.here (s:=#[h,g,d,t,os]) j (qvT (Looks.here (s:=#[h,g,d,t,os]) (looks_findIn X r) (qvT (qvW m))))))
def qoy{x PE:Qv}{name:Str}{v:zT}{Q:xu}{s:Zw}(X:K.In s.heap)(I:m8 x C s.heap)(S:Ed K C PE)(i:findIn K (.ref C) name=some none)(f:∀l:Around,wpAny (model prog w) l (Builtin.ObjectAttr.storeInOwnDict (.ref x) (.ref C) (.str name s.toks) name v false) (λc a=>c = .done (.ret .none)/\Q () a) (λe a=>False) {s with toks:=s.toks+1}):
  wpAny (model prog w) A (setAttr (.ref x) name v) Q E s:=by
 have j:=I.type (M:=model prog w);refine qvT (wpAny_mkText (qvT (qvT (qvT (j _ _ _ _ (λ_ _ e=>e) (looks_findIn X S.sa _ _ _ _ (λ_ _ e=>e) (qwL ?_)))))));rw[PySem.F.store_object.slot.bind];refine qvT (qvW (qvT (qx3 (qwQ (qox (A:=A) (tk:=s.toks) (v:=v) (R:=λr a=>match r with|.ok (.ret _)=>Q () a|.ok _=>False|.error e=>False) X I S i (qwu (f _) (λc a z=>?_) λe a z=>z)) λr a z=>?_))))
 ·obtain⟨rfl,z⟩:=z;exact z
 ·rcases r with e|(v|_|_|_) <;> first|exact z.elim|exact qvW (qvW z)
def qoz(X:K.In h)(e:ur x C none h)(hc:clsIn K C=some cd)(hd:cd.hasDict=true)(Y:∀h' t',h'.Ns1 h.objs.size (λy=>if y=name then some v else none)->(∀b o,b≠x->h.get? b=some o->h'.get? b=some o)->ur x C (some h.objs.size) h'->Q (.done (.ret .none)) #[h',g,d,t',os]):
  wpAny (model prog w) A (Builtin.ObjectAttr.storeInOwnDict (.ref x) (.ref C) (.str name tk) name v false) Q E #[h,g,d,t,os]:=by
 obtain⟨M,j,L,I,h2,h3,U,H,D,h6⟩:=e;obtain⟨oc,O,T,a⟩:=M;cases h2;cases h3;cases h6;refine qvT (qvW (qvT (qvT (wpAny_loadPart I (qvT (Looks.here (s:=#[h,g,d,t,os]) (looks_clsIn X hc) ?_))))));rw[hd,if_neg (by decide)];show wpAny _ _ (if (!true || !typeHasDict (Value.ref C))=true then pure none else _) _ _ _
 rw[if_neg (by simp[typeHasDict])];have c:x≠h.objs.size:=qwk (qv2 I);have i:(h.push {cls:=.type "dict",data:=.dict #[]}).get? x=some #[.ref C,none,.fields j,a]:=qvV _ I;refine qvT (wpAny_alloc' ?_);refine qvT (wpAny_update' i ?_);refine qvW ?_;generalize B:((h.push {cls:=.type "dict",data:=.dict #[]}).update x λo=>{cls:=o.cls,dict:=some h.objs.size,data:=o.data,slots:=o.slots})=G;have g1:G.get? h.objs.size=some {cls:=.type "dict",data:=.dict #[]}:=by
  rw[<- B];exact(Heap.get?_update_ne _ _ _ _ c.symm).trans (Heap.get?_push_at rfl rfl)
 have g2:G.get? x=some #[.ref C,some h.objs.size,.fields j,a]:=by
  rw[<- B];exact qwM _ i rfl
 have g3:∀b o,b≠x->h.get? b=some o->G.get? b=some o:=λb o u z=>by
  rw[<- B];exact(Heap.get?_update_ne _ _ _ _ u).trans (qvV _ z)
 have m:G.Ns h.objs.size (λ_=>none):=#[_,#[],_,g1,rfl,λe he=>absurd he (by simp),λ_=>rfl];show wpAny _ _ (Builtin.ObjectAttr.storeInDict h.objs.size (.str name tk) name v) _ _ _;unfold Builtin.ObjectAttr.storeInDict Builtin.ObjectAttr.newKeyGuard;refine qvT (qvW (qvT (wpAny_nsSet1 (Heap.Ns1.of_empty m) λh' f J=>?_)));obtain⟨oD,a0,aa,l,n,r⟩:=f.count (Within.cons name v Within.nil);refine qvT (wpAny_lookBehind l (by rw[n];exact pastItsLine_dict (qv7 r (by rw[qwj,List.length_nil,sizeLine_eq];lia))) ?_);exact qvW (Y _ _ f (λb o u z=>(J.2 b (qwk (qv2 z))).trans (g3 b o u z)) #[_,j,L,(J.2 x c).trans g2,rfl,rfl,U,H,D,rfl])
end
end L2
namespace L2
open PySem PySem.Spec PyProof.Rows
def eO(x C:Qv)(a:wJ):HO:=.ext λh=>ur x C a h
def pQ(c:Qv)(fs:List (Str×V)):HO:=.ext λh=>fs.length<=1000/\∃a,h.Ns1 c a/\(∀f,fX (fs.lookup f) (a f))/\PySem.Within a (fs.map (·.1))
def Rn(e:ur x C i h):b_ P w H h x (eO x C i):=by
 obtain⟨a,c,f,j,l⟩:=id e;exact#[e,#[a,j],λn m ⟨a,c,f,a1,a2⟩ k=>#[a,c,f,k _ a1,a2]]
def Ro(ok:cP P w H h)(e:H x=some (eO x C a)):ur x C a h:=((show b_ P w H h x (eO x C a) from ok _ _ e)).1
def qoA(r:fs.length<=1000)(e:h.Ns1 l a)(n:∀f,fX (fs.lookup f) (a f))(hw:PySem.Within a (fs.map (·.1))):b_ P w H h l (pQ l fs):=by
 obtain⟨o,i,j,u,v⟩:=id e;exact#[#[r,a,e,n,hw],#[o,u],λz y ⟨c,m,⟨o,i,j,a1,a2⟩,b⟩ k=>#[c,m,#[o,i,j,k _ a1,a2],b]]
def qoB(e:H x=some o):upd H x o=H:=funext λb=>by
 by_cases a:b=x
 ·subst a;rw[aB,e]
 ·rw[aN a]
section
variable {X:Cx}{p_:QAC}{σ:St}{H:Hp}{s:Zw}
def Inv.qoC{e C:Qv}{c:QAE}{h':zf}(I:Inv X p_ σ H s)(f:X.ex=[])(a:Heap.MadeExcOf s.heap h' e (.ref C) c):H e=none/\Inv X p_ σ (upd H e (eO e C none)) {s with heap:=h'}:=by
 have un:=Rh I.hok a.new;obtain⟨j,h,_⟩:=a.there;have m:Inv X p_ σ H {s with heap:=h',toks:=s.toks}:=I.kept a.keeps;refine#[un,m.qcU (I.old f a.new) un #[_,_,h,rfl] (Rn #[_,_,j,h,rfl,rfl,rfl,rfl,rfl,rfl]) λp l z=>?_];have i:=(I.pin p l).1;rw[z,a.new] at i;cases i
end
@[simp] def qvc(C:Qv)(t:TA):TE:=λc H Q=>t c H λf a=>f.length<=sizeLine/\∀e,a e=none->Q (.ref e) (upd a e (eO e C none))
structure Av(K:W5)(C B f:Qv):Prop where
 ob:∃nm q N bs hdct sn sub ab col dd k0 k1 k2 k3 k5,K.lookup C=some (excClassObj nm q C N bs (.ref B::iR) hdct sn sub ab col dd k0 k1 k2 k3 k5 "ValueError.__new__")
 pe:uq K B
 pm:∃cd,W.clsIn K B=some cd/\cd.mro = .ref B::iR
 init:W.findIn K (.ref C) "__init__" = some (some (.ref f))
 fn:W.typeIn K (.ref f)=some (.type "function")
 kp:W.keepIn K (.ref C)=true
def Av.tail{K:W5}{C B f:Qv}{h:zf}(M:Av K C B f)(X:K.In h):OwnTail h iR (.ref B::iR):=by
 obtain⟨u,N,A,y,bs,i,w,sub,U,o,L,J,I,H,G,E,D,j,v,c,Y,_⟩:=I_ X M.pe;obtain⟨Q,a,n⟩:=M.pm;have e:u=iR:=by
  unfold W.clsIn at a;split at a
  ·rename_i T O r l m;cases a;have z:=X _ _ m;rw[j] at z;cases z;simpa using n
  ·cases a
 subst e;exact .own j v c .base
@[simp] def qvd(C:Qv)(sp:Sp)(t:TA):TE:=λf H Q=>t f H λa c=>a.length<=sizeLine/\∀e,c e=none->n_ sp (.ref e::a) (upd c e (eO e C none)) (λv h=>v = .non/\Q (.ref e) h) #[0] E0
section
variable {X:Cx}{C B f:Qv}{x:Str}{np p pos apos:Pos}{e:zp}{es:qy}{t:TA}
structure qcX(K:W5)(B:Qv):Prop where
 sg:W.specialIn K (.ref B) "__getattribute__" = some (some (.builtin "type.__getattribute__"))
 rd:W.readsIn K B (.type "type")=true
 fc:W.findCls K (.ref B) (.type "type") "__init__" = some (.val (.builtin "ValueError.__init__"))
@[simp] def qoD(C:Qv)(t:TA):TE:=λh H Q=>t h H λi c=>ar2 i λv y=>isRef v λa=>∃j,c a=some (eO a C j)/\Q .non c
def qoE{pl:Sem Bool}(M:Av X.K C B f)(N:qcX X.K B)(hg:Gl X x)(hm:X.mg x=some (.ref B))(ha:PA X (e::es) t)(o:iG x:=by decide)(he:lG X e es:=by rfl)(n:nQ X pos es:=by rfl)(ht:eval (.Call (.Attribute (.Name x np) "__init__" apos) (e::es) [] pos) X.env=(do
   let A <- eval (.Name x np) X.env
   standAt apos.atName
   let (f,first) <- holding [A] (getMethod A "__init__" pl)
   callWith pos f first (backTo pos (starEach (e::es) X.env)) (backToKw pos (keywordEach [] X.env))):=by rfl):
  PE X (.Call (.Attribute (.Name x np) "__init__" apos) (e::es) [] pos) (qoD C t):=by
 intro m s j H Q I h;refine W.methodCall_KW (pl:=pl) (qJ I hg hm ?_ o) ht;refine W.method_cls I.cg N.sg (W.cls_value I.cg N.rd N.fc rfl ?_);have I0:Inv X m j H {s with toks:=s.toks+1}:=I.tok _;refine PyProof.Rows.callWith_builtin1 (aD (ha pos m _ j H _ I0 h) λus s1 Y=>?_) he n;obtain⟨l,U,i,r,q⟩:=Y;obtain⟨v,y,rfl,q⟩:=ar2.out q;obtain⟨a,rfl,D,u,q⟩:=isRef.out q;obtain⟨u1,u2,rfl,r1,r2⟩:=r.two;obtain rfl:u1=Value.ref a:=r1;obtain⟨nm,qn,N,bs,E,sn,sub,ab,a0,dd,k0,k1,k2,k3,k5,hC⟩:=M.ob;have T:=M.tail i.cg;have Ec:=i.cg _ _ hC;obtain⟨ox,l,t0,h1,J,h3,G,h5,h6,h7⟩:=Ro i.hok u;obtain⟨hh,g,d,w,os⟩:=s1;refine qow T Ec h1 J h3 G (λL z keep c=>?_) (by show 1<=sizeLine;decide);have sz:0<l.size:=(qxj.mp G).1;have new:ur a C D L:=#[_,l.setIfInBounds 0 (.ref z),z,c,J,rfl,by simp[sz],by rw[qxU (by decide)];exact h5,by rw[qxU (by decide)];exact h6,h7];have O:Inv X m j (upd U a (eO a C D)) {(#[hh,g,d,w,os]:Shared) with heap:=L,toks:=w}:=i.write (x:=a) (e:=a) (by rw[u];exact True.intro) (.inl rfl) keep #[_,c] (Rn new);rw[qoB u] at O;exact#[.non,U,O,rfl,q]
end
@[simp] def sX0(C:Qv)(j i:TE)(f:Str):TS:=λD e H=>i e H λy l=>j e l λx h=>isRef x λa=>h a=some (eO a C none)/\∀c,h c=none->D.nx e (upd (upd h c (pQ c [(f,y)])) a (eO a C (some c)))
def qoF(S:Ed X.K C B)(hn:W.findIn X.K (.ref C) f=some none)(ha:PE X o ta)(hv:PE X i tv)(hs:swapsWith i (some (.Attribute o f n)) pos.line X.env=pure false):PS X (.Assign [.Attribute o f n] i pos) (sX0 C ta tv f):=by
 intro A s m H D I h;refine plainObj_wpAny_Assign_Attribute (aD (hv A s m H _ I h) λu s1 z1=>?_) hs;obtain⟨y,H1,I1,ry,q⟩:=z1;refine aD (ha A s1 m H1 _ I1 q) λov s2 z2=>?_;obtain⟨x,T,E,rx,M⟩:=z2;obtain⟨a,rfl,Y,M⟩:=isRef.out M;obtain rfl:ov=Value.ref a:=rx;have E0:=Ro E.hok Y;obtain⟨cd,hc,_,hd⟩:=S.cl;have U:=E.cg;refine qoy U E0.at S hn λA'=>?_;obtain⟨c,g,d,J,os⟩:=s2;refine qoz U E0 hc hd λh' t' O keep E1=>#[rfl,?_];have hf:T c.objs.size=none:=E.hok.fresh (qvY _);obtain⟨j,es,ep,eD,rest⟩:=id O;obtain⟨ox,_,_,Rj,_⟩:=id E0;have Q:a≠c.objs.size:=qwk (qv2 Rj);have N:j.isFreed=false:=(Heap.get?_some_iff.mp eD).2;have v:(c.push j).get? c.objs.size=some j:=qv4 c N;have r:(c.push j).Ns1 c.objs.size (λG=>if G=f then some u else none):=#[j,es,ep,v,rest]
 have L:∀l,fX ([(f,y)].lookup l) (if l=f then some u else none):=λl=>by
  have e:=O7 f l y [];rw[show[(f,y)].lookup l=(fY f y []).lookup l from rfl,e]
  by_cases z:l=f
  ·rw[if_pos z,if_pos z];exact ry
  ·rw[if_neg z,if_neg z];exact True.intro
 have wi:PySem.Within (λG=>if G=f then some u else none) ([(f,y)].map (·.1)):=Within.cons f u Within.nil
 have I3:Inv X A m (upd T c.objs.size (pQ c.objs.size [(f,y)])) {(#[c,g,d,J,os]:Shared) with heap:=c.push j,toks:=J}:=E.laid (λb o z=>qvV _ z) (qvY _) (qoA (by show(1:Nat)<=1000;decide) r L wi);have I4:Inv X A m (upd (upd T c.objs.size (pQ c.objs.size [(f,y)])) a (eO a C (some c.objs.size))) {(#[c.push j,g,d,J,os]:Shared) with heap:=h',toks:=t'}:=by
  refine I3.write (x:=a) (e:=a) (by rw[aN Q,Y];exact True.intro) (.inl rfl) (λb o hb z=>?_) ?_ (Rn E1)
  ·by_cases w:b=c.objs.size
   ·subst w;rw[v] at z;cases z;exact eD
   ·rw[Heap.get?_push_ne _ _ _ w] at z;exact keep b o hb z
  ·obtain⟨a0,_,_,z,_⟩:=id E1;exact#[_,z]
 exact#[m,_,I4,M _ hf]
@[simp] def sX1(C:Qv)(j i:TE)(f:Str):TS:=λD e H=>i e H λy l=>j e l λx h=>isRef x λa=>∃c fs,h a=some (eO a C (some c))/\h c=some (pQ c fs)/\fs.length<1000/\D.nx e (upd h c (pQ c (fY f y fs)))
@[simp] def qve(C:Qv)(i:TE)(f:Str):TE:=λh H Q=>i h H λx e=>isRef x λa=>∃c fs,e a=some (eO a C (some c))/\e c=some (pQ c fs)/\∃v,fs.lookup f=some v/\Q v e
@[simp] def qvf(K:W5):List V->Hp->VK->Prop:=λc H Q=>ar2 c λx y=>isRef x λa=>∃C e b,H a=some (eO a C e)/\xY K C/\pP K C y=some b/\Q (.bl b) H
inductive Lf:V->PyData->Prop
 |non:Lf .non .none
 |bl (b):Lf (.bl b) (.bool b)
 |int (i):Lf (.int i) (.int i)
 |str (x):Lf (.str x) (.str x)
inductive xZ:List (Str×V)->List (PyData×PyData)->Prop
 |nil:xZ [] []
 |cons {x v d ks kvs}:Lf v d->xZ ks kvs->xZ ((x,v)::ks) ((.str x,d)::kvs)
def Lf.reads(l:Lf v d)(r:RelV v u):Reads h u d []:=by
 cases l with
 |non=>cases r;exact .none
 |bl b=>cases r;exact .bool b
 |int i=>obtain⟨t,rfl⟩:=r;exact .int i t
 |str x=>obtain⟨t,rfl⟩:=r;exact .str x t
theorem qcY:∀{ks:List (Str×V)}{kvs:List (PyData×PyData)}{vs:List (Key×Value)}{j:List DictEntry},xZ ks kvs->KV (ks.map λe=>((Sum.inr e.1:Key),e.2)) vs->Pairs (cU P w) j vs->
  ReadsAll h (j.map (·.key)) (kvs.map (·.1)) []/\ReadsAll h (j.map (·.val)) (kvs.map (·.2)) []
 |_,_,_,_,.nil,c,a=>by
  cases c;cases a;exact#[.nil,.nil]
 |_,_,_,_,.cons l u,c,a=>by
  cases c with
  |cons r o=>
   cases a with
   |cons f A z=>
    obtain⟨y,v⟩:=qcY (h:=h) u o z;obtain⟨n,m⟩:=r;simp only at n m;rw[<- n] at f;rw[qi7] at f
    rcases nJ f with⟨i,t,e,_⟩|⟨x,t,e,B⟩
    ·cases e
    ·cases e;simp only[qwd];rw[B,A];exact#[.cons (.str _ t) y,.cons (l.reads m) v]
def qcZ(ok:cP P w H h)(l:xZ ks kvs)(e:H a=some (.dK (ks.map λe=>((Sum.inr e.1:Key),e.2)))):Reads h (.ref a) (.dict kvs) [a]/\(a == sysModules)=false:=by
 obtain⟨_,j,v,i,o,y,z,u,r,n,_,m,_⟩:=xG ok e;refine#[?_,j];obtain⟨f,c⟩:=qcY (h:=h) l i m;exact Reads.dict (as:=[]) (bs:=[]) u r.1 n f c
inductive Rp(H:Hp):PyData->V->Prop
 |thg {d v}:aA H d v->d.hasDict=false->Rp H d v
 |dic {a ks kvs}:xZ ks kvs->H a=some (.dK (ks.map λe=>((Sum.inr e.1:Key),e.2)))->Rp H (.dict kvs) (.ref a)
@[simp] def qc0:List V->Hp->VK->Prop:=λa H Q=>ar1 a λv=>∃d:PyData,Rp H d v/\d.showable=true/\d.depth<=32/\d.shown.length<=sizeLine/\Q (.str d.shown) H
def qoG(i:X.A.guards=some [])(C:X.A.units+64<cLine):bY X (.builtin "repr") qc0:=by
 intro z s m H N n Q I r h;obtain⟨v,rfl,d,E,l,M,j,q⟩:=ar1.out h;cases E with
 |thg D c=>exact qn4 i C z s m H [v] n Q I r (show IK [v] H Q from#[d,D,.inl (.inl c),l,M,j,q])
 |dic G L=>
  rename_i a O B;obtain⟨u,rfl,w⟩:=r.one;cases w;obtain⟨y,c⟩:=qcZ I.hok G L;refine repr_of_reads' (h₀:=s.heap) y l (λ_ f=>?_) i ⋯ (λ_ _ e=>e) (λT u o J=>#[.str _,H,I.kept (t':=o) J,#[u,rfl],q]) j;rw[qv6] at f;rw[<- f] at c;simp at c
structure bK(k n:Nat)(d:PyData):Prop where
 sh:d.showable=true
 dp:d.depth<=k
 ln:d.shown.length<=n
def bK.mono(h:bK k n d)(f:k<=c)(e:n<=a):bK c a d:=#[h.sh,qv7 h.dp f,qv7 h.ln e]
theorem Rq:∀{a:List PyData},(∀c∈a,bK k n c)->PyData.showableAll a=true/\PyData.depthAll a<=k/\(PyData.shownAll a).length=a.length/\((PyData.shownAll a).map (·.length)).sum<=n * a.length
 |[],_=>by simp[PyData.showableAll,PyData.depthAll,PyData.shownAll]
 |c::a,h=>by
  obtain⟨o,m,r⟩:=h c qv3;obtain⟨j,i,f,i4⟩:=Rq λe l=>h e (qvZ _ l);simp only[PyData.showableAll,PyData.depthAll,PyData.shownAll,o,j,qwj,qwd,qxg,f];refine#[rfl,Nat.max_le.mpr #[m,i],trivial,?_];rw[Nat.mul_succ];lia
theorem bK.list(h:∀c∈a,bK k n c)(f:n * a.length+2 * a.length+3<=m):bK (k+1) m (.list a):=by
 obtain⟨e,l,j,i⟩:=Rq h;have:=listText_len_le (PyData.shownAll a);refine#[by simpa [PyData.showable] using e,by simp only[PyData.depth];lia,?_];simp only[PyData.shown];lia
theorem bK.tuple(h:∀c∈a,bK k n c)(f:n * a.length+2 * a.length+3<=m):bK (k+1) m (.tuple a):=by
 obtain⟨e,l,j,i⟩:=Rq h;have:=tupleText_len_le (PyData.shownAll a);refine#[by simpa [PyData.showable] using e,by simp only[PyData.depth];omega,?_];simp only[PyData.shown];lia
theorem bK.str(a:∀c∈x.cps.toList,c<16 ^ 8)(e:10 * x.length+2<=n):bK 0 n (.str x):=by
 refine#[rfl,Nat.le_of_eq rfl,?_];simp only[PyData.shown];exact qv7 (StrLaws.reprText_len x a) e
def aO.or{P:J9}{w:zX}{K:W5}{mg:Zu}{base:zf}{CX:lH}{k:Nat}{f:Qv}{e:zq}{ps:QAH}{sp r:Sp}(F:aO P w K mg base CX k f e ps sp)(o:aO P w K mg base CX k f e ps r):
  aO P w K mg base CX k f e ps (λvs H Q E=>sp vs H Q E\/r vs H Q E):=
 #[λvs H Q E h=>h.elim (F.len vs H Q E) (o.len vs H Q E),λA a s H c i vs Q E l m n j h=>h.elim (F.run A a s H c i vs Q E l m n j) (o.run A a s H c i vs Q E l m n j)]
@[simp] def tTR(h:TA):TE:=λe H Q=>h e H λf a=>ar1 f λv=>isRef v λl=>∃c,a l=some (.lst c)/\∀p,a p=none->Q (.ref p) (upd a p (.tup c.reverse))
end L2
namespace L2
open PySem PySem.Spec
def GD(p:Qv)(t:TE)(σ:St)(H:Hp)(d:PyData):Prop:=∀(c:Hp)(Q:VK),(∃o,H p=some o)->Same H c->(∀v a,Same c a->aA (hid p a) d v->Q v a)->t σ c Q
def Ef(p:Qv)(t:TA)(σ:St)(H:Hp)(f:List PyData):Prop:=∀(c:Hp)(Q:List V->Hp->Prop),(∃o,H p=some o)->Same H c->(∀e a,Same c a->aR (hid p a) f e->Q e a)->t σ c Q
def lW(h:∃o,H p=some o)(s:Same H c)(a:c b=none):b≠p:=λz=>by
 obtain⟨o,e⟩:=h;have:=s _ _ e;rw[<- z,a] at this;cases this
def pR:Ef p jg σ H []:=λa Q _ _ q=>q [] a (Same.refl _) (by simp[aR])
def pU(n:GD p j σ H d)(m:Ef p i σ H o):Ef p (ju j i) σ H (d::o):=λw Q f s q=>
 n w _ f s λv u e l=>m u _ f (s.trans e) λh r c a=>q _ r (e.trans c) (by simp only[aR];exact#[v,h,rfl,aA.same (eN c) d v l,a])
def Aw(h:Ef p t σ H c)(l:c.length<=sizeLine):GD p (Dk t) σ H (.list c):=λm Q j s q=>
 h m _ j s λe n f i=>#[by rw[<- i.length];exact l,λb a=>q _ _ (f.trans (aJ a)) (by simp only[aA];exact#[b,e,rfl,fW (lW j (s.trans f) a) aB,aR.same (eN (aJ a)) c e i])]
def Jh(h:Ef p t σ H c)(l:c.length<=sizeLine):GD p (qaf t) σ H (.tuple c):=λm Q j s q=>
 h m _ j s λe n f i=>#[by rw[<- i.length];exact l,λb a=>q _ _ (f.trans (aJ a)) (by simp only[aA];exact#[b,e,rfl,fW (lW j (s.trans f) a) aB,aR.same (eN (aJ a)) c e i])]
def Ji:GD p (tC .non) σ H .none:=λa Q _ s q=>q _ a (Same.refl _) (by simp[aA])
def iZ:GD p (tC (.int i)) σ H (.int i):=λa Q _ s q=>q _ a (Same.refl _) (by simp[aA])
def Ax:GD p (tC (.bl i)) σ H (.bool i):=λa Q _ s q=>q _ a (Same.refl _) (by simp[aA])
def yc:GD p (tC (.str i)) σ H (.str i):=λa Q _ s q=>q _ a (Same.refl _) (by simp[aA])
theorem getSt.of:∀{σ:St}{i:Nat}{v:V}{R:V->Prop},σ[i]? = some (some v)->R v->getSt σ i R
 |[],_,_,_,h,_=>by simp at h
 |o::_,0,v,R,h,r=>by simp at h;subst h;exact r
 |_::σ,n+1,v,R,h,r=>getSt.of (σ:=σ) (i:=n) (by simpa using h) r
def Eh(h:σ[i]? = some (some v))(a:aA (hid p H) d v):GD p (fVar i) σ H d:=λc Q _ s q=>getSt.of h (q v c (Same.refl _) (aA.same (eN s) d v a))
def qc1(m:GD p h σ H (.str x))(l:GD p tb σ H (.str y))(j:x.length+y.length<=sizeLine):GD p (dX QG h tb) σ H (.str (x++y)):=λr Q f s q=>
 m r _ f s λv o a c=>l o _ f (s.trans a) λu n i e=>by
  simp only[aA] at c e;subst c e;exact#[j,q _ n (a.trans i) (by simp[aA])]
structure big(t:TE)(σ:St)(H:Hp)(Q:VK):Prop where
 out:t σ H Q
def qoH(h:PE X e t):PE X e (big t):=PE.mono h λh=>h.out
end L2
namespace L2
open PySem
def qoI:W.kitOne K (.ref C) (.ref C)=some true:=by
 unfold W.kitOne;simp
def qoJ(ne:(C == D)=false)(i:W.isClsIn K D=true)(t:W.typeIn K (.ref D)=some (.type "type"))(s:W.subIn K (.ref C) (.ref D)=some b):W.kitOne K (.ref C) (.ref D)=some b:=by
 have c:(W.clsIn K D).isSome=true:=i;have a:C≠D:=by simpa using ne
 unfold W.kitOne W.kitCls;rw[if_neg (by simpa using a)];show(if _ then _ else _)=_
 rw[if_pos (by rw[c,t];rfl)];exact s
def qoK:W.kitMeta "ValueError" = true:=by decide+kernel
def qoL(m:W.kitMeta T=true)(s:W.subIn K (.ref C) (.type T)=some b):W.kitOne K (.ref C) (.type T)=some b:=by
 unfold W.kitOne W.kitCls;rw[if_neg (by simp)];show(if _ then _ else _)=_
 rw[if_pos m];exact s
end L2
namespace L2
open PySem PySem.Spec PyProof.Rows PySem.SeqAt
section
variable {X:Cx}{K:W5}
theorem Rr:∀{bs:List Bool}{its:QAE},Vals (bs.map V.bl) its->its=bs.map Value.bool
 |[],_,r=>by rw[qx7] at r;cases r;rfl
 |b::bs,_,r=>by
  rw[qwd] at r;cases r with
  |cons c a=>
   rw[Rr a];cases (show _=Value.bool b from c);rfl
@[simp] def qoM(K:W5):V->List V->Hp->VK->Prop:=λx a H Q=>isRef x λl=>ar1 a λy=>gD y λk=>∃bs:List Bool,au K H l (bs.map V.bl)/\Q (.int (bs.count k:Nat)) H
def qoN(E:X.K=K):gO X "list.count" (qoM K):=by
 subst E;intro O s L H x M v N Q I m w q;obtain⟨l,rfl,q⟩:=isRef.out q;obtain⟨y,rfl,q⟩:=ar1.out q;obtain⟨k,rfl,bs,C,q⟩:=gD.out q;obtain⟨u,rfl,r⟩:=w.one;cases (show u=Value.bool k from r);obtain rfl:v=Value.ref l:=m;obtain⟨A,o,z,B⟩:=I.list C;have D:=Rr o;subst D;obtain⟨⟨J,G,i,j⟩,c,h,n,f⟩:=z.isList;simp only at h f;subst h f;refine qx6 qxZ #[_,c,rfl] PySem.F.entry_list_count (PySem.F.args_list_count_2 _ _) (list_countAt l _ n G j (.bool k) (isBoolOf k)) #[c,λy a=>?_,?_]
 ·simp at a
  rcases a with⟨_,rfl⟩|⟨_,rfl⟩
  ·exact EqAt.bool_bool false k
  ·exact EqAt.bool_bool true k
 ·have e:((bs.map Value.bool).toArray.toList.countP (isBoolOf k):Nat)=bs.count k:=by
   show(bs.map Value.bool).countP (isBoolOf k)=_;rw[List.countP_map];rfl
  rw[e];exact#[.int _,H,I.tok _,#[_,rfl],q]
theorem qc2:∀{bs:List Bool}{j:Nat},j<bs.idxOf k->∀a:j<bs.length,(bs[j] == k)=false
 |[],j,h,a=>by simp at a
 |b::bs,0,h,a=>by
  rw[List.idxOf_cons] at h;cases e:(b == k) with
  |true=>rw[e] at h;simp at h
  |false=>simpa using e
 |b::bs,j+1,h,a=>by
  rw[List.idxOf_cons] at h;cases e:(b == k) with
  |true=>rw[e] at h;simp at h
  |false=>
   rw[e] at h;simp only[cond_false] at h;simpa using qc2 (bs:=bs) (j:=j) ⋯ (by simpa using a)
@[simp] def qoO(K:W5):V->List V->Hp->VK->Prop:=λx a H Q=>isRef x λl=>ar1 a λy=>gD y λk=>∃bs:List Bool,au K H l (bs.map V.bl)/\k∈bs/\Q (.int (bs.idxOf k:Nat)) H
def qoP(O:X.K=K):gO X "list.index" (qoO K):=by
 subst O;intro p_ s Y H x xs v us Q I z C q;obtain⟨l,rfl,q⟩:=isRef.out q;obtain⟨y,rfl,q⟩:=ar1.out q;obtain⟨k,rfl,bs,J,L,q⟩:=gD.out q;obtain⟨u,rfl,B⟩:=C.one;cases (show u=Value.bool k from B);obtain rfl:v=Value.ref l:=z;obtain⟨E,A,D,a⟩:=I.list J;have N:=Rr A;subst N;obtain⟨⟨U,T,r,w⟩,i,o,n,m⟩:=D.isList;simp only at o m;subst o m;have M:bs.idxOf k<bs.length:=List.idxOf_lt_length_iff.mpr L;have G:bs.length<=sizeLine:=by simpa using a
 have hs:sizeLine=2 ^ 24:=rfl;refine qx6 qxX #[_,i,rfl] PySem.F.entry_list_index (PySem.F.args_list_index_2 _ _)
  (list_indexAt l _ n T w (.bool k) (isBoolOf k) (bs.idxOf k) (by simpa using M) ⋯ ?_ ?_) #[i,λy f=>?_,#[.int _,H,I.tok _,#[_,rfl],q]]
 ·simp[isBoolOf]
 ·intro j e c;have h:=qc2 c (by simpa using e);simpa [isBoolOf] using h
 ·simp at f
  rcases f with⟨_,rfl⟩|⟨_,rfl⟩
  ·exact EqAt.bool_bool false k
  ·exact EqAt.bool_bool true k
end
structure XC(K:W5)(C B:Qv):Prop where
 cl:∃cd,W.clsIn K C=some cd/\cd.mro = .ref C::.ref B::iR/\cd.hasDict=true
 ty:W.typeIn K (.ref C)=some (.type "type")
 ga:W.findIn K (.ref C) "__getattribute__" = some (some (.builtin "BaseException.__getattribute__"))
 gn:W.findIn K (.ref C) "__getattr__" = some none
 gc:W.findIn K (.ref C) "__class__" = some (some (.builtin "object.__class__"))
 kp:W.keepIn K (.ref C)=true
section
variable {K:W5}{C D B:Qv}
def XC.mro(c:XC K C B)(v:zT):W.mroIn K C v=some ((Value.ref C::Value.ref B::iR).contains v):=by
 obtain⟨f,e,a,_⟩:=c.cl;unfold W.mroIn;rw[e,Option.bind_some,a];rfl
def XC.is(c:XC K C B):W.isClsIn K C=true:=by
 obtain⟨e,a,_⟩:=c.cl;unfold W.isClsIn;rw[a];rfl
def XC.ask(c:XC K C B)(sp:W.specialIn K (.builtin "object.__class__") "__get__" = some (some (.builtin "getset_descriptor.__get__")))(tk:W.takesIn K (.builtin "object.__class__")=some true):xY K C:=by
 obtain⟨e,a,_⟩:=c.cl;exact#[#[c.ga,c.gn,c.gc,sp,tk,by rw[c.mro];simp,by rw[c.mro];simp],e,a]
def XC.set(c:XC K C B)(a:W.findIn K (.ref C) "__setattr__" = some (some (.builtin "object.__setattr__"))):Ed K C B:=by
 obtain⟨i,h,f,e⟩:=c.cl;exact#[a,by rw[c.mro];simp,i,h,f,e]
def XC.kit(c:XC K C B)(d:XC K D B)(a:D≠B):pP K C (.ref D)=some (decide (C=D)):=by
 show W.kitOne K (.ref C) (.ref D)=_
 by_cases h:C=D
 ·subst h;rw[qoI,qwv rfl]
 ·rw[qwh h];refine qoJ (by simpa using h) d.is d.ty ?_;show W.mroIn K C (.ref D)=_;rw[c.mro];have e:D≠C:=λz=>h z.symm;simp[e,a]
def XC.qoQ(c:XC K C B):pP K C (.ty "ValueError")=some true:=by
 refine qoL qoK ?_;show W.mroIn K C (.type "ValueError")=_;rw[c.mro];simp
end
def Jj:List Addr->Bool
 |[]=>true
 |a::l=>!l.contains a && Jj l
theorem qc3:∀{l:xQ},Jj l=true->l.Nodup
 |[],_=>List.Pairwise.nil
 |a::l,h=>by
  simp only[Jj,qwA,Bool.not_eq_true',List.contains_eq_mem,decide_eq_false_iff_not] at h;exact qwC.mpr #[h.1,qc3 h.2]
def ar3(vs:kE)(R:V->V->V->Prop):Prop:=match vs with
 |[u,v,w]=>R u v w
 |_=>False
@[simp ↓] theorem qvgu v w R:ar3 [u,v,w] R=R u v w:=rfl
@[simp] def qvh(i j k:Nat)(e:TA):TS:=λD a H=>e a H λc f=>ar3 c λu v w=>D.nx (((a.set i (some u)).set j (some v)).set k (some w)) f
end L2
namespace L2
open PySem PySem.Spec PyProof.Rows
@[simp] def qvi(C:Qv)(sp:Sp)(R:St->Addr->Option Addr->Hp->Prop)(t:TA):TE:=λe H Q=>t e H λf c=>∀x a,c x=none->c a=none->a≠x->n_ sp (.ref x::f) (upd (upd c a (.own x)) x (.ins C a [])) (λv i=>v = .non/\Q (.ref x) i) #[0] (λv h j=>∃D,v = .ref D/\R e D h j)
section
variable {M:Model}{A:zY}{E:QAB}{s:Zw}{env:Env}
variable {nm q:Str}{C N:Qv}{bs bm:QAE}{hdct:Bool}{sn:QAH}{sub:QAE}{ab:Bool}{col:Option Bool}{dd:wJ}{k0 k1 k2 k3 k5:QAG}{newId:String}
def qoR(n:A.handled=none)(h:wpAny M A x (λv c=>∃(a C:Qv)(e:Obj)(vs:qx)(nm q:Str)(N:Qv)(bs bm:QAE)(hdct:Bool)(sn:QAH)(sub:QAE)(ab:Bool)(col:Option Bool)(dd:wJ)(k0 k1 k2 k3 k5:QAG)(newId:String),v = .ref a/\bm.contains (.type "BaseException")=true/\
   c.heap.get? C=some (excClassObj nm q C N bs bm hdct sn sub ab col dd k0 k1 k2 k3 k5 newId)/\c.heap.get? a=some e/\e.cls = .ref C/\e.data = .fields vs/\vs[1]? = some .none/\E (.ref a) c) E s):
  wpAny M A (raiseStmt env (some x) none) Q E s:=by
 unfold raiseStmt;refine qvT (qwu h (λv c z=>?_) λ_ _ x=>x);obtain⟨a,C,e,vs,nm,q,N,bs,bm,hdct,sn,sub,ab,col,dd,k0,k1,k2,k3,k5,newId,rfl,w,i,o,u,r,B,y⟩:=z;have f:(Value.ref C::bm).contains (.type "BaseException")=true:=by rw[List.contains_cons,w,Bool.or_true]
 obtain⟨H,g,d,D,os⟩:=c;obtain⟨G,l,m,j⟩:=e;cases u;cases r
 repeat (first|with_reducible refine qxx o ?_|with_reducible refine qxx i ?_|(with_reducible refine wpAny_isSubtype_exc i ?_;rw[f])|wp_step)
 rw[B];refine qvW ?_;rw[if_neg (by decide)];exact qvW (wpAny_raiseNew_none n y)
end
section
variable {X:Cx}{p_:QAC}{σ:St}{H:Hp}{s:Zw}
def Inv.qoS(I:Inv X p_ σ H s)(f:H a=some (.ext φ)):Inv X p_ σ (hid a H) s:=by
 have ne:∀{b:Qv}{u:HO},hid a H b=some u->b≠a/\H b=some u:=λ{b u} z=>by
  unfold hid at z;split at z
  ·cases z
  ·rename_i h;exact#[h,z]
 have e:∀{b:Qv}{u:HO},b≠a->H b=some u->hid a H b=some u:=λh z=>fW h z;have nn:∀{b:Qv},H b=none->hid a H b=none:=λ{b} z=>by
  unfold hid;split
  ·rfl
  ·exact z
 refine#[I.ok,I.os,I.bare,#[I.base.keep,I.base.slot,λb o D n w=>nn (I.base.free b o D n w),I.base.there,λb j q=>?_,λb o u q=>?_,λb r q=>?_],I.loc,I.cell,nn I.free,λx c q=>nn (I.iD x c q),λp i=>?_,λb u q=>?_,I.len]
 ·have z:=I.base.tups b j q;exact e (λy=>by rw[y,f] at z;cases z) z
 ·have z:=I.base.jO b o u q;exact e (λy=>by rw[y,f] at z;cases z) z
 ·obtain⟨m,z⟩:=I.base.jP b r q;exact#[m,e (λy=>by rw[y,f] at z;cases z) z]
 ·obtain⟨C,B,A⟩:=I.pin p i;exact#[C,nn B,A]
 ·obtain⟨E,l⟩:=ne q;refine(I.hok b u l).stay (λc v _ z=>z) (λc z=>?_) λc j z=>?_
  ·exact e (λy=>by rw[y,f] at z;cases z) z
  ·exact e (λy=>by rw[y,f] at z;cases z) z
end
section
variable {X:Cx}{E:XK}{k:Nat}{C B f:Qv}{fd:zq}{ps:QAH}{sp:Sp}{x:Str}{np cpos pos:Pos}{e:zp}{es:qy}{t:TA}
@[simp] def qoT(C:Qv)(sp:Sp)(E:XK)(t:TA):TS:=λ_ l H=>t l H λc j=>c.length<=sizeLine/\∀a,j a=none->n_ sp (.ref a::c) (upd j a (eO a C none)) (λv i=>v = .non/\∃h,i a=some (eO a C h)/\E (.ref C) h (hid a i)) #[0] E0
def qoU(hL:Lets X E)(y:X.ex=[])(hc:X.calm=true)(M:Av X.K C B f)(F:aO X.prog X.w X.K X.mg X.base aW k f fd ps sp)(hr:cB (k+1) X.A)(hg:Gl X x)(hm:X.mg x=some (.ref C))(hb:Binds X.K fd ps [])(ha:PA X (e::es) t)(aa:iG x:=by decide)(he:lG X e es:=by rfl)(a0:nQ X cpos es:=by rfl):
  PS X (.Raise (some (.Call (.Name x np) (e::es) [] cpos)) none pos) (qoT C sp E t):=by
 intro p_ s σ H D I h;show wpAny _ _ (do standAt pos;raiseStmt X.env (some (do let v <- eval (.Call (.Name x np) (e::es) [] cpos) X.env;standAt pos;pure v)) none) _ _ s
 refine qvT (qw8 (qoR (I.ok.hd hc) (qvT ?_)));refine qwu (Q:=λv n=>∃(a C:Qv)(O:Obj)(J:qx)(U q:Str)(N:Qv)(bs bm:QAE)(i:Bool)(L:QAH)(sub:QAE)(ab:Bool)(m:Option Bool)(dd:wJ)(k0 k1 k2 k3 Y:QAG)(l:String),v = .ref a/\bm.contains (.type "BaseException")=true/\
   n.heap.get? C=some (excClassObj U q C N bs bm i L sub ab m dd k0 k1 k2 k3 Y l)/\n.heap.get? a=some O/\O.cls = .ref C/\O.data = .fields J/\J[1]? = some .none/\X.xe (.ref a) n) ?_ (λv n z=>qvT (qw8 (qvW z))) λ_ _ z=>z
 refine qwO (qJ I hg hm ?_ aa);refine W.callWith_K (h₀:=X.base) I.ok.mod.jQ M.kp (aD (ha cpos p_ s σ H _ I h) λj n zz=>?_) he a0;obtain⟨J,H1,o,r,hz,q⟩:=zz;refine#[o.cg,?_];obtain⟨U,qn,N,bs,i,L,sub,ab,m,dd,k0,k1,k2,k3,Y,hC⟩:=M.ob;have T:=M.tail o.cg;have Ec:=o.cg _ _ hC;have jQ:=o.cg;obtain⟨hh,g,d,tk,os⟩:=n;refine qov jQ T M.init M.fn Ec (λh' a mk=>?_) (by show j.length<=_;rw[<- r.length];exact hz);have new:X.s₀.heap.get? a=none:=o.old y mk.new;obtain⟨un,I2⟩:=o.qoC y mk;have hq:=q a un;have r2:Vals (V.ref a::J) (Value.ref a::j):=.cons rfl r;have hl:(Value.ref a::j).length=ps.length:=by rw[<- r2.length];exact F.len _ _ _ _ hq
 have G:=hb _ (Value.ref a::j) I2.cg (by rw[qwy];exact hl);rw[qwy] at G;refine qx3 (qwQ (F.run _ X.stack _ _ #[Value.ref a::j,[]] (Value.ref a::j) _ _ _ (hr.make C j []) (I2.env0.make C j []) G r2 hq) λrr s' c=>?_);cases rr with
 |error z=>exact False.elim c
 |ok fl=>
  cases fl with
  |ret u=>
   obtain⟨v,H',I3,rv,ev,od,ea,hE⟩:=I2.after c;subst ev;obtain⟨ox,ws,t0,g1,g2,g3,g4,g5,g6,g7⟩:=Ro I3.hok ea;refine#[rv,a,C,ox,ws,U,qn,N,bs,_,i,L,sub,ab,m,dd,k0,k1,k2,k3,Y,_,rfl,?_,I3.cg _ _ hC,g1,g2,g3,g5,?_]
   ·simp[iR]
   ·refine hL p_ σ (hid a H') s' a C od (I3.qoS ea) #[new,?_,ox,ws,g1,by rw[g2,g7],g3,g6,.inl g5] hE;unfold hid;rw[if_pos rfl]
  |next=>exact False.elim c
  |brk=>exact False.elim c
  |cont=>exact False.elim c
end
def jZ.ofX{K:W5}{C B f:Qv}(M:Av K C B f)(c:XC K C B):jZ K C:=λh X=>by
 obtain⟨m,l,N,bs,a,j,sub,A,i,z,w,u,r,o,n,y⟩:=M.ob;exact#[_,N,m,l,bs,a,j,sub,A,i,z,w,u,r,o,n,X _ _ y,λv b e=>by rw[c.mro] at e;exact qwt e]
@[simp] def qvj(i:TE):TI:=λh H R=>i h H λx e=>isRef x λa=>∃c,Rd e a (.dK c)/\∀o,(∀f u,e a=some (.dH f u)->o=f)->R (Itd a o c) (upd e a (.dH o (.dK c)))
def qoV:typeLookup (.type "zip") "__len__" = pure none:=by rw[typeLookup_type,qye];kernel_rfl
def qoW:typeLookup (.type "zip") "__length_hint__" = pure none:=by rw[typeLookup_type,qye];kernel_rfl
abbrev yd(xs:qx):Obj:={cls:=.type "tuple",data:=.seq xs}
abbrev zO(n:Nat)(f:zT)(b:Bool):Obj:={cls:=.type "zip",dict:=none,data:=.fields [f,.bool b,.bool false,.ref (n+3),.ref (n+4)].toArray,slots:=#[]}
def tri{e:Type}(a b c:e):Nat->e|0=>a|1=>b|_=>c
def Jk{P:Nat->Prop}(e:P 0)(c:P 1)(a:P 2):∀j,j<3->P j
 |0,_=>e
 |1,_=>c
 |2,_=>a
structure Z3(n:Nat)(bk:Nat->Bool)(l:Nat->Addr)(xs:Nat->Array Value)(h0:zf)(N k m:Nat)(o:qx)(f:zT)(b:Bool)(h:zf):Prop where
 z:h.get? (n+5)=some (zO n f b)
 i:h.get? (n+3)=some (yd [.ref (n+0),.ref (n+1),.ref (n+2)].toArray)
 o:h.get? (n+4)=some (yd o)
 w:∀j,j<3->l j<n/\gC (bk j) (n+j) (l j) (xs j) (if j<m then k+1 else k) h
 sz:h.objs.size=N
 kp:∀d u,d<n\/n+5<d->h0.get? d=some u->h.get? d=some u
section
variable {prog:J9}{w:zX}{A:zY}{E:QAB}{s:Zw}{n N k m:Nat}{bk:Nat->Bool}{l:Nat->Addr}{xs:Nat->Array Value}{h0 h h':zf}{o o':qx}{f f':zT}{b b':Bool}
def Z3.keep(g:Z3 n bk l xs h0 N k m o f b h)(s:Heap.ExtBut a h h')(c:j<3)(e:n<=a/\n+j≠a):l j<n/\gC (bk j) (n+j) (l j) (xs j) (if j<m then k+1 else k) h':=
 have q:=g.w j c
 #[q.1,Ae q.2 (λo=>s _ o e.2) λo=>s _ o ⋯]
def Z3.z'(g:Z3 n bk l xs h0 N k m o f b h)(e:h'.get? (n+5)=some (zO n f' b'))(s:Heap.SameBut (n+5) h h'):Z3 n bk l xs h0 N k m o f' b' h':=
 #[e,(s.2 _ ⋯).trans g.i,(s.2 _ ⋯).trans g.o,λj a=>g.keep s.extBut a ⋯,s.1.trans g.sz,λd u c e=>(s.2 d ⋯).trans (g.kp d u c e)]
def qoX(g:Z3 n bk l xs h0 N k m o f b s.heap)(h:∀h',Z3 n bk l xs h0 N k m (F o) f b h'->Q () {s with heap:=h'})(a:o.size=3:=by rfl)(c:(F o).size=3:=by rfl):wpAny (model prog w) A (updateSeq (n+4) F) Q E s:=
 have u:=qw0 s.heap (n+4) (Obj.mapSeq F)
 qxy g.o rfl (h _ #[(u.2 _ ⋯).trans g.z,(u.2 _ ⋯).trans g.i,(by rw[qwM _ g.o rfl];simp[Obj.mapSeq,a,c]),λj r=>g.keep u.extBut r ⋯,u.1.trans g.sz,λd v y e=>(u.2 d ⋯).trans (g.kp d v y e)]) (by rw[a];decide) (by rw[c];decide)
def Z3.w'(g:Z3 n bk l xs h0 N k m o f b h)(a:m<3)(e:gC (bk m) (n+m) (l m) (xs m) (k+1) h')(s:Heap.SameBut (n+m) h h'):Z3 n bk l xs h0 N k (m+1) o f b h':=
 #[(s.2 _ ⋯).trans g.z,(s.2 _ ⋯).trans g.i,(s.2 _ ⋯).trans g.o,λj c=>by
  by_cases v:j=m
  ·rw[v,if_pos ⋯];exact#[(g.w m a).1,e]
  ·have q:=g.keep s.extBut c ⋯
   rwa [show(if j<m+1 then k+1 else k)=if j<m then k+1 else k by split <;> split <;> lia],
  s.1.trans g.sz,λd u r e=>(s.2 d ⋯).trans (g.kp d u r e)]
def Z3.on(g:Z3 n bk l xs h0 N k m o f b h)(a:∀d u,h.get? d=some u->h'.get? d=some u)(e:h'.objs.size=y):Z3 n bk l xs h0 y k m o f b h':=
 #[a _ _ g.z,a _ _ g.i,a _ _ g.o,λj c=>have q:=g.w j c;#[q.1,Ae q.2 (a _) (a _)],e,λd v r e=>a _ _ (g.kp d v r e)]
def Z3.ends(g:Z3 n bk l xs h0 N k 3 o f b h)(u:Obj):Z3 n bk l xs h0 (N+1) (k+1) 0 o f b (h.push u):=
 have q:=g.on (λ_ _ e=>qvV u e) (qwD .. : (h.push u).objs.size=_)
 g.sz▸{q with w:=λj a=>by simpa [a] using q.w j a}
def Z3.other(g:Z3 n bk l xs h0 N k m o f b h)(s:Heap.SameBut a h h')(r:n+5<a):Z3 n bk l xs h' N k m o f b h':=
 #[(s.2 _ ⋯).trans g.z,(s.2 _ ⋯).trans g.i,(s.2 _ ⋯).trans g.o,λj c=>g.keep s.extBut c ⋯,s.1.trans g.sz,λ_ _ _ e=>e]
def Zf(n k:Nat)(o:qx)(f:zT)(h:zf):Prop:=(f = .none/\k=0/\∃a b c,o = [a,b,c].toArray)\/∃(T:Nat)(u:Obj),f=rawInt T/\n+6<T/\h.get? T=some u
def Zf.other(z:Zf n k o f h)(s:Heap.SameBut (n+6) h h'):Zf n k o f h':=z.imp id λ⟨T,u,a,b,c⟩=>#[T,u,a,b,(s.2 _ ⋯).trans c]
def qc4(h:Q (s.heap.get? a) s):wpAny (model prog w) A (loadIfAlive a) Q E s:=λΓ p _=>by
 unfold loadIfAlive;rw[Sem.wp_loadIfAlive];exact h
def qc5{T:Qv}{B:Bool->Shared->Prop}(g:Z3 n bk l xs h0 N k m o (rawInt T) b s.heap)(h:∀a,Z3 n bk l xs h0 N k m o (rawInt T) true a->B false {s with heap:=a}):
  wpAny (model prog w) A (if (Value.bool b != Value.bool true)=true then do
   setField (Value.ref (n+5)) 1 (Value.bool true)
   pure false
  else pure false) B E s:=by
 cases b with
 |true=>exact qvW (h s.heap g)
 |false=>exact qvT (qwR g.z (by simp) λa e s=>qvW (h a (g.z' e s)))
def qoY{x:Nat->Value}{Q:QAG->Shared->Prop}(g:Z3 n bk l xs s.heap N k 0 o f b s.heap)(H:Zf n k o f s.heap)(I:n+6<N)(C:∀j,j<3->(xs j)[k]? = some (x j))(G:∀h' o' f' b',Z3 n bk l xs s.heap (N+1) (k+1) 0 o' f' b' h'->Zf n (k+1) o' f' h'->h'.get? N=some (yd [x 0,x 1,x 2].toArray)->Q (some (.ref N)) {s with heap:=h'}):wpAny (model prog w) A (pyNext (.ref (n+5))) Q E s:=by
 have hT:s.TypeIs (.ref (n+5)) "zip" :=#[_,g.z,rfl];unfold pyNext;refine qvT (wpAny_attempt (qxd (name:=Str.ofString "__next__") hT F.slot_zip_next
  (qwW F.slot_zip_next hT F.entry_zip_next ?_ (F.args_zip_next_1 _))))
 show wpAny _ _ (field (.ref (n+5)) 2 >>= _) _ _ _;refine qvT (qwH g.z rfl rfl ?_);show wpAny _ _ (field (.ref (n+5)) 3 >>= _) _ _ _;refine qvT (qwH g.z rfl rfl (qvT (qw9 g.i rfl ?_)));show wpAny _ _ (Builtin.SmallTypes.ownedTupleIsFree _ >>= _) _ _ _;unfold Builtin.SmallTypes.ownedTupleIsFree
 rcases H with⟨rfl,rfl,a1,a2,a3,rfl⟩|⟨T,u,rfl,hT,D⟩
 ·refine qvT (qvT (qwH g.z rfl rfl (qvW (qvT (qxF (qvT (qwH g.z rfl rfl (qvT (qwR g.z (by simp) λa e s=>?_)))))))));replace g:Z3 n bk l xs _ _ _ _ _ .ellipsis b a:=g.z' e s;refine qvT ?_;simp only[List.zipIdx_cons,List.zipIdx_nil,List.forIn_cons,List.forIn_nil];clear e s
  iterate 3
   refine qvT (qvT (wpAny_onRaise ?_));show wpAny _ _ (Builtin.SmallTypes.nextOf (.ref (n+_)) >>= _) _ _ _;refine qvT (Qx (g.w _ (by decide)).2 (C _ (by decide)) λh e s=>qvW (qvT (qw9 (g.w' (by decide) e s).o rfl (qvT (qoX (g.w' (by decide) e s) λh L=>qvT (wpAny_letGo (qvW ?_)))))));clear e s g
   rename Z3 ..=>g
  refine qvW (qvT (qw9 g.o rfl (qvT (wpAny_newTuple (items:=[x 0,x 1,x 2]) ?_ (by show 3<=sizeLine;decide)))));obtain rfl:=g.sz;have hT:=qv4 (o:=yd [x 0,x 1,x 2].toArray) h rfl;show wpAny _ _ (Builtin.SmallTypes.ownedTupleHandOut _ (.ref h.objs.size) >>= _) _ _ _;unfold Builtin.SmallTypes.ownedTupleHandOut;replace g:=g.ends (yd [x 0,x 1,x 2].toArray);refine qvT (qvT (qwR g.z (by simp) λy e s=>qwR e (by simp) λc J v=>qvW #[_,rfl,?_]));have r:=(v.2 _ ⋯).trans ((s.2 _ ⋯).trans hT);exact qvW (G _ _ (rawInt h.objs.size) false ((g.z' (f':=rawInt h.objs.size) e s).z' J v) (.inr #[_,_,rfl,I,r]) r)
 ·refine qvT (qvT (qwH g.z rfl (x:=rawInt T) rfl ?_));show wpAny _ _ (loadIfAlive T >>= _) _ _ _;refine qvT (qc4 ?_);rw[D];refine qvT (qwH g.z rfl rfl (qc5 g λa g=>qvT ?_));simp only[<- Array.forIn_toList,List.forIn_cons,List.forIn_nil]
  iterate 3
   refine qvT (qvT (qwL ?_));show wpAny _ _ (Builtin.SmallTypes.nextOf (.ref (n+_)) >>= _) _ _ _;refine qvT (Qx (g.w _ (by decide)).2 (C _ (by decide)) λB e s=>qvW (qvW ?_));replace g:=g.w' (by decide) e s;clear e s
  refine qvW (qvT (wpAny_newTuple ?_ (by show 3<=sizeLine;decide)));obtain rfl:=g.sz;exact qvW #[_,rfl,qvW (G _ _ _ true (g.ends _) (.inr #[T,u,rfl,hT,qvV _ (g.kp _ _ ⋯ D)]) (qv4 _ rfl))]
def qoZ{Q:QAG->Shared->Prop}(C:A.handled=none)(g:Z3 n bk l xs s.heap N k 0 o f b s.heap)(D:Zf n k o f s.heap)(h0:0<k)(v:(xs 0)[k]? = none)(J:∀h',(∀d u,d<n\/n+5<d->s.heap.get? d=some u->h'.get? d=some u)->Q none {s with heap:=h'}):wpAny (model prog w) A (pyNext (.ref (n+5))) Q E s:=by
 have hT:s.TypeIs (.ref (n+5)) "zip" :=#[_,g.z,rfl];unfold pyNext
 rcases D with⟨_,e,_⟩|⟨T,u,rfl,I,y⟩
 ·lia
 refine qvT (wpAny_attempt (qxd (name:=Str.ofString "__next__") hT F.slot_zip_next
  (qwW F.slot_zip_next hT F.entry_zip_next ?_ (F.args_zip_next_1 _))))
 show wpAny _ _ (field (.ref (n+5)) 2 >>= _) _ _ _;refine qvT (qwH g.z rfl rfl ?_);show wpAny _ _ (field (.ref (n+5)) 3 >>= _) _ _ _;refine qvT (qwH g.z rfl rfl (qvT (qw9 g.i rfl ?_)));show wpAny _ _ (Builtin.SmallTypes.ownedTupleIsFree _ >>= _) _ _ _;unfold Builtin.SmallTypes.ownedTupleIsFree;refine qvT (qvT (qwH g.z rfl (x:=rawInt T) rfl ?_));show wpAny _ _ (loadIfAlive T >>= _) _ _ _;refine qvT (qc4 ?_);rw[y];refine qvT (qwH g.z rfl rfl (qc5 g λc g=>qvT ?_));simp only[<- Array.forIn_toList,List.forIn_cons,List.forIn_nil];refine qvT (qvT (qwL ?_));show wpAny _ _ (Builtin.SmallTypes.nextOf (.ref (n+0)) >>= _) _ _ _;refine qvT (qbE C (g.w 0 (by decide)).2 v λa e r j=>?_);obtain⟨_,B,H⟩:=j;exact qvT (wpAny_isInstance (T:= "StopIteration") (b:=true) #[_,B,H] isSubtype_stop (qvW (J _ λd u G e=>r _ _ ⋯ (g.kp d u G e))))
abbrev Ay:Obj:={cls:=.type "list",data:=.seq #[]}
def qo0{z:Qv}{I:Obj}{Q:QAB}(hz:s.heap.get? z=some I)(J:I.cls = .type "zip")(h:∀a c,a.objs.size=s.heap.objs.size+1->(∀b o,s.heap.get? b=some o->a.get? b=some o)->a.get? s.heap.objs.size=some {cls:=.type "list",data:=.seq #[] c}->
   codeAny (model prog w) A.in1 (.builtin "list.extend.loop" #[[.ref s.heap.objs.size,.ref z,.none],[]]) (wants (λr C=>r = .none/\Q (.ref s.heap.objs.size) C) E) {s with heap:=a}):
  wpAny (model prog w) A (call (.type "list") [.ref z]) Q E s:=by
 refine callType_codes (Q₁:=λobj v=>obj = .ref s.heap.objs.size/\v={s with heap:=s.heap.push Ay}) F.called_list (F.typeCall_list_1 _) F.entry_list_init
  (code_list_new _ #[rfl,rfl]) λobj v D=>?_
 obtain⟨rfl,rfl⟩:=D;have G:(s.heap.push Ay).get? s.heap.objs.size=some Ay:=qv4 _ rfl;refine#[#[_,G,rfl],F.args_list_init_2 _ _,?_];have y:(s.heap.push Ay).objs.size=s.heap.objs.size+1/\∀b o,s.heap.get? b=some o->(s.heap.push Ay).get? b=some o:=#[qwD ..,λb o e=>qvV _ e];generalize s.heap.push Ay=g at G y⊢;have H:∀{g:zf} f,(g.objs.size=s.heap.objs.size+1/\∀b o,s.heap.get? b=some o->g.get? b=some o)->(g.update s.heap.objs.size f).objs.size=s.heap.objs.size+1/\∀b o,s.heap.get? b=some o->(g.update s.heap.objs.size f).get? b=some o:=λ{g} f q=>
  have u:=qw0 g s.heap.objs.size f
  #[u.1.trans q.1,λb o e=>(u.2 b (qwk (qv2 e))).trans (q.2 b o e)]
 show wpAny _ _ (do let old <- Builtin.List.listItems (.ref s.heap.objs.size);Builtin.List.listUpdate (.ref s.heap.objs.size) (λ_=>#[]);letGo old.toList.reverse;Builtin.List.listExtendWith (.ref s.heap.objs.size) (.ref z) .none) _ _ _
 unfold Builtin.List.listItems;refine qvT (qvT (qw9 G rfl (qvW ?_)));show wpAny _ _ (updateSeq s.heap.objs.size (λ_=>#[]) >>= λ_=>letGo (#[]:Array Value).toList.reverse >>= λ_=>Builtin.List.listExtendWith (.ref s.heap.objs.size) (.ref z) .none) _ _ _;refine qvT (qxy G rfl (qvT (wpAny_letGo ?_)));have j:=qwM (Obj.mapSeq (λ_=>(#[]:Array Value))) G rfl;replace y:=H (Obj.mapSeq (λ_=>(#[]:Array Value))) y;have B:Shared.TypeIs {s with heap:=g.update s.heap.objs.size (Obj.mapSeq (λ_=>(#[]:Array Value)))} (.ref z) "zip" :=#[_,y.2 _ _ hz,J];unfold Builtin.List.listExtendWith;refine qvT (wpAny_typeOf B ?_);have L:Builtin.List.listSameRef (.ref s.heap.objs.size) (.ref z)=false:=by simp[Builtin.List.listSameRef,qw_ (qv2 hz)]
 rw[if_neg (by rw[L];decide)];refine qvT (wpAny_pyIter_slot B F.slot_zip_iter (qwW F.slot_zip_iter B F.entry_zip_iter ?_ (F.args_zip_iter_1 _)));show wpAny _ _ (ret (.ref z)) _ _ _;refine qvW #[_,rfl, "zip",_,B,F.slot_zip_next.lookup,qvT (qwL ?_)];unfold Builtin.List.listLengthHint;refine qvT (wpAny_specialOf B qoV ?_);show wpAny _ _ (specialOf (Value.ref z) (Str.ofString "__length_hint__") >>= _) _ _ _;refine qvT (wpAny_specialOf B qoW (qvW ?_));show wpAny _ _ (rule "list.extend.makes-room" >>= λ_=>Builtin.List.listTouch (.ref s.heap.objs.size) >>= λ_=>again (.builtin "list.extend.loop" #[[.ref s.heap.objs.size,.ref z,.none],[]])) _ _ _;refine qvT (qxF (qvT ?_));show wpAny _ _ (updateSeq s.heap.objs.size (·.push .none) >>= λ_=>updateSeq s.heap.objs.size (·.pop)) _ _ _;have i:=qwM (Obj.mapSeq (·.push Value.none)) j rfl;replace y:=H (Obj.mapSeq (·.pop)) (H (Obj.mapSeq (·.push Value.none)) y);exact qvT (qxy j rfl (qxy (hz:=by seq_fits) i rfl (qvW #[qxD F.plain_extend_loop _,h _ _ y.1 y.2 (qwM (Obj.mapSeq (·.pop)) i rfl)])))
end
def qo1(a b c:zT):checkTypeCall "zip" #[[a,b,c],[]]=pure ():=by kernel_rfl
def qo2(a b c:zT):checkBuiltinCall "zip.__new__" #[[.type "zip",a,b,c],[]]=pure ():=by kernel_rfl
def qo3(a b c d:zT):argsOk "object.__init__" #[[a,b,c,d],[]]:=by
 unfold argsOk;rw[signature?_of (id:= "object.__init__") (n:=['_', '_', 't', 'i', 'n', 'i', '_', '_']) (o:=['t', 'c', 'e', 'j', 'b', 'o']) (by kernel_rfl) F.owner_object];kernel_rfl
def iW.src(x:iW b h l items)(e:h.get? it=some (nZ b l)):gC b it l items 0 h:=by
 cases b <;> exact#[#[_,e,rfl,rfl],x]
theorem Rt:∀(os:List Obj)(h:zf),(∀a u,h.get? a=some u->(os.foldl Heap.push h).get? a=some u)/\(os.foldl Heap.push h).objs.size=h.objs.size+os.length/\∀i u,os[i]? = some u->u.isFreed=false->(os.foldl Heap.push h).get? (h.objs.size+i)=some u
 |[],_=>#[λ_ _ e=>e,rfl,λ_ _ e=>by cases e]
 |o::os,h=>by
  obtain⟨a,b,c⟩:=Rt os (h.push o);rw[qwD] at b c;refine#[λ_ _ e=>a _ _ (qvV _ e),b.trans (by rw[qwj];lia),?_];rintro(_|i) u e f
  ·cases e;exact a _ _ (qv4 _ f)
  ·rw[show h.objs.size+(i+1)=h.objs.size+1+i by lia];exact c i u e f
def qo4(bk:Nat->Bool)(l:Nat->Addr)(xs:Nat->Array Value):
  Meets (Builtin.«zip.__new__» #[[.type "zip",.ref (l 0),.ref (l 1),.ref (l 2)],[]]) (λ_ R s=>(∀j,j<3->iW (bk j) s.heap (l j) (xs j))/\
   ∀h',Z3 s.heap.objs.size bk l xs s.heap (s.heap.objs.size+6) 0 0 [.none,.none,.none].toArray .none false h'->R (.ok (.ret (.ref (s.heap.objs.size+5)))) {s with heap:=h'}):=
 .of_wp λi w A R s h=>by
  obtain⟨a,g,d,e,os⟩:=s;obtain⟨f,h⟩:=h;have m:=sub_zip;have L:∀(os:List Obj){j:Nat},j<3->iW (bk j) (os.foldl Heap.push a) (l j) (xs j):=λos j c=>(f j c).at λ_=>(Rt os a).1 _ _;have r:iW (bk 0) (Shared.heap #[a,g,d,e,os]) (l 0) (xs 0):=L [] (by decide);have o:iW (bk 1) (Shared.heap #[a.push (nZ (bk 0) (l 0)),g,d,e,os]) (l 1) (xs 1):=L [_] (by decide);have L2:iW (bk 2) (Shared.heap #[(a.push (nZ (bk 0) (l 0))).push (nZ (bk 1) (l 1)),g,d,e,os]) (l 2) (xs 2):=L [_,_] (by decide)
  wp_walk using Hx r,Hx o,Hx L2
  refine#[_,rfl,?_];obtain⟨u,z,n⟩:=Rt [nZ (bk 0) (l 0),nZ (bk 1) (l 1),nZ (bk 2) (l 2),yd [.ref (a.objs.size+0),.ref (a.objs.size+1),.ref (a.objs.size+2)].toArray,yd [.none,.none,.none].toArray,zO a.objs.size .none false] a;simp only[qwD];exact h _ #[n _ _ rfl rfl,n _ _ rfl rfl,n _ _ rfl rfl,λj c=>#[(f j c).lt,((f j c).at λ_=>u _ _).src (n j _ (by revert j;exact Jk rfl rfl rfl) rfl)],z,λd v _=>u d v]
def pW(H:Hp)(a xs ys c:kE)(k:Nat):Prop:=a.length=k/\∀(i:Nat)(v:V),a[i]? = some v->∃t x y z,v = .ref t/\xs[i]? = some x/\ys[i]? = some y/\c[i]? = some z/\H t=some (.tup [x,y,z])
def pW.same(h:pW H l xs ys j k)(s:Same H m):pW m l xs ys j k:=#[h.1,λi v e=>by
 obtain⟨t,x,y,z,a,b,c,d,f⟩:=h.2 i v e;exact#[t,x,y,z,a,b,c,d,s _ _ f]]
def pW.snoc(h:pW H a xs ys c k)(j:xs[k]? = some x)(f:ys[k]? = some y)(hz:c[k]? = some z)(l:H t=some (.tup [x,y,z])):pW H (a++[.ref t]) xs ys c (k+1):=by
 refine#[by simp[h.1],λi v e=>?_]
 by_cases m:i<a.length
 ·rw[qwo m] at e;exact h.2 i v e
 ·rw[qwq ⋯] at e;have n:i - a.length=0:=by
   have:=(qvU.mp e).1;simp at this;omega
  rw[n] at e;simp at e;subst e;have:i=k:=by have:=h.1;lia
  subst this;exact#[t,x,y,z,rfl,j,f,hz,l]
def qo5(h:dj X a H b)(n:c b=none):dj X a c b:=#[n,h.2]
def qo6{X:Cx}{G:QAC}{σ:St}{A:zY}{R:Result->Shared->Prop}(hh:A.handled=none){n L:Nat}{bk:Nat->Bool}{l:Nat->Addr}{xs:Nat->Array Value}{vs:Nat->List V}(hL:L<=sizeLine)(h0:0<L)(U:∀j,j<3->(vs j).length=L/\Vals (vs j) (xs j).toList):
  ∀(r k N:Nat)(H:Hp)(s:Zw)(m:kE)(a:qx)(O:Nat)(o:qx)(f:zT)(b:Bool),L - k=r->k<=L->Inv X G σ H s->(∀d∈List.range' n 7,dj X G H d)->Z3 n bk l xs s.heap N k 0 o f b s.heap->Zf n k o f s.heap->n+6<N->
   s.heap.get? (n+6)=some {cls:=.type "list",data:=.seq a O}->Vals m a.toList->pW H m (vs 0) (vs 1) (vs 2) k->
   (∀y z J c i,Inv X G σ y z->dj X G y (n+6)->z.heap.get? (n+6)=some {cls:=.type "list",data:=.seq c i}->Vals J c.toList->pW y J (vs 0) (vs 1) (vs 2) L->Same H y->R (.ok (.ret .none)) z)->
   codeAny (model X.prog X.w) A (.builtin "list.extend.loop" #[[.ref (n+6),.ref (n+5),.none],[]]) R s:=by
 intro r
 induction r with
 |zero=>
  intro k N H s m a O o f b hr hk I v g T hN hS E M hR;obtain rfl:k=L:=⋯
  have B:=U 0 (by decide);have Y:=B.2.length;refine qw4 F.entry_extend_loop ?_;rw[qwT F.plain_extend_loop _];show wpAny _ _ (pyNext (.ref (n+5)) >>= _) _ _ s;exact qvT (qoZ (A:=A.in1) hh g T h0 (by simp at Y⊢;lia) λh' kp=>qvW (hR H _ m a O (I.tV (t':=s.toks) (λd u h e=>kp d u (by simp at h;lia) e) v) (v _ (by simp)) (kp _ _ ⋯ hS) E M (Same.refl _)))
 |succ r ih=>
  intro k N H s m a O o f b hr hk I v g T hN hS E M hR;obtain rfl:=g.sz;have B:=λj hj=>(U j hj).2.get (qwi (by have:=(U j hj).1;lia:k<(vs j).length));obtain⟨u0,e0,r0⟩:=B 0 (by decide);obtain⟨u1,e1,r1⟩:=B 1 (by decide);obtain⟨u2,e2,r2⟩:=B 2 (by decide);have a0:a.size=k:=E.length.symm.trans M.1;have hn:H s.heap.objs.size=none:=I.hok.fresh (qvY _);refine qw4 F.entry_extend_loop ?_;rw[qwT F.plain_extend_loop _];show wpAny _ _ (pyNext (.ref (n+5)) >>= _) _ _ s;refine qvT (qoY (A:=A.in1) (x:=tri u0 u1 u2) g T hN (Jk (Array.getElem?_toList.symm.trans e0) (Array.getElem?_toList.symm.trans e1) (Array.getElem?_toList.symm.trans e2)) λh' o' f' b' g' Q e=>?_);have C:=g'.kp _ _ ⋯ hS;have D:=qw0 h' (n+6) (Obj.mapSeq (·.push (Value.ref s.heap.objs.size)));show wpAny _ _ (updateSeq (n+6) (·.push (.ref s.heap.objs.size)) >>= _) _ _ _;refine qvT (qxy C rfl (qvW #[qxD F.plain_extend_loop _,?_]) ⋯ (by show(a.push _).size<=sizeLine+1;rw[Array.size_push];lia));have J3:=λ{o:HO}=>aJ (o:=o) hn;exact ih (k+1) _ _ _ (m++[.ref s.heap.objs.size]) (a.push (.ref s.heap.objs.size)) _ _ _ _ ⋯ ⋯
   (I.qaG (t':=s.toks) (I.tV (λd u h e=>(D.2 _ (by simp at h;lia)).trans (g'.kp d u (by simp at h;lia) e)) v) (.cons r0 (.cons r1 (.cons r2 .nil))) (by show 3<=sizeLine;decide) ((D.2 _ ⋯).trans e))
   (λd h=>qo5 (v d h) ((aN (by simp at h;lia)).trans (v d h).1)) (g'.other D ⋯) (Q.other D) ⋯ (qwM _ C rfl) (by rw[Array.toList_push];exact E.append (.cons rfl .nil))
   ((M.same J3).snoc (qwi _) (qwi _) (qwi _) aB) λy z J c i b1 b2 b3 b4 b5 b6=>hR y z J c i b1 b2 b3 b4 b5 (J3.trans b6)
def Ei(xs:kE)(R:V->V->V->Prop):Prop:=match xs with|[x,y,z]=>R x y z|_=>False
@[simp ↓] theorem qvkx y z R:Ei [x,y,z] R=R x y z:=rfl
def Ei.out{R}(h:Ei xs R):∃x y z,xs=[x,y,z]/\R x y z:=by
 match xs,h with
 |[x,y,z],h=>exact#[x,y,z,rfl,h]
@[simp] def tLZ(K:W5)(o:TA):TE:=λm H Q=>o m H λn f=>Ei n λx y z=>isRef x λa=>isRef y λb=>isRef z λc=>∃(b3:Bool)(e j i:kE),au K f a e/\au K f b j/\ji b3 K f c i/\0<e.length/\j.length=e.length/\i.length=e.length/\
 ∀p l h,f p=none->h p=some (.lst l)->pW h l e j i e.length->Same f h->Q (.ref p) h
def qo7{X:Cx}{K:W5}(hK:X.K=K)(hc:X.calm=true){a b c:zp}{T:TA}{p m pos f:Pos}(L:Gl X "list")(G:X.mg "list" = none)(J:Gl X "zip")(E:X.mg "zip" = none)(ha:PA X [a,b,c] T)(hs:starEach [a,b,c] X.env=[(false,eval a X.env),(false,eval b X.env),(false,eval c X.env)]:=by rfl)(n:starEach [b,c] X.env=[(false,eval b X.env),(false,eval c X.env)]:=by rfl)(o:starEach [.Call (.Name "zip" m) [a,b,c] [] f] X.env=[(false,eval (.Call (.Name "zip" m) [a,b,c] [] f) X.env)]:=by rfl):
  PE X (.Call (.Name "list" p) [.Call (.Name "zip" m) [a,b,c] [] f] [] pos) (tLZ K T):=by
 subst hK;intro U s σ H Q I h;refine qwO (lB I L G boot_list ?_ (by decide) (by decide));refine qwB ?_ (by rw[o];rfl) (by rfl);rw[o];show wpAny _ _ (spliced ((false,eval (.Call (.Name "zip" m) [a,b,c] [] f) X.env)::[])) _ _ s;refine qxH ?_;refine qwO (lB I J E boot_zip ?_ (by decide) (by decide));refine qwB (aD (ha f U s σ H _ I h) λD l z=>?_) (by rw[hs,n]) (by rw[n];rfl);obtain⟨vs,H1,j,B,q1⟩:=z;obtain⟨x,y,z,rfl,q2⟩:=Ei.out q1;obtain⟨l1,rfl,q3⟩:=isRef.out q2;obtain⟨l2,rfl,q4⟩:=isRef.out q3;obtain⟨Y,rfl,bk,xs,ys,zs,k1,k2,k3,h0,e2,e3,q⟩:=isRef.out q4;obtain _|⟨ra,_|⟨rb,_|⟨rc,⟨⟩⟩⟩⟩:=B;obtain rfl:_=Value.ref l1:=ra;obtain rfl:_=Value.ref l2:=rb;obtain rfl:_=Value.ref Y:=rc;obtain⟨D,B,C,p1⟩:=j.Ao (b:=true) k1;obtain⟨vs,r2,_,m⟩:=j.Ao (b:=true) k2;obtain⟨O,r3,_,p3⟩:=j.Ao k3;rw[<- B.length] at C;refine callType_new F.called_zip (by decide) (qo1 _ _ _) (qo2 _ _ _) (λobj=>qo3 obj _ _ _) F.entry_zip_new (qo4 (tri true true bk) (tri l1 l2 Y) (tri D.toArray vs.toArray O.toArray)) #[Jk p1 m p3,λh' g=>#[#[_,g.z,rfl],qyi (qo0 g.z rfl λa0 cn hn kk hS=>?_)]];have r:({l with heap:=h'}:Shared).heap.objs.size=l.heap.objs.size+6:=g.sz;generalize ({l with heap:=h'}:Shared).heap.objs.size=S at r hS hn⊢;subst r;have fresh:∀d∈List.range' l.heap.objs.size 7,dj X U H1 d:=λd hd=>j.lE (by simp at hd;lia) (j.hok.fresh (by simp at hd;lia));refine qo6 (A:=X.A.in1) (j.ok.hd hc) (xs:=tri D.toArray vs.toArray O.toArray) (vs:=tri xs ys zs) C h0 (Jk #[rfl,B] #[e2,r2] #[e3,r3]) _ 0 _ _ _ [] #[] _ _ _ _ rfl (qwF _) (j.kept (t':=l.toks) λa u e=>kk _ _ (g.kp a u (.inl (qv2 e)) e)) fresh {g.on kk hn with kp:=λ_ _ _ e=>e} (.inl #[rfl,rfl,_,_,_,rfl]) ⋯ hS .nil #[rfl,λi v e=>by cases e] λH' s' jm w M J1 N J3 J4 J5 J6=>?_;have hl:=J4.length;have J7:=J5.1;exact#[rfl,.ref _,upd H' (l.heap.objs.size+6) (.lst jm),J1.qaF (qv7 j.sz (qxE _ _)) N #[qv7 (Nat.le_of_eq J7) C,w.toList,M,J4,by simpa using J3],rfl,q _ jm _ (j.hok.fresh (qxE _ _)) aB (J5.same (aJ N.1)) (J6.trans (aJ N.1))]
@[simp] def qvl(c:Qv)(K:W5):List V->Hp->VK->Prop:=λe H Q=>ar1 e λv=>isRef v λl=>Jf H c/\∃a:List Int,au K H l (a.map V.int)/\Q (.int a.sum) H
def qo8(c:Qv)(K:W5)(a:Qv):It:=#[(lF K a).go,(lF K a).jf,λi H=>(lF K a).stop i H/\Jf H c]
@[simp] def qvm(c:Qv)(K:W5)(i:TE):TI:=λf H R=>i f H λx e=>isRef x λa=>(∃h,au K e a h)/\R (qo8 c K a) e
section
variable {X:Cx}{K:W5}{C D:Qv}{b:Bool}
@[simp] def qvn(i:Nat)(C:Qv)(b:Bool):TE:=λa H Q=>getSt a i λx=>isRef x λp=>∃c,H p=some (lV p C c)/\Q (.bl b) H
def qc6(K:W5):List V->Hp->VK->Prop:=λc H Q=>ar2 c λx y=>isRef x λa=>∃C e b,H a=some (lV a C e)/\xY K C/\pP K C y=some b/\Q (.bl b) H
def Ej(A:X.K=K):bY X (.builtin "isinstance") (qc6 K):=by
 subst A;intro w s l H B G Q I r h;obtain⟨E,m,rfl,h⟩:=ar2.out h;obtain⟨a,rfl,C,M,b,e,⟨L,N,i⟩,f,q⟩:=isRef.out h;obtain⟨u,v,rfl,o,j⟩:=r.two;obtain rfl:u=Value.ref a:=o;obtain⟨ex,_⟩:=I.hok a _ e;have go:∀{c:zT},W.kitOne X.K (.ref C) c=some b->wX X (call (.builtin "isinstance") [.ref a,c]) (EP X w l Q) X.xe s:=λ{c} y=>
  qxW (qcT i L) I.cg ex.at y (λz=>by cases z) λJ=>#[.bl b,H,I.kept (λ_ _ e=>e),rfl,q]
 cases m with
 |ref D=>obtain rfl:v=Value.ref D:=j;exact go f
 |ty n=>obtain rfl:v=Value.type n:=j;exact go f
 |_=>cases f
end
@[simp] def qvo(C:Qv)(i:TE)(f:Str):TE:=λh H Q=>i h H λx e=>isRef x λa=>∃c fs,e a=some (lV a C (some c))/\e c=some (pQ c fs)/\∃v,fs.lookup f=some v/\Q v e
structure Clause(K:W5)(D:Qv):Prop where
 ob:jZ K D
 be:W.mroIn K D (.type "BaseException")=some true
def Ru(i:Nat)(l:Addr->TS)(f:Ends)(h:St)(C:Qv)(m:wJ)(j:Hp):Prop:=∀a,j a=none->
  l a {nx:=λc e=>f.nx (c.set i none) e,rt:=f.rt,bk:=λc e=>f.bk (c.set i none) e,ct:=λc e=>f.ct (c.set i none) e} (h.set i (some (.ref a))) (upd j a (lV a C m))
def qo9(i:Nat)(K:W5)(h m:Qv)(l j:Addr->TS)(f:Ends):St->Addr->Option Addr->Hp->Prop:=λa C c e=>jZ K C/\
 ((W.mroIn K C (.ref h)=some true/\Ru i l f a C c e)\/(W.mroIn K C (.ref h)=some false/\W.mroIn K C (.ref m)=some true/\Ru i j f a C c e))
@[simp] def qvp(i:Nat)(K:W5)(j h:Qv)(f e:Addr->TS)(tb:(St->Addr->Option Addr->Hp->Prop)->TS):TS:=λa c H=>tb (qo9 i K j h f e a) a c H
def Itk(a:Qv)(o:Obj)(kvs:List (Key×V)):It:=
 #[λi H=>H a=some (.dH o (.dK kvs))/\i<kvs.length,
  λi H v c=>∃k x,v=kV k/\c=H/\kvs[i]? = some (k,x),
  λi H=>H a=some (.dH o (.dK kvs))/\kvs.length<=i]
@[simp] def qvq(i:TE):TI:=λh H R=>i h H λx e=>isRef x λa=>∃c,Rd e a (.dK c)/\∀o,(∀f u,e a=some (.dH f u)->o=f)->R (Itk a o c) (upd e a (.dH o (.dK c)))
@[simp] def qvr:List V->Hp->VK->Prop:=λf H Q=>ar1 f λv=>isRef v λa=>∃(fs:List (Int×V)),Rd H a (.dK (fs.map λe=>((Sum.inl e.1:Key),e.2)))/\fs.length<64/\∀(p:Qv)(c:qZ),H p=none->c.Perm (fs.map (·.1))->c.Pairwise (·<=·)->Q (.ref p) (upd H p (.lst (c.map V.int)))
def sKV{a:Type}(ks:List (Str×a)):List (Key×a):=ks.map λe=>(Sum.inr e.1,e.2)
def qo_(H:Hp)(a:kE)(ks:List (Str×V)):Prop:=a.length=ks.length/\∀(i:Nat)(e:Str×V),ks[i]? = some e->∃t,a[i]? = some (.ref t)/\H t=some (.tup [.str e.1,e.2])
def iKV{a:Type}(ks:List (Int×a)):List (Key×a):=ks.map λe=>(Sum.inl e.1,e.2)
def qpa(H:Hp)(a:kE)(ks:List (Int×V)):Prop:=a.length=ks.length/\∀(i:Nat)(e:Int×V),ks[i]? = some e->∃t,a[i]? = some (.ref t)/\H t=some (.tup [.int e.1,e.2])
@[simp] def fDI(K:W5):List V->Hp->VK->Prop:=λe H Q=>ar1 e λx=>isRef x λl=>∃c,au K H l c/\∃a,qpa H c a/\(a.map (·.1)).Nodup/\∀p,H p=none->Q (.ref p) (upd H p (.dK (iKV a)))
section
variable {X:Cx}
@[simp] def qvs(t:TS):TS:=λD e H=>t #[λa c=>D.nx a (Iz H c),λv c=>D.rt v (Iz H c),λa c=>D.bk a (Iz H c),λa c=>D.ct a (Iz H c)] e H
def qc7(K:W5):R2:=λx y H Q=>isRef x λa=>isRef y λb=>∃e c:List (Key×V),Rd H a (.dK e)/\Rd H b (.dK c)/\e.length=c.length/\(∀p∈e,∃u,dI c p.1=some u/\∃d,Is K H d p.2/\Is K H d u/\d.canLay0=true/\d.depth<=60/\PyData.eqv d d=true)/\Q (.bl true) H
@[simp ↓] theorem qc8(K:W5)x y H Q:qc7 K x y H Q=(isRef x λa=>isRef y λb=>∃e c:List (Key×V),Rd H a (.dK e)/\Rd H b (.dK c)/\e.length=c.length/\(∀p∈e,∃u,dI c p.1=some u/\∃d,Is K H d p.2/\Is K H d u/\d.canLay0=true/\d.depth<=60/\PyData.eqv d d=true)/\Q (.bl true) H):=rfl
theorem qc9{D:QAC}{σ:St}{H:Hp}{s:Zw}(I:Inv X D σ H s)(L:X.A.in1.units+60<cLine){w:List (Key×V)}{f:List (Key×Value)}(l:KV w f):∀{j:List (Key×V)}{c:List (Key×Value)},KV j c->(∀p∈j,∃u,dI w p.1=some u/\∃d,Is X.K H d p.2/\Is X.K H d u/\d.canLay0=true/\d.depth<=60/\PyData.eqv d d=true)->W.KeqHits X.A.in1 s f c true
 |[],c,i,_=>by cases i;exact .nil
 |p::j,c,i,h=>by
  cases i with
  | @cons _ q _ U r C=>
   obtain⟨k,v⟩:=q;obtain⟨n,m⟩:=r;simp only at n m;obtain⟨u,J,d,G,E,a,Y,Q⟩:=h p qv3;obtain⟨y,z,B⟩:=fX.some_of (v:=u) (o:=valueAt f p.1) (by rw[<- J];exact l.val p.1);rw[n] at z;obtain⟨T,O⟩:=Is.reads I d p.2 v G m;obtain⟨bs,N⟩:=Is.reads I d u y E B;have e:=SeqAt.eqAt_reads d d X.A.in1 s v y T bs O N a a (by rw[Nat.min_self];lia);rw[Q] at e;exact W.KeqHits.hit z e (qc9 I L l C λp M=>h p (qvZ _ M))
def qpb{K:W5}(C:X.K=K)(w:X.A.units+64<cLine):aZ X (compareOp .Eq) (qc7 K):=by
 subst C;intro N s M H x y v u Q I l j h;rw[qc8] at h;obtain⟨a,G,D⟩:=isRef.out (x:=x) h;obtain⟨b,E,T,O,n,m,z,B,q⟩:=isRef.out (x:=y) D;subst G E;cases l;cases j;obtain⟨_,r,i,e,L⟩:=pH I.hok n;obtain⟨_,o,f,c,J⟩:=pH I.hok m;have U:X.A.in1.units<=X.A.units+1:=by first|exact qvY _|exact Nat.le_succ _
 refine W.keq_eq r o L J (qxI (qxE _ _) w) (λ_=>qc9 I ⋯ c e B) ?_;have:i.length=f.length:=by rw[e.len,c.len,z]
 rw[this,beq_self_eq_true,Bool.true_and];exact#[.bl _,H,I,rfl,q]
end
def yg(c:Qv)(a:Str):HO:=.ext λh=>h.CodeRec (.ref c) a
def TabOk(pos:Pos)(a:Str)(P:Qv)(H:Hp):Prop:=
 H P=some (.cY #[])\/∃c,H P=some (.cY [rawInt pos.line,rawInt pos.col,.ref c].toArray)/\H c=some (yg c a)
def TabOk.same(t:TabOk pos a P H)(s:Same H e):TabOk pos a P e:=by
 rcases t with t|⟨c,t,u⟩
 ·exact .inl (s _ _ t)
 ·exact .inr #[c,s _ _ t,s _ _ u]
def TabOk.but(t:TabOk pos a P H)(e:H p=some (.lst xs))(s:But p H f):TabOk pos a P f:=by
 rcases t with t|⟨c,t,u⟩
 ·exact .inl (s _ _ (g_ t e (by simp)) t)
 ·exact .inr #[c,s _ _ (g_ t e (by simp)) t,s _ _ (g_ u e (by simp[yg])) u]
def qpc(r:h.CodeRec (.ref i) a):b_ P w H h i (yg i a):=by
 refine#[r,?_,λn m l k=>?_]
 ·obtain⟨c,o,_,_,e,f,_⟩:=r;cases e;exact#[o,f]
 ·obtain⟨c,o,j,t,e,f,d⟩:=l;cases e;exact#[i,o,j,t,rfl,k o f,d]
section
variable {P:J9}{w:zX}{K:W5}{mg:Zu}{base:zf}
def qpd{A:zY}{c:List Env}{s:Zw}{H:Hp}{f z:Qv}{name h:Str}{i:Arguments}{j:zp}{a:Scope}{L m:zT}{N ps:QAH}{us:QAE}{vs:kE}{Q:VK}{k:Nat}{t:TE}(M:cB (k+1) A)(E:mK P w K mg base A c s H)(ho:s.heap.get? f=some (W.kla_obj name h i j a [] L z m))(D:s.heap.CodeRec (.ref z) h)(S:bh N ps a)(hb:bindArgs (W.kla_fn name h i j a [] L (.ref z) m) #[us,[]]=pure (ps.zip us))(r:Vals vs us)(hl:vs.length=ps.length)(Y:PE (ao aW P w K mg base N h a f (.ref z) A c s H E0) j t)(hq:t (start N vs) H Q):
  codeAny (model P w) A (.call (.ref f) #[us,[]]) (CR aW c P w H s Q E0) s:=by
 have B:s.heap.NoLimit:=E.mod.nolimit.keeps λb o e=>(E.bs b o e).1;have l:∀y∈ps.zip us,a.names.lookup y.1=some .local\/(a.names.lookup y.1=some .cell/\((cellsFrom (s.heap.objs.size+1) a.names []).lookup y.1).isSome=true):=λ⟨n,v⟩ U=>by
  rcases S.par n (List.of_mem_zip U).1 with q|q
  ·exact .inl q
  ·exact .inr #[q,W.cellsFrom_some _ _ _ (.inl q)]
 refine W.kla_callFunE M.depth ho rfl S.co S.gen rfl D ?_;rw[hb];refine qvW (wpAny_newFunctionEnv_cells S.kind l λa0 he G x=>?_);subst he;refine#[B.keeps x.toInCall.keep,W.kla_codeExpr ?_];have I:Inv (ao aW P w K mg base N h a f (.ref z) A c s H E0) [] (start N vs) H G:=Pg S M.hd E hl r x;refine qwu (Y [] G (start N vs) H _ I hq) (λu O C=>?_) λe O C=>C;obtain⟨v,H',J,T,q⟩:=C;exact#[v,H',J.os,J.bare,J.base,J.hok,T,q]
end
section
variable {X:Cx}{p_:QAC}{σ:St}{H:Hp}{s:Zw}
def qpe{M:Model}{A:zY}{E:QAB}{Q:QAB}{c P:Qv}{pos:Pos}{a:Str}{j:Arguments}{y:zp}{l:Scope}{ln:Nat}(I:Inv X p_ σ H s)(hc:X.env.code = .ref c)(C:W.CodeHd X.base c P)(hb:X.base.BuiltinsAt X.mg P)(hT:TabOk pos a P H)(a0:closureFor l X.env=pure [])(h:∀f i pm w H' s',Inv X p_ σ H' s'->But P H H'->TabOk pos a P H'->s'.heap.get? f=some (W.kla_obj "<lambda>" a j y l [] pm i w)->s.heap.objs.size<=f->f<s'.heap.objs.size->H' f=none->H' i=some (yg i a)->Q (.ref f) s'):
  wpAny M A (makeFunction "<lambda>" a j (.expr y) l X.env [] [] [] pos ln) Q E s:=by
 have hg:s.heap.Ns mainGlobals X.mg:=I.ok.mod.glob.keeps I.bk;have ab:s.heap.BuiltinsAt X.mg P:=by
  obtain⟨bm,o,h1,h2,h3,h4,h5,h6⟩:=hb;exact#[bm,o,h1,h2,h3,h4,I.bk _ _ h5,h6]
 have ae:∀{ps},H P=some (.cY ps)->mainGlobals≠P:=λB q=>by
  obtain⟨o,_,_,e,_⟩:=I.ok.mod.glob;have:=(I.bs _ _ e).2;rw[q,B] at this;cases this
 rcases hT with B|⟨i,B,aa⟩
 ·have gP:s.heap.get? P=some (W.tabObj #[]):=I.hok P _ B;refine W.kla_makeFunction (mg:=X.mg) a0 I.ok.glob hg hc (C.keeps I.bk) gP trivial rfl (ae B) ab λi w N tk hx D G Y T=>?_;have ac:(#[]:Array Value)++[rawInt pos.line,rawInt pos.col,.ref i].toArray = [rawInt pos.line,rawInt pos.col,.ref i].toArray:=by simp
  rw[ac] at T;have nP:∀{b:Qv},H b=none->b≠P:=λe z=>by rw[z,B] at e;cases e
  have nc:∀{b:Qv}{o:Obj},s.heap.get? b=some o->b≠i:=λe=>qwk (qv_ (qv2 e) D);have L:∀{b:Qv}{o:HO},H b=some o->b≠i:=λe=>qwk (qv_ (I.hok.lt e) D);have af:P≠i:=L B;have kp:∀b o,b≠P->s.heap.get? b=some o->(N.push (W.kla_obj "<lambda>" a j y l [] ((X.mg "__name__").getD .none) i w)).get? b=some o:=λb o n e=>qvV _ (hx b o n e);have O:=qvV (W.kla_obj "<lambda>" a j y l [] ((X.mg "__name__").getD .none) i w) T;have r:∀{b:Qv},b≠P->b≠i->upd (upd H P (.cY [rawInt pos.line,rawInt pos.col,.ref i].toArray)) i (yg i a) b=H b:=λn1 n2=>by rw[aN n2,aN n1]
  have Rv:upd (upd H P (.cY [rawInt pos.line,rawInt pos.col,.ref i].toArray)) i (yg i a) P=some (.cY [rawInt pos.line,rawInt pos.col,.ref i].toArray):=by rw[aN af,aB]
  have J:Inv X p_ σ (upd (upd H P (.cY [rawInt pos.line,rawInt pos.col,.ref i].toArray)) i (yg i a)) {s with heap:=N.push (W.kla_obj "<lambda>" a j y l [] ((X.mg "__name__").getD .none) i w),toks:=tk}:=by
   refine I.step (ch:=[]) (by simp) (λb o _ _ _ e n=>kp b o (nP n) e) (λb o _ _ _ e n=>#[o.slots,kp b o (nP n) e]) (λb o _ e n=>?_) (λb o _ e=>?_) (λb xs e=>?_) (λb o u e=>?_) (λb ps e=>?_) (λm hm=>?_) (λb u e=>?_) I.bare
   ·rw[r (nP n) (nc e)];exact n
   ·by_cases z:b=P
    ·exact#[_,by rw[z];exact O]
    ·exact#[o,kp b o z e]
   ·rw[r (g_ e B (by simp)) (L e)];exact e
   ·rw[r (g_ e B (by simp)) (L e)];exact e
   ·by_cases z:b=P
    ·subst z;rw[B] at e;cases e;exact#[[rawInt pos.line,rawInt pos.col,.ref i].toArray,by rw[Rv];simp]
    ·exact#[#[],by rw[r z (L e),e];simp]
   ·exact(hm.extBut hx (λz=>nP I.free z)).push _
   ·by_cases z1:b=i
    ·subst z1;rw[aB] at e;cases e;refine qpc ?_;obtain⟨c,o,vs,t,e,ho,d⟩:=Y;exact#[c,o,vs,t,e,qvV _ ho,d]
    ·by_cases z2:b=P
     ·subst z2;rw[Rv] at e;cases e;exact O
     ·rw[r z2 z1] at e;refine(I.hok b u e).stay (λd v hd q=>kp d v ?_ q) (λd q=>by rw[r (g_ q B (by simp)) (L q)];exact q) λd xs q=>by rw[r (g_ q B (by simp)) (L q)];exact q
      rcases hd with rfl|hd
      ·exact z2
      ·exact g_ hd B (by simp)
  exact h _ i _ w _ _ J (λb o n e=>by rw[r n (L e)];exact e) (.inr #[i,Rv,aB]) (qv4 _ rfl) (qv7 D (qxP G)) (by show N.objs.size<(Heap.push N _).objs.size;rw[qwD];exact qwN _)
   (by rw[r (λz=>?_) (qw_ G)];exact I.hok.fresh (qv7 D (qxP G));exact absurd (I.hok.lt B) (by rw[<- z];exact Nat.not_lt.mpr (qv7 D (qxP G)))) aB
 ·have gP:s.heap.get? P=some (W.tabObj [rawInt pos.line,rawInt pos.col,.ref i].toArray):=I.hok P _ B;refine W.kla_makeFunctionHit (mg:=X.mg) (cv:=.ref i) a0 I.ok.glob hg hc (C.keeps I.bk) gP (by simp[TriplesOk,rawInt]) (by simp[codeAmong,rawInt]) ab λw N tk hk U=>?_;exact h _ i _ w H _ (I.kept λb o e=>qvV _ (hk b o e)) (λb o _ e=>e) (.inr #[i,B,aa]) (qv4 _ rfl) U (by show N.objs.size<(Heap.push N _).objs.size;rw[qwD];exact qwN _) (I.hok.fresh U) aa
structure Rec(X:Cx)(p_:QAC)(H:Hp)(it:Qv):Prop where
 no:H it=none
 loc:it≠X.env.locals
 ab:X.s₀.heap.objs.size<=it
 cel:∀x c,X.env.cells.lookup x=some c->c≠it
 pin:∀p∈X.pn++p_,p.1≠it
def Inv.rcd(I:Inv X p_ σ H s){it:Qv}(h:s.heap.objs.size<=it):Rec X p_ H it where
 no:=I.hok.fresh h
 loc:=qw_ (qv_ I.lt h)
 ab:=qv7 I.sz h
 cel:=λx c e z=>by
  obtain⟨v,o,f,_⟩:=I.cell x c e;exact absurd (qv_ (qv2 f) h) (by rw[z];exact qwV _)
 pin:=λp a z=>by
  have:=qv2 (I.pin p a).1;exact absurd (qv_ this h) (by rw[z];exact qwV _)
def Inv.turn(I:Inv X p_ σ H s)(R:Rec X p_ H it)(k:∀b o,b≠it->s.heap.get? b=some o->h'.get? b=some o):Inv X p_ σ H {s with heap:=h',toks:=t'}:=
 I.turned k R.no R.loc (.inr R.ab) R.cel R.pin
def qda(X:Cx)(p_:QAC)(σ:St)(H:Hp)(n:Nat)(k:Int)(s:Zw)(u:zT)(a:Zw):Prop:=
 ∃t,u = .int k t/\Inv X p_ σ H a/\∀b o,n<=b->H b=none->s.heap.get? b=some o->a.heap.get? b=some o
def qpf{l q It S:Qv}{fo:Obj}{as:xQ}{n:Nat}{R:Result->Shared->Prop}{kw:List (Str×Value)}(f:Nat->Int)(hh:X.A.handled=none)(hl:∀B,Inv X p_ σ H B->B.heap.IsList l (as.map Value.ref).toArray)(af:l≠It)(L:S≠It)(Jl:q≠It)(Jm:q≠S)(nI:n<=It)(nS:n<=S)(nq:n<=q)(RI:Rec X p_ H It)(RS:Rec X p_ H S)(hq:H q=none)(turn:∀i a,as[i]? = some a->∀B,Inv X p_ σ H B->B.heap.get? q=some fo->wpAny (model X.prog X.w) X.A.in1 (call (.ref q) [.ref a]) (qda X p_ σ H n (f i) B) (λ_ _=>False) B)(hR:∀i a B,as[i]? = some a->(∀j,j<as.length->f i<=f j/\(j<i->f i<f j))->Inv X p_ σ H B->R (.ok (.ret (.ref a))) B):
  ∀(r j i:Nat)(s:Zw)(a:Qv)(tb:Tok)(c:Nat),as.length - (j+1)=r->j+1<=as.length->Inv X p_ σ H s->s.heap.get? q=some fo->
   s.heap.get? S=some (seqObj "list" [.ref a,.int (f i) tb].toArray c)->s.heap.IsListIter It l (j+1)->as[i]? = some a->i<=j->(∀y,y<=j->f i<=f y/\(y<i->f i<f y))->
   codeAny (model X.prog X.w) X.A (.builtin "min.loop" #[[.ref It,.ref q,.ref S],kw]) R s:=by
 have z:(toString "min" ++toString ".loop" : String) = "min.loop" :=by decide
 have aU:=Walks.list (prog:=X.prog) (w:=X.w) (A:=X.A.in1) hh It l af (as.map Value.ref).toArray;have O:(as.map Value.ref).toArray.size=as.length:=by simp
 intro r
 induction r with
 |zero=>
  intro j i s a tb c hr hj I ab gS J ha ah m;have ag:j+1=as.length:=⋯
  refine qw4 PySem.F.entry_min_loop ?_;rw[qwT qw6 _];show wpAny _ X.A.in1 (seqItems? (.ref S) >>= _) _ _ _;refine qvT (qw9 gS rfl ?_);show wpAny _ X.A.in1 (tryCatch (pyNext (.ref It)) _ >>= _) _ _ _;refine qvT (qxM (aU.done _ _ _ #[by rw[O,<- ag];exact J,hl s I] λh' C u=>?_));have I1:=I.turn (t':=C) RI (h':=h') λb o E e=>u b o (by simpa using E) e;have al:=u S _ (by simpa using L) gS;have M:=qw0 h' S (Obj.mapSeq λ_=>(#[]:Array Value));show wpAny _ X.A.in1 (updateSeq S (λ_=>#[]) >>= _) _ _ _;refine qvT ?_;refine qxy al rfl (qvT (wpAny_letGo (qvW ?_)));exact hR i a _ ha (λy a0=>m y ⋯) (I1.turn (t':=C) RS λb o E e=>(M.2 b E).trans e)
 |succ r ih=>
  intro j i s a tb c hr hj I ab gS J ha ah m;have G:j+1<as.length:=∅
  refine qw4 PySem.F.entry_min_loop ?_;rw[qwT qw6 _];show wpAny _ X.A.in1 (seqItems? (.ref S) >>= _) _ _ _;refine qvT (qw9 gS rfl ?_);show wpAny _ X.A.in1 (tryCatch (pyNext (.ref It)) _ >>= _) _ _ _;refine qvT (qxM (aU.item (j+1) _ _ _ (by rw[O];exact G) #[J,hl s I] λv h' C hP Q u=>?_));obtain⟨a2,ae,hv⟩:∃a2,as[j+1]? = some a2/\Value.ref a2=v:=by simpa using hP
  subst hv;obtain⟨N,Y,U,T⟩:=id Q.1;have I1:=I.turn (t':=C) RI (h':=h') λb o E e=>u b o (by simpa using E) e;have Rw:=u S _ (by simpa using L) gS;have Ek:=u q _ (by simpa using Jl) ab;show wpAny _ X.A.in1 (tryCatch (holding [.ref a2] (call (.ref q) [.ref a2])) _ >>= _) _ _ _;refine qvT (qxM (qwL (qwu (turn (j+1) a2 ae _ I1 Ek) (λx s2 he=>?_) λ_ _ hF=>hF.elim)));obtain⟨D,rfl,I2,kp⟩:=he;have Az:=kp S _ nS RS.no Rw;have Jo:=kp It _ nI RI.no Y;have Jp:=kp q _ nq hq Ek;have aa:s2.heap.IsListIter It l (j+1+1):=#[N,Jo,U,T];show wpAny _ X.A.in1 (tryCatch (holding [.ref a2,.int (f (j+1)) D] (richCompare .Lt (.int (f (j+1)) D) (.int (f i) tb) >>= _)) _ >>= _) _ _ _;refine qvT (qxM (qwL (qvT (CmpOf.ints_lt (prog:=X.prog) (w:=X.w) (A:=X.A.in1) (P:=λi v=>∃t,v = .int (f i) t) f (λi v h=>h) (j+1) i _ _ _ _ _ #[D,rfl] #[tb,rfl] ?_))));refine qvT (qwL (qwS ?_));refine qvT (wpAny_letGo (qvW ?_))
  by_cases ac:f (j+1)<f i
  ·have M:=qw0 s2.heap S (Obj.mapSeq λ_=>[.ref a2,.int (f (j+1)) D].toArray);obtain⟨c2,ai⟩:∃c2,(s2.heap.update S (Obj.mapSeq λ_=>[.ref a2,.int (f (j+1)) D].toArray)).get? S=some (seqObj "list" [.ref a2,.int (f (j+1)) D].toArray c2):=#[_,get?_update_seq Az λ_=>[.ref a2,.int (f (j+1)) D].toArray];simp only[ac,decide_true,if_true];refine qvT ?_;refine qxy Az rfl (qvT (wpAny_letGo ?_));rw[z];refine qvW #[qxD qw6 _,ih (j+1) (j+1) _ a2 D c2 ∅ G (I2.turn (t':=s2.toks) RS λb o E e=>(M.2 b E).trans e) ((M.2 q Jm).trans Jp) ai #[N,(M.2 It L.symm).trans Jo,U,T] ae (qvY _) λy a0=>?_]
   by_cases e:y=j+1
   ·subst e;exact#[Int.le_refl _,λh=>absurd h (qwV _)]
   ·have am:=(m y ⋯).1;exact#[⋯,λ_=>by lia]
  ·simp only[ac,decide_false,Bool.false_eq_true,if_false];refine qvT (wpAny_letGo ?_);rw[z];refine qvW #[qxD qw6 _,ih (j+1) i _ a tb c ∅ G I2 Jp Az aa ha ⋯ λy a0=>?_]
   by_cases e:y=j+1
   ·subst e;exact#[⋯,λ_=>by lia]
   ·exact m y ∅
def qpg(a v u:zT):argsOk "min" #[[a],[(Str.ofString "key",v),(Str.ofString "default",u)]]:=by unfold argsOk;kernel_rfl
def qph{Q:QAB}{l q:Qv}{fo:Obj}{as:xQ}{n:Nat}(u:Nat->Int)(hh:X.A.handled=none)(I:Inv X p_ σ H s)(hl:au X.K H l (as.map V.ref))(hn:n<=s.heap.objs.size)(nq:n<=q)(hq:H q=none)(ae:s.heap.get? q=some fo)(turn:∀i a,as[i]? = some a->∀m,Inv X p_ σ H m->m.heap.get? q=some fo->wpAny (model X.prog X.w) X.A.in1 (call (.ref q) [.ref a]) (qda X p_ σ H n (u i) m) (λ_ _=>False) m)(ap:as=[]->∀m,Inv X p_ σ H m->Q .none m)(hQ:∀i a m,as[i]? = some a->(∀j,j<as.length->u i<=u j/\(j<i->u i<u j))->Inv X p_ σ H m->Q (.ref a) m):
  wX X (call (.builtin "min") [.ref l] [(Str.ofString "key",.ref q),(Str.ofString "default",.none)]) Q X.xe s:=by
 have B:(toString "min" ++toString ".loop" : String) = "min.loop" :=by decide
 have M:∀{bs:xQ}{z:QAE},Vals (bs.map V.ref) z->z=bs.map Value.ref:=λ{bs}=>by
  induction bs with
  |nil=>intro z r;cases r;rfl
  |cons b bs ih=>intro z r;cases r with|cons x y=>rw[ih y];cases x;rfl
 have c:∀m,Inv X p_ σ H m->m.heap.IsList l (as.map Value.ref).toArray:=λm J=>by
  obtain⟨z,rv,pl,_⟩:=J.list hl;rw[<- M rv];exact pl.isList
 have ab:=c _ I;obtain⟨ol,ah,_⟩:=id ab;have am:l<s.heap.objs.size:=qv2 ah;refine kmk_tree PySem.F.kind_min PySem.F.plain_min PySem.F.entry_min (qpg _ _ _) ?_;show wpAny _ X.A.in1 (Builtin.Builtins.bindParams "min" ["key", "default"] 0 #[[],[(Str.ofString "key",.ref q),(Str.ofString "default",.none)]] >>= _) _ _ s;refine qvT (wpAny_of_eq (show Builtin.Builtins.bindParams "min" ["key", "default"] 0 #[[],[(Str.ofString "key",.ref q),(Str.ofString "default",.none)]]=pure [some (.ref q),some .none] from rfl) ?_);refine qvT (qvW ?_);refine qvT (qyh ab ?_);refine qvT (wpAny_newList ?_ (qwF _));rw[B];generalize E:({cls:=.type "list_iterator",data:=.fields [.ref l,.int 0 0].toArray}:Obj)=f;have hS:(s.heap.push f).objs.size=s.heap.objs.size+1:=size_push' ..;have RI:Rec X p_ H s.heap.objs.size:=I.rcd (qvY _);have RS:Rec X p_ H (s.heap.push f).objs.size:=I.rcd (by rw[hS];exact Nat.le_succ _);have ac:l≠s.heap.objs.size:=qwk am;have G:(s.heap.push f).objs.size≠s.heap.objs.size:=by rw[hS];exact qw_ (qwN _)
 have pX:q<s.heap.objs.size:=qv2 ae;have Jl:q≠s.heap.objs.size:=qwk pX;have Jm:q≠(s.heap.push f).objs.size:=by rw[hS];exact qwk (qxQ pX)
 refine qvW #[qxD qw6 _,?_];have IH:∀tk,Inv X p_ σ H {s with heap:=(s.heap.push f).push (seqObj "list" #[] 0),toks:=tk}:=λtk=>I.kept λb x e=>qvV _ (qvV _ e);have gI:((s.heap.push f).push (seqObj "list" #[] 0)).get? s.heap.objs.size=some f:=qvV _ (qv4 _ (by rw[<- E];rfl));have gS:((s.heap.push f).push (seqObj "list" #[] 0)).get? (s.heap.push f).objs.size=some (seqObj "list" #[] 0):=qv4 _ rfl;have gq:((s.heap.push f).push (seqObj "list" #[] 0)).get? q=some fo:=qvV _ (qvV _ ae);have aU:=Walks.list (prog:=X.prog) (w:=X.w) (A:=X.A.in1) hh s.heap.objs.size l ac (as.map Value.ref).toArray;have T:(as.map Value.ref).toArray.size=as.length:=by simp
 refine qw4 PySem.F.entry_min_loop ?_;rw[qwT qw6 _];show wpAny _ X.A.in1 (seqItems? (.ref _) >>= _) _ _ _;refine qvT (qw9 gS rfl ?_);show wpAny _ X.A.in1 (tryCatch (pyNext (.ref s.heap.objs.size)) _ >>= _) _ _ _;have N:((s.heap.push f).push (seqObj "list" #[] 0)).IsListIter s.heap.objs.size l 0:=#[_,gI,by rw[<- E],by rw[<- E];rfl];cases has:as with
 |nil=>
  refine qvT (qxM (aU.done _ _ _ #[by rw[T,has];exact N,c _ (IH _)] λh' D C=>?_));have I1:=(IH s.toks).turn (t':=D) RI (h':=h') λb o O e=>C b o (by simpa using O) e;refine qvT (qxF (qvW ?_));exact ap has _ I1
 |cons a0 aw=>
  have aa:0<as.length:=by rw[has];simp
  have av:as[0]? = some a0:=by rw[has];rfl
  refine qvT (qxM (aU.item 0 _ _ _ (by rw[T];exact aa) #[N,c _ (IH _)] λv h' D hP U C=>?_));obtain⟨a2,af,hv⟩:∃a2,as[0]? = some a2/\Value.ref a2=v:=by simpa using hP
  subst hv;obtain⟨ag,Y,al,ai⟩:=id U.1;have I1:=(IH s.toks).turn (t':=D) RI (h':=h') λb o O e=>C b o (by simpa using O) e;have Rw:=C _ _ (by simpa using G) gS;have Ek:=C q _ (by simpa using Jl) gq;show wpAny _ X.A.in1 (tryCatch (holding [.ref a2] (call (.ref q) [.ref a2])) _ >>= _) _ _ _;refine qvT (qxM (qwL (qwu (turn 0 a2 af _ I1 Ek) (λx s2 he=>?_) λ_ _ hF=>hF.elim)));obtain⟨L,rfl,I2,kp⟩:=he;have nI:n<=s.heap.objs.size:=hn;have nS:n<=(s.heap.push f).objs.size:=by rw[hS];exact Nat.le_succ_of_le hn
  have Az:=kp _ _ nS RS.no Rw;have Jo:=kp _ _ nI RI.no Y;have Jp:=kp q _ nq hq Ek;have s1:=qw0 s2.heap (s.heap.push f).objs.size (Obj.mapSeq λ_=>[.ref a2,.int (u 0) L].toArray);obtain⟨c2,an⟩:∃c2,(s2.heap.update (s.heap.push f).objs.size (Obj.mapSeq λ_=>[.ref a2,.int (u 0) L].toArray)).get? (s.heap.push f).objs.size=some (seqObj "list" [.ref a2,.int (u 0) L].toArray c2):=#[_,get?_update_seq Az λ_=>[.ref a2,.int (u 0) L].toArray];show wpAny _ X.A.in1 (updateSeq (s.heap.push f).objs.size (λ_=>[.ref a2,.int (u 0) L].toArray) >>= _) _ _ _;refine qvT ?_;refine qxy Az rfl ?_;rw[B];refine qvW #[qxD qw6 _,qpf u hh c ac G Jl Jm nI nS nq RI RS hq turn hQ _ 0 0 _ a2 L c2 rfl aa (I2.turn (t':=s2.toks) RS λb o O e=>(s1.2 b O).trans e) ((s1.2 q Jm).trans Jp) an #[ag,(s1.2 _ G.symm).trans Jo,al,ai] af (qvY _) λj' ar=>?_];have e:j'=0:=⋯
  subst e;exact#[Int.le_refl _,λh=>absurd h (qwV _)]
end
def au.Rx{K:W5}{H e:Hp}{P a:Qv}{xs:kE}{ps:qx}(h:au K H a xs)(c:H P=some (.cY ps))(b:But P H e):au K e a xs:=by
 rcases h with(h|⟨o,h⟩)|h
 ·exact .inl (.inl (b _ _ (g_ h c (by simp)) h))
 ·exact .inl (.inr #[o,b _ _ (g_ h c (by simp)) h])
 ·exact .inr h
def aQ.Rx{K:W5}{H e:Hp}{P a:Qv}{xs:kE}{ps:qx}(h:aQ K H a xs)(c:H P=some (.cY ps))(b:But P H e):aQ K e a xs:=by
 rcases h with(h|⟨o,h⟩)|h
 ·exact .inl (.inl (b _ _ (g_ h c (by simp)) h))
 ·exact .inl (.inr #[o,b _ _ (g_ h c (by simp)) h])
 ·exact .inr h
def TabOk.tb(t:TabOk pos a P H):∃ps,H P=some (.cY ps):=by
 rcases t with t|⟨c,t,_⟩
 ·exact#[_,t]
 ·exact#[_,t]
abbrev qpi(a:Pos):Arguments:={posonlyargs:=[],args:=[{arg:= "row",annotation:=none,pos:=a}],vararg:=none,kwonlyargs:=[],kw_defaults:=[],kwarg:=none,defaults:=[]}
abbrev qdc:Scope:={kind:=.function,names:=[(Str.ofString "row",.local)],isGenerator:=false,isCoroutine:=false,more:=[]}
@[simp] def qpj(K:W5)(pos:Pos)(c:Str)(P:Qv)(t:TA):TE:=λn H Q=>t n H λo m=>ar1 o λx=>isRef x λl=>TabOk pos c P m/\∃(h:xQ)(f:Nat->Int),au K m l (h.map V.ref)/\
 (∀i a,h[i]? = some a->∃r,aQ K m a (V.int (f i)::r))/\(h=[]->∀e,But P m e->TabOk pos c P e->Q .non e)/\
 ∀i a,h[i]? = some a->(∀j,j<h.length->f i<=f j/\(j<i->f i<f j))->∀e,But P m e->TabOk pos c P e->Q (.ref a) e
def qpk:bh ["row"] ["row"] qdc:=#[rfl,rfl,rfl,by decide,rfl,by decide,by decide]
def qpl{K:W5}{k:Nat}{c P:Qv}{e:zp}{t:TA}{p pos lp ap np cp sp kp Y dp:Pos}{j j2:Nat}{m:Str}(hK:X.K=K)(hr:cB (k+2) X.A)(hc:X.env.code = .ref c)(C:W.CodeHd X.base c P)(J:X.base.BuiltinsAt X.mg P)(hg:Gl X "min")(hm:X.mg "min" = none)(ha:PA X [e] t)(aa:X.env.qual++ "<lambda>" = m)(he:starEach [e] X.env=[(false,eval e X.env)]:=by rfl):
  PE X (.Call (.Name "min" p) [e] [#[some "key",.Lambda (qpi ap) (.Subscript (.Name "row" np) (.Constant (.int 0) j cp) sp) qdc lp,kp],#[some "default",.Constant .none j2 dp,Y]] pos) (qpj K lp m P t):=by
 subst hK aa;intro p_ s σ H Q I h;refine qwO (lB I hg hm boot_min ?_);refine callWith_kw (aD (ha pos p_ s σ H _ I h) λus s1 zz=>?_) (by rw[he];rfl) (by rw[he];rfl);obtain⟨vs,H1,I1,r1,q1⟩:=zz;obtain⟨x,rfl,q2⟩:=ar1.out q1;obtain⟨l,e1,hT,as,M,hl,E,q0,qq⟩:=isRef.out (x:=x) q2;subst e1;obtain⟨u,rfl,ru⟩:=r1.one;obtain rfl:u=Value.ref l:=ru;refine kws_cons (W.kla_eval rfl ?_);refine qpe I1 hc C J hT rfl λf c' pm ag B s2 I2 O L hf G ac ab af=>?_;refine kws_cons (Constant_none (kws_nil ?_));show wpAny _ X.A (call (.builtin "min") [.ref l] [(Str.ofString "key",.ref f),(Str.ofString "default",.none)]) _ _ s2;obtain⟨ps,hP⟩:=hT.tb;have w:∀b∈frs X.stack,b<s1.heap.objs.size:=λb J=>by
  obtain⟨_,o,ho,_⟩:=I1.stack.mem J;exact qv2 ho
 refine qph M hr.hd I2 (hl.Rx hP O) (n:=s1.heap.objs.size) (qv7 G (qxP ac)) G ab hf (λi a hi T y ae=>?_) (λh0 T y=>#[.non,B,y,rfl,q0 h0 B O L]) λi a T hi Dv y=>#[.ref a,B,y,rfl,qq i a hi Dv B O L];obtain⟨r,a0⟩:=E i a hi;have U:=a0.Rx hP O;have run:=qpd (Q:=λv H'=>v = .int (M i)/\H'=B) (vs:=[.ref a]) (us:=[.ref a]) (N:=["row"]) (ps:=["row"]) (k:=k) hr.in1 y.env0.in1 ae (y.hok c' _ af).1 qpk rfl (.cons rfl .nil) rfl
  (bQ (bT (K:=X.K) rfl) (pv 0) aH (λ_ _=>rfl)) #[.ref a,rfl,?_]
 ·refine qx3 (qwQ run λr s4 D=>?_);cases r with
  |error e=>exact D.elim
  |ok fl=>
   cases fl with
   |next=>exact False.elim D
   |brk=>exact False.elim D
   |cont=>exact False.elim D
   |ret u=>
    have un:Un (frs X.stack) [] B B T.heap s4.heap:=by
     obtain⟨v,H',_,_,un,_,_,_,rfl⟩:=D;exact un
    obtain⟨v,H',I4,rv,rfl,rfl⟩:=y.after D;obtain⟨t,rfl⟩:=rv;exact#[t,rfl,I4,λb o hn J e=>un.keep b o e J (λz=>absurd (w b z) (Nat.not_lt.mpr hn)) (by simp)]
 ·exact#[V.int (M i)::r,.inr U,V.int (M i),by simp[gM,pC],rfl,rfl]
@[simp] def qvt(K:W5)(d:Int)(t:TA):TE:=λe H Q=>t e H λf c=>ar1 f λx=>isRef x λl=>∃a:List Int,au K c l (a.map V.int)/\(a=[]->Q (.int d) c)/\∀m,m∈a->(∀x∈a,m<=x)->Q (.int m) c
end L2
namespace L2
open PySem
def rK(T:List bL)(h:Str)(a:qw)(R:BR):BR:=T.foldl (λR s=>if s.2.1=h/\¬s.2.2∈R.map (·.1) then R++[(s.2.2,a++[s.1])] else R) R
def lX(S:List bL)(a:Str):Nat->BR
 |0=>[(a,[])]
 |n+1=>match (lX S a n)[n]? with
  |some x=>rK S x.1 x.2 (lX S a n)
  |none=>lX S a n
def qpn(T:List bL)(s:bL)(h:Str)(a:qw)(R:BR):rK (T++[s]) h a R=if s.2.1=h/\¬s.2.2∈(rK T h a R).map (·.1) then rK T h a R++[(s.2.2,a++[s.1])] else rK T h a R:=by
 unfold rK;rw[List.foldl_append];rfl
def qpo(e:(lX S a n)[n]? = some (h,c)):lX S a (n+1)=rK S h c (lX S a n):=by
 show(match (lX S a n)[n]? with|some x=>rK S x.1 x.2 (lX S a n)|none=>lX S a n)=_
 rw[e]
def qdd(S:List bL)(a:Str)(R:BR):Prop:=lX S a R.length=R
def pY(H:Hp)(kvs:List (Key×V)):Prop:=∀a∈kvs,∀p,a.2 = .ref p->H p=none
theorem pY.at(h:pY H kvs)(e:dI kvs k=some (.ref p)):H p=none:=by
 unfold dI at e;cases c:kvs.find? λa=>decide (a.1=k) with
 |none=>rw[c] at e;cases e
 |some a=>
  rw[c] at e;exact h a (List.mem_of_find?_eq_some c) p (qwt e)
def pY.snoc(h:pY H kvs)(f:H p=none):pY H (kvs++[(k,.ref p)]):=by
 intro e a q c
 rcases qwc.mp a with z|z
 ·exact h e z q c
 ·simp at z;subst z;cases c;exact f
theorem Jq:∀(ns:qZ)(ps:QAD)(k j:Nat)(s:bL),(dB ns ps k)[j]? = some s↔∃n e,ns[j]? = some n/\ps[j]? = some e/\s=(k+j,jA n e,fj n e)
 |[],ps,k,j,s=>by simp[dB]
 |n::ns,[],k,j,s=>by simp[dB]
 |n::ns,e::ps,k,0,s=>by simp[dB,eq_comm]
 |n::ns,e::ps,k,j+1,s=>by
  rw[dB,qxe,Jq ns ps (k+1) j s];simp only[qxe,show k+1+j=k+(j+1) by lia]
def El{ns:qZ}{ps:QAD}{s:bL}:s∈dB ns ps 0↔∃j n e,ns[j]? = some n/\ps[j]? = some e/\s=(j,jA n e,fj n e):=by
 rw[qxm];constructor
 ·rintro⟨j,h⟩;obtain⟨n,e,f,c,a⟩:=(Jq ns ps 0 j s).mp h;exact#[j,n,e,f,c,by rw[a,qxq]]
 ·rintro⟨j,n,e,f,c,a⟩;exact#[j,(Jq ns ps 0 j s).mpr #[n,e,f,c,by rw[a,qxq]]]
theorem qde:∀(ns:qZ)(ps:QAD)(k:Nat),ns.length=ps.length->(dB ns ps k).length=ps.length
 |[],[],k,_=>rfl
 |[],_::_,k,h=>by simp at h
 |_::_,[],k,h=>by simp at h
 |n::ns,e::ps,k,h=>by rw[dB,qwj,qde ns ps (k+1) (by simpa using h),qwj]
def qpp(S:List bL)(f:QAH):Prop:=∀s∈S,s.2.1∈f->s.2.2∈f
structure Rch(S:List bL)(x:Str)(f:QAH):Prop where
 st:x∈f
 nd:f.Nodup
 rt:∀y∈f,RT (jk S) x y
structure qvu(S T:List bL)(x:Str)(f0 f:QAH):Prop where
 r0:f0.Nodup
 r:Rch S x f
 sub:∀y∈f0,y∈f
 le:f0.length<=f.length
 md:∀s∈T,s.2.1∈f0->s.2.2∈f
 cl:qpp S f0->f=f0
def qpq{m:Nat}(h:1<=m):(0:Int)<m:=⋯
def Jr{m b:Nat}{c:Int}(h:m<=b)(a:(b:Int)<c):(m:Int)<c:=⋯
def zlo(h:0<=f): -4611686018427387904<=f:=⋯
def zhi{f c:Int}(h:f<c)(a:c<=4611686018427387904):f<4611686018427387904:=Int.lt_of_lt_of_le h a
def qpr{f:Nat}: -4611686018427387904<=(f:Int):=⋯
def ztn{d:Int}{m b:Nat}(c:0<=d)(h:d<m)(a:m<=b):d.toNat+1<=b:=⋯
def qps(h:0<=d)(c:Int):c+d=max d 0+c:=⋯
def yj(h:a<b)(c:b<=20):a<sizeLine:=qv_ h (qv7 c (qxz lK))
def qpt(h:a<=b)(c:b<=20):a<=sizeLine:=qv7 h (qv7 c (qxz lK))
def z01{d:Int}(h:0<=d)(a:d<2):d=0\/d=1:=⋯
def z2{n:Nat}(h:(1:Int)<n):2<=n:=⋯
def zk1{k t:Nat}(h:t<=k):(0:Int)<k - t+1:=⋯
def zk2{k t:Nat}{c:Int}(h:k<=20)(a:21<c):(k:Int) - t+1<c:=⋯
def zk3{f:Int}{k t p:Nat}(a:0<=f)(h:f<k - t+1)(e:t=p):p+f.toNat<=k+0:=⋯
def zk4(e:t=p)(h:p+f<=k+i)(c:i<f)(a:k<=20):t<sizeLine:=by
 have:=qxz lK;lia
def zk5(h:p+f<=k+i)(c:i<f)(a:k<=20):p<=19:=⋯
def zk6(h:p+f<=k+i):p+1+f<=k+(i+1):=⋯
def zk7{p f k:Nat}(h:p+f<=k+f):p<=k:=Nat.le_of_add_le_add_right h
def qpu{lo i n:Nat}(h:i<n - lo):lo+i<n:=∅
def zn1{b i:Nat}:0<=((b:Int)+5 * i) % 26:=⋯
def zn2{b i:Nat}:((b:Int)+5 * i) % 26<26:=⋯
def zn3{b i c:Nat}(h:((b:Int)+5 * i) % 26=c):c=(b+5 * i) % 26:=⋯
def zn4{j y:Nat}{e:Int}(h:j<e.toNat)(c:e<4)(a:y=j):y<sizeLine:=by
 have:=qxz lK;lia
def zn5{y:Nat}{e:Int}(h:y=e.toNat)(a:e<4):y+y * 0<=16777216:=⋯
def zn6{y:Nat}{e:Int}(h:y=e.toNat)(a:e<4):1+y<=4:=⋯
def zn7(e:i<w)(c:j<w)(a:i<j)(hw:w<=9)(z:(b+5 * j) % 26=(b+5 * i) % 26):False:=⋯
def zn8(h:¬j<w)(a:j - w=0):j=w:=⋯
def zpa(c:Int):0<=if 1000000000000000000<c then c - 1000000000000000000 else 0:=by split <;> lia
def zpb(c:Int)(k:Nat):0<=c % 2147483629+977 * (k:Int)+1:=⋯
def zpc(c:Int){k:Nat}(h:k<100):c % 2147483629+977 * (k:Int)+1<4294967296:=⋯
def zs1(h:s<=2 * i+1)(c:i<t)(e:t=p)(a:p<=20):s<sizeLine:=by
 have:60<sizeLine:=by decide
 lia
def zs2(h:s<=2 * i+1):s+1<=2 * (i+1):=⋯
def zs3(h:s<=2 * t)(e:t=p)(a:p<=20):s<=40:=⋯
end L2
namespace L2
open PySem PySem.Spec PyProof.Rows
@[simp] def fDP(K:W5):List V->Hp->VK->Prop:=λe H Q=>ar1 e λx=>isRef x λl=>∃c,au K H l c/\∃a,qo_ H c a/\(a.map (·.1)).Nodup/\∀p,H p=none->Q (.ref p) (upd H p (.dK (sKV a)))
@[simp] def qvv:List V->Hp->VK->Prop:=λe H Q=>ar1 e λx=>isRef x λa=>∃c,H a=some (.dK c)/\Q (.int c.length) H
def qpv(ks:List (List Key×V)):List (List Key×V):=ks.foldl (λa e=>putK a e.1 e.2) []
def qpw(H:Hp)(a:kE)(ks:List (List Key×V)):Prop:=a.length=ks.length/\∀(i:Nat)(e:List Key×V),ks[i]? = some e->∃t b,a[i]? = some (.ref t)/\H t=some (.tup [.ref b,e.2])/\H b=some (.tup (e.1.map kV))
@[simp] def fDT(K:W5):List V->Hp->VK->Prop:=λe H Q=>ar1 e λx=>isRef x λl=>∃a,au K H l a/\∃c,qpw H a c/\∀p,H p=none->Q (.ref p) (upd H p (.dT (qpv c)))
def qdf:Key->PyData
 |.inl i=>.int i
 |.inr x=>.str x
inductive Em:List (List Key×V)->List (PyData×PyData)->Prop
 |nil:Em [] []
 |cons {k v d ks kvs}:Lf v d->Em ks kvs->Em ((k,v)::ks) ((.tuple (k.map qdf),d)::kvs)
def En(H:Hp)(a:Qv)(kvs:List (PyData×PyData)):Prop:=(∃c,xZ c kvs/\H a=some (.dK (c.map λe=>((Sum.inr e.1:Key),e.2))))\/∃c,Em c kvs/\H a=some (.dT c)
def En.same(s:Same H i)(h:En H a kvs):En i a kvs:=by
 rcases h with⟨c,f,e⟩|⟨c,f,e⟩
 ·exact .inl #[c,f,s _ _ e]
 ·exact .inr #[c,f,s _ _ e]
theorem qdg:∀{ks:List Key}{us:QAE},Vals (ks.map kV) us->ReadsAll h us (ks.map qdf) []
 |[],_,r=>by rw[qx7] at r;cases r;exact .nil
 |k::ks,_,r=>by
  rw[qwd] at r;cases r with
  |cons a c=>
   refine ReadsAll.cons (as:=[]) (bs:=[]) ?_ (qdg c);cases k with
   |inl i=>obtain⟨t,rfl⟩:=a;exact .int i t
   |inr x=>obtain⟨t,rfl⟩:=a;exact .str x t
theorem qdh(ok:cP P w H h):∀{ks:List (List Key×V)}{kvs:List (PyData×PyData)}{xs:List (List Key×Addr×Value)},Em ks kvs->KT H ks xs->
  ReadsAll h ((xs.map (entryOfKey (tupleKind (cU P w)))).map (·.key)) (kvs.map (·.1)) []/\ReadsAll h ((xs.map (entryOfKey (tupleKind (cU P w)))).map (·.val)) (kvs.map (·.2)) []
 |_,_,_,.nil,a=>by
  cases a;exact#[.nil,.nil]
 |_,_,_,.cons (k:=k) l m,a=>by
  cases a with
  | @cons _ q _ C r i=>
   obtain⟨y,v⟩:=qdh ok m i;obtain⟨j,e,c⟩:=r;simp only at j e c;obtain⟨_,u,f,o,B,A,n,z⟩:=(show b_ P w H h _ (.tup _) from ok _ _ e);simp only[qwd];refine#[ReadsAll.cons (as:=[]) (bs:=[]) ?_ y,ReadsAll.cons (as:=[]) (bs:=[]) ?_ v]
   ·exact Reads.tuple B A z (by simpa using qdg f)
   ·exact l.reads c
def Ry(ok:cP P w H h)(l:En H a kvs):Reads h (.ref a) (.dict kvs) [a]/\(a == sysModules)=false:=by
 rcases l with⟨v,e,c⟩|⟨v,e,c⟩
 ·exact qcZ ok e c
 ·obtain⟨_,y,z,u,o,C,D,r,n,m,j,B,A⟩:=qa3 ok c;obtain⟨i,f⟩:=qdh ok e u;rw[<- j] at i f;exact#[Reads.dict (as:=[]) (bs:=[]) r n.1 m i f,y]
mutual
def aV(H:Hp):PyData->V->Prop
 |.none,v=>v = .non
 |.bool b,v=>v = .bl b
 |.int i,v=>v = .int i
 |.str x,v=>v = .str x
 |.list f,v=>∃a c,v = .ref a/\H a=some (.lst c)/\cD H f c
 |.tuple f,v=>∃a c,v = .ref a/\H a=some (.tup c)/\cD H f c
 |.dict e,v=>∃a,v = .ref a/\En H a e
def cD(H:Hp):List PyData->List V->Prop
 |[],a=>a=[]
 |d::c,a=>∃v r,a=v::r/\aV H d v/\cD H c r
end
mutual
theorem aV.same(s:Same H H'):∀(d:PyData)(v:V),aV H d v->aV H' d v
 |.none,v,h=>by simp only[aV] at h⊢;exact h
 |.bool b,v,h=>by simp only[aV] at h⊢;exact h
 |.int i,v,h=>by simp only[aV] at h⊢;exact h
 |.str x,v,h=>by simp only[aV] at h⊢;exact h
 |.list l,v,h=>by
  simp only[aV] at h⊢;obtain⟨a,c,e,f,j⟩:=h;exact#[a,c,e,s _ _ f,cD.same s l c j]
 |.tuple l,v,h=>by
  simp only[aV] at h⊢;obtain⟨a,c,e,f,j⟩:=h;exact#[a,c,e,s _ _ f,cD.same s l c j]
 |.dict m,v,h=>by
  simp only[aV] at h⊢;obtain⟨a,e,f⟩:=h;exact#[a,e,f.same s]
theorem cD.same(s:Same H H'):∀(ds:List PyData)(vs:kE),cD H ds vs->cD H' ds vs
 |[],vs,h=>by simp only[cD] at h⊢;exact h
 |d::ds,vs,h=>by
  simp only[cD] at h⊢;obtain⟨v,r,e,c,a⟩:=h;exact#[v,r,e,aV.same s d v c,cD.same s ds r a]
end
theorem cD.length:∀{a:List PyData}{xs:kE},cD H a xs->a.length=xs.length
 |[],_,h=>by simp only[cD] at h;subst h;rfl
 |d::a,_,h=>by
  simp only[cD] at h;obtain⟨v,r,rfl,e,c⟩:=h;simp[cD.length c]
section
variable {X:Cx}{p_:QAC}{σ:St}{H:Hp}{s:Zw}
mutual
theorem aV.reads(I:Inv X p_ σ H s):∀(d:PyData)(v:V)(u:zT),aV H d v->RelV v u->∃as,Reads s.heap u d as
 |.none,v,u,h,r=>by
  simp only[aV] at h;subst h;cases r;exact#[_,.none]
 |.bool b,v,u,h,r=>by
  simp only[aV] at h;subst h;cases r;exact#[_,.bool b]
 |.int i,v,u,h,r=>by
  simp only[aV] at h;subst h;obtain⟨t,rfl⟩:=r;exact#[_,.int i t]
 |.str x,v,u,h,r=>by
  simp only[aV] at h;subst h;obtain⟨t,rfl⟩:=r;exact#[_,.str x t]
 |.list B,v,u,h,r=>by
  simp only[aV] at h;obtain⟨a,j,rfl,z,y⟩:=h;cases r;obtain⟨f,l,w,D⟩:=I.list (au.of z);obtain⟨o,e,c,n,A⟩:=w.isList;obtain⟨as,m⟩:=cD.reads I B j f y l;exact#[_,.list e c A (by simpa using m)]
 |.tuple B,v,u,h,r=>by
  simp only[aV] at h;obtain⟨a,j,rfl,z,y⟩:=h;cases r;obtain⟨f,l,w,D⟩:=I.tuple (aQ.of z);obtain⟨o,e,c,n,A⟩:=w;obtain⟨as,m⟩:=cD.reads I B j f y l;exact#[_,.tuple e c A (by simpa using m)]
 |.dict C,v,u,h,r=>by
  simp only[aV] at h;obtain⟨a,rfl,E⟩:=h;cases r;exact#[_,(Ry I.hok E).1]
theorem cD.reads(I:Inv X p_ σ H s):∀(ds:List PyData)(vs:kE)(us:QAE),cD H ds vs->Vals vs us->∃as,ReadsAll s.heap us ds as
 |[],vs,us,h,r=>by
  simp only[cD] at h;subst h;cases r;exact#[_,.nil]
 |d::ds,vs,us,h,r=>by
  simp only[cD] at h;obtain⟨v,a,rfl,l,j⟩:=h;cases r with
  |cons i f=>
   obtain⟨as,e⟩:=aV.reads I d v _ l i;obtain⟨bs,c⟩:=cD.reads I ds a _ j f;exact#[_,.cons e c]
end
mutual
theorem aV.m5(I:Inv X p_ σ H s):∀(d:PyData)(v:V)(u:zT),aV H d v->RelV v u->d.showable=true->d.shown.length<=sizeLine->
  ∃bs,ReadAtMost s.heap d.depth bs/\ReprK X.prog X.w bs s.heap d.depth u d.shown
 |.none,v,u,h,r,A,m=>by
  obtain⟨G,f⟩:=aV.reads I _ v u h r;exact qxY f A (qxS rfl) m
 |.bool b,v,u,h,r,A,m=>by
  obtain⟨G,f⟩:=aV.reads I _ v u h r;exact qxY f A (qxS rfl) m
 |.int i,v,u,h,r,A,m=>by
  obtain⟨G,f⟩:=aV.reads I _ v u h r;exact qxY f A (qxS rfl) m
 |.str x,v,u,h,r,A,m=>by
  obtain⟨G,f⟩:=aV.reads I _ v u h r;exact qxY f A (qxS rfl) m
 |.list C,v,u,h,r,A,m=>by
  obtain⟨G,f⟩:=aV.reads I (.list C) v u h r;simp only[aV] at h;obtain⟨a,N,rfl,U,j⟩:=h;cases r;obtain⟨B,J,O,IV⟩:=I.list (au.of U);obtain⟨o,e,c,n,M⟩:=O.isList;have Q:(listText (PyData.shownAll C)).length<=sizeLine:=by simpa only[PyData.shown] using m
  obtain⟨bs,E,L⟩:=cD.m5 I C N B j J (by simpa [PyData.showable] using A) (λt T=>qv7 (listText_mem_le T) Q);have D:a∉bs:=qyk f (by simp only[PyData.depth];exact qwN _) E;refine#[a::bs,ReadAtMost.cons f (by simp only[PyData.depth];lia) E,?_];simp only[PyData.depth,PyData.shown];cases B with
  |nil=>
   cases J;have e2:C=[]:=qwK j.length;subst e2;simp only[PyData.shownAll,listText_nil];exact ReprK.listEmpty e c M
  |cons x l=>exact ReprK.list e c M D (by simpa using L.length_eq) (λi y z=>L.item i y (by simpa using z))
 |.tuple C,v,u,h,r,A,m=>by
  obtain⟨G,f⟩:=aV.reads I (.tuple C) v u h r;simp only[aV] at h;obtain⟨a,N,rfl,U,j⟩:=h;cases r;obtain⟨B,J,O,IV⟩:=I.tuple (aQ.of U);obtain⟨o,e,c,n,M⟩:=O;have Q:(tupleText (PyData.shownAll C)).length<=sizeLine:=by simpa only[PyData.shown] using m
  obtain⟨bs,E,L⟩:=cD.m5 I C N B j J (by simpa [PyData.showable] using A) (λt T=>qv7 (tupleText_mem_le T) Q);have D:a∉bs:=qyk f (by simp only[PyData.depth];exact qwN _) E;refine#[a::bs,ReadAtMost.cons f (by simp only[PyData.depth];omega) E,?_];simp only[PyData.depth,PyData.shown];exact ReprK.tuple e c M D (by simpa using L)
 |.dict a0,v,u,h,r,A,m=>by
  simp only[aV] at h;obtain⟨a,rfl,h1⟩:=h;cases r;obtain⟨f,hd⟩:=Ry I.hok h1;refine qxY f A (λ_ Y=>?_) m;rw[qv6] at Y;rw[<- Y] at hd;simp at hd
theorem cD.m5(I:Inv X p_ σ H s):∀(ds:List PyData)(vs:kE)(us:QAE),cD H ds vs->Vals vs us->PyData.showableAll ds=true->(∀t∈PyData.shownAll ds,t.length<=sizeLine)->
  ∃bs,ReadAtMost s.heap (PyData.depthAll ds) bs/\ReprAllK X.prog X.w bs s.heap (PyData.depthAll ds) us (PyData.shownAll ds)
 |[],vs,us,h,r,_,_=>by
  simp only[cD] at h;subst h;cases r;exact#[[],(λ_ h=>nomatch h),.nil]
 |d::ds,vs,us,h,r,c,a=>by
  simp only[cD] at h;obtain⟨v,f,rfl,y,u⟩:=h;simp only[PyData.showableAll,qwA] at c;simp only[PyData.shownAll,qv0,forall_eq_or_imp] at a;cases r with
  |cons j i=>
   obtain⟨b1,m,o⟩:=aV.m5 I d v _ y j c.1 a.1;obtain⟨b2,l,n⟩:=cD.m5 I ds f _ u i c.2 a.2;refine#[b1++b2,(m.mono ?_).append (l.mono ?_),?_]
   ·simp only[PyData.depthAll];exact Nat.le_max_left ..
   ·simp only[PyData.depthAll];exact Nat.le_max_right ..
   ·simp only[PyData.shownAll];refine .cons ((o.more λb e=>qww _ e).level_le ?_) (n.more_le (λb e=>qwf _ e) ?_)
    ·simp only[PyData.depthAll];exact Nat.le_max_left ..
    ·simp only[PyData.depthAll];exact Nat.le_max_right ..
end
@[simp] def qdi:List V->Hp->VK->Prop:=λc H Q=>ar1 c λv=>∃a:List PyData,aV H (.list a) v/\(PyData.list a).showable=true/\(PyData.list a).depth<=32/\(PyData.list a).shown.length<=sizeLine/\Q (.str (PyData.list a).shown) H
def qpx(hg:X.A.guards=some [])(hu:X.A.units+64<cLine):bY X (.builtin "repr") qdi:=by
 intro p_ s σ H D us Q I r h;obtain⟨v,rfl,m,C,hs,hd,Y,q⟩:=ar1.out h;obtain⟨u,rfl,N⟩:=r.one;have B:=C;simp only[aV] at C;obtain⟨a,D,rfl,hq,f⟩:=C;cases N;obtain⟨j,E,T,IV⟩:=I.list (au.of hq);obtain⟨o,e,c,n,L⟩:=T.isList;have G:(listText (PyData.shownAll m)).length<=sizeLine:=by simpa only[PyData.shown] using Y
 obtain⟨as,O⟩:=aV.reads I (.list m) (.ref a) (.ref a) B rfl;obtain⟨bs,U,J⟩:=cD.m5 I m D j f E (by simpa [PyData.showable] using hs) (λt ht=>qv7 (listText_mem_le ht) G);have w:a∉bs:=qyk O (by simp only[PyData.depth];exact qwN _) U;simp only[PyData.depth] at hd;simp only[PyData.shown] at q;refine call_repr_slot ⋯ #[o,e,c] F.slot_list_repr.toG ?_;cases j with
 |nil=>
  cases E;have e2:m=[]:=qwK f.length;subst e2;simp only[PyData.shownAll,listText_nil] at q;exact call_list_repr_empty #[o,e,c] e L #[_,_,rfl,.str _,H,I.tok _,#[_,rfl],q]
 |cons x l=>
  refine call_list_reprK e c L w (by simpa using J.length_eq) (λi y z=>J.item i y (by simpa using z)) hg (λb _=>Clear.nil b) ?_ (λ_ _ z=>z) (λh' u M hk=>#[_,_,rfl,.str _,H,I.kept (t':=M) hk,#[u,rfl],q]) G;show X.A.units+1+_<_;lia
end
@[simp] def qpy:V->Option Int->Option Int->Hp->VK->Prop:=λx lo a H Q=>isStr x λz=>z.length<=sizeLine/\Q (.str (Txt.slice z lo a)) H
def qdj:tQ X qpy:=by
 intro A s r H x v D C lo f E Q I w c y o h;obtain⟨z,rfl,B,q⟩:=isStr.out h;obtain⟨t,rfl⟩:=w;have a:∀{lo f:Option Int},Q (.str (Txt.slice z lo f)) H->(Txt.slice z lo f).length<=sizeLine/\∀t' k,EP X A r Q (.str (Txt.slice z lo f) t') {s with toks:=k}:=λq=>
  #[qv7 (Txt.slice_le z _ _) B,λt' k=>#[.str _,H,I.kept (t':=k) λ_ _ e=>e,#[_,rfl],q]]
 refine#["str",_,PySem.F.slot_str_getitem.lookup,qx4 _ _ _,?_];cases y with
 |none=>
  cases o with
  |none=>exact qx0 (l:=none) (u:=none) (st:=none) c rfl (post_val_or_str (a q))
  |int j m=>exact qx0 (l:=none) (u:=some (j,m)) (st:=none) c rfl (post_val_or_str (a q))
 |int i n=>
  cases o with
  |none=>exact qx0 (l:=some (i,n)) (u:=none) (st:=none) c rfl (post_val_or_str (a q))
  |int j m=>exact qx0 (l:=some (i,n)) (u:=some (j,m)) (st:=none) c rfl (post_val_or_str (a q))
theorem qdk:∀{c:xQ}{us:QAE},Vals (c.map V.ref) us->us=c.map Value.ref
 |[],_,h=>by cases h;rfl
 |D::c,_,h=>by
  cases h with
  |cons a b=>
   rw[qdk b];obtain rfl:=(show _=Value.ref D from a);rfl
@[simp] def qvw(i:Nat)(C:Qv)(e:xQ)(b:Bool):TE:=λc H Q=>getSt c i λx=>isRef x λa=>H a=some (Rm a C)/\∀p,H p=none->Q (.bl b) (upd H p (.tup (e.map V.ref)))
@[simp] def qvx:V->List V->Hp->VK->Prop:=λx a H Q=>isStr x λz=>ar1 a λv=>isStr v λy=>(y.length == 0)=false/\z.length+2<=sizeLine/\∀p,H p=none->Q (.ref p) (upd H p (.lst ((Txt.split z y).map V.str)))
@[simp] def qvy:V->List V->Hp->VK->Prop:=λx a H Q=>isStr x λz=>ar1 a λv=>isStr v λy=>(y.length == 0)=false/\z.length<=sizeLine/\∀p,H p=none->Q (.ref p) (upd H p (.tup [.str (Txt.partition z y).1,.str (Txt.partition z y).2.1,.str (Txt.partition z y).2.2]))
def yp:List TE->St->Hp->Str->(Str->Hp->Prop)->Prop
 |[],_,H,a,Q=>Q a H
 |t::r,c,H,a,Q=>t c H λx e=>isStr x λy=>y.length<=sizeLine/\(a++y).length<=sizeLine/\yp r c e (a++y) Q
@[simp ↓] theorem qvzσ H a Q:yp [] σ H a Q=Q a H:=rfl
@[simp ↓] theorem qvAt r σ H a Q:yp (t::r) σ H a Q=(t σ H λx c=>isStr x λy=>y.length<=sizeLine/\(a++y).length<=sizeLine/\yp r σ c (a++y) Q):=rfl
@[simp] def qpz(c:List TE):TE:=λa H Q=>yp c a H Str.empty λz e=>z.length<=sizeLine/\Q (.str z) e
def PF(X:Cx)(e:zp)(t:TE):Prop:=∀(f:QAC)(s:Zw)(c:St)(H:Hp)(Q:Str->Hp->Prop),Inv X f c H s->(t c H λx a=>isStr x λy=>y.length<=sizeLine/\Q y a)->
 wX X (eval e X.env) (λv i=>∃y h a,v = .str y h/\Inv X f c a i/\Q y a) X.xe s
def qdl(h:PE X e t):PF X e t:=λi s a H Q I j=>
 aD (h i s a H _ I j) λv n ⟨x,m,l,r,q⟩=>by
  obtain⟨y,rfl,_,f⟩:=isStr.out q;obtain⟨c,rfl⟩:=r;exact#[y,c,m,rfl,l,f]
inductive A_(X:Cx):List Expr->List TE->Prop where
 |nil:A_ X [] []
 |cons {e:zp}{es:qy}{t:TE}{ts:List TE}:PF X e t->A_ X es ts->A_ X (e::es) (t::ts)
def A_.joins(h:A_ X n j):∀(c:QAC)(s:Zw)(σ:St)(H:Hp)(a:Str)(Q:Str->Hp->Prop)(R:Str->Shared->Prop),Inv X c σ H s->yp j σ H a Q->
  (∀out i f,Inv X c σ f i->Q out f->R out i)->Joins (model X.prog X.w) X.A X.xe (evalEach n X.env) a R s:=by
 induction h with
 |nil=>exact λc s σ H a Q R I l m=>m _ _ _ I l
 | @cons e n t j h C ih=>
  intro c s σ H a Q R I l m;show wpAny _ _ (eval e X.env) _ _ s;refine qwu (h c s σ H (λy f=>(a++y).length<=sizeLine/\yp j σ f (a++y) Q) I l) (λv i ⟨y,o,f,u,B,r,q⟩=>#[y,o,u,r,ih c i σ f _ Q R B q m]) λ_ _ z=>z
def qpA{c a:zp}{rest:qy}{pos:Pos}{e:List TE}(h:A_ X (c::a::rest) e):PE X (.JoinedStr (c::a::rest) pos) (qpz e):=by
 intro i s f H Q I j;refine wpAny_JoinedStr (h.joins i s f H Str.empty _ _ I j λout n m l q=>?_);exact#[q.1,.str out,m,l.tok _,#[_,rfl],q.2]
structure Js(X:Cx)(es:qy)(t:TA):Prop where
 out:PA X es t
def qpB(h:∀a b,e≠.Starred a b):starEach (e::f) c=(false,eval e c)::starEach f c:=by
 cases e <;> first|rfl|exact absurd rfl (h _ _)
def Eo:Js X [] jg:=#[aq]
def cG(j:PE X e c)(f:Js X l t)(i:∀a b,e≠.Starred a b:=by(intro _ _ h;cases h)):Js X (e::l) (ju c t):=#[ak j f.out (qpB i)]
structure m_(X:Cx)(e:zp)(te:TE):Prop where
 out:PE X e te
def Ep(h:Js X a t):m_ X (.List a pos) (Dk t):=#[cM h.out]
structure Ba(X:Cx)(st:Stmt)(t:TS):Prop where
 out:PS X st t
structure nj(X:Cx)(st:List Stmt)(t:TS):Prop where
 out:fQ X st t
section
variable {X:Cx}{st:Stmt}{rest:List Stmt}{t u:TS}{e a b:zp}{te ta tb:TE}{pos:Pos}
def yq(f:Ba X st t)(c:nj X rest u):nj X (st::rest) (tH t u):=#[aK f.out c.out]
def qpC(c:Ba X st t):nj X [st] t:=#[aF c.out]
def qpD(h:PT X c f)(j:nj X p t)(i:nj X q u):Ba X (.If c p q pos) (tK f t u):=#[bU h j.out i.out]
def Er(n:X.N.Nodup)(j:X.N[i]? = some x)(f:Loc X.env.scope x)(m:m_ X e te)(h:swapsWith e (some (.Name x c)) pos.line X.env=pure false:=by rfl)(l:wN X x:=by first|exact .inl rfl|exact .inr rfl|assumption):
  Ba X (.Assign [.Name x c] e pos) (wQ te (wO i)):=#[bF n j f m.out h l]
def qpE(f:aZ X (binaryOp c) r)(i:m_ X a ta)(h:m_ X b tb):m_ X (.BinOp a c b pos) (dX r ta tb):=#[bI f i.out h.out]
def qpF(f:mO X r)(i:m_ X a ta)(h:m_ X b tb)(c:qao b):m_ X (.Subscript a b pos) (dX r ta tb):=#[bQ f i.out h.out c]
def Es(h:m_ X e te):m_ X e (big te):=#[qoH h.out]
end
@[simp] def qdm:R2:=λx y H Q=>isRef x λl=>isRef y λb=>∃c,H l=some (.tup c)/\∃a,H b=some (.tup a)/\c.length+a.length<=sizeLine/\∀p e,e p=some (.tup (c++a))->Same H e->Q (.ref p) e
def Rz:aZ X (binaryOp .Add) qdm:=by
 intro p_ s σ H x y v u Q I rx ry h;obtain⟨l,rfl,h0⟩:=isRef.out h;obtain⟨b,rfl,J,U,G,T,hz,q⟩:=isRef.out h0;obtain rfl:v=Value.ref l:=rx;obtain rfl:u=Value.ref b:=ry;obtain⟨z1,i,M,ht⟩:=I.hok _ _ U;obtain⟨z2,f,L,hb⟩:=I.hok _ _ T;obtain⟨⟨ab,E,a0,B⟩,r,O,n,N⟩:=id ht;obtain⟨⟨aa,m,data2,j⟩,a,z,C,w⟩:=id hb;simp only at O N z w;subst O N z w;have l1:=M.length;have l2:=L.length;have e:i.toArray++f.toArray=(i++f).toArray:=by simp
 by_cases A:i=[]
 ·have D:J=[]:=qwK (by rw[l1,A];rfl);exact concat_meets #[_,r,rfl] #[_,a,rfl] noFill_tuple_add seq_tuple_add PySem.F.slot_tuple_add PySem.F.entry_tuple_add (PySem.F.args_tuple_add_2 _ _)
   (tuple_addW0 l b i.toArray f.toArray n C E m B j (by simp[A])) #[r,a,#[.ref b,H,I,rfl,q b H (by rw[D];exact T) λ_ _ e=>e]]
 ·by_cases hw:f=[]
  ·have D:G=[]:=qwK (by rw[l2,hw];rfl);exact concat_meets #[_,r,rfl] #[_,a,rfl] noFill_tuple_add seq_tuple_add PySem.F.slot_tuple_add PySem.F.entry_tuple_add (PySem.F.args_tuple_add_2 _ _)
    (tuple_addW1 l b i.toArray f.toArray n C E m B j (by simpa using A) (by simp[hw])) #[r,a,#[.ref l,H,I,rfl,q l H (by rw[D,qwy];exact U) λ_ _ e=>e]]
  ·refine concat_meets #[_,r,rfl] #[_,a,rfl] noFill_tuple_add seq_tuple_add PySem.F.slot_tuple_add PySem.F.entry_tuple_add (PySem.F.args_tuple_add_2 _ _)
    (tuple_addW2 l b i.toArray f.toArray n C E m B j (by simpa using A) (by simpa using hw) (by rw[qwl,qwl];lia)) #[r,a,?_]
   rw[e];have hn:H s.heap.objs.size=none:=I.hok.fresh (qvY _);refine#[.ref _,upd H s.heap.objs.size (.tup (J++G)),I.laid (t':=s.toks) (λ_ _ q=>qvV _ q) (qvY _) #[by rw[qwm];omega,i++f,M.append L,#[_,qv4 _ rfl,rfl,0,rfl]],rfl,q _ _ aB λc o Y=>?_];rw[aN (cF Y hn)];exact Y
@[simp] def qdn:R2:=λx y H Q=>isStr x λi=>isInt y λk=>(0<=k/\k<2 ^ 60)/\i.length * k.toNat<=sizeLine/\∀z:Str,z.cps.toList=(List.replicate k.toNat i.cps.toList).flatten->Q (.str z) H
theorem RB:∀(l:List (Array Nat))(a:Array Nat),(l.foldl (·++·) a).toList=a.toList++(l.map Array.toList).flatten
 |[],a=>by simp
 |x::l,a=>by rw[List.foldl_cons,RB l];simp
def qpG:aZ X (binaryOp .Mult) qdn:=by
 intro L s G H x y v u Q I r o h;obtain⟨i,rfl,D⟩:=isStr.out h;obtain⟨k,rfl,⟨j,B⟩,n,q⟩:=isInt.out D;obtain⟨t,rfl⟩:=r;obtain⟨J,rfl⟩:=o;have a:i.length=i.cps.toList.length:=by simp[Str.length]
 have A:Builtin.Str.tooLong (i.length * k.toNat)=false:=by
  unfold Builtin.Str.tooLong;exact qwh ⋯
 refine PySem.P.mul_str (by
  have f:¬k < -(2 ^ 63:Int):=⋯
  have c:¬k≥2 ^ 63:=⋯
  rw[qwh f,qwh c];rfl) (λf c=>?_) (λf c=>A) ?_
 ·have l:(0:Int)<k:=∅
  have w:(i.length:Int) * k<=2 ^ 63 - 1:=by
   have E:((i.length * k.toNat:Nat):Int)=(i.length:Int) * k:=by rw[Int.natCast_mul,Int.toNat_of_nonneg j]
   have M:sizeLine<=2 ^ 60:=by rw[sizeLine_eq];decide
   rw[<- E];lia
  have:=(Int.le_ediv_iff_mul_le l).mpr w;lia
 ·by_cases f:k<1
  ·have l:k=0:=⋯
   subst l;rw[if_pos (by decide)];exact#[by decide,#[.str Str.empty,H,I.tok _,#[_,rfl],q _ (by rfl)]]
  ·rw[if_neg f]
   by_cases c:(k == 1 || i.length == 0)=true
   ·rw[if_pos c];refine#[.str i,H,I,#[_,rfl],q _ ?_]
    rcases Bool.or_eq_true_iff.mp c with m|m
    ·have:k=1:=by simpa using m
     subst this;simp
    ·have C:i.cps.toList=[]:=qwK (by rw[<- a];simpa using m);rw[C];simp
   ·rw[if_neg c];refine#[?_,#[.str _,H,I.tok _,#[_,rfl],q _ ?_]]
    ·have e:∀z:Str,z.length=z.cps.toList.length:=λz=>by simp[Str.length]
     rw[e,RB];simp only[List.nil_append,List.map_replicate,List.length_flatten,List.sum_replicate_nat];rw[a] at n;simpa [Nat.mul_comm] using n
    ·rw[RB];simp
@[simp] def qdo:V->List V->Hp->VK->Prop:=λx a H Q=>isStr x λz=>a=[]/\(placed z λ_ c=>Unicode.upperOf c).size<=sizeLine/\Q (.str #[placed z λ_ c=>Unicode.upperOf c]) H
def qpH:gO X "str.upper" qdo:=by
 intro l s h H x i v j Q I a c q;obtain⟨z,rfl,rfl,f,e⟩:=isStr.out q;cases c;obtain⟨t,rfl⟩:=a;refine call_gives F.slot_str_upper (qx4 _ _ _) F.entry_str_upper (F.args_str_upper_1 _) (gives_str_upper z t (by unfold Builtin.Str.tooLong;exact qwh ⋯)) ?_;exact#[f,#[.str _,H,I.tok _,#[_,rfl],e]]
@[simp] def qvB:List V->Hp->VK->Prop:=λa H Q=>ar1 a λx=>isStr x λz=>z.cps.size<=sizeLine/\∀l,H l=none->Q (.ref l) (upd H l (.lst (z.cps.toList.map λc=>.str #[[c].toArray])))
def qpI:aZ X (binaryOp .Mult) qmI:=by
 refine qkH.mono λ{x y H Q} h=>?_;obtain⟨l,rfl,e⟩:=isRef.out h;obtain⟨k,rfl,a,c⟩:=isInt.out e;exact#[l,k,a,rfl,rfl,c]
@[simp] def qvC:List V->Hp->VK->Prop:=λe H Q=>ar1 e λx=>isRef x λa=>∃c,Rd H a (.dK c)/\∀p,H p=none->Q (.ref p) (upd H p (.dK c))
def qpJ{K:W5}{C:Qv}:W.kitAny K (.ref C) (([]:List Addr).map Value.ref)=some false:=rfl
def qpK{K:W5}{C D:Qv}{a:xQ}(e:pP K C (.ref D)=some false)(c:W.kitAny K (.ref C) (a.map Value.ref)=some false):W.kitAny K (.ref C) ((D::a).map Value.ref)=some false:=by
 have f:W.kitOne K (.ref C) (.ref D)=some false:=e;rw[qwd];unfold W.kitAny;simp[f,c]
def qdp(f:Addr->TS)(i:Ends)(c:St)(C:Qv)(h:wJ)(e:Hp):Prop:=∀a,e a=none->f a i c (upd e a (lV a C h))
def qpL(K:W5)(h l:Qv)(j i:Addr->TS)(f:Ends):St->Addr->Option Addr->Hp->Prop:=λa C c e=>jZ K C/\
 ((W.mroIn K C (.ref h)=some true/\qdp j f a C c e)\/(W.mroIn K C (.ref h)=some false/\W.mroIn K C (.ref l)=some true/\qdp i f a C c e))
@[simp] def qvD(K:W5)(i h:Qv)(f e:Addr->TS)(tb:(St->Addr->Option Addr->Hp->Prop)->TS):TS:=λa c H=>tb (qpL K i h f e a) a c H
def qpM(i:Nat)(K:W5)(j:Qv)(c:Addr->TS)(h:Ends):St->Addr->Option Addr->Hp->Prop:=λa C e f=>jZ K C/\W.mroIn K C (.ref j)=some true/\Ru i c h a C e f
@[simp] def qvE(i:Nat)(K:W5)(f:Qv)(e:Addr->TS)(tb:(St->Addr->Option Addr->Hp->Prop)->TS):TS:=λa c H=>tb (qpM i K f e a) a c H
end L2
namespace L2
open PySem PySem.Spec
def qdq{n j:Nat}{d:Nat}:HT.eZ n d (some (j:Int))=min j n:=by
 simp[HT.eZ];intro h;lia
def qpN{xs:kE}{j:Nat}:jU xs none (some (j:Int))=xs.take j:=by
 unfold jU;rw[qdq];simp[HT.eZ,List.take_eq_take_iff]
def qpO{xs:kE}{j:Nat}:jU xs (some (j:Int)) none=xs.drop j:=by
 unfold jU;rw[qdq];simp[HT.eZ];rw[qx8 (by simp)]
 by_cases h:j<=xs.length
 ·rw[qyb h]
 ·rw[Nat.min_eq_right ⋯,List.drop_of_length_le (qvY _),List.drop_of_length_le ∅]
structure gY(n:Nat)(x:Str):Prop where
 cp:∀c∈x.cps.toList,c<16 ^ 8
 ln:x.length<=n
def gY.app(h:gY n x)(k:gY m y):gY (n+m) (x++y):=by
 refine#[λc a=>?_,?_]
 ·have e:(x++y).cps.toList=x.cps.toList++y.cps.toList:=by
   show(x.cps++y.cps).toList=_;simp
  rw[e,qwc] at a;exact a.elim (h.cp c) (k.cp c)
 ·have e:(x++y).length=x.length+y.length:=qxw;have i:=h.ln;have f:=k.ln;lia
def gY.mono(h:gY n x)(k:n<=m):gY m x:=#[h.cp,qv7 h.ln k]
def dictText_len_le(a:QAH):(dictText a).length<=(a.map (·.length)).sum+2 * a.length+3:=by
 have c:∀x y:Str,(x++y).length=x.length+y.length:=λx y=>qxw;unfold dictText;rw[c,c,show("{" : Str).length=1 from rfl,show("}" : Str).length=1 from rfl];have h:(Str.join ", " a).length<=(a.map (·.length)).sum+a.length * 2:=StrLaws.join_length_le ", " a;lia
def qpP(h:∀e∈kvs,bK k n e.1/\bK k n e.2)(v:(2 * n+4) * kvs.length+3<=m):bK (k+1) m (.dict kvs):=by
 have c:∀x y:Str,(x++y).length=x.length+y.length:=λx y=>qxw;have a:∀kvs:List (PyData×PyData),(∀e∈kvs,bK k n e.1/\bK k n e.2)->PyData.showableKv kvs=true/\PyData.depthKv kvs<=k/\(PyData.shownKv kvs).length=kvs.length/\((PyData.shownKv kvs).map (·.length)).sum<=(2 * n+2) * kvs.length:=by
  intro kvs
  induction kvs with
  |nil=>intro _;simp[PyData.showableKv,PyData.depthKv,PyData.shownKv]
  |cons e r ih=>
   intro h;obtain⟨⟨a1,a2,a3⟩,b1,b2,b3⟩:=h e qv3;obtain⟨i,u,f,i4⟩:=ih λe j=>h e (qvZ _ j);obtain⟨x,y⟩:=e;simp only at a1 a2 a3 b1 b2 b3;simp only[PyData.showableKv,PyData.depthKv,PyData.shownKv,a1,b1,i,qwj,qwd,qxg,f,c];refine#[rfl,by simp only[Nat.max_le];lia,trivial,?_];rw[show(": " : Str).length=2 from rfl,Nat.mul_succ];lia
 obtain⟨o,z,l,w⟩:=a kvs h;have:=dictText_len_le (PyData.shownKv kvs);refine#[by simpa [PyData.showable] using o,by simp only[PyData.depth];lia,?_];simp only[PyData.shown];rw[l] at this;have e:(2 * n+4) * kvs.length=(2 * n+2) * kvs.length+2 * kvs.length:=by rw[<- Nat.add_mul]
 lia
def Jt{vs:kE}{k:Int}{n:Nat}(h:vs.length=n)(e:0<=k)(c:k<n):∃v,v∈vs/\gM vs k=some v:=by
 obtain⟨v,a⟩:∃v,vs[k.toNat]? = some v:=#[_,qwi (show k.toNat<vs.length by lia)];refine#[v,qvX a,?_];rw[show k=(k.toNat:Int) by lia];exact cV a
mutual
theorem aA.x:∀(d:PyData)(v:V),aA H d v->aV H d v
 |.none,v,h=>by simp only[aA,aV] at h⊢;exact h
 |.bool b,v,h=>by simp only[aA,aV] at h⊢;exact h
 |.int i,v,h=>by simp only[aA,aV] at h⊢;exact h
 |.str x,v,h=>by simp only[aA,aV] at h⊢;exact h
 |.list l,v,h=>by
  simp only[aA,aV] at h⊢;obtain⟨a,c,e,f,j⟩:=h;exact#[a,c,e,f,aR.x l c j]
 |.tuple l,v,h=>by
  simp only[aA,aV] at h⊢;obtain⟨a,c,e,f,j⟩:=h;exact#[a,c,e,f,aR.x l c j]
 |.dict m,v,h=>by
  simp only[aA,aV] at h⊢;obtain⟨rfl,a,e,f⟩:=h;exact#[a,e,.inl #[[],.nil,f]]
theorem aR.x:∀(ds:List PyData)(vs:kE),aR H ds vs->cD H ds vs
 |[],vs,h=>by simp only[aR,cD] at h⊢;exact h
 |d::ds,vs,h=>by
  simp only[aR,cD] at h⊢;obtain⟨v,r,e,c,a⟩:=h;exact#[v,r,e,aA.x d v c,aR.x ds r a]
end
def RD:GD p qbc σ H (.dict []):=λe Q c s q b a=>q _ _ (aJ a) (by simp only[aA];exact#[trivial,b,rfl,fW (lW c s a) aB])
theorem qdr:∀{ds:List PyData}{xs:kE}(j:Nat),aR H ds xs->aR H (ds.take j) (xs.take j)
 |ds,xs,0,h=>by simp[aR]
 |[],xs,j+1,h=>by simp only[aR] at h;subst h;simp[aR]
 |d::ds,xs,j+1,h=>by
  simp only[aR] at h;obtain⟨v,r,rfl,c,a⟩:=h;simp only[List.take_succ_cons,aR];exact#[v,_,rfl,c,qdr j a]
theorem qds:∀{ds:List PyData}{xs:kE}(j:Nat),aR H ds xs->aR H (ds.drop j) (xs.drop j)
 |ds,xs,0,h=>by simpa using h
 |[],xs,j+1,h=>by simp only[aR] at h;subst h;simp[aR]
 |d::ds,xs,j+1,h=>by
  simp only[aR] at h;obtain⟨v,r,rfl,c,a⟩:=h;simp only[List.drop_succ_cons];exact qds j a
def RG(z:GD p w σ H (.list n))(y:GD p tb σ H (.list m))(E:n.length+m.length<=sizeLine):GD p (dX QH w tb) σ H (.list (n++m)):=λB Q i s q=>
 z B _ i s λv A h e=>y A _ i (s.trans h) λu G f l=>by
  have e:=aA.same (eN f) _ _ e;simp only[aA] at e l;obtain⟨a,r,rfl,a1,a2⟩:=e;obtain⟨b,o,rfl,b1,b2⟩:=l;have D:=a2.length;have C:=b2.length;refine#[r,oF _ _ a1,o,oF _ _ b1,⋯,λc j=>q _ _ (h.trans (f.trans (aJ j))) ?_];simp only[aA];exact#[c,_,rfl,fW (lW i (s.trans (h.trans f)) j) aB,aR.same (eN (aJ j)) _ _ (aR.append a2 b2)]
def RJ(a:∃xs,H p=some (.lst xs))(s:Same H c)(e:c l=some (.tup ys)):l≠p:=λz=>by
 obtain⟨xs,h⟩:=a;have:=s _ _ h;rw[<- z,e] at this;cases this
def RK(j:∃xs,H p=some (.lst xs))(A:GD p y σ H (.tuple r))(z:GD p tb σ H (.tuple o))(G:r.length+o.length<=sizeLine):GD p (dX qdm y tb) σ H (.tuple (r++o)):=λC Q m s q=>
 A C _ m s λv B i e=>z B _ m (s.trans i) λu J h l=>by
  have e:=aA.same (eN h) _ _ e;simp only[aA] at e l;obtain⟨a,xs,rfl,a1,a2⟩:=e;obtain⟨b,w,rfl,b1,b2⟩:=l;have E:=a2.length;have D:=b2.length;refine#[xs,oF _ _ a1,w,oF _ _ b1,∅,λc I n f=>q _ _ (i.trans (h.trans f)) ?_];simp only[aA];exact#[c,_,rfl,fW (RJ j (s.trans (i.trans (h.trans f))) n) n,aR.same (eN f) _ _ (aR.append a2 b2)]
def RL(f:∃xs,H p=some (.lst xs))(m:GD p t σ H (.list n)):GD p (nR QS (ju t jg)) σ H (.tuple n):=λo Q l s q=>
 m o _ l s λv u h i=>by
  simp only[aA] at i;obtain⟨a,xs,rfl,a1,a2⟩:=i;refine#[xs,.inl (oF _ _ a1),λc r j e=>q _ _ (h.trans e) ?_];simp only[aA];exact#[c,_,rfl,fW (RJ f (s.trans (h.trans e)) j) j,aR.same (eN e) _ _ a2]
def qdt{t m:TE}{o:List PyData}{j:Nat}(y:GD p t σ H (.list o))(w:GD p m σ H (.int j)):GD p (Pk (Ik K) t Pj (QZ m)) σ H (.list (o.take j)):=λA Q i s q=>
 y A _ i s λv z h e=>w z _ i (s.trans h) λu B f n=>by
  have e:=aA.same (eN f) _ _ e;simp only[aA] at e n;subst n;obtain⟨a,r,rfl,a1,a2⟩:=e;refine#[r,au.of (oF _ _ a1),λc l=>q _ _ (h.trans (f.trans (aJ l))) ?_];rw[qpN];simp only[aA];exact#[c,_,rfl,fW (lW i (s.trans (h.trans f)) l) aB,aR.same (eN (aJ l)) _ _ (qdr j a2)]
def RM{t m:TE}{o:List PyData}{j:Nat}(y:GD p t σ H (.list o))(w:GD p m σ H (.int j)):GD p (Pk (Ik K) t (QZ m) Pj) σ H (.list (o.drop j)):=λA Q i s q=>
 y A _ i s λv z h e=>w z _ i (s.trans h) λu B f n=>by
  have e:=aA.same (eN f) _ _ e;simp only[aA] at e n;subst n;obtain⟨a,r,rfl,a1,a2⟩:=e;refine#[r,au.of (oF _ _ a1),λc l=>q _ _ (h.trans (f.trans (aJ l))) ?_];rw[qpO];simp only[aA];exact#[c,_,rfl,fW (lW i (s.trans (h.trans f)) l) aB,aR.same (eN (aJ l)) _ _ (qds j a2)]
def qpQ{a tb:TE}{i j:Int}{g:Int->Int->Int}(n:GD p a σ H (.int i))(m:GD p tb σ H (.int j)):GD p (dX (jB λi j=>.int (g i j)) a tb) σ H (.int (g i j)):=λw Q h s q=>
 n w _ h s λv r c e=>m r _ h (s.trans c) λu o l f=>by
  simp only[aA] at e f;subst e f;exact q _ o (c.trans l) (by simp[aA])
def qdu(o:GD p h σ H (.int i))(n:GD p tb σ H (.int j))(m:zU i j):GD p (dX (fI zU λi j=>.int (i ^ j.toNat)) h tb) σ H (.int (i ^ j.toNat)):=λy Q f s q=>
 o y _ f s λv w a c=>n w _ f (s.trans a) λu r l e=>by
  simp only[aA] at c e;subst c e;exact#[m,q _ r (a.trans l) (by simp[aA])]
def RN(h:GD p c σ H (.int i)):GD p (Z5 (fU λi=>.int (-i)) c) σ H (.int (-i)):=λl Q f s q=>
 h l _ f s λv j e a=>by
  simp only[aA] at a;subst a;exact q _ j e (by simp[aA])
def qpR(i:GD p t σ H (.list j)):GD p (nR (rB K) (ju t jg)) σ H (.int j.length):=λl Q h s q=>
 i l _ h s λv m f c=>by
  simp only[aA] at c;obtain⟨a,e,rfl,a1,a2⟩:=c;refine#[e,.inl (au.of (oF _ _ a1)),q _ _ f ?_];rw[a2.length];simp[aA]
def pZ(φ:PyData->Prop)(H:Hp)(vs:kE):Prop:=∀v∈vs,∃d,aA H d v/\φ d
theorem pZ.same(h:pZ φ H vs)(s:Same H f):pZ φ f vs:=λv a=>by
 obtain⟨d,e,c⟩:=h v a;exact#[d,aA.same s d v e,c]
def pZ.app(h:pZ φ H vs)(k:pZ φ H us):pZ φ H (vs++us):=λv a=>(qwc.mp a).elim (h v) (k v)
def GT(φ:PyData->Prop)(p:Qv)(t:TE)(σ:St)(H:Hp):Prop:=∀(c:Hp)(Q:VK),(∃o,H p=some o)->Same H c->(∀v d a,Same c a->aA (hid p a) d v->φ d->Q v a)->t σ c Q
def Ju(φ:PyData->Prop)(p:Qv)(n:Nat)(t:TA)(σ:St)(H:Hp):Prop:=∀(e:Hp)(Q:List V->Hp->Prop),(∃o,H p=some o)->Same H e->(∀a c,Same e c->a.length=n->pZ φ (hid p c) a->Q a c)->t σ e Q
def Jv:Ju φ p 0 jg σ H:=λc Q _ _ q=>q [] c (Same.refl _) rfl λv a=>absurd a (by simp)
def dN(w:GT φ p j σ H)(r:Ju φ p n i σ H):Ju φ p (n+1) (ju j i) σ H:=λA Q h s q=>
 w A _ h s λv d z f l o=>r z _ h (s.trans f) λB y e m a=>q _ y (f.trans e) (by simp[m]) λu c=>by
  rcases qv0.mp c with rfl|c
  ·exact#[d,aA.same (eN e) d _ l,o]
  ·exact a u c
def dO(h:GD p t σ H d)(f:φ d):GT φ p t σ H:=λj Q e s q=>h j Q e s λv i a c=>q v d i a c f
def qpS{a tb:TE}{x:Str}{k:Nat}(o:GD p a σ H (.str x))(n:GD p tb σ H (.int k))(A:k<=1000)(l:x.length * k<=sizeLine)(m:∀z:Str,z.cps.toList=(List.replicate k x.cps.toList).flatten->φ (.str z)):GT φ p (dX qdn a tb) σ H:=λy Q h s q=>
 o y _ h s λv w c e=>n w _ h (s.trans c) λu r i f=>by
  simp only[aA] at e f;subst e f;exact#[#[⋯,⋯],l,λz j=>q _ _ r (c.trans i) (by simp[aA]) (m z j)]
def Jw(h:Ju φ p n t σ H)(j:∃o,H p=some o)(l:n<=sizeLine)(q:∀b vs a,H b=none->Same H a->vs.length=n->a b=some (.lst vs)->pZ φ (hid p a) vs->Q (.ref b) a):big (Dk t) σ H Q:=
 #[h H _ j (Same.refl _) λvs a e f i=>#[by rw[f];exact l,λb c=>q b vs _ (gU e c) (e.trans (aJ c)) f aB (i.same (eN (aJ c)))]]
@[simp] def qpT(t:TE):TE:=λa H Q=>t a H λx c=>isInt x λi=>i.natAbs.log2<1920/\Q (.str (toString i)) c
def qdv(h:PE X e t):PF X (.FormattedValue e (-1) none pos) (qpT t):=λj s a H Q I l=>
 wpAny_FormattedValue_plain (aD (h j s a H _ I l) λv z ⟨x,u,o,r,q⟩=>by
  obtain⟨i,rfl,m,f⟩:=isInt.out q;obtain⟨y,n,_,c⟩:=isStr.out f;cases n;obtain⟨w,rfl⟩:=r;exact wpAny_formatField_int m #[_,_,u,rfl,o.tok _,c])
end L2
namespace PySem.SeqAt
open AutoSeq1 (wpAny_loadPart')
open MeetsSeq
def qdw(b:Str)(u:Tok)(l:Qv)(f:Array DictEntry)(i:Nat)(dd:wJ)(e:Array (QAG)):
  Meets (Builtin.«str.__eq__» #[[.str b u,.ref l],[]]) (λ_ R s=>s.heap.get? l=some {cls:=.type "dict",dict:=dd,data:=.dict f i,slots:=e}/\R (.ok (.ret .notImplemented)) s):=
 .of_wp λa w A R s h=>by obtain⟨m,g,d,j,os⟩:=s;obtain⟨c,h⟩:=h;wp_walk using qxO c,wpAny_load c;exact#[_,rfl,h]
end PySem.SeqAt
namespace L2
open PySem PySem.Spec PyProof.Rows
def qpU{prog:J9}{w:zX}{A:zY}{E:QAB}{s:Zw}{a:Qv}{z:Str}{t:Tok}{i:Array DictEntry}{j:Nat}{dd:wJ}{e:Array (QAG)}{Q:QAB}(f:s.heap.get? a=some {cls:=.type "dict",dict:=dd,data:=.dict i j,slots:=e})(l:A.units<cLine)(h:Q (.bool false) s):wpAny (model prog w) A (compareOp .Eq (.ref a) (.str z t)) Q E s:=by
 have ty:s.TypeIs (.ref a) "dict" :=#[_,f,rfl];refine PySem.SeqAt.rc_eq_decline_or (k:=false) ty (qx4 s z t) (by decide) F.sub_str_dict F.slot_dict_eq F.slot_str_eq_refl (λm c=>?_)
  (λ_ c=>qx6 F.slot_str_eq_refl (qx4 s z t) F.entry_str_eq (F.args_str_eq_2 _ _) (PySem.SeqAt.qdw z t a i j dd e) #[f,c])
  (λ_ c=>wpAny_of_eq (rfl:isSame (.ref a) (.str z t)=pure false) c) (.inr l) h
 refine qwW PySem.F.slot_dict_eq ty PySem.F.entry_dict_eq ?_ (PySem.F.args_dict_eq_2 _ _);show wpAny _ _ (Builtin.Dict.dictSlotArgs "__eq__" #[[.ref a,.str z t],[]] >>= _) _ _ s;refine qvT ?_;unfold Builtin.Dict.dictSlotArgs;refine qvT (wpAny_notOrdered_dict ty ?_);show wpAny _ _ (pure (Value.ref a,Value.str z t)) _ _ s;refine qvW ?_;refine qvT (wpAny_isInstance (T:= "str") (qx4 s z t) PySem.F.sub_str_dict ?_);simp only[Bool.not_false,if_true];exact qvT (qxF (qvW #[_,rfl,c]))
@[simp] def qvF:R2:=λx y H Q=>isStr y λz=>∃d,aA H d x/\(d.canLay0=true\/d = .dict [])/\PyData.strOk z=true/\d.depth<=64/\Q (.bl (PyData.eqv d (.str z))) H
def dg(H:Hp)(d:PyData)(v:V):Prop:=aA H d v\/∃a x i,d = .dict [(.str x,.int i)]/\v = .ref a/\H a=some (.dK [((Sum.inr x:Key),.int i)])
theorem dg.same(s:Same H j)(h:dg H d v):dg j d v:=h.imp (aA.same s d v) λ⟨a,x,i,f,c,e⟩=>#[a,x,i,f,c,s _ _ e]
theorem dg.x(h:dg H d v):aV H d v:=by
 rcases h with h|⟨a,x,i,rfl,rfl,e⟩
 ·exact aA.x d v h
 ·simp only[aV];exact#[a,rfl,.inl #[[(x,.int i)],.cons (.int i) .nil,e]]
theorem dg.str{H:Hp}{x:Str}{v:V}(h:dg H (.str x) v):v = .str x:=by
 rcases h with h|⟨a,x,i,h,_⟩
 ·simpa only[aA] using h
 ·cases h
def dg.qdx(h:dg H d (.str z)):d = .str z:=by
 rcases h with h|⟨_,_,_,_,h,_⟩
 ·cases d <;> simp only[aA] at h
  all_goals first|(obtain⟨_,_,h,_⟩:=h;cases h)|(cases h;done)|(cases h;rfl)
 ·cases h
structure RP(d:PyData):Prop where
 dp:d.depth<=32
 ly:d.canLay0=true\/d = .dict []\/∃x i,d = .dict [(.str x,.int i)]
def jo(z:Str):PyData->Bool
 |.str x=>decide (x=z)
 |_=>false
def qdy{prog:J9}{w:zX}{A:zY}{E:QAB}{s:Zw}{a:Qv}{z:Str}{t:Tok}{i:Array DictEntry}{j:Nat}{dd:wJ}{e:Array (QAG)}{Q:QAB}(f:s.heap.get? a=some {cls:=.type "dict",dict:=dd,data:=.dict i j,slots:=e})(l:A.units<cLine)(h:Q (.bool false) s):wpAny (model prog w) A (richCompare .Eq (.str z t) (.ref a)) Q E s:=by
 have ty:s.TypeIs (.ref a) "dict" :=#[_,f,rfl];refine PySem.SeqAt.rc_eq_decline_or (k:=false) (qx4 s z t) ty (by decide) F.sub_dict_str F.slot_str_eq_refl F.slot_dict_eq (λ_ c=>qx6 F.slot_str_eq_refl (qx4 s z t) F.entry_str_eq (F.args_str_eq_2 _ _) (PySem.SeqAt.qdw z t a i j dd e) #[f,c])
  (λm c=>?_)
  (λ_ c=>wpAny_of_eq (rfl:isSame (.str z t) (.ref a)=pure false) c) (.inr l) h
 refine qwW PySem.F.slot_dict_eq ty PySem.F.entry_dict_eq ?_ (PySem.F.args_dict_eq_2 _ _);show wpAny _ _ (Builtin.Dict.dictSlotArgs "__eq__" #[[.ref a,.str z t],[]] >>= _) _ _ s;refine qvT ?_;unfold Builtin.Dict.dictSlotArgs;refine qvT (wpAny_notOrdered_dict ty ?_);show wpAny _ _ (pure (Value.ref a,Value.str z t)) _ _ s;refine qvW ?_;refine qvT (wpAny_isInstance (T:= "str") (qx4 s z t) PySem.F.sub_str_dict ?_);simp only[Bool.not_false,if_true];exact qvT (qxF (qvW #[_,rfl,c]))
def RQ(h:d.canLay0=true):PyData.eqv d (.str z)=jo z d/\PyData.eqv (.str z) d=jo z d:=by
 cases d with
 |str x=>
  have c:∀a b:Str,(a == b)=decide (a=b):=λa b=>by by_cases e:a=b <;> simp[e]
  simp only[PyData.eqv,jo,c,true_and];exact decide_eq_decide.mpr eq_comm
 |_=>simp[PyData.eqv,jo]
def Et(h:dg H d v)(c:d = .dict []\/∃x i,d = .dict [(.str x,.int i)]):∃a kvs,v = .ref a/\H a=some (.dK kvs)/\(kvs=[]\/∃x i,kvs=[((Sum.inr x:Key),V.int i)])/\∀z,jo z d=false:=by
 rcases h with h|⟨a,x,i,rfl,rfl,e⟩
 ·rcases c with rfl|⟨x,i,rfl⟩
  ·simp only[aA] at h;obtain⟨_,a,rfl,e⟩:=h;exact#[a,_,rfl,e,.inl rfl,λ_=>rfl]
  ·simp only[aA] at h;exact absurd h.1 (by simp)
 ·exact#[a,_,rfl,e,.inr #[x,i,rfl],λ_=>rfl]
@[simp] def qpV(K:W5):R2:=λx y H Q=>∃d,RP d/\((∃z,y = .str z/\dg H d x/\PyData.strOk z=true/\Q (.bl (jo z d)) H)\/(∃z,x = .str z/\dg H d y/\PyData.strOk z=true/\Q (.bl (jo z d)) H)\/(x=y/\dg H d x/\Q (.bl true) H))
def qpW{K:W5}(hK:X.K=K)(Y:X.A.units+64<cLine):aZ X (compareOp .Eq) (qpV K):=by
 subst hK;intro T s L H x y v u Q I n m h;obtain⟨d,w,h⟩:=h;have a0:=w.dp
 rcases h with⟨z,rfl,j,B,q⟩|⟨z,rfl,j,B,q⟩|⟨rfl,j,q⟩
 ·obtain⟨t,rfl⟩:=m
  rcases w.ly with c|c
  ·obtain⟨J,o⟩:=aV.reads I d x v j.x n;rw[<- (RQ (z:=z) c).1] at q;exact SeqAt.compareEq_reads o (.str z t) c (by simpa [PyData.canLay0] using B) ⋯ #[.bl _,H,I,rfl,q]
  ·obtain⟨a,f,rfl,e,_,E⟩:=Et j c;rw[E] at q;cases n;obtain⟨_,_,M,U,⟨G,dd,dt,N⟩,es,ep,D,l,r,_⟩:=xG I.hok e;obtain⟨l,_⟩:=l;simp only at l r;subst l r;exact qpU D ⋯ #[.bl _,H,I,rfl,q]
 ·obtain⟨t,rfl⟩:=n
  rcases w.ly with c|c
  ·obtain⟨J,o⟩:=aV.reads I d y u j.x m;rw[<- (RQ (z:=z) c).2] at q;exact SeqAt.compareEq_reads (.str z t) o (by simpa [PyData.canLay0] using B) c ⋯ #[.bl _,H,I,rfl,q]
  ·obtain⟨a,f,rfl,e,_,E⟩:=Et j c;rw[E] at q;cases m;obtain⟨_,_,M,U,⟨G,dd,dt,N⟩,es,ep,D,l,r,_⟩:=xG I.hok e;obtain⟨l,_⟩:=l;simp only at l r;subst l r;exact qdy D ∅ #[.bl _,H,I,rfl,q]
 ·rcases w.ly with c|c
  ·obtain⟨J,o⟩:=aV.reads I d x v j.x n;obtain⟨bs,O⟩:=aV.reads I d x u j.x m;rw[<- SeqAt.eqv_refl d c] at q;exact SeqAt.compareEq_reads o O c c ⋯ #[.bl _,H,I,rfl,q]
  ·obtain⟨a,f,rfl,e,hk,_⟩:=Et j c;refine qpb (X:=X) rfl Y T s L H _ _ _ _ Q I n m ?_;rw[qc8];refine#[f,f,.inl e,.inl e,rfl,λp C=>?_,q]
   rcases hk with rfl|⟨x,i,rfl⟩
   ·cases C
   ·rw[qv6] at C;subst C;exact#[.int i,by simp[dI],.int i,rfl,rfl,rfl,by simp[PyData.depth],by simp[PyData.eqv]]
@[simp] def qpX(K:W5):R2:=λx y H Q=>∃d a e c,RP d/\dg H d x/\y = .ref a/\aQ K H a e/\(∀u∈e,u=x\/∃z,u = .str z/\PyData.strOk z=true/\jo z d=false)/\(c=true↔x∈e)/\Q (.bl c) H
def eA(d:PyData):Value->Bool
 |.str w _=>jo w d
 |_=>true
def qpY{K:W5}(hK:X.K=K)(hu:X.A.units+64<cLine):aZ X (compareOp .In) (qpX K):=by
 subst hK;intro p_ s σ H x y v u Q I B ry h;obtain⟨d,a,l,c,O,m,rfl,ht,i,hc,q⟩:=h;have aa:=O.dp;cases ry;obtain⟨f,G,pl,_⟩:=I.tuple ht;have L:s.heap.IsTuple a f.toArray:=by obtain⟨o,e,c,n,dt⟩:=pl;exact#[o,e,c,n,dt]
 have N:∀(l:kE)(f:QAE),Vals l f->(∀u∈l,u=x\/∃z,u = .str z/\PyData.strOk z=true/\jo z d=false)->(∀y∈f,SeqAt.EqAt X.A.in1 s y v (eA d y))/\(f.any (eA d)=true↔x∈l):=by
  intro l f G
  induction G with
  |nil=>intro _;simp
  | @cons u w l f C r2 ih=>
   intro i;obtain⟨i1,i2⟩:=ih λu hu=>i u (qvZ _ hu);have one:SeqAt.EqAt X.A.in1 s w v (eA d w)/\(eA d w=true↔x=u):=by
    rcases i u qv3 with rfl|⟨z,rfl,hz,U⟩
    ·rcases O.ly with j|j
     ·obtain⟨as,J⟩:=aV.reads I d u v m.x B;obtain⟨bs,Y⟩:=aV.reads I d u w m.x C;have e:eA d w=true:=by
       cases d with
       |str y=>
        have:=m.str;subst this;obtain⟨t,rfl⟩:=C;simp[eA,jo]
       |_=>cases Y <;> rfl
      rw[e];refine#[?_,by simp];rw[<- SeqAt.eqv_refl d j];exact SeqAt.eqAt_reads d d _ s w v _ _ Y J j j (by show X.A.units+1+_<_;lia)
     ·obtain⟨b,M,rfl,e,_⟩:=Et m j;cases B;cases C;exact#[SeqAt.EqAt.same _,by simp[eA]]
    ·obtain⟨t,rfl⟩:=C;have nx:x≠.str z:=λe=>by
      subst e;rw[m.qdx] at U;simp[jo] at U
     refine#[?_,by simp[eA,U,nx]];show SeqAt.EqAt _ _ _ _ (jo z d)
     rcases O.ly with j|j
     ·obtain⟨as,J⟩:=aV.reads I d x v m.x B;rw[<- (RQ (z:=z) j).2];exact SeqAt.eqAt_reads _ _ _ s _ _ _ _ (.str z t) J (by simpa [PyData.canLay0] using hz) j (by show X.A.units+1+_<_;omega)
     ·obtain⟨b,M,rfl,e,_,e0⟩:=Et m j;rw[e0];cases B;obtain⟨_,_,vs,kv,⟨ab,dd,dt,sl⟩,es,ep,h1,D,h3,_⟩:=xG I.hok e;obtain⟨D,_⟩:=D;simp only at D h3;subst D h3;intro a0 w E Q hq;unfold eqBool;refine qwL ?_;refine wpAny_ite_split (λT=>absurd (eq_of_beq T) (λz=>nomatch z)) (λ_=>?_);exact qvT (qdy h1 (by show X.A.units+1<_;lia) (qwS hq))
   refine#[λy r=>?_,?_]
   ·rcases qv0.mp r with rfl|r
    ·exact one.1
    ·exact i1 y r
   ·rw[qxC,Bool.or_eq_true,qv0,i2,one.2]
 obtain⟨k1,k2⟩:=N l f G i;refine SeqAt.in_tupleAt (eA d) L (λy r=>k1 y (by simpa using r)) #[.bl _,H,I,rfl,?_];have:f.toArray.any (eA d)=c:=by
  rw[qw3,hc,<- k2];simp
 rw[this];exact q
def oH(φ:PyData->Prop)(H:Hp)(vs:kE):Prop:=∀v∈vs,∃d,dg H d v/\φ d
theorem oH.same(h:oH φ H vs)(s:Same H f):oH φ f vs:=λv a=>by
 obtain⟨d,e,c⟩:=h v a;exact#[d,e.same s,c]
def oH.app(h:oH φ H vs)(k:oH φ H us):oH φ H (vs++us):=λv a=>(qwc.mp a).elim (h v) (k v)
def EE(φ:PyData->Prop)(p:Qv)(t:TE)(σ:St)(H:Hp):Prop:=∀(c:Hp)(Q:VK),(∃o,H p=some o)->Same H c->(∀v d a,Same c a->dg (hid p a) d v->φ d->Q v a)->t σ c Q
def Jx(φ:PyData->Prop)(p:Qv)(n:Nat)(t:TA)(σ:St)(H:Hp):Prop:=∀(e:Hp)(Q:List V->Hp->Prop),(∃o,H p=some o)->Same H e->(∀a c,Same e c->a.length=n->oH φ (hid p c) a->Q a c)->t σ e Q
def qpZ:Jx φ p 0 jg σ H:=λc Q _ _ q=>q [] c (Same.refl _) rfl λv a=>absurd a (by simp)
def oJ(w:EE φ p j σ H)(r:Jx φ p n i σ H):Jx φ p (n+1) (ju j i) σ H:=λA Q h s q=>
 w A _ h s λv d z f l o=>r z _ h (s.trans f) λB y e m a=>q _ y (f.trans e) (by simp[m]) λu c=>by
  rcases qv0.mp c with rfl|c
  ·exact#[d,l.same (eN e),o]
  ·exact a u c
def p7(h:GD p t σ H d)(f:φ d):EE φ p t σ H:=λj Q e s q=>h j Q e s λv i a c=>q v d i a (.inl c) f
def qp0(m:GD p tk σ H (.str x))(l:φ (.dict [(.str x,.int i)])):EE φ p (qbh [(tk,tC (.int i))]) σ H:=λn Q j s q b c=>by
 refine m _ _ j (s.trans (aJ c)) λv r f h=>?_;simp only[aA] at h;subst h;have e:=f _ _ (aB (H:=n) (a:=b) (o:=.dK []));exact#[e,[(Sum.inr x,.int i)],rfl,by simp,q _ _ _ (cN ((aJ c).trans f) c) (.inr #[b,x,i,rfl,rfl,fW (lW j s c) aB]) l]
def qp1(h:Jx φ p n t σ H)(m:∃o,H p=some o)(r:n<=sizeLine)(q:∀b vs a,H b=none->Same H a->vs.length=n->a b=some (.lst vs)->oH φ (hid p (hid b a)) vs->Q (.ref b) a):big (Dk t) σ H Q:=
 #[h H _ m (Same.refl _) λvs a i j l=>#[by rw[j];exact r,λb f=>q b vs _ (gU i f) (i.trans (aJ f)) j aB (l.same (eN λc u e=>fW (cF e f) (cj e f)))]]
def qdz(B:But p H f):But p (hid b H) (hid b f):=λc o a e=>by
 unfold hid at e⊢;split at e
 ·cases e
 ·rename_i h;rw[if_neg h];exact B c o a e
def qp2:Same (hid b H) (hid b (upd H b o)):=mZ λc u a e=>by rw[aN a];exact e
structure Jy(fd:zq)(base:zf)(mg:Zu)(c P:Qv):Prop where
 cd:fd.code = .ref c
 hd:W.CodeHd base c P
 bt:base.BuiltinsAt mg P
def aC.okC{P:J9}{w:zX}{K:W5}{mg:Zu}{base:zf}{x e:Str}{st:Stmt}{f c:Qv}{m:zq}{N ps:QAH}{k:Nat}{sp:Sp}(F:aC K x e st f m)(v:m.code = .ref c)(S:bh N ps (aG st))(len:∀vs H Q E,sp vs H Q E->vs.length=ps.length)(i:∀(A:zY)(a:List Env)(s:Zw)(H:Hp)(vs:kE)(Q:VK)(E:XK),cB k (A.deeper (envOfC e (aG st) s.heap.objs.size f (.ref c)))->sp vs H Q E->
   ∃t,fQ (ao aW P w K mg base N e (aG st) f (.ref c) A a s H E).lC (iI st) t/\t {nx:=λ_ z=>Q .non z,rt:=Q} (jY N vs) H):aO P w K mg base aW (k+1) f m ps sp:=by
 obtain⟨D,C,kV,y,B,L,n,J,o,rfl,r,l⟩:=F.ex;obtain rfl:n = .ref c:=v;refine Ph r l S len λA a s H vs Q E u j=>?_;obtain⟨t,h,q⟩:=i A a s H vs Q E u j;refine#[t,h.lC,?_];have I:=len _ _ _ _ j;have G:ps.length<=N.length:=by have:=qws List.length S.pre;rw[qwe] at this;lia
 rw[Ah N vs ⋯] at q;exact q
def qp3(P:Qv)(H:Hp):Prop:=∀b,b≠P->H b=none\/∃o a,H b=some (.dH o (.lst a))
def qp4{P:J9}{w:zX}{K:W5}{mg mb:Zu}{CX:lH}{k:Nat}{fa a c i:Qv}{fd:zq}{x:Str}{sp:Sp}{f:Zw}{vs:QAE}{ns:qZ}(KX:K.In f.heap)(Q:f.heap.Ns mainGlobals mg)(j:f.heap.Ns builtinsNs mb)(ah:∀x:Str,x≠ "__name__" ->mb x=bootBuiltins x)(T:f.heap.NoLimit)(hg:f.gens = #[])(J:f.heap.get? a=some {cls:=.type "list",data:=.seq vs.toArray})(hi:IntsAre vs ns)(hl:ns.length<=sizeLine)(hr:cB k callerA)(hC:W.CodeHd f.heap c i)(l:f.heap.get? i=some (W.tabObj #[]))(RV:K.lookup i=none)(RW:f.heap.BuiltinsAt mg i)(F:∀base:Heap,K.In base->base.Ns mainGlobals mg->W.CodeHd base c i->base.BuiltinsAt mg i->aO P w K mg base CX k fa fd [x] sp)(I:∀(s:Zw)(u:zT),BindsTo s fd #[[u],[]] [(x,u)])(ag:∀H:Hp,H i=some (.cY #[])->au K H a (ns.map V.int)->sp [.ref a] H (λv _=>v = .bl true) λ_ _ _=>False)(RX:∀H e y,CX [] H f (λ_ _ _=>False) e y->False):
  codeAny (model P w) callerA (.call (.ref fa) #[[.ref a],[]]) (λr y=>r = .ok (.ret (.bool true))/\OldK f.heap y.heap/\y.os=f.os/\AllBare y.gens) f:=by
 have rv:=qav hi;have N:=hi.length;have aP:a≠i:=λz=>by rw[z,l] at J;cases J
 have E:∀H:Hp,qp3 i H->H i=some (.cY #[])->au K H a (ns.map V.int)->cP P w H f.heap->(∀b,H b≠none->b=a\/b=i)->(H a≠none->K.lookup a=none)->
   codeAny (model P w) callerA (.call (.ref fa) #[[.ref a],[]]) (λr y=>r = .ok (.ret (.bool true))/\OldK f.heap y.heap/\y.os=f.os/\AllBare y.gens) f:=by
  intro H hO Y hS O hA hK;have Jz:∀{b:Qv}{o:Obj},f.heap.get? b=some o->H b=none->(nM f.heap H).get? b=some o:=λe n=>qja e n;have zV:∀{b:Qv}{o:Obj},f.heap.get? b=some o->(∀ae n,o.data≠.seq ae n)->o.cls≠.none->H b=none:=λ{b o} e d1 d2=>by
   cases q:H b with
   |none=>rfl
   |some u=>
    rcases hA b (by rw[q];simp) with B|B
    ·subst B;rw[J] at e;cases e;exact absurd rfl (d1 _ _)
    ·subst B;rw[l] at e;cases e;exact absurd rfl d2
  have ac:∀{b:Qv}{o:Obj}{es:Array DictEntry}{ep:Nat},f.heap.get? b=some o->o.data = .dict es ep->H b=none:=λ{b o es ep} e d=>by
   cases q:H b with
   |none=>rfl
   |some u=>
    rcases hA b (by rw[q];simp) with B|B
    ·subst B;rw[J] at e;cases e;cases d
    ·subst B;rw[l] at e;cases e;cases d
  have JB:∀{b:Qv}{m:Zu},f.heap.Ns b m->(nM f.heap H).Ns b m:=λ{b m} ⟨o,es,ep,e,d,r⟩=>#[o,es,ep,Jz e (ac e d),d,r];have U:K.In (nM f.heap H):=λb o e=>Jz (KX b o e) (by
   cases q:H b with
   |none=>rfl
   |some u=>
    rcases hA b (by rw[q];simp) with B|B
    ·subst B;rw[hK (by rw[q];simp)] at e;cases e
    ·subst B;rw[RV] at e;cases e)
  have ai:W.CodeHd (nM f.heap H) c i:=by
   obtain⟨o,ab,a0,tf,L,tg,af,M,tt,e1,e2,e3,r⟩:=hC;exact#[o,ab,a0,tf,L,tg,af,M,tt,Jz e1 (zV e1 (λ_ _ z=>by rw[e3] at z;cases z) (by rw[e2];simp)),e2,e3,r]
  have al:(nM f.heap H).BuiltinsAt mg i:=by
   obtain⟨bm,o,h1,h2,h3,h4,h5,h6,h7,h8⟩:=RW;exact#[bm,o,h1,h2,h3,h4,Jz h5 (zV h5 (λ_ _ z=>by rw[h8] at z;cases z) (by rw[h6];simp)),h6,h7,h8]
  have hM:Mod K mg (nM f.heap H):=#[U,JB Q,#[mb,JB j,ah],let ⟨mc,h1,h2⟩:=T;#[mc,JB h1,h2]];have e0:mK P w K mg (nM f.heap H) callerA [] f H:=#[rfl,hM,λb o e=>qjb e,Nat.le_of_eq (qi_ _ _),trivial,λb j=>absurd (show b∈([]:List Addr) from j) (by simp),O,.of_eq hg];refine qwQ ((F _ U (JB Q) ai al).run callerA [] f H #[[.ref a],[]] [.ref a] [.ref a] _ _ hr e0 (I f (.ref a)) (.cons rfl .nil) (ag H Y hS)) λr y h=>?_;cases r with
  |error e=>exact(RX H e y h).elim
  |ok fl=>
   cases fl with
   |next=>exact False.elim h
   |brk=>exact False.elim h
   |cont=>exact False.elim h
   |ret u=>
    obtain⟨v,H',os,aa,un,D,r',q⟩:=h;have q':v = .bl true:=q;subst q';obtain rfl:u=Value.bool true:=r';have kp:∀b o,b≠i->f.heap.get? b=some o->y.heap.get? b=some o:=λb o A e=>by
     cases q:H b with
     |none=>exact un.keep b o e q (by intro z;exact absurd (show b∈([]:List Addr) from z) (by simp)) (by simp)
     |some u=>
      rcases hO b A with z|⟨ob,xs,z⟩
      ·rw[q] at z;cases z
      ·have z2:=un.jO b ob _ z;obtain⟨e1,_⟩:=O b _ z;obtain⟨e2,_⟩:=D b _ z2;rw[e] at e1;cases e1;exact e2
    obtain⟨C,hm⟩:=un.jP i _ Y;have gP:y.heap.get? i=some (W.tabObj (#[]++C)):=D i _ hm;refine#[rfl,#[λb o e=>?_,λb o e=>?_],os,aa]
    ·by_cases A:b=i
     ·subst A;rw[l] at e;cases e;exact .inr (.inl #[(hC.tab l).isCodeTable,rfl,#[],C,rfl,gP])
     ·exact .inl (kp b o A e)
    ·by_cases A:b=i
     ·exact#[_,by rw[A];exact gP]
     ·exact#[o,kp b o A e]
 cases hk:K.lookup a with
 |some o=>
  have e:=KX a o hk;rw[J] at e;cases e;refine E (λb=>if b=i then some (.cY #[]) else none) (λb A=>.inl (if_neg A)) (if_pos rfl) (.inr #[_,vs.toArray,_,hk,rfl,rfl,rfl,by rw[qwl,N];exact hl,by simpa using rv]) (λb u z=>?_) (λb z=>?_) λz=>absurd (if_neg aP) z
  ·by_cases j:b=i
   ·have z':=(if_pos j).symm.trans z;cases z';subst j;exact l
   ·have z':=(if_neg j).symm.trans z;cases z'
  ·by_cases j:b=i
   ·exact .inr j
   ·exact absurd (if_neg j) z
 |none=>
  refine E (λb=>if b=i then some (.cY #[]) else if b=a then some (.dH {cls:=.type "list",data:=.seq vs.toArray} (.lst (ns.map V.int))) else none) (λb A=>?_) (if_pos rfl)
   (.inl (.inr #[{cls:=.type "list",data:=.seq vs.toArray},(if_neg aP).trans (if_pos rfl)])) (λb u z=>?_) (λb z=>?_) λ_=>hk
  ·by_cases j:b=a
   ·exact .inr #[_,_,(if_neg A).trans (if_pos j)]
   ·exact .inl ((if_neg A).trans (if_neg j))
  ·by_cases G:b=i
   ·have z':=(if_pos G).symm.trans z;cases z';subst G;exact l
   ·by_cases j:b=a
    ·have z':=((if_neg G).trans (if_pos j)).symm.trans z;cases z';subst j;exact#[J,by rw[qv1];exact hl,vs,_,rv,J]
    ·have z':=((if_neg G).trans (if_neg j)).symm.trans z;cases z'
  ·by_cases G:b=i
   ·exact .inr G
   ·by_cases j:b=a
    ·exact .inl j
    ·exact absurd ((if_neg G).trans (if_neg j)) z
def qp5{l:W.OpenLaw}{n k:Nat}{q:J9}{m:QAH}{XP:(Str->Option Value)->Heap->Prop}{YP:World->Heap->Prop}{d dt:DefRec}{K:Params->W.Frag}{CX:World->lH}{sp:World->Sp}{x Q:Str}{c z:Qv}(hn:l.most=some n)(J:n<=sizeLine)(L:d.params.defaults=[])(hr:cB k callerA)(hY:∀(w:zX)(h:zf),YP w h->(K w.params).In h)(B:(recsOf q).find? (λe=>e.name == Q)=some dt)(A:∀w:World,W.tabIn (K w.params) Q=some (c,z))(I:∀w:World,W.noTabs (K w.params)=true)(F:∀(w:zX)(mg:Zu)(fa:Qv)(h:zf),(K w.params).In h->h.Ns mainGlobals mg->mg d.name=some (.ref fa)->
   ∃N:FuncData,(∀(s:Zw)(u:zT),BindsTo s N #[[u],[]] [(x,u)])/\
    ∀base:Heap,(K w.params).In base->base.Ns mainGlobals mg->W.CodeHd base c z->base.BuiltinsAt mg z->aO l.prog w (K w.params) mg base (CX w) k fa N [x] (sp w))(E:∀(w:zX)(H:Hp)(a:Qv)(ns:qZ),ns.length<=n->H z=some (.cY #[])->au (K w.params) H a (ns.map V.int)->sp w [.ref a] H (λv _=>v = .bl true) λ_ _ _=>False)(RX:∀(w:zX)(H:Hp)(s:Zw)(e:zT)(D:Zw),CX w [] H s (λ_ _ _=>False) e D->False):
  W.WalkO q m XP YP l.row.toRowW d [] (λf vs=>PySem.call f vs):=by
 refine Att.qkM hn L λw U i mg mb fa o pm cd aa a vs ns G Y ho hd a0 hmg C r j hg=>?_;have KX:=hY w _ Y;obtain⟨N,hb,hF⟩:=F w mg fa _ KX G.T.g hmg;obtain⟨hC,y⟩:=W.tab_of G.T KX B (A w);have RV:(K w.params).lookup z=none:=by
  cases e:(K w.params).lookup z with
  |none=>rfl
  |some ob=>
   have e1:=KX _ _ e;rw[y] at e1;cases e1;have h2:=qwa.mp (I w) _ (W.mem_of_lookupK e);cases (show false=true from h2)
 have RW:i.heap.BuiltinsAt mg z:=by
  obtain⟨bm,ob,b1,b2,b3,b4,b5,O⟩:=G.T.bmain;refine#[bm,ob,b1,b2,λq=>?_,λq=>?_,b3,b4,b5,O]
  ·obtain⟨o',es,ep,e,M,_⟩:=G.T.g;rw[q,e] at b3;cases b3;rw[M] at O;cases O
  ·rw[q,y] at b3;cases b3;cases b4
 exact qp4 KX G.T.g G.T.b G.T.builtins G.T.nolimit hg C r (qv7 j J) hr hC y RV RW hF hb (λH hO hS=>E w H a ns j hO hS) λH e D=>RX w H i e D
def qp6{K:W5}{x:Str}{f c P:Qv}{r j:zT}{o i:wJ}{n h:Array (QAG)}{m:zq}{vs:qx}(a:W.nsIn K mainGlobals x=some (some (.ref f)))(l:K.lookup f=some #[r,o,.func m,n])(e:m.code = .ref c)(k:K.lookup c=some #[j,i,.fields vs,h])(v:vs[11]? = some (.ref P)):W.tabIn K x=some (c,P):=by
 unfold W.tabIn;rw[a];dsimp only;rw[l];dsimp only;rw[e];dsimp only;rw[k];dsimp only;rw[v]
end L2
local macro_rules | `(tactic| rfl') => `(tactic| exact ⟨rfl, by decide +kernel, by decide +kernel, rfl, by decide +kernel, by decide +kernel⟩)
local macro_rules | `(tactic| left) => `(tactic| simp -dsimp [L2.ao,L2.stC,-Bool.exists_bool,-List.map_take,-Prod.forall,-Prod.exists])
local macro_rules | `(tactic| symm) => `(tactic| decide +kernel)
local macro_rules | `(tactic| exists $H, $p, $v, $s:ident, $e:ident, $G:ident, $h) => `(tactic| (have $s : L2.Same $H (L2.upd $H $p $v) := L2.aJ $h; have $e : L2.upd $H $p $v $p = some $v := L2.aB; generalize L2.upd $H $p $v = $G at $s:ident $e:ident ⊢))
local macro_rules | `(tactic| exists $a, $b) => `(tactic| refine $a $b (fun $(Lean.mkIdent `vs) $(Lean.mkIdent `H) $(Lean.mkIdent `Q) $(Lean.mkIdent `E) $(Lean.mkIdent `h) => by cases $(Lean.mkIdent `h):term; subst_vars; rfl) (fun $(Lean.mkIdent `cdv) $(Lean.mkIdent `A) $(Lean.mkIdent `outer) $(Lean.mkIdent `s) $(Lean.mkIdent `H) $(Lean.mkIdent `vs) $(Lean.mkIdent `Q) $(Lean.mkIdent `E) $(Lean.mkIdent `hr) $(Lean.mkIdent `h) => ?_))
local macro_rules | `(tactic| ac_rfl) => `(tactic| exact ⟨rfl, rfl, rfl, by decide +kernel, rfl, by decide +kernel, by decide +kernel⟩)
namespace oK
open PySem L2
def top(i:Nat):Stmt:=PySem.Challenge.pw_pointways_k76_ways_and_times_refused.main.body.getD i (.Pass #[0,0,0,0])
abbrev RZ:Stmt:=top 1
abbrev R0:Stmt:=top 2
abbrev JC:Stmt:=top 3
abbrev R4:Stmt:=inClass (top 20) 0
abbrev R5:Stmt:=top 28
abbrev R6:Stmt:=top 29
abbrev Eu:Stmt:=top 30
abbrev JD:Stmt:=top 31
abbrev JF:Stmt:=top 32
abbrev JG:Stmt:=top 33
abbrev JH:Stmt:=inClass (top 34) 0
abbrev R7:Stmt:=inClass (top 34) 1
abbrev R8:Stmt:=inClass (top 34) 2
abbrev R9:Stmt:=inClass (top 34) 3
abbrev R_:Stmt:=top 35
abbrev Sd:Stmt:=top 36
abbrev JK:Stmt:=top 37
abbrev Sg:Stmt:=top 39
abbrev JL:Stmt:=top 40
abbrev Sh:Stmt:=top 41
abbrev Ss:Stmt:=top 42
abbrev JM:Stmt:=top 43
abbrev JN:Stmt:=top 44
abbrev JQ:Stmt:=top 45
abbrev Sv:Stmt:=top 47
abbrev Sw:Stmt:=top 48
abbrev Sx:Stmt:=top 49
abbrev Sy:Stmt:=top 51
abbrev SJ:Stmt:=top 52
abbrev JR:Stmt:=top 53
abbrev JT:Stmt:=top 54
abbrev Ew:Stmt:=top 56
abbrev JV:Stmt:=top 57
abbrev SM:Stmt:=top 58
abbrev JW:Stmt:=top 59
abbrev JX:Stmt:=top 60
abbrev SN:Stmt:=top 61
abbrev Ey:Stmt:=top 63
abbrev JZ:Stmt:=top 64
abbrev J0:Stmt:=top 65
abbrev Ez:Stmt:=top 66
abbrev J_:Stmt:=top 68
abbrev SQ:Stmt:=top 69
abbrev SX:Stmt:=top 71
abbrev S_:Stmt:=top 72
abbrev Tc:Stmt:=top 75
abbrev Td:Stmt:=top 76
abbrev qd:Stmt:=top 77
abbrev Tf:Stmt:=top 78
abbrev Bb:Stmt:=top 79
abbrev Ka:Stmt:=top 80
abbrev Tg:Stmt:=top 82
abbrev Tj:Stmt:=top 83
abbrev Kc:Stmt:=top 84
abbrev Tn:Stmt:=top 85
abbrev Tp:Stmt:=top 86
abbrev Bc:Stmt:=top 87
abbrev Tq:Stmt:=top 88
abbrev Tr:Stmt:=top 89
abbrev Tt:Stmt:=top 90
abbrev Tv:Stmt:=top 91
abbrev Tw:Stmt:=top 92
abbrev qe:Stmt:=top 93
def EY:bh ["web", "fixed", "steps", "number", "first", "second"] ["web", "fixed"] (aG RZ):=by ac_rfl
def rM:bh ["start", "steps", "ways", "row", "at", "here", "number", "origin", "goal"] ["start", "steps"] (aG R0):=by ac_rfl
def qdA:bh ["web", "start", "steps", "ways"] ["web", "start", "steps"] (aG JC):=by ac_rfl
def qp7:bh ["self", "lot"] ["self", "lot"] (aG R4):=by ac_rfl
def qdB:bh ["thing"] ["thing"] (aG R5):=by ac_rfl
def qp8:bh ["thing"] ["thing"] (aG R6):=by ac_rfl
def qdC:bh ["thing"] ["thing"] (aG Eu):=by ac_rfl
def qp9:bh ["thing"] ["thing"] (aG JD):=by ac_rfl
def qp_:bh ["thing", "points"] ["thing", "points"] (aG JF):=by ac_rfl
def qqa:bh ["thing", "points"] ["thing", "points"] (aG JG):=by ac_rfl
def qqb:bh ["self", "points", "ties"] ["self", "points", "ties"] (aG JH):=by ac_rfl
def qqc:bh ["self"] ["self"] (aG R7):=by ac_rfl
def qqd:bh ["self"] ["self"] (aG R8):=by ac_rfl
def qqe:bh ["self"] ["self"] (aG R9):=by ac_rfl
def qdD:bh ["web", "thing"] ["web", "thing"] (aG R_):=by ac_rfl
def qqf:bh ["web", "thing"] ["web", "thing"] (aG Sd):=by ac_rfl
def qqg:bh ["web", "thing"] ["web", "thing"] (aG JK):=by ac_rfl
def qqh:bh ["thing"] ["thing"] (aG Sg):=by ac_rfl
def qqi:bh ["web", "thing"] ["web", "thing"] (aG JL):=by ac_rfl
def qdE:bh ["web", "thing"] ["web", "thing"] (aG Sh):=by ac_rfl
def qdF:bh ["web", "pointing"] ["web", "pointing"] (aG Ss):=by ac_rfl
def qqj:bh ["web", "one", "other"] ["web", "one", "other"] (aG JM):=by ac_rfl
def qqk:bh ["steps", "lot"] ["steps", "lot"] (aG JN):=by ac_rfl
def qql:bh ["web", "pointing", "numbers"] ["web", "pointing", "numbers"] (aG JQ):=by ac_rfl
def qdG:bh ["web", "thing"] ["web", "thing"] (aG Sv):=by ac_rfl
def qdH:bh ["web", "pointing", "a", "b", "steps"] ["web", "pointing", "a", "b"] (aG Sw):=by ac_rfl
def qdI:bh ["web", "pointing", "point", "steps"] ["web", "pointing", "point"] (aG Sx):=by ac_rfl
def qqm:bh ["web", "a", "b"] ["web", "a", "b"] (aG Sy):=by ac_rfl
def E_:bh ["web", "pointing", "a", "b", "left", "numbers"] ["web", "pointing", "a", "b"] (aG SJ):=by ac_rfl
def Bf:bh ["steps", "a", "b", "left", "told", "numbers"] ["steps", "a", "b"] (aG JR):=by ac_rfl
def Kd:bh ["web", "pointing", "a", "b", "left", "found", "lot"] ["web", "pointing", "a", "b"] (aG JT):=by ac_rfl
def qdJ:bh ["web", "points", "lot"] ["web", "points"] (aG Ew):=by ac_rfl
def Ke:bh ["points", "parts", "point"] ["points"] (aG JV):=by ac_rfl
def qqn:bh ["web"] ["web"] (aG SM):=by ac_rfl
def qqo:bh ["web", "part"] ["web", "part"] (aG JW):=by ac_rfl
def Tz:bh ["web", "lot", "inside", "ties"] ["web", "lot"] (aG JX):=by ac_rfl
def qqp:bh ["web", "lot"] ["web", "lot"] (aG SN):=by ac_rfl
def qdK:bh ["web", "pointing", "goals"] ["web", "pointing"] (aG Ey):=by ac_rfl
def qdL:bh ["web", "points"] ["web"] (aG JZ):=by ac_rfl
def TF:bh ["weighed", "ins", "k", "places", "many"] ["weighed", "ins", "k"] (aG J0):=by ac_rfl
def Kf:bh ["web", "ins", "wanted", "rows", "lacking", "spare"] ["web", "ins", "wanted"] (aG Ez):=by ac_rfl
def qqq:bh ["web", "thing"] ["web", "thing"] (aG J_):=by ac_rfl
def Kg:bh ["steps", "starts", "ends", "start", "ways", "end"] ["steps", "starts", "ends"] (aG SQ):=by ac_rfl
def qqr:bh ["web", "steps", "lacking", "spare", "points"] ["web", "steps", "lacking", "spare"] (aG SX):=by ac_rfl
def rN:bh ["web", "ins", "pointing", "lacking", "spare", "steps", "numbers"] ["web", "ins"] (aG S_):=by ac_rfl
def qqs:bh ["thing", "least"] ["thing", "least"] (aG Tc):=by ac_rfl
def qdM:bh ["web", "k", "lot"] ["web", "k"] (aG Td):=by ac_rfl
def Fb:bh ["web", "pointing", "steps", "counted"] ["web", "pointing"] (aG qd):=by ac_rfl
def qqt:bh ["many"] ["many"] (aG Tf):=by ac_rfl
def Fd:bh ["web", "ends", "rows", "point"] ["web"] (aG Bb):=by ac_rfl
def TJ:bh ["web", "k", "weighed", "good"] ["web", "k"] (aG Ka):=by ac_rfl
def qdN:bh ["_law_script", "_law_k", "_law_cell"] ["_law_script", "_law_k"] (aG Tg):=by ac_rfl
def qdO:bh ["_law_pot_here", "_law_many", "_law_digit"] ["_law_pot_here", "_law_many"] (aG Tj):=by ac_rfl
def yr:bh ["_law_pot_here", "_law_many", "_law_letters", "_law_begin", "_law_found", "_law_k", "_law_size", "_law_more"] ["_law_pot_here", "_law_many"] (aG Kc):=by ac_rfl
def TQ:bh ["_law_pot_here", "_law_things", "_law_found", "_law_thing"] ["_law_pot_here", "_law_things"] (aG Tn):=by ac_rfl
def TV:bh ["_law_pot_here", "_law_names_here", "_law_a", "_law_b"] ["_law_pot_here", "_law_names_here"] (aG Tp):=by ac_rfl
def rO:bh ["_law_pot_here", "_law_points", "_law_most", "_law_names_here", "_law_kind", "_law_ties", "_law_row", "_law_k", "_law_turns"] ["_law_pot_here", "_law_points", "_law_most"] (aG Bc):=by ac_rfl
def TX:bh ["_law_e", "_law_others", "_law_kinds"] ["_law_e"] (aG Tq):=by ac_rfl
def Fe:bh ["_law_made", "_law_road", "_law_things", "_law_kept", "_law_said_here", "_law_e"] ["_law_made", "_law_road", "_law_things"] (aG Tr):=by ac_rfl
def Fg:bh ["_law_pot_here", "_law_row", "_law_some", "_law_at", "_law_odd"] ["_law_pot_here", "_law_row"] (aG Tt):=by ac_rfl
def Kh:bh ["_law_pot_here", "_law_web_here", "_law_name", "_law_some", "_law_other"] ["_law_pot_here", "_law_web_here"] (aG Tv):=by ac_rfl
def qdP:bh ["_law_pot_here", "_law_some"] ["_law_pot_here"] (aG Tw):=by ac_rfl
def qg:bh ["_law_script", "_law_k", "_law_pot_here", "_law_web_here", "_law_made", "_law_row", "_law_bad", "_law_strange", "_law_here", "_law_there", "_law_a", "_law_b"] ["_law_script"] (aG qe):=by ac_rfl
set_option genInjectivity false in
structure Fi where
 uw:Addr
 Kl:FuncData
 ux:Addr
 Km:FuncData
 uy:Addr
 Ko:FuncData
 rP:Addr
 Kp:FuncData
 rQ:Addr
 Fj:FuncData
 uz:Addr
 Kq:FuncData
 qj:Addr
 Bg:FuncData
 uD:Addr
 Kr:FuncData
 uE:Addr
 Ks:FuncData
 uF:Addr
 Ku:FuncData
 rR:Addr
 Kv:FuncData
 rT:Addr
 Kw:FuncData
 rW:Addr
 Ky:FuncData
 rY:Addr
 Kz:FuncData
 rZ:Addr
 Fl:FuncData
 uG:Addr
 KC:FuncData
 uH:Addr
 KD:FuncData
 uI:Addr
 KH:FuncData
 uJ:Addr
 KJ:FuncData
 su:Addr
 Fo:FuncData
 sy:Addr
 Fp:FuncData
 uK:Addr
 KN:FuncData
 uL:Addr
 KQ:FuncData
 uM:Addr
 KR:FuncData
 sE:Addr
 Fq:FuncData
 uN:Addr
 KY:FuncData
 uO:Addr
 KZ:FuncData
 uP:Addr
 K1:FuncData
 uQ:Addr
 K3:FuncData
 uR:Addr
 K4:FuncData
 uT:Addr
 K5:FuncData
 uU:Addr
 K6:FuncData
 uV:Addr
 K7:FuncData
 uW:Addr
 K8:FuncData
 uZ:Addr
 K9:FuncData
 u5:Addr
 K_:FuncData
 u6:Addr
 La:FuncData
 u9:Addr
 Lb:FuncData
 u_:Addr
 Ld:FuncData
 vd:Addr
 Le:FuncData
 vf:Addr
 Lg:FuncData
 vg:Addr
 Lh:FuncData
 vh:Addr
 Li:FuncData
 vm:Addr
 Lj:FuncData
 vo:Addr
 Lk:FuncData
 vp:Addr
 Ln:FuncData
 vq:Addr
 Lr:FuncData
 oM:Addr
 ql:FuncData
 vA:Addr
 Ls:FuncData
 vB:Addr
 Lw:FuncData
 vC:Addr
 Lx:FuncData
 vD:Addr
 Ly:FuncData
 vG:Addr
 Lz:FuncData
 vH:Addr
 LC:FuncData
 vI:Addr
 LK:FuncData
 vJ:Addr
 LQ:FuncData
 vK:Addr
 LR:FuncData
 vL:Addr
 L_:FuncData
 vM:Addr
 Ma:FuncData
 vN:Addr
 Mf:FuncData
 vO:Addr
 Mg:FuncData
 vP:Addr
 Mh:FuncData
 vQ:Addr
 Mi:FuncData
 yt:Value
 yu:Value
 yx:Value
 yC:Value
 yD:Value
 bx:Addr
 bC:Addr
 fM:Addr
 gk:Addr
 gF:Addr
 j4:Addr
 j6:Addr
 j7:Addr
 j8:Addr
 j9:Addr
 j_:Addr
 kh:Addr
 kj:Addr
 kI:Addr
 kJ:Addr
 kO:Addr
 kW:Addr
 kY:Addr
 dF:Addr
def sG(a:Fi):List Addr:=[a.fM,a.gk,a.gF,a.j4,a.j6,a.j7,a.j8,a.j9,a.j_,a.kh,a.kj,a.kI,a.kJ,a.kO,a.kW,a.kY,a.dF]
structure Txt(K:W5)(mg:Zu)(a:Fi):Prop where
 Mj:aC K "steps_along" "steps_along" RZ a.uw a.Kl
 TY:Binds K a.Kl ["web", "fixed"] []
 T3:mg "steps_along" = some (.ref a.uw)
 yE:aC K "ways_along" "ways_along" R0 a.ux a.Km
 Bh:Binds K a.Km ["start", "steps"] []
 Bj:mg "ways_along" = some (.ref a.ux)
 T8:aC K "found_along" "found_along" JC a.uy a.Ko
 qdQ:Binds K a.Ko ["web", "start", "steps"] []
 qdR:mg "found_along" = some (.ref a.uy)
 qdS:aC K "__init__" "Thin.__init__" R4 a.rP a.Kp
 qdT:Binds K a.Kp ["self", "lot"] []
 qm:aC K "is_list" "is_list" R5 a.rQ a.Fj
 vR:Binds K a.Fj ["thing"] []
 vU:mg "is_list" = some (.ref a.rQ)
 Bk:aC K "is_whole" "is_whole" R6 a.uz a.Kq
 Ft:Binds K a.Kq ["thing"] []
 Fv:mg "is_whole" = some (.ref a.uz)
 vV:aC K "is_name" "is_name" Eu a.qj a.Bg
 Bl:Binds K a.Bg ["thing"] []
 Bm:mg "is_name" = some (.ref a.qj)
 T9:aC K "are_points" "are_points" JD a.uD a.Kr
 qdU:Binds K a.Kr ["thing"] []
 qdV:mg "are_points" = some (.ref a.uD)
 T_:aC K "is_tie" "is_tie" JF a.uE a.Ks
 qdW:Binds K a.Ks ["thing", "points"] []
 qdX:mg "is_tie" = some (.ref a.uE)
 Ua:aC K "are_ties" "are_ties" JG a.uF a.Ku
 qdY:Binds K a.Ku ["thing", "points"] []
 qdZ:mg "are_ties" = some (.ref a.uF)
 qd0:aC K "__init__" "Web.__init__" JH a.rR a.Kv
 qd1:Binds K a.Kv ["self", "points", "ties"] []
 qd2:aC K "points" "Web.points" R7 a.rT a.Kw
 lY:Binds K a.Kw ["self"] []
 qd3:aC K "ties" "Web.ties" R8 a.rW a.Ky
 Fw:Binds K a.Ky ["self"] []
 qd4:aC K "many" "Web.many" R9 a.rY a.Kz
 Fx:Binds K a.Kz ["self"] []
 Fy:aC K "is_point" "is_point" R_ a.rZ a.Fl
 Ub:Binds K a.Fl ["web", "thing"] []
 Uc:mg "is_point" = some (.ref a.rZ)
 Ud:aC K "is_number" "is_number" Sd a.uG a.KC
 qd5:Binds K a.KC ["web", "thing"] []
 qd6:mg "is_number" = some (.ref a.uG)
 Ue:aC K "are_numbers" "are_numbers" JK a.uH a.KD
 qd7:Binds K a.KD ["web", "thing"] []
 qd8:mg "are_numbers" = some (.ref a.uH)
 Ug:aC K "is_lead" "is_lead" Sg a.uI a.KH
 qd9:Binds K a.KH ["thing"] []
 qd_:mg "is_lead" = some (.ref a.uI)
 Ml:aC K "is_pointing" "is_pointing" JL a.uJ a.KJ
 Uh:Binds K a.KJ ["web", "thing"] []
 Ui:mg "is_pointing" = some (.ref a.uJ)
 yF:aC K "sure_of_pointing" "sure_of_pointing" Sh a.su a.Fo
 Fz:Binds K a.Fo ["web", "thing"] []
 FJ:mg "sure_of_pointing" = some (.ref a.su)
 qp:aC K "arrows" "arrows" Ss a.sy a.Fp
 vW:Binds K a.Fp ["web", "pointing"] []
 vX:mg "arrows" = some (.ref a.sy)
 Uj:aC K "unlike_steps" "unlike_steps" JM a.uK a.KN
 qea:Binds K a.KN ["web", "one", "other"] []
 qeb:mg "unlike_steps" = some (.ref a.uK)
 Uk:aC K "steps_into" "steps_into" JN a.uL a.KQ
 qec:Binds K a.KQ ["steps", "lot"] []
 qee:mg "steps_into" = some (.ref a.uL)
 Mp:aC K "turned" "turned" JQ a.uM a.KR
 Ul:Binds K a.KR ["web", "pointing", "numbers"] []
 Um:mg "turned" = some (.ref a.uM)
 vY:aC K "sure_of_point" "sure_of_point" Sv a.sE a.Fq
 Bo:Binds K a.Fq ["web", "thing"] []
 Bp:mg "sure_of_point" = some (.ref a.sE)
 Mq:aC K "way" "way" Sw a.uN a.KY
 Uo:Binds K a.KY ["web", "pointing", "a", "b"] []
 Uq:mg "way" = some (.ref a.uN)
 Ur:aC K "reached" "reached" Sx a.uO a.KZ
 qef:Binds K a.KZ ["web", "pointing", "point"] []
 qeg:mg "reached" = some (.ref a.uO)
 Us:aC K "sure_of_two_points" "sure_of_two_points" Sy a.uP a.K1
 qeh:Binds K a.K1 ["web", "a", "b"] []
 qei:mg "sure_of_two_points" = some (.ref a.uP)
 Ut:aC K "turned_till_none_leads" "turned_till_none_leads" SJ a.uQ a.K3
 qej:Binds K a.K3 ["web", "pointing", "a", "b"] []
 qek:mg "turned_till_none_leads" = some (.ref a.uQ)
 Uu:aC K "ways_taken" "ways_taken" JR a.uR a.K4
 qel:Binds K a.K4 ["steps", "a", "b"] []
 qem:mg "ways_taken" = some (.ref a.uR)
 Uv:aC K "ways_apart" "ways_apart" JT a.uT a.K5
 qen:Binds K a.K5 ["web", "pointing", "a", "b"] []
 qeo:mg "ways_apart" = some (.ref a.uT)
 Mr:aC K "lot_of" "lot_of" Ew a.uU a.K6
 Uw:Binds K a.K6 ["web", "points"] []
 Ux:mg "lot_of" = some (.ref a.uU)
 Uy:aC K "all_parts" "all_parts" JV a.uV a.K7
 qep:Binds K a.K7 ["points"] []
 qeq:mg "all_parts" = some (.ref a.uV)
 FN:aC K "all_lots" "all_lots" SM a.uW a.K8
 Ms:Binds K a.K8 ["web"] []
 Mt:mg "all_lots" = some (.ref a.uW)
 Uz:aC K "ties_inside" "ties_inside" JW a.uZ a.K9
 qer:Binds K a.K9 ["web", "part"] []
 qes:mg "ties_inside" = some (.ref a.uZ)
 UG:aC K "crossing" "crossing" JX a.u5 a.K_
 qet:Binds K a.K_ ["web", "lot"] []
 qeu:mg "crossing" = some (.ref a.u5)
 UJ:aC K "within" "within" SN a.u6 a.La
 qev:Binds K a.La ["web", "lot"] []
 qew:mg "within" = some (.ref a.u6)
 Mu:aC K "ins_of" "ins_of" Ey a.u9 a.Lb
 UL:Binds K a.Lb ["web", "pointing"] []
 UW:mg "ins_of" = some (.ref a.u9)
 U0:aC K "weighed_lots" "weighed_lots" JZ a.u_ a.Ld
 qex:Binds K a.Ld ["web"] []
 qey:mg "weighed_lots" = some (.ref a.u_)
 U3:aC K "is_over_by" "is_over_by" J0 a.vd a.Le
 qez:Binds K a.Le ["weighed", "ins", "k"] []
 qeA:mg "is_over_by" = some (.ref a.vd)
 Mv:aC K "gaps" "gaps" Ez a.vf a.Lg
 U4:Binds K a.Lg ["web", "ins", "wanted"] []
 U5:mg "gaps" = some (.ref a.vf)
 U6:aC K "sure_of_ins" "sure_of_ins" J_ a.vg a.Lh
 qeB:Binds K a.Lh ["web", "thing"] []
 qeC:mg "sure_of_ins" = some (.ref a.vg)
 U7:aC K "way_between" "way_between" SQ a.vh a.Li
 qeD:Binds K a.Li ["steps", "starts", "ends"] []
 qeE:mg "way_between" = some (.ref a.vh)
 U8:aC K "refuse_ins" "refuse_ins" SX a.vm a.Lj
 qeF:Binds K a.Lj ["web", "steps", "lacking", "spare"] []
 qeG:mg "refuse_ins" = some (.ref a.vm)
 U9:aC K "pointing_of" "pointing_of" S_ a.vo a.Lk
 qeH:Binds K a.Lk ["web", "ins"] []
 qeI:mg "pointing_of" = some (.ref a.vo)
 U_:aC K "sure_of_times" "sure_of_times" Tc a.vp a.Ln
 qeJ:Binds K a.Ln ["thing", "least"] []
 qeK:mg "sure_of_times" = some (.ref a.vp)
 Va:aC K "sure_of_thick_lots" "sure_of_thick_lots" Td a.vq a.Lr
 qeL:Binds K a.Lr ["web", "k"] []
 qeM:mg "sure_of_thick_lots" = some (.ref a.vq)
 Mw:aC K "times_over" "times_over" qd a.oM a.ql
 qeN:Binds K a.ql ["web", "pointing"] []
 qeO:mg "times_over" = some (.ref a.oM)
 Vb:aC K "halves" "halves" Tf a.vA a.Ls
 qeP:Binds K a.Ls ["many"] []
 qeQ:mg "halves" = some (.ref a.vA)
 Vc:aC K "halved_ins" "halved_ins" Bb a.vB a.Lw
 qeR:Binds K a.Lw ["web"] []
 qeS:mg "halved_ins" = some (.ref a.vB)
 Vd:aC K "pointed_over" "pointed_over" Ka a.vC a.Lx
 qeT:Binds K a.Lx ["web", "k"] []
 qeU:mg "pointed_over" = some (.ref a.vC)
 Ve:aC K "_law_pot" "_law_pot" Tg a.vD a.Ly
 qeV:Binds K a.Ly ["_law_script", "_law_k"] []
 qeW:mg "_law_pot" = some (.ref a.vD)
 gw:aC K "_law_take" "_law_take" Tj a.vG a.Lz
 gG:Binds K a.Lz ["_law_pot_here", "_law_many"] []
 gH:mg "_law_take" = some (.ref a.vG)
 Vf:aC K "_law_names" "_law_names" Kc a.vH a.LC
 qeX:Binds K a.LC ["_law_pot_here", "_law_many"] []
 qeY:mg "_law_names" = some (.ref a.vH)
 Mx:aC K "_law_mixed" "_law_mixed" Tn a.vI a.LK
 Vg:Binds K a.LK ["_law_pot_here", "_law_things"] []
 Vh:mg "_law_mixed" = some (.ref a.vI)
 Vi:aC K "_law_tie" "_law_tie" Tp a.vJ a.LQ
 qeZ:Binds K a.LQ ["_law_pot_here", "_law_names_here"] []
 qe0:mg "_law_tie" = some (.ref a.vJ)
 Vj:aC K "_law_web" "_law_web" Bc a.vK a.LR
 qe1:Binds K a.LR ["_law_pot_here", "_law_points", "_law_most"] []
 qe2:mg "_law_web" = some (.ref a.vK)
 Vk:aC K "_law_class" "_law_class" Tq a.vL a.L_
 qe3:Binds K a.L_ ["_law_e"] []
 qe4:mg "_law_class" = some (.ref a.vL)
 sH:aC K "_law_said" "_law_said" Tr a.vM a.Ma
 vZ:Binds K a.Ma ["_law_made", "_law_road", "_law_things"] []
 wg:mg "_law_said" = some (.ref a.vM)
 Vl:aC K "_law_no_pointing" "_law_no_pointing" Tt a.vN a.Mf
 qe5:Binds K a.Mf ["_law_pot_here", "_law_row"] []
 qe6:mg "_law_no_pointing" = some (.ref a.vN)
 Vm:aC K "_law_no_point" "_law_no_point" Tv a.vO a.Mg
 qe7:Binds K a.Mg ["_law_pot_here", "_law_web_here"] []
 qe8:mg "_law_no_point" = some (.ref a.vO)
 Vn:aC K "_law_no_number" "_law_no_number" Tw a.vP a.Mh
 qe9:Binds K a.Mh ["_law_pot_here"] []
 qe_:mg "_law_no_number" = some (.ref a.vP)
 qfa:aC K "law" "law" qe a.vQ a.Mi
 qqu:Binds K a.Mi ["_law_script"] []
 qqv:mg "law" = some (.ref a.vQ)
 Vo:mg "LETTERS" = some a.yt
 Vp:RelV (.str "abcdefghijklmnopqrstuvwxyz") a.yt
 Vq:mg "MOST_LETTERS" = some a.yu
 Vr:RelV (.int 4) a.yu
 qfb:mg "MOST_POINTS" = some a.yx
 qfc:RelV (.int 9) a.yx
 qfd:mg "MOST_TIES" = some a.yC
 qfe:RelV (.int 20) a.yC
 Vs:mg "MOST_TIMES" = some a.yD
 Vt:RelV (.int 9) a.yD
 qff:mg "Web" = some (.ref a.bx)
 eU:Cls K a.bx
 Vu:pB K a.bx "names"
 Mz:pB K a.bx "pairs"
 qfg:Mk K a.bx a.rR
 lZ:Meth K a.bx "points" a.rT
 FP:Meth K a.bx "ties" a.rW
 FQ:Meth K a.bx "many" a.rY
 Vv:mg "PointError" = some (.ref a.bC)
 Vw:mg "NoPointing" = some (.ref a.fM)
 MF:mg "NoPoint" = some (.ref a.gk)
 Vx:mg "NoNumber" = some (.ref a.gF)
 qfh:mg "NoWeb" = some (.ref a.j4)
 qfi:mg "NoText" = some (.ref a.j6)
 qfj:mg "NoNumbers" = some (.ref a.j7)
 qfk:mg "NoLot" = some (.ref a.j8)
 qfl:mg "NoEars" = some (.ref a.j9)
 qfm:mg "NoFixed" = some (.ref a.j_)
 qfn:mg "Unlike" = some (.ref a.kh)
 qfo:mg "NotOver" = some (.ref a.kj)
 qfp:mg "TooMuch" = some (.ref a.kI)
 qfq:mg "Parted" = some (.ref a.kJ)
 qfr:mg "Barred" = some (.ref a.kO)
 qfs:mg "Shut" = some (.ref a.kW)
 qft:mg "NoIns" = some (.ref a.kY)
 Vy:mg "Thin" = some (.ref a.dF)
 yG:uq K a.bC
 yH:uq K a.fM
 wj:uq K a.gk
 yI:uq K a.gF
 wk:XC K a.fM a.bC
 wu:XC K a.gk a.bC
 wz:XC K a.gF a.bC
 Bq:XC K a.j4 a.bC
 Br:XC K a.j6 a.bC
 Bs:XC K a.j7 a.bC
 Bt:XC K a.j8 a.bC
 Bu:XC K a.j9 a.bC
 Bv:XC K a.j_ a.bC
 Bw:XC K a.kh a.bC
 Bx:XC K a.kj a.bC
 BJ:XC K a.kI a.bC
 BK:XC K a.kJ a.bC
 BL:XC K a.kO a.bC
 BP:XC K a.kW a.bC
 BW:XC K a.kY a.bC
 oO:XC K a.dF a.bC
 ib:W.isClsIn K a.bC=true
 tb:W.typeIn K (.ref a.bC)=some (.type "type")
 ini:qcX K a.bC
 BX:W.specialIn K (.builtin "object.__class__") "__get__" = some (some (.builtin "getset_descriptor.__get__"))
 BZ:W.takesIn K (.builtin "object.__class__")=some true
 nd:(a.bC::sG a).Nodup
 B_:mg "ValueError" = none
 MJ:Av K a.dF a.bC a.rP
 qfu:Ed K a.dF a.bC
 Ca:W.findIn K (.ref a.dF) "lot" = some none
 nm:Nm mg
 nu:Nm2 mg
 Vz:Nm3 mg
end oK
namespace oK
open PySem L2
variable {P:J9}{w:zX}{K:W5}{mg:Zu}{base:zf}{a:Fi}
def bA(H:Hp)(p:Qv):Prop:=∃x y:Int,H p=some (.lst [.int x,.int y])/\0<=x/\0<=y/\y<4294967296
inductive qfv  (K:W5):Sp
 |mk (l:Qv) (ns:qZ) (k:Nat) (_:vs=[.ref l,.int k]) (_:au K H l (ns.map V.int)) (_:k<100) (_:∀p H',H p=none->bA H' p->But p H H'->Q (.ref p) H'):qfv K vs H Q E
inductive qfw:Sp
 |mk (p:Qv) (m:Int) (_:vs=[.ref p,.int m]) (_:bA H p) (_:0<m) (_:m<1000000) (_:∀(d:Int) H',0<=d->d<m->bA H' p->But p H H'->Q (.int d) H'):qfw vs H Q E
def qqw(T:Txt K mg a):aO P w K mg base aW 1 a.vD a.Ly ["_law_script", "_law_k"] (qfv K):=by
 exists T.Ve.bG,qdN
 ·obtain⟨l,j,k,rfl,m,r,q⟩:=h;refine#[_,(aK (bF (i:=2) qdN.nd rfl (Or.inl rfl) (Oz (bN Al (aj 1) (bw (cW (K:=K) rfl) rfl T.nm.len qv9 (ak (aj 0) aq)) (bV _)) (bQ (bT (K:=K) rfl) (aj 0) (aj 1) (λ_ _=>rfl)) aH))
   (aF (aX (cM (ak (bw (qcy rfl) rfl T.nm.max boot_max (ak aH (ak (bI Ak (bw qcx rfl T.nm.abs boot_abs (ak (aj 2) aq)) (bI Q0 aH aH)) aq))) (ak (bI mY (bI mY (bI xT (bw qcx rfl T.nm.abs boot_abs (ak (aj 2) aq)) aH) (bI DQ aH (aj 1))) aH) aq)))))),?_]
  have f:∀(x y:Int),0<=x->0<=y->y<4294967296->∀p:Addr,H p=none->Q (.ref p) (upd H p (.lst [.int x,.int y])):=λx y B z v p n=>
   q p _ n #[x,y,aB,B,z,v] λb o u e=>by rw[aN u];exact e
  left;refine#[_,.inl m,aM.of (λh=>?_) (λh=>?_)]
  ·have c:k<j.length:=by simpa using h
   left;refine#[_,.inl m,.int (j[k]'c),cV (by simp[c]),?_];left;exact f _ _ (zpa _) (zpb _ _) (zpc _ r)
  ·left;exact f _ _ (by first|lia|(split <;> omega)) ⋯ ⋯
def gZ(T:Txt K mg a):aO P w K mg base aW 1 a.vG a.Lz ["_law_pot_here", "_law_many"] qfw:=by
 exists T.gw.bG,qdO
 ·obtain⟨p,m,rfl,⟨x,y,c,z,D,r⟩,f,G,q⟩:=h;refine#[_,(aK (bU (bN xR (bQ (bT (K:=K) rfl) (aj 0) aH (λ_ _=>rfl)) aH (bV _)) (aK (Hf (bw qnL rfl T.nm.divmod boot_divmod (ak (bQ (bT (K:=K) rfl) (aj 0) aH (λ_ _=>rfl)) (ak (aj 1) aq))) (PG.eqv (iJ (K:=K) (n:=2) rfl rfl (bB.eqv (cI (ZP (aj 0) aH qcB) (bB.eqv (cI (eF (i:=2) qdO.nd rfl (Or.inl rfl)) (bB.mono iH iM)) (cJ _ _))) (cJ _ _))) (iQ _ _ _)))
   (aF (aX (aj 2)))) cA)
   (aK (Hf (bI xT (bI mY (bI DQ (bQ (bT (K:=K) rfl) (aj 0) aH (λ_ _=>rfl)) aH) aH) aH) (ZP (aj 0) aH qcB))
   (aF (aX (bI xT (bI Io (bI xT (bI DQ (bQ (bT (K:=K) rfl) (aj 0) aH (λ_ _=>rfl)) (bQ (bT (K:=K) rfl) (aj 0) aH (λ_ _=>rfl))) aH) aH) (aj 1)))))),?_]
  have u:au K H p [.int x,.int y]:=au.of c;left;refine#[_,.inl u,_,cV (j:=0) rfl,?_];left;refine aM.of (λh=>?_) (λh=>?_)
  ·left;refine#[_,.inl u,_,cV (j:=0) rfl,?_];left;refine#[#[f,⋯],λt B=>?_];have l:p≠t:=cF c B;refine#[_,aQ.of aB,rfl,_,(by rw[aN l];exact c),0,rfl,?_];refine q _ _ (Int.emod_nonneg _ ⋯) (Int.emod_lt_of_pos _ f) #[_,_,aB,Int.ediv_nonneg z ⋯,D,r] λb o v e=>?_;rw[aN v,aN (cF e B)];exact e
  ·have C:0<=(y * 48271+12345) % 2147483647:=Int.emod_nonneg _ (by decide);have I:(y * 48271+12345) % 2147483647<2147483647:=Int.emod_lt_of_pos _ (by decide);left;refine#[_,.inl u,_,cV (j:=1) rfl,?_];left;refine#[_,c,1,rfl,_,.inl (au.of aB),_,cV (j:=1) rfl,_,.inl (au.of aB),_,cV (j:=1) rfl,?_];left;refine#[#[⋯,⋯],f,?_];refine q _ _ (Int.emod_nonneg _ ∅) (Int.emod_lt_of_pos _ f) #[_,_,aB,z,C,⋯] λb o v e=>?_;rw[aN v];exact e
inductive qfx:Sp
 |mk (p xs:_) (_:vs=[.ref p]) (_:Sq H p xs) (_:∀H',Same H H'->Q (.bl true) H'):qfx vs H Q E
def Cd(T:Txt K mg a):aO P w K mg base aW 1 a.rQ a.Fj ["thing"] qfx:=by
 exists T.qm.bG,qdB
 ·obtain⟨p,e,rfl,f,q⟩:=h;refine#[_,(aF (aX (bw (qcw (K:=K) rfl) rfl T.nm.isinstance boot_isinstance (ak (aj 0) (ak (dY (ak (qK (v:=.ty "list") rfl T.nm.list boot_list rfl) (ak (qK (v:=.ty "tuple") rfl T.nm.tuple boot_tuple rfl) aq))) aq))))),?_];left;refine λt c=>#[_,_,aB,?_]
  rcases(f.same (aJ c)).ty (K:=K) with ty|ty
  ·exact#[_,ty,true,by simp[W.kitAny,W.kitOne],q _ (aJ c)]
  ·exact#[_,ty,true,by simp[W.kitAny,W.kitOne];rfl,q _ (aJ c)]
inductive qfy:Sp
 |mk (x:_) (_:vs=[.str x]) (_:x.length<=sizeLine) (_:∀H',Same H H'->Q (.bl (nameB x)) H'):qfy vs H Q E
def FT(T:Txt K mg a):aO P w K mg base aW 1 a.qj a.Bg ["thing"] qfy:=by
 exists T.vV.bG,qdC
 ·obtain⟨x,rfl,J,q⟩:=h;refine#[_,(aK (bU (PW.pt (je (d9 (fu (bw (Ir (K:=K) rfl) rfl T.nm.isinstance boot_isinstance (ak (aj 0) (ak (qK (v:=.ty "str") rfl T.nm.str boot_str rfl) aq))))) (jq (d9 (Ii oA oA aH (bw qcv rfl T.nm.len qv9 (ak (aj 0) aq)) (eY rfl T.Vq T.Vr)))))) (aF (aX eX)) cA)
   (aF (aX (bw (rF rfl) rfl T.nm.all qX (ak (fJ rfl rfl (show bM (aG Eu) _ ["thing"] ["sign"] [] ["sign"] from by rfl') rfl (PI.eqv (qaI (aj 0)) (qcq _)) (λC s H I B=>(bO ["sign"] 0)) (λC s H I B=>dZ) (λC s H I B=>(mJ (qcu (K:=K) rfl) (aj 0) (eY rfl T.Vo T.Vp) rfl))) aq))))),?_]
  left;refine#[_,.str x,_,qbr K,aM.neg rfl ?_];left;refine#[J,aM.of (λy=>?_) (λy=>?_)]
  ·have m:1<=x.length:=by simp at y;lia
   left;refine aM.of (λu=>?_) (λu=>?_)
   ·have j:¬x.length<=4:=by simp at u;lia
    have e:nameB x=false:=by
     unfold nameB;rw[qwh j];simp
    rw[e] at q;left;exact q H (Same.refl H)
   ·have j:x.length<=4:=by simp at u;lia
    left;refine λD G=>cmS (λi f n=>(∃o,f=[o])/\Same H n/\n D=some (.lst ((x.cps.toList.take i).map λc=>.bl (jj c)))) #[#[none,rfl],aJ G,by simpa using aB] ?_ ?_
    ·rintro i c f n M ⟨⟨o,rfl⟩,r,z⟩;have N:4<sizeLine:=by decide
     have L:x.cps.size=x.length:=rfl;left;refine#[_,z,by simp;lia,cN r G,?_];rw[aB,take_one (l:=x.cps.toList) (x:=c) (by simpa using M),qwG];rfl
    ·rintro f n ⟨⟨o,rfl⟩,r,z⟩;left;refine#[_,z,_,Dy jj _,?_];rw[qlv];have e:nameB x=(x.cps.toList.take x.cps.size).all jj:=by
      unfold nameB;rw[qwv m,qwv j,show x.cps.toList.take x.cps.size=x.cps.toList from qx8 (by simp)];rfl
     rw[<- e];exact q n r
  ·have m:¬1<=x.length:=by simp at y;lia
   have e:nameB x=false:=by
    unfold nameB;rw[qwh m];simp
   rw[e] at q;left;exact q H (Same.refl H)
def qqx{xs:QAH}{i:Nat}{x:V}(h:(xs.map V.str)[i]? = some x):∃z,z∈xs/\x = .str z:=by
 rw[qv8] at h;cases e:xs[i]? with
 |none=>rw[e] at h;cases h
 |some z=>
  rw[e] at h;exact#[z,qvX e,(qwt h).symm]
def FW(h:nameB x=true):x.length<=sizeLine:=by
 unfold nameB at h;simp at h;have c:4<=sizeLine:=by decide
 lia
theorem yJ:∀n,mR (List.replicate n (.bl true)) (List.replicate n true)
 |0=>rfl
 |n+1=>#[true,_,rfl,rfl,yJ n]
theorem qfz:∀xs:QAH,keysOf (xs.map V.str)=xs.map Sum.inr
 |[]=>rfl
 |x::xs=>by
  show Sum.inr x::keysOf (xs.map V.str)=_;rw[qfz xs];rfl
def qqy{xs:QAH}(h:xs.Nodup):(gR (λi=>(keysOf (xs.map V.str))[i]?.getD (Sum.inl 0)) (xs.map V.str).length).length=xs.length:=by
 rw[qfz,qv1];refine(Qc _ xs.length λi j f c e=>?_).1;simp[f,c] at e;exact(List.getElem_inj h).mp e
structure dU(xs:QAH):Prop where
 len:1<=xs.length/\xs.length<=9
 nm:∀x∈xs,nameB x=true
 nd:xs.Nodup
inductive qfA:Sp
 |mk (p xs:_) (_:vs=[.ref p]) (_:Sq H p (xs.map V.str)) (_:dU xs) (_:∀H',Same H H'->Q (.bl true) H'):qfA vs H Q E
def qqz(T:Txt K mg a):aO P w K mg base aW 2 a.uD a.Kr ["thing"] qfA:=by
 exists T.T9.bG,qp9
 ·obtain⟨p,l,rfl,u,r,q⟩:=h;refine#[_,(aK (bU (PW.pt (je (d9 (fu (aL (Cd T) hr T.vU T.qm T.vR (ak (aj 0) aq)))) (jq (d9 (Ii oA oA aH (bw (cW (K:=K) rfl) rfl T.nm.len qv9 (ak (aj 0) aq)) (eY rfl T.qfb T.qfc)))))) (aF (aX eX)) cA)
   (aF (aX (uh (bw (rF rfl) rfl T.nm.all qX (ak (fJ rfl rfl (show bM (aG JD) _ ["thing"] ["one"] [] ["one"] from by rfl') rfl (PI.eqv (tW (K:=K) rfl (aj 0)) (um _ _)) (λC s H N B=>(bO ["one"] 0)) (λC s H N B=>dZ) (λC s H N B=>(aL (FT T) hr T.Bm T.vV T.Bl (ak (aj 0) aq)))) aq)) (tE (mJ lO (bw qaP rfl T.nm.len qv9 (ak (mL (qaO rfl) rfl T.nm.set qaL (ak (aj 0) aq)) aq)) (bw (cW (K:=K) rfl) rfl T.nm.len qv9 (ak (aj 0) aq)) (bV _))))))),?_]
  have hl:=r.len;have Y:60<sizeLine:=by decide
  left;refine#[p,_,rfl,u,λO n=>?_];have j:=u.same n;left;refine#[_,j.q,aM.pos (by simp;lia) ?_];left;refine aM.neg (by simp;lia) ?_;obtain⟨b,L⟩:=u.b;left;refine#[b,#[_,L K O n],λD M=>uc (l.map V.str) (λi c e=>(∃o,c=[o])/\Same O e/\e D=some (.lst (List.replicate i (.bl true)))) #[#[none,rfl],aJ M,aB] (λi c e _ h=>L K e (n.trans h.2.1)) ?_ ?_]
  ·rintro i x c e J ⟨⟨o,rfl⟩,m,v⟩;obtain⟨z,G,rfl⟩:=qqx J;have U:i<l.length:=by simpa using (qvU.mp J).1
   left;refine#[z,rfl,FW (r.nm z G),λH2 y=>?_];left;refine#[_,y _ _ v,by simp;lia,cN (m.trans y) M,?_];rw[aB,r.nm z G,<- qxs]
  ·rintro c e ⟨⟨o,rfl⟩,m,v⟩;have f:=j.same m;left;refine#[_,v,_,yJ _,?_];rw[show(List.replicate (l.map V.str).length true).all id=true by simp];left;refine#[_,f.q,by simp[isKey],by simp;unfold scanBound;lia,λt I=>#[_,aB,_,(f.same (aJ I)).q,?_]];rw[qwv (by rw[qqy r.nd];simp)];exact q _ (n.trans (m.trans (aJ I)))
def qqA{x:Str}{xs:QAH}(h:x∈xs):inV (.str x) (xs.map V.str)=true:=by
 unfold inV;rw[List.any_eq_true];exact#[.str x,qwr.mpr #[x,h,rfl],by simp[lJ]]
def qqB(xs:QAH):(xs.map V.str).all jw=true:=by
 rw[qwa];intro v c;obtain⟨x,_,rfl⟩:=qwr.mp c;rfl
inductive qfB:Sp
 |mk (t p x y xs:_) (_:vs=[.ref t,.ref p]) (_:Sq H t [.str x,.str y]) (_:Sq H p (xs.map V.str)) (_:dU xs) (_:x∈xs) (_:y∈xs) (_:x≠y) (_:∀H',Same H H'->Q (.bl true) H'):qfB vs H Q E
def qqC(T:Txt K mg a):aO P w K mg base aW 2 a.uE a.Ks ["thing", "points"] qfB:=by
 exists T.T_.bG,qp_
 ·obtain⟨t,p,x,y,r,rfl,n,hp,M,FZ,G,I,q⟩:=h;refine#[_,(aK (bU (PW.pt (je (d9 (fu (aL (Cd T) hr T.vU T.qm T.vR (ak (aj 0) aq)))) (jq (bN jC (bw (cW (K:=K) rfl) rfl T.nm.len qv9 (ak (aj 0) aq)) aH (bV _))))) (aF (aX eX)) cA)
   (aK (bU (d9 (fu (bw (rF rfl) rfl T.nm.all qX (ak (fJ rfl rfl (show bM (aG JF) _ ["thing", "points"] ["end"] [1] ["end", "points"] from by rfl') rfl (PI.eqv (tW (K:=K) rfl (aj 0)) (um _ _)) (λC s H U L=>(bO ["end", "points"] 0)) (λC s H U L=>dZ) (λC s H U L=>(uh (aL (FT T) hr T.Bm T.vV T.Bl (ak (aj 0) aq)) (tE (mJ (pK (K:=K) rfl) (aj 0) (aj 1) rfl))))) aq)))) (aF (aX eX)) cA)
   (aF (aX (mJ jC (bQ (bT (K:=K) rfl) (aj 0) aH (λ_ _=>rfl)) (bQ (bT (K:=K) rfl) (aj 0) aH (λ_ _=>rfl)) (bV _)))))),?_]
  have aa:60<sizeLine:=by decide
  left;refine#[t,_,rfl,n,λH1 e=>?_];left;refine#[_,(n.same e).q,false,rfl,aM.neg rfl ?_];obtain⟨b,N⟩:=n.b;left;refine#[b,#[_,N K H1 e],λD O=>uc [.str x,.str y] (λi c l=>(∃o,c=[o,some (.ref p)])/\Same H1 l/\l D=some (.lst (List.replicate i (.bl true)))) #[#[none,rfl],aJ O,aB] (λi c l _ h=>N K l (e.trans h.2.1)) ?_ ?_]
  ·rintro i v c l f ⟨⟨o,rfl⟩,m,J⟩;obtain⟨z,B,rfl⟩:∃z,z∈r/\v = .str z:=by
    match i,f with
    |0,f=>exact#[x,FZ,(qwt f).symm]
    |1,f=>exact#[y,G,(qwt f).symm]
   have a0:i<2:=(qvU.mp f).1;left;refine#[z,rfl,FW (M.nm z B),λH2 u=>?_];rw[M.nm z B];left;refine#[_,(hp.same (e.trans (m.trans u))).q,rfl,qwa.mp (qqB r),_,u _ _ J,by simp;lia,cN (m.trans u) O,?_];rw[aB,qqA B,<- qxs]
  ·rintro c l ⟨⟨o,rfl⟩,m,J⟩;have Y:=n.same (e.trans m);left;refine#[_,J,_,yJ _,?_];rw[show(List.replicate [V.str x,V.str y].length true).all id=true by simp];left;refine#[_,Y.q,_,cV (j:=0) rfl,_,Y.q,_,cV (j:=1) rfl,?_];left;refine#[true,by simp[I],?_];exact q _ (e.trans m)
def Ga(H:Hp)(v:V)(e:Str×Str):Prop:=∃t,v = .ref t/\Sq H t [.str e.1,.str e.2]
theorem Ga.same(h:Ga H v e)(s:Same H c):Ga c v e:=by
 obtain⟨t,rfl,h⟩:=h;exact#[t,rfl,h.same s]
def wA(H:Hp)(vs:kE)(ps:QAD):Prop:=vs.length=ps.length/\∀(i:Nat) v e,vs[i]? = some v->ps[i]? = some e->Ga H v e
theorem wA.same(h:wA H vs ps)(s:Same H j):wA j vs ps:=#[h.1,λi v e f c=>(h.2 i v e f c).same s]
def wA.at{H:Hp}{vs:kE}{ps:QAD}(h:wA H vs ps){i:Nat}{v:V}(c:vs[i]? = some v):∃e,ps[i]? = some e/\Ga H v e:=by
 have f:i<ps.length:=by rw[<- h.1];exact(qvU.mp c).1
 exact#[ps[i],by simp[f],h.2 i v _ c (by simp[f])]
structure g8(xs:QAH)(ps:QAD):Prop where
 len:ps.length<=20
 ok:∀e∈ps,e.1∈xs/\e.2∈xs/\e.1≠e.2
inductive qfC:Sp
 |mk (t p tv xs ps:_) (_:vs=[.ref t,.ref p]) (_:Sq H t tv) (_:wA H tv ps) (_:Sq H p (xs.map V.str)) (_:dU xs) (_:g8 xs ps) (_:∀H',Same H H'->Q (.bl true) H'):qfC vs H Q E
def qqD(T:Txt K mg a):aO P w K mg base aW 3 a.uF a.Ku ["thing", "points"] qfC:=by
 exists T.Ua.bG,qqa
 ·obtain⟨t,p,n,z,ps,rfl,u,m,hp,hx,l,q⟩:=h;refine#[_,(aK (bU (PW.pt (je (d9 (fu (aL (Cd T) hr T.vU T.qm T.vR (ak (aj 0) aq)))) (jq (bN xR (bw (cW (K:=K) rfl) rfl T.nm.len qv9 (ak (aj 0) aq)) (eY rfl T.qfd T.qfe) (bV _))))) (aF (aX eX)) cA)
   (aF (aX (bw (rF rfl) rfl T.nm.all qX (ak (fJ rfl rfl (show bM (aG JG) _ ["thing", "points"] ["one"] [1] ["one", "points"] from by rfl') rfl (PI.eqv (tW (K:=K) rfl (aj 0)) (um _ _)) (λC s H O I=>(bO ["one", "points"] 0)) (λC s H O I=>dZ) (λC s H O I=>(aL (qqC T) hr T.qdX T.T_ T.qdW (ak (aj 0) (ak (aj 1) aq))))) aq))))),?_]
  have J:=m.1;have cO:=l.len;have aa:60<sizeLine:=by decide
  left;refine#[t,_,rfl,u,λU j=>?_];left;refine#[_,(u.same j).q,aM.neg (by simp;lia) ?_];obtain⟨b,M⟩:=u.b;left;refine#[b,#[_,M K U j],λD N=>uc n (λi c f=>(∃o,c=[o,some (.ref p)])/\Same U f/\f D=some (.lst (List.replicate i (.bl true)))) #[#[none,rfl],aJ N,aB] (λi c f _ h=>M K f (j.trans h.2.1)) ?_ ?_]
  ·rintro i v c f L ⟨⟨o,rfl⟩,r,y⟩;obtain⟨e,he,Y,rfl,dM⟩:=m.at L;have a0:i<n.length:=(qvU.mp L).1;obtain⟨h1,h2,h3⟩:=l.ok e (qvX he);have G:=j.trans r;left;refine#[Y,p,e.1,e.2,z,rfl,dM.same G,hp.same G,hx,h1,h2,h3,λH2 B=>?_];left;refine#[_,B _ _ y,by simp;lia,cN (r.trans B) N,?_];rw[aB,<- qxs]
  ·rintro c f ⟨⟨o,rfl⟩,r,y⟩;left;refine#[_,y,_,yJ _,?_];rw[show(List.replicate n.length true).all id=true by simp];exact q _ (j.trans r)
def cC(H:Hp)(vs:kE)(ps:QAD):Prop:=vs.length=ps.length/\∀(i:Nat) v e,vs[i]? = some v->ps[i]? = some e->∃t,v = .ref t/\H t=some (.tup [.str e.1,.str e.2])
def d7(H e:Hp):Prop:=∀b c,H b=some (.tup c)->e b=some (.tup c)
def cC.keep(h:cC H vs ps)(s:d7 H j):cC j vs ps:=#[h.1,λi v e f c=>by
 obtain⟨t,rfl,e⟩:=h.2 i v e f c;exact#[t,rfl,s _ _ e]]
def cC.snoc(h:cC H vs ps)(n:H t=some (.tup [.str e.1,.str e.2])):cC H (vs++[.ref t]) (ps++[e]):=by
 refine#[by simp[h.1],λi v d c f=>?_]
 by_cases m:i<vs.length
 ·rw[qwo m] at c;rw[qwo (by rw[<- h.1];exact m)] at f;exact h.2 i v d c f
 ·rw[qwq ⋯] at c;rw[qwq (by rw[<- h.1];omega),<- h.1] at f;cases l:i - vs.length with
  |zero=>
   rw[l] at c f;cases c;cases f;exact#[t,rfl,n]
  |succ j=>
   rw[l] at c;simp at c
structure bW(C:Qv)(H:Hp)(o:Qv)(xs:QAH)(ps:QAD):Prop where
 ex:∃dx n m tv,H o=some (.ins C dx [("names",V.ref n),("pairs",V.ref m)])/\H n=some (.tup (xs.map V.str))/\H m=some (.tup tv)/\cC H tv ps/\ps.length<=20
inductive qfD  (C:Qv):Sp
 |mk (o dx p t tv xs ps:_) (_:vs=[.ref o,.ref p,.ref t]) (_:H o=some (.ins C dx [])) (_:Sq H t tv) (_:wA H tv ps) (_:Sq H p (xs.map V.str)) (_:dU xs) (_:g8 xs ps) (_:∀H',bW C H' o xs ps->But o H H'->Q .non H'):qfD C vs H Q E
def qqE(T:Txt K mg a):aO P w K mg base aW 4 a.rR a.Kv ["self", "points", "ties"] (qfD a.bx):=by
 exists T.qd0.bG,qqb
 ·obtain⟨o,dx,p,t,Y,xs,ps,rfl,ho,ht,G,hp,hx,J,q⟩:=h;refine#[_,(aK (bU (d9 (fu (aL (qqz T) hr T.qdV T.T9 T.qdU (ak (aj 1) aq)))) (aF pA) cA)
   (aK (bU (d9 (fu (aL (qqD T) hr T.qdZ T.Ua T.qdY (ak (aj 2) (ak (aj 1) aq))))) (aF pA) cA)
   (aK (qbo (K:=K) rfl (aj 0) (mL DW rfl T.nm.tuple boot_tuple (ak (aj 1) aq)) rfl)
   (aF (qbo (K:=K) rfl (aj 0) (mL DW rfl T.nm.tuple boot_tuple (ak (fJ rfl rfl (show bM (aG JH) _ ["self", "points", "ties"] ["pair"] [] ["pair"] from by rfl') rfl (PI.eqv (tW (K:=K) rfl (aj 2)) (um _ _)) (λC s H fp pn=>(bO ["pair"] 0)) (λC s H fp pn=>dZ) (λC s H fp pn=>(dY (ak (bQ (bT (K:=K) rfl) (aj 0) aH (λ_ _=>rfl)) (ak (bQ (bT (K:=K) rfl) (aj 0) aH (λ_ _=>rfl)) aq))))) aq)) rfl))))),?_]
  left;refine#[p,xs,rfl,hp,hx,λH1 s1=>?_];left;refine#[t,p,Y,xs,ps,rfl,ht.same s1,G.same s1,hp.same s1,hx,J,λH2 ag=>?_];have s2:=s1.trans ag;left;refine#[_,hp.same s2,λn H3 hn af=>?_];have s3:=s2.trans af;have aa:n≠o:=g_ hn (s3 _ _ ho) (by intro z;cases z);refine#[_,_,_,s3 _ _ ho,T.eU,T.Vu,by simp,?_];have ab:t≠o:=by rcases ht with z|z <;> exact g_ z ho (by intro y;cases y)
  have ah:∀{ob:HO}{b:Qv}{u:HO},b≠o->H b=some u->upd H3 o ob b=some u:=λhb e=>by rw[aN hb];exact s3 _ _ e
  obtain⟨b,hb⟩:∃b,∀l,(∀c u,c≠o->H c=some u->l c=some u)->ji b K l t Y:=by
   rcases ht with z|z
   ·exact#[true,λl k=>au.of (k _ _ ab z)]
   ·exact#[false,λl k=>aQ.of (k _ _ ab z)]
  have e1:fY "names" (V.ref n) []=([("names",V.ref n)]:List (Str×V)):=rfl;rw[e1];have M:∀(c:Qv)(u:HO),c≠o->H c=some u->upd H3 o (.ins a.bx dx [("names",V.ref n)]) c=some u:=λc u O e=>ah O e;generalize h4:upd H3 o (.ins a.bx dx [("names",V.ref n)])=H4 at M⊢;have ae:H4 o=some (.ins a.bx dx [("names",V.ref n)]):=by rw[<- h4];exact aB
  have sI:H4 n=some (.tup (xs.map V.str)):=by rw[<- h4,aN aa];exact hn
  refine#[b,#[_,hb H4 M],λD hD=>uc Y (λi B l=>(∃o',B=[o'])/\Same H4 l/\∃f,l D=some (.lst f)/\cC l f (ps.take i)) #[#[none,rfl],aJ hD,[],aB,by simp[cC]] (λi B l _ h=>hb l λc u O e=>h.2.1 _ _ (M c u O e)) ?_ ?_]
  ·rintro i v B l hi ⟨⟨o',rfl⟩,I,f,gJ,r⟩;have am:i<Y.length:=(qvU.mp hi).1;have al:=G.1;have cO:=J.len;obtain⟨e,he,t2,rfl,dM⟩:=G.at hi;have a0:t2≠o:=by rcases dM with z|z <;> exact g_ z ho (by intro y;cases y)
   have yK:Sq l t2 [.str e.1,.str e.2]:=by
    rcases dM with z|z
    ·exact .inl (I _ _ (M _ _ a0 z))
    ·exact .inr (I _ _ (M _ _ a0 z))
   left;refine#[_,yK.q,_,cV (j:=0) rfl,_,yK.q,_,cV (j:=1) rfl,λpt L=>?_];have Gb:D≠pt:=cF gJ L;refine#[f,by rw[aN Gb];exact gJ,?_,cN (I.trans (aJ L)) hD,_,aB,?_]
   ·have an:20<sizeLine:=by decide
    have:=r.1;simp at this;lia
   ·rw[take_one he];refine(r.keep ?_).snoc ?_
    ·intro c zs U;rw[aN (g_ U gJ (by intro y;cases y)),aN (cF U L)];exact U
    ·rw[aN (qxt Gb)];exact aB
  ·rintro B l ⟨⟨o',rfl⟩,I,f,gJ,r⟩;left;refine#[f,.inl gJ,λm H5 hm N=>#[_,_,_,N _ _ (I _ _ ae),T.eU,T.Mz,by simp,?_]];have ac:=N _ _ (I _ _ ae);have ai:m≠o:=g_ hm ac (by intro z;cases z);have e2:fY "pairs" (V.ref m) ([("names",V.ref n)]:List (Str×V))=([("names",V.ref n),("pairs",V.ref m)]:List (Str×V)):=by
    show(if ("names" : Str) = "pairs" then _ else (("names" : Str),V.ref n)::fY "pairs" (V.ref m) [])=_
    rw[if_neg (by symm)];rfl
   rw[e2];refine q _ #[dx,n,m,f,aB,?_,?_,?_,J.len] λc u O e=>?_
   ·rw[aN aa];exact N _ _ (I _ _ sI)
   ·rw[aN ai];exact hm
   ·have hl:=G.1;rw[hl,qv5] at r;refine r.keep λc zs U=>?_;rw[aN (g_ (N _ _ U) ac (by intro z;cases z))];exact N _ _ U
   ·rw[aN O];exact N _ _ (I _ _ (M c u O e))
inductive qfE  (C:Qv):Sp
 |mk (o xs ps:_) (_:vs=[.ref o]) (_:bW C H o xs ps) (_:∀l,H l=none->Q (.ref l) (upd H l (.lst (xs.map V.str)))):qfE C vs H Q E
def nA(T:Txt K mg a):aO P w K mg base aW 1 a.rT a.Kw ["self"] (qfE a.bx):=by
 exists T.qd2.bG,qqc
 ·obtain⟨o,c,e,rfl,⟨v,n,m,j,i,f,u,r,l⟩,q⟩:=h;refine#[_,(aF (aX (mL (Ip (K:=K) rfl) rfl T.nm.list boot_list (ak (PE.eqv (Qf (K:=K) rfl (aj 0) rfl) (QW _ _ _)) aq)))),?_];left;refine#[_,_,_,i,T.eU,T.Vu,_,rfl,_,.inr (aQ.of f),q]
inductive qfF  (C:Qv):Sp
 |mk (o xs ps:_) (_:vs=[.ref o]) (_:bW C H o xs ps) (_:∀l tv,H l=none->cC H tv ps->Q (.ref l) (upd H l (.lst tv))):qfF C vs H Q E
def MK(T:Txt K mg a):aO P w K mg base aW 1 a.rW a.Ky ["self"] (qfF a.bx):=by
 exists T.qd3.bG,qqd
 ·obtain⟨o,c,f,rfl,⟨z,n,m,e,u,y,r,j,v⟩,q⟩:=h;refine#[_,(aF (aX (mL (Ip (K:=K) rfl) rfl T.nm.list boot_list (ak (PE.eqv (Qf (K:=K) rfl (aj 0) rfl) (QW _ _ _)) aq)))),?_];left;refine#[_,_,_,u,T.eU,T.Mz,_,rfl,_,.inr (aQ.of r),λl i=>q l e i j]
theorem bA.upd(x:bA H p)(h:p≠q):bA (L2.upd H q u) p:=by
 obtain⟨a,b,e,r⟩:=x;exact#[a,b,by rw[aN h];exact e,r]
def bA.ne(x:bA H p)(h:H q=none):p≠q:=by
 obtain⟨a,b,e,r⟩:=x;exact cF e h
theorem bA.none(x:But p H c)(f:bA c p)(h:c b = .none):H b = .none:=by
 obtain⟨a,b,e,r⟩:=f;exact x.none e h
inductive qfG:Sp
 |mk (p l xs:_) (_:vs=[.ref p,.ref l]) (_:bA H p) (_:l≠p) (_:H l=some (.lst xs)) (_:xs.length<=100) (_:∀r ys H',H r=none->H' r=some (.lst ys)->ys.Perm xs->bA H' p->But p H H'->Q (.ref r) H'):qfG vs H Q E
def qfH(T:Txt K mg a):aO P w K mg base aW 2 a.vI a.LK ["_law_pot_here", "_law_things"] qfG:=by
 exists T.Mx.bG,TQ
 ·obtain⟨p,l,y,rfl,J,B,L,N,q⟩:=h;refine#[_,(aK (bF (i:=2) TQ.nd rfl (Or.inl rfl) (cM aq))
   (aK (jT qwI rfl (dD (K:=K) (aj 1)) (eF (i:=3) TQ.nd rfl (Or.inl rfl))
   (aF (eE (jW (K:=K) rfl qwz PySem.F.slot_list_insert PySem.F.type_list_insert qnM (aj 2) (ak (aL (gZ T) hr T.gH T.gw T.gG (ak (aj 0) (ak (bI mY (bw (cW (K:=K) rfl) rfl T.nm.len qv9 (ak (aj 2) aq)) aH) aq))) (ak (aj 3) aq))))))
   (aF (aX (aj 2))))),?_]
  have aa:100<sizeLine:=by decide
  left;intro r j;have n:p≠r:=J.ne j;refine#[#[_,au.of (cj L j)],lM y (λi u o=>∃v f,u=[some (.ref p),some (.ref l),some (.ref r),v]/\o r=some (.lst f)/\f.Perm (y.take i)/\bA o p/\But p H o) #[none,[],rfl,aB,by simp,J.upd n,(But.refl _ _).new j] (λi u o _ ⟨_,_,_,_,_,_,hb⟩=>au.of (hb _ _ B L)) ?_ ?_]
  ·rintro i x u o M ⟨v,f,rfl,m,c,D,G⟩;have Y:i<y.length:=(qvU.mp M).1;have U:f.length=i:=by
    have:=c.length_eq;simp at this;lia
   left;refine#[#[_,au.of m],f,.inl (au.of m),p,_,rfl,D,⋯,⋯,λd H1 C a0 O I=>?_];have z:H1 r=some (.lst f):=I _ _ (qxt n) m;left;refine#[f,z,C,⋯,⋯,_,aB,?_,O.upd n,(G.trans I).new j]
   ·rw[take_one M];have e:(f.take d.toNat++x::f.drop d.toNat).Perm (x::f):=by
     refine List.perm_middle.trans ?_;rw[List.take_append_drop]
    exact e.trans ((List.Perm.cons x c).trans (List.perm_append_singleton x _).symm)
  ·rintro u o ⟨v,f,rfl,m,c,D,G⟩;rw[qv5] at c;left;exact q r f o j m c D G
inductive qfI:Sp
 |mk (p l:Qv) (xs:QAH) (_:vs=[.ref p,.ref l]) (_:bA H p) (_:l≠p) (_:H l=some (.lst (xs.map V.str))) (_:2<=xs.length) (_:xs.length<=9) (_:xs.Nodup) (_:∀t x y H',H t=none->H' t=some (.tup [.str x,.str y])->x∈xs->y∈xs->x≠y->bA H' p->But p H H'->Q (.ref t) H'):qfI vs H Q E
def qqG(T:Txt K mg a):aO P w K mg base aW 2 a.vJ a.LQ ["_law_pot_here", "_law_names_here"] qfI:=by
 exists T.Vi.bG,TV
 ·obtain⟨p,l,xs,rfl,O,m,I,h2,h9,D,q⟩:=h;refine#[_,(aK (bF (i:=2) TV.nd rfl (Or.inl rfl) (aL (gZ T) hr T.gH T.gw T.gG (ak (aj 0) (ak (bw (cW (K:=K) rfl) rfl T.nm.len qv9 (ak (aj 1) aq)) aq))))
   (aK (bF (i:=3) TV.nd rfl (Or.inl rfl) (bI xT (bI mY (bI mY (aj 2) aH) (aL (gZ T) hr T.gH T.gw T.gG (ak (aj 0) (ak (bI Ak (bw (cW (K:=K) rfl) rfl T.nm.len qv9 (ak (aj 1) aq)) aH) aq)))) (bw (cW (K:=K) rfl) rfl T.nm.len qv9 (ak (aj 1) aq))))
   (aF (aX (dY (ak (bQ (bT (K:=K) rfl) (aj 1) (aj 2) (λ_ _=>rfl)) (ak (bQ (bT (K:=K) rfl) (aj 1) (aj 3) (λ_ _=>rfl)) aq))))))),?_]
  left;refine#[_,.inl (au.of I),p,_,rfl,O,by simp;lia,by simp;lia,λd H1 o c N B=>?_];have n:=B _ _ m I;left;refine#[_,.inl (au.of n),p,_,rfl,N,by simp;lia,by simp;lia,λe H2 VB J f j=>?_];have G:=j _ _ m n;simp only[qv1] at c J;obtain⟨M,L,m2⟩:=qly o c VB J;obtain⟨vx,ex,ax⟩:=qaY (xs:=xs.map V.str) o (by simpa using c);obtain⟨vy,U,Y⟩:=qaY (xs:=xs.map V.str) M (by simpa using L);obtain⟨x,u,rfl⟩:=jy ex;obtain⟨y,r,rfl⟩:=jy U;have v:=au.of (K:=K) G;left;refine#[_,.inl v,by simp;lia,_,.inl v,_,ax,_,.inl v,_,(by simpa using Y),λt C=>?_];refine q t x y _ (bA.none (B.trans j) f C) aB (qvX u) (qvX r) (λz=>?_) (f.upd (f.ne C)) ((B.trans j).same (aJ C));subst z;have:=Dz D u r;lia
inductive qfJ:Sp
 |mk (p:Qv) (m:Nat) (_:vs=[.ref p,.int m]) (_:bA H p) (_:1<=m) (_:m<=9) (_:∀(r:Qv)(xs:QAH)(H':Hp),H r=none->H' r=some (.lst (xs.map V.str))->dU xs->xs.length=m->bA H' p->But p H H'->Q (.ref r) H'):qfJ vs H Q E
def qqH(T:Txt K mg a):aO P w K mg base aW 2 a.vH a.LC ["_law_pot_here", "_law_many"] qfJ:=by
 exists T.Vf.bG,yr
 ·obtain⟨p,m,rfl,hp,h1,h9,q⟩:=h;refine#[_,(aK (bF (i:=2) yr.nd rfl (Or.inr rfl) cZ)
   (aK (bF (i:=3) yr.nd rfl (Or.inl rfl) (aL (gZ T) hr T.gH T.gw T.gG (ak (aj 0) (ak aH aq))))
   (aK (bF (i:=4) yr.nd rfl (Or.inl rfl) (cM aq))
   (aK (jT qwI rfl (PI.eqv (Hh rfl T.nm.range (ak (aj 1) aq)) (Il _)) (eF (i:=5) yr.nd rfl (Or.inl rfl))
   (aK (bF (i:=6) yr.nd rfl (Or.inl rfl) (aL (gZ T) hr T.gH T.gw T.gG (ak (aj 0) (ak aH aq))))
   (aK (bF (i:=7) yr.nd rfl (Or.inl rfl) (jW (K:=K) rfl PySem.F.plainAttrs_str PySem.F.slot_str_join PySem.F.type_str_join qnN cZ (ak (fJ rfl rfl (show bM (aG Kc) _ ["_law_pot_here", "_law_many", "_law_letters", "_law_begin", "_law_found", "_law_k", "_law_size", "_law_more"] ["_law_j"] [2,0] ["_law_j", "_law_letters", "_law_pot_here"] from by rfl') rfl (PI.eqv (Hh rfl T.nm.range (ak (aj 6) aq)) (Il _)) (λC s H fp pn=>(bO ["_law_j", "_law_letters", "_law_pot_here"] 0)) (λC s H fp pn=>dZ) (λC s H fp pn=>(bQ Q5 (aj 1) (aL (gZ T) hr T.gH T.gw T.gG (ak (aj 2) (ak aH aq))) (λ_ _=>rfl)))) aq)))
   (aF (eE (jW (K:=K) rfl qwz qwY qwZ xU (aj 4) (ak (bI Ig (bQ Q5 (aj 2) (bI xT (bI mY (aj 3) (bI DQ aH (aj 5))) aH) (λ_ _=>rfl)) (aj 7)) aq)))))))
   (aF (aX (aj 4))))))),?_]
  left;refine#[p,_,rfl,hp,by decide,by decide,λd H1 an am kZ i_=>?_];obtain⟨b,rfl,av,aw⟩:=Qg an am;have I:=kZ;have aa:=i_;left;intro r G;refine#[Jr h9 (by decide),Qs (λi Y H'=>∃v8 v9 a0 l,Y=[some (.ref p),some (.int m),some (.str (Str.ofString "abcdefghijklmnopqrstuvwxyz")),some (.int b),some (.ref r),v8,v9,a0]/\H' r=some (.lst (l.map V.str))/\l.length=i/\(∀(j:Nat) x,l[j]? = some x->∃k,1<=k/\k<=4/\qY (97+(b+5 * j) % 26) k x)/\bA H' p/\But p H H') #[none,none,none,[],rfl,aB,rfl,λj x e=>by simp at e,I.upd (I.ne G),aa.same (aJ G)] ?_ ?_]
  ·rintro i Y H' hi ⟨v8,v9,a0,l,rfl,M,O,hw,hP,hB⟩;left;obtain⟨c,hc,af,ap⟩:=Qg (i:=((b:Int)+5 * i) % 26) zn1 zn2;have ar:c=(b+5 * i) % 26:=zn3 hc;have pr:r≠p:=λz=>by subst z;obtain⟨_,_,u,_⟩:=I;rw[G] at u;cases u
   refine#[p,_,rfl,hP,by decide,by decide,λe H3 VB fL iT N=>?_];left;have as:∀{D:Qv},H3 D=none->r≠D:=λU=>cF (N _ _ pr M) U;refine#[zlo VB,zhi fL (by decide),λD U=>cmR (λj Y H4=>∃v B,Y=[v,some (.str (Str.ofString "abcdefghijklmnopqrstuvwxyz")),some (.ref p)]/\H4 D=some (.lst (B.map V.str))/\H4 r=some (.lst (l.map V.str))/\B.length=j/\(∀y∈B,∃n,n<26/\y=(#[[97+n].toArray]:Str))/\bA H4 p/\But p H H4) #[_,[],rfl,aB,cj (N _ _ pr M) U,rfl,by simp,iT.upd (iT.ne U),(hB.trans N).same (aJ U)] ?_ ?_]
   ·rintro j Y H4 J ⟨v,B,rfl,cH,jF,o,L,jG,oR⟩;have Gb:D≠p:=(iT.ne U).symm;left;refine#[p,_,rfl,jG,by decide,by decide,λf H5 Gd al eV jc=>?_];obtain⟨n,rfl,ae,ah⟩:=Qg Gd al;simp -dsimp[ao,stC,-Bool.exists_bool,-List.map_take,-Prod.forall,-Prod.exists,qa0,ah];have mj:=qxz lK;refine#[_,jc _ _ Gb cH,by rw[qv1];exact zn4 J fL o,B++[#[[97+n].toArray]],by rw[aB];simp,by rw[aN (as U)];exact jc _ _ pr jF,by simp[o],λy hy=>?_,eV.upd Gb.symm,(oR.trans jc).new (bA.none (hB.trans N) iT U)]
    rcases qwc.mp hy with hy|hy
    ·exact L y hy
    ·exact#[n,ae,by simpa using hy]
   ·rintro Y H4 ⟨v,B,rfl,cH,jF,o,L,jG,oR⟩;have ag:=Qz B L;left;have ab:=(qY.one af).glue (by decide) L;have mj:=qxz lK;refine#[B,cH,by rw[ag.2.2];exact zn5 o fL,?_];simp -dsimp[ao,stC,-Bool.exists_bool,-List.map_take,-Prod.forall,-Prod.exists,qa0,ap];have ac:(#[[97+c].toArray]:Str).length+(Txt.join (Str.ofString "") B).length=1+B.length:=by
     rw[<- ab.len];exact(qxw).symm
    refine#[#[_,au.of jF],by rw[ac];exact qpt (zn6 o fL) (by decide),_,jF,by rw[qv1,O];exact yj hi (qv7 h9 (by decide)),l++[_],by rw[aB];simp;rfl,by simp[O],λj y e=>?_,jG.upd pr.symm,oR.new (bA.none aa I G)]
    by_cases J:j<l.length
    ·rw[qwo J] at e;exact hw j y e
    ·rw[qwq (Nat.not_lt.mp J)] at e;cases hk:j - l.length with
     |zero=>
      rw[hk] at e;simp at e;subst e;have ej:j=i:=(zn8 J hk).trans O;subst ej;exact#[1+B.length,qxE 1 _,zn6 o fL,by rw[<- ar];exact ab]
     |succ k=>
      rw[hk] at e;simp at e
  ·rintro Y H' ⟨v8,v9,a0,l,rfl,M,O,hw,hP,hB⟩;left;have nd:l.Nodup:=by
    unfold List.Nodup;rw[List.pairwise_iff_getElem];intro i j hi J ai e;obtain⟨k1,_,_,w1⟩:=hw i _ (by simp[hi]:l[i]? = some l[i]);obtain⟨k2,_,_,w2⟩:=hw j _ (by simp[J]:l[j]? = some l[j]);have z:=w1.fst;rw[e,w2.fst] at z;simp at z;exact zn7 hi J ai (by rw[O];exact h9) z
   refine q r l H' (bA.none aa I G) M #[#[by rw[O];exact h1,by rw[O];exact h9],λx hx=>?_,nd] O hP hB;obtain⟨j,J,e⟩:=List.mem_iff_getElem.mp hx;obtain⟨k,k1,k4,w⟩:=hw j x (by simp[J,e]);exact w.name k1 k4
def cC.perm(h:cC H vs ps)(y:ys.Perm vs):∃n:QAD,cC H ys n/\n.Perm ps:=by
 have D:vs=(vs.zip ps).map (·.1):=by rw[List.map_fst_zip (by rw[h.1];exact qvY _)]
 have C:ps=(vs.zip ps).map (·.2):=by rw[List.map_snd_zip (by rw[h.1];exact qvY _)]
 obtain⟨r,o,e⟩:=qbq y _ D;refine#[r.map (·.2),#[by rw[e];simp,λi v d f m=>?_],by rw[C];exact o.map _];rw[e,qv8] at f;rw[qv8] at m;cases l:r[i]? with
 |none=>rw[l] at f;cases f
 |some z=>
  rw[l] at f m;cases f;cases m;have A:z∈vs.zip ps:=o.mem_iff.mp (qvX l);obtain⟨j,B,u⟩:=List.mem_iff_getElem.mp A;have c:j<vs.length/\j<ps.length:=by
   simp at B;lia
  simp at u;subst u;exact h.2 j _ _ (by simp[c.1]) (by simp[c.2])
def cC.at{H:Hp}{vs:kE}{ps:QAD}(h:cC H vs ps){i:Nat}{v:V}(c:vs[i]? = some v):∃e,ps[i]? = some e/\∃t,v = .ref t/\H t=some (.tup [.str e.1,.str e.2]):=by
 have f:i<ps.length:=by rw[<- h.1];exact(qvU.mp c).1
 exact#[ps[i],by simp[f],h.2 i v _ c (by simp[f])]
def cC.but(h:cC H vs ps)(f:bA H p)(b:But p H i):cC i vs ps:=h.keep λc j e=>b c _ (λz=>by
 subst z;obtain⟨_,_,u,_⟩:=f;rw[e] at u;cases u) e
def cC.same(h:cC H vs ps)(b:Same H f):cC f vs ps:=h.keep λc i e=>b c _ e
def bA.nl(x:bA H p)(h:H q = .none):q≠p:=λz=>(x.ne h) z.symm
inductive qfK:Sp
 |mk (p:Qv) (m k:Nat) (_:vs=[.ref p,.int m,.int k]) (_:bA H p) (_:1<=m) (_:m<=9) (_:m<=k) (_:k<=20) (_:∀(t n l:Qv)(xs:QAH)(tv:kE)(ps:QAD)(H':Hp),H t=none->H n=none->H l=none->H' t=some (.tup [.ref n,.ref l])->H' n=some (.lst (xs.map V.str))->H' l=some (.lst tv)->cC H' tv ps->dU xs->g8 xs ps->xs.length<=m->ps.length<=k->bA H' p->But p H H'->Q (.ref t) H'):qfK vs H Q E
def qqK(T:Txt K mg a):aO P w K mg base aW 3 a.vK a.LR ["_law_pot_here", "_law_points", "_law_most"] qfK:=by
 exists T.Vj.bG,rO
 ·obtain⟨p,m,k,rfl,hp,h1,h9,bu,hk,q⟩:=h;refine#[_,(aK (bF (i:=3) rO.nd rfl (Or.inl rfl) (aL (qqH T) hr T.qeY T.Vf T.qeX (ak (aj 0) (ak (bI mY aH (aL (gZ T) hr T.gH T.gw T.gG (ak (aj 0) (ak (aj 1) aq)))) aq))))
   (aK (bF (i:=4) rO.nd rfl (Or.inl rfl) (aL (gZ T) hr T.gH T.gw T.gG (ak (aj 0) (ak aH aq))))
   (aK (bF (i:=5) rO.nd rfl (Or.inl rfl) (cM aq))
   (aK (bU (bN xR (bw (cW (K:=K) rfl) rfl T.nm.len qv9 (ak (aj 3) aq)) aH (bV _)) (aK (bF (i:=6) rO.nd rfl (Or.inr rfl) (aL (qfH T) hr T.Vh T.Mx T.Vg (ak (aj 0) (ak (aj 3) aq))))
   (aK (bU (bN xR (aj 4) aH (bV _)) (aF (nY (i:=5) rO.nd rfl rfl rfl rfl (show bM (aG Bc) _ ["_law_pot_here", "_law_points", "_law_most", "_law_names_here", "_law_kind", "_law_ties", "_law_row", "_law_k", "_law_turns"] ["_law_k"] [6] ["_law_k", "_law_row"] from by rfl') rfl (PI.eqv (qjy rfl T.nm.range (ak (mL qnJ rfl T.nm.int qaK (ak (mJ lO (aj 4) aH (bV _)) aq)) (ak (bw (cW (K:=K) rfl) rfl T.nm.len qv9 (ak (aj 6) aq)) aq))) (qnu _)) (λC s H fp pn=>(bO ["_law_k", "_law_row"] 0)) (λC s H fp pn=>dZ) (λC s H fp pn=>(dY (ak (bQ (bT (K:=K) rfl) (aj 1) (bI Ak (aj 0) aH) (λ_ _=>rfl)) (ak (bQ (bT (K:=K) rfl) (aj 1) (aj 0) (λ_ _=>rfl)) aq)))))) cA)
   (aF (jT qwI rfl (PI.eqv (Hh rfl T.nm.range (ak (aL (gZ T) hr T.gH T.gw T.gG (ak (aj 0) (ak (bI mY (bI Ak (aj 2) (bw (cW (K:=K) rfl) rfl T.nm.len qv9 (ak (aj 5) aq))) aH) aq))) aq)) (Il _)) (eF (i:=7) rO.nd rfl (Or.inl rfl))
   (aF (eE (jW (K:=K) rfl qwz qwY qwZ xU (aj 5) (ak (aL (qqG T) hr T.qe0 T.Vi T.qeZ (ak (aj 0) (ak (aj 3) aq))) aq)))))))) cA)
   (aK (nY (i:=8) rO.nd rfl rfl rfl rfl (show bM (aG Bc) _ ["_law_pot_here", "_law_points", "_law_most", "_law_names_here", "_law_kind", "_law_ties", "_law_row", "_law_k", "_law_turns"] ["_law_tie_here"] [0] ["_law_tie_here", "_law_pot_here"] from by rfl') rfl (dD (K:=K) (aj 5)) (λC s H fp pn=>(bO ["_law_tie_here", "_law_pot_here"] 0)) (λC s H fp pn=>dZ) (λC s H fp pn=>(aL (gZ T) hr T.gH T.gw T.gG (ak (aj 1) (ak aH aq)))))
   (aK (nY (i:=5) rO.nd rfl rfl rfl rfl (show bM (aG Bc) _ ["_law_pot_here", "_law_points", "_law_most", "_law_names_here", "_law_kind", "_law_ties", "_law_row", "_law_k", "_law_turns"] ["_law_turn", "_law_a", "_law_b"] [] ["_law_turn", "_law_a", "_law_b"] from by rfl') rfl (PI.eqv (qlN (K:=K) rfl rfl T.nm.zip (ak (aj 5) (ak (aj 8) aq))) (qnv _ _)) (λC s H fp pn=>(PG.eqv (iJ (K:=K) (n:=2) rfl rfl (bB.eqv (cI (PG.eqv (iJ (K:=K) (n:=2) rfl rfl (bB.eqv (cI (bO ["_law_turn", "_law_a", "_law_b"] 1) (bB.eqv (cI (bO ["_law_turn", "_law_a", "_law_b"] 2) (bB.mono iH iM)) (cJ _ _))) (cJ _ _))) (iQ _ _ _)) (bB.eqv (cI (bO ["_law_turn", "_law_a", "_law_b"] 0) (bB.mono iH iM)) (cJ _ _))) (cJ _ _))) (iQ _ _ _))) (λC s H fp pn=>dZ) (λC s H fp pn=>(bQ (bT (K:=K) rfl) (cM (ak (dY (ak (aj 1) (ak (aj 2) aq))) (ak (dY (ak (aj 2) (ak (aj 1) aq))) aq))) (aj 0) (λ_ _=>rfl))))
   (aF (aX (dY (ak (aj 3) (ak (aL (qfH T) hr T.Vh T.Mx T.Vg (ak (aj 0) (ak (aj 5) aq))) aq))))))))))),?_]
  left;refine#[p,_,rfl,hp,qpq h1,Jr h9 (by decide),λd H1 ae ag kZ i_=>?_];left;refine#[p,d.toNat+1,?_,kZ,Nat.le_add_left 1 _,ztn ae ag h9,λn xs H2 hn bt hX bl c0 bd=>?_]
  ·simp;exact qps ae 1
  have FZ:xs.length<=m:=by rw[bl];exact ztn ae ag (qvY m)
  have MN:=qv7 FZ h9;have c2:=i_.trans bd;left;refine#[p,_,rfl,c0,by decide,by decide,λkd H3 c9 c8 iT aw=>?_];have ai:=c2.trans aw;have np:n≠p:=λz=>by subst z;obtain⟨_,_,u,_⟩:=kZ;rw[hn] at u;cases u
  have VD:=aw _ _ np bt;left;refine λL hL=>#[_,.inl (au.of (cj VD hL)),Qt (λJ H4=>∃v6 v7 L B M,J=[some (.ref p),some (.int m),some (.int k),some (.ref n),some (.int kd),some (.ref L),v6,v7,none]/\H L=none/\H4 L=some (.lst B)/\cC H4 B M/\g8 xs M/\M.length<=k/\H4 n=some (.lst (xs.map V.str))/\bA H4 p/\But p H H4) ?_ ?_]
  ·rintro J H4 ⟨v6,v7,L,B,M,rfl,U,oU,aa,am,b0,sI,jG,oR⟩;left;have Lp:L≠p:=hp.nl U;have yL:B.length<=20:=by rw[aa.1];exact qv7 b0 hk
   have mj:=qxz lK;refine#[#[_,au.of oU],λD hD=>h_ B (λi J Y=>∃v ds,J=[v,some (.ref p)]/\Y D=some (.lst (ds.map V.int))/\ds.length=i/\(∀d∈ds,0<=d/\d<2)/\Y L=some (.lst B)/\cC Y B M/\Y n=some (.lst (xs.map V.str))/\bA Y p/\But p H Y) #[none,[],rfl,aB,rfl,by simp,cj oU hD,aa.same (aJ hD),cj sI hD,jG.upd (jG.ne hD),oR.same (aJ hD)] (λi J Y _ h=>by
    obtain⟨_,_,_,_,_,_,z,_⟩:=h;exact au.of z) ?_ ?_]
   ·rintro i x J O hi ⟨v,ds,rfl,gA,hl,ap,wB,VF,Ce,eV,jc⟩;have an:i<B.length:=(qvU.mp hi).1;left;refine#[p,_,rfl,eV,by decide,by decide,λd H6 ae ag sJ oV=>?_];have Dp:D≠p:=jG.nl hD;have LD:L≠D:=cF oU hD;have nD:n≠D:=cF sI hD;have iw:=oV _ _ Dp gA;left;refine#[_,iw,by rw[qv1,hl];exact yj an yL,ds++[d],by rw[aB];simp,by simp[hl],?_,by rw[aN LD];exact oV _ _ Lp wB,(VF.but eV oV).keep (λc zs e=>HD e iw (by intro z;cases z)),by rw[aN nD];exact oV _ _ np Ce,sJ.upd (Dp.symm),(jc.trans oV).new (bA.none oR jG hD)];intro z hz
    rcases qwc.mp hz with y|y
    ·exact ap z y
    ·simp at y;subst y;exact#[ae,ag]
   ·rintro J O ⟨v,ds,rfl,gA,hl,ap,wB,VF,Ce,eV,jc⟩;left;have ca:=bA.none oR jG hD;have LD:L≠D:=cF oU hD;refine#[#[_,au.of wB],#[_,au.of gA],λD2 G=>cmZ B (ds.map V.int) (λi J Y=>(∃o1 o2 o3,J=[o1,o2,o3])/\∃r qs,Y D2=some (.lst r)/\cC Y r qs/\qs.length=i/\(∀e∈qs,e.1∈xs/\e.2∈xs/\e.1≠e.2)/\Y L=some (.lst B)/\Y D=some (.lst (ds.map V.int))/\cC Y B M/\Y n=some (.lst (xs.map V.str))/\bA Y p/\But p H Y) #[#[_,_,_,rfl],[],[],aB,#[rfl,by simp],rfl,by simp,cj wB G,cj gA G,VF.same (aJ G),cj Ce G,eV.upd (eV.ne G),jc.same (aJ G)] (by simp[hl]) (λi J Y _ h=>by
     obtain⟨_,_,_,_,_,_,_,z1,z2,_⟩:=h;exact#[au.of z1,au.of z2]) ?_ ?_]
    ·rintro i x y t J H6 hx hy ht ⟨⟨o1,o2,o3,rfl⟩,r,qs,VG,qt,I,pX,bc,iw,VH,MP,sJ,oV⟩;left;obtain⟨e,he,tt,rfl,bm⟩:=VH.at hx;have an:i<B.length:=(qvU.mp hx).1;have bz:=qvX he;rw[qv8] at hy;obtain⟨d,hd,rfl⟩:∃d,ds[i]? = some d/\y = .int d:=by
      cases z:ds[i]? with
      |none=>rw[z] at hy;cases hy
      |some d=>rw[z] at hy;exact#[d,rfl,(qwt hy).symm]
     have b9:=ap d (qvX hd);refine#[_,aQ.of aB,rfl,_,aQ.of (cj bm ht),rfl,?_];left;refine λp1 h1 p2 h2 p3 h3=>#[_,.inl (au.of aB),?_];have b7:=cj (u:=HO.lst [V.ref p1,V.ref p2]) (cj (u:=HO.tup [.str e.2,.str e.1]) (aB (H:=upd H6 t (HO.tup [V.ref tt,V.int d])) (a:=p1) (o:=HO.tup [.str e.1,.str e.2])) h2) h3;have b6:=cj (u:=HO.lst [V.ref p1,V.ref p2]) (aB (H:=upd (upd H6 t (HO.tup [V.ref tt,V.int d])) p1 (HO.tup [.str e.1,.str e.2])) (a:=p2) (o:=HO.tup [.str e.2,.str e.1])) h3;have sm:=(((aJ (o:=HO.tup [V.ref tt,V.int d]) ht).trans (aJ (o:=HO.tup [.str e.1,.str e.2]) h1)).trans (aJ (o:=HO.tup [.str e.2,.str e.1]) h2)).trans (aJ (o:=HO.lst [V.ref p1,V.ref p2]) h3);generalize upd (upd (upd (upd H6 t (HO.tup [V.ref tt,V.int d])) p1 (HO.tup [.str e.1,.str e.2])) p2 (HO.tup [.str e.2,.str e.1])) p3 (HO.lst [V.ref p1,V.ref p2])=H9 at b7 b6 sm⊢;have bi:∃(pp:Qv)(e':Str×Str),gM [V.ref p1,V.ref p2] d=some (.ref pp)/\H9 pp=some (.tup [.str e'.1,.str e'.2])/\e'.1∈xs/\e'.2∈xs/\e'.1≠e'.2:=by
      have ⟨q1,q2,q3⟩:=am.ok e bz;have:d=0\/d=1:=z01 b9.1 b9.2
      rcases this with rfl|rfl
      ·exact#[p1,e,rfl,b7,q1,q2,q3]
      ·exact#[p2,(e.2,e.1),rfl,b6,q2,q1,qxt q3]
     obtain⟨pp,e',a1,bq,k1,k2,k3⟩:=bi;have cc:=G;have VJ:D2≠p:=eV.nl G;have c3:L≠D2:=cF wB G;have c4:D≠D2:=cF gA G;have bg:n≠D2:=cF Ce G;have av:=sm _ _ VG;have kp:d7 H9 (upd H9 D2 (.lst (r++[.ref pp]))):=λc zs e=>HD e av (by intro z;cases z);have yM:bA H9 p:=by
      obtain⟨u1,u2,u3,u4⟩:=sJ;exact#[u1,u2,sm _ _ u3,u4]
     refine#[_,a1,_,av,?_,_,aB,qs++[e'],((qt.same sm).keep kp).snoc (kp _ _ bq),by simp[I],?_,by rw[aN c3];exact sm _ _ bc,by rw[aN c4];exact sm _ _ iw,(VH.same sm).keep kp,by rw[aN bg];exact sm _ _ MP,yM.upd VJ.symm,(oV.same sm).new (bA.none jc eV G)]
     ·rw[qt.1,I];exact yj an yL
     ·intro z hz
      rcases qwc.mp hz with y|y
      ·exact pX z y
      ·simp at y;subst y;exact#[k1,k2,k3]
    ·rintro J H6 ⟨⟨o1,o2,o3,rfl⟩,r,qs,VG,qt,I,pX,bc,iw,VH,MP,sJ,oV⟩;left;have VJ:D2≠p:=eV.nl G;have c5:=bA.none jc eV G;have tl:r.length=B.length:=by rw[qt.1,I]
     refine#[p,D2,_,rfl,sJ,VJ,VG,by rw[tl];exact qv7 yL (by decide),λl ys H7 bx Ge a0 nC jH=>?_];left;intro t ht;obtain⟨rs,bp,jJ⟩:=(qt.but sJ jH).perm a0;refine q t n l xs ys rs _ (bA.none (oV.trans jH) nC ht) (bA.none i_ kZ hn) (bA.none oV sJ bx) aB (cj (jH _ _ np MP) ht) (cj Ge ht) (bp.same (aJ ht)) hX #[?_,λe he=>pX e (jJ.mem_iff.mp he)] FZ ?_ (nC.upd (nC.ne ht)) ((oV.trans jH).same (aJ ht))
     ·rw[jJ.length_eq,I];exact yL
     ·rw[jJ.length_eq,I,aa.1];exact b0
  ·intro N hN;refine aM.of (λh=>?_) (λh=>?_)
   ·left;have ab:2<=xs.length:=by simp at h;exact z2 h
    have as:upd H3 L (.lst []) n=some (.lst (xs.map V.str)):=cj VD hL;refine#[p,n,_,rfl,iT.upd (iT.ne hL),np,as,by rw[qv1];exact qv7 MN (by decide),λrw ys H4 c6 ar a0 jG VL=>?_];have oR:=(ai.same (aJ hL)).trans VL;obtain⟨zs,M4,rfl⟩:=qbq a0 xs rfl;have M5:zs.length=xs.length:=M4.length_eq;have bf:zs.Nodup:=M4.nodup_iff.mpr hX.nd;have sI:=VL _ _ np as;have oU:H4 L=some (.lst []):=VL _ _ (iT.nl hL) aB;have U:=bA.none ai iT hL;left;refine Qt (λJ O=>∃v6 v7 L B M,J=[some (.ref p),some (.int m),some (.int k),some (.ref n),some (.int kd),some (.ref L),v6,v7,none]/\H L=none/\O L=some (.lst B)/\cC O B M/\g8 xs M/\M.length<=m/\O n=some (.lst (xs.map V.str))/\bA O p/\But p H O) ?_ ?_
    ·rintro J O ⟨v6,v7,L,B,M,rfl,U,wB,aa,am,br,Ce,eV,jc⟩;left;have Lp:L≠p:=hp.nl U;have yL:B.length=M.length:=aa.1;have mj:=qxz lK;have bn:B.length<=k:=by rw[yL];exact qv7 br bu
     refine#[_,.inl (au.of wB),p,_,rfl,eV,zk1 bn,zk2 hk (by decide),λf H6 Gd b8 sJ M6=>?_];left;refine#[zlo Gd,Int.lt_trans b8 (zk2 hk (by decide)),Qs (λi J H7=>∃v7 B M,J=[some (.ref p),some (.int m),some (.int k),some (.ref n),some (.int kd),some (.ref L),v6,v7,none]/\H7 L=some (.lst B)/\cC H7 B M/\g8 xs M/\M.length+f.toNat<=k+i/\H7 n=some (.lst (xs.map V.str))/\bA H7 p/\But p H H7) #[v7,B,M,rfl,M6 _ _ Lp wB,aa.but eV M6,am,zk3 Gd b8 yL,M6 _ _ np Ce,sJ,jc.trans M6] ?_ ?_]
     ·rintro i J H7 hi ⟨v7,B,M,rfl,wC,Gf,VN,ac,Gg,nC,jH⟩;left;refine#[#[_,au.of wC],p,n,xs,rfl,nC,np,Gg,ab,MN,hX.nd,λt x y H8 ht bo hx hy bj wD ah=>?_];left;have bb:=ah _ _ Lp wC;have Ge:=Gf.1;have kp:d7 H8 (upd H8 L (.lst (B++[.ref t]))):=λc zs e=>HD e bb (by intro z;cases z);have nL:n≠L:=λz=>by subst z;rw[bA.none i_ kZ hn] at U;rw[Gg] at wC;cases B with
       |nil=>simp at wC;rw[wC] at ab;simp at ab
       |cons v B=>
        obtain⟨e,_,u,rfl,_⟩:=Gf.at (i:=0) rfl;cases xs with
        |nil=>simp at ab
        |cons x xs=>simp at wC
      refine#[_,bb,zk4 Ge ac hi hk,_,aB,M++[(x,y)],((Gf.but nC ah).keep kp).snoc (kp _ _ bo),#[by rw[qwm];exact Nat.succ_le_succ (zk5 ac hi hk),?_],by rw[qwm];exact zk6 ac,by rw[aN nL];exact ah _ _ np Gg,wD.upd Lp.symm,(jH.trans ah).new U];intro e he
      rcases qwc.mp he with z|z
      ·exact VN.ok e z
      ·simp at z;subst z;exact#[hx,hy,bj]
     ·rintro J H7 ⟨v7,B,M,rfl,wC,Gf,VN,ac,Gg,nC,jH⟩;left;exact hN _ _ #[_,_,L,B,M,rfl,U,wC,Gf,VN,zk7 ac,Gg,nC,jH]
    ·intro N2 ba;refine aM.of (λh=>?_) (λh=>?_)
     ·left;obtain⟨lo,bv,lo1⟩:∃lo:Nat,(if kd=3 then (1:Int) else 0)=lo/\lo<=1:=by
       split
       ·exact#[1,rfl,qvY _]
       ·exact#[0,rfl,by decide]
      simp only[bv];have mj:=qxz lK;refine#[_,.inl (au.of ar),#[qpr,Jr lo1 (by decide),Jr (by rw[qv1,M5];exact MN) (by decide)],λD hD=>cmR (λi J O=>(∃o,J=[o,some (.ref rw)])/\∃r qs,O D=some (.lst r)/\cC O r qs/\qs.length=i/\(∀e∈qs,e.1∈xs/\e.2∈xs/\e.1≠e.2)/\Same H4 O) #[#[_,rfl],[],[],aB,#[rfl,by simp],rfl,by simp,aJ hD] ?_ ?_]
      ·rintro i J O hi ⟨⟨o,rfl⟩,r,qs,gA,qt,I,pX,sm⟩;have hk:lo+i<zs.length:=by simp at hi;exact qpu hi
       obtain⟨j,vx,hj,ex,ax⟩:=qlQ (xs:=zs.map V.str) (k:=lo+i) (by rw[qv1,M5];exact ab) (by simpa using hk);obtain⟨x,be,rfl⟩:=jy ex;have al:zs[lo+i]? = some (zs[lo+i]'hk):=by simp[hk]
       have ay:gM (zs.map V.str) ((lo+i:Nat):Int)=some (.str (zs[lo+i]'hk)):=cV (by rw[qv8,al];rfl);have c1:((lo+i:Nat):Int)=(lo:Int)+i:=Int.natCast_add ..;rw[c1] at ax ay;have sl:=au.of (K:=K) (sm _ _ ar);left;refine#[_,.inl sl,_,ax,_,.inl sl,_,ay,λpt af=>?_];have cb:=cF gA af;have iw:upd O pt (.tup [.str x,.str (zs[lo+i]'hk)]) D=some (.lst r):=cj gA af;have kp:d7 (upd O pt (.tup [.str x,.str (zs[lo+i]'hk)])) (upd (upd O pt (.tup [.str x,.str (zs[lo+i]'hk)])) D (.lst (r++[.ref pt]))):=λc zs e=>HD e iw (by intro z;cases z);have hl:=qt.1;refine#[_,iw,by rw[hl,I];exact yj (qxI (Nat.le_add_left i lo) hk) (by rw[M5];exact qv7 MN (by decide)),_,aB,qs++[(x,zs[lo+i]'hk)],((qt.same (aJ af)).keep kp).snoc (kp _ _ aB),by simp[I],?_,cN (sm.trans (aJ af)) hD];intro e he
       rcases qwc.mp he with z|z
       ·exact pX e z
       ·simp at z;subst z;refine#[M4.mem_iff.mp (qvX be),M4.mem_iff.mp (qvX al),λz=>hj ?_];simp only at z;rw[<- z] at al;exact Dz bf be al
      ·rintro J O ⟨⟨o,rfl⟩,r,qs,gA,qt,I,pX,sm⟩;left;simp at I;have az:qs.length<=m:=by rw[I,M5];exact qv7 (Nat.sub_le ..) FZ
       have eV:bA O p:=by
        obtain⟨u1,u2,u3,u4⟩:=jG;exact#[u1,u2,sm _ _ u3,u4]
       exact ba _ _ #[_,_,D,r,qs,rfl,bA.none oR jG hD,gA,qt,#[qv7 az (qv7 h9 (by decide)),pX],az,sm _ _ sI,eV,oR.same sm]
     ·left;exact ba _ _ #[_,_,L,[],[],rfl,U,oU,#[rfl,by simp],#[by simp,by simp],by simp,sI,jG,oR]
   ·left;exact hN _ _ #[_,_,L,[],[],rfl,bA.none ai iT hL,aB,#[rfl,by simp],#[by simp,by simp],by simp,cj VD hL,iT.upd (iT.ne hL),ai.same (aJ hL)]
def qqM{m:Str}{u v:V}(f:¬m = "names")(e:¬m = "pairs"):∀p∈([("names",u),("pairs",v)]:List (Str×V)),¬m=p.1:=λp c=>by
 simp at c
 rcases c with rfl|rfl
 ·exact f
 ·exact e
theorem bW.same(h:bW C H o xs ps)(s:Same H u):bW C u o xs ps:=by
 obtain⟨r,n,m,c,l,j,i,f,e⟩:=h.ex;exact#[#[r,n,m,c,s _ _ l,s _ _ j,s _ _ i,cC.same f s,e]]
theorem bW.ins{C:Qv}{H:Hp}{o:Qv}{xs:QAH}{ps:QAD}(h:bW C H o xs ps){m:Str}(i:¬m = "names")(f:¬m = "pairs"):∃c fs,H o=some (.ins C c fs)/\∀p∈fs,¬m=p.1:=by
 obtain⟨c,n,l,j,e,_⟩:=h.ex;exact#[c,_,e,qqM i f]
def wF:¬(("ties" : Str) = "names")/\¬(("ties" : Str) = "pairs"):=by symm
def fO:¬(("points" : Str) = "names")/\¬(("points" : Str) = "pairs"):=by symm
def wG:¬(("many" : Str) = "names")/\¬(("many" : Str) = "pairs"):=by symm
inductive qfP  (C:Qv):Sp
 |mk (o d xs ps fx:_) (_:vs=[.ref o,.ref d]) (_:bW C H o xs ps) (_:qmd H d fx) (_:∀l tv H',H l=none->H' l=some (.lst tv)->dw H' tv (jz fx ps 0)->tv.length<=40->Same H H'->Q (.ref l) H'):qfP C vs H Q E
def qfQ(T:Txt K mg a):aO P w K mg base aW 2 a.uw a.Kl ["web", "fixed"] (qfP a.bx):=by
 exists T.Mj.bG,EY
 ·obtain⟨o,d,xs,D,C,rfl,hw,ah,q⟩:=h;refine#[_,(aK (bF (i:=2) EY.nd rfl (Or.inl rfl) (cM aq))
   (aK (jT qwI rfl (PI.eqv (Qo (K:=K) rfl rfl T.nu.enumerate (ak (PE.eqv (gK (aj 0) T.eU T.FP (MK T) hr.d T.Fw .nil fZ) (gV _ _ _ _ _ _)) aq)) (QT _ _)) (PG.eqv (iJ (K:=K) (n:=2) rfl rfl (bB.eqv (cI (eF (i:=3) EY.nd rfl (Or.inl rfl)) (bB.eqv (cI (PG.eqv (iJ (K:=K) (n:=2) rfl rfl (bB.eqv (cI (eF (i:=4) EY.nd rfl (Or.inl rfl)) (bB.eqv (cI (eF (i:=5) EY.nd rfl (Or.inl rfl)) (bB.mono iH iM)) (cJ _ _))) (cJ _ _))) (iQ _ _ _)) (bB.mono iH iM)) (cJ _ _))) (cJ _ _))) (iQ _ _ _))
   (aK (bU (bN lO (PE.eqv (qbm (nW hr) (aj 1) (aj 3) aH #[rfl,rfl,rfl,rfl]) (qct _ _ _)) aH (bV _)) (aF (eE (jW (K:=K) rfl qwz qwY qwZ xU (aj 2) (ak (dY (ak (aj 3) (ak (aj 4) (ak (aj 5) aq)))) aq)))) cA)
   (aF (bU (bN lO (PE.eqv (qbm (nW hr) (aj 1) (aj 3) aH #[rfl,rfl,rfl,rfl]) (qct _ _ _)) aH (bV _)) (aF (eE (jW (K:=K) rfl qwz qwY qwZ xU (aj 2) (ak (dY (ak (aj 3) (ak (aj 5) (ak (aj 4) aq)))) aq)))) cA))))
   (aF (aX (aj 2))))),?_]
  obtain⟨dx,fs,hi,ag⟩:=hw.ins wF.1 wF.2;obtain⟨_,_,_,_,_,_,_,_,cO⟩:=hw.ex;left;intro L Y;refine#[_,_,cj hi Y,ag,o,xs,D,rfl,hw.same (aJ Y),λv l m yN=>?_];have sa:Same H (upd (upd H L (.lst [])) v (.lst l)):=(aJ Y).trans (aJ m);have eL:upd (upd H L (.lst [])) v (.lst l) L=some (.lst []):=cj aB m;have e2:upd (upd H L (.lst [])) v (.lst l) v=some (.lst l):=aB;have U:=cC.same yN (aJ (o:=HO.lst l) m);have ai:L≠v:=λz=>by subst z;rw[aB] at m;cases m
  generalize upd (upd H L (.lst [])) v (.lst l)=H1 at sa eL e2 U⊢;obtain⟨al,hd,hv⟩:=ah;have dL:d≠L:=cF hd Y;left;refine#[#[_,au.of e2],frE l (λi G H'=>(∃v3 v4 v5 c,G=[some (.ref o),some (.ref d),some (.ref L),v3,v4,v5]/\H' L=some (.lst c)/\dw H' c (jz C (D.take i) 0)/\c.length<=2 * i)/\H' v=some (.lst l)/\cC H' l D/\Same H H') #[#[_,_,_,[],rfl,eL,bH.nil,by simp],e2,U,sa] (λi G H' _ h=>au.of h.2.1) ?_ ?_]
  ·rintro i x t G H2 hi ht ⟨⟨v3,v4,v5,c,rfl,B,r,u⟩,ac,j,s2⟩;have ae:i<l.length:=(qvU.mp hi).1;have tl:=j.1;obtain⟨e,he,tt,rfl,af⟩:=j.at hi;rw[qmc C he];unfold HX;left;have st:Same H2 (upd H2 t (.tup [.int i,.ref tt])):=aJ ht;refine#[_,aQ.of aB,rfl,_,aQ.of (st _ _ af),rfl,isD (st _ _ (s2 _ _ hd)),_,qbw i (st _ _ (s2 _ _ hd)),?_];have tL:L≠t:=cF B ht;have I:=st _ _ B;have VP:=st _ _ ac;have U:=cC.same j st;have s3:=s2.trans st;have VR:=dw.keep r (L2.d7.of st);generalize upd H2 t (.tup [.int i,.ref tt])=f at I VP U s3 VR⊢;have oW:60<=sizeLine:=by decide
   have add:∀(f:Hp)(c:kE)(S:List bL)(n:Nat)(x y:Str)(b:Qv),f L=some (.lst c)->dw f c S->f b=none->f v=some (.lst l)->cC f l D->Same H f->
     (upd (upd f b (.tup [.int n,.str x,.str y])) L (.lst (c++[.ref b])) L=some (.lst (c++[.ref b]))/\dw (upd (upd f b (.tup [.int n,.str x,.str y])) L (.lst (c++[.ref b]))) (c++[.ref b]) (S++[(n,x,y)]))/\upd (upd f b (.tup [.int n,.str x,.str y])) L (.lst (c++[.ref b])) v=some (.lst l)/\cC (upd (upd f b (.tup [.int n,.str x,.str y])) L (.lst (c++[.ref b]))) l D/\Same H (upd (upd f b (.tup [.int n,.str x,.str y])) L (.lst (c++[.ref b]))):=by
    intro f c S n x y b I r J m j s3;have sb:Same f (upd f b (.tup [.int n,.str x,.str y])):=aJ J;have kp:L2.d7 (upd f b (.tup [.int n,.str x,.str y])) (upd (upd f b (.tup [.int n,.str x,.str y])) L (.lst (c++[.ref b]))):=L2.d7.set (sb _ _ I) (by intro z e;cases e);refine#[#[aB,bH.snoc (dw.keep (dw.keep r (L2.d7.of sb)) kp) #[b,rfl,kp _ _ aB]],by rw[aN ai.symm];exact sb _ _ m,(cC.same j sb).keep kp,cN (s3.trans sb) Y]
   rw[hv i,qby];left;refine Qt (λG O=>(∃c,G=[some (.ref o),some (.ref d),some (.ref L),some (.int i),some (.str e.1),some (.str e.2)]/\O L=some (.lst c)/\dw O c (jz C (D.take i) 0++if (C i).getD 0=0 then [(i,e.1,e.2)] else [])/\c.length<=2 * i+1)/\O v=some (.lst l)/\cC O l D/\Same H O) ?_ ?_
   ·rintro G O ⟨⟨c,rfl,oU,ab,V0⟩,aa,a0,s4⟩;left;refine#[isD (s4 _ _ hd),_,qbw i (s4 _ _ hd),?_];rw[hv i,qby];left;refine aM.of (λh=>?_) (λh=>?_)
    ·have M:(C i).getD 1=1:=by simpa using h
     left;refine#[#[_,au.of oU],λb J=>?_];refine#[_,cj oU J,zs1 V0 ae tl cO,?_];obtain⟨⟨k1,k2⟩,k3,k4,k5⟩:=add O c _ i e.2 e.1 b oU ab J aa a0 s4;refine#[#[_,k1,?_,by rw[qwm];exact zs2 V0],k3,k4,k5];rw[if_pos M,<- qxu];exact k2
    ·have M:¬(C i).getD 1=1:=by simpa using h
     left;refine#[#[_,oU,?_,Nat.le_of_succ_le (zs2 V0)],aa,a0,s4];rw[if_neg M,qwy];exact ab
   ·intro N hN;refine aM.of (λh=>?_) (λh=>?_)
    ·have M:(C i).getD 0=0:=by simpa using h
     left;refine#[#[_,au.of I],λb J=>?_];refine#[_,cj I J,zs1 (Nat.le_succ_of_le u) ae tl cO,?_];obtain⟨⟨k1,k2⟩,k3,k4,k5⟩:=add f c _ i e.1 e.2 b I VR J VP U s3;refine hN _ _ #[#[_,rfl,k1,?_,by rw[qwm];exact Nat.succ_le_succ u],k3,k4,k5];rw[if_pos M];exact k2
    ·have M:¬(C i).getD 0=0:=by simpa using h
     left;refine hN _ _ #[#[_,rfl,I,?_,Nat.le_succ_of_le u],VP,U,s3];rw[if_neg M,qwy];exact VR
  ·rintro G H2 ⟨⟨v3,v4,v5,c,rfl,B,r,u⟩,ac,j,s2⟩;left;rw[j.1,qv5] at r;have tl:=j.1;exact q L c H2 Y B r (zs3 u tl cO) s2
inductive qfV:Sp
 |mk (start:Str) (l:Qv) (tv:kE) (S:List bL) (xs:QAH) (_:vs=[.str start,.ref l]) (_:H l=some (.lst tv)) (_:dw H tv S) (_:start∈xs) (_:(∀s∈S,s.2.2∈xs)) (_:xs.length<=9) (_:∀(d:Qv)(kvs:List (Key×V))(R:BR)(H':Hp),H d=none->H' d=some (.dK kvs)->gj H' kvs R->ig S start R.length R->qdd S start R->pY H kvs->Same H H'->Q (.ref d) H'):qfV vs H Q E
def Gh(T:Txt K mg a):aO P w K mg base aW 1 a.ux a.Km ["start", "steps"] qfV:=by
 exists T.yE.bG,rM
 ·obtain⟨start,l,tv,S,xs,rfl,hl,hS,ab,Cg,h9,q⟩:=h;refine#[_,(aK (bF (i:=2) rM.nd rfl (Or.inl rfl) (qbi (qbe (aj 0) (cM aq) qbd) rfl rfl (by simp) (by decide)))
   (aK (bF (i:=3) rM.nd rfl (Or.inl rfl) (cM (ak (aj 0) aq)))
   (aK (bF (i:=4) rM.nd rfl (Or.inl rfl) aH)
   (aK (Hg qwI (bN Al (aj 4) (bw (cW (K:=K) rfl) rfl T.nm.len qv9 (ak (aj 3) aq)) (bV _))
   (aK (bF (i:=5) rM.nd rfl (Or.inl rfl) (bQ (bT (K:=K) rfl) (aj 3) (aj 4) (λ_ _=>rfl)))
   (aK (jT qwI rfl (dD (K:=K) (aj 1)) (PG.eqv (iJ (K:=K) (n:=3) rfl rfl (bB.eqv (cI (eF (i:=6) rM.nd rfl (Or.inl rfl)) (bB.eqv (cI (eF (i:=7) rM.nd rfl (Or.inl rfl)) (bB.eqv (cI (eF (i:=8) rM.nd rfl (Or.inl rfl)) (bB.mono iH iM)) (cJ _ _))) (cJ _ _))) (cJ _ _))) (iQ _ _ _))
   (aF (bU (PW.pt (Ow (bN lO (aj 7) (aj 5) (bV _)) (Ov (QL (PC.eqv (qlH (nW hr) (aj 8) (aj 2)) (qnG _ _)))))) (aK (PS.eqv (qlI (nW hr) (aj 2) (aj 8) (bI ug (PE.eqv (qa_ (nW hr) (aj 2) (aj 5) (λ_ _=>rfl)) (qcr _ _)) (cM (ak (aj 6) aq))) rfl) (qnH _ _ _))
   (aF (eE (jW (K:=K) rfl qwz qwY qwZ xU (aj 3) (ak (aj 8) aq))))) cA)))
   (aF (PS.mono (qjr (i:=4) rM.nd rfl (Or.inl rfl) aH qnP) qnl)))))
   (aF (aX (aj 2))))))),?_]
  left;intro d hd m C;refine#[cj aB C,[(Sum.inr start,.ref m)],rfl,by simp,λM u=>?_];have em:z_ [] [((Sum.inr start:Key),V.ref m)]=[(Sum.inr start,.ref m)]:=rfl;rw[em] at u⊢;have aw:d≠m:=λz=>by subst z;rw[aB] at C;cases C
  have V1:H m=none:=gU (aJ hd) C;have sa:Same H (upd (upd (upd H d (.dK [])) m (.lst [])) d (.dK [(Sum.inr start,.ref m)])):=cN ((aJ hd).trans (aJ C)) hd;have al:H M=none:=gU sa u;have e1:upd (upd (upd H d (.dK [])) m (.lst [])) d (.dK [(Sum.inr start,.ref m)]) d=some (.dK [(Sum.inr start,.ref m)]):=aB;have e2:upd (upd (upd H d (.dK [])) m (.lst [])) d (.dK [(Sum.inr start,.ref m)]) m=some (.lst []):=by rw[aN aw.symm];exact aB
  generalize upd (upd (upd H d (.dK [])) m (.lst [])) d (.dK [(Sum.inr start,.ref m)])=H1 at sa u e1 e2⊢;have sb:=sa.trans (aJ (o:=.lst [.str start]) u);have dr:d≠M:=cF e1 u;have ai:pY H [((Sum.inr start:Key),V.ref m)]:=by
   intro kv ae q hq;simp at ae;subst ae;cases hq;exact V1
  refine HW (λJ I=>∃(n:Nat)(R:BR)(f:List (Key×V))(o5 o6 o7 o8:Option V),J=[some (.str start),some (.ref l),some (.ref d),some (.ref M),some (.int n),o5,o6,o7,o8]/\I d=some (.dK f)/\gj I f R/\I M=some (.lst (R.map λD=>.str D.1))/\ig S start n R/\lX S start n=R/\pY H f/\n<=R.length/\Same H I)
   (λJ _=>qbz 4 J)
   #[0,[(start,[])],[(Sum.inr start,.ref m)],none,none,none,none,rfl,cj e1 u,#[rfl,?_],aB,ig.begin S start,rfl,ai,by simp,sb] ?_ qnQ
  ·intro i kv D O h2;have hi:i=0:=by have:=(qvU.mp O).1;simp at this;omega
   subst hi;simp at O h2;subst O h2;exact#[rfl,m,rfl,cj e2 u]
  ·rintro J H2 ⟨n,R,f,o5,o6,o7,o8,rfl,af,ag,a0,hB,hF,hN,ay,s2⟩;have ar:R.length<=9:=by
    have O:=rm hB.nd (hB.sub ab Cg);simp at O;lia
   left;refine#[_,.inl (au.of a0),aM.of (λaa=>?_) (λaa=>?_)]
   ·have U:n<R.length:=by simpa using aa
    left;obtain⟨⟨hh,L⟩,hR⟩:∃x,R[n]? = some x:=#[R[n],by simp[U]];refine#[_,.inl (au.of a0),.str hh,cV (by rw[qv8,hR];rfl),#[_,au.of (s2 _ _ hl)],lM tv (λj J I=>∃(R:BR)(f:List (Key×V))(o6 o7 o8:Option V),J=[some (.str start),some (.ref l),some (.ref d),some (.ref M),some (.int n),some (.str hh),o6,o7,o8]/\I d=some (.dK f)/\gj I f R/\I M=some (.lst (R.map λD=>.str D.1))/\mV S (S.take j) start n hh L R/\rK (S.take j) hh L (lX S start n)=R/\pY H f/\Same H I) #[R,f,o6,o7,o8,rfl,af,ag,a0,mV.enter hB hR,hF,hN,s2] (λj J I _ h=>by
     obtain⟨_,_,_,_,_,_,_,_,_,_,_,_,z⟩:=h;exact au.of (z _ _ hl)) ?_ ?_]
    ·rintro j x J H3 hj ⟨R,f,o6,o7,o8,rfl,Y,N,sS,v,M7,Gi,s3⟩;obtain⟨⟨G,so,B⟩,hs,t,rfl,ht⟩:=hS.at hj;have ar:R.length<=9:=by
      have O:=rm v.bf.nd (v.bf.sub ab Cg);simp at O;lia
     have M8:=qpn (S.take j) (G,so,B) hh L (lX S start n);rw[M7] at M8;rw[take_one hs];left;refine#[_,aQ.of (s3 _ _ ht),rfl,?_];left
     by_cases M9:so=hh
     ·subst M9;refine aM.pos (by simp) ?_;left;refine#[_,Ac B Y,?_];rw[N.qmf v.bf.nd];refine aM.of (λhg=>?_) (λhg=>?_)
      ·have y:¬B∈R.map (·.1):=by simpa using hg
       obtain⟨pw,Gj,ah⟩:=N.some v.bf.nd (qvX v.hr);have ax:=v.bf.Qu (qvX v.hr);have mj:=qxz lK;left;refine#[.ref pw,?_,λb hb=>?_]
       ·have:=Ac so Y;rw[Gj] at this;exact this
       refine#[_,cj ah hb,_,aB,by simp;lia,λc hc=>?_];have s4:Same H3 (upd (upd H3 b (.lst [.int G])) c (.lst (L.map (λn:Nat=>V.int n)++[.int G]))):=(aJ hb).trans (aJ hc);have ec:upd (upd H3 b (.lst [.int G])) c (.lst (L.map (λn:Nat=>V.int n)++[.int G])) c=some (.lst (L.map (λn:Nat=>V.int n)++[.int G])):=aB;generalize upd (upd H3 b (.lst [.int G])) c (.lst (L.map (λn:Nat=>V.int n)++[.int G]))=H4 at s4 ec⊢;have Gk:=s4 _ _ Y;have jF:=s4 _ _ sS;have az:=N.len;have as:putK f (Sum.inr B) (.ref c)=f++[(Sum.inr B,.ref c)]:=qlA _ (N.none y);refine#[_,qmb B Gk ⋯,?_];rw[as];have V2:upd H4 d (.dK (f++[(Sum.inr B,.ref c)])) M=some (.lst (R.map λD=>.str D.1)):=by rw[aN dr.symm];exact jF
       have am:∀w:List Nat,R.map (λD=>V.str D.1)≠w.map (λn:Nat=>V.int n):=λw e=>by
        have an:=v.bf.st;cases R with
        |nil=>simp at an
        |cons r R=>
         cases w with
         |nil=>simp at e
         |cons n w=>simp at e
       have kp:∀(p:Qv)(w:qw),H4 p=some (.lst (w.map λn:Nat=>V.int n))->upd (upd H4 d (.dK (f++[(Sum.inr B,.ref c)]))) M (.lst (R.map (λD=>V.str D.1)++[.str B])) p=some (.lst (w.map λn:Nat=>V.int n)):=λp w e=>by
        have O:p≠d:=λz=>by subst z;rw[Gk] at e;cases e
        have h2:p≠M:=λz=>by subst z;rw[jF] at e;exact am w (HO.lst.inj (qwt e))
        rw[aN h2,aN O];exact e
       have av:H4 c=some (.lst ((L++[G]).map λn:Nat=>V.int n)):=by rw[ec];simp
       refine#[#[_,au.of V2],_,V2,by simp;lia,R++[(B,L++[G])],_,by rw[aN dr];exact aB,?_,by rw[aB];simp,v.add (qvX hs) y,M8.trans (if_pos #[rfl,y]),Gi.snoc (gU (s3.trans (aJ hb)) hc),cN (cN (s3.trans s4) hd) al];refine gj.snoc (gj.keep (H:=H4) (gj.keep N λp w e=>s4 _ _ e) kp) (kp _ _ av)
      ·have y:B∈R.map (·.1):=by simpa using hg
       left;exact#[R,f,Y,N,sS,v.skip λ_=>y,M8.trans (if_neg (λz=>z.2 y)),Gi,s3]
     ·refine aM.neg (by simp[M9]) ?_;left;exact#[R,f,Y,N,sS,v.skip λz=>absurd z M9,M8.trans (if_neg (λz=>M9 z.1)),Gi,s3]
    ·rintro J H3 ⟨R,f,o6,o7,o8,rfl,Y,N,sS,v,M7,Gi,s3⟩;have ap:S.take tv.length=S:=by rw[hS.1,qv5]
     rw[ap] at v M7;left;have ac:=(qvU.mp v.hr).1;refine#[#[n+1,⋯,R,f,Y,N,sS,v.leave,(qpo (by rw[hF];exact hR)).trans M7,Gi,ac,s3],?_];simp[qbz];lia
   ·have U:¬n<R.length:=by simpa using aa
    have en:n=R.length:=⋯
    subst en;left;exact q d f R H2 hd af ag hB hF hN s2
inductive qfW  (C:Qv):Sp
 |mk (o:Qv) (start:Str) (l:Qv) (tv:kE) (S:List bL) (xs:QAH) (ps:QAD) (_:vs=[.ref o,.str start,.ref l]) (_:bW C H o xs ps) (_:H l=some (.lst tv)) (_:dw H tv S) (_:start∈xs) (_:(∀s∈S,s.2.2∈xs)) (_:xs.length<=9) (_:∀(r:Qv)(cs:QAH)(H':Hp),H' r=some (.lst (cs.map V.str))->Same H H'->Q (.ref r) H'):qfW C vs H Q E
def qqQ(T:Txt K mg a):aO P w K mg base aW 2 a.uy a.Ko ["web", "start", "steps"] (qfW a.bx):=by
 exists T.T8.bG,qdA
 ·obtain⟨o,start,l,L,S,e,N,rfl,hw,hl,hS,r,Cg,h9,q⟩:=h;refine#[_,(aK (bF (i:=3) qdA.nd rfl (Or.inr rfl) (aL (Gh T) hr T.Bj T.yE T.Bh (ak (aj 1) (ak (aj 2) aq))))
   (aF (aX (fJ rfl rfl (show bM (aG JC) _ ["web", "start", "steps", "ways"] ["point"] [3] ["point", "ways"] from by rfl') rfl (dD (K:=K) (PE.eqv (gK (aj 0) T.eU T.lZ (nA T) hr.d T.lY .nil fZ) (gV _ _ _ _ _ _))) (λC s H Y O=>(bO ["point", "ways"] 0)) (λC s H Y O=>(mQ (QL (PC.eqv (qba (nW hr) (aj 0) (aj 1)) (qcs _ _))))) (λC s H Y O=>(aj 0)))))),?_]
  left;refine#[start,l,L,S,e,rfl,hl,hS,r,Cg,h9,λd a0 R H1 hd G hW hB _ _ n=>?_];obtain⟨dx,fs,z,u⟩:=(hw.same n).ins fO.1 fO.2;left;refine#[_,_,z,u,o,e,N,rfl,hw.same n,λl2 v=>?_];generalize jK:upd H1 l2 (.lst (e.map V.str))=H2;obtain⟨M,e2⟩:=cQ v jK;have B:=M _ _ G;have mj:=qxz lK;left;refine#[#[_,au.of e2],λD U=>h_ (e.map V.str) (λi j J=>(∃o,j=[o,some (.ref d)])/\(∃c:QAH,J D=some (.lst (c.map V.str))/\c.length<=i)/\Same H2 J) #[#[_,rfl],#[[],aB,qvY _],aJ U] (λi j J _ h=>au.of (h.2.2 _ _ e2)) ?_ ?_]
  ·rintro i x j H3 z ⟨⟨o',rfl⟩,⟨c,m,I⟩,f⟩;obtain⟨y,hy,rfl⟩:=jy z;have aa:i<e.length:=(qvU.mp hy).1;left;refine#[_,Ac y (f _ _ B),aM.of (λh=>?_) (λh=>?_)]
   ·left;exact#[_,m,by simp;lia,#[c++[y],by simp[aB],by simp;omega],cN f U]
   ·left;exact#[#[c,m,∅],f]
  ·rintro j H3 ⟨⟨o',rfl⟩,⟨c,m,I⟩,f⟩;left;exact q D c H3 m ((n.trans M).trans f)
def yP:PyData->String
 |.none=> "NoneType"
 |.bool _=> "bool"
 |.int _=> "int"
 |.str _=> "str"
 |.list _=> "list"
 |.tuple _=> "tuple"
 |.dict _=> "dict"
def sU:PyData->Bool
 |.list _=>true
 |.tuple _=>true
 |_=>false
def intD:PyData->Bool
 |.int _=>true
 |.bool _=>true
 |_=>false
def qfX:PyData->Bool
 |.bool _=>true
 |_=>false
def yQ:PyData->Bool
 |.int _=>true
 |_=>false
def lg:PyData->Bool
 |.int i=>decide (0<=i) && decide (i<=1)
 |_=>false
def kids:PyData->List PyData
 |.list c=>c
 |.tuple c=>c
 |_=>[]
def cR(n:Nat)(d:PyData):Bool:=sU d && (decide ((kids d).length=n) && (kids d).all lg)
def V3(h:aA H d v):fH K H v (.type (yP d)):=by
 cases d with
 |none=>simp only[aA] at h;subst h;exact .non
 |bool b=>simp only[aA] at h;subst h;exact .bl b
 |int i=>simp only[aA] at h;subst h;exact .int i
 |str x=>simp only[aA] at h;subst h;exact .str x
 |list e=>simp only[aA] at h;obtain⟨a,f,rfl,c,_⟩:=h;exact .lst c
 |tuple e=>simp only[aA] at h;obtain⟨a,f,rfl,c,_⟩:=h;exact .tup c
 |dict e=>simp only[aA] at h;obtain⟨_,a,rfl,c⟩:=h;exact .dK c
def qqR(d:PyData):W.kitAny K (.type (yP d)) [.type "list",.type "tuple"]=some (sU d):=by
 cases d <;> simp[W.kitAny,W.kitOne,yP,sU] <;> rfl
def qqS(d:PyData):W.kitOne K (.type (yP d)) (.type "int")=some (intD d):=by
 cases d with
 |none=>exact ql9 K
 |bool b=>exact ql3 K
 |int i=>exact ql0 K
 |str x=>exact qlX K
 |list c=>exact qlS K
 |tuple c=>exact qlV K
 |dict c=>exact ql6 K
def qqT(d:PyData):W.kitOne K (.type (yP d)) (.type "bool")=some (qfX d):=by
 cases d with
 |none=>exact ql_ K
 |bool b=>exact ql4 K
 |int i=>exact ql1 K
 |str x=>exact qlY K
 |list c=>exact qlT K
 |tuple c=>exact qlW K
 |dict c=>exact ql7 K
def qqU{H:Hp}{t:Qv}{ns:qZ}(h:Sq H t (ns.map V.int)):∃d,aA H d (.ref t)/\sU d=true/\kids d=ns.map PyData.int:=by
 rcases h with h|h
 ·exact#[.list (ns.map PyData.int),by simp only[aA];exact#[t,_,rfl,h,aR.ints H ns],rfl,rfl]
 ·exact#[.tuple (ns.map PyData.int),by simp only[aA];exact#[t,_,rfl,h,aR.ints H ns],rfl,rfl]
def qfY(h:aA H d v)(f:sU d=true):∃t xs,v = .ref t/\Sq H t xs/\aR H (kids d) xs:=by
 cases d with
 |list i=>simp only[aA] at h;obtain⟨a,xs,rfl,e,c⟩:=h;exact#[a,xs,rfl,.inl e,c]
 |tuple i=>simp only[aA] at h;obtain⟨a,xs,rfl,e,c⟩:=h;exact#[a,xs,rfl,.inr e,c]
 |_=>cases f
inductive qfZ  (C:Qv):Sp
 |mk (o xs ps:_) (_:vs=[.ref o]) (_:bW C H o xs ps) (_:Q (.int ps.length) H):qfZ C vs H Q E
def M_(T:Txt K mg a):aO P w K mg base aW 1 a.rY a.Kz ["self"] (qfZ a.bx):=by
 exists T.qd4.bG,qqe
 ·obtain⟨o,c,e,rfl,⟨v,n,m,l,j,u,i,f,r⟩,q⟩:=h;refine#[_,(aF (aX (bw (cW (K:=K) rfl) rfl T.nm.len qv9 (ak (PE.eqv (Qf (K:=K) rfl (aj 0) rfl) (QW _ _ _)) aq)))),?_];left;refine#[_,_,_,j,T.eU,T.Mz,_,rfl,_,.inr (aQ.of i),?_];rw[f.1];exact q
inductive qf0:Sp
 |mk (d:PyData) (v:V) (_:vs=[v]) (_:aA H d v) (_:∀H',Same H H'->Q (.bl (sU d)) H'):qf0 vs H Q E
def qqV(T:Txt K mg a):aO P w K mg base aW 1 a.rQ a.Fj ["thing"] qf0:=by
 exists T.qm.bG,qdB
 ·obtain⟨d,v,rfl,e,q⟩:=h;refine#[_,(aF (aX (bw (qcw (K:=K) rfl) rfl T.nm.isinstance boot_isinstance (ak (aj 0) (ak (dY (ak (qK (v:=.ty "list") rfl T.nm.list boot_list rfl) (ak (qK (v:=.ty "tuple") rfl T.nm.tuple boot_tuple rfl) aq))) aq))))),?_];left;refine λt c=>#[_,_,aB,_,V3 (aA.same (aJ c) d v e),_,qqR d,q _ (aJ c)]
inductive qf1:Sp
 |mk (d:PyData) (v:V) (_:vs=[v]) (_:aA H d v) (_:Q (.bl (yQ d)) H):qf1 vs H Q E
def Nb(T:Txt K mg a):aO P w K mg base aW 1 a.uz a.Kq ["thing"] qf1:=by
 exists T.Bk.bG,qp8
 ·obtain⟨d,v,rfl,e,q⟩:=h;refine#[_,(aF (aX (uh (bw (Ir (K:=K) rfl) rfl T.nm.isinstance boot_isinstance (ak (aj 0) (ak (qK (v:=.ty "int") rfl T.nm.int qaK rfl) aq))) (tE (qmQ (bw (Ir (K:=K) rfl) rfl T.nm.isinstance boot_isinstance (ak (aj 0) (ak (qK (v:=.ty "bool") rfl T.nu.bool qkX rfl) aq)))))))),?_];left;refine#[_,V3 e,_,qqS d,?_];cases c:intD d with
  |false=>
   refine aM.neg rfl ?_;left;rw[show yQ d=false by cases d <;> first|rfl|cases c] at q
   exact q
  |true=>
   refine aM.pos rfl ?_;left;refine#[_,V3 e,_,qqT d,?_];rw[show yQ d = !qfX d by cases d <;> first|rfl|cases c] at q
   exact q
inductive qf2:Sp
 |mk (d:PyData) (v:V) (_:vs=[v]) (_:aA H d v) (_:Q (.bl (lg d)) H):qf2 vs H Q E
def qqW(T:Txt K mg a):aO P w K mg base aW 2 a.uI a.KH ["thing"] qf2:=by
 exists T.Ug.bG,qqh
 ·obtain⟨d,v,rfl,c,q⟩:=h;refine#[_,(aF (aX (uh (aL (Nb T) hr T.Fv T.Bk T.Ft (ak (aj 0) aq)) (tE (qb2 oA oA aH (aj 0) aH))))),?_];left;refine#[d,v,rfl,c,?_];cases hw:yQ d with
  |false=>
   rw[show lg d=false by cases d <;> first|rfl|cases hw] at q
   left;exact q
  |true=>
   obtain⟨i,rfl⟩:∃i,d = .int i:=by cases d <;> first|exact#[_,rfl]|cases hw
   simp only[aA] at c;subst c;left;simp only[lg] at q;refine aM.of (λh=>?_) (λh=>?_)
   ·rw[h] at q;left;exact q
   ·rw[h] at q;left;exact q
theorem Dy:∀l:List Bool,mR (l.map V.bl) l
 |[]=>rfl
 |b::l=>#[b,_,rfl,rfl,Dy l]
inductive qf3  (C:Qv):Sp
 |mk (o:Qv) (v:V) (d:PyData) (xs:QAH) (ps:QAD) (_:vs=[.ref o,v]) (_:bW C H o xs ps) (_:aA H d v) (_:ps.length<=20) (_:∀H',Same H H'->Q (.bl (cR ps.length d)) H'):qf3 C vs H Q E
def qf4(T:Txt K mg a):aO P w K mg base aW 3 a.uJ a.KJ ["web", "thing"] (qf3 a.bx):=by
 exists T.Ml.bG,qqi
 ·obtain⟨o,v,d,U,n,rfl,hw,hd,cO,q⟩:=h;refine#[_,(aK (bU (PW.pt (je (d9 (fu (aL (qqV T) hr T.vU T.qm T.vR (ak (aj 1) aq)))) (jq (bN jC (bw (cW (K:=K) rfl) rfl T.nm.len qv9 (ak (aj 1) aq)) (PE.eqv (gK (aj 0) T.eU T.FQ (M_ T) hr.d T.Fx .nil fZ) (gV _ _ _ _ _ _)) (bV _))))) (aF (aX eX)) cA)
   (aF (aX (bw (rF rfl) rfl T.nm.all qX (ak (fJ rfl rfl (show bM (aG JL) _ ["web", "thing"] ["one"] [] ["one"] from by rfl') rfl (PI.eqv (tW (K:=K) rfl (aj 1)) (um _ _)) (λC s H fp Y=>(bO ["one"] 0)) (λC s H fp Y=>dZ) (λC s H fp Y=>(aL (qqW T) hr T.qd_ T.Ug T.qd9 (ak (aj 0) aq)))) aq))))),?_]
  left;refine#[d,v,rfl,hd,λH1 l=>?_];cases M:sU d with
  |false=>
   left;have e:cR n.length d=false:=by unfold cR;rw[M];rfl
   rw[e] at q;exact q _ l
  |true=>
   obtain⟨t,B,rfl,hq,j⟩:=qfY hd M;obtain⟨dx,fs,I,N⟩:=(hw.same l).ins wG.1 wG.2;have r:=hq.same l;have f:=j.length;left;refine#[_,r.q,_,_,I,N,o,U,n,rfl,hw.same l,?_];left
   by_cases u:B.length=n.length
   ·refine#[false,by simp[u],aM.neg rfl ?_];obtain⟨b,hb⟩:=r.b;left;refine#[b,#[_,hb K H1 (Same.refl _)],λD hD=>uc B (λi y J=>(∃L,y=[L])/\J D=some (.lst ((((kids d).take i).map lg).map V.bl))/\Same H1 J) #[#[_,rfl],aB,aJ hD] (λi y J _ h=>hb K J h.2.2) ?_ ?_]
    ·rintro i x y H2 I ⟨⟨L,rfl⟩,m,G⟩;have O:i<B.length:=(qvU.mp I).1;obtain⟨c,hc,hx⟩:=j.at I;left;refine#[c,x,rfl,aA.same (l.trans G) c x hx,?_];left;refine#[_,m,by rw[qv1,qv1];exact yj (qxI (List.length_take_le ..) O) (by rw[u];exact cO),?_,cN G hD];rw[aB,List.take_add_one,hc];simp
    ·rintro y H2 ⟨⟨L,rfl⟩,m,G⟩;left;refine#[_,m,_,Dy _,?_];have e:cR n.length d=(((kids d).take B.length).map lg).all id:=by
      unfold cR;rw[M,<- f,qv5,qwv (by rw[f];exact u),List.all_map];rfl
     rw[<- e];exact q _ (l.trans G)
   ·refine#[true,by simp;exact λz=>u (Int.ofNat.inj z),aM.pos rfl ?_];left;have e:cR n.length d=false:=by unfold cR;rw[qwh (by rw[f];exact u)];simp
    rw[e] at q;exact q _ l
theorem qf5:∀{ns:qZ},(∀n∈ns,0<=n/\n<=1)->(ns.map PyData.int).all lg=true
 |[],_=>rfl
 |n::ns,h=>by
  have e:=h n qv3;rw[qwd,List.all_cons,qf5 λm c=>h m (qvZ _ c)];simp[lg,e]
def qf6{d:PyData}{ns:qZ}(f:sU d=true)(e:kids d=ns.map PyData.int)(c:∀n∈ns,0<=n/\n<=1):cR ns.length d=true:=by
 unfold cR;rw[f,e,qf5 c];simp
def oY(C:Qv)(H:Hp)(o t:Qv)(xs:QAH)(ps:QAD)(ns:qZ):Prop:=bW C H o xs ps/\Sq H t (ns.map V.int)/\(∀n∈ns,0<=n/\n<=1)/\ns.length=ps.length/\ps.length<=20
inductive qf7  (C:Qv):Sp
 |mk (o t:Qv) (xs:QAH) (ps:QAD) (ns:qZ) (_:vs=[.ref o,.ref t]) (_:oY C H o t xs ps ns) (_:∀H',Same H H'->Q .non H'):qf7 C vs H Q E
def qf8(T:Txt K mg a):aO P w K mg base aW 4 a.su a.Fo ["web", "thing"] (qf7 a.bx):=by
 exists T.yF.bG,qdE
 ·obtain⟨o,t,e,f,j,rfl,⟨hw,l,c,n,v⟩,q⟩:=h;refine#[_,(aF (bU (d9 (fu (aL (qf4 T) hr T.Ui T.Ml T.Uh (ak (aj 0) (ak (aj 1) aq))))) (aF pA) cA)),?_];obtain⟨d,u,m,r⟩:=qqU l;left;refine#[o,.ref t,d,e,f,rfl,hw,u,v,λy i=>?_];rw[<- n,qf6 m r c];left;exact q _ i
inductive qf9  (C:Qv):Sp
 |mk (o:Qv) (xs:QAH) (ps:QAD) (k:Int) (_:vs=[.ref o,.int k]) (_:bW C H o xs ps) (_:0<=k) (_:k<ps.length) (_:Q (.bl true) H):qf9 C vs H Q E
def qqX(T:Txt K mg a):aO P w K mg base aW 2 a.uG a.KC ["web", "thing"] (qf9 a.bx):=by
 exists T.Ud.bG,qqf
 ·obtain⟨o,e,f,k,rfl,hw,l,j,q⟩:=h;refine#[_,(aF (aX (uh (aL (Nb T) hr T.Fv T.Bk T.Ft (ak (aj 1) aq)) (tE (qb2 oA Al aH (aj 1) (PE.eqv (gK (aj 0) T.eU T.FQ (M_ T) hr.d T.Fx .nil fZ) (gV _ _ _ _ _ _))))))),?_];obtain⟨m,fs,i,c⟩:=hw.ins wG.1 wG.2;left;refine#[.int k,_,rfl,by simp[aA],?_];simp only[yQ];left;refine aM.pos (qwv l) ?_;left;refine#[_,_,i,c,o,e,f,rfl,hw,?_];left;rw[qwv j];exact q
theorem qf_:∀xs:List Int,keysOf (xs.map V.int)=xs.map Sum.inl
 |[]=>rfl
 |x::xs=>by
  show Sum.inl x::keysOf (xs.map V.int)=_;rw[qf_ xs];rfl
def qqY{xs:qZ}(h:xs.Nodup):(gR (λi=>(keysOf (xs.map V.int))[i]?.getD (Sum.inl 0)) (xs.map V.int).length).length=xs.length:=by
 rw[qf_,qv1];refine(Qc _ xs.length λi j f c e=>?_).1;simp[f,c] at e;exact(List.getElem_inj h).mp e
def qga{xs:qZ}{i:Nat}{x:V}(h:(xs.map V.int)[i]? = some x):∃z,xs[i]? = some z/\x = .int z:=by
 rw[qv8] at h;cases e:xs[i]? with
 |none=>rw[e] at h;cases h
 |some z=>
  rw[e] at h;exact#[z,rfl,(qwt h).symm]
structure Nrs(n:Nat)(ks:qZ):Prop where
 ok:∀k∈ks,0<=k/\k<n
 nd:ks.Nodup
 len:ks.length<=20
inductive qgb  (C:Qv):Sp
 |mk (o t:Qv) (xs:QAH) (ps:QAD) (ks:qZ) (_:vs=[.ref o,.ref t]) (_:bW C H o xs ps) (_:Sq H t (ks.map V.int)) (_:Nrs ps.length ks) (_:∀H',Same H H'->Q (.bl true) H'):qgb C vs H Q E
def qqZ(T:Txt K mg a):aO P w K mg base aW 3 a.uH a.KD ["web", "thing"] (qgb a.bx):=by
 exists T.Ue.bG,qqg
 ·obtain⟨o,t,G,I,m,rfl,hw,L,n,q⟩:=h;refine#[_,(aK (bU (PW.pt (je (d9 (fu (aL (Cd T) hr T.vU T.qm T.vR (ak (aj 1) aq)))) (jq (d9 (fu (bw (rF rfl) rfl T.nm.all qX (ak (fJ rfl rfl (show bM (aG JK) _ ["web", "thing"] ["one"] [0] ["one", "web"] from by rfl') rfl (PI.eqv (tW (K:=K) rfl (aj 1)) (um _ _)) (λC s H O J=>(bO ["one", "web"] 0)) (λC s H O J=>dZ) (λC s H O J=>(aL (qqX T) hr T.qd6 T.Ud T.qd5 (ak (aj 1) (ak (aj 0) aq))))) aq))))))) (aF (aX eX)) cA)
   (aF (aX (mJ lO (bw qaP rfl T.nm.len qv9 (ak (mL (qaO rfl) rfl T.nm.set qaL (ak (aj 1) aq)) aq)) (bw (cW (K:=K) rfl) rfl T.nm.len qv9 (ak (aj 1) aq)) (bV _))))),?_]
  left;refine#[t,_,rfl,L,λY v=>?_];have f:=L.same v;obtain⟨b,M⟩:=f.b;left;refine#[b,#[_,M K Y (Same.refl _)],λD N=>uc (m.map V.int) (λi u r=>(∃y,u=[y,some (.ref o)])/\Same Y r/\r D=some (.lst (List.replicate i (.bl true)))) #[#[none,rfl],aJ N,aB] (λi a0 r _ h=>M K r h.2.1) ?_ ?_]
  ·rintro i x u H2 hi ⟨⟨y,rfl⟩,e,c⟩;obtain⟨k,j,rfl⟩:=qga hi;have z:i<m.length:=(qvU.mp j).1;have l:=n.ok k (qvX j);left;refine#[o,G,I,k,rfl,hw.same (v.trans e),l.1,l.2,?_];left;refine#[_,c,by rw[List.length_replicate];exact yj z n.len,cN e N,?_];rw[aB,<- qxs]
  ·rintro u H2 ⟨⟨y,rfl⟩,e,c⟩;have U:=f.same e;left;refine#[_,c,_,yJ _,?_];rw[show(List.replicate (m.map V.int).length true).all id=true by simp];left;have yR:=n.len;refine#[_,U.q,by simp[isKey],by simp;unfold scanBound;lia,λt3 B=>#[_,aB,_,(U.same (aJ B)).q,?_]];rw[qwv (by rw[qqY n.nd];simp)];exact q _ (v.trans (e.trans (aJ B)))
def iy(ks ns:qZ):List Int:=ns.mapIdx λi n=>if ((i:Nat):Int)∈ks then 1 - n else n
def yS(ks ns:qZ):(iy ks ns).length=ns.length:=by unfold iy;simp
def Gm{ks ns:qZ}{i:Nat}{n:Int}(h:ns[i]? = some n):(iy ks ns)[i]? = some (if (i:Int)∈ks then 1 - n else n):=by
 unfold iy;rw[List.getElem?_mapIdx,h];rfl
def qgc(h:∀n∈ns,0<=n/\n<=1):∀n∈iy ks ns,0<=n/\n<=1:=by
 intro n j;obtain⟨i,c⟩:=qxm.mp j;have f:i<ns.length:=by rw[<- yS ks ns];exact(qvU.mp c).1
 have e:ns[i]? = some (ns[i]'f):=qwi f;rw[Gm e] at c;have l:=h _ (qvX e);cases c;split
 ·lia
 ·exact l
def qq0(ns:qZ):iy [] ns=ns:=by
 refine List.ext_getElem? λi=>?_;unfold iy;rw[List.getElem?_mapIdx];cases ns[i]? <;> simp
def qgd(k:Int)(ks:qZ):inV (.int k) (ks.map V.int)=decide (k∈ks):=by
 unfold inV;rw[List.any_map]
 induction ks with
 |nil=>rfl
 |cons a ks ih=>
  rw[qxC,ih]
  by_cases e:a=k
  ·subst e;simp[lJ]
  ·simp[lJ,e,qxt e]
def qq1(ks:qZ):∀z∈ks.map V.int,jw z=true:=by
 intro z c;obtain⟨k,_,rfl⟩:=qwr.mp c;rfl
inductive qge  (C:Qv):Sp
 |mk (o t u:Qv) (xs:QAH) (ps:QAD) (ns ks:qZ) (_:vs=[.ref o,.ref t,.ref u]) (_:oY C H o t xs ps ns) (_:Sq H u (ks.map V.int)) (_:Nrs ps.length ks) (_:∀r H',H r=none->H' r=some (.lst ((iy ks ns).map V.int))->Same H H'->Q (.ref r) H'):qge C vs H Q E
def qgf(T:Txt K mg a):aO P w K mg base aW 5 a.uM a.KR ["web", "pointing", "numbers"] (qge a.bx):=by
 exists T.Mp.bG,qql
 ·obtain⟨o,t,u,L,U,c,ks,rfl,hp,hu,hk,q⟩:=h;refine#[_,(aK (eE (aL (qf8 T) hr T.FJ T.yF T.Fz (ak (aj 0) (ak (aj 1) aq))))
   (aK (bU (d9 (fu (aL (qqZ T) hr T.qd8 T.Ue T.qd7 (ak (aj 0) (ak (aj 2) aq))))) (aF pA) cA)
   (aF (aX (fJ rfl rfl (show bM (aG JQ) _ ["web", "pointing", "numbers"] ["number", "lead"] [2] ["number", "lead", "numbers"] from by rfl') rfl (qn_ (K:=K) rfl rfl T.nu.enumerate (ak (aj 1) aq)) (λC s H fp pn=>(PG.eqv (iJ (K:=K) (n:=2) rfl rfl (bB.eqv (cI (bO ["number", "lead", "numbers"] 0) (bB.eqv (cI (bO ["number", "lead", "numbers"] 1) (bB.mono iH iM)) (cJ _ _))) (cJ _ _))) (iQ _ _ _))) (λC s H fp pn=>dZ) (λC s H fp pn=>(Oz (bN (pK (K:=K) rfl) (aj 0) (aj 2) rfl) (bI Ak aH (aj 1)) (aj 1)))))))),?_]
  left;refine#[o,t,L,U,c,rfl,hp,λH1 O=>?_];obtain⟨hw,l,ab,hl,cO⟩:=hp;left;refine#[o,u,L,U,ks,rfl,hw.same O,hu.same O,hk,λH2 N=>?_];have I:=O.trans N;have a0:=hu.same I;obtain⟨b,hb⟩:=(l.same I).b;left;refine#[b,#[_,hb K H2 (Same.refl _)],λD hD=>qoa (c.map V.int) (λi B J=>(∃r m,B=[r,m,some (.ref u)])/\J D=some (.lst (((iy ks c).take i).map V.int))/\Same H2 J) #[#[_,_,rfl],aB,aJ hD] (λi B J _ h=>hb K J h.2.2) ?_ ?_]
  ·rintro i x e B j hi he ⟨⟨r,m,rfl⟩,z,G⟩;obtain⟨n,hn,rfl⟩:=qga hi;have aa:i<c.length:=(qvU.mp hn).1;have M:Same j (upd j e (.tup [.int i,.int n])):=aJ he;have Y:=a0.same (G.trans M);have V4:D≠e:=cF z he;have cH:upd j e (.tup [.int i,.int n]) D=some (.lst (((iy ks c).take i).map V.int)):=M _ _ z;refine#[_,aQ.of aB,rfl,?_];left;refine#[_,Y.q,rfl,qq1 ks,?_];rw[qgd];have v:∀y:Int,(iy ks c)[i]? = some y->∃f,upd j e (.tup [.int i,.int n]) D=some (HO.lst f)/\f.length<sizeLine/\((∃r m,[some (V.int i),some (V.int n),some (V.ref u)]=[r,m,some (V.ref u)])/\
     upd (upd j e (.tup [.int i,.int n])) D (.lst (f++[V.int y])) D=some (.lst (((iy ks c).take (i+1)).map V.int))/\Same H2 (upd (upd j e (.tup [.int i,.int n])) D (.lst (f++[V.int y])))):=λy hy=>
    #[_,cH,by rw[qv1];exact yj (qxI (List.length_take_le ..) aa) (by rw[hl];exact cO),#[_,_,rfl],by rw[aB,List.take_add_one,hy];simp,cN (G.trans M) hD]
   have l:=Gm (ks:=ks) hn;refine aM.of (λh=>?_) (λh=>?_)
   ·rw[if_pos (qwp h)] at l;left;obtain⟨f,f1,f2,_,f4,f5⟩:=v _ l;exact#[f,f1,f2,f4,f5]
   ·rw[if_neg (qwP h)] at l;left;obtain⟨f,f1,f2,_,f4,f5⟩:=v _ l;exact#[f,f1,f2,f4,f5]
  ·rintro B j ⟨⟨r,m,rfl⟩,z,G⟩;left;rw[qv1,<- yS ks c,qv5] at z;exact q D j (gU I hD) z (I.trans G)
theorem V5:∀(xs:kE)(n k:Nat),dI (nums n xs) (Sum.inl ((n+k:Nat):Int):Key)=xs[k]?
 |[],n,k=>by simp[nums,dI]
 |x::xs,n,0=>by rw[nums,HF (by simp)];rfl
 |x::xs,n,k+1=>by
  rw[nums,HJ (by intro z;injection z with z;omega)];have:=V5 xs (n+1) k;rw[show n+1+k=n+(k+1) by lia] at this;rw[this];simp
def mq(ns:qZ)(ps:QAD):List bL:=jz (λk=>ns[k]?) ps 0
inductive V6  (C:Qv):Sp
 |mk (o t:Qv) (xs:QAH) (ps:QAD) (ns:qZ) (_:vs=[.ref o,.ref t]) (_:oY C H o t xs ps ns) (_:∀l tv H',H l=none->H' l=some (.lst tv)->dw H' tv (mq ns ps)->tv.length<=40->Same H H'->Q (.ref l) H'):V6 C vs H Q E
def Ci(T:Txt K mg a):aO P w K mg base aW 5 a.sy a.Fp ["web", "pointing"] (V6 a.bx):=by
 exists T.qp.bG,qdF
 ·obtain⟨o,t,f,i,e,rfl,r,q⟩:=h;refine#[_,(aK (eE (aL (qf8 T) hr T.FJ T.yF T.Fz (ak (aj 0) (ak (aj 1) aq))))
   (aF (aX (aL (qfQ T) hr T.T3 T.Mj T.TY (ak (aj 0) (ak (qbL (K:=K) rfl rfl rfl T.nu.dict rfl T.nu.enumerate (ak (aj 1) aq)) aq)))))),?_]
  left;refine#[o,t,f,i,e,rfl,r,λI c=>?_];obtain⟨hw,B,C,u,G⟩:=r;left;refine#[_,(B.same c).q,λd n=>#[o,d,f,i,(λk=>e[k]?),rfl,hw.same (c.trans (aJ n)),#[_,aB,λk=>?_],λl v D u m j z y=>q l v D (gU (c.trans (aJ n)) u) m j z ((c.trans (aJ n)).trans y)]];have:=V5 (e.map V.int) 0 k;rw[qxq,qv8] at this;exact this
def qgg(f:g8 xs ps)(c:ns.length=ps.length)(l:∀n∈ns,0<=n/\n<=1):∀s∈mq ns ps,s.2.2∈xs:=by
 intro s r;have v:s.2.2∈dJ ns ps:=by
  rw[<- QD ns ps 0,<- QB (λk=>ns[k]?) ps ns 0 (λi=>by rw[qxq]) c l];exact List.mem_map_of_mem r
 have j:∀(ns:qZ)(ps:QAD),(∀e∈ps,e.1∈xs/\e.2∈xs)->∀g∈dJ ns ps,g∈xs:=by
  intro ns
  induction ns with
  |nil=>intro ps _ g h;simp[dJ] at h
  |cons n ns ih=>
   intro ps m g h;cases ps with
   |nil=>simp[dJ] at h
   |cons e ps=>
    rw[dJ] at h
    rcases qv0.mp h with rfl|h
    ·have:=m e qv3;unfold fj;split
     ·exact this.2
     ·exact this.1
    ·exact ih ps (λd u=>m d (qvZ _ u)) g h
 exact j ns ps (λe o=>#[(f.ok e o).1,(f.ok e o).2.1]) _ v
def Gn(c:ns.length=ps.length)(e:∀n∈ns,0<=n/\n<=1):mq ns ps=dB ns ps 0:=QB (λk=>ns[k]?) ps ns 0 (λi=>by rw[qxq]) c e
inductive qgh  (C N:Qv):Sp
 |mk (o:Qv) (v:V) (d:PyData) (xs:QAH) (ps:QAD) (_:vs=[.ref o,v]) (_:bW C H o xs ps) (_:aA H d v) (_:ps.length<=20) (_:∀H',Same H H'->(cR ps.length d=true->Q .non H')/\(cR ps.length d=false->E (.ref N) none H')):qgh C N vs H Q E
def qgi(T:Txt K mg a):aO P w K mg base (gW P w) 4 a.su a.Fo ["web", "thing"] (qgh a.bx a.fM):=by
 exists T.yF.rJ,qdE
 ·obtain⟨o,v,d,e,c,rfl,hw,j,l,q⟩:=h;refine#[_,(aF (bU (d9 (fu (aL (qf4 T) hr T.Ui T.Ml T.Uh (ak (aj 0) (ak (aj 1) aq))))) (aF (Ja (E:=E) lU rfl rfl T.yH rfl T.Vw (ak cZ aq))) cA)),?_];left;refine#[o,v,d,e,c,rfl,hw,j,l,λm f=>?_];cases i:cR c.length d with
  |true=>
   left;exact(q _ f).1 i
  |false=>
   left;exact(q _ f).2 i
def V7(h:aA H d v)(u:cR n d=true):∃(t:Qv)(ns:qZ),v = .ref t/\Sq H t (ns.map V.int)/\(∀m∈ns,0<=m/\m<=1)/\ns.length=n:=by
 unfold cR at u;rw[qwA,qwA] at u;obtain⟨J,I,G⟩:=u;obtain⟨t,f,rfl,D,j⟩:=qfY h J;have o:∀(e:List PyData)(f:kE),aR H e f->e.all lg=true->∃ns:List Int,f=ns.map V.int/\(∀m∈ns,0<=m/\m<=1)/\ns.length=e.length:=by
  intro e
  induction e with
  |nil=>intro f h _;exact#[[],by simpa [aR] using h,by simp,rfl]
  |cons c e ih=>
   intro f h l;rw[List.all_cons,qwA] at l;simp only[aR] at h;obtain⟨x,r,rfl,B,C⟩:=h;obtain⟨ns,rfl,A,z⟩:=ih r C l.2;cases c with
   |int i=>
    simp only[aA] at B;subst B;have E:0<=i/\i<=1:=by simpa [lg] using l.1
    refine#[i::ns,rfl,λm y=>?_,by simp[z]]
    rcases qv0.mp y with rfl|y
    ·exact E
    ·exact A m y
   |_=>exact absurd l.1 (by simp[lg])
 obtain⟨ns,rfl,A,z⟩:=o _ _ j G;exact#[t,ns,rfl,D,A,by rw[z];exact qwp I]
inductive qgj  (C N:Qv):Sp
 |mk (o:Qv) (v:V) (d:PyData) (xs:QAH) (ps:QAD) (_:vs=[.ref o,v]) (_:bW C H o xs ps) (_:aA H d v) (_:ps.length<=20) (_:(cR ps.length d=false->∀H',Same H H'->E (.ref N) none H')) (_:∀t ns,cR ps.length d=true->v = .ref t->oY C H o t xs ps ns->∀l tv H',H l=none->H' l=some (.lst tv)->dw H' tv (mq ns ps)->tv.length<=40->Same H H'->Q (.ref l) H'):qgj C N vs H Q E
def qq2(T:Txt K mg a):aO P w K mg base (gW P w) 5 a.sy a.Fp ["web", "pointing"] (qgj a.bx a.fM):=by
 exists T.qp.rJ,qdF
 ·obtain⟨o,v,d,i,j,rfl,hw,c,B,I,G⟩:=h;refine#[_,(aK (eE (PE.eqv (qN (qgi T) hr.d rfl T.FJ T.yF.kp T.Fz .nil (lU.passes rfl) (ak (aj 0) (ak (aj 1) aq))) (rC _ _ _)))
   (aF (aX (aL (qfQ T) hr T.T3 T.Mj T.TY (ak (aj 0) (ak (qbL (K:=K) rfl rfl rfl T.nu.dict rfl T.nu.enumerate (ak (aj 1) aq)) aq)))))),?_]
  left;refine#[o,v,d,i,j,rfl,hw,c,B,λM e=>#[λf=>?_,λf=>I f _ e]];obtain⟨t,m,rfl,z,y,u⟩:=V7 c f;have q:=G t m f rfl #[hw,z,y,u,B];left;refine#[_,(z.same e).q,λd c=>#[o,d,i,j,(λk=>m[k]?),rfl,hw.same (e.trans (aJ c)),#[_,aB,λk=>?_],λl C L u r n J D=>q l C L (gU (e.trans (aJ c)) u) r n J ((e.trans (aJ c)).trans D)]];have:=V5 (m.map V.int) 0 k;rw[qxq,qv8] at this;exact this
def V8:PyData->Bool
 |.str _=>true
 |_=>false
def Nf:PyData->Bool
 |.str x=>nameB x
 |_=>false
def qq3(d:PyData):W.kitOne K (.type (yP d)) (.type "str")=some (V8 d):=by
 cases d with
 |none=>exact ql8 K
 |bool b=>exact ql2 K
 |int i=>exact qlZ K
 |str x=>exact qbr K
 |list c=>exact qlR K
 |tuple c=>exact qlU K
 |dict c=>exact ql5 K
def qq4(h:aV H d v):fH K H v (.type (yP d)):=by
 cases d with
 |none=>simp only[aV] at h;subst h;exact .non
 |bool b=>simp only[aV] at h;subst h;exact .bl b
 |int i=>simp only[aV] at h;subst h;exact .int i
 |str x=>simp only[aV] at h;subst h;exact .str x
 |list e=>simp only[aV] at h;obtain⟨a,f,rfl,c,_⟩:=h;exact .lst c
 |tuple e=>simp only[aV] at h;obtain⟨a,f,rfl,c,_⟩:=h;exact .tup c
 |dict e=>simp only[aV] at h;obtain⟨a,rfl,c⟩:=h;rcases c with⟨_,_,c⟩|⟨_,_,c⟩ <;> first|exact .dK c|exact .dT c
inductive qgk:Sp
 |mk (d:PyData) (v:V) (_:vs=[v]) (_:dg H d v) (_:V8 d=false) (_:Q (.bl false) H):qgk vs H Q E
def qq5(T:Txt K mg a):aO P w K mg base aW 1 a.qj a.Bg ["thing"] qgk:=by
 exists T.vV.bG,qdC
 ·obtain⟨d,v,rfl,i,f,q⟩:=h;refine#[_,(aK (bU (PW.pt (je (d9 (fu (bw (Ir (K:=K) rfl) rfl T.nm.isinstance boot_isinstance (ak (aj 0) (ak (qK (v:=.ty "str") rfl T.nm.str boot_str rfl) aq))))) (jq (d9 (Ii oA oA aH (bw qcv rfl T.nm.len qv9 (ak (aj 0) aq)) (eY rfl T.Vq T.Vr)))))) (aF (aX eX)) cA)
   (aF (aX (bw (rF rfl) rfl T.nm.all qX (ak (fJ rfl rfl (show bM (aG Eu) _ ["thing"] ["sign"] [] ["sign"] from by rfl') rfl (PI.eqv (qaI (aj 0)) (qcq _)) (λC s H e c=>(bO ["sign"] 0)) (λC s H e c=>dZ) (λC s H e c=>(mJ (qcu (K:=K) rfl) (aj 0) (eY rfl T.Vo T.Vp) rfl))) aq))))),?_]
  left;refine#[_,qq4 i.x,_,qq3 d,?_];rw[f];refine aM.pos rfl ?_;left;exact q
def oZ(d:PyData):Prop:=∀x,d = .str x->x.length<=sizeLine
inductive qgl:Sp
 |mk (d:PyData) (v:V) (_:vs=[v]) (_:dg H d v) (_:oZ d) (_:∀H',Same H H'->Q (.bl (Nf d)) H'):qgl vs H Q E
def qq6(T:Txt K mg a):aO P w K mg base aW 1 a.qj a.Bg ["thing"] qgl:=by
 refine((FT T).or (qq5 T)).imp λf H Q E h=>?_;obtain⟨d,v,rfl,c,e,q⟩:=h;cases d with
 |str x=>have c:=c.str;subst c;exact .inl #[x,rfl,e x rfl,q]
 |_=>exact .inr #[_,v,rfl,c,rfl,q H (Same.refl H)]
def qu(xs:QAH):PyData->Bool
 |.str x=>decide (x∈xs)
 |_=>false
def qq7(c:dU xs)(h:Nf d=false):qu xs d=false:=by
 cases d with
 |str x=>exact qwh λz=>by rw[show Nf (.str x)=nameB x from rfl,c.nm x z] at h;cases h
 |_=>rfl
def Ng(h:dg H d v)(c:qu xs d=true):∃x,d = .str x/\v = .str x/\x∈xs:=by
 cases d with
 |str x=>exact#[x,rfl,h.str,qwp c]
 |_=>cases c
inductive qgm  (C:Qv):Sp
 |mk (o:Qv) (v:V) (d:PyData) (xs:QAH) (ps:QAD) (_:vs=[.ref o,v]) (_:bW C H o xs ps) (_:dU xs) (_:dg H d v) (_:oZ d) (_:∀H',Same H H'->Q (.bl (qu xs d)) H'):qgm C vs H Q E
def qq8(T:Txt K mg a):aO P w K mg base aW 2 a.rZ a.Fl ["web", "thing"] (qgm a.bx):=by
 exists T.Fy.bG,qdD
 ·obtain⟨o,v,d,f,l,rfl,hw,B,e,y,q⟩:=h;refine#[_,(aF (aX (uh (aL (qq6 T) hr T.Bm T.vV T.Bl (ak (aj 1) aq)) (tE (mJ (pK (K:=K) rfl) (aj 1) (PE.eqv (gK (aj 0) T.eU T.lZ (nA T) hr.d T.lY .nil fZ) (gV _ _ _ _ _ _)) rfl))))),?_];left;refine#[d,v,rfl,e,y,λD c=>?_];cases m:Nf d with
  |false=>
   rw[qq7 B m] at q;left;exact q _ c
  |true=>
   obtain⟨x,rfl⟩:∃x,d = .str x:=by cases d <;> first|exact#[_,rfl]|cases m
   have e:=e.str;subst e;obtain⟨G,fs,z,i⟩:=(hw.same c).ins fO.1 fO.2;left;refine#[_,_,z,i,o,f,l,rfl,hw.same c,λr j=>?_];generalize u:upd D r (.lst (f.map V.str))=I;obtain⟨n,C⟩:=cQ j u;left;refine#[_,.inl (au.of C),rfl,qwa.mp (mW _),?_];rw[ou];exact q _ (c.trans n)
inductive qgn  (C N:Qv):Sp
 |mk (o:Qv) (v:V) (d:PyData) (xs:QAH) (ps:QAD) (_:vs=[.ref o,v]) (_:bW C H o xs ps) (_:dU xs) (_:dg H d v) (_:oZ d) (_:∀H',Same H H'->(qu xs d=true->Q .non H')/\(qu xs d=false->E (.ref N) none H')):qgn C N vs H Q E
def qgo(T:Txt K mg a):aO P w K mg base (gW P w) 3 a.sE a.Fq ["web", "thing"] (qgn a.bx a.gk):=by
 exists T.vY.rJ,qdG
 ·obtain⟨o,v,d,c,f,rfl,hw,m,l,j,q⟩:=h;refine#[_,(aF (bU (d9 (fu (aL (qq8 T) hr T.Uc T.Fy T.Ub (ak (aj 0) (ak (aj 1) aq))))) (aF (Ja (E:=E) lU rfl rfl T.wj rfl T.MF (ak cZ aq))) cA)),?_];left;refine#[o,v,d,c,f,rfl,hw,m,l,j,λn e=>?_];cases i:qu c d with
  |true=>
   left;exact(q _ e).1 i
  |false=>
   left;exact(q _ e).2 i
inductive qgp  (C:Qv):Sp
 |mk (o:Qv) (x:Str) (xs:QAH) (ps:QAD) (_:vs=[.ref o,.str x]) (_:bW C H o xs ps) (_:dU xs) (_:x∈xs) (_:∀H',Same H H'->Q (.bl true) H'):qgp C vs H Q E
def qq9(T:Txt K mg a):aO P w K mg base aW 2 a.rZ a.Fl ["web", "thing"] (qgp a.bx):=by
 exists T.Fy.bG,qdD
 ·obtain⟨o,x,c,j,rfl,hw,y,l,q⟩:=h;refine#[_,(aF (aX (uh (aL (FT T) hr T.Bm T.vV T.Bl (ak (aj 1) aq)) (tE (mJ (pK (K:=K) rfl) (aj 1) (PE.eqv (gK (aj 0) T.eU T.lZ (nA T) hr.d T.lY .nil fZ) (gV _ _ _ _ _ _)) rfl))))),?_];have m:=y.nm x l;left;refine#[x,rfl,FW m,λC e=>?_];rw[m];obtain⟨D,fs,v,f⟩:=(hw.same e).ins fO.1 fO.2;left;refine#[_,_,v,f,o,c,j,rfl,hw.same e,λr i=>?_];generalize u:upd C r (.lst (c.map V.str))=G;obtain⟨n,z⟩:=cQ i u;have B:inV (.str x) (c.map V.str)=true:=by rw[ou];simp[l]
  left;refine#[_,.inl (au.of z),rfl,qwa.mp (mW _),?_];rw[B];exact q _ (e.trans n)
inductive qgq  (C:Qv):Sp
 |mk (o:Qv) (x:Str) (xs:QAH) (ps:QAD) (_:vs=[.ref o,.str x]) (_:bW C H o xs ps) (_:dU xs) (_:x∈xs) (_:∀H',Same H H'->Q .non H'):qgq C vs H Q E
def V9(T:Txt K mg a):aO P w K mg base aW 3 a.sE a.Fq ["web", "thing"] (qgq a.bx):=by
 exists T.vY.bG,qdG
 ·obtain⟨o,x,c,e,rfl,hw,j,i,q⟩:=h;refine#[_,(aF (bU (d9 (fu (aL (qq9 T) hr T.Uc T.Fy T.Ub (ak (aj 0) (ak (aj 1) aq))))) (aF pA) cA)),?_];left;refine#[o,x,c,e,rfl,hw,j,i,λl f=>?_];left;exact q _ f
inductive qgr  (C:Qv):Sp
 |mk (o t:Qv) (x:Str) (xs:QAH) (ps:QAD) (ns:qZ) (_:vs=[.ref o,.ref t,.str x]) (_:oY C H o t xs ps ns) (_:dU xs) (_:g8 xs ps) (_:x∈xs) (_:∀(r:Qv)(cs:QAH)(H':Hp),H' r=some (.lst (cs.map V.str))->Same H H'->Q (.ref r) H'):qgr C vs H Q E
def qq_(T:Txt K mg a):aO P w K mg base aW 6 a.uO a.KZ ["web", "pointing", "point"] (qgr a.bx):=by
 exists T.Ur.bG,qdI
 ·obtain⟨o,t,x,f,e,n,rfl,j,B,v,z,q⟩:=h;refine#[_,(aK (bF (i:=3) qdI.nd rfl (Or.inl rfl) (aL (Ci T) hr T.vX T.qp T.vW (ak (aj 0) (ak (aj 1) aq))))
   (aK (eE (aL (V9 T) hr T.Bp T.vY T.Bo (ak (aj 0) (ak (aj 2) aq))))
   (aF (aX (aL (qqQ T) hr T.qdR T.T8 T.qdQ (ak (aj 0) (ak (aj 2) (ak (aj 3) aq)))))))),?_]
  have hw:=j.1;left;refine#[o,t,f,e,n,rfl,j,λl C U I u J N y=>?_];left;refine#[o,x,f,e,rfl,hw.same y,B,z,λO m=>?_];left;have c:=y.trans m;refine#[o,x,l,C,mq n e,f,e,rfl,hw.same c,m _ _ u,dw.keep J (L2.d7.of m),z,qgg v j.2.2.2.1 j.2.2.1,B.len.2,λr L M D G=>q r L M D (c.trans G)]
inductive qgs  (C:Qv):Sp
 |mk (o t:Qv) (x y:Str) (xs:QAH) (ps:QAD) (ns:qZ) (_:vs=[.ref o,.ref t,.str x,.str y]) (_:oY C H o t xs ps ns) (_:dU xs) (_:g8 xs ps) (_:x∈xs) (_:y∈xs) (_:∀(R:BR)(H':Hp),ig (mq ns ps) x R.length R->qdd (mq ns ps) x R->Same H H'->(¬y∈R.map (·.1)->Q .non H')/\∀(r:Qv)(w:qw),(y,w)∈R->H r=none->H' r=some (.lst (w.map λn:Nat=>V.int n))->Q (.ref r) H'):qgs C vs H Q E
def qgt(T:Txt K mg a):aO P w K mg base aW 6 a.uN a.KY ["web", "pointing", "a", "b"] (qgs a.bx):=by
 exists T.Mq.bG,qdH
 ·obtain⟨o,t,x,y,c,f,z,rfl,n,I,J,N,hy,q⟩:=h;refine#[_,(aK (bF (i:=4) qdH.nd rfl (Or.inl rfl) (aL (Ci T) hr T.vX T.qp T.vW (ak (aj 0) (ak (aj 1) aq))))
   (aK (eE (aL (V9 T) hr T.Bp T.vY T.Bo (ak (aj 0) (ak (aj 2) aq))))
   (aK (eE (aL (V9 T) hr T.Bp T.vY T.Bo (ak (aj 0) (ak (aj 3) aq))))
   (aF (aX (PE.eqv (Ql (nW hr) (aL (Gh T) hr T.Bj T.yE T.Bh (ak (aj 2) (ak (aj 4) aq))) (aj 3) #[rfl,rfl,rfl,rfl]) (QX _ _))))))),?_]
  have hw:=n.1;left;refine#[o,t,c,f,z,rfl,n,λl tv H1 aa D hS jE M=>?_];left;refine#[o,x,c,f,rfl,hw.same M,I,N,λH2 u=>?_];left;have e:=M.trans u;refine#[o,y,c,f,rfl,hw.same e,I,hy,λH3 r=>?_];left;have L:=e.trans r;refine#[x,l,tv,mq z f,c,rfl,(u.trans r) _ _ D,dw.keep hS (L2.d7.of (u.trans r)),N,qgg J n.2.2.2.1 n.2.2.1,I.len.2,λd a0 R H4 hd Y O U hF hN s4=>?_];left;have v:=L.trans s4;obtain⟨q1,q2⟩:=q R H4 U hF v;refine#[isD Y,_,Ac y Y,?_]
  by_cases G:y∈R.map (·.1)
  ·obtain⟨⟨y',w'⟩,j,B⟩:=qwr.mp G;obtain rfl:y'=y:=B;obtain⟨p,m,C⟩:=O.some U.nd j;rw[m];exact q2 p w' j (gU L (hN.at m)) C
  ·rw[O.none G];exact q1 G
inductive qgu  (C:Qv):Sp
 |mk (o t:Qv) (xs:QAH) (ps:QAD) (ns:qZ) (_:vs=[.ref o,.ref t]) (_:oY C H o t xs ps ns) (_:xs.length<=9) (_:∀(r:Qv)(H':Hp),H r=none->H' r=some (.lst ((xs.map λx=>(((mq ns ps).map (·.2.2)).count x:Int)).map V.int))->Same H H'->Q (.ref r) H'):qgu C vs H Q E
def qgv(T:Txt K mg a):aO P w K mg base aW 6 a.u9 a.Lb ["web", "pointing"] (qgu a.bx):=by
 exists T.Mu.bG,qdK
 ·obtain⟨o,t,c,m,u,rfl,hp,h9,q⟩:=h;refine#[_,(aK (bF (i:=2) qdK.nd rfl (Or.inr rfl) (fJ rfl rfl (show bM (aG Ey) _ ["web", "pointing", "goals"] ["number", "origin", "goal"] [] ["number", "origin", "goal"] from by rfl') rfl (dD (K:=K) (aL (Ci T) hr T.vX T.qp T.vW (ak (aj 0) (ak (aj 1) aq)))) (λC s H G r=>(PG.eqv (iJ (K:=K) (n:=3) rfl rfl (bB.eqv (cI (bO ["number", "origin", "goal"] 0) (bB.eqv (cI (bO ["number", "origin", "goal"] 1) (bB.eqv (cI (bO ["number", "origin", "goal"] 2) (bB.mono iH iM)) (cJ _ _))) (cJ _ _))) (cJ _ _))) (iQ _ _ _))) (λC s H G r=>dZ) (λC s H G r=>(aj 2))))
   (aF (aX (fJ rfl rfl (show bM (aG Ey) _ ["web", "pointing", "goals"] ["point"] [2] ["point", "goals"] from by rfl') rfl (dD (K:=K) (PE.eqv (gK (aj 0) T.eU T.lZ (nA T) hr.d T.lY .nil fZ) (gV _ _ _ _ _ _))) (λC s H G r=>(bO ["point", "goals"] 0)) (λC s H G r=>dZ) (λC s H G r=>(jW (K:=K) rfl qwz qxZ PySem.F.type_list_count (qcA (K:=K) rfl) (aj 1) (ak (aj 0) aq))))))),?_]
  have oW:60<=sizeLine:=by decide
  have hw:=hp.1;left;refine#[o,t,c,m,u,rfl,hp,λl tv H1 ae z hS jE s1=>?_];left;refine#[#[_,au.of z],λD hD=>h_ tv (λi e j=>(∃o1 o2 Y,e=[o1,o2,Y])/\j D=some (.lst ((((mq u m).take i).map (·.2.2)).map V.str))/\Same H1 j) #[#[_,_,_,rfl],aB,aJ hD] (λi e j _ h=>au.of (h.2.2 _ _ z)) ?_ ?_]
  ·rintro i x e I B ⟨⟨o1,o2,Y,rfl⟩,f,L⟩;obtain⟨st,v,t,rfl,ht⟩:=hS.at B;have ab:i<(mq u m).length:=(qvU.mp v).1;have dM:=L _ _ ht;have ac:=hS.1;rw[take_one v,qwG,qwG];left;refine#[_,aQ.of dM,rfl,_,f,by simp;lia,by rw[aB];simp,cN L hD]
  ·rintro e I ⟨⟨o1,o2,Y,rfl⟩,f,L⟩;rw[hS.1,qv5] at f;have O:=s1.trans L;obtain⟨dx,fs,B,a0⟩:=(hw.same O).ins fO.1 fO.2;left;refine#[_,_,B,a0,o,c,m,rfl,hw.same O,λM aa=>?_];have U:Same I (upd I M (.lst (c.map V.str))):=aJ aa;have e2:upd I M (.lst (c.map V.str)) M=some (.lst (c.map V.str)):=aB;have bJ:=U _ _ f;generalize upd I M (.lst (c.map V.str))=H3 at U e2 bJ⊢;have Cj:=O.trans U;left;refine#[#[_,au.of e2],λD2 Ck=>h_ (c.map V.str) (λi e j=>(∃o',e=[o',some (.ref D)])/\j D2=some (.lst (((c.take i).map λx=>(((mq u m).map (·.2.2)).count x:Int)).map V.int))/\Same H3 j) #[#[_,rfl],aB,aJ Ck] (λi e j _ h=>au.of (h.2.2 _ _ e2)) ?_ ?_]
   ·rintro i x e H4 B ⟨⟨o',rfl⟩,N,J⟩;obtain⟨y,hy,rfl⟩:=jy B;have ab:i<c.length:=(qvU.mp hy).1;have gA:=J _ _ bJ;rw[take_one hy,qwG,qwG];left;refine#[#[_,au.of gA],_,au.of gA,_,N,by simp;lia,by rw[aB];simp,cN J Ck]
   ·rintro e H4 ⟨⟨o',rfl⟩,N,J⟩;rw[qv1,qv5] at N;left;exact q D2 H4 (gU Cj Ck) N (Cj.trans J)
def inN(ns:qZ)(ps:QAD)(x:Str):Nat:=(dJ ns ps).count x
def fC(c:QAH):QAD->Nat
 |[]=>0
 |e::f=>(if e.1∈c/\e.2∈c then 1 else 0)+fC c f
theorem Ib{xs:QAH}:∀{ns:qZ}{ps:QAD},(∀e∈ps,e.1∈xs/\e.2∈xs)->∀g∈dJ ns ps,g∈xs
 |[],_,_,g,h=>by simp[dJ] at h
 |_::_,[],_,g,h=>by simp[dJ] at h
 |n::ns,e::ps,c,g,h=>by
  simp only[dJ,qv0] at h
  rcases h with rfl|h
  ·have:=c e qv3;unfold fj;split
   ·exact this.2
   ·exact this.1
  ·exact Ib (λd f=>c d (qvZ _ f)) g h
theorem sum_map_add{c:Type}(f g:c->Nat):∀l:List c,(l.map λx=>f x+g x).sum=(l.map f).sum+(l.map g).sum
 |[]=>rfl
 |a::l=>by simp only[qwd,qxg];rw[sum_map_add f g l];lia
theorem qgw{c:Type}[DecidableEq c](y:c):∀{l:List c},l.Nodup->(l.map λx=>if y=x then 1 else 0).sum=if y∈l then 1 else 0
 |[],_=>rfl
 |a::l,h=>by
  have ih:=qgw y (qwC.mp h).2;have f:=(qwC.mp h).1;simp only[qwd,qxg];rw[ih]
  by_cases e:y=a
  ·subst e;simp[f]
  ·simp[e]
theorem Nh{xs:QAH}(f:xs.Nodup)(p:Str->Bool):∀{L:QAH},(∀y∈L,y∈xs)->(L.filter p).length=((xs.filter p).map λx=>L.count x).sum
 |[],_=>by
  induction xs.filter p with
  |nil=>rfl
  |cons a l ih=>simpa using ih
 |y::L,h=>by
  have ih:=Nh f p (L:=L) λz j=>h z (qvZ _ j);have m:=h y qv3;have e:((xs.filter p).map λx=>(y::L).count x).sum=((xs.filter p).map λx=>L.count x).sum+((xs.filter p).map λx=>if y=x then 1 else 0).sum:=by
   rw[<- sum_map_add];congr 1;refine qxV λx _=>?_;rw[List.count_cons]
   by_cases c:y=x <;> simp[c]
  rw[e,qgw y (List.Pairwise.filter _ f),<- ih];simp only[qwX,qwb]
  by_cases i:p y=true
  ·simp[i,m]
  ·simp[i]
theorem qgx{c:Type}{f g:c->Nat}:∀{l:List c},(∀x∈l,f x<=g x)->(l.map f).sum<=(l.map g).sum
 |[],_=>qvY _
 |a::l,h=>by
  have j:=h a qv3;have i:=qgx λx e=>h x (qvZ _ e);simp only[qwd,qxg];lia
theorem Ni{j:Type}{f g:j->Nat}:∀{l:List j},(∀x∈l,f x<=g x)->∀{y},y∈l->f y<g y->(l.map f).sum<(l.map g).sum
 |a::l,h,y,c,i=>by
  have n:=h a qv3;have m:=qgx λx e=>h x (qvZ _ e);simp only[qwd,qxg]
  rcases qv0.mp c with rfl|c
  ·lia
  ·have:=Ni (λx e=>h x (qvZ _ e)) c i;lia
theorem qgy:∀{L:QAH}{n:Nat},L[n]? = some c->(L.set n b).count x+(if c=x then 1 else 0)=L.count x+(if b=x then 1 else 0)
 |[],n,h=>by simp at h
 |a::L,0,h=>by
  simp at h;subst h;simp only[List.set_cons_zero,List.count_cons,beq_iff_eq];lia
 |a::L,n+1,h=>by
  have ih:=qgy (b:=b) (x:=x) (L:=L) (n:=n) (by simpa using h);simp only[List.set_cons_succ,List.count_cons];lia
theorem qgz:∀{ns:qZ}{ps:QAD}{j:Nat}{n:Int}{e:Str×Str},ns[j]? = some n->ps[j]? = some e->(dJ ns ps)[j]? = some (fj n e)
 |[],_,j,n,e,h,_=>by simp at h
 |_::_,[],j,n,e,_,h=>by simp at h
 |m::ns,d::ps,0,n,e,f,c=>by
  simp at f c;subst f c;rfl
 |m::ns,d::ps,j+1,n,e,f,c=>by
  simp only[dJ,qxe];exact qgz (by simpa using f) (by simpa using c)
theorem qgA:∀{ns:qZ}{ps:QAD}{j:Nat}{m:Int}{e:Str×Str},ps[j]? = some e->dJ (ns.set j m) ps=(dJ ns ps).set j (fj m e)
 |[],ps,j,m,e,h=>by simp[dJ]
 |_::_,[],j,m,e,h=>by simp at h
 |n::ns,d::ps,0,m,e,h=>by
  simp at h;subst h;rfl
 |n::ns,d::ps,j+1,m,e,h=>by
  simp only[List.set_cons_succ,dJ];rw[qgA (by simpa using h)]
def qra{S:List bL}{a:Str}{w:qw}{vs:QAH}{b:Str}(h:lN S a w vs b):∀n∈w,∃u v,(n,u,v)∈S/\v∈vs:=by
 induction h with
 |nil=>intro n c;cases c
 |snoc _ q ih=>
  intro n c
  rcases qwc.mp c with c|c
  ·obtain⟨u,v,f,e⟩:=ih n c;exact#[u,v,f,qww _ e]
  ·rw[qv6] at c;subst c;exact#[_,_,q,by simp]
def fP(w:qw):List Int:=w.map λn:Nat=>(n:Int)
def qrb{w:qw}{n:Nat}{ns:qZ}{m:Int}(l:n∉w)(h:ns[n]? = some m):iy (fP (w++[n])) ns=(iy (fP w) ns).set n (1 - m):=by
 apply List.ext_getElem?;intro i;rw[List.getElem?_set,yS];cases c:ns[i]? with
 |none=>
  have f:ns.length<=i:=List.getElem?_eq_none_iff.mp c;have j:n<ns.length:=(qvU.mp h).1;rw[if_neg ⋯,qyg (by rw[yS];exact f),qyg (by rw[yS];exact f)]
 |some k=>
  rw[Gm c,Gm c]
  by_cases e:n=i
  ·subst e;rw[h] at c;cases c;have j:n<ns.length:=(qvU.mp h).1;simp[fP,j]
  ·simp only[fP,qwG,qwd,qx7,qwc,qwr,qv6,if_neg e];have:¬((i:Int)=(n:Int)):=λz=>e ⋯;simp[this]
def qrc{w:qw}{n:Nat}{ns:qZ}{m:Int}(c:n∉w)(h:ns[n]? = some m):(iy (fP w) ns)[n]? = some m:=by
 rw[Gm h,if_neg];intro z;obtain⟨k,f,e⟩:=qwr.mp z;have:k=n:=⋯
 exact c (this▸f)
def qgB{ns:qZ}{ps:QAD}(A:∀n∈ns,0<=n/\n<=1)(N:∀e∈ps,e.1≠e.2){a:Str}{w:qw}{vs:QAH}{b:Str}(h:lN (dB ns ps 0) a w vs b):
  vs.Nodup->(∀n∈w,n<ps.length)/\w.Nodup/\∀x,inN (iy (fP w) ns) ps x+(if b=x then 1 else 0)=inN ns ps x+(if a=x then 1 else 0):=by
 induction h with
 |nil=>intro _;refine#[by simp,by simp,λx=>?_];simp[fP,qq0]
 | @snoc w vs b c n M L ih=>
  intro o;have r:vs.Nodup:=(List.nodup_append.mp o).1;have y:c∉vs:=λz=>(List.nodup_append.mp o).2.2 c z c (by simp) rfl;obtain⟨J,I,H⟩:=ih r;obtain⟨j,m,e,a1,a2,a3⟩:=El.mp L;cases a3;have i:n∉w:=λO=>by
   obtain⟨u,v,E,D⟩:=qra M n O;obtain⟨Y,U,e',b1,b2,b3⟩:=El.mp E;cases b3;rw[a1] at b1;rw[a2] at b2;cases b1;cases b2;exact y D
  have T:n<ps.length:=(qvU.mp a2).1;refine#[λk f=>?_,?_,λx=>?_]
  ·rcases qwc.mp f with f|f
   ·exact J k f
   ·rw[qv6] at f;subst f;exact T
  ·rw[List.nodup_append];refine#[I,by simp,λk f l B=>?_];rw[qv6] at B;subst B;exact λz=>i (z▸f)
  ·have C:=qgy (b:=fj (1 - m) e) (x:=x) (qgz (qrc i a1) a2);rw[<- qgA a2,<- qrb i a1] at C;have G:=A m (qvX a1);have Q:fj (1 - m) e=jA m e:=by
    unfold fj jA;obtain rfl|rfl:m=0\/m=1:=⋯
    ·simp
    ·simp
   rw[Q] at C;have i4:=H x;unfold inN at i4⊢;lia
def Nk(xs:QAH)(f g:Str->Nat):Nat:=(xs.map λx=>g x - f x).sum
def qrd(i:s∈xs)(j:f s<g s)(l:g e<f e)(h:∀x,f' x+(if e=x then 1 else 0)=f x+(if s=x then 1 else 0)):Nk xs f' g<Nk xs f g:=by
 have c:s≠e:=λz=>by rw[z] at j;lia
 refine Ni (y:=s) (λx _=>?_) i ?_
 ·have:=h x
  by_cases a:e=x
  ·subst a;rw[if_pos rfl,if_neg c] at this;lia
  ·rw[if_neg a] at this;split at this <;> lia
 ·have:=h s;rw[if_neg c.symm,if_pos rfl] at this;lia
def qre(k:Nat)(ks:qw):inV (.int k) (ks.map λn:Nat=>V.int n)=decide (k∈ks):=by
 have h:=qgd k (ks.map λn:Nat=>(n:Int));rw[List.map_map] at h;refine h.trans (decide_eq_decide.mpr #[λz=>?_,λz=>qwr.mpr #[k,z,rfl]]);obtain⟨a,c,e⟩:=qwr.mp z;have:a=k:=⋯
 exact this▸c
def Cm(r:qw)(t:bL):Bool:=!decide (t.1∈r)
inductive qgC  (C:Qv):Sp
 |mk (o t u:Qv) (xs:QAH) (ps:QAD) (ns ms:qZ) (_:vs=[.ref o,.ref t,.ref u]) (_:oY C H o t xs ps ns) (_:Sq H u (ms.map V.int)) (_:ms.length=ps.length) (_:∀(l:Qv)(tv:kE)(H':Hp),H l=none->H' l=some (.lst tv)->dw H' tv ((dB ns ps 0).filter λs=>!decide (ns[s.1]? = ms[s.1]?))->Same H H'->Q (.ref l) H'):qgC C vs H Q E
def qrf(T:Txt K mg a):aO P w K mg base aW 6 a.uK a.KN ["web", "one", "other"] (qgC a.bx):=by
 exists T.Uj.bG,qqj
 ·obtain⟨o,t,u,xs,O,y,J,rfl,hp,hu,aa,q⟩:=h;refine#[_,(aF (aX (fJ rfl rfl (show bM (aG JM) _ ["web", "one", "other"] ["step"] [1,2] ["step", "one", "other"] from by rfl') rfl (dD (K:=K) (aL (Ci T) hr T.vX T.qp T.vW (ak (aj 0) (ak (aj 1) aq)))) (λC s H fp pn=>(bO ["step", "one", "other"] 0)) (λC s H fp pn=>(mQ (bN jC (bQ (bT (K:=K) rfl) (aj 1) (bQ (bT (K:=K) rfl) (aj 0) aH (λ_ _=>rfl)) (λ_ _=>rfl)) (bQ (bT (K:=K) rfl) (aj 2) (bQ (bT (K:=K) rfl) (aj 0) aH (λ_ _=>rfl)) (λ_ _=>rfl)) (bV _)))) (λC s H fp pn=>(aj 0))))),?_];have Gp:600<sizeLine:=by decide
  left;refine#[o,t,xs,O,y,rfl,hp,λl tv H1 ab M B jE s1=>?_];obtain⟨hw,ht,a0,hl,cO⟩:=hp;rw[Gn hl a0] at B;left;refine#[#[_,au.of M],λD U=>h_ tv (λi N Y=>(∃o0,N=[o0,some (.ref t),some (.ref u)])/\(∃r,Y D=some (.lst r)/\dw Y r (((dB y O 0).take i).filter λs=>!decide (y[s.1]? = J[s.1]?))/\r.length<=i)/\Same H1 Y) #[#[_,rfl],#[[],aB,bH.nil,qwF _],aJ U] (λi N Y _ h=>au.of (h.2.2 _ _ M)) ?_ ?_]
  ·rintro i v N H2 hi ⟨⟨o0,rfl⟩,⟨r,f,c,lq⟩,I⟩;obtain⟨st,yW,t1,rfl,L⟩:=B.at hi;obtain⟨n,e,a1,a2,a3⟩:=(Jq y O 0 i st).mp yW;rw[qxq] at a3;subst a3;have ac:i<y.length:=(qvU.mp a1).1;obtain⟨m,hm⟩:∃m,J[i]? = some m:=#[_,qwi (show i<J.length by lia)];have dM:=I _ _ L;rw[take_one yW,qwU];have S2:=s1.trans I;left;refine#[_,.inr (aQ.of dM),_,cV (j:=0) rfl,?_];left;refine#[_,(ht.same S2).q,.int n,cV (by rw[qv8,a1];rfl),_,.inr (aQ.of dM),_,cV (j:=0) rfl,?_];left;refine#[_,(hu.same S2).q,.int m,cV (by rw[qv8,hm];rfl),?_];left
   by_cases G:n=m
   ·subst G;refine#[false,by simp,aM.neg rfl ?_];left;refine#[#[r,f,?_,⋯],I];simpa [a1,hm] using c
   ·refine#[true,by simp[G],aM.pos rfl ?_];left;refine#[r,f,⋯,#[r++[.ref t1],aB,?_,by simp;omega],cN I U];have e1:(List.filter (λs:bL=>!decide (y[s.1]? = J[s.1]?)) [(i,jA n e,fj n e)])=[(i,jA n e,fj n e)]:=by simp[a1,hm,G]
    rw[e1];refine bH.snoc (dw.keep c (d7.set f (by intro xs z;cases z))) #[t1,rfl,?_];rw[aN (cF L U)];exact dM
  ·rintro N H2 ⟨⟨o0,rfl⟩,⟨r,f,c,lq⟩,I⟩;rw[B.1,qv5] at c;left;exact q D r H2 (gU s1 U) f c (s1.trans I)
def V_(σ:List (Option V))(H:Hp):Nat:=match σ[3]? with
 |some (some (V.ref t))=>(match H t with
  |some (.lst c)=>c.length
  |_=>0)
 |_=>0
def qgD(h:H t=some (.lst vs)):V_ (e::c::o2::some (.ref t)::r) H=vs.length:=by
 unfold V_;simp only[qxe,List.getElem?_cons_zero,h]
def qgE:∀(σ:St)(H:Hp)(Q c:Bool->Hp->Prop),(∀(b:Bool)(e:Hp),Q b e->c b e)->
  iK (dX (λx y H Q=>y=V.non/\Q (V.bl !decide (x=V.non)) H) (fVar i) (tC V.non)) σ H Q->iK (dX (λx y H Q=>y=V.non/\Q (V.bl !decide (x=V.non)) H) (fVar i) (tC V.non)) σ H c:=by
 intro σ H Q c f h;exact getSt.imp (λv h=>#[h.1,gD.imp (λb h=>f _ _ h) h.2]) h
inductive yX(H:Hp)(L:List bL)(a b:Str):V->Prop
 |no:yX H L a b .non
 |way (t:Qv) (w:qw) (vs:QAH) (_:H t=some (.lst (w.map λn:Nat=>V.int n))) (_:lN L a w vs b) (_:vs.Nodup) (_:w.length<9):yX H L a b (.ref t)
inductive qgF:Sp
 |mk (l:Qv) (a b:Str) (tv:kE) (U:List bL) (xs:QAH) (_:vs=[.ref l,.str a,.str b]) (_:H l=some (.lst tv)) (_:dw H tv U) (_:a∈xs) (_:(∀s∈U,s.2.2∈xs)) (_:xs.length<=9) (_:U.length<=20) (_:a≠b) (_:∀(r:Qv)(H':Hp),Same H H'->Q (.ref r) H'):qgF vs H Q E
def qrg(T:Txt K mg a):aO P w K mg base aW 2 a.uR a.K4 ["steps", "a", "b"] qgF:=by
 exists T.Uu.bG,Bf
 ·obtain⟨l0,a,b,ab,U,I,rfl,a0,yW,aa,Wa,h9,cO,b8,q⟩:=h;refine#[_,(aK (bF (i:=3) Bf.nd rfl (Or.inl rfl) (aj 0))
   (aK (bF (i:=4) Bf.nd rfl (Or.inl rfl) (cM aq))
   (aK (bF (i:=5) Bf.nd rfl (Or.inr rfl) (PE.eqv (Ql (nW hr) (aL (Gh T) hr T.Bj T.yE T.Bh (ak (aj 1) (ak (aj 3) aq))) (aj 2) #[rfl,rfl,rfl,rfl]) (QX _ _)))
   (aK (Hg qwI (bN qac (aj 5) tD (bV _))
   (aK (eE (jW (K:=K) rfl qwz qwY qwZ xU (aj 4) (ak (aj 5) aq)))
   (aK (nY (i:=3) Bf.nd rfl rfl rfl rfl (show bM (aG JR) _ ["steps", "a", "b", "left", "told", "numbers"] ["step"] [5] ["step", "numbers"] from by rfl') rfl (dD (K:=K) (aj 3)) (λC s H fp pn=>(bO ["step", "numbers"] 0)) (λC s H fp pn=>(mQ (bN (DR (K:=K) rfl) (bQ (bT (K:=K) rfl) (aj 0) aH (λ_ _=>rfl)) (aj 1) rfl))) (λC s H fp pn=>(aj 0)))
   (aF (bF (i:=5) Bf.nd rfl (Or.inr rfl) (PE.eqv (Ql (nW hr) (aL (Gh T) hr T.Bj T.yE T.Bh (ak (aj 1) (ak (aj 3) aq))) (aj 2) #[rfl,rfl,rfl,rfl]) (QX _ _)))))))
   (aF (aX (aj 4))))))),?_]
  have oW:60<=sizeLine:=by decide
  left;intro e Y;generalize jL:upd H e (.lst [])=H1;obtain⟨s1,e1⟩:=cQ Y jL;refine#[a,l0,ab,U,I,rfl,s1 _ _ a0,dw.keep yW (L2.d7.of s1),aa,Wa,h9,λd m R H2 hd an hW B hF hN s2=>?_];have S2:=s1.trans s2;have ag:∀{L:List bL}{m:List (Key×V)}{R:BR}{G f:Hp}{u:HO},(∀s∈L,s.2.2∈I)->gj f m R->ig L a R.length R->pY G m->G e=some u->∃v,(dI m (Sum.inr b)).getD .non=v/\yX f L a b v/\v≠.ref e:=by
   intro L m R G f u Gq hW B hN hG;have h1:=rm B.nd (B.sub aa Gq);rw[qv1] at h1
   by_cases hb:b∈R.map (·.1)
   ·obtain⟨⟨y',w'⟩,O,rfl⟩:=qwr.mp hb;obtain⟨p,ai,b7⟩:=hW.some B.nd O;obtain⟨vs,mz,Cp,_⟩:=B.oh _ _ O;have:=B.Qu O;refine#[.ref p,by rw[ai];rfl,.way p w' vs b7 mz Cp ∅,λz=>?_];have hz:=hN.at ai;injection z with z;rw[z,hG] at hz;cases hz
   ·exact#[.non,by rw[hW.none hb];rfl,.no,λz=>by cases z]
  obtain⟨v0,b6,ay,am⟩:=ag Wa hW B hN e1;left;refine#[isD an,_,Ac b an,?_];rw[b6];refine HW (λM f=>∃(l:Qv)(tv n:kE)(L:List bL)(v:V),M=[some (.ref l0),some (.str a),some (.str b),some (.ref l),some (.ref e),some v]/\l≠e/\f l=some (.lst tv)/\dw f tv L/\(∀s∈L,s.2.2∈I)/\yX f L a b v/\v≠.ref e/\f e=some (.lst n)/\n.length+L.length<=20/\Same H f) V_
   #[l0,ab,[],U,v0,rfl,cF a0 Y,S2 _ _ a0,dw.keep yW (L2.d7.of S2),Wa,ay,am,s2 _ _ e1,by simpa using cO,S2] ?_ qgE
  rintro M H5 ⟨l,tv,n,L,v,rfl,az,e5,af,Gq,al,b0,Wb,b9,S5⟩;rw[qgD e5];left;cases al with
  |no=>
   refine aM.neg (by simp) ?_;left;exact q e H5 S5
  |way y w vs Gj mz Cp bd=>
   refine aM.pos (by simp) ?_;have ax:y≠e:=λz=>b0 (by rw[z]);left;have S9:Same H (upd H5 e (.lst (n++[.ref y]))):=cN S5 Y;have Wc:=(aN (o:=.lst (n++[.ref y])) az).trans e5;have ap:=(aN (o:=.lst (n++[.ref y])) ax).trans Gj;have Np:=dw.keep af (d7.set Wb (by intro I z;cases z):d7 H5 (upd H5 e (.lst (n++[.ref y]))));have Nq:upd H5 e (.lst (n++[.ref y])) e=some (.lst (n++[.ref y])):=aB;refine#[#[_,au.of Wb],_,Wb,⋯,?_];generalize upd H5 e (.lst (n++[.ref y]))=H9 at S9 Wc ap Nq Np⊢;refine#[#[_,au.of Wc],λD hD=>h_ tv (λi M f=>(∃o0,M=[o0,some (.ref y)])/\(∃r,f D=some (.lst r)/\dw f r ((L.take i).filter (Cm w))/\r.length<=i)/\Same H9 f) #[#[_,rfl],#[[],aB,bH.nil,qwF _],aJ hD] (λi M f _ h=>au.of (h.2.2 _ _ Wc)) ?_ ?_]
   ·rintro i v M uo hi ⟨⟨o0,rfl⟩,⟨r,N,c,lq⟩,J⟩;obtain⟨st,yW,t1,rfl,ah⟩:=Np.at hi;have ae:=J _ _ ah;have be:i<tv.length:=(qvU.mp hi).1;have ba:=af.1;rw[take_one yW,qwU];left;refine#[_,.inr (aQ.of ae),_,cV (j:=0) rfl,_,.inl (au.of (J _ _ ap)),rfl,?_,Cm w st,?_,aM.of (λhm=>?_) λhm=>?_]
    ·intro z hz;obtain⟨k,_,rfl⟩:=qwr.mp hz;rfl
    ·exact(qre st.1 w).trans (Bool.not_not _).symm
    ·left;refine#[r,N,⋯,#[r++[.ref t1],aB,?_,by simp;lia],cN J hD];rw[qwX,if_pos hm];exact bH.snoc (dw.keep c (d7.set N (by intro I z;cases z))) #[t1,rfl,(aN (cF ah hD)).trans ae]
    ·left;refine#[#[r,N,?_,⋯],J];rw[qwX,if_neg (by rw[hm];decide)];simpa using c
   ·rintro M uo ⟨⟨o0,rfl⟩,⟨r,N,c,lq⟩,J⟩;rw[Np.1,qv5] at c;have Wd:∀s∈L.filter (Cm w),s.2.2∈I:=λs hs=>Gq s (qwb.mp hs).1;have bc:(L.filter (Cm w)).length<L.length:=by
     rw[qxp];cases mz with
     |nil=>exact absurd rfl b8
     |snoc _ hs=>exact#[_,hs,by simp[Cm]]
    have bb:=c.1;left;refine#[a,D,r,_,I,rfl,N,c,aa,Wd,h9,λd m R Nr hd ac hW B hF hN jl=>?_];have Gs:=S9.trans J;obtain⟨ar,aw,av,as⟩:=ag Wd hW B hN (J _ _ Nq);left;refine#[isD ac,_,Ac b ac,?_];rw[aw,qgD (jl _ _ N)];exact#[#[D,r,n++[.ref y],L.filter (Cm w),ar,#[rfl,rfl],(cF Nq hD).symm,jl _ _ N,dw.keep c (L2.d7.of jl),Wd,av,as,jl _ _ (J _ _ Nq),by simp;lia,Gs.trans jl],by have:=Np.1;lia]
def qgJ{w:qw}(h:w.Nodup):(fP w).Nodup:=by
 unfold fP
 induction w with
 |nil=>exact List.nodup_nil
 |cons a l ih=>
  rw[qwC] at h;rw[qwd,qwC];refine#[λz=>?_,ih h.2];obtain⟨k,c,e⟩:=qwr.mp z;have:k=a:=⋯
  exact h.1 (this▸c)
def Nt:V->Int
 |.int n=>n
 |_=>0
theorem Wf:∀ns:List Int,(ns.map V.int).map Nt=ns
 |[]=>rfl
 |n::ns=>by simp only[qwd,Nt];rw[Wf ns]
def Wg(ps:QAD)(b:Str)(σ:List (Option V))(H:Hp):Nat:=match σ[4]? with
 |some (some (V.ref t))=>(match H t with
  |some (.lst c)=>inN (c.map Nt) ps b
  |_=>0)
 |_=>0
def qgK(h:H t=some (.lst (ns.map V.int))):Wg ps b (e::c::o2::o3::some (.ref t)::r) H=inN ns ps b:=by
 unfold Wg;simp only[qxe,List.getElem?_cons_zero,h,Wf]
def Nv{xs:QAH}{ns:qZ}{ps:QAD}(h:∀e∈ps,e.1∈xs/\e.2∈xs):∀s∈dB ns ps 0,s.2.2∈xs:=λs f=>by
 obtain⟨j,m,e,a1,a2,rfl⟩:=El.mp f;have c:=h e (qvX a2);show fj m e∈xs;unfold fj;split
 ·exact c.2
 ·exact c.1
def qgL{xs:QAH}{L:List bL}{a b:Str}{h:Hp}{R:BR}(c:ig L a R.length R)(u:xs.length<=9)(f:a∈xs)(m:∀s∈L,s.2.2∈xs){r:Qv}{w:qw}(hw:(b,w)∈R)(e:h r=some (.lst (w.map λn:Nat=>V.int n))):yX h L a b (.ref r):=by
 have l:=rm c.nd (c.sub f m);rw[qv1] at l;obtain⟨i,j,o,_⟩:=c.oh _ _ hw;have:=c.Qu hw;exact .way r w i e j o ⋯
inductive qgM  (C:Qv):Sp
 |mk (o t:Qv) (a b:Str) (xs:QAH) (ps:QAD) (ns:qZ) (_:vs=[.ref o,.ref t,.str a,.str b]) (_:oY C H o t xs ps ns) (_:dU xs) (_:g8 xs ps) (_:a∈xs) (_:b∈xs) (_:a≠b) (_:∀(r:Qv)(ms:qZ)(H':Hp),H' r=some (.lst (ms.map V.int))->ms.length=ps.length->(∀n∈ms,0<=n/\n<=1)->Same H H'->Q (.ref r) H'):qgM C vs H Q E
def qrm(T:Txt K mg a):aO P w K mg base aW 7 a.uQ a.K3 ["web", "pointing", "a", "b"] (qgM a.bx):=by
 exists T.Ut.bG,E_
 ·obtain⟨o,t,x,y,B,f,D,rfl,hp,hX,c,M,hy,a0,q⟩:=h;refine#[_,(aK (bF (i:=4) E_.nd rfl (Or.inl rfl) (mL (Ip (K:=K) rfl) rfl T.nm.list boot_list (ak (aj 1) aq)))
   (aK (bF (i:=5) E_.nd rfl (Or.inl rfl) (aL (qgt T) hr T.Uq T.Mq T.Uo (ak (aj 0) (ak (aj 4) (ak (aj 2) (ak (aj 3) aq))))))
   (aK (Hg qwI (bN qac (aj 5) tD (bV _))
   (aK (bF (i:=4) E_.nd rfl (Or.inl rfl) (aL (qgf T) hr T.Um T.Mp T.Ul (ak (aj 0) (ak (aj 4) (ak (aj 5) aq)))))
   (aF (bF (i:=5) E_.nd rfl (Or.inl rfl) (aL (qgt T) hr T.Uq T.Mq T.Uo (ak (aj 0) (ak (aj 4) (ak (aj 2) (ak (aj 3) aq)))))))))
   (aF (aX (aj 4)))))),?_]
  have oW:60<=sizeLine:=by decide
  have l9:=hX.len;have yR:=c.len;obtain⟨hw,ht,z,hl,cO⟩:=hp;have g2:∀e∈f,e.1∈B/\e.2∈B:=λe N=>#[(c.ok e N).1,(c.ok e N).2.1];left;refine#[_,ht.q,λJ aa=>?_];generalize jL:upd H J (.lst (D.map V.int))=H1;obtain⟨s1,e1⟩:=cQ aa jL;refine#[o,J,x,y,B,f,D,rfl,#[hw.same s1,.inl e1,z,hl,cO],hX,c,M,hy,λR H2 I hF s2=>?_];rw[Gn hl z] at I;have S2:=s1.trans s2;generalize Y:tH (Dh _ _) _ _=Lp;have l:∀v,yX H2 (dB D f 0) x y v->Lp [some (.ref o),some (.ref t),some (.str x),some (.str y),some (.ref J),some v] H2:=by
   intro v hv;rw[<- Y];left;refine HW (λσ H'=>∃(C:Qv)(j:qZ)(v:V),σ=[some (.ref o),some (.ref t),some (.str x),some (.str y),some (.ref C),some v]/\H' C=some (.lst (j.map V.int))/\j.length=f.length/\(∀n∈j,0<=n/\n<=1)/\yX H' (dB j f 0) x y v/\Same H H') (Wg f y)
    #[J,D,v,rfl,s2 _ _ e1,hl,z,hv,S2] ?_ qgE
   rintro σ H5 ⟨C,j,v,rfl,e5,u,O,G,S5⟩;rw[qgK e5];left;cases G with
   |no=>
    refine aM.neg (by simp) ?_;left;exact q C j H5 e5 u O S5
   |way pw w vs Gj mz Cp ab=>
    refine aM.pos (by simp) ?_;obtain⟨i1,i2,i3⟩:=qgB O (λe N=>(c.ok e N).2.2) mz Cp;have Wh:H5 pw=some (.lst ((fP w).map V.int)):=by rw[Gj];simp[fP]
    left;refine#[o,C,pw,B,f,j,fP w,rfl,#[hw.same S5,.inl e5,O,u,cO],.inl Wh,#[λk hk=>?_,qgJ i2,?_],λr9 H9 ac e9 s9=>?_]
    ·obtain⟨n,hn,rfl⟩:=qwr.mp hk;have:=i1 n hn;lia
    ·unfold fP;rw[qv1];lia
    ·have S9:=S5.trans s9;have L:=yS (fP w) j;have U:=qgc (ks:=fP w) O;rw[u] at L;have:=i3 y;rw[if_pos rfl,if_neg a0] at this;left;refine#[o,r9,x,y,B,f,_,rfl,#[hw.same S9,.inl e9,U,L,cO],hX,c,M,hy,λR uo I hF fB=>?_];rw[Gn L U] at I;refine#[λhb=>?_,λr w' m hr e=>?_] <;>
     ·left;rw[qgK (fB _ _ e9)];exact#[#[r9,iy (fP w) j,_,#[rfl,rfl],fB _ _ e9,L,U,by first|exact .no|exact qgL I l9.2 M (Nv g2) m e,S9.trans fB],⋯]
  refine#[λhb=>?_,λr w m hr e=>?_]
  ·left;exact l _ .no
  ·left;exact l _ (qgL I l9.2 M (Nv g2) m e)
def qz(xs:QAH)(d e:PyData):Prop:=qu xs d=true/\qu xs e=true/\d≠e
inductive qgN  (C N:Qv):Sp
 |mk (o:Qv) (u v:V) (d e:PyData) (xs:QAH) (ps:QAD) (_:vs=[.ref o,u,v]) (_:bW C H o xs ps) (_:dU xs) (_:dg H d u) (_:dg H e v) (_:oZ d) (_:oZ e) (_:(qz xs d e->∀H',Same H H'->Q .non H')) (_:(¬qz xs d e->∀H',Same H H'->E (.ref N) none H')):qgN C N vs H Q E
def qro(T:Txt K mg a):aO P w K mg base (gW P w) 4 a.uP a.K1 ["web", "a", "b"] (qgN a.bx a.gk):=by
 exists T.Us.rJ,qqm
 ·obtain⟨o,u,v,d,e,j,n,rfl,hw,G,D,C,B,r,I,m⟩:=h;refine#[_,(aK (eE (PE.eqv (qN (qgo T) hr.d rfl T.Bp T.vY.kp T.Bo .nil (lU.passes rfl) (ak (aj 0) (ak (aj 1) aq))) (rC _ _ _)))
   (aK (eE (PE.eqv (qN (qgo T) hr.d rfl T.Bp T.vY.kp T.Bo .nil (lU.passes rfl) (ak (aj 0) (ak (aj 2) aq))) (rC _ _ _)))
   (aF (bU (bN lO (aj 1) (aj 2) (bV _)) (aF (Ja (E:=E) lU rfl rfl T.wj rfl T.MF (ak cZ aq))) cA)))),?_]
  left;refine#[o,u,d,j,n,rfl,hw,G,D,B,λN c=>#[λi=>?_,λi=>m (λz=>by rw[z.1] at i;cases i) _ c]];left;refine#[o,v,e,j,n,rfl,hw.same c,G,C.same c,r,λM l=>#[λf=>?_,λf=>m (λz=>by rw[z.2.1] at f;cases f) _ (c.trans l)]];obtain⟨x,rfl,rfl,L⟩:=Ng D i;obtain⟨y,rfl,rfl,J⟩:=Ng C f;left;refine aM.of (λh=>?_) (λh=>?_)
  ·have h:=qwp h;subst h;left;exact m (λz=>z.2.2 rfl) _ (c.trans l)
  ·have h:=qwP h;left;exact I #[i,f,λz=>h (by injection z)] _ (c.trans l)
inductive qgO  (C N M:Qv):Sp
 |mk (o:Qv) (v u z:V) (d e f:PyData) (xs:QAH) (ps:QAD) (_:vs=[.ref o,v,u,z]) (_:bW C H o xs ps) (_:dU xs) (_:g8 xs ps) (_:aA H d v) (_:dg H e u) (_:dg H f z) (_:oZ e) (_:oZ f) (_:(cR ps.length d=false->∀H',Same H H'->E (.ref N) none H')) (_:(cR ps.length d=true->¬qz xs e f->∀H',Same H H'->E (.ref M) none H')) (_:(cR ps.length d=true->qz xs e f->∀r H',Same H H'->Q r H')):qgO C N M vs H Q E
def qrp(T:Txt K mg a):aO P w K mg base (gW P w) 8 a.uT a.K5 ["web", "pointing", "a", "b"] (qgO a.bx a.fM a.gk):=by
 exists T.Uv.rJ,Kd
 ·obtain⟨o,v,u,z,d,e,f,c,j,rfl,hw,hX,l,hd,N,hf,ab,aa,q1,q2,q3⟩:=h;refine#[_,(aK (eE (PE.eqv (qN (qgi T) hr.d rfl T.FJ T.yF.kp T.Fz .nil (lU.passes rfl) (ak (aj 0) (ak (aj 1) aq))) (rC _ _ _)))
   (aK (eE (PE.eqv (qN (qro T) hr.d rfl T.qei T.Us.kp T.qeh .nil (lU.passes rfl) (ak (aj 0) (ak (aj 2) (ak (aj 3) aq)))) (rC _ _ _)))
   (aK (bF (i:=4) Kd.nd rfl (Or.inl rfl) (aL (qrm T) hr T.qek T.Ut T.qej (ak (aj 0) (ak (aj 1) (ak (aj 2) (ak (aj 3) aq))))))
   (aK (bF (i:=5) Kd.nd rfl (Or.inr rfl) (aL (qq_ T) hr T.qeg T.Ur T.qef (ak (aj 0) (ak (aj 4) (ak (aj 2) aq)))))
   (aK (nY (i:=6) Kd.nd rfl rfl rfl rfl (show bM (aG JT) _ ["web", "pointing", "a", "b", "left", "found", "lot"] ["point"] [5] ["point", "found"] from by rfl') rfl (dD (K:=K) (PE.eqv (gK (aj 0) T.eU T.lZ (nA T) hr.d T.lY .nil fZ) (gV _ _ _ _ _ _))) (λC s H fp pn=>(bO ["point", "found"] 0)) (λC s H fp pn=>(mQ (bN (DR (K:=K) rfl) (aj 0) (aj 1) rfl))) (λC s H fp pn=>(aj 0)))
   (aF (aX (dY (ak (aL (qrg T) hr T.qem T.Uu T.qel (ak (aL (qrf T) hr T.qeb T.Uj T.qea (ak (aj 0) (ak (aj 1) (ak (aj 4) aq)))) (ak (aj 2) (ak (aj 3) aq)))) (ak (aj 6) aq)))))))))),?_]
  have oW:60<=sizeLine:=by decide
  have l9:=hX.len;have cO:=l.len;have g2:∀e∈j,e.1∈c/\e.2∈c:=λe N=>#[(l.ok e N).1,(l.ok e N).2.1];left;refine#[o,v,d,c,j,rfl,hw,hd,cO,λH1 r=>#[λO=>?_,λO=>q1 O _ r]];obtain⟨t,B,rfl,ht,ag,hl⟩:=V7 hd O;have J:∀{I},Same H I->oY a.bx I o t c j B:=λs=>#[hw.same s,ht.same s,ag,hl,cO];left;refine#[o,u,z,e,f,c,j,rfl,hw.same r,hX,N.same r,hf.same r,ab,aa,λG H2 s2=>?_,λG H2 s2=>q2 O G _ (r.trans s2)];have q:=q3 O G;obtain⟨x,rfl,rfl,hx⟩:=Ng N G.1;obtain⟨y,rfl,rfl,hy⟩:=Ng hf G.2.1;have L:x≠y:=λz=>G.2.2 (by rw[z]);have S2:=r.trans s2;left;refine#[o,t,x,y,c,j,B,rfl,J S2,hX,l,hx,hy,L,λr3 Y H3 e3 M Cq s3=>?_];have S3:=S2.trans s3;left;refine#[o,r3,x,c,j,Y,rfl,#[hw.same S3,.inl e3,Cq,M,cO],hX,l,hx,λr4 cs H4 e4 s4=>?_];have S4:=S3.trans s4;obtain⟨dx,fs,af,ae⟩:=(hw.same S4).ins fO.1 fO.2;left;refine#[_,_,af,ae,o,c,j,rfl,hw.same S4,λp5 za=>?_];generalize Gu:upd H4 p5 (.lst (c.map V.str))=H5;obtain⟨s5,e5⟩:=cQ za Gu;have S5:=S4.trans s5;have ah:=s5 _ _ e4;left;refine#[#[_,au.of e5],λD hD=>h_ (c.map V.str) (λi U I=>(∃o',U=[o',some (.ref r4)])/\(∃m,I D=some (.lst m)/\m.length<=i)/\Same H5 I) #[#[_,rfl],#[_,aB,qvY _],aJ hD] (λi U I _ h=>au.of (h.2.2 _ _ e5)) ?_ ?_]
  ·rintro i v U H6 hi ⟨⟨o',rfl⟩,⟨m,iw,lq⟩,n⟩;obtain⟨z,hz,rfl⟩:=jy hi;have al:i<c.length:=(qvU.mp hz).1;left;refine#[_,.inl (au.of (n _ _ ah)),rfl,qwa.mp (mW _),_,(Bool.not_not _).symm,aM.of (λh=>?_) (λh=>?_)]
   ·left;exact#[m,iw,⋯,#[_,aB,by simp;lia],cN n hD]
   ·left;exact#[#[m,iw,⋯],n]
  ·rintro U H6 ⟨⟨o',rfl⟩,⟨m,iw,lq⟩,n⟩;have S6:=S5.trans n;have ai:H6 r3=some (.lst (Y.map V.int)):=(s4.trans (s5.trans n)) _ _ e3;left;refine#[o,t,r3,c,j,B,Y,rfl,J S6,.inl ai,M,λl7 tv H7 Ge e7 a0 s7=>?_];have S7:=S6.trans s7;have jE:=qw1 (λs:bL=>!decide (B[s.1]? = Y[s.1]?)) (dB B j 0);rw[qde B j 0 hl] at jE;refine#[l7,x,y,tv,_,c,rfl,e7,a0,hx,λs hs=>Nv g2 s (qwb.mp hs).1,l9.2,⋯,L,λr8 H8 s8=>?_];left;exact λr9 ac=>q _ _ ((S7.trans s8).trans (aJ ac))
def cT(xs:QAH)(f g:Str->Int):QAH:=xs.filter λx=>decide (f x<g x)
def qgP{H:Hp}{e:kE}{xs:QAH}{f g:Str->Int}{i:Nat}{v:V}(h:pW H e (xs.map V.str) ((xs.map f).map V.int) ((xs.map g).map V.int) xs.length)(n:e[i]? = some v):∃t x,v = .ref t/\xs[i]? = some x/\H t=some (.tup [.str x,.int (f x),.int (g x)]):=by
 obtain⟨t,a,b,c,rfl,r,m,l,o⟩:=h.2 i v n;obtain⟨x,j,rfl⟩:=jy r;rw[qv8,qv8,j] at m l;cases m;cases l;exact#[t,x,rfl,j,o]
inductive qgQ  (C:Qv):Sp
 |mk (o i g:Qv) (xs:QAH) (ps:QAD) (f h:Str->Int) (_:vs=[.ref o,.ref i,.ref g]) (_:bW C H o xs ps) (_:0<xs.length) (_:xs.length<=9) (_:H i=some (.lst ((xs.map f).map V.int))) (_:Sq H g ((xs.map h).map V.int)) (_:∀(t l s:Qv)(H':Hp),H t=none->H l=none->H s=none->H' t=some (.tup [.ref l,.ref s])->H' l=some (.lst ((cT xs f h).map V.str))->H' s=some (.lst ((cT xs h f).map V.str))->Same H H'->Q (.ref t) H'):qgQ C vs H Q E
def qgR(T:Txt K mg a):aO P w K mg base aW 2 a.vf a.Lg ["web", "ins", "wanted"] (qgQ a.bx):=by
 exists T.Mv.bG,Kf
 ·obtain⟨o,i,g,c,ps,f,h,rfl,hw,h0,h9,hi,hg,q⟩:=h;refine#[_,(aK (bF (i:=3) Kf.nd rfl (Or.inl rfl) (qo7 (K:=K) rfl rfl rfl T.nm.list rfl T.nm.zip (ak (PE.eqv (gK (aj 0) T.eU T.lZ (nA T) hr.d T.lY .nil fZ) (gV _ _ _ _ _ _)) (ak (aj 1) (ak (aj 2) aq)))))
   (aK (nY (i:=4) Kf.nd rfl rfl rfl rfl (show bM (aG Ez) _ ["web", "ins", "wanted", "rows", "lacking", "spare"] ["point", "many", "goal"] [] ["point", "many", "goal"] from by rfl') rfl (dD (K:=K) (aj 3)) (λC s H O M=>(PG.eqv (iJ (K:=K) (n:=3) rfl rfl (bB.eqv (cI (bO ["point", "many", "goal"] 0) (bB.eqv (cI (bO ["point", "many", "goal"] 1) (bB.eqv (cI (bO ["point", "many", "goal"] 2) (bB.mono iH iM)) (cJ _ _))) (cJ _ _))) (cJ _ _))) (iQ _ _ _))) (λC s H O M=>(mQ (bN Al (aj 1) (aj 2) (bV _)))) (λC s H O M=>(aj 0)))
   (aK (nY (i:=5) Kf.nd rfl rfl rfl rfl (show bM (aG Ez) _ ["web", "ins", "wanted", "rows", "lacking", "spare"] ["point", "many", "goal"] [] ["point", "many", "goal"] from by rfl') rfl (dD (K:=K) (aj 3)) (λC s H O M=>(PG.eqv (iJ (K:=K) (n:=3) rfl rfl (bB.eqv (cI (bO ["point", "many", "goal"] 0) (bB.eqv (cI (bO ["point", "many", "goal"] 1) (bB.eqv (cI (bO ["point", "many", "goal"] 2) (bB.mono iH iM)) (cJ _ _))) (cJ _ _))) (cJ _ _))) (iQ _ _ _))) (λC s H O M=>(mQ (bN xR (aj 1) (aj 2) (bV _)))) (λC s H O M=>(aj 0)))
   (aF (aX (dY (ak (aj 4) (ak (aj 5) aq)))))))),?_]
  have oW:60<=sizeLine:=by decide
  obtain⟨dx,fs,ac,aa⟩:=hw.ins fO.1 fO.2;left;refine#[_,_,ac,aa,o,c,ps,rfl,hw,λp1 a0=>?_];generalize jL:upd H p1 (.lst (c.map V.str))=H1;obtain⟨L,e1⟩:=cQ a0 jL;obtain⟨b3,ae⟩:∃b3,ji b3 K H1 g ((c.map h).map V.int):=(hg.same L).elim (λz=>#[true,au.of z]) λz=>#[false,aQ.of z];left;refine#[b3,_,au.of e1,_,au.of (L _ _ hi),_,ae,by simpa using h0,by simp,by simp,λp2 tv H2 af e2 dM s2=>?_];rw[qv1] at dM;have tl:tv.length=c.length:=dM.1;refine#[#[_,au.of e2],λD hD=>h_ tv (λk e I=>(∃u r m,e=[u,r,m])/\I D=some (.lst ((cT (c.take k) f h).map V.str))/\Same H2 I) #[#[_,_,_,rfl],aB,aJ hD] (λk e I _ h=>au.of (h.2.2 _ _ e2)) ?_ ?_]
  ·rintro k v e H3 hk ⟨⟨u,r,m,rfl⟩,Y,j⟩;obtain⟨t,x,rfl,N,l⟩:=qgP (dM.same j) hk;have ab:k<c.length:=(qvU.mp N).1;have y:(cT (c.take k) f h).length<=(c.take k).length:=qw1 _ _;rw[qwe] at y;rw[take_one N,show cT (c.take k++[x]) f h=cT (c.take k) f h++cT [x] f h from qwU ..];left;refine#[_,aQ.of l,rfl,?_];left;refine aM.of (λB=>?_) (λB=>?_)
   ·left;refine#[_,Y,by simp;lia,?_,cN j hD];rw[aB];simp[cT,qwp B]
   ·left;refine#[?_,j];rw[Y];have:=qwP B;simp[cT,this]
  ·rintro e H3 ⟨⟨u,r,m,rfl⟩,Y,j⟩;rw[tl,qv5] at Y;have e3:=j _ _ e2;have yK:=dM.same j;left;refine#[#[_,au.of e3],λD2 G=>h_ tv (λk e I=>(∃u r m,e=[u,r,m])/\I D2=some (.lst ((cT (c.take k) h f).map V.str))/\Same H3 I) #[#[_,_,_,rfl],aB,aJ G] (λk e I _ h=>au.of (h.2.2 _ _ e3)) ?_ ?_]
   ·rintro k v e H4 hk ⟨⟨u,r,m,rfl⟩,U,J⟩;obtain⟨t,x,rfl,N,l⟩:=qgP (yK.same J) hk;have ab:k<c.length:=(qvU.mp N).1;have y:(cT (c.take k) h f).length<=(c.take k).length:=qw1 _ _;rw[qwe] at y;rw[take_one N,show cT (c.take k++[x]) h f=cT (c.take k) h f++cT [x] h f from qwU ..];left;refine#[_,aQ.of l,rfl,?_];left;refine aM.of (λB=>?_) (λB=>?_)
    ·left;refine#[_,U,by simp;lia,?_,cN J G];rw[aB];simp[cT,qwp B]
    ·left;refine#[?_,J];rw[U];have:=qwP B;simp[cT,this]
   ·rintro e H4 ⟨⟨u,r,m,rfl⟩,U,J⟩;rw[tl,qv5] at U;have S4:=L.trans (s2.trans (j.trans J));left;intro t l;exact q t D D2 _ (gU S4 l) (gU (L.trans s2) hD) (gU (L.trans (s2.trans j)) G) aB (cj (J _ _ Y) l) (cj U l) (S4.trans (aJ l))
inductive qgS:Sp
 |mk (l a b:Qv) (tv:kE) (S:List bL) (ss es xs:QAH) (_:vs=[.ref l,.ref a,.ref b]) (_:H l=some (.lst tv)) (_:dw H tv S) (_:H a=some (.lst (ss.map V.str))) (_:H b=some (.lst (es.map V.str))) (_:(∀x∈ss,x∈xs)) (_:(∀s∈S,s.2.2∈xs)) (_:xs.length<=9) (_:(∀H',(∀s∈ss,∀e∈es,¬RT (jk S) s e)->Same H H'->Q .non H')) (_:∀(s e:Str)(w:qw)(ws:QAH)(r:Qv)(H':Hp),s∈ss->e∈es->lN S s w ws e->ws.Nodup->H r=none->H' r=some (.lst (w.map λn:Nat=>V.int n))->Same H H'->Q (.ref r) H'):qgS vs H Q E
def qrr(T:Txt K mg a):aO P w K mg base aW 2 a.vh a.Li ["steps", "starts", "ends"] qgS:=by
 exists T.U7.bG,Kg
 ·obtain⟨l,a,b,tv,S,Y,O,xs,rfl,hl,hS,ha,hb,aa,Cg,h9,q1,q2⟩:=h;refine#[_,(aK (jT qwI rfl (dD (K:=K) (aj 1)) (eF (i:=3) Kg.nd rfl (Or.inl rfl))
   (aK (bF (i:=4) Kg.nd rfl (Or.inl rfl) (aL (Gh T) hr T.Bj T.yE T.Bh (ak (aj 3) (ak (aj 0) aq))))
   (aF (jT qwI rfl (dD (K:=K) (aj 2)) (eF (i:=5) Kg.nd rfl (Or.inl rfl))
   (aF (bU (QL (PC.eqv (qba (nW hr) (aj 5) (aj 4)) (qcs _ _))) (aF (aX (PE.eqv (qa_ (nW hr) (aj 4) (aj 5) (λ_ _=>rfl)) (qcr _ _)))) cA))))))
   (aF (aX tD))),?_]
  left;refine#[#[_,au.of ha],lM (Y.map V.str) (λk c M=>(∃o3 o4 r,c=[some (.ref l),some (.ref a),some (.ref b),o3,o4,r])/\(∀s∈Y.take k,∀e∈O,¬RT (jk S) s e)/\Same H M) #[#[_,_,_,rfl],by simp,Same.refl _] (λk c M _ h=>au.of (h.2.2 _ _ ha)) ?_ ?_]
  ·rintro k v c H1 hk ⟨⟨o3,o4,r,rfl⟩,m,f⟩;obtain⟨x,hx,rfl⟩:=jy hk;have G:=qvX hx;left;refine#[x,l,tv,S,xs,rfl,f _ _ hl,hS.keep (L2.d7.of f),aa x G,Cg,h9,λd a0 R H2 af hd hw n ag L N=>?_];left;refine#[#[_,au.of (N _ _ (f _ _ hb))],lM (O.map V.str) (λj c M=>(∃r,c=[some (.ref l),some (.ref a),some (.ref b),some (.str x),some (.ref d),r])/\(∀e∈O.take j,¬RT (jk S) x e)/\Same H2 M) #[#[_,rfl],by simp,Same.refl _] (λj c M _ h=>au.of (h.2.2 _ _ (N _ _ (f _ _ hb)))) ?_ ?_]
   ·rintro j u c H3 hj ⟨⟨r,rfl⟩,U,o⟩;obtain⟨y,hy,rfl⟩:=jy hj;left;have I:gj H3 a0 R:=hw.keep λp w e=>o _ _ e;refine#[_,fK.k (k:=Sum.inr y) (o _ _ hd),?_];rw[I.has n.nd];refine aM.of (λD=>?_) (λD=>?_)
    ·have Wi:=qwp D;obtain⟨⟨y',w'⟩,hm,rfl⟩:=qwr.mp Wi;obtain⟨p,J,ac⟩:=I.some n.nd hm;obtain⟨ws,mz,ae,_⟩:=n.oh _ _ hm;have ab:H1 p=none:=L.at J;left;refine#[.ref p,?_,q2 x y' w' ws p H3 G (qvX hy) mz ae (gU f ab) ac (f.trans (N.trans o))];rw[<- J];exact fK.k (k:=Sum.inr y') (o _ _ hd)
    ·have Wi:=qwP D;left;refine#[λe C=>?_,o];rw[take_one hy] at C
     rcases qwc.mp C with C|C
     ·exact U e C
     ·rw[qv6] at C;subst C;exact λz=>Wi ((n.iff e).mpr z)
   ·rintro c H3 ⟨⟨r,rfl⟩,U,o⟩;rw[qv1,qv5] at U;left;refine#[λs B=>?_,f.trans (N.trans o)];rw[take_one hx] at B
    rcases qwc.mp B with B|B
    ·exact m s B
    ·rw[qv6] at B;subst B;exact U
  ·rintro c H1 ⟨⟨o3,o4,r,rfl⟩,m,f⟩;rw[qv1,qv5] at m;left;exact q1 H1 m f
def qgT(H:Hp)(e C:Qv)(fs:List (Str×V)):Prop:=∃c,c≠e/\H e=some (eO e C (some c))/\H c=some (pQ c fs)
inductive qgU  (C:Qv) (f:Str):Sp
 |mk (e l:Qv) (xs:kE) (_:vs=[.ref e,.ref l]) (_:H e=some (eO e C none)) (_:H l=some (.lst xs)) (_:∀(b:Qv)(H':Hp),H b=none->H' b=some (.lst xs)->qgT H' e C [(f,.ref b)]->But e H H'->Q .non H'):qgU C f vs H Q E
def qrs{H:Hp}{e l C:Qv}{xs:kE}{f:Str}{Q:VK}{K:W5}(m:H e=some (eO e C none))(A:H l=some (.lst xs))(q:∀(b:Qv) (r:Hp),H b=none->r b=some (.lst xs)->qgT r e C [(f,.ref b)]->But e H r->Q .non r):
  (∃x,H e=some (eO e C x))/\∃ys,(au K H l ys\/aQ K H l ys)/\∀(l:Qv),H l=none->upd H l (.lst ys) e=some (eO e C none)/\∀i,upd H l (.lst ys) i=none->Q .non (upd (upd (upd H l (.lst ys)) i (pQ i [(f,.ref l)])) e (eO e C (some i))):=by
 refine#[#[_,m],xs,.inl (au.of A),λb n=>?_];generalize v:upd H b (.lst xs)=G;obtain⟨j,u⟩:=cQ n v;refine#[j _ _ m,λi h=>?_];have ne:i≠e:=λz=>by rw[z,j _ _ m] at h;cases h
 have D:b≠e:=λz=>by rw[z,m] at n;cases n
 have E:b≠i:=λz=>by rw[<- z,u] at h;cases h
 refine q b _ n (by rw[aN D,aN E];exact u) #[i,ne,aB,by rw[aN ne];exact aB] λc o B z=>?_;rw[aN B,aN (λy=>by rw[<- y,j _ _ z] at h;cases h)];exact j _ _ z
def qrt(T:Txt K mg a):aO P w K mg base aW 1 a.rP a.Kp ["self", "lot"] (qgU a.dF "lot"):=by
 exists T.qdS.bG,qp7
 ·obtain⟨e,l,c,rfl,i,f,q⟩:=h;refine#[_,(aK (eE (qoE T.MJ T.ini rfl T.Vv (ak (aj 0) (ak cZ aq))))
   (aF (qoF T.qfu T.Ca (aj 0) (mL (Ip (K:=K) rfl) rfl T.nm.list boot_list (ak (aj 1) aq)) rfl))),?_]
  left;exact qrs i f q
def qgV(S:List bL)(xs c f:QAH)(w:Str)(part:QAH):Prop:=(0<c.length/\w = "touching" /\∃p:Str->Bool,(∀x,p x=true↔∃s∈c,RT (jk S) s x)/\part=xs.filter p)\/(c.length=0/\w = "within" /\∃p:Str->Bool,(∀x,p x=true↔∃e∈f,RT (jk S) x e)/\part=xs.filter p)
def Cr{xs:QAH}{f g:Str->Nat}{y:Str}:y∈cT xs (λx=>(f x:Int)) (λx=>(g x:Int))↔y∈xs/\f y<g y:=by
 unfold cT;rw[qwb,qwx];constructor
 ·rintro⟨e,c⟩;have c:(f y:Int)<g y:=c;exact#[e,⋯]
 ·rintro⟨e,c⟩;exact#[e,show(f y:Int)<g y by lia]
def qru:Sp:=λ_ _ _ _=>False
def qrv(T:Txt K mg a):aO P w K mg base aW 1 a.vm a.Lj ["web", "steps", "lacking", "spare"] qru:=by
 refine T.U8.bG qqr (λe H Q E h=>h.elim) (λf A c s H e Q E i h=>h.elim)
def Cu(c:QAH)(st:bL):Bool:=decide (¬st.2.1∈c/\st.2.2∈c)
inductive qgW:Sp
 |mk (s l:Qv) (tv:kE) (S:List bL) (c:QAH) (_:vs=[.ref s,.ref l]) (_:H s=some (.lst tv)) (_:dw H tv S) (_:H l=some (.lst (c.map V.str))) (_:tv.length<=40) (_:∀(r:Qv)(jm:kE)(H':Hp),H r=none->H' r=some (.lst jm)->jm.length=(S.filter (Cu c)).length->Same H H'->Q (.ref r) H'):qgW vs H Q E
def qrw(T:Txt K mg a):aO P w K mg base aW 1 a.uL a.KQ ["steps", "lot"] qgW:=by
 exists T.Uk.bG,qqk
 ·obtain⟨s,l,M,S,c,rfl,O,G,hl,jE,q⟩:=h;refine#[_,(aF (aX (fJ rfl rfl (show bM (aG JN) _ ["steps", "lot"] ["step"] [1] ["step", "lot"] from by rfl') rfl (dD (K:=K) (aj 0)) (λC s H U N=>(bO ["step", "lot"] 0)) (λC s H U N=>(mQ (PW.pt (Ow (bN (DR (K:=K) rfl) (bQ (bT (K:=K) rfl) (aj 0) aH (λ_ _=>rfl)) (aj 1) rfl) (Ov (bN (pK (K:=K) rfl) (bQ (bT (K:=K) rfl) (aj 0) aH (λ_ _=>rfl)) (aj 1) rfl)))))) (λC s H U N=>(aj 0))))),?_];have oW:60<=sizeLine:=by decide
  left;refine#[#[_,au.of O],λD I=>h_ M (λi v L=>(∃z,v=[z,some (.ref l)])/\(∃o,L D=some (.lst o)/\o.length=((S.take i).filter (Cu c)).length)/\Same H L) #[#[_,rfl],#[[],aB,rfl],aJ I] (λi v L _ h=>au.of (h.2.2 _ _ O)) ?_ ?_]
  ·rintro i x v H2 hi ⟨⟨z,rfl⟩,⟨o,f,e⟩,m⟩;obtain⟨st,r,t,rfl,ht⟩:=G.at hi;have a0:i<S.length:=(qvU.mp r).1;have Y:=m _ _ ht;have u:=m _ _ hl;have B:((S.take i).filter (Cu c)).length<=(S.take i).length:=qw1 _ _;rw[qwe,<- G.1] at B;rw[take_one r,qwU];left;have d1:inV (.str st.2.1) (c.map V.str) = !decide (¬st.2.1∈c):=by rw[ou];simp
   refine#[_,.inr (aQ.of Y),_,cV (j:=1) rfl,_,.inl (au.of u),rfl,qwa.mp (mW _),_,d1,aM.of (λh=>?_) (λh=>?_)]
   ·have y:¬st.2.1∈c:=qwp h;left;refine#[_,.inr (aQ.of Y),_,cV (j:=2) rfl,_,.inl (au.of u),rfl,qwa.mp (mW _),?_];rw[ou];refine aM.of (λJ=>?_) (λJ=>?_)
    ·have n:st.2.2∈c:=qwp J;left;refine#[_,f,⋯,#[_,aB,?_],cN m I];simp[Cu,y,n,e]
    ·have n:¬st.2.2∈c:=qwP J;left;refine#[#[_,f,?_],m];simp[Cu,y,n,e]
   ·have y:st.2.1∈c:=by simpa using h
    left;refine#[#[_,f,?_],m];simp[Cu,y,e]
  ·rintro v H2 ⟨⟨z,rfl⟩,⟨o,f,e⟩,m⟩;rw[G.1,qv5] at e;left;exact q D o H2 I f e m
def dh(m k:Nat):Bool:=decide (m / 2 ^ k % 2=1)
def qrx:∀n:Nat,n<=9->∀m:Nat,m<512->1<=m->m+1<2 ^ n->(List.range n).any (dh m)=true/\(List.range n).all (dh m)=false:=by symm
def qry(i:n<=9)(l:m<512)(r:1<=m)(o:m+1<2 ^ n):(∃k,k<n/\dh m k=true)/\∃k,k<n/\dh m k=false:=by
 obtain⟨a,b⟩:=qrx n i m l r o;rw[List.any_eq_true] at a;rw[List.all_eq_false] at b;obtain⟨k,c,e⟩:=a;obtain⟨j,h,f⟩:=b;exact#[#[k,qxr.mp c,e],#[j,qxr.mp h,by simpa using f]]
def d8(b:Nat->Bool)(xs:QAH):QAH:=(xs.zipIdx.filter λe=>b e.2).map (·.1)
def bits_sub(b:Nat->Bool)(xs:QAH):(d8 b xs).Sublist xs:=by
 have h:=List.Sublist.map (λe:Str×Nat=>e.1) (List.filter_sublist (p:=λe:Str×Nat=>b e.2) (l:=xs.zipIdx));rw[List.zipIdx_map_fst] at h;exact h
def qrz(c:k<xs.length)(e:b k=true):0<(d8 b xs).length:=by
 refine qxi (a:=xs[k]) ?_;unfold d8;rw[qwr];refine#[(xs[k],k),?_,rfl];rw[qwb];refine#[?_,e];rw[qxa];simp[c]
def qrA(c:k<xs.length)(f:b k=false):(d8 b xs).length<xs.length:=by
 unfold d8;rw[qv1];have:(xs.zipIdx.filter λe=>b e.2).length<xs.zipIdx.length:=by
  rw[qxp];refine#[(xs[k],k),?_,by simp[f]];rw[qxa];simp[c]
 rwa [List.length_zipIdx] at this
def qgX:d8 b (l++[x])=d8 b l++if b l.length=true then [x] else []:=by
 unfold d8;rw[List.zipIdx_append,qwU,qwG]
 by_cases h:b l.length=true <;> simp[h]
def qrB(h:m<2 ^ n):dh m n=false:=by
 unfold dh;rw[Nat.div_eq_of_lt h];rfl
def qrC(h:m<2 ^ n):dh (2 ^ n+m) n=true:=by
 unfold dh;rw[Nat.add_div_left _ (Nat.two_pow_pos n),Nat.div_eq_of_lt h];rfl
def qrD(h:k<n):dh (2 ^ n+m) k=dh m k:=by
 unfold dh;have e:2 ^ n=2 ^ k * (2 * 2 ^ (n - k - 1)):=by
  rw[<- Nat.mul_assoc,<- Nat.pow_succ,<- Nat.pow_add];congr 1;omega
 rw[e,Nat.mul_add_div (Nat.two_pow_pos k),Nat.mul_add_mod]
def qrE(h:∀k,k<xs.length->b k=b' k):d8 b xs=d8 b' xs:=by
 unfold d8;congr 1;refine List.filter_congr λe c=>?_;obtain⟨x,k⟩:=e;rw[qxa] at c;exact h k (qvU.mp c).1
def jM(xs:QAH):List (QAH):=(List.range (2 ^ xs.length)).map λm=>d8 (dh m) xs
def parts_nil:jM []=[[]]:=rfl
def qgY(l:QAH)(x:Str):jM (l++[x])=jM l++(jM l).map (·++[x]):=by
 unfold jM;rw[qwm,qyc,Nat.pow_succ,Nat.mul_two,List.range_add,qwG,List.map_map,List.map_map];congr 1
 ·refine qxV λm c=>?_;rw[qgX,qrB (qxr.mp c)];simp
 ·refine qxV λm c=>?_;show d8 (dh (2 ^ l.length+m)) (l++[x])=d8 (dh m) l++[x];rw[qgX,qrC (qxr.mp c),qrE (b':=dh m) λk e=>qrD e];simp
def iU(xs:QAH):List (QAH):=(List.range (2 ^ xs.length - 2)).map λm=>d8 (dh (1+m)) xs
def Wj(xs:QAH):(jM xs).length=2 ^ xs.length:=by simp[jM]
def Nz(xs:QAH):(iU xs).length=2 ^ xs.length - 2:=by simp[iU]
def Wk(h:i<2 ^ xs.length - 2):(iU xs)[i]? = some (d8 (dh (1+i)) xs):=by
 unfold iU;rw[qv8,List.getElem?_range h];rfl
def qrF:((jM xs).take (2 ^ xs.length - 1)).drop 1=iU xs:=by
 refine List.ext_getElem? λi=>?_;rw[List.getElem?_drop]
 by_cases h:i<2 ^ xs.length - 2
 ·rw[Wk h,List.getElem?_take_of_lt ∅];unfold jM;rw[qv8,List.getElem?_range ∅];rfl
 ·rw[qyg (by rw[qwe,Wj];omega),qyg (by rw[Nz];lia)]
def Gv(o:xs.length<=9)(h:c∈iU xs):c.Sublist xs/\0<c.length/\c.length<xs.length:=by
 unfold iU at h;obtain⟨m,l,rfl⟩:=qwr.mp h;have l:=qxr.mp l;have r:2 ^ xs.length<=2 ^ 9:=qxf (by decide) o;obtain⟨⟨v,f,j⟩,⟨u,e,i⟩⟩:=qry (n:=xs.length) (m:=1+m) o ∅ ⋯ ∅;exact#[bits_sub _ _,qrz f j,qrA e i]
def qrG(G H:Hp)(v:V)(c:QAH):Prop:=∃t,v = .ref t/\G t=none/\H t=some (.lst (c.map V.str))
def zc(G H:Hp)(c:kE)(e:List (QAH)):Prop:=bH (qrG G) H c e
def zc.same(h:zc G H e n)(s:Same H o):zc G o e n:=#[h.1,λi v c l j=>by
 obtain⟨t,rfl,m,f⟩:=h.2 i v c l j;exact#[t,rfl,m,s _ _ f]]
inductive qgZ:Sp
 |mk (n:Qv) (xs:QAH) (_:vs=[.ref n]) (_:H n=some (.lst (xs.map V.str))) (_:xs.length<=9) (_:∀(r:Qv)(tv:kE)(H':Hp),H r=none->H' r=some (.lst tv)->zc H H' tv (jM xs)->Same H H'->Q (.ref r) H'):qgZ vs H Q E
def qrH(T:Txt K mg a):aO P w K mg base aW 1 a.uV a.K7 ["points"] qgZ:=by
 exists T.Uy.bG,Ke
 ·obtain⟨n,L,rfl,hn,h9,q⟩:=h;refine#[_,(aK (bF (i:=1) Ke.nd rfl (Or.inl rfl) (cM (ak (cM aq) aq)))
   (aK (jT qwI rfl (dD (K:=K) (aj 0)) (eF (i:=2) Ke.nd rfl (Or.inr rfl))
   (aF (bF (i:=1) Ke.nd rfl (Or.inl rfl) (bI ug (aj 1) (fJ rfl rfl (show bM (aG JV) _ ["points", "parts", "point"] ["part"] [2] ["part", "point"] from by rfl') rfl (dD (K:=K) (aj 1)) (λC s H fp pn=>(bO ["part", "point"] 0)) (λC s H fp pn=>dZ) (λC s H fp pn=>(bI ug (aj 0) (cM (ak (aj 1) aq)))))))))
   (aF (aX (aj 1))))),?_]
  have Gp:600<sizeLine:=by decide
  left;intro p hp;generalize jL:upd H p (.lst [])=H1;obtain⟨s1,e1⟩:=cQ hp jL;intro r hr;generalize jK:upd H1 r (.lst [.ref p])=H2;obtain⟨s2,e2⟩:=cQ hr jK;have S2:=s1.trans s2;refine#[#[_,au.of (S2 _ _ hn)],lM (L.map V.str) (λi u l=>(∃O o2,u=[some (.ref n),some (.ref O),o2]/\H O=none/\∃e,l O=some (.lst e)/\zc H l e (jM (L.take i)))/\Same H l) #[#[r,none,rfl,s1.free hr,_,e2,?_],S2] (λi u l _ h=>au.of (h.2 _ _ hn)) ?_ ?_]
  ·exact#[rfl,λi v c J I=>by
    cases i with
    |succ i=>simp at J
    |zero=>
     simp at J;rw[List.take_zero,parts_nil] at I;simp at I;subst J I;exact#[p,rfl,hp,s2 _ _ e1]]
  ·rintro i v u H3 hi ⟨⟨O,o2,rfl,a0,e,jJ,f⟩,Y⟩;obtain⟨y,hy,rfl⟩:=jy hi;have ah:i<L.length:=(qvU.mp hy).1;have af:e.length=2 ^ i:=by
    have:=f.1;rw[Wj,qwe,qyb ⋯] at this;exact this
   have p8:2 ^ i<=2 ^ 8:=qxf (by decide) ⋯;rw[take_one hy,qgY];have ac:∀c∈jM (L.take i),c.length<=9:=λc hc=>by
    obtain⟨m,_,rfl⟩:=qwr.mp hc;have:=(bits_sub (dh m) (L.take i)).length_le;rw[qwe] at this;lia
   generalize hC:jM (L.take i)=cs at f ac⊢;left;refine#[#[_,au.of jJ],λD hD=>h_ e (λj u l=>(∃o1,u=[o1,some (.str y)])/\(∃B,l D=some (.lst B)/\bH (λl v c=>∃t,v = .ref t/\H t=none/\t≠D/\l t=some (.lst (c.map V.str))) l B ((cs.take j).map (·++[y])))/\Same H3 l) #[#[_,rfl],#[[],aB,bH.nil],aJ hD] (λi u l _ h=>au.of (h.2.2 _ _ jJ)) ?_ ?_]
   ·rintro j v u H4 hj ⟨⟨o1,rfl⟩,⟨B,cH,N⟩,G⟩;have ag:j<e.length:=(qvU.mp hj).1;obtain⟨c,hc,t,rfl,ae,M⟩:=bH.at f hj;have lq:B.length=j:=by
     have:=N.1;have ab:=f.1;rw[qv1,qwe] at this;lia
    have xO:=G _ _ M;left;intro p5 U;generalize Gu:upd H4 p5 (.lst [.str y])=H5;obtain⟨o,e5⟩:=cQ U Gu;have ai:=ac c (qvX hc);refine#[_,o _ _ xO,_,e5,by simp;lia,λp6 qC=>?_];generalize Wm:upd H5 p6 (.lst (c.map V.str++[.str y]))=H6;obtain⟨s6,e6⟩:=cQ qC Wm;have iw:=(o.trans s6) _ _ cH;have Cv:p6≠D:=λz=>by rw[z,o _ _ cH] at qC;cases qC
    refine#[B,iw,⋯,#[_,aB,?_],cN (G.trans (o.trans s6)) hD];rw[take_one hc,qwG];refine bH.snoc (bH.keep N ?_) #[p6,rfl,(Y.trans (G.trans o)).free qC,Cv,by rw[aN Cv,e6];simp];rintro v b ⟨t,rfl,h0,aa,M⟩;exact#[t,rfl,h0,aa,by rw[aN aa];exact(o.trans s6) _ _ M]
   ·rintro u H4 ⟨⟨o1,rfl⟩,⟨B,cH,N⟩,G⟩;rw[f.1,qv5] at N;have lq:B.length=cs.length:=by rw[N.1,qv1]
    have ab:=f.1;left;refine#[_,G _ _ jJ,_,cH,⋯,λp5 U=>#[#[(Y.trans G).free U,_,aB,?_],(Y.trans G).trans (aJ U)]];have o:Same H4 (upd H4 p5 (.lst (e++B))):=aJ U;generalize upd H4 p5 (.lst (e++B))=H5 at o⊢;refine#[by simp[f.1,N.1],λk v c J I=>?_]
    by_cases hk:k<e.length
    ·rw[qwo hk] at J;rw[qwo ⋯] at I;obtain⟨t,rfl,h0,M⟩:=f.2 k v c J I;exact#[t,rfl,h0,(G.trans o) _ _ M]
    ·rw[qwq ⋯] at J;rw[qwq ⋯,<- ab] at I;obtain⟨t,rfl,h0,_,M⟩:=N.2 _ v c J I;exact#[t,rfl,h0,o _ _ M]
  ·rintro u H3 ⟨⟨O,o2,rfl,a0,e,jJ,f⟩,Y⟩;rw[qv1,qv5] at f;left;exact q O e H3 a0 jJ f Y
def qrI:jU xs (some 1) (some (-1))=(xs.take (xs.length - 1)).drop 1:=by
 unfold jU;have e:HT.eZ xs.length 0 (some 1)=min 1 xs.length:=by
  unfold HT.eZ;simp
  try omega
 have c:HT.eZ xs.length xs.length (some (-1))=xs.length - 1:=by
  unfold HT.eZ;simp
  try lia
 rw[e,c,List.drop_take];cases xs with
 |nil=>rfl
 |cons x xs=>
  rw[qyb (by simp)]
inductive qg1  (C:Qv):Sp
 |mk (o:Qv) (xs:QAH) (ps:QAD) (_:vs=[.ref o]) (_:bW C H o xs ps) (_:xs.length<=9) (_:∀(r:Qv)(tv:kE)(H':Hp),H r=none->H' r=some (.lst tv)->zc H H' tv (iU xs)->Same H H'->Q (.ref r) H'):qg1 C vs H Q E
def Wn(T:Txt K mg a):aO P w K mg base aW 2 a.uW a.K8 ["web"] (qg1 a.bx):=by
 exists T.FN.bG,qqn
 ·obtain⟨o,e,D,rfl,hw,U,q⟩:=h;refine#[_,(aF (aX (tU (Am (K:=K) rfl) (aL (qrH T) hr T.qeq T.Uy T.qep (ak (PE.eqv (gK (aj 0) T.eU T.lZ (nA T) hr.d T.lY .nil fZ) (gV _ _ _ _ _ _)) aq)) (PO.eqv (qO aH) (rE _)) (PO.eqv (qO (Hi Ih aH)) (rE _))))),?_];have Gp:600<sizeLine:=by decide
  obtain⟨dx,fs,m,l⟩:=hw.ins fO.1 fO.2;left;refine#[dx,fs,m,l,o,e,D,rfl,hw,λn N=>?_];generalize L:upd H n (.lst (e.map V.str))=H1;obtain⟨j,e1⟩:=cQ N L;left;refine#[n,e,rfl,e1,U,λr z H2 hr e2 u C=>?_];left;have I:z.length=2 ^ e.length:=by rw[u.1,Wj]
  refine#[_,au.of e2,λG f=>?_];generalize J:upd H2 G (.lst (jU z (some 1) (some (-1))))=H3;obtain⟨B,e3⟩:=cQ f J;refine q G _ H3 ((j.trans C).free f) e3 ?_ (j.trans (C.trans B));rw[qrI,I,<- qrF];refine#[by rw[List.length_drop,qwe,List.length_drop,qwe,u.1],λk v c i y=>?_];rw[List.getElem?_drop] at i y;have O:1+k<2 ^ e.length - 1:=by
   have:=(qvU.mp i).1;rw[qwe] at this;omega
  rw[List.getElem?_take_of_lt O] at i y;obtain⟨t,rfl,Y,M⟩:=u.2 _ v c i y;exact#[t,rfl,j.free Y,B _ _ M]
def wH(c:QAH):QAD->Nat
 |[]=>0
 |e::f=>(if e.1∈c\/e.2∈c then 1 else 0)+wH c f
theorem qg2(c:QAH):∀{ns:qZ}{ps:QAD},ns.length=ps.length->(∀(j:Nat) n e,ns[j]? = some n->ps[j]? = some e->jA n e∈c->fj n e∈c)->wH c ps<=((dJ ns ps).filter λx=>decide (x∈c)).length
 |[],[],_,_=>qvY _
 |[],_::_,h,_=>by simp at h
 |_::_,[],h,_=>by simp at h
 |n::ns,e::ps,h,f=>by
  have ih:=qg2 c (ns:=ns) (ps:=ps) (by simpa using h) λj k d a b=>f (j+1) k d (by simpa using a) (by simpa using b);have i:=f 0 n e rfl rfl;simp only[wH,dJ];unfold jA fj at i;unfold fj
  by_cases l:n=0 <;> by_cases a1:e.1∈c <;> by_cases a2:e.2∈c <;> simp[l,a1,a2] at i⊢ <;> omega
theorem qg3(c:QAH):∀{ns:qZ}{ps:QAD},ns.length=ps.length->(∀(j:Nat) n e,ns[j]? = some n->ps[j]? = some e->fj n e∈c->jA n e∈c)->((dJ ns ps).filter λx=>decide (x∈c)).length<=fC c ps
 |[],[],_,_=>qvY _
 |[],_::_,h,_=>by simp at h
 |_::_,[],h,_=>by simp at h
 |n::ns,e::ps,h,f=>by
  have ih:=qg3 c (ns:=ns) (ps:=ps) (by simpa using h) λj k d a b=>f (j+1) k d (by simpa using a) (by simpa using b);have i:=f 0 n e rfl rfl;simp only[fC,dJ];unfold jA fj at i;unfold fj
  by_cases l:n=0 <;> by_cases a1:e.1∈c <;> by_cases a2:e.2∈c <;> simp[l,a1,a2] at i⊢ <;> omega
def qrJ{xs:QAH}(p:Str->Bool):(xs.filter λy=>decide (y∈xs.filter p))=xs.filter p:=List.filter_congr λy c=>by
 rw[qw3,qwx,qwb];exact#[λh=>h.2,λh=>#[c,h]]
def qg4{xs:QAH}{ns:qZ}{ps:QAD}(f:xs.Nodup)(h:∀e∈ps,e.1∈xs/\e.2∈xs)(p:Str->Bool):((dJ ns ps).filter λx=>decide (x∈xs.filter p)).length=((xs.filter p).map (inN ns ps)).sum:=by
 have c:=Nh f (λx=>decide (x∈xs.filter p)) (L:=dJ ns ps) (Ib h);rw[qrJ] at c;exact c
def qrK{xs:QAH}{ns:qZ}{ps:QAD}{g:Str->Nat}(E:xs.Nodup)(B:∀e∈ps,e.1∈xs/\e.2∈xs)(J:ns.length=ps.length){p:Str->Bool}{L M:QAH}(I:∀y,y∈L↔y∈xs/\inN ns ps y<g y)(H:∀y,y∈M↔y∈xs/\g y<inN ns ps y)(c:∀x,p x=true↔∃s∈L,RT (jk (dB ns ps 0)) s x)(u:∀s∈L,∀e∈M,¬RT (jk (dB ns ps 0)) s e)(h:0<L.length):
  wH (xs.filter p) ps<((xs.filter p).map g).sum/\0<(xs.filter p).length:=by
 obtain⟨y,A⟩:=qx1 h;obtain⟨i,v⟩:=(I y).mp A;have f:y∈xs.filter p:=qwb.mpr #[i,(c y).mpr #[y,A,.refl _]];refine#[?_,qxi f];have a1:=qg2 (xs.filter p) J λj n e b1 b2 C=>by
  have D:=B e (qvX b2);rw[qwb] at C⊢;obtain⟨s,o,r⟩:=(c _).mp C.2;refine#[?_,(c _).mpr #[s,o,.tail r #[j,El.mpr #[j,n,e,b1,b2,rfl]]]];unfold fj;split
  ·exact D.2
  ·exact D.1
 rw[qg4 E B] at a1;refine qxI a1 (Ni (y:=y) (λx G=>?_) f v);obtain⟨m,l⟩:=qwb.mp G;obtain⟨s,o,r⟩:=(c _).mp l;exact Nat.not_lt.mp λz=>u s o x ((H x).mpr #[m,z]) r
def qrL{xs:QAH}{ns:qZ}{ps:QAD}{g:Str->Nat}(v:xs.Nodup)(o:∀e∈ps,e.1∈xs/\e.2∈xs)(E:ns.length=ps.length){p:Str->Bool}{M:QAH}(D:∀y∈xs,¬inN ns ps y<g y)(C:∀y,y∈M↔y∈xs/\g y<inN ns ps y)(c:∀x,p x=true↔∃e∈M,RT (jk (dB ns ps 0)) x e)(h:0<M.length):
  ((xs.filter p).map g).sum<fC (xs.filter p) ps/\0<(xs.filter p).length:=by
 obtain⟨y,m⟩:=qx1 h;obtain⟨i,l⟩:=(C y).mp m;have f:y∈xs.filter p:=qwb.mpr #[i,(c y).mpr #[y,m,.refl _]];refine#[?_,qxi f];have a1:=qg3 (xs.filter p) E λj n e b1 b2 r=>by
  have u:=o e (qvX b2);rw[qwb] at r⊢;obtain⟨s,A,B⟩:=(c _).mp r.2;refine#[?_,(c _).mpr #[s,A,(RT.one #[j,El.mpr #[j,n,e,b1,b2,rfl]]).trans B]];unfold jA;split
  ·exact u.1
  ·exact u.2
 rw[qg4 v o] at a1;refine qv_ (Ni (y:=y) (λx z=>?_) f l) a1;exact Nat.not_lt.mp (D x (qwb.mp z).1)
theorem qg5(q:Str->Bool):∀(xs:QAH)(k:Nat),∃m,m<2 ^ xs.length/\∀b:Nat->Bool,(∀i,i<xs.length->b (k+i)=dh m i)->((xs.zipIdx k).filter λe=>b e.2).map (·.1)=xs.filter q
 |[],k=>#[0,by simp,λb _=>by simp]
 |x::xs,k=>by
  obtain⟨m,o,h⟩:=qg5 q xs (k+1);refine#[2 * m+(if q x=true then 1 else 0),?_,λb f=>?_]
  ·rw[qwj,Nat.pow_succ];split <;> lia
  ·have n:=f 0 (by simp);have c:∀i,i<xs.length->b (k+1+i)=dh m i:=λi r=>by
    have:=f (i+1) (by simp;omega);rw[show k+1+i=k+(i+1) by lia,this];unfold dh;rw[Nat.pow_succ,Nat.mul_comm (2 ^ i) 2,<- Nat.div_div_eq_div_mul];have:(2 * m+(if q x=true then 1 else 0)) / 2=m:=by split <;> lia
    rw[this]
   rw[List.zipIdx_cons,qwX,qwX];have l:b k=q x:=by
    rw[show k=k+0 from rfl,n];unfold dh;rw[Nat.pow_zero,Nat.div_one];cases j:q x with
    |true=>simp
    |false=>simp
   have ih:=h b c;dsimp only;rw[l];cases j:q x with
   |true=>simp only[if_true,qwd];rw[ih]
   |false=>simp only[Bool.false_eq_true,if_false];exact ih
def qg6(q:Str->Bool)(xs:QAH):∃m,m<2 ^ xs.length/\d8 (dh m) xs=xs.filter q:=by
 obtain⟨m,c,h⟩:=qg5 q xs 0;exact#[m,c,h (dh m) λi _=>by rw[qxq]]
def Cw(xs:QAH)(ps:QAD)(g:Str->Nat):Prop:=(xs.map g).sum=ps.length/\∀m,m<2 ^ xs.length->fC (d8 (dh m) xs) ps<=((d8 (dh m) xs).map g).sum
theorem qg7{xs:QAH}(p:Str->Bool):∀{ps:QAD},(∀e∈ps,e.1∈xs/\e.2∈xs)->wH (xs.filter p) ps+fC (xs.filter λx=>!p x) ps=ps.length
 |[],_=>rfl
 |e::ps,h=>by
  have ih:=qg7 p (xs:=xs) (ps:=ps) λd f=>h d (qvZ _ f);have c:=h e qv3;simp only[wH,fC,qwj,qwb,c.1,c.2,true_and];cases p e.1 <;> cases p e.2 <;> simp <;> lia
def qrM{xs:QAH}(p:Str->Bool)(g:Str->Nat):((xs.filter p).map g).sum+((xs.filter λx=>!p x).map g).sum=(xs.map g).sum:=by
 induction xs with
 |nil=>rfl
 |cons x xs ih=>
  rw[qwX,qwX,qwd,qxg];cases p x <;> simp <;> lia
def qrN(f:∀e∈ps,e.1∈xs/\e.2∈xs)(h:wH (xs.filter p) ps<((xs.filter p).map g).sum):¬Cw xs ps g:=λ⟨l,j⟩=>by
 obtain⟨m,i,e⟩:=qg6 (λx=>!p x) xs;have a:=j m i;rw[e] at a;have b:=qg7 p (xs:=xs) f;have c:=qrM (xs:=xs) p g;lia
def qrO(h:((xs.filter p).map g).sum<fC (xs.filter p) ps):¬Cw xs ps g:=λ⟨_,f⟩=>by
 obtain⟨m,c,e⟩:=qg6 p xs;have a:=f m c;rw[e] at a;lia
def qg8(xs:QAH)(ps:QAD)(g:Str->Nat)(w:Str)(c:QAH):Prop:=(∃p:Str->Bool,c=xs.filter p)/\0<c.length/\((w = "touching" /\wH c ps<(c.map g).sum)\/(w = "within" /\(c.map g).sum<fC c ps))
def qrP{xs:QAH}{ps:QAD}{g:Str->Nat}{w:Str}{c:QAH}(f:∀e∈ps,e.1∈xs/\e.2∈xs)(h:qg8 xs ps g w c):¬Cw xs ps g:=by
 obtain⟨⟨p,rfl⟩,_,⟨_,h⟩|⟨_,h⟩⟩:=h
 ·exact qrN f h
 ·exact qrO h
def qrQ{xs:QAH}{ns:qZ}{ps:QAD}{g:Str->Nat}{w:Str}{c:QAH}(j:xs.Nodup)(l:∀e∈ps,e.1∈xs/\e.2∈xs)(n:ns.length=ps.length)(h:qgV (dB ns ps 0) xs (cT xs (λx=>(inN ns ps x:Int)) λx=>(g x:Int)) (cT xs (λx=>(g x:Int)) λx=>(inN ns ps x:Int)) w c)(i:∀s∈cT xs (λx=>(inN ns ps x:Int)) (λx=>(g x:Int)),∀e∈cT xs (λx=>(g x:Int)) (λx=>(inN ns ps x:Int)),¬RT (jk (dB ns ps 0)) s e)(m:0<(cT xs (λx=>(inN ns ps x:Int)) λx=>(g x:Int)).length\/0<(cT xs (λx=>(g x:Int)) λx=>(inN ns ps x:Int)).length):qg8 xs ps g w c:=by
 obtain⟨o,rfl,p,f,rfl⟩|⟨o,rfl,p,f,rfl⟩:=h
 ·obtain⟨a,b⟩:=qrK j l n (λy=>Cr) (λy=>Cr) f i o;exact#[#[p,rfl],b,.inl #[rfl,a]]
 ·obtain⟨a,b⟩:=qrL j l n (λy r z=>absurd (qxi (Cr.mpr #[r,z])) ⋯) (λy=>Cr) f ⋯;exact#[#[p,rfl],b,.inr #[rfl,a]]
inductive qg9  (C:Qv):Sp
 |mk (o i:Qv) (xs:QAH) (ps:QAD) (gs:qZ) (_:vs=[.ref o,.ref i]) (_:bW C H o xs ps) (_:xs.length<=9) (_:gs.length=xs.length) (_:(∀n∈gs,0<=n)) (_:Sq H i (gs.map V.int)) (_:∀H',Same H H'->Q .non H'):qg9 C vs H Q E
def qrR(T:Txt K mg a):aO P w K mg base aW 2 a.vg a.Lh ["web", "thing"] (qg9 a.bx):=by
 exists T.U6.bG,qqq
 ·obtain⟨o,i,r,L,c,rfl,hw,h9,hl,h0,y,q⟩:=h;refine#[_,(aK (bU (PW.pt (je (d9 (fu (aL (Cd T) hr T.vU T.qm T.vR (ak (aj 1) aq)))) (jq (bN jC (bw (cW (K:=K) rfl) rfl T.nm.len qv9 (ak (aj 1) aq)) (bw (cW (K:=K) rfl) rfl T.nm.len qv9 (ak (PE.eqv (gK (aj 0) T.eU T.lZ (nA T) hr.d T.lY .nil fZ) (gV _ _ _ _ _ _)) aq)) (bV _))))) (aF pA) cA)
   (aF (bU (d9 (fu (bw (rF rfl) rfl T.nm.all qX (ak (fJ rfl rfl (show bM (aG J_) _ ["web", "thing"] ["one"] [] ["one"] from by rfl') rfl (PI.eqv (tW (K:=K) rfl (aj 1)) (um _ _)) (λC s H U M=>(bO ["one"] 0)) (λC s H U M=>dZ) (λC s H U M=>(uh (aL (Nb T) hr T.Fv T.Bk T.Ft (ak (aj 0) aq)) (tE (mJ qmJ (aj 0) aH (bV _)))))) aq)))) (aF pA) cA))),?_]
  have oW:60<=sizeLine:=by decide
  left;refine#[i,_,rfl,y,λH1 l=>?_];obtain⟨dx,fs,G,B⟩:=(hw.same l).ins fO.1 fO.2;left;refine#[_,(y.same l).q,_,_,G,B,o,r,L,rfl,hw.same l,λp1 z=>?_];generalize jK:upd H1 p1 (.lst (r.map V.str))=H2;obtain⟨s2,e2⟩:=cQ z jK;have Y:=l.trans s2;left;refine#[_,.inl (au.of e2),false,by simp[hl],aM.neg rfl ?_];obtain⟨b,N⟩:=(y.same Y).b;left;refine#[b,#[_,N K H2 (Same.refl _)],λD O=>uc (c.map V.int) (λi j m=>(∃v,j=[v])/\m D=some (.lst (List.replicate i (.bl true)))/\Same H2 m) #[#[_,rfl],aB,aJ O] (λi j m _ h=>N K m h.2.2) ?_ ?_]
  ·rintro i x j H3 f ⟨⟨v,rfl⟩,J,u⟩;obtain⟨n,e,rfl⟩:∃n,c[i]? = some n/\x = .int n:=by
    rw[qv8] at f;cases e:c[i]? with
    |none=>rw[e] at f;cases f
    |some n=>rw[e] at f;cases f;exact#[n,rfl,rfl]
   have a0:i<c.length:=(qvU.mp e).1;have I:=h0 n (qvX e);left;refine#[.int n,.int n,rfl,by simp[aA],?_];simp only[yQ];left;refine#[_,J,by simp;lia,?_,cN u O];rw[aB,qwv I,qxs]
  ·rintro j H3 ⟨⟨v,rfl⟩,J,u⟩;left;refine#[_,J,_,yJ _,?_];rw[show(List.replicate (c.map V.int).length true).all id=true by simp];refine aM.neg rfl ?_;left;exact q _ (Y.trans u)
def qg_(e:ns.length=ps.length)(c:∀n∈ns,0<=n/\n<=1):((mq ns ps).map λs=>s.2.2)=dJ ns ps:=by
 rw[Gn e c,QD]
def Wo(xs:QAH)(ps:QAD)(g:Str->Nat)(σ:List (Option V))(H:Hp):Nat:=match σ[2]? with
 |some (some (V.ref t))=>(match H t with
  |some (.lst c)=>Nk xs (inN (c.map Nt) ps) g
  |_=>0)
 |_=>0
def qha(h:H t=some (.lst (ns.map V.int))):Wo xs ps g (e::c::some (.ref t)::r) H=Nk xs (inN ns ps) g:=by
 unfold Wo;simp only[qxe,List.getElem?_cons_zero,h,Wf]
def rep0(m:Nat):(List.replicate m [V.int 0]).flatten=(List.replicate m (0:Int)).map V.int:=by
 rw[List.map_replicate]
 induction m with
 |zero=>rfl
 |succ m ih=>rw[qw7,qyj,ih,qw7];rfl
def qrS:∀(σ:St)(H:Hp)(Q o:Bool->Hp->Prop),(∀(b:Bool)(r:Hp),Q b r->o b r)->
  Df (iK (dX (jB g) (nR (rB K) (ju (fVar i) jg)) (tC x))) (iK (dX (jB g) (nR (rB K) (ju (fVar j) jg)) (tC y))) σ H Q->Df (iK (dX (jB g) (nR (rB K) (ju (fVar i) jg)) (tC x))) (iK (dX (jB g) (nR (rB K) (ju (fVar j) jg)) (tC y))) σ H o:=by
 intro σ H Q o f h;refine getSt.imp (λv h=>isRef.imp (λp h=>?_) h) h;obtain⟨c,l,e⟩:=h;refine#[c,l,?_];obtain⟨n,rfl,z⟩:=isInt.out (x:=x) e;refine gD.imp (λb h=>?_) z;cases b with
 |true=>exact f _ _ h
 |false=>
  refine getSt.imp (λv h=>isRef.imp (λp h=>?_) h) h;obtain⟨c,l,e⟩:=h;refine#[c,l,?_];obtain⟨m,rfl,u⟩:=isInt.out (x:=y) e;exact gD.imp (λb h=>f _ _ h) u
def qrT{S:List bL}{a:Str}{w:qw}{vs:QAH}{b:Str}(h:lN S a w vs b){xs:QAH}(e:a∈xs)(f:∀s∈S,s.2.2∈xs):∀v∈vs,v∈xs:=by
 induction h with
 |nil=>intro v c;rw[qv6] at c;subst c;exact e
 |snoc _ q ih=>
  intro v c
  rcases qwc.mp c with c|c
  ·exact ih v c
  ·rw[qv6] at c;subst c;exact f _ q
inductive qhb  (C:Qv):Sp
 |mk (o i:Qv) (xs:QAH) (ps:QAD) (g:Str->Nat) (_:vs=[.ref o,.ref i]) (_:bW C H o xs ps) (_:dU xs) (_:g8 xs ps) (_:Sq H i ((xs.map λx=>(g x:Int)).map V.int)) (_:Cw xs ps g) (_:∀(r:Qv)(H':Hp),Same H H'->Q (.ref r) H'):qhb C vs H Q E
def qhc(R:Str->Prop):∃p:Str->Bool,∀x,p x=true↔R x:=by
 have c:∀x,∃z:Bool,z=true↔R x:=λx=>by
  by_cases h:R x
  ·exact#[true,by simp only[true_iff];exact h]
  ·exact#[false,by simp only[Bool.false_eq_true,false_iff];exact h]
 exact#[λx=>(c x).choose,λx=>(c x).choose_spec]
def qrU(l:xs.Nodup)(j:∀e∈ps,e.1∈xs/\e.2∈xs)(n:ns.length=ps.length)(m:Cw xs ps g)(f:∀s∈cT xs (λx=>(inN ns ps x:Int)) (λx=>(g x:Int)),∀e∈cT xs (λx=>(g x:Int)) (λx=>(inN ns ps x:Int)),¬RT (jk (dB ns ps 0)) s e)(c:0<(cT xs (λx=>(inN ns ps x:Int)) λx=>(g x:Int)).length\/0<(cT xs (λx=>(g x:Int)) λx=>(inN ns ps x:Int)).length):False:=by
 have i:∃w part,qgV (dB ns ps 0) xs (cT xs (λx=>(inN ns ps x:Int)) λx=>(g x:Int)) (cT xs (λx=>(g x:Int)) λx=>(inN ns ps x:Int)) w part:=by
  by_cases o:0<(cT xs (λx=>(inN ns ps x:Int)) λx=>(g x:Int)).length
  ·obtain⟨p,h⟩:=qhc λx=>∃s∈cT xs (λx=>(inN ns ps x:Int)) (λx=>(g x:Int)),RT (jk (dB ns ps 0)) s x;exact#[_,_,.inl #[o,rfl,p,h,rfl]]
  ·obtain⟨p,h⟩:=qhc λx=>∃e∈cT xs (λx=>(g x:Int)) (λx=>(inN ns ps x:Int)),RT (jk (dB ns ps 0)) x e;exact#[_,_,.inr #[⋯,rfl,p,h,rfl]]
 obtain⟨w,part,i⟩:=i;exact qrP j (qrQ l j n i f c) m
def qrV(T:Txt K mg a):aO P w K mg base aW 7 a.vo a.Lk ["web", "ins"] (qhb a.bx):=by
 exists T.U9.bG,rN
 ·obtain⟨o,i,j,c,g,rfl,hw,hX,hT,hi,a0,q⟩:=h;refine#[_,(aK (eE (aL (qrR T) hr T.qeC T.U6 T.qeB (ak (aj 0) (ak (aj 1) aq))))
   (aK (bF (i:=2) rN.nd rfl (Or.inl rfl) (bI qpI (cM (ak aH aq)) (PE.eqv (gK (aj 0) T.eU T.FQ (M_ T) hr.d T.Fx .nil fZ) (gV _ _ _ _ _ _))))
   (aK (Hf (aL (qgR T) hr T.U5 T.Mv T.U4 (ak (aj 0) (ak (aL (qgv T) hr T.UW T.Mu T.UL (ak (aj 0) (ak (aj 2) aq))) (ak (aj 1) aq)))) (PG.eqv (iJ (K:=K) (n:=2) rfl rfl (bB.eqv (cI (eF (i:=3) rN.nd rfl (Or.inl rfl)) (bB.eqv (cI (eF (i:=4) rN.nd rfl (Or.inl rfl)) (bB.mono iH iM)) (cJ _ _))) (cJ _ _))) (iQ _ _ _)))
   (aK (Hg qwI (PW.pt (je (bN xR (bw (cW (K:=K) rfl) rfl T.nm.len qv9 (ak (aj 3) aq)) aH (bV _)) (jq (bN xR (bw (cW (K:=K) rfl) rfl T.nm.len qv9 (ak (aj 4) aq)) aH (bV _)))))
   (aK (bF (i:=5) rN.nd rfl (Or.inl rfl) (aL (Ci T) hr T.vX T.qp T.vW (ak (aj 0) (ak (aj 2) aq))))
   (aK (bF (i:=6) rN.nd rfl (Or.inl rfl) (aL (qrr T) hr T.qeE T.U7 T.qeD (ak (aj 5) (ak (aj 3) (ak (aj 4) aq)))))
   (aK (bU (bN qjS (aj 6) tD (bV _)) (aF (eE (aL (qrv T) hr T.qeG T.U8 T.qeF (ak (aj 0) (ak (aj 5) (ak (aj 3) (ak (aj 4) aq))))))) cA)
   (aK (bF (i:=2) rN.nd rfl (Or.inl rfl) (aL (qgf T) hr T.Um T.Mp T.Ul (ak (aj 0) (ak (aj 2) (ak (aj 6) aq)))))
   (aF (Hf (aL (qgR T) hr T.U5 T.Mv T.U4 (ak (aj 0) (ak (aL (qgv T) hr T.UW T.Mu T.UL (ak (aj 0) (ak (aj 2) aq))) (ak (aj 1) aq)))) (PG.eqv (iJ (K:=K) (n:=2) rfl rfl (bB.eqv (cI (eF (i:=3) rN.nd rfl (Or.inl rfl)) (bB.eqv (cI (eF (i:=4) rN.nd rfl (Or.inl rfl)) (bB.mono iH iM)) (cJ _ _))) (cJ _ _))) (iQ _ _ _)))))))))
   (aF (aX (aj 2))))))),?_]
  have oW:60<=sizeLine:=by decide
  have m:=hX.len;have yR:=hT.len;left;refine#[o,i,j,c,_,rfl,hw,m.2,by simp,λn O=>?_,hi,λH1 s1=>?_]
  ·obtain⟨x,_,rfl⟩:=qwr.mp O;exact Int.natCast_nonneg _
  left;intro p2 am;generalize jK:upd H1 p2 (.lst [V.int 0])=H2;obtain⟨s2,e2⟩:=cQ am jK;have S2:=s1.trans s2;obtain⟨dx,fs,ap,u⟩:=(hw.same S2).ins wG.1 wG.2;refine#[_,_,ap,u,o,j,c,rfl,hw.same S2,?_];left;refine#[_,e2,⋯,by simp;lia,λt ht=>?_];rw[rep0];generalize sV:upd H2 t (.lst ((List.replicate c.length (0:Int)).map V.int))=H3;obtain⟨s3,e3⟩:=cQ ht sV;have S3:=S2.trans s3;have l0:(List.replicate c.length (0:Int)).length=c.length:=List.length_replicate;have z0:∀n∈List.replicate c.length (0:Int),0<=n/\n<=1:=λn O=>by rw[List.eq_of_mem_replicate O];decide
  generalize List.replicate c.length (0:Int)=J at e3 l0 z0;have g2:∀e∈c,e.1∈j/\e.2∈j:=λe he=>#[(hT.ok e he).1,(hT.ok e he).2.1];have an:∀e∈c,e.1≠e.2:=λe he=>(hT.ok e he).2.2;refine#[o,t,j,c,J,rfl,#[hw.same S3,.inl e3,z0,l0,yR],m.2,λr4 H4 jF e4 s4=>?_];rw[qg_ l0 z0] at e4;have S4:=S3.trans s4;left;refine#[o,r4,i,j,c,_,_,rfl,hw.same S4,m.1,m.2,e4,hi.same S4,λt5 z y H5 b8 bb b9 e5 av as s5=>?_];have S5:=S4.trans s5;left;refine#[_,aQ.of e5,rfl,?_];left;refine HW (λσ H'=>∃(t z y:Qv)(ns:qZ)(o5 o6:Option V),σ=[some (.ref o),some (.ref i),some (.ref t),some (.ref z),some (.ref y),o5,o6]/\H' t=some (.lst (ns.map V.int))/\ns.length=c.length/\(∀n∈ns,0<=n/\n<=1)/\
    H' z=some (.lst ((cT j (λx=>(inN ns c x:Int)) λx=>(g x:Int)).map V.str))/\H' y=some (.lst ((cT j (λx=>(g x:Int)) λx=>(inN ns c x:Int)).map V.str))/\Same H H') (Wo j c g)
   #[t,z,y,J,none,none,rfl,s5 _ _ (s4 _ _ e3),l0,z0,av,as,S5] ?_ qrS
  rintro σ H6 ⟨t,z,y,ns,o5,o6,rfl,e6,Gw,l,G,D,S6⟩;rw[qha e6];left;generalize aa:tH (wQ (QV (V6 a.bx) E0 _) _) _ _ _ _=Bd;have r:(0<(cT j (λx=>(inN ns c x:Int)) λx=>(g x:Int)).length\/0<(cT j (λx=>(g x:Int)) λx=>(inN ns c x:Int)).length)->Bd:=by
   intro Y;rw[<- aa];left;refine#[o,t,j,c,ns,rfl,#[hw.same S6,.inl e6,l,Gw,yR],λl7 tv H7 Ge e7 M jE s7=>?_];rw[Gn Gw l] at M;have U:=Nv (ns:=ns) g2;left;refine#[l7,z,y,tv,_,_,_,j,rfl,e7,M,s7 _ _ G,s7 _ _ D,λx hx=>(qwb.mp hx).1,U,m.2,λH8 u s8=>?_,λsx ex w ws r8 H8 ai ar mz N Wq e8 s8=>?_]
   ·exact(qrU hX.nd g2 Gw a0 u Y).elim
   ·have S8:=S6.trans (s7.trans s8);obtain⟨i1,i2,i3⟩:=qgB l an mz N;obtain⟨C,al⟩:=Cr.mp ai;have fL:=(Cr.mp ar).2;have wl:w.length<j.length:=by
     have ax:=mz.len;have:=rm N λv hv=>qrT mz C U v hv;lia
    have L:=qrd (f:=inN ns c) (f':=inN (iy (fP w) ns) c) (g:=g) C al fL i3;have aw:=(s7.trans s8) _ _ e6;have Wh:H8 r8=some (.lst ((fP w).map V.int)):=by rw[e8];simp[fP]
    left;refine#[o,t,r8,j,c,ns,fP w,rfl,#[hw.same S8,.inl aw,l,Gw,yR],.inl Wh,#[λk hk=>?_,?_,?_],λr9 H9 ba e9 s9=>?_]
    ·obtain⟨n,O,rfl⟩:=qwr.mp hk;have:=i1 n O;lia
    ·exact qgJ i2
    ·unfold fP;rw[qv1];lia
    ·have S9:=S8.trans s9;have B:=yS (fP w) ns;have z9:=qgc (ks:=fP w) l;generalize iy (fP w) ns=I at e9 B z9 L i3;rw[Gw] at B;left;refine#[o,r9,j,c,I,rfl,#[hw.same S9,.inl e9,z9,B,yR],m.2,λac uo b7 ab fB=>?_];rw[qg_ B z9] at ab;have Gs:=S9.trans fB;left;refine#[o,ac,i,j,c,_,_,rfl,hw.same Gs,m.1,m.2,ab,hi.same Gs,λay ah ag Nr b6 b0 az Wr af ae jl=>?_];left;refine#[_,aQ.of Wr,rfl,?_];left;refine#[#[r9,ah,ag,#[rfl,rfl,rfl],I,(fB.trans jl) _ _ e9,B,z9,af,ae,Gs.trans jl],?_];rw[qha ((fB.trans jl) _ _ e9)];exact L
  refine#[_,.inl (au.of G),aM.of (λh=>?_) (λh=>?_)]
  ·refine aM.pos rfl (r (.inl ?_));have h':=qwp h;rw[qv1] at h';omega
  ·left;refine#[_,.inl (au.of D),aM.of (λh2=>?_) (λh2=>?_)]
   ·rw[aa];refine r (.inr ?_);have h':=qwp h2;rw[qv1] at h';omega
   ·left;exact q t H6 S6
def qr0(h:dw H vs S)(k:Same H c):dw c vs S:=bH.keep h λv s ⟨t,e,z⟩=>#[t,e,k _ _ z]
abbrev lamP:Pos:=#[282,28,282,46]
abbrev mC:Str:= "times_over" ++ ".<locals>." ++ "<lambda>"
def qr1(H:Hp)(v:V)(n:Int):Prop:=∃u l:Addr,v = .ref u/\H u=some (.tup [.int n,.ref l])
theorem qhg:∀{uv:kE},(∀v∈uv,∃t,v = .ref t)->∃as:List Addr,uv=as.map V.ref
 |[],_=>#[[],rfl]
 |v::uv,h=>by
  obtain⟨t,rfl⟩:=h v qv3;obtain⟨as,rfl⟩:=qhg (uv:=uv) λu c=>h u (qvZ _ c);exact#[t::as,rfl]
inductive qhh  (C Pt:Qv):Sp
 |mk (o t:Qv) (xs:QAH) (ps:QAD) (ns:qZ) (_:vs=[.ref o,.ref t]) (_:oY C H o t xs ps ns) (_:xs.length<=9) (_:TabOk lamP mC Pt H) (_:∀(v:V)(H':Hp),But Pt H H'->TabOk lamP mC Pt H'->Q v H'):qhh C Pt vs H Q E
def qr2(T:Txt K mg a)(L:Jy a.ql base mg c Pt):aO P w K mg base aW 7 a.oM a.ql ["web", "pointing"] (qhh a.bx Pt):=by
 refine T.Mw.okC L.cd Fb (λvs H Q E h=>?_) (λA a0 s H vs Q E U h=>?_)
 ·obtain⟨o,t,m,ps,ns,rfl,_⟩:=h;rfl
 ·obtain⟨o,t,m,ps,ns,rfl,hp,h9,hT,q⟩:=h;refine#[_,(aK (bF (i:=2) Fb.nd rfl (Or.inr rfl) (aL (Ci T) U T.vX T.qp T.vW (ak (aj 0) (ak (aj 1) aq))))
   (aK (nY (i:=3) Fb.nd rfl rfl rfl rfl (show bM (aG qd) _ ["web", "pointing", "steps", "counted"] ["lot"] [2] ["lot", "steps"] from by rfl') rfl (dD (K:=K) (aL (Wn T) U T.Mt T.FN T.Ms (ak (aj 0) aq))) (λC s H fp pn=>(bO ["lot", "steps"] 0)) (λC s H fp pn=>dZ) (λC s H fp pn=>(dY (ak (bw (cW (K:=K) rfl) rfl T.nm.len qv9 (ak (aL (qrw T) U T.qee T.Uk T.qec (ak (aj 1) (ak (aj 0) aq))) aq)) (ak (aj 0) aq)))))
   (aF (aX (qpl (K:=K) (k:=0) rfl U.d rfl L.hd L.bt rfl T.nm.min (ak (aj 3) aq) rfl))))),?_]
  have Gp:600<sizeLine:=by decide
  have hw:=hp.1;left;refine#[o,t,m,ps,ns,rfl,hp,λl sv H1 al ab hS jE s1=>?_];left;refine#[o,m,ps,rfl,hw.same s1,h9,λr2 tv H2 ah e2 hN O=>?_];have aa:=O _ _ ab;have tl:tv.length=2 ^ m.length - 2:=by rw[hN.1,Nz]
  have p9:2 ^ m.length<=2 ^ 9:=qxf (by decide) h9;left;refine#[#[_,au.of e2],λD hD=>h_ tv (λj N Y=>(∃o1,N=[o1,some (.ref l)])/\(∃uv fs,Y D=some (.lst uv)/\uv.length=j/\bH qr1 Y uv fs)/\Same H2 Y) #[#[_,rfl],#[[],[],aB,rfl,bH.nil],aJ hD] (λi N Y _ h=>au.of (h.2.2 _ _ e2)) ?_ ?_]
  ·rintro j v N H3 hj ⟨⟨o1,rfl⟩,⟨uv,fs,I,lq,f⟩,r⟩;have am:j<tv.length:=(qvU.mp hj).1;obtain⟨c,hc,t4,rfl,ag,xO⟩:=bH.at hN hj;left;refine#[l,t4,sv,_,_,rfl,r _ _ aa,qr0 hS (O.trans r),r _ _ xO,jE,λl5 lv H5 ai e5 af s5=>?_];left;refine#[_,.inl (au.of e5),λp6 qC=>?_];have y:=s5.trans (aJ (o:=.tup [.int lv.length,.ref t4]) qC);refine#[uv,y _ _ I,∅,#[_,aB,by simp[lq],_,bH.snoc (bH.keep f λv n ⟨u,l,e,z⟩=>#[u,l,e,d7.set (y _ _ I) (by intro m z;cases z) _ _ (y _ _ z)]) #[p6,t4,rfl,d7.set (y _ _ I) (by intro m z;cases z) _ _ aB]],cN (r.trans y) hD]
  ·rintro N H3 ⟨⟨o1,rfl⟩,⟨uv,fs,I,lq,f⟩,r⟩;obtain⟨as,rfl⟩:=qhg (uv:=uv) λv hv=>by
    obtain⟨k,hk⟩:=List.getElem?_of_mem hv;obtain⟨_,_,u,_,e,_⟩:=bH.at f hk;exact#[u,e]
   have ae:=hT.same (s1.trans (O.trans r));have G:∀{v:V}{J:Hp},But Pt H3 J->TabOk lamP mC Pt J->Q v J:=λB M=>q _ _ (λb o n e=>B b o n ((s1.trans (O.trans r)) b o e)) M;left;refine#[ae,as,au.of I,λi=>fs.getD i 0,λi u hu=>?_,λh0 J B M=>G B M,λi u hu ac J B M=>G B M];obtain⟨n,hn,u',lt,e,h4⟩:=bH.at f (show(as.map V.ref)[i]? = some (.ref u) by rw[qv8,hu];rfl);cases e;exact#[_,aQ.of (by simpa [List.getD,hn] using h4)]
inductive qhi  (C:Qv):Sp
 |mk (o p:Qv) (xs c:QAH) (ps:QAD) (_:vs=[.ref o,.ref p]) (_:bW C H o xs ps) (_:dU xs) (_:Sq H p (c.map V.str)) (_:c.Nodup) (_:(∀x∈c,x∈xs)) (_:0<c.length) (_:c.length<xs.length) (_:∀(r:Qv)(H':Hp),H r=none->H' r=some (.lst ((xs.filter λy=>decide (y∈c)).map V.str))->Same H H'->Q (.ref r) H'):qhi C vs H Q E
def qhj(T:Txt K mg a):aO P w K mg base aW 2 a.uU a.K6 ["web", "points"] (qhi a.bx):=by
 exists T.Mr.bG,qdJ
 ·obtain⟨o,p,f,c,ps,rfl,hw,hX,N,ae,J,ag,af,q⟩:=h;refine#[_,(aK (bU (PW.pt (je (d9 (fu (aL (Cd T) hr T.vU T.qm T.vR (ak (aj 1) aq)))) (jq (d9 (fu (bw (rF rfl) rfl T.nm.all qX (ak (fJ rfl rfl (show bM (aG Ew) _ ["web", "points", "lot"] ["point"] [] ["point"] from by rfl') rfl (PI.eqv (tW (K:=K) rfl (aj 1)) (um _ _)) (λC s H L G=>(bO ["point"] 0)) (λC s H L G=>dZ) (λC s H L G=>(aL (FT T) hr T.Bm T.vV T.Bl (ak (aj 0) aq)))) aq))))))) (aF pA) cA)
   (aK (nY (i:=2) qdJ.nd rfl rfl rfl rfl (show bM (aG Ew) _ ["web", "points", "lot"] ["point"] [1] ["point", "points"] from by rfl') rfl (dD (K:=K) (PE.eqv (gK (aj 0) T.eU T.lZ (nA T) hr.d T.lY .nil fZ) (gV _ _ _ _ _ _))) (λC s H L G=>(bO ["point", "points"] 0)) (λC s H L G=>(mQ (bN (pK (K:=K) rfl) (aj 0) (aj 1) rfl))) (λC s H L G=>(aj 0)))
   (aK (bU (bN jC (bw (cW (K:=K) rfl) rfl T.nm.len qv9 (ak (aj 2) aq)) (bw (cW (K:=K) rfl) rfl T.nm.len qv9 (ak (aj 1) aq)) (bV _)) (aF pA) cA)
   (aK (bU (PW.pt (je (bN lO (bw (cW (K:=K) rfl) rfl T.nm.len qv9 (ak (aj 2) aq)) aH (bV _)) (jq (bN lO (bw (cW (K:=K) rfl) rfl T.nm.len qv9 (ak (aj 2) aq)) (bw (cW (K:=K) rfl) rfl T.nm.len qv9 (ak (PE.eqv (gK (aj 0) T.eU T.lZ (nA T) hr.d T.lY .nil fZ) (gV _ _ _ _ _ _)) aq)) (bV _))))) (aF pA) cA)
   (aF (aX (aj 2))))))),?_]
  have mj:=qxz lK;have l9:=hX.len;have v:=qmh hX.nd ae J;left;refine#[p,_,rfl,N,λH1 s1=>?_];left;obtain⟨b,hb⟩:=(N.same s1).b;refine#[b,#[_,hb K H1 (Same.refl _)],λD hD=>uc (c.map V.str) (λi j m=>(∃n,j=[n])/\m D=some (.lst (List.replicate i (.bl true)))/\Same H1 m) #[#[_,rfl],aB,aJ hD] (λi j m _ h=>hb K m h.2.2) ?_ ?_]
  ·rintro i x j H2 u ⟨⟨n,rfl⟩,e,Y⟩;obtain⟨y,I,rfl⟩:=jy u;have ac:i<c.length:=(qvU.mp I).1;have hn:=hX.nm y (J y (qvX I));left;refine#[y,rfl,FW hn,λH3 M=>?_];rw[hn];left;refine#[_,M _ _ e,by simp;lia,?_,cN (Y.trans M) hD];rw[aB,qxs]
  ·rintro j H2 ⟨⟨n,rfl⟩,e,Y⟩;have U:=s1.trans Y;left;refine#[_,e,_,yJ _,?_];rw[show(List.replicate (c.map V.str).length true).all id=true by simp];obtain⟨dx,fs,u,r⟩:=(hw.same U).ins fO.1 fO.2;left;refine#[_,_,u,r,o,f,ps,rfl,hw.same U,λl2 ab=>?_];generalize sV:upd H2 l2 (.lst (f.map V.str))=H3;obtain⟨M,e2⟩:=cQ ab sV;have Cj:=U.trans M;left;refine#[#[_,au.of e2],λD2 e=>h_ (f.map V.str) (λi j m=>(∃n,j=[n,some (.ref p)])/\m D2=some (.lst (((f.take i).filter λy=>decide (y∈c)).map V.str))/\Same H3 m) #[#[_,rfl],aB,aJ e] (λi j m _ h=>au.of (h.2.2 _ _ e2)) ?_ ?_]
   ·rintro i x j H4 u ⟨⟨n,rfl⟩,l,B⟩;obtain⟨y,I,rfl⟩:=jy u;have ac:i<f.length:=(qvU.mp I).1;left;refine#[_,(N.same (Cj.trans B)).q,rfl,qwa.mp (mW _),?_];rw[ou,take_one I,qwU];have a0:((f.take i).filter λy=>decide (y∈c)).length<=(f.take i).length:=qw1 _ _;rw[qwe] at a0;refine aM.of (λh=>?_) (λh=>?_)
    ·have h':y∈c:=qwp h;left;refine#[_,l,by simp;lia,?_,cN B e];rw[aB];simp[h']
    ·have h':¬y∈c:=qwP h;left;refine#[?_,B];rw[l];simp[h']
   ·rintro j H4 ⟨⟨n,rfl⟩,l,B⟩;rw[qv1,qv5] at l;have O:=Cj.trans B;left;refine#[_,.inl (au.of l),_,(N.same O).q,false,by simp[v],aM.neg rfl ?_];left;refine#[_,.inl (au.of l),aM.neg (qwh λz=>?_) ?_]
    ·have z2:=qws List.length z;rw[qv1,v,List.length_nil] at z2;lia
    obtain⟨dx,fs,u,r⟩:=(hw.same O).ins fO.1 fO.2;left;refine#[_,.inl (au.of l),_,_,u,r,o,f,ps,rfl,hw.same O,λl5 aa=>?_];have s5:Same H4 (upd H4 l5 (.lst (f.map V.str))):=aJ aa;left;refine#[_,.inl (au.of aB),aM.neg (by simp only[qv1,v];exact qwh ⋯) ?_];left;exact q D2 _ (gU Cj e) (s5 _ _ l) (O.trans s5)
inductive qhk  (C:Qv):Sp
 |mk (o p:Qv) (xs c:QAH) (ps:QAD) (_:vs=[.ref o,.ref p]) (_:bW C H o xs ps) (_:dU xs) (_:g8 xs ps) (_:Sq H p (c.map V.str)) (_:c.Nodup) (_:(∀x∈c,x∈xs)) (_:0<c.length) (_:c.length<xs.length) (_:∀(r:Qv)(H':Hp),H r=none->H' r=some (.lst ((Ad c ps).map λn:Nat=>V.int n))->Same H H'->Q (.ref r) H'):qhk C vs H Q E
def qr4(T:Txt K mg a):aO P w K mg base aW 3 a.u5 a.K_ ["web", "lot"] (qhk a.bx):=by
 exists T.UG.bG,Tz
 ·obtain⟨o,p,l,c,j,rfl,hw,hX,B,hp,af,ae,ah,ag,q⟩:=h;refine#[_,(aK (bF (i:=2) Tz.nd rfl (Or.inr rfl) (aL (qhj T) hr T.Ux T.Mr T.Uw (ak (aj 0) (ak (aj 1) aq))))
   (aK (bF (i:=3) Tz.nd rfl (Or.inl rfl) (PE.eqv (gK (aj 0) T.eU T.FP (MK T) hr.d T.Fw .nil fZ) (gV _ _ _ _ _ _)))
   (aF (aX (fJ rfl rfl (show bM (aG JX) _ ["web", "lot", "inside", "ties"] ["number", "first", "second"] [2] ["number", "first", "second", "inside"] from by rfl') rfl (PI.eqv (Qo (K:=K) rfl rfl T.nu.enumerate (ak (aj 3) aq)) (QT _ _)) (λC s H fp pn=>(PG.eqv (iJ (K:=K) (n:=2) rfl rfl (bB.eqv (cI (bO ["number", "first", "second", "inside"] 0) (bB.eqv (cI (PG.eqv (iJ (K:=K) (n:=2) rfl rfl (bB.eqv (cI (bO ["number", "first", "second", "inside"] 1) (bB.eqv (cI (bO ["number", "first", "second", "inside"] 2) (bB.mono iH iM)) (cJ _ _))) (cJ _ _))) (iQ _ _ _)) (bB.mono iH iM)) (cJ _ _))) (cJ _ _))) (iQ _ _ _))) (λC s H fp pn=>(mQ (bN jC (mJ (pK (K:=K) rfl) (aj 1) (aj 3) rfl) (mJ (pK (K:=K) rfl) (aj 2) (aj 3) rfl) (bV _)))) (λC s H fp pn=>(aj 0))))))),?_]
  have ai:50<=sizeLine:=by decide
  have cO:=B.len;left;refine#[o,p,l,c,j,rfl,hw,hX,hp,af,ae,ah,ag,λr O al aa L=>?_];obtain⟨dx,fs,hi,ab⟩:=(hw.same L).ins wF.1 wF.2;left;refine#[_,_,hi,ab,o,l,j,rfl,hw.same L,λM G ac yN=>?_];have u:Same O (upd O M (.lst G)):=aJ ac;have e2:upd O M (.lst G) M=some (.lst G):=aB;have k_:=cC.same yN u;have v:=u _ _ aa;generalize upd O M (.lst G)=H2 at u e2 k_ v⊢;left;refine#[#[_,au.of e2],λD hD=>cmE G (λi J H'=>(∃o1 o2 Y,J=[o1,o2,Y,some (.ref r)])/\H' D=some (.lst ((fV (jX c) (j.take i) 0).map λn:Nat=>V.int n))/\Same H2 H') #[#[_,_,_,rfl],aB,aJ hD] (λi J H' _ h=>au.of (h.2.2 _ _ e2)) ?_ ?_]
  ·rintro i x t J I hi ht ⟨⟨o1,o2,Y,rfl⟩,N,m⟩;obtain⟨e,he,tt,rfl,a0⟩:=k_.at hi;obtain⟨q1,q2,_⟩:=B.ok e (qvX he);have am:i<j.length:=(qvU.mp he).1;have an:(fV (jX c) (j.take i) 0).length<=20:=by
    have h1:=Qw (qmg c) (j.take i) 0;rw[qwe] at h1;lia
   have st:Same I (upd I t (.tup [.int i,.ref tt])):=aJ ht;rw[qbB _ he];left;refine#[_,aQ.of aB,rfl,_,aQ.of (st _ _ (m _ _ a0)),rfl,?_];have jF:=st _ _ (m _ _ v);have cH:=st _ _ N;have U:=m.trans st;generalize upd I t (.tup [.int i,.ref tt])=H4 at jF cH U⊢;refine#[_,.inl (au.of jF),rfl,qwa.mp (mW _),_,.inl (au.of jF),rfl,qwa.mp (mW _),?_];rw[ou,ou];have m1:(e.1∈l.filter λy=>decide (y∈c))↔e.1∈c:=by simp[q1]
   have m2:(e.2∈l.filter λy=>decide (y∈c))↔e.2∈c:=by simp[q2]
   by_cases f:e.1∈c↔e.2∈c
   ·have ef:jX c e i=[]:=by unfold jX;rw[if_pos f]
    refine#[false,by simp only[m1,m2,f];simp,aM.neg rfl ?_];rw[ef,qwy];left;exact#[cH,U]
   ·have ef:jX c e i=[i]:=by unfold jX;rw[if_neg f]
    refine#[true,?_,aM.pos rfl ?_]
    ·simp only[m1,m2];simp;exact λz=>f z
    rw[ef];left;refine#[_,cH,by simp;lia,?_,cN U hD];rw[aB]
  ·rintro J I ⟨⟨o1,o2,Y,rfl⟩,N,m⟩;rw[k_.1,qv5] at N;left;exact q D I (gU (L.trans u) hD) N ((L.trans u).trans m)
def jN(c:QAH)(e:Str×Str)(i:Nat):List Nat:=if e.1∈c/\e.2∈c then [i] else []
def qr5(c:QAH)(e:Str×Str)(i:Nat):(jN c e i).length<=1:=by
 unfold jN;split <;> simp
def Ws(c:QAH)(ps:QAD):List Nat:=fV (jN c) ps 0
inductive qhl  (C:Qv):Sp
 |mk (o p:Qv) (xs c:QAH) (ps:QAD) (_:vs=[.ref o,.ref p]) (_:bW C H o xs ps) (_:Sq H p (c.map V.str)) (_:∀(r:Qv)(H':Hp),H r=none->H' r=some (.lst ((Ws c ps).map λn:Nat=>V.int n))->Same H H'->Q (.ref r) H'):qhl C vs H Q E
def qr6(T:Txt K mg a):aO P w K mg base aW 2 a.uZ a.K9 ["web", "part"] (qhl a.bx):=by
 exists T.Uz.bG,qqo
 ·obtain⟨o,p,xs,c,f,rfl,hw,hp,q⟩:=h;refine#[_,(aF (aX (fJ rfl rfl (show bM (aG JW) _ ["web", "part"] ["number", "first", "second"] [1] ["number", "first", "second", "part"] from by rfl') rfl (PI.eqv (Qo (K:=K) rfl rfl T.nu.enumerate (ak (PE.eqv (gK (aj 0) T.eU T.FP (MK T) hr.d T.Fw .nil fZ) (gV _ _ _ _ _ _)) aq)) (QT _ _)) (λC s H fp pn=>(PG.eqv (iJ (K:=K) (n:=2) rfl rfl (bB.eqv (cI (bO ["number", "first", "second", "part"] 0) (bB.eqv (cI (PG.eqv (iJ (K:=K) (n:=2) rfl rfl (bB.eqv (cI (bO ["number", "first", "second", "part"] 1) (bB.eqv (cI (bO ["number", "first", "second", "part"] 2) (bB.mono iH iM)) (cJ _ _))) (cJ _ _))) (iQ _ _ _)) (bB.mono iH iM)) (cJ _ _))) (cJ _ _))) (iQ _ _ _))) (λC s H fp pn=>(mQ (PW.pt (Ow (bN (pK (K:=K) rfl) (aj 1) (aj 3) rfl) (Ov (bN (pK (K:=K) rfl) (aj 2) (aj 3) rfl)))))) (λC s H fp pn=>(aj 0))))),?_];have ac:50<=sizeLine:=by decide
  have cO:f.length<=20:=by
   obtain⟨_,_,_,_,_,_,_,_,z⟩:=hw.ex;exact z
  obtain⟨dx,fs,hi,aa⟩:=hw.ins wF.1 wF.2;left;refine#[_,_,hi,aa,o,xs,f,rfl,hw,λI v ab yN=>?_];have m:Same H (upd H I (.lst v)):=aJ ab;have e2:upd H I (.lst v) I=some (.lst v):=aB;have Y:=cC.same yN m;have r:=hp.same m;generalize upd H I (.lst v)=H2 at m e2 Y r⊢;left;refine#[#[_,au.of e2],λD hD=>cmE v (λi B H'=>(∃U O N,B=[U,O,N,some (.ref p)])/\H' D=some (.lst ((fV (jN c) (f.take i) 0).map λn:Nat=>V.int n))/\Same H2 H') #[#[_,_,_,rfl],aB,aJ hD] (λi B H' _ h=>au.of (h.2.2 _ _ e2)) ?_ ?_]
  ·rintro i x t B y hi ht ⟨⟨U,O,N,rfl⟩,M,G⟩;obtain⟨e,he,tt,rfl,a0⟩:=Y.at hi;have ae:i<f.length:=(qvU.mp he).1;have af:(fV (jN c) (f.take i) 0).length<=20:=by
    have j:=Qw (qr5 c) (f.take i) 0;rw[qwe] at j;lia
   have st:Same y (upd y t (.tup [.int i,.ref tt])):=aJ ht;rw[qbB _ he];left;refine#[_,aQ.of aB,rfl,_,aQ.of (st _ _ (G _ _ a0)),rfl,?_];have L:=st _ _ M;have l:=G.trans st;have Wt:=r.same l;generalize upd y t (.tup [.int i,.ref tt])=H4 at L l Wt⊢;left;refine#[_,Wt.q,rfl,qwa.mp (mW _),?_];rw[ou]
   by_cases j:e.1∈c
   ·rw[qwv j];left;refine#[_,Wt.q,rfl,qwa.mp (mW _),?_];rw[ou]
    by_cases J:e.2∈c
    ·have u:jN c e i=[i]:=by unfold jN;rw[if_pos #[j,J]]
     rw[qwv J,u];refine aM.pos rfl ?_;left;refine#[_,L,by simp;lia,?_,cN l hD];rw[aB]
    ·have u:jN c e i=[]:=by unfold jN;rw[if_neg λz=>J z.2]
     rw[qwh J,u,qwy];refine aM.neg rfl ?_;left;exact#[L,l]
   ·have u:jN c e i=[]:=by unfold jN;rw[if_neg λz=>j z.1]
    rw[qwh j,u,qwy];left;exact#[L,l]
  ·rintro B y ⟨⟨U,O,N,rfl⟩,M,G⟩;rw[Y.1,qv5] at M;left;exact q D y (gU m hD) M (m.trans G)
inductive qhm  (C:Qv):Sp
 |mk (o p:Qv) (xs c:QAH) (ps:QAD) (_:vs=[.ref o,.ref p]) (_:bW C H o xs ps) (_:dU xs) (_:g8 xs ps) (_:Sq H p (c.map V.str)) (_:c.Nodup) (_:(∀x∈c,x∈xs)) (_:0<c.length) (_:c.length<xs.length) (_:∀(r:Qv)(H':Hp),H r=none->H' r=some (.lst ((Ws (xs.filter λy=>decide (y∈c)) ps).map λn:Nat=>V.int n))->Same H H'->Q (.ref r) H'):qhm C vs H Q E
def qr7(T:Txt K mg a):aO P w K mg base aW 3 a.u6 a.La ["web", "lot"] (qhm a.bx):=by
 exists T.UJ.bG,qqp
 ·obtain⟨o,p,e,c,i,rfl,hw,C,D,B,m,l,u,n,q⟩:=h;refine#[_,(aF (aX (aL (qr6 T) hr T.qes T.Uz T.qer (ak (aj 0) (ak (aL (qhj T) hr T.Ux T.Mr T.Uw (ak (aj 0) (ak (aj 1) aq))) aq))))),?_];left;refine#[o,p,e,c,i,rfl,hw,C,B,m,l,u,n,λr L z j f=>?_];left;refine#[o,r,e,_,i,rfl,hw.same f,.inl j,λy J I G v=>?_];left;exact q y J (gU f I) G (f.trans v)
theorem qhn(c:QAH):∀(ps:QAD)(i:Nat),(fV (jN c) ps i).length=fC c ps
 |[],_=>rfl
 |e::ps,i=>by
  have ih:=qhn c ps (i+1);show(jN c e i++fV (jN c) ps (i+1)).length=_;rw[qwm,ih];simp only[jN,fC];split <;> simp
def qho{xs c:QAH}(f:xs.Nodup)(h:c.Sublist xs):(xs.filter λy=>decide (y∈c))=c:=by
 induction h with
 |slnil=>rfl
 |cons a h ih=>
  rename_i i j;have l:a∉i:=λz=>(qwC.mp f).1 (h.subset z);rw[List.filter_cons_of_neg (by simpa using l)];exact ih (qwC.mp f).2
 |cons_cons a h ih=>
  rename_i i j;have l:=(qwC.mp f).1;rw[List.filter_cons_of_pos (by simp)];congr 1;have e:(j.filter λy=>decide (y∈a::i))=j.filter λy=>decide (y∈i):=List.filter_congr λy m=>by
   have:y≠a:=λz=>l (z▸m);simp[this]
  rw[e];exact ih (qwC.mp f).2
def WgS(xs:QAH)(ps:QAD)(H:Hp)(v:V)(c:QAH):Prop:=∃t e,v = .ref t/\H t=some (.tup [.ref e,.int ((fC c ps:Nat):Int)])/\H e=some (.lst (c.map λy=>V.int ((xs.idxOf y:Nat):Int)))
def Gy(xs:QAH)(ps:QAD)(H:Hp)(c:kE):Prop:=bH (WgS xs ps) H c (iU xs)
def Gy.same(h:Gy xs ps H f)(s:Same H m):Gy xs ps m f:=bH.keep h λv c ⟨t,i,e,l,j⟩=>#[t,i,e,s _ _ l,s _ _ j]
inductive qhp  (C:Qv):Sp
 |mk (o:Qv) (xs:QAH) (ps:QAD) (_:vs=[.ref o]) (_:bW C H o xs ps) (_:dU xs) (_:g8 xs ps) (_:∀(r:Qv)(tv:kE)(H':Hp),H r=none->H' r=some (.lst tv)->Gy xs ps H' tv->Same H H'->Q (.ref r) H'):qhp C vs H Q E
def qr8(T:Txt K mg a):aO P w K mg base aW 4 a.u_ a.Ld ["web"] (qhp a.bx):=by
 exists T.U0.bG,qdL
 ·obtain⟨o,f,r,rfl,hw,hX,N,q⟩:=h;refine#[_,(aK (bF (i:=1) qdL.nd rfl (Or.inr rfl) (PE.eqv (gK (aj 0) T.eU T.lZ (nA T) hr.d T.lY .nil fZ) (gV _ _ _ _ _ _)))
   (aF (aX (fJ rfl rfl (show bM (aG JZ) _ ["web", "points"] ["lot"] [0,1] ["lot", "web", "points"] from by rfl') rfl (dD (K:=K) (aL (Wn T) hr T.Mt T.FN T.Ms (ak (aj 0) aq))) (λC s H U J=>(bO ["lot", "web", "points"] 0)) (λC s H U J=>dZ) (λC s H U J=>(dY (ak (qmA (show bM (_) _ ["lot", "web", "points"] ["point"] [2] ["point", "points"] from by rfl') rfl (dD (K:=K) (aj 0)) (λC s H U J=>(bO ["point", "points"] 0)) (λC s H U J=>dZ) (λC s H U J=>(jW (K:=K) rfl qwz qxX PySem.F.type_list_index (qnO (K:=K) rfl) (aj 1) (ak (aj 0) aq)))) (ak (bw (cW (K:=K) rfl) rfl T.nm.len qv9 (ak (aL (qr7 T) hr T.qew T.UJ T.qev (ak (aj 1) (ak (aj 0) aq))) aq)) aq)))))))),?_]
  have Gp:600<sizeLine:=by decide
  have l9:=hX.len;have cO:=N.len;have p9:2 ^ f.length<=2 ^ 9:=qxf (by decide) l9.2;obtain⟨dx,fs,ab,aa⟩:=hw.ins fO.1 fO.2;left;refine#[dx,fs,ab,aa,o,f,r,rfl,hw,λn hn=>?_];generalize jL:upd H n (.lst (f.map V.str))=H1;obtain⟨s1,e1⟩:=cQ hn jL;left;refine#[o,f,r,rfl,hw.same s1,l9.2,λr2 tv H2 af e2 hN s2=>?_];have S2:=s1.trans s2;have ac:=s2 _ _ e1;have tl:tv.length=2 ^ f.length - 2:=by rw[hN.1,Nz]
  left;refine#[#[_,au.of e2],λD hD=>h_ tv (λj m l=>(∃o1,m=[o1,some (.ref o),some (.ref n)])/\(∃B,l D=some (.lst B)/\bH (λl v c=>WgS f r l v c/\∀t,v = .ref t->t≠D/\∀L z,l t=some (.tup [.ref L,z])->L≠D) l B ((iU f).take j))/\Same H2 l) #[#[_,rfl],#[[],aB,bH.nil],aJ hD] (λi m l _ h=>au.of (h.2.2 _ _ e2)) ?_ ?_]
  ·rintro j v m H3 hj ⟨⟨o1,rfl⟩,⟨B,bJ,I⟩,G⟩;have ag:j<tv.length:=(qvU.mp hj).1;obtain⟨c,hc,t4,rfl,ae,xO⟩:=bH.at hN hj;have lq:B.length=j:=by
    have:=I.1;rw[qwe,Nz] at this;omega
   obtain⟨e,c0,cl⟩:=Gv l9.2 (qvX hc);have Wu:=G _ _ xO;have Wv:=G _ _ ac;have S3:=S2.trans G;left;refine#[#[_,au.of Wu],λF hF=>h_ (c.map V.str) (λi m l=>(∃o',m=[o',some (.ref n)])/\l F=some (.lst ((c.take i).map λy=>V.int ((f.idxOf y:Nat):Int)))/\Same H3 l) #[#[_,rfl],aB,aJ hF] (λi m l _ h=>au.of (h.2.2 _ _ Wu)) ?_ ?_]
   ·rintro i x m H4 hi ⟨⟨o',rfl⟩,NQ,u⟩;obtain⟨y,hy,rfl⟩:=jy hi;have ah:i<c.length:=(qvU.mp hy).1;have a0:y∈f:=e.subset (qvX hy);have Y:=u _ _ Wv;rw[take_one hy,qwG];left;refine#[#[_,au.of Y],_,au.of Y,a0,_,NQ,by simp;lia,by rw[aB],cN u hF]
   ·rintro m H4 ⟨⟨o',rfl⟩,NQ,u⟩;rw[qv1,qv5] at NQ;have S4:=S3.trans u;left;refine#[o,t4,f,c,r,rfl,hw.same S4,hX,N,.inl (u _ _ Wu),e.nodup hX.nd,λx hx=>e.subset hx,c0,cl,λr5 H5 V2 e5 s5=>?_];rw[qho hX.nd e] at e5;left;refine#[_,.inl (au.of e5),?_];rw[qv1,show(Ws c r).length=fC c r from qhn c r 0];intro p6 qC;generalize Wm:upd H5 p6 (.tup [.ref F,.int ((fC c r:Nat):Int)])=H6;obtain⟨s6,e6⟩:=cQ qC Wm;have gA:=s5 _ _ (u _ _ bJ);have FD:F≠D:=λz=>by rw[z,bJ] at hF;cases hF
    have Cv:p6≠D:=λz=>by rw[z,gA] at qC;cases qC
    refine#[B,s6 _ _ gA,∅,#[_,aB,?_],cN (G.trans (u.trans (s5.trans s6))) hD];rw[take_one hc];refine bH.snoc (bH.keep I ?_) #[#[p6,F,rfl,by rw[aN Cv];exact e6,by rw[aN FD];exact s6 _ _ (s5 _ _ NQ)],λt et=>?_]
    ·rintro v b ⟨⟨t,L,rfl,O,h2⟩,h3⟩;obtain⟨g1,g2⟩:=h3 t rfl;have g3:=g2 L _ O;have S:=u.trans (s5.trans s6);refine#[#[t,L,rfl,by rw[aN g1];exact S _ _ O,by rw[aN g3];exact S _ _ h2],λt' et=>?_];cases et;refine#[g1,λqU z M=>?_];rw[aN g1,S _ _ O] at M;cases M;exact g3
    ·cases et;refine#[Cv,λqU z M=>?_];rw[aN Cv,e6] at M;cases M;exact FD
  ·rintro m H3 ⟨⟨o1,rfl⟩,⟨B,bJ,I⟩,G⟩;rw[hN.1,qv5] at I;left;exact q D B H3 (S2.free hD) bJ #[I.1,λi v c O h2=>(I.2 i v c O h2).1] (S2.trans G)
def sW(g:Str->Int)(c:QAH):Int:=(c.map g).sum
def iz(xs:QAH)(ps:QAD)(g:Str->Int)(k:Int):Bool:=(iU xs).all λc=>decide (k<=sW g c - ((fC c ps:Nat):Int))
def idx_map{g:Str->Int}{xs:QAH}{y:Str}(h:y∈xs):((xs.map g).map V.int)[xs.idxOf y]? = some (.int (g y)):=by
 have c:=List.idxOf_lt_length_iff.mpr h;rw[qv8,qv8,qwi c,List.getElem_idxOf c];rfl
inductive qhq:Sp
 |mk (r i:Qv) (tv:kE) (xs:QAH) (ps:QAD) (g:Str->Int) (k:Int) (_:vs=[.ref r,.ref i,.int k]) (_:H r=some (.lst tv)) (_:Gy xs ps H tv) (_:xs.length<=9) (_:Sq H i ((xs.map g).map V.int)) (_:∀H',Same H H'->Q (.bl (iz xs ps g k)) H'):qhq vs H Q E
def qr9(T:Txt K mg a):aO P w K mg base aW 1 a.vd a.Le ["weighed", "ins", "k"] qhq:=by
 exists T.U3.bG,TF
 ·obtain⟨r,i,tv,m,N,g,k,rfl,hr,hW,h9,hi,q⟩:=h;refine#[_,(aK (jT qwI rfl (dD (K:=K) (aj 0)) (PG.eqv (iJ (K:=K) (n:=2) rfl rfl (bB.eqv (cI (eF (i:=3) TF.nd rfl (Or.inl rfl)) (bB.eqv (cI (eF (i:=4) TF.nd rfl (Or.inl rfl)) (bB.mono iH iM)) (cJ _ _))) (cJ _ _))) (iQ _ _ _))
   (aF (bU (bN Al (bI Ak (bw (qcz (K:=K) rfl rfl) rfl T.Vz.sum boot_sum (ak (fJ rfl rfl (show bM (aG J0) _ ["weighed", "ins", "k", "places", "many"] ["place"] [1] ["place", "ins"] from by rfl') rfl (dD (K:=K) (aj 3)) (λC s H fp pn=>(bO ["place", "ins"] 0)) (λC s H fp pn=>dZ) (λC s H fp pn=>(bQ (bT (K:=K) rfl) (aj 1) (aj 0) (λ_ _=>rfl)))) aq)) (aj 4)) (aj 2) (bV _)) (aF (aX eX)) cA)))
   (aF (aX eX))),?_]
  have Gp:600<sizeLine:=by decide
  left;refine#[#[_,au.of hr],lM tv (λj f B=>(∃U O,f=[some (.ref r),some (.ref i),some (.int k),U,O])/\(∀c∈(iU m).take j,k<=sW g c - ((fC c N:Nat):Int))/\Same H B) #[#[_,_,rfl],by simp,Same.refl _] (λj f B _ h=>au.of (h.2.2 _ _ hr)) ?_ ?_]
  ·rintro j v f H1 hj ⟨⟨U,O,rfl⟩,e,u⟩;obtain⟨c,L,t,pl,rfl,ht,I⟩:=bH.at (hW.same u) hj;obtain⟨M,c0,cl⟩:=Gv h9 (qvX L);left;refine#[_,aQ.of ht,rfl,?_];left;refine#[#[_,au.of I],λD hD=>h_ (c.map λy=>V.int ((m.idxOf y:Nat):Int)) (λn f B=>(∃Y,f=[Y,some (.ref i)])/\B D=some (.lst (((c.take n).map g).map V.int))/\Same H1 B) #[#[_,rfl],aB,aJ hD] (λn f B _ h=>au.of (h.2.2 _ _ I)) ?_ ?_]
   ·rintro n x f H2 J ⟨⟨Y,rfl⟩,l,G⟩;obtain⟨y,z,rfl⟩:∃y,c[n]? = some y/\V.int ((m.idxOf y:Nat):Int)=x:=by
     rw[qv8] at J;cases z:c[n]? with
     |none=>rw[z] at J;cases J
     |some y=>rw[z] at J;cases J;exact#[y,rfl,rfl]
    have ab:n<c.length:=(qvU.mp z).1;have a0:y∈m:=M.subset (qvX z);rw[take_one z,qwG,qwG];left;refine#[_,(hi.same (u.trans G)).q,.int (g y),cV (idx_map a0),_,l,by simp;lia,by rw[aB];simp,cN G hD]
   ·rintro f H2 ⟨⟨Y,rfl⟩,l,G⟩;rw[qv1,qv5] at l;left;refine#[c.map g,au.of l,aM.of (λhb=>?_) (λhb=>?_)]
    ·have aa:=qwp hb;left;have:iz m N g k=false:=by
      unfold iz;rw[List.all_eq_false];refine#[c,qvX L,?_];rw[qwx];unfold sW;lia
     rw[<- this];exact q H2 (u.trans G)
    ·have aa:=qwP hb;left;refine#[λd o=>?_,u.trans G];rw[take_one L] at o
     rcases qwc.mp o with o|o
     ·exact e d o
     ·rw[qv6] at o;subst o;unfold sW;lia
  ·rintro f H1 ⟨⟨U,O,rfl⟩,e,u⟩;rw[hW.1,qv5] at e;left;have:iz m N g k=true:=by
    unfold iz;rw[qwa];intro c L;rw[qwx];exact e c L
   rw[<- this];exact q H1 u
def nF(n:Nat):List Int:=if n % 2=0 then [((n / 2:Nat):Int)] else [((n / 2:Nat):Int),((n / 2+1:Nat):Int)]
def qhr(n:Nat):(nF n).length<=2:=by
 unfold nF;split <;> simp
inductive qhs:Sp
 |mk (n:Nat) (_:vs=[.int (n:Int)]) (_:n<=1000) (_:∀(r:Qv)(H':Hp),H r=none->H' r=some (.lst ((nF n).map V.int))->Same H H'->Q (.ref r) H'):qhs vs H Q E
def qr_(T:Txt K mg a):aO P w K mg base aW 1 a.vA a.Ls ["many"] qhs:=by
 exists T.Vb.bG,qqt
 ·obtain⟨n,rfl,i,q⟩:=h;refine#[_,(aF (aX (Oz (bN lO (bI xT (aj 0) aH) aH (bV _)) (cM (ak (bI Io (aj 0) aH) aq)) (cM (ak (bI Io (aj 0) aH) (ak (bI mY (bI Io (aj 0) aH) aH) aq)))))),?_];have e:((n:Int) / 2)=((n / 2:Nat):Int):=by simp
  left;refine aM.of (λh=>?_) (λh=>?_)
  ·have f:=qwp h;left;intro p c;refine q p _ c ?_ (aJ c);rw[aB,e];unfold nF;rw[if_pos ⋯];rfl
  ·have f:=qwP h;left;intro p c;refine q p _ c ?_ (aJ c);rw[aB,e];unfold nF;rw[if_neg ⋯];rfl
def jd(ps:QAD):QAH:=ps.flatMap λe=>[e.1,e.2]
def dG(ps:QAD)(x:Str):Nat:=(jd ps).count x
theorem NT:∀ps:QAD,(jd ps).length=2 * ps.length
 |[]=>rfl
 |e::ps=>by
  have:=NT ps;unfold jd at this⊢;rw[List.flatMap_cons,qwm,this];simp;lia
def hstep(d:Str->Nat)(c:List (List Int))(x:Str):List (List Int):=c.flatMap λe=>(nF (d x)).map λh=>e++[h]
def fG(d:Str->Nat)(xs:QAH):List (List Int):=xs.foldl (hstep d) [[]]
def Gz(d:Str->Nat)(xs:QAH)(x:Str):fG d (xs++[x])=hstep d (fG d xs) x:=by
 unfold fG;rw[List.foldl_append];rfl
theorem Ww(d:Str->Nat)(x:Str):∀c:List (List Int),(hstep d c x).length<=2 * c.length
 |[]=>by simp[hstep]
 |r::c=>by
  have:=Ww d x c;have e:=qhr (d x);unfold hstep at this⊢;rw[List.flatMap_cons,qwm,qv1,qwj];lia
theorem NZ(d:Str->Nat)(xs:QAH):∀i,i<=xs.length->(fG d (xs.take i)).length<=2 ^ i
 |0,_=>by simp[fG]
 |i+1,h=>by
  have ih:=NZ d xs i ⋯;have c:xs[i]? = some (xs[i]'⋯):=qwi ∅;rw[take_one c,Gz];have:=Ww d (xs[i]'∅) (fG d (xs.take i));rw[Nat.pow_succ];lia
theorem Wx(d:Str->Nat)(xs:QAH):∀i,i<=xs.length->∀r∈fG d (xs.take i),r.length=i
 |0,_=>by simp[fG]
 |i+1,h=>by
  have ih:=Wx d xs i ∅;have l:xs[i]? = some (xs[i]'⋯):=qwi ∅;rw[take_one l,Gz];intro r f;unfold hstep at f;obtain⟨j,e,c⟩:=List.mem_flatMap.mp f;obtain⟨h,_,rfl⟩:=qwr.mp c;rw[qwm,ih j e];rfl
def Wy(H:Hp)(v:V)(row:qZ):Prop:=∃t,v = .ref t/\H t=some (.lst (row.map V.int))
def qht(H:Hp)(e:kE)(c:List (List Int)):Prop:=bH Wy H e c
def Wz(D:Qv)(H:Hp)(v:V)(row:qZ):Prop:=∃t,v = .ref t/\t≠D/\H t=some (.lst (row.map V.int))
inductive qhu  (C:Qv):Sp
 |mk (o:Qv) (xs:QAH) (ps:QAD) (_:vs=[.ref o]) (_:bW C H o xs ps) (_:xs.length<=9) (_:∀(r:Qv)(tv:kE)(H':Hp),H r=none->H' r=some (.lst tv)->qht H' tv ((fG (dG ps) xs).filter λrow=>decide (row.sum=(ps.length:Int)))->Same H H'->Q (.ref r) H'):qhu C vs H Q E
def qsa(T:Txt K mg a):aO P w K mg base aW 2 a.vB a.Lw ["web"] (qhu a.bx):=by
 exists T.Vc.bG,Fd
 ·obtain⟨o,J,u,rfl,hw,h9,q⟩:=h;refine#[_,(aK (bF (i:=1) Fd.nd rfl (Or.inr rfl) (qnX rfl rfl (show bM (aG Bb) _ ["web", "ends", "rows", "point"] ["tie", "end"] [] ["tie", "end"] from by rfl') rfl (dD (K:=K) (PE.eqv (gK (aj 0) T.eU T.FP (MK T) hr.d T.Fw .nil fZ) (gV _ _ _ _ _ _))) (λC s H U L=>(bO ["tie", "end"] 0)) (λC s H U L=>dZ) (λC s H U L=>(qlp (K:=K) rfl (aj 0))) (λC s H U L=>(bO ["tie", "end"] 1)) (λC s H U L=>dZ) (λC s H U L=>(aj 1))))
   (aK (bF (i:=2) Fd.nd rfl (Or.inl rfl) (cM (ak (cM aq) aq)))
   (aK (jT qwI rfl (dD (K:=K) (PE.eqv (gK (aj 0) T.eU T.lZ (nA T) hr.d T.lY .nil fZ) (gV _ _ _ _ _ _))) (eF (i:=3) Fd.nd rfl (Or.inr rfl))
   (aF (qnY (i:=2) Fd.nd rfl rfl rfl rfl (show bM (aG Bb) _ ["web", "ends", "rows", "point"] ["row", "half"] [3,1] ["row", "half", "point", "ends"] from by rfl') rfl (dD (K:=K) (aj 2)) (λC s H U L=>(bO ["row", "half", "point", "ends"] 0)) (λC s H U L=>dZ) (λC s H U L=>(dD (K:=K) (aL (qr_ T) hr T.qeQ T.Vb T.qeP (ak (jW (K:=K) rfl qwz qxZ PySem.F.type_list_count (qcA (K:=K) rfl) (aj 3) (ak (aj 2) aq)) aq)))) (λC s H U L=>(bO ["row", "half", "point", "ends"] 1)) (λC s H U L=>dZ) (λC s H U L=>(bI ug (aj 0) (cM (ak (aj 1) aq)))))))
   (aF (aX (fJ rfl rfl (show bM (aG Bb) _ ["web", "ends", "rows", "point"] ["row"] [0] ["row", "web"] from by rfl') rfl (dD (K:=K) (aj 2)) (λC s H U L=>(bO ["row", "web"] 0)) (λC s H U L=>(mQ (bN lO (bw (qcz (K:=K) rfl rfl) rfl T.Vz.sum boot_sum (ak (aj 0) aq)) (PE.eqv (gK (aj 1) T.eU T.FQ (M_ T) hr.d T.Fx .nil fZ) (gV _ _ _ _ _ _)) (bV _)))) (λC s H U L=>(aj 0)))))))),?_]
  have b6:2000<sizeLine:=by decide
  have cO:u.length<=20:=by
   obtain⟨_,_,_,_,_,_,_,_,z⟩:=hw.ex;exact z
  obtain⟨dx,fs,aa,a0⟩:=hw.ins wF.1 wF.2;left;refine#[_,_,aa,a0,o,J,u,rfl,hw,λl2 cX ax yN=>?_];have s1:Same H (upd H l2 (.lst cX)):=aJ ax;have e1:upd H l2 (.lst cX) l2=some (.lst cX):=aB;have zj:=cC.same yN s1;generalize upd H l2 (.lst cX)=H1 at s1 e1 zj⊢;left;refine#[#[_,au.of e1],λD hD=>lM cX (λj B G=>(∃o1 o2,B=[o1,o2])/\G D=some (.lst ((jd (u.take j)).map V.str))/\Same H1 G) #[#[_,_,rfl],aB,aJ hD] (λj B G _ h=>au.of (h.2.2 _ _ e1)) ?_ ?_]
  ·rintro j v B H2 hj ⟨⟨o1,o2,rfl⟩,ac,s2⟩;obtain⟨e,he,t,rfl,ht⟩:=(cC.same zj s2).at hj;have al:j<u.length:=(qvU.mp he).1;have am:=NT (u.take j);rw[qwe] at am;left;refine#[#[_,aQ.of ht],frT [.str e.1,.str e.2] (λi B G=>(∃o2,B=[some (.ref t),o2])/\G D=some (.lst ((jd (u.take j)).map V.str++[V.str e.1,.str e.2].take i))/\Same H1 G) #[#[_,rfl],by simpa using ac,s2] (λi B G _ h=>aQ.of (h.2.2 _ _ (by obtain⟨e',an,t',az,av⟩:=zj.at hj;cases az;rw[he] at an;cases an;exact av))) ?_ ?_]
   ·rintro i x B H3 hi ⟨⟨af,rfl⟩,bJ,s3⟩;have ba:i<2:=by simpa using (qvU.mp hi).1
    rw[take_one hi];left;exact#[_,bJ,by simp[am];lia,by rw[aB,qxu],cN s3 hD]
   ·rintro B H3 ⟨⟨af,rfl⟩,bJ,s3⟩;left;refine#[?_,s3];rw[bJ,take_one he];unfold jd;simp
  ·rintro B H2 ⟨⟨o1,o2,rfl⟩,ac,s2⟩;rw[zj.1,qv5] at ac;have S2:=s1.trans s2;left;intro p3 aw;generalize sV:upd H2 p3 (.lst [])=H3;obtain⟨s3,e3⟩:=cQ aw sV;intro r4 jF;generalize GC:upd H3 r4 (.lst [.ref p3])=H4;obtain⟨s4,e4⟩:=cQ jF GC;have S4:=S2.trans (s3.trans s4);have cH:=(s3.trans s4) _ _ ac;obtain⟨dx,fs,aa,a0⟩:=(hw.same S4).ins fO.1 fO.2;refine#[_,_,aa,a0,o,J,u,rfl,hw.same S4,λn hn=>?_];generalize Gu:upd H4 n (.lst (J.map V.str))=H5;obtain⟨s5,e5⟩:=cQ hn Gu;have S5:=S4.trans s5;have gA:=s5 _ _ cH;left;refine#[#[_,au.of e5],lM (J.map V.str) (λi B G=>(∃rp o3,B=[some (.ref o),some (.ref D),some (.ref rp),o3]/\∃tv,G rp=some (.lst tv)/\qht G tv (fG (dG u) (J.take i)))/\Same H5 G) #[#[r4,none,rfl,_,s5 _ _ e4,?_],Same.refl _] (λi B G _ h=>au.of (h.2 _ _ e5)) ?_ ?_]
   ·exact#[rfl,λi v c h1 O=>by
     cases i with
     |succ i=>simp at h1
     |zero=>
      simp[fG] at h1 O;subst h1 O;exact#[p3,rfl,(s4.trans s5) _ _ e3]]
   ·rintro i v B H6 hi ⟨⟨rp,o3,rfl,tv,jJ,hI⟩,s6⟩;obtain⟨y,hy,rfl⟩:=jy hi;have b9:i<J.length:=(qvU.mp hy).1;have N:=NZ (dG u) J i ⋯;have ae:=Wx (dG u) J i ∅;have p8:2 ^ i<=2 ^ 8:=qxf (by decide) ⋯;rw[take_one hy,Gz];generalize fG (dG u) (J.take i)=r at hI N ae⊢;have tl:tv.length=r.length:=hI.1;have iw:=s6 _ _ gA;left;refine#[#[_,au.of jJ],λD2 Ck=>lM tv (λj B G=>(∃o1 o2,B=[o1,o2,some (.str y),some (.ref D)])/\(∃I,G D2=some (.lst I)/\bH (Wz D2) G I (hstep (dG u) (r.take j) y))/\Same H6 G) #[#[_,_,rfl],#[[],aB,by simp[hstep];exact bH.nil],aJ Ck] (λj B G _ h=>au.of (h.2.2 _ _ jJ)) ?_ ?_]
    ·rintro j v B H7 hj ⟨⟨o1,o2,rfl⟩,⟨I,sX,M⟩,Y⟩;obtain⟨f,ab,t,rfl,ht⟩:=hI.at hj;have al:j<tv.length:=(qvU.mp hj).1;have b7:=ae f (qvX ab);have ai:=Ww (dG u) y (r.take j);rw[qwe] at ai;have ay:hstep (dG u) (r.take (j+1)) y=hstep (dG u) (r.take j) y++(nF (dG u y)).map λh=>f++[h]:=by
      rw[take_one ab];unfold hstep;simp
     rw[ay];generalize hstep (dG u) (r.take j) y=hs at M ai⊢;have V4:=Y _ _ iw;left;refine#[#[_,au.of V4],_,au.of V4,dG u y,rfl,?_,λr8 H8 Wq e8 s8=>?_]
     ·have:=List.count_le_length (a:=y) (l:=jd u);have:=NT u;unfold dG;lia
     have O:=qhr (dG u y);generalize nF (dG u y)=hv at e8 O⊢;left;refine#[#[_,au.of e8],lM (hv.map V.int) (λm B G=>(∃o2,B=[some (.ref t),o2,some (.str y),some (.ref D)])/\(∃I,G D2=some (.lst I)/\bH (Wz D2) G I (hs++(hv.take m).map λh=>f++[h]))/\Same H6 G/\G r8=some (.lst (hv.map V.int))) #[#[_,rfl],#[I,s8 _ _ sX,by simpa using bH.keep M (by rintro v b ⟨t,rfl,h1,O⟩;exact#[t,rfl,h1,s8 _ _ O])],Y.trans s8,e8] (λm B G _ h=>au.of h.2.2.2) ?_ ?_]
     ·rintro m x B H9 hm ⟨⟨af,rfl⟩,⟨Cy,zm,GF⟩,s9,e9⟩;obtain⟨h,hh,rfl⟩:∃h,hv[m]? = some h/\V.int h=x:=by
       rw[qv8] at hm;cases hy:hv[m]? with
       |none=>rw[hy] at hm;cases hm
       |some y=>rw[hy] at hm;cases hm;exact#[y,rfl,rfl]
      have b8:m<hv.length:=(qvU.mp hh).1;have lq:Cy.length<=520:=by
       have:=GF.1;rw[qwm,qv1,qwe] at this;lia
      rw[take_one hh,qwG,<- qxu];left;intro as V1;generalize ar:upd H9 as (.lst [.int h])=uo;obtain⟨fB,b0⟩:=cQ V1 ar;refine#[_,fB _ _ (s9 _ _ ht),_,b0,by simp;lia,λGJ WD=>?_];generalize ap:upd uo GJ (.lst (f.map V.int++[.int h]))=Nr;obtain⟨jl,Wr⟩:=cQ WD ap;have pD:GJ≠D2:=λz=>by rw[z,fB _ _ zm] at WD;cases WD
      have rD:r8≠D2:=λz=>by rw[z,sX] at Wq;cases Wq
      refine#[Cy,(fB.trans jl) _ _ zm,⋯,#[_,aB,?_],cN (s9.trans (fB.trans jl)) Ck,by rw[aN rD];exact(fB.trans jl) _ _ e9];have ah:bH (Wz D2) (upd Nr D2 (.lst (Cy++[.ref GJ]))) (Cy++[.ref GJ]) ((hs++(hv.take m).map λh=>f++[h])++[f++[h]]):=by
       refine bH.snoc (bH.keep GF ?_) #[GJ,rfl,pD,by rw[aN pD,Wr];simp];rintro v b ⟨t,rfl,h1,O⟩;exact#[t,rfl,h1,by rw[aN h1];exact(fB.trans jl) _ _ O]
      rw[qxu] at ah;exact ah
     ·rintro B H9 ⟨⟨af,rfl⟩,⟨Cy,zm,GF⟩,s9,e9⟩;rw[qv1,qv5] at GF;left;exact#[#[Cy,zm,GF],s9]
    ·rintro B H7 ⟨⟨o1,o2,rfl⟩,⟨I,sX,M⟩,Y⟩;rw[tl,qv5] at M;left;exact#[#[I,sX,#[M.1,λi v c h1 O=>by obtain⟨t,e,_,h⟩:=M.2 i v c h1 O;exact#[t,e,h]]],s6.trans Y]
   ·rintro B H6 ⟨⟨rp,o3,rfl,tv,jJ,hI⟩,s6⟩;rw[qv1,qv5] at hI;have N:=NZ (dG u) J J.length (qvY _);rw[qv5] at N;have p9:2 ^ J.length<=2 ^ 9:=qxf (by decide) h9;generalize fG (dG u) J=r at hI N q⊢;have tl:tv.length=r.length:=hI.1;have S6:=S5.trans s6;left;refine#[#[_,au.of jJ],λD3 bJ=>h_ tv (λj B G=>(∃o1,B=[o1,some (.ref o)])/\(∃I,G D3=some (.lst I)/\bH (λ_=>Wy H6) G I ((r.take j).filter λf=>decide (f.sum=(u.length:Int))))/\Same H6 G) #[#[_,rfl],#[[],aB,by simp;exact bH.nil],aJ bJ] (λi B G _ h=>au.of (h.2.2 _ _ jJ)) ?_ ?_]
    ·rintro j v B H7 hj ⟨⟨o1,rfl⟩,⟨I,sX,M⟩,Y⟩;obtain⟨f,ab,t,rfl,ht⟩:=hI.at hj;have al:j<tv.length:=(qvU.mp hj).1;have lq:I.length<=j:=by
      have:=M.1;have O:((r.take j).filter λf=>decide (f.sum=(u.length:Int))).length<=(r.take j).length:=qw1 _ _;rw[qwe] at O;lia
     obtain⟨dx,fs,aa,a0⟩:=(hw.same (S6.trans Y)).ins wG.1 wG.2;rw[take_one ab,qwU];left;refine#[f,au.of (Y _ _ ht),_,_,aa,a0,o,J,u,rfl,hw.same (S6.trans Y),?_];left;refine aM.of (λhb=>?_) (λhb=>?_)
     ·have ag:=qwp hb;left;refine#[I,sX,⋯,#[_,aB,?_],cN Y bJ];rw[show([f].filter λf=>decide (f.sum=(u.length:Int)))=[f] by simp[ag]];exact bH.snoc (bH.keep M λv b h=>h) #[t,rfl,ht]
     ·have ag:=qwP hb;left;refine#[#[I,sX,?_],Y];rw[show([f].filter λf=>decide (f.sum=(u.length:Int)))=[] by simp[ag],qwy];exact M
    ·rintro B H7 ⟨⟨o1,rfl⟩,⟨I,sX,M⟩,Y⟩;rw[tl,qv5] at M;left;exact q D3 I H7 (S6.free bJ) sX #[M.1,λi v c h1 O=>by obtain⟨t,e,h⟩:=M.2 i v c h1 O;exact#[t,e,Y _ _ h]] (S6.trans Y)
theorem qhv(q:Str->Bool):∀(n:Nat)(xs:QAH),xs.length=n->xs.filter q∈jM xs
 |0,xs,h=>by
  rw[qwK h,parts_nil];simp
 |n+1,xs,h=>by
  have c:xs≠[]:=λz=>by rw[z] at h;simp at h
  rw[<- List.dropLast_concat_getLast c,qgY,qwU];have ih:=qhv q n xs.dropLast (by simp[h]);cases e:q (xs.getLast c) with
  |true=>
   refine qwf _ (qwr.mpr #[_,ih,?_]);simp[e]
  |false=>
   refine qww _ ?_;simpa [e] using ih
def qhw:∀n:Nat,n<=9->∀k:Nat,k<9->k<n->dh (2 ^ n - 1) k=true:=by symm
def qse(B:xs.length<=9)(v:x∈xs)(r:y∈xs)(o:q x=false)(n:q y=true):∃j,j<2 ^ xs.length - 2/\xs.filter q=d8 (dh (1+j)) xs:=by
 have h:=qhv q xs.length xs rfl;unfold jM at h;obtain⟨m,i,e⟩:=qwr.mp h;have i:=qxr.mp i;have E:m≠0:=λz=>by
  subst z;have c:y∈xs.filter q:=qwb.mpr #[r,n];rw[<- e] at c;unfold d8 at c;obtain⟨u,A,_⟩:=qwr.mp c;have:=(qwb.mp A).2;simp[dh] at this
 have D:m≠2 ^ xs.length - 1:=λz=>by
  subst z;have f:x∈d8 (dh (2 ^ xs.length - 1)) xs:=by
   unfold d8;obtain⟨k,l,C⟩:=List.getElem_of_mem v;refine qwr.mpr #[(x,k),qwb.mpr #[?_,qhw _ B k ⋯ l],rfl];rw[qxa];simp[l,C]
  rw[e] at f;have:=(qwb.mp f).2;rw[o] at this;cases this
 refine#[m - 1,⋯,?_];rw[show 1+(m - 1)=m by lia];exact e.symm
theorem GK(f:Str->Int)(X:Str->Bool):∀xs:QAH,bR f X xs=((xs.filter X).map f).sum
 |[]=>rfl
 |x::xs=>by
  have ih:=GK f X xs;simp only[bR];rw[ih,qwX]
  by_cases h:X x=true
  ·rw[if_pos h,if_pos h,qwd,qxg]
  ·rw[if_neg h,if_neg h];lia
theorem WK{xs:QAH}(X:Str->Bool):∀{ps:QAD},(∀e∈ps,e.1∈xs/\e.2∈xs)->oE X ps=((fC (xs.filter X) ps:Nat):Int)
 |[],_=>rfl
 |e::ps,h=>by
  have ih:=WK X (ps:=ps) λd f=>h d (qvZ _ f);have c:=h e qv3;simp only[oE,fC,qwb,c.1,c.2,true_and];rw[ih];split <;> simp
def qsf{xs:QAH}(n:xs.length<=9){X:Str->Bool}(h:xV xs X):xs.filter X∈iU xs:=by
 obtain⟨⟨x,l,f⟩,⟨y,i,c⟩⟩:=h;obtain⟨j,m,e⟩:=qse n i l c f;rw[e];exact qvX (Wk m)
def qsg{xs:QAH}{ps:QAD}(v:xs.length<=9)(o:∀e∈ps,e.1∈xs/\e.2∈xs){g:Str->Int}{k:Int}(h:pO xs ps 1 k g)(m:xs.Nodup):iz xs ps g k=true:=by
 unfold iz;rw[qwa];intro c u;obtain⟨l,A,z⟩:=Gv v u;have j:=qho m l;have r:xV xs (λy=>decide (y∈c)):=by
  obtain⟨x,i⟩:=qx1 A;refine#[#[x,l.subset i,by simpa using i],?_];apply qxk;intro f;have:xs.filter (λy=>decide (y∈c))=xs:=qyt.mpr λy n=>by
   cases e:decide (y∈c) with
   |true=>rfl
   |false=>exact absurd #[y,n,e] f
  rw[j] at this;rw[this] at z;lia
 have:=h _ r;rw[GK,WK _ o,j] at this;rw[qwx];unfold sW;lia
theorem qhx(p:Str->Bool){xs:QAH}:∀{ps:QAD}(i:Nat),(∀e∈ps,e.1∈xs/\e.2∈xs)->((jd ps).filter p).length=2 * fC (xs.filter p) ps+(fV (jX (xs.filter p)) ps i).length
 |[],_,_=>rfl
 |e::ps,i,h=>by
  have ih:=qhx p (ps:=ps) (i+1) λd f=>h d (qvZ _ f);have c:=h e qv3;have j:jd (e::ps)=e.1::e.2::jd ps:=rfl;rw[j];show _=2 * ((if e.1∈xs.filter p/\e.2∈xs.filter p then 1 else 0)+fC (xs.filter p) ps)+(jX (xs.filter p) e i++fV (jX (xs.filter p)) ps (i+1)).length
  rw[qwm];generalize (fV (jX (xs.filter p)) ps (i+1)).length=n at ih⊢;generalize fC (xs.filter p) ps=m at ih⊢;unfold jX;simp only[qwb,c.1,c.2,true_and,qwX];cases p e.1 <;> cases p e.2 <;> simp <;> lia
theorem WL{xs:QAH}:∀{ps:QAD},(∀e∈ps,e.1∈xs/\e.2∈xs)->∀y∈jd ps,y∈xs
 |[],_,y,h=>by cases h
 |e::ps,c,y,h=>by
  have j:jd (e::ps)=e.1::e.2::jd ps:=rfl;rw[j] at h;have f:=c e qv3
  rcases qv0.mp h with rfl|h
  ·exact f.1
  ·rcases qv0.mp h with rfl|h
   ·exact f.2
   ·exact WL (λd i=>c d (qvZ _ i)) y h
theorem GP(f:Str->Nat):∀l:QAH,(l.map λx=>((f x:Nat):Int)).sum=(((l.map f).sum:Nat):Int)
 |[]=>rfl
 |x::l=>by
  have:=GP f l;simp only[qwd,qxg];rw[this];simp
def qsh(h:xs.Nodup)(l:xs.length<=9)(f:∀e∈ps,e.1∈xs/\e.2∈xs)(i:∀c∈iU xs,2 * k<=(Ad c ps).length):pO xs ps 2 (2 * (k:Int)) (λx=>((dG ps x:Nat):Int)):=by
 intro X j;have m:=i _ (qsf l j);have o:=qhx X (xs:=xs) (ps:=ps) 0 f;have n:=Nh h X (WL f);rw[GK,WK X f,GP];have e:((xs.filter X).map λx=>(jd ps).count x).sum=((xs.filter X).map (dG ps)).sum:=rfl;unfold Ad at m;lia
def qhy{xs:QAH}{ps:QAD}(c:xs.Nodup)(f:∀e∈ps,e.1∈xs/\e.2∈xs):bR (λx=>((dG ps x:Nat):Int)) allB xs=2 * (ps.length:Int):=by
 have h:=Nh c allB (WL f);rw[GK,GP];have e:((xs.filter allB).map λx=>(jd ps).count x).sum=((xs.filter allB).map (dG ps)).sum:=rfl;have i:(jd ps).filter allB=jd ps:=qyt.mpr λ_ _=>rfl;have j:=NT ps;rw[i] at h;lia
theorem qhz{d:Str->Nat}{g:Str->Int}{xs:QAH}(h:∀x∈xs,g x∈nF (d x)):∀i,i<=xs.length->(xs.take i).map g∈fG d (xs.take i)
 |0,_=>by simp[fG]
 |i+1,e=>by
  have ih:=qhz h i ⋯;have c:xs[i]? = some (xs[i]'⋯):=qwi ∅;rw[take_one c,Gz,qwG];unfold hstep;exact List.mem_flatMap.mpr #[_,ih,qwr.mpr #[_,h _ (List.getElem_mem _),rfl]]
theorem qhA{d:Str->Nat}{xs:QAH}:∀i,i<=xs.length->∀r∈fG d (xs.take i),∀n∈r,0<=n
 |0,_=>by simp[fG]
 |i+1,u=>by
  have ih:=qhA (d:=d) (xs:=xs) i ∅;have o:xs[i]? = some (xs[i]'∅):=qwi ∅;rw[take_one o,Gz];intro r l n c;unfold hstep at l;obtain⟨m,f,e⟩:=List.mem_flatMap.mp l;obtain⟨h,j,rfl⟩:=qwr.mp e
  rcases qwc.mp c with c|c
  ·exact ih m f n c
  ·rw[qv6] at c;subst c;unfold nF at j;split at j <;> simp at j <;> lia
def iB(xs:QAH)(row:qZ)(y:Str):Int:=row.getD (xs.idxOf y) 0
def GQ{xs:QAH}(c:xs.Nodup){row:qZ}(h:row.length=xs.length):xs.map (iB xs row)=row:=by
 refine List.ext_getElem (by simp[h]) λi j f=>?_;rw[List.getElem_map];unfold iB;have e:i<xs.length:=by simpa using j
 rw[c.idxOf_getElem i e];simp[List.getD,f]
def qhB(l:xs.length<=9)(h:∀x∈xs,f x=g x):iz xs ps f k=iz xs ps g k:=by
 unfold iz;rw[qw3,qwa,qwa];have e:∀c∈iU xs,sW f c=sW g c:=λc i=>by
  unfold sW;congr 1;exact qxV λx j=>h x ((Gv l i).1.subset j)
 exact#[λz c i=>by rw[<- e c i];exact z c i,λz c i=>by rw[e c i];exact z c i]
def qsi(f:xs.Nodup)(l:xs.length<=9)(h:∀e∈ps,e.1∈xs/\e.2∈xs)(o:∀c∈iU xs,2 * k<=(Ad c ps).length):
  ∃row∈(fG (dG ps) xs).filter (λrow=>decide (row.sum=(ps.length:Int))),iz xs ps (iB xs row) k=true:=by
 obtain⟨g,y,u,r⟩:=qn2 f _ _ (qvY _) (qsh f l h o) (by rw[qhy f h];lia);have n:∀x∈xs,g x∈nF (dG ps x):=λx i=>by
  have:=y x i;unfold nF;split
  ·rw[qv6];lia
  ·simp only[qv0,qwn,qw2];lia
 have m:=qhz n xs.length (qvY _);rw[qv5] at m;have z:xs.filter allB=xs:=qyt.mpr λ_ _=>rfl;rw[qhy f h,GK,z] at r;refine#[xs.map g,qwb.mpr #[m,qwv ⋯],?_];have e:=GQ f (row:=xs.map g) (by simp);rw[qhB (g:=g) l λx i=>?_]
 ·exact qsg l h u f
 ·unfold iB;have:=idx_map (g:=g) i;rw[qv8] at this;cases j:(xs.map g)[xs.idxOf x]? with
  |none=>rw[j] at this;cases this
  |some v=>
   rw[j] at this;rw[List.getD,j];cases this;rfl
theorem qhC:∀{ps:QAD},(∀e∈ps,e.1∈xs/\e.2∈xs)->fC xs ps=ps.length
 |[],_=>rfl
 |e::ps,h=>by
  have ih:=qhC (ps:=ps) λd f=>h d (qvZ _ f);have c:=h e qv3;simp only[fC];rw[ih,if_pos c,qwj];lia
theorem qhD:∀ps:QAD,fC [] ps=0
 |[]=>rfl
 |e::ps=>by
  simp only[fC];rw[qhD ps];simp
def qsj(xs:QAH):d8 (dh 0) xs=[]:=by
 unfold d8;rw[List.filter_eq_nil_iff.mpr]
 ·rfl
 ·intro e _;simp[dh]
def qsk(h:xs.length<=9):d8 (dh (2 ^ xs.length - 1)) xs=xs:=by
 unfold d8;rw[qyt.mpr λe c=>?_,List.zipIdx_map_fst];obtain⟨x,k⟩:=e;rw[qxa] at c;have f:=(qvU.mp c).1;exact qhw _ h k ⋯ f
def qsl{xs:QAH}{ps:QAD}{g:Str->Nat}{k:Nat}(o:xs.length<=9)(n:∀e∈ps,e.1∈xs/\e.2∈xs)(c:(xs.map g).sum=ps.length)(f:iz xs ps (λx=>((g x:Nat):Int)) k=true):Cw xs ps g:=by
 refine#[c,λm r=>?_]
 by_cases l:m=0
 ·subst l;rw[qsj,qhD];exact qwF _
 ·by_cases j:m=2 ^ xs.length - 1
  ·subst j;rw[qsk o,qhC n,c];exact qvY _
  ·have h:=Wk (xs:=xs) (i:=m - 1) ⋯;rw[show 1+(m - 1)=m by lia] at h;unfold iz at f;have:=qwa.mp f _ (qvX h);rw[qwx] at this;unfold sW at this;rw[GP] at this;lia
inductive qhE  (C Th:Qv):Sp
 |mk (o:Qv) (xs:QAH) (ps:QAD) (k:Nat) (_:vs=[.ref o,.int (k:Int)]) (_:bW C H o xs ps) (_:dU xs) (_:g8 xs ps) (_:k<=9) (_:((∀c∈iU xs,2 * k<=(Ad c ps).length)->∀H',Same H H'->Q .non H')) (_:∀(dx:Qv)(H':Hp),Same H H'->E (.ref Th) (some dx) H'):qhE C Th vs H Q E
def qsm(T:Txt K mg a):aO P w K mg base (gW P w) 4 a.vq a.Lr ["web", "k"] (qhE a.bx a.dF):=by
 exists T.Va.rJ,qdM
 ·obtain⟨o,C,D,k,rfl,hw,hX,a0,h9,q1,q2⟩:=h;refine#[_,(aF (jT PassesOwn.leaving rfl (dD (K:=K) (aL (Wn T) hr T.Mt T.FN T.Ms (ak (aj 0) aq))) (eF (i:=2) qdM.nd rfl (Or.inl rfl))
   (aF (bU (bN Al (bw (cW (K:=K) rfl) rfl T.nm.len qv9 (ak (aL (qr4 T) hr T.qeu T.UG T.qet (ak (aj 0) (ak (aj 2) aq))) aq)) (bI DQ aH (aj 1)) (bV _)) (aF (qoU (E:=E) lU rfl rfl T.MJ (qrt T) hr.d rfl T.Vy T.qdT (ak (aj 2) aq))) cA)))),?_]
  have l9:=hX.len;left;refine#[o,C,D,rfl,hw,l9.2,λr tv H1 ac e1 hN L=>?_];left;refine#[#[_,au.of e1],lM tv (λj B H'=>(∃M,B=[some (.ref o),some (.int (k:Int)),M])/\(∀c∈(iU C).take j,2 * k<=(Ad c D).length)/\Same H1 H') #[#[_,rfl],by simp,Same.refl _] (λj B H' _ h=>au.of (h.2.2 _ _ e1)) ?_ ?_]
  ·rintro j v B H2 hj ⟨⟨M,rfl⟩,f,n⟩;obtain⟨c,hc,t,rfl,ab,ht⟩:=bH.at (zc.same hN n) hj;obtain⟨cs,c0,cl⟩:=Gv l9.2 (qvX hc);left;refine#[o,t,C,c,D,rfl,hw.same (L.trans n),hX,a0,.inl ht,cs.nodup hX.nd,λx N=>cs.subset N,c0,cl,λr3 G sS e3 J=>?_];have S3:=L.trans (n.trans J);left;refine#[_,.inl (au.of e3),?_];rw[qv1];refine aM.of (λY=>?_) (λY=>?_)
   ·have U:=qwp Y;left;intro l Af;have I:Same G (upd G l (eO l a.dF none)):=aJ Af;have x5:upd G l (eO l a.dF none) l=some (eO l a.dF none):=aB;have y:=I _ _ (J _ _ ht);have aa:H l=none:=gU S3 Af;have S5:=S3.trans I;generalize upd G l (eO l a.dF none)=H5 at I x5 y S5⊢;refine#[l,t,_,rfl,x5,y,λc' H6 af ec O hB=>#[rfl,?_]];obtain⟨dx,ag,N,ae⟩:=O;refine#[_,N,q2 dx _ λb' u e=>?_];have be:b'≠l:=λz=>by rw[z,aa] at e;cases e
    exact fW be (hB b' u be (S5 _ _ e))
   ·have U:=qwP Y;left;refine#[λd m=>?_,n.trans J];rw[take_one hc] at m
    rcases qwc.mp m with m|m
    ·exact f d m
    ·rw[qv6] at m;subst m;lia
  ·rintro B H2 ⟨⟨M,rfl⟩,f,n⟩;rw[hN.1,qv5] at f;left;exact q1 f H2 (L.trans n)
def N5(H:Hp)(t n l:Qv)(xs:QAH)(c:kE)(ps:QAD):Prop:=H t=some (.tup [.ref n,.ref l])/\H n=some (.lst (xs.map V.str))/\H l=some (.lst c)/\cC H c ps/\dU xs/\g8 xs ps
theorem N5.same(h:N5 H t n l xs c ps)(s:Same H e):N5 e t n l xs c ps:=#[s _ _ h.1,s _ _ h.2.1,s _ _ h.2.2.1,cC.same h.2.2.2.1 s,h.2.2.2.2]
def bA.wI(x:bA H p)(h:H b=some o)(f:∀c,o≠.lst c):b≠p:=λz=>by
 subst z;obtain⟨u,v,e,_⟩:=x;rw[h] at e;exact f _ (qwt e)
theorem bW.but(h:bW C H o xs ps)(c:bA H p)(b:But p H y):bW C y o xs ps:=by
 obtain⟨v,n,m,l,j,i,f,u,r⟩:=h.ex;exact#[#[v,n,m,l,b _ _ (c.wI j (by intro e z;cases z)) j,b _ _ (c.wI i (by intro e z;cases z)) i,b _ _ (c.wI f (by intro e z;cases z)) f,u.but c b,r]]
def qsn(F:aO P w K mg base aW k f y ps sp):aO P w K mg base (gW P w) k f y ps sp:=
 #[F.len,λA c s H i l j Q E n u o m h=>qwQ (F.run A c s H i l j Q E n u o m h) λr z q=>by
  cases r with
  |ok v=>cases v <;> exact q
  |error e=>exact False.elim q]
def qD:PyData->Bool
 |.int k=>decide (0<=k) && decide (k<=9)
 |_=>false
def WM:(Str.ofString "so many times over is a whole number from ").length<=sizeLine:=by symm
def WQ:(Str.empty++Str.ofString "so many times over is a whole number from ").length<=sizeLine:=by symm
def WR:(Str.ofString (Int.repr 0)).length<=sizeLine:=by symm
def WT:(Str.empty++Str.ofString "so many times over is a whole number from " ++Str.ofString (Int.repr 0)).length<=sizeLine:=by symm
def WW:(Str.ofString " to ").length<=sizeLine:=by symm
def WX:(Str.empty++Str.ofString "so many times over is a whole number from " ++Str.ofString (Int.repr 0)++Str.ofString " to ").length<=sizeLine:=by symm
def WY:Nat.log2 9<1920:=by symm
def W0:(Str.ofString (Int.repr 9)).length<=sizeLine:=by symm
def W2:(Str.empty++Str.ofString "so many times over is a whole number from " ++Str.ofString (Int.repr 0)++Str.ofString " to " ++Str.ofString (Int.repr 9)).length<=sizeLine:=by symm
inductive qhF  (N:Qv):Sp
 |mk (v:V) (d:PyData) (_:vs=[v,.int 0]) (_:aA H d v) (_:(qD d=true->Q .non H)) (_:(qD d=false->∀H',Same H H'->E (.ref N) none H')):qhF N vs H Q E
def qso(T:Txt K mg a):aO P w K mg base (gW P w) 2 a.vp a.Ln ["thing", "least"] (qhF a.gF):=by
 exists T.U_.rJ,qqs
 ·obtain⟨v,d,rfl,j,m,f⟩:=h;refine#[_,(aF (bU (PW.pt (je (d9 (fu (aL (Nb T) hr T.Fv T.Bk T.Ft (ak (aj 0) aq)))) (jq (d9 (Ii oA oA (aj 1) (aj 0) (eY rfl T.Vs T.Vt)))))) (aF (Ja (E:=E) lU rfl rfl T.yI rfl T.Vx (ak (qpA (.cons (qdl cZ) (.cons (qdv (aj 1)) (.cons (qdl cZ) (.cons (qdv (eY rfl T.Vs T.Vt)) .nil))))) aq))) cA)),?_];left;refine#[d,v,rfl,j,?_];cases c:yQ d with
  |false=>
   have:=f (by cases d <;> first|rfl|cases c) _ (Same.refl _)
   left;exact#[WM,WQ,WR,WT,WW,WX,WY,W0,W2,this]
  |true=>
   obtain⟨k,rfl⟩:∃i,d = .int i:=by cases d <;> first|exact#[_,rfl]|cases c
   simp only[aA] at j;subst j;left;refine aM.of (λe=>?_) (λe=>?_)
   ·left;refine aM.of (λl=>?_) (λl=>?_)
    ·have:=f (by show(decide (0<=k) && decide (k<=9))=false;rw[e,show decide (k<=9)=false by simpa using l];rfl) _ (Same.refl _);left;exact#[WM,WQ,WR,WT,WW,WX,WY,W0,W2,this]
    ·left;exact m (by show(decide (0<=k) && decide (k<=9))=true;rw[e,show decide (k<=9)=true by simpa using l];rfl)
   ·have:=f (by show(decide (0<=k) && decide (k<=9))=false;rw[e];rfl) _ (Same.refl _);left;exact#[WM,WQ,WR,WT,WW,WX,WY,W0,W2,this]
inductive qhG  (C N:Qv):Sp
 |mk (o:Qv) (v:V) (d:PyData) (xs:QAH) (ps:QAD) (_:vs=[.ref o,v]) (_:bW C H o xs ps) (_:aA H d v) (_:ps.length<=20) (_:cR ps.length d=false) (_:∀H',Same H H'->E (.ref N) none H'):qhG C N vs H Q E
def qsp(T:Txt K mg a):aO P w K mg base (gW P w) 7 a.oM a.ql ["web", "pointing"] (qhG a.bx a.fM):=by
 exists T.Mw.rJ,Fb
 ·obtain⟨o,v,d,e,f,rfl,hw,j,m,l,q⟩:=h;refine#[_,(aK (bF (i:=2) Fb.nd rfl (Or.inr rfl) (PE.eqv (qN (qq2 T) hr.d rfl T.vX T.qp.kp T.vW .nil (lU.passes rfl) (ak (aj 0) (ak (aj 1) aq))) (rC _ _ _)))
   qjo),?_]
  left;exact#[o,v,d,e,f,rfl,hw,j,m,λ_=>q,λt n c=>by rw[l] at c;cases c]
inductive qhH  (C Pt N:Qv):Sp
 |mk (o:Qv) (v:V) (d:PyData) (xs:QAH) (ps:QAD) (_:vs=[.ref o,v]) (_:bW C H o xs ps) (_:dU xs) (_:aA H d v) (_:ps.length<=20) (_:TabOk lamP mC Pt H) (_:(cR ps.length d=false->∀H',Same H H'->E (.ref N) none H')) (_:(cR ps.length d=true->∀u H',But Pt H H'->TabOk lamP mC Pt H'->Q u H')):qhH C Pt N vs H Q E
def qsq(T:Txt K mg a)(L:Jy a.ql base mg c C):aO P w K mg base (gW P w) 7 a.oM a.ql ["web", "pointing"] (qhH a.bx C a.fM):=by
 refine((qsn (qr2 T L)).or (qsp T)).imp λD H Q E h=>?_;obtain⟨o,v,d,j,f,rfl,hw,A,l,m,B,r,n⟩:=h;cases e:cR f.length d with
 |false=>exact .inr #[o,v,d,j,f,rfl,hw,l,m,e,r e]
 |true=>
  obtain⟨t,u,rfl,y,i,z⟩:=V7 l e;exact .inl #[o,t,j,f,u,rfl,#[hw,y,i,z,m],A.len.2,B,n e]
inductive qhI  (C Th N:Qv):Sp
 |mk (o:Qv) (v:V) (d:PyData) (xs:QAH) (ps:QAD) (_:vs=[.ref o,v]) (_:bW C H o xs ps) (_:dU xs) (_:g8 xs ps) (_:aA H d v) (_:(qD d=false->∀H',Same H H'->E (.ref N) none H')) (_:(qD d=true->∀H',Same H H'->(∀r,Q r H')/\∀dx,E (.ref Th) (some dx) H')):qhI C Th N vs H Q E
def qsr(T:Txt K mg a):aO P w K mg base (gW P w) 8 a.vC a.Lx ["web", "k"] (qhI a.bx a.dF a.gF):=by
 exists T.Vd.rJ,TJ
 ·obtain⟨o,v,d,f,l,rfl,hw,L,B,hd,q1,q2⟩:=h;refine#[_,(aK (eE (PE.eqv (qN (qso T) hr.d rfl T.qeK T.U_.kp T.qeJ .nil (lU.passes rfl) (ak (aj 1) (ak aH aq))) (rC _ _ _)))
   (aK (eE (PE.eqv (qN (qsm T) hr.d rfl T.qeM T.Va.kp T.qeL .nil (lU.passes rfl) (ak (aj 0) (ak (aj 1) aq))) (rC _ _ _)))
   (aK (bF (i:=2) TJ.nd rfl (Or.inr rfl) (aL (qr8 T) hr T.qey T.U0 T.qex (ak (aj 0) aq)))
   (aK (nY (i:=3) TJ.nd rfl rfl rfl rfl (show bM (aG Ka) _ ["web", "k", "weighed", "good"] ["row"] [2,1] ["row", "weighed", "k"] from by rfl') rfl (dD (K:=K) (aL (qsa T) hr T.qeS T.Vc T.qeR (ak (aj 0) aq))) (λC s H fp pn=>(bO ["row", "weighed", "k"] 0)) (λC s H fp pn=>(mQ (fu (aL (qr9 T) hr T.qeA T.U3 T.qez (ak (aj 1) (ak (aj 0) (ak (aj 2) aq))))))) (λC s H fp pn=>(aj 0)))
   (aF (aX (aL (qrV T) hr T.qeI T.U9 T.qeH (ak (aj 0) (ak (bQ (bT (K:=K) rfl) (aj 3) aH (λ_ _=>rfl)) aq))))))))),?_]
  have U:=L.len;have g2:∀e∈l,e.1∈f/\e.2∈f:=λe he=>#[(B.ok e he).1,(B.ok e he).2.1];have av:2000<sizeLine:=by decide
  left;refine#[v,d,rfl,hd,λG=>?_,λG=>q1 G];obtain⟨i,rfl⟩:∃i,d = .int i:=by cases d <;> first|exact#[_,rfl]|cases G
  simp only[aA] at hd;subst hd;obtain⟨k,rfl,h9⟩:∃k:Nat,i=(k:Int)/\k<=9:=by
   have h:(decide (0<=i) && decide (i<=9))=true:=G;rw[qwA,qwx,qwx] at h;exact#[i.toNat,⋯,⋯]
  have s1:=Same.refl H;left;refine#[o,f,l,k,rfl,hw.same s1,L,B,h9,λah H2 s2=>?_,λdx H2 s2=>(q2 G H2 s2).2 dx]
  ·have S2:=s1.trans s2;left;refine#[o,f,l,rfl,hw.same S2,L,B,λr3 tv H3 sS e3 oX s3=>?_];have S3:=S2.trans s3;left;refine#[o,f,l,rfl,hw.same S3,U.2,λr4 W3 H4 jF e4 hI s4=>?_];have S4:=S3.trans s4;obtain⟨as,Y,ag⟩:=qsi L.nd U.2 g2 ah;have z:∀c∈(fG (dG l) f).filter (λc=>decide (c.sum=(l.length:Int))),c.length=f.length:=λc r=>by
    have:=Wx (dG l) f f.length (qvY _) c (by rw[qv5];exact(qwb.mp r).1);exact this
   have ab:∀c∈(fG (dG l) f).filter (λc=>decide (c.sum=(l.length:Int))),∀n∈c,0<=n:=λc r=>qhA f.length (qvY _) c (by rw[qv5];exact(qwb.mp r).1);have N:∀c∈(fG (dG l) f).filter (λc=>decide (c.sum=(l.length:Int))),c.sum=(l.length:Int):=λc r=>qwp (qwb.mp r).2;have af:((fG (dG l) f).filter (λc=>decide (c.sum=(l.length:Int)))).length<=600:=by
    have h1:=NZ (dG l) f f.length (qvY _);rw[qv5] at h1;have h2:((fG (dG l) f).filter (λc=>decide (c.sum=(l.length:Int)))).length<=(fG (dG l) f).length:=qw1 _ _;have p9:2 ^ f.length<=2 ^ 9:=qxf (by decide) U.2;omega
   generalize (fG (dG l) f).filter (λc=>decide (c.sum=(l.length:Int)))=m at hI Y z ab N af;have tl:W3.length=m.length:=hI.1;have ar:=s4 _ _ e3;have ap:=oX.same s4;left;refine#[#[_,au.of e4],λD hD=>h_ W3 (λj σ H'=>(∃o1,σ=[o1,some (.ref r3),some (.int (k:Int))])/\(∃I,H' D=some (.lst I)/\bH (λ_=>Wy H4) H' I ((m.take j).filter λc=>iz f l (iB f c) k))/\Same H4 H') #[#[_,rfl],#[[],aB,by simp;exact bH.nil],aJ hD] (λi σ H' _ h=>au.of (h.2.2 _ _ e4)) ?_ ?_]
   ·rintro j v σ H5 hj ⟨⟨o1,rfl⟩,⟨I,gA,M⟩,O⟩;obtain⟨c,J,t,rfl,ht⟩:=hI.at hj;have aw:j<W3.length:=(qvU.mp hj).1;have lq:I.length<=j:=by
     have:=M.1;have h2:((m.take j).filter λc=>iz f l (iB f c) k).length<=(m.take j).length:=qw1 _ _;rw[qwe] at h2;omega
    have u:=z c (qvX J);have ai:=O _ _ ht;rw[take_one J,qwU];left;refine#[r3,t,tv,f,l,iB f c,k,rfl,O _ _ ar,ap.same O,U.2,.inl (by rw[GQ L.nd u];exact ai),λH6 s6=>?_];have S6:=O.trans s6;have iw:=s6 _ _ gA;left;refine aM.of (λG=>?_) (λG=>?_)
    ·left;refine#[I,iw,∅,#[_,aB,?_],cN S6 hD];rw[show([c].filter λc=>iz f l (iB f c) k)=[c] by simp[G]];exact bH.snoc M #[t,rfl,ht]
    ·left;refine#[#[I,iw,?_],S6];rw[show([c].filter λc=>iz f l (iB f c) k)=[] by simp[G],qwy];exact#[M.1,M.2]
   ·rintro σ H5 ⟨⟨o1,rfl⟩,⟨I,gA,M⟩,O⟩;rw[tl,qv5] at M;have S5:=S4.trans O;have aa:0<(m.filter λc=>iz f l (iB f c) k).length:=qxi (qwb.mpr #[Y,ag]);obtain⟨v0,a0⟩:∃v0,I[0]? = some v0:=#[_,qwi (show 0<I.length by rw[M.1];exact aa)];obtain⟨c,J,t,rfl,ht⟩:=M.at a0;obtain⟨y,am⟩:=qwb.mp (qvX J);have u:=z c y;have an:=ab c y;have eg:∀x∈f,iB f c x=(((iB f c x).toNat:Nat):Int):=λx hx=>by
     have h1:iB f c x∈c:=by
      have h2:iB f c x∈f.map (iB f c):=qwr.mpr #[x,hx,rfl];rw[GQ L.nd u] at h2;exact h2
     have:=an _ h1;omega
    have em:(f.map λx=>(((iB f c x).toNat:Nat):Int))=c:=by
     rw[<- GQ L.nd u];exact qxV λx hx=>by rw[GQ L.nd u];exact(eg x hx).symm
    have ae:iz f l (λx=>(((iB f c x).toNat:Nat):Int)) k=true:=by
     rw[qhB U.2 λx hx=>(eg x hx).symm];exact am
    have al:(f.map λx=>(iB f c x).toNat).sum=l.length:=by
     have h1:=N c y;rw[<- em,GP] at h1;omega
    have ac:=qsl U.2 g2 al ae;left;refine#[_,.inl (au.of gA),_,cV (j:=0) a0,o,t,f,l,λx=>(iB f c x).toNat,rfl,hw.same S5,L,B,.inl (by rw[em];exact O _ _ ht),ac,λr6 H6 s6=>?_];left;exact(q2 G H6 (S5.trans s6)).1 _
end oK
namespace L2
open PySem PySem.Spec PyProof.Rows
@[simp] def qsv(K:W5):List V->Hp->VK->Prop:=λe H Q=>ar2 e λx y=>isRef x λa=>isRef y λp=>∃(C:Qv)(f:wJ)(c:xQ)(b:Bool),H a=some (lV a C f)/\xY K C/\H p=some (.tup (c.map V.ref))/\W.kitAny K (.ref C) (c.map Value.ref)=some b/\Q (.bl b) H
def qhK{X:Cx}{K:W5}(E:X.K=K):bY X (.builtin "isinstance") (qsv K):=by
 subst E;intro p_ s M H N U Q I r h;obtain⟨T,O,rfl,h⟩:=ar2.out h;obtain⟨a,rfl,h⟩:=isRef.out h;obtain⟨p,rfl,C,od,l,b,e,⟨L,cd,f⟩,B,D,q⟩:=isRef.out h;obtain⟨u,v,rfl,y,n⟩:=r.two;obtain rfl:u=Value.ref a:=y;obtain rfl:v=Value.ref p:=n;obtain⟨ex,_⟩:=I.hok a _ e;obtain⟨_,A,m,o,G,j,k,i⟩:=(show b_ X.prog X.w H s.heap p (.tup (l.map V.ref)) from I.hok p _ B);obtain rfl:=qdk m;obtain⟨c,dd,J,sl⟩:=o;replace j:c = .type "tuple" :=j;replace i:J = .seq (l.map Value.ref).toArray k:=i;subst j i;exact W.kia_tup (qcT f L) I.cg ex.at G D (λz=>by cases z) λY=>#[.bl b,H,I.kept (λ_ _ e=>e),rfl,q]
theorem W4{K:W5}{C:Qv}:∀{a:xQ},(∀D∈a,pP K C (.ref D)=some false)->W.kitAny K (.ref C) (a.map Value.ref)=some false
 |[],_=>qpJ
 |D::a,h=>by
  have:=qpK (h D qv3) (W4 λe c=>h e (qvZ _ c));exact this
end L2
namespace oK
open PySem L2
@[simp ↓] theorem qvP(K:W5)(xs:kE)(H:Hp)(Q:VK):qc6 K xs H Q=(ar2 xs λx y=>isRef x λa=>∃C c b,H a=some (lV a C c)/\xY K C/\pP K C y=some b/\Q (.bl b) H):=rfl
def Cz{l:xQ}(a:l.Nodup){x y:Qv}(i j:Nat)(e:l[i]? = some x)(c:l[j]? = some y)(h:i≠j):x≠y:=λz=>h (Dz a e (z▸c))
def clsOf(h e f c C:Qv)(a:Str):Prop:=(C=h/\a = "pointing")\/(C=e/\a = "point")\/(C=f/\a = "number")\/(C=c/\a = "thin")
def qhL(m j l i:Qv):Addr->Sp:=λe f H Q _=>∃(C:Qv)(h:wJ)(a:Str),f=[.ref e]/\clsOf m j l i C a/\H e=some (lV e C h)/\∀(c:Hp),Same H c->Q (.str a) c
def qsw(T:Txt K mg a):Jg P w K mg base 1 a.vL a.L_ ["_law_e"] (qhL a.fM a.gk a.gF a.dF):=by
 refine T.Vk.qos TX (λe vs H Q E h=>?_) (λe aa A I s H vs Q hr h=>?_)
 ·obtain⟨C,od,u,rfl,_⟩:=h;rfl
 ·obtain⟨C,od,u,rfl,M,he,q⟩:=h;refine#[_,(aK (bF (i:=1) TX.nd rfl (Or.inl rfl) (bw (qhK (K:=K) rfl) rfl T.nm.isinstance boot_isinstance (ak (aj 0) (ak (dY (ak (eY (v:=.ref a.kO) rfl T.qfr rfl) (ak (eY (v:=.ref a.j9) rfl T.qfl rfl) (ak (eY (v:=.ref a.j_) rfl T.qfm rfl) (ak (eY (v:=.ref a.kY) rfl T.qft rfl) (ak (eY (v:=.ref a.j8) rfl T.qfk rfl) (ak (eY (v:=.ref a.j7) rfl T.qfj rfl) (ak (eY (v:=.ref a.j6) rfl T.qfi rfl) (ak (eY (v:=.ref a.j4) rfl T.qfh rfl) aq))))))))) aq))))
   (aK (bU (PW.pt (je (fu (aj 1)) (je (fu (bw (qhK (K:=K) rfl) rfl T.nm.isinstance boot_isinstance (ak (aj 0) (ak (dY (ak (eY (v:=.ref a.kj) rfl T.qfo rfl) (ak (eY (v:=.ref a.kJ) rfl T.qfq rfl) (ak (eY (v:=.ref a.kW) rfl T.qfs rfl) (ak (eY (v:=.ref a.kI) rfl T.qfp rfl) (ak (eY (v:=.ref a.kh) rfl T.qfn rfl) aq)))))) aq)))) (jq (d9 (fu (bw (Ej (K:=K) rfl) rfl T.nm.isinstance boot_isinstance (ak (aj 0) (ak (qK (v:=.ty "ValueError") rfl T.B_ qot rfl) aq))))))))) (aF (aX cZ)) cA)
   (aK (bF (i:=2) TX.nd rfl (Or.inl rfl) (cM (ak (bw (Ej (K:=K) rfl) rfl T.nm.isinstance boot_isinstance (ak (aj 0) (ak (eY (v:=.ref a.fM) rfl T.Vw rfl) aq))) (ak (bw (Ej (K:=K) rfl) rfl T.nm.isinstance boot_isinstance (ak (aj 0) (ak (eY (v:=.ref a.gk) rfl T.MF rfl) aq))) (ak (bw (Ej (K:=K) rfl) rfl T.nm.isinstance boot_isinstance (ak (aj 0) (ak (eY (v:=.ref a.gF) rfl T.Vx rfl) aq))) (ak (bw (Ej (K:=K) rfl) rfl T.nm.isinstance boot_isinstance (ak (aj 0) (ak (eY (v:=.ref a.dF) rfl T.Vy rfl) aq))) aq))))))
   (aK (bU (bN jC (jW (K:=K) rfl qwz qxZ PySem.F.type_list_count (qoN (K:=K) rfl) (aj 2) (ak eX aq)) aH (bV _)) (aF (aX cZ)) cA)
   (aF (aX (bQ (bT (K:=K) rfl) (cM (ak cZ (ak cZ (ak cZ (ak cZ aq))))) (jW (K:=K) rfl qwz qxX PySem.F.type_list_index (qoP (K:=K) rfl) (aj 2) (ak eX aq)) (λ_ _=>rfl)))))))),?_]
  have N:XC K C a.bC:=by
   rcases M with⟨rfl,_⟩|⟨rfl,_⟩|⟨rfl,_⟩|⟨rfl,_⟩
   ·exact T.wk
   ·exact T.wu
   ·exact T.wz
   ·exact T.oO
  have r:xY K C:=N.ask T.BX T.BZ;have J:=(qwC.mp T.nd).1;have o:=(qwC.mp T.nd).2;have y:∀{D:Qv}(i:Nat),XC K D a.bC->(sG a)[i]? = some D->pP K C (.ref D)=some (decide (C=D)):=λi x h=>N.kit x λz=>J (z▸qvX h);have k1:=y 0 T.wk rfl;have k2:=y 1 T.wu rfl;have k3:=y 2 T.wz rfl;have k4:=y 16 T.oO rfl;have kV:=N.qoQ;obtain⟨i,hi,ei⟩:∃i∈[0,1,2,16],(sG a)[i]? = some C:=by
   rcases M with⟨rfl,_⟩|⟨rfl,_⟩|⟨rfl,_⟩|⟨rfl,_⟩
   ·exact#[0,by decide,rfl]
   ·exact#[1,by decide,rfl]
   ·exact#[2,by decide,rfl]
   ·exact#[16,by decide,rfl]
  have no:∀D∈[a.kO,a.j9,a.j_,a.kY,a.j8,a.j7,a.j6,a.j4,a.kj,a.kJ,a.kW,a.kI,a.kh],pP K C (.ref D)=some false:=by
   intro D n;obtain⟨j,hj,ej,hx⟩:∃j∈[13,7,8,15,6,5,4,3,10,12,14,11,9],(sG a)[j]? = some D/\XC K D a.bC:=by
    simp only[qv0,qwn,qw2] at n
    rcases n with rfl|rfl|rfl|rfl|rfl|rfl|rfl|rfl|rfl|rfl|rfl|rfl|rfl
    ·exact#[13,by decide,rfl,T.BL]
    ·exact#[7,by decide,rfl,T.Bu]
    ·exact#[8,by decide,rfl,T.Bv]
    ·exact#[15,by decide,rfl,T.BW]
    ·exact#[6,by decide,rfl,T.Bt]
    ·exact#[5,by decide,rfl,T.Bs]
    ·exact#[4,by decide,rfl,T.Br]
    ·exact#[3,by decide,rfl,T.Bq]
    ·exact#[10,by decide,rfl,T.Bx]
    ·exact#[12,by decide,rfl,T.BK]
    ·exact#[14,by decide,rfl,T.BP]
    ·exact#[11,by decide,rfl,T.BJ]
    ·exact#[9,by decide,rfl,T.Bw]
   rw[y j hx ej,qwh λz=>?_];rw[z] at ei;exact(show ∀i∈[0,1,2,16],∀j∈[13,7,8,15,6,5,4,3,10,12,14,11,9],i≠j by decide) i hi j hj (Dz o ei ej)
  obtain⟨A,hA⟩:∃A,A=[a.kO,a.j9,a.j_,a.kY,a.j8,a.j7,a.j6,a.j4]:=#[_,rfl];obtain⟨B,hB⟩:∃B,B=[a.kj,a.kJ,a.kW,a.kI,a.kh]:=#[_,rfl];have n1:W.kitAny K (.ref C) (A.map Value.ref)=some false:=W4 λD n=>no D (by rw[hA] at n;exact qww [a.kj,a.kJ,a.kW,a.kI,a.kh] n);have n2:W.kitAny K (.ref C) (B.map Value.ref)=some false:=W4 λD n=>no D (by rw[hB] at n;exact qwf [a.kO,a.j9,a.j_,a.kY,a.j8,a.j7,a.j6,a.j4] n);have eA : [V.ref a.kO,V.ref a.j9,V.ref a.j_,V.ref a.kY,V.ref a.j8,V.ref a.j7,V.ref a.j6,V.ref a.j4]=A.map V.ref:=by rw[hA];rfl
  have eB : [V.ref a.kj,V.ref a.kJ,V.ref a.kW,V.ref a.kI,V.ref a.kh]=B.map V.ref:=by rw[hB];rfl
  obtain⟨b1,b2,b3,b4,e1,e2,e3,e4,hw⟩:∃b1 b2 b3 b4:Bool,decide (C=a.fM)=b1/\decide (C=a.gk)=b2/\decide (C=a.gF)=b3/\decide (C=a.dF)=b4/\(([b1,b2,b3,b4]=[true,false,false,false]/\u=Str.ofString "pointing")\/([b1,b2,b3,b4]=[false,true,false,false]/\u=Str.ofString "point")\/([b1,b2,b3,b4]=[false,false,true,false]/\u=Str.ofString "number")\/([b1,b2,b3,b4]=[false,false,false,true]/\u=Str.ofString "thin")):=by
   have x1:a.fM≠a.gk:=Cz o 0 1 rfl rfl (by decide);have x2:a.fM≠a.gF:=Cz o 0 2 rfl rfl (by decide);have x3:a.fM≠a.dF:=Cz o 0 16 rfl rfl (by decide);have Y:a.gk≠a.gF:=Cz o 1 2 rfl rfl (by decide);have U:a.gk≠a.dF:=Cz o 1 16 rfl rfl (by decide);have O:a.gF≠a.dF:=Cz o 2 16 rfl rfl (by decide)
   rcases M with⟨rfl,rfl⟩|⟨rfl,rfl⟩|⟨rfl,rfl⟩|⟨rfl,rfl⟩
   ·exact#[_,_,_,_,rfl,rfl,rfl,rfl,.inl #[by simp[x1,x2,x3],rfl]]
   ·exact#[_,_,_,_,rfl,rfl,rfl,rfl,.inr (.inl #[by simp[x1.symm,Y,U],rfl])]
   ·exact#[_,_,_,_,rfl,rfl,rfl,rfl,.inr (.inr (.inl #[by simp[x2.symm,Y.symm,O],rfl]))]
   ·exact#[_,_,_,_,rfl,rfl,rfl,rfl,.inr (.inr (.inr #[by simp[x3.symm,U.symm,O.symm],rfl]))]
  rw[e1] at k1;rw[e2] at k2;rw[e3] at k3;rw[e4] at k4;have a0:200<=sizeLine:=by decide
  left;rw[eA];intro p1 h1;generalize jL:upd H p1 (.tup (A.map V.ref))=H1;obtain⟨s1,f1⟩:=cQ h1 jL;have fL:=s1 _ _ he;refine#[C,#[_,fL],r,_,f1,_,n1,aM.neg rfl ?_];left;rw[eB];intro p2 h2;generalize jK:upd H1 p2 (.tup (B.map V.ref))=H2;obtain⟨s2,f2⟩:=cQ h2 jK;have c:=s2 _ _ fL;refine#[C,#[_,c],r,_,f2,_,n2,aM.neg rfl ?_];left;refine#[C,#[_,c],r,_,kV,?_];left;refine#[C,#[_,c],r,_,k1,C,#[_,c],r,_,k2,C,#[_,c],r,_,k3,C,#[_,c],r,_,k4,λp3 h3=>?_];generalize sV:upd H2 p3 (.lst [.bl b1,.bl b2,.bl b3,.bl b4])=H3;obtain⟨s3,L⟩:=cQ h3 sV;have S3:=s1.trans (s2.trans s3);have f:List.count true [b1,b2,b3,b4]=1:=by rcases hw with⟨z,_⟩|⟨z,_⟩|⟨z,_⟩|⟨z,_⟩ <;> rw[z] <;> rfl
  refine#[#[_,au.of L],[b1,b2,b3,b4],au.of L,false,by rw[f];rfl,aM.neg rfl ?_];left;refine λp4 h4=>?_;generalize GC:upd H3 p4 (.lst [.str (Str.ofString "pointing"),.str (Str.ofString "point"),.str (Str.ofString "number"),.str (Str.ofString "thin")])=H4;obtain⟨s4,G⟩:=cQ h4 GC;have m:=s4 _ _ L;have l:=q _ (S3.trans s4)
  rcases hw with⟨z,rfl⟩|⟨z,rfl⟩|⟨z,rfl⟩|⟨z,rfl⟩ <;> simp only[List.cons.injEq,and_true] at z <;> obtain⟨rfl,rfl,rfl,rfl⟩:=z
  ·refine#[#[_,au.of m],[true,false,false,false],au.of m,by simp,_,.inl (au.of G),_,rfl,l]
  ·refine#[#[_,au.of m],[false,true,false,false],au.of m,by simp,_,.inl (au.of G),_,rfl,l]
  ·refine#[#[_,au.of m],[false,false,true,false],au.of m,by simp,_,.inl (au.of G),_,rfl,l]
  ·refine#[#[_,au.of m],[false,false,false,true],au.of m,by simp,_,.inl (au.of G),_,rfl,l]
end oK
namespace L2
open PySem
@[simp] def qhM:List V->Hp->VK->Prop:=λa H Q=>ar1 a λv=>∃d:PyData,aV H d v/\d.showable=true/\d.depth<=32/\d.shown.length<=sizeLine/\Q (.str d.shown) H
def qhN(B:X.A.guards=some [])(hu:X.A.units+64<cLine):bY X (.builtin "repr") qhM:=by
 intro Y s O H T U Q I r h;obtain⟨v,rfl,d,i,y,N,m,q⟩:=ar1.out h
 by_cases hl:∃f,d = .list f
 ·obtain⟨f,rfl⟩:=hl;exact qpx B hu Y s O H [v] U Q I r (show qdi [v] H Q from#[f,i,y,N,m,q])
 by_cases w:∃f,d = .tuple f
 ·obtain⟨f,rfl⟩:=w;obtain⟨u,rfl,D⟩:=r.one;have M:=i;simp only[aV] at i;obtain⟨a,T,rfl,hq,l⟩:=i;cases D;obtain⟨J,rv,pl,IV⟩:=I.tuple (aQ.of hq);obtain⟨o,e,c,n,dt⟩:=pl;have m6:(tupleText (PyData.shownAll f)).length<=sizeLine:=by simpa only[PyData.shown] using m
  obtain⟨as,E⟩:=aV.reads I (.tuple f) (.ref a) (.ref a) M rfl;obtain⟨bs,mb,kb⟩:=cD.m5 I f T J l rv (by simpa [PyData.showable] using y) (λt w=>qv7 (tupleText_mem_le w) m6);have G:a∉bs:=qyk E (by simp only[PyData.depth];exact qwN _) mb;simp only[PyData.depth] at N;simp only[PyData.shown] at q;refine call_repr_slot ⋯ #[o,e,c] F.slot_tuple_repr ?_;refine call_tuple_reprK e c dt G (by simpa using kb) B (λb _=>Clear.nil b) ?_ (λ_ _ z=>z) (λh' u C L=>#[_,_,rfl,.str _,H,I.kept (t':=C) L,#[u,rfl],q]) m6;show X.A.units+1+_<_;lia
 ·cases d with
  |list f=>exact(hl #[f,rfl]).elim
  |tuple f=>exact(w #[f,rfl]).elim
  |dict a0=>
   obtain⟨u,rfl,D⟩:=r.one;simp only[aV] at i;obtain⟨a,rfl,h1⟩:=i;cases D;obtain⟨E,j⟩:=Ry I.hok h1;refine repr_of_reads' (h₀:=s.heap) E y (λ_ hm=>?_) B ⋯ (λ_ _ e=>e) (λh' u C L=>#[.str _,H,I.kept (t':=C) L,#[u,rfl],q]) m;rw[qv6] at hm;rw[<- hm] at j;simp at j
  |_=>
   refine qoG B hu Y s O H [v] U Q I r (show qc0 [v] H Q from#[_,.thg ?_ rfl,y,N,m,q])
   first
   |(simp only[aV] at i;subst i;simp[aA])
   |(simp[aV] at i)
end L2
namespace oK
open PySem L2
mutual
theorem qhO{P:Qv}{H:Hp}(hT:∃ps,H P=some (.cY ps)):∀(d:PyData)(v:V),aV H d v->aV (hid P H) d v
 |.none,v,h=>by simp only[aV] at h⊢;exact h
 |.bool b,v,h=>by simp only[aV] at h⊢;exact h
 |.int i,v,h=>by simp only[aV] at h⊢;exact h
 |.str x,v,h=>by simp only[aV] at h⊢;exact h
 |.list m,v,h=>by
  simp only[aV] at h⊢;obtain⟨b,f,e,a,l⟩:=h;exact#[b,f,e,fW (λz=>by obtain⟨ps,c⟩:=hT;rw[z,c] at a;cases a) a,W6 hT m f l]
 |.tuple m,v,h=>by
  simp only[aV] at h⊢;obtain⟨b,f,e,a,l⟩:=h;exact#[b,f,e,fW (λz=>by obtain⟨ps,c⟩:=hT;rw[z,c] at a;cases a) a,W6 hT m f l]
 |.dict n,v,h=>by
  simp only[aV] at h⊢;obtain⟨b,e,a⟩:=h;exact#[b,e,a.imp (λ⟨j,a1,a2⟩=>#[j,a1,fW (λz=>by obtain⟨ps,c⟩:=hT;rw[z,c] at a2;cases a2) a2]) λ⟨j,a1,a2⟩=>#[j,a1,fW (λz=>by obtain⟨ps,c⟩:=hT;rw[z,c] at a2;cases a2) a2]]
theorem W6{P:Qv}{H:Hp}(hT:∃ps,H P=some (.cY ps)):∀(ds:List PyData)(vs:kE),cD H ds vs->cD (hid P H) ds vs
 |[],vs,h=>by simp only[cD] at h⊢;exact h
 |d::ds,vs,h=>by
  simp only[cD] at h⊢;obtain⟨v,r,e,c,a⟩:=h;exact#[v,r,e,qhO hT d v c,W6 hT ds r a]
end
def qsx{P:Qv}{H a:Hp}{d:PyData}{v:V}(c:∃ps,H P=some (.cY ps))(B:But P H a)(h:aV H d v):aV a d v:=aV.same (oF (p:=P)) d v (aV.same (mZ B) d v (qhO c d v h))
def N6(m:Int)(H:Hp)(a:List PyData)(us:kE):Prop:=(m≠1/\(m=0\/m=2)/\∃d v,a=[d]/\us=[v]/\aA H d v)\/(m=1/\∃d e f v u z,a=[d,e,f]/\us=[v,u,z]/\aA H d v/\dg H e u/\dg H f z/\oZ e/\oZ f)
theorem N6.x(h:N6 m H c us):cD H c us/\c.length<=3:=by
 rcases h with⟨_,_,d,v,rfl,rfl,a⟩|⟨_,d,e,f,v,u,z,rfl,rfl,a,j,i,_⟩
 ·simp only[cD];exact#[#[v,_,rfl,aA.x _ _ a,rfl],by simp]
 ·simp only[cD];exact#[#[v,_,rfl,aA.x _ _ a,u,_,rfl,j.x,z,_,rfl,i.x,rfl],by simp]
def zu(xs:QAH)(ps:QAD)(m:Int)(c:List PyData)(a:Str):Prop:=
 (m=0/\∃d,c=[d]/\((cR ps.length d=false/\a = "pointing")\/(cR ps.length d=true/\a = "told")))\/
 (m=1/\∃d e f,c=[d,e,f]/\((cR ps.length d=false/\a = "pointing")\/(cR ps.length d=true/\¬qz xs e f/\a = "point")\/(cR ps.length d=true/\qz xs e f/\a = "told")))\/
 (m=2/\∃d,c=[d]/\((qD d=false/\a = "number")\/(qD d=true/\(a = "told" \/a = "thin"))))
inductive W7  (C Pt:Qv):Sp
 |mk (o r:Qv) (m:Int) (us:kE) (ds:List PyData) (xs:QAH) (ps:QAD) (_:vs=[.ref o,.int m,.ref r]) (_:bW C H o xs ps) (_:dU xs) (_:g8 xs ps) (_:H r=some (.lst us)) (_:N6 m H ds us) (_:(∀d∈ds,bK 30 30000 d)) (_:TabOk lamP mC Pt H) (_:∀(wd:Str)(H':Hp),zu xs ps m ds wd->But Pt H H'->TabOk lamP mC Pt H'->Q (.str wd) H'):W7 C Pt vs H Q E
def CG(hw:bW C H o xs ps)(l:dU xs)(a:g8 xs ps)(e:H r=some (.lst us))(u:N6 m H c us)(j:∀d∈c,bK 30 30000 d)(n:TabOk lamP mC f H)(q:∀(i:Str)(h:Hp),zu xs ps m c i->But f H h->TabOk lamP mC f h->Q (.str i) h):W7 C f [.ref o,.int m,.ref r] H Q E:=#[o,r,m,us,c,xs,ps,rfl,hw,l,a,e,u,j,n,q]
def zx(T:Txt K mg a)(L:Jy a.ql base mg c Pt):aO P w K mg base aW 10 a.vM a.Ma ["_law_made", "_law_road", "_law_things"] (W7 a.bx Pt):=by
 exists T.sH.bG,Fe
 ·obtain⟨o,r,m,us,G,M,N,rfl,hw,hX,J,U,hR,aa,hT,q⟩:=h;refine#[_,(aK (bF (i:=3) Fe.nd rfl (Or.inl rfl) (bw (qhN hr.gd hr.units) rfl T.nu.repr boot_repr (ak (aj 2) aq)))
   (aK (bF (i:=4) Fe.nd rfl (Or.inl rfl) cZ)
   (aK (qop (i:=5) rfl rfl rfl Fe.nd rfl rfl (λR pn xe O=>(aF (bU (bN lO (aj 1) aH (bV _)) (aF (eE (Rk O rfl (qsq (L:=L) (K:=K) T) hr.d rfl T.qeO T.Mw.kp T.qeN (ak (aj 0) (ak (bQ (bT (K:=K) rfl) (aj 2) aH (λ_ _=>rfl)) aq))))) (aF (bU (bN lO (aj 1) aH (bV _)) (aF (eE (Rk O rfl (qrp T) hr.d rfl T.qeo T.Uv.kp T.qen (ak (aj 0) (ak (bQ (bT (K:=K) rfl) (aj 2) aH (λ_ _=>rfl)) (ak (bQ (bT (K:=K) rfl) (aj 2) aH (λ_ _=>rfl)) (ak (bQ (bT (K:=K) rfl) (aj 2) aH (λ_ _=>rfl)) aq))))))) (aF (eE (Rk O rfl (qsr T) hr.d rfl T.qeU T.Vd.kp T.qeT (ak (aj 0) (ak (bQ (bT (K:=K) rfl) (aj 2) aH (λ_ _=>rfl)) aq)))))))))) rfl T.Vv T.yG (λe=>(aF (bF (i:=4) Fe.nd rfl (Or.inl rfl) (qor (qsw T) hr.d rfl T.qe4 T.Vk.kp T.qe3 (ak (aj 5) aq))))))
   (aK (bU (bN jC (bw (qhN hr.gd hr.units) rfl T.nu.repr boot_repr (ak (aj 2) aq)) (aj 3) (bV _)) (aF (aX cZ)) cA)
   (aF (aX (aj 4))))))),?_]
  have s5:(100000:Nat)<=sizeLine:=by decide
  have O:aV H (.list G) (.ref r):=by simp only[aV];exact#[r,us,rfl,U,hR.x.1]
  have Y:bK 31 100000 (.list G):=bK.list (k:=30) (n:=30000) aa (by have:=hR.x.2;lia);left;refine#[.list G,O,Y.sh,qv7 Y.dp (by decide),qv7 Y.ln (by decide),?_];generalize W8:tH (tK (iK (dX pJ (nR qhM (ju (fVar 2) jg)) (fVar 3))) _ _) _ _=Nx;have tail:∀(I:Str)(o5:Option V)(H':Hp),zu M N m G I->But Pt H H'->TabOk lamP mC Pt H'->Nx [some (.ref o),some (.int m),some (.ref r),some (.str (PyData.list G).shown),some (.str I),o5] H':=by
   intro I o5 H' hW B' T';subst W8;left;refine#[.list G,qsx hT.tb B' O,Y.sh,qv7 Y.dp (by decide),qv7 Y.ln (by decide),false,by simp,aM.neg rfl ?_];left;exact q _ _ hW B' T'
  have N7:∀{D:Qv},D∈sG a->D≠a.bC:=λh z=>(qwC.mp T.nd).1 (z▸h);have go:∀(C:Qv)(od:wJ)(I:Str),clsOf a.fM a.gk a.gF a.dF C I->zu M N m G I->∀H3,Same H H3->
    Jd 5 K a.bC (λe=>wQ (qcW (qhL a.fM a.gk a.gF a.dF e) (ju (fVar 5) jg)) (wO 4)) {nx:=Nx,rt:=Q} [some (.ref o),some (.int m),some (.ref r),some (.str (PyData.list G).shown),some (.str (Str.ofString "told")),none] C od H3:=λC od I hC hW H3 S3=>by
   have ae:(jZ K C/\W.mroIn K C (.ref a.bC)=some true/\C≠a.bC):=by
    rcases hC with⟨rfl,_⟩|⟨rfl,_⟩|⟨rfl,_⟩|⟨rfl,_⟩
    ·exact#[jZ.of T.yH,by rw[T.wk.mro];simp,N7 (by simp[sG])]
    ·exact#[jZ.of T.wj,by rw[T.wu.mro];simp,N7 (by simp[sG])]
    ·exact#[jZ.of T.yI,by rw[T.wz.mro];simp,N7 (by simp[sG])]
    ·exact#[jZ.ofX T.MJ T.oO,by rw[T.oO.mro];simp,N7 (by simp[sG])]
   refine#[ae,λex af=>?_];generalize GC:upd H3 ex (lV ex C od)=H4;obtain⟨se,ee⟩:=cQ af GC;left;refine#[C,od,_,rfl,hC,ee,λH5 s5=>?_];left;have S5:=S3.trans (se.trans s5);exact tail _ _ H5 hW (λb u _ e=>S5 b u e) (hT.same S5)
  rcases hR with⟨m1,a0,d,v,rfl,rfl,hd⟩|⟨rfl,d,e,f,v,u,z,rfl,rfl,hd,he,hf,ac,ab⟩
  ·rcases a0 with rfl|rfl
   ·refine aM.pos rfl ?_;left;refine#[_,.inl (au.of U),_,cV (j:=0) rfl,o,v,d,M,N,rfl,hw,hX,hd,J.len,hT,λy B l=>#[_,rfl,go _ _ _ (.inl #[rfl,rfl]) (.inl #[rfl,d,rfl,.inl #[y,rfl]]) B l],λy t B B7 T7=>?_];left;exact tail _ none B (.inl #[rfl,d,rfl,.inr #[y,rfl]]) B7 T7
   ·refine aM.neg rfl ?_;left;refine#[_,.inl (au.of U),_,cV (j:=0) rfl,o,v,d,M,N,rfl,hw,hX,J,hd,λy B l=>#[_,rfl,go _ _ _ (.inr (.inr (.inl #[rfl,rfl]))) (.inr (.inr #[rfl,d,rfl,.inl #[y,rfl]])) B l],λy B l=>#[λt=>?_,λdx=>#[_,rfl,go _ _ _ (.inr (.inr (.inr #[rfl,rfl]))) (.inr (.inr #[rfl,d,rfl,.inr #[y,.inr rfl]])) B l]]];left;exact tail _ none B (.inr (.inr #[rfl,d,rfl,.inr #[y,.inl rfl]])) (But.of l) (hT.same l)
  ·refine aM.neg rfl ?_;left;refine#[_,.inl (au.of U),_,cV (j:=0) rfl,_,.inl (au.of U),_,cV (j:=1) rfl,_,.inl (au.of U),_,cV (j:=2) rfl,o,v,u,z,d,e,f,M,N,rfl,hw,hX,J,hd,he,hf,ac,ab,λy B l=>#[_,rfl,go _ _ _ (.inl #[rfl,rfl]) (.inr (.inl #[rfl,d,e,f,rfl,.inl #[y,rfl]])) B l],λy h2 B l=>#[_,rfl,go _ _ _ (.inr (.inl #[rfl,rfl])) (.inr (.inl #[rfl,d,e,f,rfl,.inr (.inl #[y,h2,rfl])])) B l],λy h2 t B l=>?_];left;exact tail _ none B (.inr (.inl #[rfl,d,e,f,rfl,.inr (.inr #[y,h2,rfl])])) (But.of l) (hT.same l)
def bA.lA(h:bA H p)(s:Same H a):bA a p:=by
 obtain⟨x,y,e,z⟩:=h;exact#[x,y,s _ _ e,z]
def bA.ex(h:bA H p):∃o,H p=some o:=by
 obtain⟨x,y,u,_⟩:=h;exact#[_,u]
theorem bA.lst(h:bA H p):∃xs,H p=some (.lst xs):=by
 obtain⟨x,y,u,_⟩:=h;exact#[_,u]
structure zy(n:Nat)(d:PyData):Prop where
 no:cR n d=false
 sm:bK 30 30000 d
def GR(a:sU d=false)(c:bK 30 30000 d):zy n d:=#[by unfold cR;rw[a];rfl,c]
def W_(h:(kids d).length≠n)(a:bK 30 30000 d):zy n d:=#[by unfold cR;rw[qwh h];simp,a]
def Xa(e:c∈kids d)(h:lg c=false)(a:bK 30 30000 d):zy n d:=#[by
 unfold cR;have:(kids d).all lg=false:=by rw[List.all_eq_false];exact#[c,e,by rw[h];simp]
 rw[this];simp,a]
def Xb(c:0<=i)(a:i<=20):bK 0 100 (.int i):=by
 obtain⟨n,rfl⟩:∃n:Nat,i=(n:Int):=#[i.toNat,⋯];have h:n<=20:=⋯
 have z:∀n,n<=20->(PyData.int (n:Nat)).showable=true/\(PyData.int (n:Nat)).depth<=0/\(PyData.int (n:Nat)).shown.length<=100:=by symm
 exact#[(z n h).1,(z n h).2.1,(z n h).2.2]
def GX(h:∀c∈a,bK 29 300 c)(e:a.length<=60):bK 30 30000 (.list a):=bK.list h ⋯
def Xc(h:∀c∈a,bK 29 300 c)(e:a.length<=60):bK 30 30000 (.tuple a):=bK.tuple h ∅
def qhP{ns:qZ}(a:∀n∈ns,0<=n/\n<=1):∀c∈ns.map PyData.int,bK 0 100 c:=λc f=>by
 obtain⟨i,e,rfl⟩:=qwr.mp f;have:=a i e;exact Xb ⋯ ⋯
def lit(d:PyData)(e:d.showable=true:=by symm)(c:d.depth<=3:=by symm)(a:d.shown.length<=100:=by symm):bK 3 100 d:=#[e,c,a]
def CJ(h:bK k 100 d)(a:k<=3):bK 29 300 d:=h.mono ⋯ (by decide)
def sY(h:bK 3 100 d):bK 30 30000 d:=h.mono (by decide) (by decide)
def Xd{H:Hp}{r:Qv}{ns:qZ}(h:H r=some (.lst (ns.map V.int))):aA H (.list (ns.map PyData.int)) (.ref r):=by
 simp only[aA];exact#[r,_,rfl,h,aR.ints H ns]
def qsy(d:PyData):Prop:=lg d=false/\bK 3 100 d
inductive qhQ:Sp
 |mk (p r:Qv) (ns:qZ) (_:vs=[.ref p,.ref r]) (_:bA H p) (_:H r=some (.lst (ns.map V.int))) (_:r≠p) (_:ns.length<=20) (_:(∀n∈ns,0<=n/\n<=1)) (_:∀(v:V)(d:PyData)(H':Hp),aA (hid p H') d v->zy ns.length d->bA H' p->But p H H'->Q v H'):qhQ vs H Q E
def qsz(T:Txt K mg a):aO P w K mg base aW 2 a.vN a.Mf ["_law_pot_here", "_law_row"] qhQ:=by
 exists T.Vl.bG,Fg
 ·obtain⟨p,r,e,rfl,hp,B,rp,yR,ap,q⟩:=h;refine#[_,(@nj.out _ _ _ (yq (Er (i:=2) Fg.nd rfl (Or.inl rfl) (Es (Ep (cG tD (cG eX (cG aH (cG (bI qpG cZ (bw (cW (K:=K) rfl) rfl T.nm.len qv9 (ak (aj 1) aq))) (cG (bI ug (aj 1) (cM (ak aH aq))) (cG (bI Rz (mL DW rfl T.nm.tuple boot_tuple (ak (aj 1) aq)) (dY (ak aH aq))) (cG (cM (ak (aj 1) aq)) (cG Qk Eo)))))))))))
   (yq (qpD (bN (qnI (K:=K) rfl hr.units) (aj 1) (cM aq) (bV _)) (yq (Ba.mk (bF (i:=3) Fg.nd rfl (Or.inl rfl) (aL (gZ T) hr T.gH T.gw T.gG (ak (aj 0) (ak (bw (cW (K:=K) rfl) rfl T.nm.len qv9 (ak (aj 1) aq)) aq)))))
   (yq (Er (i:=4) Fg.nd rfl (Or.inl rfl) (qpF (bT (K:=K) rfl) (Es (Ep (cG eX (cG eX (cG aH (cG (Hi Ih aH) (cG tD (cG cZ (cG (cM (ak aH aq)) Eo))))))))) (m_.mk (aL (gZ T) hr T.gH T.gw T.gG (ak (aj 0) (ak aH aq)))) (λ_ _=>rfl)))
   (qpC (Er (i:=2) Fg.nd rfl (Or.inl rfl) (qpE ug (m_.mk (aj 2)) (Es (Ep (cG (tU (Am (K:=K) rfl) (aj 1) (PO.eqv (qO aH) (rE _)) xg) (cG (bI ug (bI ug (tU (Am (K:=K) rfl) (aj 1) xg (PO.eqv (qO (aj 3)) (rE _))) (cM (ak (aj 4) aq))) (tU (Am (K:=K) rfl) (aj 1) (PO.eqv (qO (bI mY (aj 3) aH)) (rE _)) xg)) (cG (bI Rz (bI Rz (mL DW rfl T.nm.tuple boot_tuple (ak (tU (Am (K:=K) rfl) (aj 1) xg (PO.eqv (qO (aj 3)) (rE _))) aq)) (dY (ak (aj 4) aq))) (mL DW rfl T.nm.tuple boot_tuple (ak (tU (Am (K:=K) rfl) (aj 1) (PO.eqv (qO (bI mY (aj 3) aH)) (rE _)) xg) aq))) Eo)))))))))) (nj.mk cA))
   (nj.mk (aF (aX (bQ (bT (K:=K) rfl) (aj 2) (aL (gZ T) hr T.gH T.gw T.gG (ak (aj 0) (ak (bw (cW (K:=K) rfl) rfl T.nm.len qv9 (ak (aj 2) aq)) aq))) (λ_ _=>rfl)))))))),?_]
  have oW:60<=sizeLine:=by decide
  have tr:aA (hid p H) (.list (e.map PyData.int)) (.ref r):=Xd (fW rp B);have sl:=qhP ap;have o:∀c∈e.map PyData.int,bK 29 300 c:=λc f=>CJ (sl c f) (by decide);have v1:∀{o2 o3 o4:Option V},GD p (fVar 1) [some (V.ref p),some (V.ref r),o2,o3,o4] H (.list (e.map PyData.int)):=Eh rfl tr;left;refine Jw (φ:=zy e.length) (p:=p) (n:=8) (
   dN (dO Ji (GR rfl (sY (lit .none)))) <|
   dN (dO Ax (GR rfl (sY (lit (.bool true))))) <|
   dN (dO iZ (GR rfl (sY (lit (.int 0))))) <|
   dN (qpS (k:=e.length) yc (by have:=qpR (K:=K) (v1 (o2:=none) (o3:=none) (o4:=none));rw[qv1] at this;exact this) ⋯ (by show 1 * e.length<=_;lia) (λz hz=>GR rfl (by
    have f:∀c∈z.cps.toList,c=48:=λc f=>by
     rw[hz,List.mem_flatten] at f;obtain⟨l,hl,f⟩:=f;obtain rfl:=List.eq_of_mem_replicate hl;rw[show(Str.ofString "0").cps.toList=[48] by symm,qv6] at f;exact f
    have hl:z.length=e.length:=by
     have:=qws List.length hz;rw[List.length_flatten,List.map_replicate,List.sum_replicate_nat,show(Str.ofString "0").cps.toList.length=1 by symm] at this;show z.cps.size=_;rw[qys] at this;lia
    exact(bK.str (n:=300) (λc h=>by rw[f c h];decide) ⋯).mono (by decide) (by decide)))) <|
   dN (dO (RG v1 (Aw (pU iZ pR) (by simp)) (by simp;lia)) (W_ (by simp[kids]) (GX (λc f=>by
    rcases qwc.mp f with h|h
    ·exact o c h
    ·rw[qv6] at h;subst h;exact CJ (lit (.int 0)) (by decide)) (by simp;lia)))) <|
   dN (dO (RK hp.lst (RL hp.lst v1) (Jh (pU iZ pR) (by simp)) (by simp;omega)) (W_ (by simp[kids]) (Xc (λc f=>by
    rcases qwc.mp f with h|h
    ·exact o c h
    ·rw[qv6] at h;subst h;exact CJ (lit (.int 1)) (by decide)) (by simp;omega)))) <|
   dN (dO (Aw (pU v1 pR) (by simp)) (Xa (c:=.list (e.map PyData.int)) (by simp[kids]) rfl (bK.list (k:=29) (n:=29000) (m:=30000) (λc f=>by
    rw[qv6] at f;subst f;exact(bK.list (k:=0) (n:=100) (m:=29000) sl (by rw[qv1];lia)).mono (by decide) (by decide)) (by simp)))) <|
   dN (dO RD (GR rfl (sY (lit (.dict []))))) Jv) hp.ex (by decide) λb vs H1 hb s1 hn e1 a1=>?_
  have bp:b≠p:=lW hp.ex (Same.refl _) hb;generalize W8:ZJ (dX (QM K) (fVar 2) _) _=Nx;have tail:∀(c:Qv)(O:kE)(o3 o4:Option V)(U:Hp),c≠p->U c=some (.lst O)->0<O.length->O.length<=100->pZ (zy e.length) (hid p U) O->bA U p->But p H U->Nx [some (.ref p),some (.ref r),some (.ref c),o3,o4] U:=by
   intro c O o3 o4 U cp f h0 h1 hW hP hB;subst W8;left;refine#[_,.inl (au.of f),p,_,rfl,hP,⋯,⋯,λk H2 I G u L=>?_];obtain⟨v,hv,ha⟩:=Jt (n:=O.length) rfl I G;obtain⟨d,al,ai⟩:=hW v hv;exact#[_,.inl (au.of (L _ _ cp f)),v,ha,q v d H2 (aA.same (mZ L) d v al) ai u (hB.trans L)]
  intro c f;generalize jK:upd H1 c (.lst [])=H2;obtain⟨s2,e2⟩:=cQ f jK;have S2:=s1.trans s2;have u:=hp.lA S2;have r2:=S2 _ _ B;have ag:PyData.canLay0 (.list (iu e))=true:=by simp[PyData.canLay0,lay_ints]
  have ac:(PyData.list (iu e)).depth<=64:=by
   have:=qbS e;simp[PyData.depth];lia
  refine#[.list (iu e),#[r,_,rfl,au.of r2,qbR _],.list [],#[c,_,rfl,au.of e2,rfl],ag,rfl,ac,!decide (e=[]),by
   simpa [PyData.eqv,iu] using qbT e [],?_]
  by_cases D:e=[]
  ·rw[qwv D];refine aM.neg rfl ?_;left;exact tail b vs _ _ H2 bp (s2 _ _ e1) ⋯ ⋯ (a1.same (eN s2)) u (But.of S2)
  ·rw[qwh D];refine aM.pos rfl ?_;have n0:0<e.length:=List.length_pos_iff.mpr D;left;refine#[_,.inl (au.of r2),p,_,rfl,u,by simp;omega,by simp;lia,λj0 H3 aw af iT J=>?_];rw[qv1] at af;obtain⟨j,rfl⟩:∃j:Nat,j0=(j:Int):=#[j0.toNat,⋯];have B3:=(But.of S2).trans J;left;refine Jw (φ:=qsy) (p:=p) (n:=7) (
    dN (dO Ax #[rfl,lit _]) <| dN (dO Ax #[rfl,lit _]) <| dN (dO iZ #[rfl,lit _]) <|
    dN (dO (RN iZ) #[rfl,lit _]) <| dN (dO Ji #[rfl,lit _]) <| dN (dO yc #[rfl,lit _]) <|
    dN (dO (Aw (pU iZ pR) (by simp)) #[rfl,lit _]) Jv) iT.ex (by decide) λb4 w4 H4 am s4 sI e4 a4=>?_
   have as:b4≠p:=lW iT.ex (Same.refl _) am;refine#[p,7,rfl,iT.lA s4,by decide,by decide,λk5 H5 I G M jc=>?_];obtain⟨y,ae,an⟩:=Jt (n:=7) sI I G;obtain⟨N,ah,C⟩:=a4 y ae;refine#[_,.inl (au.of (jc _ _ as e4)),y,an,?_];have B5:=(B3.same s4).trans jc;have t5:=aA.same (mZ jc) N y ah;have Je:aA (hid p H5) (.list (e.map PyData.int)) (.ref r):=Xd (fW rp (B5 _ _ rp B));left;have ar:=jc _ _ bp (s4 _ _ (J _ _ bp (s2 _ _ e1)));have av:=((((a1.same (eN s2)).same (mZ J)).same (eN s4)).same (mZ jc));have Y:GD p (fVar 1) [some (V.ref p),some (V.ref r),some (V.ref b),some (V.int j),some y] H5 (.list (e.map PyData.int)):=Eh rfl Je;have w3:GD p (fVar 3) [some (V.ref p),some (V.ref r),some (V.ref b),some (V.int j),some y] H5 (.int (j:Nat)):=Eh rfl (by simp[aA]);have w4:GD p (fVar 4) [some (V.ref p),some (V.ref r),some (V.ref b),some (V.int j),some y] H5 N:=Eh rfl t5;have w5:GD p (dX (jB λi j=>V.int (i+j)) (fVar 3) (tC (V.int 1))) [some (V.ref p),some (V.ref r),some (V.ref b),some (V.int j),some y] H5 (.int ((j+1:Nat):Int)):=qpQ w3 iZ;have hm:∀c∈((e.map PyData.int).take j++[N])++(e.map PyData.int).drop (j+1),bK 29 300 c:=λc f=>by
    simp only[qwc,qv6] at f
    rcases f with(h|h)|h
    ·exact o c (List.mem_of_mem_take h)
    ·exact h▸CJ C.2 (by decide)
    ·exact o c (List.mem_of_mem_drop h)
   have a0:(((e.map PyData.int).take j++[N])++(e.map PyData.int).drop (j+1)).length<=60:=by simp;lia
   have aa:N∈((e.map PyData.int).take j++[N])++(e.map PyData.int).drop (j+1):=by simp
   refine Jw (φ:=zy e.length) (p:=p) (n:=3) (
    dN (dO (RM (j:=1) Y iZ) (W_ (by simp[kids];lia) (GX (λc f=>o c (List.mem_of_mem_drop f)) (by simp;lia)))) <|
    dN (dO (RG (RG (qdt Y w3) (Aw (pU w4 pR) (by simp)) (by simp;lia)) (RM Y w5) (by simp;lia)) (Xa aa C.1 (GX hm a0))) <|
    dN (dO (RK M.lst (RK M.lst (RL M.lst (qdt Y w3)) (Jh (pU w4 pR) (by simp)) (by simp;omega)) (RL M.lst (RM Y w5)) (by simp;omega)) (Xa aa C.1 (Xc hm a0))) Jv) M.ex (by decide) λb6 w6 H6 ax s6 MP e6 a6=>?_
   refine#[_,s6 _ _ ar,_,e6,⋯,λb7 ab=>?_];have s7:Same H6 (upd H6 b7 (.lst (vs++w6))):=aJ ab;exact tail b7 (vs++w6) _ _ _ (lW M.ex s6 ab) aB (by rw[qwm];lia) (by rw[qwm];lia) (((av.same (eN s6)).app a6).same (eN s7)) (M.lA (s6.trans s7)) (B5.same (s6.trans s7))
def gY.name(h:nameB x=true):gY 4 x:=by
 unfold nameB at h;simp only[qwA,qwx] at h;refine#[λc a=>?_,h.1.2];have:=qbu (qwa.mp h.2 c a);have:(16:Nat) ^ 8=4294967296:=by decide
 lia
def qsB(h:jj c=true):c∈("abcdefghijklmnopqrstuvwxyz" : Str).cps.toList:=by
 rw[qbt] at h;exact qwp h
def N8(h:jj c=true):Unicode.upperOf c=[c - 32]/\jj (c - 32)=false:=by
 have z:∀c∈("abcdefghijklmnopqrstuvwxyz" : Str).cps.toList,Unicode.upperOf c=[c - 32]/\jj (c - 32)=false:=by symm
 exact z c (qsB h)
def Xe:e∈(placed x λ_ c=>Unicode.upperOf c).toList↔∃c∈x.cps.toList,e∈Unicode.upperOf c:=by
 unfold placed;rw[qxb,Array.mem_flatten];constructor
 ·rintro⟨l,j,a⟩;obtain⟨i,h,rfl⟩:=Array.mem_mapIdx.mp j;exact#[x.cps[i],by simp,by simpa using a]
 ·rintro⟨c,f,a⟩;rw[qxb] at f;obtain⟨i,h,rfl⟩:=Array.mem_iff_getElem.mp f;exact#[_,Array.mem_mapIdx.mpr #[i,h,rfl],by simpa using a]
def qsC(h:nameB x=true):nameB #[placed x λ_ c=>Unicode.upperOf c]=false:=by
 have l:=h;unfold nameB at h;simp only[qwA,qwx] at h;have a:x.cps[0]?≠none:=by
  have j:1<=x.cps.size:=h.1.1;rw[Array.getElem?_eq_getElem (show 0<x.cps.size from j)];simp
 obtain⟨c,a⟩:=Option.ne_none_iff_exists'.mp a;have f:c∈x.cps.toList:=by rw[qxb];exact Array.mem_of_getElem? a
 have i:=qwa.mp h.2 c f;cases e:nameB #[placed x λ_ c=>Unicode.upperOf c] with
 |false=>rfl
 |true=>
  unfold nameB at e;simp only[qwA] at e;have:=qwa.mp e.2 (c - 32) (Xe.mpr #[c,f,by rw[(N8 i).1];simp]);rw[(N8 i).2] at this;cases this
def qhR(h:nameB x=true):gY 12 #[placed x λ_ c=>Unicode.upperOf c]:=by
 have L:=gY.name h;refine#[λe a=>?_,?_]
 ·obtain⟨c,f,a⟩:=Xe.mp a;unfold nameB at h;simp only[qwA] at h;rw[(N8 (qwa.mp h.2 c f)).1,qv6] at a;have:=L.cp c f;omega
 ·have i:(placed x λ_ c=>Unicode.upperOf c).size<=3 * x.length:=PyProof.Rows.placed_le3 x _ λ_ c=>StrLaws.upperOf_le3 c;have:=L.ln;show(placed x λ_ c=>Unicode.upperOf c).size<=12;lia
def qhS(h:e∈(Txt.slice x l u).cps.toList):e∈x.cps.toList:=by
 unfold Txt.slice at h;split at h
 ·exact h
 ·rw[List.mem_filterMap] at h;obtain⟨i,_,h⟩:=h;rw[qxb];exact Array.mem_of_getElem? h
def qhT(h:gY n x):gY n (Txt.slice x l u):=#[λc a=>h.cp c (qhS a),qv7 (Txt.slice_le x l u) h.ln]
def no_space:nameB (Str.ofString " " ++x)=false:=by
 cases e:nameB (Str.ofString " " ++x) with
 |false=>rfl
 |true=>
  unfold nameB at e;simp only[qwA] at e;have:=qwa.mp e.2 32 (show 32∈((Str.ofString " ").cps++x.cps).toList by simp;exact .inl (by symm));exact absurd this (by symm)
def qsD:nameB (x++Str.ofString "aaaa")=false\/x.length=0:=by
 have a:(x++Str.ofString "aaaa").length=x.length+4:=qxw
 by_cases h:x.length=0
 ·exact .inr h
 ·unfold nameB;rw[qwh (p:=(x++Str.ofString "aaaa").length<=4) ⋯];simp
def Xf(h:PyData.strOk x=true)(k:PyData.strOk y=true):PyData.strOk (x++y)=true:=by
 have e:(x++y).cps=x.cps++y.cps:=rfl;unfold PyData.strOk at *;rw[e,Array.all_append,h,k];rfl
def qhU(h:∀c∈x.cps.toList,c<0x110000):PyData.strOk x=true:=by
 unfold PyData.strOk;rw[Array.all_eq_true'];exact λc a=>qwv (h c (qxb.mpr a))
def qhV(h:PyData.strOk x=true):∀c∈x.cps.toList,c<0x110000:=λc a=>by
 unfold PyData.strOk at h;rw[Array.all_eq_true'] at h;exact qwp (h c (qxb.mp a))
def qhW(h:PyData.strOk x=true):PyData.strOk (Txt.slice x l u)=true:=qhU λc a=>qhV h c (qhS a)
def qsE(h:nameB x=true):PyData.strOk #[placed x λ_ c=>Unicode.upperOf c]=true:=qhU λe a=>by
 obtain⟨c,f,a⟩:=Xe.mp a;have i:=qhV (q_ h) c f;unfold nameB at h;simp only[qwA] at h;rw[(N8 (qwa.mp h.2 c f)).1,qv6] at a;omega
structure CK(xs:QAH)(d:PyData):Prop where
 no:qu xs d=false
 sm:bK 30 30000 d
 sh:oZ d
 ni:RP d
def zA(a:V8 d=false)(c:bK 30 30000 d)(f:d.canLay0=true\/d = .dict []\/∃x i,d = .dict [(.str x,.int i)]):CK xs d:=#[(by cases d <;> first|rfl|cases a),c,(λx e=>by subst e;cases a),#[qv7 c.dp (by decide),f]]
def GZ(h:x∉xs)(L:gY n x)(a:PyData.strOk x=true)(c:n<=20):CK xs (.str x):=by
 have:=L.ln;exact#[by simp only[qu];exact qwh h,(bK.str (n:=300) L.cp ⋯).mono (by decide) (by decide),(λy e=>by injection e with e;subst e;exact qv7 (show _<=20 by lia) (by decide)),#[qwF _,.inl a]]
def N_(a:dU xs)(h:nameB x=false):x∉xs:=λz=>by
 rw[a.nm x z] at h;cases h
def qsF(i:GD p t σ H (.str x))(h:(placed x λ_ c=>Unicode.upperOf c).size<=sizeLine):GD p (Pq K "str" qdo t) σ H (.str #[placed x λ_ c=>Unicode.upperOf c]):=λl Q f s q=>
 i l _ f s λv j e a=>by
  simp only[aA] at a;subst a;exact#[rfl,rfl,h,q _ j e (by simp[aA])]
def qsG{H:Hp}{p r:Qv}{xs:QAH}(c:bA H p)(h:H r=some (.lst (xs.map V.str)))(f:1<=xs.length):r≠p:=λz=>by
 obtain⟨x,y,e,_⟩:=c;rw[z,e] at h;cases xs with
 |nil=>simp at f
 |cons a l=>simp at h
def Xg(h:nameB x=true):bK 0 100 (.str x):=by
 have L:=gY.name h;have:=L.ln;exact bK.str L.cp ⋯
inductive qhX:Sp
 |mk (p t n l:Qv) (xs:QAH) (_:vs=[.ref p,.ref t]) (_:bA H p) (_:H t=some (.tup [.ref n,.ref l])) (_:H n=some (.lst (xs.map V.str))) (_:dU xs) (_:∀(v:V)(d:PyData)(H':Hp),dg (hid p H') d v->CK xs d->bA H' p->But p H H'->Q v H'):qhX vs H Q E
def qsH(T:Txt K mg a):aO P w K mg base aW 2 a.vO a.Mg ["_law_pot_here", "_law_web_here"] qhX:=by
 exists T.Vm.bG,Kh
 ·obtain⟨p,t,n,l,D,rfl,hp,ht,U,Y,q⟩:=h;refine#[_,(@nj.out _ _ _ (yq (Ba.mk (bF (i:=2) Kh.nd rfl (Or.inl rfl) (bQ (bT (K:=K) rfl) (bQ (bT (K:=K) rfl) (aj 1) aH (λ_ _=>rfl)) (aL (gZ T) hr T.gH T.gw T.gG (ak (aj 0) (ak (bw (cW (K:=K) rfl) rfl T.nm.len qv9 (ak (bQ (bT (K:=K) rfl) (aj 1) aH (λ_ _=>rfl)) aq)) aq))) (λ_ _=>rfl))))
   (yq (Er (i:=3) Kh.nd rfl (Or.inl rfl) (Es (Ep (cG tD (cG aH (cG eX (cG cZ (cG (bI Ig (aj 2) cZ) (cG (qlO (K:=K) rfl PySem.F.plainAttrs_str PySem.F.slot_str_upper PySem.F.type_str_upper qpH (aj 2)) (cG (bI Ig cZ (aj 2)) (cG (cM (ak (aj 2) aq)) (cG (dY (ak (aj 2) aq)) (cG Qk (cG (qbi (qbe (aj 2) aH qbd) rfl rfl (by simp) (by decide)) Eo))))))))))))))
   (nj.mk (aK (jT qwI rfl (dD (K:=K) (cM (ak (tU qdj (bI Ig (aj 2) cZ) xg (PO.eqv (qO aH) (rE _))) (ak (tU qdj (aj 2) xg (PO.eqv (qO aH) (rE _))) (ak (bQ Q5 cZ (aL (gZ T) hr T.gH T.gw T.gG (ak (aj 0) (ak aH aq))) (λ_ _=>rfl)) aq))))) (eF (i:=4) Kh.nd rfl (Or.inl rfl))
   (aF (bU (bN (DR (K:=K) rfl) (aj 4) (bQ (bT (K:=K) rfl) (aj 1) aH (λ_ _=>rfl)) rfl) (aF (eE (jW (K:=K) rfl qwz qwY qwZ xU (aj 3) (ak (aj 4) aq)))) cA)))
   (aF (aX (bQ (bT (K:=K) rfl) (aj 3) (aL (gZ T) hr T.gH T.gw T.gG (ak (aj 0) (ak (bw (cW (K:=K) rfl) rfl T.nm.len qv9 (ak (aj 3) aq)) aq))) (λ_ _=>rfl))))))))),?_]
  have oW:60<=sizeLine:=by decide
  have l9:=Y.len;have np:=qsG hp U l9.1;have tp:t≠p:=RJ hp.lst (Same.refl _) ht;left;refine#[_,.inr (aQ.of ht),_,rfl,?_];refine#[_,.inr (aQ.of ht),_,rfl,_,.inl (au.of U),p,_,rfl,hp,by simp;lia,by simp;lia,λk1 H1 aa I kZ i_=>?_];rw[qv1] at I;obtain⟨f,a0⟩:∃f,D[k1.toNat]? = some f:=#[_,qwi (show k1.toNat<D.length by lia)];have ac:=qvX a0;have B:=Y.nm f ac;have n1:=i_ _ _ np U;have t1:=i_ _ _ tp ht;have L:=gY.name B;have L4:=L.ln;have oN:=q_ B;refine#[_,.inl (au.of n1),.str f,?_,?_]
  ·rw[show k1=(k1.toNat:Int) by lia];exact cV (by rw[qv8,a0];rfl)
  left;have N:GD p (fVar 2) [some (V.ref p),some (V.ref t),some (V.str f),none,none] H1 (.str f):=Eh rfl (by simp[aA]);have la:∀x y:Str,(x++y).length=x.length+y.length:=λx y=>qxw;have nl:nameB (f++Str.ofString "aaaa")=false:=qsD.resolve_right λz=>by unfold nameB at B;simp[z] at B
  have oL:∀{ds:List PyData},PyData.canLayAll0 ds=true->(PyData.list ds).canLay0=true/\(PyData.tuple ds).canLay0=true:=λh=>#[h,h];have o1:PyData.canLayAll0 [.str f]=true:=by simp[PyData.canLayAll0,PyData.canLay0,oN]
  have m1:∀c∈[PyData.str f],bK 29 300 c:=λc o=>by rw[qv6] at o;subst o;exact CJ (Xg B) (by decide)
  refine qp1 (φ:=CK D) (p:=p) (n:=11) (
   oJ (p7 Ji (zA rfl (sY (lit _)) (.inl rfl))) <|
   oJ (p7 iZ (zA rfl (sY (lit _)) (.inl rfl))) <|
   oJ (p7 Ax (zA rfl (sY (lit _)) (.inl rfl))) <|
   oJ (p7 yc (GZ (n:=0) (N_ Y (by symm)) #[by symm,by symm] (by symm) (by decide))) <|
   oJ (p7 (qc1 N yc (by show f.length+4<=_;lia)) (GZ (n:=4+4) (N_ Y nl) (L.app #[by symm,by symm]) (Xf oN (by symm)) (by decide))) <|
   oJ (p7 (qsF N (by have:(placed f λ_ c=>Unicode.upperOf c).size<=12:=(qhR B).ln;lia)) (GZ (N_ Y (qsC B)) (qhR B) (qsE B) (by decide))) <|
   oJ (p7 (qc1 yc N (by show 1+f.length<=_;lia)) (GZ (n:=1+4) (N_ Y no_space) (gY.app #[by symm,by symm] L) (Xf (by symm) oN) (by decide))) <|
   oJ (p7 (Aw (pU N pR) (by simp)) (zA rfl (GX m1 (by simp)) (.inl o1))) <|
   oJ (p7 (Jh (pU N pR) (by simp)) (zA rfl (Xc m1 (by simp)) (.inl o1))) <|
   oJ (p7 RD (zA rfl (sY (lit _)) (.inr (.inl rfl)))) <|
   oJ (qp0 N (zA rfl ((qpP (k:=0) (n:=100) (m:=1000) (λe he=>by rw[qv6] at he;subst he;exact#[Xg B,Xb (Int.le_refl 0) (by decide)]) (by simp)).mono (by decide) (by decide)) (.inr (.inr #[f,0,rfl])))) qpZ) kZ.ex (by decide) λb vs H2 hb s2 ar e2 a2=>?_
  have bp:b≠p:=lW kZ.ex (Same.refl _) hb;have lb:(f++Str.ofString "b").length<=5:=by rw[la];show f.length+1<=5;lia
  refine#[by show f.length+1<=_;lia,⋯,⋯,p,26,rfl,kZ.lA s2,by decide,by decide,λk3 H3 ap an iT J=>?_];obtain⟨c3,ai,sO⟩:∃c,gM (Str.ofString "abcdefghijklmnopqrstuvwxyz").cps.toList k3=some c/\jj c=true:=by
   obtain⟨j,rfl,hj⟩:∃j:Nat,k3=(j:Int)/\j<26:=#[k3.toNat,⋯,⋯];obtain⟨c,o⟩:∃c,(Str.ofString "abcdefghijklmnopqrstuvwxyz").cps.toList[j]? = some c:=#[_,qwi (show j<(Str.ofString "abcdefghijklmnopqrstuvwxyz").cps.toList.length from hj)];exact#[c,cV o,(show ∀c∈(Str.ofString "abcdefghijklmnopqrstuvwxyz").cps.toList,jj c=true by symm) c (qvX o)]
  refine#[by symm,c3,ai,?_];left;obtain⟨r,am,ah,ag⟩:∃r:QAH,[V.str (Txt.slice (f++Str.ofString "b") none (some 4)),V.str (Txt.slice f none (some 1)),V.str #[[c3].toArray]]=r.map V.str/\r.length=3/\∀x∈r,gY 5 x/\PyData.strOk x=true:=by
   refine#[[_,_,_],rfl,rfl,λx O=>?_];simp only[qv0,qwn,qw2] at O;have L5:gY (4+1) (f++Str.ofString "b"):=L.app #[by symm,by symm]
   rcases O with rfl|rfl|rfl
   ·exact#[qhT L5,qhW (Xf oN (by symm))]
   ·exact#[(qhT L).mono (by decide),qhW oN]
   ·have U:nameB #[[c3].toArray]=true:=by
     unfold nameB;simp[sO,Str.length]
    exact#[(gY.name U).mono (by decide),q_ U]
  rw[am];intro g hg;have s4:Same H3 (upd H3 g (.lst (r.map V.str))):=aJ hg;have e4:upd H3 g (.lst (r.map V.str)) g=some (.lst (r.map V.str)):=aB;have b3:=J _ _ bp e2;have a4:oH (CK D) (hid p (hid b (upd H3 g (.lst (r.map V.str))))) vs:=(a2.same (mZ (qdz J))).same (eN (eN s4));have b4:=s4 _ _ b3;generalize upd H3 g (.lst (r.map V.str))=H4 at s4 e4 a4 b4⊢;have jG:=iT.lA s4;have M:But p H1 H4:=((But.of s2).trans J).same s4;have gb:g≠b:=λz=>by rw[z,b3] at hg;cases hg
  have nb:=cF n1 hb;have tb:=cF t1 hb;refine#[#[_,au.of e4],lM (r.map V.str) (λj σ H'=>(∃o4,σ=[some (.ref p),some (.ref t),some (.str f),some (.ref b),o4])/\(∃C,H' b=some (.lst C)/\11<=C.length/\C.length<=11+j/\oH (CK D) (hid p (hid b H')) C)/\H' g=some (.lst (r.map V.str))/\(∀c u,c≠b->H4 c=some u->H' c=some u)) #[#[_,rfl],#[vs,b4,⋯,⋯,a4],e4,λ_ _ _ e=>e] (λi σ H' _ h=>au.of h.2.2.1) ?_ ?_]
  ·rintro j v σ H5 hj ⟨⟨o4,rfl⟩,⟨C,CN,w1,w2,a5⟩,Xh,G⟩;obtain⟨y,hy,rfl⟩:=jy hj;have as:j<3:=by have:=(qvU.mp hy).1;lia
   obtain⟨al,ab⟩:=ag y (qvX hy);left;refine#[_,.inr (aQ.of (G _ _ tb (M _ _ tp t1))),_,rfl,?_];left;refine#[_,.inl (au.of (G _ _ nb (M _ _ np n1))),rfl,qwa.mp (mW _),?_];rw[ou]
   by_cases O:y∈D
   ·refine#[false,by simp[O],aM.neg rfl ?_];left;exact#[#[C,CN,w1,⋯,a5],Xh,G]
   ·refine#[true,by simp[O],aM.pos rfl ?_];left;refine#[#[_,au.of CN],C,CN,⋯,#[C++[.str y],aB,by simp;lia,by simp;lia,(a5.same (eN qp2)).app λv hv=>?_],by rw[aN gb];exact Xh,λc u o e=>by rw[aN o];exact G c u o e];rw[qv6] at hv;subst hv;exact#[.str y,.inl (by simp[aA]),GZ O al ab (by decide)]
  ·rintro σ H5 ⟨⟨o4,rfl⟩,⟨C,CN,w1,w2,a5⟩,Xh,G⟩;rw[qv1,ah] at w2;left;have eV:bA H5 p:=by
    obtain⟨x,y,e,z⟩:=jG;exact#[x,y,G _ _ bp.symm e,z]
   refine#[_,.inl (au.of CN),p,_,rfl,eV,⋯,⋯,λk7 H7 aa I nC jH=>?_];obtain⟨v,hv,ha⟩:=Jt (n:=C.length) rfl aa I;obtain⟨d,af,ae⟩:=a5 v hv;exact#[_,.inl (au.of (jH _ _ bp CN)),v,ha,q v d H7 ((af.same (mZ (qdz jH))).same (eN oF)) ae nC λc u o e=>jH c u o (G c u (cF (i_ c u o e) hb) (M c u o (i_ c u o e)))]
structure Xi(d:PyData):Prop where
 tm:qD d=false
 sm:bK 30 30000 d
def nn(c:qD d=false)(a:bK 3 100 d):Xi d:=#[c,sY a]
def qhY:zU 10 17:=by unfold zU;decide
inductive qhZ:Sp
 |mk (p:Qv) (_:vs=[.ref p]) (_:bA H p) (_:∀(v:V)(d:PyData)(H':Hp),aA (hid p H') d v->Xi d->bA H' p->But p H H'->Q v H'):qhZ vs H Q E
def qsI(T:Txt K mg a):aO P w K mg base aW 2 a.vP a.Mh ["_law_pot_here"] qhZ:=by
 exists T.Vn.bG,qdP
 ·obtain⟨p,rfl,c,q⟩:=h;refine#[_,(@nj.out _ _ _ (yq (Er (i:=1) qdP.nd rfl (Or.inl rfl) (Es (Ep (cG tD (cG eX (cG eX (cG cZ (cG cZ (cG (Hi Ih aH) (cG aH (cG (bI Q0 aH aH) (cG (cM (ak aH aq)) (cG (dY (ak aH aq)) (cG Qk (cG (Hi Ih (bI Q0 aH aH)) Eo)))))))))))))))
   (nj.mk (aF (aX (bQ (bT (K:=K) rfl) (aj 1) (aL (gZ T) hr T.gH T.gw T.gG (ak (aj 0) (ak (bw (cW (K:=K) rfl) rfl T.nm.len qv9 (ak (aj 1) aq)) aq))) (λ_ _=>rfl))))))),?_]
  have G:60<=sizeLine:=by decide
  left;refine Jw (φ:=Xi) (p:=p) (n:=12) (
   dN (dO Ji (nn rfl (lit _))) <| dN (dO Ax (nn rfl (lit _))) <| dN (dO Ax (nn rfl (lit _))) <|
   dN (dO yc (nn rfl (lit _))) <| dN (dO yc (nn rfl (lit _))) <|
   dN (dO (RN iZ) (nn rfl (lit _))) <| dN (dO iZ (nn rfl (lit _))) <| dN (dO (qdu iZ iZ qhY) (nn (by symm) (lit _))) <|
   dN (dO (Aw (pU iZ pR) (by simp)) (nn rfl (lit _))) <| dN (dO (Jh (pU iZ pR) (by simp)) (nn rfl (lit _))) <| dN (dO RD (nn rfl (lit _))) <|
   dN (dO (RN (qdu iZ iZ qhY)) (nn (by symm) (lit _))) Jv) c.ex (by decide) λb vs J y o I r a2=>?_
  have B:b≠p:=lW c.ex (Same.refl _) y;left;refine#[_,.inl (au.of r),p,_,rfl,c.lA o,⋯,⋯,λk D f e C m=>?_];obtain⟨v,u,z⟩:=Jt (n:=vs.length) rfl f e;obtain⟨d,l,j⟩:=a2 v u;exact#[_,.inl (au.of (m _ _ B r)),v,z,q v d D (aA.same (mZ m) d v l) j C ((But.of o).trans m)]
def CP(H c:Hp):Prop:=∀b o,(∀a,o≠.cY a)->H b=some o->c b=some o
def CP.of(s:Same H a):CP H a:=λb o _ e=>s b o e
def CP.seq{K:W5}{H c:Hp}{a:Qv}{xs:kE}(k:CP H c)(h:au K H a xs):au K c a xs:=by
 rcases h with(h|⟨o,h⟩)|h
 ·exact .inl (.inl (k _ _ (by simp) h))
 ·exact .inl (.inr #[o,k _ _ (by simp) h])
 ·exact .inr h
def zB(t:TabOk pos a c H)(x:bA H p)(b:But p H f):TabOk pos a c f:=by
 obtain⟨h,e⟩:=x.lst;exact t.but e b
def bZ(p q:Qv)(H a:Hp):Prop:=∀b o,b≠p->b≠q->H b=some o->a b=some o
def bZ.trans(x:bZ p q H h)(y:bZ p q h f):bZ p q H f:=λb o c a e=>y b o c a (x b o c a e)
theorem bZ.p{p q:Qv}{H a:Hp}(x:But p H a):bZ p q H a:=λb o c _ e=>x b o c e
theorem bZ.q{p q:Qv}{H a:Hp}(x:But q H a):bZ p q H a:=λb o _ c e=>x b o c e
def bZ.s{p q:Qv}{H a:Hp}(x:Same H a):bZ p q H a:=λb o _ _ e=>x b o e
theorem bZ.hid{p q:Qv}{H a:Hp}(x:bZ p q H a):Same (hid q (hid p H)) a:=λb o e=>by
 unfold L2.hid at e;split at e
 ·cases e
 ·split at e
  ·cases e
  ·rename_i f c;exact x b o c f e
mutual
theorem Xj{P:Qv}{H:Hp}(hT:∃ps,H P=some (.cY ps)):∀(d:PyData)(v:V),aA H d v->aA (hid P H) d v
 |.none,v,h=>by simp only[aA] at h⊢;exact h
 |.bool b,v,h=>by simp only[aA] at h⊢;exact h
 |.int i,v,h=>by simp only[aA] at h⊢;exact h
 |.str x,v,h=>by simp only[aA] at h⊢;exact h
 |.list l,v,h=>by
  simp only[aA] at h⊢;obtain⟨b,c,e,a,j⟩:=h;exact#[b,c,e,fW (λz=>by obtain⟨ps,f⟩:=hT;rw[z,f] at a;cases a) a,Xk hT l c j]
 |.tuple l,v,h=>by
  simp only[aA] at h⊢;obtain⟨b,c,e,a,j⟩:=h;exact#[b,c,e,fW (λz=>by obtain⟨ps,f⟩:=hT;rw[z,f] at a;cases a) a,Xk hT l c j]
 |.dict m,v,h=>by
  simp only[aA] at h⊢;obtain⟨n,b,e,a⟩:=h;exact#[n,b,e,fW (λz=>by obtain⟨ps,f⟩:=hT;rw[z,f] at a;cases a) a]
theorem Xk{P:Qv}{H:Hp}(hT:∃ps,H P=some (.cY ps)):∀(ds:List PyData)(vs:kE),aR H ds vs->aR (hid P H) ds vs
 |[],vs,h=>by simp only[aR] at h⊢;exact h
 |d::ds,vs,h=>by
  simp only[aR] at h⊢;obtain⟨v,r,e,c,a⟩:=h;exact#[v,r,e,Xj hT d v c,Xk hT ds r a]
end
def qsJ{P:Qv}{H:Hp}{d:PyData}{v:V}(a:∃ps,H P=some (.cY ps))(h:dg H d v):dg (hid P H) d v:=by
 rcases h with h|⟨b,x,i,j,f,e⟩
 ·exact .inl (Xj a d v h)
 ·exact .inr #[b,x,i,j,f,fW (λz=>by obtain⟨ps,c⟩:=a;rw[z,c] at e;cases e) e]
def bW.stay(h:bW C H o xs ps)(i:bA H p)(A:∃a,H q=some (.cY a))(s:bZ p q H G):bW C G o xs ps:=by
 have f:∀{b u},H b=some u->(∀a,u≠.cY a)->b≠q:=λe n z=>by
  obtain⟨a,y⟩:=A;rw[z,y] at e;cases e;exact n _ rfl
 obtain⟨E,n,m,w,v,r,l,D,B⟩:=h.ex;exact#[#[E,n,m,w,s _ _ (i.wI v (by intro j z;cases z)) (f v (by simp)) v,s _ _ (i.wI r (by intro j z;cases z)) (f r (by simp)) r,s _ _ (i.wI l (by intro j z;cases z)) (f l (by simp)) l,D.keep λc I e=>s _ _ (i.wI e (by intro j z;cases z)) (f e (by simp)) e,B]]
def wd0(h:zu xs ps 0 [d] a):a=if cR ps.length d=true then "told" else "pointing" :=by
 rcases h with⟨_,e,c,h⟩|⟨z,_⟩|⟨z,_⟩
 ·cases c
  rcases h with⟨h,rfl⟩|⟨h,rfl⟩ <;> simp[h]
 ·cases z
 ·cases z
def Xl(h:zu xs ps 1 [d,e,f] a):(cR ps.length d=false->a = "pointing")/\(cR ps.length d=true->¬qz xs e f->a = "point")/\(cR ps.length d=true->qz xs e f->a = "told"):=by
 rcases h with⟨z,_⟩|⟨_,m,l,j,i,h⟩|⟨z,_⟩
 ·cases z
 ·cases i
  rcases h with⟨h,rfl⟩|⟨h,c,rfl⟩|⟨h,c,rfl⟩
  ·simp[h]
  ·simp[h,c]
  ·simp[h,c]
 ·cases z
def wd2(h:zu xs ps 2 [d] a):(qD d=false->a = "number")/\(qD d=true->a = "told" \/a = "thin"):=by
 rcases h with⟨z,_⟩|⟨z,_⟩|⟨_,e,c,h⟩
 ·cases z
 ·cases z
 ·cases c
  rcases h with⟨h,rfl⟩|⟨h,f⟩
  ·simp[h]
  ·exact#[λz=>(by rw[h] at z;cases z),λ_=>f]
def CQ(xs:QAH)(str u:V):Prop:=u=str\/∃z,u = .str z/\z∈xs
inductive G3  (K:W5) (Pt:Qv):Sp
 |mk (l:Qv) (ns:qZ) (_:vs=[.ref l]) (_:au K H l (ns.map V.int)) (_:ns.length<=63) (_:TabOk lamP mC Pt H) (_:∀H',Q (.bl true) H'):G3 K Pt vs H Q E
def qsK(T:Txt K mg a)(L:Jy a.ql base mg c U):aO P w K mg base aW 11 a.vQ a.Mi ["_law_script"] (G3 K U):=by
 exists T.qfa.bG,qg
 ·obtain⟨sl,zs,rfl,hS,et,hT,q⟩:=h;refine#[_,(aK (jT qwI rfl (PI.eqv (Hh rfl T.nm.range (ak (bw (qcy rfl) rfl T.nm.max boot_max (ak aH (ak (bw (qnK rfl) rfl T.nm.min boot_min (ak aH (ak (bw (cW (K:=K) rfl) rfl T.nm.len qv9 (ak (aj 0) aq)) aq))) aq))) aq)) (Il _)) (eF (i:=1) qg.nd rfl (Or.inl rfl))
   (aK (bF (i:=2) qg.nd rfl (Or.inr rfl) (aL (qqw T) hr T.qeW T.Ve T.qeV (ak (aj 0) (ak (aj 1) aq))))
   (aK (bF (i:=3) qg.nd rfl (Or.inl rfl) (aL (qqK T) hr T.qe2 T.Vj T.qe1 (ak (aj 2) (ak aH (ak aH aq)))))
   (aK (bF (i:=4) qg.nd rfl (Or.inl rfl) (PE.eqv (qkh T.qfg (qqE T) hr.d rfl T.qff T.qd1 .nil fZ (ak (bQ (bT (K:=K) rfl) (aj 3) aH (λ_ _=>rfl)) (ak (bQ (bT (K:=K) rfl) (aj 3) aH (λ_ _=>rfl)) aq))) (qny _ _ _ _)))
   (aK (nY (i:=5) qg.nd rfl rfl rfl rfl (show bM (aG qe) _ ["_law_script", "_law_k", "_law_pot_here", "_law_web_here", "_law_made", "_law_row", "_law_bad", "_law_strange", "_law_here", "_law_there", "_law_a", "_law_b"] ["_law_tie_here"] [2] ["_law_tie_here", "_law_pot_here"] from by rfl') rfl (dD (K:=K) (bQ (bT (K:=K) rfl) (aj 3) aH (λ_ _=>rfl))) (λC s H fp pn=>(bO ["_law_tie_here", "_law_pot_here"] 0)) (λC s H fp pn=>dZ) (λC s H fp pn=>(aL (gZ T) hr T.gH T.gw T.gG (ak (aj 1) (ak aH aq)))))
   (aK (PS.eqv (ZR (i:=6) (j:=7) rfl qg.nd rfl rfl (by decide) rfl rfl (ak (aL (qsz T) hr T.qe6 T.Vl T.qe5 (ak (aj 2) (ak (aj 5) aq))) (ak (aL (qsH T) hr T.qe8 T.Vm T.qe7 (ak (aj 2) (ak (aj 3) aq))) aq)) rfl) (qcn _ _ _))
   (aK (PS.eqv (ZR (i:=8) (j:=9) rfl qg.nd rfl rfl (by decide) rfl rfl (ak (bQ (bT (K:=K) rfl) (bQ (bT (K:=K) rfl) (aj 3) aH (λ_ _=>rfl)) (aL (gZ T) hr T.gH T.gw T.gG (ak (aj 2) (ak (bw (cW (K:=K) rfl) rfl T.nm.len qv9 (ak (bQ (bT (K:=K) rfl) (aj 3) aH (λ_ _=>rfl)) aq)) aq))) (λ_ _=>rfl)) (ak (bQ (bT (K:=K) rfl) (bQ (bT (K:=K) rfl) (aj 3) aH (λ_ _=>rfl)) aH (λ_ _=>rfl)) aq)) rfl) (qcn _ _ _))
   (aK (bU (PW.pt (je (bN jC (aL (zx (L:=L) (K:=K) T) hr T.wg T.sH T.vZ (ak (aj 4) (ak aH (ak (cM (ak (aj 6) aq)) aq)))) cZ (bV _)) (jq (bN jC (aL (zx (L:=L) (K:=K) T) hr T.wg T.sH T.vZ (ak (aj 4) (ak aH (ak (cM (ak (aj 5) aq)) aq)))) cZ (bV _))))) (aF (aX eX)) cA)
   (aK (jT qwI rfl (dD (K:=K) (cM (ak (dY (ak (aj 8) (ak (aj 9) aq))) (ak (dY (ak (aj 7) (ak (aj 8) aq))) (ak (dY (ak (aj 8) (ak (aj 7) aq))) (ak (dY (ak (aj 7) (ak (aj 7) aq))) (ak (dY (ak (aj 8) (ak (aj 8) aq))) aq))))))) (PG.eqv (iJ (K:=K) (n:=2) rfl rfl (bB.eqv (cI (eF (i:=10) qg.nd rfl (Or.inl rfl)) (bB.eqv (cI (eF (i:=11) qg.nd rfl (Or.inl rfl)) (bB.mono iH iM)) (cJ _ _))) (cJ _ _))) (iQ _ _ _))
   (aK (bU (bN jC (aL (zx (L:=L) (K:=K) T) hr T.wg T.sH T.vZ (ak (aj 4) (ak aH (ak (cM (ak (aj 6) (ak (aj 10) (ak (aj 11) aq)))) aq)))) cZ (bV _)) (aF (aX eX)) cA)
   (aF (bU (PW.pt (je (bN (qpW (K:=K) rfl hr.units) (aj 10) (aj 11) (bV _)) (jq (bN (qpY (K:=K) rfl hr.units) (aj 7) (dY (ak (aj 10) (ak (aj 11) aq))) rfl)))) (aF (bU (bN jC (aL (zx (L:=L) (K:=K) T) hr T.wg T.sH T.vZ (ak (aj 4) (ak aH (ak (cM (ak (aj 5) (ak (aj 10) (ak (aj 11) aq)))) aq)))) cZ (bV _)) (aF (aX eX)) cA)) (aF (bU (bN jC (aL (zx (L:=L) (K:=K) T) hr T.wg T.sH T.vZ (ak (aj 4) (ak aH (ak (cM (ak (aj 5) (ak (aj 10) (ak (aj 11) aq)))) aq)))) cZ (bV _)) (aF (aX eX)) cA))))))
   (aK (bU (bN jC (aL (zx (L:=L) (K:=K) T) hr T.wg T.sH T.vZ (ak (aj 4) (ak aH (ak (cM (ak (aL (qsI T) hr T.qe_ T.Vn T.qe9 (ak (aj 2) aq)) aq)) aq)))) cZ (bV _)) (aF (aX eX)) cA)
   (aF (bU (bN (DR (K:=K) rfl) (aL (zx (L:=L) (K:=K) T) hr T.wg T.sH T.vZ (ak (aj 4) (ak aH (ak (cM (ak (aL (gZ T) hr T.gH T.gw T.gG (ak (aj 2) (ak aH aq))) aq)) aq)))) (dY (ak cZ (ak cZ aq))) rfl) (aF (aX eX)) cA))))))))))))
   (aF (aX eX))),?_]
  have mj:=qxz lK;left;refine#[_,.inl hS,?_];simp only[qv1];obtain⟨m,hm,ev⟩:∃m:Nat,(if 1<if (zs.length:Int)<8 then (zs.length:Int) else 8 then if (zs.length:Int)<8 then (zs.length:Int) else 8 else 1)=m/\m<=8:=by
   by_cases h1:(zs.length:Int)<8
   ·rw[if_pos h1]
    by_cases h2:1<(zs.length:Int)
    ·exact#[zs.length,by rw[if_pos h2],⋯]
    ·exact#[1,by rw[if_neg h2];rfl,by decide]
   ·rw[if_neg h1];exact#[8,rfl,by decide]
  simp only[hm];refine#[⋯,⋯,Qs (λi σ r=>(∃o1 o2 o3 o4 o5 o6 o7 o8 o9 zE zF,σ=[some (.ref sl),o1,o2,o3,o4,o5,o6,o7,o8,o9,zE,zF])/\CP H r/\TabOk lamP mC U r) #[#[_,_,_,_,_,_,_,_,_,_,_,rfl],CP.of (Same.refl _),hT] ?_ ?_]
  ·rintro i σ H1 hi ⟨⟨o1,o2,o3,o4,o5,o6,o7,o8,o9,zE,zF,rfl⟩,k1,az⟩;generalize e4:tH (tK (iK (dX pJ _ (tC (V.str (Str.ofString "number"))))) _ _) _=R3;generalize e5:tH (O4 _ _ _) R3=R2;generalize e6:tH (tK (Df _ _) _ _) R2=R1;left;refine#[sl,zs,i,rfl,k1.seq hS,by simp at hi;lia,λp H2 bn af bu=>?_];have s2:Same H1 H2:=λb o e=>bu b o (cF e bn) e;have e3:=az.same s2;left;refine#[p,9,20,rfl,af,by decide,by decide,by decide,by decide,λt n l M tv ps H7 dk dq dt ae bo bp zj Y N _ _ nC jH=>?_];have e2:=zB e3 af jH;have np:n≠p:=(af.ne dq).symm;have lp:l≠p:=(af.ne dt).symm;have tp:t≠p:=(af.ne dk).symm;have cO:=N.len;have h9:=Y.len;have tl:=zj.1;have G4:N5 H7 t n l M tv ps:=#[ae,bo,bp,zj,Y,N];left;refine#[_,.inr (aQ.of ae),_,cV (j:=0) rfl,_,.inr (aQ.of ae),_,cV (j:=1) rfl,λo dx ho dv eu=>?_];have so:Same H7 (upd (upd H7 dx (.own o)) o (.ins a.bx dx [])):=λb u e=>by
    rw[aN (cF e ho),aN (cF e dv)];exact e
   have dm:wA H7 tv ps:=#[G4.2.2.2.1.1,λi v e h1 h2=>by
    obtain⟨t,rfl,z⟩:=G4.2.2.2.1.2 i v e h1 h2;exact#[t,rfl,.inr z]]
   refine#[o,dx,n,l,tv,M,ps,rfl,aB,.inl (so _ _ G4.2.2.1),dm.same so,.inl (so _ _ G4.2.1),Y,N,λH8 dy e8=>#[rfl,?_]];have s8:Same H7 H8:=λb u e=>e8 b u (cF e ho) (so b u e);have e1:=e2.same s8;have wD:=nC.lA s8;have f0:=G4.same s8;have l8:=s8 _ _ bp;left;refine#[_,.inr (aQ.of (s8 _ _ ae)),_,cV (j:=1) rfl,#[_,au.of l8],λD hD=>h_ tv (λi σ r=>(∃o',σ=[o',some (.ref p)])/\(∃ns:List Int,r D=some (.lst (ns.map V.int))/\ns.length=i/\∀n∈ns,0<=n/\n<=1)/\r l=some (.lst tv)/\bA r p/\But p H8 r) #[#[_,rfl],#[[],aB,rfl,by simp],cj l8 hD,wD.upd (wD.ne hD),But.of (aJ hD)] (λi σ r _ h=>au.of h.2.2.1) ?_ ?_]
   ·rintro i x σ H9 hi ⟨⟨o',rfl⟩,⟨ns,e7,hn,ag⟩,dr,yM,a0⟩;have ey:i<tv.length:=(qvU.mp hi).1;have Dp:D≠p:=(wD.ne hD).symm;have lD:l≠D:=cF l8 hD;left;refine#[p,_,rfl,yM,by decide,by decide,λf uo Gd ez Oa qF=>?_];left;refine#[_,qF _ _ Dp e7,by simp;lia,#[ns++[f],by rw[aB];simp,by simp[hn],λm hm=>?_],by rw[aN lD];exact qF _ _ lp dr,Oa.upd Dp.symm,(a0.trans qF).new hD]
    rcases qwc.mp hm with hm|hm
    ·exact ag m hm
    ·simp at hm;subst hm;lia
   ·rintro σ H9 ⟨⟨o',rfl⟩,⟨ns,zm,aw,ag⟩,ew,yM,a0⟩;have Dp:D≠p:=(wD.ne hD).symm;have e0:=zB e1 wD a0;have aw:ns.length=ps.length:=⋯
    have t9:=a0 _ _ tp (s8 _ _ ae);have n9:=a0 _ _ np (s8 _ _ bo);have W9:=dy.but wD a0;left;refine#[p,D,ns,rfl,yM,zm,Dp,⋯,ag,λO db uo am ay Oa qF=>?_];have dc:=zB e0 yM qF;refine#[p,t,n,l,M,rfl,Oa,qF _ _ tp t9,qF _ _ np n9,Y,λstr ds Nr al J bd G5=>?_];have da:=zB dc Oa G5;have an:=G5 _ _ tp (qF _ _ tp t9);have bj:=G5 _ _ np (qF _ _ np n9);left;refine#[_,.inr (aQ.of an),_,rfl,?_];refine#[_,.inr (aQ.of an),_,rfl,_,.inl (au.of bj),p,_,rfl,bd,by simp;lia,by simp;lia,λai o_ ax bq Xm CT=>?_];rw[qv1] at bq;obtain⟨I,bl⟩:∃I,M[ai.toNat]? = some I:=#[_,qwi (show ai.toNat<M.length by lia)];obtain⟨x0,bm⟩:∃x0,M[0]? = some x0:=#[_,qwi (show 0<M.length by lia)];have Xn:=zB da bd CT;have cl:=CT _ _ tp an;have bi:=CT _ _ np bj;refine#[_,.inl (au.of bi),.str I,?_,_,.inr (aQ.of cl),_,rfl,_,.inl (au.of bi),.str x0,cV (j:=0) (by rw[qv8,bm];rfl),?_]
    ·rw[show ai=(ai.toNat:Int) by lia];exact cV (by rw[qv8,bl];rfl)
    left;have Xo:=(qF.trans G5).trans CT;have c1:=W9.but yM Xo;have S1:bZ p U H1 o_:=bZ.p (((bu.trans jH).same s8).trans (a0.trans Xo));have cc:=Xo _ _ Dp zm;obtain⟨ts,as⟩:=Xn.tb;have pq:p≠U:=λz=>by
     obtain⟨zs,e⟩:=Xm.lst;rw[z,as] at e;cases e
    have nq:∀{b zs},o_ b=some (.lst zs)->b≠U:=λe z=>by rw[z,as] at e;cases e
    have hq:∃ts,hid p o_ U=some (.cY ts):=#[ts,fW pq.symm as];have gB:aA (hid U (hid p o_)) db O:=Xj hq _ _ (aA.same (mZ (G5.trans CT)) _ _ am);have gS:dg (hid U (hid p o_)) ds str:=qsJ hq (al.same (mZ CT));have G:∀r,bZ p U o_ r->aA r db O/\dg r ds str/\bW a.bx r o M ps/\r D=some (.lst (ns.map V.int))/\aA r (.list (ns.map PyData.int)) (.ref D):=λr s=>by
     have e:=s _ _ Dp (nq cc) cc;exact#[aA.same s.hid _ _ gB,gS.same s.hid,c1.stay Xm Xn.tb s,e,Xd e]
    have G6:∀{H r},bA H p->But U H r->bA r p:=λ⟨x,y,e,z⟩ b=>#[x,y,b _ _ pq e,z];have Xp:=ay.no;rw[aw] at Xp;have av:cR ps.length (.list (ns.map PyData.int))=true:=by rw[<- aw];exact qf6 rfl rfl ag
    have b8:bK 30 30000 (.list (ns.map PyData.int)):=GX (λc hc=>CJ (qhP ag c hc) (by decide)) (by rw[qv1];lia);clear am al gB gS c1;subst e6;left;have aa:∀u,CQ M str u->∃d,(∀r,bZ p U o_ r->dg r d u)/\oZ d/\bK 30 30000 d/\((u=str/\d=ds)\/∃z,u = .str z/\d = .str z/\z∈M):=by
     rintro u (rfl|⟨z,rfl,hz⟩)
     ·exact#[ds,λr s=>(G r s).2.1,J.sh,J.sm,.inl #[rfl,rfl]]
     ·exact#[.str z,λr s=>.inl (by simp[aA]),(λy e=>by injection e with e;subst e;exact FW (Y.nm z hz)),(Xg (Y.nm z hz)).mono (by decide) (by decide),.inr #[z,rfl,rfl,hz]]
    intro cr d6;generalize d5:upd o_ cr (.lst [O])=er;obtain⟨yU,Wv⟩:=cQ d6 d5;obtain⟨fb,_,fw,_,_⟩:=G er (bZ.s yU);refine CG fw Y N Wv (.inl #[by decide,.inl rfl,db,O,rfl,rfl,fb]) (by simpa using ay.sm) (Xn.same yU) λwd cb nG ck d4=>?_;obtain rfl:=wd0 nG;rw[if_neg (by rw[Xp];simp)];left;have c4:bZ p U o_ cb:=(bZ.s yU).trans (bZ.q ck);have ep:=G6 (Xm.lA yU) ck;intro cq d3;generalize d2:upd cb cq (.lst [.ref D])=eq;obtain⟨Ob,ee⟩:=cQ d3 d2;obtain⟨_,_,fw,_,fD⟩:=G eq (c4.trans (bZ.s Ob));refine CG fw Y N ee (.inl #[by decide,.inl rfl,_,_,rfl,rfl,fD]) (by simpa using b8) (d4.same Ob) λwd Oc nG ci d1=>?_;obtain rfl:=wd0 nG;rw[if_pos av];have em:bZ p U o_ Oc:=c4.trans ((bZ.s Ob).trans (bZ.q ci));have c6:=G6 (ep.lA Ob) ci;subst e5;left;have Od:CQ M str str:=.inl rfl;have ab:CQ M str (.str I):=.inr #[I,rfl,qvX bl];have di:CQ M str (.str x0):=.inr #[x0,rfl,qvX bm];intro q1 h1 q2 h2 q3 h3 q4 h4 q5 h5 L h6;have Xq:=(aJ (o:=HO.tup [V.str I,V.str x0]) h1).trans ((aJ (o:=HO.tup [str,V.str I]) h2).trans ((aJ (o:=HO.tup [V.str I,str]) h3).trans ((aJ (o:=HO.tup [str,str]) h4).trans (aJ (o:=HO.tup [V.str I,V.str I]) h5))));have Lp:L≠p:=lW c6.ex Xq h6;have zG:=Xq.trans (aJ (o:=HO.lst [V.ref q1,V.ref q2,V.ref q3,V.ref q4,V.ref q5]) h6);have ar:∀v∈[V.ref q1,V.ref q2,V.ref q3,V.ref q4,V.ref q5],∃q u z,v = .ref q/\upd (upd (upd (upd (upd (upd Oc q1 (HO.tup [V.str I,V.str x0])) q2 (HO.tup [str,V.str I])) q3 (HO.tup [V.str I,str])) q4 (HO.tup [str,str])) q5 (HO.tup [V.str I,V.str I])) L (HO.lst [V.ref q1,V.ref q2,V.ref q3,V.ref q4,V.ref q5]) q=some (.tup [u,z])/\CQ M str u/\CQ M str z:=by
     intro v hv;simp only[qv0,qwn,qw2] at hv
     rcases hv with rfl|rfl|rfl|rfl|rfl
     ·exact#[q1,_,_,rfl,cj (cj (cj (cj (cj aB h2) h3) h4) h5) h6,ab,di]
     ·exact#[q2,_,_,rfl,cj (cj (cj (cj aB h3) h4) h5) h6,Od,ab]
     ·exact#[q3,_,_,rfl,cj (cj (cj aB h4) h5) h6,ab,Od]
     ·exact#[q4,_,_,rfl,cj (cj aB h5) h6,Od,Od]
     ·exact#[q5,_,_,rfl,cj aB h6,ab,ab]
    have eL:upd (upd (upd (upd (upd (upd Oc q1 (HO.tup [V.str I,V.str x0])) q2 (HO.tup [str,V.str I])) q3 (HO.tup [V.str I,str])) q4 (HO.tup [str,str])) q5 (HO.tup [V.str I,V.str I])) L (HO.lst [V.ref q1,V.ref q2,V.ref q3,V.ref q4,V.ref q5]) L=some (.lst [V.ref q1,V.ref q2,V.ref q3,V.ref q4,V.ref q5]):=aB;generalize upd (upd (upd (upd (upd (upd Oc q1 (HO.tup [V.str I,V.str x0])) q2 (HO.tup [str,V.str I])) q3 (HO.tup [V.str I,str])) q4 (HO.tup [str,str])) q5 (HO.tup [V.str I,V.str I])) L (HO.lst [V.ref q1,V.ref q2,V.ref q3,V.ref q4,V.ref q5])=Xr at zG ar eL⊢;clear Xq h1 h2 h3 h4 h5 h6;generalize [V.ref q1,V.ref q2,V.ref q3,V.ref q4,V.ref q5]=us at ar eL⊢;have c5:=c6.lA zG;have Xu:=d1.same zG;have zG:bZ p U o_ Xr:=em.trans (bZ.s zG);have Lq:L≠U:=λz=>by
     obtain⟨ts,h⟩:=Xu.tb;rw[z,h] at eL;cases eL
    have tq:∀{b zs},Xr b=some (.tup zs)->b≠p/\b≠U:=λe=>#[c5.wI e (by simp),λz=>by
     obtain⟨ts,h⟩:=Xu.tb;rw[z,h] at e;cases e]
    refine#[#[_,au.of eL],lM us (λj σ r=>(∃zE zF,σ=[some (.ref sl),some (.int i),some (.ref p),some (.ref t),some (.ref o),some (.ref D),some O,some str,some (.str I),some (.str x0),zE,zF])/\bZ p U Xr r/\TabOk lamP mC U r/\bA r p) #[#[_,_,rfl],bZ.s (Same.refl _),Xu,c5] (λi σ r _ h=>au.of (h.2.1 _ _ Lp Lq eL)) ?_ ?_]
    ·rintro j v σ ca hj ⟨⟨zE,zF,rfl⟩,zH,Xv,Oe⟩;obtain⟨q0,u,z,rfl,Xw,bg,bf⟩:=ar v (qvX hj);have ed:=zH _ _ (tq Xw).1 (tq Xw).2 Xw;left;refine#[_,aQ.of ed,rfl,?_];left;have d0:=zG.trans zH;obtain⟨du,gu,ba,b7,cu⟩:=aa u bg;obtain⟨dz,gz,b9,b6,cz⟩:=aa z bf;intro cp cy;generalize cx:upd ca cp (.lst [O,u,z])=Xx;obtain⟨Og,ec⟩:=cQ cy cx;have Oh:=d0.trans (bZ.s Og);obtain⟨fb,_,fw,_,_⟩:=G Xx Oh;refine CG fw Y N ec (.inr #[rfl,db,du,dz,O,u,z,rfl,rfl,fb,gu _ Oh,gz _ Oh,ba,b9]) (by simpa using #[ay.sm,b7,b6]) (Xv.same Og) λwd G7 nG b0 ei=>?_;obtain rfl:=(Xl nG).1 Xp;have en:=G6 (Oe.lA Og) b0;have zJ:=Oh.trans (bZ.q b0);generalize bz:tK (iK (dX pJ _ (tC (V.str (Str.ofString "point"))))) _ _=A0;generalize bv:tK (iK (dX pJ _ (tC (V.str (Str.ofString "told"))))) _ _=B0;left;generalize hA:A0 _=A;generalize hB:B0 _=B;have ask:∀r,Same G7 r->(¬qz M du dz->A [some (.ref sl),some (.int i),some (.ref p),some (.ref t),some (.ref o),some (.ref D),some O,some str,some (.str I),some (.str x0),some u,some z] r)/\(qz M du dz->B [some (.ref sl),some (.int i),some (.ref p),some (.ref t),some (.ref o),some (.ref D),some O,some str,some (.str I),some (.str x0),some u,some z] r):=by
      intro Xy wK;subst hA hB bz bv;obtain⟨_,_,fw,_,fD⟩:=G Xy (zJ.trans (bZ.s wK));have Xz:=ei.same wK;have Oi:=en.lA wK;have XD:=((bZ.s Og).trans (bZ.q b0)).trans (bZ.s (p:=p) (q:=U) wK);constructor <;> intro h2
      all_goals
       left;intro cn cw;generalize cv:upd Xy cn (.lst [.ref D,u,z])=c9;obtain⟨CV,ea⟩:=cQ cw cv;have c3:=zJ.trans (bZ.s (wK.trans CV));refine CG (fw.same CV) Y N ea (.inr #[rfl,_,du,dz,_,u,z,rfl,rfl,aA.same CV _ _ fD,gu _ c3,gz _ c3,ba,b9]) (by simpa using #[b8,b7,b6]) (Xz.same CV) λwd c8 nG cd eg=>?_
       first
        |(have h3:=(Xl nG).2.1 av h2)
        |(have h3:=(Xl nG).2.2 av h2)
       subst h3;left;exact#[zH.trans (XD.trans ((bZ.s CV).trans (bZ.q cd))),eg,G6 (Oi.lA CV) cd]
     clear hA hB bz bv;have tx:∀y∈M,jo y ds=false:=λy hy=>by
      have:=J.no;cases ds with
      |str x=>exact qwh λe=>by subst e;exact qwP this hy
      |_=>rfl
     have bc:∀y∈M,str≠.str y:=λy hy e=>by
      subst e;have:=tx y hy;rw[(G _ zJ).2.1.qdx] at this;simp[jo] at this
     have ap:∀w∈[u,z],w=str\/∃y,w = .str y/\PyData.strOk y=true/\jo y ds=false:=λw hw=>by
      simp only[qv0,qwn,qw2] at hw
      rcases hw with rfl|rfl
      ·exact bg.imp id λ⟨y,e,hy⟩=>#[y,e,q_ (Y.nm y hy),tx y hy]
      ·exact bf.imp id λ⟨y,e,hy⟩=>#[y,e,q_ (Y.nm y hy),tx y hy]
     have fS:=(G _ zJ).2.1;have br:=(ask G7 (Same.refl _)).1
     rcases cu with⟨rfl,rfl⟩|⟨y,rfl,rfl,hy⟩ <;> rcases cz with⟨rfl,rfl⟩|⟨y',rfl,rfl,ac⟩
     ·exact#[_,J.ni,.inr (.inr #[rfl,fS,br λh=>h.2.2 rfl])]
     ·refine#[_,J.ni,.inl #[y',rfl,fS,q_ (Y.nm y' ac),aM.neg (tx y' ac) ?_]];left;intro be zK;have wK:=aJ (o:=HO.tup [u,.str y']) zK;refine#[_,J.ni,fS.same wK,_,aQ.of aB,ap,true,#[λ_=>by simp,λ_=>rfl],aM.pos rfl ((ask _ wK).1 λh=>?_)];exact absurd h.1 (by rw[J.no];simp)
     ·refine#[_,J.ni,.inr (.inl #[y,rfl,fS,q_ (Y.nm y hy),aM.neg (tx y hy) ?_])];left;intro be zK;refine#[_,J.ni,fS.same (aJ zK),_,aQ.of aB,ap,true,#[λ_=>by simp,λ_=>rfl],aM.pos rfl ((ask _ (aJ zK)).1 λh=>?_)];exact absurd h.2.1 (by rw[J.no];simp)
     ·refine#[.str y,#[by simp[PyData.depth],.inl (q_ (Y.nm y hy))],.inl #[y',rfl,.inl (by simp[aA]),q_ (Y.nm y' ac),?_]]
      by_cases Oj:y=y'
      ·exact aM.pos (qwv Oj) ((ask G7 (Same.refl _)).1 λh=>h.2.2 (by rw[Oj]))
      ·refine aM.neg (qwh Oj) ?_;left;intro be zK;refine#[_,J.ni,fS.same (aJ zK),_,aQ.of aB,ap,false,#[λh=>(by cases h),λh=>?_],aM.neg rfl ((ask _ (aJ zK)).2 #[qwv hy,qwv ac,λh=>Oj (by injection h)])];simp only[qv0,qwn,qw2] at h
       rcases h with h|h
       ·exact absurd h (bc _ hy)
       ·exact absurd h (bc _ ac)
    ·rintro σ ca ⟨⟨zE,zF,rfl⟩,zH,Xv,Oe⟩;have zH:=zG.trans zH;subst e4;left;refine#[p,rfl,Oe,λnr dn Xx dp bt eo ch=>?_];have ej:=zB Xv Oe ch;left;intro co ct;generalize cs:upd Xx co (.lst [nr])=G7;obtain⟨mj,eb⟩:=cQ ct cs;have zJ:=zH.trans ((bZ.p ch).trans (bZ.s mj));obtain⟨_,_,fw,_,_⟩:=G G7 zJ;refine CG fw Y N eb (.inl #[by decide,.inr rfl,dn,nr,rfl,rfl,aA.same (λb o e=>mj b o (oF b o e)) _ _ dp]) (by simpa using bt.sm) (ej.same mj) λwd Xy nG cf Xz=>?_;obtain rfl:=(wd2 nG).1 bt.tm;have Oi:=G6 (eo.lA mj) cf;have XD:=zJ.trans (bZ.q cf);left;refine#[p,10,rfl,Oi,by decide,by decide,λCW c9 ax bq f1 ce=>?_];have eh:=zB Xz Oi ce;left;intro cm df;generalize de:upd c9 cm (.lst [.int CW])=c8;obtain⟨bb,e9⟩:=cQ df de;have c2:=XD.trans ((bZ.p ce).trans (bZ.s bb));obtain⟨_,_,fw,_,_⟩:=G c8 c2;refine CG fw Y N e9 (.inl #[by decide,.inr rfl,.int CW,.int CW,rfl,rfl,by simp[aA]]) (by simpa using (Xb ax ⋯).mono (by decide) (by decide)) (eh.same bb) λwd Ol nG es ef=>?_;have two:=(wd2 nG).2 (by show(decide (0<=CW) && decide (CW<=9))=true;rw[qwv ax,qwv (show CW<=9 by lia)];rfl);have el:=c2.trans (bZ.q es);left;intro ah dd;have XF:Same Ol (upd Ol ah (.tup [.str (Str.ofString "told"),.str (Str.ofString "thin")])):=aJ dd;have c0:upd Ol ah (.tup [.str (Str.ofString "told"),.str (Str.ofString "thin")]) ah=some (.tup ([Str.ofString "told",Str.ofString "thin"].map V.str)):=aB;generalize upd Ol ah (.tup [.str (Str.ofString "told"),.str (Str.ofString "thin")])=f2 at XF c0⊢;refine#[_,.inr (aQ.of c0),rfl,qwa.mp (mW _),false,?_,aM.neg rfl ?_]
     ·rw[ou];exact qwv (by rcases two with rfl|rfl <;> simp)
     left;have ek:=S1.trans (el.trans (bZ.s XF));exact#[λb o n e=>ek b o (cF (k1 _ _ n e) bn) (λz=>by
      obtain⟨ts,h⟩:=az.tb;have:=k1 _ _ n e;rw[z,h] at this;cases this;exact n _ rfl) (k1 _ _ n e),ef.same XF]
  ·rintro σ H1 ⟨⟨o1,o2,o3,o4,o5,o6,o7,o8,o9,zE,zF,rfl⟩,k1,az⟩;left;exact q _
end oK
namespace L2
open PySem PySem.Spec PyProof.Rows
def aY(K:W5)(x:Str)(f:Qv):Prop:=W.nsIn K mainGlobals x=some (some (.ref f))
def qs3{K:W5}{C B:Qv}{e:ClassData}(c:W.clsIn K C=some e)(m:e.mro = .ref C::.ref B::iR)(h:e.hasDict=true)(t:W.typeIn K (.ref C)=some (.type "type"))(a:W.findIn K (.ref C) "__getattribute__" = some (some (.builtin "BaseException.__getattribute__")))(n:W.findIn K (.ref C) "__getattr__" = some none)(g:W.findIn K (.ref C) "__class__" = some (some (.builtin "object.__class__")))(k:W.keepIn K (.ref C)=true):XC K C B:=#[#[_,c,m,h],t,a,n,g,k]
end L2
namespace oK
open PySem L2
def Om{i:zq}{ps:QAH}(h:∀f e c a,bindArgs i {pos:=[f,e,c,a]}=pure (ps.zip [f,e,c,a])):∀us:QAE,us.length=4->bindArgs i {pos:=us}=pure (ps.zip us):=pL λf=>pL λe=>pL λc=>pL λa=>len0 (h f e c a)
def all_mk{l:W.OpenLaw}{w:zX}{K:W5}{h:zf}{mg:Zu}{fa bx bC fM gk gF j4 j6 j7 j8 j9 j_ kh kj kI kJ kO kW kY dF uw ux uy rP rQ uz qj uD uE uF rR rT rW rY rZ uG uH uI uJ su sy uK uL uM sE uN uO uP uQ uR uT uU uV uW uZ u5 u6 u9 u_ vd vf vg vh vm vo vp vq oM vA vB vC vD vG vH vI vJ vK vL vM vN vO vP vQ:Qv}(X:K.In h)(G:h.Ns mainGlobals mg)(cu:mg "law" = some (.ref fa)){c3 c2 c1 c0 bz bv bu bt br bq bp bo bn bm bl bj bi bg U Q O N M L J I H E D C B A z y u r o n m j i f c a bd bc bb ba b0 az ay ax aw av as ar ap an am al ai:zq}{ct ah cs ag:wJ}{cr cq:Array (QAG)}{cp af ae ac Oo ab co aa a0 Y XH bf:zT}{XJ XM XQ XR XS:Tok}{be:ClassData}{cn cm:Str}{cl:Qv}{ck ci:QAE}{ch cf:Bool}{ce:QAH}{cd:Option Bool}{cc:wJ}{cb ca c9 c8 c6:QAG}(X3:aY K "Web" bx)(X4:aY K "PointError" bC)(X5:aY K "NoPointing" fM)(X6:aY K "NoPoint" gk)(X7:aY K "NoNumber" gF)(X8:aY K "NoWeb" j4)(X_:aY K "NoText" j6)(Yb:aY K "NoNumbers" j7)(Yc:aY K "NoLot" j8)(Yd:aY K "NoEars" j9)(Ye:aY K "NoFixed" j_)(Yg:aY K "Unlike" kh)(Yh:aY K "NotOver" kj)(Yi:aY K "TooMuch" kI)(Yj:aY K "Parted" kJ)(Yk:aY K "Barred" kO)(Yl:aY K "Shut" kW)(Ym:aY K "NoIns" kY)(Yn:aY K "Thin" dF)(a1:aY K "steps_along" uw)(F1:aC K "steps_along" "steps_along" RZ uw c3)(a2:aY K "ways_along" ux)(F2:aC K "ways_along" "ways_along" R0 ux c2)(a3:aY K "found_along" uy)(F3:aC K "found_along" "found_along" JC uy c1)(a4:W.findIn K (.ref dF) "__init__" = some (some (.ref rP)))(i4:W.isFn K (.ref rP)=true)(F4:aC K "__init__" "Thin.__init__" R4 rP c0)(a5:aY K "is_list" rQ)(F5:aC K "is_list" "is_list" R5 rQ bz)(a6:aY K "is_whole" uz)(F6:aC K "is_whole" "is_whole" R6 uz bv)(a7:aY K "is_name" qj)(F7:aC K "is_name" "is_name" Eu qj bu)(a8:aY K "are_points" uD)(F8:aC K "are_points" "are_points" JD uD bt)(a9:aY K "is_tie" uE)(F9:aC K "is_tie" "is_tie" JF uE br)(a10:aY K "are_ties" uF)(F10:aC K "are_ties" "are_ties" JG uF bq)(a11:W.findIn K (.ref bx) "__init__" = some (some (.ref rR)))(Yo:W.isFn K (.ref rR)=true)(F11:aC K "__init__" "Web.__init__" JH rR bp)(a12:W.findIn K (.ref bx) "points" = some (some (.ref rT)))(i12:W.isFn K (.ref rT)=true)(F12:aC K "points" "Web.points" R7 rT bo)(a13:W.findIn K (.ref bx) "ties" = some (some (.ref rW)))(Yp:W.isFn K (.ref rW)=true)(F13:aC K "ties" "Web.ties" R8 rW bn)(a14:W.findIn K (.ref bx) "many" = some (some (.ref rY)))(Yq:W.isFn K (.ref rY)=true)(F14:aC K "many" "Web.many" R9 rY bm)(a15:aY K "is_point" rZ)(F15:aC K "is_point" "is_point" R_ rZ bl)(a16:aY K "is_number" uG)(F16:aC K "is_number" "is_number" Sd uG bj)(a17:aY K "are_numbers" uH)(F17:aC K "are_numbers" "are_numbers" JK uH bi)(a18:aY K "is_lead" uI)(F18:aC K "is_lead" "is_lead" Sg uI bg)(a19:aY K "is_pointing" uJ)(F19:aC K "is_pointing" "is_pointing" JL uJ U)(a20:aY K "sure_of_pointing" su)(F20:aC K "sure_of_pointing" "sure_of_pointing" Sh su Q)(a21:aY K "arrows" sy)(F21:aC K "arrows" "arrows" Ss sy O)(a22:aY K "unlike_steps" uK)(F22:aC K "unlike_steps" "unlike_steps" JM uK N)(a23:aY K "steps_into" uL)(F23:aC K "steps_into" "steps_into" JN uL M)(a24:aY K "turned" uM)(F24:aC K "turned" "turned" JQ uM L)(a25:aY K "sure_of_point" sE)(F25:aC K "sure_of_point" "sure_of_point" Sv sE J)(a26:aY K "way" uN)(F26:aC K "way" "way" Sw uN I)(a27:aY K "reached" uO)(F27:aC K "reached" "reached" Sx uO H)(a28:aY K "sure_of_two_points" uP)(F28:aC K "sure_of_two_points" "sure_of_two_points" Sy uP E)(a29:aY K "turned_till_none_leads" uQ)(F29:aC K "turned_till_none_leads" "turned_till_none_leads" SJ uQ D)(a30:aY K "ways_taken" uR)(F30:aC K "ways_taken" "ways_taken" JR uR C)(a31:aY K "ways_apart" uT)(F31:aC K "ways_apart" "ways_apart" JT uT B)(a32:aY K "lot_of" uU)(F32:aC K "lot_of" "lot_of" Ew uU A)(a33:aY K "all_parts" uV)(F33:aC K "all_parts" "all_parts" JV uV z)(a34:aY K "all_lots" uW)(F34:aC K "all_lots" "all_lots" SM uW y)(a35:aY K "ties_inside" uZ)(F35:aC K "ties_inside" "ties_inside" JW uZ u)(a36:aY K "crossing" u5)(F36:aC K "crossing" "crossing" JX u5 r)(a37:aY K "within" u6)(F37:aC K "within" "within" SN u6 o)(a38:aY K "ins_of" u9)(F38:aC K "ins_of" "ins_of" Ey u9 n)(a39:aY K "weighed_lots" u_)(F39:aC K "weighed_lots" "weighed_lots" JZ u_ m)(a40:aY K "is_over_by" vd)(F40:aC K "is_over_by" "is_over_by" J0 vd j)(a41:aY K "gaps" vf)(F41:aC K "gaps" "gaps" Ez vf i)(a42:aY K "sure_of_ins" vg)(F42:aC K "sure_of_ins" "sure_of_ins" J_ vg f)(a43:aY K "way_between" vh)(F43:aC K "way_between" "way_between" SQ vh c)(a44:aY K "refuse_ins" vm)(F44:aC K "refuse_ins" "refuse_ins" SX vm a)(a45:aY K "pointing_of" vo)(F45:aC K "pointing_of" "pointing_of" S_ vo bd)(a46:aY K "sure_of_times" vp)(F46:aC K "sure_of_times" "sure_of_times" Tc vp bc)(a47:aY K "sure_of_thick_lots" vq)(F47:aC K "sure_of_thick_lots" "sure_of_thick_lots" Td vq bb)(a48:aY K "times_over" oM)(Yr:K.lookup oM=some #[cp,ct,.func (W.fnOf "times_over" "times_over" (nU qd) (iI qd) (aG qd) .none af ae ac ah Oo ab),cr])(Ys:W.codeIn K Oo "times_over" = true)(Yt:W.keepIn K (.ref oM)=true)(a49:aY K "halves" vA)(F49:aC K "halves" "halves" Tf vA ba)(a50:aY K "halved_ins" vB)(F50:aC K "halved_ins" "halved_ins" Bb vB b0)(a51:aY K "pointed_over" vC)(F51:aC K "pointed_over" "pointed_over" Ka vC az)(a52:aY K "_law_pot" vD)(F52:aC K "_law_pot" "_law_pot" Tg vD ay)(a53:aY K "_law_take" vG)(F53:aC K "_law_take" "_law_take" Tj vG ax)(a54:aY K "_law_names" vH)(F54:aC K "_law_names" "_law_names" Kc vH aw)(a55:aY K "_law_mixed" vI)(F55:aC K "_law_mixed" "_law_mixed" Tn vI av)(a56:aY K "_law_tie" vJ)(F56:aC K "_law_tie" "_law_tie" Tp vJ as)(a57:aY K "_law_web" vK)(F57:aC K "_law_web" "_law_web" Bc vK ar)(a58:aY K "_law_class" vL)(F58:aC K "_law_class" "_law_class" Tq vL ap)(a59:aY K "_law_said" vM)(F59:aC K "_law_said" "_law_said" Tr vM an)(a60:aY K "_law_no_pointing" vN)(F60:aC K "_law_no_pointing" "_law_no_pointing" Tt vN am)(a61:aY K "_law_no_point" vO)(F61:aC K "_law_no_point" "_law_no_point" Tv vO al)(a62:aY K "_law_no_number" vP)(F62:aC K "_law_no_number" "_law_no_number" Tw vP ai)(a63:aY K "law" vQ)(Yu:K.lookup vQ=some #[co,cs,.func (W.fnOf "law" "law" (nU qe) (iI qe) (aG qe) .none aa a0 Y ag XH bf),cq])(Yv:W.codeIn K XH "law" = true)(Yw:W.keepIn K (.ref vQ)=true)(yt:W.nsIn K mainGlobals "LETTERS" = some (some (.str "abcdefghijklmnopqrstuvwxyz" XJ)))(yu:W.nsIn K mainGlobals "MOST_LETTERS" = some (some (.int 4 XM)))(yx:W.nsIn K mainGlobals "MOST_POINTS" = some (some (.int 9 XQ)))(yC:W.nsIn K mainGlobals "MOST_TIES" = some (some (.int 20 XR)))(yD:W.nsIn K mainGlobals "MOST_TIMES" = some (some (.int 9 XS)))(Yx:W.plainGet K bx Str.empty=true)(Yy:W.hasDictIn K bx=true)(Yz:W.plainOver K bx=true)(YB:W.findIn K (.ref bx) "__setattr__" = some (some (.builtin "object.__setattr__")))(YC:W.makesIn K bx=true)(YD:W.keepIn K (.ref bx)=true)(YF:W.findIn K (.ref bx) "names" = some none)(YG:W.findIn K (.ref bx) "pairs" = some none)(YH:W.nsIn K mainGlobals "len" = some none)(YJ:W.nsIn K mainGlobals "max" = some none)(YK:W.nsIn K mainGlobals "min" = some none)(YL:W.nsIn K mainGlobals "abs" = some none)(YM:W.nsIn K mainGlobals "divmod" = some none)(YQ:W.nsIn K mainGlobals "range" = some none)(YS:W.nsIn K mainGlobals "zip" = some none)(YT:W.nsIn K mainGlobals "list" = some none)(YW:W.nsIn K mainGlobals "tuple" = some none)(YX:W.nsIn K mainGlobals "int" = some none)(YZ:W.nsIn K mainGlobals "str" = some none)(Y0:W.nsIn K mainGlobals "set" = some none)(Y4:W.nsIn K mainGlobals "all" = some none)(Y5:W.nsIn K mainGlobals "isinstance" = some none)(Y6:W.nsIn K mainGlobals "enumerate" = some none)(Y7:W.nsIn K mainGlobals "any" = some none)(Y8:W.nsIn K mainGlobals "dict" = some none)(Y9:W.nsIn K mainGlobals "sorted" = some none)(Y_:W.nsIn K mainGlobals "repr" = some none)(Za:W.nsIn K mainGlobals "bool" = some none)(Zb:W.nsIn K mainGlobals "sum" = some none)(Zc:W.clsIn K bC=some be)(Zd:be.mro=[.ref bC,.type "ValueError",.type "Exception",.type "BaseException",.type "object"])(Ze:W.typeIn K (.ref bC)=some (.type "type"))(yG:W.excIn K bC iR "ValueError.__new__" = true)(yH:W.excIn K fM iR "ValueError.__new__" = true)(wj:W.excIn K gk iR "ValueError.__new__" = true)(yI:W.excIn K gF iR "ValueError.__new__" = true)(Zg:W.isClsIn K bC=true)(Zh:W.specialIn K (.ref bC) "__getattribute__" = some (some (.builtin "type.__getattribute__")))(Zi:W.readsIn K bC (.type "type")=true)(Zj:W.findCls K (.ref bC) (.type "type") "__init__" = some (.val (.builtin "ValueError.__init__")))(BX:W.specialIn K (.builtin "object.__class__") "__get__" = some (some (.builtin "getset_descriptor.__get__")))(BZ:W.takesIn K (.builtin "object.__class__")=some true)(Zk:Jj [bC,fM,gk,gF,j4,j6,j7,j8,j9,j_,kh,kj,kI,kJ,kO,kW,kY,dF]=true)(wk:XC K fM bC)(wu:XC K gk bC)(wz:XC K gF bC)(Bq:XC K j4 bC)(Br:XC K j6 bC)(Bs:XC K j7 bC)(Bt:XC K j8 bC)(Bu:XC K j9 bC)(Bv:XC K j_ bC)(Bw:XC K kh bC)(Bx:XC K kj bC)(BJ:XC K kI bC)(BK:XC K kJ bC)(BL:XC K kO bC)(BP:XC K kW bC)(BW:XC K kY bC)(oO:XC K dF bC)(Zm:K.lookup dF=some (excClassObj cn cm dF cl ck [.ref bC,.type "ValueError",.type "Exception",.type "BaseException",.type "object"] ch ce ci cf cd cc cb ca c9 c8 c6 "ValueError.__new__"))(Zn:W.findIn K (.ref dF) "__setattr__" = some (some (.builtin "object.__setattr__")))(Ca:W.findIn K (.ref dF) "lot" = some none)(B_:W.nsIn K mainGlobals "ValueError" = some none){cL PL:Qv}(Zo:Oo=Value.ref cL): ∃fd:FuncData,(∀(s:Zw)(v:zT),BindsTo s fd #[[v],[]] [("_law_script",v)])/\∀base:Heap,K.In base->base.Ns mainGlobals mg->W.CodeHd base cL PL->base.BuiltinsAt mg PL->aO l.prog w K mg base aW 11 fa fd ["_law_script"] (G3 K PL):=by
 have e:=cu.symm.trans (qwg X G a63);cases e;have b1:=F1.b2 "web" "fixed";have b2:=F2.b2 "start" "steps";have b3:=F3.b3 "web" "start" "steps";have b4:=F4.b2 "self" "lot";have b5:=F5.b1 "thing";have b6:=F6.b1 "thing";have b7:=F7.b1 "thing";have b8:=F8.b1 "thing";have b9:=F9.b2 "thing" "points";have en:=F10.b2 "thing" "points";have em:=F11.b3 "self" "points" "ties";have el:=F12.b1 "self";have ek:=F13.b1 "self";have ej:=F14.b1 "self";have ei:=F15.b2 "web" "thing";have eh:=F16.b2 "web" "thing";have eg:=F17.b2 "web" "thing";have ef:=F18.b1 "thing";have ee:=F19.b2 "web" "thing";have ed:=F20.b2 "web" "thing";have ec:=F21.b2 "web" "pointing";have eb:=F22.b3 "web" "one" "other";have ea:=F23.b2 "steps" "lot";have e9:=F24.b3 "web" "pointing" "numbers";have e8:=F25.b2 "web" "thing";have e7:=F26.binds (ps:=["web", "pointing", "a", "b"]) λ_ _ _ _ _ _=>Om λ_ _ _ _=>rfl;have e6:=F27.b3 "web" "pointing" "point";have e5:=F28.b3 "web" "a" "b";have e4:=F29.binds (ps:=["web", "pointing", "a", "b"]) λ_ _ _ _ _ _=>Om λ_ _ _ _=>rfl;have e3:=F30.b3 "steps" "a" "b";have e2:=F31.binds (ps:=["web", "pointing", "a", "b"]) λ_ _ _ _ _ _=>Om λ_ _ _ _=>rfl;have e1:=F32.b2 "web" "points";have e0:=F33.b1 "points";have dz:=F34.b1 "web";have dy:=F35.b2 "web" "part";have dx:=F36.b2 "web" "lot";have dv:=F37.b2 "web" "lot";have du:=F38.b2 "web" "pointing";have dt:=F39.b1 "web";have ds:=F40.b3 "weighed" "ins" "k";have dr:=F41.b3 "web" "ins" "wanted";have dq:=F42.b2 "web" "thing";have dp:=F43.b3 "steps" "starts" "ends";have dn:=F44.binds (ps:=["web", "steps", "lacking", "spare"]) λ_ _ _ _ _ _=>Om λ_ _ _ _=>rfl;have dm:=F45.b2 "web" "ins";have dk:=F46.b2 "thing" "least";have di:=F47.b2 "web" "k";have c5:=Px (st:=qd) Yr Ys Yt;have df:=c5.b2 "web" "pointing";have de:=F49.b1 "many";have dd:=F50.b1 "web";have dc:=F51.b2 "web" "k";have db:=F52.b2 "_law_script" "_law_k";have da:=F53.b2 "_law_pot_here" "_law_many";have d6:=F54.b2 "_law_pot_here" "_law_many";have d5:=F55.b2 "_law_pot_here" "_law_things";have d4:=F56.b2 "_law_pot_here" "_law_names_here";have d3:=F57.b3 "_law_pot_here" "_law_points" "_law_most";have d2:=F58.b1 "_law_e";have d1:=F59.b3 "_law_made" "_law_road" "_law_things";have d0:=F60.b2 "_law_pot_here" "_law_row";have cz:=F61.b2 "_law_pot_here" "_law_web_here";have cy:=F62.b1 "_law_pot_here";have c4:=Px (st:=qe) Yu Yv Yw;have cx:=c4.b1 "_law_script";have T:Txt K mg {uw:=uw,Kl:=c3,ux:=ux,Km:=c2,uy:=uy,Ko:=c1,rP:=rP,Kp:=c0,rQ:=rQ,Fj:=bz,uz:=uz,Kq:=bv,qj:=qj,Bg:=bu,uD:=uD,Kr:=bt,uE:=uE,Ks:=br,uF:=uF,Ku:=bq,rR:=rR,Kv:=bp,rT:=rT,Kw:=bo,rW:=rW,Ky:=bn,rY:=rY,Kz:=bm,rZ:=rZ,Fl:=bl,uG:=uG,KC:=bj,uH:=uH,KD:=bi,uI:=uI,KH:=bg,uJ:=uJ,KJ:=U,su:=su,Fo:=Q,sy:=sy,Fp:=O,uK:=uK,KN:=N,uL:=uL,KQ:=M,uM:=uM,KR:=L,sE:=sE,Fq:=J,uN:=uN,KY:=I,uO:=uO,KZ:=H,uP:=uP,K1:=E,uQ:=uQ,K3:=D,uR:=uR,K4:=C,uT:=uT,K5:=B,uU:=uU,K6:=A,uV:=uV,K7:=z,uW:=uW,K8:=y,uZ:=uZ,K9:=u,u5:=u5,K_:=r,u6:=u6,La:=o,u9:=u9,Lb:=n,u_:=u_,Ld:=m,vd:=vd,Le:=j,vf:=vf,Lg:=i,vg:=vg,Lh:=f,vh:=vh,Li:=c,vm:=vm,Lj:=a,vo:=vo,Lk:=bd,vp:=vp,Ln:=bc,vq:=vq,Lr:=bb,oM:=oM,ql:=W.fnOf "times_over" "times_over" (nU qd) (iI qd) (aG qd) .none af ae ac ah Oo ab,vA:=vA,Ls:=ba,vB:=vB,Lw:=b0,vC:=vC,Lx:=az,vD:=vD,Ly:=ay,vG:=vG,Lz:=ax,vH:=vH,LC:=aw,vI:=vI,LK:=av,vJ:=vJ,LQ:=as,vK:=vK,LR:=ar,vL:=vL,L_:=ap,vM:=vM,Ma:=an,vN:=vN,Mf:=am,vO:=vO,Mg:=al,vP:=vP,Mh:=ai,vQ:=fa,Mi:=W.fnOf "law" "law" (nU qe) (iI qe) (aG qe) .none aa a0 Y ag XH bf,yt:=.str "abcdefghijklmnopqrstuvwxyz" XJ,yu:=.int 4 XM,yx:=.int 9 XQ,yC:=.int 20 XR,yD:=.int 9 XS,bx:=bx,bC:=bC,fM:=fM,gk:=gk,gF:=gF,j4:=j4,j6:=j6,j7:=j7,j8:=j8,j9:=j9,j_:=j_,kh:=kh,kj:=kj,kI:=kI,kJ:=kJ,kO:=kO,kW:=kW,kY:=kY,dF:=dF}:={Mj:=F1,TY:=b1,T3:=qwg X G a1,yE:=F2,Bh:=b2,Bj:=qwg X G a2,T8:=F3,qdQ:=b3,qdR:=qwg X G a3,qdS:=F4,qdT:=b4,qm:=F5,vR:=b5,vU:=qwg X G a5,Bk:=F6,Ft:=b6,Fv:=qwg X G a6,vV:=F7,Bl:=b7,Bm:=qwg X G a7,T9:=F8,qdU:=b8,qdV:=qwg X G a8,T_:=F9,qdW:=b9,qdX:=qwg X G a9,Ua:=F10,qdY:=en,qdZ:=qwg X G a10,qd0:=F11,qd1:=em,qd2:=F12,lY:=el,lZ:=#[a12,i12,F12.kp],qd3:=F13,Fw:=ek,FP:=#[a13,Yp,F13.kp],qd4:=F14,Fx:=ej,FQ:=#[a14,Yq,F14.kp],Fy:=F15,Ub:=ei,Uc:=qwg X G a15,Ud:=F16,qd5:=eh,qd6:=qwg X G a16,Ue:=F17,qd7:=eg,qd8:=qwg X G a17,Ug:=F18,qd9:=ef,qd_:=qwg X G a18,Ml:=F19,Uh:=ee,Ui:=qwg X G a19,yF:=F20,Fz:=ed,FJ:=qwg X G a20,qp:=F21,vW:=ec,vX:=qwg X G a21,Uj:=F22,qea:=eb,qeb:=qwg X G a22,Uk:=F23,qec:=ea,qee:=qwg X G a23,Mp:=F24,Ul:=e9,Um:=qwg X G a24,vY:=F25,Bo:=e8,Bp:=qwg X G a25,Mq:=F26,Uo:=e7,Uq:=qwg X G a26,Ur:=F27,qef:=e6,qeg:=qwg X G a27,Us:=F28,qeh:=e5,qei:=qwg X G a28,Ut:=F29,qej:=e4,qek:=qwg X G a29,Uu:=F30,qel:=e3,qem:=qwg X G a30,Uv:=F31,qen:=e2,qeo:=qwg X G a31,Mr:=F32,Uw:=e1,Ux:=qwg X G a32,Uy:=F33,qep:=e0,qeq:=qwg X G a33,FN:=F34,Ms:=dz,Mt:=qwg X G a34,Uz:=F35,qer:=dy,qes:=qwg X G a35,UG:=F36,qet:=dx,qeu:=qwg X G a36,UJ:=F37,qev:=dv,qew:=qwg X G a37,Mu:=F38,UL:=du,UW:=qwg X G a38,U0:=F39,qex:=dt,qey:=qwg X G a39,U3:=F40,qez:=ds,qeA:=qwg X G a40,Mv:=F41,U4:=dr,U5:=qwg X G a41,U6:=F42,qeB:=dq,qeC:=qwg X G a42,U7:=F43,qeD:=dp,qeE:=qwg X G a43,U8:=F44,qeF:=dn,qeG:=qwg X G a44,U9:=F45,qeH:=dm,qeI:=qwg X G a45,U_:=F46,qeJ:=dk,qeK:=qwg X G a46,Va:=F47,qeL:=di,qeM:=qwg X G a47,Mw:=c5,qeN:=df,qeO:=qwg X G a48,Vb:=F49,qeP:=de,qeQ:=qwg X G a49,Vc:=F50,qeR:=dd,qeS:=qwg X G a50,Vd:=F51,qeT:=dc,qeU:=qwg X G a51,Ve:=F52,qeV:=db,qeW:=qwg X G a52,gw:=F53,gG:=da,gH:=qwg X G a53,Vf:=F54,qeX:=d6,qeY:=qwg X G a54,Mx:=F55,Vg:=d5,Vh:=qwg X G a55,Vi:=F56,qeZ:=d4,qe0:=qwg X G a56,Vj:=F57,qe1:=d3,qe2:=qwg X G a57,Vk:=F58,qe3:=d2,qe4:=qwg X G a58,sH:=F59,vZ:=d1,wg:=qwg X G a59,Vl:=F60,qe5:=d0,qe6:=qwg X G a60,Vm:=F61,qe7:=cz,qe8:=qwg X G a61,Vn:=F62,qe9:=cy,qe_:=qwg X G a62,qfa:=c4,qqu:=cx,qqv:=qwg X G a63,Vo:=qwg X G yt,Vp:=#[XJ,rfl],Vq:=qwg X G yu,Vr:=#[XM,rfl],qfb:=qwg X G yx,qfc:=#[XQ,rfl],qfd:=qwg X G yC,qfe:=#[XR,rfl],Vs:=qwg X G yD,Vt:=#[XS,rfl],Vu:=YF,Mz:=YG,qff:=qwg X G X3,eU:=#[Yx,Yy,Yz,YB],qfg:=#[YC,a11,Yo,YD],nm:=#[qwJ X G YH,qwJ X G YJ,qwJ X G YK,qwJ X G YL,qwJ X G YM,qwJ X G YQ,qwJ X G YS,qwJ X G YT,qwJ X G YW,qwJ X G YX,qwJ X G YZ,qwJ X G Y0,qwJ X G Y4,qwJ X G Y5],nu:=#[qwJ X G Y6,qwJ X G Y7,qwJ X G Y8,qwJ X G Y9,qwJ X G Y_,qwJ X G Za],Vz:=#[qwJ X G Zb],Vv:=qwg X G X4,Vw:=qwg X G X5,MF:=qwg X G X6,Vx:=qwg X G X7,qfh:=qwg X G X8,qfi:=qwg X G X_,qfj:=qwg X G Yb,qfk:=qwg X G Yc,qfl:=qwg X G Yd,qfm:=qwg X G Ye,qfn:=qwg X G Yg,qfo:=qwg X G Yh,qfp:=qwg X G Yi,qfq:=qwg X G Yj,qfr:=qwg X G Yk,qfs:=qwg X G Yl,qft:=qwg X G Ym,Vy:=qwg X G Yn,yG:=yG,yH:=yH,wj:=wj,yI:=yI,ib:=Zg,tb:=Ze,ini:=#[Zh,Zi,Zj],BX:=BX,BZ:=BZ,nd:=qc3 Zk,wk:=wk,wu:=wu,wz:=wz,Bq:=Bq,Br:=Br,Bs:=Bs,Bt:=Bt,Bu:=Bu,Bv:=Bv,Bw:=Bw,Bx:=Bx,BJ:=BJ,BK:=BK,BL:=BL,BP:=BP,BW:=BW,oO:=oO,MJ:=#[#[_,_,_,_,_,_,_,_,_,_,_,_,_,_,_,Zm],yG,#[_,Zc,Zd],a4,beq_iff_eq.mp i4,oO.kp],qfu:=XC.set oO Zn,Ca:=Ca,B_:=qwJ X G B_};exact#[_,λs v=>.of_eq rfl,λbase _ _ cv cw=>qsK T #[Zo,cv,cw]]
def walk{l:W.OpenLaw}{q:J9}{i:QAH}{J:(Str->Option Value)->Heap->Prop}{A:World->Heap->Prop}{d I:DefRec}{K:Params->W.Frag}{c o:Qv}(C:l.most=some 63)(v:d.params.defaults=[])(E:∀(w:zX)(h:zf),A w h->(K w.params).In h)(m:(PyProof.Rows.recsOf q).find? (λe=>e.name == ("times_over" : Str))=some I)(j:∀w:World,W.tabIn (K w.params) "times_over" = some (c,o))(r:∀w:World,W.noTabs (K w.params)=true)(F:∀(w:zX)(mg:Zu)(fa:Qv)(h:zf),(K w.params).In h->h.Ns mainGlobals mg->mg d.name=some (.ref fa)->
   ∃y:FuncData,(∀(s:Zw)(u:zT),BindsTo s y #[[u],[]] [("_law_script",u)])/\∀base:Heap,(K w.params).In base->base.Ns mainGlobals mg->W.CodeHd base c o->base.BuiltinsAt mg o->aO l.prog w (K w.params) mg base aW 11 fa y ["_law_script"] (G3 (K w.params) o)):
  W.WalkO q i J A l.row.toRowW d [] (λf vs=>PySem.call f vs):=
 L2.qp5 (n:=63) (k:=11) (x:= "_law_script") (CX:=λ_=>aW) (sp:=λw=>G3 (K w.params) o) C (by decide) v #[rfl,by decide,by decide,rfl] E m j r F (λ_ _ a B D H G=>#[a,B,rfl,G,D,.inl H,λ_=>rfl]) λ_ _ _ _ _ z=>z
end oK
end
set_option Elab.async false
set_option maxRecDepth 100000
set_option maxHeartbeats 4000000
open PySem PySem.W PyProof.Rows
namespace PySem.W.Fast
local macro_rules|`(command|def $i:declId $s:optDeclSig $v:declVal)=>`(command|noncomputable def $i $s:optDeclSig $v:declVal)
def tw14040411947116856524:=0
def tw12400442500916599918:=0
def tw18032046202858585913:=0
def tw7767823307323821013:=0
def tw5370110321623868629:=0
def tw18280467917808529171:=0
def tw3735120019747200590:=0
def tw14118618293275441632:=0
def tw16375418706015205381:=0
def tw16199757035177691220:=0
def tw4627227011839573078:=0
def tw13316115903007411105:=0
def tw11327978359569976147:=0
def tw3420231908759648983:=0
def tw8596875422188945868:=0
def tw16663282901718320209:=0
def tw13126149936740692729:=0
def tw13209896697844273244:=0
def tw10569244898990039532:=0
def tw13744928479746378461:=0
def tw7114058149227977792:=0
def tw666504849668899433:=0
def tw3937889423800980039:=0
def tw11776094590131598248:=0
def tw9723812588471606146:=0
def tw5848196009991331558:=0
def tw16285481218196883029:=0
def tw1277877895249926009:=0
def tw8295181916122679288:=0
def tw17191536530981310021:=0
def tw17914494812736656282:=0
def tw13398406806172960608:=0
def tw16440180914761105804:=0
def tw10040056932697019055:=0
def tw5696210970527617698:=0
def tw15771775295047657015:=0
def tw12179469729636849051:=0
def tw12970547449019576025:=0
def tw8305802979370694319:=0
def tw3783605856285814381:=0
def tw2473864147769568501:=0
def tw10581287382492161017:=0
def tw2599970287736157408:=0
def tw18196347277249782720:=0
def tw9674545725859527368:=0
def tw12557714647748215752:=0
def tw16384933344176837666:=0
def tw10278508922404028242:=0
def tw4456394646584913147:=0
def tw13738306822603062577:=0
def tw8645942519005277141:=0
def tw18220514318795177687:=0
def tw10674476253869831624:=0
def tw7310754357393544017:=0
def tw17627509129000051748:=0
def tw15539503084351427111:=0
def tw1218570357459273939:=0
def tw11872089004702461187:=0
def tw17906033156993327818:=0
def tw8900924899604569423:=0
def tw997107641096840514:=0
def tw6036393726158215113:=0
def tw9572465091066829317:=0
def tw9943634471807353303:=0
def tw8251966308081471561:=0
def tw6659549041584378115:=0
def tw14124299295208955779:=0
def tw14110463502982017850:=0
def tw18256320513898959059:=0
def tw8854150828491684853:=0
def tw5153459617497363417:=0
def tw11237371112084328150:=0
def tw16396898620876762233:=0
def tw15769110009747535756:=0
def tw6977028546664159926:=0
def tw8530968730822213844:=0
def tw4031691747323635470:=0
def tw18326942420782647493:=0
def tw10227418563365926412:=0
def tw15524621336200517109:=0
def tw14720487797981114914:=0
def tw2936020536318336920:=0
def tw17914139822392518080:=0
def tw11731780319838229128:=0
def tw5725033653556127007:=0
def tw3964982877696306141:=0
def tw238287058415198053:=0
def tw11689560879991517467:=0
def tw3280895101527607436:=0
def tw9195816597767263520:=0
def tw15383848604059892598:=0
def tw7076545864742975338:=0
def tw15728900734755126509:=0
def tw8100982709172899497:=0
def tw14387939968606613846:=0
def tw9188367627409823063:=0
def tw1998517971314331741:=0
def tw14864926362155742652:=0
def tw2960534484008020126:=0
def tw15907793616360419935:=0
def tw8654079248238388716:=0
def tw9158838632701277769:=0
def tw17900020732375623564:=0
def tw10350687021583511441:=0
def tw15826324034672755213:=0
def tw7778100594770107547:=0
def tw3472754614624794880:=0
def tw10881280283691797158:=0
def tw5544056132103261821:=0
def tw7560737252768382733:=0
def tw18003309485255309338:=0
def tw15960759167789935629:=0
def tw14796223543720577489:=0
def tw9955169627594292788:=0
def tw4007660837138954076:=0
def tw12624410619345796861:=0
def tw16721117539971085903:=0
def tw12456264130519435275:=0
def tw8349986144041528762:=0
def tw10769946580624663664:=0
def tw15279207746756014208:=0
def tw3008499517193767560:=0
def tw185530177676054748:=0
def tw4910692168774734105:=0
def tw4458635998129892509:=0
def tw912710444806338496:=0
def tw2788028323581790473:=0
def tw1247054137854277412:=0
def tw12873381991355335737:=0
def tw10043902222674658251:=0
def tw5326590228250400330:=0
def tw6408415555212799546:=0
def tw11822041565521497812:=0
def tw856214124289261788:=0
def tw16277399124273248391:=0
def tw3126972702170241628:=0
def tw12846766756163575993:=0
def tw14847873588065631958:=0
def tw7650471775752645207:=0
def tw4314231049571849292:=0
def tw7367812463574973436:=0
def tw13799041238926713459:=0
def tw3180626701763732418:=0
def tw3763826074310036851:=0
def tw11136484562763362707:=0
def tw2220768379140767033:=0
def tw7055819058667494142:=0
def tw11611145079183627388:=0
def tw17163252446341862091:=0
def tw16521322079531143216:=0
def tw6104272713394065660:=0
def tw3543359429038442547:=0
def tw18135053252669849498:=0
def tw613081131023968360:=0
def tw146591854598823001:=0
def tw7839162500530031379:=0
def tw3520530708609550304:=0
def tw10189211158639301333:=0
def tw14375906270338996265:=0
def tw8177586301641524394:=0
def tw16083836017225314642:=0
def tw2989506496975717170:=0
def tw9279542445166648399:=0
def tw18245020460418644238:=0
def tw10386529501240706472:=0
def tw4081330475397189271:=0
def tw56125589545879564:=0
def tw5042624692955761250:=0
def tw2171935597565998457:=0
def tw14347355873629907626:=0
def tw11846315959601802339:=0
def tw5013334357124827290:=0
def tw4509004156361484887:=0
def tw15674795226198862864:=0
def tw7350024791490392141:=0
def tw1034447685041473407:=0
def tw6045344908084001136:=0
def tw9529801583094594572:=0
def tw10355646799582231630:=0
def tw8556738613288694893:=0
def tw6488196310412566002:=0
def tw7900849525020726342:=0
def tw9978486824228618342:=0
def tw4453474129030934063:=0
def tw6855665723396161126:=0
def tw9310182297783001071:=0
def tw15384731921191250065:=0
def tw3469464177851789612:=0
def tw657278805489807555:=0
def tw7978211737157478336:=0
def tw6333843926713721641:=0
def tw14946441751663938009:=0
def tw16622670482403683101:=0
def tw3332651830457134720:=0
def tw17818941672042893428:=0
def tw14874885006973597424:=0
def tw15672099435558142227:=0
def tw866949160830113361:=0
def tw14736656682963650245:=0
def tw17010804185488338158:=0
def tw9500090958954664544:=0
def tw2283506881716174888:=0
def tw12881500921471989409:=0
def tw8682027665475570864:=0
def tw18217767664312568963:=0
def tw9045463005962799213:=0
def tw14318590115846079965:=0
def tw12102869856541466735:=0
def tw18241819986275719097:=0
def tw11747956936167679215:=0
def tw16801695262140580254:=0
def tw6171784098989970299:=0
def tw10708446160690274162:=0
def tw16878951995597789005:=0
def tw15892686959944100340:=0
def tw2570292767527111832:=0
def tw5358336748781984835:=0
def tw1116106087589175126:=0
def tw13101559915880004029:=0
def tw4239673113215547523:=0
def tw3994522673029950332:=0
def tw11239200917868686860:=0
def tw468547129443903849:=0
def tw5702585190746606063:=0
def tw1911249405110131459:=0
def tw12940393675307384495:=0
def tw14230757455946987651:=0
def tw2855109473477363368:=0
def tw829158481479415721:=0
def tw11607189711967924899:=0
def tw10480655243530586737:=0
def tw1187415576884086924:=0
def tw13630402228205953548:=0
def tw777750307515226405:=0
def tw3077326972865570998:=0
def tw15212959275977971291:=0
def tw4314089901738449713:=0
def tw15273943117112707119:=0
def tw6402034043787085306:=0
def tw208519569490605099:=0
def tw472194598716973100:=0
def tw4512291105125808817:=0
def tw9674554285664062046:=0
def tw15671388681394338448:=0
end PySem.W.Fast
set_option maxRecDepth 100000 in
set_option maxHeartbeats 0 in
theorem PySem.Challenge.cw_pointways_k76_ways_and_times_refused_holds : PySem.Challenge.rw_pointways_k76_ways_and_times_refused.Holds := by
  w_on;o_law;k_head;(case hw=>w_witness2)
  k_fill
  refine' oK.walk (l:=PySem.Challenge.rw_pointways_k76_ways_and_times_refused) rfl rfl (fun w h Y=>W.km_in_of Y) ?qto ?qtp ?qtq ?F
  case qto=>rfl
  case qtp=>
    intro w;refine' L2.qp6 ?b1 ?b2 ?b3 ?b4 ?b5
    (case b1=>k_is)
    (case b2=>k_is)
    (case b3=>rfl)
    (case b4=>k_is)
    (case b5=>rfl)
  case qtq=>intro w;kernel_rfl
  case F=>
    intro w mg fa h KX G hmg;refine' oK.all_mk KX G hmg ?X3 ?X4 ?X5 ?X6 ?X7 ?X8 ?X_ ?Yb ?Yc ?Yd ?Ye ?Yg ?Yh ?Yi ?Yj ?Yk ?Yl ?Ym ?Yn ?a1 ?F1 ?a2 ?F2 ?a3 ?F3 ?a4 ?i4 ?F4 ?a5 ?F5 ?a6 ?F6 ?a7 ?F7 ?a8 ?F8 ?a9 ?F9 ?a10 ?F10 ?a11 ?Yo ?F11 ?a12 ?i12 ?F12 ?a13 ?Yp ?F13 ?a14 ?Yq ?F14 ?a15 ?F15 ?a16 ?F16 ?a17 ?F17 ?a18 ?F18 ?a19 ?F19 ?a20 ?F20 ?a21 ?F21 ?a22 ?F22 ?a23 ?F23 ?a24 ?F24 ?a25 ?F25 ?a26 ?F26 ?a27 ?F27 ?a28 ?F28 ?a29 ?F29 ?a30 ?F30 ?a31 ?F31 ?a32 ?F32 ?a33 ?F33 ?a34 ?F34 ?a35 ?F35 ?a36 ?F36 ?a37 ?F37 ?a38 ?F38 ?a39 ?F39 ?a40 ?F40 ?a41 ?F41 ?a42 ?F42 ?a43 ?F43 ?a44 ?F44 ?a45 ?F45 ?a46 ?F46 ?a47 ?F47 ?a48 ?Yr ?Ys ?Yt ?a49 ?F49 ?a50 ?F50 ?a51 ?F51 ?a52 ?F52 ?a53 ?F53 ?a54 ?F54 ?a55 ?F55 ?a56 ?F56 ?a57 ?F57 ?a58 ?F58 ?a59 ?F59 ?a60 ?F60 ?a61 ?F61 ?a62 ?F62 ?a63 ?Yu ?Yv ?Yw ?yt ?yu ?yx ?yC ?yD ?Yx ?Yy ?Yz ?YB ?YC ?YD ?YF ?YG ?YH ?YJ ?YK ?YL ?YM ?YQ ?YS ?YT ?YW ?YX ?YZ ?Y0 ?Y4 ?Y5 ?Y6 ?Y7 ?Y8 ?Y9 ?Y_ ?Za ?Zb ?Zc ?Zd ?Ze ?yG ?yH ?wj ?yI ?Zg ?Zh ?Zi ?Zj ?BX ?BZ ?Zk ?wk ?wu ?wz ?Bq ?Br ?Bs ?Bt ?Bu ?Bv ?Bw ?Bx ?BJ ?BK ?BL ?BP ?BW ?oO ?Zm ?Zn ?Ca ?B_ ?Zo
    case X3 | X4 | X5 | X6 | X7 | X8 | X_ | Yb | Yc | Yd | Ye | Yg | Yh | Yi | Yj | Yk | Yl | Ym | Yn | a1 | a2 | a3 | a5 | a6 | a7 | a8 | a9 | a10 | a15 | a16 | a17 | a18 | a19 | a20 | a21 | a22 | a23 | a24 | a25 | a26 | a27 | a28 | a29 | a30 | a31 | a32 | a33 | a34 | a35 | a36 | a37 | a38 | a39 | a40 | a41 | a42 | a43 | a44 | a45 | a46 | a47 | a48 | a49 | a50 | a51 | a52 | a53 | a54 | a55 | a56 | a57 | a58 | a59 | a60 | a61 | a62 | a63=>unfold L2.aY;k_is
    case a4 | i4 | a11 | Yo | a12 | i12 | a13 | Yp | a14 | Yq | Yr | Ys | Yt | Yu | Yv | Yw | yt | yu | yx | yC | yD | Yx | Yy | Yz | YB | YC | YD | YF | YG | YH | YJ | YK | YL | YM | YQ | YS | YT | YW | YX | YZ | Y0 | Y4 | Y5 | Y6 | Y7 | Y8 | Y9 | Y_ | Za | Zb | Zc | Ze | Zg | Zh | Zi | Zj | BX | BZ | Zm | Zn | Ca | B_=>k_is
    case Zd | Zo=>rfl
    case F1 | F2 | F3 | F4 | F5 | F6 | F7 | F8 | F9 | F10 | F11 | F12 | F13 | F14 | F15 | F16 | F17 | F18 | F19 | F20 | F21 | F22 | F23 | F24 | F25 | F26 | F27 | F28 | F29 | F30 | F31 | F32 | F33 | F34 | F35 | F36 | F37 | F38 | F39 | F40 | F41 | F42 | F43 | F44 | F45 | F46 | F47 | F49 | F50 | F51 | F52 | F53 | F54 | F55 | F56 | F57 | F58 | F59 | F60 | F61 | F62=>refine' L2.Px ?l ?c ?k;(case l=>k_is);(case c=>k_is);(case k=>k_is)
    case yG | yH | wj | yI=>k_exc
    case Zk=>decide+kernel
    case wk | wu | wz | Bq | Br | Bs | Bt | Bu | Bv | Bw | Bx | BJ | BK | BL | BP | BW | oO=>refine' L2.qs3 ?c ?m ?h ?t ?a ?n ?g ?k;(case c=>k_is);(case m=>rfl);(case h=>rfl);(case t=>k_is);(case a=>k_is);(case n=>k_is);(case g=>k_is);(case k=>k_is)


