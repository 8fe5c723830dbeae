import PyProof.Rows.All
import Wide.All
import OpenK.AllK
import Wide.FinOn
import Lean
import PyProof.EqAt
import PyProof.EqKinds
import PyProof.TupleCall
import PyProof.NeData
import PyProof.AttrMissHeap
import PyProof.FactsAll.enumerate_1
import KE.KDictOf
import PyProof.EnumMake
import PyProof.Rows.SumAny
import PyProof.Rows.StrJoin2
import PyProof.Rows.CountFlat
import PyProof.Rows.FoldWordsD
import PyProof.Rows.SeqMore2
import PyProof.Rows.MinMaxN
import PyProof.Rows.StrInSeq3
import PyProof.Rows.ReprR
import PyProof.StrLawsRepr
import PyProof.StrCalls2
import PyProof.Rows.StrNews2
import PyProof.Rows.StrSplitJoin
import PyProof.StrLawsTight
import PyProof.StrLawsChain
import PyProof.FString4
import PyProof.RulesTry
import PyProof.StrOps2
import PyProof.Rows.SeqMore
import PyProof.DictItems
import KE.KPairComp
import PyProof.Rows.SortRuns
import PyProof.Rows.SortShell
import KE.KSortKey
import PySem.Challenge.RW_pointways_k51_whole_fewest_shown
set_option genSizeOf false
noncomputable section
set_option Elab.async false
set_option linter.all false
set_option maxRecDepth 100000
local macro_rules | `(term| #[$x,$xs,*]) => `(term| ⟨$x,$xs,*⟩) | `(term| #[$x]) => `(term| ⟨$x⟩)
local macro_rules | `(term| ⋯) => `(term| by lia)
local macro_rules | `(term| ∅) => `(term| by omega)
local macro_rules|`(command|def $i:declId $s:optDeclSig $v:declVal)=>`(command|noncomputable def $i $s:optDeclSig $v:declVal)
def qm2:=@List.getElem?_eq_some_iff
def qm3:=@PySem.wpAny_bind
def qm4:=@PySem.Heap.get?_push_of_some
def qm5:=@Nat.le_refl
def qm6:=@List.mem_of_getElem?
def qm7:=@List.length_map
def qm8:=@PySem.wpAny_pure
def qm9:=@PySem.Heap.lt_size
def qm_:=@List.mem_cons_of_mem
def qna:=@PyProof.Rows.wpS_bind
def qnb:=@of_decide_eq_true
def qnc:=@List.mem_cons
def qnd:=@PySem.boot_len
def qne:=@PySem.Heap.get?_push_size
def qnf:=@Nat.ne_of_lt
def qng:=@List.mem_cons_self
def qnh:=@Classical.byContradiction
def qni:=@List.length_take
def qnj:=@Nat.lt_of_lt_of_le
def qnk:=@List.all_eq_true
def qnl:=@PyProof.Rows.wpS_pure
def qnm:=@List.size_toArray
def qnn:=@List.take_length
def qnp:=@Nat.le_trans
def qnq:=@Bool.false_ne_true
def qnr:=@List.getElem?_map
def qns:=@List.append_assoc
def qnt:=@List.length_cons
def qnu:=@PySem.F.plainAttrs_list
def qnv:=@List.mem_filter
def qnw:=@List.mem_append
def qnx:=@List.getElem?_eq_getElem
def qny:=@List.getElem?_append_left
def qnz:=@List.getElem?_append_right
def qnA:=@List.mem_map
def qnB:=@Option.some.inj
def qnC:=@List.append_nil
def qnD:=@List.mem_range
def qnE:=@decide_eq_true
def qnF:=@List.not_mem_nil
def qnG:=@List.mem_append_left
def qnH:=@congrArg
def qnI:=@Nat.zero_le
def qnJ:=@List.mem_append_right
def qnK:=@Bool.and_eq_true
def qnL:=@of_decide_eq_false
def qnM:=@decide_eq_false
def qnN:=@PySem.W.mg_of
def qnO:=@List.extract_eq_take_drop
def qnP:=@List.map_cons
def qnQ:=@PySem.F.slot_list_append
def qnR:=@PySem.F.type_list_append
def qnS:=@PySem.PassesOwn.never
def qnT:=@List.length_append
def qnU:=@PySem.wpAny_field
def qnV:=@PySem.Heap.size_push
def qnW:=@PySem.mem_of_lookup
def qnX:=@PyProof.Rows.callWith_type1
def qnY:=@List.nodup_cons
def qnZ:=@Nat.zero_add
def qn0:=@PySem.W.mg_none_of
def qn1:=@Array.toList_extract
def qn2:=@List.length_filter_le
def qn3:=@List.map_append
def qn4:=@List.mem_singleton
def qn5:=@List.filter_append
def qn6:=@Nat.lt_succ_of_lt
def qn7:=@Bool.not_eq_true'
def qn8:=@PySem.wpAny_mono
def qn9:=@List.perm_append_comm
def qn_:=@PySem.wpAny_callSpecial?_slot
def qoa:=@PySem.wpAny_holding
def qob:=@PySem.Heap.SameBut.update
def qoc:=@Array.toList_append
def qod:=@Option.map_eq_some_iff
def qoe:=@Bool.false_eq_true
def qof:=@List.Perm.append_left
def qog:=@List.take_append_drop
def qoh:=@PyProof.Rows.wpS_forRange
def qoi:=@Nat.lt_succ_self
def qoj:=@Nat.lt_irrefl
def qok:=@PySem.wpAny_truthy_bool
def qol:=@decide_eq_true_eq
def qom:=@PySem.wpAny_Call_Name_kw
def qon:=@List.take_of_length_le
def qoo:=@PySem.wpAny_passesOwn
def qop:=@Array.size_push
def qoq:=@List.countP_cons
def qor:=@PySem.codeAny_mono
def qos:=@List.length_eq_zero_iff
def qot:=@PySem.wpAny_setField_rec
def qou:=@Bool.eq_iff_iff
def qov:=@PySem.Heap.get?_update_other
def qow:=@PySem.wpAny_call_entry
def qox:=@Array.length_toList
def qoy:=@List.replicate_succ
def qoz:=@Nat.le_succ_of_le
def qoA:=@List.eq_nil_of_length_eq_zero
def qoB:=@PySem.Heap.get?_update_self
def qoC:=@PySem.F.slot_enumerate_next
def qoD:=@or_false
def qoE:=@Ne.symm
def qoF:=@Nat.ne_of_gt
def qoG:=@List.map_map
def qoH:=@List.lookup_cons
def qoI:=@PySem.codeAny_call_builtin
def qoJ:=@List.replicate_succ'
def qoK:=@Nat.le_of_lt
def qoL:=@of_eq_true
def qoM:=@Array.getElem?_eq_some_iff
def qoN:=@List.exists_of_findSome?_eq_some
def qoO:=@List.map_congr_left
def qoP:=@List.mem_iff_getElem?
def qoQ:=@List.any_eq_true
def qoR:=@PySem.Obj.data_mapFields
def qoS:=@PySem.wpAny_rule
def qoT:=@Option.isSome_iff_exists
def qoU:=@Nat.le_succ
def qoV:=@PySem.wpAny_setField
def qoW:=@PySem.wpAny_pyIter_list
def qoX:=@PySem.wpAny_newObj_type
def qoY:=@eq_true
def qoZ:=@PySem.wpAny_loadPart_at
def qo0:=@List.filter_cons_of_pos
def qo1:=@List.filter_cons_of_neg
def qo2:=@List.foldl_cons
def qo3:=@PySem.codeAny_builtin
def qo4:=@List.countP_eq_length_filter
def qo5:=@List.mem_zipIdx_iff_getElem?
def qo6:=@List.filter_nil
def qo7:=@beq_eq_false_iff_ne
def qo8:=@PyProof.Rows.F.plain_set_update_loop
def qo9:=@PyProof.Rows.wpS_mono
def qo_:=@List.filter_sublist
def qpa:=@Nat.succ.inj
def qpb:=@PySem.wpAny_call
def qpc:=@PySem.F.slot_tuple_iterator_next
def qpd:=@PySem.wpAny_seqItems
def qpe:=@PySem.Obj.isFreed_of_fields
def qpf:=@Nat.min_eq_left
def qpg:=@Array.size_append
def qph:=@Classical.not_imp
def qpi:=@List.length_range
def qpj:=@beq_iff_eq
def qpk:=@List.any_cons
def qpl:=@List.length_erase_of_mem
def qpm:=@PySem.wpAny_attempt
def qpn:=@PyProof.Rows.wpS_modify
def qpo:=@PySem.plainObj_wpAny_Assign_Attribute
def qpp:=@Array.getElem?_setIfInBounds_ne
def qpq:=@List.getElem?_range
def qpr:=@PySem.W.kia_one
def qps:=@List.cons_append
def qpt:=@PySem.wpAny_isInstance
def qpu:=@List.take_zero
def qpv:=@PySem.F.slot_list_clear
def qpw:=@PySem.F.type_list_clear
def qpx:=@List.getElem?_set_self
def qpy:=@PySem.Code.quiet_builtin
def qpz:=@PySem.wpAny_pyIter_tuple
def qpA:=@PySem.tupleKind_room_in1
def qpB:=@List.length_pos_of_mem
def qpC:=@Nat.lt_of_succ_lt_succ
def qpD:=@PySem.wpAny_execs_nil
def qpE:=@if_false
def qpF:=@List.find?_cons
def qpG:=@List.length_singleton
def qpH:=@List.getElem?_eq_none
def qpI:=@List.flatten_cons
def qpJ:=@List.nodup_append
def qpK:=@Int.toNat_natCast
def qpL:=@Array.toList_push
def qpM:=@PySem.W.hideAll_none
def qpN:=@PySem.sizeLine_eq
def qpO:=@List.mem_iff_getElem
def qpP:=@PySem.Around.under_plainId
def qpQ:=@List.mem_erase_of_ne
def qpR:=@PySem.isSubtype_stop
def qpS:=@PySem.F.excBase_ValueError
def qpT:=@Array.toList_setIfInBounds
def qpU:=@Classical.not_forall
def qpV:=@Nat.pow_le_pow_right
def qpW:=@Nat.le_add_right
def qpX:=@List.filterMap_cons
def qpY:=@List.take_succ_cons
abbrev QAB:=PySem.Value->PySem.Shared->Prop
abbrev QAC:=List (PySem.Addr×PySem.Obj)
abbrev QAD:=List (PySem.Str×PySem.Str)
abbrev QAE:=List PySem.Value
abbrev QAG:=Option PySem.Value
abbrev QAH:=List PySem.Str
abbrev J9:=PySem.Addr
abbrev YZ:=PySem.W.Frag
abbrev Y4:=PySem.Str->Option PySem.Value
abbrev Y5:=PySem.Shared
abbrev qd:=PySem.Program
abbrev qx:=List Int
abbrev wX:=List Nat
abbrev wY:=Array PySem.Value
abbrev wZ:=List PySem.Expr
abbrev dR:=Option PySem.Addr
abbrev eH:=PySem.Value
abbrev lW:=PySem.World
abbrev lY:=PySem.Around
abbrev oY:=PySem.Heap
abbrev rz:=PySem.Expr
abbrev sH:=PySem.FuncData
abbrev sX:=Nat->Option Int
abbrev tR:=List PySem.Addr
abbrev QAJ:=Unit->PySem.Shared->Prop
namespace L2
open PySem PySem.Spec PyProof.Rows
abbrev Key:=Sum Int Str
def uq:Key->Value->Bool
 |.inl k,v=>Value.isInt k v
 |.inr x,v=>Value.isStrOf x v
def qkC(w:lW):Key->Int
 |.inl k=>hashInt k
 |.inr x=>hashStr w x
def dZ:∀{k:Key}{v:eH},uq k v=true->(∃i t,k=Sum.inl i/\v=Value.int i t)\/(∃x t,k=Sum.inr x/\v=Value.str x t)
 |.inl i,v,h=>by
  obtain⟨t,e⟩:=Value.isInt_shape (k:=i) (v:=v) h;exact .inl #[i,t,rfl,e]
 |.inr x,v,h=>by
  obtain⟨t,e⟩:=Value.isStrOf_shape (x:=x) (v:=v) h;exact .inr #[x,t,rfl,e]
def HB(i:Int)(t:Tok):uq (.inl i) (.int i t)=true:=by simp[uq,Value.isInt]
def HD(x:Str)(t:Tok):uq (.inr x) (.str x t)=true:=by simp[uq,Value.isStrOf]
def qeM(a b:Int):decide ((Sum.inl a:Key)=Sum.inl b)=(a == b):=by
 by_cases e:a=b
 ·subst e;simp
 ·have h:¬(Sum.inl a:Key)=Sum.inl b:=λq=>e (Sum.inl.inj q);rw[qnM h];exact(qo7.mpr e).symm
def qeN(a b:Str):decide ((Sum.inr a:Key)=Sum.inr b)=decide (a=b):=by
 by_cases e:a=b
 ·subst e;simp
 ·have h:¬(Sum.inr a:Key)=Sum.inr b:=λq=>e (Sum.inr.inj q);rw[qnM h,qnM e]
def qeO(a:Int)(b:Str):decide ((Sum.inl a:Key)=Sum.inr b)=false:=qnM (λq=>nomatch q)
def qeP(a:Str)(b:Int):decide ((Sum.inr a:Key)=Sum.inl b)=false:=qnM (λq=>nomatch q)
def bV(prog:qd)(w:lW):PySem.KeyKind prog w Key where
 is:=uq
 hash:=qkC w
 inj:=λv a b n l=>by
  rcases dZ n with⟨i,t,rfl,rfl⟩|⟨x,t,rfl,rfl⟩
  ·rcases dZ l with⟨j,u,rfl,e⟩|⟨y,u,rfl,e⟩
   ·injection e with c _;rw[c]
   ·exact nomatch e
  ·rcases dZ l with⟨j,u,rfl,e⟩|⟨y,u,rfl,e⟩
   ·exact nomatch e
   ·injection e with c _;rw[c]
 byValue:=λk v h=>by
  rcases dZ h with⟨i,t,rfl,rfl⟩|⟨x,t,rfl,rfl⟩ <;> rfl
 pyHash:=λf h=>by
  rcases dZ f with⟨i,t,rfl,rfl⟩|⟨x,t,rfl,rfl⟩
  ·exact wpAny_pyHash_int h
  ·exact wpAny_pyHash_str h
 eqBool:=λm f h=>by
  rcases dZ m with⟨i,t,rfl,rfl⟩|⟨x,t,rfl,rfl⟩
  ·rcases dZ f with⟨j,u,rfl,rfl⟩|⟨y,u,rfl,rfl⟩
   ·rw[qeM] at h;exact wpAny_eqBool_int h
   ·rw[qeO] at h;exact SeqAt.EqAt.int_str i t y u _ _ _ _ h
  ·rcases dZ f with⟨j,u,rfl,rfl⟩|⟨y,u,rfl,rfl⟩
   ·rw[qeP] at h;exact SeqAt.EqAt.str_int x t j u _ _ _ _ h
   ·rw[qeN] at h;exact wpAny_eqBool_str h
 «strs»:=λk x t v h=>by
  rcases dZ h with⟨i,u,rfl,e⟩|⟨y,u,rfl,e⟩
  ·exact nomatch e
  ·injection e with c _;subst c;cases v <;> rfl
def Bo(prog:qd)(w:lW)(i:Int)(t:Tok):(bV prog w).is (.inl i) (.int i t)=true:=HB i t
def Np(prog:qd)(w:lW)(x:Str)(t:Tok):(bV prog w).is (.inr x) (.str x t)=true:=HD x t
inductive V where
 |non|bl (b:Bool)|int (i:Int)|str (x:Str)|YT (b:Array UInt8)|flt (b:UInt64)|ref (a:J9)|ty (n:String)
 deriving DecidableEq
abbrev QA0:=List V
def RelV:V->Value->Prop
 |.non,u=>u=Value.none
 |.bl b,u=>u=Value.bool b
 |.int i,u=>∃t,u=Value.int i t
 |.str x,u=>∃t,u=Value.str x t
 |.YT b,u=>∃t,u=Value.bytes b t
 |.flt b,u=>∃t,u=Value.float b t
 |.ref a,u=>u=Value.ref a
 |.ty n,u=>u=Value.type n
abbrev Vals:List V->List Value->Prop:=Paired RelV
theorem Vals.length{xs:QA0}{us:QAE}(r:Vals xs us):xs.length=us.length:=Paired.length r
theorem Vals.get:∀{xs:QA0}{us:QAE}{i:Nat}{x:V},Vals xs us->xs[i]? = some x->∃u,us[i]? = some u/\RelV x u
 |_,_,_,_,.nil,e=>by simp at e
 |_,_,0,_,.cons r _,e=>by simp at e;subst e;exact#[_,rfl,r]
 |_,_,i+1,x,.cons _ t,e=>by
  obtain⟨u,f,c⟩:=Vals.get (i:=i) (x:=x) t (by simpa using e);exact#[u,by simpa using f,c]
theorem Vals.set{x:V}{u:eH}(r:RelV x u):∀{xs:QA0}{us:QAE}(i:Nat),Vals xs us->Vals (xs.set i x) (us.set i u)
 |_,_,_,.nil=>.nil
 |_,_,0,.cons _ t=>.cons r t
 |_,_,i+1,.cons q t=>.cons q (Vals.set r i t)
theorem Vals.append:∀{xs ys:QA0}{us c:QAE},Vals xs us->Vals ys c->Vals (xs++ys) (us++c)
 |_,_,_,_,.nil,s=>s
 |_,_,_,_,.cons r t,s=>.cons r (Vals.append t s)
theorem Vals.take:∀{xs:QA0}{us:QAE}(n:Nat),Vals xs us->Vals (xs.take n) (us.take n)
 |_,_,0,_=>.nil
 |_,_,_+1,.nil=>.nil
 |_,_,n+1,.cons r t=>.cons r (Vals.take n t)
theorem Vals.drop:∀{xs:QA0}{us:QAE}(n:Nat),Vals xs us->Vals (xs.drop n) (us.drop n)
 |_,_,0,r=>r
 |_,_,_+1,.nil=>.nil
 |_,_,n+1,.cons _ t=>Vals.drop n t
def mV:Option V->Option Value->Prop
 |some v,some u=>RelV v u
 |none,none=>True
 |_,_=>False
def KV{κ:Type}:List (κ×V)->List (κ×Value)->Prop:=Paired fun(p:κ×V) (q:κ×Value)=>p.1=q.1/\RelV p.2 q.2
def kV:Key->V
 |.inl i=>.int i
 |.inr x=>.str x
inductive HO where
 |lst (xs:QA0)
 |tup (xs:QA0)
 |dK (kvs:List (Key×V))|dT (kvs:List (List Key×V))
 |set (S:Int->Bool) (n:Nat)
 |ins (C dx:J9) (fs:List (Str×V))
 |own (x:J9)
 |xd (fs:List (Str×V))
 |met (f x:J9)
 |rng (lo hi:Int)
 |Nq (o:Obj) (u:HO)
 |zU (ps:wY)
 |ext (φ:Heap->Prop)
abbrev Hp:=Addr->Option HO
def upd(H:Hp)(a:J9)(o:HO):Hp:=λb=>if b=a then some o else H b
def ak{H:Hp}{a:J9}{o:HO}:upd H a o a=some o:=by unfold upd;rw[if_pos rfl]
def aF{H:Hp}{a b:J9}{o:HO}(h:b≠a):upd H a o b=H b:=by unfold upd;rw[if_neg h]
def jH{H:Hp}{a b:J9}{o u:HO}(h:H a=some o)(h':H b=some u)(d:o≠u):a≠b:=by
 intro e;subst e;rw[h] at h';exact d (qnB h')
def aU{H:Hp}{a b:J9}{o:HO}(h:H a=some o)(h':H b=none):a≠b:=by
 intro e;subst e;rw[h] at h';cases h'
section
variable (P:qd)(w:lW)
def cD(H:Hp)(h:oY)(a:J9):HO->Prop
 |.lst xs=>xs.length<=sizeLine/\∃(its:QAE)(n:Nat),Vals xs its/\h.get? a=some {cls:=.type "list",data:=.seq its.toArray n}
 |.tup xs=>xs.length<=sizeLine/\∃its:QAE,Vals xs its/\IsTup h a its.toArray
 |.dK c=>c.length<=sizeLine/\(a == sysModules)=false/\∃j,KV c j/\h.DictOf (bV P w) a j
 |.dT c=>c.length<=sizeLine/\(a == sysModules)=false/\∃xs:List (List Key×Addr×Value),
   Paired (fun(p:List Key×V) (q:List Key×Addr×Value)=>p.1=q.1/\H q.2.1=some (.tup (p.1.map kV))/\RelV p.2 q.2.2) c xs/\
   ∃o r z,h.get? a=some o/\o.ExactDict/\o.data = .dict r z/\r.toList=xs.map (entryOfKey (tupleKind (bV P w)))/\(xs.map (·.1)).Nodup
 |.set S n=>h.SetOf (intKind P w) a S n
 |.ins C i fs=>H i=some (.own a)/\fs.length<=1000/\i≠a/\h.get? a=some (W.instObj C i)/\
   ∃e,h.Ns1 i e/\(∀f,mV (fs.lookup f) (e f))/\PySem.Within e (fs.map (·.1))
 |.own _=>∃o,h.get? a=some o
 |.xd fs=>∃e,h.Ns1 a e/\∀f,mV (fs.lookup f) (e f)
 |.rng lo y=>∃t u v,h.get? a=some {cls:=.type "range",data:=.fields [.int lo t,.int y u,.int 1 v].toArray}
 |.Nq o u=>h.get? a=some o/\cD H h a u
 |.zU s=>h.get? a=some {cls:=.none,data:=.fields s}
 |.met f x=>h.get? a=some (W.methodObj (.ref f) (.ref x))
 |.ext φ=>φ h/\(∃o,h.get? a=some o)/\∀m l:Heap,φ m->(∀o,m.get? a=some o->l.get? a=some o)->φ l
def vH(H:Hp)(h:oY):Prop:=∀a o,H a=some o->cD P w H h a o
end
section
variable {P:qd}{w:lW}{H H':Hp}{h h':oY}{a:J9}{o:HO}
theorem cD.lt(x:cD P w H h a o):a<h.objs.size:=by
 cases o with
 |lst i=>obtain⟨_,_,_,_,e⟩:=x;exact qm9 e
 |tup i=>obtain⟨_,_,_,p⟩:=x;exact p.lt
 |dK c=>obtain⟨_,_,_,_,o,_,_,e,_⟩:=x;exact qm9 e
 |dT c=>obtain⟨_,_,_,_,o,_,_,e,_⟩:=x;exact qm9 e
 |set S n=>obtain⟨o,_,_,_,e,_⟩:=x;exact qm9 e
 |ins C r fs=>obtain⟨_,_,_,e,_⟩:=x;exact qm9 e
 |own y=>obtain⟨_,e⟩:=x;exact qm9 e
 |xd fs=>obtain⟨_,⟨_,_,_,e,_⟩,_⟩:=x;exact qm9 e
 |rng lo m=>obtain⟨_,_,_,e⟩:=x;exact qm9 e
 |Nq l u=>obtain⟨e,_⟩:=x;exact qm9 e
 |zU j=>exact qm9 (show h.get? a=some _ from x)
 |met f y=>exact qm9 (show h.get? a=some _ from x)
 |ext φ=>obtain⟨_,⟨_,e⟩,_⟩:=x;exact qm9 e
theorem Paired.qeQ{i β:Type}{F G:i->β->Prop}:∀{e:List i}{c:List β},Paired F e c->(∀a b,F a b->G a b)->Paired G e c
 |_,_,.nil,_=>.nil
 |_,_,.cons r t,f=>.cons (f _ _ r) (Paired.qeQ t f)
def cD.stay(x:cD P w H h a o)(k:∀b u,(b=a\/H b=some (.own a))->h.get? b=some u->h'.get? b=some u)
  (I:∀b,H b=some (.own a)->H' b=some (.own a)) (G:∀b xs,H b=some (.tup xs)->H' b=some (.tup xs)):cD P w H' h' a o:=by
 induction o with
 |lst xs=>obtain⟨z,m,n,r,e⟩:=x;exact#[z,m,n,r,k _ _ (.inl rfl) e]
 |tup xs=>obtain⟨z,m,r,i,e,c⟩:=x;exact#[z,m,r,i,k _ _ (.inl rfl) e,c]
 |dK B=>obtain⟨z,y,E,r,i,j,l,e,c⟩:=x;exact#[z,y,E,r,i,j,l,k _ _ (.inl rfl) e,c]
 |dT B=>
  obtain⟨z,y,xs,r,i,j,l,e,c⟩:=x;exact#[z,y,xs,Paired.qeQ r λp q z=>#[z.1,G _ _ z.2.1,z.2.2],i,j,l,k _ _ (.inl rfl) e,c]
 |set S n=>obtain⟨i,j,l,t,e,c⟩:=x;exact#[i,j,l,t,k _ _ (.inl rfl) e,c]
 |ins C M fs=>
  obtain⟨d,z,ne,e,A,⟨s,j,l,J,c⟩,r⟩:=x;exact#[I _ d,z,ne,k _ _ (.inl rfl) e,A,#[s,j,l,k _ _ (.inr d) J,c],r]
 |own y=>obtain⟨i,e⟩:=x;exact#[i,k _ _ (.inl rfl) e]
 |xd fs=>obtain⟨A,⟨s,j,l,e,c⟩,r⟩:=x;exact#[A,#[s,j,l,k _ _ (.inl rfl) e,c],r]
 |rng lo L=>obtain⟨t,u,v,e⟩:=x;exact#[t,u,v,k _ _ (.inl rfl) e]
 |Nq i u ih=>obtain⟨e,q⟩:=x;exact#[k _ _ (.inl rfl) e,ih q]
 |zU D=>
  have e:h.get? a=some {cls:=.none,data:=.fields D}:=x;show h'.get? a=some {cls:=.none,data:=.fields D};exact k a _ (.inl rfl) e
 |met f y=>
  have e:h.get? a=some (W.methodObj (.ref f) (.ref y)):=x;show h'.get? a=some (W.methodObj (.ref f) (.ref y));exact k a _ (.inl rfl) e
 |ext φ=>obtain⟨p,⟨o,e⟩,st⟩:=x;exact#[st _ _ p λo q=>k _ _ (.inl rfl) q,#[o,k _ _ (.inl rfl) e],st]
theorem vH.lt(x:vH P w H h)(e:H a=some o):a<h.objs.size:=(x a o e).lt
def vH.fresh(x:vH P w H h)(e:h.objs.size<=a):H a=none:=by
 cases q:H a with
 |none=>rfl
 |some u=>exact absurd (qnj (x.lt q) e) (qoj _)
def vH.kept(x:vH P w H h)(k:∀b u,h.get? b=some u->h'.get? b=some u):vH P w H h':=λa o e=>
 (x a o e).stay (λb u _ q=>k b u q) (λ_ q=>q) λ_ _ q=>q
def vH.laid(x:vH P w H h)(k:∀b u,h.get? b=some u->h'.get? b=some u)(j:h.objs.size<=a)(new:cD P w (upd H a o) h' a o):vH P w (upd H a o) h':=λb u e=>by
 have f:=x.fresh j
 by_cases i:b=a
 ·subst i;rw[ak] at e;cases e;exact new
 ·rw[aF i] at e;exact(x b u e).stay (λc v _ q=>k c v q) (λc q=>by rw[aF (aU q f)];exact q) λc l q=>by rw[aF (aU q f)];exact q
end
def Rd(H:Hp)(a:J9)(u:HO):Prop:=H a=some u\/∃o,H a=some (.Nq o u)
def Rd.ok{P:qd}{w:lW}{H:Hp}{h:oY}{a:J9}{u:HO}(r:Rd H a u)(x:vH P w H h):cD P w H h a u:=by
 rcases r with r|⟨o,r⟩
 ·exact x a u r
 ·obtain⟨_,q⟩:=x a _ r;exact q
def Mut:Option HO->Prop
 |some (.lst _)=>True
 |some (.dK _)=>True
 |some (.dT _)=>True
 |some (.set _ _)=>True
 |some (.ins _ _ _)=>True
 |some (.ext _)=>True
 |_=>False
section
variable {P:qd}{w:lW}{H:Hp}{h h':oY}{x e:J9}{o':HO}
def vH.write(ok:vH P w H h)(l:Mut (H x))(A:e=x\/H e=some (.own x))(k:∀b u,b≠e->h.get? b=some u->h'.get? b=some u)(p:∃u,h'.get? e=some u)
  (new:cD P w (upd H x o') h' x o'):vH P w (upd H x o') h':=λb u q=>by
 have i:∀c y,H c=some (.own y)->c≠x:=λc y r z=>by subst z;rw[r] at l;exact l
 have o:∀c j,H c=some (.tup j)->c≠x:=λc j r z=>by subst z;rw[r] at l;exact l
 by_cases n:b=x
 ·subst n;rw[ak] at q;cases q;exact new
 ·rw[aF n] at q
  by_cases f:b=e
  ·have s:H b=some (.own x):=by
    rcases A with z|z
    ·exact absurd (f.trans z) n
    ·rw[f];exact z
   rw[q] at s;cases s;obtain⟨v,B⟩:=p;exact#[v,by rw[f];exact B]
  ·refine(ok b u q).stay (λc v m r=>k c v ?_ r) (λc r=>by rw[aF (i c b r)];exact r) λc j r=>by rw[aF (o c j r)];exact r
   rcases m with rfl|m
   ·exact f
   ·rintro rfl
    rcases A with z|z
    ·exact i c b m z
    ·rw[m] at z;cases z;exact n rfl
end
structure Un(fs ex:tR)(H H':Hp)(h h':oY):Prop where
 keep:∀b o,h.get? b=some o->H b=none->b∉fs->b∉ex->h'.get? b=some o
 slot:∀b o,h.get? b=some o->H b=none->b∈fs->b∉ex->∃sl,h'.get? b=some {o with slots:=sl}
 free:∀b o,h.get? b=some o->H b=none->b∉ex->H' b=none
 there:∀b o,h.get? b=some o->b∉ex->∃o',h'.get? b=some o'
 tups:∀b xs,H b=some (.tup xs)->H' b=some (.tup xs)
 ug:∀b o u,H b=some (.Nq o u)->H' b=some (.Nq o u)
 uh:∀b ps,H b=some (.zU ps)->∃more,H' b=some (.zU (ps++more))
section
variable {fs fs' ex ex':tR}{H H1 H2:Hp}{h h1 h2 h':oY}{a x e:J9}{o:HO}
def Un.any(u:Un fs ex H H1 h h1){b:J9}{ob:Obj}(q:h.get? b=some ob)(n:H b=none)(c:b∉ex):∃i,h1.get? b=some {ob with slots:=i}:=by
 by_cases f:b∈fs
 ·exact u.slot b ob q n f c
 ·exact#[ob.slots,u.keep b ob q n f c]
def Un.kept(k:∀b u,h.get? b=some u->h'.get? b=some u):Un fs ex H H h h':=
 #[λb c q _ _ _=>k b c q,λb c q _ _ _=>#[c.slots,k b c q],λ_ _ _ n _=>n,λb c q _=>#[c,k b c q],λ_ _ q=>q,λ_ _ _ q=>q,λ_ f q=>#[#[],by rw[q];simp]]
def Un.refl:Un fs ex H H h h:=Un.kept λ_ _ q=>q
def Un.laid(k:∀b u,h.get? b=some u->h'.get? b=some u)(i:h.objs.size<=a)(c:H a=none):Un fs ex H (upd H a o) h h' where
 keep:=λb u q _ _ _=>k b u q
 slot:=λb u q _ _ _=>#[u.slots,k b u q]
 free:=λb u q n _=>by rw[aF (qnf (qnj (qm9 q) i))];exact n
 there:=λb u q _=>#[u,k b u q]
 tups:=λb f q=>by rw[aF (aU q c)];exact q
 ug:=λb u f q=>by rw[aF (aU q c)];exact q
 uh:=λb j q=>#[#[],by rw[aF (aU q c),q];simp]
def Un.write(f:Mut (H x))(v:e=x\/H e=some (.own x))(k:∀b u,b≠e->h.get? b=some u->h'.get? b=some u)(j:∃u,h'.get? e=some u):Un fs ex H (upd H x o) h h':=by
 have l:∀b,H b=none->b≠x:=λb n z=>by subst z;rw[n] at f;exact f
 have m:∀b,H b=none->b≠e:=λb n z=>by
  subst z
  rcases v with r|r
  ·exact l b n r
  ·rw[n] at r;cases r
 have i:∀b u,H b=some u->¬Mut (some u)->b≠x:=λb u q s z=>by subst z;rw[q] at f;exact s f
 refine#[λb u q n _ _=>k b u (m b n) q,λb u q n _ _=>#[u.slots,k b u (m b n) q],λb u q n _=>by rw[aF (l b n)];exact n,λb u q _=>?_,
  λb p q=>by rw[aF (i b _ q λz=>z)];exact q,λb u p q=>by rw[aF (i b _ q λz=>z)];exact q,λb w q=>#[#[],by rw[aF (i b _ q λz=>z),q];simp]]
 by_cases c:b=e
 ·subst c;exact j
 ·exact#[u,k b u c q]
end
def trk(h:oY)(H:Hp):List Addr:=(List.range h.objs.size).filter λa=>(H a).isSome
def Dk(h:oY)(H:Hp):Heap:=W.hideAll h (trk h H)
def Wj(h:oY)(H:Hp):(Dk h H).objs.size=h.objs.size:=W.hideAll_size _ _
def Y7{h:oY}{H:Hp}{b:J9}{o:Obj}(e:h.get? b=some o)(n:H b=none):(Dk h H).get? b=some o:=
 W.hideAll_get _ e λc=>by
  have q:(H b).isSome=true:=(qnv.mp c).2;rw[n] at q;simp at q
def qcm{h:oY}{H:Hp}{b:J9}{o:Obj}(e:(Dk h H).get? b=some o):h.get? b=some o/\H b=none:=by
 have c:h.get? b=some o:=W.of_hideAll (trk h H) e;refine#[c,?_];cases q:H b with
 |none=>rfl
 |some x=>
  have f:b∈trk h H:=qnv.mpr #[qnD.mpr (qm9 c),by simp[q]];have z:(Dk h H).get? b=none:=qpM (trk h H) f;rw[z] at e;cases e
def qcn(g h:oY)(L:J9):QAC:=(List.range h.objs.size).filterMap λa=>if a=L\/(g.get? a).isSome=true then none else (h.get? a).map λo=>(a,o)
def rest(g h:oY)(L d:J9):QAC:=(qcn g h L).filter λp=>decide (p.1≠d)
structure Mod(K:YZ)(mg:Y4)(base:oY):Prop where
 Nt:K.In base
 glob:base.Ns mainGlobals mg
 blt:∃mb,base.Ns builtinsNs mb/\∀x:Str,x≠ "__name__" ->mb x=bootBuiltins x
 nolimit:base.NoLimit
set_option genInjectivity false in
structure Cx where
 prog:Program
 w:World
 K:W.Frag
 mg:Str->Option Value
 base:Heap
 A:Around
 N:QAH
 s₀:Shared
 H₀:Hp
 env:Env
 outer:List Env
 stack:List Env
 ex:List Addr
 fn:Str->Bool
 calm:Bool
 pn:QAC
 xe:QAB
def frs(l:List Env):List Addr:=l.filterMap (·.frame)
abbrev Cx.fs(X:Cx):List Addr:=frs X.outer
def Vis(c:Scope)(x:Str):Prop:=c.names.lookup x=some .local\/c.names.lookup x=some .cell\/c.names.lookup x=some .free
def Loc(c:Scope)(x:Str):Prop:=c.names.lookup x=some .local\/c.names.lookup x=some .cell
def Look(e:Env)(h:oY)(m:Y4)(x:Str)(u:eH):Prop:=
 (e.kindOf x=some .local/\m x=some u)\/((e.kindOf x=some .cell\/e.kindOf x=some .free)/\∃c,e.cells.lookup x=some c/\h.IsCell c (some u))
structure Cx.Ok(X:Cx):Prop where
 mod:Mod X.K X.mg X.base
 kind:X.env.scope.kind = .function
 glob:X.env.globals=mainGlobals
 blt:X.env.builtins=builtinsNs
 above:X.s₀.heap.objs.size<=X.env.locals
 inj:∀x y c,X.env.cells.lookup x=some c->X.env.cells.lookup y=some c->x=y
 has:∀x,(X.env.kindOf x=some .cell\/X.env.kindOf x=some .free)->∃c,X.env.cells.lookup x=some c
 cab:∀x c,X.fn x=true->X.env.cells.lookup x=some c->X.s₀.heap.objs.size<=c
 hd:X.calm=true->X.A.handled=none
 frames:X.A.frames=some X.stack
 stk:X.stack=X.outer\/(X.stack=X.env::X.outer/\X.env.frame=some X.env.locals)
 exf:∀b∈X.ex,b≠X.env.locals/\∀x c,X.env.cells.lookup x=some c->c≠b
 bs:∀b o,X.base.get? b=some o->X.s₀.heap.get? b=some o/\X.H₀ b=none
 UG:X.base.objs.size<=X.s₀.heap.objs.size
 Nu:∀b o,X.base.get? b=some o->b∉X.ex
 Nv:∀b∈X.ex,b∉X.fs
 um:X.s₀.heap.FunFrames X.base X.outer
 YW:∀b∈X.fs,X.H₀ b=none
structure Inv(X:Cx)(p_:QAC)(σ:List (Option V))(H:Hp)(s:Y5):Prop where
 ok:X.Ok
 os:s.os=X.s₀.os
 bare:AllBare s.gens
 base:Un X.fs X.ex X.H₀ H X.s₀.heap s.heap
 loc:∃m,s.heap.Ns X.env.locals m/\∀(i:Nat)(x:Str)(v:V),X.N[i]? = some x->σ[i]? = some (some v)->Vis X.env.scope x->∃u,RelV v u/\Look X.env s.heap m x u
 cell:∀x c,X.env.cells.lookup x=some c->∃v,s.heap.IsCell c v
 free:H X.env.locals=none
 iR:∀x c,X.env.cells.lookup x=some c->H c=none
 pin:∀p∈X.pn++p_,s.heap.get? p.1=some p.2/\H p.1=none/\p.1≠X.env.locals/\p.1∉X.fs/\∀v,p.2.data≠.cell v
 hok:vH X.prog X.w H s.heap
 len:σ.length=X.N.length
section
variable {X:Cx}{p_:QAC}{σ:List (Option V)}{H H':Hp}{s:Y5}{h':oY}
def Cx.Ok.qkE(ok:X.Ok){b:J9}{o:Obj}(e:X.base.get? b=some o):b∉X.fs:=λc=>by
 have:=(ok.um.mem c).1;rw[e] at this;cases this
theorem Inv.bs(I:Inv X p_ σ H s):∀b o,X.base.get? b=some o->s.heap.get? b=some o/\H b=none:=λb o e=>
 #[I.base.keep b o (I.ok.bs b o e).1 (I.ok.bs b o e).2 (I.ok.qkE e) (I.ok.Nu b o e),I.base.free b o (I.ok.bs b o e).1 (I.ok.bs b o e).2 (I.ok.Nu b o e)]
def Inv.bk(I:Inv X p_ σ H s):∀b o,X.base.get? b=some o->s.heap.get? b=some o:=λb o e=>(I.bs b o e).1
theorem Inv.mod(I:Inv X p_ σ H s):Mod X.K X.mg X.base:=I.ok.mod
def Inv.pA(I:Inv X p_ σ H s):X.K.In s.heap:=I.ok.mod.Nt.keeps I.bk
theorem Inv.lt(I:Inv X p_ σ H s):X.env.locals<s.heap.objs.size:=let ⟨_,c,_⟩:=I.loc;c.lt
def Inv.sz(I:Inv X p_ σ H s):X.s₀.heap.objs.size<=s.heap.objs.size:=qnp I.ok.above (qoK I.lt)
def Inv.qkF(I:Inv X p_ σ H s){a:J9}(h:s.heap.objs.size<=a):a∉X.fs:=λe=>by
 obtain⟨_,o,c,_⟩:=I.ok.um.mem e;exact absurd (qnj (qm9 c) (qnp I.sz h)) (qoj _)
def Inv.cne(I:Inv X p_ σ H s):∀x c,X.env.cells.lookup x=some c->c≠X.env.locals:=λx c e z=>by
 obtain⟨v,o,i,j⟩:=I.cell x c e;obtain⟨m,⟨l,n,p,f,h,_⟩,_⟩:=I.loc;rw[z,f] at i;cases i;rw[h] at j;cases j
theorem Inv.um(I:Inv X p_ σ H s):s.heap.FunFrames X.base X.outer:=by
 have all:∀(l:List Env),(∀b∈frs l,b∈X.fs)->X.s₀.heap.FunFrames X.base l->s.heap.FunFrames X.base l:=by
  intro l
  induction l with
  |nil=>intro _ _;trivial
  |cons w r ih=>
   intro i p;obtain⟨u,⟨L,o,c,n,m,v⟩,j⟩:=p;have h:L∈X.fs:=i L (by unfold frs;rw[qpX,c];exact qng);obtain⟨x,e⟩:=I.base.slot L o m (I.ok.YW L h) h λz=>I.ok.Nv L z h;exact#[u,#[L,_,c,n,e,v],ih (λb f=>i b (by unfold frs;rw[qpX,c];exact qm_ _ f)) j]
 exact all X.outer (λ_ f=>f) I.ok.um
theorem Inv.stack(I:Inv X p_ σ H s):s.heap.FunFrames X.base X.stack:=by
 rcases I.ok.stk with e|⟨e,f⟩
 ·rw[e];exact I.um
 ·rw[e];obtain⟨m,c,_⟩:=I.loc;refine .cons (by rw[I.ok.kind];decide) f c ?_ I.um;exact Heap.get?_none_of_le (qnp I.ok.UG I.ok.above)
def Inv.xg(I:Inv X p_ σ H s):∀b∈frs X.stack,b∈X.env.locals::X.fs:=λb c=>by
 rcases I.ok.stk with e|⟨e,f⟩
 ·rw[e] at c;exact qm_ _ c
 ·rw[e] at c;unfold frs at c;rw[qpX,f] at c;exact c
def Inv.CG(I:Inv X p_ σ H s):∀b∈frs X.stack,H b=none:=λb c=>by
 rcases qnc.mp (I.xg b c) with e|c
 ·rw[e];exact I.free
 ·obtain⟨_,o,f,_⟩:=I.ok.um.mem c;exact I.base.free b o f (I.ok.YW b c) λz=>I.ok.Nv b z c
def Inv.step{g':Array GenState}{t':Nat}{d':Drawn}{ch:tR}(I:Inv X p_ σ H s)
  (j:∀b∈ch,(b∈X.ex\/X.s₀.heap.objs.size<=b)/\b≠X.env.locals/\(∀x c,X.env.cells.lookup x=some c->c≠b)/\∀p∈X.pn++p_,p.1≠b)
  (keep:∀b o,b≠X.env.locals->b∉X.fs->b∉ch->s.heap.get? b=some o->H b=none->h'.get? b=some o)
  (D:∀b o,b≠X.env.locals->b∈X.fs->b∉ch->s.heap.get? b=some o->H b=none->∃Q,h'.get? b=some {o with slots:=Q}) (free:∀b o,b∉ch->s.heap.get? b=some o->H b=none->H' b=none)
  (there:∀b o,b∉ch->s.heap.get? b=some o->∃J,h'.get? b=some J)
  (tups:∀b C,H b=some (.tup C)->H' b=some (.tup C)) (ug:∀b o u,H b=some (.Nq o u)->H' b=some (.Nq o u)) (uh:∀b N,H b=some (.zU N)->∃more,H' b=some (.zU (N++more)))
  (ns:∀m,s.heap.Ns X.env.locals m->h'.Ns X.env.locals m) (T:vH X.prog X.w H' h') (hg:AllBare g') :
  Inv X p_ σ H' {s with heap:=h',gens:=g',drawn:=d',toks:=t'}:=by
 have L:∀b o,X.s₀.heap.get? b=some o->b≠X.env.locals:=λb o e=>qnf (qnj (qm9 e) I.ok.above);have A:∀b o,X.s₀.heap.get? b=some o->b∉X.ex->b∉ch:=λb o e f E=>by
  rcases(j b E).1 with z|z
  ·exact f z
  ·exact absurd (qnj (qm9 e) z) (qoj _)
 have y:∀x c,X.env.cells.lookup x=some c->∀v,s.heap.IsCell c v->h'.IsCell c v:=λx c e v ⟨o,G,U⟩=>by
  have h:c∉ch:=λz=>(j c z).2.2.1 x c e rfl
  by_cases hc:c∈X.fs
  ·obtain⟨Q,q⟩:=D c o (I.cne x c e) hc h G (I.iR x c e);exact#[_,q,U]
  ·exact#[o,keep c o (I.cne x c e) hc h G (I.iR x c e),U]
 refine#[I.ok,I.os,hg,#[λb o e n E f=>?_,λb o e n E f=>?_,λb o e n f=>?_,λb o e f=>?_,λb C e=>tups b C (I.base.tups b C e),λb o C e=>ug b o C (I.base.ug b o C e),λb N e=>?_],?_,λx c e=>?_,?_,λx c e=>?_,λp hp=>?_,T,I.len]
 ·exact keep b o (L b o e) E (A b o e f) (I.base.keep b o e n E f) (I.base.free b o e n f)
 ·obtain⟨Q,B⟩:=I.base.slot b o e n E f;obtain⟨O,M⟩:=D b _ (L b o e) E (A b o e f) B (I.base.free b o e n f);exact#[O,M]
 ·obtain⟨J,B⟩:=I.base.there b o e f;exact free b J (A b o e f) B (I.base.free b o e n f)
 ·obtain⟨J,B⟩:=I.base.there b o e f;exact there b J (A b o e f) B
 ·obtain⟨m1,B⟩:=I.base.uh b N e;obtain⟨m2,M⟩:=uh b _ B;exact#[m1++m2,by rw[M,Array.append_assoc]]
 ·obtain⟨m,hn,hl⟩:=I.loc;refine#[m,ns m hn,λi x v B M e3=>?_];obtain⟨u,r,l⟩:=hl i x v B M e3;refine#[u,r,?_]
  rcases l with l|⟨k,c,e,z⟩
  ·exact .inl l
  ·exact .inr #[k,c,e,y x c e _ z]
 ·obtain⟨v,z⟩:=I.cell x c e;exact#[v,y x c e v z]
 ·obtain⟨m,⟨o,_,_,G,_⟩,_⟩:=I.loc;exact free _ o (λz=>(j _ z).2.1 rfl) G I.free
 ·obtain⟨v,o,G,U⟩:=I.cell x c e;exact free c o (λz=>(j c z).2.2.1 x c e rfl) G (I.iR x c e)
 ·obtain⟨e,n,ne,Y,d⟩:=I.pin p hp;have h:p.1∉ch:=λz=>(j p.1 z).2.2.2 p hp rfl;exact#[keep p.1 p.2 ne Y h e n,free p.1 p.2 h e n,ne,Y,d]
def Inv.un{t':Nat}(I:Inv X p_ σ H s)(u:Un X.fs [] H H' s.heap h')(f:vH X.prog X.w H' h'):Inv X p_ σ H' {s with heap:=h',toks:=t'}:=by
 obtain⟨m,⟨o,C,D,l,r⟩,_⟩:=id I.loc;obtain⟨y,x⟩:=u.any l I.free (by simp);exact I.step (g':=s.gens) (d':=s.drawn) (ch:=[]) (λ_ z=>nomatch z) (λb o _ h _ e n=>u.keep b o e n h (by simp)) (λb o _ h _ e n=>u.slot b o e n h (by simp)) (λb o _ e n=>u.free b o e n (by simp)) (λb o _ e=>u.there b o e (by simp)) u.tups u.ug u.uh (λB v=>by
  obtain⟨A,i,j,c,p⟩:=v;rw[l] at c;cases c;exact#[_,i,j,x,p]) f I.bare
def Inv.call{g':Array GenState}{t':Nat}{d':Drawn}{ch:tR}(I:Inv X p_ σ H s)(u:Un (frs X.stack) ch H H' s.heap h')(j:vH X.prog X.w H' h')(D:AllBare g')
  (i:∀b∈ch,(b∈X.ex\/X.s₀.heap.objs.size<=b)/\b≠X.env.locals/\(∀x c,X.env.cells.lookup x=some c->c≠b)/\∀p∈X.pn++p_,p.1≠b) :
  Inv X p_ σ H' {s with heap:=h',gens:=g',drawn:=d',toks:=t'}:=by
 obtain⟨m,⟨o,M,N,A,r⟩,_⟩:=id I.loc;obtain⟨G,l⟩:=u.any A I.free λz=>(i _ z).2.1 rfl;exact I.step (ch:=ch) i (λb o l E f e n=>u.keep b o e n (λz=>(qnc.mp (I.xg b z)).elim l E) f) (λb o _ _ f e n=>u.any e n f) (λb o f e n=>u.free b o e n f) (λb o f e=>u.there b o e f) u.tups u.ug u.uh (λL C=>by
  obtain⟨J,v,y,h,B⟩:=C;rw[A] at h;cases h;exact#[_,v,y,l,B]) j D
def Inv.turned{t':Nat}{it:J9}(I:Inv X p_ σ H s)(k:∀b o,b≠it->s.heap.get? b=some o->h'.get? b=some o)(l:H it=none)(i:it≠X.env.locals)
  (C:it∈X.ex\/X.s₀.heap.objs.size<=it) (B:∀x c,X.env.cells.lookup x=some c->c≠it) (A:∀p∈X.pn++p_,p.1≠it):Inv X p_ σ H {s with heap:=h',toks:=t'}:=by
 have h:∀b u,H b=some u->b≠it:=λb u e z=>by rw[z,l] at e;cases e
 refine I.step (g':=s.gens) (d':=s.drawn) (ch:=[it]) (λb y=>?_) (λb o _ _ f e _=>k b o (λz=>f (by simp[z])) e) (λb o _ _ f e _=>#[o.slots,k b o (λz=>f (by simp[z])) e]) (λ_ _ _ _ n=>n)
  (λb o f e=>#[o,k b o (λz=>f (by simp[z])) e]) (λ_ _ e=>e) (λ_ _ _ e=>e) (λb G e=>#[#[],by rw[e];simp]) (λm w=>?_) (λb u e=>?_) I.bare
 ·have e:b=it:=by simpa using y
  subst e;exact#[C,i,B,A]
 ·obtain⟨o,D,E,j,r⟩:=w;exact#[o,D,E,k _ o (qoE i) j,r]
 ·refine(I.hok b u e).stay (λc v f q=>k c v ?_ q) (λ_ q=>q) λ_ _ q=>q
  rcases f with z|z
  ·rw[z];exact h b u e
  ·exact h c _ z
def Inv.tok(I:Inv X p_ σ H s)(t:Nat):Inv X p_ σ H {s with toks:=t}:=I.un (h':=s.heap) (t':=t) Un.refl I.hok
theorem Inv.kept{t':Nat}(I:Inv X p_ σ H s)(k:∀b u,s.heap.get? b=some u->h'.get? b=some u):Inv X p_ σ H {s with heap:=h',toks:=t'}:=I.un (Un.kept k) (I.hok.kept k)
theorem Inv.laid{a:J9}{o:HO}{t':Nat}(I:Inv X p_ σ H s)(k:∀b u,s.heap.get? b=some u->h'.get? b=some u)(c:s.heap.objs.size<=a)(new:cD X.prog X.w (upd H a o) h' a o) :
  Inv X p_ σ (upd H a o) {s with heap:=h',toks:=t'}:=I.un (Un.laid k c (I.hok.fresh c)) (I.hok.laid k c new)
theorem Inv.write{x e:J9}{o:HO}{t':Nat}(I:Inv X p_ σ H s)(f:Mut (H x))(h:e=x\/H e=some (.own x))(k:∀b u,b≠e->s.heap.get? b=some u->h'.get? b=some u)(c:∃u,h'.get? e=some u)
  (new:cD X.prog X.w (upd H x o) h' x o):Inv X p_ σ (upd H x o) {s with heap:=h',toks:=t'}:=I.un (Un.write f h k c) (I.hok.write f h k c new)
def Inv.UJ{c:QAC}(I:Inv X p_ σ H s)(h:∀p∈c,s.heap.get? p.1=some p.2/\H p.1=none/\p.1≠X.env.locals/\p.1∉X.fs/\∀v,p.2.data≠.cell v):Inv X c σ H s:=
 #[I.ok,I.os,I.bare,I.base,I.loc,I.cell,I.free,I.iR,λp e=>(qnw.mp e).elim (λz=>I.pin p (qnG _ z)) (h p),I.hok,I.len]
def Dm{N:QAH}(c:N.Nodup){i j:Nat}{x:Str}(a:N[i]? = some x)(b:N[j]? = some x):i=j:=by
 obtain⟨l,f⟩:=qm2.mp a;obtain⟨h,e⟩:=qm2.mp b;exact(List.getElem_inj c).mp (f.trans e.symm)
def vI{M:Model}{A:lY}{E:QAB}{i:Nat}{x:Str}{v:V}{u:eH}{Q:QAJ}(I:Inv X p_ σ H s)(hN:X.N.Nodup)(hi:X.N[i]? = some x)(D:Loc X.env.scope x)(r:RelV v u)
  (h:∀s',Inv X p_ (σ.set i (some v)) H s'->(∃a,Heap.SameBut a s.heap s'.heap/\(a=X.env.locals\/X.env.cells.lookup x=some a))->Q () s') (hf:X.fn x=true\/X.env.scope.names.lookup x=some .local:=by first|exact .inl rfl|exact .inr rfl|assumption):wpAny M A (storeName X.env x u) Q E s:=by
 obtain⟨m,hn,hl⟩:=id I.loc;have aa:(X.env.scope.kind == .class || (X.env.scope.kind == .module && X.env.locals != X.env.globals))=false:=by rw[I.ok.kind];rfl
 have O:i<σ.length:=by rw[I.len];exact(qm2.mp hi).1
 have cne:=I.cne;have l:∀{a:J9}{h':oY},(∃o,s.heap.get? a=some o/\H a=none)->Heap.SameBut a s.heap h'->vH X.prog X.w H h':=λ{a h'} ha f b ob e=>by
  obtain⟨_,_,G⟩:=ha;refine(I.hok b ob e).stay (λc w' C q=>(f.2 c ?_).trans q) (λ_ q=>q) λ_ _ q=>q;rintro rfl
  rcases C with rfl|C
  ·rw[G] at e;cases e
  ·rw[G] at C;cases C
 rcases D with L|L
 ·refine wpAny_storeName_local L hn (λh' ag f=>?_) aa;obtain⟨oL,_,_,af,_⟩:=id hn;refine h _ #[I.ok,I.os,I.bare,#[λb o e n Y D=>?_,λb o e n Y D=>?_,I.base.free,λb o e D=>?_,I.base.tups,I.base.ug,I.base.uh],#[_,ag,λj y v' B J e3=>?_],λy c e=>?_,I.free,I.iR,λp hp=>?_,l #[oL,af,I.free] f,by simpa using I.len] #[_,f,.inl rfl]
  ·exact(f.2 b (qnf (qnj (qm9 e) I.ok.above))).trans (I.base.keep b o e n Y D)
  ·obtain⟨sl,B⟩:=I.base.slot b o e n Y D;exact#[sl,(f.2 b (qnf (qnj (qm9 e) I.ok.above))).trans B]
  ·obtain⟨o',B⟩:=I.base.there b o e D;exact#[o',(f.2 b (qnf (qnj (qm9 e) I.ok.above))).trans B]
  ·by_cases T:j=i
   ·subst T;rw[hi] at B;cases B;rw[qpx O] at J;cases J;exact#[u,r,.inl #[L,by simp]]
   ·rw[List.getElem?_set_ne (qoE T)] at J;obtain⟨u',r',q⟩:=hl j y v' B J e3;refine#[u',r',?_]
    rcases q with⟨k,e⟩|⟨k,c,e,z⟩
    ·refine .inl #[k,?_];have:y≠x:=λe=>T (Dm hN B (e▸hi));simp[this,e]
    ·exact .inr #[k,c,e,z.sameBut f (cne y c e)]
  ·obtain⟨w',z⟩:=I.cell y c e;exact#[w',z.sameBut f (cne y c e)]
  ·obtain⟨e,n,ne,nf,d⟩:=I.pin p hp;exact#[(f.2 p.1 ne).trans e,n,ne,nf,d]
 ·have U:X.fn x=true:=by
   rcases hf with z|z
   ·exact z
   ·rw[z] at L;cases L
  obtain⟨c,C⟩:=I.ok.has x (.inl L);obtain⟨w',z⟩:=I.cell x c C;refine wpAny_storeName_cell I.ok.kind L C z (λh' ac f=>?_);obtain⟨oc,a0,ae⟩:=id z;refine h {s with heap:=h'} #[I.ok,I.os,I.bare,#[λb o e n Y D=>?_,λb o e n Y D=>?_,I.base.free,λb o e D=>?_,I.base.tups,I.base.ug,I.base.uh],#[m,hn.sameBut f (qoE (cne x c C)),λj y v' B J e3=>?_],λy c' e=>?_,I.free,I.iR,λp hp=>?_,l #[oc,a0,I.iR x c C] f,by simpa using I.len] #[c,f,.inr C]
  ·exact(f.2 b (qnf (qnj (qm9 e) (I.ok.cab x c U C)))).trans (I.base.keep b o e n Y D)
  ·obtain⟨sl,B⟩:=I.base.slot b o e n Y D;exact#[sl,(f.2 b (qnf (qnj (qm9 e) (I.ok.cab x c U C)))).trans B]
  ·obtain⟨o',B⟩:=I.base.there b o e D;exact#[o',(f.2 b (qnf (qnj (qm9 e) (I.ok.cab x c U C)))).trans B]
  ·by_cases T:j=i
   ·subst T;rw[hi] at B;cases B;rw[qpx O] at J;cases J;exact#[u,r,.inr #[.inl L,c,C,ac]]
   ·rw[List.getElem?_set_ne (qoE T)] at J;obtain⟨u',r',q⟩:=hl j y v' B J e3;refine#[u',r',?_]
    rcases q with q|⟨k,c',e,z'⟩
    ·exact .inl q
    ·refine .inr #[k,c',e,z'.sameBut f ?_];rintro rfl;exact T (Dm hN B (I.ok.inj _ _ _ e C▸hi))
  ·by_cases ab:c'=c
   ·subst ab;exact#[_,ac]
   ·obtain⟨w2,z2⟩:=I.cell y c' e;exact#[w2,z2.sameBut f ab]
  ·obtain⟨e,n,ne,nf,d⟩:=I.pin p hp;refine#[(f.2 p.1 ?_).trans e,n,ne,nf,d];intro q;rw[q,a0] at e;have q':oc=p.2:=qnB e;exact d w' (by rw[<- q'];exact ae)
def Dq{M:Model}{A:lY}{E:QAB}{i:Nat}{x:Str}{v:V}{u:eH}{Q:QAJ}(I:Inv X p_ σ H s)(l:X.N.Nodup)(f:X.N[i]? = some x)(e:Loc X.env.scope x)(r:RelV v u)
  (h:∀c,Inv X p_ (σ.set i (some v)) H c->Q () c) (j:X.fn x=true\/X.env.scope.names.lookup x=some .local:=by first|exact .inl rfl|exact .inr rfl|assumption):wpAny M A (storeName X.env x u) Q E s:=
 vI I l f e r (λc m _=>h c m) j
def Inv.call'{f:Y5}{ch:tR}(I:Inv X p_ σ H s)(l:f.os=s.os)(u:Un (frs X.stack) ch H H' s.heap f.heap)(h:vH X.prog X.w H' f.heap)(m:AllBare f.gens)
  (i:∀b∈ch,(b∈X.ex\/X.s₀.heap.objs.size<=b)/\b≠X.env.locals/\(∀x c,X.env.cells.lookup x=some c->c≠b)/\∀p∈X.pn++p_,p.1≠b):Inv X p_ σ H' f:=by
 obtain⟨h',g',d',t',j⟩:=f;have e:j=s.os:=l;subst e;exact I.call (g':=g') (t':=t') (d':=d') u h m i
end
abbrev XK:=Value->Option Addr->Hp->Prop
abbrev St:=List (Option V)
abbrev QA4:=St->Hp->Prop
abbrev QA1:=Nat->St->Hp->Prop
abbrev VK:=V->Hp->Prop
abbrev QA3:=List V->Hp->VK->Prop
abbrev QA2:=V->List V->Hp->VK->Prop
abbrev TE:=St->Hp->VK->Prop
abbrev TT:=St->Hp->(Bool->Hp->Prop)->Prop
abbrev TA:=St->Hp->(List V->Hp->Prop)->Prop
structure Ends where
 nx:St->Hp->Prop
 rt:VK
 bk:St->Hp->Prop:=λ_ _=>False
 ct:St->Hp->Prop:=λ_ _=>False
abbrev TS:=Ends->St->Hp->Prop
def EP(X:Cx)(f:QAC)(σ:St)(Q:VK)(u:eH)(e:Y5):Prop:=∃v c,Inv X f σ c e/\RelV v u/\Q v c
def TP(X:Cx)(f:QAC)(σ:St)(Q:Bool->Hp->Prop)(b:Bool)(e:Y5):Prop:=∃c,Inv X f σ c e/\Q b c
def AP(X:Cx)(h:QAC)(σ:St)(Q:List V->Hp->Prop)(us:QAE)(f:Y5):Prop:=∃c e,Inv X h σ e f/\Vals c us/\Q c e
def SP(X:Cx)(i:QAC)(D:Ends)(f:Flow)(h:Y5):Prop:=
 match f with
 |.next=>∃c e,Inv X i c e h/\D.nx c e
 |.brk=>∃c e,Inv X i c e h/\D.bk c e
 |.cont=>∃c e,Inv X i c e h/\D.ct c e
 |.ret u=>∃v c e,Inv X i c e h/\RelV v u/\D.rt v e
def PE(X:Cx)(e:rz)(t:TE):Prop:=
 ∀(f:QAC)(s:Y5)(c:St)(H:Hp)(Q:VK),Inv X f c H s->t c H Q->wpAny (model X.prog X.w) X.A (eval e X.env) (EP X f c Q) X.xe s
def PT(X:Cx)(e:rz)(t:TT):Prop:=
 ∀(f:QAC)(s:Y5)(c:St)(H:Hp)(Q:Bool->Hp->Prop),Inv X f c H s->t c H Q->wpAny (model X.prog X.w) X.A (isTrue e X.env (eval e X.env)) (TP X f c Q) X.xe s
def PW(X:Cx)(e:rz)(t:TT):Prop:=
 ∀(c:Sem Value)(h:QAC)(s:Y5)(f:St)(H:Hp)(Q:Bool->Hp->Prop),Inv X h f H s->t f H Q->wpAny (model X.prog X.w) X.A (isTrue e X.env c) (TP X h f Q) X.xe s
def PW.pt{X:Cx}{e:rz}{t:TT}(h:PW X e t):PT X e t:=h _
def PA(X:Cx)(f:wZ)(t:TA):Prop:=
 ∀(pos:Pos)(e:QAC)(s:Y5)(c:St)(H:Hp)(Q:List V->Hp->Prop),Inv X e c H s->t c H Q->wpAny (model X.prog X.w) X.A (spliced (backTo pos (starEach f X.env))) (AP X e c Q) X.xe s
def PS(X:Cx)(st:Stmt)(t:TS):Prop:=
 ∀(e:QAC)(s:Y5)(c:St)(H:Hp)(D:Ends),Inv X e c H s->t D c H->wpAny (model X.prog X.w) X.A (exec st X.env) (SP X e D) X.xe s
def GZ(X:Cx)(st:List Stmt)(t:TS):Prop:=
 ∀(e:QAC)(s:Y5)(c:St)(H:Hp)(D:Ends),Inv X e c H s->t D c H->wpAny (model X.prog X.w) X.A (execs st X.env) (SP X e D) X.xe s
def cG{c:Type}{t:Sem c}{Q e:c->Shared->Prop}{M:Model}{A:lY}{E:QAB}{s:Y5}(h:wpAny M A t Q E s)(f:∀a s,Q a s->e a s):wpAny M A t e E s:=qn8 h f λ_ _ x=>x
section
variable {X:Cx}
def qco(i:Nat):TE:=λc H Q=>∃v,c[i]? = some (some v)/\Q v H
def tC(v:V):TE:=λ_ H Q=>Q v H
def Y8{i:Nat}{x:Str}{pos:Pos}(E:X.N[i]? = some x)(A:Vis X.env.scope x) (o:(x == ("__debug__" : Str))=false:=by decide) (p:(x == ("__classdict__" : Str))=false:=by decide):PE X (.Name x pos) (qco i):=by
 intro z s y H Q I h;obtain⟨v,e,h⟩:=h;obtain⟨m,B,D⟩:=I.loc;obtain⟨u,r,l⟩:=D i x v E e A;have n:EP X z y Q u s:=#[v,H,I,r,h]
 rcases l with⟨j,C⟩|⟨j,c,w,f⟩
 ·exact wpAny_Name (wpAny_loadName_local I.ok.kind j B C n) o
 ·rcases j with j|j
  ·exact wpAny_Name (wpAny_loadName_cell I.ok.kind j w f n) o
  ·exact wpAny_Name (wpAny_loadName_free I.ok.kind j w f n p) o
def aG{i j pos}:PE X (.Constant (.int i) j pos) (tC (.int i)):=λ_ _ _ H _ I h=>wpAny_Constant_int #[.int i,H,I.tok _,#[_,rfl],h]
def j7{b j pos}:PE X (.Constant (.bool b) j pos) (tC (.bl b)):=λ_ _ _ H _ I h=>Constant_bool #[.bl b,H,I,rfl,h]
def zX{j pos}:PE X (.Constant .none j pos) (tC .non):=λ_ _ _ H _ I h=>Constant_none #[.non,H,I,rfl,h]
def xq{x j pos}:PE X (.Constant (.str x) j pos) (tC (.str x)):=λ_ _ _ H _ I h=>Calls.Constant_str #[.str x,H,I.tok _,#[_,rfl],h]
def Gl(X:Cx)(x:Str):Prop:=X.env.kindOf x=some .globalImplicit
def mW{E:QAB}{c:QAC}{s:Y5}{σ:St}{H:Hp}{x:Str}{u:eH}{pos:Pos}{Q:QAB}(I:Inv X c σ H s)(f:Gl X x)(e:X.mg x=some u)(h:Q u s)
  (i:(x == ("__debug__" : Str))=false:=by decide):wpAny (model X.prog X.w) X.A (eval (.Name x pos) X.env) Q E s:=
 Calls.Name_function_global I.ok.kind f (Calls.loadGlobal_global (by rw[I.ok.glob];exact I.mod.glob.keeps I.bk) e h) i
def mz{E:QAB}{c:QAC}{s:Y5}{σ:St}{H:Hp}{x:Str}{u:eH}{pos:Pos}{Q:QAB}(I:Inv X c σ H s)(j:Gl X x)(i:X.mg x=none)(e:bootBuiltins x=some u)(h:Q u s)
  (f:x≠ "__name__" :=by decide) (l:(x == ("__debug__" : Str))=false:=by decide):wpAny (model X.prog X.w) X.A (eval (.Name x pos) X.env) Q E s:=by
 obtain⟨o,n,m⟩:=I.mod.blt;exact Calls.Name_function_global I.ok.kind j (Calls.loadGlobal_builtin (by rw[I.ok.glob];exact I.mod.glob.keeps I.bk) i (by rw[I.ok.blt];exact n.keeps I.bk) ((m x f).trans e) h) l
def rK{x:Str}{v:V}{u:eH}{pos:Pos}(e:Gl X x)(c:X.mg x=some u)(r:RelV v u) (f:(x == ("__debug__" : Str))=false:=by decide):PE X (.Name x pos) (tC v):=
 λ_ _ _ H _ I h=>mW I e c #[v,H,I,r,h] f
def fV{x:Str}{v:V}{u:eH}{pos:Pos}(i:Gl X x)(f:X.mg x=none)(c:bootBuiltins x=some u)(r:RelV v u) (e:x≠ "__name__" :=by decide) (j:(x == ("__debug__" : Str))=false:=by decide):PE X (.Name x pos) (tC v):=
 λ_ _ _ H _ I h=>mz I i f c #[v,H,I,r,h] e j
variable {a b:rz}{ta tb:TE}{pos:Pos}
def PC(X:Cx)(i:CmpOp)(a b:rz)(t:TE):Prop:=
 ∀(h:QAC)(s:Y5)(f:St)(H:Hp)(Q:VK),Inv X h f H s->t f H Q->
  wpAny (model X.prog X.w) X.A (eval a X.env) (λv e=>wpAny (model X.prog X.w) X.A (eval b X.env) (λu c=>wpAny (model X.prog X.w) X.A (compareOp i v u) (EP X h f Q) X.xe c) X.xe e) X.xe s
def Ny(b:rz){c:CmpOp}(h:c≠.In)(e:c≠.NotIn):behindInMarks c b=false:=by
 have i:(c == CmpOp.In)=false:=by cases c <;> first|rfl|exact absurd rfl h
 have f:(c == CmpOp.NotIn)=false:=by cases c <;> first|rfl|exact absurd rfl e
 cases b <;> simp[behindInMarks,i,f]
def tB(t:TE):TT:=λe H Q=>t e H λx f=>∃c,x = .bl c/\Q c f
def qeR{e:CmpOp}{t:TE}(h:PC X e a b t)(f:behindInMarks e b=false:=by first|exact Ny _ (by decide) (by decide)|rfl):PT X (.Compare a [e] [b] pos) (tB t):=by
 intro n s i H Q I hw;refine wpAny_isTrue_Compare1 (cG (h n s i H _ I hw) λv z f=>cG f λu y o=>cG o λc w j=>?_) f;obtain⟨x,r,p,l,m⟩:=j;obtain⟨d,rfl,q⟩:=m;cases l;exact qok #[r,p,q]
def qeS{e:rz}{t:TE}(h:PE X e t)(n:∀c,isTrue e X.env c=(do let v <- c;standAt e.pos;holding [v] (truthy v)):=by intro _;rfl):PT X e (tB t):=by
 intro m s f H Q I hw;refine isTrue_plain (cG (h m s f H _ I hw) λv r i=>?_) (n _);obtain⟨x,p,o,j,l⟩:=i;obtain⟨d,rfl,q⟩:=l;cases j;exact qok #[p,o,q]
variable {tA tB':TT}{rest:wZ}
def qg6(t u:TT):TT:=λe H Q=>t e H λc f=>if c=true then u e f Q else Q false f
def tOr(t u:TT):TT:=λe H Q=>t e H λc f=>if c=true then Q true f else u e f Q
def qeT(t:TT):TT:=λe H Q=>t e H λc f=>Q (!c) f
def rM(j:PT X a tA):PW X (.BoolOp .And [a] pos) tA:=by
 intro l i s f H Q I h;refine isTrue_and (cG (j i s f H Q I h) λc m e=>?_);cases c with
 |true=>exact isTrue_and_nil e
 |false=>exact e
def jJ(j:PT X a tA):PW X (.BoolOp .Or [a] pos) tA:=by
 intro l i s f H Q I h;refine isTrue_or (cG (j i s f H Q I h) λc m e=>?_);cases c with
 |false=>exact isTrue_or_nil e
 |true=>exact e
def nY(r:PT X a tA)(p:PW X (.BoolOp .And (b::rest) pos) tB'):PW X (.BoolOp .And (a::b::rest) pos) (qg6 tA tB'):=by
 intro n i s e H Q I h;refine isTrue_and (cG (r i s e H _ I h) λc o m=>?_);obtain⟨l,j,f⟩:=m;cases c with
 |true=>exact p n i o e l Q j f
 |false=>exact#[l,j,f]
def mO(r:PT X a tA)(p:PW X (.BoolOp .Or (b::rest) pos) tB'):PW X (.BoolOp .Or (a::b::rest) pos) (tOr tA tB'):=by
 intro n i s e H Q I h;refine isTrue_or (cG (r i s e H _ I h) λc o m=>?_);obtain⟨l,j,f⟩:=m;cases c with
 |true=>exact#[l,j,f]
 |false=>exact p n i o e l Q j f
def cM(i:PT X a tA):PT X (.UnaryOp .Not a pos) (qeT tA):=by
 intro f s e H Q I h;exact isTrue_not (i f s e H (λc j=>Q (!c) j) I h)
def Y9(ta tb:TE):TE:=λe H Q=>ta e H λx f=>∃c,x = .bl c/\if c=true then tb e f Q else Q (.bl false) f
def Y_(ta:TE):TE:=λe H Q=>ta e H λx f=>∃c,x = .bl c/\Q (.bl (!c)) f
def qH{f}{t:TE}(h:PE X a t):PE X (.BoolOp f [a] pos) t:=λe s c H Q I hw=>BoolOp_one (h e s c H Q I hw)
def qeU(r:PE X a ta)(p:PE X (.BoolOp .And (b::rest) pos) tb):PE X (.BoolOp .And (a::b::rest) pos) (Y9 ta tb):=by
 intro i s f H Q I h;refine BoolOp_and (cG (r i s f H _ I h) λv n m=>?_);obtain⟨x,l,j,o,e⟩:=m;obtain⟨c,rfl,e⟩:=e;cases o;refine qok ?_;cases c with
 |true=>exact p i n f l Q j e
 |false=>exact#[.bl false,l,j,rfl,e]
def qeV(m:PE X a ta):PE X (.UnaryOp .Not a pos) (Y_ ta):=by
 intro l s f H Q I h;refine UnaryOp_ (cG (m l s f H _ I h) λv p i=>?_);obtain⟨x,o,n,j,e⟩:=i;obtain⟨c,rfl,e⟩:=e;cases j;exact not_of (qok #[.bl (!c),o,n,rfl,e])
def tIf(t:TT)(ta tb:TE):TE:=λe H Q=>t e H λc f=>if c=true then ta e f Q else tb e f Q
def Za{c:rz}(o:PT X c tA)(r:PE X a ta)(p:PE X b tb):PE X (.IfExp c a b pos) (tIf tA ta tb):=by
 intro f s e H Q I h;refine wpAny_IfExp (cG (o f s e H _ I h) λd i n=>?_);obtain⟨m,l,j⟩:=n;cases d with
 |true=>exact r f i e m Q l j
 |false=>exact p f i e m Q l j
end
def aV(K:YZ)(H:Hp)(a:J9)(xs:QA0):Prop:=
 Rd H a (.lst xs)\/
  ∃(o:Obj)(c:wY)(n:Nat),K.lookup a=some o/\o.cls = .type "list" /\o.dict=none/\o.data = .seq c n/\c.size<=sizeLine/\Vals xs c.toList
def cO(K:YZ)(H:Hp)(a:J9)(xs:QA0):Prop:=
 Rd H a (.tup xs)\/
  ∃(o:Obj)(c:wY)(n:Nat),K.lookup a=some o/\o.cls = .type "tuple" /\o.data = .seq c n/\c.size<=sizeLine/\Vals xs c.toList
def qkH:Value->Option V
 |.none=>some .non
 |.bool b=>some (.bl b)
 |.int i _=>some (.int i)
 |.str x _=>some (.str x)
 |.bytes b _=>some (.YT b)
 |.float b _=>some (.flt b)
 |.ref a=>some (.ref a)
 |.type n=>some (.ty n)
 |_=>none
def RelV.abs{x:V}{u:eH}(r:RelV x u):qkH u=some x:=by
 cases x with
 |non=>cases r;rfl
 |bl _=>cases r;rfl
 |int _=>obtain⟨t,rfl⟩:=r;rfl
 |str _=>obtain⟨t,rfl⟩:=r;rfl
 |YT _=>obtain⟨t,rfl⟩:=r;rfl
 |flt _=>obtain⟨t,rfl⟩:=r;rfl
 |ref _=>cases r;rfl
 |ty _=>cases r;rfl
def RelV.inj{x y:V}{u:eH}(r:RelV x u)(q:RelV y u):x=y:=qnB (r.abs.symm.trans q.abs)
theorem Vals.inj:∀{xs ys:QA0}{us:QAE},Vals xs us->Vals ys us->xs=ys
 |_,_,_,.nil,.nil=>rfl
 |_,_,_,.cons r t,.cons c t'=>by rw[r.inj c,Vals.inj t t']
section
variable {X:Cx}{p_:QAC}{σ:St}{H:Hp}{s:Y5}{a:J9}{xs ys:QA0}
def aV.of{K:YZ}(h:H a=some (.lst xs)):aV K H a xs:=.inl (.inl h)
def cO.of{K:YZ}(h:H a=some (.tup xs)):cO K H a xs:=.inl (.inl h)
def Inv.list(I:Inv X p_ σ H s)(h:aV X.K H a xs):∃its:QAE,Vals xs its/\PlainL s.heap a its.toArray/\xs.length<=sizeLine:=by
 rcases h with h|⟨o,its,n,f,j,i,c,l,r⟩
 ·obtain⟨z,its,n,r,e⟩:=h.ok I.hok;exact#[its,r,#[_,n,e,rfl,rfl,rfl],z]
 ·refine#[its.toList,r,#[o,n,I.pA a o f,j,i,by simpa using c],?_];have e:=r.length;simp only[qox] at e;lia
def Inv.tuple(I:Inv X p_ σ H s)(h:cO X.K H a xs):∃its:QAE,Vals xs its/\IsTup s.heap a its.toArray/\xs.length<=sizeLine:=by
 rcases h with h|⟨o,its,n,f,i,c,j,r⟩
 ·obtain⟨z,its,r,p⟩:=h.ok I.hok;exact#[its,r,p,z]
 ·refine#[its.toList,r,#[o,I.pA a o f,i,n,by simpa using c],?_];have e:=r.length;simp only[qox] at e;omega
def Inv.ur(I:Inv X p_ σ H s)(h:aV X.K H a xs)(h':aV X.K H a ys):xs=ys:=by
 obtain⟨f,r,⟨o,n,e,_,_,d⟩,_⟩:=I.list h;obtain⟨c,l,⟨p,u,i,_,_,j⟩,_⟩:=I.list h';rw[e] at i;cases i;rw[d] at j;injection j with m _;have:f=c:=by simpa using qnH Array.toList m
 subst this;exact r.inj l
def Inv.Wk(I:Inv X p_ σ H s)(h:cO X.K H a xs)(h':cO X.K H a ys):xs=ys:=by
 obtain⟨f,r,⟨o,e,_,n,d⟩,_⟩:=I.tuple h;obtain⟨c,l,⟨p,i,_,u,j⟩,_⟩:=I.tuple h';rw[e] at i;cases i;rw[d] at j;injection j with m _;have:f=c:=by simpa using qnH Array.toList m
 subst this;exact r.inj l
end
abbrev Cx.wish(X:Cx)(E:QAB):Cx:={X with xe:=E}
abbrev Cx.UL(X:Cx):Cx:=X.wish λ_ _=>False
theorem Cx.Ok.wish{X:Cx}(ok:X.Ok)(E:QAB):(X.wish E).Ok:=
 #[ok.mod,ok.kind,ok.glob,ok.blt,ok.above,ok.inj,ok.has,ok.cab,ok.hd,ok.frames,ok.stk,ok.exf,ok.bs,ok.UG,ok.Nu,ok.Nv,ok.um,ok.YW]
def Cx.Ok.uw{X:Cx}{E:QAB}(ok:(X.wish E).Ok):X.Ok:=
 #[ok.mod,ok.kind,ok.glob,ok.blt,ok.above,ok.inj,ok.has,ok.cab,ok.hd,ok.frames,ok.stk,ok.exf,ok.bs,ok.UG,ok.Nu,ok.Nv,ok.um,ok.YW]
section
variable {X:Cx}{p_:QAC}{σ:St}{H:Hp}{s:Y5}{E:QAB}
theorem Inv.wish(I:Inv X p_ σ H s)(E:QAB):Inv (X.wish E) p_ σ H s:=#[I.ok.wish E,I.os,I.bare,I.base,I.loc,I.cell,I.free,I.iR,I.pin,I.hok,I.len]
theorem Inv.uw(I:Inv (X.wish E) p_ σ H s):Inv X p_ σ H s:=#[I.ok.uw,I.os,I.bare,I.base,I.loc,I.cell,I.free,I.iR,I.pin,I.hok,I.len]
theorem SP.uw{D:Ends}{f:Flow}{i:Y5}(h:SP (X.wish E) p_ D f i):SP X p_ D f i:=by
 cases f with
 |next=>obtain⟨c,e,I,q⟩:=h;exact#[c,e,I.uw,q]
 |brk=>obtain⟨c,e,I,q⟩:=h;exact#[c,e,I.uw,q]
 |cont=>obtain⟨c,e,I,q⟩:=h;exact#[c,e,I.uw,q]
 |ret u=>obtain⟨v,c,e,I,r,q⟩:=h;exact#[v,c,e,I.uw,r,q]
theorem GZ.UL{st:List Stmt}{t:TS}(h:GZ X.UL st t):GZ X st t:=λp_ s σ H D I hw=>
 qn8 (h p_ s σ H D (I.wish _) hw) (λ_ _ q=>q.uw) λ_ _ z=>False.elim z
end
section
variable {X:Cx}{st:Stmt}{rest:List Stmt}{t u:TS}{e:rz}{te:TE}{pos:Pos}
def Zb:TS:=λD c H=>D.nx c H
def Zc(t u:TS):TS:=λD c H=>t {D with nx:=u D} c H
def bA:GZ X [] Zb:=λ_ _ c H _ I h=>qpD #[c,H,I,h]
def aA(n:PS X st t)(m:GZ X rest u):GZ X (st::rest) (Zc t u):=by
 intro i s j H D I h;refine wpAny_execs_cons (cG (n i s j H {D with nx:=u D} I h) λf l q=>?_);cases f with
 |next=>
  obtain⟨c,p,o,q⟩:=q;exact m i l c p D o q
 |ret v=>exact q
 |brk=>exact q
 |cont=>exact q
def aC(j:PS X st t):GZ X [st] t:=by
 intro i s c H D I h;refine wpAny_execs_cons (cG (j i s c H D I h) λf l q=>?_);cases f with
 |next=>exact qpD q
 |ret v=>exact q
 |brk=>exact q
 |cont=>exact q
def Inv.quiet{c:QAC}{σ:St}{H:Hp}{s:Y5}(I:Inv X c σ H s):interactive X.env=false:=by simp[interactive,I.ok.kind]
def Zd(te:TE):TS:=λD c H=>te c H λ_ f=>D.nx c f
def cQ(m:PE X e te)(l:swapsWith e none pos.line X.env=pure false:=by rfl):PS X (.Expr e pos) (Zd te):=by
 intro j s c H D I h;refine wpAny_Expr_any (cG (m j s c H _ I h) λv p f=>?_) I.quiet l;obtain⟨x,o,n,r,i⟩:=f;exact#[c,o,n,i]
def qeW(te:TE):TS:=λD c H=>te c H D.rt
def bh(m:PE X e te):PS X (.Return (some e) pos) (qeW te):=by
 intro l s c H D I h;refine wpAny_Return_some (cG (m l s c H _ I h) λv p f=>?_);obtain⟨x,o,n,i,j⟩:=f;exact#[x,c,o,n,i,j]
def qcp(c:TT)(t u:TS):TS:=λD f H=>c f H λb h=>if b=true then t D f h else u D f h
def bY{c:rz}{a b:List Stmt}{j:TT}(r:PT X c j)(w:GZ X a t)(v:GZ X b u):PS X (.If c a b pos) (qcp j t u):=by
 intro i s f H D I h;refine wpAny_If (cG (r i s f H _ I h) λd l p=>?_);obtain⟨o,n,m⟩:=p;cases d with
 |true=>exact w i l f o D n m
 |false=>exact v i l f o D n m
def Ze:TS:=λ_ _ _=>False
def qY:PS X st Ze:=λ_ _ _ _ _ _ h=>h.elim
end
abbrev TG:=V->St->Hp->(St->Hp->Prop)->Prop
abbrev HF:=List V->St->Hp->(St->Hp->Prop)->Prop
def PG(X:Cx)(c:rz)(t:TG):Prop:=
 ∀(h:QAC)(s:Y5)(f:St)(H:Hp)(v:V)(u:eH)(Q:QA4),Inv X h f H s->RelV v u->t v f H Q->
  wpAny (model X.prog X.w) X.A (assign c X.env u) (λ_ j=>∃e i,Inv X h e i j/\Q e i) X.xe s
def fL(X:Cx)(l:wZ)(t:HF):Prop:=
 ∀(i:QAC)(s:Y5)(e:St)(H:Hp)(f:QA0)(h:QAE)(Q:QA4),Inv X i e H s->Vals f h->t f e H Q->
  wpAny (model X.prog X.w) X.A (assignInOrder ((assignEach l X.env).map (·.2)) h) (λ_ m=>∃c j,Inv X i c j m/\Q c j) X.xe s
abbrev Wm:=V->V->V->Hp->(Hp->Prop)->Prop
def Wn(X:Cx)(t:Wm):Prop:=
 ∀(e:QAC)(s:Y5)(c:St)(H:Hp)(o i v:V)(f h u:eH)(Q:Hp->Prop),Inv X e c H s->RelV o f->RelV i h->RelV v u->t o i v H Q->
  wpAny (model X.prog X.w) X.A (setItem f h u) (λ_ l=>∃j,Inv X e c j l/\Q j) X.xe s
abbrev TIp:=V->V->Hp->VK->Prop
def PIp(X:Cx)(f:Operator)(t:TIp):Prop:=
 ∀(e:QAC)(s:Y5)(c:St)(H:Hp)(x y:V)(v u:eH)(Q:VK),Inv X e c H s->RelV x v->RelV y u->t x y H Q->
  wpAny (model X.prog X.w) X.A (inplaceOp f v u) (EP X e c Q) X.xe s
section
variable {X:Cx}{pos:Pos}
def Dr(i:Nat):TG:=λv c H Q=>Q (c.set i (some v)) H
def aL{i:Nat}{x:Str}(j:X.N.Nodup)(e:X.N[i]? = some x)(c:Loc X.env.scope x)(f:X.fn x=true\/X.env.scope.names.lookup x=some .local:=by first|exact .inl rfl|exact .inr rfl|assumption):PG X (.Name x pos) (Dr i):=by
 intro o s m H v u Q I r h;exact wpAny_assign_Name (Dq I j e c r (λn l=>#[_,H,l,h]) f)
def qeX:HF:=λe c H Q=>e=[]/\Q c H
def Zf(t:TG)(u:HF):HF:=λf e H Q=>∃v r,f=v::r/\t v e H λc h=>u r c h Q
def cH:fL X [] qeX:=by
 intro j s c H f i Q I r h;obtain⟨e,h⟩:=h;subst e;cases r;exact assignInOrder_nil #[c,H,I,h]
def aY{e:rz}{c:wZ}{t:TG}{u:HF}(x:PG X e t)(w:fL X c u)
  (p:(assignEach (e::c) X.env).map (·.2)=assign e X.env::(assignEach c X.env).map (·.2):=by rfl):fL X (e::c) (Zf t u):=by
 intro i s j H B D Q I r h;obtain⟨v,C,y,h⟩:=h;subst y;cases r with
 |cons r n=>
  rw[p];refine assignInOrder_cons (cG (x i s j H _ _ _ I r h) λ_ m l=>?_);obtain⟨f,A,z,o⟩:=l;exact w i m f A _ _ Q z n o
def qcq(K:YZ)(n:Nat)(t:HF):TG:=λv e H Q=>∃a c,v = .ref a/\cO K H a c/\c.length=n/\t c e H Q
def qeY{c:wZ}{k:Nat}{t:HF}{n:Nat}(B:X.calm=true)(h:fL X c t)
  (z:(assignEach c X.env).length=n:=by rfl) (f:(assignEach c X.env).findIdx? (·.1)=none:=by rfl):PG X (.Tuple c k pos) (qcq X.K n t):=by
 intro l s i H v u Q I r hw;obtain⟨a,m,D,y,A,hw⟩:=hw;subst D;cases r;obtain⟨p,j,x,G⟩:=I.tuple y;refine assign_Tuple_tuple (I.ok.hd B) x (by simp[z,<- A,j.length]) f λC w=>?_;have E:Inv X l i H {s with heap:=C}:=I.kept (t':=s.toks) λb o e=>w b o (qnf (qm9 e)) e;exact h l _ i H m _ Q E (by simpa using j) hw
def qg7(to e:TE)(t:Wm):TG:=λv c H Q=>to c H λo j=>e c j λi h=>t o i v h λf=>Q c f
def Zg{o i:rz}{to m:TE}{t:Wm}(E:PE X o to)(G:PE X i m)(D:Wn X t)
  (J:∀v,assign (.Subscript o i pos) X.env v=(do
   let c <- holding [v] (eval o X.env)
   let f <- holding [v,c] (eval i X.env)
   standAt pos
   holding [v,c,f] (setItem c f v)
   release [v,c,f] []):=by intro _;rfl):PG X (.Subscript o i pos) (qg7 to m t):=by
 intro l s j H v u Q I r h;rw[J];refine qm3 (qoa (cG (E l s j H _ I h) λc p e=>?_));obtain⟨x,U,N,z,C⟩:=e;refine qm3 (qoa (cG (G l p j U _ N C) λf n e=>?_));obtain⟨y,T,M,w,B⟩:=e;refine qm3 (wpAny_standAt (qm3 (qoa (cG (D l n j T x y v c f u _ M z w r B) λ_ Y e=>?_))));obtain⟨O,L,A⟩:=e;exact wpAny_release #[j,O,L,A]
def Zh(e:TE)(g:TG):TS:=λD c H=>e c H λx f=>g x c f D.nx
def JT{tg e:rz}{f:TE}{g:TG}(r:PE X e f)(p:PG X tg g)(o:swapsWithSole [tg] e pos.line X.env=pure false:=by rfl)(hw:swappedStores [tg] e X.env=pure none:=by rfl)
  (u:(assignEach [tg] X.env).map (·.2)=[assign tg X.env]:=by rfl):PS X (.Assign [tg] e pos) (Zh f g):=by
 intro i s c H D I h;refine wpAny_Assign_stores (cG (r i s c H _ I h) λv l j=>?_) o hw;obtain⟨x,y,w,m,n⟩:=j;rw[u];exact cG (p i l c y x v _ w m n) λ_ z q=>q
def bF{i:Nat}{x:Str}{e:rz}{f:TE}{c:Pos}(A:X.N.Nodup)(u:X.N[i]? = some x)(p:Loc X.env.scope x)(z:PE X e f)(r:swapsWith e (some (.Name x c)) pos.line X.env=pure false:=by rfl)(w:X.fn x=true\/X.env.scope.names.lookup x=some .local:=by first|exact .inl rfl|exact .inr rfl|assumption) :
  PS X (.Assign [.Name x c] e pos) (Zh f (Dr i)):=by
 intro o s j H D I h;refine wpAny_Assign_Name (cG (z o s j H _ I h) λv J l=>?_) r;obtain⟨y,E,C,m,n⟩:=l;exact Dq C A u p m (λG B=>#[_,E,B,n]) w
def qeZ(i:Nat)(f:TE)(e:TIp):TS:=λD c H=>∃x,c[i]? = some (some x)/\f c H λy j=>e x y j λz h=>D.nx (c.set i (some z)) h
def Zi{i:Nat}{x:Str}{e:rz}{O:TE}{G:Operator}{M:TIp}{p:Pos}(hN:X.N.Nodup)(Q:X.N[i]? = some x)(J:Loc X.env.scope x)(he:PE X e O)(ho:PIp X G M)(hf:X.fn x=true\/X.env.scope.names.lookup x=some .local:=by first|exact .inl rfl|exact .inr rfl|assumption) :
  PS X (.AugAssign (.Name x p) G e pos) (qeZ i O M):=by
 intro E s L H D I h;obtain⟨v,e1,h⟩:=h;obtain⟨m,hn,hl⟩:=I.loc;have C:Vis X.env.scope x:=by rcases J with k|k;exact .inl k;exact .inr (.inl k)
 obtain⟨u,r,l⟩:=hl i x v Q e1 C;refine wpAny_AugAssign_Name ?_;have go:wpAny (model X.prog X.w) X.A (eval e X.env) (λw o=>wpAny (model X.prog X.w) X.A (inplaceOp G u w) (λr n=>wpAny (model X.prog X.w) X.A (storeName X.env x r) (λ_=>SP X E D .next) X.xe n) X.xe o) X.xe s:=by
  refine cG (he E s L H _ I h) λw T B=>?_;obtain⟨y,H1,I1,Y,q1⟩:=B;refine cG (ho E T L H1 v y u w _ I1 r Y q1) λz s2 B=>?_;obtain⟨zv,H2,I2,U,q2⟩:=B;exact Dq I2 hN Q J U (λs3 I3=>#[_,H2,I3,q2]) hf
 rcases l with⟨f,hm⟩|⟨f,c,hc,j⟩
 ·exact wpAny_loadName_local I.ok.kind f hn hm go
 ·rcases f with f|f
  ·exact wpAny_loadName_cell I.ok.kind f hc j go
  ·rcases J with k|k
   ·have:X.env.scope.names.lookup x=some .free:=f;rw[k] at this;cases this
   ·have:X.env.scope.names.lookup x=some .free:=f;rw[k] at this;cases this
def ipI(f:Int->Int->Int):TIp:=λx y H Q=>∃i j,x = .int i/\y = .int j/\Q (.int (f i j)) H
def qe0:PIp X .Add (ipI λi j=>i+j):=by
 intro o s m H x y v u Q I e c h;obtain⟨i,j,l,f,q⟩:=h;subst l;subst f;obtain⟨t,rfl⟩:=e;obtain⟨n,rfl⟩:=c;exact iadd_int #[.int _,H,I.tok _,#[_,rfl],q]
def JV(c:TT)(tb:TS):TS:=λD e H=>∃h:Nat->St->Hp->Prop,(∃m,h m e H)/\∀m e H,h m e H->
 c e H λb j=>if b=true then ∃N:St->Hp->Prop,(∀f l,N f l->∃i,i<m/\h i f l)/\tb {D with nx:=N,ct:=N,bk:=D.nx} e j else D.nx e j
def Nz{c:rz}{j:List Stmt}{C:TT}{tb:TS}(E:PassesOwn (model X.prog X.w) X.A X.env X.xe)(hc:PT X c C)(hb:GZ X j tb):PS X (.While c j [] pos) (JV C tb):=by
 intro u s Q H D I h;obtain⟨dH,⟨m0,Y⟩,turn⟩:=h;refine wpAny_While (codeAny_whileLoop (λn s'=>∃l O,Inv X u l O s'/\dH n l O) ?_ m0 #[Q,H,I,Y]);rintro n s1 ⟨i,M,I1,U⟩;refine qoo E (cG (hc u s1 i M _ I1 (turn n i M U)) λb s2 T=>?_);obtain⟨L,J,p⟩:=T;cases b with
 |true=>
  obtain⟨N,G,p⟩:=p;rw[if_pos rfl];refine qoo E (cG (hb u s2 i L _ J p) λf s3 o=>?_);cases f with
  |next=>
   obtain⟨e,m,B,x⟩:=o;obtain⟨y,z,r⟩:=G e m x;exact#[y,z,e,m,B,r]
  |cont=>
   obtain⟨e,m,B,x⟩:=o;obtain⟨y,z,r⟩:=G e m x;exact#[y,z,e,m,B,r]
  |brk=>exact o
  |ret v=>exact o
 |false=>
  rw[if_neg qnq];exact qpD #[i,L,J,p]
end
structure It where
 go:Nat->Hp->Prop
 UW:Nat->Hp->V->Hp->Prop
 stop:Nat->Hp->Prop
def pB(X:Cx)(e:QAC)(H:Hp)(b:J9):Prop:=
 H b=none/\b≠X.env.locals/\b∉X.fs/\(b∈X.ex\/X.s₀.heap.objs.size<=b)/\(∀x c,X.env.cells.lookup x=some c->c≠b)/\∀p∈X.pn++e,p.1≠b
def Inv.zY{X:Cx}{h:QAC}{σ:St}{H i:Hp}{s:Y5}{b:J9}(I:Inv X h σ H s)(f:s.heap.objs.size<=b)(l:i b=none):pB X h i b:=by
 refine#[l,qoF (qnj I.lt f),I.qkF f,.inr (qnp I.sz f),λx c e z=>?_,λp j z=>?_]
 ·obtain⟨v,q⟩:=I.cell x c e;exact absurd (qnj q.lt (by rw[z];exact f)) (qoj _)
 ·exact absurd (qnj (qm9 (I.pin p j).1) (by rw[z];exact f)) (qoj _)
structure Turn(P:qd)(w:lW)(K:YZ)(tg:rz)(J:It)(fp:tR)(it:J9)(tn:Nat->Heap->Prop):Prop where
 mem:it∈fp
 obj:∀i h,tn i h->∀b∈fp,∃o,h.get? b=some o/\∀v,o.data≠.cell v
 keep:∀i h h',tn i h->(∀b∈fp,∀o,h.get? b=some o->h'.get? b=some o)->tn i h'
 item:∀(X:Cx),X.prog=P->X.w=w->X.K=K->X.calm=true->∀(i:Nat)(p_:QAC)(s:Y5)(σ:St)(H:Hp)(E:QAB),Inv X p_ σ H s->(∀b∈fp,pB X p_ H b)->tn i s.heap->J.go i H->
  wpAny (model P w) X.A (pyNext (.ref it)) (λr s1=>∃u,r=some u/\
   wpAny (model P w) X.A (letOwnedTupleGo tg (.ref it) u) (λ_ s2=>∃x H',Inv X p_ σ H' s2/\RelV x u/\J.UW i H x H'/\tn (i+1) s2.heap/\∀b∈fp,H' b=none) E s1) E s
 done:∀(X:Cx),X.prog=P->X.w=w->X.K=K->X.calm=true->∀(i:Nat)(p_:QAC)(s:Y5)(σ:St)(H:Hp)(E:QAB),Inv X p_ σ H s->(∀b∈fp,pB X p_ H b)->tn i s.heap->J.stop i H->
  wpAny (model P w) X.A (pyNext (.ref it)) (λr s1=>r=none/\Inv X p_ σ H s1) E s
 self:∀(A:lY)(i:Nat)(s:Y5)(Q:QAB)(E:QAB),tn i s.heap->Q (.ref it) s->wpAny (model P w) A (pyIter (.ref it)) Q E s
abbrev TI:=St->Hp->(It->Hp->Prop)->Prop
def PIE(X:Cx)(i:QAC)(σ:St)(tg:rz)(R:It->Hp->Prop)(c:eH)(h:Y5):Prop:=
 ∃(j:J9)(l:tR)(f:Nat->Heap->Prop)(J:It)(e:Hp),c = .ref j/\Inv X i σ e h/\Turn X.prog X.w X.K tg J l j f/\f 0 h.heap/\(∀b∈l,pB X i e b)/\R J e
def PI(X:Cx)(tg iter:rz)(f:TI):Prop:=
 ∀(e:QAC)(s:Y5)(c:St)(H:Hp)(R:It->Hp->Prop),Inv X e c H s->f c H R->
  wpAny (model X.prog X.w) X.A (eval iter X.env) (λv h=>wpAny (model X.prog X.w) X.A (pyIter v) (PIE X e c tg R) X.xe h) X.xe s
def U0{M:Model}{A:lY}{E:QAB}{s:Y5}{tg:rz}{it:J9}{u:eH}{o:Obj}{n:String}{vs:wY}{Q:QAJ}(e:s.heap.get? it=some o)(j:o.cls = .type n)(i:o.data = .fields vs)
  (f : ["enumerate", "zip", "dict_itemiterator", "dict_reverseitemiterator", "odict_iterator", "itertools.zip_longest", "itertools.pairwise"].contains n=false) (c:Q () s):wpAny M A (letOwnedTupleGo tg (.ref it) u) Q E s:=by
 unfold letOwnedTupleGo;cases tg <;> first
  |exact qm8 c
  |(cases u <;> first
    |exact qm8 c
    |(refine qm3 (wpAny_load e ?_)
      rw[j,i];show wpAny M A (if (["enumerate", "zip", "dict_itemiterator", "dict_reverseitemiterator", "odict_iterator", "itertools.zip_longest", "itertools.pairwise"].contains n && vs[0]? == some (rawInt _))=true then _ else _) Q E s
      rw[if_neg (by intro h;rw[f,Bool.false_and] at h;cases h)];exact qm8 c))
def Rk(K:YZ)(a:J9):It:=
 #[λi H=>∃c x,aV K H a c/\c[i]? = some x,λi H x e=>e=H/\∀c,aV K H a c->c[i]? = some x,λi H=>∃c,aV K H a c/\c.length<=i]
def Itt(K:YZ)(a:J9):It:=
 #[λi H=>∃c x,cO K H a c/\c[i]? = some x,λi H x e=>e=H/\∀c,cO K H a c->c[i]? = some x,λi H=>∃c,cO K H a c/\c.length<=i]
def Ra(lo:Int)(n:Nat):It:=#[λi _=>i<n,λi H x c=>c=H/\x = .int (lo+i),λi _=>n<=i]
def qZ{P:qd}{w:lW}{K:YZ}{tg:rz}(a it:J9):Turn P w K tg (Rk K a) [it] it (λi h=>h.IsListIter it a i) where
 mem:=by simp
 obj:=λi h st b f=>by
  have e:b=it:=by simpa using f
  subst e;obtain⟨o,e,c,d⟩:=st;exact#[o,e,λv z=>by rw[d] at z;cases z]
 keep:=λi h n st k=>st.at λo e=>k it (by simp) o e
 item:=by
  intro X C hw D T i Q s O H E I m st B;subst C hw D;obtain⟨U,x,l,A⟩:=B;obtain⟨y,r,p,hz⟩:=I.list l;obtain⟨u,hu,ru⟩:=r.get A;obtain⟨N,M,f2,L,J,G⟩:=m it (by simp);refine wpAny_pyNext_list_item st p.isList (x:=u) (by simpa using hu) λn j Y=>?_;have I1:Inv X Q O H {s with heap:=n}:=I.turned (t':=s.toks) (λb o f e=>(Y.2 b f).trans e) N M L J G;obtain⟨o,e,c,d⟩:=id j;exact#[u,rfl,U0 (s:={s with heap:=n}) e c d (by decide) #[x,H,I1,ru,#[rfl,λys hy=>by rw[I.ur hy l];exact A],j,λb f=>(m b f).1]]
 done:=by
  intro X C hw D T i Q s O H E I m st B;subst C hw D;obtain⟨U,l,A⟩:=B;obtain⟨y,r,p,hz⟩:=I.list l;obtain⟨N,M,f2,L,J,G⟩:=m it (by simp);have hl:=r.length;exact wpAny_pyNext_list_end (I.ok.hd T) st p.isList (by simp;lia) λn eb=>#[rfl,I.turned (t':=s.toks) (λb o f e=>eb b o f e) N M L J G]
 self:=λ_ _ _ _ _ st h=>wpAny_pyIter_listiter st h
def Rm{P:qd}{w:lW}{K:YZ}{tg:rz}(a it:J9):Turn P w K tg (Itt K a) [it] it (λi h=>h.IsTupleIter it a i) where
 mem:=by simp
 obj:=λi h st b j=>by
  have e:b=it:=by simpa using j
  subst e;obtain⟨o,e,c,d⟩:=st;exact#[o,e,λv z=>by rw[d] at z;cases z]
 keep:=λi h r st k=>st.at λo e=>k it (by simp) o e
 item:=by
  intro X C hw D T i Q s O H E I n st B;subst C hw D;obtain⟨U,x,m,A⟩:=B;obtain⟨f,y,p,hz⟩:=I.tuple m;obtain⟨u,hu,ru⟩:=y.get A;obtain⟨N,M,f2,L,J,G⟩:=n it (by simp);refine wpAny_pyNext_tuple_item st (show s.heap.IsTuple a f.toArray from p) (x:=u) (by simpa using hu) λr l Y=>?_;have I1:Inv X Q O H {s with heap:=r}:=I.turned (t':=s.toks) (λb o j e=>(Y.2 b j).trans e) N M L J G;obtain⟨o,e,c,d⟩:=id l;exact#[u,rfl,U0 (s:={s with heap:=r}) e c d (by decide) #[x,H,I1,ru,#[rfl,λys hy=>by rw[I.Wk hy m];exact A],l,λb j=>(n b j).1]]
 done:=by
  intro X C hw D T i Q s O H E I n st B;subst C hw D;obtain⟨U,m,A⟩:=B;obtain⟨f,y,p,hz⟩:=I.tuple m;obtain⟨N,M,f2,L,J,G⟩:=n it (by simp);have hl:=y.length;exact wpAny_pyNext_tuple_end (I.ok.hd T) st (show s.heap.IsTuple a f.toArray from p) (by simp;omega) λr eb=>#[rfl,I.turned (t':=s.toks) (λb o j e=>eb b o j e) N M L J G]
 self:=λ_ _ _ _ _ st h=>wpAny_pyIter_tupleiter st h
def Rn{P:qd}{w:lW}{K:YZ}{tg:rz}(it:J9)(lo:Int)(n:Nat):Turn P w K tg (Ra lo n) [it] it (λi h=>IsRangeIter h it (lo+(i:Nat) * 1) ((n:Int) - (i:Nat)) 1) where
 mem:=by simp
 obj:=λi h st b c=>by
  have e:b=it:=by simpa using c
  subst e;exact#[_,st,λv z=>by
   have L:Data.fields _=Data.cell v:=z;cases L]
 keep:=λi h l st k=>k it (by simp) _ st
 item:=by
  intro X r hw u p i J s D H E I j st m;subst r hw u;obtain⟨C,B,O,A,y,x⟩:=j it (by simp);have T:=Walks.range (prog:=X.prog) (w:=X.w) (I.ok.hd p) it lo 1 n;refine T.item i s _ _ m st λv l G N f M=>?_;obtain⟨t,rfl⟩:=N;have U:Inv X J D H {s with heap:=l,toks:=G}:=I.turned (λb o c e=>M b o (by simpa using c) e) C B A y x;refine#[_,rfl,U0 (s:={s with heap:=l,toks:=G}) (n:= "range_iterator") f rfl rfl (by decide) #[.int (lo+i),H,U,#[t,?_],#[rfl,rfl],f,λb c=>(j b c).1]];rw[Int.mul_one]
 done:=by
  intro X r hw u p i J s D H E I j st m;subst r hw u;obtain⟨C,B,O,A,y,x⟩:=j it (by simp);exact wpAny_pyNext_range_end (I.ok.hd p) st (by have:n<=i:=m;lia) λl Q=>#[rfl,I.turned (t':=s.toks) (λb o c e=>Q b o c e) C B A y x]
 self:=λ_ _ _ _ _ st h=>wpAny_pyIter_rangeiter st h
section
variable {X:Cx}{tg:rz}
def U3(K:YZ)(h:TE):TI:=λe H R=>h e H λx c=>∃a,x = .ref a/\(∃f,aV K c a f)/\R (Rk K a) c
def qcr{l:rz}{i:TE}(z:PE X l i):PI X tg l (U3 X.K i):=by
 intro u s j H R I h;refine cG (z u s j H _ I h) λv c m=>?_;obtain⟨x,B,f,n,r⟩:=m;obtain⟨a,e,⟨C,y⟩,q⟩:=r;subst e;cases n;obtain⟨w,D,p,E⟩:=f.list y;refine qoW p.isList ?_;refine#[c.heap.objs.size,[c.heap.objs.size],_,_,B,rfl,f.kept (t':=c.toks) λb o e=>qm4 _ e,qZ a _,#[_,qne _ rfl,rfl,rfl],λb A=>?_,q];have e:b=c.heap.objs.size:=by simpa using A
 subst e;exact f.zY (qm5 _) (f.hok.fresh (qm5 _))
def NK{f:QAC}{σ:St}{H:Hp}{s:Y5}{R:It->Hp->Prop}{E:QAB}{lo c:Int}{t u v:Tok}{tk:Nat}(I:Inv X f σ H s)(n : -(2 ^ 62)<=lo)(m:lo<2 ^ 62)(l : -(2 ^ 62)<=c)(j:c<2 ^ 62)
  (q:R (Ra lo (c - lo).toNat) H):wpAny (model X.prog X.w) X.A (pyIter (.ref s.heap.objs.size)) (PIE X f σ tg R) E {s with heap:=s.heap.push {cls:=.type "range",data:=.fields [.int lo t,.int c u,.int 1 v].toArray},toks:=tk}:=by
 refine wpAny_pyIter_range (IsRange.new ..) (small_one n m l j) ?_;have h:Inv X f σ H {s with heap:=s.heap.push {cls:=.type "range",data:=.fields [.int lo t,.int c u,.int 1 v].toArray},toks:=tk}:=I.kept λb o e=>qm4 _ e;refine#[(s.heap.push {cls:=.type "range",data:=.fields [.int lo t,.int c u,.int 1 v].toArray}).objs.size,[(s.heap.push {cls:=.type "range",data:=.fields [.int lo t,.int c u,.int 1 v].toArray}).objs.size],_,_,H,rfl,
  h.kept (t':=tk) λb o e=>qm4 _ e,Rn _ lo (c - lo).toNat,?_,λb i=>?_,q]
 ·have r:lo+((0:Nat):Int) * 1=lo:=by simp
  have p:(((c - lo).toNat:Nat):Int) - ((0:Nat):Int)=Builtin.Range.rangeSize lo c 1:=by rw[rangeSize_one];split <;> lia
  show IsRangeIter _ _ (lo+((0:Nat):Int) * 1) ((((c - lo).toNat:Nat):Int) - ((0:Nat):Int)) 1;rw[r,p];exact qne _ rfl
 ·have e:b=(s.heap.push {cls:=.type "range",data:=.fields [.int lo t,.int c u,.int 1 v].toArray}).objs.size:=by simpa using i
  subst e;exact h.zY (qm5 _) (h.hok.fresh (qm5 _))
def Zj(f:TA):TI:=λc H R=>f c H λe h=>∃j:Int,e=[.int j]/\-(2 ^ 62)<=j/\j<2 ^ 62/\R (Ra 0 j.toNat) h
def Zk(f:TA):TI:=λc H R=>f c H λe h=>∃i j:Int,e=[.int i,.int j]/\(-(2 ^ 62)<=i/\i<2 ^ 62/\-(2 ^ 62)<=j/\j<2 ^ 62)/\R (Ra i (j - i).toNat) h
def nC{a:rz}{f:TA}{p pos:Pos} (x:Gl X "range") (w:X.mg "range" = none) (y:PA X [a] f) (v:starEach [a] X.env=[(false,eval a X.env)]:=by rfl):PI X tg (.Call (.Name "range" p) [a] [] pos) (Zj f):=by
 intro u s i H R I h;refine Call_ (mz I x w boot_range (qnX (cG (y pos u s i H _ I h) λB C l=>?_) v rfl));obtain⟨A,D,z,n,c⟩:=l;obtain⟨j,e,c,o,q⟩:=c;subst e;cases n with
 |cons r m=>
  cases m;obtain⟨t,rfl⟩:=r;exact call_range_1 (NK z ⋯ ⋯ c o (by simpa using q))
def Wo{a b:rz}{m:TA}{p pos:Pos} (C:Gl X "range") (B:X.mg "range" = none) (D:PA X [a,b] m) (A:starEach [a,b] X.env=[(false,eval a X.env),(false,eval b X.env)]:=by rfl) (c:starEach [b] X.env=[(false,eval b X.env)]:=by rfl) :
  PI X tg (.Call (.Name "range" p) [a,b] [] pos) (Zk m):=by
 intro z s n H R I h;refine Call_ (mz I C B boot_range (qnX (cG (D pos z s n H _ I h) λJ M o=>?_) (by rw[A,c]) (by rw[c];rfl)));obtain⟨G,N,E,u,l⟩:=o;obtain⟨i,j,e,⟨l,y,x,w⟩,q⟩:=l;subst e;cases u with
 |cons r f=>
  cases f with
  |cons v f=>
   cases f;obtain⟨t,rfl⟩:=r;obtain⟨L,rfl⟩:=v;exact call_range_2 (NK E l y x w q)
def qe1(n:TI)(g:TG)(tb:TS):TS:=λD c H=>n c H λJ p=>∃j:Nat->Nat->St->Hp->Prop,(∃m,j 0 m c p)/\∀i m c H,j i m c H->
 (J.stop i H/\D.nx c H)\/(J.go i H/\∃N:St->Hp->Prop,(∀e f,N e f->∃l,l<m/\j (i+1) l e f)/\∀x f,J.UW i H x f->g x c f λh o=>tb {D with nx:=N,ct:=N,bk:=D.nx} h o)
def zZ(c:tR)(h:oY):QAC:=c.filterMap λb=>(h.get? b).map λo=>(b,o)
def j_{c:tR}{h:oY}{b:J9}{o:Obj}(f:b∈c)(e:h.get? b=some o):(b,o)∈zZ c h:=List.mem_filterMap.mpr #[b,f,by rw[e];rfl]
def Wq{c:tR}{h:oY}{p:Addr×Obj}(f:p∈zZ c h):p.1∈c/\h.get? p.1=some p.2:=by
 obtain⟨b,i,e⟩:=List.mem_filterMap.mp f;cases q:h.get? b with
 |none=>rw[q] at e;cases e
 |some o=>
  rw[q] at e;have j:(b,o)=p:=qnB e;subst j;exact#[i,q]
def Inv.pinned{c:QAC}{σ:St}{H:Hp}{s:Y5}{f:tR}(I:Inv X c σ H s)(m:∀b∈f,pB X c H b)(l:∀b∈f,∃o,s.heap.get? b=some o/\∀v,o.data≠.cell v):Inv X (c++zZ f s.heap) σ H s:=
 I.UJ λp j=>(qnw.mp j).elim (λz=>I.pin p (qnJ _ z)) λz=>by
  obtain⟨h,e⟩:=Wq z;obtain⟨u,r,n,_⟩:=m p.1 h;obtain⟨o,i,d⟩:=l p.1 h;rw[e] at i;cases i;exact#[e,u,r,n,d]
def Inv.nZ{c pl:QAC}{σ:St}{H:Hp}{s:Y5}(I:Inv X (c++pl) σ H s):Inv X c σ H s:=I.UJ λp e=>I.pin p (qnJ _ (qnG _ e))
def gU{iter:rz}{G:List Stmt}{wi:TI}{g:TG}{tb:TS}{pos:Pos}(Y:PassesOwn (model X.prog X.w) X.A X.env X.xe)(hc:X.calm=true)(hi:PI X tg iter wi)(hg:PG X tg g)(y:GZ X G tb)
  (hs:∀x,foldedSetIterable iter X.env x=pure x:=by intro _;rfl):PS X (.For tg iter G [] pos) (qe1 wi g tb):=by
 intro M s σ H D I h;refine wpAny_For (cG (hi M s σ H _ I h) λv s1 h1=>cG h1 λaf s2 h2=>?_) hs;obtain⟨it,fp,tn,J,H2,e,I2,T,ab,f2,dH,⟨m0,w0⟩,turn⟩:=h2;subst e;have p:∀{C:Hp},(∀b∈fp,C b=none)->∀b∈fp,pB X M C b:=λhn b y=>#[hn b y,(f2 b y).2];refine codeAny_forLoop_any (λn s'=>∃i l C,Inv X M l C s'/\tn i s'.heap/\(∀b∈fp,C b=none)/\dH i n l C) ?_ m0 #[0,σ,H2,I2,ab,λb y=>(f2 b y).1,w0];rintro n s3 ⟨i,j,H3,I3,Q,a0,w3⟩
 rcases turn i n j H3 w3 with⟨O,qn⟩|⟨go,N,hN,step⟩
 ·refine qoo Y (cG (T.done X rfl rfl rfl hc i M s3 j H3 X.xe I3 (p a0) Q O) λr s4 L=>?_);obtain⟨hr,I4⟩:=L;subst hr;exact qpD #[j,H3,I4,qn]
 ·refine qoo Y (cG (T.item X rfl rfl rfl hc i M s3 j H3 X.xe I3 (p a0) Q go) λr s4 L=>?_);obtain⟨u,hr,h4⟩:=L;subst hr;refine qoo Y (cG h4 λ_ s5 L=>?_);obtain⟨x,H5,I5,r5,y5,U4,ac⟩:=L;have ae:=I5.pinned (p ac) (T.obj _ _ U4);refine qoo Y (cG (hg _ s5 j H5 x u _ ae r5 (step x H5 y5)) λ_ s6 L=>?_);obtain⟨aa,H6,I6,q6⟩:=L;refine qoo Y (cG (y _ s6 aa H6 _ I6 q6) λf s7 E=>?_);have again:∀{c:St}{B:Hp},Inv X (M++zZ fp s5.heap) c B s7->N c B->∃m,m<n/\∃i l C,Inv X M l C s7/\tn i s7.heap/\(∀b∈fp,C b=none)/\dH i m l C:=λ{c B} z U=>by
   obtain⟨m',hm,w7⟩:=hN c B U;refine#[m',hm,i+1,c,B,z.nZ,T.keep _ _ _ U4 λb y o e=>(z.pin (b,o) (qnJ _ (qnJ _ (j_ y e)))).1,λb y=>?_,w7];obtain⟨o,e,d⟩:=T.obj _ _ U4 b y;exact(z.pin (b,o) (qnJ _ (qnJ _ (j_ y e)))).2.1
  cases f with
  |next=>obtain⟨c,B,z,U⟩:=E;exact again z U
  |cont=>obtain⟨c,B,z,U⟩:=E;exact again z U
  |brk=>obtain⟨c,B,z,E⟩:=E;exact#[c,B,z.nZ,E]
  |ret v=>obtain⟨x7,c,B,z,r7,E⟩:=E;exact#[x7,c,B,z.nZ,r7,E]
end
def Zm{K:YZ}{a:J9}{xs:QA0}{g:TG}{tb:TS}{D:Ends}{σ:St}{H:Hp}(Pv:QA1)(z:Pv 0 σ H)(u:∀i σ H,i<=xs.length->Pv i σ H->aV K H a xs)
  (s:∀i x σ H,xs[i]? = some x->Pv i σ H->g x σ H λc n=>tb {D with nx:=Pv (i+1),ct:=Pv (i+1),bk:=D.nx} c n) (w:∀σ H,Pv xs.length σ H->D.nx σ H) :
  ∃l:Nat->Nat->St->Hp->Prop,(∃m,l 0 m σ H)/\∀i m σ H,l i m σ H->
   ((Rk K a).stop i H/\D.nx σ H)\/((Rk K a).go i H/\∃N:St->Hp->Prop,(∀f h,N f h->∃o,o<m/\l (i+1) o f h)/\∀x h,(Rk K a).UW i H x h->g x σ h λc n=>tb {D with nx:=N,ct:=N,bk:=D.nx} c n):=by
 refine#[λi m σ H=>m=xs.length - i/\i<=xs.length/\Pv i σ H,#[xs.length,by simp,qnI _,z],?_];rintro i m σ H ⟨rfl,v,p⟩;have q:=u i σ H v p
 by_cases j:i<xs.length
 ·refine .inr #[#[xs,xs[i],q,by simp[j]],Pv (i+1),λf h r=>#[xs.length - (i+1),∅,rfl,j,r],λx h y=>?_];obtain⟨e,y⟩:=y;subst e;exact s i x σ _ (y xs q) p
 ·have e:i=xs.length:=⋯
  subst e;exact .inl #[#[xs,q,qm5 _],w σ H p]
def Wr{lo:Int}{n:Nat}{g:TG}{tb:TS}{D:Ends}{σ:St}{H:Hp}(Pv:QA1)(w:Pv 0 σ H)
  (u:∀i σ H,i<n->Pv i σ H->g (.int (lo+i)) σ H λc o=>tb {D with nx:=Pv (i+1),ct:=Pv (i+1),bk:=D.nx} c o) (v:∀σ H,Pv n σ H->D.nx σ H) :
  ∃l:Nat->Nat->St->Hp->Prop,(∃m,l 0 m σ H)/\∀i m σ H,l i m σ H->
   ((Ra lo n).stop i H/\D.nx σ H)\/((Ra lo n).go i H/\∃N:St->Hp->Prop,(∀f j,N f j->∃r,r<m/\l (i+1) r f j)/\∀x j,(Ra lo n).UW i H x j->g x σ j λc o=>tb {D with nx:=N,ct:=N,bk:=D.nx} c o):=by
 refine#[λi m σ H=>m=n - i/\i<=n/\Pv i σ H,#[n,by simp,qnI _,w],?_];rintro i m σ H ⟨rfl,z,p⟩
 by_cases h:i<n
 ·refine .inr #[h,Pv (i+1),λf j s=>#[n - (i+1),∅,rfl,h,s],λx j y=>?_];obtain⟨e,y⟩:=y;subst e y;exact u i σ _ h p
 ·have e:i=n:=⋯
  subst e;exact .inl #[qm5 _,v σ H p]
def Zn{c:TT}{tb:TS}{D:Ends}{σ:St}{H:Hp}(Pv:QA4)(μ:St->Hp->Nat)(o:Pv σ H)
  (n:∀σ H,Pv σ H->c σ H λb f=>if b=true then tb {D with nx:=λe h=>Pv e h/\μ e h<μ σ H,ct:=λe h=>Pv e h/\μ e h<μ σ H,bk:=D.nx} σ f else D.nx σ f)
  (mono:∀σ H Q i,(∀b f,Q b f->i b f)->c σ H Q->c σ H i):JV c tb D σ H:=by
 refine#[λm σ H=>m=μ σ H/\Pv σ H,#[_,rfl,o],?_];rintro m σ H ⟨rfl,p⟩;refine mono σ H _ _ (λb f q=>?_) (n σ H p);cases b with
 |true=>exact#[_,λe h ⟨j,l⟩=>#[_,l,rfl,j],q]
 |false=>exact q
abbrev R2:=V->V->Hp->VK->Prop
def iD(X:Cx)(f:Value->Value->Sem Value)(r:R2):Prop:=
 ∀(e:QAC)(s:Y5)(c:St)(H:Hp)(x y:V)(v u:eH)(Q:VK),Inv X e c H s->RelV x v->RelV y u->r x y H Q->
  wpAny (model X.prog X.w) X.A (f v u) (EP X e c Q) X.xe s
def UnR(X:Cx)(f:Value->Sem Value)(r:V->Hp->VK->Prop):Prop:=
 ∀(e:QAC)(s:Y5)(c:St)(H:Hp)(x:V)(v:eH)(Q:VK),Inv X e c H s->RelV x v->r x H Q->
  wpAny (model X.prog X.w) X.A (f v) (EP X e c Q) X.xe s
def cJ(X:Cx)(f:eH)(r:QA3):Prop:=
 ∀(i:QAC)(s:Y5)(c:St)(H:Hp)(e:QA0)(h:QAE)(Q:VK),Inv X i c H s->Vals e h->r e H Q->
  wpAny (model X.prog X.w) X.A (call f h) (EP X i c Q) X.xe s
def tOp(r:R2)(e tb:TE):TE:=λc H Q=>e c H λx h=>tb c h λy f=>r x y f Q
def tUn(r:V->Hp->VK->Prop)(e:TE):TE:=λc H Q=>e c H λx f=>r x f Q
def rI(C:Int->Int->Prop)(g:Int->Int->V):R2:=λx y H Q=>∃i j,x = .int i/\y = .int j/\C i j/\Q (g i j) H
def rI0(g:Int->Int->V):R2:=λx y H Q=>∃i j,x = .int i/\y = .int j/\Q (g i j) H
def rU(g:Int->V):V->Hp->VK->Prop:=λx H Q=>∃i,x = .int i/\Q (g i) H
section
variable {X:Cx}{a b c:rz}{ta tb tc:TE}{pos:Pos}
def qe2(G:PE X a ta)(E:PE X b tb){m:QAC}{s:Y5}{σ:St}{H:Hp}{R:V->V->Hp->Prop}(I:Inv X m σ H s)
  (h:ta σ H λx o=>tb σ o λy e=>R x y e) {Q:QAB}{f:Value->Value->Sem Value}
  (D:∀v u l x y e,Inv X m σ e l->RelV x v->RelV y u->R x y e->wpAny (model X.prog X.w) X.A (f v u) Q X.xe l) :
  wpAny (model X.prog X.w) X.A (eval a X.env) (λv j=>wpAny (model X.prog X.w) X.A (eval b X.env) (λu i=>wpAny (model X.prog X.w) X.A (f v u) Q X.xe i) X.xe j) X.xe s:=by
 refine cG (G m s σ H _ I h) λv p n=>?_;obtain⟨x,o,L,z,C⟩:=n;refine cG (E m p σ o _ L C) λu l n=>?_;obtain⟨y,e,J,r,B⟩:=n;exact D v u l x y e J z r B
def cX{e:Operator}{r:R2}(n:iD X (binaryOp e) r)(p:PE X a ta)(o:PE X b tb):PE X (.BinOp a e b pos) (tOp r ta tb):=by
 intro m s f H Q I h;exact wpAny_BinOp (qe2 p o I h λv u i x y z w l j q=>n m i f z x y v u Q w l j q)
def qg8{i:UnaryOp}{r:V->Hp->VK->Prop}(o:UnR X (unaryOp i) r)(p:PE X a ta):PE X (.UnaryOp i a pos) (tUn r ta):=by
 intro f s e H Q I h;refine UnaryOp_ (cG (p f s e H _ I h) λv l j=>?_);obtain⟨x,w,u,m,n⟩:=j;exact o f l e w x v Q u m n
def opI{f:Value->Value->Sem Value}{C:Int->Int->Prop}{g:Int->Int->Int}
  (rule:∀(i j:Int)(t u:Tok)(s:Y5)(Q:QAB)(E:QAB),C i j->Q (.int (g i j) s.toks) {s with toks:=s.toks+1}->wpAny (model X.prog X.w) X.A (f (.int i t) (.int j u)) Q E s) :
  iD X f (rI C λi j=>.int (g i j)):=by
 intro p s o H x y v u Q I m l h;obtain⟨i,j,rfl,rfl,n,q⟩:=h;obtain⟨t,rfl⟩:=m;obtain⟨e,rfl⟩:=l;exact rule i j t e s _ _ n #[.int (g i j),H,I.tok _,#[_,rfl],q]
def qg9{f:Value->Value->Sem Value}{g:Int->Int->Int}
  (rule:∀(i j:Int)(t u:Tok)(s:Y5)(Q:QAB)(E:QAB),Q (.int (g i j) s.toks) {s with toks:=s.toks+1}->wpAny (model X.prog X.w) X.A (f (.int i t) (.int j u)) Q E s) :
  iD X f (rI0 λi j=>.int (g i j)):=by
 intro o s n H x y v u Q I m l h;obtain⟨i,j,rfl,rfl,q⟩:=h;obtain⟨t,rfl⟩:=m;obtain⟨e,rfl⟩:=l;exact rule i j t e s _ _ #[.int (g i j),H,I.tok _,#[_,rfl],q]
def qe3{f:Value->Value->Sem Value}{g:Int->Int->Bool}
  (rule:∀(i j:Int)(t u:Tok)(s:Y5)(Q:QAB)(E:QAB),Q (.bool (g i j)) s->wpAny (model X.prog X.w) X.A (f (.int i t) (.int j u)) Q E s) :
  iD X f (rI0 λi j=>.bl (g i j)):=by
 intro o s n H x y v u Q I m l h;obtain⟨i,j,rfl,rfl,q⟩:=h;obtain⟨t,rfl⟩:=m;obtain⟨e,rfl⟩:=l;exact rule i j t e s _ _ #[.bl (g i j),H,I,rfl,q]
@[simp] def Ws (i j:Int):Prop:=0<j/\j<1073741824
@[simp] def qg_ (i j:Int):Prop:=0<=j/\j<=1000000/\i.natAbs<2 ^ 64
@[simp] def qcs (i j:Int):Prop:=(-(2 ^ 64)<i/\i<2 ^ 64)\/(-(2 ^ 64)<j/\j<2 ^ 64)
def qcs.ok{i j:Int}(h:qcs i j):IntMulOk i j:=by
 rcases h with⟨f,e⟩|⟨f,e⟩
 ·exact .of_left (intBits_le_64 f e)
 ·exact .of_right (intBits_le_64 f e)
def qe4:iD X (binaryOp .Add) (rI0 λi j=>.int (i+j)):=qg9 λ_ _ _ _ _ _ _ q=>add_int q
def qe5:iD X (binaryOp .Sub) (rI0 λi j=>.int (i - j)):=qg9 λ_ _ _ _ _ _ _ q=>sub_int q
def qe6:iD X (binaryOp .Mult) (rI qcs λi j=>.int (i * j)):=opI λ_ _ _ _ _ _ _ e q=>mul_int q e.ok
def qct:iD X (binaryOp .FloorDiv) (rI Ws λi j=>.int (i / j)):=opI λi j _ _ _ _ _ e q=>by
 have h:(0:Int)<j:=e.1;have f:j<1073741824:=e.2;exact floordiv_int ⋯ (by rw[Int.fdiv_eq_ediv_of_nonneg i ⋯];exact q) (.inl (PyProof.noPylong_small ∅))
def qe7:iD X (binaryOp .Mod) (rI (λ_ j=>0<j) λi j=>.int (i % j)):=opI λi j _ _ _ _ _ e q=>by
 have f:(0:Int)<j:=e;exact mod_int' ⋯ (by rw[Int.fmod_eq_emod_of_nonneg i ⋯];exact q)
def qe8:iD X (binaryOp .Pow) (rI qg_ λi j=>.int (i ^ j.toNat)):=opI λ_ _ _ _ _ _ _ e q=>pow_int_small e.1 e.2.1 e.2.2 q
def unI{f:Value->Sem Value}{g:Int->Int}
  (rule:∀(i:Int)(t:Tok)(s:Y5)(Q:QAB)(E:QAB),Q (.int (g i) s.toks) {s with toks:=s.toks+1}->wpAny (model X.prog X.w) X.A (f (.int i t)) Q E s) :
  UnR X f (rU λi=>.int (g i)):=by
 intro l s j H x v Q I e h;obtain⟨i,rfl,q⟩:=h;obtain⟨t,rfl⟩:=e;exact rule i t s _ _ #[.int (g i),H,I.tok _,#[_,rfl],q]
def qe9:UnR X (unaryOp .USub) (rU λi=>.int (-i)):=unI λ_ _ _ _ _ q=>neg_int q
end
def Cj:V->V->Bool
 |.non,.non=>true|.non,.int _=>true|.int _,.non=>true|.non,.bl _=>true|.bl _,.non=>true|.non,.str _=>true|.str _,.non=>true
 |.int _,.int _=>true|.bl _,.bl _=>true|.str _,.str _=>true|.YT _,.YT _=>true
 |.int _,.str _=>true|.str _,.int _=>true|.bl _,.str _=>true|.str _,.bl _=>true
 |_,_=>false
def rEq:R2:=λx y H Q=>Cj x y=true/\Q (.bl (decide (x=y))) H
def rNe:R2:=λx y H Q=>Cj x y=true/\Q (.bl (!decide (x=y))) H
def U5{i j:Int}:decide (V.int i=V.int j)=(i == j):=by
 rw[qou];simp
def Zo{i j:Bool}:decide (V.bl i=V.bl j)=(i == j):=by
 rw[qou];simp
def U6{i j:Str}:decide (V.str i=V.str j)=(i == j):=by
 rw[qou];simp
def U7{i j:Array UInt8}:decide (V.YT i=V.YT j)=(i.toList == j.toList):=by
 rw[qou];cases i;cases j;simp
section
variable {X:Cx}{a b c:rz}{ta tb tc:TE}{pos:Pos}
def cA{f:QAC}{σ:St}{H:Hp}{s:Y5}{Q:VK}{k h:Bool}(I:Inv X f σ H s)(q:Q (.bl k) H)(e:k=h):EP X f σ Q (.bool h) s:=by
 subst e;exact#[.bl k,H,I,rfl,q]
def qha:iD X (compareOp .Eq) rEq:=by
 intro o s n H x y v u Q I m e h;obtain⟨l,q⟩:=h;cases x with
 |non=>
  cases m;cases y with
  |non=>cases e;exact PySem.EqNone.eq_none_none (cA I q (by simp))
  |bl j=>cases e;exact PySem.EqNone.eq_none_bool (cA I q (by simp))
  |int j=>obtain⟨f,rfl⟩:=e;exact PySem.EqNone.eq_none_int (cA I q (by simp))
  |str j=>obtain⟨f,rfl⟩:=e;exact PySem.EqNone.eq_none_str (cA I q (by simp))
  |_=>exact absurd (show false=true from l) qnq
 |bl i=>
  cases m;cases y with
  |non=>cases e;exact PySem.EqNone.eq_bool_none (cA I q (by simp))
  |bl j=>cases e;exact eq_bool (cA I q Zo)
  |str j=>obtain⟨f,rfl⟩:=e;exact PySem.EqMixed.eq_bool_str (cA I q (by simp))
  |_=>exact absurd (show false=true from l) qnq
 |int i=>
  obtain⟨t,rfl⟩:=m;cases y with
  |non=>cases e;exact PySem.EqNone.eq_int_none (cA I q (by simp))
  |int j=>obtain⟨f,rfl⟩:=e;exact eq_int (cA I q U5)
  |str j=>obtain⟨f,rfl⟩:=e;exact PySem.EqMixed.eq_int_str (cA I q (by simp))
  |_=>exact absurd (show false=true from l) qnq
 |str i=>
  obtain⟨t,rfl⟩:=m;cases y with
  |non=>cases e;exact PySem.EqNone.eq_str_none (cA I q (by simp))
  |bl j=>cases e;exact PySem.EqMixed.eq_str_bool (cA I q (by simp))
  |int j=>obtain⟨f,rfl⟩:=e;exact PySem.EqMixed.eq_str_int (cA I q (by simp))
  |str j=>obtain⟨f,rfl⟩:=e;exact eq_str (cA I q U6)
  |_=>exact absurd (show false=true from l) qnq
 |YT i=>
  obtain⟨t,rfl⟩:=m;cases y with
  |YT j=>obtain⟨f,rfl⟩:=e;exact W.eq_bytes (cA I q U7)
  |_=>exact absurd (show false=true from l) qnq
 |_=>cases y <;> exact absurd (show false=true from l) qnq
def qhb:iD X (compareOp .NotEq) rNe:=by
 intro o s n H x y v u Q I m e h;obtain⟨l,q⟩:=h;cases x with
 |non=>
  cases m;cases y with
  |non=>cases e;exact PySem.EqNone.ne_none_none (cA I q (by simp))
  |bl j=>cases e;exact PySem.EqNone.ne_none_bool (cA I q (by simp))
  |int j=>obtain⟨f,rfl⟩:=e;exact PySem.EqNone.ne_none_int (cA I q (by simp))
  |str j=>obtain⟨f,rfl⟩:=e;exact PySem.EqNone.ne_none_str (cA I q (by simp))
  |_=>exact absurd (show false=true from l) qnq
 |bl i=>
  cases m;cases y with
  |non=>cases e;exact PySem.EqNone.ne_bool_none (cA I q (by simp))
  |bl j=>cases e;exact ne_bool (cA I q (qnH not Zo))
  |str j=>obtain⟨f,rfl⟩:=e;exact PySem.EqMixed.ne_bool_str (cA I q (by simp))
  |_=>exact absurd (show false=true from l) qnq
 |int i=>
  obtain⟨t,rfl⟩:=m;cases y with
  |non=>cases e;exact PySem.EqNone.ne_int_none (cA I q (by simp))
  |int j=>obtain⟨f,rfl⟩:=e;exact ne_int (cA I q (qnH not U5))
  |str j=>obtain⟨f,rfl⟩:=e;exact PySem.EqMixed.ne_int_str (cA I q (by simp))
  |_=>exact absurd (show false=true from l) qnq
 |str i=>
  obtain⟨t,rfl⟩:=m;cases y with
  |non=>cases e;exact PySem.EqNone.ne_str_none (cA I q (by simp))
  |bl j=>cases e;exact PySem.EqMixed.ne_str_bool (cA I q (by simp))
  |int j=>obtain⟨f,rfl⟩:=e;exact PySem.EqMixed.ne_str_int (cA I q (by simp))
  |str j=>obtain⟨f,rfl⟩:=e;exact ne_str (cA I q (qnH not U6))
  |_=>exact absurd (show false=true from l) qnq
 |YT i=>
  obtain⟨t,rfl⟩:=m;cases y with
  |YT j=>obtain⟨f,rfl⟩:=e;exact W.ne_bytes (cA I q (qnH not U7))
  |_=>exact absurd (show false=true from l) qnq
 |_=>cases y <;> exact absurd (show false=true from l) qnq
def qhc:iD X (compareOp .Lt) (rI0 λi j=>.bl (decide (i<j))):=qe3 λ_ _ _ _ _ _ _ q=>lt_int q
def qhd:iD X (compareOp .LtE) (rI0 λi j=>.bl (decide (i<=j))):=qe3 λ_ _ _ _ _ _ _ q=>le_int q
def qhe:iD X (compareOp .Gt) (rI0 λi j=>.bl (decide (j<i))):=qe3 λ_ _ _ _ _ _ _ q=>gt_int q
def Wt:iD X (compareOp .In) (λx y H Q=>∃i j,x = .str i/\y = .str j/\Q (.bl (!(Builtin.Str.occurrences j i 0 j.length 1).isEmpty)) H):=by
 intro n s l H x y v u Q I f e h;obtain⟨i,j,rfl,rfl,q⟩:=h;obtain⟨t,rfl⟩:=f;obtain⟨m,rfl⟩:=e;exact in_str (cA I q rfl)
def qe_:iD X (compareOp .Is) (λx y H Q=>y = .non/\Q (.bl (decide (x = .non))) H):=by
 intro j s i H x y v u Q I e f h;obtain⟨rfl,q⟩:=h;cases f;refine is_none_gen (cA I q ?_);cases x <;> first
  |(cases e;rfl)
  |(obtain⟨t,rfl⟩:=e;rfl)
def U8:iD X (compareOp .IsNot) (λx y H Q=>y = .non/\Q (.bl (!decide (x = .non))) H):=by
 intro j s i H x y v u Q I e f h;obtain⟨rfl,q⟩:=h;cases f;refine isnot_none_gen (cA I q ?_);cases x <;> first
  |(cases e;rfl)
  |(obtain⟨t,rfl⟩:=e;rfl)
def iD.or{f:Value->Value->Sem Value}{r l:R2}(h:iD X f r)(h':iD X f l):iD X f (λx y H Q=>r x y H Q\/l x y H Q):=by
 intro m s e H x y v u Q I j i q
 rcases q with q|q
 ·exact h m s e H x y v u Q I j i q
 ·exact h' m s e H x y v u Q I j i q
def bJ(b:rz){e:CmpOp}(h:e≠.In:=by decide)(f:e≠.NotIn:=by decide):behindInMarks e b=false:=by
 have j:(e == CmpOp.In)=false:=by cases e <;> first|rfl|exact absurd rfl h
 have i:(e == CmpOp.NotIn)=false:=by cases e <;> first|rfl|exact absurd rfl f
 cases b <;> simp[behindInMarks,j,i]
def cI{e:CmpOp}{r:R2}(n:iD X (compareOp e) r)(w:PE X a ta)(p:PE X b tb)(o:behindInMarks e b=false):PE X (.Compare a [e] [b] pos) (tOp r ta tb):=by
 intro m s f H Q I h;exact wpAny_Compare1 (qe2 w p I h λv u i x y A z l j q=>n m i f A x y v u Q z l j q) o
def U9(t:TE):TT:=λe H Q=>t e H λx f=>∃k,x = .bl k/\Q k f
def qcu{j:CmpOp}{r:R2}(C:iD X (compareOp j) r)(G:PE X a ta)(E:PE X b tb)(D:behindInMarks j b=false):PT X (.Compare a [j] [b] pos) (U9 (tOp r ta tb)):=by
 intro i s f H Q I h;refine wpAny_isTrue_Compare1 (cG (G i s f H _ I h) λv m ⟨x,T,M,p,B⟩=>cG (E i m f T _ M B) λu l ⟨y,O,L,o,A⟩=>
  cG (C i l f O x y v u _ L p o A) λc U ⟨z,N,J,n,k,e,w⟩=>?_) D
 subst e;cases n;exact qok #[N,J,w]
def JW(r i:R2)(ta tb tc:TE):TE:=λe H Q=>ta e H λx m=>tb e m λy l=>r x y l λz f=>∃k,z = .bl k/\
 (if k=true then tc e f λh j=>i y h j Q else Q (.bl false) f)
def Zq{l f:CmpOp}{r o:R2}(Y:iD X (compareOp l) r)(m:iD X (compareOp f) o)(ha:PE X a ta)(hb:PE X b tb)(hc:PE X c tc)
  (hm:lastMarks [l,f] [b,c]=false:=by with_unfolding_all rfl):PE X (.Compare a [l,f] [b,c] pos) (JW r o ta tb tc):=by
 intro j s i H Q I h;refine Compare_chain (cG (ha j s i H _ I h) λv J ⟨x,H1,I1,N,U⟩=>chain_link (cG (hb j J i H1 _ I1 U) λu G ⟨y,H2,I2,n,T⟩=>
  cG (Y j G i H2 x y v u _ I2 N n T) λd E ⟨z,A,w,M,k,e,p⟩=>?_)) hm
 subst e;cases M;refine qok ?_;cases k with
 |false=>exact ite_ff #[.bl false,A,w,rfl,p]
 |true=>exact ite_tt (chain_last (cG (hc j E i A _ w p) λC D ⟨B,H4,I4,L,O⟩=>m j D i H4 y B u C Q I4 n L O))
def Zr{l f:CmpOp}{r o:R2}(ho:iD X (compareOp l) r)(m:iD X (compareOp f) o)(ha:PE X a ta)(hb:PE X b tb)(hc:PE X c tc)
  (hm:lastMarks [l,f] [b,c]=false:=by with_unfolding_all rfl):PT X (.Compare a [l,f] [b,c] pos) (U9 (JW r o ta tb tc)):=by
 intro j s i H Q I h;refine isTrue_chain (cG (ha j s i H _ I h) λv J ⟨x,H1,I1,O,q1⟩=>test_link (cG (hb j J i H1 _ I1 q1) λu G ⟨y,H2,I2,n,Y⟩=>
  cG (ho j G i H2 x y v u _ I2 O n Y) λd E ⟨z,A,w,N,k,e,p⟩=>?_)) hm
 subst e;cases N;refine qok ?_;cases k with
 |false=>
  obtain⟨k',e',q'⟩:=p;cases e';exact ite_ff #[A,w,q']
 |true=>
  refine ite_tt (test_last (cG (hc j E i A _ w p) λC D ⟨B,H4,I4,M,U⟩=>cG (m j D i H4 y B u C _ I4 n M U) λd' s5 ⟨z2,H5,I5,L,k2,e2,T⟩=>?_));subst e2;cases L;exact qok #[H5,I5,T]
def xr:(sizeLine:Nat)<2 ^ 63:=by rw[qpN];decide
def Ro:iD X (binaryOp .Add) (λx y H Q=>∃i j,x = .str i/\y = .str j/\i.length+j.length<=sizeLine/\Q (.str (i++j)) H):=by
 intro p s n H x y v u Q I l f h;obtain⟨i,j,rfl,rfl,m,q⟩:=h;obtain⟨t,rfl⟩:=l;obtain⟨e,rfl⟩:=f;exact add_str (λe o=>#[.str (i++j),H,I.tok _,#[_,rfl],q]) m
def vals1{x:V}{us:QAE}(r:Vals [x] us):∃u,us=[u]/\RelV x u:=by
 cases r with
 |cons f e=>cases e;exact#[_,rfl,f]
def vals2{x y:V}{us:QAE}(r:Vals [x,y] us):∃u e,us=[u,e]/\RelV x u/\RelV y e:=by
 cases r with
 |cons j i=>
  cases i with
  |cons h f=>cases f;exact#[_,_,rfl,j,h]
def Zt:cJ X (.builtin "abs") (λxs H Q=>∃i,xs=[.int i]/\Q (.int (if i<0 then -i else i)) H):=by
 intro l s e H xs f Q I r h;obtain⟨i,rfl,q⟩:=h;obtain⟨u,rfl,t,rfl⟩:=vals1 r;exact call_abs_int λu j=>#[.int (if i<0 then -i else i),H,I.tok _,#[_,rfl],q]
def Wu(f:X.calm=true):cJ X (.builtin "max") (λxs H Q=>∃i j,xs=[.int i,.int j]/\Q (.int (if j > i then j else i)) H):=by
 intro v s l H xs n Q I r h;obtain⟨i,j,rfl,q⟩:=h;obtain⟨u,m,rfl,⟨t,rfl⟩,⟨p,rfl⟩⟩:=vals2 r;refine max_two_ints (I.ok.hd f) λw o k=>#[_,H,I.kept k,?_,q]
 by_cases e:j > i
 ·rw[if_pos e,if_pos e];exact#[_,rfl]
 ·rw[if_neg e,if_neg e];exact#[_,rfl]
def Wv(f:X.calm=true):cJ X (.builtin "min") (λxs H Q=>∃i j,xs=[.int i,.int j]/\Q (.int (if j<i then j else i)) H):=by
 intro v s l H xs n Q I r h;obtain⟨i,j,rfl,q⟩:=h;obtain⟨u,m,rfl,⟨t,rfl⟩,⟨p,rfl⟩⟩:=vals2 r;refine min_two_ints (I.ok.hd f) λw o k=>#[_,H,I.kept k,?_,q]
 by_cases e:j<i
 ·rw[if_pos e,if_pos e];exact#[_,rfl]
 ·rw[if_neg e,if_neg e];exact#[_,rfl]
def Ww:cJ X (.type "int") (λxs H Q=>(∃i,xs=[.int i]/\Q (.int i) H)\/∃k,xs=[.bl k]/\Q (.int (if k then 1 else 0)) H):=by
 intro l s f H xs j Q I r h
 rcases h with⟨i,rfl,q⟩|⟨k,rfl,q⟩
 ·obtain⟨u,rfl,t,rfl⟩:=vals1 r;exact call_int_int #[.int i,H,I,#[_,rfl],q]
 ·obtain⟨u,rfl,e⟩:=vals1 r;cases e;exact call_int_bool #[.int (if k then 1 else 0),H,I.tok _,#[_,rfl],q]
def NQ:cJ X (.builtin "divmod") (λxs H Q=>∃i j,xs=[.int i,.int j]/\Ws i j/\∀p,H p=none->Q (.ref p) (upd H p (.tup [.int (i / j),.int (i % j)]))):=by
 intro w s l H xs n Q I r h;obtain⟨i,j,rfl,⟨y,x⟩,q⟩:=h;obtain⟨u,m,rfl,⟨t,rfl⟩,⟨v,rfl⟩⟩:=vals2 r;refine divmod_int ∅ ?_ (.inl (PyProof.noPylong_small ∅));rw[Int.fdiv_eq_ediv_of_nonneg i ∅,Int.fmod_eq_emod_of_nonneg i ∅];have f:H s.heap.objs.size=none:=I.hok.fresh (qm5 _);refine#[.ref s.heap.objs.size,_,?_,rfl,q _ f];refine I.laid (λb o e=>qm4 _ e) (qm5 _) #[by simp only[qnt,List.length_nil];rw[qpN];decide,[.int (i / j) s.toks,.int (i % j) (s.toks+1)],.cons #[_,rfl] (.cons #[_,rfl] .nil),?_];exact#[_,qne s.heap rfl,rfl,0,rfl]
end
structure Rp(h:oY)(x dx C:J9)(mA:Y4):Prop where
 obj:h.get? x=some (W.instObj C dx)
 ns:h.Ns1 dx mA
 ne:dx≠x
def HJ{h:oY}{l:J9}{i:Y4}(n:h.Ns1 l i):∃f,h.get? l=some f/\∀name,W.lookIn name f=some (i name):=by
 obtain⟨o,j,w,p,u,s,_,r⟩:=n;refine#[o,p,λname=>?_];have e:=r name;unfold nsFind findBy at e;rw[<- Array.find?_toList] at e;unfold W.lookIn;rw[u];dsimp only;split
 ·rename_i y q;rw[q] at e;exact qnH some e
 ·rename_i q;rw[q] at e;have a:j.toList.any (·.refKey)=false:=by
   rw[List.any_eq_false];intro y m;obtain⟨z,t,c⟩:=s y (Array.mem_toList_iff.mp m);simp[DictEntry.refKey,c]
  have v:¬j.toList.any (·.refKey)=true:=by rw[a];exact qnq
  rw[if_neg v];exact qnH some e
def Rp.look{h:oY}{x f C:J9}{e:Y4}(I:Rp h x f C e):∃c,W.InstAt h x (W.instObj C f) C (some c)/\∀name,W.lookIn name c=some (e name):=
 let ⟨c,i,j⟩:=HJ I.ns
 #[c,#[I.obj,rfl,rfl,i],j]
section
variable {prog:qd}{w:lW}{A:lY}{E:QAB}{s:Y5}{K:YZ}{x dx C f:J9}{mA:Y4}{name:Str}{v:eH}
def get_map{c:Bool}{Q:QAB}(X:K.In s.heap)(I:Rp s.heap x dx C mA)(m:W.plainGet K C name=true)(l:W.hasDictIn K C=true)
  (n:W.findIn K (.ref C) name=some none) (i:mA name=some v) (e:W.handedIn v=true) (h:Q v {s with toks:=s.toks+1}) :
  wpAny (model prog w) A (getAttr (.ref x) name c) Q E s:=by
 obtain⟨o,J,j⟩:=I.look;exact W.get_value X J (W.plainGet_of m).1 (W.findObj_own l n rfl (by rw[j,i])) e h
def Zu{pl:Sem Bool}{Q:Value×QAE->Shared->Prop}(X:K.In s.heap)(I:Rp s.heap x dx C mA)(c:W.plainGet K C name=true)
  (m:W.findIn K (.ref C) name=some (some (.ref f))) (j:W.isFn K (.ref f)=true) (i:mA name=none) (h:Q (.ref f,[.ref x]) s) :
  wpAny (model prog w) A (getMethod (.ref x) name pl) Q E s:=by
 obtain⟨e,J,l⟩:=I.look;exact W.method_fn X J (W.plainGet_of c).1 (W.plainGet_of c).2 m (qpj.mp j) (by show(W.lookIn name e).map (·.isSome)=some false;rw[l,i];rfl) h
def qcv{ns:QAH}{Q:QAJ}(X:K.In s.heap)(I:Rp s.heap x dx C mA)
  (p:W.findIn K (.ref C) "__setattr__" = some (some (.builtin "object.__setattr__"))) (u:W.plainOver K C=true) (o:W.takerIn K C name=some none) (z:W.hasDictIn K C=true)
  (hw:PySem.Within mA ns) (hsz:ns.length<=sizeLine)
  (h:∀h',Rp h' x dx C (λy=>if y=name then some v else mA y)->Heap.SameBut dx s.heap h'->Q () {s with heap:=h',toks:=s.toks+2}) :
  wpAny (model prog w) A (setAttr (.ref x) name v) Q E s:=by
 obtain⟨H,J,M⟩:=I.look;refine W.set_plain X J p (W.osa_open (s:={s with toks:=s.toks+1}) (r:=none) X J u o λb=>?_);obtain⟨N,B,l⟩:=W.any_some z;have n:s.heap.get? x=some #[.ref C,some dx,.plain,#[]]:=I.obj;refine qm3 (qm8 (qm3 (qm3 (wpAny_loadPart n (qm3 (W.Looks.here (s:={s with toks:=s.toks+1}) (W.looks_clsIn X B) ?_))))));rw[l];refine qm8 (a:=some dx) (qm3 (qm8 (qm3 ?_)));refine wpAny_nsSet1 (s:={s with toks:=s.toks+1}) I.ns λh' e c=>?_;obtain⟨L,D,G,i,j,m⟩:=e.count (PySem.Within.cons name v hw);refine qm3 (wpAny_lookBehind i (by rw[j];exact pastItsLine_dict (qnp m (by rw[qnt];lia))) ?_);exact qm8 (h _ #[(c.2 _ (qoE I.ne)).trans I.obj,e,I.ne] c)
def Zv{R:Result->Shared->Prop}{vs:QAE}{e:List (Str×Value)}(X:K.In s.heap)(i:W.makesIn K C=true)
  (j:W.findIn K (.ref C) "__init__" = some (some (.ref f))) (l:W.typeIn K (.ref f)=some (.type "function"))
  (h:codeAny (model prog w) (A.under (.builtin "type.__call__" #[.ref C::vs,e])) (.call (.ref f) #[.ref (s.heap.objs.size+1)::vs,e]) (W.InitBack (s.heap.objs.size+1) R)
   {s with heap:=(s.heap.push W.emptyDict).push (W.instObj C s.heap.objs.size)}) :
  codeAny (model prog w) A (.call (.ref C) #[vs,e]) R s:=by
 obtain⟨m,g,d,t,os⟩:=s;exact W.make_core (W.makes_of X i) (W.looks_findIn X j) (λc=>W.bind_fn X c l) (.inl rfl) h
end
def kh(f:Str)(v:V):List (Str×V)->List (Str×V)
 |[]=>[(f,v)]
 |(g,x)::r=>if g=f then (g,v)::r else (g,x)::kh f v r
theorem pF(f g:Str)(v:V):∀fs:List (Str×V),(kh f v fs).lookup g=if g=f then some v else fs.lookup g
 |[]=>by
  show List.lookup g [(f,v)]=_
  by_cases h:g=f
  ·have c:(g == f)=true:=qpj.mpr h;simp only[List.lookup,c,if_pos h]
  ·have c:(g == f)=false:=qo7.mpr h;simp only[List.lookup,c,if_neg h]
 |(k,x)::r=>by
  have ih:=pF f g v r;rw[show kh f v ((k,x)::r)=(if k=f then (k,v)::r else (k,x)::kh f v r) from rfl]
  by_cases i:k=f
  ·rw[if_pos i]
   by_cases h:g=k
   ·have c:(g == k)=true:=qpj.mpr h;simp only[List.lookup,c,if_pos (h.trans i)]
   ·have c:(g == k)=false:=qo7.mpr h;simp only[List.lookup,c,if_neg (λe:g=f=>h (e.trans i.symm))]
  ·rw[if_neg i]
   by_cases h:g=k
   ·have c:(g == k)=true:=qpj.mpr h;simp only[List.lookup,c,if_neg (λe:g=f=>i (h.symm.trans e))]
   ·have c:(g == k)=false:=qo7.mpr h;simp only[List.lookup,c];exact ih
theorem q_(f:Str)(v:V):∀fs:List (Str×V),f∈(kh f v fs).map (·.1)/\∀g,g∈fs.map (·.1)->g∈(kh f v fs).map (·.1)
 |[]=>#[by simp[kh],λg h=>by simp at h]
 |(k,x)::r=>by
  obtain⟨j,i⟩:=q_ f v r;rw[show kh f v ((k,x)::r)=(if k=f then (k,v)::r else (k,x)::kh f v r) from rfl]
  by_cases c:k=f
  ·rw[if_pos c];subst c;exact#[by simp,λg h=>by simpa using h]
  ·rw[if_neg c];refine#[?_,λg h=>?_]
   ·rw[qnP];exact qm_ _ j
   ·rw[qnP] at h⊢
    rcases qnc.mp h with e|e
    ·exact qnc.mpr (.inl e)
    ·exact qm_ _ (i g e)
theorem ux(f:Str)(v:V):∀fs:List (Str×V),(kh f v fs).length<=fs.length+1
 |[]=>by simp[kh]
 |(k,x)::r=>by
  have ih:=ux f v r;rw[show kh f v ((k,x)::r)=(if k=f then (k,v)::r else (k,x)::kh f v r) from rfl]
  by_cases c:k=f
  ·rw[if_pos c,qnt,qnt];lia
  ·rw[if_neg c,qnt,qnt];lia
def mV.some_of{v:V}{o:QAG}(r:mV (some v) o):∃u,o=some u/\RelV v u:=by
 cases o with
 |none=>exact(show False from r).elim
 |some u=>exact#[u,rfl,r]
def mV.none_of{o:QAG}(r:mV none o):o=none:=by
 cases o with
 |none=>rfl
 |some u=>exact(show False from r).elim
def HN{v:V}{u:eH}(r:RelV v u):W.handedIn u=true:=by
 cases v with
 |non=>cases (show u=Value.none from r);rfl
 |bl b=>cases (show u=Value.bool b from r);rfl
 |int i=>obtain⟨t,e⟩:=(show ∃t,u=Value.int i t from r);cases e;rfl
 |str x=>obtain⟨t,e⟩:=(show ∃t,u=Value.str x t from r);cases e;rfl
 |YT b=>obtain⟨t,e⟩:=(show ∃t,u=Value.bytes b t from r);cases e;rfl
 |flt b=>obtain⟨t,e⟩:=(show ∃t,u=Value.float b t from r);cases e;rfl
 |ref a=>cases (show u=Value.ref a from r);rfl
 |ty n=>cases (show u=Value.type n from r);rfl
section
variable {P:qd}{w:lW}{H H':Hp}{h h':oY}{a C dx:J9}{fs fs':List (Str×V)}
def yq(i:vH P w H h)(e:H a=some (.ins C dx fs)):∃c,Rp h a dx C c/\(∀f,mV (fs.lookup f) (c f))/\PySem.Within c (fs.map (·.1))/\fs.length<=1000/\H dx=some (.own a):=by
 obtain⟨d,z,ne,j,c,n,r,q⟩:=(show cD P w H h a (.ins C dx fs) from i a _ e);exact#[c,#[j,n,ne],r,q,z,d]
end
structure Cls(K:YZ)(C:J9):Prop where
 pg:W.plainGet K C Str.empty=true
 hd:W.hasDictIn K C=true
 po:W.plainOver K C=true
 sa:W.findIn K (.ref C) "__setattr__" = some (some (.builtin "object.__setattr__"))
def Cls.get{K:YZ}{C:J9}(c:Cls K C)(f:Str):W.plainGet K C f=true:=c.pg
def mC(K:YZ)(C:J9)(f:Str):Prop:=W.findIn K (.ref C) f=some none
def mC.taker{K:YZ}{C:J9}{f:Str}(n:mC K C f):W.takerIn K C f=some none:=by
 unfold W.takerIn;rw[show W.findIn K (.ref C) f=some none from n];rfl
structure Meth(K:YZ)(C:J9)(m:Str)(f:J9):Prop where
 at_:W.findIn K (.ref C) m=some (some (.ref f))
 fn:W.isFn K (.ref f)=true
 kp:W.keepIn K (.ref f)=true
section
variable {X:Cx}{p_:QAC}{σ:St}{H:Hp}{s:Y5}{a C dx:J9}{fs:List (Str×V)}{f:Str}{v:V}{A:lY}{E:QAB}
def Rq{b:Bool}{Q:QAB}(I:Inv X p_ σ H s)(e:H a=some (.ins C dx fs))(c:Cls X.K C)(n:mC X.K C f)(l:fs.lookup f=some v)
  (h:∀u i,Inv X p_ σ H i->RelV v u->Q u i):wpAny (model X.prog X.w) A (getAttr (.ref a) f b) Q E s:=by
 obtain⟨m,O,r,_,_,_⟩:=yq I.hok e;obtain⟨u,p,j⟩:=mV.some_of (v:=v) (o:=m f) (by rw[<- l];exact r f);exact get_map I.pA O (c.get f) c.hd n p (HN j) (h u _ (I.tok _) j)
def Rr{m:Str}{g:J9}{pl:Sem Bool}{Q:Value×QAE->Shared->Prop}(I:Inv X p_ σ H s)(e:H a=some (.ins C dx fs))(c:Cls X.K C)(k:Meth X.K C m g)(l:fs.lookup m=none)
  (h:Q (.ref g,[.ref a]) s):wpAny (model X.prog X.w) A (getMethod (.ref a) m pl) Q E s:=by
 obtain⟨i,O,r,_,_,_⟩:=yq I.hok e;have j:i m=none:=mV.none_of (by rw[<- l];exact r m);exact Zu I.pA O (c.get m) k.at_ k.fn j h
def Rt{y:V}{u:eH}{Q:QAJ}(I:Inv X p_ σ H s)(e:H a=some (.ins C dx fs))(c:Cls X.K C)(n:mC X.K C f)(U:fs.length<1000)(D:RelV y u)
  (h:∀l,Inv X p_ σ (upd H a (.ins C dx (kh f y fs))) l->Q () l):wpAny (model X.prog X.w) A (setAttr (.ref a) f u) Q E s:=by
 obtain⟨m,O,r,j,_,p⟩:=yq I.hok e;have G:(fs.map (·.1)).length<=sizeLine:=by rw[qm7,qpN];lia
 refine qcv I.pA O c.sa c.po n.taker c.hd j G λN i B=>h _ ?_;have L:∃o,N.get? dx=some o:=let ⟨o,_,_,T,_⟩:=i.ns;#[o,T];refine I.write (x:=a) (e:=dx) (by rw[e];exact True.intro) (.inr p) (λb q M z=>(B.2 b M).trans z) L ?_;refine#[by rw[aF O.ne];exact p,?_,O.ne,i.obj,_,i.ns,λg=>?_,λg J=>?_]
 ·have:=ux f y fs;lia
 ·show mV ((kh f y fs).lookup g) (if g=f then some u else m g)
  rw[pF]
  by_cases q:g=f
  ·rw[if_pos q,if_pos q];exact D
  ·rw[if_neg q,if_neg q];exact r g
 ·by_cases q:g=f
  ·rw[q];exact(q_ f y fs).1
  ·refine(q_ f y fs).2 g (j g λz=>J ?_);show(if g=f then some u else m g)=none
   rw[if_neg q];exact z
def Inv.made(I:Inv X p_ σ H s):Inv X p_ σ (upd (upd H s.heap.objs.size (.own (s.heap.objs.size+1))) (s.heap.objs.size+1) (.ins C s.heap.objs.size []))
  {s with heap:=(s.heap.push W.emptyDict).push (W.instObj C s.heap.objs.size)}:=by
 have c:(s.heap.push W.emptyDict).get? s.heap.objs.size=some W.emptyDict:=qne s.heap rfl;have l:((s.heap.push W.emptyDict).push (W.instObj C s.heap.objs.size)).get? (s.heap.objs.size+1)=some (W.instObj C s.heap.objs.size):=by
  have:=qne (s.heap.push W.emptyDict) (o:=W.instObj C s.heap.objs.size) rfl
  rwa [qnV] at this
 have j:(s.heap.push W.emptyDict).Ns s.heap.objs.size (λ_=>none):=#[W.emptyDict,#[],_,c,rfl,(λe i=>absurd i (by simp)),λ_=>rfl];have m:=I.laid (a:=s.heap.objs.size) (o:=.own (s.heap.objs.size+1)) (h':=s.heap.push W.emptyDict) (t':=s.toks) (λb u q=>qm4 _ q) (qm5 _) #[_,c];refine m.laid (a:=s.heap.objs.size+1) (o:=.ins C s.heap.objs.size []) (t':=s.toks) (λb u q=>qm4 _ q) (Nat.le_of_eq (qnV _ _)) ?_;have ne:s.heap.objs.size≠s.heap.objs.size+1:=qnf (qoi _);refine#[by rw[aF ne,ak],qnI _,ne,l,λ_=>none,(Heap.Ns1.of_empty j).at λo q=>qm4 _ q,λ_=>True.intro,λy h=>absurd rfl h]
def U_{prog:qd}{w:lW}{c:Env}{e:rz}{f:Str}{pos:Pos}{s:Y5}{Q:QAB}(j:attributeBase e f c (eval e c)=eval e c)
  (h:wpAny (model prog w) A (eval e c) (λo i=>wpAny (model prog w) A (getAttr o f true) Q E i) E s):wpAny (model prog w) A (eval (.Attribute e f pos) c) Q E s:=
 Attribute_any_ h (by rw[arm_eval_Attribute,j])
end
def qcw(K:YZ)(h:TE)(f:Str):TE:=λe H Q=>h e H λx c=>∃a C i fs v,x = .ref a/\c a=some (.ins C i fs)/\Cls K C/\mC K C f/\fs.lookup f=some v/\Q v c
def qfa(K:YZ)(j i:TE)(f:Str):TS:=λD c H=>i c H λy l=>j c l λx h=>∃a C e fs,x = .ref a/\h a=some (.ins C e fs)/\Cls K C/\mC K C f/\fs.length<1000/\
 D.nx c (upd h a (.ins C e (kh f y fs)))
section
variable {X:Cx}{o e value:rz}{f:Str}{pos pos' tpos:Pos}{ta tv:TE}
def qfb(w:PE X e ta)(y:attributeBase e f X.env (eval e X.env)=eval e X.env):PE X (.Attribute e f pos) (qcw X.K ta f):=by
 intro r s i H Q I h;refine U_ y (cG (w r s i H _ I h) λu L j=>?_);obtain⟨x,E,D,m,a,C,M,fs,v,z,A,c,n,l,q⟩:=j;subst z;obtain rfl:u=Value.ref a:=m;exact Rq D A c n l λG J B p=>#[v,E,B,p,q]
def qfc(B:PE X o ta)(z:PE X value tv)(A:swapsWith value (some (.Attribute o f pos')) pos.line X.env=pure false):PS X (.Assign [.Attribute o f pos'] value pos) (qfa X.K ta tv f):=by
 intro j s i H D I h;refine qpo (cG (z j s i H _ I h) λu m ⟨y,N,M,p,q⟩=>cG (B j m i N _ M q) λw Q ⟨x,U,L,r,a,C,T,fs,E,G,c,n,l,v⟩=>?_) A;subst E;obtain rfl:w=Value.ref a:=r;exact Rt L G c n l p λO J=>#[i,_,J,v]
end
section
variable {X:Cx}{p_:QAC}{σ:St}{H:Hp}{s:Y5}{A:lY}{E:QAB}{Q:QAB}{c:eH}{b:Bool}
inductive mD(K:YZ)(H:Hp):V->Value->Prop where
 |non:mD K H .non (.type "NoneType")
 |bl (x:Bool):mD K H (.bl x) (.type "bool")
 |int (i:Int):mD K H (.int i) (.type "int")
 |str (x:Str):mD K H (.str x) (.type "str")
 |flt (x:UInt64):mD K H (.flt x) (.type "float")
 |lst {a:J9}{xs:QA0} (e:H a=some (.lst xs)):mD K H (.ref a) (.type "list")
 |Nq {a:J9}{o:Obj}{xs:QA0} (e:H a=some (.Nq o (.lst xs))):mD K H (.ref a) (.type "list")
 |tup {a:J9}{xs:QA0} (e:H a=some (.tup xs)):mD K H (.ref a) (.type "tuple")
 |dK {a:J9}{kvs:List (Key×V)} (e:H a=some (.dK kvs)):mD K H (.ref a) (.type "dict")
 |dT {a:J9}{kvs:List (List Key×V)} (e:H a=some (.dT kvs)):mD K H (.ref a) (.type "dict")
 |ins {a C dx:J9}{fs:List (Str×V)} (e:H a=some (.ins C dx fs)) (cl:Cls K C) (ha:W.findIn K (.ref C) "__class__" = some (some (.builtin "object.__class__")))
   (hn:W.specialIn K (.builtin "object.__class__") "__get__" = some (some (.builtin "getset_descriptor.__get__"))) (htk:W.takesIn K (.builtin "object.__class__")=some true)
   (hm:W.mroIn K C (.type "object")=some true):mD K H (.ref a) (.ref C)
def Wx{x:V}{u t:eH}(I:Inv X p_ σ H s)(f:RelV x u)(ty:mD X.K H x t)(e:W.kitOne X.K t c=some b)(h:∀tk,Q (.bool b) {s with toks:=tk}) :
  wpAny (model X.prog X.w) A (call (.builtin "isinstance") [u,c]) Q E s:=by
 cases ty with
 |non=>cases (show u=Value.none from f);exact qpr W.kitx_none I.pA True.intro e (λz=>nomatch z) h
 |bl y=>cases (show u=Value.bool y from f);exact qpr W.kitx_bool I.pA True.intro e (λz=>nomatch z) h
 |int i=>obtain⟨t,q⟩:=(show ∃t,u=Value.int i t from f);cases q;exact qpr W.kitx_int I.pA True.intro e (λz=>nomatch z) h
 |str y=>obtain⟨t,q⟩:=(show ∃t,u=Value.str y t from f);cases q;exact qpr W.kitx_str I.pA True.intro e (λz=>nomatch z) h
 |flt y=>obtain⟨t,q⟩:=(show ∃t,u=Value.float y t from f);cases q;exact qpr W.kitx_float I.pA True.intro e (λz=>nomatch z) h
 | @lst a r j=>
  cases (show u=Value.ref a from f);obtain⟨_,_,n,_,l⟩:=(show cD X.prog X.w H s.heap a (.lst r) from I.hok a _ j);exact qpr W.kitx_list I.pA #[_,l,rfl] e (λz=>nomatch z) h
 | @Nq a G r j=>
  cases (show u=Value.ref a from f);obtain⟨_,_,_,n,_,l⟩:=(show cD X.prog X.w H s.heap a (.Nq G (.lst r)) from I.hok a _ j);exact qpr W.kitx_list I.pA #[_,l,rfl] e (λz=>nomatch z) h
 | @tup a r j=>
  cases (show u=Value.ref a from f);obtain⟨_,_,_,p⟩:=(show cD X.prog X.w H s.heap a (.tup r) from I.hok a _ j);obtain⟨o,l,v,_⟩:=p;exact qpr W.kitx_tuple I.pA #[o,l,v] e (λz=>nomatch z) h
 | @dK a m j=>
  cases (show u=Value.ref a from f);obtain⟨_,_,Y,_,p⟩:=(show cD X.prog X.w H s.heap a (.dK m) from I.hok a _ j);obtain⟨o,T,U,l,v,_⟩:=p;exact qpr W.kitx_dict I.pA #[o,l,v.1] e (λz=>nomatch z) h
 | @dT a m j=>
  cases (show u=Value.ref a from f);obtain⟨_,_,r,_,o,T,U,l,v,_⟩:=(show cD X.prog X.w H s.heap a (.dT m) from I.hok a _ j);exact qpr W.kitx_dict I.pA #[o,l,v.1] e (λz=>nomatch z) h
 | @ins a C dx fs j D N L B M=>
  cases (show u=Value.ref a from f);obtain⟨mA,O,_⟩:=yq I.hok j;obtain⟨od,J,_⟩:=O.look;exact qpr (W.kitx_own (D.get _) D.hd N L B M) I.pA J e (λz=>nomatch z) h
end
structure fQ(k:Nat)(A:lY):Prop where
 hd:A.handled=none
 dp:A.depth+3 * k+5<recursionLimit
 un:A.units+16 * k+200<cLine
 gd:A.guards=some []
def fQ.mono{j k:Nat}{A:lY}(r:fQ k A)(h:j<=k):fQ j A:=#[r.hd,by have:=r.dp;lia,by have:=r.un;lia,r.gd]
def fQ.d{j k:Nat}{A:lY}(r:fQ k A)(h:j<=k:=by decide):fQ j A:=r.mono h
theorem fQ.deeper{k:Nat}{A:lY}(r:fQ (k+1) A)(c:Env):fQ k (A.deeper c):=
 #[r.hd,by have:=r.dp;show A.depth+1+3 * k+5<_;lia,by have:=r.un;show A.units+3+16 * k+200<_;lia,r.gd]
theorem fQ.in1{k:Nat}{A:lY}(r:fQ (k+1) A):fQ k A.in1:=
 #[r.hd,by have:=r.dp;show A.depth+3 * k+5<_;lia,by have:=r.un;show A.units+1+16 * k+200<_;lia,r.gd]
def Ru{A:lY}{C:J9}{us:QAE}{c:List (Str×Value)}:(A.under (.builtin "type.__call__" #[.ref C::us,c])).depth=A.depth+1:=by
 first|rfl|simp[Around.under,Code.weight,Code.isCreation,Code.isGuard,Code.isCaller,Code.frames,Code.isFrame,guardIds]
def Rv{A:lY}{C:J9}{us:QAE}{c:List (Str×Value)}:(A.under (.builtin "type.__call__" #[.ref C::us,c])).units=A.units+1:=by
 first|rfl|simp[Around.under,Code.cUnits,Code.frames,Code.isFrame]
def NT{A:lY}{C:J9}{us:QAE}{c:List (Str×Value)}:(A.under (.builtin "type.__call__" #[.ref C::us,c])).guards=A.guards:=by
 first|rfl|simp[Around.under,Code.isGuard,guardIds]
def fQ.make{k:Nat}{A:lY}(r:fQ (k+1) A)(C:J9)(us:QAE)(c:List (Str×Value)):fQ k (A.under (.builtin "type.__call__" #[.ref C::us,c])):=
 #[r.hd,by have:=r.dp;rw[Ru];lia,by have:=r.un;rw[Rv];lia,by rw[NT];exact r.gd]
theorem fQ.depth{k:Nat}{A:lY}(r:fQ k A):A.depth<recursionLimit:=by have:=r.dp;lia
theorem fQ.units{k:Nat}{A:lY}(r:fQ k A):A.units+64<cLine:=by have:=r.un;lia
def Wy:TA:=λ_ H Q=>Q [] H
def HS(h:TE)(f:TA):TA:=λc H Q=>h c H λx j=>f c j λe i=>Q (x::e) i
section
variable {X:Cx}{e:rz}{es:wZ}{te:TE}{t:TA}{pos:Pos}
def ao:PA X [] Wy:=λ_ _ _ _ H Q I h=>Calls.spliced_nil #[[],H,I,.nil,h]
def aj(w:PE X e te)(v:PA X es t)(r:starEach (e::es) X.env=(false,eval e X.env)::starEach es X.env:=by rfl):PA X (e::es) (HS te t):=by
 intro pos i s f H Q I h;rw[r];show wpAny _ _ (spliced ((false,eval e X.env)::backTo pos (starEach es X.env))) _ _ s;refine Calls.spliced_cons (cG (w i s f H _ I h) λu l c=>?_);obtain⟨x,B,z,n,p⟩:=c;refine cG (v pos i l f B _ z p) λC D c=>?_;obtain⟨j,A,y,m,o⟩:=c;exact#[x::j,A,y,.cons n m,o]
def qhf(t:TA):TE:=λh H Q=>t h H λc f=>c.length<=sizeLine/\∀p,f p=none->Q (.ref p) (upd f p (.tup c))
def qhg(t:TA):TE:=λh H Q=>t h H λc f=>c.length<=sizeLine/\∀p,f p=none->Q (.ref p) (upd f p (.lst c))
def ji{n}(h:PA X es t):PE X (.Tuple es n pos) (qhf t):=by
 intro p s j H Q I v;refine wpAny_Tuple_spliced (cG (h pos p s j H _ I v) λo c l=>?_);obtain⟨m,i,f,r,z,q⟩:=l;refine#[by rw[<- r.length];exact z,?_];have w:i c.heap.objs.size=none:=f.hok.fresh (qm5 _);refine#[.ref c.heap.objs.size,upd i c.heap.objs.size (.tup m),f.laid (t':=c.toks) (λb u e=>qm4 _ e) (qm5 _) ?_,rfl,q _ w];exact#[z,o,r,#[_,qne _ rfl,rfl,_,rfl]]
def cN(h:PA X es t):PE X (.List es pos) (qhg t):=by
 intro o s j H Q I p;refine wpAny_List_spliced (cG (h pos o s j H _ I p) λn c l=>?_);obtain⟨m,i,f,r,z,q⟩:=l;refine#[by rw[<- r.length];exact z,?_];have v:i c.heap.objs.size=none:=f.hok.fresh (qm5 _);refine#[.ref c.heap.objs.size,upd i c.heap.objs.size (.lst m),f.laid (t':=c.toks) (λb u e=>qm4 _ e) (qm5 _) ?_,rfl,q _ v];exact#[z,n,0,r,qne _ rfl]
end
abbrev Sp:=List V->Hp->VK->XK->Prop
abbrev Zw:=List Env->Hp->Shared->XK->Value->Shared->Prop
structure Ck(P:qd)(w:lW)(K:YZ)(mg:Y4)(base:oY)(A:lY)(outer:List Env)(s:Y5)(H:Hp):Prop where
 frames:A.frames=some outer
 mod:Mod K mg base
 bs:∀b o,base.get? b=some o->s.heap.get? b=some o/\H b=none
 UG:base.objs.size<=s.heap.objs.size
 um:s.heap.FunFrames base outer
 YW:∀b∈frs outer,H b=none
 hok:vH P w H s.heap
 bare:AllBare s.gens
def CE(c:List Env)(P:qd)(w:lW)(H:Hp)(s:Y5)(Q:VK)(u:eH)(e:Y5):Prop:=
 ∃v f,e.os=s.os/\AllBare e.gens/\Un (frs c) [] H f s.heap e.heap/\vH P w f e.heap/\RelV v u/\Q v f
def CR(CX:Zw)(c:List Env)(P:qd)(w:lW)(H:Hp)(s:Y5)(Q:VK)(E:XK)(r:Result)(f:Y5):Prop:=
 match r with
 |.ok (.ret u)=>CE c P w H s Q u f
 |.ok _=>False
 |.error e=>CX c H s E e f
structure bT(P:qd)(w:lW)(K:YZ)(mg:Y4)(base:oY)(CX:Zw)(k:Nat)(f:J9)(fd:sH)(ps:QAH)(sp:Sp):Prop where
 len:∀vs H Q E,sp vs H Q E->vs.length=ps.length
 run:∀(A:lY)(outer:List Env)(s:Y5)(H:Hp)(args:Args)(us:QAE)(vs:QA0)(Q:VK)(E:XK),fQ k A->Ck P w K mg base A outer s H->BindsTo s fd args (ps.zip us)->Vals vs us->sp vs H Q E->
  codeAny (model P w) A (.call (.ref f) args) (CR CX outer P w H s Q E) s
def Ck.make{P:qd}{w:lW}{K:YZ}{mg:Y4}{base:oY}{A:lY}{c:List Env}{s:Y5}{H:Hp}(e:Ck P w K mg base A c s H)(C:J9)(us:QAE)(f:List (Str×Value)) :
  Ck P w K mg base (A.under (.builtin "type.__call__" #[.ref C::us,f])) c s H:=#[by first|exact e.frames|(simpa [Around.under,Code.envs,Code.isFrame,pushEnvs] using e.frames),e.mod,e.bs,e.UG,e.um,e.YW,e.hok,e.bare]
theorem Ck.in1{P:qd}{w:lW}{K:YZ}{mg:Y4}{base:oY}{A:lY}{c:List Env}{s:Y5}{H:Hp}(e:Ck P w K mg base A c s H) :
  Ck P w K mg base A.in1 c s H:=#[e.frames,e.mod,e.bs,e.UG,e.um,e.YW,e.hok,e.bare]
section
variable {X:Cx}{p_:QAC}{σ:St}{H:Hp}{s s':Y5}
def Inv.env0(I:Inv X p_ σ H s):Ck X.prog X.w X.K X.mg X.base X.A X.stack s H:=
 #[I.ok.frames,I.ok.mod,I.bs,qnp I.ok.UG I.sz,I.stack,I.CG,I.hok,I.bare]
def Inv.after{Q:VK}{u:eH}(I:Inv X p_ σ H s)(h:CE X.stack X.prog X.w H s Q u s'):EP X p_ σ Q u s':=by
 obtain⟨v,j,os,c,un,f,r,q⟩:=h;obtain⟨i,g,d,t,e⟩:=s';obtain rfl:e=s.os:=os;exact#[v,j,I.call (h':=i) (g':=g) (d':=d) (t':=t) (ch:=[]) un f c (λb z=>absurd z (by simp)),r,q]
end
def Zx(sp:Sp)(e:QA0)(E:XK)(t:TA):TE:=λc H Q=>t c H λf h=>sp (f++e) h Q E
def Zy(C:J9)(m:Str)(sp:Sp)(f:QA0)(E:XK)(i:TE)(t:TA):TE:=λc H Q=>i c H λx e=>∃a j fs,x = .ref a/\e a=some (.ins C j fs)/\fs.lookup m=none/\
 t c e λh l=>sp (x::(h++f)) l Q E
def Zz(C:J9)(sp:Sp)(h:QA0)(E:XK)(t:TA):TE:=λf H Q=>t f H λi e=>∀x c,e x=none->e c=none->c≠x->
 sp (.ref x::(i++h)) (upd (upd e c (.own x)) x (.ins C c [])) (λv j=>v = .non/\Q (.ref x) j) E
def Binds(K:YZ)(f:sH)(ps:QAH)(e:QAE):Prop:=
 ∀(s:Y5)(c:QAE),K.In s.heap->(c++e).length=ps.length->BindsTo s f #[c,[]] (ps.zip (c++e))
def Binds.all{K:YZ}{e:sH}{ps:QAH}(h:∀us:QAE,us.length=ps.length->bindArgs e #[us,[]]=pure (ps.zip us)):Binds K e ps []:=λs us _ c=>by
 rw[qnC] at c⊢;exact .of_eq (h us c)
def Passes(CX:Zw)(X:Cx)(E:XK):Prop:=∀(h:QAC)(f:St)(H:Hp)(s:Y5)(e:eH)(c:Y5),Inv X h f H s->CX X.stack H s E e c->X.xe e c
section
variable {X:Cx}{CX:Zw}{k:Nat}{f C:J9}{fd:sH}{ps:QAH}{sp:Sp}{zV:QA0}{ds:QAE}{E:XK}{x m:Str}{p pos apos:Pos}{e o:rz}{es:wZ}{ta:TE}{t:TA}
def ZC{i:QAC}{σ:St}{H:Hp}{s:Y5}{Q:VK}{us:QAE}{vs:QA0}(F:bT X.prog X.w X.K X.mg X.base CX k f fd ps sp)(v:fQ k X.A)(B:Binds X.K fd ps ds)(z:Vals zV ds)(n:Passes CX X E)
  (I:Inv X i σ H s) (r:Vals vs us) (h:sp (vs++zV) H Q E):wpAny (model X.prog X.w) X.A (call (.ref f) us) (EP X i σ Q) X.xe s:=by
 have j:Vals (vs++zV) (us++ds):=r.append z;have y:(us++ds).length=ps.length:=by rw[<- j.length];exact F.len _ _ _ _ h
 refine qpb (qor (F.run X.A X.stack s H #[us,[]] (us++ds) (vs++zV) Q E v I.env0 (B s us I.pA y) j h) λr l c=>?_);cases r with
 |error e=>exact n i σ H s e l I c
 |ok D=>
  cases D with
  |ret u=>exact I.after c
  |next=>exact False.elim c
  |brk=>exact False.elim c
  |cont=>exact False.elim c
def aN(F:bT X.prog X.w X.K X.mg X.base CX k f fd ps sp)(y:fQ k X.A)(D:Gl X x)(z:X.mg x=some (.ref f))(B:W.keepIn X.K (.ref f)=true)(L:Binds X.K fd ps ds)(J:Vals zV ds)(v:Passes CX X E)
  (M:PA X (e::es) t) (i:(x == ("__debug__" : Str))=false:=by decide) (G:starEach (e::es) X.env=(false,eval e X.env)::starEach es X.env:=by rfl) (c:(backTo pos (starEach es X.env)).any (·.1)=false:=by rfl) :
  PE X (.Call (.Name x p) (e::es) [] pos) (Zx sp zV E t):=by
 intro u s l H Q I h;refine qom (mW I D z ?_ i);refine W.callWith_K (h₀:=X.base) I.ok.mod.Nt B (cG (M pos u s l H _ I h) λO T n=>?_) G c;obtain⟨N,U,j,r,q⟩:=n;refine#[j.pA,?_];exact ZC F y L J v j r q
def iU{pl:Sem Bool}(J:PE X o ta)(c:Cls X.K C)(n:Meth X.K C m f)(F:bT X.prog X.w X.K X.mg X.base CX k f fd ps sp)(G:fQ k X.A)(M:Binds X.K fd ps ds)(L:Vals zV ds)(B:Passes CX X E)
  (D:eval (.Call (.Attribute o m apos) [] [] pos) X.env=(do
   let j <- eval o X.env
   standAt apos.atName
   let (f,first) <- holding [j] (getMethod j m pl)
   callWith pos f first (backTo pos (starEach [] X.env)) (backToKw pos (keywordEach [] X.env))):=by rfl) :
  PE X (.Call (.Attribute o m apos) [] [] pos) (Zy C m sp zV E ta Wy):=by
 intro z s r H Q I h;refine W.methodCall_KW (pl:=pl) (cG (J z s r H _ I h) λu T v=>?_) D;obtain⟨x,Y,i,y,a,U,fs,N,O,l,q⟩:=v;subst N;obtain rfl:u=Value.ref a:=y;refine Rr i O c n l ?_;exact W.callWith_K0 (first:=[.ref a]) i.pA n.kp (ZC (us:=[.ref a]) (vs:=[.ref a]) F G M L B i (.cons rfl .nil) q)
structure Mk(K:YZ)(C f:J9):Prop where
 makes:W.makesIn K C=true
 init:W.findIn K (.ref C) "__init__" = some (some (.ref f))
 fn:W.isFn K (.ref f)=true
 kp:W.keepIn K (.ref C)=true
def ZD{l:QAC}{σ:St}{H:Hp}{s:Y5}{Q:VK}{us:QAE}{vs:QA0}(M:Mk X.K C f)(F:bT X.prog X.w X.K X.mg X.base CX k f fd ps sp)(J:fQ (k+1) X.A)(O:Binds X.K fd ps ds)(N:Vals zV ds)
  (G:Passes CX X E) (I:Inv X l σ H s) (r:Vals vs us)
  (h:∀x i,H x=none->H i=none->i≠x->sp (.ref x::(vs++zV)) (upd (upd H i (.own x)) x (.ins C i [])) (λv H2=>v = .non/\Q (.ref x) H2) E) :
  wpAny (model X.prog X.w) X.A (call (.ref C) us) (EP X l σ Q) X.xe s:=by
 have y:=h (s.heap.objs.size+1) s.heap.objs.size (I.hok.fresh (qoU _)) (I.hok.fresh (qm5 _)) (qnf (qoi _));have j:=Inv.made (C:=C) I;have n:Vals (V.ref (s.heap.objs.size+1)::(vs++zV)) (Value.ref (s.heap.objs.size+1)::(us++ds)):=.cons rfl (r.append N);have L:(Value.ref (s.heap.objs.size+1)::us++ds).length=ps.length:=by
  have e:=n.length;rw[F.len _ _ _ _ y] at e;exact e.symm
 refine qpb (Zv (f:=f) I.pA M.makes M.init (qpj.mp M.fn) (qor (F.run _ X.stack _ _ #[Value.ref (s.heap.objs.size+1)::us,[]] (Value.ref (s.heap.objs.size+1)::(us++ds)) _ _ E (J.make C us [])
  (j.env0.make C us []) (O _ (Value.ref (s.heap.objs.size+1)::us) j.pA L) n y) λr z c=>?_))
 cases r with
 |error e=>exact G l σ _ _ e z j c
 |ok T=>
  cases T with
  |ret u=>
   obtain⟨v,H',Y,B,U,D⟩:=j.after c;subst U;exact#[B,#[V.ref (s.heap.objs.size+1),H',Y,rfl,D]]
  |next=>exact False.elim c
  |brk=>exact False.elim c
  |cont=>exact False.elim c
def qcx(M:Mk X.K C f)(F:bT X.prog X.w X.K X.mg X.base CX k f fd ps sp)(y:fQ (k+1) X.A)(B:Gl X x)(z:X.mg x=some (.ref C))(J:Binds X.K fd ps ds)(G:Vals zV ds)(v:Passes CX X E)
  (L:PA X (e::es) t) (i:(x == ("__debug__" : Str))=false:=by decide) (D:starEach (e::es) X.env=(false,eval e X.env)::starEach es X.env:=by rfl) (c:(backTo pos (starEach es X.env)).any (·.1)=false:=by rfl) :
  PE X (.Call (.Name x p) (e::es) [] pos) (Zz C sp zV E t):=by
 intro u s l H Q I h;refine qom (mW I B z ?_ i);refine W.callWith_K (h₀:=X.base) I.ok.mod.Nt M.kp (cG (L pos u s l H _ I h) λO T n=>?_) D c;obtain⟨N,U,j,r,q⟩:=n;refine#[j.pA,?_];exact ZD M F y J G v j r q
end
structure aW(N P:QAH)(sc:Scope):Prop where
 kind:sc.kind = .function
 co:sc.isCoroutine=false
 gen:sc.isGenerator=false
 nd:N.Nodup
 pre:N.take P.length=P
 par:∀x∈P,sc.names.lookup x=some .local\/sc.names.lookup x=some .cell
 qfd:∀y∈sc.names,y.2≠.free
theorem HW{kindOf:Str->Option NameKind}{x:Str}:∀{binds:List (Str×Value)}{m:Y4},(∀v,(x,v)∉binds)->bindL kindOf binds m x=m x
 |[],_,_=>rfl
 |(n,v)::r,m,h=>by
  unfold bindL;rw[HW λw hw=>h w (qm_ _ hw)];split
  ·have:x≠n:=by rintro rfl;exact h v qng
   simp[this]
  ·rfl
theorem HY{kindOf:Str->Option NameKind}{x:Str}:∀{binds:List (Str×Value)}{m:Y4},(∀v,(x,v)∉binds)->bindC kindOf binds m x=m x
 |[],_,_=>rfl
 |(n,v)::r,m,h=>by
  unfold bindC;rw[HY λw hw=>h w (qm_ _ hw)];split
  ·rfl
  ·have:x≠n:=by rintro rfl;exact h v qng
   simp[this]
theorem H_{kindOf:Str->Option NameKind}{x:Str}{v:eH}:∀{P:QAH}{vs:QAE}{i:Nat}{m:Y4},P.Nodup->P[i]? = some x->vs[i]? = some v->kindOf x=some .local->
  bindL kindOf (P.zip vs) m x=some v
 |[],_,_,_,_,h,_,_=>by simp at h
 |_::_,[],_,_,_,_,h,_=>by simp at h
 |p::P,w::vs,0,m,f,e,c,j=>by
  simp at e c;subst e;subst c;show bindL kindOf ((p,w)::P.zip vs) m p=_;unfold bindL;rw[HW λv l=>(qnY.mp f).1 (List.of_mem_zip l).1,if_pos j];simp
 |p::P,w::vs,i+1,m,f,e,c,j=>by
  show bindL kindOf ((p,w)::P.zip vs) m x=_;unfold bindL;exact H_ (i:=i) (qnY.mp f).2 (by simpa using e) (by simpa using c) j
theorem Ia{kindOf:Str->Option NameKind}{x:Str}{v:eH}:∀{P:QAH}{vs:QAE}{i:Nat}{m:Y4},P.Nodup->P[i]? = some x->vs[i]? = some v->kindOf x≠some .local->
  bindC kindOf (P.zip vs) m x=some v
 |[],_,_,_,_,h,_,_=>by simp at h
 |_::_,[],_,_,_,_,h,_=>by simp at h
 |p::P,w::vs,0,m,f,e,c,j=>by
  simp at e c;subst e;subst c;show bindC kindOf ((p,w)::P.zip vs) m p=_;unfold bindC;rw[HY λv l=>(qnY.mp f).1 (List.of_mem_zip l).1,if_neg j];simp
 |p::P,w::vs,i+1,m,f,e,c,j=>by
  show bindC kindOf ((p,w)::P.zip vs) m x=_;unfold bindC;exact Ia (i:=i) (qnY.mp f).2 (by simpa using e) (by simpa using c) j
def start(N:QAH)(vs:QA0):St:=vs.map some++List.replicate (N.length - vs.length) none
def aq(CX:Zw)(P:qd)(w:lW)(K:YZ)(mg:Y4)(base:oY)(N:QAH)(h:Str)(c:Scope)(f:J9)(j:eH)(A:lY)(outer:List Env)(s:Y5)(H:Hp)(E:XK):Cx where
 prog:=P
 w:=w
 K:=K
 mg:=mg
 base:=base
 A:=A.deeper (envOfC h c s.heap.objs.size f j)
 N:=N
 s₀:=s
 H₀:=H
 env:=envOfC h c s.heap.objs.size f j
 outer:=outer
 stack:=envOfC h c s.heap.objs.size f j::outer
 ex:=[]
 calm:=true
 fn:=λ_=>true
 pn:=[]
 xe:=λe l=>wpAny (model P w) (A.deeper (envOfC h c s.heap.objs.size f j)) (leaving (envOfC h c s.heap.objs.size f j) e) (λ_ i=>CX outer H s E e i) (λm i=>CX outer H s E m i) l
def NZ{e:Scope}{n:Nat}{x:Str}(h:e.names.lookup x=some .cell):∃c,(cellsFrom n e.names []).lookup x=some c:=by
 have q:=W.cellsFrom_some e.names n [] (.inl h);exact qoT.mp q
def z6{CX:Zw}{P:qd}{w:lW}{K:YZ}{mg:Y4}{base:oY}{N ps:QAH}{m:Str}{j:Scope}{f:J9}{M:eH}{A:lY}{l:List Env}{s O:Y5}{H:Hp}{E:XK}{us:QAE}{vs:QA0}
  (S:aW N ps j) (hd:A.handled=none) (B:Ck P w K mg base A l s H) (hl:vs.length=ps.length) (r:Vals vs us)
  (x:InCallC s s.heap.objs.size (bindL (envOfC m j s.heap.objs.size f M).kindOf (ps.zip us) λ_=>none) (cellsFrom (s.heap.objs.size+1) j.names []) (bindC (envOfC m j s.heap.objs.size f M).kindOf (ps.zip us) λ_=>none) O) :
  Inv (aq CX P w K mg base N m j f M A l s H E) [] (start N vs) H O:=by
 have Y:ps.length<=N.length:=by have:=qnH List.length S.pre;rw[qni] at this;lia
 obtain⟨L,tk,rfl,T⟩:=x.done;have C:∀b:Addr,b∉(aq CX P w K mg base N m j f M A l s H E).ex:=λb z=>absurd (show b∈([]:List Addr) from z) (by simp);refine#[#[B.mod,S.kind,rfl,rfl,qm5 _,λy z c L o=>?_,λy D=>?_,λy c _ h=>?_,λ_=>hd,Around.frames_deeper B.frames,.inr #[rfl,rfl],λb z=>absurd z (C b),B.bs,B.UG,λb _ _=>C b,λb z=>absurd z (C b),B.um,B.YW],
  rfl,B.bare,Un.kept T,#[_,x.toInCall.ns,λi y v L o h3=>?_],λy c h=>#[_,x.cell y c h],B.hok.fresh (qm5 _),λy c h=>?_,λp I=>absurd (show p∈([]:QAC) from I) (by simp),B.hok.kept T,?_]
 ·exact name_of_addr x.apart (qnW L) (qnW o)
 ·have D:j.names.lookup y=some .cell\/j.names.lookup y=some .free:=D
  rcases D with D|D
  ·exact NZ D
  ·exact absurd rfl (S.qfd _ (qnW D))
 ·exact qoK (x.above y c (qnW h))
 ·have J:i<vs.length:=by
   unfold start at o
   by_cases J:i<vs.length
   ·exact J
   ·rw[qnz (by simpa using J)] at o;rw[List.getElem?_replicate] at o;split at o <;> cases o
  have ha:vs[i]? = some v:=by
   unfold start at o;rw[qny (by simpa using J),qnr] at o;cases e:vs[i]? with
   |none=>rw[e] at o;cases o
   |some a=>rw[e] at o;cases o;rfl
  obtain⟨u,Q,U⟩:=r.get ha;have I:ps[i]? = some y:=by
   rw[<- S.pre,List.getElem?_take_of_lt ⋯];exact L
  have G:ps.Nodup:=by rw[<- S.pre];exact S.nd.sublist (List.take_sublist _ _)
  refine#[u,U,?_]
  rcases S.par y (qm6 I) with k|k
  ·exact .inl #[k,H_ G I Q k]
  ·obtain⟨c,e⟩:=NZ (n:=s.heap.objs.size+1) k;refine .inr #[.inl k,c,e,?_];have q:=x.cell y c e;rw[Ia G I Q (by show j.names.lookup y≠_;rw[k];decide)] at q;exact q
 ·exact B.hok.fresh (qoK (x.above y c (qnW h)))
 ·unfold start;show _=N.length;rw[qnT,qm7,List.length_replicate];lia
def ZF{CX:Zw}{P:qd}{w:lW}{K:YZ}{mg:Y4}{base:oY}{k:Nat}{f:J9}{name i:Str}{l:Arguments}{m:List Stmt}{c:Scope}{dV kV O pm j ct oc:eH}{an od:dR}
  {Y:Array (QAG)}{N ps:QAH}{sp:Sp} (lk:K.lookup f=some #[oc,od,.func (W.fnOf name i l m c dV kV O pm an j ct),Y]) (aa:W.codeIn K j i=true) (S:aW N ps c)
  (len:∀vs H Q E,sp vs H Q E->vs.length=ps.length)
  (C:∀(A:lY)(h:List Env)(s:Y5)(H:Hp)(vs:QA0)(Q:VK)(E:XK),fQ k (A.deeper (envOfC i c s.heap.objs.size f j))->sp vs H Q E->
   ∃t,GZ (aq CX P w K mg base N i c f j A h s H E) m t/\t {nx:=λ_ z=>Q .non z,rt:=Q} (start N vs) H) :
  bT P w K mg base CX (k+1) f (W.fnOf name i l m c dV kV O pm an j ct) ps sp:=by
 refine#[len,λA h s H ab us vs Q E hr M hb r G=>?_];have hl:=len _ _ _ _ G;have KX:K.In s.heap:=M.mod.Nt.keeps λb o e=>(M.bs b o e).1;have a0:s.heap.NoLimit:=M.mod.nolimit.keeps λb o e=>(M.bs b o e).1;have B:∀y∈ps.zip us,c.names.lookup y.1=some .local\/(c.names.lookup y.1=some .cell/\((cellsFrom (s.heap.objs.size+1) c.names []).lookup y.1).isSome=true):=λ⟨n,v⟩ hy=>by
  rcases S.par n (List.of_mem_zip hy).1 with q|q
  ·exact .inl q
  ·exact .inr #[q,W.cellsFrom_some _ _ _ (.inl q)]
 refine codeAny_call_function hr.depth (KX _ _ lk) rfl S.co S.gen rfl (W.codeRec_of KX aa) (hb _ _ _ _ ?_);refine wpAny_newFunctionEnv_cells S.kind B λac he s1 x=>?_;subst he;refine#[a0.keeps x.toInCall.keep,codeAny_func ?_];obtain⟨t,ht,hq⟩:=C A h s H vs Q E (hr.deeper _) G;have I:Inv (aq CX P w K mg base N i c f j A h s H E) [] (start N vs) H s1:=z6 S hr.hd M hl r x;refine qn8 (ht [] s1 (start N vs) H _ I hq) (λfl T D=>?_) λe T D=>D;have L:∀{p:St}{z:Hp}{v:V}{u:eH},Inv (aq CX P w K mg base N i c f j A h s H E) [] p z T->RelV v u->Q v z->CE h P w H s Q u T:=
  λ{p z v u} J U q=>#[v,z,J.os,J.bare,J.base,J.hok,U,q]
 cases fl with
 |ret u=>
  obtain⟨v,p,z,J,U,q⟩:=D;exact L J U q
 |next=>
  obtain⟨p,z,J,q⟩:=D;exact L (v:=V.non) (u:=Value.none) J rfl q
 |brk=>
  obtain⟨_,_,_,q⟩:=D;exact False.elim q
 |cont=>
  obtain⟨_,_,_,q⟩:=D;exact False.elim q
section
variable {X:Cx}{x:Str}{p pos:Pos}{e:rz}{es:wZ}{t:TA}{id T:String}{r:QA3}
def tCB(r:QA3)(t:TA):TE:=λc H Q=>t c H λf h=>r f h Q
def aH(C:cJ X (.builtin id) r)(A:Gl X x)(z:X.mg x=none)(w:bootBuiltins x=some (.builtin id))(D:PA X (e::es) t) (y:x≠ "__name__" :=by decide) (f:(x == ("__debug__" : Str))=false:=by decide)
  (B:starEach (e::es) X.env=(false,eval e X.env)::starEach es X.env:=by rfl) (c:(backTo pos (starEach es X.env)).any (·.1)=false:=by rfl):PE X (.Call (.Name x p) (e::es) [] pos) (tCB r t):=by
 intro j s i H Q I h;refine qom (mz I A z w ?_ y f);refine PyProof.Rows.callWith_builtin1 (cG (D pos j s i H _ I h) λn o l=>?_) B c;obtain⟨m,G,E,u,v⟩:=l;exact C j o i G m n Q E u v
def dI(C:cJ X (.type T) r)(A:Gl X x)(z:X.mg x=none)(w:bootBuiltins x=some (.type T))(D:PA X (e::es) t) (y:x≠ "__name__" :=by decide) (f:(x == ("__debug__" : Str))=false:=by decide)
  (B:starEach (e::es) X.env=(false,eval e X.env)::starEach es X.env:=by rfl) (c:(backTo pos (starEach es X.env)).any (·.1)=false:=by rfl):PE X (.Call (.Name x p) (e::es) [] pos) (tCB r t):=by
 intro j s i H Q I h;refine qom (mz I A z w ?_ y f);refine qnX (cG (D pos j s i H _ I h) λn o l=>?_) B c;obtain⟨m,G,E,u,v⟩:=l;exact C j o i G m n Q E u v
end
end L2
namespace HT
open PySem PyProof.Rows
section
variable {prog:qd}{w:lW}{A:lY}{E:QAB}{s:Y5}
def Ds(n d:Nat):Option Int->Nat
 |none=>d
 |some v=>if v<0 then (v+(n:Int)).toNat else min v.toNat n
end
end HT
namespace L2
open PySem PySem.Spec PyProof.Rows
abbrev TO:=St->Hp->(Option Int->Hp->Prop)->Prop
def PO(X:Cx)(e:Option Expr)(t:TO):Prop:=
 ∀(f:QAC)(s:Y5)(c:St)(H:Hp)(Q:Option Int->Hp->Prop),Inv X f c H s->t c H Q->
  wpAny (model X.prog X.w) X.A (evalPart e X.env) (λu i=>∃o h,Inv X f c h i/\IsPart u o/\Q o h) X.xe s
def Va:TO:=λ_ H Q=>Q none H
def ZG(t:TE):TO:=λc H Q=>t c H λx e=>∃i,x = .int i/\Q (some i) e
section
variable {X:Cx}{e:rz}{te:TE}{lo hi:Option Expr}{tl th:TO}{pos p2:Pos}
def qcy:PO X none Va:=by
 intro f s c H Q I h;rw[evalPart_none];exact qm8 #[none,H,I,.none,h]
def JX(h:PE X e te):PO X (some e) (ZG te):=by
 intro m s c H Q I hw;rw[evalPart_some];refine cG (h m s c H _ I hw) λu p f=>?_;obtain⟨x,o,n,j,l⟩:=f;obtain⟨i,rfl,q⟩:=l;obtain⟨t,rfl⟩:=j;exact#[some i,o,n,.int i t,q]
def SlR(X:Cx)(r:V->Option Int->Option Int->Hp->VK->Prop):Prop:=
 ∀(j:QAC)(s:Y5)(c:St)(H:Hp)(x:V)(v h f:eH)(lo hi:Option Int)(i:J9)(Q:VK),Inv X j c H s->RelV x v->s.heap.IsSliceOf i h f .none->IsPart h lo->IsPart f hi->r x lo hi H Q->
  ∃T id,typeLookup (.type T) "__getitem__" = pure (some (.builtin id))/\s.TypeIs v T/\wpAny (model X.prog X.w) X.A (getItem v (.ref i)) (EP X j c Q) X.xe s
def tSl(r:V->Option Int->Option Int->Hp->VK->Prop)(te:TE)(tl th:TO):TE:=λc H Q=>te c H λx i=>tl c i λl h=>th c h λu f=>r x l u f Q
def N5{r:V->Option Int->Option Int->Hp->VK->Prop}(M:SlR X r)(U:PE X e te)(N:PO X lo tl)(J:PO X hi th):PE X (.Subscript e (.Slice lo hi none p2) pos) (tSl r te tl th):=by
 intro i s f H Q I h;refine Subscript_ (cG (U i s f H _ I h) λv y o=>?_);obtain⟨x,H1,I1,z,D⟩:=o;refine wpAny_Slice (cG (N i y f H1 _ I1 D) λm p ⟨l,H2,I2,G,C⟩=>cG (J i p f H2 _ I2 C) λj c ⟨u,n,I3,E,B⟩=>?_);rw[evalPart_none];refine qm8 ?_;have I4:Inv X i f n {c with heap:=c.heap.push {cls:=.type "slice",data:=.fields [m,j,.none].toArray}}:=I3.kept (t':=c.toks) λb ob q=>qm4 _ q;obtain⟨T,id,Y,L,O⟩:=M i {c with heap:=c.heap.push {cls:=.type "slice",data:=.fields [m,j,.none].toArray}} f n x v m j l u c.heap.objs.size Q I4 z (Heap.IsSliceOf.new ..) G E B;show wpAny (model X.prog X.w) X.A (subscriptTail e (.Slice lo hi none p2) v (.ref c.heap.objs.size)) (EP X i f Q) X.xe {c with heap:=c.heap.push {cls:=.type "slice",data:=.fields [m,j,.none].toArray}};exact tail_any (ops:=[.ref c.heap.objs.size,v]) L Y O (by with_unfolding_all rfl)
def wC(xs:QA0)(lo hi:Option Int):List V:=(xs.drop (HT.Ds xs.length 0 lo)).take (HT.Ds xs.length xs.length hi - HT.Ds xs.length 0 lo)
def N6(xs:QA0)(lo hi:Option Int):(wC xs lo hi).length<=xs.length:=by
 unfold wC;rw[qni,List.length_drop];lia
end
def ZJ(n:Nat)(i:Int):Option Nat:=if 0<=i then (if i<n then some i.toNat else none) else if -(n:Int)<=i then some (i+n).toNat else none
def Cm{c:Type}(xs:List c)(i:Int):Option c:=(ZJ xs.length i).bind λj=>xs[j]?
def Vb{n:Nat}{i:Int}{j:Nat}(h:ZJ n i=some j):seqIndex? i n=some j/\j<n/\-(n:Int)<=i/\i<n:=by
 unfold ZJ at h
 by_cases f:0<=i
 ·rw[if_pos f] at h
  by_cases c:i<n
  ·rw[if_pos c] at h;have e:i.toNat=j:=qnB h;exact#[by rw[seqIndex_of f c,e],⋯,⋯,c]
  ·rw[if_neg c] at h;cases h
 ·rw[if_neg f] at h
  by_cases c : -(n:Int)<=i
  ·rw[if_pos c] at h;have e:(i+n).toNat=j:=qnB h;exact#[by rw[seqIndex_neg ⋯ c,e],⋯,c,⋯]
  ·rw[if_neg c] at h;cases h
def JZ{c:Type}{xs:List c}{i:Int}{v:c}(h:Cm xs i=some v):∃j,seqIndex? i xs.length=some j/\xs[j]? = some v/\j<xs.length/\-(xs.length:Int)<=i/\i<xs.length:=by
 unfold Cm at h;cases e:ZJ xs.length i with
 |none=>rw[e] at h;cases h
 |some j=>
  rw[e] at h;obtain⟨n,m,l,f⟩:=Vb e;exact#[j,n,h,m,l,f]
def aO{c:Type}{xs:List c}{j:Nat}{v:c}(h:xs[j]? = some v):Cm xs (j:Int)=some v:=by
 have f:j<xs.length:=(qm2.mp h).1;have e:ZJ xs.length (j:Int)=some j:=by
  unfold ZJ;rw[if_pos ⋯,if_pos ⋯];simp
 unfold Cm;rw[e];exact h
def qcz(b:rz):Prop:=∀o i,subscripted b false o i=operate [o,i] (getItem o i)
def ZK(X:Cx)(r:R2):Prop:=
 ∀(e c:rz)(h:QAC)(s:Y5)(f:St)(H:Hp)(x y:V)(v u:eH)(Q:VK),Inv X h f H s->RelV x v->RelV y u->r x y H Q->
  subscripted c false v u=operate [v,u] (getItem v u)->wpAny (model X.prog X.w) X.A (subscriptTail e c v u) (EP X h f Q) X.xe s
def N7(X:Cx)(id:String)(r:QA2):Prop:=
 ∀(h:QAC)(s:Y5)(c:St)(H:Hp)(x:V)(e:QA0)(v:eH)(f:QAE)(Q:VK),Inv X h c H s->RelV x v->Vals e f->r x e H Q->
  wpAny (model X.prog X.w) X.A (call (.builtin id) (v::f)) (EP X h c Q) X.xe s
section
variable {X:Cx}{a b:rz}{ta tb:TE}{pos:Pos}
def bC{r:R2}(m:ZK X r)(o:PE X a ta)(n:PE X b tb)(l:qcz b):PE X (.Subscript a b pos) (tOp r ta tb):=by
 intro j s c H Q I h;exact Subscript_ (qe2 o n I h λv u e x y w p i f q=>m a b j e c w x y v u Q p i f q (l _ _))
def qkI(K:YZ):R2:=λx y H Q=>∃p c i v,x = .ref p/\y = .int i/\aV K H p c/\Cm c i=some v/\Q v H
def qkJ(K:YZ):R2:=λx y H Q=>∃p c i v,x = .ref p/\y = .int i/\cO K H p c/\Cm c i=some v/\Q v H
def qhh:R2:=λx y H Q=>∃z i c,x = .str z/\y = .int i/\z.length<=sizeLine/\Cm z.cps.toList i=some c/\Q (.str #[[c].toArray]) H
def qcA:ZK X (qkI X.K):=by
 intro f l B s A H x y v u Q I L J h C;obtain⟨p,xs,i,z,rfl,rfl,M,O,q⟩:=h;cases L;obtain⟨t,rfl⟩:=J;obtain⟨n,r,m,hz⟩:=I.list M;obtain⟨j,e,Y,h3,U,T⟩:=JZ O;obtain⟨w,E,ZL⟩:=r.get Y;have N:=r.length;have hn:=xr;have c:EP X B A Q w s:=#[z,H,I,ZL,q]
 by_cases D:0<=i
 ·have o:i.toNat=j:=by
   rw[seqIndex_of D T] at e;exact qnB e
  exact item_listR m.isList D ⋯ (by rw[o];simpa using E) c C
 ·have o:(i+(n.toArray.size:Int)).toNat=j:=by
   rw[seqIndex_neg ⋯ U] at e;rw[qnm,<- N];exact qnB e
  exact subscriptTail_builtinR (x:=w) m.isList.typeIs slot_list_getitem.lookup
   (wpAny_getItem_list_neg (Q:=λr G=>r=w/\EP X B A Q r G) m.isList ∅ (by rw[qnm] <;> lia) ⋯ (by rw[o];simpa using E) #[rfl,c]) C
def qfe:ZK X (qkJ X.K):=by
 intro c e n s l H x y v u Q I B A h D;obtain⟨p,T,i,z,rfl,rfl,E,J,q⟩:=h;cases B;obtain⟨t,rfl⟩:=A;obtain⟨C,r,m,U⟩:=I.tuple E;obtain⟨j,M,L,h3,h4,h5⟩:=JZ J;obtain⟨w,N,O⟩:=r.get L;have G:=r.length;have Y:=xr;have f:EP X n l Q w s:=#[z,H,I,O,q];exact subscriptTail_builtinR (x:=w) m.typeIs slot_tuple_getitem.lookup
  (getItem_tuple (j:=j) (Q:=λr o=>r=w/\EP X n l Q r o) m ⋯ ⋯ (by rw[qnm,<- G];exact M) (by simpa using N) #[rfl,f]) D
def qff:ZK X qhh:=by
 intro e f J s E H x y v u Q I n m h o;obtain⟨z,i,c,rfl,rfl,L,r,q⟩:=h;obtain⟨t,rfl⟩:=n;obtain⟨G,rfl⟩:=m;obtain⟨j,l,B,N,A,w⟩:=JZ r;have p:z.cps.toList.length=z.length:=by simp[Str.length]
 rw[p] at l A w;have M:=xr;exact tail_any (typeIs_str s z t) slot_str_getitem.lookup (getItem_str (c:=c) (by
  have D:decide (i < -(2 ^ 63:Int))=false:=qnM ⋯;have C:decide (i≥2 ^ 63)=false:=qnM ⋯;rw[D,C,Bool.or_false]) (by rw[l];simpa using B) #[.str #[[c].toArray],H,I.tok _,#[_,rfl],q]) o
def Rw(its:QAE)(n j:Nat)(u:eH):Obj.mapSeq (·.setIfInBounds j u) {cls:=.type "list",data:=.seq its.toArray n}={cls:=.type "list",data:=.seq (its.set j u).toArray n}:=by
 simp[Obj.mapSeq]
theorem Inv.lst{c:QAC}{σ:St}{H:Hp}{s:Y5}{p:J9}{xs:QA0}(I:Inv X c σ H s)(h:H p=some (.lst xs)) :
  ∃(its:QAE)(n:Nat),Vals xs its/\s.heap.get? p=some {cls:=.type "list",data:=.seq its.toArray n}/\xs.length<=sizeLine:=by
 obtain⟨z,its,n,r,e⟩:=I.hok p _ h;exact#[its,n,r,e,z]
def Inv.qfg{i:QAC}{σ:St}{H:Hp}{s:Y5}{p:J9}{xs ys:QA0}{its its':QAE}{n c:Nat}{f:Obj->Obj}(I:Inv X i σ H s)(h:H p=some (.lst xs))
  (m:s.heap.get? p=some {cls:=.type "list",data:=.seq its.toArray n}) (j:f {cls:=.type "list",data:=.seq its.toArray n}={cls:=.type "list",data:=.seq its'.toArray c}) (r:Vals ys its') (l:ys.length<=sizeLine) (t:Nat) :
  Inv X i σ (upd H p (.lst ys)) {s with heap:=s.heap.update p f,toks:=t}:=by
 have e:(s.heap.update p f).get? p=some {cls:=.type "list",data:=.seq its'.toArray c}:=by
  rw[qoB f m (by rw[j] <;> rfl),j]
 refine I.write (x:=p) (e:=p) (by rw[h];trivial) (.inl rfl) (λb u o q=>(qov _ _ (qoE o)).trans q) #[_,e] ?_;exact#[l,its',c,r,e]
def qd1:V->V->V->Hp->(Hp->Prop)->Prop:=λo i v H Q=>∃p c k j,o = .ref p/\i = .int k/\H p=some (.lst c)/\ZJ c.length k=some j/\Q (upd H p (.lst (c.set j v)))
def set_list:Wn X qd1:=by
 intro J s B H o i v N O u Q I E G D h;obtain⟨p,C,k,j,rfl,rfl,w,M,q⟩:=h;cases E;obtain⟨t,rfl⟩:=G;obtain⟨c,n,r,f,L⟩:=I.lst w;obtain⟨e,U,y,x⟩:=Vb M;have l:=r.length;have T:=xr;have A:Inv X J B (upd H p (.lst (C.set j v))) {s with heap:=s.heap.update p (Obj.mapSeq (·.setIfInBounds j u))}:=
  I.qfg w f (Rw c n j u) (r.set D j) (by rw[List.length_set];exact L) s.toks
 by_cases z:0<=k
 ·have m:k.toNat=j:=by
   rw[seqIndex_of z x] at e;exact qnB e
  exact W.ki_setAt f z ⋯ (by rw[qnm,<- l];exact x) (by rw[m];exact#[_,A,q])
 ·have m:(k+(c.toArray.size:Int)).toNat=j:=by
   rw[seqIndex_neg ⋯ y] at e;rw[qnm,<- l];exact qnB e
  exact W.ki_setBack f ∅ (by rw[qnm,<- l];exact y) ⋯ (by rw[m];exact#[_,A,q])
def J0(lo c:Option Int)(n:Nat):(sliceBounds lo c none n).1=((HT.Ds n 0 lo:Nat):Int)/\(sliceBounds lo c none n).2.1=((HT.Ds n n c:Nat):Int)/\(sliceBounds lo c none n).2.2=1:=by
 refine#[?_,?_,rfl]
 ·cases lo with
  |none=>simp[sliceBounds,HT.Ds]
  |some i=>
   simp only[sliceBounds,HT.Ds,Option.getD_none,show(1:Int) > 0 by decide,if_true]
   by_cases h:i<0
   ·simp only[h,if_true] <;> lia
   ·simp only[h,qpE] <;> lia
 ·cases c with
  |none=>simp[sliceBounds,HT.Ds]
  |some i=>
   simp only[sliceBounds,HT.Ds,Option.getD_none,show(1:Int) > 0 by decide,if_true]
   by_cases h:i<0
   ·simp only[h,if_true] <;> omega
   ·simp only[h,qpE] <;> omega
def G6(its:QAE)(lo c:Option Int):slicePick its.toArray lo c none=((its.drop (HT.Ds its.length 0 lo)).take (HT.Ds its.length its.length c - HT.Ds its.length 0 lo)).toArray:=by
 obtain⟨h,f,e⟩:=J0 lo c its.toArray.size;unfold slicePick;rw[h,f,e];simp only[sliceRange_one,pick_run,qnm] <;> rfl
def qcB(K:YZ):V->Option Int->Option Int->Hp->VK->Prop:=λx lo e H Q=>∃a c,x = .ref a/\aV K H a c/\∀p,H p=none->Q (.ref p) (upd H p (.lst (wC c lo e)))
def qcC:SlR X (qcB X.K):=by
 intro C s y H x v A z lo f B Q I j w m l h;obtain⟨a,c,rfl,u,q⟩:=h;cases j;obtain⟨n,r,i,p⟩:=I.list u;have e:=r.length;refine#["list",_,slot_list_getitem.lookup,i.isList.typeIs,?_];refine wpAny_getItem_list_slice i.isList w m l .none (by simp) ?_ (by rw[qnm] <;> lia);rw[G6,<- e];refine#[.ref s.heap.objs.size,_,I.laid (t':=s.toks) (o:=.lst (wC c lo f)) (λb D q=>qm4 _ q) (qm5 _) ?_,rfl,q _ (I.hok.fresh (qm5 _))];exact#[qnp (N6 c lo f) p,_,0,(r.drop (HT.Ds c.length 0 lo)).take (HT.Ds c.length c.length f - HT.Ds c.length 0 lo),qne _ rfl]
def jx:V->Bool
 |.non=>true
 |.bl _=>true
 |.int _=>true
 |.str _=>true
 |_=>false
def Wz:V->V->Bool
 |.non,.non=>true
 |.bl a,.bl b=>a == b
 |.bl a,.int b=>(if a then 1 else 0) == b
 |.int a,.bl b=>a == (if b then 1 else 0)
 |.int a,.int b=>a == b
 |.str a,.str b=>a == b
 |_,_=>false
def qfh{A:lY}{s:Y5}{y x:V}{u v:eH}(f:RelV y u)(c:RelV x v)(h:jx y=true)(fx:jx x=true):SeqAt.EqAt A s u v (Wz y x):=by
 cases y with
 |non=>
  cases f;cases x with
  |non=>cases c;exact SeqAt.EqAt.same _
  |bl b=>cases c;exact SeqAt.EqAt.none_bool b
  |int b=>obtain⟨t,rfl⟩:=c;exact SeqAt.EqAt.none_int b t
  |str b=>obtain⟨t,rfl⟩:=c;exact SeqAt.EqAt.none_str b t
  |_=>exact absurd (show false=true from fx) qnq
 |bl a=>
  cases f;cases x with
  |non=>cases c;exact SeqAt.EqAt.bool_none a
  |bl b=>cases c;exact SeqAt.EqAt.bool_bool a b
  |int b=>obtain⟨t,rfl⟩:=c;exact SeqAt.EqAt.bool_int a b t
  |str b=>obtain⟨t,rfl⟩:=c;exact SeqAt.EqAt.bool_str a b t
  |_=>exact absurd (show false=true from fx) qnq
 |int a=>
  obtain⟨e,rfl⟩:=f;cases x with
  |non=>cases c;exact SeqAt.EqAt.int_none a e
  |bl b=>cases c;exact SeqAt.EqAt.int_bool a e b
  |int b=>obtain⟨t,rfl⟩:=c;exact SeqAt.EqAt.int_int a e b t
  |str b=>obtain⟨t,rfl⟩:=c;exact SeqAt.EqAt.int_str a e b t
  |_=>exact absurd (show false=true from fx) qnq
 |str a=>
  obtain⟨e,rfl⟩:=f;cases x with
  |non=>cases c;exact SeqAt.EqAt.str_none a e
  |bl b=>cases c;exact SeqAt.EqAt.str_bool a e b
  |int b=>obtain⟨t,rfl⟩:=c;exact SeqAt.EqAt.str_int a e b t
  |str b=>obtain⟨t,rfl⟩:=c;exact SeqAt.EqAt.str_str a e b t
  |_=>exact absurd (show false=true from fx) qnq
 |_=>exact absurd (show false=true from h) qnq
def Rx(x:V)(u:eH):Bool:=match u with
 |.none=>Wz .non x
 |.bool b=>Wz (.bl b) x
 |.int i _=>Wz (.int i) x
 |.str z _=>Wz (.str z) x
 |_=>false
def ZM{x y:V}{u:eH}(r:RelV y u)(f:jx y=true):Rx x u=Wz y x:=by
 cases y with
 |non=>cases r;rfl
 |bl b=>cases r;rfl
 |int i=>obtain⟨t,rfl⟩:=r;rfl
 |str z=>obtain⟨t,rfl⟩:=r;rfl
 |_=>exact absurd (show false=true from f) qnq
theorem yr{x:V}:∀{xs:QA0}{us:QAE},Vals xs us->xs.all jx=true->us.any (Rx x)=xs.any λy=>Wz y x
 |_,_,.nil,_=>rfl
 |y::xs,u::us,.cons r t,f=>by
  rw[List.all_cons,qnK] at f;rw[qpk,qpk,ZM r f.1,yr t f.2]
theorem uz{A:lY}{s:Y5}{x:V}{v:eH}(e:RelV x v)(fx:jx x=true):∀{xs:QA0}{us:QAE},Vals xs us->xs.all jx=true->∀u∈us,SeqAt.EqAt A s u v (Rx x u)
 |_,_,.nil,_=>λu c=>by cases c
 |y::xs,u::us,.cons r t,f=>λh c=>by
  rw[List.all_cons,qnK] at f
  rcases qnc.mp c with rfl|c
  ·rw[ZM r f.1];exact qfh r e f.1 fx
  ·exact uz e fx t f.2 h c
def inV(x:V)(xs:QA0):Bool:=xs.any λy=>Wz y x
def rIn(K:YZ)(neg:Bool):R2:=λx y H Q=>∃p c,y = .ref p/\(aV K H p c\/cO K H p c)/\jx x=true/\c.all jx=true/\Q (.bl (if neg then !inV x c else inV x c)) H
def WD:iD X (compareOp .In) (rIn X.K false):=by
 intro z s n H x y v u Q I i l h;obtain⟨p,o,rfl,e,j,fs,q⟩:=h;cases l
 rcases e with e|e
 ·obtain⟨c,r,f,m⟩:=I.list e;refine SeqAt.in_listAt (Rx x) f.isList (λw hw=>uz i j r fs w (by simpa using hw)) #[.bl _,H,I,rfl,?_];rw[show c.toArray.any (Rx x)=c.any (Rx x) by simp,yr r fs];exact q
 ·obtain⟨c,r,f,m⟩:=I.tuple e;refine SeqAt.in_tupleAt (Rx x) f (λw hw=>uz i j r fs w (by simpa using hw)) #[.bl _,H,I,rfl,?_];rw[show c.toArray.any (Rx x)=c.any (Rx x) by simp,yr r fs];exact q
def J3:iD X (compareOp .NotIn) (rIn X.K true):=by
 intro z s n H x y v u Q I i l h;obtain⟨p,o,rfl,e,j,fs,q⟩:=h;cases l
 rcases e with e|e
 ·obtain⟨c,r,f,m⟩:=I.list e;refine SeqAt.notIn_listAt (Rx x) f.isList (λw hw=>uz i j r fs w (by simpa using hw)) #[.bl _,H,I,rfl,?_];rw[show c.toArray.any (Rx x)=c.any (Rx x) by simp,yr r fs];exact q
 ·obtain⟨c,r,f,m⟩:=I.tuple e;refine SeqAt.notIn_tupleAt (Rx x) f (λw hw=>uz i j r fs w (by simpa using hw)) #[.bl _,H,I,rfl,?_];rw[show c.toArray.any (Rx x)=c.any (Rx x) by simp,yr r fs];exact q
def J4:iD X (compareOp .NotIn) (λx y H Q=>∃i j,x = .str i/\y = .str j/\Q (.bl (!(!(Builtin.Str.occurrences j i 0 j.length 1).isEmpty))) H):=by
 intro m s f H x y v u Q I e c h;obtain⟨i,j,rfl,rfl,q⟩:=h;obtain⟨t,rfl⟩:=e;obtain⟨l,rfl⟩:=c;exact notIn_str #[.bl _,H,I,rfl,q]
def J_:cJ X (.builtin "len") (λxs H Q=>∃p ys,xs=[.ref p]/\(aV X.K H p ys\/cO X.K H p ys)/\Q (.int ys.length) H):=by
 intro v s n H xs o Q I r h;obtain⟨p,ys,rfl,e,q⟩:=h;obtain⟨u,rfl,l⟩:=vals1 r;cases l;have w:=xr
 rcases e with e|e
 ·obtain⟨j,f,i,m⟩:=I.list e;have c:=f.length;exact Calls.call_len_list i.isList (by simp only[qnm] <;> lia) #[.int ys.length,H,I.tok _,#[s.toks+1,by rw[qnm,c]],q]
 ·obtain⟨j,f,i,m⟩:=I.tuple e;have c:=f.length;exact len_tuple i (by simp only[qnm] <;> omega) #[.int ys.length,H,I.tok _,#[s.toks+1,by rw[qnm,c]],q]
def Ka:cJ X (.builtin "len") (λxs H Q=>∃z,xs=[.str z]/\z.length<=sizeLine/\Q (.int z.length) H):=by
 intro f s c H xs e Q I r h;obtain⟨z,rfl,i,q⟩:=h;obtain⟨u,rfl,t,rfl⟩:=vals1 r;have j:=xr;exact len_str ⋯ #[.int z.length,H,I.tok _,#[_,rfl],q]
def Kc:cJ X (.type "list") (λxs H Q=>∃p ys,xs=[.ref p]/\(aV X.K H p ys\/cO X.K H p ys)/\∀l,H l=none->Q (.ref l) (upd H l (.lst ys))):=by
 intro L s G H xs M Q I r h;obtain⟨p,ys,rfl,x,q⟩:=h;obtain⟨u,rfl,J⟩:=vals1 r;cases J;have z:∀(c:QAE),Vals ys c->ys.length<=sizeLine->∀(f:oY)(j:Nat),(∀b E,s.heap.get? b=some E->f.get? b=some E)->
   f.get? s.heap.objs.size=some {cls:=.type "list",dict:=none,data:=.seq c.toArray j,slots:=#[]}->EP X L G Q (.ref s.heap.objs.size) {s with heap:=f}:=λc i v f j m e=>
  #[.ref s.heap.objs.size,_,I.laid (t':=s.toks) m (qm5 _) (show cD X.prog X.w _ f _ (.lst ys) from#[v,c,j,i,e]),rfl,q _ (I.hok.fresh (qm5 _))]
 rcases x with x|x
 ·obtain⟨c,i,A,v⟩:=I.list x;have y:=i.length;obtain⟨o,B,D,n,C⟩:=A.isList;exact call_list_seq p (.inl rfl) B D C (λf j m e=>z c i v f j m e) (by simp only[qnm] <;> omega)
 ·obtain⟨c,i,A,v⟩:=I.tuple x;have y:=i.length;obtain⟨o,B,D,n,C⟩:=A;exact call_list_seq p (.inr rfl) B D C (λf j m e=>z c i v f j m e) (by simp only[qnm] <;> omega)
def G7:cJ X (.type "tuple") (λxs H Q=>∃p ys,xs=[.ref p]/\((aV X.K H p ys/\∀l,H l=none->Q (.ref l) (upd H l (.tup ys)))\/(cO X.K H p ys/\Q (.ref p) H))):=by
 intro v s n H xs D Q I r h;obtain⟨p,ys,rfl,h⟩:=h;obtain⟨u,rfl,A⟩:=vals1 r;cases A
 rcases h with⟨m,q⟩|⟨m,q⟩
 ·obtain⟨c,i,j,x⟩:=I.list m;have y:=i.length;refine call_tuple_list j.isList (λf B=>?_) (by simp only[qnm] <;> omega);have z:Inv X v n H {s with heap:=f}:=I.kept (t':=s.toks) B;have C:Inv X v n (upd H f.objs.size (.tup ys)) {s with heap:=f.push {cls:=.type "tuple",data:=.seq c.toArray}}:=
   z.laid (t':=s.toks) (λb o e=>qm4 _ e) (qm5 _) (show cD X.prog X.w _ _ _ (.tup ys) from#[x,c,i,IsTup.new _ _])
  exact#[.ref f.objs.size,_,C,rfl,q _ (z.hok.fresh (qm5 _))]
 ·obtain⟨c,i,j,x⟩:=I.tuple m;exact call_tuple_same j #[.ref p,H,I,rfl,q]
def tyV(K:YZ)(T:String)(x:V)(H:Hp):Prop:=match x with
 |.str _=>T = "str"
 |.int _=>T = "int"
 |.ref p=>(T = "list" /\∃e,aV K H p e)\/(T = "tuple" /\∃o,K.lookup p=some o/\o.cls = .type "tuple" /\o.dict=none)\/
   (T = "dict" /\((∃c,H p=some (.dK c))\/∃c,H p=some (.dT c)))\/(T = "set" /\∃S n,H p=some (.set S n))
 |_=>False
def ZP{w:QAC}{σ:St}{H:Hp}{s:Y5}{T:String}{x:V}{v:eH}(I:Inv X w σ H s)(r:RelV x v)(ty:tyV X.K T x H) :
  s.TypeIs v T/\∀a,v = .ref a->∃ob,s.heap.get? a=some ob/\ob.dict=none:=by
 cases x with
 |str z=>
  obtain⟨t,rfl⟩:=r;cases (show T = "str" from ty);exact#[typeIs_str s z t,λ_ e=>nomatch e]
 |int i=>
  obtain⟨t,rfl⟩:=r;cases (show T = "int" from ty);exact#[typeIs_int s i t,λ_ e=>nomatch e]
 |ref p=>
  cases r
  rcases ty with⟨rfl,C,A⟩|⟨rfl,o,f,B,l⟩|⟨rfl,f⟩|⟨rfl,S,n,f⟩
  ·obtain⟨y,_,u,_⟩:=I.list A;refine#[u.isList.typeIs,λa e=>?_];cases e;obtain⟨o,n,e,c,l,_⟩:=u;exact#[o,e,l]
  ·refine#[#[o,I.pA p o f,B],λa e=>?_];cases e;exact#[o,I.pA _ o f,l]
  ·have z:∃o,s.heap.get? p=some o/\o.ExactDict:=by
    rcases f with⟨j,f⟩|⟨j,f⟩
    ·obtain⟨_,_,_,_,o,_,_,e,h,_⟩:=I.hok p _ f;exact#[o,e,h]
    ·obtain⟨_,_,_,_,o,_,_,e,h,_⟩:=I.hok p _ f;exact#[o,e,h]
   obtain⟨o,e,h⟩:=z;refine#[#[o,e,h.1],λa m=>?_];cases m;exact#[o,e,h.2.1]
  ·obtain⟨o,_,_,_,e,h,_⟩:=I.hok p _ f;refine#[#[o,e,h.1],λa m=>?_];cases m;exact#[o,e,h.2.1]
 |_=>exact False.elim ty
def qcD(K:YZ)(T:String)(r:QA2)(to:TE):TE:=λe H Q=>to e H λx c=>tyV K T x c/\r x [] c Q
def tBM(K:YZ)(T:String)(r:QA2)(to:TE)(t:TA):TE:=λc H Q=>to c H λx e=>tyV K T x e/\t c e λf h=>r x f h Q
variable {o e:rz}{es:wZ}{to:TE}{t:TA}{name:Str}{apos cpos:Pos}{T id:String}{r:QA2}
def qfi(z:PlainAttrs T)(i:Slot T name id) (j:typeOf (.builtin id)=pure (.type "method_descriptor")) (B:N7 X id r) (A:PE X o to)
  (f:attributeBase o name X.env (eval o X.env)=eval o X.env:=by rfl) (c:(apos.endLine == cpos.line)=true:=by rfl):PE X (.Call (.Attribute o name apos) [] [] cpos) (qcD X.K T r to):=by
 intro n s l H Q I h;refine wpAny_Call_method0_late f c (cG (A n s l H _ I h) λv w u=>?_);obtain⟨x,E,p,m,ty,y⟩:=u;obtain⟨D,C⟩:=ZP p m ty;exact#[T,id,z,i,j,D,C,Calls.callWith_builtin rfl (PySem.evalArgs_none (B n w l E x [] v [] Q p m .nil y))]
def qhi(L:PlainAttrs T)(j:Slot T name id) (u:typeOf (.builtin id)=pure (.type "method_descriptor")) (O:N7 X id r) (N:PE X o to) (U:PA X (e::es) t)
  (i:attributeBase o name X.env (eval o X.env)=eval o X.env:=by rfl)
  (l:((backTo cpos (starEach (e::es) X.env)).all (λx=>!x.1) && (backToKw cpos (keywordEach [] X.env)).all (λx=>x.1.isSome)
   && decide ((e::es).length+([]:List Keyword).length+(if ([]:List Keyword).isEmpty then 0 else 1)<30))=true:=by rfl)
  (f:(apos.endLine == cpos.line)=true:=by rfl) (M:starEach (e::es) X.env=(false,eval e X.env)::starEach es X.env:=by rfl) (c:(backTo cpos (starEach es X.env)).any (·.1)=false:=by rfl) :
  PE X (.Call (.Attribute o name apos) (e::es) [] cpos) (tBM X.K T r to t):=by
 intro p s m H Q I h;refine wpAny_Call_method_late i l f rfl (cG (N p s m H _ I h) λv D n=>?_);obtain⟨x,H1,z,w,ty,J⟩:=n;obtain⟨h1,Y⟩:=ZP z w ty;refine#[T,id,L,j,u,h1,Y,?_];have y:=U cpos p D m H1 _ z J;rw[M] at y⊢;refine Calls.callWith_builtin (by show(false || (backTo cpos (starEach es X.env)).any (·.1))=false;rw[c] <;> rfl) (Calls.evalArgs_plain ?_)
 refine cG y λB C n=>?_;obtain⟨A,H2,I2,E,G⟩:=n;exact O p C m H2 x A v B Q I2 w E G
end
def MtM(X:Cx)(id:String)(r:QA2):Prop:=
 ∀(h:QAC)(s:Y5)(c:St)(H:Hp)(x:V)(e:QA0)(v:eH)(f:QAE)(Q:VK),Inv X h c H s->RelV x v->Vals e f->r x e H Q->
  wpAny (model X.prog X.w) X.A (call (.builtin id) (v::f)) (EP X h c Q) X.xe s
def Vals.one{x:V}{us:QAE}(h:Vals [x] us):∃u,us=[u]/\RelV x u:=vals1 h
def Vals.two{x y:V}{us:QAE}(h:Vals [x,y] us):∃u v,us=[u,v]/\RelV x u/\RelV y v:=vals2 h
def Vals.zero:∀{us:QAE},Vals [] us->us=[]
 |_,.nil=>rfl
theorem Vals.rep{xs:QA0}{us:QAE}(h:Vals xs us):∀k:Nat,Vals (List.replicate k xs).flatten (List.replicate k us).flatten
 |0=>.nil
 |k+1=>by
  rw[qoy,qoy,qpI,qpI];exact Vals.append h (Vals.rep h k)
theorem foldl_rep(its:QAE):∀(k:Nat)(c:QAE),
  List.foldl (λh f=>h++f) c.toArray (List.replicate k its.toArray)=(c++(List.replicate k its).flatten).toArray
 |0,c=>by simp
 |k+1,c=>by
  have e:c.toArray++its.toArray=(c++its).toArray:=by simp
  have i:(c++its)++(List.replicate k its).flatten=c++(List.replicate (k+1) its).flatten:=by
   rw[qoy,qpI,qns]
  rw[<- i,<- foldl_rep its k (c++its),<- e,qoy,qo2]
section
variable {X:Cx}{p_:QAC}{σ:St}{H:Hp}{s:Y5}{l b:J9}{xs ys zs:QA0}
def Inv.qfj{its its':QAE}{n:Nat}{f:Array Value->Array Value}{t':Nat}(I:Inv X p_ σ H s)(o:H l=some (.lst xs))
  (e:s.heap.get? l=some {cls:=.type "list",data:=.seq its.toArray n}) (j:f its.toArray=its'.toArray) (h:Vals ys its') (c:ys.length<=sizeLine) :
  Inv X p_ σ (upd H l (.lst ys)) {s with heap:=s.heap.update l (Obj.mapSeq f),toks:=t'}:=by
 have q:=PySem.IsL.update e f;rw[j] at q;refine I.write (x:=l) (e:=l) (by rw[o];exact trivial) (.inl rfl) (λp u m i=>(qov s.heap (Obj.mapSeq f) (qoE m)).trans i) #[_,q] ?_;exact#[c,its',_,h,q]
def Inv.qcE{its:QAE}{t':Nat}(I:Inv X p_ σ H s)(e:Vals ys its)(c:ys.length<=sizeLine) :
  Inv X p_ σ (upd H s.heap.objs.size (.lst ys)) {s with heap:=s.heap.push {cls:=.type "list",data:=.seq its.toArray},toks:=t'}:=
 I.laid (λ_ _ q=>qm4 _ q) (qm5 _) #[c,its,0,e,qne _ rfl]
theorem Inv.fresh(I:Inv X p_ σ H s):H s.heap.objs.size=none:=I.hok.fresh (qm5 _)
def Inv.Kd(I:Inv X p_ σ H s)(c:H l=some (.lst xs)):xs.length<=sizeLine/\∃(its:QAE)(n:Nat),Vals xs its/\xs.length=its.length/\s.heap.get? l=some {cls:=.type "list",data:=.seq its.toArray n}:=by
 obtain⟨z,its,n,r,e⟩:=I.hok l _ c;exact#[z,its,n,r,r.length,e]
def ZQ{n:Nat}(h:n<=sizeLine):Builtin.List.listTooLong n=false:=by
 unfold Builtin.List.listTooLong;exact qnM ⋯
end
section
variable {X:Cx}
def Ke:V->List V->Hp->VK->Prop:=λx e H Q=>∃l c y,x = .ref l/\e=[y]/\H l=some (.lst c)/\c.length<sizeLine/\Q .non (upd H l (.lst (c++[y])))
def Ib:MtM X "list.append" Ke:=by
 intro B s o H x w v A Q I i j h;obtain⟨l,p,y,rfl,rfl,f,C,q⟩:=h;cases i;obtain⟨u,rfl,m⟩:=j.one;obtain⟨z,c,n,r,D,e⟩:=I.Kd f;refine call_meets F.slot_list_append #[_,e,rfl] F.entry_list_append (F.args_list_append_2 _ _) (PySem.list_append l c.toArray n u (by rw[qnm];lia)) #[e,?_];refine#[.non,_,I.qfj (its':=c++[u]) f e (by simp) (r.append (.cons m .nil)) ?_,rfl,q];rw[qnT,qpG];lia
def Ry:V->List V->Hp->VK->Prop:=λx e H Q=>∃l c,x = .ref l/\e=[]/\H l=some (.lst c)/\Q .non (upd H l (.lst []))
def ZR:MtM X "list.clear" Ry:=by
 intro y s o H x u v w Q I j m h;obtain⟨l,p,rfl,rfl,i,q⟩:=h;cases j;have f:=m.zero;subst f;obtain⟨z,c,n,r,A,e⟩:=I.Kd i;refine call_meets F.slot_list_clear #[_,e,rfl] F.entry_list_clear (F.args_list_clear_1 _) (AutoSeq1.list_clear_list_0 l c.toArray n (by rw[qnm];omega)) #[e,?_];exact#[.non,_,I.qfj (its':=[]) (ys:=[]) i e rfl .nil (qnI _),rfl,q]
def qhj:R2:=λx y H Q=>∃l b e c,x = .ref l/\y = .ref b/\H l=some (.lst e)/\H b=some (.lst c)/\e.length+c.length<=sizeLine/\∀p,H p=none->Q (.ref p) (upd H p (.lst (e++c)))
def qfk:iD X (binaryOp .Add) qhj:=by
 intro G s C H x y v u Q I j i h;obtain⟨l,b,E,D,rfl,rfl,p,w,L,q⟩:=h;cases j;cases i;obtain⟨z,f,n,r,M,e⟩:=I.Kd p;obtain⟨z2,c,J,m,o,B⟩:=I.Kd w;refine PySem.P.add_list e B ?_ (by rw[qnm,qnm];omega);have A:f.toArray++c.toArray=(f++c).toArray:=by simp
 rw[A];exact#[.ref _,_,I.qcE (t':=s.toks) (r.append m) (by rw[qnT];omega),rfl,q _ I.fresh]
def qkK:R2:=λx y H Q=>∃l k c,x = .ref l/\y = .int k/\H l=some (.lst c)/\-(2 ^ 63)<=k/\k<2 ^ 63/\c.length * k.toNat<=sizeLine/\
 ∀p,H p=none->Q (.ref p) (upd H p (.lst (List.replicate k.toNat c).flatten))
def len_rep{c:Type}(xs:List c)(k:Nat):(List.replicate k xs).flatten.length=k * xs.length:=by
 induction k with
 |zero=>simp
 |succ k ih=>rw[qoy,qpI,qnT,ih,Nat.succ_mul,Nat.add_comm]
def qfl:iD X (binaryOp .Mult) qkK:=by
 intro p_ s O H x y v u Q I E D h;obtain⟨l,k,Y,rfl,rfl,J,M,L,B,q⟩:=h;cases E;obtain⟨t,rfl⟩:=D;obtain⟨z,c,n,r,G,e⟩:=I.Kd J;have i:c.toArray.size * k.toNat<=sizeLine:=by rw[qnm,<- G];exact B
 have o:¬c.toArray.size * k.toNat > (2 ^ 63 - 1) / 8:=by
  have:(sizeLine:Nat)<=(2 ^ 63 - 1) / 8:=by decide
  lia
 have j:¬(!Builtin.List.listFitsIndex k)=true:=by
  rw[fitsIndex_both M L];exact qnq
 have A:¬Builtin.List.listTooLong (c.toArray.size * k.toNat)=true:=by
  rw[ZQ i];exact qnq
 have f:List.foldl (λw p=>w++p) #[] (List.replicate (if c.toArray.isEmpty=true then 0 else k.toNat) c.toArray)=(List.replicate k.toNat c).flatten.toArray:=by
  have N:∀m:Nat,List.foldl (λw p=>w++p) #[] (List.replicate m c.toArray)=(List.replicate m c).flatten.toArray:=λm=>by
   have:=foldl_rep c m [];rw[List.nil_append] at this;exact this
  rw[N];cases c with
  |nil=>simp
  |cons a r'=>rw[if_neg (by simp)]
 refine wpAny_binaryOp_repeat_ref (T:= "list") (U:= "int") (by decide) #[_,e,rfl] (λC=>typeIs_int C k t) noFill_list_mul F.fills_int_mul F.slot_int_rmul repeat_list F.slot_int_index.lookup
  (call_meets F.slot_int_rmul (typeIs_int s k t) F.entry_int_rmul (F.args_int_rmul_2 _ _) (int___rmul___int_list k t l c.toArray n)
   #[e,rfl,#[_,e,rfl],call_meets F.slot_list_mul #[_,e,rfl] F.entry_list_mul (F.args_list_mul_2 _ _) (AutoListH.list___mul___list_int_3 l c.toArray n k t j o A) #[e,?_]])
 rw[f];exact#[.ref _,_,I.qcE (t':=s.toks) (r.rep k.toNat) (by rw[len_rep,Nat.mul_comm];exact B),rfl,q _ I.fresh]
end
end L2
namespace Att
open PySem PySem.W PySem.Calls PyProof.Rows
def Cp{P:Params}{h:oY}:∀(ns:qx)(vs:QAE),WellAll P h vs (ns.map WData.int)->IntsAre vs ns:=by
 intro ns
 induction ns with
 |nil=>
  intro vs w;rw[List.map_nil] at w;cases w;exact .nil
 |cons n ns ih=>
  intro vs w;rw[qnP] at w;cases w with
  |cons a b=>
   cases a;exact .cons _ _ (ih _ b)
def WK{l:OpenLaw}{n:Nat}(y:l.most=some n){P:Params}{h:oY}{args:List WData}{c:QAE}
  (e:l.row.toRowW.claim.pre args=true) (o:WellAll P h c args) :
  ∃a vs ns,c=[Value.ref a]/\args=[WData.list (ns.map WData.int)]/\h.get? a=some {cls:=.type "list",data:=.seq vs.toArray}/\IntsAre vs ns/\ns.length<=n:=by
 have p:WShape.hasAll [] args [.list .int]=true:=(pre_splitW e).1;have s:l.pre.holds [] {args:=args}=true:=(pre_splitW e).2;obtain⟨d,r,rfl,B,A⟩:=hasAllW_cons p;obtain rfl:=hasAllW_nil A;obtain⟨C,rfl,z⟩:=hasW_list B;obtain⟨ns,rfl⟩:=items_int z;have f:ns.length<=n:=by
  unfold OpenLaw.pre at s;have m:(WTm.not (.lt (.lit (.int (n:Int))) (.len (.arg 0)))).holds [] {args:=[.list (ns.map .int)]}=true:=by
   have m:=(holds_andW s).1;rw[y] at m;exact m
  have j:=condW_of m (w_not (w_lt w_lit (w_len_list (w_arg rfl))));rw[qm7] at j;refine Nat.le_of_not_lt λq=>?_;have w:(n:Int)<((ns.length:Nat):Int):=∅
  first
   |(rw[qnE w] at j;exact absurd j (by decide))
   |(simp at j;omega)
 cases o with
 |cons v u=>
  cases u;cases v with
  |list x i=>exact#[_,_,ns,rfl,rfl,x,Cp ns _ i,f]
def WL(l:OpenLaw)(args:List WData):l.row.toRowW.claim.post args (.bool true) args=true:=
 postW_of (r:=l.row.toRowW) (X:=(true == true))
  (show WShape.has [] (.bool true) .bool=true by first|rfl|decide|simp[WShape.has,WShape.arms,WShape.armsAll])
  (show(WTm.eq .res (.lit (.bool true))).value [] {args:=args,res:=some (.bool true),after:=args}=some (.bool (true == true)) from w_eq_bool (w_res rfl) w_lit) rfl
def N8{l:OpenLaw}{n:Nat}{q:qd}{h:QAH}{J:(Str->Option Value)->Heap->Prop}{I:World->Heap->Prop}{d:DefRec}
  (O:l.most=some n) (A:d.params.defaults=[])
  (call:∀(w:lW)(e c:Y5)(mg y:Y4)(fa:J9)(o:Obj)(x v j:eH)(a:J9)(vs:QAE)(ns:qx),
   Ground q h [] J w e mg y c.heap->I w c.heap->
   c.heap.get? fa=some o->o.data = .func (docDef d.name d.params d.body d.scope x v j)->c.heap.CodeRec v d.name->mg d.name=some (.ref fa)->
   c.heap.get? a=some {cls:=.type "list",data:=.seq vs.toArray}->IntsAre vs ns->ns.length<=n->c.gens = #[]->
   codeAny (model l.prog w) callerA (.call (.ref fa) #[[.ref a],[]]) (λr u=>r = .ok (.ret (.bool true))/\OldK c.heap u.heap/\u.os=c.os/\AllBare u.gens) c) :
  WalkO q h J I l.row.toRowW d [] (λf vs=>PySem.call f vs):=by
 intro w e c mg y G Y fa o x v j dV kV N hd B E hmg U H C as m D L z T;obtain rfl:dV = .none:=Dflts.none E A;obtain rfl:kV = .none:=Dflts.noKw E;obtain⟨a,vs,ns,rfl,rfl,p,i,s⟩:=WK O m z;refine enter_call (qor (call w e c mg y fa o x v j a vs ns G Y N (fd_plain hd) B hmg p i s U) λr u M=>?_);obtain⟨rfl,h2,h3,h4⟩:=M;exact#[.inl #[.bool true,.bool true,[],rfl,λ_=>rfl,.bool true,WL l _,λ_=>#[List.Pairwise.nil,λ_ Q=>(nomatch Q)]],h2,h3,h4]
end Att
namespace L2
open PySem PySem.Spec PyProof.Rows
theorem z7:∀{vs:QAE}{ns:qx},IntsAre vs ns->Vals (ns.map V.int) vs
 |_,_,.nil=>.nil
 |_,_,.cons n t h=>.cons #[t,rfl] (z7 h)
def inClass(s:Stmt)(j:Nat):Stmt:=match s with
 |.ClassDef _ _ _ c _ _ _ _ _ _ _=>c.getD j (.Pass #[0,0,0,0])
 |_=>.Pass #[0,0,0,0]
def pG(s:Stmt):Arguments:=match s with
 |.FunctionDef _ a _ _ _ _ _ _ _ _=>a
 |_=>{posonlyargs:=[],args:=[],vararg:=none,kwonlyargs:=[],kw_defaults:=[],kwarg:=none,defaults:=[]}
def gk(s:Stmt):List Stmt:=match s with
 |.FunctionDef _ _ b _ _ _ _ _ _ _=>b
 |_=>[]
def aB(s:Stmt):Scope:=match s with
 |.FunctionDef _ _ _ _ _ _ c _ _ _=>c
 |_=>{kind:=.function,names:=[],isGenerator:=false,isCoroutine:=false}
abbrev gR:Zw:=λ_ _ _ _ _ _=>False
abbrev E0:XK:=λ_ _ _=>False
def bB{X:Cx}:Passes gR X E0:=λ_ _ _ _ _ _ _ h=>h.elim
structure cW(K:YZ)(x qual:Str)(st:Stmt)(f:J9)(fd:sH):Prop where
 ex:∃(oc:eH)(od:dR)(kV doc pm:eH)(an:dR)(cdv ct:eH)(osl:Array (QAG)),
  fd=W.fnOf x qual (pG st) (gk st) (aB st) .none kV doc pm an cdv ct/\K.lookup f=some #[oc,od,.func fd,osl]/\W.codeIn K cdv qual=true
 kp:W.keepIn K (.ref f)=true
section
variable {P:qd}{w:lW}{K:YZ}{mg:Y4}{base:oY}
def cW.ok{x e:Str}{st:Stmt}{f:J9}{n:sH}{N ps:QAH}{k:Nat}{sp:Sp}(F:cW K x e st f n)(S:aW N ps (aB st))(len:∀vs H Q E,sp vs H Q E->vs.length=ps.length)
  (j:∀(i:eH)(A:lY)(c:List Env)(s:Y5)(H:Hp)(vs:QA0)(Q:VK)(E:XK),fQ k (A.deeper (envOfC e (aB st) s.heap.objs.size f i))->sp vs H Q E->
   ∃t,GZ (aq gR P w K mg base N e (aB st) f i A c s H E).UL (gk st) t/\t {nx:=λ_ v=>Q .non v,rt:=Q} (start N vs) H):bT P w K mg base gR (k+1) f n ps sp:=by
 obtain⟨B,z,kV,u,y,D,i,C,o,rfl,p,m⟩:=F.ex;refine ZF p m S len λA c s H vs Q E r l=>?_;obtain⟨t,h,q⟩:=j i A c s H vs Q E r l;exact#[t,h.UL,q]
def cW.binds{x c:Str}{st:Stmt}{f:J9}{n:sH}{ps:QAH}(F:cW K x c st f n)
  (h:∀(kV e j:eH)(m:dR)(i l:eH)(us:QAE),us.length=ps.length->bindArgs (W.fnOf x c (pG st) (gk st) (aB st) .none kV e j m i l) #[us,[]]=pure (ps.zip us)):Binds K n ps []:=by
 obtain⟨s,r,kV,e,j,m,i,l,o,rfl,u,p⟩:=F.ex;exact .all (h kV e j m i l)
def Rz{x e:Str}{st:Stmt}{f:J9}{r:eH}{p o:dR}{j:Array (QAG)}{kV i m h n:eH}(l:K.lookup f=some #[r,p,.func (W.fnOf x e (pG st) (gk st) (aB st) .none kV i m o h n),j])
  (c:W.codeIn K h e=true) (k:W.keepIn K (.ref f)=true):cW K x e st f (W.fnOf x e (pG st) (gk st) (aB st) .none kV i m o h n):=#[#[r,p,kV,i,m,o,h,n,j,rfl,l,c],k]
end
def Ie{A:lY}{k:Nat}(c:fQ k A):A.units+1<cLine:=Nat.lt_of_le_of_lt (Nat.add_le_add_left (by decide:1<=64) _) c.units
section
variable {X:Cx}
def pv(i:Nat){x:Str}{pos:Pos}(h:X.N[i]? = some x:=by rfl)(e:Vis X.env.scope x:=by first|exact Or.inl rfl|exact Or.inr (Or.inl rfl)|exact Or.inr (Or.inr rfl)) (f:(x == ("__debug__" : Str))=false:=by decide)
  (c:(x == ("__classdict__" : Str))=false:=by decide):PE X (.Name x pos) (qco i):=Y8 h e f c
end
def Same(H c:Hp):Prop:=∀b o,H b=some o->c b=some o
def Same.refl(H:Hp):Same H H:=λ_ _ h=>h
def Same.trans{H f e:Hp}(a:Same H f)(b:Same f e):Same H e:=λc o h=>b c o (a c o h)
def Same.free{H c:Hp}(e:Same H c){l:J9}(h:c l=Option.none):H l=Option.none:=by
 cases q:H l with
 |none=>rfl
 |some o=>
  rw[e l o q] at h;cases h
def qI(c:Env)(e:List (Str×Addr))(p:Str×NameKind):List (Str×Addr):=if p.2 == .free then (p.1,(c.cells.lookup p.1).getD 0)::e else e
def N_(e:Env)(c:List (Str×NameKind)):List (Str×Addr):=c.foldl (qI e) []
theorem Bp{c β:Type}(f:c->β->Sem (ForInStep β))(g:β->c->β):∀(l:List c)(b:β),(∀x∈l,∀b,f x b=pure (.yield (g b x)))->forIn l b f=pure (l.foldl g b)
 |[],_,_=>rfl
 |x::l,b,h=>by
  rw[List.forIn_cons,h x qng,pure_bind];exact Bp f g l (g b x) λy e=>h y (qm_ _ e)
def t_{f:Scope}{e:Env}(h:∀x,(x,NameKind.free)∈f.names->∃c,e.cells.lookup x=some c):closureFor f e=pure (N_ e f.names):=by
 simp only[closureFor];rw[Bp _ (qI e) f.names [] (λp i l=>by
  obtain⟨n,k⟩:=p;cases k with
  |free=>
   obtain⟨c,j⟩:=h n i;simp only[qI,cellOf,j,beq_self_eq_true,if_true,Option.getD_some,pure_bind]
  |_=>simp only[qI];rfl)]
 rfl
theorem yu{f:Env}:∀(i:List (Str×NameKind))(j:List (Str×Addr))(x:Str)(c:J9),(∀x,(x,NameKind.free)∈i->∃c,f.cells.lookup x=some c)->(∀x c,(x,c)∈j->f.cells.lookup x=some c)->
  (x,c)∈i.foldl (qI f) j->f.cells.lookup x=some c
 |[],_,x,c,_,h,m=>h x c m
 |(n,k)::r,j,x,c,p,h,m=>by
  refine yu r (qI f j (n,k)) x c (λy l=>p y (qm_ _ l)) (λy d l=>?_) m;unfold qI at l;split at l
  ·rename_i s;have o:k = .free:=by simpa using s
   subst o;obtain⟨e,u⟩:=p n qng
   rcases qnc.mp l with z|z
   ·cases z;show f.cells.lookup n=some _;rw[u];rfl
   ·exact h y d z
  ·exact h y d l
theorem z8{f:Env}{x:Str}:∀(c:List (Str×NameKind))(e:List (Str×Addr)),((x,NameKind.free)∈c\/(e.lookup x).isSome=true)->((c.foldl (qI f) e).lookup x).isSome=true
 |[],_,h=>h.elim (λz=>nomatch z) id
 |(n,k)::r,e,h=>by
  refine z8 r (qI f e (n,k)) ?_
  by_cases i:(x,NameKind.free)∈r
  ·exact .inl i
  ·refine .inr ?_;unfold qI
   rcases h with h|h
   ·rcases qnc.mp h with z|z
    ·cases z;simp[qoH]
    ·exact absurd z i
   ·split
    ·simp only[qoH];cases x == n <;> simp[h]
    ·exact h
def Dt(c:Env)(e:Scope)(C:J9):List (Str×Addr):=cellsFrom (C+1) e.names (N_ c e.names)
theorem iV{x:Str}:∀(c:List (Str×NameKind))(n:Nat)(e:List (Str×Addr)),(x,NameKind.cell)∈c\/(e.lookup x).isSome=true->((cellsFrom n c e).lookup x).isSome=true
 |[],_,_,h=>h.elim (λz=>nomatch z) id
 |(y,k)::r,n,e,h=>by
  unfold cellsFrom;split
  ·refine iV r (n+1) ((y,n)::e) ?_
   by_cases f:(x,NameKind.cell)∈r
   ·exact .inl f
   ·refine .inr ?_
    rcases h with h|h
    ·rcases qnc.mp h with z|z
     ·cases z;simp[qoH]
     ·exact absurd z f
    ·simp only[qoH];cases x == y <;> simp[h]
  ·rename_i i;refine iV r n e ?_
   rcases h with h|h
   ·rcases qnc.mp h with z|z
    ·cases z;exact absurd rfl i
    ·exact .inl z
   ·exact .inr h
theorem RB:∀(f:List (Str×NameKind))(h:oY)(i:List (Str×Addr))(x:Str)(c:J9),(x,c)∈cellsFrom h.objs.size f i->(x,c)∈i\/(h.objs.size<=c/\(pushCells h f).IsCell c none)
 |[],_,_,_,_,m=>.inl m
 |(n,k)::r,h,i,x,c,m=>by
  unfold cellsFrom at m;unfold pushCells;split at m
  ·rename_i j;rw[if_pos j];have o:(x,c)∈cellsFrom (h.push {cls:=.type "cell",data:=.cell none}).objs.size r ((n,h.objs.size)::i):=by rw[qnV];exact m
   rcases RB r (h.push {cls:=.type "cell",data:=.cell none}) _ x c o with z|⟨l,z2⟩
   ·rcases qnc.mp z with e|e
    ·cases e;exact .inr #[qm5 _,#[_,pushCells_keeps _ _ _ _ (qne _ rfl),rfl]]
    ·exact .inl e
   ·rw[qnV] at l;exact .inr #[⋯,z2]
  ·rename_i j;rw[if_neg j];exact RB r h i x c m
theorem RG{n0:Nat}{x:Str}:∀(f:List (Str×NameKind))(n:Nat)(i:List (Str×Addr))(c:J9),((x,NameKind.cell)∈f\/∀d,i.lookup x=some d->n0<=d)->n0<=n->(cellsFrom n f i).lookup x=some c->n0<=c
 |[],_,_,c,h,_,e=>h.elim (λz=>nomatch z) λz=>z c e
 |(y,k)::r,n,i,c,h,o,e=>by
  unfold cellsFrom at e;split at e
  ·refine RG r (n+1) ((y,n)::i) c ?_ ⋯ e
   by_cases p:(x,NameKind.cell)∈r
   ·exact .inl p
   ·refine .inr λd m=>?_
    by_cases j:x=y
    ·subst j;have l:n=d:=by simpa [qoH] using m
     rw[<- l];exact o
    ·have u:(x == y)=false:=by simpa using j
     simp only[qoH,u] at m
     rcases h with h|h
     ·rcases qnc.mp h with z|z
      ·cases z;exact absurd rfl j
      ·exact absurd z p
     ·exact h d m
  ·rename_i s;refine RG r n i c ?_ o e
   rcases h with h|h
   ·rcases qnc.mp h with z|z
    ·cases z;exact absurd rfl s
    ·exact .inl z
   ·exact .inr h
theorem RJ:∀(f:List (Str×NameKind))(n:Nat)(c:List (Str×Addr)),(∀y d,(y,d)∈c->d<n)->(∀y z d,(y,d)∈c->(z,d)∈c->y=z)->
  ∀y z d,(y,d)∈cellsFrom n f c->(z,d)∈cellsFrom n f c->y=z
 |[],_,_,_,h=>h
 |(x,k)::r,n,c,j,h=>by
  unfold cellsFrom;split
  ·refine RJ r (n+1) ((x,n)::c) (λy d l=>?_) λy z d o m=>?_
   ·rcases qnc.mp l with e|e
    ·cases e;exact qoi _
    ·exact qn6 (j y d e)
   ·rcases qnc.mp o with e1|e1 <;> rcases qnc.mp m with i|i
    ·cases e1;cases i;rfl
    ·cases e1;exact absurd (j z n i) (qoj _)
    ·cases i;exact absurd (j y n e1) (qoj _)
    ·exact h y z d e1 i
  ·exact RJ r n c j h
abbrev NoE:QAB:=λ_ _=>False
def Oa{prog:qd}{w:lW}{A:lY}{R:Result->Shared->Prop}{s:Y5}{E e iter:rz}{D:wZ}{l:Scope}{pos:Pos}{it G:eH}{f:Env}(I:Nat->Shared->Prop)
  (turn:∀n s,I n s->wpAny (model prog w) A (pyNext it) (λr j=>match r with
   |none=>R (.ok .next) j
   |some v=>wpAny (model prog w) A (letOwnedTupleGo e it v) (λ_ z=>wpAny (model prog w) A (assign e f v) (λ_ y=>
     wpAny (model prog w) A (forIn D true λc r=>if r=true then do let ok <- isTrue c f (eval c f);pure (ForInStep.yield ok) else pure (ForInStep.yield r)) (λok i=>
      if ok=true then wpAny (model prog w) A (eval E f) (λx u=>
       wpAny (model prog w) A (call (.builtin "list.append") [G,x]) (λ_ p=>∃m,m<n/\I m p) NoE u) NoE i
      else ∃m,m<n/\I m i) NoE y) NoE z) NoE j) NoE s)
  (n:Nat) (h:I n s):codeAny (model prog w) A (.compLoop (.ListComp E [#[e,iter,D,0]] l pos) 0 it G f) R s:=by
 refine codeAny_loop rfl I (λn s N=>?_) n h;show wpAny _ A ((compTurn (.ListComp E [#[e,iter,D,0]] l pos) 0 it G f).onRaise (λx=>do noteFrame x f;theTreesLotGoes x)) _ _ s
 refine wpAny_noted ?_;rw[compTurn_list];refine qm3 (wpAny_standAt (qm3 (qn8 (turn n s N) (λr j C=>?_) λ_ _ o=>o.elim)));cases r with
 |none=>exact qm8 C
 |some v=>
  refine qm3 (qn8 C (λ_ z M=>?_) λ_ _ o=>o.elim);refine qm3 (qn8 M (λ_ y L=>qm3 (qn8 L (λok i B=>?_) λ_ _ o=>o.elim)) λ_ _ o=>o.elim);cases ok with
  |false=>exact qm8 #[rfl,B]
  |true=>
   exact qm3 (qm3 (qn8 B (λx u J=>qm3 (qn8 J (λ_ p H=>qm8 (qm8 #[rfl,H])) λ_ _ o=>o.elim)) λ_ _ o=>o.elim))
def bU(X:Cx)(c:Scope)(N:QAH)(C:J9)(s:Y5)(H:Hp)(e:tR)(pn:QAC):Cx:=
 {X with env:=compEnvC c (Dt X.env c C) C X.env,N:=N,s₀:=s,H₀:=H,outer:=X.stack,ex:=e,fn:=λx=>c.names.any λp=>p.1 == x && p.2 == .cell,pn:=pn,xe:=NoE}
def n6{e:Scope}{c:Env}(x:Str):(relabel e c).names.lookup x=(e.names.lookup x).map λk=>if (k == NameKind.free && c.scope.kind == .function && c.kindOf x == some .cell)=true then NameKind.cell else k:=by
 unfold relabel;show List.lookup x (e.names.map _)=_
 induction e.names with
 |nil=>rfl
 |cons p r ih=>
  obtain⟨n,k⟩:=p;rw[qnP];have i:(if (k == NameKind.free && c.scope.kind == .function && c.kindOf n == some .cell)=true then (n,NameKind.cell) else (n,k))=(n,if (k == NameKind.free && c.scope.kind == .function && c.kindOf n == some .cell)=true then NameKind.cell else k):=by split <;> rfl
  show List.lookup x ((if (k == NameKind.free && c.scope.kind == .function && c.kindOf n == some .cell)=true then (n,NameKind.cell) else (n,k))::_)=_
  rw[i]
  by_cases f:x=n
  ·subst f;simp only[qoH,beq_self_eq_true,Option.map_some]
  ·have h:(x == n)=false:=by simpa using f
   simp only[qoH,h];exact ih
structure aR(ps sc:Scope)(pN own:QAH)(caps:wX)(N:QAH):Prop where
 kind:sc.kind = .function
 uniq:∀p∈sc.names,sc.names.lookup p.1=some p.2
 nd:N.Nodup
 names:N=own++caps.map λj=>pN.getD j ""
 free:∀p∈sc.names,p.2 = .free->ps.names.lookup p.1=some .cell\/ps.names.lookup p.1=some .free
 qhl:∀j∈caps,j<pN.length/\sc.names.lookup (pN.getD j "")=some .free
def stC(e:QAH)(c:wX)(σ:St):St:=e.map (λ_=>none)++c.map λj=>(σ[j]?).getD none
section
variable {X:Cx}{p_:QAC}{σ:St}{H:Hp}{s:Y5}{ps sc:Scope}{own pN:QAH}{caps:wX}{N:QAH}{fp:tR}
theorem aR.cells(S:aR ps sc pN own caps N)(e:X.env.scope=ps)(ok:X.Ok):∀x,(x,NameKind.free)∈sc.names->∃c,X.env.cells.lookup x=some c:=λx f=>by
 refine ok.has x ?_;show X.env.scope.names.lookup x=_\/X.env.scope.names.lookup x=_;rw[e];exact S.free (x,.free) f rfl
def Du(e:∀x,(x,NameKind.free)∈sc.names->∃c,X.env.cells.lookup x=some c){C:J9}{x:Str}{c:J9}{h:oY}(f:C+1=h.objs.size)(m:(x,c)∈Dt X.env sc C):X.env.cells.lookup x=some c\/(h.objs.size<=c/\(pushCells h sc.names).IsCell c none):=by
 unfold Dt at m;rw[f] at m
 rcases RB sc.names h _ x c m with z|z
 ·exact .inl (yu sc.names [] x c e (λ_ _ z=>nomatch z) z)
 ·exact .inr z
def Vc(I:Inv X p_ σ H s)(n:X.env.scope=ps)(S:aR ps sc pN own caps N)(u:∀b∈fp,pB X p_ H b)(D:∀b∈fp,∃o,s.heap.get? b=some o/\∀v,o.data≠.cell v) :
  (bU X sc N s.heap.objs.size s H fp (X.pn++p_)).Ok where
 mod:=I.ok.mod
 kind:=S.kind
 glob:=I.ok.glob
 blt:=I.ok.blt
 above:=qm5 _
 inj:=λx y c G E=>by
  have w:∀y d,(y,d)∈N_ X.env sc.names->X.env.cells.lookup y=some d:=λy d m=>yu sc.names [] y d (S.cells n I.ok) (λ_ _ z=>nomatch z) m;refine RJ sc.names (s.heap.objs.size+1) (N_ X.env sc.names) (λy d m=>?_) (λy z d C B=>I.ok.inj y z d (w y d C) (w z d B)) x y c (qnW G) (qnW E);obtain⟨v,q⟩:=I.cell y d (w y d m);exact qn6 q.lt
 has:=λx l=>by
  have f:(relabel sc X.env).names.lookup x=some .cell\/(relabel sc X.env).names.lookup x=some .free:=l;have i:(x,NameKind.cell)∈sc.names\/(x,NameKind.free)∈sc.names:=by
   rw[n6] at f;cases e:sc.names.lookup x with
   |none=>rw[e] at f;simp at f
   |some k=>
    rw[e] at f;have r:=qnW e;cases k with
    |free=>exact .inr r
    |cell=>exact .inl r
    |_=>simp at f
  have q:((cellsFrom (s.heap.objs.size+1) sc.names (N_ X.env sc.names)).lookup x).isSome=true:=by
   rcases i with z|z
   ·exact iV sc.names _ _ (.inl z)
   ·exact iV sc.names _ _ (.inr (z8 sc.names [] (.inl z)))
  exact qoT.mp q
 cab:=λx c l h=>by
  have i:(x,NameKind.cell)∈sc.names:=by
   have l:(sc.names.any λp=>p.1 == x && p.2 == .cell)=true:=l;obtain⟨⟨a,b⟩,r,A⟩:=qoQ.mp l;simp at A;obtain⟨rfl,rfl⟩:=A;exact r
  exact RG (n0:=s.heap.objs.size) sc.names (s.heap.objs.size+1) (N_ X.env sc.names) c (.inl i) (qoU _) h
 hd:=I.ok.hd
 frames:=I.ok.frames
 stk:=.inl rfl
 exf:=λb j=>by
  obtain⟨o,e,_⟩:=D b j;refine#[qnf (qm9 e),λx c h z=>?_];subst z
  rcases Du (S.cells n I.ok) (h:=s.heap.push {cls:=.type "dict",data:=.dict #[]}) (by rw[qnV]) (qnW h) with q|⟨q,_⟩
  ·exact(u c j).2.2.2.2.1 x c q rfl
  ·rw[qnV] at q;exact absurd (qnj (qnj (qm9 e) (qoU _)) q) (qoj _)
 bs:=I.bs
 UG:=qnp I.ok.UG I.sz
 Nu:=λb o e j=>by
  rcases(u b j).2.2.2.1 with z|z
  ·exact I.ok.Nu b o e z
  ·exact absurd (qnj (qm9 e) (qnp I.ok.UG z)) (qoj _)
 Nv:=λb j z=>by
  rcases qnc.mp (I.xg b z) with q|q
  ·exact(u b j).2.1 q
  ·exact(u b j).2.2.1 q
 um:=I.stack
 YW:=I.CG
def blockAt(sc:Scope)(s:Y5):Shared:={s with heap:=pushCells (s.heap.push {cls:=.type "dict",data:=.dict #[]}) sc.names}
def ZS(I:Inv X p_ σ H s)(B:X.env.scope=ps)(ae:X.N=pN)(S:aR ps sc pN own caps N)(hf:∀b∈fp,pB X p_ H b)(ho:∀b∈fp,∃o,s.heap.get? b=some o/\∀v,o.data≠.cell v) :
  Inv (bU X sc N s.heap.objs.size s H fp (X.pn++p_)) [] (stC own caps σ) H (blockAt sc s):=by
 have Y:∀b o,s.heap.get? b=some o->(blockAt sc s).heap.get? b=some o:=λb o e=>pushCells_keeps _ _ b o (qm4 _ e);have af:(blockAt sc s).heap.Ns s.heap.objs.size λ_=>none:=(Heap.Ns.new s.heap (.type "dict")).keeps (pushCells_keeps _ _);have G:∀x c,(Dt X.env sc s.heap.objs.size).lookup x=some c->X.env.cells.lookup x=some c\/(s.heap.objs.size+1<=c/\(blockAt sc s).heap.IsCell c none):=λx c e=>by
  rcases Du (S.cells B I.ok) (h:=s.heap.push {cls:=.type "dict",data:=.dict #[]}) (by rw[qnV]) (qnW e) with q|⟨q,r⟩
  ·exact .inl q
  ·rw[qnV] at q;exact .inr #[q,r]
 refine#[Vc I B S hf ho,rfl,I.bare,Un.kept Y,#[_,af,λi x v e1 A e3=>?_],λx c e=>?_,I.hok.fresh (qm5 _),λx c e=>?_,λp hp=>?_,I.hok.kept Y,?_]
 ·have D:N[i]? = some x:=e1;rw[S.names] at D;unfold stC at A
  by_cases hi:i<own.length
  ·rw[qny (by simpa using hi),qnr] at A;cases q:own[i]? with
   |none=>rw[q] at A;cases A
   |some y=>rw[q] at A;cases A
  ·rw[qnz ⋯,qnr] at D;rw[qnz (by simp;omega),qnr] at A;simp only[qm7] at A;cases q:caps[i - own.length]? with
   |none=>rw[q] at A;cases A
   |some j=>
    rw[q] at D A;have O:pN.getD j "" = x:=qnB D;have C:(σ[j]?).getD none=some v:=qnB A;have hj:σ[j]? = some (some v):=by
     cases z:σ[j]? with
     |none=>rw[z] at C;cases C
     |some o=>rw[z] at C;exact qnH some C
    obtain⟨ah,f⟩:=S.qhl j (qm6 q);rw[O] at f;have al:X.N[j]? = some x:=by
     rw[ae,<- O];simp[List.getD,qnx ah]
    have M:=S.free (x,.free) (qnW f) rfl;have aa:Vis X.env.scope x:=by rw[B];exact .inr M
    obtain⟨m,hn,hl⟩:=I.loc;obtain⟨u,r,l⟩:=hl j x v al hj aa;refine#[u,r,.inr ?_];have E:(relabel sc X.env).names.lookup x=some .cell\/(relabel sc X.env).names.lookup x=some .free:=by
     rw[n6,f];show some (if _ then _ else _)=_\/some (if _ then _ else _)=_
     split
     ·exact .inl rfl
     ·exact .inr rfl
    refine#[E,?_];have J:X.env.kindOf x=some .cell\/X.env.kindOf x=some .free:=by
     show X.env.scope.names.lookup x=_\/X.env.scope.names.lookup x=_;rw[B];exact M
    rcases l with⟨T,_⟩|⟨_,c,hc,a0⟩
    ·rcases J with z|z <;> (rw[T] at z;cases z)
    ·have q2:((Dt X.env sc s.heap.objs.size).lookup x).isSome=true:=iV sc.names _ _ (.inr (z8 sc.names [] (.inl (qnW f))));obtain⟨d,hd⟩:=qoT.mp q2;refine#[d,hd,?_]
     rcases G x d hd with z|⟨z,_⟩
     ·rw[hc] at z;cases z;exact a0.keeps Y
     ·
      exfalso;have ag:(x,NameKind.cell)∉sc.names:=λQ=>by
       have:=S.uniq _ Q;rw[f] at this;cases this
      have am:=qnW hd;have ab:∀(w:List (Str×NameKind))(n:Nat)(L:List (Str×Addr)),(x,NameKind.cell)∉w->(cellsFrom n w L).lookup x=L.lookup x:=by
       intro w
       induction w with
       |nil=>intro _ _ _;rfl
       |cons p r ih=>
        intro n L Q;obtain⟨y,k⟩:=p;unfold cellsFrom;split
        ·rename_i ai;have U:k = .cell:=by simpa using ai
         subst U;rw[ih _ _ λz=>Q (qm_ _ z)];have ac:(x == y)=false:=by
          cases hb:x == y with
          |false=>rfl
          |true=>exact absurd (by rw[qpj.mp hb];exact qng) Q
         simp only[qoH,ac]
        ·exact ih _ _ λz=>Q (qm_ _ z)
      have e5:(N_ X.env sc.names).lookup x=some d:=(ab sc.names _ _ ag).symm.trans hd;have e6:=yu sc.names [] x d (S.cells B I.ok) (λ_ _ z=>nomatch z) (qnW e5);rw[hc] at e6;cases e6;exact absurd (qnj (qnj a0.lt (qoU _)) z) (qoj _)
 ·rcases G x c e with z|⟨_,z⟩
  ·obtain⟨v,q⟩:=I.cell x c z;exact#[v,q.keeps Y]
  ·exact#[_,z]
 ·rcases G x c e with z|⟨z,_⟩
  ·exact I.iR x c z
  ·exact I.hok.fresh ⋯
 ·rw[qnC] at hp;obtain⟨e,n,ne,nf,d⟩:=I.pin p hp;refine#[Y _ _ e,n,qnf (qm9 e),λz=>?_,d]
  rcases qnc.mp (I.xg p.1 z) with q|q
  ·exact ne q
  ·exact nf q
 ·show(stC own caps σ).length=N.length;rw[S.names];simp[stC]
def WM(I:Inv X p_ σ H s)(c:∀b∈fp,pB X p_ H b){C:J9}{l:QAC}{m:QAC}{h:St}{j:Hp}{i:Y5}(f:Inv (bU X sc N C s H fp l) m h j i):Inv X p_ σ j i:=
 I.call' (ch:=fp) f.os f.base f.hok f.bare λb e=>#[(c b e).2.2.2.1,(c b e).2.1,(c b e).2.2.2.2.1,(c b e).2.2.2.2.2]
end
def PTs(X:Cx)(f:wZ)(t:TT):Prop:=
 ∀(h:QAC)(s:Y5)(e:St)(H:Hp)(Q:Bool->Hp->Prop),Inv X h e H s->t e H Q->
  wpAny (model X.prog X.w) X.A (forIn f true λc r=>if r=true then do let ok <- isTrue c X.env (eval c X.env);pure (ForInStep.yield ok) else pure (ForInStep.yield r)) (TP X h e Q) X.xe s
def qho:TT:=λ_ H Q=>Q true H
def cR{X:Cx}:PTs X [] qho:=λ_ _ _ H _ I h=>wpAny_tests_nil #[H,I,h]
def gO{X:Cx}{c:rz}{t:TT}(h:PT X c t):PTs X [c] t:=λf s e H Q I hw=>wpAny_tests_one (h f s e H Q I hw)
def mX(n:QAH)(f:wX)(J:It)(g:TG)(u:TT)(v:TE)(D:J9)(σ:St)(H:Hp)(Q:Hp->Prop):Prop:=
 ∃o:Nat->Nat->St->Hp->Prop,(∃m,o 0 m (stC n f σ) H)/\∀i m e j,o i m e j->
  (J.stop i j/\Q j)\/(J.go i j/\∃N:St->Hp->Prop,(∀c h,N c h->∃p,p<m/\o (i+1) p c h)/\∀x h,J.UW i j x h->g x e h λc w=>u c w λb s=>
   if b=true then v c s λy r=>∃l,r D=some (.lst l)/\l.length<sizeLine/\N c (upd r D (.lst (l++[y]))) else N c s)
def Ig(e:QAH)(c:wX)(i:TI)(g:TG)(j:TT)(l:TE):TE:=λf H Q=>i f H λJ h=>∀D,h D=none->mX e c J g j l D f (upd h D (.lst [])) (Q (.ref D))
def Kf{M:Model}{A:lY}{E:QAB}{s:Y5}{i:Scope}{g:J9}{l:List (Str×Addr)}{c:Str}{f:Env}{Q:Env->Shared->Prop}
  (h:Q (newEnv i s.heap.objs.size g (cellsFrom (s.heap.objs.size+1) i.names l) c none .none (some f) builtinsNs) (blockAt i s)):wpAny M A (newFunctionEnv i g l [] c none .none (some f)) Q E s:=by
 simp only[newFunctionEnv,Option.isSome_some,if_true];refine qm3 (wpAny_alloc ?_);refine qm3 (wpAny_layCells _ (λname e cells=>by cases j:e == NameKind.cell <;> simp[j]) _ _ _ _ ?_);rw[show({s with heap:=s.heap.push {cls:=.type "dict",data:=.dict #[]}}:Shared).heap.objs.size=s.heap.objs.size+1 from qnV ..];rw[List.forIn_nil];exact qm3 (qm8 (qm8 h))
def Ob(X:Cx)(f:QAC)(σ:St)(Q:Hp->Prop)(C:J9)(r:Result)(e:Y5):Prop:=
 ∃c,r = .ok .next/\Inv X f σ c e/\(∃m,e.heap.Ns C m)/\pB X f c C/\Q c
structure wI(Y:Cx->Prop)(P:qd)(w:lW)(K:YZ)(tg:rz)(J:It)(fp:tR)(it:J9)(tn:Nat->Heap->Prop):Prop where
 mem:it∈fp
 obj:∀i h,tn i h->∀b∈fp,∃o,h.get? b=some o/\∀v,o.data≠.cell v
 keep:∀i h h',tn i h->(∀b∈fp,∀o,h.get? b=some o->h'.get? b=some o)->tn i h'
 item:∀(X:Cx),X.prog=P->X.w=w->X.K=K->Y X->∀(i:Nat)(p_:QAC)(s:Y5)(σ:St)(H:Hp)(E:QAB),Inv X p_ σ H s->(∀b∈fp,pB X p_ H b)->tn i s.heap->J.go i H->
  wpAny (model P w) X.A (pyNext (.ref it)) (λr s1=>∃u,r=some u/\
   wpAny (model P w) X.A (letOwnedTupleGo tg (.ref it) u) (λ_ s2=>∃x H',Inv X p_ σ H' s2/\RelV x u/\J.UW i H x H'/\tn (i+1) s2.heap/\∀b∈fp,H' b=none) E s1) E s
 done:∀(X:Cx),X.prog=P->X.w=w->X.K=K->Y X->∀(i:Nat)(p_:QAC)(s:Y5)(σ:St)(H:Hp)(E:QAB),Inv X p_ σ H s->(∀b∈fp,pB X p_ H b)->tn i s.heap->J.stop i H->
  wpAny (model P w) X.A (pyNext (.ref it)) (λr s1=>r=none/\Inv X p_ σ H s1) E s
 self:∀(A:lY)(i:Nat)(s:Y5)(Q:QAB)(E:QAB),tn i s.heap->Q (.ref it) s->wpAny (model P w) A (pyIter (.ref it)) Q E s
section
variable {P:qd}{w:lW}{K:YZ}{tg:rz}{J:It}{fp:tR}{it:J9}{tn:Nat->Heap->Prop}
def Turn.g(T:Turn P w K tg J fp it tn):wI (λX=>X.calm=true) P w K tg J fp it tn:=#[T.mem,T.obj,T.keep,T.item,T.done,T.self]
def wI.t(T:wI (λX=>X.calm=true) P w K tg J fp it tn):Turn P w K tg J fp it tn:=#[T.mem,T.obj,T.keep,T.item,T.done,T.self]
end
def PIG(Y:Cx->Prop)(X:Cx)(tg iter:rz)(n:TI):Prop:=
 ∀(e:QAC)(s:Y5)(c:St)(H:Hp)(R:It->Hp->Prop),Inv X e c H s->n c H R->
  wpAny (model X.prog X.w) X.A (eval iter X.env) (λv o=>wpAny (model X.prog X.w) X.A (pyIter v) (λf j=>∃(l:J9)(m:tR)(i:Nat->Heap->Prop)(J:It)(h:Hp),f = .ref l/\Inv X e c h j/\wI Y X.prog X.w X.K tg J m l i/\i 0 j.heap/\(∀b∈m,pB X e h b)/\R J h) X.xe o) X.xe s
theorem PI.g{X:Cx}{tg iter:rz}{c:TI}(h:PI X tg iter c):PIG (λX=>X.calm=true) X tg iter c:=λj s f H R I w=>
 cG (h j s f H R I w) λv y n=>cG n λl x ⟨m,o,i,J,u,e,p,T,r⟩=>#[m,o,i,J,u,e,p,T.g,r]
section
variable {X:Cx}{ps sc:Scope}{own pN:QAH}{caps:wX}{N:QAH}
def Dv{Y:Cx->Prop}{l:QAC}{σ:St}{H:Hp}{s:Y5}{E:QAB}{ac tg iter:rz}{ab:wZ}{pos:Pos}{J:It}{c:tR}{it D:J9}{tn:Nat->Heap->Prop}{g:TG}{tt:TT}{te:TE}{Q:Hp->Prop}
  (I:Inv X l σ H s) (ah:X.env.scope=ps) (al:X.N=pN) (S:aR ps sc pN own caps N) (T:wI Y X.prog X.w X.K tg J c it tn) (st:tn 0 s.heap) (hf:∀b∈c,pB X l H b) (hY:∀C s H c pn,Y (bU X sc N C s H c pn))
  (hg:∀C s H c pn,PG (bU X sc N C s H c pn) tg g) (ht:∀C s H c pn,PTs (bU X sc N C s H c pn) ab tt) (he:∀C s H c pn,PE (bU X sc N C s H c pn) ac te)
  (h:mX own caps J g tt te D σ H Q) :
  wpAny (model X.prog X.w) X.A (newFunctionEnv sc X.env.globals (N_ X.env sc.names) [] X.env.qual none .none (some X.env)) (λa0 s4=>
   codeAny (model X.prog X.w) X.A (.compStart (.ListComp ac [#[tg,iter,ab,0]] sc pos) 0 (.ref it) (.ref D) {a0 with scope:=relabel sc X.env}) (Ob X l σ Q a0.locals) s4) E s:=by
 obtain⟨dH,⟨m0,w0⟩,turn⟩:=h;refine Kf ?_;have ho:=T.obj 0 _ st;have I0:=ZS I ah al S hf ho;have aa:=Vc I ah S hf ho;have hk:∀b o,s.heap.get? b=some o->(blockAt sc s).heap.get? b=some o:=λb o e=>pushCells_keeps _ _ b o (qm4 _ e);have ag:tn 0 (blockAt sc s).heap:=T.keep 0 _ _ st λb _ o e=>hk b o e;have G:∀{L:Hp},(∀b∈c,L b=none)->∀b∈c,pB (bU X sc N s.heap.objs.size s H c (X.pn++l)) [] L b:=λhn b j=>
  #[hn b j,(aa.exf b j).1,aa.Nv b j,.inl j,(aa.exf b j).2,λp hp=>(hf b j).2.2.2.2.2 p (by rw[qnC] at hp;exact hp)]
 have U:codeAny (model X.prog X.w) X.A (.compLoop (.ListComp ac [#[tg,iter,ab,0]] sc pos) 0 (.ref it) (.ref D) (bU X sc N s.heap.objs.size s H c (X.pn++l)).env) (Ob X l σ Q s.heap.objs.size) (blockAt sc s):=by
  refine Oa (λn s'=>∃i B L,Inv (bU X sc N s.heap.objs.size s H c (X.pn++l)) [] B L s'/\tn i s'.heap/\(∀b∈c,L b=none)/\dH i n B L) ?_ m0 #[0,_,H,I0,ag,λb j=>(hf b j).1,w0];rintro n s3 ⟨i,O,H3,I3,af,ai,w3⟩
  rcases turn i n O H3 w3 with⟨ae,qn⟩|⟨go,N',hN,step⟩
  ·refine cG (T.done (bU X sc N s.heap.objs.size s H c (X.pn++l)) rfl rfl rfl (hY _ _ _ _ _) i [] s3 O H3 NoE I3 (G ai) af ae) λr s4 f=>?_;obtain⟨hr,I4⟩:=f;subst hr;obtain⟨m,hn,_⟩:=I4.loc;exact#[H3,rfl,WM I hf I4,#[m,hn],I.zY (qm5 _) I4.free,qn]
  ·refine cG (T.item (bU X sc N s.heap.objs.size s H c (X.pn++l)) rfl rfl rfl (hY _ _ _ _ _) i [] s3 O H3 NoE I3 (G ai) af go) λr s4 f=>?_;obtain⟨u,hr,h4⟩:=f;subst hr;refine cG h4 λ_ s5 f=>?_;obtain⟨x,H5,I5,r5,y5,U4,am⟩:=f;have an:=I5.pinned (G am) (T.obj _ _ U4);refine cG (hg _ _ _ _ _ _ s5 O H5 x u _ an r5 (step x H5 y5)) λ_ s6 f=>?_;obtain⟨M,H6,I6,q6⟩:=f;refine cG (ht _ _ _ _ _ _ s6 M H6 _ I6 q6) λb s7 f=>?_;obtain⟨H7,I7,q7⟩:=f;have again:∀{z:St}{H8:Hp}{s8:Y5},Inv (bU X sc N s.heap.objs.size s H c (X.pn++l)) ([]++zZ c s5.heap) z H8 s8->N' z H8->
     ∃m,m<n/\∃i B L,Inv (bU X sc N s.heap.objs.size s H c (X.pn++l)) [] B L s8/\tn i s8.heap/\(∀b∈c,L b=none)/\dH i m B L:=λ{z H8 s8} I8 n8=>by
    obtain⟨m',hm,w8⟩:=hN z H8 n8;refine#[m',hm,i+1,z,H8,I8.nZ,T.keep _ _ _ U4 λb j o e=>(I8.pin (b,o) (qnJ _ (qnJ _ (j_ j e)))).1,λb j=>?_,w8];obtain⟨o,e,d⟩:=T.obj _ _ U4 b j;exact(I8.pin (b,o) (qnJ _ (qnJ _ (j_ j e)))).2.1
   cases b with
   |false=>
    rw[if_neg qnq] at q7⊢;exact again I7 q7
   |true=>
    rw[if_pos rfl] at q7⊢;refine cG (he _ _ _ _ _ _ s7 M H7 _ I7 q7) λv s8 f=>?_;obtain⟨y,H8,I8,r8,ys,hD,hz,n8⟩:=f;refine cG (Ib (X:=bU X sc N s.heap.objs.size s H c (X.pn++l)) _ s8 M H8 (.ref D) [y] (.ref D) [v] (λ_ H9=>N' M H9) I8 rfl (.cons r8 .nil) #[D,ys,y,rfl,rfl,hD,hz,n8]) λ_ s9 f=>?_;obtain⟨_,H9,I9,_,n9⟩:=f;exact again I9 n9
 exact codeAny_compStart_list U (T.self X.A 0 _ _ _ ag U)
variable {elt tg iter:rz}{ifs:wZ}{pos:Pos}{wi:TI}{g:TG}{tt:TT}{te:TE}
def aR.locs(S:aR ps sc pN own caps N):∀x∈sc.names,x.2 = .local->sc.names.lookup x.1=some .local:=λx c e=>by rw[<- e];exact S.uniq x c
def Oc{Y:Cx->Prop}(l:X.env.scope=ps)(A:X.N=pN)(S:aR ps sc pN own caps N)(hY:∀C s H c i,Y (bU X sc N C s H c i))(hi:PIG Y X tg iter wi)
  (hg:∀C s H c i,PG (bU X sc N C s H c i) tg g) (U:∀C s H c i,PTs (bU X sc N C s H c i) ifs tt) (he:∀C s H c i,PE (bU X sc N C s H c i) elt te)
  (hs:∀x,foldedSetIterable iter X.env x=pure x:=by intro _;rfl):PE X (.ListComp elt [#[tg,iter,ifs,0]] sc pos) (Ig own caps wi g tt te):=by
 intro w s y H Q I h;rw[eval_ListComp];refine wpAny_comprehension_free (use:=none) rfl hs (t_ (S.cells l I.ok)) S.kind S.locs (cG (hi w s y H _ I h) λv s1 h1=>cG h1 λO f h2=>?_);obtain⟨it,c,tn,J,B,e,G,T,j,E,q⟩:=h2;subst e;have fr:B f.heap.objs.size=none:=G.fresh;refine qoX ?_;have I3:Inv X w y (upd B f.heap.objs.size (.lst [])) {f with heap:=f.heap.push {cls:=.type "list",data:=.seq ([]:QAE).toArray},toks:=f.toks}:=G.qcE (its:=[]) (ys:=[]) .nil (qnI _);have f3:∀b∈c,pB X w (upd B f.heap.objs.size (.lst [])) b:=λb n=>by
  obtain⟨o,e,_⟩:=T.obj 0 _ j b n;exact#[by rw[aF (qnf (qm9 e))];exact(E b n).1,(E b n).2]
 refine cG (Dv (iter:=iter) (pos:=pos) I3 l A S T (T.keep 0 _ _ j λb _ o e=>qm4 _ e) f3 hY hg U he (q _ fr)) λu s4 h4=>?_;refine qor h4 λr D ⟨L,hr,I5,⟨m,hn⟩,p,M⟩=>?_;subst hr;refine#[m,hn,λh' z=>?_];have I6:Inv X w y L {D with heap:=h',toks:=D.toks}:=I5.turned (it:=u.locals) (λb o n e=>(z.2 b n).trans e) p.1 p.2.1 p.2.2.2.1 p.2.2.2.2.1 p.2.2.2.2.2;exact#[.ref f.heap.objs.size,L,I6,rfl,M]
def cC(f:X.env.scope=ps)(h:X.N=pN)(S:aR ps sc pN own caps N)(o:X.calm=true)(l:PI X tg iter wi)
  (m:∀C s H e c,PG (bU X sc N C s H e c) tg g) (i:∀C s H e c,PTs (bU X sc N C s H e c) ifs tt) (n:∀C s H e c,PE (bU X sc N C s H e c) elt te)
  (j:∀x,foldedSetIterable iter X.env x=pure x:=by intro _;rfl):PE X (.ListComp elt [#[tg,iter,ifs,0]] sc pos) (Ig own caps wi g tt te):=Oc f h S (λ_ _ _ _ _=>o) l.g m i n j
def jj{i:Nat}{y:Str}{u f:Pos}(hN:X.N.Nodup)(hy:X.N[i]? = some y)(hl:X.env.scope.names.lookup y=some .local)(D:X.env.scope=ps)(U:X.N=pN)(S:aR ps sc pN own caps N)(hc:X.calm=true)(hi:PI X tg iter wi)
  (hg:∀C s H l w,PG (bU X sc N C s H l w) tg g) (ht:∀C s H l w,PTs (bU X sc N C s H l w) ifs tt) (he:∀C s H l w,PE (bU X sc N C s H l w) elt te)
  (L:swapsWith (.ListComp elt [#[tg,iter,ifs,0]] sc pos) (some (.Name y u)) f.line X.env=pure true:=by rfl)
  (hs:∀x,foldedSetIterable iter X.env x=pure x:=by intro _;rfl):PS X (.Assign [.Name y u] (.ListComp elt [#[tg,iter,ifs,0]] sc pos) f) (Zh (Ig own caps wi g tt te) (Dr i)):=by
 intro B s G H D0 I h;rw[exec_Assign_Name_used _ _ _ _ L];refine qm3 (wpAny_standAt (qm3 ?_));show wpAny _ X.A (do let _ <- comprehension (.ListComp elt [#[tg,iter,ifs,0]] sc pos) sc X.env _ (newList []) false (eval iter X.env) (some (assign (.Name y u) X.env))) _ _ s
 refine qm3 (qn8 (wpAny_comprehension_free (use:=some (assign (.Name y u) X.env)) (Q:=λ_ s'=>SP X B D0 .next s') rfl hs (t_ (S.cells D I.ok)) S.kind S.locs
  (cG (hi B s G H _ I h) λv s1 h1=>cG h1 λa0 c h2=>?_)) (λ_ s' hq=>qm8 (qm8 hq)) λ_ _ e=>e)
 obtain⟨it,l,tn,J,H2,e,I2,T,p,f2,q⟩:=h2;subst e;have fr:H2 c.heap.objs.size=none:=I2.fresh;refine qoX ?_;have I3:Inv X B G (upd H2 c.heap.objs.size (.lst [])) {c with heap:=c.heap.push {cls:=.type "list",data:=.seq ([]:QAE).toArray},toks:=c.toks}:=I2.qcE (its:=[]) (ys:=[]) .nil (qnI _);have f3:∀b∈l,pB X B (upd H2 c.heap.objs.size (.lst [])) b:=λb E=>by
  obtain⟨o,e,_⟩:=T.obj 0 _ p b E;exact#[by rw[aF (qnf (qm9 e))];exact(f2 b E).1,(f2 b E).2]
 refine cG (Dv (iter:=iter) (pos:=pos) I3 D U S T.g (T.keep 0 _ _ p λb _ o e=>qm4 _ e) f3 (λ_ _ _ _ _=>hc) hg ht he (q _ fr)) λj s4 h4=>?_;refine qor h4 λr s5 ⟨H5,hr,I5,⟨m,hn⟩,n,q5⟩=>?_;subst hr;show wpAny _ X.A (assign (.Name y u) X.env (.ref c.heap.objs.size)) _ _ _;refine wpAny_assign_Name (vI I5 hN hy (.inl hl) (v:=.ref c.heap.objs.size) rfl (λs6 I6 M=>?_) (.inr hl));obtain⟨a,sb,ha⟩:=M;have Y:j.locals≠a:=by
  rcases ha with z|z
  ·rw[z];exact n.2.1
  ·exact λe=>n.2.2.2.2.1 y a z e.symm
 refine#[m,hn.sameBut sb Y,λh' O=>?_];have I7:Inv X B (G.set i (some (.ref c.heap.objs.size))) H5 {s6 with heap:=h',toks:=s6.toks}:=I6.turned (it:=j.locals) (λb o E e=>(O.2 b E).trans e) n.1 n.2.1 n.2.2.2.1 n.2.2.2.2.1 n.2.2.2.2.2;exact#[_,H5,I7,q5]
end
section
variable {X:Cx}{p_:QAC}{σ:St}{H:Hp}{s:Y5}{h':oY}
def Inv.vJ{t':Nat}{ch:tR}(I:Inv X p_ σ H s)(k:∀b o,b∉ch->s.heap.get? b=some o->h'.get? b=some o)(h:∀b∈ch,pB X p_ H b):Inv X p_ σ H {s with heap:=h',toks:=t'}:=by
 refine I.step (g':=s.gens) (d':=s.drawn) (ch:=ch) (λb j=>#[(h b j).2.2.2.1,(h b j).2.1,(h b j).2.2.2.2.1,(h b j).2.2.2.2.2]) (λb o _ _ f e _=>k b o f e) (λb o _ _ f e _=>#[o.slots,k b o f e]) (λ_ _ _ _ n=>n)
  (λb o f e=>#[o,k b o f e]) (λ_ _ e=>e) (λ_ _ _ e=>e) (λb A e=>#[#[],by rw[e];simp]) (λm p=>?_) (λb u e=>?_) I.bare
 ·obtain⟨o,w,x,l,r⟩:=p;exact#[o,w,x,k _ o (λz=>(h _ z).2.1 rfl) l,r]
 ·refine(I.hok b u e).stay (λc v f q=>k c v (λz=>?_) q) (λ_ q=>q) λ_ _ q=>q;have i:=(h c z).1
  rcases f with y|y
  ·rw[y,e] at i;cases i
  ·rw[y] at i;cases i
end
def Its(x:Str):It:=#[λi _=>i<x.cps.size,λi H v e=>e=H/\∃c,x.cps[i]? = some c/\v = .str #[[c].toArray],λi _=>x.cps.size<=i]
def ZV{P:qd}{w:lW}{K:YZ}{tg:rz}(x:Str)(t:Tok)(it:J9):Turn P w K tg (Its x) [it] it (λi h=>h.IsStrIter it (strIterType x) x t i) where
 mem:=by simp
 obj:=λi h st b m=>by
  have e:b=it:=by simpa using m
  subst e;obtain⟨o,e,c,d⟩:=st;exact#[o,e,λv z=>by rw[d] at z;cases z]
 keep:=λi h f st k=>by
  obtain⟨o,e,c,d⟩:=st;exact#[o,k it (by simp) o e,c,d]
 item:=by
  intro X hP hw hK hc i J s G H E I L st p;subst hP hw hK;obtain⟨U,T,f2,O,N,M⟩:=L it (by simp);have B:x.cps[i]? = some (x.cps[i]'p):=Array.getElem?_eq_getElem p;have D:∀f,f.IsStrIter it (strIterType x) x t (i+1)->Heap.SameBut it s.heap f->∃u,(some (Value.str #[[x.cps[i]'p].toArray] s.toks))=some u/\
    wpAny (model X.prog X.w) X.A (letOwnedTupleGo tg (.ref it) u) (λ_ s2=>∃y r,Inv X J G r s2/\RelV y u/\(Its x).UW i H y r/\s2.heap.IsStrIter it (strIterType x) x t (i+1)/\∀b∈[it],r b=none) E {s with heap:=f,toks:=s.toks+1}:=λf l C=>by
   have I1:Inv X J G H {s with heap:=f,toks:=s.toks+1}:=I.turned (λb o m e=>(C.2 b m).trans e) U T O N M;refine#[_,rfl,?_];have Y:∃y r,Inv X J G r {s with heap:=f,toks:=s.toks+1}/\RelV y (Value.str #[[x.cps[i]'p].toArray] s.toks)/\(Its x).UW i H y r/\f.IsStrIter it (strIterType x) x t (i+1)/\∀b∈[it],r b=none:=
    #[.str #[[x.cps[i]'p].toArray],H,I1,#[_,rfl],#[rfl,_,B,rfl],l,λb m=>(L b m).1]
   unfold letOwnedTupleGo;cases tg <;> exact qm8 Y
  by_cases n:x.cps.all (· < 128)=true
  ·have j:strIterType x = "str_ascii_iterator" :=by unfold strIterType;rw[if_pos n]
   rw[j] at st;exact wpAny_pyNext_ascii_item st B λf l C=>D f (by rw[j];exact l) C
  ·have j:strIterType x = "str_iterator" :=by unfold strIterType;rw[if_neg n]
   rw[j] at st;exact wpAny_pyNext_wide_item st B λf l C=>D f (by rw[j];exact l) C
 done:=by
  intro X hP hw hK hc i J s G H E I L st p;subst hP hw hK;obtain⟨U,T,f2,O,N,M⟩:=L it (by simp);have B:x.cps[i]? = none:=Array.getElem?_eq_none p
  by_cases n:x.cps.all (· < 128)=true
  ·have j:strIterType x = "str_ascii_iterator" :=by unfold strIterType;rw[if_pos n]
   rw[j] at st;exact wpAny_pyNext_ascii_end (I.ok.hd hc) st B λf eb=>#[rfl,I.turned (t':=s.toks) (λb o m e=>eb b o m e) U T O N M]
  ·have j:strIterType x = "str_iterator" :=by unfold strIterType;rw[if_neg n]
   rw[j] at st;exact wpAny_pyNext_wide_end (I.ok.hd hc) st B λf eb=>#[rfl,I.turned (t':=s.toks) (λb o m e=>eb b o m e) U T O N M]
 self:=λA i s Q E st h=>by
  by_cases n:x.cps.all (· < 128)=true
  ·have j:strIterType x = "str_ascii_iterator" :=by unfold strIterType;rw[if_pos n]
   rw[j] at st;exact wpAny_pyIter_striter_ascii st h
  ·have j:strIterType x = "str_iterator" :=by unfold strIterType;rw[if_neg n]
   rw[j] at st;exact wpAny_pyIter_striter_wide st h
section
variable {X:Cx}{tg:rz}
def qfn(e:TE):TI:=λc H R=>e c H λx f=>∃z,x = .str z/\R (Its z) f
def qfo{l:rz}{i:TE}(u:PE X l i):PI X tg l (qfn i):=by
 intro r s j H R I h;refine cG (u r s j H _ I h) λv c m=>?_;obtain⟨x,y,f,n,p⟩:=m;obtain⟨z,e,q⟩:=p;subst e;obtain⟨t,rfl⟩:=n;refine wpAny_pyIter_strU ?_;refine#[c.heap.objs.size,[c.heap.objs.size],_,_,y,rfl,f.kept (t':=c.toks) λb o e=>qm4 _ e,ZV z t _,#[_,qne _ rfl,rfl,rfl],λb w=>?_,q];have e:b=c.heap.objs.size:=by simpa using w
 subst e;exact f.zY (qm5 _) (f.hok.fresh (qm5 _))
end
def WQ(K:YZ)(a b:J9):It:=
 #[λi H=>∃e c x y,aV K H a e/\aV K H b c/\e[i]? = some x/\c[i]? = some y,
  λi H v f=>∃t x y,v = .ref t/\H t=none/\f=upd H t (.tup [x,y])/\(∀e,aV K H a e->e[i]? = some x)/\∀c,aV K H b c->c[i]? = some y,
  λi H=>∃e c,aV K H a e/\aV K H b c/\(e.length<=i\/c.length<=i)]
structure Od(z TI TO i1 i2 a b:J9)(i:Nat)(h:oY):Prop where
 hz:IsZip h z TI TO .none
 hI:IsPair h TI (.ref i1) (.ref i2)
 hO:∃p q,IsPair h TO p q
 h1:h.IsListIter i1 a i
 h2:h.IsListIter i2 b i
def jy{h:oY}{a b:J9}{o u:Obj}{T U:String}(j:h.get? a=some o)(f:h.get? b=some u)(m:o.cls = .type T)(i:u.cls = .type U)(c:T≠U):a≠b:=λe=>by
 subst e;rw[j] at f;cases f;rw[m] at i;injection i with l;exact c l
def z9{h:oY}{z TI TO v u a b:J9}{i:Nat}{p q:eH}{w ob:Obj}(s:v≠u)(x:TI≠TO)(st:Od z TI TO v u a b i h)(c:IsPair h TO p q)(n:h.get? a=some w) (r:w.cls = .type "list") (m:h.get? b=some ob) (o:ob.cls = .type "list"):ZipApart z TI TO v u a b:=by
  obtain⟨A,f,l,_⟩:=id st.h1;obtain⟨y,e,j,_⟩:=id st.h2;exact#[jy st.hI st.hz rfl rfl (by decide),jy c st.hz rfl rfl (by decide),jy f st.hz l rfl (by decide),jy e st.hz j rfl (by decide),x,jy st.hI f rfl l (by decide),jy st.hI e rfl j (by decide),
    jy c f rfl l (by decide),jy c e rfl j (by decide),s,jy n st.hz r rfl (by decide),jy n c r rfl (by decide),jy n f r l (by decide),jy n e r j (by decide),
    jy m st.hz o rfl (by decide),jy m c o rfl (by decide),jy m f o l (by decide),jy m e o j (by decide)]
def Ih{Y:Cx->Prop}{Q:Nat->Hp->Prop}{P:qd}{w:lW}{K:YZ}{es:wZ}{k:Nat}{pos:Pos}{z TI TO L J a b:J9}(ab:L≠J)(nT:TI≠TO)
  (hd:∀(X:Cx),X.K=K->Y X->∀(i:Nat)(C:QAC)(s:Y5)(σ:St)(H:Hp)(E:QAB),Inv X C σ H s->(∀c∈[z,TI,TO,L,J],pB X C H c)->Od z TI TO L J a b i s.heap->Q i H->wpAny (model X.prog X.w) X.A (pyNext (.ref z)) (λr s1=>r=none/\Inv X C σ H s1) E s) :
  wI Y P w K (.Tuple es k pos) #[(WQ K a b).go,(WQ K a b).UW,Q] [z,TI,TO,L,J] z (Od z TI TO L J a b) where
 mem:=by simp
 obj:=λi h st c B=>by
  simp only[qnc,qnF,qoD] at B
  rcases B with rfl|rfl|rfl|rfl|rfl
  ·exact#[_,st.hz,λv e=>nomatch e]
  ·exact#[_,st.hI,λv e=>nomatch e]
  ·obtain⟨p,q,e⟩:=st.hO;exact#[_,e,λv e=>nomatch e]
  ·obtain⟨o,e,_,d⟩:=st.h1;exact#[o,e,λv y=>by rw[d] at y;cases y]
  ·obtain⟨o,e,_,d⟩:=st.h2;exact#[o,e,λv y=>by rw[d] at y;cases y]
 keep:=λi h h' st G=>by
  obtain⟨p,q,e⟩:=st.hO;exact#[G z (by simp) _ st.hz,G TI (by simp) _ st.hI,#[p,q,G TO (by simp) _ e],st.h1.at λo e=>G L (by simp) o e,st.h2.at λo e=>G J (by simp) o e]
 item:=by
  intro X hP hw hK _ i C s σ H E I hf st hg;subst hP hw hK;obtain⟨xs,ys,x,y,qa,qb,hx,hy⟩:=hg;obtain⟨al,rv,pl,an⟩:=I.list qa;obtain⟨ag,a0,YX,am⟩:=I.list qb;obtain⟨u,hu,ru⟩:=rv.get hx;obtain⟨u',ae,aa⟩:=a0.get hy;obtain⟨p,q,N⟩:=st.hO;obtain⟨oa,ea,ca,_⟩:=id pl.isList;obtain⟨ob,eb,cb,_⟩:=id YX.isList;obtain⟨o1,e1,c1,_⟩:=id st.h1;obtain⟨o2,e2,c2,_⟩:=id st.h2;have D:ZipApart z TI TO L J a b:=z9 ab nT st N ea ca eb cb;refine wpAny_pyNext_zip_item D st.hz st.hI N st.h1 st.h2 pl.isList YX.isList (x:=u) (y:=u') (by simpa using hu) (by simpa using ae) λh' a1 a2 a3 a4 a5 a6 G=>?_;refine#[_,rfl,wpAny_letOwnedTupleGo_zip a1 λh2 b1 O=>?_];have lt:∀{c o},s.heap.get? c=some o->s.heap.objs.size≠c:=λe=>qoF (qm9 e);have hn:H s.heap.objs.size=none:=I.hok.fresh (qm5 _);have ac:∀c o,c∉[z,TI,TO,L,J]->s.heap.get? c=some o->h2.get? c=some o:=λc o B e=>by
   simp only[qnc,qnF,qoD,not_or] at B;exact(O.2 c B.1).trans (G c o B.1 B.2.2.1 B.2.2.2.1 B.2.2.2.2 e)
  have f:Inv X C σ H {s with heap:=h2,toks:=s.toks}:=I.vJ ac hf;have Oe:IsPair h2 s.heap.objs.size u u':=O.extBut _ _ (lt st.hz) a5;have I2:Inv X C σ (upd H s.heap.objs.size (.tup [x,y])) {s with heap:=h2,toks:=s.toks}:=by
   have j:H s.heap.objs.size=none:=hn;refine#[f.ok,f.os,f.bare,#[f.base.keep,f.base.slot,λc o e n hx=>?_,f.base.there,λc zs e=>?_,λc o v e=>?_,λc qs e=>?_],f.loc,f.cell,?_,λv c e=>?_,λv hv=>?_,?_,f.len]
   ·rw[aF (λl=>?_)]
    ·exact f.base.free c o e n hx
    ·exact absurd (qnj (qm9 e) I.sz) (by rw[l];exact qoj _)
   ·have l:=f.base.tups c zs e;rw[aF (aU l j)];exact l
   ·have l:=f.base.ug c o v e;rw[aF (aU l j)];exact l
   ·obtain⟨m,l⟩:=f.base.uh c qs e;exact#[m,by rw[aF (aU l j)];exact l]
   ·rw[aF (qnf I.lt)];exact f.free
   ·obtain⟨w',qc⟩:=I.cell v c e;rw[aF (qnf qc.lt)];exact f.iR v c e
   ·obtain⟨f1,f2,f3⟩:=f.pin v hv;refine#[f1,?_,f3];rw[aF (qnf (qm9 (I.pin v hv).1))];exact f2
   ·intro c v e
    by_cases U:c=s.heap.objs.size
    ·subst U;rw[ak] at e;cases e;exact#[by show 2<=sizeLine;rw[qpN];decide,[u,u'],.cons ru (.cons aa .nil),#[_,Oe,rfl,0,rfl]]
    ·rw[aF U] at e;refine(f.hok c v e).stay (λ_ _ _ qq=>qq) (λd T=>?_) λd zs T=>?_
     ·rw[aF (aU T j)];exact T
     ·rw[aF (aU T j)];exact T
  refine#[.ref s.heap.objs.size,_,I2,rfl,#[s.heap.objs.size,x,y,rfl,hn,rfl,λai q'=>by rw[I.ur q' qa];exact hx,λah q'=>by rw[I.ur q' qb];exact hy],?_,λc M=>?_]
  ·exact#[b1,O.extBut _ _ D.TIz (G _ _ D.TIz D.TITO D.TIi1 D.TIi2 st.hI),#[_,_,O.extBut _ _ D.TOz a2],a3.extBut O.extBut D.i1z,a4.extBut O.extBut D.i2z]
  ·have af:c≠s.heap.objs.size:=by
    simp only[qnc,qnF,qoD] at M
    rcases M with rfl|rfl|rfl|rfl|rfl
    ·exact(lt st.hz).symm
    ·exact(lt st.hI).symm
    ·exact(lt N).symm
    ·exact(lt e1).symm
    ·exact(lt e2).symm
   rw[aF af];exact(hf c M).1
 done:=by
  intro X hP hw hK hY i C s σ H E I hf st hg;subst hP hw;exact hd X hK hY i C s σ H E I hf st hg
 self:=λ_ _ _ _ _ st h=>wpAny_pyIter_zip st.hz h
def ZW{P:qd}{w:lW}{K:YZ}{U:wZ}{k:Nat}{pos:Pos}{z TI TO m l a b:J9}(h:m≠l)(v:TI≠TO) :
  Turn P w K (.Tuple U k pos) (WQ K a b) [z,TI,TO,m,l] z (Od z TI TO m l a b):=by
 refine wI.t (Ih h v ?_);intro X T Q i p_ s σ H E I O st N;subst T;obtain⟨xs,ys,C,B,r⟩:=N;obtain⟨J,A,u,M⟩:=I.list C;obtain⟨x,n,y,L⟩:=I.list B;obtain⟨p,q,j⟩:=st.hO;obtain⟨oa,ea,ca,_⟩:=id u.isList;obtain⟨ob,Y,cb,_⟩:=id y.isList;have D:ZipApart z TI TO m l a b:=z9 h v st j ea ca Y cb;have l1:=A.length;have l2:=n.length;refine wpAny_pyNext_zip_end (I.ok.hd Q) D st.hz st.hI j st.h1 st.h2 u.isList y.isList ?_ λh' G=>#[rfl,I.vJ (t':=s.toks) (λc o f e=>?_) O]
 ·rcases r with r|r
  ·exact .inl (by simp;lia)
  ·exact .inr (by simp;lia)
 ·simp only[qnc,qnF,qoD,not_or] at f;exact G c o f.1 f.2.2.1 f.2.2.2.1 f.2.2.2.2 e
section
variable {X:Cx}
def qcF(K:YZ)(t:TA):TI:=λe H R=>t e H λi c=>∃a b h f,i=[.ref a,.ref b]/\aV K c a h/\aV K c b f/\R (WQ K a b) c
def boot_zip:bootBuiltins "zip" = some (.type "zip"):=by decide+kernel
def qfp{es:wZ}{k:Nat}{i:Pos}{a b:rz}{o:TA}{p pos:Pos} (hg:Gl X "zip") (hm:X.mg "zip" = none) (ha:PA X [a,b] o)
  (hs:starEach [a,b] X.env=[(false,eval a X.env),(false,eval b X.env)]:=by rfl) (j:starEach [b] X.env=[(false,eval b X.env)]:=by rfl) :
  PI X (.Tuple es k i) (.Call (.Name "zip" p) [a,b] [] pos) (qcF X.K o):=by
 intro w s n H R I h;refine Call_ (mz I hg hm boot_zip (qnX (cG (ha pos w s n H _ I h) λus f B=>?_) (by rw[hs,j]) (by rw[j];rfl)));obtain⟨vs,A,m,D,L⟩:=B;obtain⟨O,N,xs,ys,e,J,G,q⟩:=L;subst e;obtain⟨u,v,rfl,r,E⟩:=D.two;obtain rfl:u=Value.ref O:=r;obtain rfl:v=Value.ref N:=E;obtain⟨T,rv,M,Y⟩:=m.list J;obtain⟨x,C,YX,U⟩:=m.list G;refine call_zip_2 M.isList YX.isList λz b1 b2 b3 b4 b5 b6 Q=>?_;refine wpAny_pyIter_zip (s:={f with heap:=z}) b1 ?_;have I2:Inv X w n A {f with heap:=z}:=m.kept (t':=f.toks) Q;refine#[f.heap.objs.size+4,[f.heap.objs.size+4,f.heap.objs.size+2,f.heap.objs.size+3,f.heap.objs.size,f.heap.objs.size+1],_,_,A,rfl,I2,ZW (qnf (qoi _)) (qnf (qoi (f.heap.objs.size+2))),#[b1,b2,#[_,_,b3],b4,b5],λc y=>?_,q];have l:f.heap.objs.size<=c:=by
  simp only[qnc,qnF,qoD] at y
  rcases y with rfl|rfl|rfl|rfl|rfl <;> first|exact qpW _ _|exact qm5 _
 exact m.zY l (m.hok.fresh l)
end
section
variable {X:Cx}{p_:QAC}{σ:St}{H:Hp}{s:Y5}
def mD.kit{x:V}{u t:eH}(I:Inv X p_ σ H s)(c:RelV x u)(ty:mD X.K H x t):∃Φ,W.KitX X.K u t Φ/\Φ s.heap/\u≠.builtin "__main__.__loader__#opaque" :=by
 cases ty with
 |non=>cases (show u=Value.none from c);exact#[_,W.kitx_none,True.intro,λz=>nomatch z]
 |bl y=>cases (show u=Value.bool y from c);exact#[_,W.kitx_bool,True.intro,λz=>nomatch z]
 |int i=>obtain⟨t,q⟩:=(show ∃t,u=Value.int i t from c);cases q;exact#[_,W.kitx_int,True.intro,λz=>nomatch z]
 |str y=>obtain⟨t,q⟩:=(show ∃t,u=Value.str y t from c);cases q;exact#[_,W.kitx_str,True.intro,λz=>nomatch z]
 |flt y=>obtain⟨t,q⟩:=(show ∃t,u=Value.float y t from c);cases q;exact#[_,W.kitx_float,True.intro,λz=>nomatch z]
 | @lst a j e=>
  cases (show u=Value.ref a from c);obtain⟨_,_,n,_,f⟩:=(show cD X.prog X.w H s.heap a (.lst j) from I.hok a _ e);exact#[_,W.kitx_list,#[_,f,rfl],λz=>nomatch z]
 | @Nq a v j e=>
  cases (show u=Value.ref a from c);obtain⟨_,_,_,n,_,f⟩:=(show cD X.prog X.w H s.heap a (.Nq v (.lst j)) from I.hok a _ e);exact#[_,W.kitx_list,#[_,f,rfl],λz=>nomatch z]
 | @tup a j e=>
  cases (show u=Value.ref a from c);obtain⟨_,_,_,p⟩:=(show cD X.prog X.w H s.heap a (.tup j) from I.hok a _ e);obtain⟨o,f,l,_⟩:=p;exact#[_,W.kitx_tuple,#[o,f,l],λz=>nomatch z]
 | @dK a h e=>
  cases (show u=Value.ref a from c);obtain⟨_,_,L,_,p⟩:=(show cD X.prog X.w H s.heap a (.dK h) from I.hok a _ e);obtain⟨o,E,G,f,l,_⟩:=p;exact#[_,W.kitx_dict,#[o,f,l.1],λz=>nomatch z]
 | @dT a h e=>
  cases (show u=Value.ref a from c);obtain⟨_,_,j,_,o,E,G,f,l,_⟩:=(show cD X.prog X.w H s.heap a (.dT h) from I.hok a _ e);exact#[_,W.kitx_dict,#[o,f,l.1],λz=>nomatch z]
 | @ins a C Q fs e r D A m B=>
  cases (show u=Value.ref a from c);obtain⟨N,O,_⟩:=yq I.hok e;obtain⟨M,J,_⟩:=O.look;exact#[_,W.kitx_own (r.get _) r.hd D A m B,J,λz=>nomatch z]
def WR:cJ X (.builtin "isinstance") (λxs H Q=>∃x n t b,xs=[x,.ty n]/\mD X.K H x t/\W.kitOne X.K t (.type n)=some b/\Q (.bl b) H):=by
 intro p_ s σ H xs j Q I r h;obtain⟨x,n,t,b,rfl,ty,e,q⟩:=h;obtain⟨u,v,rfl,f,i⟩:=r.two;obtain rfl:v=Value.type n:=i;exact Wx I f ty e λc=>#[.bl b,H,I.tok c,rfl,q]
def WT:cJ X (.builtin "isinstance") (λxs H Q=>∃x p m n t b,xs=[x,.ref p]/\H p=some (.tup [.ty m,.ty n])/\mD X.K H x t/\W.kitAny X.K t [.type m,.type n]=some b/\Q (.bl b) H):=by
 intro p_ s σ H xs O Q I r h;obtain⟨x,p,m,n,t,b,rfl,L,ty,e,q⟩:=h;obtain⟨u,v,rfl,B,D⟩:=r.two;obtain rfl:v=Value.ref p:=D;obtain⟨Φ,Z,f,i⟩:=ty.kit I B;obtain⟨_,J,C,o,M,l,k,j⟩:=(show cD X.prog X.w H s.heap p (.tup [.ty m,.ty n]) from I.hok p _ L);obtain⟨z,y,rfl,G,E⟩:=C.two;obtain rfl:z=Value.type m:=G;obtain rfl:y=Value.type n:=E;obtain⟨c,U,N,T⟩:=o;replace l:c = .type "tuple" :=l;replace j:N = .seq [Value.type m,Value.type n].toArray k:=j;subst l j;exact W.kia_tup Z I.pA f M e i λA=>#[.bl b,H,I.tok A,rfl,q]
def boot_isinstance:bootBuiltins "isinstance" = some (.builtin "isinstance"):=by decide+kernel
def boot_str:bootBuiltins "str" = some (.type "str"):=by decide+kernel
def boot_list:bootBuiltins "list" = some (.type "list"):=by decide+kernel
def boot_tuple:bootBuiltins "tuple" = some (.type "tuple"):=by decide+kernel
def nF:bootBuiltins "int" = some (.type "int"):=by decide+kernel
def Dw:bootBuiltins "bool" = some (.type "bool"):=by decide+kernel
def RK:bootBuiltins "dict" = some (.type "dict"):=by decide+kernel
def Ii:bootBuiltins "set" = some (.type "set"):=by decide+kernel
end
mutual
def Is(K:YZ)(H:Hp):PyData->V->Prop
 |.none,v=>v = .non
 |.bool b,v=>v = .bl b
 |.int i,v=>v = .int i
 |.str x,v=>v = .str x
 |.list c,v=>∃a xs,v = .ref a/\aV K H a xs/\ud K H c xs
 |.tuple c,v=>∃a xs,v = .ref a/\cO K H a xs/\ud K H c xs
 |.dict _,_=>False
def ud(K:YZ)(H:Hp):List PyData->List V->Prop
 |[],vs=>vs=[]
 |d::c,vs=>∃v r,vs=v::r/\Is K H d v/\ud K H c r
end
section
variable {X:Cx}{p_:QAC}{σ:St}{H:Hp}{s:Y5}
mutual
theorem Is.reads(I:Inv X p_ σ H s):∀(d:PyData)(v:V)(u:eH),Is X.K H d v->RelV v u->∃as,Reads s.heap u d as
 |.none,v,u,h,r=>by
  simp only[Is] at h;subst h;cases r;exact#[_,.none]
 |.bool b,v,u,h,r=>by
  simp only[Is] at h;subst h;cases r;exact#[_,.bool b]
 |.int i,v,u,h,r=>by
  simp only[Is] at h;subst h;obtain⟨t,rfl⟩:=r;exact#[_,.int i t]
 |.str x,v,u,h,r=>by
  simp only[Is] at h;subst h;obtain⟨t,rfl⟩:=r;exact#[_,.str x t]
 |.list A,v,u,h,r=>by
  simp only[Is] at h;obtain⟨a,j,rfl,y,w⟩:=h;cases r;obtain⟨f,l,p,B⟩:=I.list y;obtain⟨o,e,c,n,z⟩:=p.isList;obtain⟨as,m⟩:=ud.reads I A j f w l;exact#[_,.list e c z (by simpa using m)]
 |.tuple A,v,u,h,r=>by
  simp only[Is] at h;obtain⟨a,j,rfl,y,w⟩:=h;cases r;obtain⟨f,l,p,B⟩:=I.tuple y;obtain⟨o,e,c,n,z⟩:=p;obtain⟨as,m⟩:=ud.reads I A j f w l;exact#[_,.tuple e c z (by simpa using m)]
 |.dict _,v,u,h,r=>by
  simp only[Is] at h
theorem ud.reads(I:Inv X p_ σ H s):∀(c:List PyData)(vs:QA0)(us:QAE),ud X.K H c vs->Vals vs us->∃as,ReadsAll s.heap us c as
 |[],vs,us,h,r=>by
  simp only[ud] at h;subst h;cases r;exact#[_,.nil]
 |d::c,vs,us,h,r=>by
  simp only[ud] at h;obtain⟨v,e,rfl,n,m⟩:=h;cases r with
  |cons l j=>
   obtain⟨as,i⟩:=Is.reads I d v _ n l;obtain⟨bs,f⟩:=ud.reads I c e _ m j;exact#[_,.cons i f]
end
def qfq:iD X (compareOp .Eq) (λx y H Q=>∃d e,Is X.K H d x/\Is X.K H e y/\d.canLay0=true/\e.canLay0=true/\X.A.units+min d.depth e.depth<cLine/\Q (.bl (PyData.eqv d e)) H):=by
 intro w s r H x y v u Q I f c h;obtain⟨d,e,m,l,p,o,n,q⟩:=h;obtain⟨as,j⟩:=m.reads I d x v f;obtain⟨bs,i⟩:=l.reads I e y u c;exact SeqAt.compareEq_reads j i p o n #[.bl _,H,I,rfl,q]
def qfr:iD X (compareOp .NotEq) (λx y H Q=>∃d e,Is X.K H d x/\Is X.K H e y/\d.canLay0=true/\e.canLay0=true/\X.A.units+min d.depth e.depth<cLine/\Q (.bl (!PyData.eqv d e)) H):=by
 intro w s r H x y v u Q I f c h;obtain⟨d,e,m,l,p,o,n,q⟩:=h;obtain⟨as,j⟩:=m.reads I d x v f;obtain⟨bs,i⟩:=l.reads I e y u c;exact SeqAt.compareNe_reads j i p o n #[.bl _,H,I,rfl,q]
end
section
variable {X:Cx}
def Kg:V->List V->Hp->VK->Prop:=λx e H Q=>∃l c i y,x = .ref l/\e=[.int i,y]/\H l=some (.lst c)/\0<=i/\i<=c.length/\c.length<sizeLine/\Q .non (upd H l (.lst (c.take i.toNat++y::c.drop i.toNat)))
def Vals.ins{y:V}{u:eH}(c:RelV y u):∀{xs:QA0}{us:QAE}(i:Nat),Vals xs us->Vals (xs.take i++y::xs.drop i) (us.take i++u::us.drop i):=λi r=>(r.take i).append (.cons c (r.drop i))
def WW:MtM X "list.insert" Kg:=by
 intro G s A H x C v D Q I m o h;obtain⟨l,B,i,y,rfl,rfl,j,O,N,J,q⟩:=h;cases m;obtain⟨E,u,rfl,⟨t,rfl⟩,p⟩:=o.two;obtain⟨z,c,n,r,M,e⟩:=I.Kd j;have L:=xr;have f:¬(!Builtin.List.listFitsIndex i)=true:=by
  unfold Builtin.List.listFitsIndex;simp;lia
 refine call_meets F.slot_list_insert #[_,e,rfl] F.entry_list_insert (F.args_list_insert_3 _ _ _) (PySem.AutoListH.list_insert_list_int_val_1 l c.toArray n i t u f (by rw[qnm];lia)) #[e,?_];refine#[.non,_,I.qfj (its':=c.take i.toNat++u::c.drop i.toNat) j e ?_ (r.ins p i.toNat) ?_,rfl,q]
 ·have w:min i.toNat c.length=i.toNat:=⋯
  simp only[qnm];rw[if_neg ⋯,w];apply Array.toList_inj.mp;simp;exact qon (by simp)
 ·simp;lia
def pH:List V->List Bool->Prop
 |[],bs=>bs=[]
 |x::xs,bs=>∃b r,bs=b::r/\x = .bl b/\pH xs r
theorem pH.get:∀{xs:QA0}{bs:List Bool}{its:QAE},pH xs bs->Vals xs its->xs.length=bs.length/\∀(i:Nat)(v:eH),its[i]? = some v->v = .bool (bs.getD i false)
 |[],bs,its,h,r=>by
  cases h;cases r;exact#[rfl,λi v e=>by simp at e]
 |x::xs,bs,its,h,r=>by
  obtain⟨b,m,rfl,rfl,h⟩:=h;cases r with
  |cons f c=>
   obtain⟨l,j⟩:=pH.get h c;refine#[by simp[l],λi v e=>?_];cases i with
   |zero=>
    simp at e;subst e;exact f
   |succ i=>
    simp at e;simpa using j i v e
def range_all(bs:List Bool):(List.range bs.length).all (λi=>bs.getD i false)=bs.all id:=by
 rw[qou,qnk,qnk];constructor
 ·intro h b f;obtain⟨i,e,rfl⟩:=qpO.mp f;have:=h i (qnD.mpr e);simpa [List.getD,e] using this
 ·intro h i e;have c:=qnD.mp e;have:=h bs[i] (List.getElem_mem c);simpa [List.getD,c] using this
def WX(A:X.calm=true):cJ X (.builtin "all") (λxs H Q=>∃a ys bs,xs=[.ref a]/\H a=some (.lst ys)/\pH ys bs/\Q (.bl (bs.all id)) H):=by
 intro U s N H xs O Q I r h;obtain⟨a,ys,bs,rfl,C,B,q⟩:=h;obtain⟨u,rfl,w⟩:=r.one;obtain rfl:u=Value.ref a:=w;obtain⟨z,c,n,p,y,e⟩:=I.Kd C;obtain⟨L,J⟩:=B.get p;have G:s.heap.IsList a c.toArray:=#[_,e,rfl,n,rfl];refine call_all_walk ?_;refine qoW G ?_;have f:a≠s.heap.objs.size:=qnf (qm9 e);have j:(s.heap.push {cls:=.type "list_iterator",data:=.fields [.ref a,.int 0 0].toArray}).IsList a c.toArray:=#[_,qm4 _ e,rfl,n,rfl];refine#[s.heap.objs.size,_,_,_,_,_,λi=>bs.getD i false,rfl,Walks.list (by exact I.ok.hd A) s.heap.objs.size a f c.toArray,#[#[_,qne _ rfl,rfl,rfl],j],λi v T Y E' E D=>?_,λh' m x=>?_]
 ·obtain rfl:=J i v (by simpa using E);exact qok D
 ·have M:(List.range c.toArray.size).all (λi=>bs.getD i false)=bs.all id:=by
   rw[qnm,<- y,L];exact range_all bs
  rw[M];refine#[.bl _,H,?_,rfl,q];exact I.kept (h':=h') (t':=m) λb o l=>x b o (by simp;exact qnf (qm9 l)) (qm4 _ l)
end
def Kh(l:List Key)(k:Key):Bool:=l.any λx=>decide (x=k)
def ZX{l:List Key}{k:Key}:Kh l k=true↔k∈l:=by
 unfold Kh;rw[qoQ];constructor
 ·rintro⟨x,c,e⟩;have f:=qnb e;subst f;exact c
 ·intro h;exact#[k,h,qnE rfl]
def Z0(l:List Key)(x k:Key):Kh (l++[x]) k=(Kh l k || decide (k=x)):=by
 unfold Kh;rw[List.any_append];simp only[qpk,List.any_nil,Bool.or_false];congr 1;exact decide_eq_decide.mpr #[λe=>e.symm,λe=>e.symm]
def z_(c:List Key)(k:Key):List Key:=if Kh c k=true then c else c++[k]
def G3(val:Nat->Key)(i:Nat):List Key:=((List.range i).map val).foldl z_ []
def yx(val:Nat->Key)(i:Nat):G3 val (i+1)=z_ (G3 val i) (val i):=by
 unfold G3;rw[List.range_succ,qn3,List.foldl_append];rfl
theorem Z1(val:Nat->Key):∀i,(G3 val i).length<=i
 |0=>qm5 _
 |i+1=>by
  rw[yx];have ih:=Z1 val i;unfold z_;split
  ·lia
  ·rw[qnT,qpG];lia
theorem RL(val:Nat->Key):∀n,(∀i j,i<n->j<n->val i=val j->i=j)->(G3 val n).length=n/\∀k,k∈G3 val n->∃i,i<n/\val i=k
 |0,_=>#[rfl,λk h=>by simp[G3] at h]
 |n+1,h=>by
  obtain⟨p,l⟩:=RL val n λi j f r=>h i j ⋯ ⋯;have c:¬Kh (G3 val n) (val n)=true:=λm=>by
   obtain⟨i,f,e⟩:=l _ (ZX.mp m);have:=h i n ⋯ ⋯ e;lia
  rw[yx];unfold z_;rw[if_neg c];refine#[by simp[p],λk o=>?_]
  rcases qnw.mp o with z|z
  ·obtain⟨i,f,e⟩:=l k z;exact#[i,∅,e]
  ·exact#[n,⋯,(qn4.mp z).symm]
def qcG{k:Key}{v:eH}(h:uq k v=true):v.scannable=true:=by
 rcases dZ h with⟨i,t,rfl,rfl⟩|⟨x,t,rfl,rfl⟩ <;> rfl
def Og{P:qd}{w:lW}{h:oY}{a:J9}{S c:Key->Bool}{n f:Nat}(x:h.SetOf (bV P w) a S n)(e:∀k,S k=c k)(i:n=f):h.SetOf (bV P w) a c f:=by
 have:S=c:=funext e;subst this;subst i;exact x
abbrev pI(P:qd)(w:lW)(h:oY)(a:J9)(l:List Key):Prop:=h.SetOf (bV P w) a (Kh l) l.length
def pI.at{P:qd}{w:lW}{h h':oY}{a:J9}{l:List Key}(x:pI P w h a l)(k:∀o,h.get? a=some o->h'.get? a=some o):pI P w h' a l:=by
 obtain⟨o,c,f,t,e,r⟩:=x;exact#[o,c,f,t,k o e,r]
def Ij{P:qd}{w:lW}{h:oY}{a:J9}{c:Bool} (e:h.get? a=some {cls:=.type "set",dict:=none,data:=.set #[] 0 (.fresh 0 0 c)}):pI P w h a []:=
 #[_,#[],0,.fresh 0 0 c,e,#[rfl,rfl,rfl],rfl,(λx f=>by simp at f),(λk=>by simp[Kh]),(by unfold scanBound;decide),(by cases c <;> rfl),rfl]
section
variable {P:qd}{w:lW}{A:lY}{R:Result->Shared->Prop}{I:J9}{fp wr:tR}{n:Nat}{PP:Nat->Value->Prop}{St:Nat->Heap->Prop}
def Oh(E:Walks P w A.in1 I fp wr n PP St)(S:J9)(C:S∉fp)(val:Nat->Key)(c:∀i v,PP i v->uq (val i) v=true)(D:n+1<scanBound) :
  ∀(k i:Nat)(s:Y5),n - i=k->i<=n->St i s.heap->pI P w s.heap S (G3 val i)->
   (∀h' tk,(∀b o,b≠S->b∉wr->s.heap.get? b=some o->h'.get? b=some o)->pI P w h' S (G3 val n)->R (.ok (.ret .none)) {s with heap:=h',toks:=tk})->
   codeAny (model P w) A (.builtin "set.update.loop" #[[.ref S,.ref I],[]]) R s:=by
 have B:S∉wr:=λh=>C (E.sub _ h);intro k
 induction k with
 |zero=>
  intro i s Y hi j O Q;obtain rfl:i=n:=⋯
  refine qo3 PyProof.Rows.F.entry_set_update_loop ?_;rw[qpP qo8 _];show wpAny _ A.in1 (pyNext (.ref I) >>= _) _ _ s;refine qm3 (E.done s _ _ j λh' tk r=>?_);exact qm8 (Q h' tk (λb o _ D e=>r b o D e) (O.at λo e=>r S o B e))
 |succ k ih=>
  intro i s Y hi j O Q;have u:i<n:=∅
  refine qo3 PyProof.Rows.F.entry_set_update_loop ?_;rw[qpP qo8 _];show wpAny _ A.in1 (pyNext (.ref I) >>= _) _ _ s;refine qm3 (E.item i s _ _ u j λv h' tk T m r=>?_);have f:(bV P w).is (val i) v=true:=c i v T;have N:pI P w h' S (G3 val i):=O.at λo e=>r S o B e;show wpAny _ A.in1 (holding [v] (setAdd S v) >>= _) _ _ _;refine qm3 (qoa ?_);unfold setAdd;refine qoa (qm3 ((bV P w).pyHash (k:=val i) f ?_));have l:(G3 val i).length+1<scanBound:=by have:=Z1 val i;lia
  refine wpAny_setAddHashed_of (knd:=bV P w) (s:={s with heap:=h',toks:=tk+1}) f (qcG (c i v T)) N l λh2 p M=>?_;have L:pI P w h2 S (G3 val (i+1)):=by
   refine Og M (λU=>?_) ?_
   ·rw[yx];unfold z_;split
    ·rename_i J
     by_cases e:U=val i
     ·rw[e,J];rfl
     ·rw[qnM e,Bool.or_false]
    ·exact(Z0 _ _ _).symm
   ·rw[yx];unfold z_;split
    ·rfl
    ·rw[qnT,qpG]
  refine qm8 #[plainId_quiet qo8 _,ih (i+1) _ ⋯ u (E.frame _ h' _ m λb D o e=>?_) L λh3 G H Dy=>?_]
  ·exact(p.2 b (λz:b=S=>C (by rw[<- z];exact D))).trans e
  ·refine Q h3 G (λb o y x e=>H b o y x ?_) Dy;exact(p.2 b y).trans (r b o x e)
end
def G8:isSubtype (.type "list") (.type "set")=pure false:=by rw[isSubtype_type];kernel_rfl
def Aa:isSubtype (.type "list") (.type "frozenset")=pure false:=by rw[isSubtype_type];kernel_rfl
set_option maxHeartbeats 4000000 in
def Oi{P:qd}{w:lW}{A:lY}{E:QAB}{s:Y5}{l:J9}{its:wY}{val:Nat->Key}{Q:QAB}
  (hh:A.handled=none) (hl:s.heap.IsList l its) (n:∀i v,its[i]? = some v->uq (val i) v=true) (hb:its.size+1<scanBound)
  (h:∀(g:oY)(tk:Nat),pI P w g s.heap.objs.size (G3 val its.size)->(∀b o,s.heap.get? b=some o->g.get? b=some o)->Q (.ref s.heap.objs.size) {s with heap:=g,toks:=tk}) :
  wpAny (model P w) A (call (.type "set") [.ref l]) Q E s:=by
 obtain⟨c,tl,U⟩:=PySem.F.called_set.mro;have q1:=PySem.F.called_set.made;have q2:=PySem.F.called_set.sub;refine qpb (codeAny_of_tree ?_);show wpAny _ _ (callAny (.type "set") _) _ _ s;refine qm8 #[qpy _ (by decide+kernel),qo3 PySem.F.entry_type_call ?_];rw[Around.under_plain (weight_type_call_type "set" [.ref l] []) rfl];have q3:=PySem.F.called_set.notType;have q4:=PySem.F.called_set.canCreate;have q5:=PySem.F.typeCall_set_1 (.ref l)
 repeat (any_goals (first|assumption|wp_step))
 refine qor (code_set_new_1 (.ref l) (E:=E) (Q₁:=λN M=>∃f:Bool,N = .ref s.heap.objs.size/\M={s with heap:=s.heap.push {cls:=.type "set",dict:=none,data:=.set #[] 0 (.fresh 0 0 f)}}) λf=>#[f,rfl,rfl]) λr M C=>?_;cases r with
 |error e=>exact C
 |ok fl=>
  cases fl with
  |ret N=>
   obtain⟨f,rfl,rfl⟩:=C;have new:(s.heap.push {cls:=.type "set",dict:=none,data:=.set #[] 0 (.fresh 0 0 f)}).get? s.heap.objs.size=some {cls:=.type "set",dict:=none,data:=.set #[] 0 (.fresh 0 0 f)}:=qne _ rfl;have ty:Shared.TypeIs {s with heap:=s.heap.push {cls:=.type "set",dict:=none,data:=.set #[] 0 (.fresh 0 0 f)}} (.ref s.heap.objs.size) "set" :=#[_,new,rfl];have q6:=PySem.F.called_set.init.lookup;have q7:=PySem.F.called_set.init.bind (.ref s.heap.objs.size)
   repeat (any_goals (first|assumption|wp_step))
   refine qor (qoI (R:=wants (λr L=>r = .none/\∃g tk,L={s with heap:=g,toks:=tk}/\pI P w g s.heap.objs.size (G3 val its.size)/\(∀b o,s.heap.get? b=some o->g.get? b=some o)) E)
    PySem.F.called_set.init.plain PySem.F.entry_set_init (check_set_init_1 ty ?_)) λY L j=>?_
   ·obtain⟨ol,T,y,nl,x⟩:=hl;obtain⟨oc,od,aa,z⟩:=ol;simp only at y x;subst y;subst x;have D:(s.heap.push {cls:=.type "set",dict:=none,data:=.set #[] 0 (.fresh 0 0 f)}).get? l=some {cls:=.type "list",dict:=od,data:=.seq its nl,slots:=z}:=qm4 _ T;have q8:=G8;have q9:=Aa;have a0:(Value.type "list" == Value.type "dict")=false:=by decide
    have p:(s.heap.push {cls:=.type "set",dict:=none,data:=.set #[] 0 (.fresh 0 0 f)}).IsList l its:=#[_,D,rfl,nl,rfl];unfold Builtin.«set.__init__» noKeywords Builtin.Frozenset.updateFrom;generalize I:pyIter=PI
    wp_walk
    subst I;refine qoW p ?_;refine qm3 (wpAny_runValue ?_);have m:l<s.heap.objs.size:=qm9 T;have G:A.in1.in1.in1.handled=none:=by simp[hh]
    have B:l≠(s.heap.push {cls:=.type "set",dict:=none,data:=.set #[] 0 (.fresh 0 0 f)}).objs.size:=by
     rw[qnV];exact qnf (qn6 m)
    have nf:s.heap.objs.size∉[(s.heap.push {cls:=.type "set",dict:=none,data:=.set #[] 0 (.fresh 0 0 f)}).objs.size,l]:=by
     rw[qnV];simp only[qnc,qn4,qnF,qoD,not_or];exact#[qnf (qoi _),qoF m]
    refine Oh (Walks.list G _ l B its) s.heap.objs.size nf val n hb (its.size - 0) 0 _ ⋯ (qnI _) #[#[_,qne _ rfl,rfl,rfl],p.push _] ?hS0 ?hR
    case hS0=>
     have u:((s.heap.push {cls:=.type "set",dict:=none,data:=.set #[] 0 (.fresh 0 0 f)}).push {cls:=.type "list_iterator",data:=.fields [.ref l,.int 0 0].toArray}).get? s.heap.objs.size
       = some {cls:=.type "set",dict:=none,data:=.set #[] 0 (.fresh 0 0 f)}:=qm4 _ new
     exact Ij u
    case hR=>
     intro g tk hm H;show wpAny _ _ _ _ _ _;refine qm8 ?_;show wpAny _ _ (ret Value.none) _ _ _;refine qm8 #[rfl,g,tk,rfl,H,λb o e=>?_];have O:b<s.heap.objs.size:=qm9 e;refine hm b o (qnf O) ?_ (qm4 _ (qm4 _ e));simp only[qnc,qnF,qoD];rw[qnV];exact qnf (qn6 O)
   ·cases Y with
    |error e=>exact j
    |ok J=>
     cases J with
     |ret r=>
      obtain⟨rfl,g,tk,rfl,H,hk⟩:=j
      repeat (any_goals (first|assumption|wp_step))
      exact h _ _ H hk
     |_=>exact j.elim
  |_=>exact C.elim
def Dz:isSubtype (.type "tuple") (.type "set")=pure false:=by rw[isSubtype_type];kernel_rfl
def yC:isSubtype (.type "tuple") (.type "frozenset")=pure false:=by rw[isSubtype_type];kernel_rfl
set_option maxHeartbeats 4000000 in
def Kl{P:qd}{w:lW}{A:lY}{E:QAB}{s:Y5}{l:J9}{its:wY}{val:Nat->Key}{Q:QAB}
  (hh:A.handled=none) (hl:s.heap.IsTuple l its) (n:∀i v,its[i]? = some v->uq (val i) v=true) (hb:its.size+1<scanBound)
  (h:∀(g:oY)(tk:Nat),pI P w g s.heap.objs.size (G3 val its.size)->(∀b o,s.heap.get? b=some o->g.get? b=some o)->Q (.ref s.heap.objs.size) {s with heap:=g,toks:=tk}) :
  wpAny (model P w) A (call (.type "set") [.ref l]) Q E s:=by
 obtain⟨c,tl,U⟩:=PySem.F.called_set.mro;have q1:=PySem.F.called_set.made;have q2:=PySem.F.called_set.sub;refine qpb (codeAny_of_tree ?_);show wpAny _ _ (callAny (.type "set") _) _ _ s;refine qm8 #[qpy _ (by decide+kernel),qo3 PySem.F.entry_type_call ?_];rw[Around.under_plain (weight_type_call_type "set" [.ref l] []) rfl];have q3:=PySem.F.called_set.notType;have q4:=PySem.F.called_set.canCreate;have q5:=PySem.F.typeCall_set_1 (.ref l)
 repeat (any_goals (first|assumption|wp_step))
 refine qor (code_set_new_1 (.ref l) (E:=E) (Q₁:=λN M=>∃f:Bool,N = .ref s.heap.objs.size/\M={s with heap:=s.heap.push {cls:=.type "set",dict:=none,data:=.set #[] 0 (.fresh 0 0 f)}}) λf=>#[f,rfl,rfl]) λr M C=>?_;cases r with
 |error e=>exact C
 |ok fl=>
  cases fl with
  |ret N=>
   obtain⟨f,rfl,rfl⟩:=C;have new:(s.heap.push {cls:=.type "set",dict:=none,data:=.set #[] 0 (.fresh 0 0 f)}).get? s.heap.objs.size=some {cls:=.type "set",dict:=none,data:=.set #[] 0 (.fresh 0 0 f)}:=qne _ rfl;have ty:Shared.TypeIs {s with heap:=s.heap.push {cls:=.type "set",dict:=none,data:=.set #[] 0 (.fresh 0 0 f)}} (.ref s.heap.objs.size) "set" :=#[_,new,rfl];have q6:=PySem.F.called_set.init.lookup;have q7:=PySem.F.called_set.init.bind (.ref s.heap.objs.size)
   repeat (any_goals (first|assumption|wp_step))
   refine qor (qoI (R:=wants (λr L=>r = .none/\∃g tk,L={s with heap:=g,toks:=tk}/\pI P w g s.heap.objs.size (G3 val its.size)/\(∀b o,s.heap.get? b=some o->g.get? b=some o)) E)
    PySem.F.called_set.init.plain PySem.F.entry_set_init (check_set_init_1 ty ?_)) λY L j=>?_
   ·obtain⟨ol,T,y,nl,x⟩:=hl;obtain⟨oc,od,aa,z⟩:=ol;simp only at y x;subst y;subst x;have p:(s.heap.push {cls:=.type "set",dict:=none,data:=.set #[] 0 (.fresh 0 0 f)}).get? l=some {cls:=.type "tuple",dict:=od,data:=.seq its nl,slots:=z}:=qm4 _ T;have q8:=Dz;have q9:=yC;have a0:(Value.type "tuple" == Value.type "dict")=false:=by decide
    have D:(s.heap.push {cls:=.type "set",dict:=none,data:=.set #[] 0 (.fresh 0 0 f)}).IsTuple l its:=#[_,p,rfl,nl,rfl];unfold Builtin.«set.__init__» noKeywords Builtin.Frozenset.updateFrom;generalize I:pyIter=PI
    wp_walk
    subst I;refine qpz D ?_;refine qm3 (wpAny_runValue ?_);have m:l<s.heap.objs.size:=qm9 T;have G:A.in1.in1.in1.handled=none:=by simp[hh]
    have B:l≠(s.heap.push {cls:=.type "set",dict:=none,data:=.set #[] 0 (.fresh 0 0 f)}).objs.size:=by
     rw[qnV];exact qnf (qn6 m)
    have nf:s.heap.objs.size∉[(s.heap.push {cls:=.type "set",dict:=none,data:=.set #[] 0 (.fresh 0 0 f)}).objs.size,l]:=by
     rw[qnV];simp only[qnc,qn4,qnF,qoD,not_or];exact#[qnf (qoi _),qoF m]
    refine Oh (Walks.tuple G _ l B its) s.heap.objs.size nf val n hb (its.size - 0) 0 _ ∅ (qnI _) #[#[_,qne _ rfl,rfl,rfl],#[_,qm4 _ p,rfl,nl,rfl]] ?hS0 ?hR
    case hS0=>
     have u:((s.heap.push {cls:=.type "set",dict:=none,data:=.set #[] 0 (.fresh 0 0 f)}).push {cls:=.type "tuple_iterator",data:=.fields [.ref l,.int 0 0].toArray}).get? s.heap.objs.size
       = some {cls:=.type "set",dict:=none,data:=.set #[] 0 (.fresh 0 0 f)}:=qm4 _ new
     exact Ij u
    case hR=>
     intro g tk hm H;show wpAny _ _ _ _ _ _;refine qm8 ?_;show wpAny _ _ (ret Value.none) _ _ _;refine qm8 #[rfl,g,tk,rfl,H,λb o e=>?_];have O:b<s.heap.objs.size:=qm9 e;refine hm b o (qnf O) ?_ (qm4 _ (qm4 _ e));simp only[qnc,qnF,qoD];rw[qnV];exact qnf (qn6 O)
   ·cases Y with
    |error e=>exact j
    |ok J=>
     cases J with
     |ret r=>
      obtain⟨rfl,g,tk,rfl,H,hk⟩:=j
      repeat (any_goals (first|assumption|wp_step))
      exact h _ _ H hk
     |_=>exact j.elim
  |_=>exact C.elim
def qcH(P:qd)(w:lW)(a:J9)(l:List Key):HO:=.ext λh=>pI P w h a l
section
variable {X:Cx}
def keysOf:List V->List Key
 |[]=>[]
 |.int i::r=>.inl i::keysOf r
 |.str x::r=>.inr x::keysOf r
 |_::r=>keysOf r
def isKey:V->Bool
 |.int _=>true
 |.str _=>true
 |_=>false
theorem Km:∀{xs:QA0}{its:QAE},xs.all isKey=true->Vals xs its->(keysOf xs).length=its.length/\∀(i:Nat)(v:eH),its[i]? = some v->uq ((keysOf xs).getD i (.inl 0)) v=true
 |[],_,_,.nil=>#[rfl,λi v e=>by simp at e]
 |x::xs,u::us,h,.cons c m=>by
  rw[List.all_cons,qnK] at h;obtain⟨l,f⟩:=Km h.2 m;cases x with
  |int i=>
   obtain⟨t,rfl⟩:=c;refine#[by simp[keysOf,l],λj v e=>?_];cases j with
   |zero=>simp at e;subst e;exact HB i t
   |succ j=>simp at e;simpa [keysOf] using f j v e
  |str z=>
   obtain⟨t,rfl⟩:=c;refine#[by simp[keysOf,l],λj v e=>?_];cases j with
   |zero=>simp at e;subst e;exact HD z t
   |succ j=>simp at e;simpa [keysOf] using f j v e
  |_=>exact absurd (show false=true from h.1) qnq
def Ik(D:X.calm=true):cJ X (.type "set") (λxs H Q=>∃a ys,xs=[.ref a]/\(aV X.K H a ys\/cO X.K H a ys)/\ys.all isKey=true/\ys.length+1<scanBound/\
  ∀p,H p=none->Q (.ref p) (upd H p (qcH X.prog X.w p (G3 (λi=>(keysOf ys).getD i (.inl 0)) ys.length)))):=by
 intro L s G H xs O Q I r h;obtain⟨a,ys,rfl,n,C,T,q⟩:=h;obtain⟨u,rfl,J⟩:=r.one;obtain rfl:u=Value.ref a:=J;have x:∀(g:oY)(j:Nat),pI X.prog X.w g s.heap.objs.size (G3 (λi=>(keysOf ys).getD i (.inl 0)) ys.length)->(∀b o,s.heap.get? b=some o->g.get? b=some o)->EP X L G Q (.ref s.heap.objs.size) {s with heap:=g,toks:=j}:=λg j f m=>by
  have N:H s.heap.objs.size=none:=I.hok.fresh (qm5 _);refine#[.ref s.heap.objs.size,_,I.laid (o:=qcH X.prog X.w s.heap.objs.size (G3 (λi=>(keysOf ys).getD i (.inl 0)) ys.length)) (λb o e=>m b o e) (qm5 _) #[f,?_,λE y p k=>p.at k],rfl,q _ N];obtain⟨o,_,_,_,e,_⟩:=f;exact#[o,e]
 rcases n with n|n
 ·obtain⟨c,l,z,M⟩:=I.list n;obtain⟨E,y⟩:=Km C l;have A:=l.length;refine Oi (val:=λi=>(keysOf ys).getD i (.inl 0)) (I.ok.hd D) z.isList (λi v e=>y i v (by simpa using e)) (by rw[qnm];lia) λg j f m=>x g j ?_ m;have B:c.toArray.size=ys.length:=by rw[qnm,A]
  rw[B] at f;exact f
 ·obtain⟨c,l,z,M⟩:=I.tuple n;obtain⟨E,y⟩:=Km C l;have A:=l.length;refine Kl (val:=λi=>(keysOf ys).getD i (.inl 0)) (I.ok.hd D) (show s.heap.IsTuple a c.toArray from z) (λi v e=>y i v (by simpa using e)) (by rw[qnm];omega) λg j f m=>x g j ?_ m;have B:c.toArray.size=ys.length:=by rw[qnm,A]
  rw[B] at f;exact f
def Il:cJ X (.builtin "len") (λxs H Q=>∃a l,xs=[.ref a]/\H a=some (qcH X.prog X.w a l)/\Q (.int l.length) H):=by
 intro y s v H xs x Q I r h;obtain⟨a,l,rfl,n,q⟩:=h;obtain⟨u,rfl,f⟩:=r.one;obtain rfl:u=Value.ref a:=f;obtain⟨⟨o,z,A,t,e,p,m,_,_,c,j,i⟩,_⟩:=(show cD X.prog X.w H s.heap a (qcH X.prog X.w a l) from I.hok a _ n);refine call_len_set e p m j (by unfold scanBound at c;lia) #[.int l.length,H,I.tok _,#[_,by rw[i]],q]
def qhp:R2:=λx y H Q=>∃i j,x = .str i/\y = .str j/\i.length+j.length<=sizeLine/\Q (.str (i++j)) H
def qkL:R2:=λx y H Q=>∃i j,x = .str i/\y = .str j/\Q (.bl (!(Builtin.Str.occurrences j i 0 j.length 1).isEmpty)) H
def qcI:R2:=λx y H Q=>∃i j,x = .str i/\y = .str j/\Q (.bl (!(!(Builtin.Str.occurrences j i 0 j.length 1).isEmpty))) H
def qcJ(K:YZ):R2:=λx y H Q=>rIn K false x y H Q\/qkL x y H Q
def Ko(K:YZ):R2:=λx y H Q=>rIn K true x y H Q\/qcI x y H Q
def qfs:iD X (compareOp .In) (qcJ X.K):=WD.or Wt
def WY:iD X (compareOp .NotIn) (Ko X.K):=J3.or J4
def qft(K:YZ):R2:=λx y H Q=>∃p c i v,x = .ref p/\y = .int i/\(aV K H p c\/cO K H p c)/\Cm c i=some v/\Q v H
def ixQ:ZK X (qft X.K):=by
 intro c e o s j H x y v u Q I n m h r;obtain⟨p,l,i,z,B,A,f|f,w,q⟩:=h
 ·exact qcA c e o s j H x y v u Q I n m #[p,l,i,z,B,A,f,w,q] r
 ·exact qfe c e o s j H x y v u Q I n m #[p,l,i,z,B,A,f,w,q] r
def qd2(K:YZ):List V->Hp->VK->Prop:=λe H Q=>∃p c,e=[.ref p]/\(aV K H p c\/cO K H p c)/\Q (.int c.length) H
def qd3:List V->Hp->VK->Prop:=λc H Q=>∃z,c=[.str z]/\z.length<=sizeLine/\Q (.int z.length) H
variable {K:YZ}
def qkM(c:X.K=K):ZK X (qft K):=by subst c;exact ixQ
def inK(c:X.K=K):iD X (compareOp .In) (qcJ K):=by subst c;exact qfs
def qfu(c:X.K=K):iD X (compareOp .NotIn) (Ko K):=by subst c;exact WY
def qhq(c:X.K=K):cJ X (.builtin "len") (qd2 K):=by subst c;exact J_
def qhr:cJ X (.builtin "len") qd3:=Ka
def Vd(K:YZ):List V->Hp->VK->Prop:=λe H Q=>∃p c,e=[.ref p]/\(aV K H p c\/cO K H p c)/\∀l,H l=none->Q (.ref l) (upd H l (.lst c))
def qcK(c:X.K=K):cJ X (.type "list") (Vd K):=by subst c;exact Kc
def qd4(K:YZ):List V->Hp->VK->Prop:=λc H Q=>∃x n t b,c=[x,.ty n]/\mD K H x t/\W.kitOne K t (.type n)=some b/\Q (.bl b) H
def qhs(c:X.K=K):cJ X (.builtin "isinstance") (qd4 K):=by subst c;exact WR
def qd5(K:YZ):List V->Hp->VK->Prop:=λc H Q=>∃x p m n t b,c=[x,.ref p]/\H p=some (.tup [.ty m,.ty n])/\mD K H x t/\W.kitAny K t [.type m,.type n]=some b/\Q (.bl b) H
def qht(c:X.K=K):cJ X (.builtin "isinstance") (qd5 K):=by subst c;exact WT
def c7(j:X.K=K){c:wZ}{k:Nat}{pos:Pos}{t:HF}{n:Nat}(i:X.calm=true)(h:fL X c t)
  (f:(assignEach c X.env).length=n:=by rfl) (e:(assignEach c X.env).findIdx? (·.1)=none:=by rfl):PG X (.Tuple c k pos) (qcq K n t):=by subst j;exact qeY i h f e
def bO(f:X.K=K){tg l:rz}{c:TE}(e:PE X l c):PI X tg l (U3 K c):=by subst f;exact qcr e
def Kp(j:X.K=K){e:rz}{c:TE}{f:Str}{pos:Pos}(h:PE X e c)(i:attributeBase e f X.env (eval e X.env)=eval e X.env):PE X (.Attribute e f pos) (qcw K c f):=by subst j;exact qfb h i
def iT(z:X.K=K){o e:rz}{l:wZ}{to:TE}{t:TA}{name:Str}{h c:Pos}{T id:String}{r:QA2}(s:PlainAttrs T)(m:Slot T name id) (p:typeOf (.builtin id)=pure (.type "method_descriptor")) (w:N7 X id r) (v:PE X o to) (y:PA X (e::l) t)
  (j:attributeBase o name X.env (eval o X.env)=eval o X.env:=by rfl)
  (n:((backTo c (starEach (e::l) X.env)).all (λx=>!x.1) && (backToKw c (keywordEach [] X.env)).all (λx=>x.1.isSome)
   && decide ((e::l).length+([]:List Keyword).length+(if ([]:List Keyword).isEmpty then 0 else 1)<30))=true:=by rfl)
  (i:(h.endLine == c.line)=true:=by rfl) (u:starEach (e::l) X.env=(false,eval e X.env)::starEach l X.env:=by rfl) (f:(backTo c (starEach l X.env)).any (·.1)=false:=by rfl) :
  PE X (.Call (.Attribute o name h) (e::l) [] c) (tBM K T r to t):=by subst z;exact qhi s m p w v y j n i u f
def iG:bootBuiltins "all" = some (.builtin "all"):=by decide+kernel
def Im:bootBuiltins "any" = some (.builtin "any"):=by decide+kernel
def boot_max:bootBuiltins "max" = some (.builtin "max"):=by decide+kernel
def boot_min:bootBuiltins "min" = some (.builtin "min"):=by decide+kernel
def boot_abs:bootBuiltins "abs" = some (.builtin "abs"):=by decide+kernel
def boot_divmod:bootBuiltins "divmod" = some (.builtin "divmod"):=by decide+kernel
end
structure Nm(mg:Y4):Prop where
 len:mg "len" = none
 max:mg "max" = none
 min:mg "min" = none
 abs:mg "abs" = none
 divmod:mg "divmod" = none
 range:mg "range" = none
 zip:mg "zip" = none
 list:mg "list" = none
 tuple:mg "tuple" = none
 int:mg "int" = none
 str:mg "str" = none
 set:mg "set" = none
 all:mg "all" = none
 isinstance:mg "isinstance" = none
section
variable {K:YZ}{own:QAH}{caps:wX}{g:TG}{tt:TT}{te:TE}{D:J9}{σ:St}{H:Hp}{Q:Hp->Prop}
abbrev Io(g:TG)(tt:TT)(te:TE)(D:J9)(N:QA4)(x:V)(σ:St)(H:Hp):Prop:=
 g x σ H λc i=>tt c i λb h=>if b=true then te c h λy f=>∃e,f D=some (.lst e)/\e.length<sizeLine/\N c (upd f D (.lst (e++[y]))) else N c h
def Ip{l:J9}{xs:QA0}(Pv:QA1)(s:Pv 0 (stC own caps σ) H)(n:∀i σ H,i<=xs.length->Pv i σ H->aV K H l xs)
  (j:∀i x σ H,xs[i]? = some x->Pv i σ H->Io g tt te D (Pv (i+1)) x σ H) (r:∀σ H,Pv xs.length σ H->Q H):mX own caps (Rk K l) g tt te D σ H Q:=by
 refine#[λi m σ H=>m=xs.length - i/\i<=xs.length/\Pv i σ H,#[xs.length,by simp,qnI _,s],?_];rintro i m σ H ⟨rfl,o,p⟩;have q:=n i σ H o p
 by_cases c:i<xs.length
 ·refine .inr #[#[xs,xs[i],q,by simp[c]],Pv (i+1),λf u h=>#[xs.length - (i+1),∅,rfl,c,h],λx u y=>?_];obtain⟨e,y⟩:=y;subst e;exact j i x σ _ (y xs q) p
 ·have e:i=xs.length:=⋯
  subst e;exact .inl #[#[xs,q,qm5 _],r σ H p]
def Z2{l:J9}{xs:QA0}(Pv:QA1)(s:Pv 0 (stC own caps σ) H)(n:∀i σ H,i<=xs.length->Pv i σ H->cO K H l xs)
  (j:∀i x σ H,xs[i]? = some x->Pv i σ H->Io g tt te D (Pv (i+1)) x σ H) (r:∀σ H,Pv xs.length σ H->Q H):mX own caps (Itt K l) g tt te D σ H Q:=by
 refine#[λi m σ H=>m=xs.length - i/\i<=xs.length/\Pv i σ H,#[xs.length,by simp,qnI _,s],?_];rintro i m σ H ⟨rfl,o,p⟩;have q:=n i σ H o p
 by_cases c:i<xs.length
 ·refine .inr #[#[xs,xs[i],q,by simp[c]],Pv (i+1),λf u h=>#[xs.length - (i+1),∅,rfl,c,h],λx u y=>?_];obtain⟨e,y⟩:=y;subst e;exact j i x σ _ (y xs q) p
 ·have e:i=xs.length:=∅
  subst e;exact .inl #[#[xs,q,qm5 _],r σ H p]
def RM{lo:Int}{n:Nat}(Pv:QA1)(o:Pv 0 (stC own caps σ) H)
  (j:∀i σ H,i<n->Pv i σ H->Io g tt te D (Pv (i+1)) (.int (lo+i)) σ H) (l:∀σ H,Pv n σ H->Q H):mX own caps (Ra lo n) g tt te D σ H Q:=by
 refine#[λi m σ H=>m=n - i/\i<=n/\Pv i σ H,#[n,by simp,qnI _,o],?_];rintro i m σ H ⟨rfl,s,p⟩
 by_cases c:i<n
 ·refine .inr #[c,Pv (i+1),λf r h=>#[n - (i+1),∅,rfl,c,h],λx r y=>?_];obtain⟨e,y⟩:=y;subst e y;exact j i σ _ c p
 ·have e:i=n:=⋯
  subst e;exact .inl #[qm5 _,l σ H p]
def Z4{z:Str}(Pv:QA1)(r:Pv 0 (stC own caps σ) H)
  (l:∀i c σ H,z.cps[i]? = some c->Pv i σ H->Io g tt te D (Pv (i+1)) (.str #[[c].toArray]) σ H) (n:∀σ H,Pv z.cps.size σ H->Q H):mX own caps (Its z) g tt te D σ H Q:=by
 refine#[λi m σ H=>m=z.cps.size - i/\i<=z.cps.size/\Pv i σ H,#[z.cps.size,by simp,qnI _,r],?_];rintro i m σ H ⟨rfl,u,p⟩
 by_cases f:i<z.cps.size
 ·refine .inr #[f,Pv (i+1),λh s j=>#[z.cps.size - (i+1),∅,rfl,f,j],λx s y=>?_];obtain⟨e,c,o,rfl⟩:=y;subst e;exact l i c σ _ o p
 ·have e:i=z.cps.size:=⋯
  subst e;exact .inl #[qm5 _,n σ H p]
def Z5{n l:J9}{xs ys:QA0}(Pv:QA1)(C:Pv 0 (stC own caps σ) H)(J:xs.length=ys.length)(z:∀i σ H,i<=xs.length->Pv i σ H->aV K H n xs/\aV K H l ys)
  (w:∀i x y t σ H,xs[i]? = some x->ys[i]? = some y->H t=none->Pv i σ H->Io g tt te D (Pv (i+1)) (.ref t) σ (upd H t (.tup [x,y]))) (B:∀σ H,Pv xs.length σ H->Q H):mX own caps (WQ K n l) g tt te D σ H Q:=by
 refine#[λi m σ H=>m=xs.length - i/\i<=xs.length/\Pv i σ H,#[xs.length,by simp,qnI _,C],?_];rintro i m σ H ⟨rfl,A,p⟩;obtain⟨j,h⟩:=z i σ H A p
 by_cases f:i<xs.length
 ·have c:i<ys.length:=⋯
  refine .inr #[#[xs,ys,xs[i],ys[i],j,h,by simp[f],by simp[c]],Pv (i+1),λo I r=>#[xs.length - (i+1),⋯,rfl,f,r],λx I y=>?_];obtain⟨t,u,v,rfl,s,rfl,G,E⟩:=y;exact w i u v t σ H (G xs j) (E ys h) s p
 ·have e:i=xs.length:=⋯
  subst e;exact .inl #[#[xs,ys,j,h,.inl (qm5 _)],B σ H p]
end
def SqB(b:Bool)(K:YZ)(H:Hp)(p:J9)(xs:QA0):Prop:=match b with|true=>aV K H p xs|false=>cO K H p xs
def Itq(b:Bool)(K:YZ)(p:J9):It:=match b with|true=>Rk K p|false=>Itt K p
def qfv(K:YZ)(h:TE):TI:=λe H R=>h e H λx c=>∃b p,x = .ref p/\(∃f,SqB b K c p f)/\R (Itq b K p) c
def vK{X:Cx}{K:YZ}(J:X.K=K){tg l:rz}{r:TE}(G:PE X l r):PI X tg l (qfv K r):=by
 intro D s y H R I h;refine cG (G D s y H _ I h) λv c z=>?_;obtain⟨x,w,f,u,C⟩:=z;obtain⟨b,p,e,i,q⟩:=C;subst e;subst J;cases b with
 |true=>
  cases u;obtain⟨A,i⟩:=i;obtain⟨j,B,m,E⟩:=f.list i;refine qoW m.isList ?_;refine#[c.heap.objs.size,[c.heap.objs.size],_,_,w,rfl,f.kept (t':=c.toks) λb o e=>qm4 _ e,qZ p _,#[_,qne _ rfl,rfl,rfl],λb n=>?_,q];have e:b=c.heap.objs.size:=by simpa using n
  subst e;exact f.zY (qm5 _) (f.hok.fresh (qm5 _))
 |false=>
  cases u;obtain⟨A,i⟩:=i;obtain⟨j,B,m,E⟩:=f.tuple i;refine qpz (show c.heap.IsTuple p j.toArray from m) ?_;refine#[c.heap.objs.size,[c.heap.objs.size],_,_,w,rfl,f.kept (t':=c.toks) λb o e=>qm4 _ e,Rm p _,#[_,qne _ rfl,rfl,rfl],λb n=>?_,q];have e:b=c.heap.objs.size:=by simpa using n
  subst e;exact f.zY (qm5 _) (f.hok.fresh (qm5 _))
section
variable {K:YZ}{own:QAH}{caps:wX}{g:TG}{tt:TT}{te:TE}{D:J9}{σ:St}{H:Hp}{Q:Hp->Prop}
def Z6{b:Bool}{l:J9}{xs:QA0}(Pv:QA1)(h:Pv 0 (stC own caps σ) H)(e:∀i σ H,i<=xs.length->Pv i σ H->SqB b K H l xs)
  (c:∀i x σ H,xs[i]? = some x->Pv i σ H->Io g tt te D (Pv (i+1)) x σ H) (f:∀σ H,Pv xs.length σ H->Q H):mX own caps (Itq b K l) g tt te D σ H Q:=by
 cases b with
 |true=>exact Ip Pv h e c f
 |false=>exact Z2 Pv h e c f
end
def au{H:Hp}{p:J9}{o:HO}(h:H p=none):Same H (upd H p o):=λb u e=>by rw[aF (aU e h)];exact e
def aX{H c:Hp}{p:J9}{o:HO}(s:Same H c)(h:H p=none):Same H (upd c p o):=λb u e=>by rw[aF (aU e h)];exact s b u e
def Sq(H:Hp)(p:J9)(xs:QA0):Prop:=H p=some (.lst xs)\/H p=some (.tup xs)
def Sq.q{K:YZ}{H:Hp}{p:J9}{xs:QA0}(h:Sq H p xs):aV K H p xs\/cO K H p xs:=h.elim (λe=>.inl (aV.of e)) λe=>.inr (cO.of e)
theorem Sq.b{H:Hp}{p:J9}{xs:QA0}(h:Sq H p xs):∃b,∀K c,Same H c->SqB b K c p xs:=h.elim (λe=>#[true,λ_ _ s=>aV.of (s _ _ e)]) λe=>#[false,λ_ _ s=>cO.of (s _ _ e)]
def Sq.same{H c:Hp}{p:J9}{xs:QA0}(h:Sq H p xs)(s:Same H c):Sq c p xs:=h.elim (λe=>.inl (s _ _ e)) λe=>.inr (s _ _ e)
def Sq.ty{K:YZ}{H:Hp}{p:J9}{xs:QA0}(h:Sq H p xs):mD K H (.ref p) (.type "list")\/mD K H (.ref p) (.type "tuple"):=h.elim (λe=>.inl (.lst e)) λe=>.inr (.tup e)
theorem kj{e:Type}(f:e->Bool):∀l:List e,pH (l.map λc=>.bl (f c)) (l.map f)
 |[]=>rfl
 |c::l=>#[f c,l.map f,rfl,rfl,kj f l]
def RN{c:Type}(f:c->Bool)(l:List c):(l.map f).all id=l.all f:=by
 rw[List.all_map];rfl
def take_one{c:Type}{l:List c}{i:Nat}{x:c}(h:l[i]? = some x):l.take (i+1)=l.take i++[x]:=by
 rw[List.take_succ,h];rfl
def Ve:List V->Hp->VK->Prop:=λf H Q=>∃p e,f=[.ref p]/\Sq H p e/\∀l c,c l=some (.tup e)->Same H c->Q (.ref l) c
def Z7{X:Cx}:cJ X (.type "tuple") Ve:=by
 intro j s c H o i Q I r h;obtain⟨p,f,rfl,m,q⟩:=h;refine G7 j s c H _ i Q I r #[p,f,rfl,?_]
 rcases m with e|e
 ·exact .inl #[aV.of e,λl n=>q l _ ak (au n)]
 ·exact .inr #[cO.of e,q p H e (Same.refl H)]
def qfw(J:It)(g:TG)(tb:TS):TS:=λD e H=>∃j:Nat->Nat->St->Hp->Prop,(∃m,j 0 m e H)/\∀i m e H,j i m e H->
   (J.stop i H/\D.nx e H)\/(J.go i H/\∃N:St->Hp->Prop,(∀c f,N c f->∃l,l<m/\j (i+1) l c f)/\∀x f,J.UW i H x f->g x e f λh n=>tb {D with nx:=N,ct:=N,bk:=D.nx} h n)
def bQ{H:Hp}{b p:J9}{o u:HO}(h:H b=some o)(n:H p=none):upd H p u b=some o:=by rw[aF (aU h n)];exact h
def CJ{H:Hp}{b p:J9}{o c u:HO}(h:H b=some o)(n:H p=some c)(d:o≠c):upd H p u b=some o:=by
 rw[aF (λe=>d (by subst e;rw[h] at n;exact qnB n))];exact h
def bZ{H c:Hp}{b:J9}(s:Same H c)(h:c b=none):H b=none:=by
 cases e:H b with
 |none=>rfl
 |some o=>rw[s b o e] at h;cases h
def But(p:J9)(H c:Hp):Prop:=∀b o,b≠p->H b=some o->c b=some o
def But.refl(p:J9)(H:Hp):But p H H:=λ_ _ _ e=>e
def But.trans{p:J9}{H h f:Hp}(x:But p H h)(y:But p h f):But p H f:=λb o c e=>y b o c (x b o c e)
def But.new{p q:J9}{H c:Hp}{u:HO}(x:But p H c)(h:H q=none):But p H (upd c q u):=λb o f e=>by
 rw[aF (aU e h)];exact x b o f e
def But.of{p:J9}{H c:Hp}(x:Same H c):But p H c:=λb o _ e=>x b o e
def But.same{p:J9}{H f c:Hp}(x:But p H f)(y:Same f c):But p H c:=λb o h e=>y b o (x b o h e)
theorem But.none{p b:J9}{H c:Hp}{u:HO}(x:But p H c)(f:c p=some u)(h:c b = .none):H b = .none:=by
 cases e:H b with
 |none=>rfl
 |some o=>
  have i:b≠p:=λz=>by subst z;rw[f] at h;cases h
  rw[x b o i e] at h;cases h
def Vf{e:Type}{xs:List e}{i:Int}(h:0<=i)(f:i<xs.length):∃v,xs[i.toNat]? = some v/\Cm xs i=some v:=by
 obtain⟨j,rfl⟩:∃j:Nat,i=j:=#[i.toNat,⋯];have c:j<xs.length:=⋯
 exact#[xs[j],by simp[c],aO (by simp[c])]
def qfx{d e n:Int}(j:0<=d)(i:d<n)(f:0<=e)(c:e<n - 1):0<=(d+1+e) % n/\(d+1+e) % n<n/\(d+1+e) % n≠d:=by
 refine#[Int.emod_nonneg _ ⋯,Int.emod_lt_of_pos _ ⋯,?_]
 by_cases h:d+1+e<n
 ·rw[Int.emod_eq_of_lt ⋯ h];lia
 ·have z:d+1+e=(d+1+e - n)+n * 1:=⋯
  rw[z,Int.add_mul_emod_self_left,Int.emod_eq_of_lt ⋯ ⋯];lia
def kE{xs:QAH}{i:Nat}{x:V}(h:(xs.map V.str)[i]? = some x):∃z,xs[i]? = some z/\x = .str z:=by
 rw[qnr] at h;cases e:xs[i]? with
 |none=>rw[e] at h;cases h
 |some z=>rw[e] at h;exact#[z,rfl,(qnB h).symm]
def yD{c:Type}{xs:List c}(h:xs.Nodup){i j:Nat}{x:c}(f:xs[i]? = some x)(e:xs[j]? = some x):i=j:=by
 obtain⟨o,m⟩:=qm2.mp f;obtain⟨n,l⟩:=qm2.mp e;exact(List.getElem_inj h).mp (m.trans l.symm)
def isL(c:Nat):Bool:=!(Builtin.Str.occurrences ("abcdefghijklmnopqrstuvwxyz" : Str) #[[c].toArray] 0 ("abcdefghijklmnopqrstuvwxyz" : Str).length 1).isEmpty
def nameB(x:Str):Bool:=decide (1<=x.length) && decide (x.length<=4) && x.cps.toList.all isL
def Z8:∀n<26,isL (97+n)=true:=by decide+kernel
def RP:∀n:Nat,n<26->Cm (Str.ofString "abcdefghijklmnopqrstuvwxyz").cps.toList (n:Int)=some (97+n):=by decide+kernel
def Bq:(Str.ofString "abcdefghijklmnopqrstuvwxyz").length<=sizeLine:=by decide+kernel
def uD{i:Int}(e:0<=i)(c:i<26):∃n:Nat,i=n/\n<26/\Cm (Str.ofString "abcdefghijklmnopqrstuvwxyz").cps.toList i=some (97+n):=
 #[i.toNat,⋯,⋯,by
  obtain⟨n,rfl⟩:∃n:Nat,i=n:=#[i.toNat,∅];exact RP n ⋯]
structure rN(c:Nat)(k:Nat)(x:Str):Prop where
 len:x.length=k
 fst:x.cps[0]? = some c
 all:x.cps.toList.all isL=true
def rN.one{n:Nat}(h:n<26):rN (97+n) 1 #[[97+n].toArray]:=#[rfl,rfl,by simp[Z8 n h]]
def rN.name{c k:Nat}{x:Str}(h:rN c k x)(f:1<=k)(e:k<=4):nameB x=true:=by
 unfold nameB;rw[h.len,h.all];simp;lia
section
variable {κ:Type} [DecidableEq κ]
def mY(c:List (κ×V))(k:κ):Option V:=(c.find? λe=>decide (e.1=k)).map (·.2)
def putK(c:List (κ×V))(k:κ)(v:V):List (κ×V):=
 if (c.any λe=>decide (e.1=k))=true then c.map (λe=>if e.1=k then (e.1,v) else e) else c++[(k,v)]
def yE{p:κ×V}{r:List (κ×V)}{k:κ}(e:p.1=k):mY (p::r) k=some p.2:=by simp[mY,qpF,e]
def yF{p:κ×V}{r:List (κ×V)}{k:κ}(e:¬p.1=k):mY (p::r) k=mY r k:=by simp[mY,qpF,e]
theorem DG(k:κ):∀c:List (κ×V),(c.any λf=>decide (f.1=k))=(mY c k).isSome
 |[]=>rfl
 |p::r=>by
  rw[qpk]
  by_cases e:p.1=k
  ·simp only[yE e,qnE e,Bool.true_or,Option.isSome_some]
  ·rw[yF e,qnM e,Bool.false_or];exact DG k r
def uE(c:List (κ×V))(k:κ)(v:V):(putK c k v).length<=c.length+1:=by
 unfold putK;split
 ·rw[qm7];lia
 ·rw[qnT,qnt,List.length_nil];lia
def Z9{c:List (κ×V)}{k:κ}(v:V)(h:mY c k=none):putK c k v=c++[(k,v)]:=by
 unfold putK;rw[DG,h];exact if_neg (by decide)
def mV.rm{o:Option V}{u:QAG}(r:mV o u):o.isSome=u.isSome:=by
 cases o with
 |none=>cases u with
  |none=>rfl
  |some _=>exact(show False from r).elim
 |some _=>cases u with
  |none=>exact(show False from r).elim
  |some _=>rfl
theorem mV.getD{o:Option V}{u:QAG}{d:V}{d':eH}(r:mV o u)(c:RelV d d'):RelV (o.getD d) (u.getD d'):=by
 cases o with
 |none=>cases u with
  |none=>exact c
  |some _=>exact(show False from r).elim
 |some _=>cases u with
  |none=>exact(show False from r).elim
  |some _=>exact r
def KV.val{c:List (κ×V)}{vs:List (κ×Value)}(r:KV c vs)(k:κ):mV (mY c k) (valueAt vs k):=by
 unfold KV at r
 induction r with
 |nil=>exact True.intro
 | @cons p q m f h t ih=>
  obtain⟨j,l⟩:=h
  by_cases e:p.1=k
  ·have i:q.1=k:=j.symm.trans e;have b:valueAt (q::f) k=some q.2:=by simp[valueAt,qpF,i]
   rw[yE e,b];exact l
  ·have i:¬q.1=k:=λz=>e (j.trans z);have b:valueAt (q::f) k=valueAt f k:=by simp[valueAt,qpF,i]
   rw[yF e,b];exact ih
theorem KV.any{c:List (κ×V)}{vs:List (κ×Value)}(r:KV c vs)(k:κ):(c.any λe=>decide (e.1=k))=vs.any λe=>decide (e.1=k):=by
 unfold KV at r
 induction r with
 |nil=>rfl
 |cons h t ih=>rw[qpk,qpk,ih,h.1]
def KV.repl{f:List (κ×V)}{vs:List (κ×Value)}(r:KV f vs)(k:κ){y:V}{u:eH}(j:RelV y u) :
  KV (f.map λc=>if c.1=k then (c.1,y) else c) (vs.map λc=>if c.1=k then (c.1,u) else c):=by
 unfold KV at r⊢
 induction r with
 |nil=>exact .nil
 | @cons p q n m h t ih=>
  rw[qnP,qnP];refine .cons ?_ ih;obtain⟨i,l⟩:=h
  by_cases e:p.1=k
  ·rw[if_pos e,if_pos (i.symm.trans e)];exact#[i,j]
  ·rw[if_neg e,if_neg (λz=>e (i.trans z))];exact#[i,l]
def KV.put{c:List (κ×V)}{vs:List (κ×Value)}(r:KV c vs)(k:κ){y:V}{u:eH}(f:RelV y u):KV (putK c k y) (stored vs k u):=by
 unfold putK stored;rw[r.any k]
 by_cases e:(vs.any λh=>decide (h.1=k))=true
 ·rw[if_pos e,if_pos e];exact r.repl k f
 ·rw[if_neg e,if_neg e];exact Paired.snoc r #[rfl,f]
theorem KV.length{c:List (κ×V)}{vs:List (κ×Value)}(r:KV c vs):c.length=vs.length:=Paired.length r
end
def DK{P:qd}{w:lW}{k:Key}{u:eH}(r:RelV (kV k) u):(bV P w).is k u=true:=by
 cases k with
 |inl i=>obtain⟨t,e⟩:=(show ∃t,u=Value.int i t from r);subst e;exact Bo P w i t
 |inr x=>obtain⟨t,e⟩:=(show ∃t,u=Value.str x t from r);subst e;exact Np P w x t
theorem Ir{P:qd}{w:lW}:∀{ks:List Key}{us:QAE},Vals (ks.map kV) us->ItemsAre (bV P w) ks us
 |[],_,r=>by rw[List.map_nil] at r;cases r;exact .nil
 |k::ks,_,r=>by
  rw[qnP] at r;cases r with
  |cons h t=>exact .cons (DK h) (Ir t)
abbrev KT(H:Hp):List (List Key×V)->List (List Key×Addr×Value)->Prop:=Paired λp q=>p.1=q.1/\H q.2.1=some (.tup (p.1.map kV))/\RelV p.2 q.2.2
def KT.val{H:Hp}{c:List (List Key×V)}{xs:List (List Key×Addr×Value)}(r:KT H c xs)(k:List Key):mV (mY c k) ((atKey xs k).map (·.2)):=by
 induction r with
 |nil=>exact True.intro
 | @cons p q m f h t ih=>
  obtain⟨j,_,l⟩:=h
  by_cases e:p.1=k
  ·have i:q.1=k:=j.symm.trans e;have b:atKey (q::f) k=some q.2:=by simp[atKey,qpF,i]
   rw[yE e,b];exact l
  ·have i:¬q.1=k:=λz=>e (j.trans z);have b:atKey (q::f) k=atKey f k:=by simp[atKey,qpF,i]
   rw[yF e,b];exact ih
def KT.repl{H:Hp}{c:List (List Key×V)}{xs:List (List Key×Addr×Value)}(r:KT H c xs)(k:List Key){y:V}{u:eH}(l:RelV y u) :
  KT H (c.map λi=>if i.1=k then (i.1,y) else i) (xs.map (putAt k u)):=by
 induction r with
 |nil=>exact .nil
 | @cons p q o n h t ih=>
  rw[qnP,qnP];refine .cons ?_ ih;obtain⟨f,j,m⟩:=h;unfold putAt
  by_cases e:p.1=k
  ·rw[if_pos e,if_pos (f.symm.trans e)];exact#[f,j,l]
  ·rw[if_neg e,if_neg (λz=>e (f.trans z))];exact#[f,j,m]
def KT.put{H:Hp}{c:List (List Key×V)}{xs:List (List Key×Addr×Value)}(r:KT H c xs)(k:List Key){b:J9}{y:V}{u:eH}(i:H b=some (.tup (k.map kV)))(f:RelV y u) :
  KT H (putK c k y) (storedH xs k b u):=by
 have e:(c.any λh=>decide (h.1=k))=(atKey xs k).isSome:=by
  rw[DG,(r.val k).rm,Option.isSome_map]
 unfold putK storedH;rw[e]
 by_cases q:(atKey xs k).isSome=true
 ·rw[if_pos q,if_pos q];exact r.repl k f
 ·rw[if_neg q,if_neg q];exact Paired.snoc r #[rfl,i,f]
def KT.keeps{H e:Hp}{c:List (List Key×V)}{xs:List (List Key×Addr×Value)}(r:KT H c xs)(f:∀b ys,H b=some (.tup ys)->e b=some (.tup ys)):KT e c xs:=
 Paired.qeQ r λ_ _ z=>#[z.1,f _ _ z.2.1,z.2.2]
section
variable {P:qd}{w:lW}{H:Hp}{h:oY}{a:J9}
def qd6{u:HO}(ok:vH P w H h)(e:Rd H a u):cD P w H h a u:=e.ok ok
def DN{c:List (Key×V)}(ok:vH P w H h)(e:Rd H a (.dK c)):c.length<=sizeLine/\(a == sysModules)=false/\∃vs,KV c vs/\h.DictOf (bV P w) a vs:=
 show cD P w H h a (.dK c) from qd6 ok e
def qd7{c:List (Key×V)}(ok:vH P w H h)(e:H a=some (.dK c)):c.length<=sizeLine/\(a == sysModules)=false/\∃vs,KV c vs/\h.DictOf (bV P w) a vs:=DN ok (.inl e)
def Ab{ks:List Key}(ok:vH P w H h)(e:H a=some (.tup (ks.map kV))):(tupleKind (bV P w)).is h ks a:=by
 obtain⟨_,c,r,o,j,i,n,f⟩:=(show cD P w H h a (.tup (ks.map kV)) from ok a _ e);exact#[o,c.toArray,n,j,i,f,by simpa using Ir r]
def DP{c:List (List Key×V)}(ok:vH P w H h)(e:Rd H a (.dT c)):c.length<=sizeLine/\(a == sysModules)=false/\
  ∃xs,KT H c xs/\h.DictOfH (tupleKind (bV P w)) a xs:=by
 obtain⟨z,y,xs,r,o,A,B,v,u,s,n,j⟩:=(show cD P w H h a (.dT c) from qd6 ok e);refine#[z,y,xs,r,o,A,B,v,u,s,n,λx f=>?_,j];have all:∀{l:List (List Key×V)}{m:List (List Key×Addr×Value)},KT H l m->∀x∈m,(tupleKind (bV P w)).is h x.1 x.2.1:=by
  intro l m q
  induction q with
  |nil=>intro x f;exact nomatch f
  | @cons p q D C i t ih=>
   intro x f
   rcases qnc.mp f with e|f
   ·subst e;exact Ab ok (by rw[<- i.1];exact i.2.1)
   ·exact ih x f
 exact all r x f
def qhu{c:List (List Key×V)}(ok:vH P w H h)(e:H a=some (.dT c)):c.length<=sizeLine/\(a == sysModules)=false/\
  ∃xs,KT H c xs/\h.DictOfH (tupleKind (bV P w)) a xs:=DP ok (.inl e)
end
def kI(H:Hp)(a:J9)(y:V)(r:Option V):Prop:=
 (∃c k,Rd H a (.dK c)/\y=kV k/\r=mY c k)\/∃c k b,Rd H a (.dT c)/\y = .ref b/\H b=some (.tup (k.map kV))/\r=mY c k
def Kq(H:Hp)(a:J9)(y v:V)(e:Hp):Prop:=
 (∃c k,H a=some (.dK c)/\y=kV k/\c.length<sizeLine/\e=upd H a (.dK (putK c k v)))\/
 ∃c k b,H a=some (.dT c)/\y = .ref b/\H b=some (.tup (k.map kV))/\c.length<sizeLine/\e=upd H a (.dT (putK c k v))
theorem kI.k{H:Hp}{a:J9}{c:List (Key×V)}{k:Key}(e:H a=some (.dK c)):kI H a (kV k) (mY c k):=.inl #[c,k,.inl e,rfl,rfl]
theorem Kq.k{H:Hp}{a:J9}{c:List (Key×V)}{k:Key}{v:V}(e:H a=some (.dK c))(f:c.length<sizeLine):Kq H a (kV k) v (upd H a (.dK (putK c k v))):=.inl #[c,k,e,rfl,f,rfl]
section
variable {X:Cx}{p_:QAC}{σ:St}{H:Hp}{s:Y5}{a:J9}{y v:V}{u r:eH}{o:Option V}{A:lY}{E:QAB}
def Inv.big(I:Inv X p_ σ H s):sysModules<s.heap.objs.size:=by
 have h:mainGlobals<s.heap.objs.size:=(I.mod.glob.keeps I.bk).lt;exact Nat.lt_trans (by decide) h
def W0{Q:QAB}(J:A.units+1<cLine)(I:Inv X p_ σ H s)(g:kI H a y (some v))(C:RelV y u)(h:∀f B,Inv X p_ σ H B->RelV v f->Q f B) :
  wpAny (model X.prog X.w) A (getItem (.ref a) u) Q E s:=by
 rcases g with⟨i,k,e,m,l⟩|⟨i,k,b,e,m,N,l⟩
 ·subst m;obtain⟨z,M,G,c,n⟩:=DN I.hok e;obtain⟨f,hw,x⟩:=mV.some_of (v:=v) (o:=valueAt G k) (by rw[l];exact c.val k);exact wpAny_getItem_of (DK C) n.mapOf hw (h f _ (I.tok _) x)
 ·subst m;cases (show u=Value.ref b from C);obtain⟨z,M,D,c,n⟩:=DP I.hok e;obtain⟨f,hw,x⟩:=mV.some_of (v:=v) (o:=(atKey D k).map (·.2)) (by rw[l];exact c.val k);obtain⟨p,L,j⟩:=qod.mp hw;refine wpAny_getItem_heap (qpA J) (Ab I.hok N) n L ?_;rw[j];exact h f _ (I.tok _) x
def qkN{Q:QAB}(x:A.units+1<cLine)(I:Inv X p_ σ H s)(g:kI H a y o)(p:RelV y u)(h:∀n,Inv X p_ σ H n->Q (.bool o.isSome) n) :
  wpAny (model X.prog X.w) A (compareOp .In u (.ref a)) Q E s:=by
 rcases g with⟨f,k,e,j,l⟩|⟨f,k,b,e,j,B,l⟩
 ·subst j;obtain⟨z,i,D,c,m⟩:=DN I.hok e;refine wpAny_in_of (DK p) i m.mapOf ?_;rw[<- (c.val k).rm,<- l];exact h _ (I.tok _)
 ·subst j;cases (show u=Value.ref b from p);obtain⟨z,i,C,c,m⟩:=DP I.hok e;refine wpAny_in_heap (qpA x) (Ab I.hok B) i m ?_;have q:=(c.val k).rm;rw[Option.isSome_map] at q;rw[<- q,<- l];exact h _ (I.tok _)
def qcL{Q:QAB}(x:A.units+1<cLine)(I:Inv X p_ σ H s)(g:kI H a y o)(p:RelV y u)(h:∀n,Inv X p_ σ H n->Q (.bool (!o.isSome)) n) :
  wpAny (model X.prog X.w) A (compareOp .NotIn u (.ref a)) Q E s:=by
 rcases g with⟨f,k,e,j,l⟩|⟨f,k,b,e,j,B,l⟩
 ·subst j;obtain⟨z,i,D,c,m⟩:=DN I.hok e;refine wpAny_notIn_of (DK p) i m.mapOf ?_;rw[<- (c.val k).rm,<- l];exact h _ (I.tok _)
 ·subst j;cases (show u=Value.ref b from p);obtain⟨z,i,C,c,m⟩:=DP I.hok e;refine wpAny_notIn_heap (qpA x) (Ab I.hok B) i m ?_;have q:=(c.val k).rm;rw[Option.isSome_map] at q;rw[<- q,<- l];exact h _ (I.tok _)
def Kr{h':oY}{t':Nat}{ob:HO}(I:Inv X p_ σ H s)(c:Mut (H a))(f:Heap.SameBut a s.heap h')(h:∃q,h'.get? a=some q)(new:cD X.prog X.w (upd H a ob) h' a ob) :
  Inv X p_ σ (upd H a ob) {s with heap:=h',toks:=t'}:=
 I.write (x:=a) (e:=a) c (.inl rfl) (λb q i z=>(f.2 b i).trans z) h new
def Z_{P:qd}{w:lW}{h:Hp}{h':oY}{c:List (Key×V)}{vs:List (Key×Value)}(z:c.length<=sizeLine)(f:(a == sysModules)=false)(e:KV c vs)(dd:h'.DictOf (bV P w) a vs) :
  cD P w h h' a (.dK c):=#[z,f,vs,e,dd]
def W2{U:Hp}{Q:QAJ}(hu:A.units+1<cLine)(I:Inv X p_ σ H s)(g:Kq H a y v U)(L:RelV y u)(M:RelV v r)(h:∀J,Inv X p_ σ U J->Q () J) :
  wpAny (model X.prog X.w) A (setItem (.ref a) u r) Q E s:=by
 rcases g with⟨i,k,e,C,l,D⟩|⟨i,k,b,e,C,T,l,D⟩
 ·subst C D;obtain⟨z,B,vs,f,G⟩:=qd7 I.hok e;have n:vs.length<=sizeLine:=by rw[<- f.length];exact z
  have x:(putK i k v).length<=sizeLine:=by have:=uE i k v;lia
  refine wpAny_setItem_pairs (hsz:=n) (DK L) G λN j p=>h _ ?_;have he:∃q,N.get? a=some q:=let ⟨q,_,_,m,_⟩:=j;#[q,m];exact Kr I (by rw[e];exact True.intro) p he (Z_ x B (f.put k M) j)
 ·subst C D;cases (show u=Value.ref b from L);obtain⟨z,B,Y,f,G⟩:=qhu I.hok e;have n:Y.length<=sizeLine:=by rw[<- Paired.length f];exact z
  have x:(putK i k v).length<=sizeLine:=by have:=uE i k v;lia
  refine wpAny_setItem_heap (hsz:=n) (qpA hu) (Ab I.hok T) G λN j p=>h _ ?_;obtain⟨q,es,ep,m,h2,h3,h4,_,h5⟩:=j;refine Kr I (by rw[e];exact True.intro) p #[q,m] #[x,B,_,(f.put k T M).keeps λc ys O=>?_,q,es,ep,m,h2,h3,h4,h5];rw[aF (jH O e (λz=>nomatch z))];exact O
end
def qhv(i:rz):Prop:=∀c e,subscripted i false c e=operate [c,e] (getItem c e)
def qcM{prog:qd}{w:lW}{A:lY}{E:QAB}{s:Y5}{p:Env}{e c:rz}{pos:Pos}{T id:String}{Q:QAB}
  (B:typeLookup (.type T) "__getitem__" = pure (some (.builtin id))) (z:qhv c)
  (h:wpAny (model prog w) A (eval e p) (λo m=>wpAny (model prog w) A (eval c p) (λi f=>f.TypeIs o T/\wpAny (model prog w) A (getItem o i) Q E f) E m) E s) :
  wpAny (model prog w) A (eval (.Subscript e c pos) p) Q E s:=by
 refine Subscript_ (qn8 h (λo m v=>qn8 v (λi f j=>?_) λ_ _ x=>x) λ_ _ x=>x);obtain⟨y,j⟩:=j;unfold subscriptTail;refine qm3 ?_;rw[getitemInPython_of_ne y.not_modules];refine qm3 (wpAny_specialOf y B ?_);have n:wpAny (model prog w) A (subscripted c false o i) (λr l=>wpAny (model prog w) A (letTemporaryGo e o r >>= λ_=>pure r) Q E l) E f:=by
  rw[z o i];exact wpAny_operating (qn8 j (λr l u=>qm3 (wpAny_letTemporaryGo (qm8 u))) λ_ _ x=>x)
 first
  |exact qm8 (qm3 n)
  |exact qm3 (qm8 (qm3 n))
  |exact qm3 n
def Oj{X:Cx}{h:QAC}{σ:St}{H:Hp}{s:Y5}{a:J9}{y:V}{o:Option V}(I:Inv X h σ H s)(g:kI H a y o):s.TypeIs (.ref a) "dict" :=by
 rcases g with⟨c,k,e,_,_⟩|⟨c,k,b,e,_,_,_⟩
 ·obtain⟨_,_,j,_,f⟩:=DN I.hok e;exact f.typeIs
 ·obtain⟨_,_,i,_,f⟩:=DP I.hok e;exact f.typeIs
def qaa(f ty:TE):TE:=λc H Q=>f c H λx h=>ty c h λy e=>∃a v,x = .ref a/\kI e a y (some v)/\Q v e
def qfy(ty f:TE):TE:=λc H Q=>ty c H λy h=>f c h λx e=>∃a o,x = .ref a/\kI e a y o/\Q (.bl o.isSome) e
def Ks(ty f:TE):TE:=λc H Q=>ty c H λy h=>f c h λx e=>∃a o,x = .ref a/\kI e a y o/\Q (.bl (!o.isSome)) e
def qab(h ty f:TE):TS:=λD c H=>f c H λv l=>h c l λx j=>ty c j λy i=>∃a e,x = .ref a/\Kq i a y v e/\D.nx c e
section
variable {X:Cx}{o i e value:rz}{pos pos' tpos:Pos}{td ty tv:TE}
def qcN(w:X.A.units+1<cLine)(B:PE X o td)(C:PE X i ty)(z:qhv i):PE X (.Subscript o i pos) (qaa td ty):=by
 intro f s c H Q I h;refine qcM PySem.F.slot_dict_getitem.lookup z (cG (B f s c H _ I h) λu l ⟨x,M,J,n,r⟩=>cG (C f l c M _ J r) λU T ⟨y,L,j,m,a,v,D,g,p⟩=>?_);subst D;obtain rfl:u=Value.ref a:=n;exact#[Oj j g,W0 w j g m λN O G E=>#[v,L,G,E,p]]
def qfz(v:X.A.units+1<cLine)(z:PE X i ty)(w:PE X o td):PC X .In i o (qfy ty td):=by
 intro f s c H Q I h;refine cG (z f s c H _ I h) λN j ⟨y,J,E,l,p⟩=>cG (w f j c J _ E p) λu M ⟨x,G,D,m,a,r,B,g,n⟩=>?_;subst B;obtain rfl:u=Value.ref a:=m;exact qkN v D g l λL C=>#[.bl r.isSome,G,C,rfl,n]
def W3(v:X.A.units+1<cLine)(z:PE X i ty)(w:PE X o td):PC X .NotIn i o (Ks ty td):=by
 intro f s c H Q I h;refine cG (z f s c H _ I h) λN j ⟨y,J,E,l,p⟩=>cG (w f j c J _ E p) λu M ⟨x,G,D,m,a,r,B,g,n⟩=>?_;subst B;obtain rfl:u=Value.ref a:=m;exact qcL v D g l λL C=>#[.bl (!r.isSome),G,C,rfl,n]
def qcO(E:X.A.units+1<cLine)(J:PE X o td)(L:PE X i ty)(C:PE X value tv)(G:swapsWith value (some (.Subscript o i pos')) pos.line X.env=pure false) :
  PS X (.Assign [.Subscript o i pos'] value pos) (qab td ty tv):=by
 intro f s c H D I h;refine wpAny_Assign_Subscript (cG (C f s c H _ I h) λr l ⟨v,H1,T,p,B⟩=>cG (J f l c H1 _ T B) λu j ⟨x,Y,Q,n,z⟩=>cG (L f j c Y _ Q z) λiv s3 ⟨y,H3,O,m,a,U,M,g,w⟩=>?_) G;subst M;obtain rfl:u=Value.ref a:=n;exact W2 E O g m p λs4 N=>#[c,U,N,w]
end
def Ol{P:qd}{w:lW}{H:Hp}(h:oY)(c:sysModules<h.objs.size):cD P w H (h.push {cls:=.type "dict",data:=.dict #[]}) h.objs.size (.dK []):=
 #[qnI _,qo7.mpr (qoE (qnf c)),[],.nil,Heap.DictOf.new h]
def qac:TE:=λ_ H Q=>∀p,H p=none->Q (.ref p) (upd H p (.dK []))
section
variable {X:Cx}{pos:Pos}
def Om:PE X (.Dict [] [] pos) qac:=λe s c H Q I h=>
 wpAny_Dict_empty #[.ref s.heap.objs.size,_,I.laid (a:=s.heap.objs.size) (o:=.dK []) (t':=s.toks) (λ_ _ q=>qm4 _ q) (qm5 _) (Ol s.heap I.big),rfl,h _ (I.hok.fresh (qm5 _))]
end
def xu:List (TE×TE)->St->Hp->(List (V×V)->Hp->Prop)->Prop
 |[],_,H,Q=>Q [] H
 |(tk,c)::r,σ,H,Q=>tk σ H λx h=>c σ h λy f=>xu r σ f λps e=>Q ((x,y)::ps) e
abbrev VV:List (V×V)->List (Value×Value)->Prop:=Paired λp q=>RelV p.1 q.1/\RelV p.2 q.2
def PPs(X:Cx)(pos:Pos)(e:List (Option Expr))(c:wZ)(n:List (TE×TE)):Prop:=
 ∀(i:QAC)(s:Y5)(f:St)(H:Hp)(Q:List (V×V)->Hp->Prop),Inv X i f H s->xu n f H Q->
  wpAny (model X.prog X.w) X.A (evalPairs (pairTrees e c X.env pos)) (λl m=>∃h j,Inv X i f j m/\VV h l/\Q h j) X.xe s
def qcP{X:Cx}{pos:Pos}:PPs X pos [] [] []:=λe s c H Q I h=>pairTrees_nil_walk #[[],H,I,.nil,h]
def qad{X:Cx}{pos:Pos}{k v:rz}{ks:List (Option Expr)}{vs:wZ}{tk i:TE}{j:List (TE×TE)}(C:PE X k tk)(A:PE X v i)(B:PPs X pos ks vs j) :
  PPs X pos (some k::ks) (v::vs) ((tk,i)::j):=λf s c H Q I h=>
 pairTrees_cons_walk (cG (C f s c H _ I h) λu m ⟨x,M,G,o,w⟩=>cG (A f m c M _ G w) λO l ⟨y,L,E,n,r⟩=>
  cG (B f l c L _ E r) λN T ⟨z,J,D,e,p⟩=>#[(x,y)::z,J,D,.cons #[o,n] e,p])
def xG(c more:List (Key×V)):List (Key×V):=more.foldl (λe f=>putK e f.1 f.2) c
def KV.merge:∀{more:List (Key×V)}{f:List (Key×Value)}{c:List (Key×V)}{vs:List (Key×Value)},KV more f->KV c vs->KV (xG c more) (merged vs f):=by
 intro more f c vs r;unfold KV at r
 induction r generalizing c vs with
 |nil=>intro q;exact q
 | @cons p q l j h t ih=>
  intro i;have e:KV (putK c p.1 p.2) (stored vs q.1 q.2):=by
   have:=i.put p.1 h.2;rw[<- h.1];exact this
  exact ih e
theorem wJ:∀(more c:List (Key×V)),(xG c more).length<=c.length+more.length
 |[],c=>by show c.length<=c.length+0;lia
 |p::r,c=>by
  have f:=wJ r (putK c p.1 p.2);have e:=uE c p.1 p.2;show(xG (putK c p.1 p.2) r).length<=_;rw[qnt];lia
theorem DQ{P:qd}{w:lW}:∀{e:List (Key×V)}{i:List (Value×Value)},VV (e.map λj=>(kV j.1,j.2)) i->∃f,Carries (bV P w) i f/\KV e f
 |[],_,r=>by rw[List.map_nil] at r;cases r;exact#[[],True.intro,.nil]
 |p::e,_,r=>by
  rw[qnP] at r;cases r with
  | @cons a b as bs h t=>
   obtain⟨f,c,q⟩:=DQ (P:=P) (w:=w) t;obtain⟨b1,b2⟩:=b;exact#[(p.1,b2)::f,#[DK h.1,rfl,c],.cons #[rfl,h.2] q]
def qd8(j:List (TE×TE)):TE:=λh H Q=>∀p,H p=none->xu j h (upd H p (.dK [])) λi f=>f p=some (.dK [])/\∃c:List (Key×V),i=c.map (λe=>(kV e.1,e.2))/\c.length<=15/\Q (.ref p) (upd f p (.dK (xG [] c)))
def qcQ{X:Cx}{pos:Pos}{f:List (Option Expr)}{i:wZ}{r:List (TE×TE)}(h:PPs X pos f i r)(l:f.all (·.isSome)=true)(N:f.length=i.length)(Y:f≠[])
  (p:f.length<=15):PE X (.Dict f i pos) (qd8 r):=by
 intro E s v H Q I q;have M:=I.hok.fresh (qm5 s.heap.objs.size);have I1:=I.laid (a:=s.heap.objs.size) (o:=.dK []) (h':=s.heap.push {cls:=.type "dict",data:=.dict #[]}) (t':=s.toks) (λ_ _ q=>qm4 _ q) (qm5 _) (Ol s.heap I.big);refine wpAny_Dict_walk (knd:=bV X.prog X.w) l N Y p (cG (h E _ v _ _ I1 (q _ M)) λws s2 x=>?_);obtain⟨ps,H2,u,n,e,j,ep,lk,D⟩:=x;subst ep;obtain⟨A,c,B⟩:=DQ (P:=X.prog) (w:=X.w) n;obtain⟨z,T,y,C,dd⟩:=qd7 u.hok e;cases C;refine#[A,c,dd,λh' m J=>#[.ref s.heap.objs.size,_,?_,rfl,D]];have G:(xG [] j).length<=sizeLine:=by
  have U:=wJ j [];rw[List.length_nil] at U;rw[qpN];lia
 have O:∃q,h'.get? s.heap.objs.size=some q:=let ⟨q,_,_,L,_⟩:=m;#[q,L];exact Kr u (by rw[e];exact True.intro) J O (Z_ G T (B.merge .nil) m)
structure M2(X:Cx)(o:rz)(m:Str)(apos:Pos)(e f:rz)(cpos:Pos):Prop where
 base:attributeBase o m X.env (eval o X.env)=eval o X.env
 few:((backTo cpos (starEach [e,f] X.env)).all (λx=>!x.1) && (backToKw cpos (keywordEach [] X.env)).all (λx=>x.1.isSome)
  && decide (([e,f]:List Expr).length+([]:List Keyword).length+(if ([]:List Keyword).isEmpty then 0 else 1)<30))=true
 line:(apos.endLine == cpos.line)=true
 trees:backTo cpos (starEach [e,f] X.env)=[(false,eval e X.env),(false,eval f X.env)]
def IsD(H:Hp)(a:J9):Prop:=(∃c,Rd H a (.dK c))\/∃c,Rd H a (.dT c)
def qfA{X:Cx}{l:QAC}{σ:St}{H:Hp}{s:Y5}{a:J9}(I:Inv X l σ H s)(d:IsD H a) :
  s.TypeIs (.ref a) "dict" /\(∀b,Value.ref a = .ref b->∃ob,s.heap.get? b=some ob/\ob.dict=none)/\(a == sysModules)=false:=by
 rcases d with⟨f,e⟩|⟨f,e⟩
 ·obtain⟨_,h,n,_,c⟩:=DN I.hok e;refine#[c.typeIs,λb q=>?_,h];cases q;obtain⟨ob,_,_,j,i,_⟩:=c;exact#[ob,j,i.2.1]
 ·obtain⟨_,h,m,_,c⟩:=DP I.hok e;refine#[c.typeIs,λb q=>?_,h];cases q;obtain⟨ob,_,_,j,i,_⟩:=c;exact#[ob,j,i.2.1]
section
variable {X:Cx}{p_:QAC}{σ:St}{H:Hp}{s:Y5}{a:J9}{y d:V}{u r:eH}{o:Option V}{A:lY}{E:QAB}
def qfB{Q:QAB}(C:A.units+1<cLine)(I:Inv X p_ σ H s)(g:kI H a y o)(v:RelV y u)(x:RelV d r)(h:∀n p,Inv X p_ σ H p->RelV (o.getD d) n->Q n p) :
  wpAny (model X.prog X.w) A (call (.builtin "dict.get") [.ref a,u,r]) Q E s:=by
 rcases g with⟨i,k,e,m,l⟩|⟨i,k,b,e,m,D,l⟩
 ·subst m;obtain⟨z,j,G,c,f⟩:=DN I.hok e;refine call_meetsIn PySem.F.slot_dict_get f.typeIs PySem.F.entry_dict_get (PySem.F.args_dict_get_3 _ _ _) (meets_dict_get_default (bV X.prog X.w) a (DK v) j r) #[_,f.mapOf,h _ _ (I.tok _) ?_];rw[l];exact(c.val k).getD x
 ·subst m;cases (show u=Value.ref b from v);obtain⟨z,j,B,c,f⟩:=DP I.hok e;refine call_meetsIn PySem.F.slot_dict_get f.typeIs PySem.F.entry_dict_get (PySem.F.args_dict_get_3 _ _ _) (meetsH_dict_get_default (tupleKind (bV X.prog X.w)) a b j r) #[qpA C,k,B,Ab I.hok D,f,h _ _ (I.tok _) ?_];rw[l];exact(c.val k).getD x
end
def RQ(i ty h:TE):TE:=λc H Q=>i c H λx f=>∃a,x = .ref a/\IsD f a/\ty c f λy j=>h c j λz e=>∃o,kI e a y o/\Q (o.getD z) e
section
variable {X:Cx}{o e f:rz}{apos cpos:Pos}{td ty tx:TE}
def Oo(J:X.A.units+1<cLine)(L:PE X o td)(N:PE X e ty)(M:PE X f tx) (m:M2 X o "get" apos e f cpos):PE X (.Call (.Attribute o "get" apos) [e,f] [] cpos) (RQ td ty tx):=by
 intro i s c H Q I h;refine wpAny_Call_method m.base m.few m.line PySem.F.plainAttrs_dict PySem.F.slot_dict_get PySem.F.type_dict_get (cG (L i s c H _ I h) λu v l=>?_);obtain⟨x,H1,j,C,a,O,d,G⟩:=l;subst O;obtain rfl:u=Value.ref a:=C;obtain⟨p,n,_⟩:=qfA j d;refine#[p,n,?_];rw[m.trees];refine Calls.callWith_builtin rfl (Calls.evalArgs_plain (Calls.spliced_cons (cG (N i v c H1 _ j G) λiv r ⟨y,H2,I2,B,E⟩=>
  Calls.spliced_cons (cG (M i r c H2 _ I2 E) λfv s3 ⟨z,H3,Y,w,ov,g,D⟩=>Calls.spliced_nil ?_))))
 exact qfB J Y g B w λw' s4 U T=>#[_,H3,U,T,D]
end
structure Nm2(mg:Y4):Prop where
 enumerate:mg "enumerate" = none
 any:mg "any" = none
 dict:mg "dict" = none
 sorted:mg "sorted" = none
 repr:mg "repr" = none
 bool:mg "bool" = none
def Inv.qcR{X:Cx}{w:QAC}{σ:St}{H:Hp}{s:Y5}{z:oY}{t':Nat}{x y:V}{u p:eH}(I:Inv X w σ H s)(f:Inv X w σ H {s with heap:=z,toks:=t'})(C:RelV x u)(r:RelV y p)
  (O:z.get? s.heap.objs.size=some {cls:=.type "tuple",data:=.seq [u,p].toArray}):Inv X w σ (upd H s.heap.objs.size (.tup [x,y])) {s with heap:=z,toks:=t'}:=by
 have h:H s.heap.objs.size=none:=I.hok.fresh (qm5 _);refine#[f.ok,f.os,f.bare,#[f.base.keep,f.base.slot,λc o e n J=>?_,f.base.there,λc A e=>?_,λc o v e=>?_,λc D e=>?_],f.loc,f.cell,?_,λv c e=>?_,λv B=>?_,?_,f.len]
 ·rw[aF (λi=>?_)]
  ·exact f.base.free c o e n J
  ·exact absurd (qnj (qm9 e) I.sz) (by rw[i];exact qoj _)
 ·have i:=f.base.tups c A e;rw[aF (aU i h)];exact i
 ·have i:=f.base.ug c o v e;rw[aF (aU i h)];exact i
 ·obtain⟨m,i⟩:=f.base.uh c D e;exact#[m,by rw[aF (aU i h)];exact i]
 ·rw[aF (qnf I.lt)];exact f.free
 ·obtain⟨Q,G⟩:=I.cell v c e;rw[aF (qnf G.lt)];exact f.iR v c e
 ·obtain⟨N,M,L⟩:=f.pin v B;refine#[N,?_,L];rw[aF (qnf (qm9 (I.pin v B).1))];exact M
 ·intro c v e
  by_cases l:c=s.heap.objs.size
  ·subst l;rw[ak] at e;cases e;exact#[by show 2<=sizeLine;rw[qpN];decide,[u,p],.cons C (.cons r .nil),#[_,O,rfl,0,rfl]]
  ·rw[aF l] at e;refine(f.hok c v e).stay (λ_ _ _ E=>E) (λd j=>?_) λd A j=>?_
   ·rw[aF (aU j h)];exact j
   ·rw[aF (aU j h)];exact j
def Ite(K:YZ)(a:J9):It:=
 #[λi H=>∃c x,aV K H a c/\c[i]? = some x,
  λi H v e=>∃t x,v = .ref t/\H t=none/\e=upd H t (.tup [.int i,x])/\∀c,aV K H a c->c[i]? = some x,
  λi H=>∃c,aV K H a c/\c.length<=i]
structure Ku(e it a:J9)(i:Nat)(h:oY):Prop where
 he:∃old,IsEnum h e it i old
 hi:h.IsListIter it a i
def DR{Y:Cx->Prop}{m:Nat->Hp->Prop}{P:qd}{w:lW}{K:YZ}{es:wZ}{k:Nat}{pos:Pos}{e it a:J9}(n:e≠it)
  (hd:∀(X:Cx),X.K=K->Y X->∀(i:Nat)(f:QAC)(s:Y5)(σ:St)(H:Hp)(E:QAB),Inv X f σ H s->(∀c∈[e,it],pB X f H c)->Ku e it a i s.heap->m i H->wpAny (model X.prog X.w) X.A (pyNext (.ref e)) (λr s1=>r=none/\Inv X f σ H s1) E s) :
  wI Y P w K (.Tuple es k pos) #[(Ite K a).go,(Ite K a).UW,m] [e,it] e (Ku e it a) where
 mem:=by simp
 obj:=λi h st c l=>by
  simp only[qnc,qnF,qoD] at l
  rcases l with rfl|rfl
  ·obtain⟨old,q⟩:=st.he;exact#[_,q,λv e=>nomatch e]
  ·obtain⟨o,e,_,d⟩:=st.hi;exact#[o,e,λv y=>by rw[d] at y;cases y]
 keep:=λi h h' st p=>by
  obtain⟨old,q⟩:=st.he;exact#[#[old,p e (by simp) _ q],st.hi.at λo z=>p it (by simp) o z]
 item:=by
  intro X L hw M _ i f s σ H E I B st J;subst L hw M;obtain⟨xs,x,Q,T⟩:=J;obtain⟨a0,rv,pl,aa⟩:=I.list Q;obtain⟨u,hu,ru⟩:=rv.get T;obtain⟨old,N⟩:=st.he;obtain⟨o1,e1,c1,_⟩:=id st.hi;refine wpAny_pyNext_enum_item N st.hi pl.isList (x:=u) (by simpa using hu) n λh' a1 a2 a3 a4 p=>?_;refine#[_,rfl,wpAny_letOwnedTupleGo_enum a1 λO b1 C=>?_];have lt:∀{c o},s.heap.get? c=some o->s.heap.objs.size≠c:=λe=>qoF (qm9 e);have hn:H s.heap.objs.size=none:=I.hok.fresh (qm5 _);have D:∀c o,c∉[e,it]->s.heap.get? c=some o->O.get? c=some o:=λc o l z=>by
   simp only[qnc,qnF,qoD,not_or] at l;exact(C.2 c l.1).trans (p c o l.1 l.2 z)
  have I1:Inv X f σ H {s with heap:=O,toks:=s.toks+1}:=I.vJ D B;have Oe:=C.extBut _ _ (lt N) a3;have I2:Inv X f σ (upd H s.heap.objs.size (.tup [.int i,x])) {s with heap:=O,toks:=s.toks+1}:=I.qcR I1 #[_,rfl] ru Oe;refine#[.ref s.heap.objs.size,_,I2,rfl,#[s.heap.objs.size,x,rfl,hn,rfl,λU q'=>by rw[I.ur q' Q];exact T],?_,λc j=>?_]
  ·exact#[#[_,b1],a2.extBut C.extBut n.symm]
  ·have G:c≠s.heap.objs.size:=by
    simp only[qnc,qnF,qoD] at j
    rcases j with rfl|rfl
    ·exact(lt N).symm
    ·exact(lt e1).symm
   rw[aF G];exact(B c j).1
 done:=by
  intro X L hw M hY i f s σ H E I B st J;subst L hw;exact hd X M hY i f s σ H E I B st J
 self:=λ_ _ _ _ _ st h=>by
  obtain⟨old,q⟩:=st.he;exact wpAny_pyIter_enum q h
def W4{P:qd}{w:lW}{K:YZ}{B:wZ}{k:Nat}{pos:Pos}{e it a:J9}(h:e≠it) :
  Turn P w K (.Tuple B k pos) (Ite K a) [e,it] e (Ku e it a):=by
 refine wI.t (DR h ?_);intro X y x i G s C H E I v st u;subst y;obtain⟨D,l,L⟩:=u;obtain⟨p,j,m,r⟩:=I.list l;obtain⟨old,A⟩:=st.he;have J:=j.length;refine wpAny_pyNext_enum_end (I.ok.hd x) A st.hi m.isList (by simp;lia) λM n=>#[rfl,I.vJ (t':=s.toks) (λc o f z=>?_) v];simp only[qnc,qnF,qoD,not_or] at f;exact n c o f.2 z
section
variable {X:Cx}{K:YZ}
def qae(K:YZ)(t:TA):TI:=λe H R=>t e H λh c=>∃a f,h=[.ref a]/\aV K c a f/\R (Ite K a) c
def Ac:bootBuiltins "enumerate" = some (.type "enumerate"):=by decide+kernel
def vL(Q:X.K=K){T:wZ}{k:Nat}{i:Pos}{a:rz}{n:TA}{p pos:Pos} (N:Gl X "enumerate") (M:X.mg "enumerate" = none) (O:PA X [a] n)
  (L:starEach [a] X.env=[(false,eval a X.env)]:=by rfl) :
  PI X (.Tuple T k i) (.Call (.Name "enumerate" p) [a] [] pos) (qae K n):=by
 subst Q;intro o s m H R I h;refine Call_ (mz I N M Ac (qnX (cG (O pos o s m H _ I h) λus f y=>?_) (by rw[L];rfl) (by rfl)));obtain⟨vs,x,l,z,B⟩:=y;obtain⟨D,Y,e,A,q⟩:=B;subst e;obtain⟨u,rfl,r⟩:=vals1 z;obtain rfl:u=Value.ref D:=r;obtain⟨G,rv,C,J⟩:=l.list A;refine call_enumerate_list C.isList λw b1 b2 b3 E=>?_;refine wpAny_pyIter_enum (s:={f with heap:=w}) b1 ?_;have U:Inv X o m x {f with heap:=w}:=l.kept (t':=f.toks) E;refine#[f.heap.objs.size+1,[f.heap.objs.size+1,f.heap.objs.size],_,_,x,rfl,U,W4 (Nat.succ_ne_self _),#[#[_,b1],b2],λc v=>?_,q];have j:f.heap.objs.size<=c:=by
  simp only[qnc,qnF,qoD] at v
  rcases v with rfl|rfl <;> first|exact qpW _ _|exact qm5 _
 exact l.zY j (l.hok.fresh j)
end
section
variable {X:Cx}{K:YZ}{tg:rz}
def Vg(m:X.K=K){n:wZ}{k:Nat}{c:Pos}{a b:rz}{f:TA}{p pos:Pos} (j:Gl X "zip") (i:X.mg "zip" = none) (l:PA X [a,b] f)
  (h:starEach [a,b] X.env=[(false,eval a X.env),(false,eval b X.env)]:=by rfl) (e:starEach [b] X.env=[(false,eval b X.env)]:=by rfl) :
  PI X (.Tuple n k c) (.Call (.Name "zip" p) [a,b] [] pos) (qcF K f):=by subst m;exact qfp j i l h e
def CK(p:X.K=K){o:rz}{to:TE}{name:Str}{e c:Pos}{T id:String}{r:QA2}(l:PlainAttrs T)(i:Slot T name id) (j:typeOf (.builtin id)=pure (.type "method_descriptor")) (n:N7 X id r) (m:PE X o to)
  (h:attributeBase o name X.env (eval o X.env)=eval o X.env:=by rfl) (f:(e.endLine == c.line)=true:=by rfl):PE X (.Call (.Attribute o name e) [] [] c) (qcD K T r to):=by subst p;exact qfi l i j n m h f
def Vh(n:X.K=K){o c:rz}{i h:TE}{f:Str}{pos e:Pos}(m:PE X o i)(j:PE X c h)(l:swapsWith c (some (.Attribute o f e)) pos.line X.env=pure false):PS X (.Assign [.Attribute o f e] c pos) (qfa K i h f):=by subst n;exact qfc m j l
end
@[simp ↓] theorem qkO (i:Nat) σ H Q:qco i σ H Q=(∃v,σ[i]? = some (some v)/\Q v H):=rfl
@[simp ↓] theorem qmE (v:V) c H Q:tC v c H Q=(Q v H):=rfl
@[simp ↓] theorem qmF (t:TE) σ H Q:tB t σ H Q=(t σ H λx e=>∃c,x = .bl c/\Q c e):=rfl
@[simp ↓] theorem qkP (t:TT) σ H Q:qeT t σ H Q=(t σ H λc e=>Q (!c) e):=rfl
@[simp ↓] theorem qjz (e:TE) σ H Q:Y_ e σ H Q=(e σ H λx f=>∃c,x = .bl c/\Q (.bl (!c)) f):=rfl
@[simp ↓] theorem qjA D σ H:Zb  D σ H=(D.nx σ H):=rfl
@[simp ↓] theorem qkQ (t u:TS) D σ H:Zc t u D σ H=(t {D with nx:=u D} σ H):=rfl
@[simp ↓] theorem qjB (c:TE) D σ H:Zd c D σ H=(c σ H λ_ e=>D.nx σ e):=rfl
@[simp ↓] theorem qkR (c:TE) D σ H:qeW c D σ H=(c σ H D.rt):=rfl
@[simp ↓] theorem qhw e c z2:Ze  e c z2=(False):=rfl
@[simp ↓] theorem qjC (i:Nat) v σ H Q:Dr i v σ H Q=(Q (σ.set i (some v)) H):=rfl
@[simp ↓] theorem qkS vs σ H Q:qeX  vs σ H Q=(vs=[]/\Q σ H):=rfl
@[simp ↓] theorem qjD (t:TG)(u:HF) vs σ H Q:Zf t u vs σ H Q=(∃v r,vs=v::r/\t v σ H λc e=>u r c e Q):=rfl
@[simp ↓] theorem qkT (K:YZ)(n:Nat)(t:HF) v σ H Q:qcq K n t v σ H Q=(∃a xs,v = .ref a/\cO K H a xs/\xs.length=n/\t xs σ H Q):=rfl
@[simp ↓] theorem qkU (to c:TE)(t:Wm) v σ H Q:qg7 to c t v σ H Q=(to σ H λo h=>c σ h λi f=>t o i v f λe=>Q σ e):=rfl
@[simp ↓] theorem qkV (c:TE)(g:TG) D σ H:Zh c g D σ H=(c σ H λx e=>g x σ e D.nx):=rfl
@[simp ↓] theorem qkW (i:Nat)(e:TE)(c:TIp) D σ H:qeZ i e c D σ H=(∃x,σ[i]? = some (some x)/\e σ H λy h=>c x y h λz f=>D.nx (σ.set i (some z)) f):=rfl
@[simp ↓] theorem qmc (f:Int->Int->Int) x y H Q:ipI f x y H Q=(∃i j,x = .int i/\y = .int j/\Q (.int (f i j)) H):=rfl
@[simp ↓] theorem qjE (K:YZ)(c:TE) σ H R:U3 K c σ H R=(c σ H λx e=>∃a,x = .ref a/\(∃xs,aV K e a xs)/\R (Rk K a) e):=rfl
@[simp ↓] theorem qjF (c:TA) σ H R:Zj c σ H R=(c σ H λvs e=>∃j:Int,vs=[.int j]/\-(2 ^ 62)<=j/\j<2 ^ 62/\R (Ra 0 j.toNat) e):=rfl
@[simp ↓] theorem qjG (c:TA) σ H R:Zk c σ H R=(c σ H λvs e=>∃i j:Int,vs=[.int i,.int j]/\(-(2 ^ 62)<=i/\i<2 ^ 62/\-(2 ^ 62)<=j/\j<2 ^ 62)/\R (Ra i (j - i).toNat) e):=rfl
@[simp ↓] theorem qmd (r:R2)(c tb:TE) σ H Q:tOp r c tb σ H Q=(c σ H λx f=>tb σ f λy e=>r x y e Q):=rfl
@[simp ↓] theorem qme (r:V->Hp->VK->Prop)(c:TE) σ H Q:tUn r c σ H Q=(c σ H λx e=>r x e Q):=rfl
@[simp ↓] theorem qjH (t:TE) σ H Q:U9 t σ H Q=(t σ H λx c=>∃k,x = .bl k/\Q k c):=rfl
@[simp ↓] theorem qkX (K:YZ)(c:TE)(f:Str) σ H Q:qcw K c f σ H Q=(c σ H λx e=>∃a C h fs v,x = .ref a/\e a=some (.ins C h fs)/\Cls K C/\mC K C f/\fs.lookup f=some v/\Q v e):=rfl
@[simp ↓] theorem qkY (K:YZ)(e c:TE)(f:Str) D σ H:qfa K e c f D σ H=(c σ H λy j=>e σ j λx i=>∃a C h fs,x = .ref a/\i a=some (.ins C h fs)/\Cls K C/\mC K C f/\fs.length<1000/\D.nx σ (upd i a (.ins C h (kh f y fs)))):=rfl
@[simp ↓] theorem qkZ c H Q:Wy  c H Q=(Q [] H):=rfl
@[simp ↓] theorem qjI (e:TE)(c:TA) σ H Q:HS e c σ H Q=(e σ H λx h=>c σ h λxs f=>Q (x::xs) f):=rfl
@[simp ↓] theorem qk0 (t:TA) σ H Q:qhf t σ H Q=(t σ H λxs c=>xs.length<=sizeLine/\∀p,c p=none->Q (.ref p) (upd c p (.tup xs))):=rfl
@[simp ↓] theorem qk1 (t:TA) σ H Q:qhg t σ H Q=(t σ H λxs c=>xs.length<=sizeLine/\∀p,c p=none->Q (.ref p) (upd c p (.lst xs))):=rfl
@[simp ↓] theorem qmf (r:QA3)(t:TA) σ H Q:tCB r t σ H Q=(t σ H λvs c=>r vs c Q):=rfl
@[simp ↓] theorem qgR c H Q:Va  c H Q=(Q none H):=rfl
@[simp ↓] theorem qjJ (t:TE) σ H Q:ZG t σ H Q=(t σ H λx c=>∃i,x = .int i/\Q (some i) c):=rfl
@[simp ↓] theorem qmg (r:V->Option Int->Option Int->Hp->VK->Prop)(f:TE)(c e:TO) σ H Q:tSl r f c e σ H Q=(f σ H λx j=>c σ j λl i=>e σ i λu h=>r x l u h Q):=rfl
@[simp ↓] theorem qk2 (K:YZ)(T:String)(r:QA2)(to:TE) σ H Q:qcD K T r to σ H Q=(to σ H λx c=>tyV K T x c/\r x [] c Q):=rfl
@[simp ↓] theorem qmh (K:YZ)(T:String)(r:QA2)(to:TE)(t:TA) σ H Q:tBM K T r to t σ H Q=(to σ H λx c=>tyV K T x c/\t σ c λxs e=>r x xs e Q):=rfl
@[simp ↓] theorem qk3 c H Q:qho  c H Q=(Q true H):=rfl
@[simp ↓] theorem qk4 (c:TE) σ H R:qfn c σ H R=(c σ H λx e=>∃z,x = .str z/\R (Its z) e):=rfl
@[simp ↓] theorem qk5 (K:YZ)(t:TA) σ H R:qcF K t σ H R=(t σ H λvs c=>∃a b xs ys,vs=[.ref a,.ref b]/\aV K c a xs/\aV K c b ys/\R (WQ K a b) c):=rfl
@[simp ↓] theorem qk6 (K:YZ)(c:TE) σ H R:qfv K c σ H R=(c σ H λx e=>∃b p,x = .ref p/\(∃xs,SqB b K e p xs)/\R (Itq b K p) e):=rfl
structure qk7(Q:VK) where
 n:Nat
structure qaf(g:TG)(tb:TS)(D:Ends) where
 n:Nat
structure qhx(c:TT)(tb:TS)(D:Ends) where
 n:Nat
structure qag(g:TG)(tt:TT)(te:TE)(Q:Hp->Prop) where
 n:Nat
structure RV(A B:Prop) where
 n:Nat
def RW(sp:Sp)(vs:QA0)(H:Hp)(Q:VK)(d:qk7 Q)(E:XK):Prop:=sp vs H Q E
def tFr(J:It)(g:TG)(tb:TS)(D:Ends)(d:qaf g tb D)(σ:St)(H:Hp):Prop:=qfw J g tb D σ H
def tWh(c:TT)(tb:TS)(D:Ends)(d:qhx c tb D)(σ:St)(H:Hp):Prop:=JV c tb D σ H
def tCm(e:QAH)(c:wX)(J:It)(g:TG)(f:TT)(h:TE)(Q:Hp->Prop)(d:qag g f h Q)(D:J9)(σ:St)(H:Hp):Prop:=mX e c J g f h D σ H Q
def cZ(b:Bool)(A B:Prop)(d:RV A B):Prop:=if b=true then A else B
@[simp] theorem qmi (A B:Prop)(d:RV A B):cZ true A B d=A:=rfl
@[simp] theorem qmj (A B:Prop)(d:RV A B):cZ false A B d=B:=rfl
def cZ.of{b:Bool}{A B:Prop}{d:RV A B}(e:b=true->A)(c:b=false->B):cZ b A B d:=by
 cases b with
 |true=>exact e rfl
 |false=>exact c rfl
def cZ.pos{b:Bool}{A B:Prop}{d:RV A B}(h:b=true)(c:A):cZ b A B d:=by subst h;exact c
def cZ.neg{b:Bool}{A B:Prop}{d:RV A B}(h:b=false)(c:B):cZ b A B d:=by subst h;exact c
@[simp ↓] theorem qjK (sp:Sp)(c:QA0)(E:XK)(t:TA)(σ:St)(H:Hp)(Q:VK):Zx sp c E t σ H Q=t σ H λvs e=>RW sp (vs++c) e Q #[0] E:=rfl
@[simp ↓] theorem qjL (C:J9)(m:Str)(sp:Sp)(c:QA0)(E:XK)(e:TE)(t:TA)(σ:St)(H:Hp)(Q:VK):Zy C m sp c E e t σ H Q=e σ H λx f=>∃a h fs,x = .ref a/\f a=some (.ins C h fs)/\fs.lookup m=none/\t σ f λvs i=>RW sp (x::(vs++c)) i Q #[0] E:=rfl
@[simp ↓] theorem qjM (C:J9)(sp:Sp)(f:QA0)(E:XK)(t:TA)(σ:St)(H:Hp)(Q:VK):Zz C sp f E t σ H Q=t σ H λvs e=>∀x c,e x=none->e c=none->c≠x->
 RW sp (.ref x::(vs++f)) (upd (upd e c (.own x)) x (.ins C c [])) (λv h=>v = .non/\Q (.ref x) h) #[0] E:=rfl
@[simp ↓] theorem qk8 (c:TI)(g:TG)(tb:TS)(D:Ends)(σ:St)(H:Hp):qe1 c g tb D σ H=c σ H λJ e=>tFr J g tb D #[0] σ e:=rfl
@[simp ↓] theorem qhy (c:TT)(tb:TS)(D:Ends)(σ:St)(H:Hp):JV c tb D σ H=tWh c tb D #[0] σ H:=rfl
@[simp ↓] theorem qjN (e:QAH)(c:wX)(f:TI)(g:TG)(h:TT)(i:TE)(σ:St)(H:Hp)(Q:VK):Ig e c f g h i σ H Q=f σ H λJ j=>∀D,j D=none->tCm e c J g h i (Q (.ref D)) #[0] D σ (upd j D (.lst [])):=rfl
@[simp ↓] theorem qk9 (c:TT)(t u:TS)(D:Ends)(σ:St)(H:Hp):qcp c t u D σ H=c σ H λb e=>cZ b (t D σ e) (u D σ e) #[0]:=rfl
@[simp ↓] theorem qmk (c:TT)(t u:TE)(σ:St)(H:Hp)(Q:VK):tIf c t u σ H Q=c σ H λb e=>cZ b (t σ e Q) (u σ e Q) #[0]:=rfl
@[simp ↓] theorem qk_ (t u:TT)(σ:St)(H:Hp)(Q:Bool->Hp->Prop):qg6 t u σ H Q=t σ H λc e=>cZ c (u σ e Q) (Q false e) #[0]:=rfl
@[simp ↓] theorem qml (t u:TT)(σ:St)(H:Hp)(Q:Bool->Hp->Prop):tOr t u σ H Q=t σ H λc e=>cZ c (Q true e) (u σ e Q) #[0]:=rfl
@[simp ↓] theorem qjO (e tb:TE)(σ:St)(H:Hp)(Q:VK):Y9 e tb σ H Q=e σ H λx f=>∃c,x = .bl c/\cZ c (tb σ f Q) (Q (.bl false) f) #[0]:=rfl
@[simp ↓] theorem qhz (r f:R2)(e tb c:TE)(σ:St)(H:Hp)(Q:VK):JW r f e tb c σ H Q=e σ H λx l=>tb σ l λy j=>r x y j λz h=>∃k,z = .bl k/\cZ k (c σ h λz i=>f y z i Q) (Q (.bl false) h) #[0]:=rfl
def yG(g:TG)(i:TT)(j:TE)(D:J9)(N:QA4)(x:V)(σ:St)(H:Hp):Prop:=
 g x σ H λc l=>i c l λb h=>cZ b (j c h λy f=>∃e,f D=some (.lst e)/\e.length<sizeLine/\N c (upd f D (.lst (e++[y])))) (N c h) #[0]
@[simp ↓] theorem qjP (g:TG)(e:TT)(f:TE)(D:J9)(N:QA4)(x:V)(σ:St)(H:Hp):yG g e f D N x σ H =
 (g x σ H λc j=>e c j λb i=>cZ b (f c i λy h=>∃ys,h D=some (.lst ys)/\ys.length<sizeLine/\N c (upd h D (.lst (ys++[y])))) (N c i) #[0]):=rfl
@[simp ↓] theorem qla {c:Type}(a b:c)(R:c->c->Prop):(∃v w,[a,b]=[v,w]/\R v w)=R a b:=by
 refine propext #[?_,λh=>#[a,b,rfl,h]];rintro⟨_,_,e,h⟩;cases e;exact h
@[simp] theorem qjQ {c β:Type}(a:c)(b:β)(R:c->β->Prop):(∃v w,(a=v/\b=w)/\R v w)=R a b:=by
 refine propext #[?_,λh=>#[a,b,#[rfl,rfl],h]];rintro⟨_,_,⟨rfl,rfl⟩,h⟩;exact h
@[simp] theorem sz0:(0<=sizeLine)=True:=qoY (by decide)
@[simp] theorem sz1:(1<=sizeLine)=True:=qoY (by decide)
@[simp] theorem sz2:(2<=sizeLine)=True:=qoY (by decide)
@[simp] theorem sz3:(3<=sizeLine)=True:=qoY (by decide)
@[simp] theorem sz4:(4<=sizeLine)=True:=qoY (by decide)
@[simp] theorem sz5:(5<=sizeLine)=True:=qoY (by decide)
@[simp] theorem sz6:(6<=sizeLine)=True:=qoY (by decide)
@[simp] theorem sz7:(7<=sizeLine)=True:=qoY (by decide)
@[simp] theorem sz8:(8<=sizeLine)=True:=qoY (by decide)
@[simp] theorem sz9:(9<=sizeLine)=True:=qoY (by decide)
@[simp] theorem qmG:(10<=sizeLine)=True:=qoY (by decide)
@[simp] theorem qmH:(11<=sizeLine)=True:=qoY (by decide)
@[simp] theorem qmI:(12<=sizeLine)=True:=qoY (by decide)
@[simp] theorem qmJ:(13<=sizeLine)=True:=qoY (by decide)
@[simp] theorem qmK:(14<=sizeLine)=True:=qoY (by decide)
@[simp] theorem qmL:(15<=sizeLine)=True:=qoY (by decide)
@[simp] theorem qmM:(16<=sizeLine)=True:=qoY (by decide)
@[simp] theorem qmN:(17<=sizeLine)=True:=qoY (by decide)
@[simp] theorem qmO:(18<=sizeLine)=True:=qoY (by decide)
@[simp] theorem qmP:(19<=sizeLine)=True:=qoY (by decide)
@[simp] theorem xH:(20<=sizeLine)=True:=qoY (by decide)
@[simp] theorem qjR (i j:Int):Cj (.int i) (.int j)=true:=rfl
@[simp] theorem qjS (i j:Str):Cj (.str i) (.str j)=true:=rfl
@[simp] theorem qjT (i j:Bool):Cj (.bl i) (.bl j)=true:=rfl
@[simp] theorem qjU (i:Int)(j:Str):Cj (.int i) (.str j)=true:=rfl
@[simp] theorem qjV (i:Int)(j:Str):Cj (.str j) (.int i)=true:=rfl
@[simp] theorem qhA (K:YZ)(p:J9)(H:Hp):tyV K "list" (.ref p) H=(∃xs,aV K H p xs):=by simp[tyV]
@[simp] theorem qjW (K:YZ)(p:Str)(H:Hp):tyV K "str" (.str p) H=True:=by simp[tyV]
section
variable {K:YZ}{l:J9}{xs:QA0}{g:TG}{tb:TS}{D:Ends}{d:qaf g tb D}{σ:St}{H:Hp}
def frL(xs:QA0)(Pv:QA1)(j:Pv 0 σ H)(f:∀i σ H,i<=xs.length->Pv i σ H->aV K H l xs)
  (e:∀i x σ H,xs[i]? = some x->Pv i σ H->g x σ H λc m=>tb {D with nx:=Pv (i+1),ct:=Pv (i+1),bk:=D.nx} c m) (h:∀σ H,Pv xs.length σ H->D.nx σ H):tFr (Rk K l) g tb D d σ H:=Zm Pv j f e h
def frR{lo:Int}{n:Nat}(Pv:QA1)(h:Pv 0 σ H)
  (e:∀i σ H,i<n->Pv i σ H->g (.int (lo+i)) σ H λc j=>tb {D with nx:=Pv (i+1),ct:=Pv (i+1),bk:=D.nx} c j) (f:∀σ H,Pv n σ H->D.nx σ H):tFr (Ra lo n) g tb D d σ H:=Wr Pv h e f
end
section
variable {K:YZ}{own:QAH}{caps:wX}{g:TG}{tt:TT}{te:TE}{D l l1 l2:J9}{σ:St}{H:Hp}{Q:Hp->Prop}{d:qag g tt te Q}
def Kv(xs:QA0)(Pv:QA1)(h:Pv 0 (stC own caps σ) H)(e:∀i σ H,i<=xs.length->Pv i σ H->aV K H l xs)
  (c:∀i x σ H,xs[i]? = some x->Pv i σ H->yG g tt te D (Pv (i+1)) x σ H) (f:∀σ H,Pv xs.length σ H->Q H):tCm own caps (Rk K l) g tt te Q d D σ H:=Ip Pv h e c f
def cmQ{b:Bool}(xs:QA0)(Pv:QA1)(h:Pv 0 (stC own caps σ) H)(e:∀i σ H,i<=xs.length->Pv i σ H->SqB b K H l xs)
  (c:∀i x σ H,xs[i]? = some x->Pv i σ H->yG g tt te D (Pv (i+1)) x σ H) (f:∀σ H,Pv xs.length σ H->Q H):tCm own caps (Itq b K l) g tt te Q d D σ H:=Z6 Pv h e c f
def cmR{lo:Int}{n:Nat}(Pv:QA1)(f:Pv 0 (stC own caps σ) H)
  (c:∀i σ H,i<n->Pv i σ H->yG g tt te D (Pv (i+1)) (.int (lo+i)) σ H) (e:∀σ H,Pv n σ H->Q H):tCm own caps (Ra lo n) g tt te Q d D σ H:=RM Pv f c e
def cmS{z:Str}(Pv:QA1)(h:Pv 0 (stC own caps σ) H)
  (e:∀i c σ H,z.cps[i]? = some c->Pv i σ H->yG g tt te D (Pv (i+1)) (.str #[[c].toArray]) σ H) (f:∀σ H,Pv z.cps.size σ H->Q H):tCm own caps (Its z) g tt te Q d D σ H:=Z4 Pv h e f
def cmZ(xs ys:QA0)(Pv:QA1)(j:Pv 0 (stC own caps σ) H)(f:xs.length=ys.length)(e:∀i σ H,i<=xs.length->Pv i σ H->aV K H l1 xs/\aV K H l2 ys)
  (c:∀i x y t σ H,xs[i]? = some x->ys[i]? = some y->H t=none->Pv i σ H->yG g tt te D (Pv (i+1)) (.ref t) σ (upd H t (.tup [x,y]))) (h:∀σ H,Pv xs.length σ H->Q H):tCm own caps (WQ K l1 l2) g tt te Q d D σ H:=Z5 Pv j f e c h
end
def DW{c:Bool}{t u:TS}{D:Ends}{σ:St}{H:Hp}{d:RV (t D σ H) (u D σ H)}(R:QA4)(e:∀σ H,R σ H->D.nx σ H)
  (h:∀N:St->Hp->Prop,(∀σ H,R σ H->N σ H)->cZ c (t {D with nx:=N} σ H) (u {D with nx:=N} σ H) #[0]):cZ c (t D σ H) (u D σ H) d:=h D.nx e
def yH{i β:Type}{f:i->β}{ys zs:List β}(h:ys.Perm zs):∀l:List i,zs=l.map f->∃c:List i,c.Perm l/\ys=c.map f:=by
 induction h with
 |nil=>
  intro l e;cases l with
  |nil=>exact#[[],.nil,rfl]
  |cons a l=>cases e
 |cons x _ ih=>
  intro l e;cases l with
  |nil=>cases e
  |cons a l=>
   simp only[qnP,List.cons.injEq] at e;obtain⟨c,p,n⟩:=ih l e.2;exact#[a::c,p.cons a,by rw[n,e.1,qnP]]
 |swap x y _=>
  intro l e
  match l,e with
  |a::b::l,e=>
   simp only[qnP,List.cons.injEq] at e;exact#[b::a::l,.swap ..,by rw[e.1,e.2.1,e.2.2];rfl]
 |trans _ _ m j=>
  intro l e;obtain⟨c,p,n⟩:=j l e;obtain⟨r,o,s⟩:=m c n;exact#[r,o.trans p,s]
def qah{f:Type}{xs:List f}{k:Nat}(i:2<=xs.length)(h:k<xs.length):∃j x,j≠k/\xs[j]? = some x/\Cm xs ((k:Int) - 1)=some x:=by
 cases k with
 |zero=>
  have c:xs.length - 1<xs.length:=∅
  refine#[xs.length - 1,xs[xs.length - 1],∅,by simp[c],?_];unfold Cm ZJ;rw[if_neg ⋯,if_pos ⋯];have e:(((0:Nat):Int) - 1+xs.length).toNat=xs.length - 1:=⋯
  show xs[(((0:Nat):Int) - 1+xs.length).toNat]? = _;rw[e];simp[c]
 |succ k=>
  have c:k<xs.length:=⋯
  have e:((k+1:Nat):Int) - 1=(k:Int):=⋯
  rw[e];exact#[k,xs[k],⋯,by simp[c],aO (by simp[c])]
end L2
namespace L2
open PySem
def kZ(K:YZ):W.kitOne K (.type "list") (.type "list")=some true:=by simp[W.kitOne]
def Kw(K:YZ):W.kitOne K (.type "list") (.type "int")=some false:=by simp[W.kitOne];rfl
def G9(K:YZ):W.kitOne K (.type "list") (.type "bool")=some false:=by simp[W.kitOne];rfl
def Cq(K:YZ):W.kitOne K (.type "tuple") (.type "tuple")=some true:=by simp[W.kitOne]
def G_(K:YZ):W.kitOne K (.type "tuple") (.type "int")=some false:=by simp[W.kitOne];rfl
def DX(K:YZ):W.kitOne K (.type "tuple") (.type "bool")=some false:=by simp[W.kitOne];rfl
def uF(K:YZ):W.kitOne K (.type "str") (.type "str")=some true:=by simp[W.kitOne]
def Oq(K:YZ):W.kitOne K (.type "str") (.type "int")=some false:=by simp[W.kitOne];rfl
def Ky(K:YZ):W.kitOne K (.type "str") (.type "bool")=some false:=by simp[W.kitOne];rfl
def Br(K:YZ):W.kitOne K (.type "int") (.type "int")=some true:=by simp[W.kitOne]
def yI(K:YZ):W.kitOne K (.type "int") (.type "bool")=some false:=by simp[W.kitOne];rfl
def Kz(K:YZ):W.kitOne K (.type "bool") (.type "int")=some true:=by simp[W.kitOne];rfl
def Hf(K:YZ):W.kitOne K (.type "bool") (.type "bool")=some true:=by simp[W.kitOne]
def KC(K:YZ):W.kitOne K (.type "dict") (.type "int")=some false:=by simp[W.kitOne];rfl
def Hg(K:YZ):W.kitOne K (.type "dict") (.type "bool")=some false:=by simp[W.kitOne];rfl
def Ad(K:YZ):W.kitOne K (.type "NoneType") (.type "int")=some false:=by simp[W.kitOne];rfl
def yJ(K:YZ):W.kitOne K (.type "NoneType") (.type "bool")=some false:=by simp[W.kitOne];rfl
end L2
namespace L2
open PySem PySem.Spec PyProof.Rows
section
variable {X:Cx}{K:YZ}
def qhB(K:YZ):R2:=λx y H Q=>∃d e,Is K H d x/\Is K H e y/\d.canLay0=true/\e.canLay0=true/\d.depth<=64/\Q (.bl (PyData.eqv d e)) H
def qhC(K:YZ):R2:=λx y H Q=>∃d e,Is K H d x/\Is K H e y/\d.canLay0=true/\e.canLay0=true/\d.depth<=64/\Q (.bl (!PyData.eqv d e)) H
def qfC(l:X.K=K)(r:X.A.units+64<cLine):iD X (compareOp .Eq) (qhB K):=by
 subst l;intro j s c H x y v u Q I i f h;obtain⟨d,e,p,o,n,m,w,q⟩:=h;exact qfq j s c H x y v u Q I i f #[d,e,p,o,n,m,⋯,q]
def qfD(l:X.K=K)(r:X.A.units+64<cLine):iD X (compareOp .NotEq) (qhC K):=by
 subst l;intro j s c H x y v u Q I i f h;obtain⟨d,e,p,o,n,m,w,q⟩:=h;exact qfr j s c H x y v u Q I i f #[d,e,p,o,n,m,∅,q]
end
def dO(xs:QAH):List PyData:=xs.map PyData.str
theorem rO{K:YZ}{H:Hp}:∀xs:QAH,ud K H (dO xs) (xs.map V.str)
 |[]=>rfl
 |x::xs=>#[_,_,rfl,rfl,rO xs]
def qcS(c:Nat):isL c=decide (c∈("abcdefghijklmnopqrstuvwxyz" : Str).cps.toList):=PySem.StrLaws.found_one _ c
def qfE{c:Nat}(h:isL c=true):c<128:=by
 rw[qcS] at h;have f:=qnb h;have e:∀x∈("abcdefghijklmnopqrstuvwxyz" : Str).cps.toList,x<128:=by decide+kernel
 exact e c f
def KD{x:Str}(h:nameB x=true):PyData.strOk x=true:=by
 unfold nameB at h;simp only[qnK] at h;have e:=h.2;unfold PyData.strOk;rw[<- Array.all_toList];rw[qnk] at e⊢;intro c f;have:=qfE (e c f);exact qnE ⋯
theorem yK:∀xs:QAH,(∀x∈xs,PyData.strOk x=true)->PyData.canLayAll0 (dO xs)=true
 |[],_=>by simp[dO,PyData.canLayAll0]
 |x::xs,h=>by
  have:=yK xs λy c=>h y (qm_ _ c);simp[dO] at this;simp[dO,PyData.canLayAll0,PyData.canLay0,this,h x qng]
theorem yL:∀xs:QAH,PyData.depthAll (dO xs)<=1
 |[]=>by simp[dO,PyData.depthAll]
 |x::xs=>by
  have:=yL xs;simp[dO] at this;simp[dO,PyData.depthAll,PyData.depth,this]
@[simp ↓] theorem qjX (c ty:TE)(σ:St)(H:Hp)(Q:VK):qaa c ty σ H Q=(c σ H λx f=>ty σ f λy e=>∃a v,x = .ref a/\kI e a y (some v)/\Q v e):=rfl
@[simp ↓] theorem qlb (ty c:TE)(σ:St)(H:Hp)(Q:VK):qfy ty c σ H Q=(ty σ H λy f=>c σ f λx e=>∃a o,x = .ref a/\kI e a y o/\Q (.bl o.isSome) e):=rfl
@[simp ↓] theorem qgS (ty c:TE)(σ:St)(H:Hp)(Q:VK):Ks ty c σ H Q=(ty σ H λy f=>c σ f λx e=>∃a o,x = .ref a/\kI e a y o/\Q (.bl (!o.isSome)) e):=rfl
@[simp ↓] theorem qjY (e ty c:TE)(D:Ends)(σ:St)(H:Hp):qab e ty c D σ H=(c σ H λv j=>e σ j λx i=>ty σ i λy h=>∃a f,x = .ref a/\Kq h a y v f/\D.nx σ f):=rfl
@[simp ↓] theorem qhD (σ:St)(H:Hp)(Q:VK):qac σ H Q=(∀p,H p=none->Q (.ref p) (upd H p (.dK []))):=rfl
@[simp ↓] theorem qjZ (f:List (TE×TE))(σ:St)(H:Hp)(Q:VK):qd8 f σ H Q=(∀p,H p=none->xu f σ (upd H p (.dK [])) λps h=>h p=some (.dK [])/\∃c:List (Key×V),ps=c.map (λe=>(kV e.1,e.2))/\c.length<=15/\Q (.ref p) (upd h p (.dK (xG [] c)))):=rfl
@[simp ↓] theorem qhE (σ:St)(H:Hp)(Q:List (V×V)->Hp->Prop):xu [] σ H Q=Q [] H:=rfl
@[simp ↓] theorem qhF (tk c:TE)(r:List (TE×TE))(σ:St)(H:Hp)(Q:List (V×V)->Hp->Prop):xu ((tk,c)::r) σ H Q=(tk σ H λx h=>c σ h λy f=>xu r σ f λps e=>Q ((x,y)::ps) e):=rfl
@[simp ↓] theorem qhG (e ty c:TE)(σ:St)(H:Hp)(Q:VK):RQ e ty c σ H Q=(e σ H λx h=>∃a,x = .ref a/\IsD h a/\ty σ h λy i=>c σ i λz f=>∃o,kI f a y o/\Q (o.getD z) f):=rfl
@[simp ↓] theorem qj0 (K:YZ)(t:TA)(σ:St)(H:Hp)(R:It->Hp->Prop):qae K t σ H R=(t σ H λvs c=>∃a xs,vs=[.ref a]/\aV K c a xs/\R (Ite K a) c):=rfl
def qhH{H:Hp}{a:J9}{c:List (Key×V)}(i:Int)(e:H a=some (.dK c)):kI H a (.int i) (mY c (Sum.inl i)):=kI.k (k:=Sum.inl i) e
def qfF{H:Hp}{a:J9}{c:List (Key×V)}(x:Str)(e:H a=some (.dK c)):kI H a (.str x) (mY c (Sum.inr x)):=kI.k (k:=Sum.inr x) e
def qlc{H:Hp}{a:J9}{c:List (Key×V)}{v:V}(x:Str)(e:H a=some (.dK c))(f:c.length<sizeLine):Kq H a (.str x) v (upd H a (.dK (putK c (Sum.inr x) v))):=Kq.k (k:=Sum.inr x) e f
def isD{H:Hp}{a:J9}{c:List (Key×V)}(e:H a=some (.dK c)):IsD H a:=.inl #[c,.inl e]
def range_any(bs:List Bool):(List.range bs.length).any (λi=>bs.getD i false)=bs.any id:=by
 rw[qou,qoQ,qoQ];constructor
 ·rintro⟨i,e,h⟩;have c:=qnD.mp e;refine#[bs[i],List.getElem_mem c,?_];simpa [List.getD,c] using h
 ·rintro⟨b,f,h⟩;obtain⟨i,e,rfl⟩:=qpO.mp f;exact#[i,qnD.mpr e,by simpa [List.getD,e] using h]
section
variable {X:Cx}{K:YZ}
def qd9:List V->Hp->VK->Prop:=λe H Q=>∃a c bs,e=[.ref a]/\H a=some (.lst c)/\pH c bs/\Q (.bl (bs.any id)) H
def W5(A:X.calm=true):cJ X (.builtin "any") qd9:=by
 intro p_ s N H T U Q I r h;obtain⟨a,O,bs,rfl,C,B,q⟩:=h;obtain⟨u,rfl,w⟩:=r.one;obtain rfl:u=Value.ref a:=w;obtain⟨z,c,n,p,y,e⟩:=I.Kd C;obtain⟨L,J⟩:=B.get p;have G:s.heap.IsList a c.toArray:=#[_,e,rfl,n,rfl];refine call_any_walk ?_;refine qoW G ?_;have f:a≠s.heap.objs.size:=qnf (qm9 e);have j:(s.heap.push {cls:=.type "list_iterator",data:=.fields [.ref a,.int 0 0].toArray}).IsList a c.toArray:=#[_,qm4 _ e,rfl,n,rfl];refine#[s.heap.objs.size,_,_,_,_,_,λi=>bs.getD i false,rfl,Walks.list (by exact I.ok.hd A) s.heap.objs.size a f c.toArray,#[#[_,qne _ rfl,rfl,rfl],j],λi v Y Q' E' E D=>?_,λh' m x=>?_]
 ·obtain rfl:=J i v (by simpa using E);exact qok D
 ·have M:(List.range c.toArray.size).any (λi=>bs.getD i false)=bs.any id:=by
   rw[qnm,<- y,L];exact range_any bs
  rw[M];refine#[.bl _,H,?_,rfl,q];exact I.kept (h':=h') (t':=m) λb o l=>x b o (by simp;exact qnf (qm9 l)) (qm4 _ l)
end
section
variable {K:YZ}{l:J9}{g:TG}{tb:TS}{D:Ends}{d:qaf g tb D}{σ:St}{H:Hp}
def frE(xs:QA0)(Pv:QA1)(w:Pv 0 σ H)(r:∀i σ H,i<=xs.length->Pv i σ H->aV K H l xs)
  (o:∀i x t σ H,xs[i]? = some x->H t=none->Pv i σ H->g (.ref t) σ (upd H t (.tup [.int i,x])) λf z=>tb {D with nx:=Pv (i+1),ct:=Pv (i+1),bk:=D.nx} f z) (v:∀σ H,Pv xs.length σ H->D.nx σ H):tFr (Ite K l) g tb D d σ H:=by
 refine#[λi m σ H=>m=xs.length - i/\i<=xs.length/\Pv i σ H,#[xs.length,by simp,qnI _,w],?_];rintro i m σ H ⟨rfl,s,p⟩;have q:=r i σ H s p
 by_cases c:i<xs.length
 ·refine .inr #[#[xs,xs[i],q,by simp[c]],Pv (i+1),λh A j=>#[xs.length - (i+1),∅,rfl,c,j],λx A y=>?_];obtain⟨t,u,rfl,n,rfl,e⟩:=y;exact o i u t σ H (e xs q) n p
 ·have e:i=xs.length:=⋯
  subst e;exact .inl #[#[xs,q,qm5 _],v σ H p]
end
section
variable {K:YZ}{own:QAH}{caps:wX}{g:TG}{tt:TT}{te:TE}{D l:J9}{σ:St}{H:Hp}{Q:Hp->Prop}{d:qag g tt te Q}
def cmE(xs:QA0)(Pv:QA1)(v:Pv 0 (stC own caps σ) H)(o:∀i σ H,i<=xs.length->Pv i σ H->aV K H l xs)
  (n:∀i x t σ H,xs[i]? = some x->H t=none->Pv i σ H->yG g tt te D (Pv (i+1)) (.ref t) σ (upd H t (.tup [.int i,x]))) (s:∀σ H,Pv xs.length σ H->Q H):tCm own caps (Ite K l) g tt te Q d D σ H:=by
 refine#[λi m σ H=>m=xs.length - i/\i<=xs.length/\Pv i σ H,#[xs.length,by simp,qnI _,v],?_];rintro i m σ H ⟨rfl,r,p⟩;have q:=o i σ H r p
 by_cases c:i<xs.length
 ·refine .inr #[#[xs,xs[i],q,by simp[c]],Pv (i+1),λf w h=>#[xs.length - (i+1),∅,rfl,c,h],λx w y=>?_];obtain⟨t,u,rfl,j,rfl,e⟩:=y;exact n i u t σ H (e xs q) j p
 ·have e:i=xs.length:=∅
  subst e;exact .inl #[#[xs,q,qm5 _],s σ H p]
end
section
variable {c:TT}{tb:TS}{D:Ends}{d:qhx c tb D}{σ:St}{H:Hp}
def whB(Pv:QA4)(μ:St->Hp->Nat)(l:Pv σ H)
  (j:∀σ H,Pv σ H->c σ H λb f=>cZ b (tb {D with nx:=λe h=>Pv e h/\μ e h<μ σ H,ct:=λe h=>Pv e h/\μ e h<μ σ H,bk:=D.nx} σ f) (D.nx σ f) #[0])
  (mono:∀σ H Q i,(∀b f,Q b f->i b f)->c σ H Q->c σ H i):tWh c tb D d σ H:=Zn Pv μ l j mono
end
end L2
namespace L2
open PySem
inductive RT{α:Type}(R:α->α->Prop):α->α->Prop where
 |refl (a:α):RT R a a
 |tail {a b c:α}:RT R a b->R b c->RT R a c
def RT.one{c:Type}{R:c->c->Prop}{a b:c}(h:R a b):RT R a b:=.tail (.refl a) h
def RT.trans{e:Type}{R:e->e->Prop}{a b c:e}(h:RT R a b)(f:RT R b c):RT R a c:=by
 induction f with
 |refl=>exact h
 |tail _ r ih=>exact .tail ih r
def RT.mono{c:Type}{R S:c->c->Prop}(h:∀a b,R a b->S a b){a b:c}(r:RT R a b):RT S a b:=by
 induction r with
 |refl=>exact .refl _
 |tail _ q ih=>exact .tail ih (h _ _ q)
def RT.symm{c:Type}{R:c->c->Prop}(h:∀a b,R a b->R b a){a b:c}(r:RT R a b):RT R b a:=by
 induction r with
 |refl=>exact .refl _
 |tail _ q ih=>exact(RT.one (h _ _ q)).trans ih
def RT.closed{c:Type}{R:c->c->Prop}{P:c->Prop}(e:∀a b,R a b->P a->P b){a b:c}(f:P a)(r:RT R a b):P b:=by
 induction r with
 |refl=>exact f
 |tail _ q ih=>exact e _ _ q ih
abbrev gJ:=Nat×Str×Str
def gV(S:List gJ)(a b:Str):Prop:=∃n,(n,a,b)∈S
def gK(fx:sX)(e:Str×Str)(k:Nat):List gJ:=
 (if (fx k).getD 0=0 then [(k,e.1,e.2)] else [])++(if (fx k).getD 1=1 then [(k,e.2,e.1)] else [])
def aD(fx:sX):QAD->Nat->List gJ
 |[],_=>[]
 |e::r,k=>gK fx e k++aD fx r (k+1)
theorem n_(fx:sX):∀(l m:QAD)(k:Nat),aD fx (l++m) k=aD fx l k++aD fx m (k+l.length)
 |[],m,k=>by simp[aD]
 |e::l,m,k=>by
  simp only[qps,aD,n_ fx l m (k+1),qns,qnt];rw[show k+1+l.length=k+(l.length+1) by lia]
def mZ(fx:sX){ps:QAD}{i:Nat}{e:Str×Str}(h:ps[i]? = some e):aD fx (ps.take (i+1)) 0=aD fx (ps.take i) 0++gK fx e i:=by
 have c:i<ps.length:=(qm2.mp h).1;rw[take_one h,n_,qni,qpf (qoK c),qnZ];simp[aD]
def gW{fx:sX}{e:Str×Str}{k:Nat}{s:gJ}:s∈gK fx e k↔s.1=k/\(((fx k).getD 0=0/\s.2.1=e.1/\s.2.2=e.2)\/((fx k).getD 1=1/\s.2.1=e.2/\s.2.2=e.1)):=by
 obtain⟨n,a,b⟩:=s;unfold gK;rw[qnw];constructor
 ·rintro(h|h)
  ·split at h
   ·rename_i c;simp at h;exact#[h.1,.inl #[c,h.2.1,h.2.2]]
   ·simp at h
  ·split at h
   ·rename_i c;simp at h;exact#[h.1,.inr #[c,h.2.1,h.2.2]]
   ·simp at h
 ·rintro⟨rfl,⟨c,rfl,rfl⟩|⟨c,rfl,rfl⟩⟩
  ·exact .inl (by rw[if_pos c];simp)
  ·exact .inr (by rw[if_pos c];simp)
theorem fZ{fx:sX}:∀{ps:QAD}{k:Nat}{s:gJ},s∈aD fx ps k↔∃j e,ps[j]? = some e/\s∈gK fx e (k+j)
 |[],k,s=>by simp[aD]
 |e::r,k,s=>by
  simp only[aD,qnw,fZ (ps:=r)];constructor
  ·rintro(h|⟨j,i,c,f⟩)
   ·exact#[0,e,rfl,h]
   ·exact#[j+1,i,by simpa using c,by rw[show k+(j+1)=k+1+j by lia];exact f]
  ·rintro⟨j,i,c,f⟩;cases j with
   |zero=>simp at c;subst c;exact .inl f
   |succ j=>exact .inr #[j,i,by simpa using c,by rw[show k+1+j=k+(j+1) by lia];exact f]
def rP(P:Nat->Prop)(ps:QAD)(a b:Str):Prop:=∃k,P k/\(ps[k]? = some (a,b)\/ps[k]? = some (b,a))
def DY{P:Nat->Prop} [DecidablePred P] {ps:QAD}{a b:Str}:gV ((aD (λ_=>none) ps 0).filter λs=>decide (P s.1)) a b↔rP P ps a b:=by
 unfold gV rP;constructor
 ·rintro⟨n,h⟩;obtain⟨h,i⟩:=qnv.mp h;obtain⟨j,e,m,l⟩:=fZ.mp h;rw[qnZ] at l;obtain⟨rfl,c⟩:=gW.mp l;refine#[_,qnb i,?_]
  rcases c with⟨_,c,f⟩|⟨_,c,f⟩
  ·simp only at c f;subst c f;exact .inl m
  ·simp only at c f;subst c f;exact .inr m
 ·rintro⟨k,i,h⟩;refine#[k,qnv.mpr #[fZ.mpr ?_,qnE i]]
  rcases h with h|h
  ·exact#[k,_,h,by rw[qnZ];exact gW.mpr #[rfl,.inl #[rfl,rfl,rfl]]]
  ·exact#[k,_,h,by rw[qnZ];exact gW.mpr #[rfl,.inr #[rfl,rfl,rfl]]]
end L2
namespace L2
open PySem PySem.Spec PyProof.Rows
def bL{β:Type}(R:Hp->V->β->Prop)(H:Hp)(vs:QA0)(bs:List β):Prop:=vs.length=bs.length/\∀(i:Nat) v b,vs[i]? = some v->bs[i]? = some b->R H v b
section
variable {β:Type}{R:Hp->V->β->Prop}{H H':Hp}{vs:QA0}{bs:List β}
def bL.nil:bL R H [] []:=#[rfl,λi v b h=>by simp at h]
def bL.keep(h:bL R H vs bs)(k:∀v b,R H v b->R H' v b):bL R H' vs bs:=#[h.1,λi v b e c=>k v b (h.2 i v b e c)]
def bL.at(h:bL R H vs bs){i:Nat}{v:V}(c:vs[i]? = some v):∃b,bs[i]? = some b/\R H v b:=by
 have e:i<bs.length:=by rw[<- h.1];exact(qm2.mp c).1
 exact#[bs[i],by simp[e],h.2 i v _ c (by simp[e])]
def bL.snoc{v:V}{b:β}(h:bL R H vs bs)(m:R H v b):bL R H (vs++[v]) (bs++[b]):=by
 refine#[by simp[h.1],λi u d c e=>?_]
 by_cases l:i<vs.length
 ·rw[qny l] at c;rw[qny (by rw[<- h.1];exact l)] at e;exact h.2 i u d c e
 ·rw[qnz ⋯] at c;rw[qnz (by rw[<- h.1];omega),<- h.1] at e;cases f:i - vs.length with
  |zero=>
   rw[f] at c e;cases c;cases e;exact m
  |succ j=>
   rw[f] at c;simp at c
end
def Ot(H:Hp)(v:V)(s:gJ):Prop:=∃t,v = .ref t/\H t=some (.tup [.int s.1,.str s.2.1,.str s.2.2])
def qai(H:Hp)(v:V)(c:QAH):Prop:=∃t,v = .ref t/\H t=some (.lst (c.map V.str))
abbrev dg:=bL Ot
abbrev rQ:=bL qai
def dh(H e:Hp):Prop:=∀b c,H b=some (.tup c)->e b=some (.tup c)
def dh.of{H c:Hp}(s:Same H c):dh H c:=λb f e=>s b _ e
def dh.set{H:Hp}{p:J9}{o u:HO}(h:H p=some o)(c:∀xs,o≠.tup xs):dh H (upd H p u):=λb xs e=>by
 rw[aF (λz=>by subst z;rw[h] at e;exact c xs (qnB e))];exact e
def Ot.keep{H c:Hp}(k:dh H c):∀v s,Ot H v s->Ot c v s:=λv s ⟨t,e,h⟩=>#[t,e,k _ _ h]
theorem dg.keep{H c:Hp}{vs:QA0}{S:List gJ}(h:dg H vs S)(k:dh H c):dg c vs S:=bL.keep h (Ot.keep k)
def rQ.same{H c:Hp}{vs:QA0}{S:List (QAH)}(h:rQ H vs S)(k:Same H c):rQ c vs S:=bL.keep h λv s ⟨t,e,q⟩=>#[t,e,k _ _ q]
def qd_(H:Hp)(d:J9)(fx:sX):Prop:=∃c,H d=some (.dK c)/\∀k:Nat,mY c (Sum.inl (k:Int))=(fx k).map V.int
def Ou{H:Hp}{d:J9}(h:H d=some (.dK [])):qd_ H d (λ_=>none):=#[[],h,λ_=>rfl]
def Ov(o:Option Int)(x:Int):(o.map V.int).getD (.int x) = .int (o.getD x):=by cases o <;> rfl
end L2
namespace L2
open PySem
inductive Bs(S:List gJ)(a:Str):List Nat->List Str->Str->Prop where
 |nil:Bs S a [] [a] a
 |snoc {w:wX}{vs:QAH}{b c:Str}{n:Nat}:Bs S a w vs b->(n,b,c)∈S->Bs S a (w++[n]) (vs++[c]) c
def Bs.reach{S:List gJ}{a:Str}{w:wX}{vs:QAH}{b:Str}(h:Bs S a w vs b):RT (gV S) a b:=by
 induction h with
 |nil=>exact .refl _
 |snoc _ q ih=>exact .tail ih #[_,q]
inductive Walk(S:List gJ)(a:Str):Nat->Str->Prop where
 |nil:Walk S a 0 a
 |snoc {k:Nat}{b c:Str}{n:Nat}:Walk S a k b->(n,b,c)∈S->Walk S a (k+1) c
def Walk.of{S:List gJ}{a b:Str}(h:RT (gV S) a b):∃k,Walk S a k b:=by
 induction h with
 |refl=>exact#[0,.nil]
 |tail _ q ih=>
  obtain⟨k,e⟩:=ih;obtain⟨n,c⟩:=q;exact#[k+1,.snoc e c]
abbrev BR:=List (Str×List Nat)
structure Rb(S:List gJ)(a:Str)(at_:Nat)(R:BR):Prop where
 st:R[0]? = some (a,[])
 nd:(R.map (·.1)).Nodup
 pth:∀y w,(y,w)∈R->∃vs,Bs S a w vs y/\vs.Nodup/\∀v∈vs,v∈R.map (·.1)
 cl:∀(i:Nat) y w,i<at_->R[i]? = some (y,w)->∀n c,(n,y,c)∈S->∃w',(c,w')∈R/\w'.length<=w.length+1
 mono:∀(i j:Nat) y w z u,i<=j->R[i]? = some (y,w)->R[j]? = some (z,u)->w.length<=u.length
 bd:∀(y:Str)(w:wX) z u,R[at_]? = some (y,w)->(z,u)∈R->u.length<=w.length+1
structure mF(S T:List gJ)(a:Str)(at_:Nat)(h:Str)(wh:wX)(R:BR):Prop where
 bf:Rb S a at_ R
 hr:R[at_]? = some (h,wh)
 md:∀n c,(n,h,c)∈T->∃w',(c,w')∈R/\w'.length<=wh.length+1
def Rb.begin(S:List gJ)(a:Str):Rb S a 0 [(a,[])]:=by
 refine#[rfl,by simp,?_,by intro i y w h;lia,?_,?_]
 ·intro y w h;simp at h;obtain⟨rfl,rfl⟩:=h;exact#[[y],.nil,by simp,by simp]
 ·intro i j y w z u l e c;have m:i=0:=by have:=(qm2.mp e).1;simp at this;omega
  have f:j=0:=by have:=(qm2.mp c).1;simp at this;omega
  subst m f;rw[e] at c;cases c;exact qm5 _
 ·intro y w z u e c;simp at e c;rw[c.2,<- e.2];simp
def mF.enter{S:List gJ}{a:Str}{c:Nat}{h:Str}{e:wX}{R:BR}(b:Rb S a c R)(f:R[c]? = some (h,e)):mF S [] a c h e R:=#[b,f,by simp]
def mF.skip{S T:List gJ}{a:Str}{f:Nat}{h:Str}{i:wX}{R:BR}(b:mF S T a f h i R){s:gJ}(l:s.2.1=h->s.2.2∈R.map (·.1)):mF S (T++[s]) a f h i R:=by
 refine#[b.bf,b.hr,λn c m=>?_]
 rcases qnw.mp m with q|q
 ·exact b.md n c q
 ·simp at q;subst q;obtain⟨⟨o,j⟩,hw,e⟩:=qnA.mp (l rfl);simp only at e;subst e;exact#[j,hw,b.bf.bd _ _ _ _ b.hr hw]
def mF.add{S T:List gJ}{a:Str}{r:Nat}{h:Str}{f:wX}{R:BR}(b:mF S T a r h f R){n:Nat}{c:Str}(hS:(n,h,c)∈S)(hc:¬c∈R.map (·.1)):mF S (T++[(n,h,c)]) a r h f (R++[(c,f++[n])]):=by
 obtain⟨⟨st,nd,A,cl,mono,bd⟩,s,md⟩:=b;have C:r<R.length:=(qm2.mp s).1;have B:∀{i:Nat}{x},i<R.length->(R++[(c,f++[n])])[i]? = some x->R[i]? = some x:=λp e=>by rwa [qny p] at e
 have last:∀{i:Nat}{x},¬i<R.length->(R++[(c,f++[n])])[i]? = some x->x=(c,f++[n]):=λp e=>by
  rw[qnz ⋯] at e;cases hk:_ - R.length with
  |zero=>rw[hk] at e;simp at e;exact e.symm
  |succ k=>rw[hk] at e;simp at e
 refine#[#[?_,?_,?_,?_,?_,?_],?_,?_]
 ·rw[qny ⋯];exact st
 ·rw[qn3,qpJ];refine#[nd,by simp,?_];intro x M y E e;simp at E;subst E;exact hc (e▸M)
 ·intro y w E
  rcases qnw.mp E with q|q
  ·obtain⟨I,l,o,G⟩:=A y w q;exact#[I,l,o,λv N=>by rw[qn3];exact qnG _ (G v N)]
  ·simp at q;obtain⟨rfl,rfl⟩:=q;obtain⟨I,l,o,G⟩:=A h f (qm6 s);refine#[I++[y],.snoc l hS,?_,?_]
   ·rw[qpJ];refine#[o,by simp,?_];intro x M z Y e;simp at Y;subst Y;exact hc (e▸G x M)
   ·intro v N;rw[qn3]
    rcases qnw.mp N with q|q
    ·exact qnG _ (G v q)
    ·simp at q;subst q;simp
 ·intro i y w p e m U O;obtain⟨H,L,J⟩:=cl i y w p (B ⋯ e) m U O;exact#[H,qnG _ L,J]
 ·intro i j y w z u Q l o
  by_cases hj:j<R.length
  ·exact mono i j y w z u Q (B ⋯ l) (B hj o)
  ·have e2:=last hj o;cases e2
   by_cases p:i<R.length
   ·have:=bd h f y w s (qm6 (B p l));simp;exact this
   ·have e1:=last p l;cases e1;exact qm5 _
 ·intro y w z u l o;have D:=B C l;rw[s] at D;cases D
  rcases qnw.mp o with q|q
  ·exact bd _ _ z u s q
  ·simp at q;rw[q.2];simp
 ·rw[qny C];exact s
 ·intro m U O
  rcases qnw.mp O with q|q
  ·obtain⟨H,L,J⟩:=md m U q;exact#[H,qnG _ L,J]
  ·simp at q;obtain⟨rfl,rfl⟩:=q;exact#[f++[m],by simp,by simp]
def mF.leave{S:List gJ}{a:Str}{f:Nat}{h:Str}{j:wX}{R:BR}(b:mF S S a f h j R):Rb S a (f+1) R:=by
 obtain⟨⟨st,r,l,A,mono,B⟩,m,s⟩:=b;refine#[st,r,l,?_,mono,?_]
 ·intro i y w E e n c p
  by_cases o:i=f
  ·subst o;rw[m] at e;cases e;exact s n c p
  ·exact A i y w ⋯ e n c p
 ·intro y w z u x v;have D:=B h j z u m v;have C:=mono f (f+1) h j y w ⋯ m x;lia
def Rb.all{S:List gJ}{a:Str}{R:BR}(b:Rb S a R.length R){k:Nat}{y:Str}(h:Walk S a k y):∃w,(y,w)∈R/\w.length<=k:=by
 induction h with
 |nil=>exact#[[],qm6 b.st,qm5 _]
 | @snoc k m c n _ q ih=>
  obtain⟨w,l,p⟩:=ih;obtain⟨i,e⟩:=qoP.mp l;obtain⟨f,j,o⟩:=b.cl i m w (qm2.mp e).1 e n c q;exact#[f,j,⋯]
def Rb.iff{S:List gJ}{a:Str}{R:BR}(b:Rb S a R.length R)(y:Str):y∈R.map (·.1)↔RT (gV S) a y:=by
 constructor
 ·intro h;obtain⟨⟨z,w⟩,c,e⟩:=qnA.mp h;simp only at e;subst e;obtain⟨i,p,_⟩:=b.pth z w c;exact p.reach
 ·intro h;obtain⟨k,f⟩:=Walk.of h;obtain⟨w,c,_⟩:=b.all f;exact qnA.mpr #[(y,w),c,rfl]
def Rb.sub{S:List gJ}{a:Str}{i:Nat}{R:BR}(b:Rb S a i R){xs:QAH}(c:a∈xs)(f:∀s∈S,s.2.2∈xs):∀y∈R.map (·.1),y∈xs:=by
 intro y h;obtain⟨⟨z,w⟩,j,e⟩:=qnA.mp h;simp only at e;subst e;obtain⟨l,p,_⟩:=b.pth z w j;cases p with
 |nil=>exact c
 |snoc _ q=>exact f _ q
theorem cV{c:Type} [DecidableEq c]:∀{l xs:List c},l.Nodup->(∀y∈l,y∈xs)->l.length<=xs.length
 |[],_,_,_=>qnI _
 |y::l,xs,j,i=>by
  obtain⟨n,m⟩:=qnY.mp j;have h:y∈xs:=i y qng;have:=cV (l:=l) (xs:=xs.erase y) m λz f=>(qpQ (fun(e:z=y)=>n (e▸f))).mpr (i z (qm_ _ f));rw[qpl h] at this;have o:0<xs.length:=qpB h;simp only[qnt];lia
def Bs.len{S:List gJ}{a:Str}{w:wX}{vs:QAH}{b:Str}(h:Bs S a w vs b):vs.length=w.length+1:=by
 induction h with
 |nil=>rfl
 |snoc _ _ ih=>simp[ih]
def Rb.qld{S:List gJ}{a:Str}{i:Nat}{R:BR}(b:Rb S a i R){y:Str}{w:wX}(h:(y,w)∈R):w.length<R.length:=by
 obtain⟨f,p,c,sub⟩:=b.pth y w h;have e:=cV c sub;have j:=p.len;simp at e;lia
def qle(H:Hp)(e:Key×V)(c:Str×List Nat):Prop:=e.1=Sum.inr c.1/\∃p,e.2 = .ref p/\H p=some (.lst (c.2.map λn:Nat=>V.int n))
structure fY(H:Hp)(kvs:List (Key×V))(R:BR):Prop where
 len:kvs.length=R.length
 ok:∀(i:Nat) kv yw,kvs[i]? = some kv->R[i]? = some yw->qle H kv yw
def fY.keep{H f:Hp}{c:List (Key×V)}{R:BR}(h:fY H c R)(k:∀(p:J9) (w:wX),H p=some (.lst (w.map λn:Nat=>V.int n))->f p=some (.lst (w.map λn:Nat=>V.int n))):fY f c R:=
 #[h.len,λi l j o m=>by
  obtain⟨e,p,r,q⟩:=h.ok i l j o m;exact#[e,p,r,k _ _ q]]
theorem fY.none{H:Hp}{c:List (Key×V)}{R:BR}(h:fY H c R){y:Str}(m:¬y∈R.map (·.1)):mY c (Sum.inr y)=Option.none:=by
 unfold mY;rw[List.find?_eq_none.mpr]
 ·rfl
 ·intro l n;obtain⟨i,j⟩:=qoP.mp n;have f:i<R.length:=by rw[<- h.len];exact(qm2.mp j).1
  obtain⟨e,_⟩:=h.ok i l R[i] j (by simp[f]);simp only[qol];intro z;rw[e] at z;cases z;exact m (qnA.mpr #[R[i],List.getElem_mem f,rfl])
theorem fY.some{H:Hp}{c:List (Key×V)}{R:BR}(h:fY H c R)(A:(R.map (·.1)).Nodup){y:Str}{w:wX}(B:(y,w)∈R):∃p,mY c (Sum.inr y)=Option.some (.ref p)/\H p=Option.some (.lst (w.map λn:Nat=>V.int n)):=by
 obtain⟨i,o⟩:=qoP.mp B;have u:i<c.length:=by rw[h.len];exact(qm2.mp o).1
 have D:c[i]? = Option.some c[i]:=by simp[u]
 unfold mY;have E:∃f,c.find? (λf=>decide (f.1=Sum.inr y))=Option.some f:=by
  cases e:c.find? (λf=>decide (f.1=Sum.inr y)) with
  |some f=>exact#[f,rfl]
  |none=>
   have:=List.find?_eq_none.mp e c[i] (List.getElem_mem u);obtain⟨r,_⟩:=h.ok i _ _ D o;simp[r] at this
 obtain⟨f,m⟩:=E;rw[m];have C:=List.mem_of_find?_eq_some m;have s:=List.find?_some m;simp only[qol] at s;obtain⟨j,v⟩:=qoP.mp C;have l:j<R.length:=by rw[<- h.len];exact(qm2.mp v).1
 obtain⟨r,p,J,z⟩:=h.ok j f R[j] v (by simp[l]);rw[s] at r;have G:R[j].1=y:=(Sum.inr.inj r).symm;have I:j=i:=yD A (x:=y) (by rw[qnr,show R[j]? = Option.some R[j] by simp[l]];simp[G]) (by rw[qnr,o];rfl);subst I;have:R[j]=(y,w):=by
  have:=o;simp[l] at this;exact this
 rw[this] at z;exact#[p,by simp[J],z]
def fY.has{H:Hp}{c:List (Key×V)}{R:BR}(h:fY H c R)(i:(R.map (·.1)).Nodup)(y:Str):(mY c (Sum.inr y)).isSome=decide (y∈R.map (·.1)):=by
 by_cases f:y∈R.map (·.1)
 ·obtain⟨⟨z,w⟩,j,e⟩:=qnA.mp f;simp only at e;subst e;obtain⟨p,e,_⟩:=h.some i j;rw[e,qnE f];rfl
 ·rw[h.none f,qnM f];rfl
def fY.qlf{H:Hp}{c:List (Key×V)}{R:BR}(h:fY H c R)(e:(R.map (·.1)).Nodup)(y:Str):(mY c (Sum.inr y)).isNone = !decide (y∈R.map (·.1)):=by
 rw[<- h.has e y];cases mY c (Sum.inr y) <;> rfl
def fY.snoc{H:Hp}{c:List (Key×V)}{R:BR}{y:Str}{w:wX}{p:J9}(h:fY H c R)(s:H p=Option.some (.lst (w.map λn:Nat=>V.int n))):fY H (c++[(Sum.inr y,.ref p)]) (R++[(y,w)]):=by
 refine#[by simp[h.len],λi r o e f=>?_]
 by_cases m:i<c.length
 ·rw[qny m] at e;rw[qny (by rw[<- h.len];exact m)] at f;exact h.ok i r o e f
 ·rw[qnz ⋯] at e;rw[qnz (by rw[<- h.len];omega),<- h.len] at f;cases l:i - c.length with
  |zero=>
   rw[l] at e f;cases e;cases f;exact#[rfl,p,rfl,s]
  |succ j=>
   rw[l] at e;simp at e
def qhI(i:Nat)(σ:St):Nat:=match σ[i]? with|some (some (V.int n))=>(10 - n).toNat|_=>0
def bx(x:Str)(xs:QAH):inV (.str x) (xs.map V.str)=decide (x∈xs):=by
 unfold inV;rw[List.any_map,qou,qoQ,qol];constructor
 ·rintro⟨y,c,e⟩;simp[Wz] at e;exact e▸c
 ·intro h;exact#[x,h,by simp[Wz]]
def bM(xs:QAH):(xs.map V.str).all jx=true:=by
 rw[List.all_map,qnk];intro x _;rfl
open Classical in
def mQ(S:List gJ)(xs:QAH)(x:Str):QAH:=xs.filter λy=>decide (RT (gV S) x y)
def rR{S:List gJ}{xs:QAH}{x y:Str}:y∈mQ S xs x↔y∈xs/\RT (gV S) x y:=by
 unfold mQ;simp
def KH{S:List gJ}{xs:QAH}{x:Str}:(mQ S xs x).length<=xs.length:=qn2 _ _
def qaj{S:List gJ}{xs:QAH}{x y:Str}{i:Nat}(h:xs[i]? = some y)(b:Bool)(e:b=true↔RT (gV S) x y):mQ S (xs.take (i+1)) x=mQ S (xs.take i) x++if b=true then [y] else []:=by
 unfold mQ;rw[take_one h,qn5];congr 1
 by_cases c:RT (gV S) x y
 ·rw[if_pos (e.mpr c)];simp[c]
 ·rw[if_neg λz=>c (e.mp z)];simp[c]
def fO(S:List gJ)(xs:QAH)(e:List (QAH))(x:Str):List (QAH):=if (e.any λc=>decide (x∈c))=true then e else e++[mQ S xs x]
def Cr(S:List gJ)(xs ys:QAH):List (QAH):=ys.foldl (fO S xs) []
def W6{S:List gJ}{xs ys:QAH}{x:Str}{i:Nat}(h:ys[i]? = some x):Cr S xs (ys.take (i+1))=fO S xs (Cr S xs (ys.take i)) x:=by
 unfold Cr;rw[take_one h,List.foldl_append];rfl
theorem Ow{S:List gJ}{xs:QAH}:∀(ys:QAH)(c:List (QAH)),(ys.foldl (fO S xs) c).length<=c.length+ys.length
 |[],c=>by simp
 |y::ys,c=>by
  have f:=Ow (S:=S) (xs:=xs) ys (fO S xs c y);have e:(fO S xs c y).length<=c.length+1:=by
   unfold fO;split <;> simp
  simp only[qo2,qnt];lia
theorem Ox{S:List gJ}{xs:QAH}:∀(ys:QAH)(e:List (QAH)),(∀c∈e,∃x∈xs,c=mQ S xs x)->(∀y∈ys,y∈xs)->∀c∈ys.foldl (fO S xs) e,∃x∈xs,c=mQ S xs x
 |[],e,h,_=>h
 |y::ys,e,h,i=>by
  refine Ox ys _ ?_ λz j=>i z (qm_ _ j);intro c f;unfold fO at f;split at f
  ·exact h c f
  ·rcases qnw.mp f with q|q
   ·exact h c q
   ·simp at q;exact#[y,i y qng,q]
end L2
namespace L2
open PySem PySem.Spec PyProof.Rows
@[simp] theorem qj1 (i:Int):Cj (.int i) .non=true:=rfl
@[simp] theorem qj2 (i:Int):Cj .non (.int i)=true:=rfl
@[simp] theorem qj3 (i:Str):Cj (.str i) .non=true:=rfl
theorem yM:∀a b:QAH,PyData.eqvAll (dO a) (dO b)=decide (a=b)
 |[],[]=>rfl
 |[],y::b=>by simp[dO,PyData.eqvAll]
 |x::a,[]=>by simp[dO,PyData.eqvAll]
 |x::a,y::b=>by
  show(PyData.eqv (.str x) (.str y) && PyData.eqvAll (dO a) (dO b))=_;rw[yM a b,qou];simp[PyData.eqv]
end L2
namespace L2
open PySem
def jK{c β:Type}(f:c->Nat->List β):List c->Nat->List β
 |[],_=>[]
 |e::r,k=>f e k++jK f r (k+1)
theorem Bt{c β:Type}(f:c->Nat->List β):∀(l m:List c)(k:Nat),jK f (l++m) k=jK f l k++jK f m (k+l.length)
 |[],m,k=>by simp[jK]
 |e::l,m,k=>by
  simp only[qps,jK,Bt f l m (k+1),qns,qnt];rw[show k+1+l.length=k+(l.length+1) by lia]
def rA{c β:Type}(f:c->Nat->List β){ps:List c}{i:Nat}{e:c}(h:ps[i]? = some e):jK f (ps.take (i+1)) 0=jK f (ps.take i) 0++f e i:=by
 have j:i<ps.length:=(qm2.mp h).1;rw[take_one h,Bt,qni,qpf (qoK j),qnZ];simp[jK]
theorem uG{m β:Type}{f:m->Nat->List β}:∀{ps:List m}{k:Nat}{s:β},s∈jK f ps k↔∃j e,ps[j]? = some e/\s∈f e (k+j)
 |[],k,s=>by simp[jK]
 |e::r,k,s=>by
  simp only[jK,qnw,uG (ps:=r)];constructor
  ·rintro(h|⟨j,l,c,i⟩)
   ·exact#[0,e,rfl,h]
   ·exact#[j+1,l,by simpa using c,by rw[show k+(j+1)=k+1+j by lia];exact i]
  ·rintro⟨j,l,c,i⟩;cases j with
   |zero=>simp at c;subst c;exact .inl i
   |succ j=>exact .inr #[j,l,by simpa using c,by rw[show k+1+j=k+(j+1) by lia];exact i]
theorem lO{c β:Type}{f:c->Nat->List β}(h:∀e k,(f e k).length<=1):∀(ps:List c)(k:Nat),(jK f ps k).length<=ps.length
 |[],_=>by simp[jK]
 |e::r,k=>by
  have j:=lO h r (k+1);have i:=h e k;simp only[jK,qnT,qnt];lia
def RX(k:Nat)(s:gJ):Bool:=decide (s.1≠k)
def jz(ps:QAD)(xs:QAH)(k:Nat)(b:Str):QAH:=mQ ((aD (λ_=>none) ps 0).filter (RX k)) xs b
def rB(ps:QAD)(xs:QAH)(e:Str×Str)(k:Nat):List (Nat×QAH):=if e.1∈jz ps xs k e.2 then [] else [(k,jz ps xs k e.2)]
def jL(ps:QAD)(xs:QAH):List (Nat×QAH):=jK (rB ps xs) ps 0
def W7(ps:QAD)(xs:QAH)(e:Str×Str)(k:Nat):(rB ps xs e k).length<=1:=by
 unfold rB;split <;> simp
def rC{ps:QAD}{xs:QAH}{b y:Str}{k:Nat}:y∈jz ps xs k b↔y∈xs/\RT (rP (λj=>j≠k) ps) b y:=by
 unfold jz;rw[rR];have:RT (gV ((aD (λ_=>none) ps 0).filter (RX k))) b y↔RT (rP (λj=>j≠k) ps) b y:=#[RT.mono (S:=rP (λj=>j≠k) ps) λa b h=>DY.mp h,RT.mono (R:=rP (λj=>j≠k) ps) λa b h=>DY.mpr h];rw[this]
def Oz{ps:QAD}{xs:QAH}{e:Str×Str}{k:Nat}(n:ps[k]? = some e)(m:e.2∈xs)(f:∀e∈ps,e.1∈xs/\e.2∈xs)(o:¬e.1∈jz ps xs k e.2){j:Nat}{d:Str×Str}(c:ps[j]? = some d) :
  ((d.1∈jz ps xs k e.2)↔(d.2∈jz ps xs k e.2))↔j≠k:=by
 obtain⟨l,i⟩:=f d (qm6 c);constructor
 ·intro h z;subst z;rw[n] at c;cases c;exact o (h.mpr (rC.mpr #[m,.refl _]))
 ·intro h;rw[rC,rC];exact#[λ⟨_,q⟩=>#[i,.tail q #[j,h,.inl c]],λ⟨_,q⟩=>#[l,.tail q #[j,h,.inr c]]]
def eU(c:QAH)(e:Str×Str)(k:Nat):List Nat:=if (e.1∈c↔e.2∈c) then [] else [k]
def cj(c:QAH)(ps:QAD):List Nat:=jK (eU c) ps 0
def kO(c:QAH)(e:Str×Str)(k:Nat):(eU c e k).length<=1:=by
 unfold eU;split <;> simp
def RZ{xs c:QAH}(f:xs.Nodup)(i:c.Nodup)(h:∀x∈c,x∈xs):(xs.filter λy=>decide (y∈c)).length=c.length:=by
 refine Nat.le_antisymm (cV (f.filter _) λy e=>?_) (cV i λy e=>?_)
 ·exact qnb (qnv.mp e).2
 ·exact qnv.mpr #[h y e,qnE e]
def Ae(H:Hp)(v:V)(z:Addr×Nat×QAH):Prop:=∃t,v = .ref t/\H t=some (.tup [.int z.2.1,.ref z.1])/\H z.1=some (.lst (z.2.2.map V.str))
def Ae.same{H c:Hp}{vs:QA0}{zs:List (Addr×Nat×QAH)}(h:bL Ae H vs zs)(k:Same H c):bL Ae c vs zs:=bL.keep h λv s ⟨t,e,q,r⟩=>#[t,e,k _ _ q,k _ _ r]
def Ae.there{H:Hp}{vs:QA0}{zs:List (Addr×Nat×QAH)}(h:bL Ae H vs zs):∀z∈zs,H z.1=some (.lst (z.2.2.map V.str)):=λz e=>by
 obtain⟨i,c⟩:=qoP.mp e;have f:i<vs.length:=by rw[h.1];exact(qm2.mp c).1
 obtain⟨t,_,_,r⟩:=h.2 i vs[i] z (by simp[f]) c;exact r
end L2
set_option maxHeartbeats 4000000
namespace L2
open PySem PySem.Spec PyProof.Rows
section
variable {prog:qd}{w:lW}{A:lY}{E:QAB}{s:Y5}
def qak{a:J9}{Q:Option Obj->Shared->Prop}(h:Q (s.heap.get? a) s):wpAny (model prog w) A (loadIfAlive a) Q E s:=λΓ p _=>by
 show Sem.wp _ _ (Sem.loadIfAlive a Sem.pure) _ _ _ _;rw[Sem.wp_loadIfAlive];exact h
def oh(b:Bool)(it l:J9)(c:wY)(i:Nat)(h:oY):Prop:=match b with
 |true=>h.IsListIter it l i/\h.IsList l c
 |false=>h.IsTupleIter it l i/\h.IsTuple l c
def qfG{b:Bool}{it l:J9}{f:wY}{i:Nat}{h:oY}(st:oh b it l f i h):l≠it:=by
 cases b with
 |true=>
  obtain⟨⟨o,e,c,_⟩,⟨u,j,m,_⟩⟩:=st;exact jy j e m c (by decide)
 |false=>
  obtain⟨⟨o,e,c,_⟩,⟨u,j,m,_⟩⟩:=st;exact jy j e m c (by decide)
def qal{b:Bool}{it l:J9}{f:wY}{i:Nat}{h:oY}(st:oh b it l f i h):∃o T,h.get? it=some o/\o.cls = .type T/\T≠ "enumerate" :=by
 cases b with
 |true=>obtain⟨⟨o,e,c,_⟩,_⟩:=st;exact#[o,_,e,c,by decide]
 |false=>obtain⟨⟨o,e,c,_⟩,_⟩:=st;exact#[o,_,e,c,by decide]
def qea{b:Bool}{it l:J9}{f:wY}{i:Nat}{h:oY}(st:oh b it l f i h):∃o T,h.get? l=some o/\o.cls = .type T/\T≠ "enumerate" :=by
 cases b with
 |true=>obtain⟨_,⟨o,e,c,_⟩⟩:=st;exact#[o,_,e,c,by decide]
 |false=>obtain⟨_,⟨o,e,c,_⟩⟩:=st;exact#[o,_,e,c,by decide]
def yN{b:Bool}{it l:J9}{f:wY}{i:Nat}{h h':oY}(st:oh b it l f i h)(k1:∀o,h.get? it=some o->h'.get? it=some o)(k2:∀o,h.get? l=some o->h'.get? l=some o):oh b it l f i h':=by
 cases b with
 |true=>obtain⟨⟨o,e,c⟩,⟨u,j,m⟩⟩:=st;exact#[#[o,k1 _ e,c],#[u,k2 _ j,m]]
 |false=>obtain⟨⟨o,e,c⟩,⟨u,j,m⟩⟩:=st;exact#[#[o,k1 _ e,c],#[u,k2 _ j,m]]
def qam{b:Bool}{it l:J9}{c:wY}{i:Nat}{x:eH}{Q:QAB}(st:oh b it l c i s.heap)(r:c[i]? = some x)
  (v:∀h',oh b it l c (i+1) h'->Heap.SameBut it s.heap h'->Q x {s with heap:=h'}):wpAny (model prog w) A (Builtin.SmallTypes.nextOf (.ref it)) Q E s:=by
 have ne:=qfG st;cases b with
 |true=>
  obtain⟨j,n⟩:=st;refine wpAny_nextOf_list_item j n r λh' a1 a2=>v h' #[a1,?_] a2;obtain⟨u,C,D⟩:=n;exact#[u,(a2.2 _ ne).trans C,D]
 |false=>
  obtain⟨j,n⟩:=st;obtain⟨o,m,B,h⟩:=id j;obtain⟨y,e,p,nl,f⟩:=id n;unfold Builtin.SmallTypes.nextOf;refine qm3 (qn_ (name:=Str.ofString "__next__") j.typeIs qpc (qow qpc j.typeIs F.entry_tuple_iterator_next ?_ (F.args_tuple_iterator_next_1 _)));show wpAny (model prog w) _ (field (.ref it) 0 >>= _) _ _ s;refine qm3 (qnU m h (x:=.ref l) rfl ?_);show wpAny (model prog w) _ (if (Value.ref l == Value.none)=true then _ else _) _ _ s
  rw[if_neg (λz=>by cases z)];show wpAny (model prog w) _ (field (.ref it) 1 >>= _) _ _ s;refine qm3 (qnU m h (x:=.int i 0) rfl ?_);show wpAny (model prog w) _ (seqItems? (.ref l) >>= _) _ _ s;refine qm3 (qpd e f ?_);simp only[qpK,r];refine qm3 (qoV m h (by simp) (qm8 #[x,rfl,qm8 (v _ #[?_,?_] (qob ..))]))
  ·exact#[_,qoB _ m (qpe (qoR h _)),(Obj.cls_mapFields ..).trans B,by rw[qoR h];simp[rawInt]]
  ·exact#[y,((qob ..).2 _ ne).trans e,p,nl,f]
def qan{b:Bool}{it l:J9}{c:wY}{i:Nat}{Q:QAB}(j:A.handled=none)(st:oh b it l c i s.heap)(u:c[i]? = none)
  (v:∀h' e,Heap.ExtBut it s.heap h'->(∃o,h'.get? e=some o/\o.cls = .type "StopIteration")->E (.ref e) {s with heap:=h'}):wpAny (model prog w) A (Builtin.SmallTypes.nextOf (.ref it)) Q E s:=by
 cases b with
 |true=>exact wpAny_nextOf_list_end j st.1 st.2 u v
 |false=>
  obtain⟨r,B⟩:=st;obtain⟨o,h,D,p⟩:=id r;obtain⟨C,f,y,nl,n⟩:=id B;unfold Builtin.SmallTypes.nextOf;refine qm3 (qn_ (name:=Str.ofString "__next__") r.typeIs qpc (qow qpc r.typeIs F.entry_tuple_iterator_next ?_ (F.args_tuple_iterator_next_1 _)));show wpAny (model prog w) _ (field (.ref it) 0 >>= _) _ _ s;refine qm3 (qnU h p (x:=.ref l) rfl ?_);show wpAny (model prog w) _ (if (Value.ref l == Value.none)=true then _ else _) _ _ s
  rw[if_neg (λz=>by cases z)];show wpAny (model prog w) _ (field (.ref it) 1 >>= _) _ _ s;refine qm3 (qnU h p (x:=.int i 0) rfl ?_);show wpAny (model prog w) _ (seqItems? (.ref l) >>= _) _ _ s;refine qm3 (qpd f n ?_);simp only[qpK,u];refine qm3 (qoS (qm3 (qoV h p (by simp) ?_)));show wpAny (model prog w) _ (newExc (.type "StopIteration") [] >>= _) _ _ _;refine qm3 ?_;simp only[newExc,newTuple];refine qm3 (qoX ?_ (by size_fits));refine qm3 (m:=firstArgMember _ _) (wpAny_of_eq (a:=Value.none) (by first|rfl|(simp only[firstArgMember];rfl)) ?_)
  refine qoX ?_ (by size_fits);simp only[raiseNew];refine qm3 (wpAny_handled ?_)
  first|rw[show A.in1.handled=none from j]|rw[j]
  refine qm3 (qm8 (wpAny_throw ?_));exact v _ _ (((qob ..).extBut.push _).push _) #[_,qne _ rfl,rfl]
def pJ(h:oY)(e it:J9)(i:Int):Prop:=∃c f old,h.get? e=some {cls:=.type "enumerate",dict:=none,data:=.fields [c,f,.ref it,rawInt i,.none,old].toArray,slots:=#[]}/\(c = .none\/∃a:Int,c=rawInt a)
def qcT{e it r:J9}{i:Int}{x p n old:eH}{Q:PySem.Fin->Shared->Prop} (j:s.heap.get? e=some {cls:=.type "enumerate",dict:=none,data:=.fields [p,n,.ref it,rawInt i,.none,old].toArray,slots:=#[]}) (G:p = .none\/∃a:Int,p=rawInt a)
  (z:∀B,pJ B e it i->Heap.SameBut e s.heap B->Q (.done (.ret (.ref r))) {s with heap:=B}) :
  wpAny (model prog w) A (Builtin.SmallTypes.ownedTupleIsFree (.ref e) >>= λb=>if b=true then (rule "enumerate.__next__.owned-tuple-again" >>= λ_=>field (.ref e) 5 >>= λo=>setField (.ref e) 5 x >>= λ_=>Builtin.SmallTypes.ownedTupleHandOut (.ref e) (.ref r) >>= λ_=>letGo [o] [.ref r] >>= λ_=>ret (.ref r)) else ret (.ref r)) Q E s:=by
 have out:wpAny (model prog w) A (rule "enumerate.__next__.owned-tuple-again" >>= λ_=>field (.ref e) 5 >>= λo=>setField (.ref e) 5 x >>= λ_=>Builtin.SmallTypes.ownedTupleHandOut (.ref e) (.ref r) >>= λ_=>letGo [o] [.ref r] >>= λ_=>ret (.ref r)) Q E s:=by
  refine qm3 (qoS ?_);refine qm3 (qnU j rfl (x:=old) rfl ?_);refine qm3 (qot j (by simp) λD h f=>?_);refine qm3 ?_;unfold Builtin.SmallTypes.ownedTupleHandOut;refine qm3 (qot h (by simp) λL v m=>?_);refine qot v (by simp) λH u l=>?_;refine qm3 (wpAny_letGo (qm8 (z H #[rawInt r,.bool false,x,u,.inr #[_,rfl]] ?_)));exact#[l.1.trans (m.1.trans f.1),λc y=>(l.2 c y).trans ((m.2 c y).trans (f.2 c y))]
 refine qm3 ?_;unfold Builtin.SmallTypes.ownedTupleIsFree;refine qm3 (qnU j rfl (x:=p) rfl ?_)
 rcases G with rfl|⟨a,rfl⟩
 ·exact qm8 out
 ·show wpAny (model prog w) A (loadIfAlive a.toNat >>= _) _ _ s;refine qm3 (qak ?_);cases J:s.heap.get? a.toNat with
  |none=>exact qm8 out
  |some I=>
   show wpAny (model prog w) A (field (.ref e) 1 >>= _) _ _ s;refine qm3 (qnU j rfl (x:=n) rfl ?_)
   by_cases C:(n != .bool true)=true
   ·rw[if_pos C];refine qm3 (qot j (by simp) λD h f=>?_);exact qm8 (qm8 (z D #[rawInt a,.bool true,old,h,.inr #[_,rfl]] f))
   ·rw[if_neg C];exact qm8 (qm8 (z s.heap #[rawInt a,n,old,j,.inr #[_,rfl]] #[rfl,λ_ _=>rfl]))
def R0{b:Bool}{e it l:J9}{i:Nat}{f:wY}{x:eH}{Q:QAG->Shared->Prop}
  (y:pJ s.heap e it i) (st:oh b it l f i s.heap) (hx:f[i]? = some x)
  (hQ:∀h',pJ h' e it ((i:Int)+1)->oh b it l f (i+1) h'->h'.get? s.heap.objs.size=some {cls:=.type "tuple",data:=.seq [.int i s.toks,x].toArray}->
   (∀c o,c≠e->c≠it->s.heap.get? c=some o->h'.get? c=some o)->Q (some (.ref s.heap.objs.size)) {s with heap:=h',toks:=s.toks+1}) :
  wpAny (model prog w) A (pyNext (.ref e)) Q E s:=by
 obtain⟨f0,f1,old,y,hf⟩:=y;obtain⟨oi,Ti,J,U,a0⟩:=qal st;obtain⟨ol,Tl,I,T,Y⟩:=qea st;have v:it≠e:=jy J y U rfl a0;have B:l≠e:=jy I y T rfl Y;have hT:s.TypeIs (.ref e) "enumerate" :=#[_,y,rfl];unfold pyNext;refine qm3 (qpm (qn_ (name:=Str.ofString "__next__") hT qoC (qow qoC hT F.entry_enumerate_next ?_ (F.args_enumerate_next_1 _))));obtain⟨D,g,d,h,os⟩:=s;show wpAny (model prog w) _ (field (.ref e) 2 >>= _) _ _ _;refine qm3 (qnU y rfl (x:=.ref it) rfl ?_);refine qm3 (qam st hx λp H r=>?_);replace r:Heap.SameBut it D p:=r;have KJ:=(r.2 e v.symm).trans y;show wpAny (model prog w) _ (field (.ref e) 3 >>= _) _ _ #[p,g,d,h,os];refine qm3 (qnU KJ rfl (x:=rawInt i) rfl ?_);show wpAny (model prog w) _ (field (.ref e) 4 >>= _) _ _ #[p,g,d,h,os];refine qm3 (qnU KJ rfl (x:=.none) rfl ?_);show wpAny (model prog w) _ (mkInt i >>= _) _ _ #[p,g,d,h,os];refine qm3 (wpAny_mkInt ?_);show wpAny (model prog w) _ (setField (.ref e) 3 (rawInt ((i:Int)+1)) >>= _) _ _ #[p,g,d,h+1,os];refine qm3 (qot KJ (by simp) λC O m=>?_);replace m:Heap.SameBut e p C:=m;show wpAny (model prog w) _ (setField (.ref e) 4 .none >>= _) _ _ #[C,g,d,h+1,os];refine qm3 (qot O (by simp) λn N j=>?_);replace j:Heap.SameBut e C n:=j;show wpAny (model prog w) _ (newTuple [.int i h,x] >>= _) _ _ #[n,g,d,h+1,os];refine qm3 (wpAny_newTuple ?_);have G:n.objs.size=D.objs.size:=by rw[j.1,m.1,r.1]
 have L:e<D.objs.size:=qm9 y;have M:(n.push {cls:=.type "tuple",data:=.seq [.int i h,x].toArray}).get? e=some {cls:=.type "enumerate",dict:=none,data:=.fields [f0,f1,.ref it,rawInt ((i:Int)+1),.none,old].toArray,slots:=#[]}:=qm4 _ N;have Vi:(n.push {cls:=.type "tuple",data:=.seq [.int i h,x].toArray}).get? D.objs.size=some {cls:=.type "tuple",data:=.seq [.int i h,x].toArray}:=by rw[<- G];exact qne _ rfl
 have Iu:∀c o,c≠e->c≠it->D.get? c=some o->(n.push {cls:=.type "tuple",data:=.seq [.int i h,x].toArray}).get? c=some o:=λc o p C n=>qm4 _ (j.extBut c o p (m.extBut c o p (r.extBut c o C n)));have Y0:oh b it l f (i+1) (n.push {cls:=.type "tuple",data:=.seq [.int i h,x].toArray}):=yN H (λo z=>qm4 _ (j.extBut _ _ v (m.extBut _ _ v z))) (λo z=>qm4 _ (j.extBut _ _ B (m.extBut _ _ B z)));refine qcT (s:=#[n.push {cls:=.type "tuple",data:=.seq [.int i h,x].toArray},g,d,h+1,os]) M hf λh5 aa u=>#[_,rfl,qm8 ?_];rw[show(Shared.mk n g d (h+1) os).heap.objs.size=D.objs.size from G];refine hQ h5 aa (yN Y0 (λo z=>(u.2 _ v).trans z) (λo z=>(u.2 _ B).trans z)) ((u.2 _ (qoF L)).trans Vi) λc o p C n=>(u.2 c p).trans (Iu c o p C n)
end
end L2
namespace PySem
open Sem (wp)
def uH:typeLookup (.type "enumerate") "__getattr__" = pure none:=by rw[typeLookup_type,builtinLookup_eq_fast];kernel_rfl
def yO:typeLookup (.type "enumerate") "keys" = pure none:=by rw[typeLookup_type,builtinLookup_eq_fast];kernel_rfl
def ou:entryFor table "enumerate.__getattribute__" = some Builtin.«object.__getattribute__»:=
 entryFor_alias (id':= "object.__getattribute__") (by kernel_rfl) (by decide+kernel) (by decide+kernel) (by kernel_rfl)
def KN(a:J9)(xs:wY)(j:Array (QAG))(name:Str)(u:Tok) (f:typeLookup (.type "enumerate") name=pure none) (c:(["__module__", "__name__", "__qualname__", "__doc__", "__annotations__"]:QAH).contains name=false) (hsz:name.length+100<=sizeLine:=by size_fits) :
  Meets (Builtin.«object.__getattribute__» #[[.ref a,.str name u],[]]) (λA R s=>s.heap.get? a=some {cls:=.type "enumerate",dict:=none,data:=.fields xs,slots:=j}/\raisesAttr (.ref a) name A R s):=
 Meets.of_wp λh w A R s e=>by
  obtain⟨m,g,d,i,os⟩:=s;obtain⟨l,e⟩:=e;have n:(#[m,g,d,i,os]:Shared).TypeIs (.ref a) "enumerate" :=#[_,l,rfl];unfold Builtin.«object.__getattribute__»
  repeat (any_goals (first|assumption|wp_step))
  simp only[c,qoe,qpE]
  repeat (any_goals (first|assumption|wp_step))
  exact wpAny_raiseAttrError e.1 e.2 (attrMsg_fits (by decide+kernel) hsz)
def KQ{prog:qd}{w:lW}{A:lY}{E:QAB}{s:Y5}{a:J9}{xs:wY}{Q:QAG->Shared->Prop}
  (m:s.heap.get? a=some {cls:=.type "enumerate",dict:=none,data:=.fields xs,slots:=#[]}) (r:A.handled=none)
  (h:∀j l,(∀b o,s.heap.get? b=some o->j.get? b=some o)->Q none {s with heap:=j,toks:=l}) :
  wpAny (model prog w) A (getAttr? (.ref a) "keys") Q E s:=by
 obtain⟨p,g,d,l,os⟩:=s;have n:∀f,(#[p,g,d,f,os]:Shared).TypeIs (.ref a) "enumerate" :=λ_=>#[_,m,rfl];have C:=sub_AttributeError;have B:=F.slot_enumerate_getattribute.lookup;have z:=F.slot_enumerate_getattribute.bind (.ref a);have y:=uH;have c:(["__module__", "__name__", "__qualname__", "__doc__", "__annotations__"]:QAH).contains "keys" = false:=by decide
 unfold getAttr? getAttrBy? getAttrBy
 repeat (any_goals (first|assumption|exact n _|((with_reducible show wpAny _ _ (call (Value.builtin "enumerate.__getattribute__") _ _) _ _ _);refine call_meets F.slot_enumerate_getattribute (n _) ou (F.args_enumerate_getattribute_2 _ _) (KN a xs #[] "keys" _ yO c) #[m,r,λj f e i=>?_])|wp_step))
 obtain⟨v,u,x⟩:=i.there;show wpAny _ _ (getattributeRaised _ _ _ _ _ _ _) _ _ _;unfold getattributeRaised
 repeat (any_goals (first|assumption|wp_step))
 exact h _ _ i.of.keeps
end PySem
namespace PySem
open Sem (wp)
open AutoSeq1 (wpAny_loadPart')
def yP(l:J9)(e:wY)(n:Nat)(j:dR)(r:Array (QAG)) :
  Meets (Builtin.«enumerate.__new__» #[[.type "enumerate",.ref l],[]]) (λ_ R s=>s.heap.get? l=some {cls:=.type "tuple",dict:=j,data:=.seq e n,slots:=r}/\
   R (.ok (.ret (.ref (s.heap.push {cls:=.type "tuple_iterator",data:=.fields [.ref l,.int 0 0].toArray}).objs.size)))
    {s with heap:=(s.heap.push {cls:=.type "tuple_iterator",data:=.fields [.ref l,.int 0 0].toArray}).push {cls:=.type "enumerate",data:=.fields [.none,.bool false,.ref s.heap.objs.size,rawInt 0,.none,.none].toArray}}):=
 .of_wp λm w A R s h=>by
  obtain⟨u,g,d,p,os⟩:=s;obtain⟨f,h⟩:=h;have o:=sub_enumerate;have i:Heap.IsTuple (Shared.heap #[u,g,d,p,os]) l e:=#[_,f,rfl,n,rfl]
  wp_walk using wpAny_loadPart' f
  refine wpAny_stack_any λst=>qm8 ?_;split
  ·rename_i c _ _ _ _ _;cases (c == Value.type "enumerate")
   ·wp_walk using wpAny_loadPart' f,qpz i
    exact#[_,rfl,h]
   ·wp_walk using wpAny_loadPart' f,qpz i
    exact#[_,rfl,h]
  ·wp_walk using wpAny_loadPart' f,qpz i
   exact#[_,rfl,h]
section
variable {prog:qd}{w:lW}{A:lY}{E:QAB}{s:Y5}
def yQ{b:Bool}{l:J9}{e:wY}{Q:QAB}(u:match b with|true=>s.heap.IsList l e|false=>s.heap.IsTuple l e)
  (h:∀h',L2.pJ h' (s.heap.objs.size+1) s.heap.objs.size 0->L2.oh b s.heap.objs.size l e 0 h'->h'.objs.size=s.heap.objs.size+2->
   (∀b o,s.heap.get? b=some o->h'.get? b=some o)->Q (.ref (s.heap.objs.size+1)) {s with heap:=h'}) :
  wpAny (model prog w) A (call (.type "enumerate") [.ref l]) Q E s:=by
 cases b with
 |true=>
  exact call_enumerate_list u λh' b1 b2 b3 f=>h h' #[_,_,_,b1,.inl rfl] #[b2,u.at λo z=>f _ _ z] b3 f
 |false=>
  obtain⟨⟨c,v,D,C⟩,y,r,n,p⟩:=id u;replace r:c = .type "tuple" :=r;replace p:D = .seq e n:=p;subst r p;refine callType_new F.called_enumerate (by decide) (F.typeCall_enumerate_1 _) (F.newCall_enumerate_1 _) (λi=>F.args_object_init_2 i _) F.entry_enumerate_new
   (yP l e n v C) #[y,?_]
  have j:(s.heap.push {cls:=.type "tuple_iterator",data:=.fields [.ref l,.int 0 0].toArray}).objs.size=s.heap.objs.size+1:=qnV ..;show _/\_;rw[j];have B:L2.pJ ((s.heap.push {cls:=.type "tuple_iterator",data:=.fields [.ref l,.int 0 0].toArray}).push
    {cls:=.type "enumerate",data:=.fields [.none,.bool false,.ref s.heap.objs.size,rawInt 0,.none,.none].toArray}) (s.heap.objs.size+1) s.heap.objs.size 0:=by
   have:=qne (s.heap.push {cls:=.type "tuple_iterator",data:=.fields [.ref l,.int 0 0].toArray})
    (o:={cls:=.type "enumerate",data:=.fields [.none,.bool false,.ref s.heap.objs.size,rawInt 0,.none,.none].toArray}) rfl
   rw[j] at this;exact#[_,_,_,this,.inl rfl]
  obtain⟨_,_,_,m,_⟩:=id B;have f:∀b o,s.heap.get? b=some o->((s.heap.push {cls:=.type "tuple_iterator",data:=.fields [.ref l,.int 0 0].toArray}).push
    {cls:=.type "enumerate",data:=.fields [.none,.bool false,.ref s.heap.objs.size,rawInt 0,.none,.none].toArray}).get? b=some o:=λb o x=>qm4 _ (qm4 _ x)
  refine#[#[_,m,rfl],h _ B #[#[_,qm4 _ (qne _ rfl),rfl,rfl],#[_,f _ _ y,rfl,n,rfl]] (by rw[qnV,j]) f]
end
end PySem
namespace L2
open PySem PySem.Spec PyProof.Rows
section
variable {prog:qd}{w:lW}{A:lY}{E:QAB}{s:Y5}
def R3{b:Bool}{e it l:J9}{i:Nat}{c:wY}{Q:QAG->Shared->Prop}(r:A.handled=none)
  (f:pJ s.heap e it i) (st:oh b it l c i s.heap) (n:c[i]? = none)
  (v:∀h',Heap.ExtBut it s.heap h'->Q none {s with heap:=h'}):wpAny (model prog w) A (pyNext (.ref e)) Q E s:=by
 obtain⟨B,z,old,f,y⟩:=f;have m:s.TypeIs (.ref e) "enumerate" :=#[_,f,rfl];unfold pyNext;refine qm3 (qpm (qn_ (name:=Str.ofString "__next__") m qoC
  (qow qoC m F.entry_enumerate_next ?_ (F.args_enumerate_next_1 _))))
 show wpAny _ _ (field (.ref e) 2 >>= _) _ _ _;refine qm3 (qnU f rfl (x:=.ref it) rfl ?_);refine qm3 (qan r st n λh' x j h=>?_);obtain⟨o,p,u⟩:=h;refine qm3 (qpt (T:= "StopIteration") (b:=true) #[o,p,u] qpR ?_);exact qm8 (v _ j)
end
def yR:entryFor table "dict.update.loop" = some Builtin.«dict.update.loop»:=entryFor_of_fast (by kernel_rfl)
def m5:plainId "dict.update.loop" = true:=by decide+kernel
def nums{c:Type}:Nat->List c->List (Key×c)
 |_,[]=>[]
 |n,x::xs=>(Sum.inl (n:Int),x)::nums (n+1) xs
theorem D_{c:Type}:∀(n:Nat)(xs:List c),(nums n xs).length=xs.length
 |_,[]=>rfl
 |n,x::xs=>by rw[nums,qnt,qnt,D_]
theorem OD{c:Type}:∀(n:Nat)(xs:List c)(y:c),nums n (xs++[y])=nums n xs++[(Sum.inl ((n+xs.length:Nat):Int),y)]
 |n,[],y=>rfl
 |n,x::xs,y=>by
  rw[qps,nums,OD (n+1) xs y,nums,qps,qnt,Nat.add_right_comm,Nat.add_assoc]
theorem OJ{e:Type}:∀(n:Nat)(xs:List e)(m:Nat),(nums n xs).any (λf=>decide (f.1=(Sum.inl (m:Int):Key)))=true->n<=m/\m<n+xs.length
 |n,[],m,h=>by simp[nums] at h
 |n,x::xs,m,h=>by
  rw[nums,qpk,Bool.or_eq_true] at h
  rcases h with h|h
  ·have c:=qnb h;injection c with c;have i:n=m:=⋯
   subst i;simp
  ·have:=OJ (n+1) xs m h;rw[qnt];lia
def qcU:∀{ys:QA0}{its:QAE}(n:Nat),Vals ys its->KV (nums n ys) (nums n its):=by
 intro ys its n r
 induction r generalizing n with
 |nil=>exact .nil
 |cons h t ih=>exact .cons #[rfl,h] (ih (n+1))
section
variable {P:qd}{w:lW}{A:lY}{R:Result->Shared->Prop}{b:Bool}{e it l D:J9}{its:QAE}
def qcV(hh:A.handled=none)(O:D≠e)(I:D≠it)(h3:D≠l)(hs:its.length<=sizeLine) :
  ∀(k i:Nat)(s:Y5),its.length - i=k->i<=its.length->pJ s.heap e it i->oh b it l its.toArray i s.heap->s.heap.DictOf (bV P w) D (nums 0 (its.take i))->
   (∀h' tk,(∀c o,c≠D->c≠e->c≠it->s.heap.get? c=some o->h'.get? c=some o)->h'.DictOf (bV P w) D (nums 0 its)->R (.ok (.ret .none)) {s with heap:=h',toks:=tk})->
   codeAny (model P w) A (.builtin "dict.update.loop" #[[.ref D,.ref e,rawInt i,.none],[]]) R s:=by
 intro k
 induction k with
 |zero=>
  intro i s Y hi E h v C;obtain rfl:i=its.length:=⋯
  refine qo3 yR ?_;rw[qpP m5 _];show wpAny _ A.in1 (pyNext (.ref e) >>= _) _ _ s;refine qm3 (R3 (A:=A.in1) hh E h (by simp) λh' n=>?_);refine qm3 (qm8 ?_);refine qm8 (C h' s.toks (λc o M L y z=>n c o y z) ?_);rw[qnn] at v;exact v.extBut n I
 |succ k ih=>
  intro i s Y hi E h v C;have j:i<its.length:=∅
  refine qo3 yR ?_;rw[qpP m5 _];show wpAny _ A.in1 (pyNext (.ref e) >>= _) _ _ s;refine qm3 (R0 E h (x:=its[i]) (by simp[j]) λh' p m N n=>?_);have hT:(Shared.mk h' s.gens s.drawn (s.toks+1) s.os).TypeIs (.ref s.heap.objs.size) "tuple" :=#[_,N,rfl];show wpAny _ A.in1 (holding _ _ >>= _) _ _ _;refine qm3 (qoa ?_);refine qm3 (wpAny_tryCatch ?_);unfold Builtin.Dict.pairItems;refine qm3 (wpAny_typeOf hT ?_);rw[if_pos (by decide)];refine qm3 (qpd N rfl ?_);refine qm8 ?_;show wpAny _ A.in1 (holding _ (dictSet D (.int i s.toks) its[i])) _ _ _;refine qoa ?_;have G:h'.DictOf (bV P w) D (nums 0 (its.take i)):=by
   obtain⟨o,es,ep,U,r⟩:=v;exact#[o,es,ep,n D o O I U,r]
  refine wpAny_dictSet_pairs (knd:=bV P w) (k:=Sum.inl (i:Int)) (s:=Shared.mk h' s.gens s.drawn (s.toks+1) s.os) (Bo P w i s.toks) G (λa0 u f=>?_) (by rw[D_,qni];lia);have Q:(i:Int)+1=((i+1:Nat):Int):=⋯
  have J:stored (nums 0 (its.take i)) (Sum.inl (i:Int)) its[i]=nums 0 (its.take (i+1)):=by
   unfold stored;rw[if_neg (λz=>?_)]
   ·rw[List.take_succ_eq_append_getElem j,OD,qni,qpf ∅,qnZ]
   ·have:=OJ _ _ _ z;rw[qni] at this;lia
  rw[J] at u;rw[Q] at p;refine qm8 #[plainId_quiet m5 _,?_];show codeAny _ A (.builtin "dict.update.loop" #[[.ref D,.ref e,rawInt ((i:Int)+1),.none],[]]) _ _;rw[Q];refine ih (i+1) _ ⋯ j ?_ (yN m (λo z=>(f.2 _ I.symm).trans z) (λo z=>(f.2 _ h3.symm).trans z)) u λH tk B T=>?_
  ·obtain⟨f0,f1,old,q,hf⟩:=p;exact#[f0,f1,old,(f.2 _ O.symm).trans q,hf]
  ·exact C H tk (λc o M L y z=>B c o M L y ((f.2 c M).trans (n c o L y z))) T
end
section
variable {P:qd}{w:lW}{A:lY}{E:QAB}{s:Y5}{b:Bool}{e it l:J9}{its:QAE}
def KR{Q:QAB} (c:s.TypeIs (.ref e) "enumerate") (h:Q (.ref e) s):wpAny (model P w) A (pyIter (.ref e)) Q E s:=by
 refine wpAny_pyIter_slot c F.slot_enumerate_iter (qow F.slot_enumerate_iter c F.entry_enumerate_iter ?_ (F.args_enumerate_iter_1 _));show wpAny _ _ (ret (.ref e)) _ _ s;exact qm8 #[_,rfl, "enumerate",_,c,qoC.lookup,h]
def qcW{Q:QAB}(G:A.handled=none)(hE:pJ s.heap e it 0)(j:oh b it l its.toArray 0 s.heap)(I:its.length<=sizeLine)
  (h:∀h' tk,(∀c o,c≠e->c≠it->s.heap.get? c=some o->h'.get? c=some o)->h'.DictOf (bV P w) s.heap.objs.size (nums 0 its)->Q (.ref s.heap.objs.size) {s with heap:=h',toks:=tk}) :
  wpAny (model P w) A (call (.type "dict") [.ref e]) Q E s:=by
 obtain⟨f0,f1,old,v,M⟩:=hE;obtain⟨oi,Ti,y,O,U⟩:=qal j;obtain⟨ol,Tl,x,N,T⟩:=qea j;refine callType_codes (Q₁:=λp i=>p = .ref s.heap.objs.size/\i={s with heap:=s.heap.push {cls:=.type "dict",data:=.dict #[]}}) F.kt_called_dict (F.kt_typeCall_dict_1 _) F.entry_dict_init (kt_code_dict_new _ #[rfl,rfl]) ?_;rintro p i ⟨rfl,rfl⟩;have f:(s.heap.push {cls:=.type "dict",data:=.dict #[]}).DictOf (bV P w) s.heap.objs.size []:=Heap.DictOf.new s.heap;have m:∀c o,s.heap.get? c=some o->(s.heap.push {cls:=.type "dict",data:=.dict #[]}).get? c=some o:=λc o z=>qm4 _ z;have ne:∀{c o},s.heap.get? c=some o->s.heap.objs.size≠c:=λz=>qoF (qm9 z);have Y:(Shared.mk (s.heap.push {cls:=.type "dict",data:=.dict #[]}) s.gens s.drawn s.toks s.os).TypeIs (.ref e) "enumerate" :=#[_,m _ _ v,rfl];refine#[f.typeIs,F.args_dict_init_2 _ _,?_];unfold Builtin.«dict.__init__»;refine qm3 ?_;unfold Builtin.Dict.selfAndRest;refine qm3 (wpAny_notOrdered_dict f.typeIs ?_);show wpAny _ _ (pure (s.heap.objs.size,[Value.ref e])) _ _ _;refine qm8 ?_;show wpAny _ _ (Builtin.Dict.updateFrom "dict.__init__" s.heap.objs.size (.ref e) [] .none) _ _ _;unfold Builtin.Dict.updateFrom;refine qm3 (wpAny_typeOf Y ?_);rw[if_pos (by decide)];show wpAny (model P w) A.in1.in1 (getAttr? (.ref e) "keys" >>= _) _ _ _;refine qm3 (KQ (A:=A.in1.in1) (m _ _ v) G λD n u=>?_);have H:=u _ _ (m _ _ v);have B:(Shared.mk D s.gens s.drawn n s.os).TypeIs (.ref e) "enumerate" :=#[_,H,rfl];simp only[Option.isNone_none,if_true];refine qm3 (qoS ?_);refine qm3 (KR (s:=Shared.mk D s.gens s.drawn n s.os) B ?_);refine qm8 #[plainId_quiet m5 _,?_];have C:D.DictOf (bV P w) s.heap.objs.size []:=by
  obtain⟨o,es,ep,J,r⟩:=f;exact#[o,es,ep,u _ o J,r]
 refine qcV (A:=A.in1) (b:=b) (l:=l) (it:=it) G (ne v) (ne y) (ne x) I its.length 0 _ ⋯ (qnI _) #[f0,f1,old,H,M] (yN j (λo z=>u _ _ (m _ _ z)) (λo z=>u _ _ (m _ _ z))) (by simpa [nums] using C) λh' tk L hD=>#[rfl,h h' tk (λc o c1 c2 z=>L c o (ne z).symm c1 c2 (u _ _ (m _ _ z))) hD]
end
section
variable {X:Cx}{K:YZ}
def tDE(K:YZ)(t:TA):TE:=λf H Q=>t f H λh c=>∃a e,h=[.ref a]/\(aV K c a e\/cO K c a e)/\∀p,c p=none->Q (.ref p) (upd c p (.dK (nums 0 e)))
@[simp ↓] theorem qmm (K:YZ)(t:TA) σ H Q:tDE K t σ H Q=(t σ H λvs c=>∃a xs,vs=[.ref a]/\(aV K c a xs\/cO K c a xs)/\∀p,c p=none->Q (.ref p) (upd c p (.dK (nums 0 xs)))):=rfl
def O1(hK:X.K=K)(hc:X.calm=true){a:rz}{N:TA}{p y pos f:Pos} (L:Gl X "dict") (G:X.mg "dict" = none) (J:Gl X "enumerate") (E:X.mg "enumerate" = none) (ha:PA X [a] N)
  (hs:starEach [a] X.env=[(false,eval a X.env)]:=by rfl)
  (w:starEach [.Call (.Name "enumerate" y) [a] [] f] X.env=[(false,eval (.Call (.Name "enumerate" y) [a] [] f) X.env)]:=by rfl) :
  PE X (.Call (.Name "dict" p) [.Call (.Name "enumerate" y) [a] [] f] [] pos) (tDE K N):=by
 subst hK;intro p_ s O H Q I h;refine qom (mz I L G RK ?_ (by decide) (by decide));refine qnX ?_ (by rw[w];rfl) (by rfl);rw[w];show wpAny _ _ (spliced ((false,eval (.Call (.Name "enumerate" y) [a] [] f) X.env)::[])) _ _ s;refine Calls.spliced_cons ?_;refine qom (mz I J E Ac ?_ (by decide) (by decide));refine qnX (cG (ha f p_ s O H _ I h) λus n T=>?_) (by rw[hs];rfl) (by rfl);obtain⟨vs,H1,m,Y,q1⟩:=T;obtain⟨C,A,rfl,v,q⟩:=q1;obtain⟨u,rfl,r⟩:=vals1 Y;obtain rfl:u=Value.ref C:=r;have go:∃(b:Bool)(e:QAE),Vals A e/\e.length<=sizeLine/\(match b with|true=>n.heap.IsList C e.toArray|false=>n.heap.IsTuple C e.toArray):=by
  rcases v with v|v
  ·obtain⟨e,i,B,l⟩:=m.list v;exact#[true,e,i,by rw[<- i.length];exact l,B.isList]
  ·obtain⟨e,i,B,l⟩:=m.tuple v;exact#[false,e,i,by rw[<- i.length];exact l,B]
 obtain⟨b,e,i,l,hL⟩:=go;refine yQ (b:=b) hL λx b1 b2 b3 kk=>?_;refine Calls.spliced_nil ?_;refine qcW (s:={n with heap:=x}) (b:=b) (m.ok.hd hc) b1 b2 l λM U km hD=>?_;have D:∀c o,n.heap.get? c=some o->M.get? c=some o:=λc o z=>km c o (qnf (qn6 (qm9 z))) (qnf (qm9 z)) (kk c o z);have j:n.heap.objs.size<=x.objs.size:=by rw[b3];lia
 have hf:H1 x.objs.size=none:=m.hok.fresh j;refine#[.ref x.objs.size,_,m.laid (o:=.dK (nums 0 A)) (t':=U) D j ?_,rfl,q _ hf];refine(show cD _ _ _ _ _ (.dK (nums 0 A)) from#[by rw[D_,i.length];exact l,?_,nums 0 e,qcU 0 i,hD]);have h1:=m.big;have M:sysModules<x.objs.size:=qnj h1 j;exact qo7.mpr (qoF M)
end
structure Nm3(mg:Y4):Prop where
 sum:mg "sum" = none
theorem Ea:∀{ys:QAH}{us:QAE},Vals (ys.map V.str) us->StrsAre us ys
 |[],_,r=>by rw[List.map_nil] at r;cases r;exact .nil
 |y::ys,_,r=>by
  rw[qnP] at r;cases r with
  |cons h t=>
   obtain⟨k,rfl⟩:=h;exact .cons y k (Ea t)
section
variable {X:Cx}{K:YZ}
def rJoin:V->List V->Hp->VK->Prop:=λx f H Q=>∃(c:Str)(l:J9)(e:QAH),x = .str c/\f=[.ref l]/\H l=some (.lst (e.map V.str))/\(e.map (·.length)).sum+e.length * c.length<=16777216/\Q (.str (Txt.join c e)) H
def qcX:N7 X "str.join" rJoin:=by
 intro B s w H x z v A Q I f j q;obtain⟨e,l,y,rfl,rfl,r,p,q⟩:=q;obtain⟨u,rfl,i⟩:=j.one;obtain rfl:u=Value.ref l:=i;obtain⟨t,rfl⟩:=f;obtain⟨n,h,m,o⟩:=I.list (aV.of r);exact join_list m.isList (by simpa using Ea h) p λc k=>#[.str _,H,I.tok _,#[c,rfl],q]
def qlg(c:X.K=K):SlR X (qcB K):=by subst c;exact qcC
@[simp ↓] theorem qj4 (K:YZ) x lo c H Q:qcB K x lo c H Q=(∃a xs,x = .ref a/\aV K H a xs/\∀p,H p=none->Q (.ref p) (upd H p (.lst (wC xs lo c)))):=rfl
theorem Iv:∀(xs:QAH)(a:Array Nat),(xs.foldl (λc p=>c++(Str.ofString "").cps++p.cps) a).toList=a.toList++xs.flatMap (·.cps.toList)
 |[],a=>by simp
 |x::xs,a=>by
  rw[qo2,Iv xs];rw[show(Str.ofString "").cps = #[] from rfl,Array.append_empty];simp
def W8(ys:QAH):(Txt.join (Str.ofString "") ys).cps.toList=ys.flatMap (·.cps.toList):=by
 cases ys with
 |nil=>rfl
 |cons x c=>
  show(List.foldl _ x.cps c).toList=_;exact(Iv c x.cps).trans (by simp)
theorem uI:∀(ys:QAH),(∀y∈ys,∃n,n<26/\y=#[[97+n].toArray])->(ys.flatMap (·.cps.toList)).length=ys.length/\(ys.flatMap (·.cps.toList)).all isL=true/\(ys.map (·.length)).sum=ys.length
 |[],_=>by simp
 |y::ys,h=>by
  obtain⟨n,e,rfl⟩:=h y (qng ..);obtain⟨j,i,f⟩:=uI ys λz c=>h z (qm_ _ c);refine#[by simp only[List.flatMap_cons,qnT,qnt,j];simp;lia,by rw[List.flatMap_cons,List.all_append,i];simp[Z8 n e],?_];rw[qnP,List.sum_cons,f,qnt];show 1+_=_;omega
def rN.glue{c k:Nat}{x:Str}(h:rN c k x)(r:0<k){ys:QAH}(j:∀y∈ys,∃n,n<26/\y=#[[97+n].toArray]):rN c (k+ys.length) (x++Txt.join (Str.ofString "") ys):=by
 obtain⟨p,o,m⟩:=h;obtain⟨i,f,_⟩:=uI ys j;have e:=W8 ys;have l:x.cps.size=k:=p;refine#[?_,?_,?_]
 ·show(x.cps++(Txt.join (Str.ofString "") ys).cps).size=_;rw[qpg,l,<- qox,e,i]
 ·show(x.cps++(Txt.join (Str.ofString "") ys).cps)[0]? = _;rw[Array.getElem?_append_left ⋯];exact o
 ·show(x.cps++(Txt.join (Str.ofString "") ys).cps).toList.all isL=true;rw[qoc,List.all_append,m,e,f];rfl
end
section
variable {K:YZ}{l1 l2:J9}{g:TG}{tb:TS}{D:Ends}{d:qaf g tb D}{σ:St}{H:Hp}
def frZ(xs ys:QA0)(Pv:QA1)(B:Pv 0 σ H)(J:xs.length=ys.length)(w:∀i σ H,i<=xs.length->Pv i σ H->aV K H l1 xs/\aV K H l2 ys)
  (s:∀i x y t σ H,xs[i]? = some x->ys[i]? = some y->H t=none->Pv i σ H->g (.ref t) σ (upd H t (.tup [x,y])) λh G=>tb {D with nx:=Pv (i+1),ct:=Pv (i+1),bk:=D.nx} h G) (A:∀σ H,Pv xs.length σ H->D.nx σ H):tFr (WQ K l1 l2) g tb D d σ H:=by
 refine#[λi m σ H=>m=xs.length - i/\i<=xs.length/\Pv i σ H,#[xs.length,by simp,qnI _,B],?_];rintro i m σ H ⟨rfl,z,p⟩;obtain⟨l,j⟩:=w i σ H z p
 by_cases f:i<xs.length
 ·have c:i<ys.length:=⋯
  refine .inr #[#[xs,ys,xs[i],ys[i],l,j,by simp[f],by simp[c]],Pv (i+1),λn I o=>#[xs.length - (i+1),⋯,rfl,f,o],λx I y=>?_];obtain⟨t,u,v,rfl,r,rfl,E,C⟩:=y;exact s i u v t σ H (E xs l) (C ys j) r p
 ·have e:i=xs.length:=⋯
  subst e;exact .inl #[#[xs,ys,l,j,.inl (qm5 _)],A σ H p]
end
section
variable {X:Cx}{sc0 sc:Scope}{N0 own N:QAH}{caps:wX}{elt tg iter:rz}{ifs:wZ}{pos:Pos}{wi:TI}{g:TG}{tt:TT}{te:TE}
def qao{l i j f c}(S:aR sc0 sc N0 own caps N)(z:(bU X sc0 N0 l i j f c).calm=true)(v:PI (bU X sc0 N0 l i j f c) tg iter wi)
  (w:∀C s H n m,PG (bU (bU X sc0 N0 l i j f c) sc N C s H n m) tg g) (o:∀C s H n m,PTs (bU (bU X sc0 N0 l i j f c) sc N C s H n m) ifs tt) (y:∀C s H n m,PE (bU (bU X sc0 N0 l i j f c) sc N C s H n m) elt te)
  (r:∀x,foldedSetIterable iter (bU X sc0 N0 l i j f c).env x=pure x:=by intro _;rfl):PE (bU X sc0 N0 l i j f c) (.ListComp elt [#[tg,iter,ifs,0]] sc pos) (Ig own caps wi g tt te):=by
 have A:aR (relabel sc0 X.env) sc N0 own caps N:=by
  refine#[S.kind,S.uniq,S.nd,S.names,λp u e=>?_,S.qhl];rw[n6]
  rcases S.free p u e with h|h
  ·rw[h];exact .inl rfl
  ·rw[h];simp only[Option.map_some];split
   ·exact .inl rfl
   ·exact .inr rfl
 exact cC (ps:=relabel sc0 X.env) (pN:=N0) rfl rfl A z v w o y r
end
def iW(ns:qx):List PyData:=ns.map PyData.int
theorem yS{K:YZ}{H:Hp}:∀ns:List Int,ud K H (iW ns) (ns.map V.int)
 |[]=>rfl
 |n::ns=>#[_,_,rfl,rfl,yS ns]
theorem lay_ints:∀ns:List Int,PyData.canLayAll0 (iW ns)=true
 |[]=>by simp[iW,PyData.canLayAll0]
 |x::xs=>by
  have:=lay_ints xs;simp[iW] at this;simp[iW,PyData.canLayAll0,PyData.canLay0,this]
theorem Eb:∀xs:List Int,PyData.depthAll (iW xs)<=1
 |[]=>by simp[iW,PyData.depthAll]
 |x::xs=>by
  have:=Eb xs;simp[iW] at this;simp[iW,PyData.depthAll,PyData.depth,this]
theorem Ec:∀a b:List Int,PyData.eqvAll (iW a) (iW b)=decide (a=b)
 |[],[]=>rfl
 |[],y::b=>by simp[iW,PyData.eqvAll]
 |x::a,[]=>by simp[iW,PyData.eqvAll]
 |x::a,y::b=>by
  show(PyData.eqv (.int x) (.int y) && PyData.eqvAll (iW a) (iW b))=_;rw[Ec a b,qou];simp[PyData.eqv]
def qJ(n:Int)(e:Str×Str):Str:=if n=0 then e.1 else e.2
def uJ(n:Int)(e:Str×Str):Str:=if n=0 then e.2 else e.1
def yU:List Int->List (Str×Str)->Nat->List gJ
 |n::ns,e::ps,k=>(k,qJ n e,uJ n e)::yU ns ps (k+1)
 |_,_,_=>[]
theorem qap(fx:sX):∀(ps:QAD)(ns:qx)(k:Nat),(∀i,fx (k+i)=ns[i]?)->ns.length=ps.length->(∀n∈ns,0<=n/\n<=1)->aD fx ps k=yU ns ps k
 |[],ns,k,_,c,_=>by
  have:ns=[]:=qos.mp c;subst this;rfl
 |e::ps,[],k,_,c,_=>by simp at c
 |e::ps,n::ns,k,h,c,f=>by
  have j:=h 0;rw[Nat.add_zero] at j;have o:=f n qng;have ih:=qap fx ps ns (k+1) (λi=>by rw[show k+1+i=k+(i+1) by lia,h (i+1)];simp) (by simpa using c) λm l=>f m (qm_ _ l);rw[aD,yU,ih];unfold gK qJ uJ;rw[j];have:n=0\/n=1:=⋯
  rcases this with rfl|rfl <;> simp
def j8(c:QAH):List Int->List (Str×Str)->Nat
 |n::ns,e::ps=>(if ¬qJ n e∈c/\uJ n e∈c then 1 else 0)+j8 c ns ps
 |_,_=>0
theorem Vj(c:QAH):∀(ns:qx)(ps:QAD)(k:Nat),((yU ns ps k).filter λst=>decide (¬st.2.1∈c/\st.2.2∈c)).length=j8 c ns ps
 |[],_,_=>by simp[yU,j8]
 |n::ns,[],_=>by simp[yU,j8]
 |n::ns,e::ps,k=>by
  rw[yU,j8,List.filter_cons,<- Vj c ns ps (k+1)]
  by_cases h:¬qJ n e∈c/\uJ n e∈c
  ·rw[if_pos h,if_pos (qnE h),qnt];lia
  ·rw[if_neg h,if_neg (by rw[qnM h];simp)];lia
theorem xJ(k:Str):∀{vs:QAE}{ys:QAH},StrsAre vs ys->∀(j:Nat)(e:j<vs.length)(c:j<ys.length),isStrOf k vs[j]=(ys[j] == k)
 |_,_,.cons n t _,0,_,_=>rfl
 |_,_,.cons n t r,j+1,e,c=>xJ k r j (qpC e) (qpC c)
theorem Ed{k:Str}:∀{ys:QAH}{j:Nat},j<ys.idxOf k->∀(c:j<ys.length),(ys[j] == k)=false
 |n::r,0,h,_=>by
  by_cases e:n=k
  ·subst e;simp at h
  ·simpa using e
 |n::r,j+1,h,c=>by
  by_cases e:n=k
  ·subst e;simp at h
  ·have f:(n == k)=false:=by simpa using e
   have i:j<r.idxOf k:=by
    rw[List.idxOf_cons,f] at h;exact qpC h
   exact Ed i (qpC c)
theorem O2:∀{vs:QAE}{ys:QAH},StrsAre vs ys->vs.length=ys.length
 |_,_,.nil=>rfl
 |_,_,.cons _ _ r=>qnH (· + 1) (O2 r)
section
variable {X:Cx}{K:YZ}
def qaq(K:YZ):V->List V->Hp->VK->Prop:=λx e H Q=>∃(l:J9)(c:QAH)(k:Str),x = .ref l/\e=[.str k]/\aV K H l (c.map V.str)/\k∈c/\Q (.int (c.idxOf k:Nat)) H
def qar(T:X.K=K):N7 X "list.index" (qaq K):=by
 subst T;intro p_ s σ H x xs v us Q I C G q;obtain⟨l,e,k,rfl,rfl,N,O,q⟩:=q;obtain⟨u,rfl,E⟩:=G.one;obtain⟨t,rfl⟩:=E;obtain rfl:v=Value.ref l:=C;obtain⟨c,D,J,i⟩:=I.list N;have h:=Ea D;obtain⟨⟨Y,U,A,B⟩,r,z,n,w⟩:=J.isList;simp only at z w;subst z w;have f:=O2 h;have p:e.idxOf k<e.length:=List.idxOf_lt_length_iff.mpr O;have L:e.length<=sizeLine:=by simpa using i
 have hs:sizeLine=2 ^ 24:=rfl;refine call_meets PySem.F.slot_list_index #[_,r,rfl] PySem.F.entry_list_index (PySem.F.args_list_index_2 _ _)
  (SeqAt.list_indexAt l c.toArray n U B (.str k t) (isStrOf k) (e.idxOf k) (by simpa [f] using p) ⋯ ?_ ?_) #[r,λy M=>(eq_isStrOf k t h y (by simpa using M)).at _ _,#[.int _,H,I.tok _,#[_,rfl],q]]
 ·show isStrOf k c[e.idxOf k]=true;rw[xJ k h _ ∅ p];simpa using List.getElem_idxOf p
 ·intro j o m;show isStrOf k c[j]=false;rw[xJ k h j (by simpa using o) ⋯];exact Ed m _
end
def isInt(x:V)(R:Int->Prop):Prop:=match x with|.int i=>R i|_=>False
def isStr(x:V)(R:Str->Prop):Prop:=match x with|.str i=>R i|_=>False
def uK(x:V)(R:Bool->Prop):Prop:=match x with|.bl i=>R i|_=>False
def isRef(x:V)(R:Addr->Prop):Prop:=match x with|.ref i=>R i|_=>False
def W9(x:V)(R:String->Prop):Prop:=match x with|.ty n=>R n|_=>False
def ar0(xs:QA0)(R:Prop):Prop:=match xs with|[]=>R|_=>False
def ar1(xs:QA0)(R:V->Prop):Prop:=match xs with|[x]=>R x|_=>False
def ar2(xs:QA0)(R:V->V->Prop):Prop:=match xs with|[x,y]=>R x y|_=>False
def arH(xs:QA0)(R:V->List V->Prop):Prop:=match xs with|x::r=>R x r|[]=>False
def getSt:St->Nat->(V->Prop)->Prop
 |[],_,_=>False
 |o::_,0,R=>match o with|some v=>R v|none=>False
 |_::σ,n+1,R=>getSt σ n R
@[simp ↓] theorem qj5 (i:Int) R:isInt (.int i) R=R i:=rfl
@[simp ↓] theorem qj6 (i:Str) R:isStr (.str i) R=R i:=rfl
@[simp ↓] theorem qlh (i:Bool) R:uK (.bl i) R=R i:=rfl
@[simp ↓] theorem qj7 (i:J9) R:isRef (.ref i) R=R i:=rfl
@[simp ↓] theorem qli (i:String) R:W9 (.ty i) R=R i:=rfl
@[simp ↓] theorem qmn R:ar0 [] R=R:=rfl
@[simp ↓] theorem qmo x R:ar1 [x] R=R x:=rfl
@[simp ↓] theorem qmp x y R:ar2 [x,y] R=R x y:=rfl
@[simp ↓] theorem qmq x r R:arH (x::r) R=R x r:=rfl
@[simp ↓] theorem qj8 v σ R:getSt (some v::σ) 0 R=R v:=rfl
@[simp ↓] theorem qj9 o σ n R:getSt (o::σ) (n+1) R=getSt σ n R:=rfl
def isInt.out{x:V}{R}(h:isInt x R):∃i,x = .int i/\R i:=by cases x <;> first|exact#[_,rfl,h]|exact h.elim
def isStr.out{x:V}{R}(h:isStr x R):∃i,x = .str i/\R i:=by cases x <;> first|exact#[_,rfl,h]|exact h.elim
def uK.out{x:V}{R}(h:uK x R):∃i,x = .bl i/\R i:=by cases x <;> first|exact#[_,rfl,h]|exact h.elim
def isRef.out{x:V}{R}(h:isRef x R):∃i,x = .ref i/\R i:=by cases x <;> first|exact#[_,rfl,h]|exact h.elim
def W9.out{x:V}{R}(h:W9 x R):∃i,x = .ty i/\R i:=by cases x <;> first|exact#[_,rfl,h]|exact h.elim
def ar0.out{xs:QA0}{R}(h:ar0 xs R):xs=[]/\R:=by cases xs <;> first|exact#[rfl,h]|exact h.elim
def ar1.out{xs:QA0}{R}(h:ar1 xs R):∃x,xs=[x]/\R x:=by
 match xs,h with
 |[x],h=>exact#[x,rfl,h]
def ar2.out{xs:QA0}{R}(h:ar2 xs R):∃x y,xs=[x,y]/\R x y:=by
 match xs,h with
 |[x,y],h=>exact#[x,y,rfl,h]
def arH.out{xs:QA0}{R}(h:arH xs R):∃x r,xs=x::r/\R x r:=by cases xs <;> first|exact#[_,_,rfl,h]|exact h.elim
theorem getSt.out:∀{σ:St}{i:Nat}{R},getSt σ i R->∃v,σ[i]? = some (some v)/\R v
 |[],_,_,h=>h.elim
 |some v::_,0,_,h=>#[v,rfl,h]
 |none::_,0,_,h=>h.elim
 |_::σ,n+1,R,h=>by
  obtain⟨v,e,q⟩:=getSt.out (σ:=σ) (i:=n) h;exact#[v,by simpa using e,q]
section
variable {X:Cx}
def PE.mono{e:rz}{t t':TE}(o:PE X e t)(h:∀{σ H Q},t' σ H Q->t σ H Q):PE X e t':=λc s σ H Q I q=>o c s σ H Q I (h q)
def PS.mono{e:Stmt}{t t':TS}(o:PS X e t)(h:∀{D σ H},t' D σ H->t D σ H):PS X e t':=λc s σ H D I q=>o c s σ H D I (h q)
def fL.mono{e:wZ}{t t':HF}(o:fL X e t)(h:∀{v σ H Q},t' v σ H Q->t v σ H Q):fL X e t':=λc s σ H v u Q I r q=>o c s σ H v u Q I r (h q)
def iD.mono{f:Value->Value->Sem Value}{r c:R2}(o:iD X f r)(h:∀{x y H Q},c x y H Q->r x y H Q):iD X f c:=λl s e H x y v u Q I j i q=>o l s e H x y v u Q I j i (h q)
def UnR.mono{f:Value->Sem Value}{r c:V->Hp->VK->Prop}(o:UnR X f r)(h:∀{x H Q},c x H Q->r x H Q):UnR X f c:=λj s e H x v Q I i q=>o j s e H x v Q I i (h q)
def cJ.mono{f:eH}{r c:QA3}(o:cJ X f r)(h:∀{x H Q},c x H Q->r x H Q):cJ X f c:=λj s e H x v Q I i q=>o j s e H x v Q I i (h q)
def N7.mono{f:String}{r c:QA2}(o:N7 X f r)(h:∀{x y H Q},c x y H Q->r x y H Q):N7 X f c:=λl s e H x y v u Q I j i q=>o l s e H x y v u Q I j i (h q)
def ZK.mono{r c:R2}(o:ZK X r)(h:∀{x y H Q},c x y H Q->r x y H Q):ZK X c:=λa b j s e H x y v u Q I i f q z=>o a b j s e H x y v u Q I i f (h q) z
def SlR.mono{r e:V->Option Int->Option Int->Hp->VK->Prop}(o:SlR X r)(h:∀{x lo c H Q},e x lo c H Q->r x lo c H Q):SlR X e:=λu s f H x v m l lo c n Q I p j z2 i q=>o u s f H x v m l lo c n Q I p j z2 i (h q)
def PIp.mono{e:Operator}{r c:TIp}(o:PIp X e r)(h:∀{x y H Q},c x y H Q->r x y H Q):PIp X e c:=λl s f H x y v u Q I j i q=>o l s f H x y v u Q I j i (h q)
def Wn.mono{r e:Wm}(o:Wn X r)(h:∀{x y z H Q},e x y z H Q->r x y z H Q):Wn X e:=λj s f H m i v l n u Q I a b c q=>o j s f H m i v l n u Q I a b c (h q)
end
def fVar(i:Nat):TE:=λc H Q=>getSt c i λv=>Q v H
@[simp ↓] theorem qlj (i:Nat) σ H Q:fVar i σ H Q=getSt σ i (λv=>Q v H):=rfl
def qfH{i:Nat}{σ H Q}(h:fVar i σ H Q):qco i σ H Q:=getSt.out h
def jk:QAH->List V->St
 |_::N,v::vs=>some v::jk N vs
 |_::N,[]=>none::jk N []
 |[],_=>[]
@[simp ↓] theorem qgT n N v vs:jk (n::N) (v::vs)=some v::jk N vs:=rfl
@[simp ↓] theorem qgU n N:jk (n::N) []=none::jk N []:=rfl
@[simp ↓] theorem qhJ:jk [] []=[]:=rfl
theorem nG:∀(N:QAH)(vs:QA0),vs.length<=N.length->jk N vs=start N vs
 |[],[],_=>rfl
 |[],_::_,h=>by simp at h
 |n::N,[],_=>by
  rw[jk,nG N [] (by simp)];simp[start,qoy]
 |n::N,v::vs,h=>by
  rw[jk,nG N vs (by simpa using h)];simp[start]
def fI0(g:Int->Int->V):R2:=λx y H Q=>isInt x λi=>isInt y λj=>Q (g i j) H
def fI(C:Int->Int->Prop)(g:Int->Int->V):R2:=λx y H Q=>isInt x λi=>isInt y λj=>C i j/\Q (g i j) H
def fU(g:Int->V):V->Hp->VK->Prop:=λx H Q=>isInt x λi=>Q (g i) H
@[simp ↓] theorem qmr g x y H Q:fI0 g x y H Q=(isInt x λi=>isInt y λj=>Q (g i j) H):=rfl
@[simp ↓] theorem qmQ C g x y H Q:fI C g x y H Q=(isInt x λi=>isInt y λj=>C i j/\Q (g i j) H):=rfl
@[simp ↓] theorem qmR g x H Q:fU g x H Q=(isInt x λi=>Q (g i) H):=rfl
def O4{g:Int->Int->V}{x y H Q}(h:fI0 g x y H Q):rI0 g x y H Q:=by
 obtain⟨i,rfl,e⟩:=isInt.out h;obtain⟨j,rfl,c⟩:=isInt.out e;exact#[i,j,rfl,rfl,c]
def qcY{C}{g:Int->Int->V}{x y H Q}(h:fI C g x y H Q):rI C g x y H Q:=by
 obtain⟨i,rfl,e⟩:=isInt.out h;obtain⟨j,rfl,c⟩:=isInt.out e;exact#[i,j,rfl,rfl,c]
def qlk{g:Int->V}{x H Q}(h:fU g x H Q):rU g x H Q:=by
 obtain⟨i,rfl,h⟩:=isInt.out h;exact#[i,rfl,h]
def fEq:R2:=λx y H Q=>match x,y with
 |.int i,.int j=>Q (.bl (decide (i=j))) H
 |.str i,.str j=>Q (.bl (decide (i=j))) H
 |.bl i,.bl j=>Q (.bl (decide (i=j))) H
 |x,y=>Cj x y=true/\Q (.bl (decide (x=y))) H
def fNe:R2:=λx y H Q=>match x,y with
 |.int i,.int j=>∃k,decide (i=j) = !k/\Q (.bl k) H
 |.str i,.str j=>∃k,decide (i=j) = !k/\Q (.bl k) H
 |.bl i,.bl j=>∃k,decide (i=j) = !k/\Q (.bl k) H
 |x,y=>Cj x y=true/\∃k,decide (x=y) = !k/\Q (.bl k) H
@[simp ↓] theorem qms i j H Q:fEq (.int i) (.int j) H Q=Q (.bl (decide (i=j))) H:=rfl
@[simp ↓] theorem qmt i j H Q:fEq (.str i) (.str j) H Q=Q (.bl (decide (i=j))) H:=rfl
@[simp ↓] theorem qmu i j H Q:fEq (.bl i) (.bl j) H Q=Q (.bl (decide (i=j))) H:=rfl
@[simp ↓] theorem qmv i j H Q:fNe (.int i) (.int j) H Q=∃k,decide (i=j) = !k/\Q (.bl k) H:=rfl
@[simp ↓] theorem qmw i j H Q:fNe (.str i) (.str j) H Q=∃k,decide (i=j) = !k/\Q (.bl k) H:=rfl
@[simp ↓] theorem qmx i j H Q:fNe (.bl i) (.bl j) H Q=∃k,decide (i=j) = !k/\Q (.bl k) H:=rfl
def Af{b:Bool}{R:Bool->Prop}(h:∃k,b = !k/\R k):R (!b):=by
 obtain⟨k,e,q⟩:=h;rw[e,Bool.not_not];exact q
def qhK{x y H Q}(h:fEq x y H Q):rEq x y H Q:=by
 unfold fEq at h;split at h
 ·exact#[rfl,by simpa using h]
 ·exact#[rfl,by simpa using h]
 ·exact#[rfl,by simpa using h]
 ·exact h
def qhL{x y H Q}(h:fNe x y H Q):rNe x y H Q:=by
 unfold fNe at h;split at h
 ·exact#[rfl,by simpa using Af (R:=λk=>Q (.bl k) H) h]
 ·exact#[rfl,by simpa using Af (R:=λk=>Q (.bl k) H) h]
 ·exact#[rfl,by simpa using Af (R:=λk=>Q (.bl k) H) h]
 ·exact#[h.1,Af (R:=λk=>Q (.bl k) H) h.2]
def qas:R2:=λx y H Q=>isStr x λi=>isStr y λj=>i.length+j.length<=sizeLine/\Q (.str (i++j)) H
@[simp ↓] theorem qj_ x y H Q:qas x y H Q=(isStr x λi=>isStr y λj=>i.length+j.length<=sizeLine/\Q (.str (i++j)) H):=rfl
def qcZ{x y H Q}(h:qas x y H Q):qhp x y H Q:=by
 obtain⟨i,rfl,e⟩:=isStr.out h;obtain⟨j,rfl,c⟩:=isStr.out e;exact#[i,j,rfl,rfl,c]
def qfI:R2:=λx y H Q=>isRef x λl=>isRef y λb=>∃e,H l=some (.lst e)/\∃c,H b=some (.lst c)/\e.length+c.length<=sizeLine/\∀p,H p=none->Q (.ref p) (upd H p (.lst (e++c)))
@[simp ↓] theorem qll x y H Q:qfI x y H Q=(isRef x λl=>isRef y λb=>∃xs,H l=some (.lst xs)/\∃zs,H b=some (.lst zs)/\xs.length+zs.length<=sizeLine/\∀p,H p=none->Q (.ref p) (upd H p (.lst (xs++zs)))):=rfl
def qfJ{x y H Q}(h:qfI x y H Q):qhj x y H Q:=by
 obtain⟨i,rfl,n⟩:=isRef.out h;obtain⟨j,rfl,e,m,c,l,f⟩:=isRef.out n;exact#[i,j,e,c,rfl,rfl,m,l,f]
def qhM:R2:=λx y H Q=>isRef x λl=>isInt y λk=>∃c,H l=some (.lst c)/\-(2 ^ 63)<=k/\k<2 ^ 63/\c.length * k.toNat<=sizeLine/\∀p,H p=none->Q (.ref p) (upd H p (.lst (List.replicate k.toNat c).flatten))
def uL(t:TE):TT:=λc H Q=>t c H λx e=>uK x λk=>Q k e
@[simp ↓] theorem qka (t:TE) σ H Q:uL t σ H Q=(t σ H λx c=>uK x λk=>Q k c):=rfl
def qat(f:TE):TE:=λe H Q=>f e H λx h=>uK x λc=>Q (.bl (!c)) h
@[simp ↓] theorem qkb (e:TE) σ H Q:qat e σ H Q=(e σ H λx f=>uK x λc=>Q (.bl (!c)) f):=rfl
def qau(h tb:TE):TE:=λe H Q=>h e H λx f=>uK x λc=>cZ c (tb e f Q) (Q (.bl false) f) #[0]
@[simp ↓] theorem qkc (e tb:TE) σ H Q:qau e tb σ H Q=(e σ H λx f=>uK x λc=>cZ c (tb σ f Q) (Q (.bl false) f) #[0]):=rfl
def KY(r j:R2)(i tb h:TE):TE:=λc H Q=>i c H λx n=>tb c n λy m=>r x y m λz e=>uK z λk=>cZ k (h c e λf l=>j y f l Q) (Q (.bl false) e) #[0]
@[simp ↓] theorem qhN (r f:R2)(e tb c:TE) σ H Q:KY r f e tb c σ H Q=(e σ H λx m=>tb σ m λy l=>r x y l λz h=>uK z λk=>cZ k (c σ h λi j=>f y i j Q) (Q (.bl false) h) #[0]):=rfl
section
variable {X:Cx}{K:YZ}{a b c:rz}{ta tb tc:TE}{tA:TT}{pos:Pos}
def aJ(i:Nat){x:Str}{pos:Pos}(j:X.N[i]? = some x:=by rfl)(f:Vis X.env.scope x:=by first|exact Or.inl rfl|exact Or.inr (Or.inl rfl)|exact Or.inr (Or.inr rfl)) (h:(x == ("__debug__" : Str))=false:=by decide)
  (e:(x == ("__classdict__" : Str))=false:=by decide):PE X (.Name x pos) (fVar i):=(Y8 j f h e).mono qfH
def jM:iD X (binaryOp .Add) (fI0 λi j=>.int (i+j)):=qe4.mono O4
def yV:iD X (binaryOp .Sub) (fI0 λi j=>.int (i - j)):=qe5.mono O4
def uM:iD X (compareOp .Lt) (fI0 λi j=>.bl (decide (i<j))):=qhc.mono O4
def Ag:iD X (compareOp .LtE) (fI0 λi j=>.bl (decide (i<=j))):=qhd.mono O4
def uN:iD X (compareOp .Gt) (fI0 λi j=>.bl (decide (j<i))):=qhe.mono O4
def gY:iD X (compareOp .Eq) fEq:=qha.mono qhK
def jN:iD X (compareOp .NotEq) fNe:=qhb.mono qhL
def O5:iD X (binaryOp .Add) qas:=Ro.mono qcZ
def vM:iD X (binaryOp .Add) qfI:=qfk.mono qfJ
def qc0:UnR X (unaryOp .USub) (fU λi=>.int (-i)):=qe9.mono qlk
def yW(x:V)(R:Bool->Prop):uK x R=(∃k,x = .bl k/\R k):=propext #[uK.out,λ⟨k,e,q⟩=>by subst e;exact q]
def qav(x:V)(R:Int->Prop):isInt x R=(∃k,x = .int k/\R k):=propext #[isInt.out,λ⟨k,e,q⟩=>by subst e;exact q]
def O6(x:V)(R:Addr->Prop):isRef x R=(∃k,x = .ref k/\R k):=propext #[isRef.out,λ⟨k,e,q⟩=>by subst e;exact q]
def qaw(x:V)(R:Str->Prop):isStr x R=(∃k,x = .str k/\R k):=propext #[isStr.out,λ⟨k,e,q⟩=>by subst e;exact q]
def qfK(x:QA0)(R:V->List V->Prop):arH x R=(∃k j,x=k::j/\R k j):=propext #[arH.out,λ⟨k,j,e,q⟩=>by subst e;exact q]
def O7(t:TE):uL t=U9 t:=by
 funext σ H Q
 exact qnH (t σ H) (funext λx=>funext λe=>yW _ _)
def qeb(t:TE):uL t=tB t:=by
 funext σ H Q
 exact qnH (t σ H) (funext λx=>funext λe=>yW _ _)
def qax(t:TE):qat t=Y_ t:=by
 funext σ H Q
 exact qnH (t σ H) (funext λx=>funext λe=>yW _ _)
def qay(t u:TE):qau t u=Y9 t u:=by
 funext σ H Q
 exact qnH (t σ H) (funext λx=>funext λe=>yW _ _)
def Iw(r e:R2)(ta tb tc:TE):KY r e ta tb tc=JW r e ta tb tc:=by
 funext σ H Q
 exact qnH (ta σ H) (funext λx=>funext λh=>qnH (tb σ h) (funext λy=>funext λf=>qnH (r x y f) (funext λz=>funext λi=>yW _ _)))
def aQ{e:CmpOp}{r:R2}(f:iD X (compareOp e) r)(j:PE X a ta)(i:PE X b tb)(h:behindInMarks e b=false):PT X (.Compare a [e] [b] pos) (uL (tOp r ta tb)):=O7 _▸qcu f j i h
def Vk{e:CmpOp}{t:TE}(h:PC X e a b t)(f:behindInMarks e b=false:=by first|exact Ny _ (by decide) (by decide)|rfl):PT X (.Compare a [e] [b] pos) (uL t):=qeb _▸qeR h f
def bW{e:rz}{t:TE}(h:PE X e t)(i:∀f,isTrue e X.env f=(do let v <- f;standAt e.pos;holding [v] (truthy v)):=by intro _;rfl):PT X e (uL t):=qeb _▸qeS h i
def Ah{f e:CmpOp}{r i:R2}(j:iD X (compareOp f) r)(h:iD X (compareOp e) i)(o:PE X a ta)(n:PE X b tb)(m:PE X c tc)
  (l:lastMarks [f,e] [b,c]=false:=by with_unfolding_all rfl):PE X (.Compare a [f,e] [b,c] pos) (KY r i ta tb tc):=Iw _ _ _ _ _▸Zq j h o n m l
def Iz{f e:CmpOp}{r i:R2}(j:iD X (compareOp f) r)(h:iD X (compareOp e) i)(o:PE X a ta)(n:PE X b tb)(m:PE X c tc)
  (l:lastMarks [f,e] [b,c]=false:=by with_unfolding_all rfl):PT X (.Compare a [f,e] [b,c] pos) (uL (KY r i ta tb tc)):=by
 rw[O7,Iw];exact Zr j h o n m l
def Vl(e:PE X a ta):PE X (.UnaryOp .Not a pos) (qat ta):=qax _▸qeV e
def k_{rest:wZ}(f:PE X a ta)(e:PE X (.BoolOp .And (b::rest) pos) tb):PE X (.BoolOp .And (a::b::rest) pos) (qau ta tb):=qay _ _▸qeU f e
end
def qfL(K:YZ):R2:=λx y H Q=>isRef x λp=>isInt y λi=>∃c,(aV K H p c\/cO K H p c)/\∃v,Cm c i=some v/\Q v H
@[simp ↓] theorem qlm (K:YZ) x y H Q:qfL K x y H Q=(isRef x λp=>isInt y λi=>∃xs,(aV K H p xs\/cO K H p xs)/\∃v,Cm xs i=some v/\Q v H):=rfl
def qfM{K:YZ}{x y H Q}(h:qfL K x y H Q):qft K x y H Q:=by
 obtain⟨p,rfl,l⟩:=isRef.out h;obtain⟨i,rfl,c,j,v,f,e⟩:=isInt.out l;exact#[p,c,i,v,rfl,rfl,j,f,e]
def qfN  : R2:=λx y H Q=>isStr x λz=>isInt y λi=>z.length<=sizeLine/\∃c,Cm z.cps.toList i=some c/\Q (.str #[[c].toArray]) H
@[simp ↓] theorem qln  x y H Q:qfN x y H Q=(isStr x λz=>isInt y λi=>z.length<=sizeLine/\∃c,Cm z.cps.toList i=some c/\Q (.str #[[c].toArray]) H):=rfl
def qfO  {x y H Q} (h:qfN x y H Q):qhh x y H Q:=by
 obtain⟨z,rfl,l⟩:=isStr.out h;obtain⟨i,rfl,j,c,f,e⟩:=isInt.out l;exact#[z,i,c,rfl,rfl,j,f,e]
def O8(K:YZ):List V->Hp->VK->Prop:=λe H Q=>ar1 e λx=>isRef x λp=>∃c,(aV K H p c\/cO K H p c)/\Q (.int c.length) H
@[simp ↓] theorem qkd (K:YZ) xs H Q:O8 K xs H Q=(ar1 xs λx=>isRef x λp=>∃ys,(aV K H p ys\/cO K H p ys)/\Q (.int ys.length) H):=rfl
def qc1{K:YZ}{xs H Q}(h:O8 K xs H Q):qd2 K xs H Q:=by
 obtain⟨x,rfl,i⟩:=ar1.out h;obtain⟨p,rfl,c,f,e⟩:=isRef.out i;exact#[p,c,rfl,f,e]
def qaz  : List V->Hp->VK->Prop:=λc H Q=>ar1 c λx=>isStr x λz=>z.length<=sizeLine/\Q (.int z.length) H
@[simp ↓] theorem qke  xs H Q:qaz xs H Q=(ar1 xs λx=>isStr x λz=>z.length<=sizeLine/\Q (.int z.length) H):=rfl
def qc2  {xs H Q} (h:qaz xs H Q):qd3 xs H Q:=by
 obtain⟨x,rfl,e⟩:=ar1.out h;obtain⟨p,rfl,c⟩:=isStr.out e;exact#[p,rfl,c]
def KZ(K:YZ):List V->Hp->VK->Prop:=λe H Q=>ar1 e λx=>isRef x λp=>∃c,(aV K H p c\/cO K H p c)/\∀l,H l=none->Q (.ref l) (upd H l (.lst c))
@[simp ↓] theorem qgV (K:YZ) xs H Q:KZ K xs H Q=(ar1 xs λx=>isRef x λp=>∃ys,(aV K H p ys\/cO K H p ys)/\∀l,H l=none->Q (.ref l) (upd H l (.lst ys))):=rfl
def W_{K:YZ}{xs H Q}(h:KZ K xs H Q):Vd K xs H Q:=by
 obtain⟨x,rfl,i⟩:=ar1.out h;obtain⟨p,rfl,c,f,e⟩:=isRef.out i;exact#[p,c,rfl,f,e]
def K1  : List V->Hp->VK->Prop:=λf H Q=>ar1 f λx=>isRef x λp=>∃e,Sq H p e/\∀l c,c l=some (.tup e)->Same H c->Q (.ref l) c
@[simp ↓] theorem qgW  xs H Q:K1 xs H Q=(ar1 xs λx=>isRef x λp=>∃ys,Sq H p ys/\∀l c,c l=some (.tup ys)->Same H c->Q (.ref l) c):=rfl
def Xa  {xs H Q} (h:K1 xs H Q):Ve xs H Q:=by
 obtain⟨x,rfl,i⟩:=ar1.out h;obtain⟨p,rfl,c,f,e⟩:=isRef.out i;exact#[p,c,rfl,f,e]
def qaA(K:YZ):List V->Hp->VK->Prop:=λc H Q=>ar2 c λx y=>W9 y λn=>∃t,mD K H x t/\∃b,W.kitOne K t (.type n)=some b/\Q (.bl b) H
@[simp ↓] theorem qkf (K:YZ) xs H Q:qaA K xs H Q=(ar2 xs λx y=>W9 y λn=>∃t,mD K H x t/\∃b,W.kitOne K t (.type n)=some b/\Q (.bl b) H):=rfl
def qc3{K:YZ}{xs H Q}(h:qaA K xs H Q):qd4 K xs H Q:=by
 obtain⟨x,y,rfl,i⟩:=ar2.out h;obtain⟨n,rfl,t,f,b,e,c⟩:=W9.out i;exact#[x,n,t,b,rfl,f,e,c]
def qaB(K:YZ):List V->Hp->VK->Prop:=λc H Q=>ar2 c λx y=>isRef y λp=>∃m n,H p=some (.tup [.ty m,.ty n])/\∃t,mD K H x t/\∃b,W.kitAny K t [.type m,.type n]=some b/\Q (.bl b) H
@[simp ↓] theorem qkg (K:YZ) xs H Q:qaB K xs H Q=(ar2 xs λx y=>isRef y λp=>∃m n,H p=some (.tup [.ty m,.ty n])/\∃t,mD K H x t/\∃b,W.kitAny K t [.type m,.type n]=some b/\Q (.bl b) H):=rfl
def qc4{K:YZ}{xs H Q}(h:qaB K xs H Q):qd5 K xs H Q:=by
 obtain⟨x,y,rfl,i⟩:=ar2.out h;obtain⟨p,rfl,m,n,j,t,f,b,e,c⟩:=isRef.out i;exact#[x,p,m,n,t,b,rfl,j,f,e,c]
def fIn(K:YZ):R2:=λx y H Q=>isRef y λp=>∃c,(aV K H p c\/cO K H p c)/\jx x=true/\(∀z∈c,jx z=true)/\Q (.bl (inV x c)) H
@[simp ↓] theorem qmy (K:YZ) x y H Q:fIn K x y H Q=(isRef y λp=>∃xs,(aV K H p xs\/cO K H p xs)/\jx x=true/\(∀z∈xs,jx z=true)/\Q (.bl (inV x xs)) H):=rfl
def qhO{K:YZ}{x y H Q}(h:fIn K x y H Q):qcJ K x y H Q:=by
 obtain⟨p,rfl,c,j,i,f,e⟩:=isRef.out h;exact .inl #[p,c,rfl,j,i,qnk.mpr f,e]
def R4(K:YZ):R2:=λx y H Q=>isRef y λp=>∃c,(aV K H p c\/cO K H p c)/\jx x=true/\(∀z∈c,jx z=true)/\∃k,inV x c = !k/\Q (.bl k) H
@[simp ↓] theorem qhP (K:YZ) x y H Q:R4 K x y H Q=(isRef y λp=>∃xs,(aV K H p xs\/cO K H p xs)/\jx x=true/\(∀z∈xs,jx z=true)/\∃k,inV x xs = !k/\Q (.bl k) H):=rfl
def qaC{K:YZ}{x y H Q}(h:R4 K x y H Q):Ko K x y H Q:=by
 obtain⟨p,rfl,c,j,i,f,e⟩:=isRef.out h;exact .inl #[p,c,rfl,j,i,qnk.mpr f,Af (R:=λk=>Q (.bl k) H) e]
def qfP(K:YZ):R2:=λx y H Q=>isStr x λi=>isStr y λj=>Q (.bl (!(Builtin.Str.occurrences j i 0 j.length 1).isEmpty)) H
@[simp ↓] theorem qlo (K:YZ) x y H Q:qfP K x y H Q=(isStr x λi=>isStr y λj=>Q (.bl (!(Builtin.Str.occurrences j i 0 j.length 1).isEmpty)) H):=rfl
def qfQ{K:YZ}{x y H Q}(h:qfP K x y H Q):qcJ K x y H Q:=by
 obtain⟨i,rfl,e⟩:=isStr.out h;obtain⟨j,rfl,c⟩:=isStr.out e;exact .inr #[i,j,rfl,rfl,c]
def K3  : V->List V->Hp->VK->Prop:=λx e H Q=>isRef x λl=>ar1 e λy=>∃c,H l=some (.lst c)/\c.length<sizeLine/\Q .non (upd H l (.lst (c++[y])))
@[simp ↓] theorem qgX  x vs H Q:K3 x vs H Q=(isRef x λl=>ar1 vs λy=>∃xs,H l=some (.lst xs)/\xs.length<sizeLine/\Q .non (upd H l (.lst (xs++[y])))):=rfl
def Xb  {x vs H Q} (h:K3 x vs H Q):Ke x vs H Q:=by
 obtain⟨l,rfl,i⟩:=isRef.out h;obtain⟨y,rfl,c,f,e⟩:=ar1.out i;exact#[l,c,y,rfl,rfl,f,e]
def K4  : V->List V->Hp->VK->Prop:=λx e H Q=>isRef x λl=>ar2 e λj y=>isInt j λi=>∃c,H l=some (.lst c)/\0<=i/\i<=c.length/\c.length<sizeLine/\Q .non (upd H l (.lst (c.take i.toNat++y::c.drop i.toNat)))
@[simp ↓] theorem qgY  x vs H Q:K4 x vs H Q=(isRef x λl=>ar2 vs λj y=>isInt j λi=>∃xs,H l=some (.lst xs)/\0<=i/\i<=xs.length/\xs.length<sizeLine/\Q .non (upd H l (.lst (xs.take i.toNat++y::xs.drop i.toNat)))):=rfl
def Xc  {x vs H Q} (h:K4 x vs H Q):Kg x vs H Q:=by
 obtain⟨l,rfl,m⟩:=isRef.out h;obtain⟨j,y,rfl,f⟩:=ar2.out m;obtain⟨i,rfl,c,e⟩:=isInt.out f;exact#[l,c,i,y,rfl,rfl,e]
def K5  : V->List V->Hp->VK->Prop:=λx e H Q=>isRef x λl=>ar0 e (∃c,H l=some (.lst c)/\Q .non (upd H l (.lst [])))
@[simp ↓] theorem qhQ  x vs H Q:K5 x vs H Q=(isRef x λl=>ar0 vs (∃xs,H l=some (.lst xs)/\Q .non (upd H l (.lst [])))):=rfl
def qaD  {x vs H Q} (h:K5 x vs H Q):Ry x vs H Q:=by
 obtain⟨l,rfl,f⟩:=isRef.out h;obtain⟨rfl,c,e⟩:=ar0.out f;exact#[l,c,rfl,rfl,e]
def qaE  : V->List V->Hp->VK->Prop:=λx f H Q=>isStr x λc=>ar1 f λy=>isRef y λl=>∃e:QAH,H l=some (.lst (e.map V.str))/\(e.map (·.length)).sum+e.length * c.length<=16777216/\Q (.str (Txt.join c e)) H
@[simp ↓] theorem qkh  x vs H Q:qaE x vs H Q=(isStr x λc=>ar1 vs λy=>isRef y λl=>∃ys:QAH,H l=some (.lst (ys.map V.str))/\(ys.map (·.length)).sum+ys.length * c.length<=16777216/\Q (.str (Txt.join c ys)) H):=rfl
def qc5  {x vs H Q} (h:qaE x vs H Q):rJoin x vs H Q:=by
 obtain⟨c,rfl,j⟩:=isStr.out h;obtain⟨y,rfl,i⟩:=ar1.out j;obtain⟨l,rfl,e,f⟩:=isRef.out i;exact#[c,l,e,rfl,rfl,f]
def R5(K:YZ):V->List V->Hp->VK->Prop:=λx e H Q=>isRef x λl=>ar1 e λy=>isStr y λk=>∃c:QAH,aV K H l (c.map V.str)/\k∈c/\Q (.int (c.idxOf k:Nat)) H
@[simp ↓] theorem qhR (K:YZ) x vs H Q:R5 K x vs H Q=(isRef x λl=>ar1 vs λy=>isStr y λk=>∃ys:QAH,aV K H l (ys.map V.str)/\k∈ys/\Q (.int (ys.idxOf k:Nat)) H):=rfl
def qaF{K:YZ}{x vs H Q}(h:R5 K x vs H Q):qaq K x vs H Q:=by
 obtain⟨l,rfl,i⟩:=isRef.out h;obtain⟨y,rfl,f⟩:=ar1.out i;obtain⟨k,rfl,c,e⟩:=isStr.out f;exact#[l,c,k,rfl,rfl,e]
def qfR(K:YZ):R2:=λx y H Q=>∃d,Is K H d x/\∃e,Is K H e y/\d.canLay0=true/\e.canLay0=true/\d.depth<=64/\∃k,PyData.eqv d e = !k/\Q (.bl k) H
@[simp ↓] theorem qlp (K:YZ) x y H Q:qfR K x y H Q=(∃d,Is K H d x/\∃e,Is K H e y/\d.canLay0=true/\e.canLay0=true/\d.depth<=64/\∃k,PyData.eqv d e = !k/\Q (.bl k) H):=rfl
def qfS{K:YZ}{x y H Q}(h:qfR K x y H Q):qhC K x y H Q:=by
 obtain⟨d,m,e,l,j,i,f,c⟩:=h;exact#[d,e,m,l,j,i,f,Af (R:=λk=>Q (.bl k) H) c]
def qfT(K:YZ):R2:=λx y H Q=>∃d,Is K H d x/\∃e,Is K H e y/\d.canLay0=true/\e.canLay0=true/\d.depth<=64/\Q (.bl (PyData.eqv d e)) H
@[simp ↓] theorem qlq (K:YZ) x y H Q:qfT K x y H Q=(∃d,Is K H d x/\∃e,Is K H e y/\d.canLay0=true/\e.canLay0=true/\d.depth<=64/\Q (.bl (PyData.eqv d e)) H):=rfl
def qfU{K:YZ}{x y H Q}(h:qfT K x y H Q):qhB K x y H Q:=by
 obtain⟨d,m,e,l,j,i,f,c⟩:=h;exact#[d,e,m,l,j,i,f,c]
def qfV  : List V->Hp->VK->Prop:=λc H Q=>ar1 c λx=>isInt x λi=>Q (.int (if i<0 then -i else i)) H
@[simp ↓] theorem qlr  xs H Q:qfV xs H Q=(ar1 xs λx=>isInt x λi=>Q (.int (if i<0 then -i else i)) H):=rfl
def qfW  {xs H Q} (h:qfV xs H Q):(λxs H Q=>∃i,xs=[.int i]/\Q (.int (if i<0 then -i else i)) H:QA3) xs H Q:=by
 obtain⟨x,rfl,e⟩:=ar1.out h;obtain⟨i,rfl,c⟩:=isInt.out e;exact#[i,rfl,c]
def qaG  : List V->Hp->VK->Prop:=λc H Q=>ar2 c λx y=>isInt x λi=>isInt y λj=>Q (.int (if j > i then j else i)) H
@[simp ↓] theorem qki  xs H Q:qaG xs H Q=(ar2 xs λx y=>isInt x λi=>isInt y λj=>Q (.int (if j > i then j else i)) H):=rfl
def qc6  {xs H Q} (h:qaG xs H Q):(λxs H Q=>∃i j,xs=[.int i,.int j]/\Q (.int (if j > i then j else i)) H:QA3) xs H Q:=by
 obtain⟨x,y,rfl,f⟩:=ar2.out h;obtain⟨i,rfl,e⟩:=isInt.out f;obtain⟨j,rfl,c⟩:=isInt.out e;exact#[i,j,rfl,c]
def qaH  : List V->Hp->VK->Prop:=λc H Q=>ar2 c λx y=>isInt x λi=>isInt y λj=>Q (.int (if j<i then j else i)) H
@[simp ↓] theorem qkj  xs H Q:qaH xs H Q=(ar2 xs λx y=>isInt x λi=>isInt y λj=>Q (.int (if j<i then j else i)) H):=rfl
def qc7  {xs H Q} (h:qaH xs H Q):(λxs H Q=>∃i j,xs=[.int i,.int j]/\Q (.int (if j<i then j else i)) H:QA3) xs H Q:=by
 obtain⟨x,y,rfl,f⟩:=ar2.out h;obtain⟨i,rfl,e⟩:=isInt.out f;obtain⟨j,rfl,c⟩:=isInt.out e;exact#[i,j,rfl,c]
def K6  : List V->Hp->VK->Prop:=λc H Q=>ar2 c λx y=>isInt x λi=>isInt y λj=>Ws i j/\∀p,H p=none->Q (.ref p) (upd H p (.tup [.int (i / j),.int (i % j)]))
@[simp ↓] theorem qgZ  xs H Q:K6 xs H Q=(ar2 xs λx y=>isInt x λi=>isInt y λj=>Ws i j/\∀p,H p=none->Q (.ref p) (upd H p (.tup [.int (i / j),.int (i % j)]))):=rfl
def Xd  {xs H Q} (h:K6 xs H Q):(λxs H Q=>∃i j,xs=[.int i,.int j]/\Ws i j/\∀p,H p=none->Q (.ref p) (upd H p (.tup [.int (i / j),.int (i % j)])):List V->Hp->VK->Prop) xs H Q:=by
 obtain⟨x,y,rfl,f⟩:=ar2.out h;obtain⟨i,rfl,e⟩:=isInt.out f;obtain⟨j,rfl,c⟩:=isInt.out e;exact#[i,j,rfl,c]
def qaI  : List V->Hp->VK->Prop:=λe H Q=>ar1 e λx=>isRef x λa=>∃c,H a=some (.lst c)/\∃bs,pH c bs/\Q (.bl (bs.all id)) H
@[simp ↓] theorem qls  xs H Q:qaI xs H Q=(ar1 xs λx=>isRef x λa=>∃ys,H a=some (.lst ys)/\∃bs,pH ys bs/\Q (.bl (bs.all id)) H):=rfl
def qaJ  {xs H Q} (h:qaI xs H Q):(λxs H Q=>∃a ys bs,xs=[.ref a]/\H a=some (.lst ys)/\pH ys bs/\Q (.bl (bs.all id)) H:QA3) xs H Q:=by
 obtain⟨x,rfl,i⟩:=ar1.out h;obtain⟨a,rfl,ys,f,bs,e,c⟩:=isRef.out i;exact#[a,ys,bs,rfl,f,e,c]
def qfX  : List V->Hp->VK->Prop:=λe H Q=>ar1 e λx=>isRef x λa=>∃c,H a=some (.lst c)/\∃bs,pH c bs/\Q (.bl (bs.any id)) H
@[simp ↓] theorem qlu  xs H Q:qfX xs H Q=(ar1 xs λx=>isRef x λa=>∃ys,H a=some (.lst ys)/\∃bs,pH ys bs/\Q (.bl (bs.any id)) H):=rfl
def qfY  {xs H Q} (h:qfX xs H Q):qd9 xs H Q:=by
 obtain⟨x,rfl,j⟩:=ar1.out h;obtain⟨a,rfl,c,i,bs,f,e⟩:=isRef.out j;exact#[a,c,bs,rfl,i,f,e]
def Vm:List V->Hp->VK->Prop:=λc H Q=>ar1 c λx=>match x with|.int i=>Q (.int i) H|.bl k=>Q (.int (if k=true then 1 else 0)) H|_=>False
@[simp ↓] theorem qkk i H Q:Vm [.int i] H Q=Q (.int i) H:=rfl
@[simp ↓] theorem qkl k H Q:Vm [.bl k] H Q=Q (.int (if k=true then 1 else 0)) H:=rfl
def qc8{xs H Q}(h:Vm xs H Q):(λxs H Q=>(∃i,xs=[.int i]/\Q (.int i) H)\/∃k,xs=[.bl k]/\Q (.int (if k then 1 else 0)) H:QA3) xs H Q:=by
 obtain⟨x,rfl,c⟩:=ar1.out h;cases x with
 |int i=>exact .inl #[i,rfl,c]
 |bl k=>exact .inr #[k,rfl,c]
 |_=>exact c.elim
def qaK:Wm:=λo i v H Q=>isRef o λp=>isInt i λk=>∃c,H p=some (.lst c)/\∃j,ZJ c.length k=some j/\Q (upd H p (.lst (c.set j v)))
@[simp ↓] theorem qkm o i v H Q:qaK o i v H Q=(isRef o λp=>isInt i λk=>∃xs,H p=some (.lst xs)/\∃j,ZJ xs.length k=some j/\Q (upd H p (.lst (xs.set j v)))):=rfl
def qc9{o i v H Q}(h:qaK o i v H Q):qd1 o i v H Q:=by
 obtain⟨p,rfl,m⟩:=isRef.out h;obtain⟨k,rfl,c,l,j,f,e⟩:=isInt.out m;exact#[p,c,k,j,rfl,rfl,l,f,e]
def qfZ(K:YZ):V->Option Int->Option Int->Hp->VK->Prop:=λx lo e H Q=>isRef x λa=>∃c,aV K H a c/\∀p,H p=none->Q (.ref p) (upd H p (.lst (wC c lo e)))
@[simp ↓] theorem qlv (K:YZ) x lo c H Q:qfZ K x lo c H Q=(isRef x λa=>∃xs,aV K H a xs/\∀p,H p=none->Q (.ref p) (upd H p (.lst (wC xs lo c)))):=rfl
def qf0{K:YZ}{x lo c H Q}(h:qfZ K x lo c H Q):qcB K x lo c H Q:=by
 obtain⟨a,rfl,e,f⟩:=isRef.out h;exact#[a,e,rfl,f]
def qhS:HF:=λe c H Q=>ar0 e (Q c H)
def qec(t:TG)(u:HF):HF:=λf e H Q=>arH f λv r=>t v e H λc h=>u r c h Q
def qc_(K:YZ)(n:Nat)(t:HF):TG:=λv e H Q=>isRef v λa=>∃c,cO K H a c/\c.length=n/\t c e H Q
@[simp ↓] theorem qlw vs σ H Q:qhS vs σ H Q=ar0 vs (Q σ H):=rfl
@[simp ↓] theorem qkn t u vs σ H Q:qec t u vs σ H Q=(arH vs λv r=>t v σ H λc e=>u r c e Q):=rfl
@[simp ↓] theorem qlx K n t v σ H Q:qc_ K n t v σ H Q=(isRef v λa=>∃xs,cO K H a xs/\xs.length=n/\t xs σ H Q):=rfl
def dJ{vs σ H Q}(h:qhS vs σ H Q):qeX vs σ H Q:=ar0.out h
def aZ(t:TG)(u:HF):qec t u=Zf t u:=by
 funext vs c H Q
 exact qfK _ _
def dj(K:YZ)(n:Nat)(t:HF):qc_ K n t=qcq K n t:=by
 funext v i H Q
 refine propext #[λh=>?_,λ⟨a,c,e,h⟩=>by subst e;exact#[c,h]];obtain⟨a,rfl,c,f⟩:=isRef.out h;exact#[a,c,rfl,f]
def qf1(f:Int->Int->Int):TIp:=λx y H Q=>isInt x λi=>isInt y λj=>Q (.int (f i j)) H
@[simp ↓] theorem qly f x y H Q:qf1 f x y H Q=(isInt x λi=>isInt y λj=>Q (.int (f i j)) H):=rfl
def qf2{f:Int->Int->Int}{x y H Q}(h:qf1 f x y H Q):ipI f x y H Q:=by
 obtain⟨i,rfl,e⟩:=isInt.out h;obtain⟨j,rfl,c⟩:=isInt.out e;exact#[i,j,rfl,rfl,c]
def qhT(i:Nat)(f:TE)(e:TIp):TS:=λD c H=>getSt c i λx=>f c H λy j=>e x y j λz h=>D.nx (c.set i (some z)) h
@[simp ↓] theorem qlz i e c D σ H:qhT i e c D σ H=(getSt σ i λx=>e σ H λy h=>c x y h λz f=>D.nx (σ.set i (some z)) f):=rfl
def qaL{i:Nat}{e:TE}{c:TIp}{D σ H}(h:qhT i e c D σ H):qeZ i e c D σ H:=getSt.out h
def qaM(K:YZ)(h:TE):TI:=λe H R=>h e H λx c=>isRef x λa=>(∃f,aV K c a f)/\R (Rk K a) c
def qee(K:YZ)(h:TE):TI:=λe H R=>h e H λx c=>isRef x λp=>∃b,(∃f,SqB b K c p f)/\R (Itq b K p) c
def qef(e:TE):TI:=λc H R=>e c H λx f=>isStr x λz=>R (Its z) f
def qaN(f:TA):TI:=λc H R=>f c H λe h=>ar1 e λv=>isInt v λj=>-(2 ^ 62)<=j/\j<2 ^ 62/\R (Ra 0 j.toNat) h
def qaO(f:TA):TI:=λc H R=>f c H λe h=>ar2 e λv w=>isInt v λi=>isInt w λj=>(-(2 ^ 62)<=i/\i<2 ^ 62/\-(2 ^ 62)<=j/\j<2 ^ 62)/\R (Ra i (j - i).toNat) h
def qeg(K:YZ)(t:TA):TI:=λe H R=>t e H λi c=>ar2 i λx y=>isRef x λa=>isRef y λb=>(∃h,aV K c a h)/\(∃f,aV K c b f)/\R (WQ K a b) c
def qaP(K:YZ)(t:TA):TI:=λe H R=>t e H λh c=>ar1 h λx=>isRef x λa=>(∃f,aV K c a f)/\R (Ite K a) c
@[simp ↓] theorem qhU K c σ H R:qaM K c σ H R=(c σ H λx e=>isRef x λa=>(∃xs,aV K e a xs)/\R (Rk K a) e):=rfl
@[simp ↓] theorem qko K c σ H R:qee K c σ H R=(c σ H λx e=>isRef x λp=>∃b,(∃xs,SqB b K e p xs)/\R (Itq b K p) e):=rfl
@[simp ↓] theorem qkp c σ H R:qef c σ H R=(c σ H λx e=>isStr x λz=>R (Its z) e):=rfl
@[simp ↓] theorem qhV c σ H R:qaN c σ H R=(c σ H λvs e=>ar1 vs λv=>isInt v λj=>-(2 ^ 62)<=j/\j<2 ^ 62/\R (Ra 0 j.toNat) e):=rfl
@[simp ↓] theorem qhW c σ H R:qaO c σ H R=(c σ H λvs e=>ar2 vs λv w=>isInt v λi=>isInt w λj=>(-(2 ^ 62)<=i/\i<2 ^ 62/\-(2 ^ 62)<=j/\j<2 ^ 62)/\R (Ra i (j - i).toNat) e):=rfl
@[simp ↓] theorem qkq K t σ H R:qeg K t σ H R=(t σ H λvs c=>ar2 vs λx y=>isRef x λa=>isRef y λb=>(∃xs,aV K c a xs)/\(∃ys,aV K c b ys)/\R (WQ K a b) c):=rfl
@[simp ↓] theorem qhX K t σ H R:qaP K t σ H R=(t σ H λvs c=>ar1 vs λx=>isRef x λa=>(∃xs,aV K c a xs)/\R (Ite K a) c):=rfl
def bK(K:YZ)(c:TE):qaM K c=U3 K c:=by
 funext σ H R
 exact qnH (c σ H) (funext λx=>funext λe=>O6 _ _)
def rD(K:YZ)(c:TE):qee K c=qfv K c:=by
 funext σ H R
 refine qnH (c σ H) (funext λx=>funext λi=>propext #[λh=>?_,λ⟨b,p,e,h⟩=>by subst e;exact#[b,h]]);obtain⟨p,rfl,b,f⟩:=isRef.out h;exact#[b,p,rfl,f]
def qaQ(c:TE):qef c=qfn c:=by
 funext σ H R
 exact qnH (c σ H) (funext λx=>funext λe=>qaw _ _)
def nH(c:TA):qaN c=Zj c:=by
 funext σ H R
 refine qnH (c σ H) (funext λx=>funext λl=>propext #[λh=>?_,λ⟨b,e,h⟩=>by subst e;exact h]);obtain⟨v,rfl,j⟩:=ar1.out h;obtain⟨i,rfl,f⟩:=isInt.out j;exact#[i,rfl,f]
def Xe(f:TA):qaO f=Zk f:=by
 funext σ H R
 refine qnH (f σ H) (funext λx=>funext λo=>propext #[λh=>?_,λ⟨b,c,e,h⟩=>by subst e;exact h]);obtain⟨v,w,rfl,n⟩:=ar2.out h;obtain⟨i,rfl,m⟩:=isInt.out n;obtain⟨j,rfl,l⟩:=isInt.out m;exact#[i,j,rfl,l]
def O9(K:YZ)(t:TA):qeg K t=qcF K t:=by
 funext σ H R
 refine qnH (t σ H) (funext λx=>funext λr=>propext #[λh=>?_,λ⟨a,b,f,c,e,n,m,l⟩=>by subst e;exact#[#[f,n],#[c,m],l]]);obtain⟨v,w,rfl,n⟩:=ar2.out h;obtain⟨i,rfl,m⟩:=isRef.out n;obtain⟨j,rfl,⟨f,l⟩,⟨c,p⟩,o⟩:=isRef.out m;exact#[i,j,f,c,rfl,l,p,o]
def nJ(K:YZ)(t:TA):qaP K t=qae K t:=by
 funext σ H R
 refine qnH (t σ H) (funext λx=>funext λm=>propext #[λh=>?_,λ⟨a,c,e,j,f⟩=>by subst e;exact#[#[c,j],f]]);obtain⟨v,rfl,j⟩:=ar1.out h;obtain⟨i,rfl,⟨c,f⟩,l⟩:=isRef.out j;exact#[i,c,rfl,f,l]
def qaR(sp:Sp)(E:XK)(t:TA):TE:=λc H Q=>t c H λe f=>RW sp e f Q #[0] E
@[simp ↓] theorem qkr sp E t σ H Q:qaR sp E t σ H Q=(t σ H λvs c=>RW sp vs c Q #[0] E):=rfl
def aK(sp:Sp)(E:XK)(t:TA):qaR sp E t=Zx sp [] E t:=by
 funext σ H Q
 exact qnH (t σ H) (funext λc=>funext λe=>by rw[qnC];rfl)
def qeh(C:J9)(m:Str)(sp:Sp)(E:XK)(h:TE)(t:TA):TE:=λc H Q=>h c H λx e=>isRef x λa=>∃i fs,e a=some (.ins C i fs)/\fs.lookup m=none/\t c e λf j=>RW sp (.ref a::f) j Q #[0] E
@[simp ↓] theorem qks C m sp E c t σ H Q:qeh C m sp E c t σ H Q=(c σ H λx e=>isRef x λa=>∃f fs,e a=some (.ins C f fs)/\fs.lookup m=none/\t σ e λvs h=>RW sp (.ref a::vs) h Q #[0] E):=rfl
def iY(C:J9)(m:Str)(sp:Sp)(E:XK)(f:TE)(t:TA):qeh C m sp E f t=Zy C m sp [] E f t:=by
 funext σ H Q
 refine qnH (f σ H) (funext λx=>funext λn=>propext #[λh=>?_,λ⟨a,l,fs,e,j,i,c⟩=>?_])
 ·obtain⟨a,rfl,l,fs,j,i,c⟩:=isRef.out h;refine#[a,l,fs,rfl,j,i,?_];simp only[qnC];exact c
 ·subst e;refine#[l,fs,j,i,?_];simp only[qnC] at c;exact c
def qei(C:J9)(sp:Sp)(E:XK)(t:TA):TE:=λf H Q=>t f H λh e=>∀x c,e x=none->e c=none->c≠x->
 RW sp (.ref x::h) (upd (upd e c (.own x)) x (.ins C c [])) (λv i=>v = .non/\Q (.ref x) i) #[0] E
@[simp ↓] theorem qkt C sp E t σ H Q:qei C sp E t σ H Q=(t σ H λvs e=>∀x c,e x=none->e c=none->c≠x->
 RW sp (.ref x::vs) (upd (upd e c (.own x)) x (.ins C c [])) (λv f=>v = .non/\Q (.ref x) f) #[0] E):=rfl
def qaS(C:J9)(sp:Sp)(E:XK)(t:TA):qei C sp E t=Zz C sp [] E t:=by
 funext σ H Q
 refine qnH (t σ H) (funext λc=>funext λe=>?_);simp only[qnC];rfl
def qhY(K:YZ)(h:TE)(f:Str):TE:=λe H Q=>h e H λx c=>isRef x λa=>∃C i fs,c a=some (.ins C i fs)/\Cls K C/\mC K C f/\∃v,fs.lookup f=some v/\Q v c
@[simp ↓] theorem qlA K c f σ H Q:qhY K c f σ H Q=(c σ H λx e=>isRef x λa=>∃C h fs,e a=some (.ins C h fs)/\Cls K C/\mC K C f/\∃v,fs.lookup f=some v/\Q v e):=rfl
def K7(K:YZ)(c:TE)(f:Str):qhY K c f=qcw K c f:=by
 funext σ H Q
 refine qnH (c σ H) (funext λx=>funext λo=>propext #[λh=>?_,λ⟨a,C,n,fs,v,e,m,l,j,i⟩=>by subst e;exact#[C,n,fs,m,l,j,v,i]]);obtain⟨a,rfl,C,n,fs,m,l,j,v,i⟩:=isRef.out h;exact#[a,C,n,fs,v,rfl,m,l,j,i]
def qej(f ty:TE):TE:=λc H Q=>f c H λx h=>ty c h λy e=>isRef x λa=>∃v,kI e a y (some v)/\Q v e
def qhZ(ty f:TE):TE:=λc H Q=>ty c H λy h=>f c h λx e=>isRef x λa=>∃o,kI e a y o/\Q (.bl o.isSome) e
def Vn(ty f:TE):TE:=λc H Q=>ty c H λy h=>f c h λx e=>isRef x λa=>∃o,kI e a y o/\Q (.bl o.isNone) e
def qek(h ty f:TE):TS:=λD c H=>f c H λv l=>h c l λx j=>ty c j λy i=>isRef x λa=>∃e,Kq i a y v e/\D.nx c e
def qaT(i ty h:TE):TE:=λc H Q=>i c H λx f=>isRef x λa=>IsD f a/\ty c f λy j=>h c j λz e=>∃o,kI e a y o/\Q (o.getD z) e
@[simp ↓] theorem qku c ty σ H Q:qej c ty σ H Q=(c σ H λx f=>ty σ f λy e=>isRef x λa=>∃v,kI e a y (some v)/\Q v e):=rfl
@[simp ↓] theorem qlB ty c σ H Q:qhZ ty c σ H Q=(ty σ H λy f=>c σ f λx e=>isRef x λa=>∃o,kI e a y o/\Q (.bl o.isSome) e):=rfl
@[simp ↓] theorem qg0 ty c σ H Q:Vn ty c σ H Q=(ty σ H λy f=>c σ f λx e=>isRef x λa=>∃o,kI e a y o/\Q (.bl o.isNone) e):=rfl
@[simp ↓] theorem qkv e ty c D σ H:qek e ty c D σ H=(c σ H λv j=>e σ j λx i=>ty σ i λy h=>isRef x λa=>∃f,Kq h a y v f/\D.nx σ f):=rfl
@[simp ↓] theorem qh0 e ty c σ H Q:qaT e ty c σ H Q=(e σ H λx h=>isRef x λa=>IsD h a/\ty σ h λy i=>c σ i λz f=>∃o,kI f a y o/\Q (o.getD z) f):=rfl
def K8{x:V}{β:Type}{R:Addr->β->Prop}:(isRef x λa=>∃b,R a b)=(∃a b,x = .ref a/\R a b):=propext #[λh=>by obtain⟨a,rfl,b,c⟩:=isRef.out h;exact#[a,b,rfl,c],λ⟨a,b,e,h⟩=>by subst e;exact#[b,h]]
def qaU(c ty:TE):qej c ty=qaa c ty:=by
 funext σ H Q
 exact qnH (c σ H) (funext λx=>funext λe=>qnH (ty σ e) (funext λy=>funext λf=>K8))
def qda(ty c:TE):qhZ ty c=qfy ty c:=by
 funext σ H Q
 exact qnH (ty σ H) (funext λx=>funext λe=>qnH (c σ e) (funext λy=>funext λf=>K8))
def R8(ty c:TE):Vn ty c=Ks ty c:=by
 funext σ H Q
 refine qnH (ty σ H) (funext λx=>funext λe=>qnH (c σ e) (funext λy=>funext λf=>?_));rw[K8];simp only[Option.not_isSome]
def qaV(f ty e:TE):qek f ty e=qab f ty e:=by
 funext D c H
 exact qnH (e c H) (funext λv=>funext λi=>qnH (f c i) (funext λx=>funext λh=>qnH (ty c h) (funext λy=>funext λj=>K8)))
def IV(c ty e:TE):qaT c ty e=RQ c ty e:=by
 funext σ H Q
 exact qnH (c σ H) (funext λx=>funext λf=>O6 _ _)
def qel(t:TE):TO:=λc H Q=>t c H λx e=>isInt x λi=>Q (some i) e
@[simp ↓] theorem qkw t σ H Q:qel t σ H Q=(t σ H λx c=>isInt x λi=>Q (some i) c):=rfl
def Ef(t:TE):qel t=ZG t:=by
 funext σ H Q
 exact qnH (t σ H) (funext λx=>funext λc=>qav _ _)
section
variable {X:Cx}{K:YZ}
def PE.eqv{e:rz}{t t':TE}(o:PE X e t)(h:t'=t):PE X e t':=h▸o
def PC.eqv{c:CmpOp}{a b:rz}{t t':TE}(o:PC X c a b t)(h:t'=t):PC X c a b t':=h▸o
def PS.eqv{e:Stmt}{t t':TS}(o:PS X e t)(h:t'=t):PS X e t':=h▸o
def PG.eqv{e:rz}{t t':TG}(o:PG X e t)(h:t'=t):PG X e t':=h▸o
def fL.eqv{e:wZ}{t t':HF}(o:fL X e t)(h:t'=t):fL X e t':=h▸o
def PI.eqv{tg e:rz}{t t':TI}(o:PI X tg e t)(h:t'=t):PI X tg e t':=h▸o
def PO.eqv{e:Option Expr}{t t':TO}(o:PO X e t)(h:t'=t):PO X e t':=h▸o
def CN:iD X (binaryOp .Mult) (fI qcs λi j=>.int (i * j)):=qe6.mono qcY
def qaW:iD X (binaryOp .FloorDiv) (fI Ws λi j=>.int (i / j)):=qct.mono qcY
def pK:iD X (binaryOp .Mod) (fI (λ_ j=>0<j) λi j=>.int (i % j)):=qe7.mono qcY
def qdb:iD X (binaryOp .Pow) (fI qg_ λi j=>.int (i ^ j.toNat)):=qe8.mono qcY
def bD(c:X.K=K):ZK X (qfL K):=(qkM c).mono qfM
def Vo:ZK X qfN:=qff.mono qfO
def oA(c:X.K=K):iD X (compareOp .In) (fIn K):=(inK c).mono qhO
def qlC(c:X.K=K):iD X (compareOp .In) (qfP K):=(inK c).mono qfQ
def pL(c:X.K=K):iD X (compareOp .NotIn) (R4 K):=(qfu c).mono qaC
def K9(e:X.K=K)(c:X.A.units+64<cLine):iD X (compareOp .Eq) (qfT K):=(qfC e c).mono qfU
def qaX(e:X.K=K)(c:X.A.units+64<cLine):iD X (compareOp .NotEq) (qfR K):=(qfD e c).mono qfS
def bN(c:X.K=K):cJ X (.builtin "len") (O8 K):=(qhq c).mono qc1
def qf3:cJ X (.builtin "len") qaz:=qhr.mono qc2
def uO(c:X.K=K):cJ X (.type "list") (KZ K):=(qcK c).mono W_
def Ai:cJ X (.type "tuple") K1:=Z7.mono Xa
def mG(c:X.K=K):cJ X (.builtin "isinstance") (qaA K):=(qhs c).mono qc3
def qaY(c:X.K=K):cJ X (.builtin "isinstance") (qaB K):=(qht c).mono qc4
def jA(c:X.calm=true):cJ X (.builtin "all") qaI:=(WX c).mono qaJ
def IW(c:X.calm=true):cJ X (.builtin "any") qfX:=(W5 c).mono qfY
def rT:cJ X (.type "int") Vm:=Ww.mono qc8
def I_:cJ X (.builtin "abs") qfV:=Zt.mono qfW
def Eh(c:X.calm=true):cJ X (.builtin "max") qaG:=(Wu c).mono qc6
def R9(c:X.calm=true):cJ X (.builtin "min") qaH:=(Wv c).mono qc7
def K_:cJ X (.builtin "divmod") K6:=NQ.mono Xd
def dM:N7 X "list.append" K3:=N7.mono (r:=Ke) Ib Xb
def R_:N7 X "list.insert" K4:=N7.mono (r:=Kg) WW Xc
def vN:N7 X "list.clear" K5:=N7.mono (r:=Ry) ZR qaD
def qaZ:N7 X "str.join" qaE:=qcX.mono qc5
def Ja(c:X.K=K):N7 X "list.index" (R5 K):=(qar c).mono qaF
def qem(c:X.K=K):SlR X (qfZ K):=(qlg c).mono qf0
def Jb:Wn X qaK:=set_list.mono qc9
def Vp:PIp X .Add (qf1 λi j=>i+j):=qe0.mono qf2
end
def getSt.imp{σ:St}{i:Nat}{R c:V->Prop}(f:∀v,R v->c v):getSt σ i R->getSt σ i c:=by
 induction σ generalizing i with
 |nil=>exact λh=>h.elim
 |cons o σ ih=>
  cases i with
  |zero=>cases o with
   |none=>exact λh=>h.elim
   |some v=>exact f v
  |succ n=>exact ih
def isInt.imp{x:V}{R c:Int->Prop}(f:∀v,R v->c v):isInt x R->isInt x c:=by cases x <;> first|exact f _|exact λh=>h.elim
def isRef.imp{x:V}{R c:Addr->Prop}(f:∀v,R v->c v):isRef x R->isRef x c:=by cases x <;> first|exact f _|exact λh=>h.elim
def uK.imp{x:V}{R c:Bool->Prop}(f:∀v,R v->c v):uK x R->uK x c:=by cases x <;> first|exact f _|exact λh=>h.elim
def O_{K:YZ}{g:Int->Int->V}{i j:Nat}:∀(σ:St)(H:Hp)(Q c:Bool->Hp->Prop),(∀(b:Bool)(e:Hp),Q b e->c b e)->uL (tOp (fI0 g) (fVar i) (tCB (O8 K) (HS (fVar j) Wy))) σ H Q->uL (tOp (fI0 g) (fVar i) (tCB (O8 K) (HS (fVar j) Wy))) σ H c:=
 λ_ _ _ _ f h=>getSt.imp (λ_ h=>getSt.imp (λ_ h=>isRef.imp (λ_ ⟨l,n,m⟩=>#[l,n,isInt.imp (λ_ h=>isInt.imp (λ_ h=>uK.imp (λ_ h=>f _ _ h) h) h) m]) h) h) h
def cW.oE{P:qd}{w:lW}{K:YZ}{mg:Y4}{base:oY}{x e:Str}{st:Stmt}{f:J9}{m:sH}{N ps:QAH}{k:Nat}{sp:Sp}(F:cW K x e st f m)(S:aW N ps (aB st))(len:∀vs H Q E,sp vs H Q E->vs.length=ps.length)
  (j:∀(i:eH)(A:lY)(c:List Env)(s:Y5)(H:Hp)(vs:QA0)(Q:VK)(E:XK),fQ k (A.deeper (envOfC e (aB st) s.heap.objs.size f i))->sp vs H Q E->
   ∃t,GZ (aq gR P w K mg base N e (aB st) f i A c s H E).UL (gk st) t/\t {nx:=λ_ p=>Q .non p,rt:=Q} (jk N vs) H):bT P w K mg base gR (k+1) f m ps sp:=by
 refine F.ok S len λi A c s H vs Q E n h=>?_;obtain⟨t,o,l⟩:=j i A c s H vs Q E n h;refine#[t,o,?_];have u:=len _ _ _ _ h;have r:ps.length<=N.length:=by have:=qnH List.length S.pre;rw[qni] at this;lia
 rw[nG N vs ⋯] at l;exact l
end L2
namespace L2
open PySem
def yX(T:List gJ)(h:Str)(c:wX)(R:BR):BR:=T.foldl (λR s=>if s.2.1=h/\¬s.2.2∈R.map (·.1) then R++[(s.2.2,c++[s.1])] else R) R
def Aj(S:List gJ)(a:Str):Nat->BR
 |0=>[(a,[])]
 |n+1=>match (Aj S a n)[n]? with
  |some x=>yX S x.1 x.2 (Aj S a n)
  |none=>Aj S a n
def Sd(T:List gJ)(s:gJ)(h:Str)(c:wX)(R:BR):yX (T++[s]) h c R=if s.2.1=h/\¬s.2.2∈(yX T h c R).map (·.1) then yX T h c R++[(s.2.2,c++[s.1])] else yX T h c R:=by
 unfold yX;rw[List.foldl_append];rfl
def Xf{S:List gJ}{a:Str}{n:Nat}{h:Str}{c:wX}(e:(Aj S a n)[n]? = some (h,c)):Aj S a (n+1)=yX S h c (Aj S a n):=by
 show(match (Aj S a n)[n]? with|some x=>yX S x.1 x.2 (Aj S a n)|none=>Aj S a n)=_
 rw[e]
def qlD(S:List gJ)(a:Str)(R:BR):Prop:=Aj S a R.length=R
def rW(H:Hp)(c:List (Key×V)):Prop:=∀e∈c,∀p,e.2 = .ref p->H p=none
def rW.snoc{H:Hp}{c:List (Key×V)}(h:rW H c){k:Key}{p:J9}(j:H p=none):rW H (c++[(k,.ref p)]):=by
 intro i e q f
 rcases qnw.mp e with z|z
 ·exact h i z q f
 ·simp at z;subst z;cases f;exact j
def Walk.in{S:List gJ}{a y:Str}{k:Nat}(h:Walk S a k y){xs:QAH}(e:a∈xs)(f:∀s∈S,s.2.2∈xs):y∈xs:=by
 cases h with
 |nil=>exact e
 |snoc _ c=>exact f _ c
theorem La:∀(ns:qx)(ps:QAD)(k j:Nat)(s:gJ),(yU ns ps k)[j]? = some s↔∃n e,ns[j]? = some n/\ps[j]? = some e/\s=(k+j,qJ n e,uJ n e)
 |[],ps,k,j,s=>by simp[yU]
 |n::ns,[],k,j,s=>by simp[yU]
 |n::ns,e::ps,k,0,s=>by simp[yU,eq_comm]
 |n::ns,e::ps,k,j+1,s=>by
  rw[yU,List.getElem?_cons_succ,La ns ps (k+1) j s];simp only[List.getElem?_cons_succ,show k+1+j=k+(j+1) by lia]
def Pb{ns:qx}{ps:QAD}{s:gJ}:s∈yU ns ps 0↔∃j n e,ns[j]? = some n/\ps[j]? = some e/\s=(j,qJ n e,uJ n e):=by
 rw[qoP];constructor
 ·rintro⟨j,h⟩;obtain⟨n,e,i,f,c⟩:=(La ns ps 0 j s).mp h;exact#[j,n,e,i,f,by rw[c,qnZ]]
 ·rintro⟨j,n,e,i,f,c⟩;exact#[j,(La ns ps 0 j s).mpr #[n,e,i,f,by rw[c,qnZ]]]
def lg(S:List gJ)(f:QAH):Prop:=∀s∈S,s.2.1∈f->s.2.2∈f
structure Ni(S:List gJ)(x:Str)(f:QAH):Prop where
 st:x∈f
 nd:f.Nodup
 rt:∀y∈f,RT (gV S) x y
def Ni.begin(S:List gJ)(x:Str):Ni S x [x]:=#[by simp,by simp,λy c=>by simp at c;subst c;exact .refl _]
def Ni.add{S:List gJ}{x:Str}{f:QAH}(h:Ni S x f){s:gJ}(i:s∈S)(m:s.2.1∈f)(l:¬s.2.2∈f):Ni S x (f++[s.2.2]):=by
 refine#[qnG _ h.st,?_,λy e=>?_]
 ·rw[qpJ];exact#[h.nd,by simp,λa j b c=>by simp at c;subst c;exact λz=>l (z▸j)]
 ·rcases qnw.mp e with z|z
  ·exact h.rt y z
  ·simp at z;subst z;exact .tail (h.rt _ m) #[s.1,i]
def Ni.closed{S:List gJ}{x:Str}{f:QAH}(h:Ni S x f)(e:lg S f)(y:Str):y∈f↔RT (gV S) x y:=by
 refine#[h.rt y,λq=>?_]
 induction q with
 |refl=>exact h.st
 |tail _ q ih=>
  obtain⟨n,c⟩:=q;exact e _ c ih
def Ni.len{S:List gJ}{x:Str}{f xs:QAH}(h:Ni S x f)(e:x∈xs)(j:∀s∈S,s.2.2∈xs):f.length<=xs.length:=
 cV h.nd λy c=>by
  obtain⟨k,i⟩:=Walk.of (h.rt y c);exact i.in e j
structure dW(S T:List gJ)(x:Str)(f0 f:QAH):Prop where
 r0:f0.Nodup
 r:Ni S x f
 sub:∀y∈f0,y∈f
 le:f0.length<=f.length
 md:∀s∈T,s.2.1∈f0->s.2.2∈f
 cl:lg S f0->f=f0
def dW.enter{S:List gJ}{x:Str}{f:QAH}(h:Ni S x f):dW S [] x f f:=#[h.nd,h,λ_ z=>z,qm5 _,by simp,λ_=>rfl]
def dW.skip{S T:List gJ}{x:Str}{e f:QAH}(h:dW S T x e f){s:gJ}(j:s.2.1∈f->s.2.2∈f):dW S (T++[s]) x e f:=by
 refine#[h.r0,h.r,h.sub,h.le,λi c=>?_,h.cl]
 rcases qnw.mp c with z|z
 ·exact h.md i z
 ·simp at z;subst z;exact λq=>j (h.sub _ q)
theorem dW.add{S T:List gJ}{x:Str}{m f:QAH}(h:dW S T x m f){s:gJ}(i:s∈S)(l:s.2.1∈f)(j:¬s.2.2∈f):dW S (T++[s]) x m (f++[s.2.2]):=by
 refine#[h.r0,h.r.add i l j,λy o=>qnG _ (h.sub y o),by have:=h.le;simp;lia,λn c q=>?_,λe=>?_]
 ·rcases qnw.mp c with z|z
  ·exact qnG _ (h.md n z q)
  ·simp at z;subst z;exact qnJ _ (by simp)
 ·have:=h.cl e;subst this;exact absurd (e s i l) j
def dW.leave{S:List gJ}{x:Str}{c f:QAH}{i:Nat}(h:dW S S x c f)(u:lg S c\/i+1<=c.length):Ni S x f/\(lg S f\/i+1+1<=f.length):=by
 refine#[h.r,?_]
 by_cases j:lg S c
 ·rw[h.cl j];exact .inl j
 ·rcases u with z|z
  ·exact absurd z j
  ·refine .inr ?_;obtain⟨s,e⟩:∃s,s∈S/\s.2.1∈c/\¬s.2.2∈c:=by
    by_cases q:∃s,s∈S/\s.2.1∈c/\¬s.2.2∈c
    ·exact q
    ·exact absurd (λs e p=>by
      by_cases w:s.2.2∈c
      ·exact w
      ·exact absurd #[s,e,p,w] q) j
   have o:=h.md s e.1 e.2.1
   by_cases w:i+1+1<=f.length
   ·exact w
   ·
    exfalso;have n:=h.le;have v:f.length=c.length:=⋯
    have l:(s.2.2::c).Nodup:=qnY.mpr #[e.2.2,h.r0];have:=cV l (xs:=f) λy m=>by
     rcases qnc.mp m with z|z
     ·rw[z];exact o
     ·exact h.sub y z
    simp at this;omega
open Classical in
theorem Ni.mQ{S:List gJ}{x:Str}{f xs:QAH}(h:Ni S x f)(m:lg S f)(i:xs.Nodup)(j:x∈xs)(n:∀s∈S,s.2.2∈xs):f.length=(L2.mQ S xs x).length:=by
 have p:f.length<=(L2.mQ S xs x).length:=cV h.nd λy e=>by
  rw[rR];have:=h.rt y e;obtain⟨k,l⟩:=Walk.of this;exact#[l.in j n,this]
 have o:(L2.mQ S xs x).length<=f.length:=by
  have c:(L2.mQ S xs x).Nodup:=by
   unfold L2.mQ;exact i.filter _
  exact cV c λy e=>(h.closed m y).mpr (rR.mp e).2
 lia
end L2
namespace L2
open PySem
def qlE{m:Nat}(h:1<=m):(0:Int)<m:=⋯
def zlt{m b:Nat}{c:Int}(h:m<=b)(e:(b:Int)<c):(m:Int)<c:=⋯
def zlo{f:Int}(h:0<=f) : -4611686018427387904<=f:=⋯
def zhi{f c:Int}(h:f<c)(e:c<=4611686018427387904):f<4611686018427387904:=Int.lt_of_lt_of_le h e
def qlF{f:Nat} : -4611686018427387904<=(f:Int):=⋯
def ztn{d:Int}{m b:Nat}(e:0<=d)(h:d<m)(c:m<=b):d.toNat+1<=b:=⋯
def qlG{d:Int}(h:0<=d)(c:Int):c+d=max d 0+c:=⋯
def zsz{a b:Nat}(h:a<b)(c:b<=20):a<sizeLine:=qnj h (qnp c (qoL xH))
def qlH{a b:Nat}(h:a<=b)(c:b<=20):a<=sizeLine:=qnp h (qnp c (qoL xH))
def z01{d:Int}(h:0<=d)(c:d<2):d=0\/d=1:=⋯
def z2{n:Nat}(h:(1:Int)<n):2<=n:=⋯
def zk1{k t:Nat}(h:t<=k):(0:Int)<k - t+1:=⋯
def zk2{k t:Nat}{c:Int}(h:k<=20)(e:21<c):(k:Int) - t+1<c:=⋯
def zk3{f:Int}{k t p:Nat}(c:0<=f)(h:f<k - t+1)(e:t=p):p+f.toNat<=k+0:=⋯
def zk4{t p f k i:Nat}(e:t=p)(h:p+f<=k+i)(j:i<f)(c:k<=20):t<sizeLine:=by
 have:=qoL xH;lia
def zk5{p f k i:Nat}(h:p+f<=k+i)(e:i<f)(c:k<=20):p<=19:=⋯
def zk6{p f k i:Nat}(h:p+f<=k+i):p+1+f<=k+(i+1):=⋯
def zk7{p f k:Nat}(h:p+f<=k+f):p<=k:=Nat.le_of_add_le_add_right h
def qlI{lo i n:Nat}(h:i<n - lo):lo+i<n:=∅
def zn1{b i:Nat}:0<=((b:Int)+5 * i) % 26:=⋯
def zn2{b i:Nat}:((b:Int)+5 * i) % 26<26:=⋯
def zn3{b i c:Nat}(h:((b:Int)+5 * i) % 26=c):c=(b+5 * i) % 26:=⋯
def zn4{j y:Nat}{e:Int}(h:j<e.toNat)(f:e<4)(c:y=j):y<sizeLine:=by
 have:=qoL xH;lia
def zn5{y:Nat}{e:Int}(h:y=e.toNat)(c:e<4):y+y * 0<=16777216:=⋯
def zn6{y:Nat}{e:Int}(h:y=e.toNat)(c:e<4):1+y<=4:=⋯
def zn7{i j w b:Nat}(f:i<w)(e:j<w)(c:i<j)(hw:w<=9)(z:(b+5 * j) % 26=(b+5 * i) % 26):False:=⋯
def zn8{j w:Nat}(h:¬j<w)(c:j - w=0):j=w:=⋯
def zpa(c:Int):0<=if 1000000000000000000<c then c - 1000000000000000000 else 0:=by split <;> lia
def zpb(c:Int)(k:Nat):0<=c % 2147483629+977 * (k:Int)+1:=⋯
def zpc(c:Int){k:Nat}(h:k<100):c % 2147483629+977 * (k:Int)+1<4294967296:=⋯
def zs1{s i t p:Nat}(h:s<=2 * i+1)(f:i<t)(e:t=p)(c:p<=20):s<sizeLine:=by
 have:60<sizeLine:=by decide
 lia
def zs2{s i:Nat}(h:s<=2 * i+1):s+1<=2 * (i+1):=⋯
def zs3{s t p:Nat}(h:s<=2 * t)(e:t=p)(c:p<=20):s<=40:=⋯
end L2
namespace L2
open PySem PySem.Spec PyProof.Rows
mutual
def rY(H:Hp):PyData->V->Prop
 |.none,v=>v = .non
 |.bool b,v=>v = .bl b
 |.int i,v=>v = .int i
 |.str x,v=>v = .str x
 |.list e,v=>∃a xs,v = .ref a/\H a=some (.lst xs)/\cB H e xs
 |.tuple e,v=>∃a xs,v = .ref a/\H a=some (.tup xs)/\cB H e xs
 |.dict c,v=>c=[]/\∃a,v = .ref a/\H a=some (.dK [])
def cB(H:Hp):List PyData->List V->Prop
 |[],vs=>vs=[]
 |d::c,vs=>∃v r,vs=v::r/\rY H d v/\cB H c r
end
mutual
theorem rY.same{H l:Hp}(s:Same H l):∀(d:PyData)(v:V),rY H d v->rY l d v
 |.none,v,h=>by simp only[rY] at h⊢;exact h
 |.bool b,v,h=>by simp only[rY] at h⊢;exact h
 |.int i,v,h=>by simp only[rY] at h⊢;exact h
 |.str x,v,h=>by simp only[rY] at h⊢;exact h
 |.list j,v,h=>by
  simp only[rY] at h⊢;obtain⟨a,xs,e,c,f⟩:=h;exact#[a,xs,e,s _ _ c,cB.same s j xs f]
 |.tuple j,v,h=>by
  simp only[rY] at h⊢;obtain⟨a,xs,e,c,f⟩:=h;exact#[a,xs,e,s _ _ c,cB.same s j xs f]
 |.dict m,v,h=>by
  simp only[rY] at h⊢;obtain⟨n,a,e,c⟩:=h;exact#[n,a,e,s _ _ c]
theorem cB.same{H f:Hp}(s:Same H f):∀(c:List PyData)(vs:QA0),cB H c vs->cB f c vs
 |[],vs,h=>by simp only[cB] at h⊢;exact h
 |d::c,vs,h=>by
  simp only[cB] at h⊢;obtain⟨v,r,e,j,i⟩:=h;exact#[v,r,e,rY.same s d v j,cB.same s c r i]
end
theorem cB.ints(H:Hp):∀ns:List Int,cB H (ns.map PyData.int) (ns.map V.int)
 |[]=>by simp[cB]
 |n::ns=>by simp only[qnP,cB];exact#[_,_,rfl,by simp[rY],cB.ints H ns]
theorem cB.length{H:Hp}:∀{c:List PyData}{xs:QA0},cB H c xs->c.length=xs.length
 |[],_,h=>by simp only[cB] at h;subst h;rfl
 |d::c,_,h=>by
  simp only[cB] at h;obtain⟨v,r,rfl,f,e⟩:=h;simp[cB.length e]
theorem cB.at{H:Hp}:∀{c:List PyData}{xs:QA0}{i:Nat}{v:V},cB H c xs->xs[i]? = some v->∃d,c[i]? = some d/\rY H d v
 |[],_,i,v,h,e=>by simp only[cB] at h;subst h;simp at e
 |d::c,_,0,v,h,e=>by
  simp only[cB] at h;obtain⟨w,r,rfl,j,f⟩:=h;simp at e;subst e;exact#[d,rfl,j]
 |d::c,_,i+1,v,h,e=>by
  simp only[cB] at h;obtain⟨w,r,rfl,j,f⟩:=h;exact cB.at (i:=i) f (by simpa using e)
def hid(p:J9)(H:Hp):Hp:=λb=>if b=p then none else H b
def xK{p b:J9}{H:Hp}{o:HO}(h:b≠p)(e:H b=some o):hid p H b=some o:=by
 unfold hid;rw[if_neg h];exact e
section
variable {X:Cx}{p_:QAC}{σ:St}{H:Hp}{s:Y5}{K:YZ}
end
def Ei{f:Array Value->Array Value}{o:Obj}:(Obj.mapFields f o).dict=o.dict:=by
 obtain⟨c,d,e,h⟩:=o;cases e <;> rfl
def Trc(base h:oY)(e:J9)(cls:Value×Option Addr)(l:eH)(T:J9):Prop:=
 ∃c f j i,h.get? e=some c/\(c.cls,c.dict)=cls/\c.data = .fields f/\f[2]? = some .none/\f[1]? = some (.ref T)/\base.get? T=none/\T≠e/\h.get? T=some j/\j.data = .fields i/\i[3]? = some l
structure Stn(base:oY)(l:List Env)(e:J9)(cls:Value×Option Addr)(fl:eH)(h h':oY):Prop where
 stays:base.StaysIn h'
 frames:h'.FunFrames base l
 trc:∃T,Trc base h' e cls fl T
 slots:h.UpToSlots h'
section
variable {M:Model}{A:lY}{E:QAB}{s:Y5}{base:oY}{env:Env}{outer l:List Env}{L e:J9}{Q:QAJ}
def Vq{j:Obj}{vs:wY}{f:eH}{w:Bool}(fr:A.frames=some (env::outer))(r:s.heap.FunFrames base (env::outer))(U:env.frame=some L)(x:s.heap.get? e=some j)
  (st:base.StaysIn s.heap) (nb:base.get? e=none) (u:j.data = .fields vs) (C:vs[2]? = some .none) (Y:∀h',Stn base (env::outer) e (j.cls,j.dict) (rawInt L) s.heap h'->Q () {s with heap:=h'}) :
  wpAny M A (do let a <- frameOf env;let p <- entryPlaceOf L w;let b <- EntryCells.newEntry f a .none (rawInt L) .none p;setField (.ref e) 1 b) Q E s:=by
 have sz2:2<vs.size:=(qoM.mp C).1;have ne:e∉frs (env::outer):=λz=>by
  obtain⟨_,o,y,d⟩:=r.mem z;rw[x] at y;cases y;exact d vs u
 refine qm3 (wpAny_frameOf_fun fr r U λc m=>?_);refine qm3 (wpAny_entryPlaceOf λp v=>?_);unfold EntryCells.newEntry newFields;refine qm3 (qoX ?_ (v.sizeOk5 _ _ _ _ _));have I:c.get? e=some j:=(m.2.1 e ne).trans x;have i:base.StaysIn c:=λb o z=>(m.2.1 b λy=>by rw[(r.mem y).1] at z;cases z).trans (st b o z);generalize hR:({cls:=.type "traceback",dict:=none,data:=.fields ([f,.ref L,.none,rawInt L,.none]++(if p.isEmpty then List.replicate 6 Value.none else p)).toArray}:Obj)=R
 have B:∃n,R.data = .fields n/\n[3]? = some (rawInt L)/\R.isFreed=false:=by
  subst hR;exact#[_,rfl,by simp,rfl]
 obtain⟨n,B,T,fR⟩:=B;have H:=qm4 (h:=c) R I;refine qoV H u (Nat.lt_of_succ_lt sz2) (Y _ ?_);have N:c.objs.size≠e:=qoF (qm9 I);have keep:∀{b o},b≠e->c.get? b=some o->((c.push R).update e (Obj.mapFields (·.setIfInBounds 1 (Value.ref c.objs.size)))).get? b=some o:=λ{b o} nb z=>by
  rw[qov _ _ (qoE nb)];exact qm4 _ z
 have G:∀{b o},s.heap.get? b=some o->(∀O,o.data≠.fields O)->b≠e:=λ{b o} z d y=>by
  rw[y,x] at z;cases z;exact d vs u
 have J:=qoR u (·.setIfInBounds 1 (Value.ref c.objs.size));refine#[λb o z=>keep (λy=>by rw[y,nb] at z;cases z) (i b o z),r.of_keeps λb o z d=>?_,#[c.objs.size,?_],λb o z d=>?_]
 ·obtain⟨D,y⟩:=m.2.2 b o z;exact#[_,keep (G z d) y,rfl]
 ·refine#[_,_,R,n,qoB _ H (qpe J),by rw[Obj.cls_mapFields,Ei],J,?_,?_,i.fresh,N,?_,B,T]
  ·rw[qpp (by decide)];exact C
  ·simp[Nat.lt_of_succ_lt sz2]
  ·rw[qov _ _ (qoE N)];exact qne c fR
 ·obtain⟨D,y⟩:=m.2.2 b o z;exact#[D,keep (G z d) y]
def Sg{c:Obj}{vs:wY}(o:A.frames=some (env::outer))(p:s.heap.FunFrames base (env::outer))(f:env.frame=some L)(h:s.heap.get? e=some c)
  (st:base.StaysIn s.heap) (nb:base.get? e=none) (i:c.data = .fields vs) (m:vs[1]? = some .none) (j:vs[2]? = some .none) (n:∀h',Stn base (env::outer) e (c.cls,c.dict) (rawInt L) s.heap h'->Q () {s with heap:=h'}) :
  wpAny M A (noteFrame (.ref e) env) Q E s:=by
 unfold noteFrame;simp only[f];refine qm3 (qnU h i m ?_);rw[if_neg (by decide)];exact Vq o p f h st nb i j n
def Jc{cls:Value×Option Addr}{T:J9}(H:A.frames=some (env::outer))(I:s.heap.FunFrames base (env::outer))(m:env.frame=some L)(C:Trc base s.heap e cls .none T)
  (st:base.StaysIn s.heap) (nb:base.get? e=none) (G:∀h',Stn base (env::outer) e cls (rawInt L) s.heap h'->Q () {s with heap:=h'}) :
  wpAny M A (noteFrame (.ref e) env) Q E s:=by
 obtain⟨O,N,U,B,p,rfl,r,u,v,D,J,f,h,i⟩:=C;unfold noteFrame;simp only[m];refine qm3 (qnU p r v ?_);rw[if_pos (by simp)];refine qm3 (qnU f h i ?_);rw[if_neg (by simp[rawInt])];refine qm3 (qoV f h (qoM.mp i).1 ?_);have c:∀{b},b≠T->(s.heap.update T (Obj.mapFields (·.setIfInBounds 3 Value.none))).get? b=s.heap.get? b:=λn=>qov _ _ (qoE n);have j:∀{b o},s.heap.get? b=some o->(∀w,o.data≠.fields w)->b≠T:=λ{b o} z d y=>by
  rw[y,f] at z;cases z;exact d B h
 refine Vq (s:={s with heap:=s.heap.update T (Obj.mapFields (·.setIfInBounds 3 Value.none))}) H (I.of_keeps λb o z d=>#[o,(c (j z d)).trans z,rfl]) m ((c (qoE J)).trans p) (λb o z=>(c λy=>by rw[y,D] at z;cases z).trans (st b o z)) nb r u λh' x=>G h' #[x.stays,x.frames,x.trc,λb o z d=>x.slots b o ((c (j z d)).trans z) d]
def Ej{cls:Value×Option Addr}{N:eH}{T:J9}(O:s.heap.FunFrames base l)(G:Trc base s.heap e cls N T)(st:base.StaysIn s.heap)(J:∀h',Stn base l e cls .none s.heap h'->Q () {s with heap:=h'}) :
  wpAny M A (setFlight (.ref e) none) Q E s:=by
 obtain⟨I,B,U,p,v,rfl,w,C,m,u,x,i,h,H⟩:=G;have j:3<p.size:=(qoM.mp H).1;unfold setFlight;refine qm3 (qnU v w m ?_);rw[if_pos (by simp)];refine qoV i h j (J _ ?_);have c:∀{b}(f:Obj->Obj),b≠T->(s.heap.update T f).get? b=s.heap.get? b:=λf n=>qov _ _ (qoE n);have r:∀{b o},s.heap.get? b=some o->(∀D,o.data≠.fields D)->b≠T:=λ{b o} z d y=>by
  rw[y,i] at z;cases z;exact d p h
 refine#[λb o z=>(c _ λy=>by rw[y,u] at z;cases z).trans (st b o z),O.of_keeps λb o z d=>#[o,(c _ (r z d)).trans z,rfl],#[T,I,B,_,_,(c _ (qoE x)).trans v,rfl,w,C,m,u,x,qoB _ i (qpe (qoR h _)),qoR h _,?_],λb o z d=>#[o.slots,(c _ (r z d)).trans z]];simp[j]
def Vr{cls:Value×Option Addr}(c:∀i:Unit->Shared->Prop,(∀h',Stn base (env::outer) e cls (rawInt L) s.heap h'->i () {s with heap:=h'})->wpAny M A (noteFrame (.ref e) env) i E s)
  (m:∀h',Stn base (env::outer) e cls .none s.heap h'->Q () {s with heap:=h'}):wpAny M A (leaving env (.ref e)) Q E s:=by
 unfold leaving;refine qm3 (c _ λo h=>?_);obtain⟨T,j⟩:=h.trc;exact Ej (s:={s with heap:=o}) h.frames j h.stays λn f=>m n #[f.stays,f.frames,f.trc,h.slots.trans f.slots]
end
structure Jd(h0 h:oY)(H:Hp)(a C:J9)(od:dR):Prop where
 new:h0.get? a=none
 un:H a=none
 ob:∃oe vs,h.get? a=some oe/\(oe.cls,oe.dict)=(Value.ref C,od)/\oe.data = .fields vs/\vs[2]? = some .none/\(vs[1]? = some .none\/
  ∃T oT ts,vs[1]? = some (.ref T)/\T≠a/\h0.get? T=none/\H T=none/\h.get? T=some oT/\oT.data = .fields ts/\ts[3]? = some .none)
structure qa0(h0 h:oY)(H:Hp)(a C:J9)(od:dR)(T:J9):Prop where
 new:h0.get? a=none
 newT:h0.get? T=none
 un:H a=none
 unT:H T=none
 ob:∃oe vs oT ts,h.get? a=some oe/\(oe.cls,oe.dict)=(Value.ref C,od)/\oe.data = .fields vs/\vs[2]? = some .none/\vs[1]? = some (.ref T)/\T≠a/\h.get? T=some oT/\oT.data = .fields ts/\ts[3]? = some .none
def qa0.in{e h:oY}{H:Hp}{a C T:J9}{c:dR}(x:qa0 e h H a C c T):Jd e h H a C c:=by
 obtain⟨z,y,w,v,s,f,u,i,r,p,o,n,m,l,j⟩:=x;exact#[z,w,s,f,r,p,o,n,.inr #[T,u,i,m,l,y,v,j]]
def Xg(P:qd)(w:lW):Zw:=λc H s E e f=>∃(a C:J9)(i:dR)(h:Hp),e = .ref a/\f.os=s.os/\AllBare f.gens/\Un (frs c) [] H h s.heap f.heap/\vH P w h f.heap/\(∃T,qa0 s.heap f.heap h a C i T)/\E (.ref C) i h
def Sh{P:qd}{w:lW}{H:Hp}{h:oY}(x:vH P w H h){b:J9}(e:h.get? b=none):H b=none:=by
 cases q:H b with
 |none=>rfl
 |some u=>
  obtain⟨o,i⟩:∃o,h.get? b=some o:=by
   have:=x b u q;cases u with
   |lst j=>obtain⟨_,_,_,_,e⟩:=this;exact#[_,e]
   |tup j=>obtain⟨_,_,_,o,e,_⟩:=this;exact#[_,e]
   |dK c=>obtain⟨_,_,_,_,o,_,_,e,_⟩:=this;exact#[_,e]
   |dT c=>obtain⟨_,_,_,_,o,_,_,e,_⟩:=this;exact#[_,e]
   |set S n=>obtain⟨o,_,_,_,e,_⟩:=this;exact#[_,e]
   |ins C r fs=>obtain⟨_,_,_,e,_⟩:=this;exact#[_,e]
   |own y=>obtain⟨_,e⟩:=this;exact#[_,e]
   |xd fs=>obtain⟨_,⟨_,_,_,e,_⟩,_⟩:=this;exact#[_,e]
   |rng lo p=>obtain⟨_,_,_,e⟩:=this;exact#[_,e]
   |Nq m u=>obtain⟨e,_⟩:=this;exact#[_,e]
   |zU l=>exact#[_,(show h.get? b=some _ from this)]
   |met f y=>exact#[_,(show h.get? b=some _ from this)]
   |ext φ=>obtain⟨_,⟨o,e⟩,_⟩:=this;exact#[_,e]
  rw[e] at i;cases i
section
variable {X:Cx}{p_:QAC}{σ:St}{H:Hp}{s:Y5}
def Inv.old(I:Inv X p_ σ H s)(c:X.ex=[]){b:J9}(e:s.heap.get? b=none):X.s₀.heap.get? b=none:=by
 cases q:X.s₀.heap.get? b with
 |none=>rfl
 |some o=>
  obtain⟨h,f⟩:=I.base.there b o q (by rw[c];simp);rw[e] at f;cases f
def Vs(I:Inv X p_ σ H s)(p:X.ex=[]){a C:J9}{B:dR}{l:tR}(D:∀b∈l,b∈frs X.stack\/(X.s₀.heap.get? b=none/\H b=none))(ha:X.s₀.heap.get? a=none)(hH:H a=none)(hs:∀b∈frs X.stack,b∈l)
  {E:XK} (hE:E (.ref C) B H) {h':oY} (x:Stn (W.hideAll s.heap l) X.stack a (.ref C,B) .none s.heap h'):Xg X.prog X.w X.outer X.H₀ X.s₀ E (.ref a) {s with heap:=h'}:=by
 obtain⟨k1,k2,⟨T,oe,U,oT,ts,t1,t2,t3,t4,Y,O,t6,N,M,t9⟩,k4⟩:=x;have nl:∀{b:J9}{o:Obj},b∉l->s.heap.get? b=some o->h'.get? b=some o:=λf e=>k1 _ _ (W.hideAll_get _ e f);have m:∀{b:J9}{o:Obj},X.s₀.heap.get? b=some o->b∉X.fs->b∉l:=λ{b o} e f i=>by
  rcases D b i with z|⟨z,_⟩
  ·rcases qnc.mp (I.xg b z) with z|z
   ·rw[z] at e;exact absurd (qm9 e) (Nat.not_lt.mpr I.ok.above)
   ·exact f z
  ·rw[z] at e;cases e
 have j:∀{b:J9}{u:HO},H b=some u->b∉l:=λ{b u} e i=>by
  rcases D b i with z|⟨_,z⟩
  ·rw[I.CG b z] at e;cases e
  ·rw[z] at e;cases e
 have r:∀{b:J9}{o:Obj},b∈X.fs->s.heap.get? b=some o->∃A,h'.get? b=some {o with slots:=A}:=λ{b o} f e=>by
  obtain⟨_,o2,h,G⟩:=I.um.mem f;rw[e] at h;cases h;exact k4 b o e G
 have UL:∀b:Addr,b∉X.ex:=λb=>by rw[p];simp
 refine#[a,C,B,H,rfl,I.os,I.bare,#[λb o e n f _=>?_,λb o e n f _=>?_,λb o e n _=>I.base.free b o e n (UL b),λb o e _=>?_,I.base.tups,I.base.ug,I.base.uh],λb u e=>?_,#[T,ha,?_,hH,?_,oe,U,oT,ts,t1,t2,t3,t4,Y,t6,N,M,t9],hE]
 ·exact nl (m e f) (I.base.keep b o e n f (UL b))
 ·obtain⟨A,h⟩:=I.base.slot b o e n f (UL b);obtain⟨y,L⟩:=r f h;exact#[y,L]
 ·obtain⟨o',h⟩:=I.base.there b o e (UL b)
  by_cases f:b∈X.fs
  ·obtain⟨A,L⟩:=r f h;exact#[_,L]
  ·exact#[o',nl (m e f) h]
 ·refine(I.hok b u e).stay (λc v J q=>?_) (λc q=>q) λc xs q=>q
  rcases J with rfl|J
  ·exact nl (j e) q
  ·exact nl (j J) q
 all_goals
  have hT:T∉frs X.stack:=λi=>by
   obtain⟨_,o2,h,G⟩:=k2.mem i;rw[N] at h;cases h;exact G _ M
  have Q:s.heap.get? T=none\/(X.s₀.heap.get? T=none/\H T=none):=by
   cases q:s.heap.get? T with
   |none=>exact .inl rfl
   |some o=>
    by_cases i:T∈l
    ·exact .inr ((D T i).resolve_left hT)
    ·rw[W.hideAll_get _ q i] at O;cases O
 ·exact Q.elim (λz=>I.old p z) λz=>z.1
 ·exact Q.elim (λz=>Sh I.hok z) λz=>z.2
def qa1(I:Inv X p_ σ H s)(c:X.stack=X.env::X.outer)(i:X.env.frame=some X.env.locals)(j:X.ex=[]){a C:J9}{r:dR}(x:Jd X.s₀.heap s.heap H a C r){E:XK}(G:E (.ref C) r H){E':QAB} :
  wpAny (model X.prog X.w) X.A (leaving X.env (.ref a)) (λ_ p=>Xg X.prog X.w X.outer X.H₀ X.s₀ E (.ref a) p) E' s:=by
 obtain⟨new,un,N,L,n,D,B,J,Q⟩:=x;have v:=I.ok.frames;rw[c] at v;have h:∀l:List Addr,s.heap.FunFrames (W.hideAll s.heap (frs X.stack++l)) (X.env::X.outer):=λl=>by
  rw[<- c];exact W.funFrames_hide I.stack λy n b f=>qnG _ (List.mem_filterMap.mpr #[y,n,f])
 rcases Q with u|⟨T,O,M,u,h2,h3,h4,h5,Y,U⟩
 ·refine Vr (base:=W.hideAll s.heap (frs X.stack++[a])) (λQ' q=>Sg v (h _) i n (λb o e=>W.of_hideAll _ e) (qpM _ (by simp)) B u J q) λh' m=>?_;rw[D,<- c] at m;refine Vs I j (λb f=>?_) new un (λb f=>qnG _ f) G m
  rcases qnw.mp f with z|z
  ·exact .inl z
  ·rw[qn4.mp z];exact .inr #[new,un]
 ·refine Vr (base:=W.hideAll s.heap (frs X.stack++[a,T])) (cls:=(.ref C,r)) (λQ' q=>Jc v (h _) i (T:=T) #[N,L,O,M,n,D,B,J,u,qpM _ (by simp),h2,h5,Y,U] (λb o e=>W.of_hideAll _ e) (qpM _ (by simp)) q) λh' m=>?_;rw[<- c] at m;refine Vs I j (λb f=>?_) new un (λb f=>qnG _ f) G m
  rcases qnw.mp f with z|z
  ·exact .inl z
  ·simp only[qnc,qnF,qoD] at z
   rcases z with rfl|rfl
   ·exact .inr #[new,un]
   ·exact .inr #[h3,h4]
def Jd.back{i c h:oY}{H:Hp}{a C:J9}{f:dR}(x:Jd c h H a C f)(k:∀b,c.get? b=none->i.get? b=none):Jd i h H a C f:=by
 obtain⟨new,un,m,j,o,r,p,e,u⟩:=x;refine#[k _ new,un,m,j,o,r,p,e,?_]
 rcases u with c|⟨T,n,l,c,e,y,w,v⟩
 ·exact .inl c
 ·exact .inr #[T,n,l,c,e,k _ y,w,v]
def Lets(X:Cx)(E:XK):Prop:=∀(p_:QAC)(σ:St)(H:Hp)(s:Y5)(a C:J9)(c:dR),Inv X p_ σ H s->Jd X.s₀.heap s.heap H a C c->E (.ref C) c H->X.xe (.ref a) s
def rZ{P:qd}{w:lW}{K:YZ}{mg:Y4}{base:oY}{N:QAH}{h:Str}{c:Scope}{f:J9}{j:eH}{A:lY}{e:List Env}{s:Y5}{H:Hp}{E:XK} :
  Lets (aq (Xg P w) P w K mg base N h c f j A e s H E) E:=λp_ σ n l a C m I x i=>qa1 I rfl rfl rfl x i
def Lets.passes{X:Cx}{E:XK}(h:Lets X E)(f:X.ex=[]):Passes (Xg X.prog X.w) X E:=λp_ σ H s e i I m=>by
 obtain⟨a,C,l,j,rfl,n,o,un,c,⟨T,r⟩,p⟩:=m;have u:Inv X p_ σ j i:=I.call' (ch:=[]) n un c o λb z=>(nomatch z);exact h p_ σ j i a C l u (r.in.back λb e=>I.old f e) p
def Lb{K:YZ}{h:oY}{C:J9}{m:QAE}{c:String}(X:K.In h)(q:W.excIn K C m c=true) :
  ∃bm N nm q bs hdct sn sub ab col dd k0 k1 k2 k3 k5 mN,h.get? C=some (excClassObj nm q C N bs bm hdct sn sub ab col dd k0 k1 k2 k3 k5 c)/\h.Ns N mN/\mN "__init__" = none/\OwnTail h m bm/\∀v b,W.mroIn K C v=some b->(Value.ref C::bm).contains v=b:=by
 unfold W.excIn at q;split at q
 ·rename_i dd B o r;split at q
  ·rename_i D bm k0 k1 k2 k3 n k5 u p;simp only[qnK,qpj,qn7] at q;obtain⟨⟨⟨⟨⟨rfl,rfl⟩,f⟩,y⟩,i⟩,j⟩:=q;obtain⟨nm,bs,mro,x,w,z,sn,sub,ab,col,A⟩:=B;dsimp only at u f i j;subst u f;obtain rfl:o = [k0,k1,k2,k3,some (.builtin n),k5].toArray:=by
    obtain⟨l⟩:=o;simp only at p;rw[p]
   exact#[bm,x,nm,w,bs,z,sn,sub,ab,col,dd,k0,k1,k2,k3,k5,_,X _ _ r,.of_isNs (W.isNs_of_in X i),W.nsMap_none_of_in X i j,W.tail_of_in X y,λv b e=>by
    unfold W.mroIn W.clsIn at e;rw[r] at e;simpa using e]
  ·cases q
 ·cases q
abbrev lQ:QAE:=[.type "ValueError",.type "Exception",.type "BaseException",.type "object"]
def Ak(K:YZ)(C:J9):Prop:=W.excIn K C lQ "ValueError.__new__" = true
def qa2(C:J9)(E:XK)(e:TA):TS:=λ_ σ H=>e σ H λc f=>c.length<=sizeLine/\E (.ref C) none f
@[simp ↓] theorem qh2 C E c D σ H:qa2 C E c D σ H=c σ H λvs e=>vs.length<=sizeLine/\E (.ref C) none e:=rfl
def Pg{X:Cx}{E:XK}{C:J9}{x:Str}{G c pos:Pos}{e:rz}{f:wZ}{u:TA}(hL:Lets X E)(n:X.ex=[])(hc:X.calm=true)(cl:Ak X.K C)(Y:Gl X x)(U:X.mg x=some (.ref C))(ha:PA X (e::f) u)
  (o:(x == ("__debug__" : Str))=false:=by decide) (T:starEach (e::f) X.env=(false,eval e X.env)::starEach f X.env:=by rfl) (l:(backTo c (starEach (e::f) X.env)).any (·.1)=false:=by rfl) :
  PS X (.Raise (some (.Call (.Name x G) (e::f) [] c)) none pos) (qa2 C E u):=by
 intro p_ s σ H D I h;obtain⟨bm,N,nm,q,bs,hdct,sn,sub,ab,col,dd,k0,k1,k2,k3,k5,mN,r,p,m,y,_⟩:=Lb I.ok.mod.Nt cl;refine wpAny_Raise_call_subT (bm:=bm) (N:=N) (nm:=nm) (q:=q) (bs:=bs) (hdct:=hdct) (sn:=sn) (sub:=sub) (ab:=ab) (col:=col) (dd:=dd) (k0:=k0) (k1:=k1) (k2:=k2) (k3:=k3) (k5:=k5) (mN:=mN) (C:=C) qpS (y.hasType (by decide)) (I.ok.hd hc) l m ?_;refine mW I Y U #[rfl,?_] o;have w:=λQ q=>ha c p_ s σ H Q I q;rw[T] at w⊢;show wpAny _ _ (evalArgs (.ref C) true ((false,eval e X.env)::backTo c (starEach f X.env)) []) _ _ s;refine Calls.evalArgs_plain (cG (w _ h) λus v A=>?_);obtain⟨vs,z,i,B,J,hE⟩:=A;refine#[rfl,by rw[<- B.length];exact J,i.bk _ _ r,p.keeps i.bk,y.keeps i.bk,λh' a j=>?_];obtain⟨t,O,M,L⟩:=j.there;have I2:Inv X p_ σ z {v with heap:=h',toks:=v.toks}:=i.kept j.keeps;exact hL p_ σ z _ a C none I2 #[i.old n j.new,Sh i.hok j.new,_,_,O,rfl,rfl,rfl,.inl rfl] hE
def cW.okE{P:qd}{w:lW}{K:YZ}{mg:Y4}{base:oY}{x e:Str}{st:Stmt}{f:J9}{m:sH}{N ps:QAH}{k:Nat}{sp:Sp}(F:cW K x e st f m)(S:aW N ps (aB st))(len:∀vs H Q E,sp vs H Q E->vs.length=ps.length)
  (i:∀(h:eH)(A:lY)(c:List Env)(s:Y5)(H:Hp)(vs:QA0)(Q:VK)(E:XK),fQ k (A.deeper (envOfC e (aB st) s.heap.objs.size f h))->sp vs H Q E->
   ∃t,GZ (aq (Xg P w) P w K mg base N e (aB st) f h A c s H E) (gk st) t/\t {nx:=λ_ u=>Q .non u,rt:=Q} (start N vs) H):bT P w K mg base (Xg P w) (k+1) f m ps sp:=by
 obtain⟨z,y,kV,r,v,C,h,B,n,rfl,o,l⟩:=F.ex;exact ZF o l S len λA c s H vs Q E p j=>i h A c s H vs Q E p j
def Inv.gone{X:Cx}{p_:QAC}{σ:St}{H:Hp}{s:Y5}{h':oY}{t':Nat}{ch:tR}(I:Inv X p_ σ H s)(N:X.ex=[])
  (j:∀b∈ch,X.s₀.heap.get? b=none/\H b=none/\(∀vs o,s.heap.get? b=some o->o.data = .fields vs->True)/\(∃o vs,s.heap.get? b=some o/\o.data = .fields vs)/\∀p∈X.pn++p_,p.1≠b)
  (k1:∀b o,b∉frs X.stack->b∉ch->s.heap.get? b=some o->h'.get? b=some o) (k2:∀b o,s.heap.get? b=some o->(∀vs,o.data≠.fields vs)->∃w,h'.get? b=some {o with slots:=w}) :
  Inv X p_ σ H {s with heap:=h',toks:=t'}:=by
 have nf:∀{b o},s.heap.get? b=some o->(∀vs,o.data≠.fields vs)->b∉ch:=λ{b o} e O f=>by
  obtain⟨_,_,_,⟨o2,vs,A,d2⟩,_⟩:=j b f;rw[e] at A;cases A;exact O vs d2
 have E:∀{b:J9}{o:Obj},b∈frs X.stack->s.heap.get? b=some o->∃w,h'.get? b=some {o with slots:=w}:=λ{b o} f e=>by
  obtain⟨_,o2,A,O⟩:=I.stack.mem f;rw[e] at A;cases A;exact k2 b o e O
 have Q:∀{b:J9}{o:Obj},b∉ch->s.heap.get? b=some o->∃T,h'.get? b=some T:=λ{b o} f e=>by
  by_cases G:b∈frs X.stack
  ·obtain⟨w,z⟩:=E G e;exact#[_,z]
  ·exact#[o,k1 b o G f e]
 have old:∀{b:J9}{o:Obj},X.s₀.heap.get? b=some o->b∉ch:=λe f=>by
  rw[(j _ f).1] at e;cases e
 have M:∀{b:J9}{o:Obj},X.s₀.heap.get? b=some o->b∉X.fs->b∉frs X.stack:=λ{b o} e f h=>by
  rcases qnc.mp (I.xg b h) with z|z
  ·rw[z] at e;exact absurd (qm9 e) (Nat.not_lt.mpr I.ok.above)
  ·exact f z
 have UL:∀b:Addr,b∉X.ex:=λb=>by rw[N];simp
 have cells:∀{c:J9}{v:QAG},s.heap.IsCell c v->h'.IsCell c v:=λ{c v} ⟨o,e,d⟩=>by
  obtain⟨w,z⟩:=k2 c o e (λvs q=>by rw[d] at q;cases q);exact#[_,z,d]
 have B:∀{b:J9},b∈X.fs->b∈frs X.stack:=λ{b} f=>by
  rcases I.ok.stk with e|⟨e,G⟩
  ·rw[e];exact f
  ·rw[e];show b∈List.filterMap _ (X.env::X.outer);rw[qpX,G];exact qm_ _ f
 refine#[I.ok,I.os,I.bare,#[λb o e n f D=>?_,λb o e n f D=>?_,I.base.free,λb o e D=>?_,I.base.tups,I.base.ug,I.base.uh],?_,λx c e=>?_,I.free,I.iR,λp U=>?_,λb u e=>?_,I.len]
 ·exact k1 b o (M e f) (old e) (I.base.keep b o e n f D)
 ·obtain⟨w,z⟩:=I.base.slot b o e n f D;obtain⟨L,Y⟩:=E (B f) z;exact#[L,Y]
 ·obtain⟨T,z⟩:=I.base.there b o e D;exact Q (old e) z
 ·obtain⟨m,⟨o,es,ep,e,d,r⟩,q⟩:=I.loc;obtain⟨w,z⟩:=k2 _ o e (λvs y=>by rw[d] at y;cases y);refine#[m,#[_,es,ep,z,d,r],λi x v e1 A e3=>?_];obtain⟨u,rv,l⟩:=q i x v e1 A e3;refine#[u,rv,?_]
  rcases l with l|⟨kd,c,ec,y⟩
  ·exact .inl l
  ·exact .inr #[kd,c,ec,cells y]
 ·obtain⟨v,z⟩:=I.cell x c e;exact#[v,cells z]
 ·obtain⟨e,n,ne,C,d⟩:=I.pin p U;refine#[k1 _ _ (λh=>?_) (λh=>(j _ h).2.2.2.2 p U rfl) e,n,ne,C,d]
  rcases qnc.mp (I.xg _ h) with z|z
  ·exact ne z
  ·exact C z
 ·have no:∀{c:J9}{u:HO},H c=some u->c∉frs X.stack/\c∉ch:=λ{c u} q=>#[λh=>(by rw[I.CG _ h] at q;cases q),λh=>(by rw[(j _ h).2.1] at q;cases q)];refine(I.hok b u e).stay (λc v J q=>?_) (λc q=>q) λc xs q=>q
  rcases J with rfl|J
  ·exact k1 _ _ (no e).1 (no e).2 q
  ·exact k1 _ _ (no J).1 (no J).2 q
end
end L2
namespace L2
open PySem PySem.Spec PySem.W PyProof.Rows
section
variable {prog:qd}{w:lW}{A:lY}{E:QAB}{K:YZ}{h:oY}{g:Array GenState}{d:Drawn}{t:Nat}{os:OsState}{x C:J9}
structure su(K:YZ)(C:J9):Prop where
 ga:findIn K (.ref C) "__getattribute__" = some (some (.builtin "BaseException.__getattribute__"))
 gn:findIn K (.ref C) "__getattr__" = some none
 cl:findIn K (.ref C) "__class__" = some (some (.builtin "object.__class__"))
 sp:specialIn K (.builtin "object.__class__") "__get__" = some (some (.builtin "getset_descriptor.__get__"))
 tk:takesIn K (.builtin "object.__class__")=some true
 mo:mroIn K C (.type "object")=some true
 mb:mroIn K C (.type "BaseException")=some true
def kW(x C:J9)(h:oY):Prop:=∃c e,h.get? x=some c/\c.cls = .ref C/\c.data = .fields e
def kW.type{M:Model}(e:kW x C h):Looks M h (typeOf (.ref x)) (.ref C):=by
 obtain⟨j,i,f,c,_⟩:=e;exact c▸(Looks.ld f).andThen .now
def qdc{R:Result->Shared->Prop}{i:eH}(X:K.In h)(I:kW x C h)(L:su K C)(j:R (.ok (.ret (.ref C))) #[h,g,d,t,os]) :
  codeAny (model prog w) A (.call (.builtin "getset_descriptor.__get__") #[[.builtin "object.__class__",.ref x,i],[]]) R #[h,g,d,t,os]:=by
 have e:=I.type (M:=model prog w);have f:=looks_mroIn (M:=model prog w) X L.mo;have c:(#[h,g,d,t,os]:Shared).TypeIs (.builtin "object.__class__") "getset_descriptor" :=F.typeOf_object_class;refine qoI F.slot_gs_get.plain F.entry_gs_get (F.slot_gs_get.check _ _ _ _ _ _ _ _ c (F.args_gs_get _ _ _) ?_)
 repeat (any_goals (first|assumption|with_reducible refine e.at ?_|with_reducible refine f.at ?_|wp_step))
 rw[show(".".intercalate ("object.__class__".cutAt '.').dropLast) = "object" by decide+kernel];refine f.at ?_
 repeat (any_goals (first|assumption|with_reducible refine e.at ?_|wp_step))
 refine#[qpy _ (by decide+kernel),qo3 KF.entry_class ?_];unfold Builtin.«object.__class__»
 repeat (any_goals (first|assumption|with_reducible refine e.at ?_|wp_step))
def Xh{tk:Tok}{Q:PySem.Fin->Shared->Prop}(X:K.In h)(I:kW x C h)(L:su K C)(i:Q (.done (.ret (.ref C))) #[h,g,d,t,os]) :
  wpAny (model prog w) A (Builtin.«object.__getattribute__» #[[.ref x,.str "__class__" tk],[]]) Q E #[h,g,d,t,os]:=by
 have f:=I.type (M:=model prog w);have e:=looks_findIn (M:=model prog w) X L.cl;have c:(#[h,g,d,t,os]:Shared).TypeIs (.builtin "object.__class__") "getset_descriptor" :=F.typeOf_object_class;have m:=F.typeOf_object_class;have l:=F.slot_gs_get.lookup;have j:=F.slot_gs_set.lookup
 repeat (any_goals (first|assumption|with_reducible refine f.at ?_|with_reducible refine e.at ?_|wp_step))
 refine qdc X I L ?_
 repeat (any_goals (first|assumption|wp_step))
def Xi{M:Model}{c:eH}{Q:QAJ}(X:K.In h)(I:kW x C h)(L:su K C)(f:Q () #[h,g,d,t,os]) :
  wpAny M A (checkBuiltinCall "BaseException.__getattribute__" #[[.ref x,c],[]]) Q E #[h,g,d,t,os]:=by
 have i:builtinKind "BaseException.__getattribute__" = some .slot:=by decide+kernel
 have e:splitId "BaseException.__getattribute__" = some ("BaseException", "__getattribute__"):=by decide+kernel
 have l:=I.type (M:=M);have j:=looks_mroIn (M:=M) X L.mb;have m:=F.args_bexc_ga (.ref x) c;simp only[checkBuiltinCall,i,e];refine qm3 ?_;unfold isInstance
 repeat (first|with_reducible refine l.at ?_|with_reducible refine j.at ?_|wp_step)
 exact f
def qf4{tk:Tok}{fill:Bool}{Q:QAB}(X:K.In h)(I:kW x C h)(L:su K C)(j:Q (.ref C) #[h,g,d,t,os]) :
  wpAny (model prog w) A (getAttrBy (.ref x) (.str "__class__" tk) fill) Q E #[h,g,d,t,os]:=by
 have i:=I.type (M:=model prog w);have f:=looks_findIn (M:=model prog w) X L.ga;have L2:=looks_findIn (M:=model prog w) X L.gn;have l:=(F.attrBase_ValueError.ga).bind (.ref x);have c:(Value.builtin "BaseException.__getattribute__" == Value.builtin "object.__getattribute__")=false:=by decide+kernel
 have e:(onTheHeap (Value.ref C) && Value.builtin "BaseException.__getattribute__" == Value.builtin "object.__getattribute__")=false:=by rw[c];rfl
 repeat (any_goals (first|assumption|with_reducible refine i.at ?_|with_reducible refine f.at ?_|with_reducible refine L2.at ?_|wp_step))
 refine qoI F.attrBase_ValueError.ga.plain F.entry_bexc_ga (Xi X I L (Xh X I L ?_))
 repeat (any_goals (first|assumption|wp_step))
def Xj{s:Y5}{Q:QAG->Shared->Prop}(X:K.In s.heap)(I:kW x C s.heap)(L:su K C)(c:Q (some (.ref C)) {s with toks:=s.toks+1}) :
  wpAny (model prog w) A (getAttr? (.ref x) "__class__") Q E s:=by
 obtain⟨h,g,d,t,os⟩:=s;unfold getAttr? getAttrBy?
 repeat (any_goals (first|assumption|with_reducible apply qf4 X I L|wp_step))
end
def qa3{K:YZ}{x C:J9}{r:ClassData}(c:clsIn K C=some r)(L:su K C):KitX K (.ref x) (.ref C) (kW x C) where
 ty:=λM h _ e=>e.type
 it:=λ_ _ X _=>by
  unfold clsIn at c;split at c
  ·rename_i s p l f j;intro B y A v k q;unfold isType loadHead;exact qm3 (wpAny_loadPart (k _ _ (X _ _ j)) (qm8 q))
  ·cases c
 ne:=λh m w o n u X i=>by
  refine Bool.eq_false_iff.mpr λq=>?_;have e:C=m:=Value.ref.inj (qpj.mp q);subst e;unfold clsIn at c;split at c
  ·rename_i s p l f j;have z:=(X _ _ j).symm.trans i;cases z
  ·cases c
 ca:=λX e k=>Xj X e L k
end L2
namespace L2
open PySem PySem.Spec PyProof.Rows
def Cx.caught(X:Cx)(a:J9):Cx:={X with A:=X.A.mark (some (.ref a)),calm:=false,xe:=λ_ _=>False}
def Cx.tried(X:Cx)(pn:QAC)(xe:QAB):Cx:={X with pn:=pn,xe:=xe}
section
variable {X:Cx}{p_:QAC}{σ:St}{H:Hp}{s:Y5}
theorem Inv.caught(I:Inv X p_ σ H s)(a:J9):Inv (X.caught a) p_ σ H s:=
 #[#[I.ok.mod,I.ok.kind,I.ok.glob,I.ok.blt,I.ok.above,I.ok.inj,I.ok.has,I.ok.cab,λz=>(nomatch z),I.ok.frames,I.ok.stk,I.ok.exf,I.ok.bs,I.ok.UG,I.ok.Nu,I.ok.Nv,I.ok.um,I.ok.YW],I.os,I.bare,I.base,I.loc,I.cell,I.free,I.iR,I.pin,I.hok,I.len]
def Inv.uncaught{a:J9}{e:Y5}(I:Inv X p_ σ H s){c:St}{f:Hp}(J:Inv (X.caught a) p_ c f e):Inv X p_ c f e:=
 #[I.ok,J.os,J.bare,J.base,J.loc,J.cell,J.free,J.iR,J.pin,J.hok,J.len]
theorem Inv.tried(I:Inv X p_ σ H s)(e:QAB):Inv (X.tried (X.pn++p_) e) [] σ H s:=
 #[#[I.ok.mod,I.ok.kind,I.ok.glob,I.ok.blt,I.ok.above,I.ok.inj,I.ok.has,I.ok.cab,I.ok.hd,I.ok.frames,I.ok.stk,I.ok.exf,I.ok.bs,I.ok.UG,I.ok.Nu,I.ok.Nv,I.ok.um,I.ok.YW],I.os,I.bare,I.base,I.loc,I.cell,I.free,I.iR,λp c=>I.pin p (by rw[qnC] at c;exact c),I.hok,I.len]
def Inv.yZ{h:QAB}{j:QAC}{e:Y5}(I:Inv X p_ σ H s){c:St}{f:Hp}(J:Inv (X.tried (X.pn++p_) h) j c f e):Inv X p_ c f e:=
 #[I.ok,J.os,J.bare,J.base,J.loc,J.cell,J.free,J.iR,λp i=>J.pin p (qnG _ i),J.hok,J.len]
def Takes(X:Cx)(e:QAC)(c:QAB)(R:St->Addr->Option Addr->Hp->Prop):Prop:=
 ∀(p_:QAC)(σ:St)(H:Hp)(s:Y5)(a C:J9)(f:dR)(T:J9),Inv (X.tried e c) p_ σ H s->qa0 X.s₀.heap s.heap H a C f T->(∀p∈e,p.1≠a/\p.1≠T)->R σ C f H->c (.ref a) s
def qa4(sp:Sp)(R:St->Addr->Option Addr->Hp->Prop)(t:TA):TE:=λσ H Q=>t σ H λc f=>RW sp c f Q #[0] (λv e h=>∃C,v = .ref C/\R σ C e h)
@[simp ↓] theorem qh3 sp R t σ H Q:qa4 sp R t σ H Q=t σ H λvs e=>RW sp vs e Q #[0] (λv c f=>∃C,v = .ref C/\R σ C c f):=rfl
def qa5{k:Nat}{f:J9}{N:sH}{ps:QAH}{sp:Sp}{x:Str}{p pos:Pos}{e:rz}{m:wZ}{t:TA}{v:QAC}{n:QAB}{R:St->Addr->Option Addr->Hp->Prop}
  (hx:Takes X v n R) (J:X.ex=[]) (F:bT X.prog X.w X.K X.mg X.base (Xg X.prog X.w) k f N ps sp) (hr:fQ k X.A) (hg:Gl X x) (hm:X.mg x=some (.ref f)) (hk:W.keepIn X.K (.ref f)=true) (hb:Binds X.K N ps [])
  (ha:PA (X.tried v n) (e::m) t) (L:(x == ("__debug__" : Str))=false:=by decide) (he:starEach (e::m) X.env=(false,eval e X.env)::starEach m X.env:=by rfl) (D:(backTo pos (starEach m X.env)).any (·.1)=false:=by rfl) :
  PE (X.tried v n) (.Call (.Name x p) (e::m) [] pos) (qa4 sp R t):=by
 intro p_ s σ H Q I h;refine qom (mW I hg hm ?_ L);refine W.callWith_K (h₀:=X.base) I.ok.mod.Nt hk (cG (ha pos p_ s σ H _ I h) λo B U=>?_) he D;obtain⟨Y,H1,i,r,q⟩:=U;refine#[i.pA,?_];have hl:o.length=ps.length:=by rw[<- r.length];exact F.len _ _ _ _ q
 have l:=hb B o i.pA (by rw[qnC];exact hl);rw[qnC] at l;refine qpb (qor (F.run X.A X.stack B H1 #[o,[]] o Y Q _ hr i.env0 l r q) λrr M j=>?_);cases rr with
 |error e=>
  obtain⟨a,C,od,O,rfl,ho,G,un,E,⟨T,c⟩,C',e2,hR⟩:=j;cases e2;have I':Inv (X.tried v n) p_ σ O M:=i.call' (ch:=[]) ho un E G λb z=>(nomatch z);have old:∀b,B.heap.get? b=none->X.s₀.heap.get? b=none:=λb z=>i.old J z;refine hx p_ σ O M a C od T I' #[old _ c.new,old _ c.newT,c.un,c.unT,c.ob] (λp hp=>?_) hR;have y:=(i.pin p (qnG _ hp)).1;exact#[λz=>(by rw[z,c.new] at y;cases y),λz=>(by rw[z,c.newT] at y;cases y)]
 |ok fl=>
  cases fl with
  |ret u=>exact i.after j
  |next=>exact False.elim j
  |brk=>exact False.elim j
  |cont=>exact False.elim j
def xM(x C:J9)(f:dR)(h:oY):Prop:=∃c e,h.get? x=some c/\(c.cls,c.dict)=(Value.ref C,f)/\c.data = .fields e/\e[2]? = some .none
def xM.at{x C:J9}{i:dR}{h:oY}(e:xM x C i h):kW x C h:=by
 obtain⟨f,c,m,l,j,n⟩:=e;exact#[f,c,m,qnH Prod.fst l,j]
def Al(a C:J9)(c:dR):HO:=.ext λh=>xM a C c h
def Ek(K:YZ)(C:J9):Prop:=∀h,K.In h->∃f N j q bs c i sub u e r p o n m l,h.get? C=some (excClassObj j q C N bs f c i sub u e r p o n m l "ValueError.__new__")/\∀v b,W.mroIn K C v=some b->(Value.ref C::f).contains v=b
def Inv.track{a C:J9}{G:dR}(I:Inv X p_ σ H s)(B:X.ex=[])(new:X.s₀.heap.get? a=none)(un:H a=none)(e:xM a C G s.heap)(N:∀p∈X.pn++p_,p.1≠a):Inv X p_ σ (upd H a (Al a C G)) s:=by
 have J:∀{b o},s.heap.get? b=some o->(∀h,o.data≠.fields h)->b≠a:=λ{b o} f O z=>by
  subst z;obtain⟨l,h,j,_,L,_⟩:=e;rw[f] at j;cases j;exact O h L
 have UL:∀b:Addr,b∉X.ex:=λb=>by rw[B];simp
 have old:∀{b o},X.s₀.heap.get? b=some o->b≠a:=λ{b o} f z=>by
  rw[z,new] at f;cases f
 have ne:∀{b:J9}{u:HO},H b=some u->b≠a:=λ{b u} q z=>by
  rw[z,un] at q;cases q
 refine#[I.ok,I.os,I.bare,#[λb o f n w A=>I.base.keep b o f n w A,I.base.slot,λb o f n A=>?_,I.base.there,λb E q=>?_,λb o u q=>?_,λb M q=>?_],I.loc,I.cell,?_,λx c q=>?_,λp i=>?_,λb u q=>?_,I.len]
 ·rw[aF (old f)];exact I.base.free b o f n A
 ·have z:=I.base.tups b E q;rw[aF (ne z)];exact z
 ·have z:=I.base.ug b o u q;rw[aF (ne z)];exact z
 ·obtain⟨m,z⟩:=I.base.uh b M q;exact#[m,by rw[aF (ne z)];exact z]
 ·obtain⟨m,⟨o,es,ep,D,d,r⟩,_⟩:=I.loc;rw[aF (J D λh y=>by rw[d] at y;cases y)];exact I.free
 ·obtain⟨v,o,D,d⟩:=I.cell x c q;rw[aF (J D λh y=>by rw[d] at y;cases y)];exact I.iR x c q
 ·obtain⟨Y,U,T⟩:=I.pin p i;refine#[Y,?_,T];rw[aF (N p i)];exact U
 ·by_cases w:b=a
  ·subst w;rw[ak] at q;cases q;obtain⟨l,h,j,Q,L,_⟩:=id e;exact#[e,#[l,j],λj Q ⟨l,h,a1,a2,a3⟩ k=>#[l,h,k _ a1,a2,a3]]
  ·rw[aF w] at q;refine(I.hok b u q).stay (λc v _ z=>z) (λc z=>?_) λc E z=>?_
   ·rw[aF (ne z)];exact z
   ·rw[aF (ne z)];exact z
def Xk{M:Model}{A:lY}{E:QAB}{i:Nat}{n:Str}{v:V}{Q:QAJ}(I:Inv X p_ σ H s)(hN:X.N.Nodup)(J:X.N[i]? = some n)(C:X.env.scope.names.lookup n=some .local)(hv:σ[i]? = some (some v))
  (h:∀U,Inv X p_ (σ.set i none) H U->Q () U):wpAny M A (unbindName X.env n) Q E s:=by
 obtain⟨m,Y,q⟩:=id I.loc;obtain⟨u,rv,l⟩:=q i n v J hv (.inl C);have hm:m n=some u:=by
  rcases l with⟨_,l⟩|⟨k,c,_⟩
  ·exact l
  ·rcases k with k|k
   ·have:X.env.kindOf n=some .local:=C;rw[k] at this;cases this
   ·have:X.env.kindOf n=some .local:=C;rw[k] at this;cases this
 have B:(X.env.scope.kind == .class || (X.env.scope.kind == .module && X.env.locals != X.env.globals))=false:=by rw[I.ok.kind];rfl
 have x:i<σ.length:=by rw[I.len];exact(qm2.mp J).1
 refine wpAny_unbindName_local C Y hm B λh' u' G r=>?_;obtain⟨oL,_,_,a0,_⟩:=id Y;have f:∀b o,X.s₀.heap.get? b=some o->b≠X.env.locals:=λb o e=>qnf (qnj (qm9 e) I.ok.above);refine h _ #[I.ok,I.os,I.bare,#[λb o e n O w=>?_,λb o e n O w=>?_,I.base.free,λb o e w=>?_,I.base.tups,I.base.ug,I.base.uh],#[_,G,λj y v' e1 D e3=>?_],λy c e=>?_,I.free,I.iR,λp hp=>?_,λb ob e=>?_,by simpa using I.len]
 ·exact(r.2 b (f b o e)).trans (I.base.keep b o e n O w)
 ·obtain⟨sl,z⟩:=I.base.slot b o e n O w;exact#[sl,(r.2 b (f b o e)).trans z]
 ·obtain⟨o',z⟩:=I.base.there b o e w;exact#[o',(r.2 b (f b o e)).trans z]
 ·have hj:j≠i:=λz=>by
   subst z;rw[qpx x] at D;cases D
  rw[List.getElem?_set_ne (qoE hj)] at D;obtain⟨u2,r2,l2⟩:=q j y v' e1 D e3;refine#[u2,r2,?_]
  rcases l2 with⟨k,e⟩|⟨k,c,e,z⟩
  ·have:y≠n:=λe=>hj (Dm hN e1 (e▸J));exact .inl #[k,by simp[this,e]]
  ·exact .inr #[k,c,e,z.sameBut r (I.cne y c e)]
 ·obtain⟨T,z⟩:=I.cell y c e;exact#[T,z.sameBut r (I.cne y c e)]
 ·obtain⟨e,n,ne,nf,d⟩:=I.pin p hp;exact#[(r.2 p.1 ne).trans e,n,ne,nf,d]
 ·have no:∀{c:J9}{u:HO},H c=some u->c≠X.env.locals:=λ{c u} q z=>by
   rw[z,I.free] at q;cases q
  refine(I.hok b ob e).stay (λc T L q=>(r.2 c ?_).trans q) (λ_ q=>q) λ_ _ q=>q
  rcases L with rfl|L
  ·exact no e
  ·exact no L
end
section
variable {M:Model}{A:lY}{E:QAB}{h:oY}{g:Array GenState}{d:Drawn}{t:Nat}{os:OsState}
variable {nm q:Str}{C N:J9}{bs bm:QAE}{hdct:Bool}{sn:QAH}{sub:QAE}{ab:Bool}{col:Option Bool}{dd:dR}{k0 k1 k2 k3 k5:QAG}{newId:String}
variable {nm' q':Str}{D N':J9}{bs' bm':QAE}{qeo:Bool}{sn':QAH}{sub':QAE}{ab':Bool}{col':Option Bool}{dd':dR}{j0 j1 j2 j3 j5:QAG}{newId':String}
def Xl{e:J9}{n:Obj}{Q:Bool->Shared->Prop}(s:h.get? C=some (excClassObj nm q C N bs bm hdct sn sub ab col dd k0 k1 k2 k3 k5 newId))
  (o:h.get? D=some (excClassObj nm' q' D N' bs' bm' qeo sn' sub' ab' col' dd' j0 j1 j2 j3 j5 newId')) (r:h.get? e=some n) (i:n.cls = .ref C) (c:bm'.contains (.type "BaseException")=true) (j:bm.contains (.ref D)=true)
  (p:Q true #[h,g,d,t,os]):wpAny M A (excMatches (.ref e) (.ref D)) Q E #[h,g,d,t,os]:=by
 have l:(Value.ref D::bm').contains (.type "BaseException")=true:=by rw[List.contains_cons,c,Bool.or_true]
 have m:(Value.ref C::bm).contains (.ref D)=true:=by rw[List.contains_cons,j,Bool.or_true]
 have f:=tc_notTuple;unfold excMatches
 repeat (first|(with_reducible refine qoZ r ?_;rw[i])|with_reducible refine qoZ o ?_|(with_reducible refine wpAny_isSubtype_exc o ?_;rw[l])|(with_reducible refine wpAny_isSubtype_exc s ?_;rw[m])|wp_step)
 exact p
end
def qa6(i:Nat)(K:YZ)(D:J9)(l:Addr->TS)(f:Ends):St->Addr->Option Addr->Hp->Prop:=λh C m j=>(Ek K C/\W.mroIn K C (.ref D)=some true/\C≠D)/\∀a,j a=none->
  l a {nx:=λc e=>f.nx (c.set i none) e,rt:=f.rt,bk:=λc e=>f.bk (c.set i none) e,ct:=λc e=>f.ct (c.set i none) e} (h.set i (some (.ref a))) (upd j a (Al a C m))
def qh4(i:Nat)(K:YZ)(D:J9)(f:Addr->TS)(tb:(St->Addr->Option Addr->Hp->Prop)->TS):TS:=λc e H=>tb (qa6 i K D f c) c e H
section
variable {X:Cx}{body suite:List Stmt}{b₀:Stmt}{i:Nat}{n cls:Str}{np hpos pos:Pos}{D:J9}{ts:Addr->TS}{tb:(St->Addr->Option Addr->Hp->Prop)->TS}
def qf5(ae:X.stack=X.env::X.outer)(b0:X.env.frame=some X.env.locals)(ah:X.ex=[])(hN:X.N.Nodup)(hi:X.N[i]? = some n)(hl:X.env.scope.names.lookup n=some .local)
  (U:∀R pn xe,Takes X pn xe R->GZ (X.tried pn xe) body (tb R)) (hg:Gl X cls) (hm:X.mg cls=some (.ref D)) (b9:Ak X.K D) (ax:∀a,GZ (X.caught a) (b₀::suite) (ts a))
  (b6:(cls == ("__debug__" : Str))=false:=by decide) :
  PS X (.Try body [.ExceptHandler (some (.Name cls np)) (some n) (b₀::suite) hpos] [] [] pos) (qh4 i X.K D ts tb):=by
 intro E s σ H Dn I h;have ag:∀{c:St}{j:Hp}{G:Y5},Inv X E c j G->i<c.length:=λJ=>by rw[J.len];exact(qm2.mp hi).1
 refine wpAny_Try_except (qn8 (U (qa6 i X.K D ts Dn) (X.pn++E) (λe l=>∃a C Q T m M,e = .ref a/\Inv X E m M l/\qa0 X.s₀.heap l.heap M a C Q T/\(∀p∈X.pn++E,p.1≠a/\p.1≠T)/\qa6 i X.K D ts Dn m C Q M) ?_ [] s σ H Dn (I.tried _) h) (λf l y=>?_) λe l hx=>?_)
 ·intro Dl m M l a C Q T J ex hp hR;exact#[a,C,Q,T,m,M,rfl,I.yZ J,ex,hp,hR]
 ·cases f with
  |next=>obtain⟨c,j,J,q⟩:=y;exact qpD #[c,j,I.yZ J,q]
  |brk=>obtain⟨c,j,J,q⟩:=y;exact#[c,j,I.yZ J,q]
  |cont=>obtain⟨c,j,J,q⟩:=y;exact#[c,j,I.yZ J,q]
  |ret u=>obtain⟨v,c,j,J,r,q⟩:=y;exact#[v,c,j,I.yZ J,r,q]
 ·obtain⟨a,C,Q,T,m,M,rfl,J,ex,hp,⟨ba,b7,ay⟩,hR⟩:=hx;obtain⟨new,ac,un,am,oe,vs,oT,a0,t1,t2,t3,t4,t5,t6,t7,t8,t9⟩:=ex;have fr:=J.ok.frames;rw[ae] at fr;have ar:(W.hideAll l.heap (frs X.stack++[a,T])).StaysIn l.heap:=λb o e=>W.of_hideAll _ e;have na:(W.hideAll l.heap (frs X.stack++[a,T])).get? a=none:=qpM _ (by simp);have ff:l.heap.FunFrames (W.hideAll l.heap (frs X.stack++[a,T])) (X.env::X.outer):=by
   rw[<- ae];exact W.funFrames_hide J.stack λb8 he b U=>qnG _ (List.mem_filterMap.mpr #[b8,he,U])
  have ap:Trc (W.hideAll l.heap (frs X.stack++[a,T])) l.heap a (.ref C,Q) .none T:=#[oe,vs,oT,a0,t1,t2,t3,t4,t5,qpM _ (by simp),t6,t7,t8,t9];have gone:∀(h':oY),(W.hideAll l.heap (frs X.stack++[a,T])).StaysIn h'->l.heap.UpToSlots h'->Inv X E m M {l with heap:=h'}:=λh' k1 k2=>by
   refine J.gone (t':=l.toks) (ch:=[a,T]) ah (λb U=>?_) (λb o y hc e=>k1 b o (W.hideAll_get _ e (by rw[qnw];exact λz=>z.elim y hc))) λb o e hd=>k2 b o e hd;simp only[qnc,qnF,qoD] at U
   rcases U with rfl|rfl
   ·exact#[new,un,λ_ _ _ _=>trivial,#[oe,vs,t1,t3],λp q=>(hp p q).1]
   ·exact#[ac,am,λ_ _ _ _=>trivial,#[oT,a0,t7,t8],λp q=>(hp p q).2]
  refine Jc fr ff b0 ap ar na λh4 Y=>?_;obtain⟨T4,an⟩:=Y.trc;refine Ej (s:={l with heap:=h4}) Y.frames an Y.stays λh5 O=>?_;obtain⟨T5,aa⟩:=O.trc;have J5:=gone h5 O.stays (Y.slots.trans O.slots);refine wpAny_handleBy_cons (codeAny_handlers_test (mW (J5.caught a) hg hm ?_ b6)) (by intro q;cases q);obtain⟨br,bg,bu,bj,u1,u2,u3,_⟩:=id aa;obtain⟨bm,N,nm,q,bs,be,sn,sub,ab,c0,dd,k0,k1,k2,k3,k5,hC,af⟩:=ba _ J5.pA;obtain⟨c2,N',bv,q',c1,bq,bl,bd,c3,bf,bz,j0,j1,j2,j3,j5,bw,hD,bp,bo,bb,_⟩:=Lb J5.pA b9;have az:bm.contains (.ref D)=true:=by
   have z:=af _ _ b7;rw[List.contains_cons] at z
   rcases Bool.or_eq_true_iff.mp z with z|z
   ·exact absurd (Value.ref.inj (qpj.mp z)).symm ay
   ·exact z
  refine Xl hC hD u1 (qnH Prod.fst u2) (bb.hasType (by decide)) az ?_;refine codeAny_handlers_suite_as ?_;refine Ej (s:={l with heap:=h5}) O.frames aa O.stays λh6 x6=>?_;have J6:=gone h6 x6.stays ((Y.slots.trans O.slots).trans x6.slots);obtain⟨T6,aw,al,bt,bi,v1,v2,v3,v4,_⟩:=x6.trc;have J7:=J6.track ah new un #[aw,al,v1,v2,v3,v4] λp q=>(hp p q).1;refine vI J7 hN hi (.inl hl) (v:=.ref a) rfl (λs8 J8 _=>?_) (.inr hl);refine qn8 (ax a E s8 _ _ _ (J8.caught a) (hR a un)) (λf s9 y=>?_) λ_ _ z=>False.elim z;show wpAny (model X.prog X.w) X.A (do bindName X.env n .none;unbindBehindTheSuite X.env n hpos) (λ_ x=>SP X E Dn f x) X.xe s9
  have go:∀{c:St}{j:Hp}(Q':Shared->Prop),Inv X E c j s9->(∀G,Inv X E (c.set i none) j G->Q' G)->wpAny (model X.prog X.w) X.A (do bindName X.env n .none;unbindBehindTheSuite X.env n hpos) (λ_ x=>Q' x) X.xe s9:=λ{c j} Q' B hq=>by
   refine qm3 ?_;unfold bindName;refine qm3 (qoa (wpAny_point (qm3 (vI B hN hi (.inl hl) (v:=.non) rfl (λbn bc _=>wpAny_point ?_) (.inr hl)))));unfold unbindBehindTheSuite;refine wpAny_onRaise (Xk (v:=.non) bc hN hi hl (qpx (ag B)) λav ai=>?_);rw[List.set_set] at ai;exact hq av ai
  cases f with
  |next=>obtain⟨c,j,B,q⟩:=y;exact go _ (I.uncaught B) λG L=>#[_,j,L,q]
  |brk=>obtain⟨c,j,B,q⟩:=y;exact go _ (I.uncaught B) λG L=>#[_,j,L,q]
  |cont=>obtain⟨c,j,B,q⟩:=y;exact go _ (I.uncaught B) λG L=>#[_,j,L,q]
  |ret u=>obtain⟨v,c,j,B,r,q⟩:=y;exact go _ (I.uncaught B) λG L=>#[v,_,j,L,r,q]
end
def Am:entryFor table "proto.unchain" = some Builtin.«proto.unchain»:=entryFor_of_tree (by kernel_rfl)
def Ao(a:J9)(h:oY):Prop:=∃e c,h.get? a=some e/\e.data = .fields c/\c[2]? = some .none
def Ao.to{a:J9}{h h':oY}(x:Ao a h)(k:∀o,h.get? a=some o->h'.get? a=some o):Ao a h':=by
 obtain⟨f,c,e,d,u⟩:=x;exact#[f,c,k _ e,d,u]
section
variable {prog:qd}{w:lW}{A:lY}{E:QAB}{s:Y5}{a:J9}
def qdd{i:Type}{e:J9}{f:Obj}{vs:wY}{Q:i->Shared->Prop}(o:A.handled=some (.ref a))(n:Ao a s.heap)
  (h:s.heap.get? e=some f) (l:f.data = .fields vs) (sz:2<vs.size) (ne:e≠a) (r:∀h',Heap.SameBut e s.heap h'->(∃j,h'.get? e=some j/\j.cls=f.cls)->E (.ref e) {s with heap:=h'}) :
  wpAny (model prog w) A (raiseNew (.ref e):Sem i) Q E s:=by
 obtain⟨z,x,p,v,m⟩:=n;unfold raiseNew;refine qm3 (wpAny_handled ?_);rw[o];dsimp only;rw[if_pos (by simpa using qoE ne)];refine qm3 (qoa (wpAny_runValue (qo3 Am ?_)));unfold Builtin.«proto.unchain»;refine qm3 (qnU p v m ?_);rw[if_pos (by rfl)];refine qm3 (qm8 (qm8 ?_));show wpAny (model prog w) A (do updateField e 2 (.ref a);throw (.ref e)) Q E s
 refine qm3 ?_;unfold updateField;refine qm3 (wpAny_load h ?_);rw[l];dsimp only;rw[if_pos sz];refine wpAny_update h ?_;refine wpAny_throw (r _ (qob ..) #[_,qoB _ h (qpe (qoR l _)),?_]);obtain⟨c,d,u,y⟩:=f;cases u <;> rfl
def Ss{f:Type}{Q:f->Shared->Prop}(v:A.handled=some (.ref a))(u:Ao a s.heap)
  (x:∀h' e,(∀b o,s.heap.get? b=some o->h'.get? b=some o)->(∃o,h'.get? e=some o/\o.cls = .type "StopIteration")->E (.ref e) {s with heap:=h'}) :
  wpAny (model prog w) A (newExc (.type "StopIteration") [] >>= λe=>(raiseNew e:Sem f)) Q E s:=by
 refine qm3 ?_;unfold newExc newTuple;refine qm3 (qoX ?_ (by size_fits));refine qm3 (m:=firstArgMember _ _) (wpAny_of_eq (a:=Value.none) (by first|rfl|(unfold firstArgMember;rfl)) ?_)
 refine qoX ?_ (by size_fits);have lt:∀{b:J9}{o:Obj}(c:Obj),s.heap.get? b=some o->(s.heap.push c).objs.size≠b:=λ{b o} c z=>by
  have q:=qm9 z;rw[qnV];exact qoF (qn6 q)
 have i:∀(c h:Obj){b:J9}{o:Obj},s.heap.get? b=some o->((s.heap.push c).push h).get? b=some o:=λc h {b o} z=>qm4 _ (qm4 _ z);obtain⟨r,l,j,B,n⟩:=u;refine qdd v #[r,l,i _ _ j,B,n] (qne _ rfl) rfl (qnj (by decide) (qnp (qm5 6) ?_)) (lt _ j) λh' p y=>x h' _ (λb o z=>(p.2 b (qoE (lt _ z))).trans (i _ _ z)) y;simp
def El{it l:J9}{c:wY}{i:Nat}{Q:QAB}(v:A.handled=some (.ref a))(p:Ao a s.heap)(f:a≠it)
  (hit:s.heap.IsListIter it l i) (u:s.heap.IsList l c) (r:c[i]? = none) (y:∀h' e,Heap.ExtBut it s.heap h'->(∃o,h'.get? e=some o/\o.cls = .type "StopIteration")->E (.ref e) {s with heap:=h'}) :
  wpAny (model prog w) A (Builtin.SmallTypes.nextOf (.ref it)) Q E s:=by
 obtain⟨G,h,H,j⟩:=id hit;obtain⟨D,C,_,nl,dl⟩:=u;unfold Builtin.SmallTypes.nextOf;refine qm3 (qn_ (name:=Str.ofString "__next__") hit.typeIs slot_listiter_next (qow slot_listiter_next hit.typeIs entry_listiter_next ?_ (args_listiter_next _)));show wpAny (model prog w) _ (field (.ref it) 0 >>= _) _ _ s;refine qm3 (qnU h j (x:=.ref l) rfl ?_);show wpAny (model prog w) _ (if (Value.ref l == Value.none)=true then _ else _) _ _ s
 rw[if_neg (λz=>by cases z)];show wpAny (model prog w) _ (field (.ref it) 1 >>= _) _ _ s;refine qm3 (qnU h j (x:=.int i 0) rfl ?_);show wpAny (model prog w) _ (seqItems? (.ref l) >>= _) _ _ s;refine qm3 (qpd C dl ?_);simp only[qpK,r];refine qm3 (qoS (qm3 (qoV h j (by simp) ?_)));have m:=(qob s.heap it (Obj.mapFields (·.setIfInBounds 0 Value.none))).extBut;exact Ss (A:=A.in1) v (p.to λo z=>m _ _ f z) λh' e k B=>y h' e (λb o n z=>k _ _ (m b o n z)) B
def qa7{it t:J9}{i:Nat}{c}{Q:QAG->Shared->Prop}(v:A.handled=some (.ref a))(p:Ao a s.heap)(f:a≠it)
  (hit:IsTupIter s.heap it t i) (u:IsTup s.heap t c) (r:c[i]? = none)
  (y:∀h',Heap.ExtBut it s.heap h'->Q none {s with heap:=h'}):wpAny (model prog w) A (pyNext (.ref it)) Q E s:=by
 obtain⟨G,j,H,l⟩:=id hit;obtain⟨D,B,_,nl,dl⟩:=u;unfold pyNext;refine qm3 (qpm (qn_ (name:=Str.ofString "__next__") hit.typeIs slot_tupleiter_next (qow slot_tupleiter_next hit.typeIs entry_tupleiter_next ?_ (args_tupleiter_next _))));show wpAny (model prog w) _ (field (.ref it) 0 >>= _) _ _ s;refine qm3 (qnU j l (x:=.ref t) rfl ?_);show wpAny (model prog w) _ (if (Value.ref t == Value.none)=true then _ else _) _ _ s
 rw[if_neg (λz=>by cases z)];show wpAny (model prog w) _ (field (.ref it) 1 >>= _) _ _ s;refine qm3 (qnU j l (x:=.int i 0) rfl ?_);show wpAny (model prog w) _ (seqItems? (.ref t) >>= _) _ _ s;refine qm3 (qpd B dl ?_);simp only[qpK,r];refine qm3 (qoS (qm3 (qoV j l (by simp) ?_)));have m:=(qob s.heap it (Obj.mapFields (·.setIfInBounds 0 Value.none))).extBut;refine Ss (A:=A.in1) v (p.to λo z=>m _ _ f z) λh' e k h=>?_;obtain⟨o,h,C⟩:=h;refine qm3 (qpt (b:=true) #[o,h,C] qpR (qm8 ?_));exact y _ λb o n z=>k _ _ (m b o n z)
def qa8{e:Env}{j:wZ}{k1}{pos:Pos}{t:J9}{c:wY}{Q:QAJ}(y:A.handled=some (.ref a))(r:Ao a s.heap)(i:IsTup s.heap t c)
  (x:(assignEach j e).length=c.size) (m:(assignEach j e).findIdx? (·.1)=none)
  (h:∀h',Heap.ExtBut s.heap.objs.size s.heap h'->wpAny (model prog w) A (assignInOrder ((assignEach j e).map (·.2)) c.toList) Q E {s with heap:=h'}) :
  wpAny (model prog w) A (assign (.Tuple j k1 pos) e (.ref t)) Q E s:=by
 rw[PyProof.Rows.assign_Tuple];refine qm3 (wpAny_standAt ?_);unfold unpack;rw[x,m];refine qm3 (qoa ?_);obtain⟨H,D,B,J,G⟩:=id r;have p:t≠s.heap.objs.size:=by
  obtain⟨o,z,_⟩:=i;exact qnf (qm9 z)
 have v:a≠s.heap.objs.size:=qnf (qm9 B);unfold unpackItems notIterableAtAll;refine qm3 (qm3 (wpAny_specialOf i.typeIs slot_tuple_iter.lookup (qm8 ?_)));simp only[qoe,qpE];refine qm3 (qoa (iter_tuple i ?_));refine qm3 (qoa (draw_tuple p c.size 0 _ _ #[_,qne _ rfl,rfl,rfl] (i.push _) ⋯ λI l f=>?_));have all:(c.toList.drop 0).take c.size=c.toList:=by
  rw[List.drop_zero];exact qon (by simp)
 rw[all,if_neg (by simp)];refine qm3 (qoa (qa7 y (r.to λo z=>f.extBut a o v (qm4 _ z)) v l ((i.push _).extBut f.extBut p) (by simp) λC n=>?_));simp only[Option.isSome_none,qoe,qpE];exact qm8 (h C λb o u z=>n b o u (f.extBut b o u (qm4 _ z)))
def qa9{z TI TO i h I H:J9}{k1 k2:Nat}{xs ys:wY}{p q:eH}{Q:QAG->Shared->Prop}(hh:A.handled=some (.ref a))(la:Ao a s.heap)(D:ZipApart z TI TO i h I H)
  (nz:a≠z) (G:a≠TO) (n1:a≠i) (n2:a≠h) (j:IsZip s.heap z TI TO .none) (N:IsPair s.heap TI (.ref i) (.ref h)) (M:IsPair s.heap TO p q)
  (h1:s.heap.IsListIter i I k1) (h2:s.heap.IsListIter h H k2) (m:s.heap.IsList I xs) (L:s.heap.IsList H ys) (n:xs[k1]? = none\/ys[k2]? = none)
  (hQ:∀h',(∀c o,c≠z->c≠TO->c≠i->c≠h->s.heap.get? c=some o->h'.get? c=some o)->Q none {s with heap:=h'}):wpAny (model prog w) A (pyNext (.ref z)) Q E s:=by
 have hT:s.TypeIs (.ref z) "zip" :=#[_,j,rfl];unfold pyNext;refine qm3 (qpm (qn_ (name:=Str.ofString "__next__") hT F.slot_zip_next (qow F.slot_zip_next hT F.entry_zip_next ?_ (F.args_zip_next_1 _))));show wpAny (model prog w) _ (field (.ref z) 2 >>= _) _ _ _;refine qm3 (qnU j rfl (x:=.bool false) rfl ?_);show wpAny (model prog w) _ (field (.ref z) 3 >>= _) _ _ _;refine qm3 (qnU j rfl (x:=.ref TI) rfl (qm3 (qpd N rfl ?_)));show wpAny (model prog w) _ (Builtin.SmallTypes.ownedTupleIsFree (.ref z) >>= _) _ _ _;refine qm3 ?_;unfold Builtin.SmallTypes.ownedTupleIsFree;refine qm3 (qnU j rfl (x:=.none) rfl (qm8 ?_));simp only[if_true];refine qm3 (qoS (qm3 (qnU j rfl (x:=.ref TO) rfl (qm3 (qot j (by simp) λg1 v s1=>?_)))));replace v:IsZip g1 z TI TO .ellipsis:=v;have b1:=s1.extBut;refine qm3 ?_;simp only[List.zipIdx_cons,List.zipIdx_nil,List.forIn_cons,List.forIn_nil];refine qm3 (qm3 (wpAny_onRaise ?_));show wpAny (model prog w) _ (Builtin.SmallTypes.nextOf (.ref i) >>= _) _ _ _;cases J:xs[k1]? with
 |none=>
  refine qm3 (El (A:=A.in1) hh (la.to λo y=>b1 a o nz y) n1 (h1.extBut b1 D.i1z) (m.extBut b1 D.l1z) J λO e b2 f=>?_);obtain⟨C,f,r⟩:=f;have z2:IsZip O z TI TO .ellipsis:=b2 _ _ D.i1z.symm v;have T:e≠z:=λy=>by
   subst y;rw[z2] at f;cases f;simp at r
  refine qot z2 (by simp) λg3 _ B=>qm3 (qpt (b:=true) #[C,B.extBut _ _ T f,r] qpR (qm8 ?_));exact hQ g3 λc o u _ U _ y=>B.extBut _ _ u (b2 _ _ U (b1 _ _ u y))
 |some x=>
  have hy:ys[k2]? = none:=n.resolve_left λy=>by rw[J] at y;cases y
  refine qm3 (wpAny_nextOf_list_item (h1.extBut b1 D.i1z) (m.extBut b1 D.l1z) J λO aa s2=>qm8 ?_);have b2:=s2.extBut;have l:IsPair O TO p q:=b2 _ _ D.TOi1 (b1 _ _ D.TOz M);refine qm3 (qpd l rfl (qm3 (wpAny_updateSeq_pair l λg3 a0 B=>?_)));have b3:=B.extBut;refine qm3 (wpAny_letGo (qm8 (qm3 (qm3 (wpAny_onRaise ?_)))));show wpAny (model prog w) _ (Builtin.SmallTypes.nextOf (.ref h) >>= _) _ _ _;refine qm3 (El (A:=A.in1) hh (la.to λo y=>b3 a o G (b2 a o n1 (b1 a o nz y))) n2 (((h2.extBut b1 D.i2z).extBut b2 D.i12.symm).extBut b3 D.TOi2.symm) (((L.extBut b1 D.l2z).extBut b2 D.l2i1).extBut b3 D.l2TO) hy λg4 e b4 f=>?_);obtain⟨C,f,r⟩:=f;have Y:IsZip g4 z TI TO .ellipsis:=b4 _ _ D.i2z.symm (b3 _ _ D.TOz.symm (b2 _ _ D.i1z.symm v));have T:e≠z:=λy=>by
   subst y;rw[Y] at f;cases f;simp at r
  refine qot Y (by simp) λg5 _ s5=>qm3 (qpt (b:=true) #[C,s5.extBut _ _ T f,r] qpR (qm8 ?_));exact hQ g5 λc o u c2 U c4 y=>s5.extBut _ _ u (b4 _ _ c4 (b3 _ _ c2 (b2 _ _ U (b1 _ _ u y))))
end
section
variable {X:Cx}{p_:QAC}{σ:St}{H:Hp}{s:Y5}{a:J9}
def Hh(H:Hp)(a:J9):Prop:=∃C c,H a=some (Al a C c)
def Inv.lone(I:Inv X p_ σ H s)(e:Hh H a):Ao a s.heap:=by
 obtain⟨C,l,e⟩:=e;obtain⟨⟨f,c,j,m,i,h⟩,_⟩:=I.hok a _ e;exact#[f,c,j,i,h]
def Hh.ne{b:J9}(e:Hh H a)(h:H b=none):a≠b:=λz=>by
 obtain⟨C,c,e⟩:=e;rw[z,h] at e;cases e
def qep(a:J9)(K:YZ)(n:Nat)(t:HF):TG:=λv σ H Q=>Hh H a/\qc_ K n t v σ H Q
@[simp ↓] theorem qkx a K n t v σ H Q:qep a K n t v σ H Q=(Hh H a/\qc_ K n t v σ H Q):=rfl
def CP{K:YZ}(C:X.K=K)(B:X.A.handled=some (.ref a)){c:wZ}{k:Nat}{pos:Pos}{t:HF}{n:Nat}(h:fL X c t)
  (y:(assignEach c X.env).length=n:=by rfl) (f:(assignEach c X.env).findIdx? (·.1)=none:=by rfl):PG X (.Tuple c k pos) (qep a K n t):=by
 subst C;intro p_ s σ H v u Q I r hw;obtain⟨E,hw⟩:=hw;obtain⟨p,rfl,j,x,z,hw⟩:=isRef.out hw;cases r;obtain⟨l,i,w,J⟩:=I.tuple x;refine qa8 B (I.lone E) w (by simp[y,<- z,i.length]) f λD m=>?_;have G:Inv X p_ σ H {s with heap:=D}:=I.kept (t':=s.toks) λb o e=>m b o (qnf (qm9 e)) e;exact h p_ _ σ H j _ Q G (by simpa using i) hw
end
abbrev qa_(c:J9):=wI λX=>X.A.handled=some (.ref c)
abbrev PIH(c:J9):=PIG λX=>X.A.handled=some (.ref c)
def qde(c:J9)(K:YZ)(a b:J9):It:=#[(WQ K a b).go,(WQ K a b).UW,λi H=>(WQ K a b).stop i H/\Hh H c]
def Xm{c:J9}{P:qd}{w:lW}{K:YZ}{es:wZ}{k:Nat}{pos:Pos}{z TI TO m l a b:J9}(j:m≠l)(x:TI≠TO) :
  qa_ c P w K (.Tuple es k pos) (qde c K a b) [z,TI,TO,m,l] z (Od z TI TO m l a b):=by
 refine Ih j x ?_;intro X hK T i p_ s σ H E I A st U;subst hK;obtain⟨⟨xs,ys,L,J,u⟩,C⟩:=U;have h:∀d∈[z,TI,TO,m,l],c≠d:=λd Y=>C.ne (A d Y).1;obtain⟨N,G,v,Q⟩:=I.list L;obtain⟨y,r,B,O⟩:=I.list J;obtain⟨p,q,n⟩:=st.hO;obtain⟨oa,ea,ca,_⟩:=id v.isList;obtain⟨ob,eb,cb,_⟩:=id B.isList;have D:ZipApart z TI TO m l a b:=z9 j x st n ea ca eb cb;have l1:=G.length;have l2:=r.length;refine qa9 T (I.lone C) D (h _ (by simp)) (h _ (by simp)) (h _ (by simp)) (h _ (by simp)) st.hz st.hI n st.h1 st.h2 v.isList B.isList ?_ λh' M=>#[rfl,I.vJ (t':=s.toks) (λc o f e=>?_) A]
 ·rcases u with u|u
  ·exact .inl (by simp;lia)
  ·exact .inr (by simp;lia)
 ·simp only[qnc,qnF,qoD,not_or] at f;exact M c o f.1 f.2.2.1 f.2.2.2.1 f.2.2.2.2 e
section
variable {X:Cx}{c:J9}
def qba(c:J9)(K:YZ)(t:TA):TI:=λf H R=>t f H λj e=>ar2 j λx y=>isRef x λa=>isRef y λb=>(∃i,aV K e a i)/\(∃h,aV K e b h)/\R (qde c K a b) e
@[simp ↓] theorem qh5 c K t σ H R:qba c K t σ H R=(t σ H λvs e=>ar2 vs λx y=>isRef x λa=>isRef y λb=>(∃xs,aV K e a xs)/\(∃ys,aV K e b ys)/\R (qde c K a b) e):=rfl
def qdf{K:YZ}(hK:X.K=K){es:wZ}{k:Nat}{i:Pos}{a b:rz}{o:TA}{p pos:Pos} (hg:Gl X "zip") (hm:X.mg "zip" = none) (ha:PA X [a,b] o)
  (Y:starEach [a,b] X.env=[(false,eval a X.env),(false,eval b X.env)]:=by rfl) (j:starEach [b] X.env=[(false,eval b X.env)]:=by rfl) :
  PIH c X (.Tuple es k i) (.Call (.Name "zip" p) [a,b] [] pos) (qba c K o):=by
 subst hK;intro w s n H R I h;refine Call_ (mz I hg hm boot_zip (qnX (cG (ha pos w s n H _ I h) λus e B=>?_) (by rw[Y,j]) (by rw[j];rfl)));obtain⟨vs,A,m,D,f⟩:=B;obtain⟨v1,v2,rfl,f⟩:=ar2.out f;obtain⟨N,rfl,f⟩:=isRef.out f;obtain⟨M,rfl,⟨xs,J⟩,⟨ys,G⟩,q⟩:=isRef.out f;obtain⟨u,v,rfl,r,E⟩:=D.two;obtain rfl:u=Value.ref N:=r;obtain rfl:v=Value.ref M:=E;obtain⟨Q,rv,L,U⟩:=m.list J;obtain⟨x,C,YX,T⟩:=m.list G;refine call_zip_2 L.isList YX.isList λz b1 b2 b3 b4 b5 b6 O=>?_;refine wpAny_pyIter_zip (s:={e with heap:=z}) b1 ?_;have I2:Inv X w n A {e with heap:=z}:=m.kept (t':=e.toks) O;refine#[e.heap.objs.size+4,[e.heap.objs.size+4,e.heap.objs.size+2,e.heap.objs.size+3,e.heap.objs.size,e.heap.objs.size+1],_,_,A,rfl,I2,Xm (qnf (qoi _)) (qnf (qoi (e.heap.objs.size+2))),#[b1,b2,#[_,_,b3],b4,b5],λc y=>?_,q];have l:e.heap.objs.size<=c:=by
  simp only[qnc,qnF,qoD] at y
  rcases y with rfl|rfl|rfl|rfl|rfl <;> first|exact qpW _ _|exact qm5 _
 exact m.zY l (m.hok.fresh l)
end
section
variable {X:Cx}{c:J9}{ps sc:Scope}{own pN:QAH}{caps:wX}{N:QAH}
variable {elt tg iter:rz}{ifs:wZ}{pos:Pos}{wi:TI}{g:TG}{tt:TT}{te:TE}
def za(h:X.env.scope=ps)(i:X.N=pN)(S:aR ps sc pN own caps N)(n:X.A.handled=some (.ref c))(m:PIH c X tg iter wi)
  (o:∀C s H f e,PG (bU X sc N C s H f e) tg g) (j:∀C s H f e,PTs (bU X sc N C s H f e) ifs tt) (p:∀C s H f e,PE (bU X sc N C s H f e) elt te)
  (l:∀x,foldedSetIterable iter X.env x=pure x:=by intro _;rfl):PE X (.ListComp elt [#[tg,iter,ifs,0]] sc pos) (Ig own caps wi g tt te):=Oc h i S (λ_ _ _ _ _=>n) m o j p l
end
structure Em(P:qd)(w:lW)(K:YZ)(mg:Y4)(base:oY)(k:Nat)(f:J9)(fd:sH)(ps:QAH)(sp:Addr->Sp):Prop where
 len:∀a vs H Q E,sp a vs H Q E->vs.length=ps.length
 run:∀(a:J9)(A:lY)(outer:List Env)(s:Y5)(H:Hp)(args:Args)(us:QAE)(vs:QA0)(Q:VK),fQ k A->Ck P w K mg base A outer s H->BindsTo s fd args (ps.zip us)->Vals vs us->sp a vs H Q E0->
  codeAny (model P w) (A.mark (some (.ref a))) (.call (.ref f) args) (CR gR outer P w H s Q E0) s
def cW.okH{P:qd}{w:lW}{K:YZ}{mg:Y4}{base:oY}{x h:Str}{st:Stmt}{f:J9}{Y:sH}{N ps:QAH}{k:Nat}{sp:Addr->Sp}(F:cW K x h st f Y)(S:aW N ps (aB st))(len:∀a vs H Q E,sp a vs H Q E->vs.length=ps.length)
  (p:∀(a:J9)(j:eH)(A:lY)(c:List Env)(s:Y5)(H:Hp)(vs:QA0)(Q:VK),fQ k (A.deeper (envOfC h (aB st) s.heap.objs.size f j))->sp a vs H Q E0->
   ∃t,GZ ((aq gR P w K mg base N h (aB st) f j A c s H E0).caught a) (gk st) t/\t {nx:=λ_ l=>Q .non l,rt:=Q} (start N vs) H):Em P w K mg base (k+1) f Y ps sp:=by
 obtain⟨oc,od,kV,ac,pm,an,j,ct,aa,rfl,lk,T⟩:=F.ex;refine#[len,λa A c s H a0 us vs Q O D hb r B=>?_];have hl:=len _ _ _ _ _ B;have KX:K.In s.heap:=D.mod.Nt.keeps λb o e=>(D.bs b o e).1;have M:s.heap.NoLimit:=D.mod.nolimit.keeps λb o e=>(D.bs b o e).1;have m:∀y∈ps.zip us,(aB st).names.lookup y.1=some .local\/((aB st).names.lookup y.1=some .cell/\((cellsFrom (s.heap.objs.size+1) (aB st).names []).lookup y.1).isSome=true):=λ⟨n,v⟩ hy=>by
  rcases S.par n (List.of_mem_zip hy).1 with q|q
  ·exact .inl q
  ·exact .inr #[q,W.cellsFrom_some _ _ _ (.inl q)]
 refine codeAny_call_function (A:=A.mark (some (.ref a))) O.depth (KX _ _ lk) rfl S.co S.gen rfl (W.codeRec_of KX T) (hb _ _ _ _ ?_);refine wpAny_newFunctionEnv_cells S.kind m λab he U x=>?_;subst he;refine#[M.keeps x.toInCall.keep,codeAny_func ?_];obtain⟨t,ht,hq⟩:=p a j A c s H vs Q (O.deeper _) B;have I:Inv (aq gR P w K mg base N h (aB st) f j A c s H E0) [] (start N vs) H U:=z6 S O.hd D hl r x;refine qn8 (ht [] U (start N vs) H _ (I.caught a) hq) (λfl G z=>?_) λe G z=>z.elim;have C:∀{i:St}{l:Hp}{v:V}{u:eH},Inv ((aq gR P w K mg base N h (aB st) f j A c s H E0).caught a) [] i l G->RelV v u->Q v l->CE c P w H s Q u G:=
  λ{i l v u} J L q=>#[v,l,J.os,J.bare,J.base,J.hok,L,q]
 cases fl with
 |ret u=>
  obtain⟨v,i,l,J,L,q⟩:=z;exact C J L q
 |next=>
  obtain⟨i,l,J,q⟩:=z;exact C (v:=V.non) (u:=Value.none) J rfl q
 |brk=>obtain⟨i,l,J,q⟩:=z;exact False.elim q
 |cont=>obtain⟨i,l,J,q⟩:=z;exact False.elim q
section
variable {X:Cx}{a:J9}
def Sv(sp:Sp)(t:TA):TE:=λc H Q=>t c H λe f=>RW sp e f Q #[0] E0
@[simp ↓] theorem qh6 sp t σ H Q:Sv sp t σ H Q=t σ H λvs c=>RW sp vs c Q #[0] E0:=rfl
def zc{k:Nat}{f:J9}{z:sH}{ps:QAH}{sp:Addr->Sp}{x:Str}{p pos:Pos}{e:rz}{l:wZ}{t:TA}
  (F:Em X.prog X.w X.K X.mg X.base k f z ps sp) (J:fQ k X.A) (O:Gl X x) (L:X.mg x=some (.ref f)) (N:W.keepIn X.K (.ref f)=true) (U:Binds X.K z ps [])
  (Y:PA (X.caught a) (e::l) t) (v:(x == ("__debug__" : Str))=false:=by decide) (T:starEach (e::l) X.env=(false,eval e X.env)::starEach l X.env:=by rfl) (o:(backTo pos (starEach l X.env)).any (·.1)=false:=by rfl) :
  PE (X.caught a) (.Call (.Name x p) (e::l) [] pos) (Sv (sp a) t):=by
 intro G s B H Q I h;refine qom (mW I O L ?_ v);refine W.callWith_K (h₀:=X.base) I.ok.mod.Nt N (cG (Y pos G s B H _ I h) λm y C=>?_) T o;obtain⟨D,H1,n,r,q⟩:=C;refine#[n.pA,?_];have M:m.length=ps.length:=by rw[<- r.length];exact F.len _ _ _ _ _ q
 have j:=U y m n.pA (by rw[qnC];exact M);rw[qnC] at j;have c:=n.env0;refine qpb (qor (F.run a X.A X.stack y H1 #[m,[]] m D Q J #[c.frames,c.mod,c.bs,c.UG,c.um,c.YW,c.hok,c.bare] j r q) λE s' i=>?_);cases E with
 |error e=>exact i.elim
 |ok fl=>
  cases fl with
  |ret u=>exact n.after i
  |next=>exact False.elim i
  |brk=>exact False.elim i
  |cont=>exact False.elim i
end
def Ld(K:YZ)(C:J9):Prop:=su K C/\∃c,W.clsIn K C=some c
def qbb(K:YZ)(C:J9):V->Option Bool
 |.ref D=>W.kitOne K (.ref C) (.ref D)
 |.ty n=>W.kitOne K (.ref C) (.type n)
 |_=>none
def cW.qdg{P:qd}{w:lW}{K:YZ}{mg:Y4}{base:oY}{x e:Str}{st:Stmt}{f:J9}{m:sH}{N ps:QAH}{k:Nat}{sp:Sp}(F:cW K x e st f m)(S:aW N ps (aB st))(len:∀vs H Q E,sp vs H Q E->vs.length=ps.length)
  (j:∀(i:eH)(A:lY)(c:List Env)(s:Y5)(H:Hp)(vs:QA0)(Q:VK)(E:XK),fQ k (A.deeper (envOfC e (aB st) s.heap.objs.size f i))->sp vs H Q E->
   ∃t,GZ (aq (Xg P w) P w K mg base N e (aB st) f i A c s H E) (gk st) t/\t {nx:=λ_ p=>Q .non p,rt:=Q} (jk N vs) H):bT P w K mg base (Xg P w) (k+1) f m ps sp:=by
 refine F.okE S len λi A c s H vs Q E n h=>?_;obtain⟨t,o,l⟩:=j i A c s H vs Q E n h;refine#[t,o,?_];have u:=len _ _ _ _ h;have r:ps.length<=N.length:=by have:=qnH List.length S.pre;rw[qni] at this;lia
 rw[nG N vs ⋯] at l;exact l
def cW.qdh{P:qd}{w:lW}{K:YZ}{mg:Y4}{base:oY}{x e:Str}{st:Stmt}{f:J9}{m:sH}{N ps:QAH}{k:Nat}{sp:Addr->Sp}(F:cW K x e st f m)(S:aW N ps (aB st))(len:∀a vs H Q E,sp a vs H Q E->vs.length=ps.length)
  (j:∀(a:J9)(i:eH)(A:lY)(c:List Env)(s:Y5)(H:Hp)(vs:QA0)(Q:VK),fQ k (A.deeper (envOfC e (aB st) s.heap.objs.size f i))->sp a vs H Q E0->
   ∃t,GZ ((aq gR P w K mg base N e (aB st) f i A c s H E0).caught a) (gk st) t/\t {nx:=λ_ p=>Q .non p,rt:=Q} (jk N vs) H):Em P w K mg base (k+1) f m ps sp:=by
 refine F.okH S len λa i A c s H vs Q n h=>?_;obtain⟨t,o,l⟩:=j a i A c s H vs Q n h;refine#[t,o,?_];have u:=len _ _ _ _ _ h;have r:ps.length<=N.length:=by have:=qnH List.length S.pre;rw[qni] at this;omega
 rw[nG N vs ∅] at l;exact l
@[simp ↓] theorem qlK i K D e tb c σ H:qh4 i K D e tb c σ H=tb (qa6 i K D e c) c σ H:=rfl
section
variable {X:Cx}{p_:QAC}{σ:St}{H:Hp}{s:Y5}
end
structure Sml(k n:Nat)(d:PyData):Prop where
 sh:d.showable=true
 dp:d.depth<=k
 ln:d.shown.length<=n
end L2
namespace L2
open PySem PySem.Spec
section
variable {σ:St}{H:Hp}{p:J9}
variable {φ:PyData->Prop}
structure big(t:TE)(σ:St)(H:Hp)(Q:VK):Prop where
 out:t σ H Q
end
end L2
namespace L2
open PySem PySem.Spec PyProof.Rows
section
variable {X:Cx}{K:YZ}
end
section
variable {X:Cx}{K:YZ}
end
section
variable {X:Cx}{p_:QAC}{σ:St}{H:Hp}{s:Y5}
end
section
variable {X:Cx}
def uP:List TE->St->Hp->Str->(Str->Hp->Prop)->Prop
 |[],_,H,c,Q=>Q c H
 |t::r,σ,H,c,Q=>t σ H λx e=>isStr x λy=>y.length<=sizeLine/\(c++y).length<=sizeLine/\uP r σ e (c++y) Q
@[simp ↓] theorem qh7 σ H c Q:uP [] σ H c Q=Q c H:=rfl
@[simp ↓] theorem qh8 t r σ H c Q:uP (t::r) σ H c Q=(t σ H λx e=>isStr x λy=>y.length<=sizeLine/\(c++y).length<=sizeLine/\uP r σ e (c++y) Q):=rfl
def Vt(e:List TE):TE:=λc H Q=>uP e c H Str.empty λz f=>z.length<=sizeLine/\Q (.str z) f
@[simp ↓] theorem qg1 c σ H Q:Vt c σ H Q=(uP c σ H Str.empty λz e=>z.length<=sizeLine/\Q (.str z) e):=rfl
def PF(X:Cx)(e:rz)(t:TE):Prop:=∀(h:QAC)(s:Y5)(f:St)(H:Hp)(Q:Str->Hp->Prop),Inv X h f H s->(t f H λx c=>isStr x λy=>y.length<=sizeLine/\Q y c)->
 wpAny (model X.prog X.w) X.A (eval e X.env) (λv j=>∃y i c,v = .str y i/\Inv X h f c j/\Q y c) X.xe s
def qbc{e:rz}{t:TE}(h:PE X e t):PF X e t:=λj s c H Q I l=>
 cG (h j s c H _ I l) λv o ⟨x,n,m,r,q⟩=>by
  obtain⟨y,rfl,_,i⟩:=isStr.out q;obtain⟨f,rfl⟩:=r;exact#[y,f,n,rfl,m,i]
inductive PFs(X:Cx):List Expr->List TE->Prop where
 |nil:PFs X [] []
 |cons {e:rz}{es:wZ}{t:TE}{ts:List TE}:PF X e t->PFs X es ts->PFs X (e::es) (t::ts)
def PFs.joins{o:wZ}{j:List TE}(h:PFs X o j):∀(f:QAC)(s:Y5)(σ:St)(H:Hp)(c:Str)(Q:Str->Hp->Prop)(R:Str->Shared->Prop),Inv X f σ H s->uP j σ H c Q->
  (∀out l i,Inv X f σ i l->Q out i->R out l)->Joins (model X.prog X.w) X.A X.xe (evalEach o X.env) c R s:=by
 induction h with
 |nil=>exact λf s σ H c Q R I m n=>n _ _ _ I m
 | @cons e o t j h B ih=>
  intro f s σ H c Q R I m n;show wpAny _ _ (eval e X.env) _ _ s;refine qn8 (h f s σ H (λy i=>(c++y).length<=sizeLine/\uP j σ i (c++y) Q) I m) (λv l ⟨y,p,i,u,x,r,q⟩=>#[y,p,u,r,ih f l σ i _ Q R x q n]) λ_ _ z=>z
def Xo{e c:rz}{rest:wZ}{pos:Pos}{f:List TE}(h:PFs X (e::c::rest) f):PE X (.JoinedStr (e::c::rest) pos) (Vt f):=by
 intro j s i H Q I l;refine wpAny_JoinedStr (h.joins j s i H Str.empty _ _ I l λout o n m q=>?_);exact#[q.1,.str out,n,m.tok _,#[_,rfl],q.2]
end
end L2
namespace L2
open PySem PySem.Spec PySem.W PyProof.Rows
section
variable {prog:qd}{w:lW}{A:lY}{E:QAB}{K:YZ}{h:oY}{g:Array GenState}{d:Drawn}{t:Nat}{os:OsState}
variable {nm q:Str}{C N:J9}{bs bm:QAE}{hdct:Bool}{sn:QAH}{sub:QAE}{ab:Bool}{col:Option Bool}{dd:dR}{k0 k1 k2 k3 k5:QAG}
def Le{rest:QAE}{f:J9}{Q:PySem.Fin->Shared->Prop}(X:K.In h)(T:OwnTail h lQ bm) (z:findIn K (.ref C) "__init__" = some (some (.ref f))) (B:typeIn K (.ref f)=some (.type "function"))
  (i:h.get? C=some (excClassObj nm q C N bs bm hdct sn sub ab col dd k0 k1 k2 k3 k5 "ValueError.__new__"))
  (y:∀h' e,Heap.MadeExcOf h h' e (.ref C) rest->wpAny (model prog w) A (call (.ref f) (.ref e::rest)) (λr p=>r = .none/\Q (.done (.ret (.ref e))) p) E #[h',g,d,t,os]) (u:rest.length<=sizeLine) :
  wpAny (model prog w) A (Builtin.«type.__call__» #[.ref C::rest,[]]) Q E #[h,g,d,t,os]:=by
 have F:=qpS
 repeat (first|with_reducible refine qoZ i ?_|with_reducible refine wpAny_madeBy_exc i ?_|wp_step)
 refine codeAny_call_builtin_code (qpy _ F.quiet) (wpAny_check_new_subT F T i (codeAny_exc_new_subT F T i ?_ u));show wpAny _ _ _ _ _ _;generalize m:(h.push {cls:=.type "tuple",data:=.seq rest.toArray}).push {cls:=.ref C,data:=.fields [.ref h.objs.size,.none,.none,.none,.bool false,.none].toArray}=G;have j:∀b o,h.get? b=some o->G.get? b=some o:=λb o e=>by
  rw[<- m];exact qm4 _ (qm4 _ e)
 have c:G.get? (h.objs.size+1)=some {cls:=.ref C,data:=.fields [.ref h.objs.size,.none,.none,.none,.bool false,.none].toArray}:=by
  rw[<- m]
  heap_get
 have D:G.get? h.objs.size=some {cls:=.type "tuple",data:=.seq rest.toArray}:=by
  rw[<- m];exact qm4 _ (Heap.get?_push_at rfl rfl)
 have s:K.In G:=λb o e=>j b o (X b o e);have n:=j _ _ i;have l:(Value.ref C::bm).contains (.ref C)=true:=by simp
 unfold isInstance
 repeat (first|with_reducible refine qoZ c ?_|(with_reducible refine wpAny_isSubtype_exc n ?_;rw[l])|wp_step)
 show wpAny _ _ (typeLookup (.ref C) _) _ _ _;refine(looks_findIn (M:=model prog w) s z).at ?_;refine qoa (qm3 ?_);unfold bindSpecial;refine qm3 ((looks_typeIn (M:=model prog w) s B).at ?_);rw[if_pos (by decide)];refine qm8 (qm3 (qn8 (y G (h.objs.size+1) #[j,Heap.get?_none_of_le (qoU _),h.objs.size,c,Heap.get?_none_of_le (qm5 _),D]) (λr p v=>?_) λ_ _ x=>x));obtain⟨rfl,H⟩:=v
 wp_walk
 exact H
def qdi{rest:QAE}{f:J9}{Q:QAB}(X:K.In h)(T:OwnTail h lQ bm) (n:findIn K (.ref C) "__init__" = some (some (.ref f))) (o:typeIn K (.ref f)=some (.type "function"))
  (c:h.get? C=some (excClassObj nm q C N bs bm hdct sn sub ab col dd k0 k1 k2 k3 k5 "ValueError.__new__"))
  (l:∀h' e,Heap.MadeExcOf h h' e (.ref C) rest->wpAny (model prog w) (A.under (.builtin "type.__call__" #[.ref C::rest,[]])) (call (.ref f) (.ref e::rest)) (λr i=>r = .none/\Q (.ref e) i) E #[h',g,d,t,os]) (j:rest.length<=sizeLine) :
  wpAny (model prog w) A (call (.ref C) rest) Q E #[h,g,d,t,os]:=by
 have u:=tc_lookup;have s:=tc_bind (.ref C);have p:(#[h,g,d,t,os]:Shared).TypeIs (.ref C) "type" :=#[_,c,rfl];refine qpb (codeAny_of_tree ?_);show wpAny _ _ (callAny (.ref C) _) _ _ _
 repeat (any_goals (first|assumption|with_reducible refine qoZ c ?_|wp_step))
 refine#[rfl,codeAny_call_builtin_at (qpy _ (by decide+kernel)) entry_typeCall (wpAny_check_type_call_sub c (Le X T n o c (λh' e m=>?_) j))];exact l h' e m
def qdj{rest:QAE}{e p:J9}{f:Obj}{vs:wY}{Q:QAB}(T:OwnTail h lQ bm)
  (v:h.get? C=some (excClassObj nm q C N bs bm hdct sn sub ab col dd k0 k1 k2 k3 k5 "ValueError.__new__")) (l:h.get? e=some f) (s:f.cls = .ref C) (i:f.data = .fields vs) (m:vs[0]? = some (.ref p))
  (r:∀h' n,(∀b o,b≠e->h.get? b=some o->h'.get? b=some o)->h'.get? e=some {f with data:=.fields (vs.setIfInBounds 0 (.ref n))}->Q .none #[h',g,d,t,os]) (G:rest.length<=sizeLine) :
  wpAny (model prog w) A (call (.builtin "ValueError.__init__") (.ref e::rest)) Q E #[h,g,d,t,os]:=by
 have F:=qpS;refine qpb (qoI F.init.plain F.initEntry (wpAny_check_init_subT F T v l s ?_));have j:(h.push {cls:=.type "tuple",data:=.seq rest.toArray}).get? e=some f:=qm4 _ l;unfold Builtin.«BaseException.__init__» Builtin.BaseException.bexcPut
 repeat (first|with_reducible refine qnU j i m ?_|with_reducible refine qoV j i (qoM.mp m).1 ?_|wp_step)
 have B:=qoR i (·.setIfInBounds 0 (Value.ref h.objs.size));refine r _ h.objs.size (λb o u z=>?_) ?_
 ·rw[qov _ _ (qoE u)];exact qm4 _ z
 ·refine(qoB _ j (qpe B)).trans (qnH some ?_);obtain⟨c,x,y,D⟩:=f;cases i;rfl
def Lf(x C:J9)(i:dR)(h:oY):Prop:=∃e c f,h.get? x=some e/\e.cls = .ref C/\e.data = .fields c/\c[0]? = some (.ref f)/\c[1]? = some .none/\c[2]? = some .none/\e.dict=i
def Lf.at{x C:J9}{i:dR}{h:oY}(e:Lf x C i h):kW x C h:=by
 obtain⟨f,c,n,m,l,j,_⟩:=e;exact#[f,c,m,l,j]
structure Lg(K:YZ)(C:J9):Prop where
 ga:findIn K (.ref C) "__getattribute__" = some (some (.builtin "BaseException.__getattribute__"))
 gn:findIn K (.ref C) "__getattr__" = some none
 mb:mroIn K C (.type "BaseException")=some true
 hd:hasDictIn K C=true
def qbd{M:Model}{x:J9}{c:eH}{Q:QAJ}(X:K.In h)(I:kW x C h) (j:mroIn K C (.type "BaseException")=some true) (f:Q () #[h,g,d,t,os]) :
  wpAny M A (checkBuiltinCall "BaseException.__getattribute__" #[[.ref x,c],[]]) Q E #[h,g,d,t,os]:=by
 have i:builtinKind "BaseException.__getattribute__" = some .slot:=by decide+kernel
 have e:splitId "BaseException.__getattribute__" = some ("BaseException", "__getattribute__"):=by decide+kernel
 have m:=I.type (M:=M);have l:=looks_mroIn (M:=M) X j;have n:=F.args_bexc_ga (.ref x) c;simp only[checkBuiltinCall,i,e];refine qm3 ?_;unfold isInstance
 repeat (first|with_reducible refine m.at ?_|with_reducible refine l.at ?_|wp_step)
 exact f
def qdk{x j:J9}{l:Y4}(e:xM x C (some j) h)(n:h.Ns1 j l):∃c i,W.InstAt h x c C (some i)/\∀name,W.lookIn name i=some (l name):=by
 obtain⟨c,v,u,f,r,_⟩:=e;have s:c.cls = .ref C:=qnH Prod.fst f;have p:c.dict=some j:=qnH Prod.snd f;obtain⟨i,m,o⟩:=HJ n;refine#[c,i,#[u,s,?_,?_],o]
 ·unfold W.notCls;rw[r]
 ·rw[p];exact m
def qf6{x m:J9}{j:Y4}{name:Str}{v:eH}{c:Bool}{Q:QAB}{s:Y5}(X:K.In s.heap)(e:xM x C (some m) s.heap)(l:s.heap.Ns1 m j)(G:Lg K C)(z:findIn K (.ref C) name=some none)
  (r:j name=some v) (i:handedIn v=true) (h:Q v {s with toks:=s.toks+1}):wpAny (model prog w) A (getAttr (.ref x) name c) Q E s:=by
 obtain⟨J,o,I,u⟩:=qdk e l;obtain⟨L,g,d,t,os⟩:=s;dsimp only at X e l h I;have y:findObj K C (some o) name=some (.value v):=findObj_own G.hd z rfl (by rw[u,r]);have n:=I.type (M:=model prog w);have H:=looks_findIn (M:=model prog w) X G.ga;have L2:=looks_findIn (M:=model prog w) X G.gn;have D:=looks_find (M:=model prog w) X I y;have B:=(F.attrBase_ValueError.ga).bind (.ref x);have f:(Value.builtin "BaseException.__getattribute__" == Value.builtin "object.__getattribute__")=false:=by decide+kernel
 have p:(onTheHeap (Value.ref C) && Value.builtin "BaseException.__getattribute__" == Value.builtin "object.__getattribute__")=false:=by rw[f];rfl
 unfold getAttr getAttrBy
 repeat (any_goals (first|assumption|with_reducible refine n.at ?_|with_reducible refine H.at ?_|with_reducible refine L2.at ?_|wp_step))
 rw[show(c && onTheHeap (Value.builtin "BaseException.__getattribute__"))=false from Bool.and_false _,if_neg (by decide)];unfold boundAndCalled;rw[B];refine qm3 (qm8 ?_);show wpAny _ _ (call (.builtin "BaseException.__getattribute__") [.ref x,.str name t]) _ _ _;refine qpb (qoI F.attrBase_ValueError.ga.plain F.entry_bexc_ga (qbd X e.at G.mb ?_))
 repeat (any_goals (first|assumption|with_reducible refine n.at ?_|with_reducible refine D.at ?_|wp_step))
 show wpAny _ _ (handedOut v) _ _ _;rw[handedOut_of i];exact qm8 h
structure xO(K:YZ)(C PE:J9):Prop where
 sa:findIn K (.ref C) "__setattr__" = some (some (.builtin "object.__setattr__"))
 mo:mroIn K C (.type "object")=some true
 cl:∃cd,clsIn K C=some cd/\cd.mro = .ref C::.ref PE::lQ/\cd.hasDict=true
def qf7{x PE:J9}{name:Str}{tk:Tok}{v:eH}{R:Result->Shared->Prop}(X:K.In h)(I:kW x C h)(S:xO K C PE)(r:findIn K (.ref C) name=some none)
  (n:wpAny (model prog w) A.in1 (Builtin.ObjectAttr.storeInOwnDict (.ref x) (.ref C) (.str name tk) name v false)
   (λj i=>match j with|.done f=>R (.ok f) i|.again m=>m.quiet=true/\codeAny (model prog w) A m R i) (λe i=>R (.error e) i) #[h,g,d,t,os]) :
  codeAny (model prog w) A (.call (.builtin "object.__setattr__") #[[.ref x,.str name tk,v],[]]) R #[h,g,d,t,os]:=by
 have c:=PySem.F.store_object;obtain⟨u,p,o,_⟩:=S.cl;have l:=I.type (M:=model prog w);have sub:Looks (model prog w) h (isInstance (.ref x) (.type "object")) true:=l.andThen (looks_mroIn X S.mo);refine qoI c.slot.plain c.entry (@check_slot (model prog w) _ _ #[h,g,d,t,os] "object.__setattr__" "object" "__setattr__" (.ref x) [.str name tk,v] [] _ c.kind c.split sub (c.args (.ref x) (.str name tk) v) ?_);have y:Looks (model prog w) h (mroOf (.ref C)) u.mro:=(looks_clsIn X p).andThen .now;rw[osa_eq,refuse_eq];refine qm3 (qm3 (Looks.here (s:=#[h,g,d,t,os]) l (qm3 (Looks.here (s:=#[h,g,d,t,os]) y ?_))));rw[o,refuseLoop_ref,refuseLoop_ref,PySem.F.store_ValueError.passes];exact qm8 (qm3 (Looks.here (s:=#[h,g,d,t,os]) l (qm3 (Looks.here (s:=#[h,g,d,t,os]) (looks_findIn X r) (qm3 (qm8 n))))))
def qbe{x PE:J9}{name:Str}{v:eH}{Q:QAJ}{s:Y5}(X:K.In s.heap)(I:kW x C s.heap)(S:xO K C PE)(j:findIn K (.ref C) name=some none)
  (i:∀m:Around,wpAny (model prog w) m (Builtin.ObjectAttr.storeInOwnDict (.ref x) (.ref C) (.str name s.toks) name v false) (λf c=>f = .done (.ret .none)/\Q () c) (λe c=>False) {s with toks:=s.toks+1}) :
  wpAny (model prog w) A (setAttr (.ref x) name v) Q E s:=by
 have l:=I.type (M:=model prog w);refine qm3 (wpAny_mkText (qm3 (qm3 (qm3 (l _ _ _ _ (λ_ _ e=>e) (looks_findIn X S.sa _ _ _ _ (λ_ _ e=>e) (qoa ?_)))))));rw[PySem.F.store_object.slot.bind];refine qm3 (qm8 (qm3 (qpb (qor (qf7 (A:=A) (tk:=s.toks) (v:=v) (R:=λr c=>match r with|.ok (.ret _)=>Q () c|.ok _=>False|.error e=>False) X I S j (qn8 (i _) (λf c z=>?_) λe c z=>z)) λr c z=>?_))))
 ·obtain⟨rfl,z⟩:=z;exact z
 ·rcases r with e|(v|_|_|_) <;> first|exact z.elim|exact qm8 (qm8 z)
def qdl{x f:J9}{ns:QAH}{i:Y4}{name:Str}{tk:Tok}{v:eH}{Q:PySem.Fin->Shared->Prop}{o:ClassData}(X:K.In h)(e:Lf x C (some f) h)(D:h.Ns1 f i)(H:clsIn K C=some o)(G:o.hasDict=true)
  (hw:PySem.Within i ns) (hsz:ns.length<=sizeLine) (B:∀h' t',h'.Ns1 f (λy=>if y=name then some v else i y)->Heap.SameBut f h h'->Q (.done (.ret .none)) #[h',g,d,t',os]) :
  wpAny (model prog w) A (Builtin.ObjectAttr.storeInOwnDict (.ref x) (.ref C) (.str name tk) name v false) Q E #[h,g,d,t,os]:=by
 obtain⟨p,U,Y,M,L,J,_,_,_,I⟩:=e;obtain⟨oc,u,z,r⟩:=p;cases L;cases J;cases I;refine qm3 (qm8 (qm3 (qm3 (wpAny_loadPart M (qm3 (Looks.here (s:=#[h,g,d,t,os]) (looks_clsIn X H) ?_))))));rw[G];refine qm8 (a:=some f) (qm3 (qm8 (qm3 ?_)));refine wpAny_nsSet1 (s:=#[h,g,d,t,os]) D λh' c j=>?_;obtain⟨oD,O,T,l,m,n⟩:=c.count (PySem.Within.cons name v hw);refine qm3 (wpAny_lookBehind l (by rw[m];exact pastItsLine_dict (qnp n (by rw[qnt];lia))) ?_);exact qm8 (B _ _ c j)
def qdm{x:J9}{name:Str}{tk:Tok}{v:eH}{Q:PySem.Fin->Shared->Prop}{M:ClassData}(X:K.In h)(e:Lf x C none h)(hc:clsIn K C=some M)(hd:M.hasDict=true)
  (hq:∀h' t',h'.Ns1 h.objs.size (λy=>if y=name then some v else none)->(∀b o,b≠x->h.get? b=some o->h'.get? b=some o)->Lf x C (some h.objs.size) h'->Q (.done (.ret .none)) #[h',g,d,t',os]) :
  wpAny (model prog w) A (Builtin.ObjectAttr.storeInOwnDict (.ref x) (.ref C) (.str name tk) name v false) Q E #[h,g,d,t,os]:=by
 obtain⟨T,l,O,J,h2,h3,I,H,D,h6⟩:=e;obtain⟨oc,U,Y,c⟩:=T;cases h2;cases h3;cases h6;refine qm3 (qm8 (qm3 (qm3 (wpAny_loadPart J (qm3 (Looks.here (s:=#[h,g,d,t,os]) (looks_clsIn X hc) ?_))))));rw[hd,if_neg (by decide)];show wpAny _ _ (if (!true || !typeHasDict (Value.ref C))=true then pure none else _) _ _ _
 rw[if_neg (by simp[typeHasDict])];have f:x≠h.objs.size:=qnf (qm9 J);have j:(h.push {cls:=.type "dict",data:=.dict #[]}).get? x=some #[.ref C,none,.fields l,c]:=qm4 _ J;refine qm3 (wpAny_alloc' ?_);refine qm3 (wpAny_update' j ?_);refine qm8 ?_;generalize B:((h.push {cls:=.type "dict",data:=.dict #[]}).update x λo=>{cls:=o.cls,dict:=some h.objs.size,data:=o.data,slots:=o.slots})=G;have g1:G.get? h.objs.size=some {cls:=.type "dict",data:=.dict #[]}:=by
  rw[<- B];exact(Heap.get?_update_ne _ _ _ _ f.symm).trans (Heap.get?_push_at rfl rfl)
 have g2:G.get? x=some #[.ref C,some h.objs.size,.fields l,c]:=by
  rw[<- B];exact qoB _ j rfl
 have g3:∀b o,b≠x->h.get? b=some o->G.get? b=some o:=λb o u z=>by
  rw[<- B];exact(Heap.get?_update_ne _ _ _ _ u).trans (qm4 _ z)
 have n:G.Ns h.objs.size (λ_=>none):=#[_,#[],_,g1,rfl,λe he=>absurd he (by simp),λ_=>rfl];show wpAny _ _ (Builtin.ObjectAttr.storeInDict h.objs.size (.str name tk) name v) _ _ _;unfold Builtin.ObjectAttr.storeInDict Builtin.ObjectAttr.newKeyGuard;refine qm3 (qm8 (qm3 (wpAny_nsSet1 (Heap.Ns1.of_empty n) λh' i L=>?_)));obtain⟨oD,a0,aa,m,p,r⟩:=i.count (Within.cons name v Within.nil);refine qm3 (wpAny_lookBehind m (by rw[p];exact pastItsLine_dict (qnp r (by rw[qnt,List.length_nil,qpN];lia))) ?_);exact qm8 (hq _ _ i (λb o u z=>(L.2 b (qnf (qm9 z))).trans (g3 b o u z)) #[_,l,O,(L.2 x f).trans g2,rfl,rfl,I,H,D,rfl])
end
end L2
namespace L2
open PySem PySem.Spec PyProof.Rows
def eN(x C:J9)(c:dR):HO:=.ext λh=>Lf x C c h
def gZ(e:J9)(fs:List (Str×V)):HO:=.ext λh=>fs.length<=1000/\∃c,h.Ns1 e c/\(∀f,mV (fs.lookup f) (c f))/\PySem.Within c (fs.map (·.1))
section
variable {P:qd}{w:lW}{H:Hp}{h:oY}{x C dx:J9}{od:dR}{fs:List (Str×V)}
def Lh(e:Lf x C od h):cD P w H h x (eN x C od):=by
 obtain⟨c,f,i,j,l⟩:=id e;exact#[e,#[c,j],λn m ⟨c,f,i,a1,a2⟩ k=>#[c,f,i,k _ a1,a2]]
def CQ(ok:vH P w H h)(e:H x=some (eN x C od)):Lf x C od h:=((show cD P w H h x (eN x C od) from ok _ _ e)).1
def Vu{e:Y4}(p:fs.length<=1000)(i:h.Ns1 dx e)(n:∀f,mV (fs.lookup f) (e f))(hw:PySem.Within e (fs.map (·.1))):cD P w H h dx (gZ dx fs):=by
 obtain⟨o,j,l,r,s⟩:=id i;exact#[#[p,e,i,n,hw],#[o,r],λv u ⟨c,m,⟨o,j,l,a1,a2⟩,b⟩ k=>#[c,m,#[o,j,l,k _ a1,a2],b]]
def Vv(ok:vH P w H h)(e:H dx=some (gZ dx fs)):fs.length<=1000/\∃c,h.Ns1 dx c/\(∀f,mV (fs.lookup f) (c f))/\PySem.Within c (fs.map (·.1)):=((show cD P w H h dx (gZ dx fs) from ok _ _ e)).1
def qf8{o:HO}(e:H x=some o):upd H x o=H:=funext λb=>by
 by_cases c:b=x
 ·subst c;rw[ak,e]
 ·rw[aF c]
end
section
variable {X:Cx}{p_:QAC}{σ:St}{H:Hp}{s:Y5}
def Inv.qf9{a:J9}{ob:HO}(I:Inv X p_ σ H s)(J:X.ex=[])(new:X.s₀.heap.get? a=none)(un:H a=none)(e:∃j vs,s.heap.get? a=some j/\j.data = .fields vs)(ok:cD X.prog X.w (upd H a ob) s.heap a ob)(G:∀p∈X.pn++p_,p.1≠a):Inv X p_ σ (upd H a ob) s:=by
 have C:∀{b o},s.heap.get? b=some o->(∀vs,o.data≠.fields vs)->b≠a:=λ{b o} f L z=>by
  subst z;obtain⟨j,vs,D,M⟩:=e;rw[f] at D;cases D;exact L vs M
 have old:∀{b o},X.s₀.heap.get? b=some o->b≠a:=λ{b o} f z=>by
  rw[z,new] at f;cases f
 have ne:∀{b:J9}{u:HO},H b=some u->b≠a:=λ{b u} q z=>by
  rw[z,un] at q;cases q
 refine#[I.ok,I.os,I.bare,#[λb o f n i l=>I.base.keep b o f n i l,I.base.slot,λb o f n l=>?_,I.base.there,λb B q=>?_,λb o u q=>?_,λb E q=>?_],I.loc,I.cell,?_,λx c q=>?_,λp h=>?_,λb u q=>?_,I.len]
 ·rw[aF (old f)];exact I.base.free b o f n l
 ·have z:=I.base.tups b B q;rw[aF (ne z)];exact z
 ·have z:=I.base.ug b o u q;rw[aF (ne z)];exact z
 ·obtain⟨m,z⟩:=I.base.uh b E q;exact#[m,by rw[aF (ne z)];exact z]
 ·obtain⟨m,⟨o,T,U,A,d,r⟩,_⟩:=I.loc;rw[aF (C A λvs y=>by rw[d] at y;cases y)];exact I.free
 ·obtain⟨v,o,A,d⟩:=I.cell x c q;rw[aF (C A λvs y=>by rw[d] at y;cases y)];exact I.iR x c q
 ·obtain⟨Q,O,N⟩:=I.pin p h;refine#[Q,?_,N];rw[aF (G p h)];exact O
 ·by_cases i:b=a
  ·subst i;rw[ak] at q;cases q;exact ok
  ·rw[aF i] at q;refine(I.hok b u q).stay (λc v _ z=>z) (λc z=>?_) λc B z=>?_
   ·rw[aF (ne z)];exact z
   ·rw[aF (ne z)];exact z
def Inv.qh9{e C:J9}{h:QAE}{h':oY}(I:Inv X p_ σ H s)(f:X.ex=[])(c:Heap.MadeExcOf s.heap h' e (.ref C) h):H e=none/\Inv X p_ σ (upd H e (eN e C none)) {s with heap:=h'}:=by
 have un:=Sh I.hok c.new;obtain⟨l,i,_⟩:=c.there;have n:Inv X p_ σ H {s with heap:=h',toks:=s.toks}:=I.kept c.keeps;refine#[un,n.qf9 f (I.old f c.new) un #[_,_,i,rfl] (Lh #[_,_,l,i,rfl,rfl,rfl,rfl,rfl,rfl]) λp m z=>?_];have j:=(I.pin p m).1;rw[z,c.new] at j;cases j
end
structure XMk(K:YZ)(C B f:J9):Prop where
 ob:∃nm q N bs hdct sn sub ab col dd k0 k1 k2 k3 k5,K.lookup C=some (excClassObj nm q C N bs (.ref B::lQ) hdct sn sub ab col dd k0 k1 k2 k3 k5 "ValueError.__new__")
 pe:Ak K B
 pm:∃cd,W.clsIn K B=some cd/\cd.mro = .ref B::lQ
 init:W.findIn K (.ref C) "__init__" = some (some (.ref f))
 fn:W.typeIn K (.ref f)=some (.type "function")
 kp:W.keepIn K (.ref C)=true
def XMk.tail{K:YZ}{C B f:J9}{h:oY}(M:XMk K C B f)(X:K.In h):OwnTail h lQ (.ref B::lQ):=by
 obtain⟨u,N,x,w,bs,m,v,sub,Q,r,I,H,G,E,D,A,y,c,l,j,T,_⟩:=Lb X M.pe;obtain⟨L,i,p⟩:=M.pm;have e:u=lQ:=by
  unfold W.clsIn at i;split at i
  ·rename_i O J s n o;cases i;have z:=X _ _ o;rw[c] at z;cases z;simpa using p
  ·cases i
 subst e;exact .own c l j .base
section
variable {X:Cx}{C B f:J9}{x:Str}{np p pos apos:Pos}{e:rz}{es:wZ}{t:TA}
structure qh_(K:YZ)(B:J9):Prop where
 sg:W.specialIn K (.ref B) "__getattribute__" = some (some (.builtin "type.__getattribute__"))
 rd:W.readsIn K B (.type "type")=true
 fc:W.findCls K (.ref B) (.type "type") "__init__" = some (.val (.builtin "ValueError.__init__"))
def qeq(C:J9)(t:TA):TE:=λh H Q=>t h H λi c=>ar2 i λv y=>isRef v λa=>∃j,c a=some (eN a C j)/\Q .non c
@[simp ↓] theorem qky C t σ H Q:qeq C t σ H Q=t σ H λvs c=>ar2 vs λv y=>isRef v λa=>∃h,c a=some (eN a C h)/\Q .non c:=rfl
def Vw{pl:Sem Bool}(M:XMk X.K C B f)(N:qh_ X.K B)(hg:Gl X x)(hm:X.mg x=some (.ref B))(ha:PA X (e::es) t) (o:(x == ("__debug__" : Str))=false:=by decide)
  (he:starEach (e::es) X.env=(false,eval e X.env)::starEach es X.env:=by rfl) (n:(backTo pos (starEach es X.env)).any (·.1)=false:=by rfl)
  (ht:eval (.Call (.Attribute (.Name x np) "__init__" apos) (e::es) [] pos) X.env=(do
   let D <- eval (.Name x np) X.env
   standAt apos.atName
   let (f,first) <- holding [D] (getMethod D "__init__" pl)
   callWith pos f first (backTo pos (starEach (e::es) X.env)) (backToKw pos (keywordEach [] X.env))):=by rfl) :
  PE X (.Call (.Attribute (.Name x np) "__init__" apos) (e::es) [] pos) (qeq C t):=by
 intro m s j H Q I h;refine W.methodCall_KW (pl:=pl) (mW I hg hm ?_ o) ht;refine W.method_cls I.pA N.sg (W.cls_value I.pA N.rd N.fc rfl ?_);have I0:Inv X m j H {s with toks:=s.toks+1}:=I.tok _;refine PyProof.Rows.callWith_builtin1 (cG (ha pos m _ j H _ I0 h) λus s1 zz=>?_) he n;obtain⟨l,Y,i,r,q⟩:=zz;obtain⟨v,y,rfl,q⟩:=ar2.out q;obtain⟨a,rfl,E,w,q⟩:=isRef.out q;obtain⟨u1,u2,rfl,r1,r2⟩:=r.two;obtain rfl:u1=Value.ref a:=r1;obtain⟨nm,qn,N,bs,G,sn,sub,ab,a0,dd,k0,k1,k2,k3,k5,hC⟩:=M.ob;have T:=M.tail i.pA;have u:=i.pA _ _ hC;obtain⟨ox,l,t0,h1,L,h3,J,h5,h6,h7⟩:=CQ i.hok w;obtain⟨hh,g,d,z,os⟩:=s1;refine qdj T u h1 L h3 J (λO A keep c=>?_) (by show 1<=sizeLine;decide);have sz:0<l.size:=(qoM.mp J).1;have new:Lf a C E O:=#[_,l.setIfInBounds 0 (.ref A),A,c,L,rfl,by simp[sz],by rw[qpp (by decide)];exact h5,by rw[qpp (by decide)];exact h6,h7];have U:Inv X m j (upd Y a (eN a C E)) {(#[hh,g,d,z,os]:Shared) with heap:=O,toks:=z}:=i.write (x:=a) (e:=a) (by rw[w];exact True.intro) (.inl rfl) keep #[_,c] (Lh new);rw[qf8 w] at U;exact#[.non,Y,U,rfl,q]
end
section
variable {X:Cx}{C B:J9}{o value:rz}{f:Str}{pos pos':Pos}{ta tv:TE}
def sX0(C:J9)(ta tv:TE)(f:Str):TS:=λD e H=>tv e H λy i=>ta e i λx h=>isRef x λa=>h a=some (eN a C none)/\∀c,h c=none->D.nx e (upd (upd h c (gZ c [(f,y)])) a (eN a C (some c)))
@[simp ↓] theorem qmz C ta tv f D σ H:sX0 C ta tv f D σ H=tv σ H λy h=>ta σ h λx e=>isRef x λa=>e a=some (eN a C none)/\∀c,e c=none->D.nx σ (upd (upd e c (gZ c [(f,y)])) a (eN a C (some c))):=rfl
def qer(S:xO X.K C B)(hn:W.findIn X.K (.ref C) f=some none)(ha:PE X o ta)(hv:PE X value tv)(hs:swapsWith value (some (.Attribute o f pos')) pos.line X.env=pure false):PS X (.Assign [.Attribute o f pos'] value pos) (sX0 C ta tv f):=by
 intro r s l H D I h;refine qpo (cG (hv r s l H _ I h) λu s1 z1=>?_) hs;obtain⟨y,H1,I1,ry,q⟩:=z1;refine cG (ha r s1 l H1 _ I1 q) λov s2 z2=>?_;obtain⟨x,O,v,rx,G⟩:=z2;obtain⟨a,rfl,Q,G⟩:=isRef.out G;obtain rfl:ov=Value.ref a:=rx;have E0:=CQ v.hok Q;obtain⟨cd,hc,_,hd⟩:=S.cl;have U:=v.pA;refine qbe U E0.at S hn λA'=>?_;obtain⟨c,g,d,A,os⟩:=s2;refine qdm U E0 hc hd λh' t' L keep Y=>#[rfl,?_];have hf:O c.objs.size=none:=v.hok.fresh (qm5 _);obtain⟨i,es,ep,T,rest⟩:=id L;obtain⟨ox,_,_,M,_⟩:=id E0;have N:a≠c.objs.size:=qnf (qm9 M);have J:i.isFreed=false:=(Heap.get?_some_iff.mp T).2;have n:(c.push i).get? c.objs.size=some i:=qne c J;have m:(c.push i).Ns1 c.objs.size (λw=>if w=f then some u else none):=#[i,es,ep,n,rest]
 have E:∀j,mV ([(f,y)].lookup j) (if j=f then some u else none):=λj=>by
  have e:=pF f j y [];rw[show[(f,y)].lookup j=(kh f y []).lookup j from rfl,e]
  by_cases z:j=f
  ·rw[if_pos z,if_pos z];exact ry
  ·rw[if_neg z,if_neg z];exact True.intro
 have wi:PySem.Within (λw=>if w=f then some u else none) ([(f,y)].map (·.1)):=Within.cons f u Within.nil
 have I3:Inv X r l (upd O c.objs.size (gZ c.objs.size [(f,y)])) {(#[c,g,d,A,os]:Shared) with heap:=c.push i,toks:=A}:=v.laid (λb o z=>qm4 _ z) (qm5 _) (Vu (by show(1:Nat)<=1000;decide) m E wi);have I4:Inv X r l (upd (upd O c.objs.size (gZ c.objs.size [(f,y)])) a (eN a C (some c.objs.size))) {(#[c.push i,g,d,A,os]:Shared) with heap:=h',toks:=t'}:=by
  refine I3.write (x:=a) (e:=a) (by rw[aF N,Q];exact True.intro) (.inl rfl) (λb o hb z=>?_) ?_ (Lh Y)
  ·by_cases p:b=c.objs.size
   ·subst p;rw[n] at z;cases z;exact T
   ·rw[Heap.get?_push_ne _ _ _ p] at z;exact keep b o hb z
  ·obtain⟨a0,_,_,z,_⟩:=id Y;exact#[_,z]
 exact#[l,_,I4,G _ hf]
def sX1(C:J9)(ta tv:TE)(f:Str):TS:=λD e H=>tv e H λy i=>ta e i λx h=>isRef x λa=>∃c fs,h a=some (eN a C (some c))/\h c=some (gZ c fs)/\fs.length<1000/\D.nx e (upd h c (gZ c (kh f y fs)))
@[simp ↓] theorem qmA C ta tv f D σ H:sX1 C ta tv f D σ H=tv σ H λy h=>ta σ h λx e=>isRef x λa=>∃c fs,e a=some (eN a C (some c))/\e c=some (gZ c fs)/\fs.length<1000/\D.nx σ (upd e c (gZ c (kh f y fs))):=rfl
def qia(S:xO X.K C B)(hn:W.findIn X.K (.ref C) f=some none)(ha:PE X o ta)(hv:PE X value tv)(hs:swapsWith value (some (.Attribute o f pos')) pos.line X.env=pure false):PS X (.Assign [.Attribute o f pos'] value pos) (sX1 C ta tv f):=by
 intro p s l H D I h;refine qpo (cG (hv p s l H _ I h) λu Q G=>?_) hs;obtain⟨y,H1,I1,T,q⟩:=G;refine cG (ha p Q l H1 _ I1 q) λY O z2=>?_;obtain⟨x,H2,m,U,n⟩:=z2;obtain⟨a,rfl,j,fs,ea,A,hl,n⟩:=isRef.out n;obtain rfl:Y=Value.ref a:=U;have E0:=CQ m.hok ea;obtain⟨a0,v,r,hr,hw⟩:=Vv m.hok A;obtain⟨cd,hc,_,hd⟩:=S.cl;have E:=m.pA;refine qbe E E0.at S hn λA'=>?_;obtain⟨hh,g,d,L,os⟩:=O;refine qdl E E0 r hc hd hw (by rw[qm7,qpN];lia) λw M i N=>#[rfl,?_];have he:∃o,w.get? j=some o:=let ⟨o,_,_,e',_⟩:=i;#[o,e'];have I4:Inv X p l (upd H2 j (gZ j (kh f y fs))) {(#[hh,g,d,L,os]:Shared) with heap:=w,toks:=M}:=by
  refine m.write (x:=j) (e:=j) (by rw[A];exact True.intro) (.inl rfl) (λb o hb z=>(N.2 b hb).trans z) he (Vu ?_ i (λc=>?_) λc hg=>?_)
  ·have:=ux f y fs;lia
  ·show mV ((kh f y fs).lookup c) (if c=f then some u else v c)
   rw[pF]
   by_cases z:c=f
   ·rw[if_pos z,if_pos z];exact T
   ·rw[if_neg z,if_neg z];exact hr c
  ·by_cases z:c=f
   ·rw[z];exact(q_ f y fs).1
   ·refine(q_ f y fs).2 c (hw c λJ=>hg ?_);show(if c=f then some u else v c)=none
    rw[if_neg z];exact J
 exact#[l,_,I4,n]
end
end L2
namespace L2
open PySem
def qbf{K:YZ}{C:J9}:W.kitOne K (.ref C) (.ref C)=some true:=by
 unfold W.kitOne;simp
def qdn{K:YZ}{C D:J9}{b:Bool}(ne:(C == D)=false)(i:W.isClsIn K D=true) (t:W.typeIn K (.ref D)=some (.type "type")) (s:W.subIn K (.ref C) (.ref D)=some b):W.kitOne K (.ref C) (.ref D)=some b:=by
 have e:(W.clsIn K D).isSome=true:=i;have c:C≠D:=by simpa using ne
 unfold W.kitOne W.kitCls;rw[if_neg (by simpa using c)];show(if _ then _ else _)=_
 rw[if_pos (by rw[e,t];rfl)];exact s
end L2
namespace L2
open PySem PySem.Spec PyProof.Rows PySem.SeqAt
structure XC(K:YZ)(C B:J9):Prop where
 cl:∃cd,W.clsIn K C=some cd/\cd.mro = .ref C::.ref B::lQ/\cd.hasDict=true
 ty:W.typeIn K (.ref C)=some (.type "type")
 ga:W.findIn K (.ref C) "__getattribute__" = some (some (.builtin "BaseException.__getattribute__"))
 gn:W.findIn K (.ref C) "__getattr__" = some none
 gc:W.findIn K (.ref C) "__class__" = some (some (.builtin "object.__class__"))
 kp:W.keepIn K (.ref C)=true
section
variable {K:YZ}{C D B:J9}
def XC.mro(c:XC K C B)(v:eH):W.mroIn K C v=some ((Value.ref C::Value.ref B::lQ).contains v):=by
 obtain⟨h,f,e,_⟩:=c.cl;unfold W.mroIn;rw[f,Option.bind_some,e];rfl
def XC.is(c:XC K C B):W.isClsIn K C=true:=by
 obtain⟨f,e,_⟩:=c.cl;unfold W.isClsIn;rw[e];rfl
def XC.ask(c:XC K C B) (sp:W.specialIn K (.builtin "object.__class__") "__get__" = some (some (.builtin "getset_descriptor.__get__"))) (tk:W.takesIn K (.builtin "object.__class__")=some true):Ld K C:=by
 obtain⟨f,e,_⟩:=c.cl;exact#[#[c.ga,c.gn,c.gc,sp,tk,by rw[c.mro];simp,by rw[c.mro];simp],f,e]
def XC.get(c:XC K C B):Lg K C:=by
 obtain⟨h,f,_,e⟩:=c.cl;refine#[c.ga,c.gn,by rw[c.mro];simp,?_];unfold W.hasDictIn;rw[f];exact e
def XC.set(c:XC K C B) (e:W.findIn K (.ref C) "__setattr__" = some (some (.builtin "object.__setattr__"))):xO K C B:=by
 obtain⟨j,i,h,f⟩:=c.cl;exact#[e,by rw[c.mro];simp,j,i,h,f]
def XC.kit(c:XC K C B)(d:XC K D B)(e:D≠B):qbb K C (.ref D)=some (decide (C=D)):=by
 show W.kitOne K (.ref C) (.ref D)=_
 by_cases h:C=D
 ·subst h;rw[qbf,qnE rfl]
 ·rw[qnM h];refine qdn (by simpa using h) d.is d.ty ?_;show W.mroIn K C (.ref D)=_;rw[c.mro];have f:D≠C:=λz=>h z.symm;simp[f,e]
end
def Li:List Addr->Bool
 |[]=>true
 |a::l=>!l.contains a && Li l
theorem Je:∀{l:tR},Li l=true->l.Nodup
 |[],_=>List.Pairwise.nil
 |a::l,h=>by
  simp only[Li,qnK,qn7,List.contains_eq_mem,decide_eq_false_iff_not] at h;exact qnY.mpr #[h.1,Je h.2]
def ar3(vs:QA0)(R:V->V->V->Prop):Prop:=match vs with
 |[u,v,w]=>R u v w
 |_=>False
@[simp ↓] theorem qmB u v w R:ar3 [u,v,w] R=R u v w:=rfl
end L2
namespace L2
open PySem PySem.Spec PyProof.Rows
section
variable {M:Model}{A:lY}{E:QAB}{s:Y5}{env:Env}
variable {nm q:Str}{C N:J9}{bs bm:QAE}{hdct:Bool}{sn:QAH}{sub:QAE}{ab:Bool}{col:Option Bool}{dd:dR}{k0 k1 k2 k3 k5:QAG}{newId:String}
def qdo{x:Sem Value}{Q:Flow->Shared->Prop}(n:A.handled=none)
  (h:wpAny M A x (λv c=>∃(a C:J9)(e:Obj)(vs:wY)(nm q:Str)(N:J9)(bs bm:QAE)(hdct:Bool)(sn:QAH)(sub:QAE)(ab:Bool)(col:Option Bool)(dd:dR)(k0 k1 k2 k3 k5:QAG)(newId:String),v = .ref a/\bm.contains (.type "BaseException")=true/\
   c.heap.get? C=some (excClassObj nm q C N bs bm hdct sn sub ab col dd k0 k1 k2 k3 k5 newId)/\c.heap.get? a=some e/\e.cls = .ref C/\e.data = .fields vs/\vs[1]? = some .none/\E (.ref a) c) E s) :
  wpAny M A (raiseStmt env (some x) none) Q E s:=by
 unfold raiseStmt;refine qm3 (qn8 h (λv c z=>?_) λ_ _ x=>x);obtain⟨a,C,e,vs,nm,q,N,bs,bm,hdct,sn,sub,ab,col,dd,k0,k1,k2,k3,k5,newId,rfl,u,i,o,r,p,y,w⟩:=z;have f:(Value.ref C::bm).contains (.type "BaseException")=true:=by rw[List.contains_cons,u,Bool.or_true]
 obtain⟨G,g,d,B,os⟩:=c;obtain⟨D,l,m,j⟩:=e;cases r;cases p
 repeat (first|with_reducible refine qoZ o ?_|with_reducible refine qoZ i ?_|(with_reducible refine wpAny_isSubtype_exc i ?_;rw[f])|wp_step)
 rw[y];refine qm8 ?_;rw[if_neg (by decide)];exact qm8 (wpAny_raiseNew_none n w)
end
section
variable {X:Cx}{p_:QAC}{σ:St}{H:Hp}{s:Y5}
def Inv.qlL{a:J9}{φ:Heap->Prop}(I:Inv X p_ σ H s)(f:H a=some (.ext φ)):Inv X p_ σ (hid a H) s:=by
 have ne:∀{b:J9}{u:HO},hid a H b=some u->b≠a/\H b=some u:=λ{b u} z=>by
  unfold hid at z;split at z
  ·cases z
  ·rename_i h;exact#[h,z]
 have e:∀{b:J9}{u:HO},b≠a->H b=some u->hid a H b=some u:=λh z=>xK h z;have i:∀{b:J9},H b=none->hid a H b=none:=λ{b} z=>by
  unfold hid;split
  ·rfl
  ·exact z
 refine#[I.ok,I.os,I.bare,#[I.base.keep,I.base.slot,λb o E n A=>i (I.base.free b o E n A),I.base.there,λb l q=>?_,λb o u q=>?_,λb w q=>?_],I.loc,I.cell,i I.free,λx c q=>i (I.iR x c q),λp j=>?_,λb u q=>?_,I.len]
 ·have z:=I.base.tups b l q;exact e (λy=>by rw[y,f] at z;cases z) z
 ·have z:=I.base.ug b o u q;exact e (λy=>by rw[y,f] at z;cases z) z
 ·obtain⟨m,z⟩:=I.base.uh b w q;exact#[m,e (λy=>by rw[y,f] at z;cases z) z]
 ·obtain⟨D,C,B⟩:=I.pin p j;exact#[D,i C,B]
 ·obtain⟨G,r⟩:=ne q;refine(I.hok b u r).stay (λc v _ z=>z) (λc z=>?_) λc l z=>?_
  ·exact e (λy=>by rw[y,f] at z;cases z) z
  ·exact e (λy=>by rw[y,f] at z;cases z) z
end
section
variable {X:Cx}{E:XK}{k:Nat}{C B f:J9}{fd:sH}{ps:QAH}{sp:Sp}{x:Str}{np cpos pos:Pos}{e:rz}{es:wZ}{t:TA}
def Vx(C:J9)(sp:Sp)(E:XK)(t:TA):TS:=λ_ l H=>t l H λc j=>c.length<=sizeLine/\∀a,j a=none->RW sp (.ref a::c) (upd j a (eN a C none)) (λv i=>v = .non/\∃h,i a=some (eN a C h)/\E (.ref C) h (hid a i)) #[0] E0
@[simp ↓] theorem qg2 C sp E t D σ H:Vx C sp E t D σ H=t σ H λvs i=>vs.length<=sizeLine/\∀a,i a=none->RW sp (.ref a::vs) (upd i a (eN a C none)) (λv h=>v = .non/\∃c,h a=some (eN a C c)/\E (.ref C) c (hid a h)) #[0] E0:=rfl
def Jf(hL:Lets X E)(p:X.ex=[])(hc:X.calm=true)(M:XMk X.K C B f)(F:bT X.prog X.w X.K X.mg X.base gR k f fd ps sp)(hr:fQ (k+1) X.A)(hg:Gl X x)(hm:X.mg x=some (.ref C))(hb:Binds X.K fd ps [])
  (ha:PA X (e::es) t) (aa:(x == ("__debug__" : Str))=false:=by decide) (he:starEach (e::es) X.env=(false,eval e X.env)::starEach es X.env:=by rfl) (a0:(backTo cpos (starEach es X.env)).any (·.1)=false:=by rfl) :
  PS X (.Raise (some (.Call (.Name x np) (e::es) [] cpos)) none pos) (Vx C sp E t):=by
 intro p_ s σ H D I h;show wpAny _ _ (do standAt pos;raiseStmt X.env (some (do let v <- eval (.Call (.Name x np) (e::es) [] cpos) X.env;standAt pos;pure v)) none) _ _ s
 refine qm3 (wpAny_standAt (qdo (I.ok.hd hc) (qm3 ?_)));refine qn8 (Q:=λv n=>∃(a C:J9)(L:Obj)(G:wY)(O q:Str)(N:J9)(bs bm:QAE)(i:Bool)(J:QAH)(sub:QAE)(ab:Bool)(m:Option Bool)(dd:dR)(k0 k1 k2 Y U:QAG)(l:String),v = .ref a/\bm.contains (.type "BaseException")=true/\
   n.heap.get? C=some (excClassObj O q C N bs bm i J sub ab m dd k0 k1 k2 Y U l)/\n.heap.get? a=some L/\L.cls = .ref C/\L.data = .fields G/\G[1]? = some .none/\X.xe (.ref a) n) ?_ (λv n z=>qm3 (wpAny_standAt (qm8 z))) λ_ _ z=>z
 refine qom (mW I hg hm ?_ aa);refine W.callWith_K (h₀:=X.base) I.ok.mod.Nt M.kp (cG (ha cpos p_ s σ H _ I h) λj n zz=>?_) he a0;obtain⟨G,H1,o,r,hz,q⟩:=zz;refine#[o.pA,?_];obtain⟨O,qn,N,bs,i,J,sub,ab,m,dd,k0,k1,k2,Y,U,hC⟩:=M.ob;have T:=M.tail o.pA;have ac:=o.pA _ _ hC;have Nt:=o.pA;obtain⟨hh,g,d,tk,os⟩:=n;refine qdi Nt T M.init M.fn ac (λh' a mk=>?_) (by show j.length<=_;rw[<- r.length];exact hz);have new:X.s₀.heap.get? a=none:=o.old p mk.new;obtain⟨un,I2⟩:=o.qh9 p mk;have hq:=q a un;have r2:Vals (V.ref a::G) (Value.ref a::j):=.cons rfl r;have hl:(Value.ref a::j).length=ps.length:=by rw[<- r2.length];exact F.len _ _ _ _ hq
 have y:=hb _ (Value.ref a::j) I2.pA (by rw[qnC];exact hl);rw[qnC] at y;refine qpb (qor (F.run _ X.stack _ _ #[Value.ref a::j,[]] (Value.ref a::j) _ _ _ (hr.make C j []) (I2.env0.make C j []) y r2 hq) λrr s' c=>?_);cases rr with
 |error z=>exact False.elim c
 |ok fl=>
  cases fl with
  |ret u=>
   obtain⟨v,H',I3,rv,ev,od,ea,hE⟩:=I2.after c;subst ev;obtain⟨ox,ws,t0,g1,g2,g3,g4,g5,g6,g7⟩:=CQ I3.hok ea;refine#[rv,a,C,ox,ws,O,qn,N,bs,_,i,J,sub,ab,m,dd,k0,k1,k2,Y,U,_,rfl,?_,I3.pA _ _ hC,g1,g2,g3,g5,?_]
   ·simp[lQ]
   ·refine hL p_ σ (hid a H') s' a C od (I3.qlL ea) #[new,?_,ox,ws,g1,by rw[g2,g7],g3,g6,.inl g5] hE;unfold hid;rw[if_pos rfl]
  |next=>exact False.elim c
  |brk=>exact False.elim c
  |cont=>exact False.elim c
end
def Ek.ofX{K:YZ}{C B f:J9}(M:XMk K C B f)(c:XC K C B):Ek K C:=λh X=>by
 obtain⟨n,m,N,bs,i,l,sub,y,j,x,u,s,r,p,o,w⟩:=M.ob;exact#[_,N,n,m,bs,i,l,sub,y,j,x,u,s,r,p,o,X _ _ w,λv b e=>by rw[c.mro] at e;exact qnB e]
variable {X:Cx}
@[simp ↓] theorem qlM x y H Q:qhM x y H Q=(isRef x λl=>isInt y λk=>∃xs,H l=some (.lst xs)/\-(2 ^ 63)<=k/\k<2 ^ 63/\xs.length * k.toNat<=sizeLine/\∀p,H p=none->Q (.ref p) (upd H p (.lst (List.replicate k.toNat xs).flatten))):=rfl
def qdp:iD X (binaryOp .Mult) qhM:=by
 refine qfl.mono λ{x y H Q} h=>?_;obtain⟨l,rfl,f⟩:=isRef.out h;obtain⟨k,rfl,c,e⟩:=isInt.out f;exact#[l,k,c,rfl,rfl,e]
def Inv.qbg{X:Cx}{j:QAC}{σ:St}{H:Hp}{s:Y5}{a:J9}{ob:HO}(I:Inv X j σ H s)(new:X.s₀.heap.objs.size<=a)(D:pB X j H a)(ok:cD X.prog X.w (upd H a ob) s.heap a ob):Inv X j σ (upd H a ob) s:=by
 obtain⟨un,J,N,M,G,E⟩:=D;have old:∀{b o},X.s₀.heap.get? b=some o->b≠a:=λ{b o} e z=>by
  have:=qm9 e;rw[z] at this;exact absurd (qnj this new) (qoj _)
 have ne:∀{b:J9}{u:HO},H b=some u->b≠a:=λ{b u} q z=>by
  rw[z,un] at q;cases q
 refine#[I.ok,I.os,I.bare,#[λb o e n i l=>I.base.keep b o e n i l,I.base.slot,λb o e n l=>?_,I.base.there,λb r q=>?_,λb o u q=>?_,λb y q=>?_],I.loc,I.cell,?_,λx c q=>?_,λp h=>?_,λb u q=>?_,I.len]
 ·rw[aF (old e)];exact I.base.free b o e n l
 ·have z:=I.base.tups b r q;rw[aF (ne z)];exact z
 ·have z:=I.base.ug b o u q;rw[aF (ne z)];exact z
 ·obtain⟨m,z⟩:=I.base.uh b y q;exact#[m,by rw[aF (ne z)];exact z]
 ·rw[aF J.symm];exact I.free
 ·rw[aF (G x c q)];exact I.iR x c q
 ·obtain⟨C,B,A⟩:=I.pin p h;refine#[C,?_,A];rw[aF (E p h)];exact B
 ·by_cases i:b=a
  ·subst i;rw[ak] at q;cases q;exact ok
  ·rw[aF i] at q;refine(I.hok b u q).stay (λ_ _ _ v=>v) (λd f=>?_) λd L f=>?_
   ·rw[aF (ne f)];exact f
   ·rw[aF (ne f)];exact f
def arT(xs:QA0)(R:V->V->V->Prop):Prop:=match xs with|[x,y,z]=>R x y z|_=>False
@[simp ↓] theorem qmC x y z R:arT [x,y,z] R=R x y z:=rfl
section
variable {prog:qd}{w:lW}{A:lY}{E:QAB}{s:Y5}{a:J9}
def Jg{it t:J9}{i:Nat}{c}{Q:QAG->Shared->Prop}(v:A.handled=some (.ref a))(p:Ao a s.heap)(f:a≠it)
  (hit:s.heap.IsListIter it t i) (u:s.heap.IsList t c) (r:c[i]? = none)
  (y:∀h',Heap.ExtBut it s.heap h'->Q none {s with heap:=h'}):wpAny (model prog w) A (pyNext (.ref it)) Q E s:=by
 obtain⟨G,j,H,l⟩:=id hit;obtain⟨D,B,_,nl,dl⟩:=u;unfold pyNext;refine qm3 (qpm (qn_ (name:=Str.ofString "__next__") hit.typeIs slot_listiter_next (qow slot_listiter_next hit.typeIs entry_listiter_next ?_ (args_listiter_next _))));show wpAny (model prog w) _ (field (.ref it) 0 >>= _) _ _ s;refine qm3 (qnU j l (x:=.ref t) rfl ?_);show wpAny (model prog w) _ (if (Value.ref t == Value.none)=true then _ else _) _ _ s
 rw[if_neg (λz=>by cases z)];show wpAny (model prog w) _ (field (.ref it) 1 >>= _) _ _ s;refine qm3 (qnU j l (x:=.int i 0) rfl ?_);show wpAny (model prog w) _ (seqItems? (.ref t) >>= _) _ _ s;refine qm3 (qpd B dl ?_);simp only[qpK,r];refine qm3 (qoS (qm3 (qoV j l (by simp) ?_)));have m:=(qob s.heap it (Obj.mapFields (·.setIfInBounds 0 Value.none))).extBut;refine Ss (A:=A.in1) v (p.to λo z=>m _ _ f z) λh' e k h=>?_;obtain⟨o,h,C⟩:=h;refine qm3 (qpt (b:=true) #[o,h,C] qpR (qm8 ?_));exact y _ λb o n z=>k _ _ (m b o n z)
def Ph(C:A.handled=some (.ref a))(I p:J9)(r:p≠I)(l:a≠I)(c:wY) :
  Walks prog w A I [I,p,a] [I] c.size (λi v=>c[i]? = some v) (λi h=>(h.IsListIter I p i/\h.IsList p c)/\Ao a h) where
 sub:=λb j=>by simp at j;simp[j]
 frame:=λ_ _ _ st u=>#[#[st.1.1.at λo e=>u I (by simp) o e,st.1.2.at λo e=>u p (by simp) o e],st.2.to λo e=>u a (by simp) o e]
 item:=λi s Q E B st n=>by
  refine wpAny_pyNext_list_item st.1.1 st.1.2 (x:=c[i]) (by simp[B]) λz m f=>?_;exact n _ z s.toks (by simp[B]) #[#[m,st.1.2.extBut f.extBut r],st.2.to λo e=>f.extBut _ _ l e] λb o j e=>f.extBut b o (λh=>j (by simp[h])) e
 done:=λs Q E st n=>Jg C st.2 l st.1.1 st.1.2 (by simp) λz y=>n z s.toks λb o j e=>y b o (λh=>j (by simp[h])) e
 self:=λ_ _ _ _ st n=>wpAny_pyIter_listiter st.1.1 n
end
section
variable {X:Cx}{K:YZ}{c:J9}
def qbh(c:J9)(K:YZ)(a:J9):It:=#[(Rk K a).go,(Rk K a).UW,λi H=>(Rk K a).stop i H/\Hh H c]
def Sw{P:qd}{w:lW}{K:YZ}{tg:rz}(c a it:J9):qa_ c P w K tg (qbh c K a) [it] it (λi h=>h.IsListIter it a i) where
 mem:=by simp
 obj:=(qZ (P:=P) (w:=w) (K:=K) (tg:=tg) a it).obj
 keep:=(qZ (P:=P) (w:=w) (K:=K) (tg:=tg) a it).keep
 item:=by
  intro X z hw A _ i L s J H E I y st v;subst z hw A;obtain⟨Q,x,m,M⟩:=v;obtain⟨r,n,p,hz⟩:=I.list m;obtain⟨u,hu,U⟩:=n.get M;obtain⟨l,G,f2,D,C,B⟩:=y it (by simp);refine wpAny_pyNext_list_item st p.isList (x:=u) (by simpa using hu) λN j T=>?_;have I1:Inv X L J H {s with heap:=N}:=I.turned (t':=s.toks) (λb o f e=>(T.2 b f).trans e) l G D C B;refine#[u,rfl,?_];obtain⟨o,ho,hc,hd⟩:=id j;refine U0 ho hc hd (by decide) #[x,H,I1,U,#[rfl,λys hy=>?_],j,λb f=>?_]
  ·rw[<- I.ur m hy];exact M
  ·rw[qn4] at f;subst f;exact l
 done:=by
  intro X z hw A hh i L s J H E I y st v;subst z hw A;obtain⟨⟨Q,m,hl⟩,O⟩:=v;obtain⟨r,n,p,hz⟩:=I.list m;obtain⟨l,G,f2,D,C,B⟩:=y it (by simp);have l1:=n.length;refine Jg hh (I.lone O) (O.ne l) st p.isList (by simp;lia) λN Y=>#[rfl,I.turned (t':=s.toks) (λb o f e=>Y b o f e) l G D C B]
 self:=(qZ (P:=P) (w:=w) (K:=K) (tg:=tg) a it).self
def Vy(c:J9)(K:YZ)(i:TE):TI:=λf H R=>i f H λx e=>isRef x λa=>(∃h,aV K e a h)/\R (qbh c K a) e
@[simp ↓] theorem qg3 c K e σ H R:Vy c K e σ H R=(e σ H λx f=>isRef x λa=>(∃xs,aV K f a xs)/\R (qbh c K a) f):=rfl
def zf{tg l:rz}{j:TE}(C:X.K=K)(A:PE X l j):PIH c X tg l (Vy c K j):=by
 subst C;intro w s m H R I h;refine cG (A w s m H _ I h) λv f n=>?_;obtain⟨x,D,i,r,u⟩:=n;obtain⟨a,rfl,⟨E,z⟩,q⟩:=isRef.out u;cases r;obtain⟨y,G,p,J⟩:=i.list z;refine qoW p.isList ?_;refine#[f.heap.objs.size,[f.heap.objs.size],_,_,D,rfl,i.kept (t':=f.toks) λb o e=>qm4 _ e,Sw c a _,#[_,qne _ rfl,rfl,rfl],λb B=>?_,q];have e:b=f.heap.objs.size:=by simpa using B
 subst e;exact i.zY (qm5 _) (i.hok.fresh (qm5 _))
end
section
variable {K:YZ}{own:QAH}{caps:wX}{g:TG}{tt:TT}{te:TE}{D l c:J9}{σ:St}{H:Hp}{Q:Hp->Prop}
def qf_{d:qag g tt te Q}(xs:QA0)(Pv:QA1)(v:Pv 0 (stC own caps σ) H)(r:∀i σ H,i<=xs.length->Pv i σ H->aV K H l xs/\Hh H c)
  (o:∀i x σ H,xs[i]? = some x->Pv i σ H->yG g tt te D (Pv (i+1)) x σ H) (u:∀σ H,Pv xs.length σ H->Q H):tCm own caps (qbh c K l) g tt te Q d D σ H:=by
 refine#[λi m σ H=>m=xs.length - i/\i<=xs.length/\Pv i σ H,#[xs.length,by simp,qnI _,v],?_];rintro i m σ H ⟨rfl,s,p⟩;obtain⟨h,z⟩:=r i σ H s p
 by_cases f:i<xs.length
 ·refine .inr #[#[xs,xs[i],h,by simp[f]],Pv (i+1),λj A n=>#[xs.length - (i+1),∅,rfl,f,n],λx A y=>?_];obtain⟨rfl,w⟩:=y;exact o i x σ _ (w xs h) p
 ·have e:i=xs.length:=⋯
  subst e;exact .inl #[#[#[xs,h,qm5 _],z],u σ H p]
end
section
variable {X:Cx}{K:YZ}{C D:J9}{b:Bool}
def qes(K:YZ):List V->Hp->VK->Prop:=λc H Q=>ar2 c λx y=>isRef x λa=>∃C e b,H a=some (Al a C e)/\Ld K C/\qbb K C y=some b/\Q (.bl b) H
def qet(y:X.K=K):cJ X (.builtin "isinstance") (qes K):=by
 subst y;intro p s l H E J Q I r h;obtain⟨G,m,rfl,h⟩:=ar2.out h;obtain⟨a,rfl,C,N,b,e,⟨L,O,i⟩,f,q⟩:=isRef.out h;obtain⟨u,v,rfl,o,j⟩:=r.two;obtain rfl:u=Value.ref a:=o;obtain⟨B,_⟩:=I.hok a _ e;have go:∀{c:eH},W.kitOne X.K (.ref C) c=some b->wpAny (model X.prog X.w) X.A (call (.builtin "isinstance") [.ref a,c]) (EP X p l Q) X.xe s:=λ{c} x=>
  qpr (qa3 i L) I.pA B.at x (λz=>by cases z) λM=>#[.bl b,H,I.kept (λ_ _ e=>e),rfl,q]
 cases m with
 |ref D=>obtain rfl:v=Value.ref D:=j;exact go f
 |ty n=>obtain rfl:v=Value.type n:=j;exact go f
 |_=>cases f
end
section
variable {X:Cx}{C B:J9}{o:rz}{f:Str}{pos:Pos}{ta:TE}
def qdq{P:qd}{w:lW}{H:Hp}{h:oY}{x C:J9}{i:dR}(c:∀b u,H b=some u->cD P w H h b u)(e:H x=some (Al x C i)):xM x C i h:=(c x _ e).1
end
structure Clause(K:YZ)(D:J9):Prop where
 ob:Ek K D
 be:W.mroIn K D (.type "BaseException")=some true
end L2
namespace L2
open PySem
def Lj{fx:sX}{ps:QAD}{n:Nat}{a b:Str}:(n,a,b)∈aD fx ps 0↔∃e,ps[n]? = some e/\(((fx n).getD 0=0/\a=e.1/\b=e.2)\/((fx n).getD 1=1/\a=e.2/\b=e.1)):=by
 rw[fZ];constructor
 ·rintro⟨j,e,i,h⟩;obtain⟨f,c⟩:=gW.mp h;rw[qnZ] at f c;simp only at f c;subst f;exact#[e,i,c]
 ·rintro⟨e,i,h⟩;exact#[n,e,i,gW.mpr #[by simp,by rw[qnZ];exact h]]
end L2
namespace L2
open PySem PySem.Spec
section
variable {σ:St}{H:Hp}{p:J9}
variable {φ:PyData->Prop}
end
structure Ltr(n:Nat)(x:Str):Prop where
 cp:∀c∈x.cps.toList,c<16 ^ 8
 ln:x.length<=n
section
variable {σ:St}{H:Hp}{p:J9}{K:YZ}
def Vz{vs:QA0}{k:Int}{n:Nat}(h:vs.length=n)(f:0<=k)(e:k<n):∃v,v∈vs/\Cm vs k=some v:=by
 obtain⟨v,c⟩:∃v,vs[k.toNat]? = some v:=#[_,qnx (show k.toNat<vs.length by lia)];refine#[v,qm6 c,?_];rw[show k=(k.toNat:Int) by lia];exact aO c
variable {φ:PyData->Prop}
end
section
variable {X:Cx}
def qeu(t:TE):TE:=λc H Q=>t c H λx e=>isInt x λi=>i.natAbs.log2<1920/\Q (.str (toString i)) e
@[simp ↓] theorem qkz t σ H Q:qeu t σ H Q=(t σ H λx c=>isInt x λi=>i.natAbs.log2<1920/\Q (.str (toString i)) c):=rfl
def qga{e:rz}{pos:Pos}{t:TE}(h:PE X e t):PF X (.FormattedValue e (-1) none pos) (qeu t):=λl s c H Q I m=>
 wpAny_FormattedValue_plain (cG (h l s c H _ I m) λv z ⟨x,u,p,r,q⟩=>by
  obtain⟨i,rfl,n,j⟩:=isInt.out q;obtain⟨y,o,_,f⟩:=isStr.out j;cases o;obtain⟨w,rfl⟩:=r;exact wpAny_formatField_int n #[_,_,u,rfl,p.tok _,f])
end
end L2
namespace L2
open PySem PySem.Spec PyProof.Rows
def Sx(e:J9)(c:Str):HO:=.ext λh=>h.CodeRec (.ref e) c
def TabOk(pos:Pos)(c:Str)(P:J9)(H:Hp):Prop:=
 H P=some (.zU #[])\/∃e,H P=some (.zU [rawInt pos.line,rawInt pos.col,.ref e].toArray)/\H e=some (Sx e c)
def TabOk.same{pos:Pos}{e:Str}{P:J9}{H f:Hp}(t:TabOk pos e P H)(s:Same H f):TabOk pos e P f:=by
 rcases t with t|⟨c,t,u⟩
 ·exact .inl (s _ _ t)
 ·exact .inr #[c,s _ _ t,s _ _ u]
def TabOk.but{pos:Pos}{e:Str}{P p:J9}{H h:Hp}{xs:QA0}(t:TabOk pos e P H)(f:H p=some (.lst xs))(s:But p H h):TabOk pos e P h:=by
 rcases t with t|⟨c,t,u⟩
 ·exact .inl (s _ _ (jH t f (by simp)) t)
 ·exact .inr #[c,s _ _ (jH t f (by simp)) t,s _ _ (jH u f (by simp[Sx])) u]
def qdr{P:qd}{w:lW}{H:Hp}{h:oY}{i:J9}{f:Str}(r:h.CodeRec (.ref i) f):cD P w H h i (Sx i f):=by
 refine#[r,?_,λp n m k=>?_]
 ·obtain⟨c,o,_,_,e,j,_⟩:=r;cases e;exact#[o,j]
 ·obtain⟨c,o,l,t,e,j,d⟩:=m;cases e;exact#[i,o,l,t,rfl,k o j,d]
section
variable {P:qd}{w:lW}{K:YZ}{mg:Y4}{base:oY}
def qds{A:lY}{h:List Env}{s:Y5}{H:Hp}{f z:J9}{name i:Str}{j:Arguments}{l:rz}{c:Scope}{L p:eH}{N ps:QAH}{us:QAE}{vs:QA0}{Q:VK}{k:Nat}{t:TE}
  (M:fQ (k+1) A) (E:Ck P w K mg base A h s H) (ho:s.heap.get? f=some (W.kla_obj name i j l c [] L z p)) (D:s.heap.CodeRec (.ref z) i) (S:aW N ps c)
  (hb:bindArgs (W.kla_fn name i j l c [] L (.ref z) p) #[us,[]]=pure (ps.zip us)) (r:Vals vs us) (hl:vs.length=ps.length)
  (Y:PE (aq gR P w K mg base N i c f (.ref z) A h s H E0) l t) (hq:t (start N vs) H Q) :
  codeAny (model P w) A (.call (.ref f) #[us,[]]) (CR gR h P w H s Q E0) s:=by
 have B:s.heap.NoLimit:=E.mod.nolimit.keeps λb o e=>(E.bs b o e).1;have m:∀y∈ps.zip us,c.names.lookup y.1=some .local\/(c.names.lookup y.1=some .cell/\((cellsFrom (s.heap.objs.size+1) c.names []).lookup y.1).isSome=true):=λ⟨n,v⟩ U=>by
  rcases S.par n (List.of_mem_zip U).1 with q|q
  ·exact .inl q
  ·exact .inr #[q,W.cellsFrom_some _ _ _ (.inl q)]
 refine W.kla_callFunE M.depth ho rfl S.co S.gen rfl D ?_;rw[hb];refine qm8 (wpAny_newFunctionEnv_cells S.kind m λa0 he G x=>?_);subst he;refine#[B.keeps x.toInCall.keep,W.kla_codeExpr ?_];have I:Inv (aq gR P w K mg base N i c f (.ref z) A h s H E0) [] (start N vs) H G:=z6 S M.hd E hl r x;refine qn8 (Y [] G (start N vs) H _ I hq) (λu O C=>?_) λe O C=>C;obtain⟨v,H',J,T,q⟩:=C;exact#[v,H',J.os,J.bare,J.base,J.hok,T,q]
end
section
variable {X:Cx}{p_:QAC}{σ:St}{H:Hp}{s:Y5}
def qbi{M:Model}{A:lY}{E:QAB}{Q:QAB}{c P:J9}{pos:Pos}{i:Str}{l:Arguments}{x:rz}{p:Scope}{ln:Nat}(I:Inv X p_ σ H s)(hc:X.env.code = .ref c)(C:W.CodeHd X.base c P)(hb:X.base.BuiltinsAt X.mg P)
  (hT:TabOk pos i P H) (a0:closureFor p X.env=pure [])
  (h:∀f j pm w H' s',Inv X p_ σ H' s'->But P H H'->TabOk pos i P H'->s'.heap.get? f=some (W.kla_obj "<lambda>" i l x p [] pm j w)->s.heap.objs.size<=f->f<s'.heap.objs.size->H' f=none->H' j=some (Sx j i)->Q (.ref f) s') :
  wpAny M A (makeFunction "<lambda>" i l (.expr x) p X.env [] [] [] pos ln) Q E s:=by
 have hg:s.heap.Ns mainGlobals X.mg:=I.ok.mod.glob.keeps I.bk;have ab:s.heap.BuiltinsAt X.mg P:=by
  obtain⟨bm,o,h1,h2,h3,h4,h5,h6⟩:=hb;exact#[bm,o,h1,h2,h3,h4,I.bk _ _ h5,h6]
 have ae:∀{ps},H P=some (.zU ps)->mainGlobals≠P:=λy q=>by
  obtain⟨o,_,_,e,_⟩:=I.ok.mod.glob;have:=(I.bs _ _ e).2;rw[q,y] at this;cases this
 rcases hT with y|⟨j,y,aa⟩
 ·have gP:s.heap.get? P=some (W.tabObj #[]):=I.hok P _ y;refine W.kla_makeFunction (mg:=X.mg) a0 I.ok.glob hg hc (C.keeps I.bk) gP trivial rfl (ae y) ab λj w L tk hx D G Y T=>?_;have ac:(#[]:Array Value)++[rawInt pos.line,rawInt pos.col,.ref j].toArray = [rawInt pos.line,rawInt pos.col,.ref j].toArray:=by simp
  rw[ac] at T;have nP:∀{b:J9},H b=none->b≠P:=λe z=>by rw[z,y] at e;cases e
  have nc:∀{b:J9}{o:Obj},s.heap.get? b=some o->b≠j:=λe=>qnf (qnj (qm9 e) D);have B:∀{b:J9}{o:HO},H b=some o->b≠j:=λe=>qnf (qnj (I.hok.lt e) D);have af:P≠j:=B y;have kp:∀b o,b≠P->s.heap.get? b=some o->(L.push (W.kla_obj "<lambda>" i l x p [] ((X.mg "__name__").getD .none) j w)).get? b=some o:=λb o n e=>qm4 _ (hx b o n e);have O:=qm4 (W.kla_obj "<lambda>" i l x p [] ((X.mg "__name__").getD .none) j w) T;have r:∀{b:J9},b≠P->b≠j->upd (upd H P (.zU [rawInt pos.line,rawInt pos.col,.ref j].toArray)) j (Sx j i) b=H b:=λn1 n2=>by rw[aF n2,aF n1]
  have N:upd (upd H P (.zU [rawInt pos.line,rawInt pos.col,.ref j].toArray)) j (Sx j i) P=some (.zU [rawInt pos.line,rawInt pos.col,.ref j].toArray):=by rw[aF af,ak]
  have J:Inv X p_ σ (upd (upd H P (.zU [rawInt pos.line,rawInt pos.col,.ref j].toArray)) j (Sx j i)) {s with heap:=L.push (W.kla_obj "<lambda>" i l x p [] ((X.mg "__name__").getD .none) j w),toks:=tk}:=by
   refine I.step (ch:=[]) (by simp) (λb o _ _ _ e n=>kp b o (nP n) e) (λb o _ _ _ e n=>#[o.slots,kp b o (nP n) e]) (λb o _ e n=>?_) (λb o _ e=>?_) (λb xs e=>?_) (λb o u e=>?_) (λb ps e=>?_) (λm hm=>?_) (λb u e=>?_) I.bare
   ·rw[r (nP n) (nc e)];exact n
   ·by_cases z:b=P
    ·exact#[_,by rw[z];exact O]
    ·exact#[o,kp b o z e]
   ·rw[r (jH e y (by simp)) (B e)];exact e
   ·rw[r (jH e y (by simp)) (B e)];exact e
   ·by_cases z:b=P
    ·subst z;rw[y] at e;cases e;exact#[[rawInt pos.line,rawInt pos.col,.ref j].toArray,by rw[N];simp]
    ·exact#[#[],by rw[r z (B e),e];simp]
   ·exact(hm.extBut hx (λz=>nP I.free z)).push _
   ·by_cases z1:b=j
    ·subst z1;rw[ak] at e;cases e;refine qdr ?_;obtain⟨c,o,vs,t,e,ho,d⟩:=Y;exact#[c,o,vs,t,e,qm4 _ ho,d]
    ·by_cases z2:b=P
     ·subst z2;rw[N] at e;cases e;exact O
     ·rw[r z2 z1] at e;refine(I.hok b u e).stay (λd v hd q=>kp d v ?_ q) (λd q=>by rw[r (jH q y (by simp)) (B q)];exact q) λd xs q=>by rw[r (jH q y (by simp)) (B q)];exact q
      rcases hd with rfl|hd
      ·exact z2
      ·exact jH hd y (by simp)
  exact h _ j _ w _ _ J (λb o n e=>by rw[r n (B e)];exact e) (.inr #[j,N,ak]) (qne _ rfl) (qnp D (qoK G)) (by show L.objs.size<(Heap.push L _).objs.size;rw[qnV];exact qoi _)
   (by rw[r (λz=>?_) (qoF G)];exact I.hok.fresh (qnp D (qoK G));exact absurd (I.hok.lt y) (by rw[<- z];exact Nat.not_lt.mpr (qnp D (qoK G)))) ak
 ·have gP:s.heap.get? P=some (W.tabObj [rawInt pos.line,rawInt pos.col,.ref j].toArray):=I.hok P _ y;refine W.kla_makeFunctionHit (mg:=X.mg) (cv:=.ref j) a0 I.ok.glob hg hc (C.keeps I.bk) gP (by simp[TriplesOk,rawInt]) (by simp[codeAmong,rawInt]) ab λw L tk hk U=>?_;exact h _ j _ w H _ (I.kept λb o e=>qm4 _ (hk b o e)) (λb o _ e=>e) (.inr #[j,y,aa]) (qne _ rfl) U (by show L.objs.size<(Heap.push L _).objs.size;rw[qnV];exact qoi _) (I.hok.fresh U) aa
structure Rec(X:Cx)(p_:QAC)(H:Hp)(it:J9):Prop where
 no:H it=none
 loc:it≠X.env.locals
 ab:X.s₀.heap.objs.size<=it
 cel:∀x c,X.env.cells.lookup x=some c->c≠it
 pin:∀p∈X.pn++p_,p.1≠it
def Inv.rcd(I:Inv X p_ σ H s){it:J9}(h:s.heap.objs.size<=it):Rec X p_ H it where
 no:=I.hok.fresh h
 loc:=qoF (qnj I.lt h)
 ab:=qnp I.sz h
 cel:=λx c e z=>by
  obtain⟨v,o,i,_⟩:=I.cell x c e;exact absurd (qnj (qm9 i) h) (by rw[z];exact qoj _)
 pin:=λp f z=>by
  have:=qm9 (I.pin p f).1;exact absurd (qnj this h) (by rw[z];exact qoj _)
def Inv.turn{t':Nat}{it:J9}{h':oY}(I:Inv X p_ σ H s)(R:Rec X p_ H it)(k:∀b o,b≠it->s.heap.get? b=some o->h'.get? b=some o):Inv X p_ σ H {s with heap:=h',toks:=t'}:=
 I.turned k R.no R.loc (.inr R.ab) R.cel R.pin
def qev(X:Cx)(p_:QAC)(σ:St)(H:Hp)(n:Nat)(k:Int)(s:Y5)(u:eH)(c:Y5):Prop:=
 ∃t,u = .int k t/\Inv X p_ σ H c/\∀b o,n<=b->H b=none->s.heap.get? b=some o->c.heap.get? b=some o
end
def aV.qdt{K:YZ}{H e:Hp}{P a:J9}{xs:QA0}{ps:wY}(h:aV K H a xs)(c:H P=some (.zU ps))(b:But P H e):aV K e a xs:=by
 rcases h with(h|⟨o,h⟩)|h
 ·exact .inl (.inl (b _ _ (jH h c (by simp)) h))
 ·exact .inl (.inr #[o,b _ _ (jH h c (by simp)) h])
 ·exact .inr h
def cO.qdt{K:YZ}{H e:Hp}{P a:J9}{xs:QA0}{ps:wY}(h:cO K H a xs)(c:H P=some (.zU ps))(b:But P H e):cO K e a xs:=by
 rcases h with(h|⟨o,h⟩)|h
 ·exact .inl (.inl (b _ _ (jH h c (by simp)) h))
 ·exact .inl (.inr #[o,b _ _ (jH h c (by simp)) h])
 ·exact .inr h
def TabOk.tb{pos:Pos}{e:Str}{P:J9}{H:Hp}(t:TabOk pos e P H):∃ps,H P=some (.zU ps):=by
 rcases t with t|⟨c,t,_⟩
 ·exact#[_,t]
 ·exact#[_,t]
structure VB(fd:sH)(base:oY)(mg:Y4)(c P:J9):Prop where
 cd:fd.code = .ref c
 hd:W.CodeHd base c P
 bt:base.BuiltinsAt mg P
def cW.okC{P:qd}{w:lW}{K:YZ}{mg:Y4}{base:oY}{x i:Str}{st:Stmt}{f c:J9}{n:sH}{N ps:QAH}{k:Nat}{sp:Sp}(F:cW K x i st f n)(v:n.code = .ref c)(S:aW N ps (aB st))(len:∀vs H Q E,sp vs H Q E->vs.length=ps.length)
  (j:∀(A:lY)(e:List Env)(s:Y5)(H:Hp)(vs:QA0)(Q:VK)(E:XK),fQ k (A.deeper (envOfC i (aB st) s.heap.objs.size f (.ref c)))->sp vs H Q E->
   ∃t,GZ (aq gR P w K mg base N i (aB st) f (.ref c) A e s H E).UL (gk st) t/\t {nx:=λ_ z=>Q .non z,rt:=Q} (jk N vs) H):bT P w K mg base gR (k+1) f n ps sp:=by
 obtain⟨D,C,kV,y,B,L,o,J,p,rfl,r,m⟩:=F.ex;obtain rfl:o = .ref c:=v;refine ZF r m S len λA e s H vs Q E u l=>?_;obtain⟨t,h,q⟩:=j A e s H vs Q E u l;refine#[t,h.UL,?_];have I:=len _ _ _ _ l;have G:ps.length<=N.length:=by have:=qnH List.length S.pre;rw[qni] at this;lia
 rw[nG N vs ⋯] at q;exact q
def qic(P:J9)(H:Hp):Prop:=∀b,b≠P->H b=none\/∃o c,H b=some (.Nq o (.lst c))
def Xp{P:qd}{w:lW}{K:YZ}{mg mb:Y4}{CX:Zw}{k:Nat}{fa a c i:J9}{fd:sH}{x:Str}{sp:Sp}{f:Y5}{vs:QAE}{ns:qx}
  (KX:K.In f.heap) (U:f.heap.Ns mainGlobals mg) (j:f.heap.Ns builtinsNs mb) (al:∀x:Str,x≠ "__name__" ->mb x=bootBuiltins x) (Y:f.heap.NoLimit) (hg:f.gens = #[])
  (L:f.heap.get? a=some {cls:=.type "list",data:=.seq vs.toArray}) (hi:IntsAre vs ns) (hl:ns.length<=sizeLine) (hr:fQ k callerA)
  (hC:W.CodeHd f.heap c i) (p:f.heap.get? i=some (W.tabObj #[])) (am:K.lookup i=none) (av:f.heap.BuiltinsAt mg i)
  (F:∀l:Heap,K.In l->l.Ns mainGlobals mg->W.CodeHd l c i->l.BuiltinsAt mg i->bT P w K mg l CX k fa fd [x] sp) (J:∀(s:Y5)(u:eH),BindsTo s fd #[[u],[]] [(x,u)])
  (ai:∀H:Hp,H i=some (.zU #[])->aV K H a (ns.map V.int)->sp [.ref a] H (λv _=>v = .bl true) λ_ _ _=>False)
  (ap:∀H e y,CX [] H f (λ_ _ _=>False) e y->False) :
  codeAny (model P w) callerA (.call (.ref fa) #[[.ref a],[]]) (λr y=>r = .ok (.ret (.bool true))/\OldK f.heap y.heap/\y.os=f.os/\AllBare y.gens) f:=by
 have rv:=z7 hi;have Q:=hi.length;have aP:a≠i:=λz=>by rw[z,p] at L;cases L
 have G:∀H:Hp,qic i H->H i=some (.zU #[])->aV K H a (ns.map V.int)->vH P w H f.heap->(∀b,H b≠none->b=a\/b=i)->(H a≠none->K.lookup a=none)->
   codeAny (model P w) callerA (.call (.ref fa) #[[.ref a],[]]) (λr y=>r = .ok (.ret (.bool true))/\OldK f.heap y.heap/\y.os=f.os/\AllBare y.gens) f:=by
  intro H hO aa hS T hA hK;have CT:∀{b:J9}{o:Obj},f.heap.get? b=some o->H b=none->(Dk f.heap H).get? b=some o:=λe n=>Y7 e n;have O:∀{b:J9}{o:Obj},f.heap.get? b=some o->(∀ag n,o.data≠.seq ag n)->o.cls≠.none->H b=none:=λ{b o} e d1 d2=>by
   cases q:H b with
   |none=>rfl
   |some u=>
    rcases hA b (by rw[q];simp) with B|B
    ·subst B;rw[L] at e;cases e;exact absurd rfl (d1 _ _)
    ·subst B;rw[p] at e;cases e;exact absurd rfl d2
  have af:∀{b:J9}{o:Obj}{es:Array DictEntry}{ep:Nat},f.heap.get? b=some o->o.data = .dict es ep->H b=none:=λ{b o es ep} e d=>by
   cases q:H b with
   |none=>rfl
   |some u=>
    rcases hA b (by rw[q];simp) with B|B
    ·subst B;rw[L] at e;cases e;cases d
    ·subst B;rw[p] at e;cases e;cases d
  have D:∀{b:J9}{m:Y4},f.heap.Ns b m->(Dk f.heap H).Ns b m:=λ{b m} ⟨o,es,ep,e,d,r⟩=>#[o,es,ep,CT e (af e d),d,r];have a0:K.In (Dk f.heap H):=λb o e=>CT (KX b o e) (by
   cases q:H b with
   |none=>rfl
   |some u=>
    rcases hA b (by rw[q];simp) with B|B
    ·subst B;rw[hK (by rw[q];simp)] at e;cases e
    ·subst B;rw[am] at e;cases e)
  have an:W.CodeHd (Dk f.heap H) c i:=by
   obtain⟨o,ae,ab,tf,M,tg,ah,N,tt,e1,e2,e3,r⟩:=hC;exact#[o,ae,ab,tf,M,tg,ah,N,tt,CT e1 (O e1 (λ_ _ z=>by rw[e3] at z;cases z) (by rw[e2];simp)),e2,e3,r]
  have ar:(Dk f.heap H).BuiltinsAt mg i:=by
   obtain⟨bm,o,h1,h2,h3,h4,h5,h6,h7,h8⟩:=av;exact#[bm,o,h1,h2,h3,h4,CT h5 (O h5 (λ_ _ z=>by rw[h8] at z;cases z) (by rw[h6];simp)),h6,h7,h8]
  have hM:Mod K mg (Dk f.heap H):=#[a0,D U,#[mb,D j,al],let ⟨mc,h1,h2⟩:=Y;#[mc,D h1,h2]];have e0:Ck P w K mg (Dk f.heap H) callerA [] f H:=#[rfl,hM,λb o e=>qcm e,Nat.le_of_eq (Wj _ _),trivial,λb j=>absurd (show b∈([]:List Addr) from j) (by simp),T,.of_eq hg];refine qor ((F _ a0 (D U) an ar).run callerA [] f H #[[.ref a],[]] [.ref a] [.ref a] _ _ hr e0 (J f (.ref a)) (.cons rfl .nil) (ai H aa hS)) λr y h=>?_;cases r with
  |error e=>exact(ap H e y h).elim
  |ok fl=>
   cases fl with
   |next=>exact False.elim h
   |brk=>exact False.elim h
   |cont=>exact False.elim h
   |ret u=>
    obtain⟨v,H',os,ac,un,E,r',q⟩:=h;have q':v = .bl true:=q;subst q';obtain rfl:u=Value.bool true:=r';have kp:∀b o,b≠i->f.heap.get? b=some o->y.heap.get? b=some o:=λb o A e=>by
     cases q:H b with
     |none=>exact un.keep b o e q (by intro z;exact absurd (show b∈([]:List Addr) from z) (by simp)) (by simp)
     |some u=>
      rcases hO b A with z|⟨ob,xs,z⟩
      ·rw[q] at z;cases z
      ·have z2:=un.ug b ob _ z;obtain⟨e1,_⟩:=T b _ z;obtain⟨e2,_⟩:=E b _ z2;rw[e] at e1;cases e1;exact e2
    obtain⟨more,hm⟩:=un.uh i _ aa;have gP:y.heap.get? i=some (W.tabObj (#[]++more)):=E i _ hm;refine#[rfl,#[λb o e=>?_,λb o e=>?_],os,ac]
    ·by_cases A:b=i
     ·subst A;rw[p] at e;cases e;exact .inr (.inl #[(hC.tab p).isCodeTable,rfl,#[],more,rfl,gP])
     ·exact .inl (kp b o A e)
    ·by_cases A:b=i
     ·exact#[_,by rw[A];exact gP]
     ·exact#[o,kp b o A e]
 cases hk:K.lookup a with
 |some o=>
  have e:=KX a o hk;rw[L] at e;cases e;refine G (λb=>if b=i then some (.zU #[]) else none) (λb A=>.inl (if_neg A)) (if_pos rfl) (.inr #[_,vs.toArray,_,hk,rfl,rfl,rfl,by rw[qnm,Q];exact hl,by simpa using rv]) (λb u z=>?_) (λb z=>?_) λz=>absurd (if_neg aP) z
  ·by_cases j:b=i
   ·have C:=(if_pos j).symm.trans z;cases C;subst j;exact p
   ·have C:=(if_neg j).symm.trans z;cases C
  ·by_cases j:b=i
   ·exact .inr j
   ·exact absurd (if_neg j) z
 |none=>
  refine G (λb=>if b=i then some (.zU #[]) else if b=a then some (.Nq {cls:=.type "list",data:=.seq vs.toArray} (.lst (ns.map V.int))) else none) (λb A=>?_) (if_pos rfl)
   (.inl (.inr #[{cls:=.type "list",data:=.seq vs.toArray},(if_neg aP).trans (if_pos rfl)])) (λb u z=>?_) (λb z=>?_) λ_=>hk
  ·by_cases j:b=a
   ·exact .inr #[_,_,(if_neg A).trans (if_pos j)]
   ·exact .inl ((if_neg A).trans (if_neg j))
  ·by_cases I:b=i
   ·have C:=(if_pos I).symm.trans z;cases C;subst I;exact p
   ·by_cases j:b=a
    ·have C:=((if_neg I).trans (if_pos j)).symm.trans z;cases C;subst j;exact#[L,by rw[qm7];exact hl,vs,_,rv,L]
    ·have C:=((if_neg I).trans (if_neg j)).symm.trans z;cases C
  ·by_cases I:b=i
   ·exact .inr I
   ·by_cases j:b=a
    ·exact .inl j
    ·exact absurd ((if_neg I).trans (if_neg j)) z
def qbj{l:W.OpenLaw}{n k:Nat}{q:qd}{m:QAH}{XP:(Str->Option Value)->Heap->Prop}{YP:World->Heap->Prop}{d dt:DefRec}{K:Params->W.Frag}{CX:World->Zw}{sp:World->Sp}{x xt:Str}{c y:J9}
  (hn:l.most=some n) (I:n<=sizeLine) (J:d.params.defaults=[]) (hr:fQ k callerA)
  (hY:∀(w:lW)(h:oY),YP w h->(K w.params).In h)
  (A:(recsOf q).find? (λe=>e.name == xt)=some dt) (z:∀w:World,W.tabIn (K w.params) xt=some (c,y)) (E:∀w:World,W.noTabs (K w.params)=true)
  (F:∀(w:lW)(mg:Y4)(fa:J9)(h:oY),(K w.params).In h->h.Ns mainGlobals mg->mg d.name=some (.ref fa)->
   ∃Q:FuncData,(∀(s:Y5)(u:eH),BindsTo s Q #[[u],[]] [(x,u)])/\
    ∀base:Heap,(K w.params).In base->base.Ns mainGlobals mg->W.CodeHd base c y->base.BuiltinsAt mg y->bT l.prog w (K w.params) mg base (CX w) k fa Q [x] (sp w))
  (D:∀(w:lW)(H:Hp)(a:J9)(ns:qx),ns.length<=n->H y=some (.zU #[])->aV (K w.params) H a (ns.map V.int)->sp w [.ref a] H (λv _=>v = .bl true) λ_ _ _=>False)
  (N:∀(w:lW)(H:Hp)(s:Y5)(e:eH)(C:Y5),CX w [] H s (λ_ _ _=>False) e C->False) :
  W.WalkO q m XP YP l.row.toRowW d [] (λf vs=>PySem.call f vs):=by
 refine Att.N8 hn J λw a0 i mg mb fa o pm cd ab a vs ns G Y ho hd aa hmg B p j hg=>?_;have KX:=hY w _ Y;obtain⟨Q,hb,hF⟩:=F w mg fa _ KX G.T.g hmg;obtain⟨hC,r⟩:=W.tab_of G.T KX A (z w);have M:(K w.params).lookup y=none:=by
  cases e:(K w.params).lookup y with
  |none=>rfl
  |some ob=>
   have e1:=KX _ _ e;rw[r] at e1;cases e1;have h2:=qnk.mp (E w) _ (W.mem_of_lookupK e);exact absurd (show false=true from h2) qnq
 have O:i.heap.BuiltinsAt mg y:=by
  obtain⟨bm,ob,b1,b2,b3,b4,b5,U⟩:=G.T.bmain;refine#[bm,ob,b1,b2,λq=>?_,λq=>?_,b3,b4,b5,U]
  ·obtain⟨o',es,ep,e,L,_⟩:=G.T.g;rw[q,e] at b3;cases b3;rw[L] at U;cases U
  ·rw[q,r] at b3;cases b3;cases b4
 exact Xp KX G.T.g G.T.b G.T.builtins G.T.nolimit hg B p (qnp j I) hr hC r M O hF hb (λH hO hS=>D w H a ns j hO hS) λH e C=>N w H i e C
def qbk{K:YZ}{x:Str}{f c P:J9}{p j:eH}{o i:dR}{n h:Array (QAG)}{m:sH}{vs:wY}(a:W.nsIn K mainGlobals x=some (some (.ref f)))(l:K.lookup f=some #[p,o,.func m,n])
  (e:m.code = .ref c) (k:K.lookup c=some #[j,i,.fields vs,h]) (v:vs[11]? = some (.ref P)):W.tabIn K x=some (c,P):=by
 unfold W.tabIn;rw[a];dsimp only;rw[l];dsimp only;rw[e];dsimp only;rw[k];dsimp only;rw[v]
end L2
namespace L2
open PySem PyProof.Rows
section
variable {prog:qd}{w:lW}{A:lY}{E:QAB}{s:Y5}
def Pj{st:SortSt}{x y:Keyed}{a b:Int}{t u:Tok}{Q:Option Bool->SortSt->Prop}(f:kindOf st=oneType')(e:x.1 = .int a t)(c:y.1 = .int b u)(h:∀b,Q (some b) st) :
  wpS (model prog w) A E s (lt' x y) Q st:=by
 rw[lt'_eq];refine qna (wpS_get ?_);rw[f,keyLt'_oneType,e,c];refine qna (wpS_lift (qpm (oneLt_int #[rfl,?_])));exact qnl (h _)
def cT{st:SortSt}{arr:Array Keyed}{i:Nat}{Q:Keyed->SortSt->Prop}(c:i<arr.size)(h:Q arr[i] st):wpS (model prog w) A E s (elem' arr i) Q st:=by
 rw[elem'_eq,getElem?_pos arr i c];exact qnl h
def pO:Bool->Keyed->Array Keyed->Nat->Nat->Nat->StateT SortSt Sem (Option Nat):=sortPriv% PySem.Builtin.gallop
def byd(e:Bool)(c:Keyed)(arr:Array Keyed)(base i:Nat):StateT SortSt Sem (Option Bool):=do
 let x <- elem' arr (base+i)
 if e then lt' x c else return (<- lt' c x).map (!·)
def qdu(i:Bool)(f:Keyed)(arr:Array Keyed)(base n e h:Nat):StateT SortSt Sem (Option Nat):=do
 let mut lo:=e
 let mut c:=h
 for _ in [0:n] do
  if lo≥c then break
  let m:=lo+(c - lo) / 2
  let some more <- byd i f arr base m|return none
  if more then lo:=m+1 else c:=m
 return some c
def SJ(l:Bool)(i:Keyed)(arr:Array Keyed)(base n c:Nat):pO l i arr base n c=(do
 let mut f:=0
 let mut h:=1
 let some m <- byd l i arr base c|return none
 if m then
  let e:=n - c
  for _ in [0:n] do
   if h≥e then break
   let some more <- byd l i arr base (c+h)|return none
   if !more then break
   f:=h
   h:=2 * h+1
  qdu l i arr base n (c+f+1) (c+min h e)
 else
  let e:=c+1
  for _ in [0:n] do
   if h≥e then break
   let some j <- byd l i arr base (c - h)|return none
   if j then break
   f:=h
   h:=2 * h+1
  qdu l i arr base n (c+1 - min h e) (c - f)):=rfl
def IK(arr:Array Keyed):Prop:=∀p∈arr.toList,∃n t,p.1=Value.int n t
def IK.at{arr:Array Keyed}(h:IK arr){i:Nat}(c:i<arr.size):∃n t,arr[i].1=Value.int n t:=h _ (by simp)
def nM{st:SortSt}{y:Bool}{p:Keyed}{arr:Array Keyed}{base n f:Nat}{Q:Option Nat->SortSt->Prop}(H:kindOf st=oneType')(L:IK arr)(m:∃a t,p.1=Value.int a t)(U:base+n<=arr.size)(J:f<n)(h:∀k,k<=n->Q (some k) st) :
  wpS (model prog w) A E s (pO y p arr base n f) Q st:=by
 rw[SJ];obtain⟨T,O,m⟩:=m;have r:∀{i:Nat}{Q:Option Bool->SortSt->Prop},i<n->(∀b,Q (some b) st)->wpS (model prog w) A E s (byd y p arr base i) Q st:=λ{i Q} u G=>by
  unfold byd;refine qna (cT (show base+i<arr.size by lia) ?_);obtain⟨N,M,D⟩:=L.at (show base+i<arr.size by omega);cases y with
  |true=>exact Pj H D m G
  |false=>exact qna (Pj H m D λb=>qnl (G _))
 have v:∀lo u:Nat,u<=n->wpS (model prog w) A E s (qdu y p arr base n lo u) Q st:=by
  intro lo u C;unfold qdu;dsimp only;refine qna (qo9 (qoh (I:=λ_ (c:Option (Option Nat)×Nat×Nat) e=>e=st/\c.1=none/\c.2.2<=n) (Q:=λc e=>e=st/\c.1=none/\c.2.2<=n) ?_ (λ_ _ h=>h) #[rfl,rfl,C]) ?_)
  ·rintro i ⟨x,lo,u⟩ e _ _ ⟨rfl,l,o⟩;dsimp only at l o⊢;subst l
   by_cases j:lo≥u
   ·rw[if_pos j];exact qnl #[rfl,rfl,o]
   ·rw[if_neg j];refine qna (r ⋯ λb=>?_);cases b with
    |true=>exact qnl #[rfl,rfl,o]
    |false=>exact qnl #[rfl,rfl,by dsimp only;lia]
  ·rintro⟨x,lo,u⟩ e ⟨rfl,l,o⟩;dsimp only at l o⊢;subst l;exact qnl (h _ o)
 dsimp only;refine qna (r J λz=>?_);dsimp only;cases z with
 |true=>
  simp only[if_true];refine qna (qo9 (qoh (I:=λ_ (c:Option (Option Nat)×Nat×Nat) e=>e=st/\c.1=none) (Q:=λc e=>e=st/\c.1=none) ?_ (λ_ _ h=>h) #[rfl,rfl]) ?_)
  ·rintro i ⟨x,B,of⟩ e _ _ ⟨rfl,l⟩;dsimp only at l⊢;subst l
   by_cases j:of≥n - f
   ·rw[if_pos j];exact qnl #[rfl,rfl]
   ·rw[if_neg j];refine qna (r (i:=f+of) ⋯ λb=>?_);cases b with
    |true=>exact qnl #[rfl,rfl]
    |false=>exact qnl #[rfl,rfl]
  ·rintro⟨x,B,of⟩ e ⟨rfl,l⟩;dsimp only at l⊢;subst l;exact v _ _ ⋯
 |false=>
  simp only[qoe,qpE];refine qna (qo9 (qoh (I:=λ_ (c:Option (Option Nat)×Nat×Nat) e=>e=st/\c.1=none) (Q:=λc e=>e=st/\c.1=none) ?_ (λ_ _ h=>h) #[rfl,rfl]) ?_)
  ·rintro i ⟨x,B,of⟩ e _ _ ⟨rfl,l⟩;dsimp only at l⊢;subst l
   by_cases j:of≥f+1
   ·rw[if_pos j];exact qnl #[rfl,rfl]
   ·rw[if_neg j];refine qna (r (i:=f - of) ⋯ λb=>?_);cases b with
    |true=>exact qnl #[rfl,rfl]
    |false=>exact qnl #[rfl,rfl]
  ·rintro⟨x,B,of⟩ e ⟨rfl,l⟩;dsimp only at l⊢;subst l;exact v _ _ ∅
def iZ:Nat->StateT SortSt Sem Unit:=sortPriv% PySem.Builtin.setMinGallop
abbrev Lk(st:SortSt)(g:Nat):SortSt:=SortSt.mk' (kindOf st) (arrOf st) (pendingOf st) g (failedOf st)
def En{c:Type}{M:Model}{p:Prop}{i:Decidable p}{st:SortSt}{Q:c->SortSt->Prop}{X:StateT SortSt Sem c}{f:Nat->StateT SortSt Sem c}{a b:Nat}(h:∀x,wpS M A E s (f x) Q st)(e:X=f a):wpS M A E s (if p then X else f b) Q st:=by
 split
 ·rw[e];exact h _
 ·exact h _
def zj{c β:Type}{M:Model}{p:Prop}{j:Decidable p}{st:SortSt}{Q:c->SortSt->Prop}{X:StateT SortSt Sem c}{f:β->Nat->StateT SortSt Sem c}{a:β}{b:Nat}(I:β->Nat->Prop)(i:I a b)(h:∀x y,I x y->wpS M A E s (f x y) Q st)(e:(∀x y,I x y->wpS M A E s (f x y) Q st)->wpS M A E s X Q st):wpS M A E s (if p then X else f a b) Q st:=by
 split
 ·exact e h
 ·exact h _ _ i
def iH(g:Nat):iZ g=modify λst=>Lk st g:=rfl
def Eo:Array Keyed->Array Keyed->StateT SortSt Sem (Array Keyed):=sortPriv% PySem.Builtin.mergeLo
def oF(a b out:Array Keyed)(ia ib:Nat):Array Keyed:=out++a.extract ia a.size++b.extract ib b.size
def Aq(a b out:Array Keyed)(ia ib:Nat):Array Keyed:=out++b.extract ib b.size++a.extract ia a.size
def Pn(a b:Array Keyed):Eo a b=(do
 rule "list.sort.merge-lo"
 let j:=a.size+b.size
 let mut out:Array Keyed:=[<- elem' b 0].toArray
 let mut h:=0
 let mut i:=1
 if i == b.size then return oF a b out h i
 if h+1 == a.size then return Aq a b out h i
 let mut c:=gallopOf (<- get)
 for _ in [0:j] do
  let mut f:=0
  let mut e:=0
  for _ in [0:j] do
   let some l <- lt' (<- elem' b i) (<- elem' a h)|return oF a b out h i
   if l then
    out:=out.push (<- elem' b i);i:=i+1;e:=e+1;f:=0
    if i == b.size then return oF a b out h i
    if e≥c then break
   else
    out:=out.push (<- elem' a h);h:=h+1;f:=f+1;e:=0
    if h+1 == a.size then return Aq a b out h i
    if f≥c then break
  rule "list.sort.gallop"
  c:=c+1
  for _ in [0:j] do
   if c > 1 then c:=c - 1
   iZ c
   let some k <- pO false (<- elem' b i) a h (a.size - h) 0|return oF a b out h i
   f:=k
   if k > 0 then
    out:=out++a.extract h (h+k);h:=h+k
    if h+1 == a.size then return Aq a b out h i
    if h == a.size then return oF a b out h i
   out:=out.push (<- elem' b i);i:=i+1
   if i == b.size then return oF a b out h i
   let some k <- pO true (<- elem' a h) b i (b.size - i) 0|return oF a b out h i
   e:=k
   if k > 0 then
    out:=out++b.extract i (i+k);i:=i+k
    if i == b.size then return oF a b out h i
   out:=out.push (<- elem' a h);h:=h+1
   if h+1 == a.size then return Aq a b out h i
   if f<7 && e<7 then break
  c:=c+1
  iZ c
 unsupported "internal:list.sort.merge-bound"):=rfl
def i_(st c:SortSt):Prop:=kindOf c=kindOf st/\arrOf c=arrOf st/\pendingOf c=pendingOf st/\failedOf c=failedOf st
def i_.refl(st:SortSt):i_ st st:=#[rfl,rfl,rfl,rfl]
def i_.set{st c:SortSt}(h:i_ st c)(g:Nat):i_ st (Lk c g):=h
def MP(a b out:Array Keyed)(ia ib:Nat):Prop:=out.toList.Perm (a.toList.take ia++b.toList.take ib)
theorem MP.b{a b out:Array Keyed}{ia ib:Nat}(h:MP a b out ia ib)(c:ib<b.size):MP a b (out.push b[ib]) ia (ib+1):=by
 unfold MP at h⊢;rw[qpL,List.take_succ,<- qns];have:b.toList[ib]?.toList=[b[ib]]:=by rw[qnx (by simpa using c)];simp
 rw[this];exact h.append_right _
theorem MP.a{a b out:Array Keyed}{ia ib:Nat}(h:MP a b out ia ib)(c:ia<a.size):MP a b (out.push a[ia]) (ia+1) ib:=by
 unfold MP at h⊢;rw[qpL,List.take_succ];have:a.toList[ia]?.toList=[a[ia]]:=by rw[qnx (by simpa using c)];simp
 rw[this,qns];refine(h.append_right _).trans ?_;rw[qns];exact qof _ qn9
def Jh{l:List Keyed}(i k:Nat):l.take (i+k)=l.take i++(l.drop i).take k:=by rw[List.take_add]
def MP.as{a b out:Array Keyed}{ia ib:Nat}(h:MP a b out ia ib)(k:Nat):MP a b (out++a.extract ia (ia+k)) (ia+k) ib:=by
 unfold MP at h⊢;rw[qoc,qn1,Jh,qnO,Nat.add_sub_cancel_left,qns];refine(h.append_right _).trans ?_;rw[qns];exact qof _ qn9
def MP.bs{a b out:Array Keyed}{ia ib:Nat}(h:MP a b out ia ib)(k:Nat):MP a b (out++b.extract ib (ib+k)) ia (ib+k):=by
 unfold MP at h⊢;rw[qoc,qn1,Jh,qnO,Nat.add_sub_cancel_left,<- qns];exact h.append_right _
def MP.done{a b out:Array Keyed}{ia ib:Nat}(h:MP a b out ia ib):(oF a b out ia ib).toList.Perm (a.toList++b.toList):=by
 have e:a.toList=a.toList.take ia++a.toList.drop ia:=(qog _ _).symm;have c:b.toList=b.toList.take ib++b.toList.drop ib:=(qog _ _).symm;unfold oF;rw[qoc,qoc,qn1,qn1,qnO,qnO];rw[qon (by simp),qon (by simp)]
 conv=>rhs;rw[e,c]
 unfold MP at h;refine((h.append_right _).append_right _).trans ?_;rw[qns,qns,qns];refine qof _ ?_;rw[<- qns,<- qns];exact qn9.append_right _
def MP.last{a b out:Array Keyed}{ia ib:Nat}(h:MP a b out ia ib):(Aq a b out ia ib).toList.Perm (a.toList++b.toList):=by
 refine List.Perm.trans ?_ h.done;unfold Aq oF;simp only[qoc,qns];exact qof _ qn9
theorem MP.size{a b out:Array Keyed}{ia ib:Nat}(h:MP a b out ia ib)(e:ia<=a.size)(c:ib<=b.size):out.size=ia+ib:=by
 have:=h.length_eq;simp at this;lia
structure Mid(a b out:Array Keyed)(ia ib:Nat):Prop where
 p:MP a b out ia ib
 a1:ia+1<a.size
 b1:ib<b.size
def SM{st:SortSt}{a b:Array Keyed}{Q:Array Keyed->SortSt->Prop}(hk:kindOf st=oneType')(hA:IK a)(hB:IK b)(ha:0<a.size)(hb:0<b.size)(h:∀out f,i_ st f->out.toList.Perm (a.toList++b.toList)->Q out f) :
  wpS (model prog w) A E s (Eo a b) Q st:=by
 rw[Pn];refine qna (wpS_lift (qoS #[rfl,?_]));refine qna (cT hb ?_);have h0:MP a b [b[0]].toArray 0 1:=by
  have:=MP.b (a:=a) (b:=b) (out:=#[]) (ia:=0) (ib:=0) (List.Perm.refl _) hb;exact this
 dsimp only
 by_cases J:(1 == b.size)=true
 ·rw[if_pos J];exact qnl (h _ _ (i_.refl _) h0.done)
 rw[if_neg J]
 by_cases M:(0+1 == a.size)=true
 ·rw[if_pos M];exact qnl (h _ _ (i_.refl _) h0.last)
 rw[if_neg M];have m0:Mid a b [b[0]].toArray 0 1:=#[h0,by simp at M;lia,by simp at J;lia];refine qna (wpS_get ?_);refine qna (qo9 (qoh (I:=λi (c:Option (Array Keyed)×Array Keyed×Nat×Nat×Nat) f=>c.1=none/\Mid a b c.2.1 c.2.2.1 c.2.2.2.1/\i_ st f/\i+1<=c.2.1.size)
  (Q:=λc f=>i_ st f/\∃r,c.1=some r/\r.toList.Perm (a.toList++b.toList)) ?_ ?_ #[rfl,m0,i_.refl _,qm5 _]) ?_)
 ·rintro i ⟨D,Ln,ae,ab,mg⟩ v _ hi ⟨e,z,u,p1⟩;dsimp only at e z p1⊢;subst e;refine qna (qo9 (qoh (I:=λj (c:Option (Array Keyed)×Array Keyed×Nat×Nat×Nat×Nat) f=>c.1=none/\Mid a b c.2.1 c.2.2.1 c.2.2.2.1/\f=v/\Ln.size+j<=c.2.1.size)
   (Q:=λc f=>f=v/\((∃r,c.1=some r/\r.toList.Perm (a.toList++b.toList))\/(c.1=none/\Mid a b c.2.1 c.2.2.1 c.2.2.2.1/\Ln.size+1<=c.2.1.size))) ?_ ?_ #[rfl,z,rfl,qm5 _]) ?_)
  ·rintro j ⟨D,out,ia,ib,ac,bc⟩ U _ hj ⟨e,l,rfl,p2⟩;dsimp only at e l p2⊢;subst e;refine qna (cT l.b1 (qna (cT (by have:=l.a1;lia) ?_)));obtain⟨x,xt,hx⟩:=hB.at l.b1;obtain⟨y,yt,hy⟩:=hA.at (show ia<a.size by have:=l.a1;omega);refine qna (Pj (u.1.trans hk) hx hy λbw=>?_);cases bw with
   |true=>
    simp only[if_true];refine qna (cT l.b1 ?_);have m:=l.p.b l.b1
    by_cases H:(ib+1 == b.size)=true
    ·rw[if_pos H];exact qnl #[rfl,.inl #[_,rfl,m.done]]
    ·rw[if_neg H];have C:Mid a b (out.push (b[ib]'l.b1)) ia (ib+1):=#[m,l.a1,by have:=l.b1;simp at H;lia];split
     ·exact qnl #[rfl,.inr #[rfl,C,by simp;lia]]
     ·exact qnl #[rfl,C,rfl,by simp;lia]
   |false=>
    simp only[qoe,qpE];refine qna (cT (by have:=l.a1;omega) ?_);have m:=l.p.a (show ia<a.size by have:=l.a1;omega)
    by_cases L:(ia+1+1 == a.size)=true
    ·rw[if_pos L];exact qnl #[rfl,.inl #[_,rfl,m.last]]
    ·rw[if_neg L];have C:Mid a b (out.push (a[ia]'(by have:=l.a1;omega))) (ia+1) ib:=#[m,by have:=l.a1;simp at L;lia,l.b1];split
     ·exact qnl #[rfl,.inr #[rfl,C,by simp;omega]]
     ·exact qnl #[rfl,C,rfl,by simp;omega]
  ·rintro⟨D,out,ia,ib,ac,bc⟩ U ⟨e,l,rfl,p2⟩;dsimp only at e l p2⊢;exact#[rfl,.inr #[e,l,⋯]]
  ·rintro⟨D,out,ia,ib,ac,bc⟩ U ⟨rfl,⟨r,e,hr⟩|⟨e,l,p2⟩⟩
   ·dsimp only at e⊢;subst e;exact qnl #[u,r,rfl,hr]
   ·dsimp only at e l p2⊢;subst e;dsimp only;refine qna (wpS_lift (qoS #[rfl,?_]));refine qna (qo9 (qoh (I:=λj (c:Option (Array Keyed)×Array Keyed×Nat×Nat×Nat×Nat×Nat) f=>c.1=none/\Mid a b c.2.1 c.2.2.1 c.2.2.2.1/\i_ st f/\out.size<=c.2.1.size)
     (Q:=λc f=>i_ st f/\((∃r,c.1=some r/\r.toList.Perm (a.toList++b.toList))\/(c.1=none/\Mid a b c.2.1 c.2.2.1 c.2.2.2.1/\out.size<=c.2.1.size))) ?_ ?_ #[rfl,l,u,qm5 _]) ?_)
    ·rintro j ⟨D,SN,ia,ib,mg,ac,bc⟩ G _ hj ⟨e,m,T,O⟩;dsimp only at e m O⊢;subst e;have a1:=m.a1;have b1:=m.b1;apply En (p:=mg > 1) (a:=mg - 1) (b:=mg)
     rotate_left
     rfl;intro a0;rw[iH];refine qna (qpn ?_);have B:=T.set a0;generalize Lk G a0=Y0 at B⊢;have Iu:=B.1.trans hk;refine qna (cT b1 (qna (nM Iu hA (hB.at b1) ⋯ ⋯ λk al=>?_)));dsimp only;apply zj (a:=SN) (b:=ia) (λo i=>MP a b o i ib/\i+1<a.size/\out.size<=o.size) #[m.p,a1,O]
     rotate_left
     ·intro R;have q6:=m.p.as k
      by_cases N:(ia+k+1 == a.size)=true
      ·rw[if_pos N];exact qnl #[B,.inl #[_,rfl,q6.last]]
      rw[if_neg N]
      by_cases h4:(ia+k == a.size)=true
      ·rw[if_pos h4];exact qnl #[B,.inl #[_,rfl,q6.done]]
      rw[if_neg h4];exact R _ _ #[q6,by simp at N h4;lia,by rw[qpg];lia]
     rintro Y n ⟨q6,q2,q4⟩;refine qna (cT b1 ?_);have q5:=q6.b b1
     by_cases h1:(ib+1 == b.size)=true
     ·rw[if_pos h1];exact qnl #[B,.inl #[_,rfl,q5.done]]
     rw[if_neg h1];have b2:ib+1<b.size:=by simp at h1;lia
     refine qna (cT ⋯ (qna (nM Iu hB (hA.at ∅) ∅ ∅ λk' af=>?_)));dsimp only;have r4:out.size<=(Y.push (b[ib]'b1)).size:=by rw[qop];lia
     generalize Y.push (b[ib]'b1)=ah at q5 r4⊢;clear m a1;generalize ib+1=aa at af q5 b2⊢;apply zj (a:=ah) (b:=aa) (λo i=>MP a b o n i/\i<b.size/\out.size<=o.size) #[q5,b2,r4]
     rotate_left
     ·intro R;have q7:=q5.bs k'
      by_cases N:(aa+k' == b.size)=true
      ·rw[if_pos N];exact qnl #[B,.inl #[_,rfl,q7.done]]
      rw[if_neg N];exact R _ _ #[q7,by simp at N;lia,by rw[qpg];lia]
     rintro ag ai ⟨q7,r3,r6⟩;refine qna (cT (show n<a.size by lia) ?_);have r5:=q7.a (show n<a.size by omega)
     by_cases u:(n+1+1 == a.size)=true
     ·rw[if_pos u];exact qnl #[B,.inl #[_,rfl,r5.last]]
     rw[if_neg u];have C:Mid a b (ag.push (a[n]'(show n<a.size by omega))) (n+1) ai:=#[r5,by simp at u;lia,r3];split
     ·exact qnl #[B,.inr #[rfl,C,by rw[qop];lia]]
     exact qnl #[rfl,C,B,by rw[qop];omega]
    ·rintro⟨D,SN,ia,ib,mg,ac,bc⟩ G ⟨e,m,T,O⟩;exact#[T,.inr #[e,m,O]]
    ·rintro⟨D,SN,ia,ib,mg,ac,bc⟩ G ⟨T,⟨r,e,hr⟩|⟨e,m,O⟩⟩
     ·dsimp only at e⊢;subst e;exact qnl #[T,r,rfl,hr]
     ·dsimp only at e m O⊢;subst e;dsimp only;rw[iH];exact qna (qpn (qnl #[rfl,m,T.set _,by dsimp only;lia]))
 ·rintro⟨D,Ln,ae,ab,mg⟩ v ⟨e,z,u,p1⟩;dsimp only at e z p1⊢;have:=z.p.size (by have:=z.a1;lia) (by have:=z.b1;lia);have h1:=z.a1;have h2:=z.b1;lia
 ·rintro⟨D,Ln,ae,ab,mg⟩ v ⟨u,r,e,hr⟩;dsimp only at e⊢;subst e;exact qnl (h _ _ u hr)
def Ep:Array Keyed->Array Keyed->StateT SortSt Sem (Array Keyed):=sortPriv% PySem.Builtin.mergeHi
def oG(a b out:Array Keyed)(na nb:Nat):Array Keyed:=a.extract 0 na++b.extract 0 nb++out.reverse
def vO(a b out:Array Keyed)(na nb:Nat):Array Keyed:=b.extract 0 nb++a.extract 0 na++out.reverse
def Pq(a b:Array Keyed):Ep a b=(do
 rule "list.sort.merge-hi"
 let j:=a.size+b.size
 let mut i:=a.size - 1
 let mut h:=b.size
 let mut out:Array Keyed:=[<- elem' a i].toArray
 if i == 0 then return oG a b out i h
 if h == 1 then return vO a b out i h
 let mut c:=gallopOf (<- get)
 for _ in [0:j] do
  let mut f:=0
  let mut e:=0
  for _ in [0:j] do
   let some m <- lt' (<- elem' b (h - 1)) (<- elem' a (i - 1))|return oG a b out i h
   if m then
    i:=i - 1;out:=out.push (<- elem' a i);f:=f+1;e:=0
    if i == 0 then return oG a b out i h
    if f≥c then break
   else
    h:=h - 1;out:=out.push (<- elem' b h);e:=e+1;f:=0
    if h == 1 then return vO a b out i h
    if e≥c then break
  rule "list.sort.gallop"
  c:=c+1
  for _ in [0:j] do
   if c > 1 then c:=c - 1
   iZ c
   let some l <- pO false (<- elem' b (h - 1)) a 0 i (i - 1)|return oG a b out i h
   let k:=i - l
   f:=k
   if k > 0 then
    out:=out++(a.extract l i).reverse;i:=l
    if i == 0 then return oG a b out i h
   h:=h - 1;out:=out.push (<- elem' b h)
   if h == 1 then return vO a b out i h
   let some l <- pO true (<- elem' a (i - 1)) b 0 h (h - 1)|return oG a b out i h
   let k:=h - l
   e:=k
   if k > 0 then
    out:=out++(b.extract l h).reverse;h:=l
    if h == 1 then return vO a b out i h
    if h == 0 then return oG a b out i h
   i:=i - 1;out:=out.push (<- elem' a i)
   if i == 0 then return oG a b out i h
   if f<7 && e<7 then break
  c:=c+1
  iZ c
 unsupported "internal:list.sort.merge-bound"):=rfl
def HP(a b out:Array Keyed)(na nb:Nat):Prop:=out.toList.Perm (a.toList.drop na++b.toList.drop nb)
def drop_one{l:List Keyed}{i:Nat}(h:i<l.length):l.drop i=l[i]::l.drop (i+1):=List.drop_eq_getElem_cons h
theorem HP.b{a b out:Array Keyed}{na nb:Nat}(h:HP a b out na nb)(e:0<nb)(c:nb<=b.size):HP a b (out.push (b[nb - 1]'∅)) na (nb - 1):=by
 unfold HP at h⊢;rw[qpL,drop_one (l:=b.toList) (i:=nb - 1) (by simp;omega),show nb - 1+1=nb by lia];refine(h.append_right _).trans ?_;rw[qns];refine qof _ ?_;simp only[Array.getElem_toList];exact qn9
theorem HP.a{a b out:Array Keyed}{na nb:Nat}(h:HP a b out na nb)(e:0<na)(c:na<=a.size):HP a b (out.push (a[na - 1]'∅)) (na - 1) nb:=by
 unfold HP at h⊢;rw[qpL,drop_one (l:=a.toList) (i:=na - 1) (by simp;omega),show na - 1+1=na by lia];refine(h.append_right _).trans ?_;simp only[Array.getElem_toList,qps];exact qn9
def Pu{l:List Keyed}{i n:Nat}(h:i<=n):l.drop i=(l.drop i).take (n - i)++l.drop n:=by
 have:=(qog (n - i) (l.drop i)).symm;rw[List.drop_drop,show i+(n - i)=n by lia] at this;exact this
def HP.as{a b out:Array Keyed}{na nb:Nat}(h:HP a b out na nb){k:Nat}(c:k<=na):HP a b (out++(a.extract k na).reverse) k nb:=by
 unfold HP at h⊢;rw[qoc,Array.toList_reverse,qn1,qnO];have e:=Pu (l:=a.toList) c;generalize (a.toList.drop k).take (na - k)=X at e⊢;rw[e];refine((h.append_right _).trans qn9).trans ?_;rw[qns];exact(List.reverse_perm _).append_right _
def HP.bs{a b out:Array Keyed}{na nb:Nat}(h:HP a b out na nb){k:Nat}(c:k<=nb):HP a b (out++(b.extract k nb).reverse) na k:=by
 unfold HP at h⊢;rw[qoc,Array.toList_reverse,qn1,qnO];have e:=Pu (l:=b.toList) c;generalize (b.toList.drop k).take (nb - k)=X at e⊢;rw[e];refine(h.append_right _).trans ?_;rw[qns];refine qof _ (qn9.trans ?_);exact(List.reverse_perm _).append_right _
def HP.done{a b out:Array Keyed}{na nb:Nat}(h:HP a b out na nb):(oG a b out na nb).toList.Perm (a.toList++b.toList):=by
 have e:a.toList=a.toList.take na++a.toList.drop na:=(qog _ _).symm;have c:b.toList=b.toList.take nb++b.toList.drop nb:=(qog _ _).symm;unfold oG;rw[qoc,qoc,qn1,qn1,qnO,qnO,Array.toList_reverse];simp only[List.drop_zero,Nat.sub_zero]
 conv=>rhs;rw[e,c]
 unfold HP at h;rw[qns,qns];refine qof _ ?_;refine(qof _ ((List.reverse_perm _).trans h)).trans ?_;rw[<- qns,<- qns];exact qn9.append_right _
def HP.first{a b out:Array Keyed}{na nb:Nat}(h:HP a b out na nb):(vO a b out na nb).toList.Perm (a.toList++b.toList):=by
 refine List.Perm.trans ?_ h.done;unfold vO oG;simp only[qoc];exact qn9.append_right _
theorem HP.size{a b out:Array Keyed}{na nb:Nat}(h:HP a b out na nb):out.size=(a.size - na)+(b.size - nb):=by
 have:=h.length_eq;simp at this;exact this
structure Lq(a b out:Array Keyed)(na nb:Nat):Prop where
 p:HP a b out na nb
 a0:0<na
 a1:na<=a.size
 b0:1<nb
 b1:nb<=b.size
def SQ{st:SortSt}{a b:Array Keyed}{Q:Array Keyed->SortSt->Prop}(hk:kindOf st=oneType')(hA:IK a)(hB:IK b)(ha:0<a.size)(hb:0<b.size)(h:∀out f,i_ st f->out.toList.Perm (a.toList++b.toList)->Q out f) :
  wpS (model prog w) A E s (Ep a b) Q st:=by
 rw[Pq];refine qna (wpS_lift (qoS #[rfl,?_]));refine qna (cT (show a.size - 1<a.size by omega) ?_);have h0:HP a b [a[a.size - 1]'∅].toArray (a.size - 1) b.size:=by
  have:=HP.a (a:=a) (b:=b) (out:=#[]) (na:=a.size) (nb:=b.size) (by unfold HP;simp[List.drop_of_length_le]) ha (qm5 _);exact this
 dsimp only
 by_cases J:(a.size - 1 == 0)=true
 ·rw[if_pos J];exact qnl (h _ _ (i_.refl _) h0.done)
 rw[if_neg J]
 by_cases H:(b.size == 1)=true
 ·rw[if_pos H];exact qnl (h _ _ (i_.refl _) h0.first)
 rw[if_neg H];have m0:Lq a b [a[a.size - 1]'∅].toArray (a.size - 1) b.size:=#[h0,by simp at J;lia,∅,by simp at H;lia,qm5 _];refine qna (wpS_get ?_);refine qna (qo9 (qoh (I:=λi (c:Option (Array Keyed)×Nat×Nat×Array Keyed×Nat) f=>c.1=none/\Lq a b c.2.2.2.1 c.2.1 c.2.2.1/\i_ st f/\i+1<=(c.2.2.2.1).size)
  (Q:=λc f=>i_ st f/\∃r,c.1=some r/\r.toList.Perm (a.toList++b.toList)) ?_ ?_ #[rfl,m0,i_.refl _,qm5 _]) ?_)
 ·rintro i ⟨D,ai,ah,Ln,mg⟩ u _ hi ⟨e,v,Y,p1⟩;dsimp only at e v p1⊢;subst e;refine qna (qo9 (qoh (I:=λj (c:Option (Array Keyed)×Nat×Nat×Array Keyed×Nat×Nat) f=>c.1=none/\Lq a b c.2.2.2.1 c.2.1 c.2.2.1/\f=u/\Ln.size+j<=c.2.2.2.1.size)
   (Q:=λc f=>f=u/\((∃r,c.1=some r/\r.toList.Perm (a.toList++b.toList))\/(c.1=none/\Lq a b c.2.2.2.1 c.2.1 c.2.2.1/\Ln.size+1<=c.2.2.2.1.size))) ?_ ?_ #[rfl,v,rfl,qm5 _]) ?_)
  ·rintro j ⟨D,na,nb,out,ac,bc⟩ aa _ hj ⟨e,n,rfl,p2⟩;dsimp only at e n p2⊢;subst e;have a0:=n.a0;have a1:=n.a1;have b0:=n.b0;have b1:=n.b1;refine qna (cT (show nb - 1<b.size by lia) (qna (cT (show na - 1<a.size by lia) ?_)));obtain⟨x,xt,hx⟩:=hB.at (show nb - 1<b.size by omega);obtain⟨y,yt,hy⟩:=hA.at (show na - 1<a.size by omega);refine qna (Pj (Y.1.trans hk) hx hy λbw=>?_);cases bw with
   |true=>
    simp only[if_true];refine qna (cT (show na - 1<a.size by omega) ?_);have l:=n.p.a a0 a1
    by_cases C:(na - 1 == 0)=true
    ·rw[if_pos C];exact qnl #[rfl,.inl #[_,rfl,l.done]]
    ·rw[if_neg C];have B:Lq a b (out.push (a[na - 1]'∅)) (na - 1) nb:=#[l,by simp at C;lia,⋯,b0,b1]
     by_cases T:ac+1≥mg
     ·rw[if_pos T];exact qnl #[rfl,.inr #[rfl,B,by rw[qop];lia]]
     ·rw[if_neg T];exact qnl #[rfl,B,rfl,by rw[qop];lia]
   |false=>
    simp only[qoe,qpE];refine qna (cT (show nb - 1<b.size by omega) ?_);have l:=n.p.b ⋯ b1
    by_cases C:(nb - 1 == 1)=true
    ·rw[if_pos C];exact qnl #[rfl,.inl #[_,rfl,l.first]]
    ·rw[if_neg C];have B:Lq a b (out.push (b[nb - 1]'∅)) na (nb - 1):=#[l,a0,a1,by simp at C;lia,⋯]
     by_cases T:bc+1≥mg
     ·rw[if_pos T];exact qnl #[rfl,.inr #[rfl,B,by rw[qop];omega]]
     ·rw[if_neg T];exact qnl #[rfl,B,rfl,by rw[qop];omega]
  ·rintro⟨D,na,nb,out,ac,bc⟩ aa ⟨e,n,rfl,p2⟩;dsimp only at e n p2⊢;exact#[rfl,.inr #[e,n,⋯]]
  ·rintro⟨D,na,nb,out,ac,bc⟩ aa ⟨rfl,⟨r,e,hr⟩|⟨e,n,p2⟩⟩
   ·dsimp only at e⊢;subst e;exact qnl #[Y,r,rfl,hr]
   ·dsimp only at e n p2⊢;subst e;dsimp only;refine qna (wpS_lift (qoS #[rfl,?_]));refine qna (qo9 (qoh (I:=λj (c:Option (Array Keyed)×Nat×Nat×Array Keyed×Nat×Nat×Nat) f=>c.1=none/\Lq a b c.2.2.2.1 c.2.1 c.2.2.1/\i_ st f/\out.size<=c.2.2.2.1.size)
     (Q:=λc f=>i_ st f/\((∃r,c.1=some r/\r.toList.Perm (a.toList++b.toList))\/(c.1=none/\Lq a b c.2.2.2.1 c.2.1 c.2.2.1/\out.size<=c.2.2.2.1.size))) ?_ ?_ #[rfl,n,Y,qm5 _]) ?_)
    ·rintro j ⟨D,na,nb,SN,mg,ac,bc⟩ G _ hj ⟨e,l,U,O⟩;dsimp only at e l O⊢;subst e;have a0:=l.a0;have a1:=l.a1;have b0:=l.b0;have b1:=l.b1;apply En (p:=mg > 1) (a:=mg - 1) (b:=mg)
     rotate_left
     rfl;intro al;rw[iH];refine qna (qpn ?_);have z:=U.set al;generalize Lk G al=Y0 at z⊢;have Iu:=z.1.trans hk;refine qna (cT (show nb - 1<b.size by lia) (qna (nM Iu hA (hB.at (show nb - 1<b.size by omega)) ⋯ ⋯ λam ae=>?_)));dsimp only;have q6:=l.p.as ae;generalize na - am=ka;apply zj (a:=SN) (b:=na) (λo i=>HP a b o i nb/\0<i/\i<=a.size/\out.size<=o.size) #[l.p,a0,a1,O]
     rotate_left
     ·intro R
      by_cases d3:(am == 0)=true
      ·rw[if_pos d3];exact qnl #[z,.inl #[_,rfl,q6.done]]
      rw[if_neg d3];exact R _ _ #[q6,by simp at d3;lia,⋯,by rw[qpg];lia]
     clear q6 l a0 a1 ae;rintro af m ⟨q6,q2,q3,q4⟩;refine qna (cT (show nb - 1<b.size by lia) ?_);have N:=q6.b (show 0<nb by lia) b1
     by_cases f1:(nb - 1 == 1)=true
     ·rw[if_pos f1];exact qnl #[z,.inl #[_,rfl,N.first]]
     rw[if_neg f1];have b2:1<nb - 1:=by simp at f1;lia
     have b3:nb - 1<=b.size:=⋯
     have r4:out.size<=(af.push (b[nb - 1]'(show nb - 1<b.size by lia))).size:=by rw[qop];lia
     generalize af.push (b[nb - 1]'(show nb - 1<b.size by omega))=ap at N r4⊢;generalize nb - 1=ag at N b2 b3⊢;refine qna (cT (show m - 1<a.size by lia) (qna (nM Iu hB (hA.at (show m - 1<a.size by omega)) ⋯ ⋯ λL ab=>?_)));dsimp only;have M:=N.bs ab;generalize ag - L=kb;apply zj (a:=ap) (b:=ag) (λo i=>HP a b o m i/\1<i/\i<=b.size/\out.size<=o.size) #[N,b2,b3,r4]
     rotate_left
     ·intro R
      by_cases f3:(L == 1)=true
      ·rw[if_pos f3];exact qnl #[z,.inl #[_,rfl,M.first]]
      rw[if_neg f3]
      by_cases f4:(L == 0)=true
      ·rw[if_pos f4];exact qnl #[z,.inl #[_,rfl,M.done]]
      rw[if_neg f4];exact R _ _ #[M,by simp at f3 f4;lia,⋯,by rw[qpg];lia]
     clear M ab N;rintro an ar ⟨M,r3,r7,r6⟩;refine qna (cT (show m - 1<a.size by lia) ?_);have r5:=M.a q2 q3
     by_cases e1:(m - 1 == 0)=true
     ·rw[if_pos e1];exact qnl #[z,.inl #[_,rfl,r5.done]]
     rw[if_neg e1];have B:Lq a b (an.push (a[m - 1]'(show m - 1<a.size by omega))) (m - 1) ar:=#[r5,by simp at e1;lia,⋯,r3,r7];split
     ·exact qnl #[z,.inr #[rfl,B,by rw[qop];lia]]
     exact qnl #[rfl,B,z,by rw[qop];omega]
    ·rintro⟨D,na,nb,SN,mg,ac,bc⟩ G ⟨e,l,U,O⟩;exact#[U,.inr #[e,l,O]]
    ·rintro⟨D,na,nb,SN,mg,ac,bc⟩ G ⟨U,⟨r,e,hr⟩|⟨e,l,O⟩⟩
     ·dsimp only at e⊢;subst e;exact qnl #[U,r,rfl,hr]
     ·dsimp only at e l O⊢;subst e;dsimp only;rw[iH];exact qna (qpn (qnl #[rfl,l,U.set _,by dsimp only;lia]))
 ·rintro⟨D,ai,ah,Ln,mg⟩ u ⟨e,v,Y,p1⟩;dsimp only at e v p1⊢;have:=v.p.size;have h1:=v.a0;have C:=v.b0;have T:=v.a1;have h4:=v.b1;lia
 ·rintro⟨D,ai,ah,Ln,mg⟩ u ⟨Y,r,e,hr⟩;dsimp only at e⊢;subst e;exact qnl (h _ _ Y hr)
end
section
variable {prog:qd}{w:lW}{A:lY}{E:QAB}{s:Y5}{a₀:Array Keyed}
structure SI(a₀:Array Keyed)(p:Array (Nat×Nat×Nat))(st:SortSt):Prop where
 perm:(arrOf st).Perm a₀
 kind:kindOf st=oneType'
 failed:failedOf st=none
 pend:pendingOf st=p
theorem SI.size{p:Array (Nat×Nat×Nat)}{st:SortSt}(h:SI a₀ p st):(arrOf st).size=a₀.size:=h.perm.size_eq
def SI.ik{p:Array (Nat×Nat×Nat)}{st:SortSt}(h:SI a₀ p st)(e:IK a₀):IK (arrOf st):=λx c=>e x ((Array.perm_iff_toList_perm.mp h.perm).mem_iff.mp c)
def SI.arr{p:Array (Nat×Nat×Nat)}{st:SortSt}(h:SI a₀ p st){xs:Array Keyed}(c:xs.Perm (arrOf st)):SI a₀ p (setArr st xs):=#[c.trans h.perm,h.kind,h.failed,h.pend]
def vP{p:Array (Nat×Nat×Nat)}{st:SortSt}{i j:Nat}{Q:Option Bool->SortSt->Prop}(c:SI a₀ p st)(m:IK a₀)(v:i<a₀.size)(u:j<a₀.size)(h:∀b,Q (some b) st):wpS (model prog w) A E s (ltAt' i j) Q st:=by
 rw[ltAt'_eq];refine qna (wpS_get ?_);have r:=c.size;have e:=c.ik m;refine qna (cT (show i<(arrOf st).size by lia) (qna (cT (show j<(arrOf st).size by lia) ?_)));obtain⟨x,o,l⟩:=e.at (show i<(arrOf st).size by omega);obtain⟨y,n,f⟩:=e.at (show j<(arrOf st).size by omega);exact Pj c.kind l f h
def Lr{p:Array (Nat×Nat×Nat)}{st:SortSt}{i j:Nat}{Q:Unit->SortSt->Prop}(e:SI a₀ p st)(h:∀c,SI a₀ p c->Q () c):wpS (model prog w) A E s (reverseSlice' i j) Q st:=by
 rw[reverseSlice'_eq];exact qpn (h _ (e.arr (mirror_perm _ _ _ _)))
def Xq{p:Array (Nat×Nat×Nat)}{st:SortSt}{lo n ok:Nat}{Q:Bool->SortSt->Prop}(x:SI a₀ p st)(y:IK a₀)(B:lo+n<=a₀.size)(h:∀e,SI a₀ p e->Q true e):wpS (model prog w) A E s (binarySort' lo n ok) Q st:=by
 rw[binarySort'_eq];refine qna (qo9 (qoh (I:=λ_ c e=>c=(none,())/\SI a₀ p e) (Q:=λc e=>c=(none,())/\SI a₀ p e) ?_ (λ_ _ h=>h) #[rfl,x]) ?_)
 ·rintro k c j D C ⟨rfl,f⟩;refine qna (qo9 (qoh (I:=λ_ (c:Option Bool×Nat×Nat) e=>c.1=none/\c.2.2<=k/\e=j) (Q:=λc e=>c.1=none/\e=j) ?_ (λ_ _ h=>#[h.1,h.2.2]) #[rfl,qm5 _,rfl]) ?_)
  ·rintro i ⟨z,l,r⟩ u _ _ ⟨o,v,rfl⟩;dsimp only at o v⊢;subst o
   by_cases m:l≥r
   ·rw[if_pos m];exact qnl #[rfl,rfl]
   ·rw[if_neg m];refine qna (vP f y ⋯ ⋯ λb=>?_);cases b with
    |true=>exact qnl #[rfl,by dsimp only;lia,rfl]
    |false=>exact qnl #[rfl,v,rfl]
  ·rintro⟨z,l,r⟩ u ⟨o,rfl⟩;dsimp only at o⊢;subst o;dsimp only;rw[moveDown'_eq];exact qna (qpn (qnl #[rfl,f.arr (bubble_perm _ _ _)]))
 ·rintro c j ⟨rfl,f⟩;exact qnl (h _ f)
def qbm{p:Array (Nat×Nat×Nat)}{st:SortSt}{lo f:Nat}{Q:Option Nat->SortSt->Prop}(x:SI a₀ p st)(L:IK a₀)(hn:lo+f<=a₀.size)(h1:1<=f)(h:∀n e,SI a₀ p e->1<=n->n<=f->Q (some n) e):wpS (model prog w) A E s (countRun' lo f) Q st:=by
 rw[countRun'_eq];dsimp only;refine qna (qo9 (qoh (I:=λi (c:Option (Option Nat)×Nat) e=>c.1=none/\c.2=i/\e=st) (Q:=λc e=>c.1=none/\1<=c.2/\c.2<=f/\e=st) ?_ ?_ #[rfl,rfl,rfl]) ?_)
 ·rintro i ⟨o,n⟩ B v H ⟨l,j,rfl⟩;dsimp only at l j⊢;subst l j;refine qna (vP x L ⋯ ∅ λb=>?_);cases b with
  |true=>exact qnl #[rfl,v,by dsimp only;lia,rfl]
  |false=>exact qnl #[rfl,rfl,rfl]
 ·rintro⟨o,n⟩ B ⟨l,j,rfl⟩;dsimp only at l j⊢;exact#[l,⋯,⋯,rfl]
 ·rintro⟨o,n⟩ B ⟨l,u,r,rfl⟩;dsimp only at l u r⊢;subst l;dsimp only
  by_cases U:(n == f)=true
  ·rw[if_pos U];exact qnl (h _ _ x u r)
  ·rw[if_neg U];have aa:n<f:=by simp at U;lia
   by_cases SX:n > 1
   rw[if_pos SX];refine qna (vP x L ⋯ ∅ λb=>?_);cases b
   rotate_left
   exact qnl (h _ _ x u r);rw[if_neg SX];have Dy:=x
   rotate_left
   simp only[qoe,qpE];refine qna (Lr x λa0 Dy=>?_)
   all_goals
    refine qna (wpS_lift (qoS #[rfl,?_]));refine qna (qo9 (qoh (I:=λi (c:Option (Option Nat)×Nat×Nat) e=>c.1=none/\c.2.1=i/\SI a₀ p e) (Q:=λc e=>c.1=none/\1<=c.2.1/\c.2.1<=f/\SI a₀ p e) ?_ ?_ #[rfl,rfl,Dy]) ?_)
    ·rintro i ⟨o,n5,M⟩ U4 v H ⟨l,j,m⟩;dsimp only at l j⊢;subst l j;refine qna (vP m L ∅ ⋯ λb=>?_);cases b with
     |true=>
      simp only[if_true]
      by_cases C:M > 0
      ·rw[if_pos C];refine qna (Lr m λN Y=>qnl #[rfl,rfl,Y])
      ·rw[if_neg C];exact qnl #[rfl,rfl,m]
     |false=>
      simp only[qoe,qpE];refine qna (vP m L ∅ ∅ λb=>?_);cases b with
      |true=>exact qnl #[rfl,by dsimp only;lia,by dsimp only;omega,m]
      |false=>exact qnl #[rfl,rfl,m]
    ·rintro⟨o,n5,M⟩ U4 ⟨l,j,m⟩;dsimp only at l j⊢;exact#[l,⋯,⋯,m]
    ·rintro⟨o,n5,M⟩ U4 ⟨l,T,O,m⟩;dsimp only at l T O⊢;subst l;dsimp only
     by_cases C:M > 0
     rw[if_pos C];refine qna (Lr m λN m=>qna ?_)
     rotate_left
     rw[if_neg C];refine qna ?_
     all_goals
      refine Lr m λz J=>?_;refine qna (qo9 (qoh (I:=λi (c:Option (Option Nat)×Nat) e=>c.1=none/\c.2=i/\e=z) (Q:=λc e=>c.1=none/\1<=c.2/\c.2<=f/\e=z) ?_ ?_ #[rfl,rfl,rfl]) ?_)
      ·rintro i ⟨o,n7⟩ y v H ⟨l,j,rfl⟩;dsimp only at l j⊢;subst l j;refine qna (vP J L ∅ ∅ λb=>?_);cases b with
       |true=>exact qnl #[rfl,by dsimp only;omega,by dsimp only;omega,rfl]
       |false=>exact qnl #[rfl,rfl,rfl]
      ·rintro⟨o,n7⟩ y ⟨l,j,rfl⟩;dsimp only at l j⊢;exact#[l,∅,∅,rfl]
      ·rintro⟨o,n7⟩ y ⟨l,G,D,rfl⟩;dsimp only at l G D⊢;subst l;exact qnl (h _ _ J G D)
def qdv{M:Model}{v st:SortSt}{Q:PUnit->SortSt->Prop}(h:Q ⟨⟩ v):wpS M A E s (set v:StateT SortSt Sem PUnit) Q st:=by
 unfold wpS;rw[StateT.run_set];exact qm8 #[rfl,h]
def Px(i:Nat):mergeAt' i=(do
 let s <- get
 let (some (c,na,power),some (e,nb,_)):=((pendingOf s)[i]?,(pendingOf s)[i+1]?)|unsupported "internal:list.sort.pending"
 set (SortSt.mk' (kindOf s) (arrOf s) (((pendingOf s).setIfInBounds i (c,na+nb,power)).eraseIdxIfInBounds (i+1)) (gallopOf s) (failedOf s))
 let some k <- pO false (<- elem' (arrOf s) e) (arrOf s) c na 0|return false
 let (c,na):=(c+k,na - k)
 if na == 0 then return true
 let some nb <- pO true (<- elem' (arrOf s) (c+na - 1)) (arrOf s) e nb (nb - 1)|return false
 if nb == 0 then return true
 let x:=(arrOf s).extract c e
 let y:=(arrOf s).extract e (e+nb)
 let merged <- if na<=nb then Eo x y else Ep x y
 modify λs=>SortSt.mk' (kindOf s) (merged.toList.zipIdx.foldl (λa (p,j)=>a.setIfInBounds (c+j) p) (arrOf s)) (pendingOf s) (gallopOf s) (failedOf s)
 return (failedOf (<- get)).isNone):=rfl
def Nj:Nat->List (Nat×Nat×Nat)->Nat->Prop
 |s,[],e=>s=e
 |s,(a,n,_)::r,e=>a=s/\0<n/\Nj (s+n) r e
theorem Nj.le:∀{s e:Nat}{p:List (Nat×Nat×Nat)},Nj s p e->s<=e
 |_,_,[],h=>Nat.le_of_eq h
 |_,_,(a,n,_)::r,⟨_,_,h⟩=>by have:=Nj.le h;lia
theorem Nj.merge:∀{s e i h na j f nb q:Nat}{p:List (Nat×Nat×Nat)},Nj s p e->p[i]? = some (h,na,j)->p[i+1]? = some (f,nb,q)->
  f=h+na/\0<na/\0<nb/\f+nb<=e/\Nj s ((p.set i (h,na+nb,j)).eraseIdx (i+1)) e
 |s,e,0,h,na,j,f,nb,q,(a,n,x)::(b,m,y)::r,⟨o,l,v,H,u⟩,e1,c=>by
  simp at e1 c;obtain⟨rfl,rfl,rfl⟩:=e1;obtain⟨rfl,rfl,rfl⟩:=c;have:=u.le;refine#[⋯,l,H,⋯,?_];simp only[List.set_cons_zero,List.eraseIdx_cons_succ,List.eraseIdx_cons_zero];exact#[o,⋯,by rw[<- Nat.add_assoc];exact u]
 |s,e,i+1,h,na,j,f,nb,q,(a,n,x)::r,⟨o,l,v⟩,e1,c=>by
  obtain⟨G,D,C,B,z⟩:=Nj.merge v (by simpa using e1) (by simpa using c);refine#[G,D,C,B,?_];simp only[List.set_cons_succ,List.eraseIdx_cons_succ];exact#[o,l,z]
 |_,_,0,_,_,_,_,_,_,[],_,e1,_=>by simp at e1
 |_,_,0,_,_,_,_,_,_,[_],_,_,c=>by simp at c
 |_,_,_+1,_,_,_,_,_,_,[],_,e1,_=>by simp at e1
theorem Ji:∀(m:List Keyed)(a:Array Keyed)(c j:Nat),c+j+m.length<=a.size->((m.zipIdx j).foldl (λa (p,j)=>a.setIfInBounds (c+j) p) a).toList=a.toList.take (c+j)++m++a.toList.drop (c+j+m.length)
 |[],a,c,j,_=>by simp
 |x::m,a,c,j,h=>by
  simp only[qnt] at h;rw[List.zipIdx_cons,qo2];rw[Ji m _ c (j+1) (by simp;lia)];simp only[qpT];rw[List.take_set,List.drop_set_of_lt ⋯];have f:c+j<a.toList.length:=by simp;lia
  rw[show c+(j+1)=(c+j)+1 by lia,List.take_succ,qnx f];have e:(a.toList.take (c+j)).length=c+j:=by simp;lia
  rw[List.set_append_right _ _ ⋯,e];simp only[Nat.sub_self,Option.toList,List.set_cons_zero,qns,qps,List.nil_append,qnt];rw[show c+j+1+m.length=c+j+(m.length+1) by lia]
def Py{a m:Array Keyed}{c e:Nat}(f:m.toList.Perm ((a.toList.take e).drop c))(i:c<=e)(n:e<=a.size):((m.toList.zipIdx).foldl (λa (p,j)=>a.setIfInBounds (c+j) p) a).Perm a:=by
 rw[Array.perm_iff_toList_perm];have h:m.toList.length=e - c:=by rw[f.length_eq];simp;lia
 rw[Ji _ _ _ _ (by rw[h];lia),h];have l:a.toList=a.toList.take c++((a.toList.take e).drop c++a.toList.drop e):=by
  conv=>lhs;rw[<- qog e a.toList]
  rw[<- qns];congr 1
  conv=>lhs;rw[<- qog c (a.toList.take e),List.take_take,qpf i]
 conv=>rhs;rw[l]
 rw[qns,show c+0=c by lia,show c+(e - c)=e by lia];exact qof _ (f.append_right _)
def PI0(a₀:Array Keyed)(e n:Nat)(st:SortSt):Prop:=∃p,SI a₀ p st/\Nj 0 p.toList e/\p.size=n
def Er{st:SortSt}{e n i:Nat}{Q:Bool->SortSt->Prop}(h0:IK a₀)(hP:PI0 a₀ e n st)(he:e<=a₀.size)(hi:i+1<n)(h:∀G,PI0 a₀ e (n - 1) G->Q true G):wpS (model prog w) A E s (mergeAt' i) Q st:=by
 obtain⟨p,r,hk,hn⟩:=hP;rw[Px];refine qna (wpS_get ?_);rw[r.pend]
 rcases e1:p[i]? with _|⟨f,u,L⟩
 ·rw[Array.getElem?_eq_none_iff] at e1;omega
 rcases e2:p[i+1]? with _|⟨l,M,q⟩
 ·rw[Array.getElem?_eq_none_iff] at e2;omega
 obtain⟨q1,q2,q3,q4,q5⟩:=hk.merge (i:=i) (by rw[Array.getElem?_toList];exact e1) (by rw[Array.getElem?_toList];exact e2);dsimp only;refine qna (qdv ?_);have hs:=r.size;have D:=r.ik h0;have C:Nj 0 ((p.setIfInBounds i (f,u+M,L)).eraseIdxIfInBounds (i+1)).toList e:=by
  rw[Array.toList_eraseIdxIfInBounds,qpT];exact q5
 have B:((p.setIfInBounds i (f,u+M,L)).eraseIdxIfInBounds (i+1)).size=n - 1:=by
  rw[<- qox,Array.toList_eraseIdxIfInBounds,qpT,List.length_eraseIdx];rw[List.length_set,qox,if_pos ⋯];lia
 have m:SI a₀ ((p.setIfInBounds i (f,u+M,L)).eraseIdxIfInBounds (i+1)) (SortSt.mk' (kindOf st) (arrOf st) ((p.setIfInBounds i (f,u+M,L)).eraseIdxIfInBounds (i+1)) (gallopOf st) (failedOf st)):=#[r.perm,r.kind,r.failed,rfl];have H:=h _ #[_,m,C,B];refine qna (cT (show l<(arrOf st).size by lia) (qna (nM m.kind D (D.at (show l<(arrOf st).size by omega)) ⋯ q2 λk aa=>?_)));dsimp only
 by_cases c1:(u - k == 0)=true
 ·rw[if_pos c1];exact qnl H
 rw[if_neg c1];have ac:0<u - k:=by simp at c1;lia
 refine qna (cT (show f+k+(u - k) - 1<(arrOf st).size by lia) (qna (nM m.kind D (D.at (show f+k+(u - k) - 1<(arrOf st).size by omega)) ⋯ ⋯ λo a0=>?_)));dsimp only
 by_cases c2:(o == 0)=true
 ·rw[if_pos c2];exact qnl H
 rw[if_neg c2];have ab:0<o:=by simp at c2;lia
 have v:IK ((arrOf st).extract (f+k) l):=λx v=>D x (by
  rw[qn1,qnO] at v;exact List.mem_of_mem_drop (List.mem_of_mem_take v))
 have hy:IK ((arrOf st).extract l (l+o)):=λx v=>D x (by
  rw[qn1,qnO] at v;exact List.mem_of_mem_drop (List.mem_of_mem_take v))
 have I:((arrOf st).extract (f+k) l).toList++((arrOf st).extract l (l+o)).toList=((arrOf st).toList.take (l+o)).drop (f+k):=by
  rw[qn1,qn1,qnO,qnO,List.drop_take];rw[show l+o - l=o by lia,show l+o - (f+k)=(l - (f+k))+o by lia,List.take_add,List.drop_drop,show f+k+(l - (f+k))=l by lia]
 by_cases c3:u - k<=o
 ·rw[if_pos c3];refine qna (SM m.kind v hy (by simp;lia) (by simp;omega) λout c O N=>?_);refine qna (qpn ?_);refine qna (wpS_get (qnl ?_));obtain⟨g1,Y,U,T⟩:=O;have y:(arrOf c)=arrOf st:=Y;have z:((out.toList.zipIdx).foldl (λa (p,j)=>a.setIfInBounds (f+k+j) p) (arrOf st)).Perm (arrOf st):=Py (e:=l+o) (N.trans (by rw[I])) ⋯ ⋯;have J:failedOf c=none:=T.trans r.failed;have:=h (SortSt.mk' (kindOf c) ((out.toList.zipIdx).foldl (λa (p,j)=>a.setIfInBounds (f+k+j) p) (arrOf c)) (pendingOf c) (gallopOf c) (failedOf c)) #[_,#[by rw[y];exact z.trans r.perm,g1.trans m.kind,J,U],C,B];rw[show(failedOf (SortSt.mk' (kindOf c) ((out.toList.zipIdx).foldl (λa (p,j)=>a.setIfInBounds (f+k+j) p) (arrOf c)) (pendingOf c) (gallopOf c) (failedOf c))).isNone=true by show(failedOf c).isNone=true;rw[J];rfl];exact this
 ·rw[if_neg c3];refine qna (SQ m.kind v hy (by simp;omega) (by simp;omega) λout c O N=>?_);refine qna (qpn ?_);refine qna (wpS_get (qnl ?_));obtain⟨g1,Y,U,T⟩:=O;have y:(arrOf c)=arrOf st:=Y;have z:((out.toList.zipIdx).foldl (λa (p,j)=>a.setIfInBounds (f+k+j) p) (arrOf st)).Perm (arrOf st):=Py (e:=l+o) (N.trans (by rw[I])) ∅ ∅;have J:failedOf c=none:=T.trans r.failed;have:=h (SortSt.mk' (kindOf c) ((out.toList.zipIdx).foldl (λa (p,j)=>a.setIfInBounds (f+k+j) p) (arrOf c)) (pendingOf c) (gallopOf c) (failedOf c)) #[_,#[by rw[y];exact z.trans r.perm,g1.trans m.kind,J,U],C,B];rw[show(failedOf (SortSt.mk' (kindOf c) ((out.toList.zipIdx).foldl (λa (p,j)=>a.setIfInBounds (f+k+j) p) (arrOf c)) (pendingOf c) (gallopOf c) (failedOf c))).isNone=true by show(failedOf c).isNone=true;rw[J];rfl];exact this
theorem Nj.snoc:∀{s e n q:Nat}{p:List (Nat×Nat×Nat)},Nj s p e->0<n->Nj s (p++[(e,n,q)]) (e+n)
 |s,e,n,q,[],h,c=>by
  cases h;exact#[rfl,c,rfl]
 |s,e,n,q,(a,m,x)::r,⟨j,i,f⟩,c=>#[j,i,Nj.snoc f c]
theorem Nj.power:∀{s e i w:Nat}{p:List (Nat×Nat×Nat)},Nj s p e->Nj s (p.modify i λx=>(x.1,x.2.1,w)) e
 |s,e,i,w,[],h=>by cases i <;> exact h
 |s,e,0,w,(a,m,x)::r,⟨j,f,c⟩=>#[j,f,c]
 |s,e,i+1,w,(a,m,x)::r,⟨j,f,c⟩=>#[j,f,Nj.power c]
def qdw{st:SortSt}{Q:Unit->SortSt->Prop}(h0:IK a₀)(hS:SI a₀ #[] st)(h:∀e,(arrOf e).Perm a₀->failedOf e=none->Q () e):wpS (model prog w) A E s sortRuns' Q st:=by
 rw[sortRuns'_eq];refine qna (wpS_get ?_);dsimp only;rw[hS.size];refine qna (qo9 (qoh (I:=λ_ (c:Option Unit×Nat) e=>c.1=none/\c.2<=a₀.size/\∃n,PI0 a₀ c.2 n e) (Q:=λc e=>c.1=none/\c.2<=a₀.size/\∃n,PI0 a₀ c.2 n e) ?_ (λ_ _ h=>h) #[rfl,qnI _,0,#[],hS,rfl,rfl]) ?_)
 ·rintro i ⟨U,lo⟩ a0 _ hi ⟨o,v,n,T⟩;dsimp only at o v T⊢;subst o;obtain⟨p,O,hk,hn⟩:=T
  by_cases N:lo≥a₀.size
  ·rw[if_pos N];exact qnl #[rfl,v,n,p,O,hk,hn]
  rw[if_neg N];refine qna (qbm O h0 ⋯ ⋯ λl H z ab ac=>?_);dsimp only
  by_cases M:l<minRun' a₀.size a₀.size 0
  rw[if_pos M];refine qna (wpS_lift (qoS #[rfl,?_]));refine qna (Xq z h0 ⋯ λH z=>?_);simp only[Bool.not_true,qoe,qpE];refine qna (wpS_get ?_);have u:0<min (a₀.size - lo) (minRun' a₀.size a₀.size 0):=∅
  have y:lo+min (a₀.size - lo) (minRun' a₀.size a₀.size 0)<=a₀.size:=∅
  generalize min (a₀.size - lo) (minRun' a₀.size a₀.size 0)=L at u y⊢
  rotate_left
  rw[if_neg M];refine qna (wpS_get ?_);have u:0<l:=ab;have y:lo+l<=a₀.size:=⋯
  generalize l=L at u y⊢
  all_goals
   have B:∀(n2:Nat)(f:SortSt),PI0 a₀ lo n2 f->PI0 a₀ (lo+L) (n2+1) (setPending f ((pendingOf f).push (lo,L,0))):=λn2 f r=>by
    obtain⟨Y,m,x,C⟩:=r;refine#[_,#[m.perm,m.kind,m.failed,rfl],?_,by show(Array.push _ _).size=_;rw[qop,m.pend];exact qnH (· + 1) C];rw[m.pend,qpL];exact x.snoc u
   rcases hb:(pendingOf H).back? with _|⟨s1,n1,w1⟩
   ·dsimp only;exact qna (qpn (qnl #[rfl,y,_,B _ _ #[p,z,hk,hn]]))
   ·dsimp only;refine qna (qo9 (qoh (I:=λ_ (c:Option Unit×Unit) e=>c.1=none/\∃n,PI0 a₀ lo n e) (Q:=λc e=>c.1=none/\∃n,PI0 a₀ lo n e) ?_ (λ_ _ h=>h) #[rfl,_,#[p,z,hk,hn]]) ?_)
    ·rintro j ⟨U,c1⟩ f _ _ ⟨o,D,r⟩;dsimp only at o⊢;subst o;refine qna (wpS_get ?_);have J:(pendingOf f).size=D:=by
      obtain⟨Y,m,x,C⟩:=r;rw[m.pend,C]
     by_cases G:(pendingOf f).size > 1
     ·rw[if_pos G]
      rcases hm:(pendingOf f)[(pendingOf f).size - 2]? with _|⟨x1,x2,aa⟩
      ·exact qnl #[rfl,_,r]
      ·dsimp only;split
       ·exact qnl #[rfl,_,r]
       ·refine qna (Er h0 r v ∅ λY0 wD=>?_);exact qnl #[rfl,_,wD]
     ·rw[if_neg G];exact qnl #[rfl,_,r]
    ·rintro⟨U,c1⟩ f ⟨o,D,r⟩;dsimp only at o⊢;subst o;dsimp only;refine qna (qpn (qna (qpn (qnl #[rfl,y,_,B D _ ?_]))));obtain⟨Y,m,x,C⟩:=r;refine#[_,#[m.perm,m.kind,m.failed,rfl],?_,by show(Array.modify _ _ _).size=_;rw[Array.size_modify,m.pend];exact C];rw[Array.toList_modify,m.pend];exact x.power
 ·rintro⟨U,lo⟩ a0 ⟨o,v,n,T⟩;dsimp only at o v T⊢;subst o;dsimp only;refine qna (qo9 (qoh (I:=λ_ (c:Option Unit×Unit) e=>c.1=none/\∃n,PI0 a₀ lo n e) (Q:=λc e=>c.1=none/\∃n,PI0 a₀ lo n e) ?_ (λ_ _ h=>h) #[rfl,_,T]) ?_)
  ·rintro j ⟨U,c1⟩ f _ _ ⟨o,D,r⟩;dsimp only at o⊢;subst o;refine qna (wpS_get ?_);have J:(pendingOf f).size=D:=by
    obtain⟨Y,m,x,C⟩:=r;rw[m.pend,C]
   by_cases G:(pendingOf f).size<=1
   ·rw[if_pos G];exact qnl #[rfl,_,r]
   ·rw[if_neg G];refine qna (Er h0 r v ?_ λY0 wD=>?_)
    ·rw[J] at G⊢
     repeat' split
     all_goals omega
    ·exact qnl #[rfl,_,wD]
  ·rintro⟨U,c1⟩ f ⟨o,D,r⟩;dsimp only at o⊢;subst o;obtain⟨Y,m,x,C⟩:=r;exact qnl (h _ m.perm m.failed)
end
end L2
namespace L2
open PySem PySem.Spec PyProof.Rows
section
variable {X:Cx}{p_:QAC}{σ:St}{H:Hp}{s:Y5}{A:lY}{E:QAB}{D kS:J9}{e e1:Nat}{vs:QAE}{kz:qx}{P:PySem.Fin->Shared->Prop}
def VD{st:SortSt}{f:wY}(I:Inv X p_ σ H s)(RD:Rec X p_ H D)(Y:Rec X p_ H kS)(v:kS≠D) (U:s.heap.get? D=some (seqObj "list" #[] e1)) (T:s.heap.get? kS=some (seqObj "list" f e))
  (hsz:f.size=vs.length) (n:vs.length<=sizeLine) (O:(arrOf st).Perm (f.zip vs.toArray)) (x:failedOf st=none)
  (h:∀r out c,Inv X p_ σ H r->r.heap.get? D=some (seqObj "list" out c)->out.toList.Perm vs->P (.done (.ret .none)) r) :
  wpAny (model X.prog X.w) A (ksk_tail D false e1 (.ref kS) st) P E s:=by
 have Q:(arrOf st).toList.Perm (f.toList.zip vs):=by rw[<- ksk_zip];exact Array.perm_iff_toList_perm.mp O
 have j:((arrOf st).map (·.2)).toList.Perm vs:=by
  have L:=Q.map Prod.snd;rw[List.map_snd_zip (by show vs.length<=f.size;rw[hsz];exact qm5 _)] at L;rw[Array.toList_map];exact L
 have m:((arrOf st).map (·.2)).size=vs.length:=by have:=j.length_eq;rwa [qox] at this
 obtain⟨out,B⟩:∃out,(arrOf st).map (λp:Keyed=>p.2)=out:=#[_,rfl];have J:wpAny (model X.prog X.w) A (do
   Builtin.List.listUpdate (.ref kS) λ_=>#[]
   letGo ((arrOf st).map (λp:Keyed=>p.1)).toList (failedOf st).toList
   let i:=(<- seqEpoch D) != e1
   Builtin.List.listUpdate (.ref D) λ_=>out
   if let some e:=failedOf st then rule "list.sort.comparison-raised";throw e
   if i then rule "list.sort.modified";raiseError "ValueError" "list modified during sort"
   ret .none) P E s->wpAny (model X.prog X.w) A (ksk_tail D false e1 (.ref kS) st) P E s:=by
  subst B;exact λz=>z
 refine J ?_;clear J;rw[B] at j m;clear B;have G:=qob s.heap kS (Obj.mapSeq λ_=>(#[]:Array Value));have l:(s.heap.update kS (Obj.mapSeq λ_=>(#[]:Array Value))).get? D=some (seqObj "list" #[] e1):=(G.2 D v.symm).trans U;have N:=qob (s.heap.update kS (Obj.mapSeq λ_=>(#[]:Array Value))) D (Obj.mapSeq λ_=>out);obtain⟨C,y⟩:∃C,((s.heap.update kS (Obj.mapSeq λ_=>(#[]:Array Value))).update D (Obj.mapSeq λ_=>out)).get? D=some (seqObj "list" (out) C):=
  #[_,get?_update_seq l λ_=>out]
 have J1:=I.turn (t':=s.toks) Y (h':=s.heap.update kS (Obj.mapSeq λ_=>(#[]:Array Value))) λb o u e=>(G.2 b u).trans e;have J2:=λM=>J1.turn (t':=M) RD (h':=(s.heap.update kS (Obj.mapSeq λ_=>(#[]:Array Value))).update D (Obj.mapSeq λ_=>out)) λb o u e=>(N.2 b u).trans e;refine qm3 (listUpdate_at T rfl ?_ (by rw[hsz];exact n) (qnI _));refine qm3 (wpAny_letGo ?_);refine qm3 (seqEpoch_at l rfl ?_);refine qm3 (listUpdate_at l rfl ?_ (qnI _) (by show(out).size<=_;rw[m];exact qoz n));rw[x];simp only[bne_self_eq_false,qoe,qpE];exact qm8 (h _ _ C (J2 _) y j)
def qgd{f:wY}(I:Inv X p_ σ H s)(z:Rec X p_ H D)(y:Rec X p_ H kS)(n:kS≠D) (x:s.heap.get? D=some (seqObj "list" #[] e1)) (v:s.heap.get? kS=some (seqObj "list" f e))
  (r:IntsAre f.toList kz) (l:kz.length=vs.length) (m:vs.length<=sizeLine)
  (h:∀p out c,Inv X p_ σ H p->p.heap.get? D=some (seqObj "list" out c)->out.toList.Perm vs->P (.done (.ret .none)) p) :
  wpAny (model X.prog X.w) A (ksk_end D false vs.toArray e1 (.ref kS) f) P E s:=by
 have j:f.size=vs.length:=by
  have u:=r.length;rw[qox] at u;rw[u];exact l
 unfold ksk_end;simp only[qoe,qpE]
 by_cases o:vs.toArray.size<2
 ·rw[if_pos o,if_pos o];refine qm3 (qm8 ?_);refine qm3 (qm8 ?_);exact VD (st:=SortSt.mk' general' (f.zip vs.toArray) #[] 7 none) I z y n x v j m (Array.Perm.refl _) rfl h
 ·rw[if_neg o,if_neg o];rw[qnm] at o;rw[ksk_kind r (by rw[j];lia)];refine qm3 (qm8 ?_);refine qm3 (qn8 (qdw (a₀:=f.zip vs.toArray) (st:=SortSt.mk' oneType' (f.zip vs.toArray) #[] 7 none)
   (Q:=λ_ i=>(arrOf i).Perm (f.zip vs.toArray)/\failedOf i=none)
   (ksk_intKeys r) #[Array.Perm.refl _,rfl,rfl,rfl] λi a1 a2=>#[a1,a2]) ?_ λ_ _ e=>e)
  rintro⟨⟨⟩,i⟩ p ⟨rfl,B,C⟩
  try dsimp only
  exact VD I z y n x v j m B C h
def qdx{q:J9}{fo:Obj}{n:Nat}(I:Inv X p_ σ H s)(RD:Rec X p_ H D)(Y:Rec X p_ H kS)(J:kS≠D) (gD:s.heap.get? D=some (seqObj "list" #[] e1)) (gS:s.heap.get? kS=some (seqObj "list" #[] e))
  (l:kz.length=vs.length) (y:vs.length<=sizeLine) (nD:n<=D) (nS:n<=kS) (nq:n<=q) (hq:H q=none) (Q:s.heap.get? q=some fo) (N:q≠kS)
  (turn:∀(i:Nat)(v:eH)(k:Int),vs[i]? = some v->kz[i]? = some k->∀f,Inv X p_ σ H f->f.heap.get? q=some fo->wpAny (model X.prog X.w) A (call (.ref q) [v]) (qev X p_ σ H n k f) (λ_ _=>False) f)
  (h:∀f out c,Inv X p_ σ H f->f.heap.get? D=some (seqObj "list" out c)->out.toList.Perm vs->P (.done (.ret .none)) f) :
  wpAny (model X.prog X.w) A (ksk_rest D (.ref q) false vs.toArray e1 (.ref kS)) P E s:=by
 unfold ksk_rest;refine qm3 (qoS ?_)
 first
  |rw[List.forIn_toArray]
  |(rw[<- Array.forIn_toList];simp only[List.toList_toArray])
  |rw[<- Array.forIn_toList]
 refine qm3 (ksk_fold (λi f=>∃m e,Inv X p_ σ H f/\f.heap.get? kS=some (seqObj "list" m e)/\f.heap.get? D=some (seqObj "list" #[] e1)/\f.heap.get? q=some fo/\IntsAre m.toList (kz.take i)) vs 0 s
  #[#[],e,I,gS,gD,Q,by simpa using IntsAre.nil] ?step ?done)
 case step=>
  rintro j x f hx ⟨m,e,I',p,B,z,C⟩;simp only[qnZ] at C⊢;have hj:j<vs.length:=(qm2.mp hx).1;obtain⟨k,G⟩:∃k,kz[j]? = some k:=#[_,qnx (by rw[l];exact hj)];have hz:m.size<vs.length:=by
   have h1:=C.length;rw[qox,qni,l] at h1;exact Nat.lt_of_le_of_lt (qnp (Nat.le_of_eq h1) (Nat.min_le_left _ _)) hj
  refine qm3 (qpm (qn8 (turn j x k hx G f I' z) (λv u he=>?_) λ_ _ hF=>hF.elim));obtain⟨r,rfl,I2,M⟩:=he
  try dsimp only
  have nk:=M kS _ nS Y.no p;have na:=M D _ nD RD.no B;have gq:=M q _ nq hq z;have L:=qob u.heap kS (Obj.mapSeq (·.push (.int k r)));obtain⟨U,T⟩:∃U,(u.heap.update kS (Obj.mapSeq (·.push (.int k r)))).get? kS=some (seqObj "list" (m.push (.int k r)) U):=#[_,get?_update_seq nk (·.push (.int k r))];have ek:kz.take (j+1)=kz.take j++[k]:=by rw[List.take_add_one,G];simp
  have ea:(m.push (Value.int k r)).toList=m.toList++[Value.int k r]:=by simp
  refine qm3 (listUpdate_at nk rfl ?_ (qnp (qoK hz) y) (qnp (Nat.le_of_eq (qop ..)) (Nat.succ_le_succ (qnp (qoK hz) y))));refine qm8 #[rfl,m.push (.int k r),U,I2.turn (t':=u.toks) Y λb o nb e=>(L.2 b nb).trans e,T,(L.2 D J.symm).trans na,(L.2 q N).trans gq,by rw[ea,ek];exact ksk_snoc C]
 case done=>
  rintro f ⟨m,e,I',p,B,z,C⟩;have O:IntsAre m.toList kz:=by
   have e3:kz.take (0+vs.length)=kz:=qon (by rw[l,qnZ];exact qm5 _);rw[e3] at C;exact C
  try dsimp only
  refine qm3 (listItems_at p rfl ?_);exact qgd I' RD Y J B p O l y h
end
section
variable {X:Cx}{p_:QAC}{σ:St}{H:Hp}{s:Y5}
theorem VF:∀{bs:tR}{its:QAE},Vals (bs.map V.ref) its->its=bs.map Value.ref
 |[],_,r=>by cases r;rfl
 |b::bs,_,r=>by
  cases r with
  |cons x y=>
   rw[VF y];cases x;rfl
theorem Jj:∀(bs:tR),Vals (bs.map V.ref) (bs.map Value.ref)
 |[]=>.nil
 |b::bs=>.cons rfl (Jj bs)
def Xr{l:QAE}{as:tR}(h:l.Perm (as.map Value.ref)):∃bs:List Addr,l=bs.map Value.ref/\bs.Perm as:=by
 have c:=h.map (λv=>match v with|Value.ref a=>a|_=>0)
 rw[qoG] at c;have e:as.map ((λv=>match v with|Value.ref a=>a|_=>0) ∘ Value.ref)=as:=by
  conv=>rhs;rw[<- List.map_id as]
  exact qoO λa _=>rfl
 rw[e] at c;refine#[_,?_,c];rw[qoG]
 conv=>lhs;rw[<- List.map_id l]
 refine qoO λv f=>?_;obtain⟨a,_,rfl⟩:=qnA.mp (h.mem_iff.mp f);rfl
def Xu{Q:QAB}{l q:J9}{fo:Obj}{as:tR}{n:Nat}(kf:Nat->Int)(I:Inv X p_ σ H s)
  (hl:aV X.K H l (as.map V.ref)) (hn:n<=s.heap.objs.size) (nq:n<=q) (hq:H q=none) (J:s.heap.get? q=some fo)
  (turn:∀i a,as[i]? = some a->∀j,Inv X p_ σ H j->j.heap.get? q=some fo->wpAny (model X.prog X.w) X.A.in1.in1 (call (.ref q) [.ref a]) (qev X p_ σ H n (kf i) j) (λ_ _=>False) j)
  (hQ:∀(D:J9)(bs:tR)(j:Y5),bs.Perm as->H D=none->Inv X p_ σ (upd H D (.lst (bs.map V.ref))) j->Q (.ref D) j) :
  wpAny (model X.prog X.w) X.A (call (.builtin "sorted") [.ref l] [(Str.ofString "key",.ref q)]) Q X.xe s:=by
 obtain⟨aa,rv,pl,z⟩:=I.list hl;obtain rfl:=VF rv;rw[qm7] at z;have r:(as.map Value.ref).length<=sizeLine:=by rw[qm7];exact z
 have T:=pl.isList;refine call_function_entry_kw kind_sorted plain_sorted entry_sorted (ksk_s1 _ _) ?_;unfold Builtin.«sorted»;refine qm3 (m:=checkCount "sorted" 1 1 _) (qm8 ?_);refine qm3 (collect_list T ?_ r);refine qm3 (wpAny_newList ?_ r);have f:((s.heap.push (seqObj "list" #[] 0)).update s.heap.objs.size (Obj.mapSeq (·++(as.map Value.ref).toArray))).objs.size=s.heap.objs.size+1:=by
  rw[Heap.size_update,size_push']
 have C:∀b o,s.heap.get? b=some o->((s.heap.push (seqObj "list" #[] 0)).update s.heap.objs.size (Obj.mapSeq (·++(as.map Value.ref).toArray))).get? b=some o:=λb o q=>by
  have G:b<s.heap.objs.size:=qm9 q;rw[Heap.get?_update_ne _ _ _ _ (qnf G),Heap.get?_push_ne _ _ _ (qnf G)];exact q
 generalize (s.heap.push (seqObj "list" #[] 0)).update s.heap.objs.size (Obj.mapSeq (·++(as.map Value.ref).toArray))=h at f C⊢;have x:(h.push (seqObj "list" (as.map Value.ref).toArray 0)).get? h.objs.size=some (seqObj "list" (as.map Value.ref).toArray 0):=qne _ rfl;refine qm3 (qoa (wpAny_call_entry_kw slot_list_sort #[_,x,rfl] entry_list_sort ?body (ksk_l1 _ _)))
 case body=>
  have RD:Rec X p_ H h.objs.size:=I.rcd (by rw[f];exact qoU _);show wpAny (model X.prog X.w) X.A.in1.in1 (Builtin.«list.sort» #[[.ref h.objs.size],[(Str.ofString "key",.ref q)]]) _ _ _;rw[ksk_t1];unfold ksk_tree;have O:=qm9 J;have s1:=qob (h.push (seqObj "list" (as.map Value.ref).toArray 0)) h.objs.size (Obj.mapSeq λ_=>(#[]:Array Value));obtain⟨e1,B⟩:∃e1,((h.push (seqObj "list" (as.map Value.ref).toArray 0)).update h.objs.size (Obj.mapSeq λ_=>(#[]:Array Value))).get? h.objs.size=some (seqObj "list" #[] e1):=#[_,get?_update_seq x λ_=>#[]];have p:((h.push (seqObj "list" (as.map Value.ref).toArray 0)).update h.objs.size (Obj.mapSeq λ_=>(#[]:Array Value))).objs.size=h.objs.size+1:=by rw[Heap.size_update,size_push']
  have y:∀b o,s.heap.get? b=some o->((h.push (seqObj "list" (as.map Value.ref).toArray 0)).update h.objs.size (Obj.mapSeq λ_=>(#[]:Array Value))).get? b=some o:=λb o e=>by
   have M:b≠h.objs.size:=qnf (by rw[f];exact qn6 (qm9 e));exact(s1.2 b M).trans (qm4 _ (C b o e))
  refine qm3 (listItems_at x rfl ?_);refine qm3 (listUpdate_at x rfl ?_ (by rw[qnm];exact r) (qnI _));generalize (h.push (seqObj "list" (as.map Value.ref).toArray 0)).update h.objs.size (Obj.mapSeq λ_=>(#[]:Array Value))=L at B p y⊢;refine qm3 (seqEpoch_at B rfl ?_);refine qm3 (wpAny_newTuple ?_ r);refine qm3 (wpAny_newList ?_ (qnI _));refine qoa ?_;have u:(L.push (seqObj "tuple" (as.map Value.ref).toArray 0)).objs.size=L.objs.size+1:=size_push' ..;have RS:Rec X p_ H (L.push (seqObj "tuple" (as.map Value.ref).toArray 0)).objs.size:=I.rcd (by rw[u,p,f];exact qoz (qoz (qoU _)));have I1:Inv X p_ σ H {s with heap:=(L.push (seqObj "tuple" (as.map Value.ref).toArray 0)).push (seqObj "list" #[] 0)}:=I.kept (t':=s.toks) λb o e=>qm4 _ (qm4 _ (y b o e));refine qdx (s:={s with heap:=(L.push (seqObj "tuple" (as.map Value.ref).toArray 0)).push (seqObj "list" #[] 0)}) (kz:=(List.range as.length).map kf) (n:=n) (q:=q) (fo:=fo) (e1:=e1) I1 RD RS (by rw[u,p];exact qoF (qn6 (qoi _)))
   (qm4 _ (qm4 _ B)) (qne _ rfl) (by simp) r (by rw[f];exact qoz hn) (by rw[u,p,f];exact qoz (qoz (qoz hn))) nq hq (qm4 _ (qm4 _ (y _ _ J)))
   (by rw[u,p,f];exact qnf (qn6 (qn6 (qn6 O)))) (λi v k E U j I' Y=>?_) λj out c I' a0 hp=>#[_,rfl,?_]
  ·rw[qnr] at E U;cases N:as[i]? with
   |none=>rw[N] at E;cases E
   |some a=>
    rw[N] at E;have hi:i<as.length:=(qm2.mp N).1;rw[qpq hi] at U;cases E;cases U;exact turn i a N j I' Y
  ·obtain⟨bs,e,M⟩:=Xr hp;refine qm8 #[_,rfl,hQ _ bs j M RD.no (I'.qbg (qnp I.sz (by rw[f];exact qoU _)) (I.zY (by rw[f];exact qoU _) RD.no) #[by rw[qm7,M.length_eq];exact z,out.toList,c,by rw[e];exact Jj bs,by rw[Array.toArray_toList];exact a0])]
end
abbrev qdy(c:Pos):Arguments:={posonlyargs:=[],args:=[{arg:= "cut",annotation:=none,pos:=c}],vararg:=none,kwonlyargs:=[],kw_defaults:=[],kwarg:=none,defaults:=[]}
abbrev cutScope:Scope:={kind:=.function,names:=[(Str.ofString "cut",.local),(Str.ofString "len",.globalImplicit)],isGenerator:=false,isCoroutine:=false,more:=[]}
def qbo(K:YZ)(pos:Pos)(e:Str)(P:J9)(t:TA):TE:=λi H Q=>t i H λm f=>ar1 m λx=>isRef x λl=>TabOk pos e P f/\∃as:List Addr,aV K f l (as.map V.ref)/\
 (∀a∈as,∃c r j,cO K f a (V.ref c::r)/\aV K f c j)/\
 ∀(D:J9)(bs:tR)(h:Hp),bs.Perm as->But P f h->TabOk pos e P h->f D=none->h D=none->Q (.ref D) (upd h D (.lst (bs.map V.ref)))
section
variable {X:Cx}
def Xv:aW ["cut"] ["cut"] cutScope:=#[rfl,rfl,rfl,by decide,rfl,by decide,by decide]
def qbp{K:YZ}{k:Nat}{c P:J9}{e:rz}{t:TA}{p pos lp ap np cp sp kp bp ab:Pos}{j:Nat}{w:Str}(hK:X.K=K)(hr:fQ (k+3) X.A)(hc:X.env.code = .ref c)(C:W.CodeHd X.base c P)(L:X.base.BuiltinsAt X.mg P)
  (hg:Gl X "sorted") (hm:X.mg "sorted" = none) (ah:X.mg "len" = none) (ha:PA X [e] t) (af:X.env.qual++ "<lambda>" = w)
  (he:starEach [e] X.env=[(false,eval e X.env)]:=by rfl) :
  PE X (.Call (.Name "sorted" p) [e] [#[some "key",.Lambda (qdy ap) (.Call (.Name "len" ab) [.Subscript (.Name "cut" np) (.Constant (.int 0) j cp) sp] [] bp) cutScope lp,kp]] pos) (qbo K lp w P t):=by
 subst hK af;intro p_ s σ H Q I h;refine qom (mz I hg hm boot_sorted ?_);refine callWith_kw (cG (ha pos p_ s σ H _ I h) λus s1 zz=>?_) (by rw[he];rfl) (by rw[he];rfl);obtain⟨vs,U,I1,r1,q1⟩:=zz;obtain⟨x,rfl,q2⟩:=ar1.out q1;obtain⟨l,e1,hT,as,hl,G,qq⟩:=isRef.out (x:=x) q2;subst e1;obtain⟨u,rfl,ru⟩:=r1.one;obtain rfl:u=Value.ref l:=ru;refine kws_cons (W.kla_eval rfl ?_);refine qbi I1 hc C L hT rfl λf c' pm ay H2 s2 I2 O M hf J ai ag ar=>?_;refine kws_nil ?_;show wpAny _ X.A (call (.builtin "sorted") [.ref l] [(Str.ofString "key",.ref f)]) _ _ s2;obtain⟨ps,hP⟩:=hT.tb;have y:∀b∈frs X.stack,b<s1.heap.objs.size:=λb L=>by
  obtain⟨_,o,ho,_⟩:=I1.stack.mem L;exact qm9 ho
 have ac:∃Y:Nat->Int,∀i a,as[i]? = some a->∃c r m,cO X.K U a (V.ref c::r)/\aV X.K U c m/\Y i=(m.length:Int):=by
  have:∀i:Nat,∃z:Int,∀a,as[i]? = some a->∃c r m,cO X.K U a (V.ref c::r)/\aV X.K U c m/\z=(m.length:Int):=λi=>by
   cases hi:as[i]? with
   |none=>exact#[0,λa h=>by cases h]
   |some a=>
    obtain⟨c,r,m,h1,h2⟩:=G a (qm6 hi);exact#[m.length,λb h=>by cases h;exact#[c,r,m,h1,h2,rfl]]
  exact#[λi=>Classical.choose (this i),λi=>Classical.choose_spec (this i)]
 obtain⟨Y,al⟩:=ac;refine Xu Y I2 (hl.qdt hP O) (n:=s1.heap.objs.size) (qnp J (qoK ai)) J ag hf (λi a hi s3 T am=>?_) λD bs s3 av E T=>#[.ref D,_,T,rfl,qq D bs H2 av O M ?_ E]
 ·obtain⟨c0,r,m,ae,an,hk⟩:=al i a hi;have aa:=ae.qdt hP O;have a0:=an.qdt hP O;have run:=qds (Q:=λv H'=>v = .int (Y i)/\H'=H2) (vs:=[.ref a]) (us:=[.ref a]) (N:=["cut"]) (ps:=["cut"]) (k:=k) hr.in1.in1 T.env0.in1.in1 am (T.hok c' _ ar).1 Xv rfl (.cons rfl .nil) rfl
   (aH (bN (K:=X.K) rfl) rfl ah qnd (aj (bC (bD (K:=X.K) rfl) (pv 0) aG (λ_ _=>rfl)) ao)) ?_
  ·refine qpb (qor run λr s4 B=>?_);cases r with
   |error e=>exact B.elim
   |ok fl=>
    cases fl with
    |next=>exact False.elim B
    |brk=>exact False.elim B
    |cont=>exact False.elim B
    |ret u=>
     have un:Un (frs X.stack) [] H2 H2 s3.heap s4.heap:=by
      obtain⟨v,H',_,_,un,_,_,_,rfl⟩:=B;exact un
     obtain⟨v,H',I4,rv,rfl,rfl⟩:=T.after B;obtain⟨t,rfl⟩:=rv;exact#[t,rfl,I4,λb o hn L e=>un.keep b o e L (λz=>absurd (y b z) (Nat.not_lt.mpr hn)) (by simp)]
  ·refine#[.ref a,rfl,?_];refine#[V.ref c0::r,.inr aa,V.ref c0,by simp[Cm,ZJ],?_];exact#[m,.inl a0,by rw[hk],rfl]
 ·cases q:U D with
  |none=>rfl
  |some u=>
   by_cases z:D=P
   ·rw[z] at E;obtain⟨ax,aw⟩:=M.tb;rw[aw] at E;cases E
   ·rw[O _ _ z q] at E;cases E
@[simp ↓] theorem qif (K:YZ)(pos:Pos)(e:Str)(P:J9)(t:TA) σ H Q:qbo K pos e P t σ H Q=(t σ H λvs f=>ar1 vs λx=>isRef x λl=>TabOk pos e P f/\∃as:List Addr,aV K f l (as.map V.ref)/\
 (∀a∈as,∃c r xs,cO K f a (V.ref c::r)/\aV K f c xs)/\
 ∀(D:J9)(bs:tR)(h:Hp),bs.Perm as->But P f h->TabOk pos e P h->f D=none->h D=none->Q (.ref D) (upd h D (.lst (bs.map V.ref)))):=rfl
end
theorem Pz:∀{ns:qx}{us:QAE},Vals (ns.map V.int) us->IntsAre us ns
 |[],_,r=>by cases r;exact .nil
 |n::ns,_,r=>by
  cases r with
  |cons x y=>
   obtain⟨t,rfl⟩:=x;exact .cons n t (Pz y)
section
variable {X:Cx}{K:YZ}
def qbq(K:YZ):List V->Hp->VK->Prop:=λf H Q=>ar1 f λv=>isRef v λl=>∃(e:qx),aV K H l (e.map V.int)/\e.length<64/\∀(p:J9)(c:qx),H p=none->c.Perm e->c.Pairwise (·<=·)->Q (.ref p) (upd H p (.lst (c.map V.int)))
@[simp ↓] theorem qig K xs H Q:qbq K xs H Q=(ar1 xs λv=>isRef v λl=>∃(ns:qx),aV K H l (ns.map V.int)/\ns.length<64/\∀(p:J9)(c:qx),H p=none->c.Perm ns->c.Pairwise (·<=·)->Q (.ref p) (upd H p (.lst (c.map V.int)))):=rfl
def PB(D:X.K=K):cJ X (.builtin "sorted") (qbq K):=by
 subst D;intro y s o H G J Q I r h;obtain⟨v,rfl,h⟩:=ar1.out h;obtain⟨l,rfl,p,B,j,q⟩:=isRef.out h;obtain⟨u,rfl,w⟩:=r.one;obtain rfl:u=Value.ref l:=w;obtain⟨c,m,x,z⟩:=I.list B;have A:c.length=p.length:=by
  have:=m.length;simpa using this.symm
 refine sorted_ints x.isList (Pz m) ⋯ λout f a1 a2 a3=>?_;have E:Inv X y o H {s with heap:=sortedAll s.heap c out}:=I.kept (t':=s.toks) λ_ _=>sortedAll_old;have n:H (s.heap.objs.size+1)=none:=I.hok.fresh (qoU _);obtain⟨e,C⟩:=sortedAll_at s.heap c out;have i:f.length<=sizeLine:=by
  rw[a2.length_eq];exact qnp (qoK j) (by decide)
 exact#[.ref (s.heap.objs.size+1),_,E.qbg (ob:=.lst (f.map V.int)) (qnp I.sz (qoU _)) (I.zY (qoU _) n) #[by rw[qm7];exact i,out.toList,e,z7 a1,C],rfl,q _ _ n a2 a3]
end
end L2
namespace L2
namespace LY
section
variable {α:Type} [DecidableEq α]
structure Ar(α:Type) where
 n:Nat
 tl:Nat->α
 hd:Nat->α
def lv(A:Ar α)(a:Nat)(X:α->Bool):Bool:=X (A.tl a) && !X (A.hd a)
def Pr(V:List α)(X:α->Bool):Prop:=(∃x∈V,X x=true)/\∃y∈V,X y=false
def Dc(V:List α)(A:Ar α)(X:α->Bool):Prop:=Pr V X/\∀a,a<A.n->X (A.hd a)=true->X (A.tl a)=true
def In(V:List α)(A:Ar α):Prop:=∀a,a<A.n->A.tl a∈V/\A.hd a∈V
def Sub(V:List α)(X Y:α->Bool):Prop:=∀x∈V,X x=true->Y x=true
def All(V:List α)(X Y:α->Bool):Prop:=∀x∈V,X x=true\/Y x=true
def NC(V:List α)(X Y:α->Bool):Prop:=Sub V X Y\/Sub V Y X\/(∀x∈V,¬(X x=true/\Y x=true))\/All V X Y
def cov(A:Ar α)(F:List (α->Bool))(a:Nat):Nat:=F.countP (lv A a)
def sz(V:List α)(X:α->Bool):Nat:=V.countP X
def cap(X Y:α->Bool):α->Bool:=λx=>X x && Y x
def VG(X Y:α->Bool):α->Bool:=λx=>X x || Y x
theorem qbr(X Y:α->Bool):∀V:List α,sz V (cap X Y)+sz V (VG X Y)=sz V X+sz V Y
 |[]=>rfl
 |x::V=>by
  have ih:=qbr X Y V;unfold sz at ih⊢;simp only[qoq];have:(if cap X Y x=true then 1 else 0)+(if VG X Y x=true then 1 else 0)=(if X x=true then 1 else 0)+(if Y x=true then 1 else 0):=by
   unfold cap VG;cases X x <;> cases Y x <;> rfl
  lia
theorem qey{X Y:α->Bool}:∀{V:List α},Sub V X Y->sz V X<=sz V Y
 |[],_=>qm5 _
 |x::V,h=>by
  have ih:=qey (V:=V) λy c=>h y (qm_ _ c);have f:=h x qng;unfold sz at ih⊢;simp only[qoq]
  by_cases e:X x=true
  ·rw[if_pos e,if_pos (f e)];lia
  ·rw[if_neg e];lia
theorem Jk{X Y:α->Bool}:∀{V:List α},Sub V X Y->∀x∈V,X x=false->Y x=true->sz V X<sz V Y
 |[],_,x,c,_,_=>by cases c
 |y::V,h,x,c,j,i=>by
  have h':Sub V X Y:=λy f=>h y (qm_ _ f);have f:=h y qng;have le:=qey h';unfold sz at le⊢;simp only[qoq]
  rcases qnc.mp c with rfl|c
  ·rw[if_neg (by rw[j];simp),if_pos i];lia
  ·have ih:=Jk h' x c j i;unfold sz at ih
   by_cases e:X y=true
   ·rw[if_pos e,if_pos (f e)];lia
   ·rw[if_neg e];lia
def qbs(V:List α)(X:α->Bool):sz V X<=V.length:=List.countP_le_length
def qih{p q a b:Nat}(h:p+q=a+b)(f:p<a)(e:p<b):a * a+b * b<p * p+q * q:=by
 obtain⟨x,rfl⟩:∃x,a=p+x:=#[a - p,⋯];obtain⟨y,rfl⟩:∃y,b=p+y:=#[b - p,⋯];obtain rfl:q=p+x+y:=⋯
 have c:0<x * y:=Nat.mul_pos ⋯ ⋯;simp only[Nat.mul_add,Nat.add_mul];have l:=Nat.mul_comm x p;have j:=Nat.mul_comm y p;have i:=Nat.mul_comm y x;lia
def sqs(V:List α)(F:List (α->Bool)):Nat:=(F.map λX=>sz V X * sz V X).sum
theorem VH(V:List α):∀F:List (α->Bool),sqs V F<=F.length * (V.length * V.length)
 |[]=>qnI _
 |X::F=>by
  have ih:=VH V F;have:=Nat.mul_le_mul (qbs V X) (qbs V X);unfold sqs at ih⊢;rw[qnP,List.sum_cons,qnt,Nat.add_mul,Nat.one_mul];omega
def Dc.two{V:List α}{A:Ar α}{X Y:α->Bool}(n:Dc V A X)(m:Dc V A Y)(h:¬NC V X Y):Dc V A (cap X Y)/\Dc V A (VG X Y):=by
 have s:∃x∈V,X x=true/\Y x=true:=qnh λf=>h (.inr (.inr (.inl λx c z=>f #[x,c,z])));have r:∃x∈V,X x=false/\Y x=false:=qnh λf=>h (.inr (.inr (.inr λx c=>by
  cases v:X x with
  |true=>exact .inl rfl
  |false=>cases u:Y x with
   |true=>exact .inr rfl
   |false=>exact absurd #[x,c,v,u] f)))
 obtain⟨x,c,j,p⟩:=s;obtain⟨y,l,i,o⟩:=r;refine#[#[#[#[x,c,by simp[cap,j,p]],y,l,by simp[cap,i]],λa e z=>?_],#[#[#[x,c,by simp[VG,j]],y,l,by simp[VG,i,o]],λa e z=>?_]]
 ·unfold cap at z⊢;rw[qnK] at z⊢;exact#[n.2 a e z.1,m.2 a e z.2]
 ·unfold VG at z⊢;rw[Bool.or_eq_true] at z⊢;exact z.imp (n.2 a e) (m.2 a e)
def qge{V:List α}{A:Ar α}{X Y:α->Bool}(f:Dc V A X)(e:Dc V A Y){a:Nat}(c:a<A.n) :
  (if lv A a (cap X Y)=true then 1 else 0)+(if lv A a (VG X Y)=true then 1 else 0)=(if lv A a X=true then 1 else 0)+(if lv A a Y=true then 1 else 0):=by
 have i:=f.2 a c;have h:=e.2 a c;unfold lv cap VG;revert i h;cases X (A.tl a) <;> cases X (A.hd a) <;> cases Y (A.tl a) <;> cases Y (A.hd a) <;> simp
theorem Es{V:List α}:∀F:List (α->Bool),F.Pairwise (NC V)\/∃X Y R,F.Perm (X::Y::R)/\¬NC V X Y
 |[]=>.inl .nil
 |X::F=>by
  rcases Es F with h|⟨Y,Z,R,i,c⟩
  ·by_cases f:∀Y∈F,NC V X Y
   ·exact .inl (.cons f h)
   ·obtain⟨Y,e⟩:=qpU.mp f;obtain⟨e,c⟩:=qph.mp e;obtain⟨s,t,rfl⟩:=List.append_of_mem e;exact .inr #[X,Y,s++t,.cons X List.perm_middle,c]
  ·exact .inr #[Y,Z,X::R,(List.Perm.cons X i).trans ((List.Perm.swap Y X _).trans (.cons Y (.swap Z X R))),c]
def PJ(V:List α){F G:List (α->Bool)}(h:F.Perm G):sqs V F=sqs V G:=(h.map _).sum_nat
def PK{V:List α}{X Y:α->Bool}(i:¬NC V X Y)(R:List (α->Bool)):sqs V (X::Y::R)<sqs V (cap X Y::VG X Y::R):=by
 have n:¬Sub V X Y:=λz=>i (.inl z);have m:¬Sub V Y X:=λz=>i (.inr (.inl z));have l:sz V (cap X Y)<sz V X:=by
  obtain⟨x,c⟩:=qpU.mp n;obtain⟨c,h⟩:=qph.mp c;obtain⟨f,e⟩:=qph.mp h;exact Jk (λy _ z=>by unfold cap at z;rw[qnK] at z;exact z.1) x c (by simp[cap,e]) f
 have j:sz V (cap X Y)<sz V Y:=by
  obtain⟨x,c⟩:=qpU.mp m;obtain⟨c,h⟩:=qph.mp c;obtain⟨f,e⟩:=qph.mp h;exact Jk (λy _ z=>by unfold cap at z;rw[qnK] at z;exact z.2) x c (by simp[cap,e]) f
 have:=qih (qbr X Y V) l j;unfold sqs;simp only[qnP,List.sum_cons];lia
def qdz{V:List α}{A:Ar α}:∀(m:Nat)(F:List (α->Bool)),F.length * (V.length * V.length)<=sqs V F+m->(∀X∈F,Dc V A X)->
  ∃G:List (α->Bool),G.length=F.length/\(∀X∈G,Dc V A X)/\(∀a,a<A.n->cov A G a=cov A F a)/\G.Pairwise (NC V):=by
 intro m
 induction m with
 |zero=>
  intro F w f
  rcases Es (V:=V) F with h|⟨X,Y,R,c,l⟩
  ·exact#[F,rfl,f,λ_ _=>rfl,h]
  ·exfalso;have r:=f X (c.mem_iff.mpr qng);have p:=f Y (c.mem_iff.mpr (qm_ _ qng));have i:=PK l;have e:=PJ V c;have u:=VH V (cap X Y::VG X Y::R);have o:(cap X Y::VG X Y::R).length=F.length:=by rw[c.length_eq];rfl
   rw[o] at u;have:=i R;omega
 |succ m ih=>
  intro F w f
  rcases Es (V:=V) F with h|⟨X,Y,R,c,l⟩
  ·exact#[F,rfl,f,λ_ _=>rfl,h]
  ·have r:=f X (c.mem_iff.mpr qng);have p:=f Y (c.mem_iff.mpr (qm_ _ qng));have i:=PK l R;have e:=PJ V c;have o:(cap X Y::VG X Y::R).length=F.length:=by rw[c.length_eq];rfl
   obtain⟨x,v⟩:=r.two p l;obtain⟨G,C,B,z,y⟩:=ih (cap X Y::VG X Y::R) (by rw[o];lia) λZ j=>by
    rcases qnc.mp j with rfl|j
    ·exact x
    ·rcases qnc.mp j with rfl|j
     ·exact v
     ·exact f Z (c.mem_iff.mpr (qm_ _ (qm_ _ j)))
   refine#[G,C.trans o,B,λa s=>?_,y];rw[z a s];unfold cov;rw[c.countP_eq];simp only[qoq];have:=qge r p s;lia
theorem Ls{β:Type}(p q:β->Bool):∀l:List β,l.countP p=l.countP (λx=>p x && q x)+l.countP (λx=>p x && !q x)
 |[]=>rfl
 |a::l=>by
  have ih:=Ls p q l;simp only[qoq];cases p a <;> cases q a <;> simp <;> lia
theorem Lw{β:Type}{p q:β->Bool}:∀{l:List β},(∀x∈l,p x=q x)->l.countP p=l.countP q
 |[],_=>rfl
 |a::l,h=>by
  simp only[qoq];rw[Lw λx c=>h x (qm_ _ c),h a qng]
theorem NC.symm{V:List α}{X Y:α->Bool}(h:NC V X Y):NC V Y X:=by
 rcases h with h|h|h|h
 ·exact .inr (.inl h)
 ·exact .inl h
 ·exact .inr (.inr (.inl λx c z=>h x c #[z.2,z.1]))
 ·exact .inr (.inr (.inr λx c=>(h x c).symm))
def uo(F:List (α->Bool))(i:Nat):α->Bool:=(F[i]?).getD λ_=>false
def qbt{F:List (α->Bool)}{i:Nat}(h:i<F.length):F[i]? = some (uo F i):=by unfold uo;rw[qnx h];rfl
def qbu{V:List α}{F:List (α->Bool)}(h:F.Pairwise (NC V)){i j:Nat}(e:i<F.length)(c:j<F.length)(f:i≠j):NC V (uo F i) (uo F j):=by
 have n:uo F i=F[i]:=by unfold uo;rw[qnx e];rfl
 have m:uo F j=F[j]:=by unfold uo;rw[qnx c];rfl
 rw[n,m];have:=List.pairwise_iff_getElem.mp h
 by_cases l:i<j
 ·exact this i j e c l
 ·exact(this j i c e ⋯).symm
def leF(V:List α)(F:List (α->Bool))(i j:Nat):Prop:=Sub V (uo F i) (uo F j)/\(Sub V (uo F j) (uo F i)->i<=j)
def leF.trans{V:List α}{F:List (α->Bool)}{i j k:Nat}(a:leF V F i j)(b:leF V F j k):leF V F i k:=
 #[λx e z=>b.1 x e (a.1 x e z),λc=>qnp (a.2 λx e z=>c x e (b.1 x e z)) (b.2 λx e z=>a.1 x e (c x e z))]
def two_colours{V:List α}{A:Ar α}(ae:In V A){F:List (α->Bool)}(hN:F.Pairwise (NC V))(hF:∀X∈F,Dc V A X){c:Nat->Nat}(hc:∀a,a<A.n->cov A F a<=2 * c a) :
  ∃G:List (α->Bool),F.length<=2 * G.length/\(∀X∈G,Dc V A X)/\∀a,a<A.n->cov A G a<=c a:=by
 classical
 obtain⟨N,af⟩:∃N:Nat->Nat,∀i,N i=(List.range F.length).countP (λj=>decide (leF V F i j\/All V (uo F i) (uo F j))):=#[_,λ_=>rfl];have dc:∀i,i<F.length->Dc V A (uo F i):=λi f=>hF _ (qm6 (qbt f));have ac:∀p a,a<A.n->((List.range F.length).filter λi=>decide (N i % 2=p)).countP (λi=>lv A a (uo F i))<=c a:=by
  intro p a T;obtain⟨ht,Q⟩:=ae a T;obtain⟨o,v⟩:∃o,o=(List.range F.length).filter λi=>lv A a (uo F i):=#[_,rfl];have x:∀i,i∈o↔i<F.length/\uo F i (A.tl a)=true/\uo F i (A.hd a)=false:=λi=>by
   rw[v,qnv,qnD];unfold lv;rw[qnK,qn7]
  have a0:∀i∈o,∀j∈o,i≠j->leF V F i j\/leF V F j i:=λi f j s m=>by
   obtain⟨C,E,B⟩:=(x i).mp f;obtain⟨M,j2,j3⟩:=(x j).mp s;have sub:Sub V (uo F i) (uo F j)\/Sub V (uo F j) (uo F i):=by
    rcases qbu hN C M m with h|h|h|h
    ·exact .inl h
    ·exact .inr h
    ·exact absurd #[E,j2] (h _ ht)
    ·rcases h _ Q with z|z
     ·rw[B] at z;cases z
     ·rw[j3] at z;cases z
   rcases sub with h|h
   ·by_cases w:Sub V (uo F j) (uo F i)
    ·rcases Nat.le_total i j with z|z
     ·exact .inl #[h,λ_=>z]
     ·exact .inr #[w,λ_=>z]
    ·exact .inl #[h,λz=>absurd z w]
   ·by_cases w:Sub V (uo F i) (uo F j)
    ·rcases Nat.le_total i j with z|z
     ·exact .inl #[w,λ_=>z]
     ·exact .inr #[h,λ_=>z]
    ·exact .inr #[h,λz=>absurd z w]
  obtain⟨r,O⟩:∃r:Nat->Nat,∀i,r i=o.countP (λj=>decide (leF V F i j)):=#[_,λ_=>rfl];have H:∀i∈o,∀j∈o,i≠j->leF V F i j->r j<r i:=λi f j s m h=>by
   rw[O,O];exact Jk (X:=λl=>decide (leF V F j l)) (Y:=λl=>decide (leF V F i l)) (λl _ z=>qnE (h.trans (qnb z))) i f (qnM λz=>m (Nat.le_antisymm (h.2 z.1) (z.2 h.1))) (qnE #[λ_ _ z=>z,λ_=>qm5 _])
  have ab:∀i∈o,∀j∈o,r i=r j->i=j:=λi f j s e=>qnh λm=>by
   rcases a0 i f j s m with h|h
   ·have:=H i f j s m h;lia
   ·have:=H j s i f (qoE m) h;lia
  have u:∀i∈o,1<=r i:=λi f=>by
   rw[O];exact List.countP_pos_iff.mpr #[i,f,qnE #[λ_ _ z=>z,λ_=>qm5 _]]
  have kc:o.length<=2 * c a:=by
   have h:=hc a T;have e:cov A F a=o.length:=by
    rw[v,<- qo4];unfold cov;have e2:F=(List.range F.length).map (uo F):=by
     refine List.ext_getElem? λi=>?_;rw[qnr]
     by_cases f:i<F.length
     ·rw[qpq f,qbt f];rfl
     ·rw[qpH ⋯,qpH (by simp;omega)];rfl
    conv=>lhs;rw[e2]
    rw[List.countP_map];rfl
   lia
  have aa:∀i,r i<=2 * c a:=λi=>by
   rw[O];exact qnp List.countP_le_length kc
  obtain⟨q,hq⟩:∃q,q=(List.range F.length).countP (λj=>!lv A a (uo F j) && uo F j (A.tl a)):=#[_,rfl];have Nr:∀i∈o,N i=r i+q:=λi f=>by
   obtain⟨C,E,B⟩:=(x i).mp f;rw[af,Ls _ λj=>lv A a (uo F j),O,hq,v,List.countP_filter];congr 1
   ·refine Lw λj s=>?_;cases D:lv A a (uo F j) with
    |false=>simp
    |true=>
     unfold lv at D;rw[qnK,qn7] at D;rw[Bool.and_true,Bool.and_true,decide_eq_decide];refine#[λz=>z.resolve_right λz=>?_,.inl]
     rcases z _ Q with z|z
     ·rw[B] at z;cases z
     ·rw[D.2] at z;cases z
   ·refine Lw λj s=>?_;have s:=qnD.mp s;cases D:lv A a (uo F j) with
    |true=>simp
    |false=>
     have enter:=(dc j s).2 a T;have leave:uo F j (A.tl a)=true->uo F j (A.hd a)=true:=λz=>by
      unfold lv at D;rw[z,Bool.true_and,Bool.not_eq_false'] at D;exact D
     have m:i≠j:=λz=>by
      subst z;have:=leave E;rw[B] at this;cases this
     rw[Bool.not_false,Bool.and_true,Bool.true_and];rw[qou,qol];constructor
     ·rintro(z|z)
      ·exact z.1 _ ht E
      ·rcases z _ Q with z|z
       ·rw[B] at z;cases z
       ·exact enter z
     ·intro z
      rcases qbu hN C s m with h|h|h|h
      ·refine .inl #[h,λw=>?_];have:=w _ Q (leave z);rw[B] at this;cases this
      ·have:=h _ Q (leave z);rw[B] at this;cases this
      ·exact absurd #[E,z] (h _ ht)
      ·exact .inr h
  obtain⟨L,hL⟩:∃L,L=((List.range F.length).filter λi=>decide (N i % 2=p)).filter λi=>lv A a (uo F i):=#[_,rfl];rw[qo4,<- hL];have mL:∀i∈L,i∈o/\N i % 2=p:=λi f=>by
   rw[hL] at f;obtain⟨h1,w⟩:=qnv.mp f;obtain⟨h3,h4⟩:=qnv.mp h1;exact#[by rw[v];exact qnv.mpr #[h3,w],qnb h4]
  have ag:L.Nodup:=by rw[hL];exact(List.nodup_range.sublist qo_).sublist qo_
  have nd:(L.map λi=>(r i - 1) / 2).Nodup:=by
   refine List.pairwise_map.mpr (ag.imp_of_mem λ{i j} f s m z=>m ?_);obtain⟨C,E⟩:=mL i f;obtain⟨M,j2⟩:=mL j s;have a1:=Nr i C;have a2:=Nr j M;have a3:=u i C;have a4:=u j M;exact ab i C j M ⋯
  have:=cV (xs:=List.range (c a)) nd λy hy=>by
   obtain⟨i,f,rfl⟩:=qnA.mp hy;have a3:=u i (mL i f).1;have a4:=aa i;exact qnD.mpr ⋯
  rw[qm7,qpi] at this;exact this
 obtain⟨I,U⟩:∃I:Nat->List Nat,∀p,I p=(List.range F.length).filter λi=>decide (N i % 2=p):=#[_,λ_=>rfl];have ah:F.length=(I 0).length+(I 1).length:=by
  rw[U,U,<- qo4,<- qo4];have:=Ls (λ_:Nat=>true) (λi=>decide (N i % 2=0)) (List.range F.length);simp only[Bool.true_and] at this;rw[List.countP_true,qpi] at this;have e:(List.range F.length).countP (λi=>!decide (N i % 2=0))=(List.range F.length).countP (λi=>decide (N i % 2=1)):=Lw λi _=>by
   rw[<- decide_not,decide_eq_decide];lia
  lia
 have J:∃p,F.length<=2 * (I p).length:=by
  by_cases h:(I 0).length<=(I 1).length
  ·exact#[1,⋯]
  ·exact#[0,⋯]
 obtain⟨p,hp⟩:=J;refine#[(I p).map (uo F),by rw[qm7];exact hp,λX hX=>?_,λa T=>?_]
 ·obtain⟨i,f,rfl⟩:=qnA.mp hX;rw[U] at f;exact dc i (qnD.mp (qnv.mp f).1)
 ·have:=ac p a T;rw[<- U] at this;unfold cov;rw[List.countP_map];exact this
def Pk(V:List α)(A:Ar α)(c:Nat->Nat)(t:Nat):Prop:=∃F:List (α->Bool),F.length=t/\(∀X∈F,Dc V A X)/\∀a,a<A.n->cov A F a<=c a
def Pk.less{V:List α}{A:Ar α}{c:Nat->Nat}{t u:Nat}(h:Pk V A c t)(l:u<=t):Pk V A c u:=by
 obtain⟨F,rfl,j,i⟩:=h;exact#[F.take u,by rw[qni];lia,λX f=>j X (List.mem_of_mem_take f),λa e=>qnp ((List.take_sublist u F).countP_le) (i a e)]
def Pk.more{V:List α}{A:Ar α}{c d:Nat->Nat}{t:Nat}(h:Pk V A c t)(f:∀a,a<A.n->c a<=d a):Pk V A d t:=by
 obtain⟨F,l,j,i⟩:=h;exact#[F,l,j,λa e=>qnp (i a e) (f a e)]
def Pk.most{V:List α}{A:Ar α}{c:Nat->Nat}{t:Nat}(con:∀X,Dc V A X->∃a,a<A.n/\lv A a X=true)(h:Pk V A c t):t<=((List.range A.n).map c).sum:=by
 obtain⟨F,rfl,s,r⟩:=h;have j:∀F:List (α->Bool),(∀X∈F,Dc V A X)->F.length<=((List.range A.n).map (cov A F)).sum:=by
  intro F
  induction F with
  |nil=>intro _;exact qnI _
  |cons X F ih=>
   intro o;have ih:=ih λY p=>o Y (qm_ _ p);obtain⟨a,f,i⟩:=con X (o X qng);have e:∀l:List Nat,(l.map (cov A (X::F))).sum=(l.map (cov A F)).sum+l.countP (λa=>lv A a X):=by
    intro l
    induction l with
    |nil=>rfl
    |cons b l m=>
     simp only[qnP,List.sum_cons,qoq];rw[m];unfold cov;rw[qoq];lia
   rw[e,qnt];have:0<(List.range A.n).countP (λa=>lv A a X):=List.countP_pos_iff.mpr #[a,qnD.mpr f,i];lia
 have le:∀l:List Nat,(∀a∈l,a<A.n)->(l.map (cov A F)).sum<=(l.map c).sum:=by
  intro l
  induction l with
  |nil=>intro _;exact qm5 _
  |cons b l ih=>
   intro i;simp only[qnP,List.sum_cons];have:=ih λa f=>i a (qm_ _ f);have:=r b (i b qng);lia
 exact qnp (j F s) (le _ λa f=>qnD.mp f)
def Pk.qii{V:List α}{A:Ar α}(e:In V A){c:Nat->Nat}{t:Nat}(h:Pk V A (λa=>2 * c a) t):∃u,t<=2 * u/\Pk V A c u:=by
 obtain⟨F,rfl,j,i⟩:=h;obtain⟨G,r,n,m,l⟩:=qdz (V:=V) (A:=A) (F.length * (V.length * V.length)) F ⋯ j;obtain⟨E,s,p,o⟩:=two_colours e l n (c:=c) λa f=>by rw[m a f];exact i a f
 exact#[E.length,⋯,E,rfl,p,o]
def Pk.add{V:List α}{A:Ar α}{c d:Nat->Nat}{t u:Nat}(h:Pk V A c t)(g:Pk V A d u):Pk V A (λa=>c a+d a) (t+u):=by
 obtain⟨F,rfl,m,l⟩:=h;obtain⟨G,rfl,j,i⟩:=g;refine#[F++G,qnT,λX f=>(qnw.mp f).elim (m X) (j X),λa e=>?_];show List.countP _ (F++G)<=c a+d a;rw[List.countP_append];exact Nat.add_le_add (l a e) (i a e)
def cS(S:Nat->Bool)(a:Nat):Nat:=if S a=true then 0 else 1
def qgf(V:List α)(A:Ar α)(S:Nat->Bool)(J:wX):Prop:=∀X,Dc V A X->(∀a,a<A.n->S a=true->lv A a X=false)->∃a∈J,a<A.n/\lv A a X=true
def qij{V:List α}{A:Ar α}(L:In V A)(con:∀X,Dc V A X->∃a,a<A.n/\lv A a X=true):∀(m:Nat)(S:Nat->Bool),(List.range A.n).countP (λa=>!S a)<=m->∃J:List Nat,qgf V A S J/\Pk V A (cS S) J.length:=by
 intro m
 induction m with
 |zero=>
  intro S T;refine#[[],λX f B=>?_,[],rfl,λX f=>(by cases f),λa _=>qnI _];obtain⟨a,o,E⟩:=con X f;have h0:=List.countP_eq_zero.mp (Nat.le_zero.mp T) a (qnD.mpr o);rw[B a o (by simpa using h0)] at E;cases E
 |succ m ih=>
  intro S T
  by_cases w:∃X,Dc V A X/\∀a,a<A.n->S a=true->lv A a X=false
  case neg=>exact#[[],λX f B=>absurd #[X,f,B] w,[],rfl,λX f=>(by cases f),λa _=>qnI _]
  obtain⟨X0,M,N⟩:=w;obtain⟨v,H,s⟩:∃v,Pk V A (cS S) v/\¬Pk V A (cS S) (v+1):=by
   have some:∀k,Pk V A (cS S) k\/∃v,v<k/\Pk V A (cS S) v/\¬Pk V A (cS S) (v+1):=by
    intro k
    induction k with
    |zero=>exact .inl #[[],rfl,λX f=>(by cases f),λa _=>qnI _]
    |succ k ih=>
     rcases ih with h|⟨v,G,c⟩
     ·by_cases c:Pk V A (cS S) (k+1)
      ·exact .inl c
      ·exact .inr #[k,⋯,h,c]
     ·exact .inr #[v,⋯,c]
   rcases some (((List.range A.n).map (cS S)).sum+1) with h|⟨v,_,h⟩
   ·have:=h.most con;lia
   ·exact#[v,h]
  have v1:1<=v:=by
   apply qnh;intro h;refine s ?_;rw[show v+1=1 by lia];refine#[[X0],rfl,λX f=>by rw[qn4.mp f];exact M,λa o=>?_];unfold cov cS;rw[qoq,List.countP_nil]
   by_cases I:S a=true
   ·rw[N a o I,if_pos I];simp
   ·rw[if_neg I];split <;> lia
  have less:∀b,b<A.n->S b=false->∃J:List Nat,qgf V A (λa=>S a || a == b) J/\Pk V A (cS λa=>S a || a == b) J.length:=λb r l=>by
   refine ih _ ?_;have:=Jk (X:=λa=>!(S a || a == b)) (Y:=λa=>!S a) (V:=List.range A.n) (λa _ z=>by
    have z:(!(S a || a == b))=true:=z
    rw[qn7,Bool.or_eq_false_iff] at z;show(!S a)=true;rw[z.1];rfl) b (qnD.mpr r) (by simp) (by show(!S b)=true;rw[l];rfl)
   unfold sz at this;lia
  by_cases i:∃b,b<A.n/\S b=false/\∃J:List Nat,qgf V A (λa=>S a || a == b) J/\J.length+1<=v
  ·obtain⟨b,r,l,J,hJ,E⟩:=i;refine#[b::J,λX f B=>?_,H.less E]
   by_cases x:lv A b X=true
   ·exact#[b,qng,r,x]
   ·obtain⟨a,G,c⟩:=hJ X f λa o z=>by
     rcases Bool.or_eq_true_iff.mp z with z|z
     ·exact B a o z
     ·rw[eq_of_beq z];simpa using x
    exact#[a,qm_ _ G,c]
  ·exfalso;have C:∀b,b<A.n->S b=false->Pk V A (cS λa=>S a || a == b) v:=λb r l=>by
    obtain⟨J,G,c⟩:=less b r l;refine c.less ?_;apply qnh;intro a0;exact i #[b,r,l,J,G,⋯]
   obtain⟨d,p⟩:∃d:Nat->Nat->Nat,∀j a,d j a=cS S a+(if a<j/\S a=false then 1 else 0):=#[_,λ_ _=>rfl]
   have d0:¬Pk V A (d 0) (v+1):=λh=>s (h.more λa _=>by rw[p,if_neg ⋯];lia);have dn:Pk V A (d A.n) (v+1):=((H.add H).less ⋯).more λa o=>by
    rw[p];unfold cS;cases h:S a with
    |true=>simp
    |false=>simp[o]
   obtain⟨j,hj,Q,O⟩:∃j,j<A.n/\¬Pk V A (d j) (v+1)/\Pk V A (d (j+1)) (v+1):=by
    have some:∀k,k<=A.n->¬Pk V A (d k) (v+1)\/∃j,j<A.n/\¬Pk V A (d j) (v+1)/\Pk V A (d (j+1)) (v+1):=by
     intro k
     induction k with
     |zero=>intro _;exact .inl d0
     |succ k ih=>
      intro hk
      rcases ih ⋯ with h|h
      ·by_cases c:Pk V A (d (k+1)) (v+1)
       ·exact .inr #[k,⋯,h,c]
       ·exact .inl c
      ·exact .inr h
    rcases some A.n (qm5 _) with h|h
    ·exact absurd dn h
    ·exact h
   have y:S j=false:=by
    cases h:S j with
    |false=>rfl
    |true=>
     refine absurd (O.more λa o=>?_) Q;rw[p,p]
     by_cases e:a=j
     ·subst e;rw[h];simp
     ·by_cases c:a<j/\S a=false
      ·rw[if_pos c,if_pos #[⋯,c.2]];exact qm5 _
      ·rw[if_neg (λz=>c #[⋯,z.2])];lia
   have D:=((O.add (C j hj y)).more (d:=λa=>2 * d j a) λa o=>by
    rw[p,p];unfold cS;dsimp only
    by_cases e:a=j
    ·subst e;simp[y]
    ·by_cases h:S a=true
     ·simp[h]
     ·by_cases c:a<j
      ·have:a<j+1:=⋯
       simp[h,c,this,e]
      ·have:¬a<j+1:=⋯
       simp[h,c,this,e])
   obtain⟨u,hu,U⟩:=D.qii L;exact Q (U.less ⋯)
def qbw{V:List α}{A:Ar α}(c:In V A)(con:∀X,Dc V A X->∃a,a<A.n/\lv A a X=true):∃(J:wX)(F:List (α->Bool)),(∀X,Dc V A X->∃a∈J,a<A.n/\lv A a X=true)/\F.length=J.length/\(∀X∈F,Dc V A X)/\∀a,a<A.n->cov A F a<=1:=by
 obtain⟨J,l,F,j,i,h⟩:=qij c con A.n (λ_=>false) (qnp List.countP_le_length (by simp));exact#[J,F,λX f=>l X f λa _ z=>(by cases z),j,i,λa e=>h a e]
def qbx{V:List α}{A:Ar α}{J:wX}(hJ:∀X,Dc V A X->∃a∈J,a<A.n/\lv A a X=true)(Q:∀a∈J,∃Y,Dc V A Y/\a<A.n/\lv A a Y=true/\∀b∈J,b<A.n->lv A b Y=true->b=a)
  (two:∀X,Pr V X->∀a,a<A.n->∃b,b<A.n/\b≠a/\X (A.tl b)≠X (A.hd b)) (D:In V A):∀(m:Nat)(c:α->Bool),(List.range A.n).countP (λa=>lv A a c)<=m->Pr V c->
   (∀a,a<A.n->lv A a c=true->a∈J)->(∀a∈J,a<A.n->c (A.hd a)=true->c (A.tl a)=true)->False:=by
 intro m;have nil:∀c:α->Bool,Pr V c->(∀a∈J,a<A.n->c (A.hd a)=true->c (A.tl a)=true)->(∀a,a<A.n->lv A a c=false)->False:=by
  intro c u p v;obtain⟨⟨x,i,w⟩,y,s,y1⟩:=u;obtain⟨a,o,l,j⟩:=hJ (λx=>!c x) #[#[#[y,s,by simp[y1]],x,i,by simp[w]],λa l z=>by
   have:=v a l;unfold lv at this;have z:(!c (A.hd a))=true:=z;show(!c (A.tl a))=true;cases e:c (A.tl a) with
   |false=>rfl
   |true=>
    rw[e,Bool.true_and,Bool.not_eq_false'] at this;rw[this] at z;cases z]
  unfold lv at j;rw[qnK,Bool.not_not,qn7] at j;have:=p a o l j.2;rw[j.1] at this;cases this
 induction m with
 |zero=>
  intro c hm u G p;exact nil c u p λa l=>by simpa using List.countP_eq_zero.mp (Nat.le_zero.mp hm) a (qnD.mpr l)
 |succ m ih=>
  intro c hm u G p
  by_cases v:∀a,a<A.n->lv A a c=false
  ·exact nil c u p v
  obtain⟨a,v⟩:=qpU.mp v;obtain⟨l,j⟩:=qph.mp v;have j:lv A a c=true:=by simpa using j
  have o:=G a l j;obtain⟨Y,M,_,ab,T⟩:=Q a o;obtain⟨a0,ac⟩:=D a l;have r:=j;have L:=ab;unfold lv at r L;rw[qnK,qn7] at r L;have H:∀I:α->Bool,(∀b,b<A.n->lv A b I=true->lv A b c=true)->lv A a I=false->(List.range A.n).countP (λa=>lv A a I)<=m:=λI hs ae=>by
   have:=Jk (V:=List.range A.n) (X:=λb=>lv A b I) (Y:=λb=>lv A b c) (λb f z=>hs b (qnD.mp f) z) a (qnD.mpr l) ae j;unfold sz at this;lia
  by_cases hB:∃x∈V,c x=true/\Y x=false
  ·
   obtain⟨x,i,w,O⟩:=hB;have sub:∀b,b<A.n->lv A b (λx=>c x && !Y x)=true->lv A b c=true:=λb f z=>by
    have z:((c (A.tl b) && !Y (A.tl b)) && !(c (A.hd b) && !Y (A.hd b)))=true:=z;have s:=M.2 b f;unfold lv;revert z s;cases c (A.tl b) <;> cases c (A.hd b) <;> cases Y (A.tl b) <;> cases Y (A.hd b) <;> simp
   refine ih (λx=>c x && !Y x) (H _ sub ?_) #[#[x,i,by simp[w,O]],A.hd a,ac,by simp[r.2]] (λb f z=>G b f (sub b f z)) λb h f z=>?_
   ·unfold lv;simp[L.1]
   ·have hw:=p b h f;have ho:=T b h f;have s:=M.2 b f;have z:(c (A.hd b) && !Y (A.hd b))=true:=z;show(c (A.tl b) && !Y (A.tl b))=true;rw[qnK,qn7] at z⊢;refine#[hw z.1,?_];cases e:Y (A.tl b) with
    |false=>rfl
    |true=>
     have:=ho (by unfold lv;rw[e,z.2];rfl);subst this;rw[r.2] at z;cases z.1
  ·by_cases hC:∃x∈V,Y x=true/\c x=false
   ·obtain⟨x,i,w,O⟩:=hC;have sub:∀b,b<A.n->lv A b (λx=>c x || !Y x)=true->lv A b c=true:=λb f z=>by
     have z:((c (A.tl b) || !Y (A.tl b)) && !(c (A.hd b) || !Y (A.hd b)))=true:=z
     have s:=M.2 b f;unfold lv;revert z s;cases c (A.tl b) <;> cases c (A.hd b) <;> cases Y (A.tl b) <;> cases Y (A.hd b) <;> simp
    refine ih (λx=>c x || !Y x) (H _ sub ?_) #[#[A.tl a,a0,by simp[r.1]],x,i,by simp[w,O]] (λb f z=>G b f (sub b f z)) λb h f z=>?_
    ·unfold lv;simp[L.2]
    ·have hw:=p b h f;have ho:=T b h f;have z:(c (A.hd b) || !Y (A.hd b))=true:=z
     show(c (A.tl b) || !Y (A.tl b))=true
     rw[Bool.or_eq_true,qn7] at z⊢
     rcases z with z|z
     ·exact .inl (hw z)
     ·cases e:Y (A.tl b) with
      |false=>exact .inr rfl
      |true=>
       have:=ho (by unfold lv;rw[e,z];rfl);subst this;exact .inl r.1
   ·
    have N:∀x∈V,c x=Y x:=λx i=>by
     cases e1:c x with
     |true=>cases e2:Y x with
      |true=>rfl
      |false=>exact absurd #[x,i,e1,e2] hB
     |false=>cases e2:Y x with
      |false=>rfl
      |true=>exact absurd #[x,i,e2,e1] hC
    obtain⟨b,f,aa,i⟩:=two c u a l;obtain⟨C,E⟩:=D b f;have B:=M.2 b f;have lb:lv A b c=true:=by
     rw[<- N _ C,<- N _ E] at B;unfold lv;revert i B;cases c (A.tl b) <;> cases c (A.hd b) <;> simp
    have U:lv A b Y=true:=by
     unfold lv at lb⊢
     rwa [<- N _ C,<- N _ E]
    exact aa (T b (G b f lb) f U)
end
end LY
end L2
local macro_rules | `(tactic| rfl') => `(tactic| exact ⟨rfl, by decide +kernel, by decide +kernel, rfl, by decide +kernel, by decide +kernel⟩)
local macro_rules | `(tactic| left) => `(tactic| simp -dsimp [L2.aq,L2.stC,-Bool.exists_bool,-List.map_take,-Prod.forall,-Prod.exists])
local macro_rules | `(tactic| symm) => `(tactic| decide +kernel)
local macro_rules | `(tactic| exists $H, $p, $v, $s:ident, $e:ident, $G:ident, $h) => `(tactic| (have $s : L2.Same $H (L2.upd $H $p $v) := L2.au $h; have $e : L2.upd $H $p $v $p = some $v := L2.ak; generalize L2.upd $H $p $v = $G at $s:ident $e:ident ⊢))
local macro_rules | `(tactic| exists $a, $b) => `(tactic| refine $a $b (fun $(Lean.mkIdent `vs) $(Lean.mkIdent `H) $(Lean.mkIdent `Q) $(Lean.mkIdent `E) $(Lean.mkIdent `h) => ?_) (fun $(Lean.mkIdent `cdv) $(Lean.mkIdent `A) $(Lean.mkIdent `outer) $(Lean.mkIdent `s) $(Lean.mkIdent `H) $(Lean.mkIdent `vs) $(Lean.mkIdent `Q) $(Lean.mkIdent `E) $(Lean.mkIdent `hr) $(Lean.mkIdent `h) => ?_))
local macro_rules | `(tactic| ac_rfl) => `(tactic| exact ⟨rfl, rfl, rfl, by decide +kernel, rfl, by decide +kernel, by decide +kernel⟩)
namespace K51
open PySem L2
def top(i:Nat):Stmt:=PySem.Challenge.pw_pointways_k51_whole_fewest_shown.main.body.getD i (.Pass #[0,0,0,0])
abbrev qK:Stmt:=top 1
abbrev sy:Stmt:=top 2
abbrev lq:Stmt:=top 3
abbrev sE:Stmt:=top 4
abbrev Lx:Stmt:=top 5
abbrev qL:Stmt:=inClass (top 12) 0
abbrev qM:Stmt:=inClass (top 13) 0
abbrev Av:Stmt:=top 19
abbrev xP:Stmt:=top 20
abbrev vQ:Stmt:=top 21
abbrev m6:Stmt:=top 22
abbrev zm:Stmt:=top 23
abbrev sG:Stmt:=top 24
abbrev sI:Stmt:=inClass (top 25) 0
abbrev sJ:Stmt:=inClass (top 25) 1
abbrev xQ:Stmt:=inClass (top 25) 2
abbrev xR:Stmt:=inClass (top 25) 3
abbrev jm:Stmt:=top 26
abbrev oH:Stmt:=top 28
abbrev uQ:Stmt:=top 30
abbrev pP:Stmt:=top 31
abbrev xT:Stmt:=top 32
abbrev sO:Stmt:=top 33
abbrev Aw:Stmt:=top 35
abbrev lu:Stmt:=top 36
abbrev jo:Stmt:=top 37
abbrev Et:Stmt:=top 38
abbrev m7:Stmt:=top 39
abbrev dF:Stmt:=top 42
abbrev lA:Stmt:=top 43
abbrev oJ:Stmt:=top 44
abbrev m8:Stmt:=top 45
abbrev Eu:Stmt:=top 46
abbrev qby:Stmt:=top 48
abbrev S7:Stmt:=top 49
abbrev CV:Stmt:=top 50
abbrev Ly:Stmt:=top 51
abbrev qbz:Stmt:=top 52
abbrev Jl:Stmt:=top 53
abbrev Ax:Stmt:=top 54
abbrev pQ:Stmt:=top 55
abbrev S8:Stmt:=top 56
abbrev vR:Stmt:=top 57
abbrev Ew:Stmt:=top 58
abbrev oK:Stmt:=top 59
abbrev jO:Stmt:=top 60
abbrev jB:Stmt:=top 61
abbrev Lz:Stmt:=top 62
abbrev zp:Stmt:=top 63
abbrev LC:Stmt:=top 64
abbrev zq:Stmt:=top 65
def g8:aW ["web", "fixed", "steps", "number", "first", "second"] ["web", "fixed"] (aB qK):=by ac_rfl
def dw:aW ["start", "steps", "ways", "row", "at", "here", "number", "origin", "goal"] ["start", "steps"] (aB sy):=by ac_rfl
def uR:aW ["web", "start", "steps", "ways"] ["web", "start", "steps"] (aB lq):=by ac_rfl
def pR:aW ["web", "steps", "told", "point"] ["web"] (aB sE):=by ac_rfl
def sS:aW ["web", "steps", "told", "number", "first", "second", "lot"] ["web"] (aB Lx):=by ac_rfl
def Ey:aW ["self", "lot"] ["self", "lot"] (aB qL):=by ac_rfl
def Ez:aW ["self", "tie", "lot"] ["self", "tie", "lot"] (aB qM):=by ac_rfl
def EY:aW ["thing"] ["thing"] (aB Av):=by ac_rfl
def PN:aW ["thing"] ["thing"] (aB xP):=by ac_rfl
def S9:aW ["thing"] ["thing"] (aB vQ):=by ac_rfl
def Hi:aW ["thing"] ["thing"] (aB m6):=by ac_rfl
def Xw:aW ["thing", "points"] ["thing", "points"] (aB zm):=by ac_rfl
def PX:aW ["thing", "points"] ["thing", "points"] (aB sG):=by ac_rfl
def P0:aW ["self", "points", "ties"] ["self", "points", "ties"] (aB sI):=by ac_rfl
def Hj:aW ["self"] ["self"] (aB sJ):=by ac_rfl
def P_:aW ["self"] ["self"] (aB xQ):=by ac_rfl
def Qa:aW ["self"] ["self"] (aB xR):=by ac_rfl
def wF:aW ["web", "most"] ["web", "most"] (aB jm):=by ac_rfl
def gF:aW ["web", "parts", "barring", "number", "lot"] ["web"] (aB oH):=by ac_rfl
def Jm:aW ["web", "points", "lot"] ["web", "points"] (aB uQ):=by ac_rfl
def m9:aW ["points", "parts", "point"] ["points"] (aB pP):=by ac_rfl
def Qc:aW ["web"] ["web"] (aB xT):=by ac_rfl
def uT:aW ["web", "lot", "inside", "ties"] ["web", "lot"] (aB sO):=by ac_rfl
def S_:aW ["thing"] ["thing"] (aB Aw):=by ac_rfl
def E_:aW ["web", "thing"] ["web", "thing"] (aB lu):=by ac_rfl
def mR:aW ["web", "thing"] ["web", "thing"] (aB jo):=by ac_rfl
def Xx:aW ["web", "pointing"] ["web", "pointing"] (aB Et):=by ac_rfl
def Hl:aW ["steps", "lot"] ["steps", "lot"] (aB m7):=by ac_rfl
def sU:aW ["web", "pointing", "steps", "shut"] ["web", "pointing"] (aB dF):=by ac_rfl
def Fb:aW ["cuts", "number"] ["cuts", "number"] (aB lA):=by ac_rfl
def mH:aW ["cuts", "most", "number", "rest"] ["cuts", "most"] (aB oJ):=by ac_rfl
def jc:aW ["cuts", "numbers", "crossed", "lot", "others", "rest"] ["cuts", "numbers"] (aB m8):=by ac_rfl
def nO:aW ["web", "pointing", "cuts", "most", "numbers"] ["web", "pointing"] (aB Eu):=by ac_rfl
def qbA:aW ["_law_script", "_law_k", "_law_cell"] ["_law_script", "_law_k"] (aB qby):=by ac_rfl
def VJ:aW ["_law_pot_here", "_law_many", "_law_digit"] ["_law_pot_here", "_law_many"] (aB S7):=by ac_rfl
def oM:aW ["_law_pot_here", "_law_many", "_law_letters", "_law_begin", "_law_found", "_law_k", "_law_size", "_law_more"] ["_law_pot_here", "_law_many"] (aB CV):=by ac_rfl
def Fd:aW ["_law_pot_here", "_law_things", "_law_found", "_law_thing"] ["_law_pot_here", "_law_things"] (aB Ly):=by ac_rfl
def Tc:aW ["_law_pot_here", "_law_names_here", "_law_a", "_law_b"] ["_law_pot_here", "_law_names_here"] (aB qbz):=by ac_rfl
def sV:aW ["_law_pot_here", "_law_points", "_law_most", "_law_names_here", "_law_kind", "_law_ties", "_law_row", "_law_k", "_law_turns"] ["_law_pot_here", "_law_points", "_law_most"] (aB Jl):=by ac_rfl
def dN:aW ["_law_web_here", "_law_pointing", "_law_start", "_law_found", "_law_here", "_law_a", "_law_b", "_law_turn"] ["_law_web_here", "_law_pointing", "_law_start"] (aB Ax):=by ac_rfl
def sW:aW ["_law_web_here", "_law_pointing", "_law_there", "_law_back"] ["_law_web_here", "_law_pointing"] (aB pQ):=by ac_rfl
def sY:aW ["_law_web_here", "_law_pointing", "_law_lot", "_law_found", "_law_k", "_law_a", "_law_b", "_law_start", "_law_goal"] ["_law_web_here", "_law_pointing", "_law_lot"] (aB S8):=by ac_rfl
def zu:aW ["_law_pot_here", "_law_web_here", "_law_order", "_law_sort", "_law_row"] ["_law_pot_here", "_law_web_here"] (aB vR):=by ac_rfl
def Xy:aW ["_law_pot_here", "_law_row"] ["_law_pot_here", "_law_row"] (aB Ew):=by ac_rfl
def Jo:aW ["_law_web_here", "_law_lot"] ["_law_web_here", "_law_lot"] (aB oK):=by ac_rfl
def wK:aW ["_law_web_here", "_law_lot"] ["_law_web_here", "_law_lot"] (aB jO):=by ac_rfl
def LK:aW ["_law_web_here", "_law_row", "_law_numbers"] ["_law_web_here", "_law_row", "_law_numbers"] (aB jB):=by ac_rfl
def zx:aW ["_law_web_here", "_law_row", "_law_told", "_law_crossed", "_law_lot"] ["_law_web_here", "_law_row", "_law_told"] (aB Lz):=by ac_rfl
def Jp:aW ["_law_web_here", "_law_e", "_law_cluster"] ["_law_web_here", "_law_e"] (aB zp):=by ac_rfl
def uU:aW ["_law_pot_here", "_law_made", "_law_web_here", "_law_row", "_law_told", "_law_good", "_law_lot", "_law_e"] ["_law_pot_here", "_law_made", "_law_web_here", "_law_row"] (aB LC):=by ac_rfl
def xU:aW ["_law_script", "_law_k", "_law_pot_here", "_law_web_here", "_law_row", "_law_made", "_law_turn"] ["_law_script"] (aB zq):=by ac_rfl
set_option genInjectivity false in
structure Adr where
 d7:Addr
 jP:FuncData
 fC:Addr
 lB:FuncData
 d8:Addr
 jQ:FuncData
 g_:Addr
 pU:FuncData
 uV:Addr
 CW:FuncData
 dz:Addr
 jR:FuncData
 dB:Addr
 jT:FuncData
 iI:Addr
 oN:FuncData
 h_:Addr
 pW:FuncData
 jC:Addr
 sZ:FuncData
 fD:Addr
 lC:FuncData
 lR:Addr
 vU:FuncData
 ig:Addr
 pX:FuncData
 gw:Addr
 pY:FuncData
 dX:Addr
 lE:FuncData
 gA:Addr
 pZ:FuncData
 gB:Addr
 qe:FuncData
 cg:Addr
 fW:FuncData
 dG:Addr
 jh:FuncData
 lU:Addr
 vV:FuncData
 f9:Addr
 m_:FuncData
 iu:Addr
 qg:FuncData
 iw:Addr
 qj:FuncData
 jD:Addr
 tu:FuncData
 d9:Addr
 jU:FuncData
 bR:Addr
 dU:FuncData
 lV:Addr
 vW:FuncData
 fG:Addr
 lF:FuncData
 fH:Addr
 fJ:FuncData
 eE:Addr
 jV:FuncData
 cF:Addr
 fj:FuncData
 dD:Addr
 gG:FuncData
 lX:Addr
 vX:FuncData
 Bu:Addr
 LQ:FuncData
 uW:Addr
 CZ:FuncData
 ql:Addr
 zy:FuncData
 qm:Addr
 zA:FuncData
 Bv:Addr
 LR:FuncData
 Bw:Addr
 L_:FuncData
 iJ:Addr
 oO:FuncData
 gb:Addr
 ni:FuncData
 uX:Addr
 C_:FuncData
 qp:Addr
 zB:FuncData
 lZ:Addr
 vY:FuncData
 jW:Addr
 rE:FuncData
 dY:Addr
 jd:FuncData
 gj:Addr
 nj:FuncData
 qt:Addr
 zE:FuncData
 mj:Addr
 vZ:FuncData
 qu:Addr
 zF:FuncData
 Bx:Addr
 Ma:FuncData
 kY:Value
 eV:Value
 fM:Value
 iy:Value
 cU:Value
 b_:Addr
 aM:Addr
 cu:Addr
 eO:Addr
 bG:Addr
 bH:Addr
def qdA(a:Adr):List Addr:=[a.cu,a.eO,a.bG,a.bH]
structure Txt(K:YZ)(mg:Y4)(a:Adr):Prop where
 je:cW K "steps_along" "steps_along" qK a.d7 a.jP
 lG:Binds K a.jP ["web", "fixed"] []
 lH:mg "steps_along" = some (.ref a.d7)
 tD:cW K "ways_along" "ways_along" sy a.fC a.lB
 zG:Binds K a.lB ["start", "steps"] []
 zH:mg "ways_along" = some (.ref a.fC)
 lJ:cW K "found_along" "found_along" lq a.d8 a.jQ
 qN:Binds K a.jQ ["web", "start", "steps"] []
 qO:mg "found_along" = some (.ref a.d8)
 xV:cW K "clusters" "clusters" sE a.g_ a.pU
 Fe:Binds K a.pU ["web"] []
 Fg:mg "clusters" = some (.ref a.g_)
 Td:cW K "bars" "bars" Lx a.uV a.CW
 qbB:Binds K a.CW ["web"] []
 qbC:mg "bars" = some (.ref a.uV)
 wL:cW K "__init__" "Parted.__init__" qL a.dz a.jR
 wM:Binds K a.jR ["self", "lot"] []
 wN:cW K "__init__" "Barred.__init__" qM a.dB a.jT
 wO:Binds K a.jT ["self", "tie", "lot"] []
 jE:cW K "is_list" "is_list" Av a.iI a.oN
 nQ:Binds K a.oN ["thing"] []
 nR:mg "is_list" = some (.ref a.iI)
 xW:cW K "is_whole" "is_whole" xP a.h_ a.pW
 Fi:Binds K a.pW ["thing"] []
 Fj:mg "is_whole" = some (.ref a.h_)
 rF:cW K "is_name" "is_name" vQ a.jC a.sZ
 wg:Binds K a.sZ ["thing"] []
 wj:mg "is_name" = some (.ref a.jC)
 tE:cW K "are_points" "are_points" m6 a.fD a.lC
 zJ:Binds K a.lC ["thing"] []
 zK:mg "are_points" = some (.ref a.fD)
 Fl:cW K "is_tie" "is_tie" zm a.lR a.vU
 Qd:Binds K a.vU ["thing", "points"] []
 Qe:mg "is_tie" = some (.ref a.lR)
 xX:cW K "are_ties" "are_ties" sG a.ig a.pX
 Fo:Binds K a.pX ["thing", "points"] []
 Fp:mg "are_ties" = some (.ref a.ig)
 Fq:cW K "__init__" "Web.__init__" sI a.gw a.pY
 Ft:Binds K a.pY ["self", "points", "ties"] []
 zL:cW K "points" "Web.points" sJ a.dX a.lE
 iK:Binds K a.lE ["self"] []
 Fv:cW K "ties" "Web.ties" xQ a.gA a.pZ
 tG:Binds K a.pZ ["self"] []
 Fw:cW K "many" "Web.many" xR a.gB a.qe
 xY:Binds K a.qe ["self"] []
 jq:cW K "sure_of_few_ties" "sure_of_few_ties" jm a.cg a.fW
 oR:Binds K a.fW ["web", "most"] []
 oU:mg "sure_of_few_ties" = some (.ref a.cg)
 oV:cW K "sure_of_ears" "sure_of_ears" oH a.dG a.jh
 uY:Binds K a.jh ["web"] []
 uZ:mg "sure_of_ears" = some (.ref a.dG)
 Fx:cW K "lot_of" "lot_of" uQ a.lU a.vV
 Qf:Binds K a.vV ["web", "points"] []
 Qg:mg "lot_of" = some (.ref a.lU)
 u5:cW K "all_parts" "all_parts" pP a.f9 a.m_
 BJ:Binds K a.m_ ["points"] []
 BK:mg "all_parts" = some (.ref a.f9)
 xZ:cW K "all_lots" "all_lots" xT a.iu a.qg
 Fy:Binds K a.qg ["web"] []
 Fz:mg "all_lots" = some (.ref a.iu)
 yc:cW K "crossing" "crossing" sO a.iw a.qj
 FJ:Binds K a.qj ["web", "lot"] []
 FN:mg "crossing" = some (.ref a.iw)
 Ay:cW K "is_lead" "is_lead" Aw a.jD a.tu
 Jq:Binds K a.tu ["thing"] []
 Jr:mg "is_lead" = some (.ref a.jD)
 lK:cW K "is_pointing" "is_pointing" lu a.d9 a.jU
 qP:Binds K a.jU ["web", "thing"] []
 qQ:mg "is_pointing" = some (.ref a.d9)
 eY:cW K "sure_of_pointing" "sure_of_pointing" jo a.bR a.dU
 jr:Binds K a.dU ["web", "thing"] []
 jt:mg "sure_of_pointing" = some (.ref a.bR)
 FP:cW K "arrows" "arrows" Et a.lV a.vW
 Qh:Binds K a.vW ["web", "pointing"] []
 Qi:mg "arrows" = some (.ref a.lV)
 tH:cW K "steps_into" "steps_into" m7 a.fG a.lF
 zM:Binds K a.lF ["steps", "lot"] []
 zN:mg "steps_into" = some (.ref a.fG)
 u6:cW K "shut_cuts" "shut_cuts" dF a.fH a.fJ
 BL:Binds K a.fJ ["web", "pointing"] []
 BW:mg "shut_cuts" = some (.ref a.fH)
 qR:cW K "without_tie" "without_tie" lA a.eE a.jV
 wQ:Binds K a.jV ["cuts", "number"] []
 wR:mg "without_tie" = some (.ref a.eE)
 iz:cW K "ties_in_each" "ties_in_each" oJ a.cF a.fj
 jX:Binds K a.fj ["cuts", "most"] []
 jY:mg "ties_in_each" = some (.ref a.cF)
 nu:cW K "lots_apart" "lots_apart" m8 a.dD a.gG
 tK:Binds K a.gG ["cuts", "numbers"] []
 tM:mg "lots_apart" = some (.ref a.dD)
 FQ:cW K "fewest" "fewest" Eu a.lX a.vX
 Qj:Binds K a.vX ["web", "pointing"] []
 Qk:mg "fewest" = some (.ref a.lX)
 qbD:cW K "_law_pot" "_law_pot" qby a.Bu a.LQ
 qez:Binds K a.LQ ["_law_script", "_law_k"] []
 qeA:mg "_law_pot" = some (.ref a.Bu)
 gM:cW K "_law_take" "_law_take" S7 a.uW a.CZ
 iB:Binds K a.CZ ["_law_pot_here", "_law_many"] []
 iC:mg "_law_take" = some (.ref a.uW)
 Mf:cW K "_law_names" "_law_names" CV a.ql a.zy
 VL:Binds K a.zy ["_law_pot_here", "_law_many"] []
 VN:mg "_law_names" = some (.ref a.ql)
 zO:cW K "_law_mixed" "_law_mixed" Ly a.qm a.zA
 Dd:Binds K a.zA ["_law_pot_here", "_law_things"] []
 Df:mg "_law_mixed" = some (.ref a.qm)
 qbE:cW K "_law_tie" "_law_tie" qbz a.Bv a.LR
 qeB:Binds K a.LR ["_law_pot_here", "_law_names_here"] []
 qeC:mg "_law_tie" = some (.ref a.Bv)
 qbF:cW K "_law_web" "_law_web" Jl a.Bw a.L_
 qeD:Binds K a.L_ ["_law_pot_here", "_law_points", "_law_most"] []
 qeE:mg "_law_web" = some (.ref a.Bw)
 nU:cW K "_law_reached" "_law_reached" Ax a.iJ a.oO
 wk:Binds K a.oO ["_law_web_here", "_law_pointing", "_law_start"] []
 wu:mg "_law_reached" = some (.ref a.iJ)
 u9:cW K "_law_is_strong" "_law_is_strong" pQ a.gb a.ni
 BX:Binds K a.ni ["_law_web_here", "_law_pointing"] []
 BZ:mg "_law_is_strong" = some (.ref a.gb)
 Tf:cW K "_law_into" "_law_into" S8 a.uX a.C_
 qbG:Binds K a.C_ ["_law_web_here", "_law_pointing", "_law_lot"] []
 qbH:mg "_law_into" = some (.ref a.uX)
 Mg:cW K "_law_drawn" "_law_drawn" vR a.qp a.zB
 VP:Binds K a.zB ["_law_pot_here", "_law_web_here"] []
 VR:mg "_law_drawn" = some (.ref a.qp)
 FT:cW K "_law_handed" "_law_handed" Ew a.lZ a.vY
 Ql:Binds K a.vY ["_law_pot_here", "_law_row"] []
 Qm:mg "_law_handed" = some (.ref a.lZ)
 u_:cW K "_law_is_lot" "_law_is_lot" oK a.jW a.rE
 FW:Binds K a.rE ["_law_web_here", "_law_lot"] []
 FZ:mg "_law_is_lot" = some (.ref a.jW)
 jZ:cW K "_law_crossing" "_law_crossing" jO a.dY a.jd
 tO:Binds K a.jd ["_law_web_here", "_law_lot"] []
 tQ:mg "_law_crossing" = some (.ref a.dY)
 vd:cW K "_law_is_turned" "_law_is_turned" jB a.gj a.nj
 B_:Binds K a.nj ["_law_web_here", "_law_row", "_law_numbers"] []
 Ca:mg "_law_is_turned" = some (.ref a.gj)
 Mh:cW K "_law_shown" "_law_shown" Lz a.qt a.zE
 V0:Binds K a.zE ["_law_web_here", "_law_row", "_law_told"] []
 V1:mg "_law_shown" = some (.ref a.qt)
 Ga:cW K "_law_barred" "_law_barred" zp a.mj a.vZ
 Qn:Binds K a.vZ ["_law_web_here", "_law_e"] []
 Qo:mg "_law_barred" = some (.ref a.mj)
 Mi:cW K "_law_asked" "_law_asked" LC a.qu a.zF
 V2:Binds K a.zF ["_law_pot_here", "_law_made", "_law_web_here", "_law_row"] []
 V3:mg "_law_asked" = some (.ref a.qu)
 qeF:cW K "law" "law" zq a.Bx a.Ma
 qik:Binds K a.Ma ["_law_script"] []
 qil:mg "law" = some (.ref a.Bx)
 Js:mg "LETTERS" = some a.kY
 Jt:RelV (.str "abcdefghijklmnopqrstuvwxyz") a.kY
 vf:mg "MOST_LETTERS" = some a.eV
 vg:RelV (.int 4) a.eV
 wU:mg "MOST_POINTS" = some a.fM
 wV:RelV (.int 9) a.fM
 Cd:mg "MOST_TIES" = some a.iy
 Ce:RelV (.int 20) a.iy
 qw:mg "MOST_TIES_TAKEN" = some a.cU
 qz:RelV (.int 12) a.cU
 qeG:mg "Web" = some (.ref a.b_)
 mU:Cls K a.b_
 Mj:mC K a.b_ "names"
 Dg:mC K a.b_ "pairs"
 qeH:Mk K a.b_ a.gw
 iM:Meth K a.b_ "points" a.dX
 tU:Meth K a.b_ "ties" a.gA
 yd:Meth K a.b_ "many" a.gB
 nA:mg "PointError" = some (.ref a.aM)
 zP:mg "NoPointing" = some (.ref a.cu)
 Ju:mg "TooMuch" = some (.ref a.eO)
 Gb:mg "Parted" = some (.ref a.bG)
 Gd:mg "Barred" = some (.ref a.bH)
 fK:Ak K a.aM
 iQ:Ak K a.cu
 nW:Ak K a.eO
 jf:XC K a.cu a.aM
 oW:XC K a.eO a.aM
 fu:XC K a.bG a.aM
 fB:XC K a.bH a.aM
 ib:W.isClsIn K a.aM=true
 tb:W.typeIn K (.ref a.aM)=some (.type "type")
 ini:qh_ K a.aM
 Jv:W.specialIn K (.builtin "object.__class__") "__get__" = some (some (.builtin "getset_descriptor.__get__"))
 Jw:W.takesIn K (.builtin "object.__class__")=some true
 nd:(a.aM::qdA a).Nodup
 j4:mg "ValueError" = none
 wz:XMk K a.bG a.aM a.dz
 Jx:xO K a.bG a.aM
 eF:W.findIn K (.ref a.bG) "lot" = some none
 wA:XMk K a.bH a.aM a.dB
 Az:xO K a.bH a.aM
 eG:W.findIn K (.ref a.bH) "tie" = some none
 cP:W.findIn K (.ref a.bH) "lot" = some none
 nm:Nm mg
 Rf:Nm2 mg
 nm3:Nm3 mg
end K51
namespace K51
open PySem L2
variable {P:qd}{w:lW}{K:YZ}{mg:Y4}{base:oY}{a:Adr}
def gQ(H:Hp)(p:J9):Prop:=∃x y:Int,H p=some (.lst [.int x,.int y])/\0<=x/\0<=y/\y<4294967296
def qgg(K:YZ):Sp:=λe H Q _=>∃(l:J9)(f:qx)(k:Nat),e=[.ref l,.int k]/\aV K H l (f.map V.int)/\k<100/\∀p c,H p=none->gQ c p->But p H c->Q (.ref p) c
def qdB:Sp:=λe H Q _=>∃(p:J9)(m:Int),e=[.ref p,.int m]/\gQ H p/\0<m/\m<1000000/\∀(d:Int) c,0<=d->d<m->gQ c p->But p H c->Q (.int d) c
def qgh(T:Txt K mg a):bT P w K mg base gR 1 a.Bu a.LQ ["_law_script", "_law_k"] (qgg K):=by
 exists T.qbD.oE,qbA
 ·obtain⟨l,j,k,rfl,_⟩:=h;rfl
 ·obtain⟨l,j,k,rfl,m,r,q⟩:=h;refine#[_,(aA (bF (i:=2) qbA.nd rfl (Or.inl rfl) (Za (aQ uM (aJ 1) (aH (bN (K:=K) rfl) rfl T.nm.len qnd (aj (aJ 0) ao)) (bJ _)) (bC (bD (K:=K) rfl) (aJ 0) (aJ 1) (λ_ _=>rfl)) aG))
   (aC (bh (cN (aj (aH (Eh rfl) rfl T.nm.max boot_max (aj aG (aj (cX yV (aH I_ rfl T.nm.abs boot_abs (aj (aJ 2) ao)) (cX qdb aG aG)) ao))) (aj (cX jM (cX jM (cX pK (aH I_ rfl T.nm.abs boot_abs (aj (aJ 2) ao)) aG) (cX CN aG (aJ 1))) aG) ao)))))),?_]
  have f:∀(x y:Int),0<=x->0<=y->y<4294967296->∀p:Addr,H p=none->Q (.ref p) (upd H p (.lst [.int x,.int y])):=λx y B z v p n=>
   q p _ n #[x,y,ak,B,z,v] λb o u e=>by rw[aF u];exact e
  left;refine#[_,.inl m,cZ.of (λh=>?_) (λh=>?_)]
  ·have c:k<j.length:=by simpa using h
   left;refine#[_,.inl m,.int (j[k]'c),aO (by simp[c]),?_];left;exact f _ _ (zpa _) (zpb _ _) (zpc _ r)
  ·left;exact f _ _ (by first|lia|(split <;> omega)) ⋯ ⋯
def fX(T:Txt K mg a):bT P w K mg base gR 1 a.uW a.CZ ["_law_pot_here", "_law_many"] qdB:=by
 exists T.gM.oE,VJ
 ·obtain⟨p,m,rfl,_⟩:=h;rfl
 ·obtain⟨p,m,rfl,⟨x,y,c,z,D,r⟩,f,G,q⟩:=h;refine#[_,(aA (bY (aQ uN (bC (bD (K:=K) rfl) (aJ 0) aG (λ_ _=>rfl)) aG (bJ _)) (aA (JT (aH K_ rfl T.nm.divmod boot_divmod (aj (bC (bD (K:=K) rfl) (aJ 0) aG (λ_ _=>rfl)) (aj (aJ 1) ao))) (PG.eqv (c7 (K:=K) (n:=2) rfl rfl (fL.eqv (aY (Zg (aJ 0) aG Jb) (fL.eqv (aY (aL (i:=2) VJ.nd rfl (Or.inl rfl)) (fL.mono cH dJ)) (aZ _ _))) (aZ _ _))) (dj _ _ _)))
   (aC (bh (aJ 2)))) bA)
   (aA (JT (cX pK (cX jM (cX CN (bC (bD (K:=K) rfl) (aJ 0) aG (λ_ _=>rfl)) aG) aG) aG) (Zg (aJ 0) aG Jb))
   (aC (bh (cX pK (cX qaW (cX pK (cX CN (bC (bD (K:=K) rfl) (aJ 0) aG (λ_ _=>rfl)) (bC (bD (K:=K) rfl) (aJ 0) aG (λ_ _=>rfl))) aG) aG) (aJ 1)))))),?_]
  have u:aV K H p [.int x,.int y]:=aV.of c;left;refine#[_,.inl u,_,aO (j:=0) rfl,?_];left;refine cZ.of (λh=>?_) (λh=>?_)
  ·left;refine#[_,.inl u,_,aO (j:=0) rfl,?_];left;refine#[#[f,⋯],λt B=>?_];have l:p≠t:=aU c B;refine#[_,cO.of ak,rfl,_,(by rw[aF l];exact c),0,rfl,?_];refine q _ _ (Int.emod_nonneg _ ⋯) (Int.emod_lt_of_pos _ f) #[_,_,ak,Int.ediv_nonneg z ⋯,D,r] λb o v e=>?_;rw[aF v,aF (aU e B)];exact e
  ·have C:0<=(y * 48271+12345) % 2147483647:=Int.emod_nonneg _ (by decide);have I:(y * 48271+12345) % 2147483647<2147483647:=Int.emod_lt_of_pos _ (by decide);left;refine#[_,.inl u,_,aO (j:=1) rfl,?_];left;refine#[_,c,1,rfl,_,.inl (aV.of ak),_,aO (j:=1) rfl,_,.inl (aV.of ak),_,aO (j:=1) rfl,?_];left;refine#[#[⋯,⋯],f,?_];refine q _ _ (Int.emod_nonneg _ ∅) (Int.emod_lt_of_pos _ f) #[_,_,ak,z,C,⋯] λb o v e=>?_;rw[aF v];exact e
def Tg:Sp:=λf H Q _=>∃p e,f=[.ref p]/\Sq H p e/\∀c,Same H c->Q (.bl true) c
def tV(T:Txt K mg a):bT P w K mg base gR 1 a.iI a.oN ["thing"] Tg:=by
 exists T.jE.oE,EY
 ·obtain⟨p,e,rfl,_⟩:=h;rfl
 ·obtain⟨p,e,rfl,f,q⟩:=h;refine#[_,(aC (bh (aH (qaY (K:=K) rfl) rfl T.nm.isinstance boot_isinstance (aj (aJ 0) (aj (ji (aj (fV (v:=.ty "list") rfl T.nm.list boot_list rfl) (aj (fV (v:=.ty "tuple") rfl T.nm.tuple boot_tuple rfl) ao))) ao))))),?_];left;refine λt c=>#[_,_,ak,?_]
  rcases(f.same (au c)).ty (K:=K) with ty|ty
  ·exact#[_,ty,true,by simp[W.kitAny,W.kitOne],q _ (au c)]
  ·exact#[_,ty,true,by simp[W.kitAny,W.kitOne];rfl,q _ (au c)]
def Tj:Sp:=λe H Q _=>∃x,e=[.str x]/\x.length<=sizeLine/\∀c,Same H c->Q (.bl (nameB x)) c
def yg(T:Txt K mg a):bT P w K mg base gR 1 a.jC a.sZ ["thing"] Tj:=by
 exists T.rF.oE,S9
 ·obtain⟨x,rfl,_⟩:=h;rfl
 ·obtain⟨x,rfl,I,q⟩:=h;refine#[_,(aA (bY (PW.pt (mO (cM (bW (aH (mG (K:=K) rfl) rfl T.nm.isinstance boot_isinstance (aj (aJ 0) (aj (fV (v:=.ty "str") rfl T.nm.str boot_str rfl) ao))))) (jJ (cM (Iz Ag Ag aG (aH qf3 rfl T.nm.len qnd (aj (aJ 0) ao)) (rK rfl T.vf T.vg)))))) (aC (bh j7)) bA)
   (aC (bh (aH (jA rfl) rfl T.nm.all iG (aj (cC rfl rfl (show aR (aB vQ) _ ["thing"] ["sign"] [] ["sign"] from by rfl') rfl (PI.eqv (qfo (aJ 0)) (qaQ _)) (λC s H G z=>(aL (i:=0) (show(["sign"]:QAH).Nodup by symm) rfl (Or.inl rfl))) (λC s H G z=>cR) (λC s H G z=>(cI (qlC (K:=K) rfl) (aJ 0) (rK rfl T.Js T.Jt) rfl))) ao))))),?_]
  left;refine#[_,.str x,_,uF K,cZ.neg rfl ?_];left;refine#[I,cZ.of (λu=>?_) (λu=>?_)]
  ·have m:1<=x.length:=by simp at u;lia
   left;refine cZ.of (λr=>?_) (λr=>?_)
   ·have j:¬x.length<=4:=by simp at r;lia
    have e:nameB x=false:=by
     unfold nameB;rw[qnM j];simp
    rw[e] at q;left;exact q H (Same.refl H)
   ·have j:x.length<=4:=by simp at r;lia
    left;refine λD B=>cmS (λi f n=>(∃o,f=[o])/\Same H n/\n D=some (.lst ((x.cps.toList.take i).map λc=>.bl (isL c)))) #[#[none,rfl],au B,by simpa using ak] ?_ ?_
    ·rintro i c f n L ⟨⟨o,rfl⟩,p,y⟩;have M:4<sizeLine:=by decide
     have J:x.cps.size=x.length:=rfl;left;refine#[_,y,by simp;lia,aX p B,?_];rw[ak,take_one (l:=x.cps.toList) (x:=c) (by simpa using L),qn3];rfl
    ·rintro f n ⟨⟨o,rfl⟩,p,y⟩;left;refine#[_,y,_,kj isL _,?_];rw[RN];have e:nameB x=(x.cps.toList.take x.cps.size).all isL:=by
      unfold nameB;rw[qnE m,qnE j,show x.cps.toList.take x.cps.size=x.cps.toList from qon (by simp)];rfl
     rw[<- e];exact q n p
  ·have m:¬1<=x.length:=by simp at u;lia
   have e:nameB x=false:=by
    unfold nameB;rw[qnM m];simp
   rw[e] at q;left;exact q H (Same.refl H)
def qbI{xs:QAH}{i:Nat}{x:V}(h:(xs.map V.str)[i]? = some x):∃z,z∈xs/\x = .str z:=by
 rw[qnr] at h;cases e:xs[i]? with
 |none=>rw[e] at h;cases h
 |some z=>
  rw[e] at h;exact#[z,qm6 e,(qnB h).symm]
def yh{x:Str}(h:nameB x=true):x.length<=sizeLine:=by
 unfold nameB at h;simp at h;have c:4<=sizeLine:=by decide
 lia
theorem jF:∀n,pH (List.replicate n (.bl true)) (List.replicate n true)
 |0=>rfl
 |n+1=>#[true,_,rfl,rfl,jF n]
theorem Ge:∀xs:QAH,keysOf (xs.map V.str)=xs.map Sum.inr
 |[]=>rfl
 |x::xs=>by
  show Sum.inr x::keysOf (xs.map V.str)=_;rw[Ge xs];rfl
def qgi{xs:QAH}(h:xs.Nodup):(G3 (λi=>(keysOf (xs.map V.str))[i]?.getD (Sum.inl 0)) (xs.map V.str).length).length=xs.length:=by
 rw[Ge,qm7];refine(RL _ xs.length λi j f c e=>?_).1;simp[f,c] at e;exact(List.getElem_inj h).mp e
structure Qp(xs:QAH):Prop where
 len:1<=xs.length/\xs.length<=9
 nm:∀x∈xs,nameB x=true
 nd:xs.Nodup
def Hq:Sp:=λf H Q _=>∃p c,f=[.ref p]/\Sq H p (c.map V.str)/\Qp c/\∀e,Same H e->Q (.bl true) e
def Hr(T:Txt K mg a):bT P w K mg base gR 2 a.fD a.lC ["thing"] Hq:=by
 exists T.tE.oE,Hi
 ·obtain⟨p,l,rfl,_⟩:=h;rfl
 ·obtain⟨p,l,rfl,u,r,q⟩:=h;refine#[_,(aA (bY (PW.pt (mO (cM (bW (PE.eqv (aN (tV T) hr.d rfl T.nR T.jE.kp T.nQ .nil bB (aj (aJ 0) ao)) (aK _ _ _)))) (jJ (cM (Iz Ag Ag aG (aH (bN (K:=K) rfl) rfl T.nm.len qnd (aj (aJ 0) ao)) (rK rfl T.wU T.wV)))))) (aC (bh j7)) bA)
   (aC (bh (k_ (aH (jA rfl) rfl T.nm.all iG (aj (cC rfl rfl (show aR (aB m6) _ ["thing"] ["one"] [] ["one"] from by rfl') rfl (PI.eqv (vK (K:=K) rfl (aJ 0)) (rD _ _)) (λC s H N B=>(aL (i:=0) (show(["one"]:QAH).Nodup by symm) rfl (Or.inl rfl))) (λC s H N B=>cR) (λC s H N B=>(PE.eqv (aN (yg T) hr.d rfl T.wj T.rF.kp T.wg .nil bB (aj (aJ 0) ao)) (aK _ _ _)))) ao)) (qH (cI gY (aH Il rfl T.nm.len qnd (aj (dI (Ik rfl) rfl T.nm.set Ii (aj (aJ 0) ao)) ao)) (aH (bN (K:=K) rfl) rfl T.nm.len qnd (aj (aJ 0) ao)) (bJ _))))))),?_]
  have hl:=r.len;have Y:60<sizeLine:=by decide
  left;refine#[p,_,rfl,u,λO n=>?_];have j:=u.same n;left;refine#[_,j.q,cZ.pos (by simp;lia) ?_];left;refine cZ.neg (by simp;lia) ?_;obtain⟨b,L⟩:=u.b;left;refine#[b,#[_,L K O n],λD M=>cmQ (l.map V.str) (λi c e=>(∃o,c=[o])/\Same O e/\e D=some (.lst (List.replicate i (.bl true)))) #[#[none,rfl],au M,ak] (λi c e _ h=>L K e (n.trans h.2.1)) ?_ ?_]
  ·rintro i x c e J ⟨⟨o,rfl⟩,m,v⟩;obtain⟨z,G,rfl⟩:=qbI J;have U:i<l.length:=by simpa using (qm2.mp J).1
   left;refine#[z,rfl,yh (r.nm z G),λH2 y=>?_];left;refine#[_,y _ _ v,by simp;lia,aX (m.trans y) M,?_];rw[ak,r.nm z G,<- qoJ]
  ·rintro c e ⟨⟨o,rfl⟩,m,v⟩;have f:=j.same m;left;refine#[_,v,_,jF _,?_];rw[show(List.replicate (l.map V.str).length true).all id=true by simp];left;refine#[_,f.q,by simp[isKey],by simp;unfold scanBound;lia,λt I=>#[_,ak,_,(f.same (au I)).q,?_]];rw[qnE (by rw[qgi r.nd];simp)];exact q _ (n.trans (m.trans (au I)))
def qdC{x:Str}{xs:QAH}(h:x∈xs):inV (.str x) (xs.map V.str)=true:=by
 unfold inV;rw[qoQ];exact#[.str x,qnA.mpr #[x,h,rfl],by simp[Wz]]
def qbJ(xs:QAH):(xs.map V.str).all jx=true:=by
 rw[qnk];intro v c;obtain⟨x,_,rfl⟩:=qnA.mp c;rfl
def Xz:Sp:=λf H Q _=>∃t p x y c,f=[.ref t,.ref p]/\Sq H t [.str x,.str y]/\Sq H p (c.map V.str)/\Qp c/\x∈c/\y∈c/\x≠y/\∀e,Same H e->Q (.bl true) e
def XD(T:Txt K mg a):bT P w K mg base gR 2 a.lR a.vU ["thing", "points"] Xz:=by
 exists T.Fl.oE,Xw
 ·obtain⟨t,p,x,y,r,rfl,_⟩:=h;rfl
 ·obtain⟨t,p,x,y,r,rfl,n,hp,N,I,G,J,q⟩:=h;refine#[_,(aA (bY (PW.pt (mO (cM (bW (PE.eqv (aN (tV T) hr.d rfl T.nR T.jE.kp T.nQ .nil bB (aj (aJ 0) ao)) (aK _ _ _)))) (jJ (aQ jN (aH (bN (K:=K) rfl) rfl T.nm.len qnd (aj (aJ 0) ao)) aG (bJ _))))) (aC (bh j7)) bA)
   (aA (bY (cM (bW (aH (jA rfl) rfl T.nm.all iG (aj (cC rfl rfl (show aR (aB zm) _ ["thing", "points"] ["end"] [1] ["end", "points"] from by rfl') rfl (PI.eqv (vK (K:=K) rfl (aJ 0)) (rD _ _)) (λC s H Y M=>(aL (i:=0) (show(["end", "points"]:QAH).Nodup by symm) rfl (Or.inl rfl))) (λC s H Y M=>cR) (λC s H Y M=>(k_ (PE.eqv (aN (yg T) hr.d rfl T.wj T.rF.kp T.wg .nil bB (aj (aJ 0) ao)) (aK _ _ _)) (qH (cI (oA (K:=K) rfl) (aJ 0) (aJ 1) rfl))))) ao)))) (aC (bh j7)) bA)
   (aC (bh (cI jN (bC (bD (K:=K) rfl) (aJ 0) aG (λ_ _=>rfl)) (bC (bD (K:=K) rfl) (aJ 0) aG (λ_ _=>rfl)) (bJ _)))))),?_]
  have aa:60<sizeLine:=by decide
  left;refine#[t,_,rfl,n,λH1 e=>?_];left;refine#[_,(n.same e).q,false,rfl,cZ.neg rfl ?_];obtain⟨b,O⟩:=n.b;left;refine#[b,#[_,O K H1 e],λD U=>cmQ [.str x,.str y] (λi c l=>(∃o,c=[o,some (.ref p)])/\Same H1 l/\l D=some (.lst (List.replicate i (.bl true)))) #[#[none,rfl],au U,ak] (λi c l _ h=>O K l (e.trans h.2.1)) ?_ ?_]
  ·rintro i v c l f ⟨⟨o,rfl⟩,m,L⟩;obtain⟨z,B,rfl⟩:∃z,z∈r/\v = .str z:=by
    match i,f with
    |0,f=>exact#[x,I,(qnB f).symm]
    |1,f=>exact#[y,G,(qnB f).symm]
   have a0:i<2:=(qm2.mp f).1;left;refine#[z,rfl,yh (N.nm z B),λH2 u=>?_];rw[N.nm z B];left;refine#[_,(hp.same (e.trans (m.trans u))).q,rfl,qnk.mp (qbJ r),_,u _ _ L,by simp;lia,aX (m.trans u) U,?_];rw[ak,qdC B,<- qoJ]
  ·rintro c l ⟨⟨o,rfl⟩,m,L⟩;have Cu:=n.same (e.trans m);left;refine#[_,L,_,jF _,?_];rw[show(List.replicate [V.str x,V.str y].length true).all id=true by simp];left;refine#[_,Cu.q,_,aO (j:=0) rfl,_,Cu.q,_,aO (j:=1) rfl,?_];left;refine#[true,by simp[J],?_];exact q _ (e.trans m)
def Gf(H:Hp)(v:V)(e:Str×Str):Prop:=∃t,v = .ref t/\Sq H t [.str e.1,.str e.2]
theorem Gf.same{H c:Hp}{v:V}{e:Str×Str}(h:Gf H v e)(s:Same H c):Gf c v e:=by
 obtain⟨t,rfl,h⟩:=h;exact#[t,rfl,h.same s]
def qC(H:Hp)(vs:QA0)(ps:QAD):Prop:=vs.length=ps.length/\∀(i:Nat) v e,vs[i]? = some v->ps[i]? = some e->Gf H v e
theorem qC.same{H c:Hp}{vs:QA0}{ps:QAD}(h:qC H vs ps)(s:Same H c):qC c vs ps:=#[h.1,λi v e j f=>(h.2 i v e j f).same s]
def qC.at{H:Hp}{vs:QA0}{ps:QAD}(h:qC H vs ps){i:Nat}{v:V}(c:vs[i]? = some v):∃e,ps[i]? = some e/\Gf H v e:=by
 have f:i<ps.length:=by rw[<- h.1];exact(qm2.mp c).1
 exact#[ps[i],by simp[f],h.2 i v _ c (by simp[f])]
structure tW(xs:QAH)(ps:QAD):Prop where
 len:ps.length<=20
 ok:∀e∈ps,e.1∈xs/\e.2∈xs/\e.1≠e.2
def Qq:Sp:=λi H Q _=>∃t p e c f,i=[.ref t,.ref p]/\Sq H t e/\qC H e f/\Sq H p (c.map V.str)/\Qp c/\tW c f/\∀h,Same H h->Q (.bl true) h
def Qs(T:Txt K mg a):bT P w K mg base gR 3 a.ig a.pX ["thing", "points"] Qq:=by
 exists T.xX.oE,PX
 ·obtain⟨t,p,n,y,Y,rfl,_⟩:=h;rfl
 ·obtain⟨t,p,n,y,Y,rfl,u,m,hp,hx,l,q⟩:=h;refine#[_,(aA (bY (PW.pt (mO (cM (bW (PE.eqv (aN (tV T) hr.d rfl T.nR T.jE.kp T.nQ .nil bB (aj (aJ 0) ao)) (aK _ _ _)))) (jJ (aQ uN (aH (bN (K:=K) rfl) rfl T.nm.len qnd (aj (aJ 0) ao)) (rK rfl T.Cd T.Ce) (bJ _))))) (aC (bh j7)) bA)
   (aC (bh (aH (jA rfl) rfl T.nm.all iG (aj (cC rfl rfl (show aR (aB sG) _ ["thing", "points"] ["one"] [1] ["one", "points"] from by rfl') rfl (PI.eqv (vK (K:=K) rfl (aJ 0)) (rD _ _)) (λC s H N G=>(aL (i:=0) (show(["one", "points"]:QAH).Nodup by symm) rfl (Or.inl rfl))) (λC s H N G=>cR) (λC s H N G=>(PE.eqv (aN (XD T) hr.d rfl T.Qe T.Fl.kp T.Qd .nil bB (aj (aJ 0) (aj (aJ 1) ao))) (aK _ _ _)))) ao))))),?_]
  have I:=m.1;have rJ:=l.len;have aa:60<sizeLine:=by decide
  left;refine#[t,_,rfl,u,λO j=>?_];left;refine#[_,(u.same j).q,cZ.neg (by simp;lia) ?_];obtain⟨b,L⟩:=u.b;left;refine#[b,#[_,L K O j],λD M=>cmQ n (λi c f=>(∃o,c=[o,some (.ref p)])/\Same O f/\f D=some (.lst (List.replicate i (.bl true)))) #[#[none,rfl],au M,ak] (λi c f _ h=>L K f (j.trans h.2.1)) ?_ ?_]
  ·rintro i v c f J ⟨⟨o,rfl⟩,r,x⟩;obtain⟨e,he,U,rfl,Cu⟩:=m.at J;have a0:i<n.length:=(qm2.mp J).1;obtain⟨h1,h2,h3⟩:=l.ok e (qm6 he);have B:=j.trans r;left;refine#[U,p,e.1,e.2,y,rfl,Cu.same B,hp.same B,hx,h1,h2,h3,λH2 z=>?_];left;refine#[_,z _ _ x,by simp;lia,aX (r.trans z) M,?_];rw[ak,<- qoJ]
  ·rintro c f ⟨⟨o,rfl⟩,r,x⟩;left;refine#[_,x,_,jF _,?_];rw[show(List.replicate n.length true).all id=true by simp];exact q _ (j.trans r)
def bI(H:Hp)(vs:QA0)(ps:QAD):Prop:=vs.length=ps.length/\∀(i:Nat) v e,vs[i]? = some v->ps[i]? = some e->∃t,v = .ref t/\H t=some (.tup [.str e.1,.str e.2])
def dh(H e:Hp):Prop:=∀b c,H b=some (.tup c)->e b=some (.tup c)
def bI.keep{H c:Hp}{vs:QA0}{ps:QAD}(h:bI H vs ps)(s:dh H c):bI c vs ps:=#[h.1,λi v e j f=>by
 obtain⟨t,rfl,e⟩:=h.2 i v e j f;exact#[t,rfl,s _ _ e]]
def bI.snoc{H:Hp}{vs:QA0}{ps:QAD}{t:J9}{e:Str×Str}(h:bI H vs ps)(n:H t=some (.tup [.str e.1,.str e.2])):bI H (vs++[.ref t]) (ps++[e]):=by
 refine#[by simp[h.1],λi v d c f=>?_]
 by_cases m:i<vs.length
 ·rw[qny m] at c;rw[qny (by rw[<- h.1];exact m)] at f;exact h.2 i v d c f
 ·rw[qnz ⋯] at c;rw[qnz (by rw[<- h.1];omega),<- h.1] at f;cases l:i - vs.length with
  |zero=>
   rw[l] at c f;cases c;cases f;exact#[t,rfl,n]
  |succ j=>
   rw[l] at c;simp at c
structure fP(C:J9)(H:Hp)(o:J9)(xs:QAH)(ps:QAD):Prop where
 ex:∃dx n m tv,H o=some (.ins C dx [("names",V.ref n),("pairs",V.ref m)])/\H n=some (.tup (xs.map V.str))/\H m=some (.tup tv)/\bI H tv ps/\ps.length<=20
def qdD(C:J9):Sp:=λi H Q _=>∃o j p t h c e,i=[.ref o,.ref p,.ref t]/\H o=some (.ins C j [])/\Sq H t h/\qC H h e/\Sq H p (c.map V.str)/\Qp c/\tW c e/\
 ∀f,fP C f o c e->But o H f->Q .non f
def Qt(T:Txt K mg a):bT P w K mg base gR 4 a.gw a.pY ["self", "points", "ties"] (qdD a.b_):=by
 exists T.Fq.oE,P0
 ·obtain⟨o,dx,p,t,U,xs,ps,rfl,_⟩:=h;rfl
 ·obtain⟨o,dx,p,t,U,xs,ps,rfl,ho,ht,B,hp,hx,I,q⟩:=h;refine#[_,(aA (bY (cM (bW (PE.eqv (aN (Hr T) hr.d rfl T.zK T.tE.kp T.zJ .nil bB (aj (aJ 1) ao)) (aK _ _ _)))) (aC qY) bA)
   (aA (bY (cM (bW (PE.eqv (aN (Qs T) hr.d rfl T.Fp T.xX.kp T.Fo .nil bB (aj (aJ 2) (aj (aJ 1) ao))) (aK _ _ _)))) (aC qY) bA)
   (aA (Vh (K:=K) rfl (aJ 0) (dI Ai rfl T.nm.tuple boot_tuple (aj (aJ 1) ao)) rfl)
   (aC (Vh (K:=K) rfl (aJ 0) (dI Ai rfl T.nm.tuple boot_tuple (aj (cC rfl rfl (show aR (aB sI) _ ["self", "points", "ties"] ["pair"] [] ["pair"] from by rfl') rfl (PI.eqv (vK (K:=K) rfl (aJ 2)) (rD _ _)) (λC s H fp pn=>(aL (i:=0) (show(["pair"]:QAH).Nodup by symm) rfl (Or.inl rfl))) (λC s H fp pn=>cR) (λC s H fp pn=>(ji (aj (bC (bD (K:=K) rfl) (aJ 0) aG (λ_ _=>rfl)) (aj (bC (bD (K:=K) rfl) (aJ 0) aG (λ_ _=>rfl)) ao))))) ao)) rfl))))),?_]
  left;refine#[p,xs,rfl,hp,hx,λH1 s1=>?_];left;refine#[t,p,U,xs,ps,rfl,ht.same s1,B.same s1,hp.same s1,hx,I,λH2 ah=>?_];have s2:=s1.trans ah;left;refine#[_,hp.same s2,λn H3 hn ag=>?_];have s3:=s2.trans ag;have a0:n≠o:=jH hn (s3 _ _ ho) (by intro z;cases z);refine#[_,_,_,s3 _ _ ho,T.mU,T.Mj,by simp,?_];have aa:t≠o:=by rcases ht with z|z <;> exact jH z ho (by intro y;cases y)
  have ai:∀{ob:HO}{b:J9}{u:HO},b≠o->H b=some u->upd H3 o ob b=some u:=λhb e=>by rw[aF hb];exact s3 _ _ e
  obtain⟨b,hb⟩:∃b,∀l,(∀c u,c≠o->H c=some u->l c=some u)->SqB b K l t U:=by
   rcases ht with z|z
   ·exact#[true,λl k=>aV.of (k _ _ aa z)]
   ·exact#[false,λl k=>cO.of (k _ _ aa z)]
  have e1:kh "names" (V.ref n) []=([("names",V.ref n)]:List (Str×V)):=rfl;rw[e1];have O:∀(c:J9)(u:HO),c≠o->H c=some u->upd H3 o (.ins a.b_ dx [("names",V.ref n)]) c=some u:=λc u M e=>ai M e;generalize h4:upd H3 o (.ins a.b_ dx [("names",V.ref n)])=H4 at O⊢;have ae:H4 o=some (.ins a.b_ dx [("names",V.ref n)]):=by rw[<- h4];exact ak
  have am:H4 n=some (.tup (xs.map V.str)):=by rw[<- h4,aF a0];exact hn
  refine#[b,#[_,hb H4 O],λD hD=>cmQ U (λi x l=>(∃o',x=[o'])/\Same H4 l/\∃f,l D=some (.lst f)/\bI l f (ps.take i)) #[#[none,rfl],au hD,[],ak,by simp[bI]] (λi x l _ h=>hb l λc u M e=>h.2.1 _ _ (O c u M e)) ?_ ?_]
  ·rintro i v x l hi ⟨⟨o',rfl⟩,G,f,Ho,r⟩;have ap:i<U.length:=(qm2.mp hi).1;have an:=B.1;have rJ:=I.len;obtain⟨e,he,t2,rfl,Cu⟩:=B.at hi;have Y:t2≠o:=by rcases Cu with z|z <;> exact jH z ho (by intro y;cases y)
   have ab:Sq l t2 [.str e.1,.str e.2]:=by
    rcases Cu with z|z
    ·exact .inl (G _ _ (O _ _ Y z))
    ·exact .inr (G _ _ (O _ _ Y z))
   left;refine#[_,ab.q,_,aO (j:=0) rfl,_,ab.q,_,aO (j:=1) rfl,λpt J=>?_];have af:D≠pt:=aU Ho J;refine#[f,by rw[aF af];exact Ho,?_,aX (G.trans (au J)) hD,_,ak,?_]
   ·have ar:20<sizeLine:=by decide
    have:=r.1;simp at this;lia
   ·rw[take_one he];refine(r.keep ?_).snoc ?_
    ·intro c zs N;rw[aF (jH N Ho (by intro y;cases y)),aF (aU N J)];exact N
    ·rw[aF (qoE af)];exact ak
  ·rintro x l ⟨⟨o',rfl⟩,G,f,Ho,r⟩;left;refine#[f,.inl Ho,λm H5 hm L=>#[_,_,_,L _ _ (G _ _ ae),T.mU,T.Dg,by simp,?_]];have ac:=L _ _ (G _ _ ae);have al:m≠o:=jH hm ac (by intro z;cases z);have e2:kh "pairs" (V.ref m) ([("names",V.ref n)]:List (Str×V))=([("names",V.ref n),("pairs",V.ref m)]:List (Str×V)):=by
    show(if ("names" : Str) = "pairs" then _ else (("names" : Str),V.ref n)::kh "pairs" (V.ref m) [])=_
    rw[if_neg (by symm)];rfl
   rw[e2];refine q _ #[dx,n,m,f,ak,?_,?_,?_,I.len] λc u M e=>?_
   ·rw[aF a0];exact L _ _ (G _ _ am)
   ·rw[aF al];exact hm
   ·have hl:=B.1;rw[hl,qnn] at r;refine r.keep λc zs N=>?_;rw[aF (jH (L _ _ N) ac (by intro z;cases z))];exact L _ _ N
   ·rw[aF M];exact L _ _ (G _ _ (O c u M e))
def XF(C:J9):Sp:=λe H Q _=>∃o c f,e=[.ref o]/\fP C H o c f/\∀l,H l=none->Q (.ref l) (upd H l (.lst (c.map V.str)))
def jg(T:Txt K mg a):bT P w K mg base gR 1 a.dX a.lE ["self"] (XF a.b_):=by
 exists T.zL.oE,Hj
 ·obtain⟨o,c,e,rfl,_⟩:=h;rfl
 ·obtain⟨o,c,e,rfl,⟨u,n,m,j,i,f,r,p,l⟩,q⟩:=h;refine#[_,(aC (bh (dI (uO (K:=K) rfl) rfl T.nm.list boot_list (aj (PE.eqv (Kp (K:=K) rfl (aJ 0) rfl) (K7 _ _ _)) ao)))),?_];left;refine#[_,_,_,i,T.mU,T.Mj,_,rfl,_,.inr (cO.of f),q]
def qdE(C:J9):Sp:=λh H Q _=>∃o f e,h=[.ref o]/\fP C H o f e/\∀l c,H l=none->bI H c e->Q (.ref l) (upd H l (.lst c))
def vh(T:Txt K mg a):bT P w K mg base gR 1 a.gA a.pZ ["self"] (qdE a.b_):=by
 exists T.Fv.oE,P_
 ·obtain⟨o,c,f,rfl,_⟩:=h;rfl
 ·obtain⟨o,c,f,rfl,⟨x,n,m,e,r,v,p,j,u⟩,q⟩:=h;refine#[_,(aC (bh (dI (uO (K:=K) rfl) rfl T.nm.list boot_list (aj (PE.eqv (Kp (K:=K) rfl (aJ 0) rfl) (K7 _ _ _)) ao)))),?_];left;refine#[_,_,_,r,T.mU,T.Dg,_,rfl,_,.inr (cO.of p),λl i=>q l e i j]
theorem gQ.upd{p q:J9}{H:Hp}{u:HO}(x:gQ H p)(h:p≠q):gQ (L2.upd H q u) p:=by
 obtain⟨a,b,e,r⟩:=x;exact#[a,b,by rw[aF h];exact e,r]
def gQ.ne{p q:J9}{H:Hp}(x:gQ H p)(h:H q=none):p≠q:=by
 obtain⟨a,b,e,r⟩:=x;exact aU e h
theorem gQ.none{p b:J9}{H c:Hp}(x:But p H c)(f:gQ c p)(h:c b = .none):H b = .none:=by
 obtain⟨a,b,e,r⟩:=f;exact x.none e h
def qbK:Sp:=λh H Q _=>∃p l e,h=[.ref p,.ref l]/\gQ H p/\l≠p/\H l=some (.lst e)/\e.length<=100/\∀r f c,H r=none->c r=some (.lst f)->f.Perm e->gQ c p->But p H c->Q (.ref r) c
def Gg(T:Txt K mg a):bT P w K mg base gR 2 a.qm a.zA ["_law_pot_here", "_law_things"] qbK:=by
 exists T.zO.oE,Fd
 ·obtain⟨p,l,y,rfl,_⟩:=h;rfl
 ·obtain⟨p,l,y,rfl,I,B,J,M,q⟩:=h;refine#[_,(aA (bF (i:=2) Fd.nd rfl (Or.inl rfl) (cN ao))
   (aA (gU qnS rfl (PI.eqv (bO (K:=K) rfl (aJ 1)) (bK _ _)) (aL (i:=3) Fd.nd rfl (Or.inl rfl))
   (aC (cQ (iT (K:=K) rfl qnu PySem.F.slot_list_insert PySem.F.type_list_insert R_ (aJ 2) (aj (PE.eqv (aN (fX T) hr.d rfl T.iC T.gM.kp T.iB .nil bB (aj (aJ 0) (aj (cX jM (aH (bN (K:=K) rfl) rfl T.nm.len qnd (aj (aJ 2) ao)) aG) ao))) (aK _ _ _)) (aj (aJ 3) ao))))))
   (aC (bh (aJ 2))))),?_]
  have a0:100<sizeLine:=by decide
  left;intro r j;have n:p≠r:=I.ne j;refine#[#[_,aV.of (bQ J j)],frL y (λi u o=>∃v f,u=[some (.ref p),some (.ref l),some (.ref r),v]/\o r=some (.lst f)/\f.Perm (y.take i)/\gQ o p/\But p H o) #[none,[],rfl,ak,by simp,I.upd n,(But.refl _ _).new j] (λi u o _ ⟨_,_,_,_,_,_,hb⟩=>aV.of (hb _ _ B J)) ?_ ?_]
  ·rintro i x u o L ⟨v,f,rfl,m,c,D,G⟩;have U:i<y.length:=(qm2.mp L).1;have O:f.length=i:=by
    have:=c.length_eq;simp at this;lia
   left;refine#[#[_,aV.of m],f,.inl (aV.of m),p,_,rfl,D,⋯,⋯,λd H1 C Y XH N=>?_];have z:H1 r=some (.lst f):=N _ _ (qoE n) m;left;refine#[f,z,C,⋯,⋯,_,ak,?_,XH.upd n,(G.trans N).new j]
   ·rw[take_one L];have e:(f.take d.toNat++x::f.drop d.toNat).Perm (x::f):=by
     refine List.perm_middle.trans ?_;rw[qog]
    exact e.trans ((List.Perm.cons x c).trans (List.perm_append_singleton x _).symm)
  ·rintro u o ⟨v,f,rfl,m,c,D,G⟩;rw[qnn] at c;left;exact q r f o j m c D G
def qgj:Sp:=λf H Q _=>∃(p l:J9)(c:QAH),f=[.ref p,.ref l]/\gQ H p/\l≠p/\H l=some (.lst (c.map V.str))/\2<=c.length/\c.length<=9/\c.Nodup/\∀t x y e,H t=none->e t=some (.tup [.str x,.str y])->x∈c->y∈c->x≠y->gQ e p->But p H e->Q (.ref t) e
def qgk(T:Txt K mg a):bT P w K mg base gR 2 a.Bv a.LR ["_law_pot_here", "_law_names_here"] qgj:=by
 exists T.qbE.oE,Tc
 ·obtain⟨p,l,xs,rfl,_⟩:=h;rfl
 ·obtain⟨p,l,xs,rfl,O,m,J,h2,h9,C,q⟩:=h;refine#[_,(aA (bF (i:=2) Tc.nd rfl (Or.inl rfl) (PE.eqv (aN (fX T) hr.d rfl T.iC T.gM.kp T.iB .nil bB (aj (aJ 0) (aj (aH (bN (K:=K) rfl) rfl T.nm.len qnd (aj (aJ 1) ao)) ao))) (aK _ _ _)))
   (aA (bF (i:=3) Tc.nd rfl (Or.inl rfl) (cX pK (cX jM (cX jM (aJ 2) aG) (PE.eqv (aN (fX T) hr.d rfl T.iC T.gM.kp T.iB .nil bB (aj (aJ 0) (aj (cX yV (aH (bN (K:=K) rfl) rfl T.nm.len qnd (aj (aJ 1) ao)) aG) ao))) (aK _ _ _))) (aH (bN (K:=K) rfl) rfl T.nm.len qnd (aj (aJ 1) ao))))
   (aC (bh (ji (aj (bC (bD (K:=K) rfl) (aJ 1) (aJ 2) (λ_ _=>rfl)) (aj (bC (bD (K:=K) rfl) (aJ 1) (aJ 3) (λ_ _=>rfl)) ao))))))),?_]
  left;refine#[_,.inl (aV.of J),p,_,rfl,O,by simp;lia,by simp;lia,λd H1 o c XH I=>?_];have n:=I _ _ m J;left;refine#[_,.inl (aV.of n),p,_,rfl,XH,by simp;lia,by simp;lia,λe H2 G L f j=>?_];have D:=j _ _ m n;simp only[qm7] at c L;obtain⟨N,M,m2⟩:=qfx o c G L;obtain⟨vx,Y,ax⟩:=Vf (xs:=xs.map V.str) o (by simpa using c);obtain⟨vy,U,ay⟩:=Vf (xs:=xs.map V.str) N (by simpa using M);obtain⟨x,u,rfl⟩:=kE Y;obtain⟨y,r,rfl⟩:=kE U;have v:=aV.of (K:=K) D;left;refine#[_,.inl v,by simp;lia,_,.inl v,_,ax,_,.inl v,_,(by simpa using ay),λt B=>?_];refine q t x y _ (gQ.none (I.trans j) f B) ak (qm6 u) (qm6 r) (λz=>?_) (f.upd (f.ne B)) ((I.trans j).same (au B));subst z;have:=yD C u r;lia
def qbL:Sp:=λf H Q _=>∃(p:J9)(m:Nat),f=[.ref p,.int m]/\gQ H p/\1<=m/\m<=9/\∀(r:J9)(e:QAH)(c:Hp),H r=none->c r=some (.lst (e.map V.str))->Qp e->e.length=m->gQ c p->But p H c->Q (.ref r) c
def qbM(T:Txt K mg a):bT P w K mg base gR 2 a.ql a.zy ["_law_pot_here", "_law_many"] qbL:=by
 exists T.Mf.oE,oM
 ·obtain⟨p,m,rfl,_⟩:=h;rfl
 ·obtain⟨p,m,rfl,hp,h1,h9,q⟩:=h;refine#[_,(aA (bF (i:=2) oM.nd rfl (Or.inr rfl) xq)
   (aA (bF (i:=3) oM.nd rfl (Or.inl rfl) (PE.eqv (aN (fX T) hr.d rfl T.iC T.gM.kp T.iB .nil bB (aj (aJ 0) (aj aG ao))) (aK _ _ _)))
   (aA (bF (i:=4) oM.nd rfl (Or.inl rfl) (cN ao))
   (aA (gU qnS rfl (PI.eqv (nC rfl T.nm.range (aj (aJ 1) ao)) (nH _)) (aL (i:=5) oM.nd rfl (Or.inl rfl))
   (aA (bF (i:=6) oM.nd rfl (Or.inl rfl) (PE.eqv (aN (fX T) hr.d rfl T.iC T.gM.kp T.iB .nil bB (aj (aJ 0) (aj aG ao))) (aK _ _ _)))
   (aA (bF (i:=7) oM.nd rfl (Or.inl rfl) (iT (K:=K) rfl PySem.F.plainAttrs_str PySem.F.slot_str_join PySem.F.type_str_join qaZ xq (aj (cC rfl rfl (show aR (aB CV) _ ["_law_pot_here", "_law_many", "_law_letters", "_law_begin", "_law_found", "_law_k", "_law_size", "_law_more"] ["_law_j"] [2,0] ["_law_j", "_law_letters", "_law_pot_here"] from by rfl') rfl (PI.eqv (nC rfl T.nm.range (aj (aJ 6) ao)) (nH _)) (λC s H fp pn=>(aL (i:=0) (show(["_law_j", "_law_letters", "_law_pot_here"]:QAH).Nodup by symm) rfl (Or.inl rfl))) (λC s H fp pn=>cR) (λC s H fp pn=>(bC Vo (aJ 1) (PE.eqv (aN (fX T) hr.d rfl T.iC T.gM.kp T.iB .nil bB (aj (aJ 2) (aj aG ao))) (aK _ _ _)) (λ_ _=>rfl)))) ao)))
   (aC (cQ (iT (K:=K) rfl qnu qnQ qnR dM (aJ 4) (aj (cX O5 (bC Vo (aJ 2) (cX pK (cX jM (aJ 3) (cX CN aG (aJ 5))) aG) (λ_ _=>rfl)) (aJ 7)) ao)))))))
   (aC (bh (aJ 4))))))),?_]
  left;refine#[p,_,rfl,hp,by decide,by decide,λd H1 aw av XH Tn=>?_];obtain⟨b,rfl,b0,b6⟩:=uD aw av;have I:=XH;have aa:=Tn;left;intro r G;refine#[zlt h9 (by decide),frR (λi Y H'=>∃v8 v9 a0 l,Y=[some (.ref p),some (.int m),some (.str (Str.ofString "abcdefghijklmnopqrstuvwxyz")),some (.int b),some (.ref r),v8,v9,a0]/\H' r=some (.lst (l.map V.str))/\l.length=i/\(∀(j:Nat) x,l[j]? = some x->∃k,1<=k/\k<=4/\rN (97+(b+5 * j) % 26) k x)/\gQ H' p/\But p H H') #[none,none,none,[],rfl,ak,rfl,λj x e=>by simp at e,I.upd (I.ne G),aa.same (au G)] ?_ ?_]
  ·rintro i Y H' hi ⟨v8,v9,a0,l,rfl,M,O,hw,hP,hB⟩;left;obtain⟨c,hc,ah,ax⟩:=uD (i:=((b:Int)+5 * i) % 26) zn1 zn2;have ay:c=(b+5 * i) % 26:=zn3 hc;have pr:r≠p:=λz=>by subst z;obtain⟨_,_,u,_⟩:=I;rw[G] at u;cases u
   refine#[p,_,rfl,hP,by decide,by decide,λe H3 ar KJ pC N=>?_];left;have az:∀{D:J9},H3 D=none->r≠D:=λU=>aU (N _ _ pr M) U;refine#[zlo ar,zhi KJ (by decide),λD U=>cmR (λj Y H4=>∃v B,Y=[v,some (.str (Str.ofString "abcdefghijklmnopqrstuvwxyz")),some (.ref p)]/\H4 D=some (.lst (B.map V.str))/\H4 r=some (.lst (l.map V.str))/\B.length=j/\(∀y∈B,∃n,n<26/\y=(#[[97+n].toArray]:Str))/\gQ H4 p/\But p H H4) #[_,[],rfl,ak,bQ (N _ _ pr M) U,rfl,by simp,pC.upd (pC.ne U),(hB.trans N).same (au U)] ?_ ?_]
   ·rintro j Y H4 J ⟨v,B,rfl,qD,Jy,o,L,wD,wW⟩;have ae:D≠p:=(pC.ne U).symm;left;refine#[p,_,rfl,wD,by decide,by decide,λf H5 ap an G4 Ml=>?_];obtain⟨n,rfl,ag,al⟩:=uD ap an;simp -dsimp[aq,stC,-Bool.exists_bool,-List.map_take,-Prod.forall,-Prod.exists,Bq,al];have af:=qoL xH;refine#[_,Ml _ _ ae qD,by rw[qm7];exact zn4 J KJ o,B++[#[[97+n].toArray]],by rw[ak];simp,by rw[aF (az U)];exact Ml _ _ pr Jy,by simp[o],λy hy=>?_,G4.upd ae.symm,(wW.trans Ml).new (gQ.none (hB.trans N) pC U)]
    rcases qnw.mp hy with hy|hy
    ·exact L y hy
    ·exact#[n,ag,by simpa using hy]
   ·rintro Y H4 ⟨v,B,rfl,qD,Jy,o,L,wD,wW⟩;have ai:=uI B L;left;have ab:=(rN.one ah).glue (by decide) L;have af:=qoL xH;refine#[B,qD,by rw[ai.2.2];exact zn5 o KJ,?_];simp -dsimp[aq,stC,-Bool.exists_bool,-List.map_take,-Prod.forall,-Prod.exists,Bq,ax];have ac:(#[[97+c].toArray]:Str).length+(Txt.join (Str.ofString "") B).length=1+B.length:=by
     rw[<- ab.len];exact(qpg).symm
    refine#[#[_,aV.of Jy],by rw[ac];exact qlH (zn6 o KJ) (by decide),_,Jy,by rw[qm7,O];exact zsz hi (qnp h9 (by decide)),l++[_],by rw[ak];simp;rfl,by simp[O],λj y e=>?_,wD.upd pr.symm,wW.new (gQ.none aa I G)]
    by_cases J:j<l.length
    ·rw[qny J] at e;exact hw j y e
    ·rw[qnz (Nat.not_lt.mp J)] at e;cases hk:j - l.length with
     |zero=>
      rw[hk] at e;simp at e;subst e;have ej:j=i:=(zn8 J hk).trans O;subst ej;exact#[1+B.length,qpW 1 _,zn6 o KJ,by rw[<- ay];exact ab]
     |succ k=>
      rw[hk] at e;simp at e
  ·rintro Y H' ⟨v8,v9,a0,l,rfl,M,O,hw,hP,hB⟩;left;have nd:l.Nodup:=by
    unfold List.Nodup;rw[List.pairwise_iff_getElem];intro i j hi J am e;obtain⟨k1,_,_,w1⟩:=hw i _ (by simp[hi]:l[i]? = some l[i]);obtain⟨k2,_,_,w2⟩:=hw j _ (by simp[J]:l[j]? = some l[j]);have z:=w1.fst;rw[e,w2.fst] at z;simp at z;exact zn7 hi J am (by rw[O];exact h9) z
   refine q r l H' (gQ.none aa I G) M #[#[by rw[O];exact h1,by rw[O];exact h9],λx hx=>?_,nd] O hP hB;obtain⟨j,J,e⟩:=qpO.mp hx;obtain⟨k,k1,k4,w⟩:=hw j x (by simp[J,e]);exact w.name k1 k4
def bI.perm{H:Hp}{vs ys:QA0}{ps:QAD}(h:bI H vs ps)(s:ys.Perm vs):∃n:QAD,bI H ys n/\n.Perm ps:=by
 have A:vs=(vs.zip ps).map (·.1):=by rw[List.map_fst_zip (by rw[h.1];exact qm5 _)]
 have y:ps=(vs.zip ps).map (·.2):=by rw[List.map_snd_zip (by rw[h.1];exact qm5 _)]
 obtain⟨p,o,e⟩:=yH s _ A;refine#[p.map (·.2),#[by rw[e];simp,λi v d f m=>?_],by rw[y];exact o.map _];rw[e,qnr] at f;rw[qnr] at m;cases l:p[i]? with
 |none=>rw[l] at f;cases f
 |some z=>
  rw[l] at f m;cases f;cases m;have u:z∈vs.zip ps:=o.mem_iff.mp (qm6 l);obtain⟨j,x,r⟩:=qpO.mp u;have c:j<vs.length/\j<ps.length:=by
   simp at x;lia
  simp at r;subst r;exact h.2 j _ _ (by simp[c.1]) (by simp[c.2])
def bI.at{H:Hp}{vs:QA0}{ps:QAD}(h:bI H vs ps){i:Nat}{v:V}(c:vs[i]? = some v):∃e,ps[i]? = some e/\∃t,v = .ref t/\H t=some (.tup [.str e.1,.str e.2]):=by
 have f:i<ps.length:=by rw[<- h.1];exact(qm2.mp c).1
 exact#[ps[i],by simp[f],h.2 i v _ c (by simp[f])]
def bI.but{p:J9}{H f:Hp}{vs:QA0}{ps:QAD}(h:bI H vs ps)(i:gQ H p)(b:But p H f):bI f vs ps:=h.keep λc j e=>b c _ (λz=>by
 subst z;obtain⟨_,_,u,_⟩:=i;rw[e] at u;cases u) e
def bI.same{H f:Hp}{vs:QA0}{ps:QAD}(h:bI H vs ps)(b:Same H f):bI f vs ps:=h.keep λc i e=>b c _ e
def gQ.nl{p q:J9}{H:Hp}(x:gQ H p)(h:H q = .none):q≠p:=λz=>(x.ne h) z.symm
def qgl:Sp:=λi H Q _=>∃(p:J9)(m k:Nat),i=[.ref p,.int m,.int k]/\gQ H p/\1<=m/\m<=9/\m<=k/\k<=20/\∀(t n l:J9)(e:QAH)(h:QA0)(f:QAD)(c:Hp),
 H t=none->H n=none->H l=none->c t=some (.tup [.ref n,.ref l])->c n=some (.lst (e.map V.str))->c l=some (.lst h)->bI c h f->Qp e->tW e f->e.length<=m->f.length<=k->gQ c p->But p H c->Q (.ref t) c
def qgm(T:Txt K mg a):bT P w K mg base gR 3 a.Bw a.L_ ["_law_pot_here", "_law_points", "_law_most"] qgl:=by
 exists T.qbF.oE,sV
 ·obtain⟨p,m,k,rfl,_⟩:=h;rfl
 ·obtain⟨p,m,k,rfl,hp,h1,h9,cl,hk,q⟩:=h;refine#[_,(aA (bF (i:=3) sV.nd rfl (Or.inl rfl) (PE.eqv (aN (qbM T) hr.d rfl T.VN T.Mf.kp T.VL .nil bB (aj (aJ 0) (aj (cX jM aG (PE.eqv (aN (fX T) hr.d rfl T.iC T.gM.kp T.iB .nil bB (aj (aJ 0) (aj (aJ 1) ao))) (aK _ _ _))) ao))) (aK _ _ _)))
   (aA (bF (i:=4) sV.nd rfl (Or.inl rfl) (PE.eqv (aN (fX T) hr.d rfl T.iC T.gM.kp T.iB .nil bB (aj (aJ 0) (aj aG ao))) (aK _ _ _)))
   (aA (bF (i:=5) sV.nd rfl (Or.inl rfl) (cN ao))
   (aA (bY (aQ uN (aH (bN (K:=K) rfl) rfl T.nm.len qnd (aj (aJ 3) ao)) aG (bJ _)) (aA (bF (i:=6) sV.nd rfl (Or.inr rfl) (PE.eqv (aN (Gg T) hr.d rfl T.Df T.zO.kp T.Dd .nil bB (aj (aJ 0) (aj (aJ 3) ao))) (aK _ _ _)))
   (aA (bY (aQ uN (aJ 4) aG (bJ _)) (aC (jj (i:=5) sV.nd rfl rfl rfl rfl (show aR (aB Jl) _ ["_law_pot_here", "_law_points", "_law_most", "_law_names_here", "_law_kind", "_law_ties", "_law_row", "_law_k", "_law_turns"] ["_law_k"] [6] ["_law_k", "_law_row"] from by rfl') rfl (PI.eqv (Wo rfl T.nm.range (aj (dI rT rfl T.nm.int nF (aj (cI gY (aJ 4) aG (bJ _)) ao)) (aj (aH (bN (K:=K) rfl) rfl T.nm.len qnd (aj (aJ 6) ao)) ao))) (Xe _)) (λC s H fp pn=>(aL (i:=0) (show(["_law_k", "_law_row"]:QAH).Nodup by symm) rfl (Or.inl rfl))) (λC s H fp pn=>cR) (λC s H fp pn=>(ji (aj (bC (bD (K:=K) rfl) (aJ 1) (cX yV (aJ 0) aG) (λ_ _=>rfl)) (aj (bC (bD (K:=K) rfl) (aJ 1) (aJ 0) (λ_ _=>rfl)) ao)))))) bA)
   (aC (gU qnS rfl (PI.eqv (nC rfl T.nm.range (aj (PE.eqv (aN (fX T) hr.d rfl T.iC T.gM.kp T.iB .nil bB (aj (aJ 0) (aj (cX jM (cX yV (aJ 2) (aH (bN (K:=K) rfl) rfl T.nm.len qnd (aj (aJ 5) ao))) aG) ao))) (aK _ _ _)) ao)) (nH _)) (aL (i:=7) sV.nd rfl (Or.inl rfl))
   (aC (cQ (iT (K:=K) rfl qnu qnQ qnR dM (aJ 5) (aj (PE.eqv (aN (qgk T) hr.d rfl T.qeC T.qbE.kp T.qeB .nil bB (aj (aJ 0) (aj (aJ 3) ao))) (aK _ _ _)) ao)))))))) bA)
   (aA (jj (i:=8) sV.nd rfl rfl rfl rfl (show aR (aB Jl) _ ["_law_pot_here", "_law_points", "_law_most", "_law_names_here", "_law_kind", "_law_ties", "_law_row", "_law_k", "_law_turns"] ["_law_tie_here"] [0] ["_law_tie_here", "_law_pot_here"] from by rfl') rfl (PI.eqv (bO (K:=K) rfl (aJ 5)) (bK _ _)) (λC s H fp pn=>(aL (i:=0) (show(["_law_tie_here", "_law_pot_here"]:QAH).Nodup by symm) rfl (Or.inl rfl))) (λC s H fp pn=>cR) (λC s H fp pn=>(PE.eqv (aN (fX T) hr.d rfl T.iC T.gM.kp T.iB .nil bB (aj (aJ 1) (aj aG ao))) (aK _ _ _))))
   (aA (jj (i:=5) sV.nd rfl rfl rfl rfl (show aR (aB Jl) _ ["_law_pot_here", "_law_points", "_law_most", "_law_names_here", "_law_kind", "_law_ties", "_law_row", "_law_k", "_law_turns"] ["_law_turn", "_law_a", "_law_b"] [] ["_law_turn", "_law_a", "_law_b"] from by rfl') rfl (PI.eqv (Vg (K:=K) rfl rfl T.nm.zip (aj (aJ 5) (aj (aJ 8) ao))) (O9 _ _)) (λC s H fp pn=>(PG.eqv (c7 (K:=K) (n:=2) rfl rfl (fL.eqv (aY (PG.eqv (c7 (K:=K) (n:=2) rfl rfl (fL.eqv (aY (aL (i:=1) (show(["_law_turn", "_law_a", "_law_b"]:QAH).Nodup by symm) rfl (Or.inl rfl)) (fL.eqv (aY (aL (i:=2) (show(["_law_turn", "_law_a", "_law_b"]:QAH).Nodup by symm) rfl (Or.inl rfl)) (fL.mono cH dJ)) (aZ _ _))) (aZ _ _))) (dj _ _ _)) (fL.eqv (aY (aL (i:=0) (show(["_law_turn", "_law_a", "_law_b"]:QAH).Nodup by symm) rfl (Or.inl rfl)) (fL.mono cH dJ)) (aZ _ _))) (aZ _ _))) (dj _ _ _))) (λC s H fp pn=>cR) (λC s H fp pn=>(bC (bD (K:=K) rfl) (cN (aj (ji (aj (aJ 1) (aj (aJ 2) ao))) (aj (ji (aj (aJ 2) (aj (aJ 1) ao))) ao))) (aJ 0) (λ_ _=>rfl))))
   (aC (bh (ji (aj (aJ 3) (aj (PE.eqv (aN (Gg T) hr.d rfl T.Df T.zO.kp T.Dd .nil bB (aj (aJ 0) (aj (aJ 5) ao))) (aK _ _ _)) ao))))))))))),?_]
  left;refine#[p,_,rfl,hp,qlE h1,zlt h9 (by decide),λd H1 al aw XH Tn=>?_];left;refine#[p,d.toNat+1,?_,XH,Nat.le_add_left 1 _,ztn al aw h9,λn xs H2 hn ck hX cc cr c5=>?_]
  ·simp;exact qlG al 1
  have bc:xs.length<=m:=by rw[cc];exact ztn al aw (qm5 m)
  have ar:=qnp bc h9;have cs:=Tn.trans c5;left;refine#[p,_,rfl,cr,by decide,by decide,λkd H3 cy cx pC bq=>?_];have b0:=cs.trans bq;have np:n≠p:=λz=>by subst z;obtain⟨_,_,u,_⟩:=XH;rw[hn] at u;cases u
  have SX:=bq _ _ np ck;left;refine λL hL=>#[_,.inl (aV.of (bQ SX hL)),DW (λJ H4=>∃v6 v7 L B M,J=[some (.ref p),some (.int m),some (.int k),some (.ref n),some (.int kd),some (.ref L),v6,v7,none]/\H L=none/\H4 L=some (.lst B)/\bI H4 B M/\tW xs M/\M.length<=k/\H4 n=some (.lst (xs.map V.str))/\gQ H4 p/\But p H H4) ?_ ?_]
  ·rintro J H4 ⟨v6,v7,L,B,M,rfl,Y,Jz,ac,bd,bt,ai,wD,wW⟩;left;have Lp:L≠p:=hp.nl Y;have Tp:B.length<=20:=by rw[ac.1];exact qnp bt hk
   have bm:=qoL xH;refine#[#[_,aV.of Jz],λD hD=>Kv B (λi J H'=>∃v ds,J=[v,some (.ref p)]/\H' D=some (.lst (ds.map V.int))/\ds.length=i/\(∀d∈ds,0<=d/\d<2)/\H' L=some (.lst B)/\bI H' B M/\H' n=some (.lst (xs.map V.str))/\gQ H' p/\But p H H') #[none,[],rfl,ak,rfl,by simp,bQ Jz hD,ac.same (au hD),bQ ai hD,wD.upd (wD.ne hD),wW.same (au hD)] (λi J H' _ h=>by
    obtain⟨_,_,_,_,_,_,z,_⟩:=h;exact aV.of z) ?_ ?_]
   ·rintro i x J O hi ⟨v,ds,rfl,zW,hl,bj,U,bb,ae,G4,Ml⟩;have bi:i<B.length:=(qm2.mp hi).1;left;refine#[p,_,rfl,G4,by decide,by decide,λd H6 al aw Tq Tr=>?_];have Dp:D≠p:=wD.nl hD;have LD:L≠D:=aU Jz hD;have nD:n≠D:=aU ai hD;have Tt:=Tr _ _ Dp zW;left;refine#[_,Tt,by rw[qm7,hl];exact zsz bi Tp,ds++[d],by rw[ak];simp,by simp[hl],?_,by rw[aF LD];exact Tr _ _ Lp U,(bb.but G4 Tr).keep (λc zs e=>CJ e Tt (by intro z;cases z)),by rw[aF nD];exact Tr _ _ np ae,Tq.upd (Dp.symm),(Ml.trans Tr).new (gQ.none wW wD hD)];intro z hz
    rcases qnw.mp hz with y|y
    ·exact bj z y
    ·simp at y;subst y;exact#[al,aw]
   ·rintro J O ⟨v,ds,rfl,zW,hl,bj,U,bb,ae,G4,Ml⟩;left;have cz:=gQ.none wW wD hD;have LD:L≠D:=aU Jz hD;refine#[#[_,aV.of U],#[_,aV.of zW],λD2 G=>cmZ B (ds.map V.int) (λi J H'=>(∃o1 o2 o3,J=[o1,o2,o3])/\∃r qs,H' D2=some (.lst r)/\bI H' r qs/\qs.length=i/\(∀e∈qs,e.1∈xs/\e.2∈xs/\e.1≠e.2)/\H' L=some (.lst B)/\H' D=some (.lst (ds.map V.int))/\bI H' B M/\H' n=some (.lst (xs.map V.str))/\gQ H' p/\But p H H') #[#[_,_,_,rfl],[],[],ak,#[rfl,by simp],rfl,by simp,bQ U G,bQ zW G,bb.same (au G),bQ ae G,G4.upd (G4.ne G),Ml.same (au G)] (by simp[hl]) (λi J H' _ h=>by
     obtain⟨_,_,_,_,_,_,_,z1,z2,_⟩:=h;exact#[aV.of z1,aV.of z2]) ?_ ?_]
    ·rintro i x y t J H6 hx hy ht ⟨⟨o1,o2,o3,rfl⟩,r,qs,ba,Hs,I,aa,c4,Tt,b9,bf,Tq,Tr⟩;left;obtain⟨e,he,tt,rfl,cd⟩:=b9.at hx;have bi:i<B.length:=(qm2.mp hx).1;have co:=qm6 he;rw[qnr] at hy;obtain⟨d,hd,rfl⟩:∃d,ds[i]? = some d/\y = .int d:=by
      cases z:ds[i]? with
      |none=>rw[z] at hy;cases hy
      |some d=>rw[z] at hy;exact#[d,rfl,(qnB hy).symm]
     have c0:=bj d (qm6 hd);refine#[_,cO.of ak,rfl,_,cO.of (bQ cd ht),rfl,?_];left;refine λp1 h1 p2 h2 p3 h3=>#[_,.inl (aV.of ak),?_];have bv:=bQ (u:=HO.lst [V.ref p1,V.ref p2]) (bQ (u:=HO.tup [.str e.2,.str e.1]) (ak (H:=upd H6 t (HO.tup [V.ref tt,V.int d])) (a:=p1) (o:=HO.tup [.str e.1,.str e.2])) h2) h3;have bu:=bQ (u:=HO.lst [V.ref p1,V.ref p2]) (ak (H:=upd (upd H6 t (HO.tup [V.ref tt,V.int d])) p1 (HO.tup [.str e.1,.str e.2])) (a:=p2) (o:=HO.tup [.str e.2,.str e.1])) h3;have sm:=(((au (o:=HO.tup [V.ref tt,V.int d]) ht).trans (au (o:=HO.tup [.str e.1,.str e.2]) h1)).trans (au (o:=HO.tup [.str e.2,.str e.1]) h2)).trans (au (o:=HO.lst [V.ref p1,V.ref p2]) h3);generalize upd (upd (upd (upd H6 t (HO.tup [V.ref tt,V.int d])) p1 (HO.tup [.str e.1,.str e.2])) p2 (HO.tup [.str e.2,.str e.1])) p3 (HO.lst [V.ref p1,V.ref p2])=H9 at bv bu sm⊢;have ca:∃(pp:J9)(e':Str×Str),Cm [V.ref p1,V.ref p2] d=some (.ref pp)/\H9 pp=some (.tup [.str e'.1,.str e'.2])/\e'.1∈xs/\e'.2∈xs/\e'.1≠e'.2:=by
      have ⟨q1,q2,q3⟩:=bd.ok e co;have:d=0\/d=1:=z01 c0.1 c0.2
      rcases this with rfl|rfl
      ·exact#[p1,e,rfl,bv,q1,q2,q3]
      ·exact#[p2,(e.2,e.1),rfl,bu,q2,q1,qoE q3]
     obtain⟨pp,e',a1,ch,k1,k2,k3⟩:=ca;have d1:=G;have bl:D2≠p:=G4.nl G;have ct:L≠D2:=aU U G;have cu:D≠D2:=aU zW G;have c9:n≠D2:=aU ae G;have bp:=sm _ _ ba;have kp:dh H9 (upd H9 D2 (.lst (r++[.ref pp]))):=λc zs e=>CJ e bp (by intro z;cases z);have cp:gQ H9 p:=by
      obtain⟨u1,u2,u3,u4⟩:=Tq;exact#[u1,u2,sm _ _ u3,u4]
     refine#[_,a1,_,bp,?_,_,ak,qs++[e'],((Hs.same sm).keep kp).snoc (kp _ _ ch),by simp[I],?_,by rw[aF ct];exact sm _ _ c4,by rw[aF cu];exact sm _ _ Tt,(b9.same sm).keep kp,by rw[aF c9];exact sm _ _ bf,cp.upd bl.symm,(Tr.same sm).new (gQ.none Ml G4 G)]
     ·rw[Hs.1,I];exact zsz bi Tp
     ·intro z hz
      rcases qnw.mp hz with y|y
      ·exact aa z y
      ·simp at y;subst y;exact#[k1,k2,k3]
    ·rintro J H6 ⟨⟨o1,o2,o3,rfl⟩,r,qs,ba,Hs,I,aa,c4,Tt,b9,bf,Tq,Tr⟩;left;have bl:D2≠p:=G4.nl G;have cv:=gQ.none Ml G4 G;have tl:r.length=B.length:=by rw[Hs.1,I]
     refine#[p,D2,_,rfl,Tq,bl,ba,by rw[tl];exact qnp Tp (by decide),λl ys H7 cn bg ab XJ a0=>?_];left;intro t ht;obtain⟨rs,cg,be⟩:=(Hs.but Tq a0).perm ab;refine q t n l xs ys rs _ (gQ.none (Tr.trans a0) XJ ht) (gQ.none Tn XH hn) (gQ.none Tr Tq cn) ak (bQ (a0 _ _ np bf) ht) (bQ bg ht) (cg.same (au ht)) hX #[?_,λe he=>aa e (be.mem_iff.mp he)] bc ?_ (XJ.upd (XJ.ne ht)) ((Tr.trans a0).same (au ht))
     ·rw[be.length_eq,I];exact Tp
     ·rw[be.length_eq,I,ac.1];exact bt
  ·intro N hN;refine cZ.of (λh=>?_) (λh=>?_)
   ·left;have af:2<=xs.length:=by simp at h;exact z2 h
    have bo:upd H3 L (.lst []) n=some (.lst (xs.map V.str)):=bQ SX hL;refine#[p,n,_,rfl,pC.upd (pC.ne hL),np,bo,by rw[qm7];exact qnp ar (by decide),λrw ys H4 cw bn ab wD b8=>?_];have wW:=(b0.same (au hL)).trans b8;obtain⟨zs,an,rfl⟩:=yH ab xs rfl;have ap:zs.length=xs.length:=an.length_eq;have c8:zs.Nodup:=an.nodup_iff.mpr hX.nd;have ai:=b8 _ _ np bo;have Jz:H4 L=some (.lst []):=b8 _ _ (pC.nl hL) ak;have Y:=gQ.none b0 pC hL;left;refine DW (λJ O=>∃v6 v7 L B M,J=[some (.ref p),some (.int m),some (.int k),some (.ref n),some (.int kd),some (.ref L),v6,v7,none]/\H L=none/\O L=some (.lst B)/\bI O B M/\tW xs M/\M.length<=m/\O n=some (.lst (xs.map V.str))/\gQ O p/\But p H O) ?_ ?_
    ·rintro J O ⟨v6,v7,L,B,M,rfl,Y,U,ac,bd,ci,ae,G4,Ml⟩;left;have Lp:L≠p:=hp.nl Y;have Tp:B.length=M.length:=ac.1;have bm:=qoL xH;have ce:B.length<=k:=by rw[Tp];exact qnp ci cl
     refine#[_,.inl (aV.of U),p,_,rfl,G4,zk1 ce,zk2 hk (by decide),λf H6 bz bw Tq am=>?_];left;refine#[zlo bz,Int.lt_trans bw (zk2 hk (by decide)),frR (λi J H7=>∃v7 B M,J=[some (.ref p),some (.int m),some (.int k),some (.ref n),some (.int kd),some (.ref L),v6,v7,none]/\H7 L=some (.lst B)/\bI H7 B M/\tW xs M/\M.length+f.toNat<=k+i/\H7 n=some (.lst (xs.map V.str))/\gQ H7 p/\But p H H7) #[v7,B,M,rfl,am _ _ Lp U,ac.but G4 am,bd,zk3 bz bw Tp,am _ _ np ae,Tq,Ml.trans am] ?_ ?_]
     ·rintro i J H7 hi ⟨v7,B,M,rfl,Y6,Qu,b7,ag,ah,XJ,a0⟩;left;refine#[#[_,aV.of Y6],p,n,xs,rfl,XJ,np,ah,af,ar,hX.nd,λt x y H8 ht cf hx hy cb cq az=>?_];left;have c3:=az _ _ Lp Y6;have bg:=Qu.1;have kp:dh H8 (upd H8 L (.lst (B++[.ref t]))):=λc zs e=>CJ e c3 (by intro z;cases z);have nL:n≠L:=λz=>by subst z;rw[gQ.none Tn XH hn] at Y;rw[ah] at Y6;cases B with
       |nil=>simp at Y6;rw[Y6] at af;simp at af
       |cons v B=>
        obtain⟨e,_,u,rfl,_⟩:=Qu.at (i:=0) rfl;cases xs with
        |nil=>simp at af
        |cons x xs=>simp at Y6
      refine#[_,c3,zk4 bg ag hi hk,_,ak,M++[(x,y)],((Qu.but XJ az).keep kp).snoc (kp _ _ cf),#[by rw[qnT];exact Nat.succ_le_succ (zk5 ag hi hk),?_],by rw[qnT];exact zk6 ag,by rw[aF nL];exact az _ _ np ah,cq.upd Lp.symm,(a0.trans az).new Y];intro e he
      rcases qnw.mp he with z|z
      ·exact b7.ok e z
      ·simp at z;subst z;exact#[hx,hy,cb]
     ·rintro J H7 ⟨v7,B,M,rfl,Y6,Qu,b7,ag,ah,XJ,a0⟩;left;exact hN _ _ #[_,_,L,B,M,rfl,Y,Y6,Qu,b7,zk7 ag,ah,XJ,a0]
    ·intro N2 c2;refine cZ.of (λh=>?_) (λh=>?_)
     ·left;obtain⟨lo,cm,lo1⟩:∃lo:Nat,(if kd=3 then (1:Int) else 0)=lo/\lo<=1:=by
       split
       ·exact#[1,rfl,qm5 _]
       ·exact#[0,rfl,by decide]
      simp only[cm];have bm:=qoL xH;refine#[_,.inl (aV.of bn),#[qlF,zlt lo1 (by decide),zlt (by rw[qm7,ap];exact ar) (by decide)],λD hD=>cmR (λi J O=>(∃o,J=[o,some (.ref rw)])/\∃r qs,O D=some (.lst r)/\bI O r qs/\qs.length=i/\(∀e∈qs,e.1∈xs/\e.2∈xs/\e.1≠e.2)/\Same H4 O) #[#[_,rfl],[],[],ak,#[rfl,by simp],rfl,by simp,au hD] ?_ ?_]
      ·rintro i J O hi ⟨⟨o,rfl⟩,r,qs,zW,Hs,I,aa,sm⟩;have hk:lo+i<zs.length:=by simp at hi;exact qlI hi
       obtain⟨j,vx,hj,ex,ax⟩:=qah (xs:=zs.map V.str) (k:=lo+i) (by rw[qm7,ap];exact af) (by simpa using hk);obtain⟨x,c6,rfl⟩:=kE ex;have b6:zs[lo+i]? = some (zs[lo+i]'hk):=by simp[hk]
       have ay:Cm (zs.map V.str) ((lo+i:Nat):Int)=some (.str (zs[lo+i]'hk)):=aO (by rw[qnr,b6];rfl);have c1:((lo+i:Nat):Int)=(lo:Int)+i:=Int.natCast_add ..;rw[c1] at ax ay;have sl:=aV.of (K:=K) (sm _ _ bn);left;refine#[_,.inl sl,_,ax,_,.inl sl,_,ay,λpt av=>?_];have d0:=aU zW av;have Tt:upd O pt (.tup [.str x,.str (zs[lo+i]'hk)]) D=some (.lst r):=bQ zW av;have kp:dh (upd O pt (.tup [.str x,.str (zs[lo+i]'hk)])) (upd (upd O pt (.tup [.str x,.str (zs[lo+i]'hk)])) D (.lst (r++[.ref pt]))):=λc zs e=>CJ e Tt (by intro z;cases z);have hl:=Hs.1;refine#[_,Tt,by rw[hl,I];exact zsz (Nat.lt_of_le_of_lt (Nat.le_add_left i lo) hk) (by rw[ap];exact qnp ar (by decide)),_,ak,qs++[(x,zs[lo+i]'hk)],((Hs.same (au av)).keep kp).snoc (kp _ _ ak),by simp[I],?_,aX (sm.trans (au av)) hD];intro e he
       rcases qnw.mp he with z|z
       ·exact aa e z
       ·simp at z;subst z;refine#[an.mem_iff.mp (qm6 c6),an.mem_iff.mp (qm6 b6),λz=>hj ?_];simp only at z;rw[<- z] at b6;exact yD c8 c6 b6
      ·rintro J O ⟨⟨o,rfl⟩,r,qs,zW,Hs,I,aa,sm⟩;left;simp at I;have br:qs.length<=m:=by rw[I,ap];exact qnp (Nat.sub_le ..) bc
       have G4:gQ O p:=by
        obtain⟨u1,u2,u3,u4⟩:=wD;exact#[u1,u2,sm _ _ u3,u4]
       exact c2 _ _ #[_,_,D,r,qs,rfl,gQ.none wW wD hD,zW,Hs,#[qnp br (qnp h9 (by decide)),aa],br,sm _ _ ai,G4,wW.same sm]
     ·left;exact c2 _ _ #[_,_,L,[],[],rfl,Y,Jz,#[rfl,by simp],#[by simp,by simp],by simp,ai,wD,wW]
   ·left;exact hN _ _ #[_,_,L,[],[],rfl,gQ.none b0 pC hL,ak,#[rfl,by simp],#[by simp,by simp],by simp,bQ SX hL,pC.upd (pC.ne hL),b0.same (au hL)]
def qis{m:Str}{u v:V} (f:¬m = "names") (e:¬m = "pairs"):∀p∈([("names",u),("pairs",v)]:List (Str×V)),¬m=p.1:=λp c=>by
 simp at c
 rcases c with rfl|rfl
 ·exact f
 ·exact e
theorem fP.same{C:J9}{H c:Hp}{o:J9}{xs:QAH}{ps:QAD}(h:fP C H o xs ps)(s:Same H c):fP C c o xs ps:=by
 obtain⟨r,n,m,e,p,l,j,i,f⟩:=h.ex;exact#[#[r,n,m,e,s _ _ p,s _ _ l,s _ _ j,bI.same i s,f]]
theorem fP.ins{C:J9}{H:Hp}{o:J9}{xs:QAH}{ps:QAD}(h:fP C H o xs ps){m:Str} (i:¬m = "names") (f:¬m = "pairs"):∃c fs,H o=some (.ins C c fs)/\∀p∈fs,¬m=p.1:=by
 obtain⟨c,n,l,j,e,_⟩:=h.ex;exact#[c,_,e,qis i f]
def wB:¬(("ties" : Str) = "names")/\¬(("ties" : Str) = "pairs"):=by symm
def gH:¬(("points" : Str) = "names")/\¬(("points" : Str) = "pairs"):=by symm
def Dh:¬(("many" : Str) = "names")/\¬(("many" : Str) = "pairs"):=by symm
def Gh(C:J9):Sp:=λj H Q _=>∃o d i f h,j=[.ref o,.ref d]/\fP C H o i f/\qd_ H d h/\∀l e c,H l=none->c l=some (.lst e)->dg c e (aD h f 0)->e.length<=40->Same H c->Q (.ref l) c
def oX(T:Txt K mg a):bT P w K mg base gR 2 a.d7 a.jP ["web", "fixed"] (Gh a.b_):=by
 exists T.je.oE,g8
 ·obtain⟨o,d,xs,C,B,rfl,_⟩:=h;rfl
 ·obtain⟨o,d,xs,C,B,rfl,hw,af,q⟩:=h;refine#[_,(aA (bF (i:=2) g8.nd rfl (Or.inl rfl) (cN ao))
   (aA (gU qnS rfl (PI.eqv (vL (K:=K) rfl rfl T.Rf.enumerate (aj (PE.eqv (iU (aJ 0) T.mU T.tU (vh T) hr.d T.tG .nil bB) (iY _ _ _ _ _ _)) ao)) (nJ _ _)) (PG.eqv (c7 (K:=K) (n:=2) rfl rfl (fL.eqv (aY (aL (i:=3) g8.nd rfl (Or.inl rfl)) (fL.eqv (aY (PG.eqv (c7 (K:=K) (n:=2) rfl rfl (fL.eqv (aY (aL (i:=4) g8.nd rfl (Or.inl rfl)) (fL.eqv (aY (aL (i:=5) g8.nd rfl (Or.inl rfl)) (fL.mono cH dJ)) (aZ _ _))) (aZ _ _))) (dj _ _ _)) (fL.mono cH dJ)) (aZ _ _))) (aZ _ _))) (dj _ _ _))
   (aA (bY (aQ gY (PE.eqv (Oo (Ie hr) (aJ 1) (aJ 3) aG #[rfl,rfl,rfl,rfl]) (IV _ _ _)) aG (bJ _)) (aC (cQ (iT (K:=K) rfl qnu qnQ qnR dM (aJ 2) (aj (ji (aj (aJ 3) (aj (aJ 4) (aj (aJ 5) ao)))) ao)))) bA)
   (aC (bY (aQ gY (PE.eqv (Oo (Ie hr) (aJ 1) (aJ 3) aG #[rfl,rfl,rfl,rfl]) (IV _ _ _)) aG (bJ _)) (aC (cQ (iT (K:=K) rfl qnu qnQ qnR dM (aJ 2) (aj (ji (aj (aJ 3) (aj (aJ 5) (aj (aJ 4) ao)))) ao)))) bA))))
   (aC (bh (aJ 2))))),?_]
  obtain⟨dx,fs,hi,ae⟩:=hw.ins wB.1 wB.2;obtain⟨_,_,_,_,_,_,_,_,rJ⟩:=hw.ex;left;intro L Y;refine#[_,_,bQ hi Y,ae,o,xs,C,rfl,hw.same (au Y),λu l m Tv=>?_];have sa:Same H (upd (upd H L (.lst [])) u (.lst l)):=(au Y).trans (au m);have eL:upd (upd H L (.lst [])) u (.lst l) L=some (.lst []):=bQ ak m;have e2:upd (upd H L (.lst [])) u (.lst l) u=some (.lst l):=ak;have A_:=bI.same Tv (au (o:=HO.lst l) m);have ag:L≠u:=λz=>by subst z;rw[ak] at m;cases m
  generalize upd (upd H L (.lst [])) u (.lst l)=H1 at sa eL e2 A_⊢;obtain⟨ai,hd,hv⟩:=af;have dL:d≠L:=aU hd Y;left;refine#[#[_,aV.of e2],frE l (λi D H'=>(∃v3 v4 v5 c,D=[some (.ref o),some (.ref d),some (.ref L),v3,v4,v5]/\H' L=some (.lst c)/\dg H' c (aD B (C.take i) 0)/\c.length<=2 * i)/\H' u=some (.lst l)/\bI H' l C/\Same H H') #[#[_,_,_,[],rfl,eL,bL.nil,by simp],e2,A_,sa] (λi D H' _ h=>aV.of h.2.1) ?_ ?_]
  ·rintro i x t D H2 hi ht ⟨⟨v3,v4,v5,c,rfl,v,p,r⟩,aa,j,s2⟩;have ab:i<l.length:=(qm2.mp hi).1;have tl:=j.1;obtain⟨e,he,tt,rfl,ac⟩:=j.at hi;rw[mZ B he];unfold gK;left;have st:Same H2 (upd H2 t (.tup [.int i,.ref tt])):=au ht;refine#[_,cO.of ak,rfl,_,cO.of (st _ _ ac),rfl,isD (st _ _ (s2 _ _ hd)),_,qhH i (st _ _ (s2 _ _ hd)),?_];have tL:L≠t:=aU v ht;have O:=st _ _ v;have Ht:=st _ _ aa;have A_:=bI.same j st;have s3:=s2.trans st;have I:=dg.keep p (L2.dh.of st);generalize upd H2 t (.tup [.int i,.ref tt])=f at O Ht A_ s3 I⊢;have ah:60<=sizeLine:=by decide
   have add:∀(f:Hp)(c:QA0)(S:List gJ)(n:Nat)(x y:Str)(b:J9),f L=some (.lst c)->dg f c S->f b=none->f u=some (.lst l)->bI f l C->Same H f->
     (upd (upd f b (.tup [.int n,.str x,.str y])) L (.lst (c++[.ref b])) L=some (.lst (c++[.ref b]))/\dg (upd (upd f b (.tup [.int n,.str x,.str y])) L (.lst (c++[.ref b]))) (c++[.ref b]) (S++[(n,x,y)]))/\upd (upd f b (.tup [.int n,.str x,.str y])) L (.lst (c++[.ref b])) u=some (.lst l)/\bI (upd (upd f b (.tup [.int n,.str x,.str y])) L (.lst (c++[.ref b]))) l C/\Same H (upd (upd f b (.tup [.int n,.str x,.str y])) L (.lst (c++[.ref b]))):=by
    intro f c S n x y b O p J m j s3;have sb:Same f (upd f b (.tup [.int n,.str x,.str y])):=au J;have kp:L2.dh (upd f b (.tup [.int n,.str x,.str y])) (upd (upd f b (.tup [.int n,.str x,.str y])) L (.lst (c++[.ref b]))):=L2.dh.set (sb _ _ O) (by intro z e;cases e);refine#[#[ak,bL.snoc (dg.keep (dg.keep p (L2.dh.of sb)) kp) #[b,rfl,kp _ _ ak]],by rw[aF ag.symm];exact sb _ _ m,(bI.same j sb).keep kp,aX (s3.trans sb) Y]
   rw[hv i,Ov];left;refine DW (λD U=>(∃c,D=[some (.ref o),some (.ref d),some (.ref L),some (.int i),some (.str e.1),some (.str e.2)]/\U L=some (.lst c)/\dg U c (aD B (C.take i) 0++if (B i).getD 0=0 then [(i,e.1,e.2)] else [])/\c.length<=2 * i+1)/\U u=some (.lst l)/\bI U l C/\Same H U) ?_ ?_
   ·rintro D U ⟨⟨c,rfl,Jz,a0,G⟩,XM,XQ,s4⟩;left;refine#[isD (s4 _ _ hd),_,qhH i (s4 _ _ hd),?_];rw[hv i,Ov];left;refine cZ.of (λh=>?_) (λh=>?_)
    ·have M:(B i).getD 1=1:=by simpa using h
     left;refine#[#[_,aV.of Jz],λb J=>?_];refine#[_,bQ Jz J,zs1 G ab tl rJ,?_];obtain⟨⟨k1,k2⟩,k3,k4,k5⟩:=add U c _ i e.2 e.1 b Jz a0 J XM XQ s4;refine#[#[_,k1,?_,by rw[qnT];exact zs2 G],k3,k4,k5];rw[if_pos M,<- qns];exact k2
    ·have M:¬(B i).getD 1=1:=by simpa using h
     left;refine#[#[_,Jz,?_,Nat.le_of_succ_le (zs2 G)],XM,XQ,s4];rw[if_neg M,qnC];exact a0
   ·intro N hN;refine cZ.of (λh=>?_) (λh=>?_)
    ·have M:(B i).getD 0=0:=by simpa using h
     left;refine#[#[_,aV.of O],λb J=>?_];refine#[_,bQ O J,zs1 (qoz r) ab tl rJ,?_];obtain⟨⟨k1,k2⟩,k3,k4,k5⟩:=add f c _ i e.1 e.2 b O I J Ht A_ s3;refine hN _ _ #[#[_,rfl,k1,?_,by rw[qnT];exact Nat.succ_le_succ r],k3,k4,k5];rw[if_pos M];exact k2
    ·have M:¬(B i).getD 0=0:=by simpa using h
     left;refine hN _ _ #[#[_,rfl,O,?_,qoz r],Ht,A_,s3];rw[if_neg M,qnC];exact I
  ·rintro D H2 ⟨⟨v3,v4,v5,c,rfl,v,p,r⟩,aa,j,s2⟩;left;rw[j.1,qnn] at p;have tl:=j.1;exact q L c H2 Y v p (zs3 r tl rJ) s2
def Hu:Sp:=λi H Q _=>∃(start:Str)(l:J9)(h:QA0)(S:List gJ)(f:QAH),i=[.str start,.ref l]/\H l=some (.lst h)/\dg H h S/\start∈f/\(∀s∈S,s.2.2∈f)/\f.length<=9/\
 ∀(d:J9)(c:List (Key×V))(R:BR)(e:Hp),H d=none->e d=some (.dK c)->fY e c R->Rb S start R.length R->qlD S start R->rW H c->Same H e->Q (.ref d) e
def Hv(T:Txt K mg a):bT P w K mg base gR 1 a.fC a.lB ["start", "steps"] Hu:=by
 exists T.tD.oE,dw
 ·obtain⟨start,l,tv,S,xs,rfl,_⟩:=h;rfl
 ·obtain⟨start,l,tv,S,xs,rfl,hl,hS,af,Nk,h9,q⟩:=h;refine#[_,(aA (bF (i:=2) dw.nd rfl (Or.inl rfl) (qcQ (qad (aJ 0) (cN ao) qcP) rfl rfl (by simp) (by decide)))
   (aA (bF (i:=3) dw.nd rfl (Or.inl rfl) (cN (aj (aJ 0) ao)))
   (aA (bF (i:=4) dw.nd rfl (Or.inl rfl) aG)
   (aA (Nz qnS (aQ uM (aJ 4) (aH (bN (K:=K) rfl) rfl T.nm.len qnd (aj (aJ 3) ao)) (bJ _))
   (aA (bF (i:=5) dw.nd rfl (Or.inl rfl) (bC (bD (K:=K) rfl) (aJ 3) (aJ 4) (λ_ _=>rfl)))
   (aA (gU qnS rfl (PI.eqv (bO (K:=K) rfl (aJ 1)) (bK _ _)) (PG.eqv (c7 (K:=K) (n:=3) rfl rfl (fL.eqv (aY (aL (i:=6) dw.nd rfl (Or.inl rfl)) (fL.eqv (aY (aL (i:=7) dw.nd rfl (Or.inl rfl)) (fL.eqv (aY (aL (i:=8) dw.nd rfl (Or.inl rfl)) (fL.mono cH dJ)) (aZ _ _))) (aZ _ _))) (aZ _ _))) (dj _ _ _))
   (aC (bY (PW.pt (nY (aQ gY (aJ 7) (aJ 5) (bJ _)) (rM (Vk (PC.eqv (W3 (Ie hr) (aJ 8) (aJ 2)) (R8 _ _)))))) (aA (PS.eqv (qcO (Ie hr) (aJ 2) (aJ 8) (cX vM (PE.eqv (qcN (Ie hr) (aJ 2) (aJ 5) (λ_ _=>rfl)) (qaU _ _)) (cN (aj (aJ 6) ao))) rfl) (qaV _ _ _))
   (aC (cQ (iT (K:=K) rfl qnu qnQ qnR dM (aJ 3) (aj (aJ 8) ao))))) bA)))
   (aC (PS.mono (Zi (i:=4) dw.nd rfl (Or.inl rfl) aG Vp) qaL)))))
   (aC (bh (aJ 2))))))),?_]
  left;intro d hd u I;refine#[bQ ak I,[(Sum.inr start,.ref u)],rfl,by simp,λY v=>?_];have em:xG [] [((Sum.inr start:Key),V.ref u)]=[(Sum.inr start,.ref u)]:=rfl;rw[em] at v⊢;have b8:d≠u:=λz=>by subst z;rw[ak] at I;cases I
  have ar:H u=none:=bZ (au hd) I;have sa:Same H (upd (upd (upd H d (.dK [])) u (.lst [])) d (.dK [(Sum.inr start,.ref u)])):=aX ((au hd).trans (au I)) hd;have ap:H Y=none:=bZ sa v;have e1:upd (upd (upd H d (.dK [])) u (.lst [])) d (.dK [(Sum.inr start,.ref u)]) d=some (.dK [(Sum.inr start,.ref u)]):=ak;have e2:upd (upd (upd H d (.dK [])) u (.lst [])) d (.dK [(Sum.inr start,.ref u)]) u=some (.lst []):=by rw[aF b8.symm];exact ak
  generalize upd (upd (upd H d (.dK [])) u (.lst [])) d (.dK [(Sum.inr start,.ref u)])=H1 at sa v e1 e2⊢;have sb:=sa.trans (au (o:=.lst [.str start]) v);have dr:d≠Y:=aU e1 v;have av:rW H [((Sum.inr start:Key),V.ref u)]:=by
   intro kv ah q hq;simp at ah;subst ah;cases hq;exact ar
  refine whB (λO N=>∃(n:Nat)(R:BR)(f:List (Key×V))(o5 o6 o7 o8:Option V),O=[some (.str start),some (.ref l),some (.ref d),some (.ref Y),some (.int n),o5,o6,o7,o8]/\N d=some (.dK f)/\fY N f R/\N Y=some (.lst (R.map λL=>.str L.1))/\Rb S start n R/\Aj S start n=R/\rW H f/\n<=R.length/\Same H N)
   (λO _=>qhI 4 O)
   #[0,[(start,[])],[(Sum.inr start,.ref u)],none,none,none,none,rfl,bQ e1 v,#[rfl,?_],ak,Rb.begin S start,rfl,av,by simp,sb] ?_ O_
  ·intro i kv L h1 h2;have hi:i=0:=by have:=(qm2.mp h1).1;simp at this;omega
   subst hi;simp at h1 h2;subst h1 h2;exact#[rfl,u,rfl,bQ e2 v]
  ·rintro O H2 ⟨n,R,f,o5,o6,o7,o8,rfl,al,am,ac,hB,hF,hN,bb,s2⟩;have b0:R.length<=9:=by
    have h1:=cV hB.nd (hB.sub af Nk);simp at h1;lia
   left;refine#[_,.inl (aV.of ac),cZ.of (λae=>?_) (λae=>?_)]
   ·have ab:n<R.length:=by simpa using ae
    left;obtain⟨⟨hh,U⟩,hR⟩:∃x,R[n]? = some x:=#[R[n],by simp[ab]];refine#[_,.inl (aV.of ac),.str hh,aO (by rw[qnr,hR];rfl),#[_,aV.of (s2 _ _ hl)],frL tv (λj O N=>∃(R:BR)(f:List (Key×V))(o6 o7 o8:Option V),O=[some (.str start),some (.ref l),some (.ref d),some (.ref Y),some (.int n),some (.str hh),o6,o7,o8]/\N d=some (.dK f)/\fY N f R/\N Y=some (.lst (R.map λL=>.str L.1))/\mF S (S.take j) start n hh U R/\yX (S.take j) hh U (Aj S start n)=R/\rW H f/\Same H N) #[R,f,o6,o7,o8,rfl,al,am,ac,mF.enter hB hR,hF,hN,s2] (λj O N _ h=>by
     obtain⟨_,_,_,_,_,_,_,_,_,_,_,_,z⟩:=h;exact aV.of (z _ _ hl)) ?_ ?_]
    ·rintro j x O H3 hj ⟨R,f,o6,o7,o8,rfl,y,m,G,B,Rg,J,s3⟩;obtain⟨⟨M,so,D⟩,hs,t,rfl,ht⟩:=hS.at hj;have b0:R.length<=9:=by
      have h1:=cV B.bf.nd (B.bf.sub af Nk);simp at h1;lia
     have aa:=Sd (S.take j) (M,so,D) hh U (Aj S start n);rw[Rg] at aa;rw[take_one hs];left;refine#[_,cO.of (s3 _ _ ht),rfl,?_];left
     by_cases a0:so=hh
     ·subst a0;refine cZ.pos (by simp) ?_;left;refine#[_,qfF D y,?_];rw[m.qlf B.bf.nd];refine cZ.of (λhg=>?_) (λhg=>?_)
      ·have C:¬D∈R.map (·.1):=by simpa using hg
       obtain⟨pw,ay,an⟩:=m.some B.bf.nd (qm6 B.hr);have ba:=B.bf.qld (qm6 B.hr);have b9:=qoL xH;left;refine#[.ref pw,?_,λb hb=>?_]
       ·have:=qfF so y;rw[ay] at this;exact this
       refine#[_,bQ an hb,_,ak,by simp;lia,λc hc=>?_];have s4:Same H3 (upd (upd H3 b (.lst [.int M])) c (.lst (U.map (λn:Nat=>V.int n)++[.int M]))):=(au hb).trans (au hc);have ec:upd (upd H3 b (.lst [.int M])) c (.lst (U.map (λn:Nat=>V.int n)++[.int M])) c=some (.lst (U.map (λn:Nat=>V.int n)++[.int M])):=ak;generalize upd (upd H3 b (.lst [.int M])) c (.lst (U.map (λn:Nat=>V.int n)++[.int M]))=H4 at s4 ec⊢;have ai:=s4 _ _ y;have Jy:=s4 _ _ G;have bc:=m.len;have b6:putK f (Sum.inr D) (.ref c)=f++[(Sum.inr D,.ref c)]:=Z9 _ (m.none C);refine#[_,qlc D ai ⋯,?_];rw[b6];have Rh:upd H4 d (.dK (f++[(Sum.inr D,.ref c)])) Y=some (.lst (R.map λL=>.str L.1)):=by rw[aF dr.symm];exact Jy
       have aw:∀w:List Nat,R.map (λL=>V.str L.1)≠w.map (λn:Nat=>V.int n):=λw e=>by
        have ax:=B.bf.st;cases R with
        |nil=>simp at ax
        |cons r R=>
         cases w with
         |nil=>simp at e
         |cons n w=>simp at e
       have kp:∀(p:J9)(w:wX),H4 p=some (.lst (w.map λn:Nat=>V.int n))->upd (upd H4 d (.dK (f++[(Sum.inr D,.ref c)]))) Y (.lst (R.map (λL=>V.str L.1)++[.str D])) p=some (.lst (w.map λn:Nat=>V.int n)):=λp w e=>by
        have h1:p≠d:=λz=>by subst z;rw[ai] at e;cases e
        have h2:p≠Y:=λz=>by subst z;rw[Jy] at e;exact aw w (HO.lst.inj (qnB e))
        rw[aF h2,aF h1];exact e
       have b7:H4 c=some (.lst ((U++[M]).map λn:Nat=>V.int n)):=by rw[ec];simp
       refine#[#[_,aV.of Rh],_,Rh,by simp;lia,R++[(D,U++[M])],_,by rw[aF dr];exact ak,?_,by rw[ak];simp,B.add (qm6 hs) C,aa.trans (if_pos #[rfl,C]),J.snoc (bZ (s3.trans (au hb)) hc),aX (aX (s3.trans s4) hd) ap];refine fY.snoc (fY.keep (H:=H4) (fY.keep m λp w e=>s4 _ _ e) kp) (kp _ _ b7)
      ·have C:D∈R.map (·.1):=by simpa using hg
       left;exact#[R,f,y,m,G,B.skip λ_=>C,aa.trans (if_neg (λz=>z.2 C)),J,s3]
     ·refine cZ.neg (by simp[a0]) ?_;left;exact#[R,f,y,m,G,B.skip λz=>absurd z a0,aa.trans (if_neg (λz=>a0 z.1)),J,s3]
    ·rintro O H3 ⟨R,f,o6,o7,o8,rfl,y,m,G,B,Rg,J,s3⟩;have az:S.take tv.length=S:=by rw[hS.1,qnn]
     rw[az] at B Rg;left;have ag:=(qm2.mp B.hr).1;refine#[#[n+1,⋯,R,f,y,m,G,B.leave,(Xf (by rw[hF];exact hR)).trans Rg,J,ag,s3],?_];simp[qhI];lia
   ·have ab:¬n<R.length:=by simpa using ae
    have en:n=R.length:=⋯
    subst en;left;exact q d f R H2 hd al am hB hF hN s2
def Gi(C:J9):Sp:=λh H Q _=>∃(o:J9)(start:Str)(l:J9)(f:QA0)(S:List gJ)(c:QAH)(i:QAD),h=[.ref o,.str start,.ref l]/\fP C H o c i/\H l=some (.lst f)/\dg H f S/\start∈c/\(∀s∈S,s.2.2∈c)/\c.length<=9/\
 ∀(r:J9)(e:Hp),H r=none->e r=some (.lst ((mQ S c start).map V.str))->Same H e->Q (.ref r) e
def vm(T:Txt K mg a):bT P w K mg base gR 2 a.d8 a.jQ ["web", "start", "steps"] (Gi a.b_):=by
 exists T.lJ.oE,uR
 ·obtain⟨o,start,l,N,S,xs,O,rfl,_⟩:=h;rfl
 ·obtain⟨o,start,l,N,S,xs,O,rfl,hw,hl,hS,r,Nk,h9,q⟩:=h;refine#[_,(aA (bF (i:=3) uR.nd rfl (Or.inr rfl) (PE.eqv (aN (Hv T) hr.d rfl T.zH T.tD.kp T.zG .nil bB (aj (aJ 1) (aj (aJ 2) ao))) (aK _ _ _)))
   (aC (bh (cC rfl rfl (show aR (aB lq) _ ["web", "start", "steps", "ways"] ["point"] [3] ["point", "ways"] from by rfl') rfl (PI.eqv (bO (K:=K) rfl (PE.eqv (iU (aJ 0) T.mU T.iM (jg T) hr.d T.iK .nil bB) (iY _ _ _ _ _ _))) (bK _ _)) (λC s H fp U=>(aL (i:=0) (show(["point", "ways"]:QAH).Nodup by symm) rfl (Or.inl rfl))) (λC s H fp U=>(gO (Vk (PC.eqv (qfz (Ie hr) (aJ 0) (aJ 1)) (qda _ _))))) (λC s H fp U=>(aJ 0)))))),?_]
  left;refine#[start,l,N,S,xs,rfl,hl,hS,r,Nk,h9,λd aa R H1 hd I hW hB _ _ n=>?_];obtain⟨dx,fs,z,u⟩:=(hw.same n).ins gH.1 gH.2;left;refine#[_,_,z,u,o,xs,O,rfl,hw.same n,λl2 v=>?_];exists H1,l2,(.lst (xs.map V.str)),m,e2,H2,v;have G:=m _ _ I;have J:=hW.keep λp w e=>m _ _ e;have a0:=qoL xH;left;refine#[#[_,aV.of e2],λD L=>Kv (xs.map V.str) (λi j M=>(∃o,j=[o,some (.ref d)])/\M D=some (.lst ((mQ S (xs.take i) start).map V.str))/\Same H2 M) #[#[_,rfl],ak,au L] (λi j M _ h=>aV.of (h.2.2 _ _ e2)) ?_ ?_]
  ·rintro i x j H3 z ⟨⟨o',rfl⟩,c,f⟩;obtain⟨y,Y,rfl⟩:=kE z;have ab:i<xs.length:=(qm2.mp Y).1;left;refine#[_,qfF y (f _ _ G),?_];rw[J.has hB.nd,qaj Y (decide (y∈R.map (·.1))) (by rw[qol];exact hB.iff y)];refine cZ.of (λh=>?_) (λh=>?_)
   ·rw[if_pos h];left;have B:=KH (S:=S) (xs:=xs.take i) (x:=start);rw[qni] at B;refine#[_,c,by simp;lia,by simp[ak],aX f L]
   ·rw[if_neg (by rw[h];exact qnq),qnC];left;exact#[c,f]
  ·rintro j H3 ⟨⟨o',rfl⟩,c,f⟩;rw[qm7,qnn] at c;left;exact q D H3 (bZ (n.trans m) L) c ((n.trans m).trans f)
def Di{xs:QAH}{ps:QAD}{fx:sX}(h:tW xs ps):∀s∈aD fx ps 0,s.2.2∈xs:=by
 intro s i;obtain⟨j,e,m,l⟩:=fZ.mp i;obtain⟨f,c,_⟩:=h.ok e (qm6 m);obtain⟨_,q|q⟩:=gW.mp l
 ·rw[q.2.2];exact c
 ·rw[q.2.2];exact f
def Qw(C:J9):Sp:=λi H Q _=>∃(o:J9)(c:QAH)(h:QAD),i=[.ref o]/\fP C H o c h/\Qp c/\tW c h/\
 ∀(l:J9)(f:QA0)(e:Hp),H l=none->e l=some (.lst f)->rQ e f (Cr (aD (λ_=>none) h 0) c c)->(∀v∈f,∀b,v = .ref b->H b=none)->Same H e->Q (.ref l) e
def Qx(T:Txt K mg a):bT P w K mg base gR 3 a.g_ a.pU ["web"] (Qw a.b_):=by
 exists T.xV.oE,pR
 ·obtain⟨o,xs,n,rfl,_⟩:=h;rfl
 ·obtain⟨o,xs,n,rfl,hw,hX,am,q⟩:=h;refine#[_,(aA (bF (i:=1) pR.nd rfl (Or.inl rfl) (PE.eqv (aN (oX T) hr.d rfl T.lH T.je.kp T.lG .nil bB (aj (aJ 0) (aj Om ao))) (aK _ _ _)))
   (aA (bF (i:=2) pR.nd rfl (Or.inl rfl) (cN ao))
   (aA (gU qnS rfl (PI.eqv (bO (K:=K) rfl (PE.eqv (iU (aJ 0) T.mU T.iM (jg T) hr.d T.iK .nil bB) (iY _ _ _ _ _ _))) (bK _ _)) (aL (i:=3) pR.nd rfl (Or.inr rfl))
   (aC (bY (cM (bW (aH (IW rfl) rfl T.Rf.any Im (aj (cC rfl rfl (show aR (aB sE) _ ["web", "steps", "told", "point"] ["cluster"] [3] ["cluster", "point"] from by rfl') rfl (PI.eqv (bO (K:=K) rfl (aJ 2)) (bK _ _)) (λC s H fp pn=>(aL (i:=0) (show(["cluster", "point"]:QAH).Nodup by symm) rfl (Or.inl rfl))) (λC s H fp pn=>cR) (λC s H fp pn=>(cI (oA (K:=K) rfl) (aJ 1) (aJ 0) rfl))) ao)))) (aC (cQ (iT (K:=K) rfl qnu qnQ qnR dM (aJ 2) (aj (PE.eqv (aN (vm T) hr.d rfl T.qO T.lJ.kp T.qN .nil bB (aj (aJ 0) (aj (aJ 3) (aj (aJ 1) ao)))) (aK _ _ _)) ao)))) bA)))
   (aC (bh (aJ 2)))))),?_]
  have Nk:=Di (fx:=λ_=>none) am;left;intro d hd;refine#[o,d,xs,n,λ_=>none,rfl,hw.same (au hd),Ou ak,λl tv U al ai hS _ ab=>?_];have Y:=(au hd).trans ab;have aw:=bZ (au hd) al;left;intro L hL;obtain⟨dx,fs,hi,ag⟩:=(hw.same (Y.trans (au (o:=HO.lst []) hL))).ins gH.1 gH.2;refine#[_,_,hi,ag,o,xs,n,rfl,hw.same (Y.trans (au hL)),λN I=>?_];have s2:Same U (upd (upd U L (.lst [])) N (.lst (xs.map V.str))):=(au hL).trans (au I);have e2:upd (upd U L (.lst [])) N (.lst (xs.map V.str)) N=some (.lst (xs.map V.str)):=ak;have eL:upd (upd U L (.lst [])) N (.lst (xs.map V.str)) L=some (.lst []):=bQ ak I;have af:N≠L:=λz=>by subst z;rw[ak] at I;cases I
  generalize upd (upd U L (.lst [])) N (.lst (xs.map V.str))=H2 at s2 e2 eL⊢;have ar:=bZ Y hL;have av:=qoL xH;have l9:=hX.len;left;refine#[#[_,aV.of e2],frL (xs.map V.str) (λi G J=>(∃v3 p,G=[some (.ref o),some (.ref l),some (.ref L),v3]/\J L=some (.lst p)/\rQ J p (Cr (aD (λ_=>none) n 0) xs (xs.take i))/\∀v∈p,∀b,v = .ref b->H b=none/\b≠L)/\J N=some (.lst (xs.map V.str))/\Same U J) #[#[_,[],rfl,eL,bL.nil,by simp],e2,s2] (λi G J _ h=>aV.of h.2.1) ?_ ?_]
  ·rintro i x G H3 hi ⟨⟨v3,p,rfl,Qv,f,u⟩,Ht,M⟩;obtain⟨y,hy,rfl⟩:=kE hi;have ay:i<xs.length:=(qm2.mp hy).1;have aa:=Ow (S:=aD (λ_=>none) n 0) (xs:=xs) (xs.take i) [];have ac:(Cr (aD (λ_=>none) n 0) xs (xs.take i)).length<=i:=by
    unfold Cr;rw[qni] at aa;simp at aa;lia
   have a0:=f.1;rw[W6 hy];generalize az:Cr (aD (λ_=>none) n 0) xs (xs.take i)=B at f ac a0⊢;left;refine#[#[_,aV.of Qv],λD hD=>Kv p (λj G J=>(∃o',G=[o',some (.str y)])/\J D=some (.lst ((B.take j).map λc=>V.bl (decide (y∈c))))/\Same H3 J) #[#[_,rfl],ak,au hD] (λj G J _ h=>aV.of (h.2.2 _ _ Qv)) ?_ ?_]
   ·rintro j x G H4 hj ⟨⟨o',rfl⟩,qD,m⟩;obtain⟨c,hc,t,rfl,ht⟩:=f.at hj;have ax:j<B.length:=(qm2.mp hc).1;left;refine#[_,.inl (aV.of (m _ _ ht)),rfl,qnk.mp (bM c),_,qD,by simp;lia,?_,aX m hD];rw[ak,bx,take_one hc];simp
   ·rintro G H4 ⟨⟨o',rfl⟩,qD,m⟩;rw[a0,qnn] at qD;left;refine#[_,qD,_,kj _ _,?_];have ea:(B.map λc=>decide (y∈c)).any id=B.any λc=>decide (y∈c):=by rw[List.any_map];rfl
    rw[ea];have Jz:=m _ _ Qv;refine cZ.of (λh=>?_) (λh=>?_)
    ·have h':(B.any λc=>decide (y∈c))=false:=by simpa using h
     have ef:fO (aD (λ_=>none) n 0) xs B y=B++[mQ (aD (λ_=>none) n 0) xs y]:=by unfold fO;rw[if_neg (by rw[h'];exact qnq)]
     rw[ef];have ah:=m _ _ (M _ _ ai);have an:=dg.keep hS (L2.dh.of (M.trans m));left;refine#[#[_,aV.of Jz],o,y,l,tv,aD (λ_=>none) n 0,xs,n,rfl,hw.same ((Y.trans M).trans m),ah,an,qm6 hy,Nk,l9.2,λr H5 O Rh s5=>?_];have ap:=s5 _ _ Jz;have rL:r≠L:=λz=>by subst z;rw[Jz] at O;cases O
     have s6:Same U (upd H5 L (.lst (p++[.ref r]))):=aX ((M.trans m).trans s5) hL;have ae:N≠L:=af;left;refine#[_,ap,⋯,#[_,ak,?_,?_],by rw[aF ae];exact s5 _ _ (m _ _ Ht),s6]
     ·have kp:∀v c,v∈p->qai H3 v c->qai (upd H5 L (.lst (p++[.ref r]))) v c:=λv c hv ⟨t,e,ht⟩=>#[t,e,by rw[aF (u v hv t e).2];exact s5 _ _ (m _ _ ht)];refine bL.snoc #[f.1,λj v c h1 h2=>kp v c (qm6 h1) (f.2 j v c h1 h2)] #[r,rfl,by rw[aF rL];exact Rh]
     ·intro v hv b e
      rcases qnw.mp hv with z|z
      ·exact u v z b e
      ·simp at z;rw[z] at e;cases e;exact#[bZ ((Y.trans M).trans m) O,rL]
    ·have h':(B.any λc=>decide (y∈c))=true:=by simpa using h
     have ef:fO (aD (λ_=>none) n 0) xs B y=B:=by unfold fO;rw[if_pos h']
     rw[ef];left;exact#[#[p,Jz,f.same m,u],m _ _ Ht,M.trans m]
  ·rintro G H3 ⟨⟨v3,p,rfl,Qv,f,u⟩,Ht,M⟩;rw[qm7,qnn] at f;left;exact q L p H3 ar Qv f (λv hv b e=>(u v hv b e).1) (Y.trans M)
def qdG(C:J9):Sp:=λj H Q _=>∃(o:J9)(e:QAH)(h:QAD),j=[.ref o]/\fP C H o e h/\Qp e/\tW e h/\
 ∀(l:J9)(i:QA0)(f:Hp),H l=none->f l=some (.lst i)->∀(c:List (Addr×Nat×QAH)),bL Ae f i c->c.map (·.2)=jL h e->(c.map (·.1)).Nodup->(∀z∈c,H z.1=none/\z.1≠l)->Same H f->Q (.ref l) f
def qdH(T:Txt K mg a):bT P w K mg base gR 3 a.uV a.CW ["web"] (qdG a.b_):=by
 exists T.Td.oE,sS
 ·obtain⟨o,f,c,rfl,_⟩:=h;rfl
 ·obtain⟨o,f,c,rfl,hw,hX,af,q⟩:=h;refine#[_,(aA (bF (i:=1) sS.nd rfl (Or.inl rfl) (PE.eqv (aN (oX T) hr.d rfl T.lH T.je.kp T.lG .nil bB (aj (aJ 0) (aj Om ao))) (aK _ _ _)))
   (aA (bF (i:=2) sS.nd rfl (Or.inl rfl) (cN ao))
   (aA (gU qnS rfl (PI.eqv (vL (K:=K) rfl rfl T.Rf.enumerate (aj (PE.eqv (iU (aJ 0) T.mU T.tU (vh T) hr.d T.tG .nil bB) (iY _ _ _ _ _ _)) ao)) (nJ _ _)) (PG.eqv (c7 (K:=K) (n:=2) rfl rfl (fL.eqv (aY (aL (i:=3) sS.nd rfl (Or.inr rfl)) (fL.eqv (aY (PG.eqv (c7 (K:=K) (n:=2) rfl rfl (fL.eqv (aY (aL (i:=4) sS.nd rfl (Or.inl rfl)) (fL.eqv (aY (aL (i:=5) sS.nd rfl (Or.inl rfl)) (fL.mono cH dJ)) (aZ _ _))) (aZ _ _))) (dj _ _ _)) (fL.mono cH dJ)) (aZ _ _))) (aZ _ _))) (dj _ _ _))
   (aA (bF (i:=6) sS.nd rfl (Or.inl rfl) (PE.eqv (aN (vm T) hr.d rfl T.qO T.lJ.kp T.qN .nil bB (aj (aJ 0) (aj (aJ 5) (aj (cC rfl rfl (show aR (aB Lx) _ ["web", "steps", "told", "number", "first", "second", "lot"] ["step"] [3] ["step", "number"] from by rfl') rfl (PI.eqv (bO (K:=K) rfl (aJ 1)) (bK _ _)) (λC s H fp pn=>(aL (i:=0) (show(["step", "number"]:QAH).Nodup by symm) rfl (Or.inl rfl))) (λC s H fp pn=>(gO (aQ jN (bC (bD (K:=K) rfl) (aJ 0) aG (λ_ _=>rfl)) (aJ 1) (bJ _)))) (λC s H fp pn=>(aJ 0))) ao)))) (aK _ _ _)))
   (aC (bY (aQ (pL (K:=K) rfl) (aJ 4) (aJ 6) rfl) (aC (cQ (iT (K:=K) rfl qnu qnQ qnR dM (aJ 2) (aj (ji (aj (aJ 3) (aj (aJ 6) ao))) ao)))) bA))))
   (aC (bh (aJ 2)))))),?_]
  have Nk:=Di (fx:=λ_=>none) af;have bg:50<=sizeLine:=by decide
  have l9:=hX.len;left;intro d hd;refine#[o,d,f,c,λ_=>none,rfl,hw.same (au hd),Ou ak,λl tv H1 bj b9 hS bi ax=>?_];have s1:=(au hd).trans ax;left;intro L hL;obtain⟨dx,fs,hi,b8⟩:=(hw.same (s1.trans (au (o:=HO.lst []) hL))).ins wB.1 wB.2;refine#[_,_,hi,b8,o,f,c,rfl,hw.same (s1.trans (au hL)),λl2 N u Tv=>?_];have s2:Same H1 (upd (upd H1 L (.lst [])) l2 (.lst N)):=(au hL).trans (au u);have e2:upd (upd H1 L (.lst [])) l2 (.lst N) l2=some (.lst N):=ak;have eL:upd (upd H1 L (.lst [])) l2 (.lst N) L=some (.lst []):=bQ ak u;have az:l2≠L:=λz=>by subst z;rw[ak] at u;cases u
  have A_:=bI.same Tv (au (o:=HO.lst N) u);generalize upd (upd H1 L (.lst [])) l2 (.lst N)=H2 at s2 e2 eL A_⊢;have be:=bZ s1 hL;left;refine#[#[_,aV.of e2],frE N (λi M I=>(∃o3 o4 o5 o6 rs J,M=[some (.ref o),some (.ref l),some (.ref L),o3,o4,o5,o6]/\I L=some (.lst rs)/\bL Ae I rs J/\J.map (·.2)=jK (rB c f) (c.take i) 0/\(J.map (·.1)).Nodup/\∀z∈J,H z.1=none/\z.1≠L)/\I l2=some (.lst N)/\bI I N c/\Same H1 I) #[#[_,_,_,_,[],[],rfl,eL,bL.nil,rfl,by simp,by simp],e2,A_,s2] (λi M I _ h=>aV.of h.2.1) ?_ ?_]
  ·rintro i x t M H3 hi ht ⟨⟨o3,o4,o5,o6,rs,J,rfl,Qv,a0,p,U,G⟩,Ht,Y,s3⟩;obtain⟨e,he,tt,rfl,b0⟩:=Y.at hi;have bb:=qm6 he;obtain⟨q1,q2,q3⟩:=af.ok e bb;have bm:i<c.length:=(qm2.mp he).1;have bc:(jK (rB c f) (c.take i) 0).length<=20:=by
    have h1:=lO (W7 c f) (c.take i) 0;rw[qni] at h1;have:=af.len;lia
   have b6:rs.length=(jK (rB c f) (c.take i) 0).length:=by rw[a0.1,<- p,qm7]
   have st:Same H3 (upd H3 t (.tup [.int i,.ref tt])):=au ht;rw[rA _ he];generalize bn:jK (rB c f) (c.take i) 0=cs at p bc b6⊢;left;refine#[_,cO.of ak,rfl,_,cO.of (st _ _ b0),rfl,?_];have Jz:=st _ _ Qv;have XM:=st _ _ Ht;have XQ:=bI.same Y st;have s4:=s3.trans st;have ac:=Ae.same a0 st;generalize upd H3 t (.tup [.int i,.ref tt])=H4 at Jz XM XQ s4 ac⊢;have aw:=s4 _ _ b9;have bd:=dg.keep hS (L2.dh.of s4);refine#[#[_,aV.of aw],λD hD=>Kv tv (λj M I=>(∃o',M=[o',some (.int i)])/\(∃fv,I D=some (.lst fv)/\fv.length<=j/\dg I fv ((((aD (λ_=>none) c 0)).take j).filter (RX i)))/\Same H4 I) #[#[_,rfl],#[[],ak,by simp,bL.nil],au hD] (λj M I _ h=>aV.of (h.2.2 _ _ aw)) ?_ ?_]
   ·rintro j x M H5 hj ⟨⟨o',rfl⟩,⟨fv,zW,ba,B⟩,m⟩;obtain⟨⟨sn,so,sg⟩,hs,t5,rfl,ar⟩:=bd.at hj;have bl:j<tv.length:=(qm2.mp hj).1;rw[take_one hs,qn5];left;refine#[_,.inr (cO.of (m _ _ ar)),_,aO (j:=0) rfl,?_];left
    by_cases ae:sn=i
    ·refine#[false,by simp[ae],cZ.neg rfl ?_];have ef : [((sn,so,sg):gJ)].filter (RX i)=[]:=by simp[RX,ae]
     rw[ef,qnC];left;exact#[#[fv,zW,⋯,B],m]
    ·refine#[true,?_,cZ.pos rfl ?_]
     ·simp;lia
     have ef : [((sn,so,sg):gJ)].filter (RX i)=[(sn,so,sg)]:=by simp[RX,ae]
     rw[ef];left;have kp:L2.dh H5 (upd H5 D (.lst (fv++[.ref t5]))):=L2.dh.set zW (by intro z e;cases e);exact#[_,zW,⋯,#[_,ak,by simp;omega,bL.snoc (dg.keep B kp) #[t5,rfl,kp _ _ (m _ _ ar)]],aX m hD]
   ·rintro M H5 ⟨⟨o',rfl⟩,⟨fv,zW,ba,B⟩,m⟩;rw[hS.1,qnn] at B;left;refine#[o,e.2,D,fv,_,f,c,rfl,hw.same ((s1.trans s4).trans m),zW,B,q2,λs hs=>Nk s ((qnv.mp hs).1),l9.2,λr H6 aa b7 O=>?_];have an:H6 r=some (.lst ((jz c f i e.2).map V.str)):=b7;left;refine#[_,.inl (aV.of an),rfl,qnk.mp (bM _),?_];rw[bx];have ag:=O _ _ (m _ _ Jz);have ah:Same H H5:=(s1.trans s4).trans m;have rH:H r=none:=bZ ah aa;have rL:r≠L:=λz=>by subst z;rw[m _ _ Jz] at aa;cases aa
    have am:=Ae.same (Ae.same ac m) O;refine#[!decide (e.1∈jz c f i e.2),by simp,cZ.of (λh=>?_) (λh=>?_)]
    ·have h':¬e.1∈jz c f i e.2:=by simpa using h
     have eb:rB c f e i=[(i,jz c f i e.2)]:=by unfold rB;rw[if_neg h']
     rw[eb];left;refine#[#[_,aV.of ag],λt7 ap=>?_];have s7:Same H6 (upd H6 t7 (.tup [.int i,.ref r])):=au ap;have Y6:=s7 _ _ ag;have e7:upd H6 t7 (.tup [.int i,.ref r]) t7=some (.tup [.int i,.ref r]):=ak;have av:=s7 _ _ an;have ab:=Ae.same am s7;have bf:H t7=none:=bZ (ah.trans O) ap;have ai:=(s4.trans m).trans (O.trans s7);have al:=s7 _ _ (O _ _ (m _ _ XM));have Qu:=bI.same XQ ((m.trans O).trans s7);generalize upd H6 t7 (.tup [.int i,.ref r])=H7 at s7 Y6 e7 av ab ai al Qu⊢;have kt:L2.dh H7 (upd H7 L (.lst (rs++[.ref t7]))):=L2.dh.set Y6 (by intro z e;cases e);have ay:¬r∈J.map (·.1):=λz=>by
      obtain⟨y,hy,e0⟩:=qnA.mp z;have:=Ae.there (Ae.same ac m) y hy;rw[e0,aa] at this;cases this
     refine#[_,Y6,⋯,#[_,ak,J++[(r,i,jz c f i e.2)],?_,by simp[p],?_,?_],by rw[aF az];exact al,Qu.keep kt,aX ai hL]
     ·refine bL.snoc #[ab.1,λj v z h1 h2=>?_] #[t7,rfl,kt _ _ e7,by rw[aF rL];exact av];obtain⟨t',z1,z2,z3⟩:=ab.2 j v z h1 h2;exact#[t',z1,kt _ _ z2,by rw[aF (G z (qm6 h2)).2];exact z3]
     ·rw[qn3,qpJ];refine#[U,by simp,?_];intro x hx y hy e0;simp at hy;subst hy;exact ay (e0▸hx)
     ·intro z hz
      rcases qnw.mp hz with y|y
      ·exact G z y
      ·simp at y;subst y;exact#[rH,rL]
    ·have h':e.1∈jz c f i e.2:=by simpa using h
     have eb:rB c f e i=[]:=by unfold rB;rw[if_pos h']
     rw[eb,qnC];left;exact#[#[rs,ag,J,am,p,U,G],O _ _ (m _ _ XM),bI.same XQ (m.trans O),(s4.trans m).trans O]
  ·rintro M H3 ⟨⟨o3,o4,o5,o6,rs,J,rfl,Qv,a0,p,U,G⟩,Ht,Y,s3⟩;rw[Y.1,qnn] at p;left;exact q L rs H3 be Qv J a0 p U G (s1.trans s3)
def V4(H:Hp)(e C:J9)(fs:List (Str×V)):Prop:=∃c,c≠e/\H e=some (eN e C (some c))/\H c=some (gZ c fs)
def qbN(C:J9)(f:Str):Sp:=λi H Q _=>∃(e l:J9)(h:QA0),i=[.ref e,.ref l]/\H e=some (eN e C none)/\H l=some (.lst h)/\
 ∀(b:J9)(c:Hp),H b=none->c b=some (.lst h)->V4 c e C [(f,.ref b)]->But e H c->Q .non c
def Qy{H:Hp}{e l C:J9}{xs:QA0}{f:Str}{Q:VK}{K:YZ}(n:H e=some (eN e C none))(v:H l=some (.lst xs))(q:∀(b:J9) (r:Hp),H b=none->r b=some (.lst xs)->V4 r e C [(f,.ref b)]->But e H r->Q .non r) :
  (∃x,H e=some (eN e C x))/\∃ys,(aV K H l ys\/cO K H l ys)/\∀(l:J9),H l=none->upd H l (.lst ys) e=some (eN e C none)/\∀j,upd H l (.lst ys) j=none->Q .non (upd (upd (upd H l (.lst ys)) j (gZ j [(f,.ref l)])) e (eN e C (some j))):=by
 refine#[#[_,n],xs,.inl (aV.of v),λb p=>?_];exists H,b,(.lst xs),m,u,I,p;refine#[m _ _ n,λj i=>?_];have ne:j≠e:=λz=>by rw[z,m _ _ n] at i;cases i
 have D:b≠e:=λz=>by rw[z,n] at p;cases p
 have G:b≠j:=λz=>by rw[<- z,u] at i;cases i
 refine q b _ p (by rw[aF D,aF G];exact u) #[j,ne,ak,by rw[aF ne];exact ak] λc o B z=>?_;rw[aF B,aF (λy=>by rw[<- y,m _ _ z] at i;cases i)];exact m _ _ z
def Qz{H:Hp}{e l C:J9}{xs:QA0}{f g:Str}{y:V}{Q:VK}{K:YZ}(J:g≠f)(u:H e=some (eN e C none))(n:H l=some (.lst xs))(q:∀(b:J9) (B:Hp),H b=none->B b=some (.lst xs)->V4 B e C [(f,y),(g,.ref b)]->But e H B->Q .non B) :
  (∃x,H e=some (eN e C x))/\H e=some (eN e C none)/\∀i,H i=none->∃ys,(aV K (upd (upd H i (gZ i [(f,y)])) e (eN e C (some i))) l ys\/cO K (upd (upd H i (gZ i [(f,y)])) e (eN e C (some i))) l ys)/\
   ∀(l:J9),upd (upd H i (gZ i [(f,y)])) e (eN e C (some i)) l=none->∃p,upd (upd (upd H i (gZ i [(f,y)])) e (eN e C (some i))) l (.lst ys) e=some (eN e C (some p))/\∃fs,upd (upd (upd H i (gZ i [(f,y)])) e (eN e C (some i))) l (.lst ys) p=some (gZ p fs)/\fs.length<1000/\
    Q .non (upd (upd (upd (upd H i (gZ i [(f,y)])) e (eN e C (some i))) l (.lst ys)) p (gZ p (kh g (.ref l) fs))):=by
 refine#[#[_,u],u,λi j=>?_];have ne:i≠e:=λz=>by rw[z,u] at j;cases j
 have le:l≠e:=λz=>by rw[z,u] at n;cases n
 have ld:l≠i:=λz=>by rw[z,j] at n;cases n
 have v:upd (upd H i (gZ i [(f,y)])) e (eN e C (some i)) e=some (eN e C (some i)):=ak;have I:upd (upd H i (gZ i [(f,y)])) e (eN e C (some i)) i=some (gZ i [(f,y)]):=by rw[aF ne];exact ak
 have b1:But e H (upd (upd H i (gZ i [(f,y)])) e (eN e C (some i))):=λc o D z=>by
  rw[aF D,aF (λy=>by rw[y,j] at z;cases z)];exact z
 generalize upd (upd H i (gZ i [(f,y)])) e (eN e C (some i))=T at v I b1⊢;refine#[xs,.inl (aV.of (b1 _ _ le n)),λb m=>?_];exists T,b,(.lst xs),r,M,U,m;refine#[i,r _ _ v,_,r _ _ I,by show(1:Nat)<1000;decide,?_];have O:b≠i:=λz=>by rw[z,I] at m;cases m
 have N:b≠e:=λz=>by rw[z,v] at m;cases m
 have G:H b=none:=by
  cases z:H b with
  |none=>rfl
  |some o=>rw[b1 _ _ N z] at m;cases m
 have L:kh g (.ref b) [(f,y)]=[(f,y),(g,.ref b)]:=by
  show(if f=g then _ else _)=_
  rw[if_neg (λz=>J z.symm)];rfl
 rw[L];refine q b _ G (by rw[aF O];exact M) #[i,ne,by rw[aF (qoE ne)];exact r _ _ v,ak] λc o D z=>?_;rw[aF (λy=>by rw[y,j] at z;cases z)];exact r _ _ (b1 _ _ D z)
def qbO(C:J9)(f g:Str):Sp:=λi H Q _=>∃(e l:J9)(y:V)(h:QA0),i=[.ref e,y,.ref l]/\H e=some (eN e C none)/\H l=some (.lst h)/\
 ∀(b:J9)(c:Hp),H b=none->c b=some (.lst h)->V4 c e C [(f,y),(g,.ref b)]->But e H c->Q .non c
def Gj(T:Txt K mg a):bT P w K mg base gR 1 a.dz a.jR ["self", "lot"] (qbN a.bG "lot"):=by
 exists T.wL.oE,Ey
 ·obtain⟨e,l,c,rfl,_⟩:=h;rfl
 ·obtain⟨e,l,c,rfl,i,f,q⟩:=h;refine#[_,(aA (cQ (Vw T.wz T.ini rfl T.nA (aj (aJ 0) (aj xq ao))))
   (aC (qer T.Jx T.eF (aJ 0) (dI (uO (K:=K) rfl) rfl T.nm.list boot_list (aj (aJ 1) ao)) rfl))),?_]
  left;exact Qy i f q
def Gk(T:Txt K mg a):bT P w K mg base gR 1 a.dB a.jT ["self", "tie", "lot"] (qbO a.bH "tie" "lot"):=by
 exists T.wN.oE,Ez
 ·obtain⟨e,l,y,c,rfl,_⟩:=h;rfl
 ·obtain⟨e,l,y,c,rfl,i,f,q⟩:=h;refine#[_,(aA (cQ (Vw T.wA T.ini rfl T.nA (aj (aJ 0) (aj xq ao))))
   (aA (qer T.Az T.eG (aJ 0) (aJ 1) rfl)
   (aC (qia T.Az T.cP (aJ 0) (dI (uO (K:=K) rfl) rfl T.nm.list boot_list (aj (aJ 2) ao)) rfl)))),?_]
  left;exact Qz (by decide) i f q
def mJ(ps:QAD)(xs:QAH):List (QAH):=Cr (aD (λ_=>none) ps 0) xs xs
def Cv(C n p:J9):Sp:=λm H Q E=>∃(o:J9)(f:QAH)(h:QAD),m=[.ref o]/\fP C H o f h/\Qp f/\tW f h/\
 ((mJ h f).length<=1->jL h f=[]->∀e,Same H e->Q .non e)/\
 (∀c r,mJ h f=c::r->r≠[]->∀(i l:J9)(e:Hp),H l=none->e i=some (gZ i [("lot",.ref l)])->e l=some (.lst (c.map V.str))->Same H e->E (.ref n) (some i) e)/\
 ((mJ h f).length<=1->∀k j rest,jL h f=(k,j)::rest->∀(i c:J9)(e:Hp),H c=none->e i=some (gZ i [("tie",.int (k:Nat)),("lot",.ref c)])->e c=some (.lst (j.map V.str))->Same H e->E (.ref p) (some i) e)
def Cw(T:Txt K mg a):bT P w K mg base (Xg P w) 5 a.dG a.jh ["web"] (Cv a.b_ a.bG a.bH):=by
 exists T.oV.qdg,gF
 ·obtain⟨o,D,G,rfl,_⟩:=h;rfl
 ·obtain⟨o,D,G,rfl,hw,hX,ab,q1,q2,q3⟩:=h;refine#[_,(aA (bF (i:=1) gF.nd rfl (Or.inl rfl) (PE.eqv (aN (Qx T) hr.d rfl T.Fg T.xV.kp T.Fe .nil bB (aj (aJ 0) ao)) (aK _ _ _)))
   (aA (bY (aQ uN (aH (bN (K:=K) rfl) rfl T.nm.len qnd (aj (aJ 1) ao)) aG (bJ _)) (aC (Jf (E:=E) rZ rfl rfl T.wz (Gj T) hr.d rfl T.Gb T.wM (aj (bC (bD (K:=K) rfl) (aJ 1) aG (λ_ _=>rfl)) ao))) bA)
   (aA (bF (i:=2) gF.nd rfl (Or.inl rfl) (PE.eqv (aN (qdH T) hr.d rfl T.qbC T.Td.kp T.qbB .nil bB (aj (aJ 0) ao)) (aK _ _ _)))
   (aC (bY (aQ uN (aH (bN (K:=K) rfl) rfl T.nm.len qnd (aj (aJ 2) ao)) aG (bJ _)) (aA (JT (bC (bD (K:=K) rfl) (aJ 2) aG (λ_ _=>rfl)) (PG.eqv (c7 (K:=K) (n:=2) rfl rfl (fL.eqv (aY (aL (i:=3) gF.nd rfl (Or.inl rfl)) (fL.eqv (aY (aL (i:=4) gF.nd rfl (Or.inl rfl)) (fL.mono cH dJ)) (aZ _ _))) (aZ _ _))) (dj _ _ _)))
   (aC (Jf (E:=E) rZ rfl rfl T.wA (Gk T) hr.d rfl T.Gd T.wO (aj (aJ 3) (aj (aJ 4) ao))))) bA))))),?_]
  left;refine#[o,D,G,rfl,hw,hX,ab,λl1 a0 H1 am e1 aa al s1=>?_];have p:a0.length=(mJ G D).length:=aa.1;left;refine#[_,.inl (aV.of e1),cZ.of (λh=>?_) (λh=>?_)]
  ·have m:=qnb h;obtain⟨c,r,C⟩:∃c r,mJ G D=c::r:=by
    cases hc:mJ G D with
    |nil=>rw[hc] at p;simp at p;rw[p] at m;simp at m
    |cons c r=>exact#[c,r,rfl]
   have af:r≠[]:=λz=>by rw[C,z] at p;simp at p;rw[p] at m;simp at m
   obtain⟨v,hv⟩:∃v,a0[0]? = some v:=#[_,qnx (by rw[p,C];simp)];obtain⟨c',ag,t,rfl,ht⟩:=aa.at hv;have:c'=c:=by
    have h2:(mJ G D)[0]? = some c':=ag;rw[C] at h2;simpa using h2.symm
   subst this;left;refine#[_,.inl (aV.of e1),_,aO (j:=0) hv,?_];intro f y;have J:Same H1 (upd H1 f (eN f a.bG none)):=au y;have I:upd H1 f (eN f a.bG none) f=some (eN f a.bG none):=ak;have B:=J _ _ ht;have O:H f=none:=bZ s1 y;have Y:=s1.trans J;generalize upd H1 f (eN f a.bG none)=H5 at J I B Y⊢;refine#[f,t,_,rfl,I,B,λcc H6 x ec N hB=>#[rfl,?_]];obtain⟨dx,U,ae,M⟩:=N;have ce:cc≠f:=λz=>by rw[z,I] at x;cases x
   refine#[_,ae,q2 _ _ C af dx cc _ (bZ Y x) (xK U M) (xK ce ec) λb' u e=>?_];have be:b'≠f:=λz=>by rw[z,O] at e;cases e
   exact xK be (hB b' u be (Y _ _ e))
  ·have h1:(mJ G D).length<=1:=by
    have h0:=qnL h;lia
   left;refine#[o,D,G,rfl,hw.same s1,hX,ab,λl rs H2 an e2 zs L Gm ah ac s2=>?_];have S2:=s1.trans s2;left;refine#[_,.inl (aV.of e2),cZ.of (λh=>?_) (λh=>?_)]
   ·have m:=qnb h;cases rs with
    |nil=>simp at m
    |cons v rs=>
    cases zs with
    |nil=>have:=L.1;simp at this
    |cons z zs=>
    obtain⟨t,rfl,ht,hc⟩:=L.2 0 v z rfl rfl;have ai:=(ac z qng).1;rw[qnP] at Gm;left;refine#[_,.inl (aV.of e2),_,aO (j:=0) rfl,?_];left;refine#[_,cO.of ht,rfl,?_];left;intro f y;have J:Same H2 (upd H2 f (eN f a.bH none)):=au y;have I:upd H2 f (eN f a.bH none) f=some (eN f a.bH none):=ak;have B:=J _ _ hc;have O:H f=none:=bZ S2 y;have Y:=S2.trans J;generalize upd H2 f (eN f a.bH none)=H5 at J I B Y⊢;refine#[f,z.1,.int z.2.1,_,rfl,I,B,λc H6 x ec N hB=>#[rfl,?_]];obtain⟨dx,U,hx,M⟩:=N;have ce:c≠f:=λz=>by rw[z,I] at x;cases x
    refine#[_,hx,q3 h1 z.2.1 z.2.2 _ Gm.symm dx c _ (bZ Y x) (xK U M) (xK ce ec) λb' u e=>?_];have be:b'≠f:=λz=>by rw[z,O] at e;cases e
    exact xK be (hB b' u be (Y _ _ e))
   ·have h0:=qnL h;cases zs with
    |cons z zs=>have:=L.1;simp at this;lia
    |nil=>
     left;exact q1 h1 Gm.symm _ S2
def tyD:PyData->String
 |.none=> "NoneType"
 |.bool _=> "bool"
 |.int _=> "int"
 |.str _=> "str"
 |.list _=> "list"
 |.tuple _=> "tuple"
 |.dict _=> "dict"
def QB:PyData->Bool
 |.list _=>true
 |.tuple _=>true
 |_=>false
def intD:PyData->Bool
 |.int _=>true
 |.bool _=>true
 |_=>false
def qeI:PyData->Bool
 |.bool _=>true
 |_=>false
def Mp:PyData->Bool
 |.int _=>true
 |_=>false
def ldD:PyData->Bool
 |.int i=>decide (0<=i) && decide (i<=1)
 |_=>false
def kids:PyData->List PyData
 |.list c=>c
 |.tuple c=>c
 |_=>[]
def JB(n:Nat)(d:PyData):Bool:=QB d && (decide ((kids d).length=n) && (kids d).all ldD)
def Tw{H:Hp}{d:PyData}{v:V}(h:rY H d v):mD K H v (.type (tyD d)):=by
 cases d with
 |none=>simp only[rY] at h;subst h;exact .non
 |bool b=>simp only[rY] at h;subst h;exact .bl b
 |int i=>simp only[rY] at h;subst h;exact .int i
 |str x=>simp only[rY] at h;subst h;exact .str x
 |list e=>simp only[rY] at h;obtain⟨a,f,rfl,c,_⟩:=h;exact .lst c
 |tuple e=>simp only[rY] at h;obtain⟨a,f,rfl,c,_⟩:=h;exact .tup c
 |dict e=>simp only[rY] at h;obtain⟨_,a,rfl,c⟩:=h;exact .dK c
def qdI(d:PyData):W.kitAny K (.type (tyD d)) [.type "list",.type "tuple"]=some (QB d):=by
 cases d <;> simp[W.kitAny,W.kitOne,tyD,QB] <;> rfl
def qbP(d:PyData):W.kitOne K (.type (tyD d)) (.type "int")=some (intD d):=by
 cases d with
 |none=>exact Ad K
 |bool b=>exact Kz K
 |int i=>exact Br K
 |str x=>exact Oq K
 |list c=>exact Kw K
 |tuple c=>exact G_ K
 |dict c=>exact KC K
def XR(d:PyData):W.kitOne K (.type (tyD d)) (.type "bool")=some (qeI d):=by
 cases d with
 |none=>exact yJ K
 |bool b=>exact Hf K
 |int i=>exact yI K
 |str x=>exact Ky K
 |list c=>exact G9 K
 |tuple c=>exact DX K
 |dict c=>exact Hg K
def qbQ{H:Hp}{t:J9}{ns:qx}(h:Sq H t (ns.map V.int)):∃d,rY H d (.ref t)/\QB d=true/\kids d=ns.map PyData.int:=by
 rcases h with h|h
 ·exact#[.list (ns.map PyData.int),by simp only[rY];exact#[t,_,rfl,h,cB.ints H ns],rfl,rfl]
 ·exact#[.tuple (ns.map PyData.int),by simp only[rY];exact#[t,_,rfl,h,cB.ints H ns],rfl,rfl]
def qbR{H:Hp}{d:PyData}{v:V}(h:rY H d v)(f:QB d=true):∃t xs,v = .ref t/\Sq H t xs/\cB H (kids d) xs:=by
 cases d with
 |list i=>simp only[rY] at h;obtain⟨a,xs,rfl,e,c⟩:=h;exact#[a,xs,rfl,.inl e,c]
 |tuple i=>simp only[rY] at h;obtain⟨a,xs,rfl,e,c⟩:=h;exact#[a,xs,rfl,.inr e,c]
 |_=>cases f
def qdJ(C:J9):Sp:=λf H Q _=>∃o e c,f=[.ref o]/\fP C H o e c/\Q (.int c.length) H
def Cg(T:Txt K mg a):bT P w K mg base gR 1 a.gB a.qe ["self"] (qdJ a.b_):=by
 exists T.Fw.oE,Qa
 ·obtain⟨o,c,e,rfl,_⟩:=h;rfl
 ·obtain⟨o,c,e,rfl,⟨u,n,m,l,j,r,i,f,p⟩,q⟩:=h;refine#[_,(aC (bh (aH (bN (K:=K) rfl) rfl T.nm.len qnd (aj (PE.eqv (Kp (K:=K) rfl (aJ 0) rfl) (K7 _ _ _)) ao)))),?_];left;refine#[_,_,_,j,T.mU,T.Dg,_,rfl,_,.inr (cO.of i),?_];rw[f.1];exact q
def QC:Sp:=λe H Q _=>∃(d:PyData)(v:V),e=[v]/\rY H d v/\∀c,Same H c->Q (.bl (QB d)) c
def QD(T:Txt K mg a):bT P w K mg base gR 1 a.iI a.oN ["thing"] QC:=by
 exists T.jE.oE,EY
 ·obtain⟨d,v,rfl,_⟩:=h;rfl
 ·obtain⟨d,v,rfl,e,q⟩:=h;refine#[_,(aC (bh (aH (qaY (K:=K) rfl) rfl T.nm.isinstance boot_isinstance (aj (aJ 0) (aj (ji (aj (fV (v:=.ty "list") rfl T.nm.list boot_list rfl) (aj (fV (v:=.ty "tuple") rfl T.nm.tuple boot_tuple rfl) ao))) ao))))),?_];left;refine λt c=>#[_,_,ak,_,Tw (rY.same (au c) d v e),_,qdI d,q _ (au c)]
def QF:Sp:=λc H Q _=>∃(d:PyData)(v:V),c=[v]/\rY H d v/\Q (.bl (Mp d)) H
def QG(T:Txt K mg a):bT P w K mg base gR 1 a.h_ a.pW ["thing"] QF:=by
 exists T.xW.oE,PN
 ·obtain⟨d,v,rfl,_⟩:=h;rfl
 ·obtain⟨d,v,rfl,e,q⟩:=h;refine#[_,(aC (bh (k_ (aH (mG (K:=K) rfl) rfl T.nm.isinstance boot_isinstance (aj (aJ 0) (aj (fV (v:=.ty "int") rfl T.nm.int nF rfl) ao))) (qH (Vl (aH (mG (K:=K) rfl) rfl T.nm.isinstance boot_isinstance (aj (aJ 0) (aj (fV (v:=.ty "bool") rfl T.Rf.bool Dw rfl) ao)))))))),?_];left;refine#[_,Tw e,_,qbP d,?_];cases c:intD d with
  |false=>
   refine cZ.neg rfl ?_;left;rw[show Mp d=false by cases d <;> first|rfl|cases c] at q
   exact q
  |true=>
   refine cZ.pos rfl ?_;left;refine#[_,Tw e,_,XR d,?_];rw[show Mp d = !qeI d by cases d <;> first|rfl|cases c] at q
   exact q
def Tz:Sp:=λc H Q _=>∃(d:PyData)(v:V),c=[v]/\rY H d v/\Q (.bl (ldD d)) H
def TF(T:Txt K mg a):bT P w K mg base gR 2 a.jD a.tu ["thing"] Tz:=by
 exists T.Ay.oE,S_
 ·obtain⟨d,v,rfl,_⟩:=h;rfl
 ·obtain⟨d,v,rfl,c,q⟩:=h;refine#[_,(aC (bh (k_ (PE.eqv (aN (QG T) hr.d rfl T.Fj T.xW.kp T.Fi .nil bB (aj (aJ 0) ao)) (aK _ _ _)) (qH (Ah Ag Ag aG (aJ 0) aG))))),?_];left;refine#[d,v,rfl,c,?_];cases hw:Mp d with
  |false=>
   rw[show ldD d=false by cases d <;> first|rfl|cases hw] at q
   left;exact q
  |true=>
   obtain⟨i,rfl⟩:∃i,d = .int i:=by cases d <;> first|exact#[_,rfl]|cases hw
   simp only[rY] at c;subst c;left;simp only[ldD] at q;refine cZ.of (λh=>?_) (λh=>?_)
   ·rw[h] at q;left;exact q
   ·rw[h] at q;left;exact q
theorem kj:∀l:List Bool,pH (l.map V.bl) l
 |[]=>rfl
 |b::l=>#[b,_,rfl,rfl,kj l]
def Gn(C:J9):Sp:=λh H Q _=>∃(o:J9)(v:V)(d:PyData)(f:QAH)(c:QAD),h=[.ref o,v]/\fP C H o f c/\rY H d v/\c.length<=20/\
 ∀e,Same H e->Q (.bl (JB c.length d)) e
def vo(T:Txt K mg a):bT P w K mg base gR 3 a.d9 a.jU ["web", "thing"] (Gn a.b_):=by
 exists T.lK.oE,E_
 ·obtain⟨o,v,d,O,n,rfl,_⟩:=h;rfl
 ·obtain⟨o,v,d,O,n,rfl,hw,Y,rJ,q⟩:=h;refine#[_,(aA (bY (PW.pt (mO (cM (bW (PE.eqv (aN (QD T) hr.d rfl T.nR T.jE.kp T.nQ .nil bB (aj (aJ 1) ao)) (aK _ _ _)))) (jJ (aQ jN (aH (bN (K:=K) rfl) rfl T.nm.len qnd (aj (aJ 1) ao)) (PE.eqv (iU (aJ 0) T.mU T.yd (Cg T) hr.d T.xY .nil bB) (iY _ _ _ _ _ _)) (bJ _))))) (aC (bh j7)) bA)
   (aC (bh (aH (jA rfl) rfl T.nm.all iG (aj (cC rfl rfl (show aR (aB lu) _ ["web", "thing"] ["one"] [] ["one"] from by rfl') rfl (PI.eqv (vK (K:=K) rfl (aJ 1)) (rD _ _)) (λC s H fp U=>(aL (i:=0) (show(["one"]:QAH).Nodup by symm) rfl (Or.inl rfl))) (λC s H fp U=>cR) (λC s H fp U=>(PE.eqv (aN (TF T) hr.d rfl T.Jr T.Ay.kp T.Jq .nil bB (aj (aJ 0) ao)) (aK _ _ _)))) ao))))),?_]
  left;refine#[d,v,rfl,Y,λH1 l=>?_];cases L:QB d with
  |false=>
   left;have e:JB n.length d=false:=by unfold JB;rw[L];rfl
   rw[e] at q;exact q _ l
  |true=>
   obtain⟨t,y,rfl,hq,j⟩:=qbR Y L;obtain⟨dx,fs,G,M⟩:=(hw.same l).ins Dh.1 Dh.2;have p:=hq.same l;have f:=j.length;left;refine#[_,p.q,_,_,G,M,o,O,n,rfl,hw.same l,?_];left
   by_cases r:y.length=n.length
   ·refine#[false,by simp[r],cZ.neg rfl ?_];obtain⟨b,hb⟩:=p.b;left;refine#[b,#[_,hb K H1 (Same.refl _)],λD hD=>cmQ y (λi u I=>(∃J,u=[J])/\I D=some (.lst ((((kids d).take i).map ldD).map V.bl))/\Same H1 I) #[#[_,rfl],ak,au hD] (λi u I _ h=>hb K I h.2.2) ?_ ?_]
    ·rintro i x u H2 G ⟨⟨J,rfl⟩,m,B⟩;have N:i<y.length:=(qm2.mp G).1;obtain⟨c,hc,hx⟩:=j.at G;left;refine#[c,x,rfl,rY.same (l.trans B) c x hx,?_];left;refine#[_,m,by rw[qm7,qm7];exact zsz (Nat.lt_of_le_of_lt (List.length_take_le ..) N) (by rw[r];exact rJ),?_,aX B hD];rw[ak,List.take_add_one,hc];simp
    ·rintro u H2 ⟨⟨J,rfl⟩,m,B⟩;left;refine#[_,m,_,kj _,?_];have e:JB n.length d=(((kids d).take y.length).map ldD).all id:=by
      unfold JB;rw[L,<- f,qnn,qnE (by rw[f];exact r),List.all_map];rfl
     rw[<- e];exact q _ (l.trans B)
   ·refine#[true,by simp;exact λz=>r (Int.ofNat.inj z),cZ.pos rfl ?_];left;have e:JB n.length d=false:=by unfold JB;rw[qnM (by rw[f];exact r)];simp
    rw[e] at q;exact q _ l
theorem V5:∀{ns:qx},(∀n∈ns,0<=n/\n<=1)->(ns.map PyData.int).all ldD=true
 |[],_=>rfl
 |n::ns,h=>by
  have e:=h n qng;rw[qnP,List.all_cons,V5 λm c=>h m (qm_ _ c)];simp[ldD,e]
def QH{d:PyData}{ns:qx}(f:QB d=true)(e:kids d=ns.map PyData.int)(c:∀n∈ns,0<=n/\n<=1):JB ns.length d=true:=by
 unfold JB;rw[f,e,V5 c];simp
def qdK(C:J9)(H:Hp)(o t:J9)(xs:QAH)(ps:QAD)(ns:qx):Prop:=fP C H o xs ps/\Sq H t (ns.map V.int)/\(∀n∈ns,0<=n/\n<=1)/\ns.length=ps.length/\ps.length<=20
def wG(C:J9):Sp:=λf H Q _=>∃(o t:J9)(e:QAH)(h:QAD)(i:qx),f=[.ref o,.ref t]/\qdK C H o t e h i/\∀c,Same H c->Q .non c
def wH(T:Txt K mg a):bT P w K mg base gR 4 a.bR a.dU ["web", "thing"] (wG a.b_):=by
 exists T.eY.oE,mR
 ·obtain⟨o,t,e,f,l,rfl,_⟩:=h;rfl
 ·obtain⟨o,t,e,f,l,rfl,⟨hw,m,c,p,j⟩,q⟩:=h;refine#[_,(aC (bY (cM (bW (PE.eqv (aN (vo T) hr.d rfl T.qQ T.lK.kp T.qP .nil bB (aj (aJ 0) (aj (aJ 1) ao))) (aK _ _ _)))) (aC qY) bA)),?_];obtain⟨d,u,n,r⟩:=qbQ m;left;refine#[o,.ref t,d,e,f,rfl,hw,u,j,λv i=>?_];rw[<- p,QH n r c];left;exact q _ i
theorem JC:∀(xs:QA0)(n k:Nat),mY (nums n xs) (Sum.inl ((n+k:Nat):Int):Key)=xs[k]?
 |[],n,k=>by simp[nums,mY]
 |x::xs,n,0=>by rw[nums,yE (by simp)];rfl
 |x::xs,n,k+1=>by
  rw[nums,yF (by intro z;injection z with z;omega)];have:=JC xs (n+1) k;rw[show n+1+k=n+(k+1) by lia] at this;rw[this];simp
def qgw(ns:qx)(ps:QAD):List gJ:=aD (λk=>ns[k]?) ps 0
def XS(C:J9):Sp:=λj H Q _=>∃(o t:J9)(i:QAH)(f:QAD)(h:qx),j=[.ref o,.ref t]/\qdK C H o t i f h/\
 ∀l e c,H l=none->c l=some (.lst e)->dg c e (qgw h f)->e.length<=40->Same H c->Q (.ref l) c
def X3(T:Txt K mg a):bT P w K mg base gR 5 a.lV a.vW ["web", "pointing"] (XS a.b_):=by
 exists T.FP.oE,Xx
 ·obtain⟨o,t,f,i,e,rfl,_⟩:=h;rfl
 ·obtain⟨o,t,f,i,e,rfl,r,q⟩:=h;refine#[_,(aA (cQ (PE.eqv (aN (wH T) hr.d rfl T.jt T.eY.kp T.jr .nil bB (aj (aJ 0) (aj (aJ 1) ao))) (aK _ _ _)))
   (aC (bh (PE.eqv (aN (oX T) hr.d rfl T.lH T.je.kp T.lG .nil bB (aj (aJ 0) (aj (O1 (K:=K) rfl rfl rfl T.Rf.dict rfl T.Rf.enumerate (aj (aJ 1) ao)) ao))) (aK _ _ _))))),?_]
  left;refine#[o,t,f,i,e,rfl,r,λD c=>?_];obtain⟨hw,y,z,u,C⟩:=r;left;refine#[_,(y.same c).q,λd n=>#[o,d,f,i,(λk=>e[k]?),rfl,hw.same (c.trans (au n)),#[_,ak,λk=>?_],λl v B u m j p x=>q l v B (bZ (c.trans (au n)) u) m j p ((c.trans (au n)).trans x)]];have:=JC (e.map V.int) 0 k;rw[qnZ,qnr] at this;exact this
def qeJ{ps:QAD}{ns:qx}(c:ns.length=ps.length)(e:∀n∈ns,0<=n/\n<=1):qgw ns ps=yU ns ps 0:=qap (λk=>ns[k]?) ps ns 0 (λi=>by rw[qnZ]) c e
def vp(C N:J9):Sp:=λh H Q E=>∃(o:J9)(v:V)(d:PyData)(f:QAH)(c:QAD),h=[.ref o,v]/\fP C H o f c/\rY H d v/\c.length<=20/\
 ∀e,Same H e->(JB c.length d=true->Q .non e)/\(JB c.length d=false->E (.ref N) none e)
def vq(T:Txt K mg a):bT P w K mg base (Xg P w) 4 a.bR a.dU ["web", "thing"] (vp a.b_ a.cu):=by
 exists T.eY.qdg,mR
 ·obtain⟨o,v,d,e,c,rfl,_⟩:=h;rfl
 ·obtain⟨o,v,d,e,c,rfl,hw,l,j,q⟩:=h;refine#[_,(aC (bY (cM (bW (PE.eqv (aN (vo T) hr.d rfl T.qQ T.lK.kp T.qP .nil bB (aj (aJ 0) (aj (aJ 1) ao))) (aK _ _ _)))) (aC (Pg (E:=E) rZ rfl rfl T.iQ rfl T.zP (aj xq ao))) bA)),?_];left;refine#[o,v,d,e,c,rfl,hw,l,j,λm f=>?_];cases i:JB c.length d with
  |true=>
   left;exact(q _ f).1 i
  |false=>
   left;exact(q _ f).2 i
def qdL{H:Hp}{d:PyData}{v:V}{n:Nat}(h:rY H d v)(p:JB n d=true):∃(t:J9)(ns:qx),v = .ref t/\Sq H t (ns.map V.int)/\(∀m∈ns,0<=m/\m<=1)/\ns.length=n:=by
 unfold JB at p;rw[qnK,qnK] at p;obtain⟨G,E,D⟩:=p;obtain⟨t,f,rfl,B,j⟩:=qbR h G;have o:∀(e:List PyData)(f:QA0),cB H e f->e.all ldD=true->∃ns:List Int,f=ns.map V.int/\(∀m∈ns,0<=m/\m<=1)/\ns.length=e.length:=by
  intro e
  induction e with
  |nil=>intro f h _;exact#[[],by simpa [cB] using h,by simp,rfl]
  |cons c e ih=>
   intro f h l;rw[List.all_cons,qnK] at l;simp only[cB] at h;obtain⟨x,r,rfl,z,A⟩:=h;obtain⟨ns,rfl,y,u⟩:=ih r A l.2;cases c with
   |int i=>
    simp only[rY] at z;subst z;have C:0<=i/\i<=1:=by simpa [ldD] using l.1
    refine#[i::ns,rfl,λm s=>?_,by simp[u]]
    rcases qnc.mp s with rfl|s
    ·exact C
    ·exact y m s
   |_=>exact absurd l.1 (by simp[ldD])
 obtain⟨ns,rfl,y,u⟩:=o _ _ j D;exact#[t,ns,rfl,B,y,by rw[u];exact qnb E]
def pD(m k:Nat):Bool:=decide (m / 2 ^ k % 2=1)
def qdM:∀n:Nat,n<=9->∀m:Nat,m<512->1<=m->m+1<2 ^ n->(List.range n).any (pD m)=true/\(List.range n).all (pD m)=false:=by symm
def qbS{n m:Nat}(i:n<=9)(l:m<512)(p:1<=m)(o:m+1<2 ^ n):(∃k,k<n/\pD m k=true)/\∃k,k<n/\pD m k=false:=by
 obtain⟨a,b⟩:=qdM n i m l p o;rw[qoQ] at a;rw[List.all_eq_false] at b;obtain⟨k,c,e⟩:=a;obtain⟨j,h,f⟩:=b;exact#[#[k,qnD.mp c,e],#[j,qnD.mp h,by simpa using f]]
def jG(b:Nat->Bool)(xs:QAH):QAH:=(xs.zipIdx.filter λe=>b e.2).map (·.1)
def bits_sub(b:Nat->Bool)(xs:QAH):(jG b xs).Sublist xs:=by
 have h:=List.Sublist.map (λe:Str×Nat=>e.1) (qo_ (p:=λe:Str×Nat=>b e.2) (l:=xs.zipIdx));rw[List.zipIdx_map_fst] at h;exact h
def qbT{b:Nat->Bool}{xs:QAH}{k:Nat}(c:k<xs.length)(e:b k=true):0<(jG b xs).length:=by
 refine qpB (a:=xs[k]) ?_;unfold jG;rw[qnA];refine#[(xs[k],k),?_,rfl];rw[qnv];refine#[?_,e];rw[qo5];simp[c]
def qdN{b:Nat->Bool}{xs:QAH}{k:Nat}(c:k<xs.length)(f:b k=false):(jG b xs).length<xs.length:=by
 unfold jG;rw[qm7];have:(xs.zipIdx.filter λe=>b e.2).length<xs.zipIdx.length:=by
  rw[List.length_filter_lt_length_iff_exists];refine#[(xs[k],k),?_,by simp[f]];rw[qo5];simp[c]
 rwa [List.length_zipIdx] at this
def JD{b:Nat->Bool}{l:QAH}{x:Str}:jG b (l++[x])=jG b l++if b l.length=true then [x] else []:=by
 unfold jG;rw[List.zipIdx_append,qn5,qn3]
 by_cases h:b l.length=true <;> simp[h]
def qdO{m n:Nat}(h:m<2 ^ n):pD m n=false:=by
 unfold pD;rw[Nat.div_eq_of_lt h];rfl
def qdP{m n:Nat}(h:m<2 ^ n):pD (2 ^ n+m) n=true:=by
 unfold pD;rw[Nat.add_div_left _ (Nat.two_pow_pos n),Nat.div_eq_of_lt h];rfl
def TJ{m n k:Nat}(h:k<n):pD (2 ^ n+m) k=pD m k:=by
 unfold pD;have e:2 ^ n=2 ^ k * (2 * 2 ^ (n - k - 1)):=by
  rw[<- Nat.mul_assoc,<- Nat.pow_succ,<- Nat.pow_add];congr 1;omega
 rw[e,Nat.mul_add_div (Nat.two_pow_pos k),Nat.mul_add_mod]
def X4{b b':Nat->Bool}{xs:QAH}(h:∀k,k<xs.length->b k=b' k):jG b xs=jG b' xs:=by
 unfold jG;congr 1;refine List.filter_congr λe c=>?_;obtain⟨x,k⟩:=e;rw[qo5] at c;exact h k (qm2.mp c).1
def ju(xs:QAH):List (QAH):=(List.range (2 ^ xs.length)).map λm=>jG (pD m) xs
def parts_nil:ju []=[[]]:=rfl
def Gp(l:QAH)(x:Str):ju (l++[x])=ju l++(ju l).map (·++[x]):=by
 unfold ju;rw[qnT,qpG,Nat.pow_succ,Nat.mul_two,List.range_add,qn3,qoG,qoG];congr 1
 ·refine qoO λm c=>?_;rw[JD,qdO (qnD.mp c)];simp
 ·refine qoO λm c=>?_;show jG (pD (2 ^ l.length+m)) (l++[x])=jG (pD m) l++[x];rw[JD,qdP (qnD.mp c),X4 (b':=pD m) λk e=>TJ e];simp
def qF(xs:QAH):List (QAH):=(List.range (2 ^ xs.length - 2)).map λm=>jG (pD (1+m)) xs
def Bb(xs:QAH):(ju xs).length=2 ^ xs.length:=by simp[ju]
def vA(xs:QAH):(qF xs).length=2 ^ xs.length - 2:=by simp[qF]
def V6{xs:QAH}{i:Nat}(h:i<2 ^ xs.length - 2):(qF xs)[i]? = some (jG (pD (1+i)) xs):=by
 unfold qF;rw[qnr,qpq h];rfl
def TQ{xs:QAH}:((ju xs).take (2 ^ xs.length - 1)).drop 1=qF xs:=by
 refine List.ext_getElem? λi=>?_;rw[List.getElem?_drop]
 by_cases h:i<2 ^ xs.length - 2
 ·rw[V6 h,List.getElem?_take_of_lt ∅];unfold ju;rw[qnr,qpq ∅];rfl
 ·rw[qpH (by rw[qni,Bb];omega),qpH (by rw[vA];lia)]
def qbU{xs c:QAH}(o:xs.length<=9)(h:c∈qF xs):c.Sublist xs/\0<c.length/\c.length<xs.length:=by
 unfold qF at h;obtain⟨m,l,rfl⟩:=qnA.mp h;have l:=qnD.mp l;have p:2 ^ xs.length<=2 ^ 9:=qpV (by decide) o;obtain⟨⟨s,f,j⟩,⟨r,e,i⟩⟩:=qbS (n:=xs.length) (m:=1+m) o ∅ ⋯ ∅;exact#[bits_sub _ _,qbT f j,qdN e i]
def qlV(G H:Hp)(v:V)(c:QAH):Prop:=∃t,v = .ref t/\G t=none/\H t=some (.lst (c.map V.str))
def Mq(G H:Hp)(c:QA0)(e:List (QAH)):Prop:=bL (qlV G) H c e
def Mq.same{G H j:Hp}{e:QA0}{f:List (QAH)}(h:Mq G H e f)(s:Same H j):Mq G j e f:=#[h.1,λi v c n m=>by
 obtain⟨t,rfl,o,l⟩:=h.2 i v c n m;exact#[t,rfl,o,s _ _ l]]
def Mr:Sp:=λh H Q _=>∃(n:J9)(e:QAH),h=[.ref n]/\H n=some (.lst (e.map V.str))/\e.length<=9/\
 ∀(r:J9)(f:QA0)(c:Hp),H r=none->c r=some (.lst f)->Mq H c f (ju e)->Same H c->Q (.ref r) c
def Ms(T:Txt K mg a):bT P w K mg base gR 1 a.f9 a.m_ ["points"] Mr:=by
 exists T.u5.oE,m9
 ·obtain⟨n,M,rfl,_⟩:=h;rfl
 ·obtain⟨n,M,rfl,hn,h9,q⟩:=h;refine#[_,(aA (bF (i:=1) m9.nd rfl (Or.inl rfl) (cN (aj (cN ao) ao)))
   (aA (gU qnS rfl (PI.eqv (bO (K:=K) rfl (aJ 0)) (bK _ _)) (aL (i:=2) m9.nd rfl (Or.inr rfl))
   (aC (bF (i:=1) m9.nd rfl (Or.inl rfl) (cX vM (aJ 1) (cC rfl rfl (show aR (aB pP) _ ["points", "parts", "point"] ["part"] [2] ["part", "point"] from by rfl') rfl (PI.eqv (bO (K:=K) rfl (aJ 1)) (bK _ _)) (λC s H fp pn=>(aL (i:=0) (show(["part", "point"]:QAH).Nodup by symm) rfl (Or.inl rfl))) (λC s H fp pn=>cR) (λC s H fp pn=>(cX vM (aJ 0) (cN (aj (aJ 1) ao)))))))))
   (aC (bh (aJ 1))))),?_]
  have af:600<sizeLine:=by decide
  left;intro p hp;exists H,p,(.lst []),s1,e1,H1,hp;intro r hr;exists H1,r,(.lst [.ref p]),s2,e2,H2,hr;have S2:=s1.trans s2;refine#[#[_,aV.of (S2 _ _ hn)],frL (M.map V.str) (λi B u=>(∃U o2,B=[some (.ref n),some (.ref U),o2]/\H U=none/\∃e,u U=some (.lst e)/\Mq H u e (ju (M.take i)))/\Same H u) #[#[r,none,rfl,s1.free hr,_,e2,?_],S2] (λi B u _ h=>aV.of (h.2 _ _ hn)) ?_ ?_]
  ·exact#[rfl,λi v c L J=>by
    cases i with
    |succ i=>simp at L
    |zero=>
     simp at L;rw[qpu,parts_nil] at J;simp at J;subst L J;exact#[p,rfl,hp,s2 _ _ e1]]
  ·rintro i v B H3 hi ⟨⟨U,o2,rfl,a0,e,f,o⟩,Y⟩;obtain⟨y,hy,rfl⟩:=kE hi;have al:i<M.length:=(qm2.mp hy).1;have ah:e.length=2 ^ i:=by
    have:=o.1;rw[Bb,qni,qpf ⋯] at this;exact this
   have p8:2 ^ i<=2 ^ 8:=qpV (by decide) ⋯;rw[take_one hy,Gp];have ae:∀c∈ju (M.take i),c.length<=9:=λc hc=>by
    obtain⟨m,_,rfl⟩:=qnA.mp hc;have:=(bits_sub (pD m) (M.take i)).length_le;rw[qni] at this;lia
   generalize hC:ju (M.take i)=cs at o ae⊢;left;refine#[#[_,aV.of f],λD hD=>Kv e (λj B u=>(∃o1,B=[o1,some (.str y)])/\(∃G,u D=some (.lst G)/\bL (λu v c=>∃t,v = .ref t/\H t=none/\t≠D/\u t=some (.lst (c.map V.str))) u G ((cs.take j).map (·++[y])))/\Same H3 u) #[#[_,rfl],#[[],ak,bL.nil],au hD] (λi B u _ h=>aV.of (h.2.2 _ _ f)) ?_ ?_]
   ·rintro j v B H4 hj ⟨⟨o1,rfl⟩,⟨G,qD,O⟩,I⟩;have ai:j<e.length:=(qm2.mp hj).1;obtain⟨c,hc,t,rfl,ag,N⟩:=bL.at o hj;have Ri:G.length=j:=by
     have:=O.1;have ac:=o.1;rw[qm7,qni] at this;lia
    have Vi:=I _ _ N;left;intro p5 l;exists H4,p5,(.lst [.str y]),x,e5,H5,l;have am:=ae c (qm6 hc);refine#[_,x _ _ Vi,_,e5,by simp;lia,λp6 Rj=>?_];exists H5,p6,(.lst (c.map V.str++[.str y])),s6,e6,H6,Rj;have Tt:=(x.trans s6) _ _ qD;have aa:p6≠D:=λz=>by rw[z,x _ _ qD] at Rj;cases Rj
    refine#[G,Tt,⋯,#[_,ak,?_],aX (I.trans (x.trans s6)) hD];rw[take_one hc,qn3];refine bL.snoc (bL.keep O ?_) #[p6,rfl,(Y.trans (I.trans x)).free Rj,aa,by rw[aF aa,e6];simp];rintro v b ⟨t,rfl,h0,ab,N⟩;exact#[t,rfl,h0,ab,by rw[aF ab];exact(x.trans s6) _ _ N]
   ·rintro B H4 ⟨⟨o1,rfl⟩,⟨G,qD,O⟩,I⟩;rw[o.1,qnn] at O;have Ri:G.length=cs.length:=by rw[O.1,qm7]
    have ac:=o.1;left;refine#[_,I _ _ f,_,qD,⋯,λp5 l=>#[#[(Y.trans I).free l,_,ak,?_],(Y.trans I).trans (au l)]];have x:Same H4 (upd H4 p5 (.lst (e++G))):=au l;generalize upd H4 p5 (.lst (e++G))=H5 at x⊢;refine#[by simp[o.1,O.1],λk v c L J=>?_]
    by_cases hk:k<e.length
    ·rw[qny hk] at L;rw[qny ⋯] at J;obtain⟨t,rfl,h0,N⟩:=o.2 k v c L J;exact#[t,rfl,h0,(I.trans x) _ _ N]
    ·rw[qnz ⋯] at L;rw[qnz ⋯,<- ac] at J;obtain⟨t,rfl,h0,_,N⟩:=O.2 _ v c L J;exact#[t,rfl,h0,x _ _ N]
  ·rintro B H3 ⟨⟨U,o2,rfl,a0,e,f,o⟩,Y⟩;rw[qm7,qnn] at o;left;exact q U e H3 a0 f o Y
def qgy{xs:QA0}:wC xs (some 1) (some (-1))=(xs.take (xs.length - 1)).drop 1:=by
 unfold wC;have e:HT.Ds xs.length 0 (some 1)=min 1 xs.length:=by
  unfold HT.Ds;simp
  try omega
 have c:HT.Ds xs.length xs.length (some (-1))=xs.length - 1:=by
  unfold HT.Ds;simp
  try lia
 rw[e,c,List.drop_take];cases xs with
 |nil=>rfl
 |cons x xs=>
  rw[qpf (by simp)]
def QJ(C:J9):Sp:=λh H Q _=>∃(o:J9)(e:QAH)(i:QAD),h=[.ref o]/\fP C H o e i/\e.length<=9/\
 ∀(r:J9)(f:QA0)(c:Hp),H r=none->c r=some (.lst f)->Mq H c f (qF e)->Same H c->Q (.ref r) c
def QK(T:Txt K mg a):bT P w K mg base gR 2 a.iu a.qg ["web"] (QJ a.b_):=by
 exists T.xZ.oE,Qc
 ·obtain⟨o,e,B,rfl,_⟩:=h;rfl
 ·obtain⟨o,e,B,rfl,hw,M,q⟩:=h;refine#[_,(aC (bh (N5 (qem (K:=K) rfl) (PE.eqv (aN (Ms T) hr.d rfl T.BK T.u5.kp T.BJ .nil bB (aj (PE.eqv (iU (aJ 0) T.mU T.iM (jg T) hr.d T.iK .nil bB) (iY _ _ _ _ _ _)) ao)) (aK _ _ _)) (PO.eqv (JX aG) (Ef _)) (PO.eqv (JX (qg8 qc0 aG)) (Ef _))))),?_];have G:600<sizeLine:=by decide
  obtain⟨dx,fs,m,l⟩:=hw.ins gH.1 gH.2;left;refine#[dx,fs,m,l,o,e,B,rfl,hw,λn J=>?_];exists H,n,(.lst (e.map V.str)),j,Y,H1,J;left;refine#[n,e,rfl,Y,M,λr x H2 hr U p z=>?_];left;have D:x.length=2 ^ e.length:=by rw[p.1,Bb]
  refine#[_,aV.of U,λC f=>?_];exists H2,C,(.lst (wC x (some 1) (some (-1)))),y,O,H3,f;refine q C _ H3 ((j.trans z).free f) O ?_ (j.trans (z.trans y));rw[qgy,D,<- TQ];refine#[by rw[List.length_drop,qni,List.length_drop,qni,p.1],λk v c i u=>?_];rw[List.getElem?_drop] at i u;have L:1+k<2 ^ e.length - 1:=by
   have:=(qm2.mp i).1;rw[qni] at this;omega
  rw[List.getElem?_take_of_lt L] at i u;obtain⟨t,rfl,N,I⟩:=p.2 _ v c i u;exact#[t,rfl,j.free N,y _ _ I]
def Gq(c:QAH)(st:gJ):Bool:=decide (¬st.2.1∈c/\st.2.2∈c)
def Hw:Sp:=λi H Q _=>∃(s l:J9)(f:QA0)(S:List gJ)(c:QAH),i=[.ref s,.ref l]/\H s=some (.lst f)/\dg H f S/\H l=some (.lst (c.map V.str))/\f.length<=40/\
 ∀(r:J9)(e:QA0)(h:Hp),H r=none->h r=some (.lst e)->e.length=(S.filter (Gq c)).length->Same H h->Q (.ref r) h
def Hx(T:Txt K mg a):bT P w K mg base gR 1 a.fG a.lF ["steps", "lot"] Hw:=by
 exists T.tH.oE,Hl
 ·obtain⟨s,l,L,S,c,rfl,_⟩:=h;rfl
 ·obtain⟨s,l,L,S,c,rfl,N,B,hl,ab,q⟩:=h;refine#[_,(aC (bh (cC rfl rfl (show aR (aB m7) _ ["steps", "lot"] ["step"] [1] ["step", "lot"] from by rfl') rfl (PI.eqv (bO (K:=K) rfl (aJ 0)) (bK _ _)) (λC s H O M=>(aL (i:=0) (show(["step", "lot"]:QAH).Nodup by symm) rfl (Or.inl rfl))) (λC s H O M=>(gO (PW.pt (nY (aQ (pL (K:=K) rfl) (bC (bD (K:=K) rfl) (aJ 0) aG (λ_ _=>rfl)) (aJ 1) rfl) (rM (aQ (oA (K:=K) rfl) (bC (bD (K:=K) rfl) (aJ 0) aG (λ_ _=>rfl)) (aJ 1) rfl)))))) (λC s H O M=>(aJ 0))))),?_];have a0:60<=sizeLine:=by decide
  left;refine#[#[_,aV.of N],λD G=>Kv L (λi u J=>(∃y,u=[y,some (.ref l)])/\(∃f,J D=some (.lst f)/\f.length=((S.take i).filter (Gq c)).length)/\Same H J) #[#[_,rfl],#[[],ak,rfl],au G] (λi u J _ h=>aV.of (h.2.2 _ _ N)) ?_ ?_]
  ·rintro i x u U hi ⟨⟨y,rfl⟩,⟨f,m,e⟩,n⟩;obtain⟨st,p,t,rfl,ht⟩:=B.at hi;have aa:i<S.length:=(qm2.mp p).1;have Y:=n _ _ ht;have r:=n _ _ hl;have z:((S.take i).filter (Gq c)).length<=(S.take i).length:=qn2 _ _;rw[qni,<- B.1] at z;rw[take_one p,qn5];left;have d1:inV (.str st.2.1) (c.map V.str) = !decide (¬st.2.1∈c):=by rw[bx];simp
   refine#[_,.inr (cO.of Y),_,aO (j:=1) rfl,_,.inl (aV.of r),rfl,qnk.mp (bM _),_,d1,cZ.of (λh=>?_) (λh=>?_)]
   ·have v:¬st.2.1∈c:=qnb h;left;refine#[_,.inr (cO.of Y),_,aO (j:=2) rfl,_,.inl (aV.of r),rfl,qnk.mp (bM _),?_];rw[bx];refine cZ.of (λI=>?_) (λI=>?_)
    ·have o:st.2.2∈c:=qnb I;left;refine#[_,m,⋯,#[_,ak,?_],aX n G];simp[Gq,v,o,e]
    ·have o:¬st.2.2∈c:=qnL I;left;refine#[#[_,m,?_],n];simp[Gq,v,o,e]
   ·have v:st.2.1∈c:=by simpa using h
    left;refine#[#[_,m,?_],n];simp[Gq,v,e]
  ·rintro u U ⟨⟨y,rfl⟩,⟨f,m,e⟩,n⟩;rw[B.1,qnn] at e;left;exact q D f U G m e n
def X5(C:J9):Sp:=λh H Q _=>∃(o p:J9)(e c:QAH)(i:QAD),h=[.ref o,.ref p]/\fP C H o e i/\Qp e/\Sq H p (c.map V.str)/\c.Nodup/\(∀x∈c,x∈e)/\0<c.length/\c.length<e.length/\
 ∀(r:J9)(f:Hp),H r=none->f r=some (.lst ((e.filter λy=>decide (y∈c)).map V.str))->Same H f->Q (.ref r) f
def X6(T:Txt K mg a):bT P w K mg base gR 2 a.lU a.vV ["web", "points"] (X5 a.b_):=by
 exists T.Fx.oE,Jm
 ·obtain⟨o,p,f,c,ps,rfl,_⟩:=h;rfl
 ·obtain⟨o,p,f,c,ps,rfl,hw,hX,Y,ae,N,ah,ag,q⟩:=h;refine#[_,(aA (bY (PW.pt (mO (cM (bW (PE.eqv (aN (tV T) hr.d rfl T.nR T.jE.kp T.nQ .nil bB (aj (aJ 1) ao)) (aK _ _ _)))) (jJ (cM (bW (aH (jA rfl) rfl T.nm.all iG (aj (cC rfl rfl (show aR (aB uQ) _ ["web", "points", "lot"] ["point"] [] ["point"] from by rfl') rfl (PI.eqv (vK (K:=K) rfl (aJ 1)) (rD _ _)) (λC s H O L=>(aL (i:=0) (show(["point"]:QAH).Nodup by symm) rfl (Or.inl rfl))) (λC s H O L=>cR) (λC s H O L=>(PE.eqv (aN (yg T) hr.d rfl T.wj T.rF.kp T.wg .nil bB (aj (aJ 0) ao)) (aK _ _ _)))) ao))))))) (aC qY) bA)
   (aA (jj (i:=2) Jm.nd rfl rfl rfl rfl (show aR (aB uQ) _ ["web", "points", "lot"] ["point"] [1] ["point", "points"] from by rfl') rfl (PI.eqv (bO (K:=K) rfl (PE.eqv (iU (aJ 0) T.mU T.iM (jg T) hr.d T.iK .nil bB) (iY _ _ _ _ _ _))) (bK _ _)) (λC s H O L=>(aL (i:=0) (show(["point", "points"]:QAH).Nodup by symm) rfl (Or.inl rfl))) (λC s H O L=>(gO (aQ (oA (K:=K) rfl) (aJ 0) (aJ 1) rfl))) (λC s H O L=>(aJ 0)))
   (aA (bY (aQ jN (aH (bN (K:=K) rfl) rfl T.nm.len qnd (aj (aJ 2) ao)) (aH (bN (K:=K) rfl) rfl T.nm.len qnd (aj (aJ 1) ao)) (bJ _)) (aC qY) bA)
   (aA (bY (PW.pt (mO (aQ gY (aH (bN (K:=K) rfl) rfl T.nm.len qnd (aj (aJ 2) ao)) aG (bJ _)) (jJ (aQ gY (aH (bN (K:=K) rfl) rfl T.nm.len qnd (aj (aJ 2) ao)) (aH (bN (K:=K) rfl) rfl T.nm.len qnd (aj (PE.eqv (iU (aJ 0) T.mU T.iM (jg T) hr.d T.iK .nil bB) (iY _ _ _ _ _ _)) ao)) (bJ _))))) (aC qY) bA)
   (aC (bh (aJ 2))))))),?_]
  have af:=qoL xH;have l9:=hX.len;have I:=RZ hX.nd ae N;left;refine#[p,_,rfl,Y,λH1 s1=>?_];left;obtain⟨b,hb⟩:=(Y.same s1).b;refine#[b,#[_,hb K H1 (Same.refl _)],λD hD=>cmQ (c.map V.str) (λi j n=>(∃v,j=[v])/\n D=some (.lst (List.replicate i (.bl true)))/\Same H1 n) #[#[_,rfl],ak,au hD] (λi j n _ h=>hb K n h.2.2) ?_ ?_]
  ·rintro i x j H2 G ⟨⟨v,rfl⟩,e,s2⟩;obtain⟨y,M,rfl⟩:=kE G;have ac:i<c.length:=(qm2.mp M).1;have hn:=hX.nm y (N y (qm6 M));left;refine#[y,rfl,yh hn,λH3 U=>?_];rw[hn];left;refine#[_,U _ _ e,by simp;lia,?_,aX (s2.trans U) hD];rw[ak,qoJ]
  ·rintro j H2 ⟨⟨v,rfl⟩,e,s2⟩;have u:=s1.trans s2;left;refine#[_,e,_,jF _,?_];rw[show(List.replicate (c.map V.str).length true).all id=true by simp];obtain⟨dx,fs,G,B⟩:=(hw.same u).ins gH.1 gH.2;left;refine#[_,_,G,B,o,f,ps,rfl,hw.same u,λl2 ab=>?_];exists H2,l2,(.lst (f.map V.str)),U,e2,H3,ab;have r:=u.trans U;left;refine#[#[_,aV.of e2],λD2 e=>Kv (f.map V.str) (λi j n=>(∃v,j=[v,some (.ref p)])/\n D2=some (.lst (((f.take i).filter λy=>decide (y∈c)).map V.str))/\Same H3 n) #[#[_,rfl],ak,au e] (λi j n _ h=>aV.of (h.2.2 _ _ e2)) ?_ ?_]
   ·rintro i x j H4 G ⟨⟨v,rfl⟩,m,J⟩;obtain⟨y,M,rfl⟩:=kE G;have ac:i<f.length:=(qm2.mp M).1;left;refine#[_,(Y.same (r.trans J)).q,rfl,qnk.mp (bM _),?_];rw[bx,take_one M,qn5];have a0:((f.take i).filter λy=>decide (y∈c)).length<=(f.take i).length:=qn2 _ _;rw[qni] at a0;refine cZ.of (λh=>?_) (λh=>?_)
    ·have h':y∈c:=qnb h;left;refine#[_,m,by simp;lia,?_,aX J e];rw[ak];simp[h']
    ·have h':¬y∈c:=qnL h;left;refine#[?_,J];rw[m];simp[h']
   ·rintro j H4 ⟨⟨v,rfl⟩,m,J⟩;rw[qm7,qnn] at m;have l:=r.trans J;left;refine#[_,.inl (aV.of m),_,(Y.same l).q,false,by simp[I],cZ.neg rfl ?_];left;refine#[_,.inl (aV.of m),cZ.neg (qnM λz=>?_) ?_]
    ·have z2:=qnH List.length z;rw[qm7,I,List.length_nil] at z2;lia
    obtain⟨dx,fs,G,B⟩:=(hw.same l).ins gH.1 gH.2;left;refine#[_,.inl (aV.of m),_,_,G,B,o,f,ps,rfl,hw.same l,λl5 aa=>?_];have s5:Same H4 (upd H4 l5 (.lst (f.map V.str))):=au aa;left;refine#[_,.inl (aV.of ak),cZ.neg (by simp only[qm7,I];exact qnM ⋯) ?_];left;exact q D2 _ (bZ r e) (s5 _ _ m) (l.trans s5)
def QL(C:J9):Sp:=λi H Q _=>∃(o p:J9)(e c:QAH)(f:QAD),i=[.ref o,.ref p]/\fP C H o e f/\Qp e/\tW e f/\Sq H p (c.map V.str)/\c.Nodup/\(∀x∈c,x∈e)/\0<c.length/\c.length<e.length/\
 ∀(r:J9)(h:Hp),H r=none->h r=some (.lst ((cj c f).map λn:Nat=>V.int n))->Same H h->Q (.ref r) h
def QM(T:Txt K mg a):bT P w K mg base gR 3 a.iw a.qj ["web", "lot"] (QL a.b_):=by
 exists T.yc.oE,uT
 ·obtain⟨o,p,l,c,j,rfl,_⟩:=h;rfl
 ·obtain⟨o,p,l,c,j,rfl,hw,hX,G,hp,af,ae,ah,ag,q⟩:=h;refine#[_,(aA (bF (i:=2) uT.nd rfl (Or.inr rfl) (PE.eqv (aN (X6 T) hr.d rfl T.Qg T.Fx.kp T.Qf .nil bB (aj (aJ 0) (aj (aJ 1) ao))) (aK _ _ _)))
   (aA (bF (i:=3) uT.nd rfl (Or.inl rfl) (PE.eqv (iU (aJ 0) T.mU T.tU (vh T) hr.d T.tG .nil bB) (iY _ _ _ _ _ _)))
   (aC (bh (cC rfl rfl (show aR (aB sO) _ ["web", "lot", "inside", "ties"] ["number", "first", "second"] [2] ["number", "first", "second", "inside"] from by rfl') rfl (PI.eqv (vL (K:=K) rfl rfl T.Rf.enumerate (aj (aJ 3) ao)) (nJ _ _)) (λC s H fp pn=>(PG.eqv (c7 (K:=K) (n:=2) rfl rfl (fL.eqv (aY (aL (i:=0) (show(["number", "first", "second", "inside"]:QAH).Nodup by symm) rfl (Or.inl rfl)) (fL.eqv (aY (PG.eqv (c7 (K:=K) (n:=2) rfl rfl (fL.eqv (aY (aL (i:=1) (show(["number", "first", "second", "inside"]:QAH).Nodup by symm) rfl (Or.inl rfl)) (fL.eqv (aY (aL (i:=2) (show(["number", "first", "second", "inside"]:QAH).Nodup by symm) rfl (Or.inl rfl)) (fL.mono cH dJ)) (aZ _ _))) (aZ _ _))) (dj _ _ _)) (fL.mono cH dJ)) (aZ _ _))) (aZ _ _))) (dj _ _ _))) (λC s H fp pn=>(gO (aQ jN (cI (oA (K:=K) rfl) (aJ 1) (aJ 3) rfl) (cI (oA (K:=K) rfl) (aJ 2) (aJ 3) rfl) (bJ _)))) (λC s H fp pn=>(aJ 0))))))),?_]
  have ai:50<=sizeLine:=by decide
  have rJ:=G.len;left;refine#[o,p,l,c,j,rfl,hw,hX,hp,af,ae,ah,ag,λr O al aa M=>?_];obtain⟨dx,fs,hi,ab⟩:=(hw.same M).ins wB.1 wB.2;left;refine#[_,_,hi,ab,o,l,j,rfl,hw.same M,λN m ac Tv=>?_];have v:Same O (upd O N (.lst m)):=au ac;have e2:upd O N (.lst m) N=some (.lst m):=ak;have A_:=bI.same Tv v;have B:=v _ _ aa;generalize upd O N (.lst m)=H2 at v e2 A_ B⊢;left;refine#[#[_,aV.of e2],λD hD=>cmE m (λi J H'=>(∃o1 o2 o3,J=[o1,o2,o3,some (.ref r)])/\H' D=some (.lst ((jK (eU c) (j.take i) 0).map λn:Nat=>V.int n))/\Same H2 H') #[#[_,_,_,rfl],ak,au hD] (λi J H' _ h=>aV.of (h.2.2 _ _ e2)) ?_ ?_]
  ·rintro i x t J I hi ht ⟨⟨o1,o2,o3,rfl⟩,L,u⟩;obtain⟨e,he,tt,rfl,a0⟩:=A_.at hi;obtain⟨q1,q2,_⟩:=G.ok e (qm6 he);have am:i<j.length:=(qm2.mp he).1;have an:(jK (eU c) (j.take i) 0).length<=20:=by
    have h1:=lO (kO c) (j.take i) 0;rw[qni] at h1;lia
   have st:Same I (upd I t (.tup [.int i,.ref tt])):=au ht;rw[rA _ he];left;refine#[_,cO.of ak,rfl,_,cO.of (st _ _ (u _ _ a0)),rfl,?_];have Jy:=st _ _ (u _ _ B);have Y:=st _ _ L;have U:=u.trans st;generalize upd I t (.tup [.int i,.ref tt])=H4 at Jy Y U⊢;refine#[_,.inl (aV.of Jy),rfl,qnk.mp (bM _),_,.inl (aV.of Jy),rfl,qnk.mp (bM _),?_];rw[bx,bx];have m1:(e.1∈l.filter λy=>decide (y∈c))↔e.1∈c:=by simp[q1]
   have m2:(e.2∈l.filter λy=>decide (y∈c))↔e.2∈c:=by simp[q2]
   by_cases f:e.1∈c↔e.2∈c
   ·have ef:eU c e i=[]:=by unfold eU;rw[if_pos f]
    refine#[false,by simp only[m1,m2,f];simp,cZ.neg rfl ?_];rw[ef,qnC];left;exact#[Y,U]
   ·have ef:eU c e i=[i]:=by unfold eU;rw[if_neg f]
    refine#[true,?_,cZ.pos rfl ?_]
    ·simp only[m1,m2];simp;exact λz=>f z
    rw[ef];left;refine#[_,Y,by simp;lia,?_,aX U hD];rw[ak]
  ·rintro J I ⟨⟨o1,o2,o3,rfl⟩,L,u⟩;rw[A_.1,qnn] at L;left;exact q D I (bZ (M.trans v) hD) L ((M.trans v).trans u)
abbrev Cy:Pos:=#[160,67,160,90]
abbrev Cz:Str:= "shut_cuts" ++ ".<locals>." ++ "<lambda>"
def QS(G H:Hp)(v:V)(z:List Nat×QAH):Prop:=∃u p q,v = .ref u/\H u=some (.tup [.ref p,.ref q])/\H p=some (.lst (z.1.map λn:Nat=>V.int n))/\G q=none/\H q=some (.lst (z.2.map V.str))
def gC(G H:Hp)(vs:QA0)(zs:List (List Nat×QAH)):Prop:=bL (QS G) H vs zs
def QS.keep{G H c:Hp}{v:V}{z:List Nat×QAH}(h:QS G H v z)(k:∀b o,(∀ps,o≠.zU ps)->H b=some o->c b=some o):QS G c v z:=by
 obtain⟨u,p,q,e,l,j,i,f⟩:=h;exact#[u,p,q,e,k _ _ (by simp) l,k _ _ (by simp) j,i,k _ _ (by simp) f]
def QS.same{G H c:Hp}{v:V}{z:List Nat×QAH}(h:QS G H v z)(k:Same H c):QS G c v z:=h.keep λb o _ e=>k b o e
theorem gC.same{G H c:Hp}{vs:QA0}{zs:List (List Nat×QAH)}(h:gC G H vs zs)(k:Same H c):gC G c vs zs:=bL.keep h λ_ _ x=>x.same k
def JF{H c:Hp}{vs:QA0}{S:List gJ}(h:dg H vs S)(k:Same H c):dg c vs S:=bL.keep h λv s ⟨t,e,z⟩=>#[t,e,k _ _ z]
def Gs(D:J9)(H:Hp):Hp:=λb=>if b=D then none else H b
def qbV{D:J9}{H:Hp}{o:HO}:Gs D (upd H D o)=Gs D H:=by
 funext b
 unfold Gs
 by_cases h:b=D
 ·rw[if_pos h,if_pos h]
 ·rw[if_neg h,if_neg h,aF h]
def X7{D:J9}{H c:Hp}(s:Same H c):Same (Gs D H) (Gs D c):=λb o e=>by
 unfold Gs at e⊢
 by_cases h:b=D
 ·rw[if_pos h] at e;cases e
 ·rw[if_neg h] at e⊢;exact s b o e
def qdQ{D:J9}{H:Hp}:Same (Gs D H) H:=λb o e=>by
 unfold Gs at e
 by_cases h:b=D
 ·rw[if_pos h] at e;cases e
 ·rw[if_neg h] at e;exact e
def Mt{D b:J9}{H:Hp}{o:HO}(h:b≠D)(e:H b=some o):Gs D H b=some o:=by
 unfold Gs;rw[if_neg h];exact e
def qG(ns:qx)(ps:QAD)(c:QAH):Bool:=decide (((qgw ns ps).filter (Gq c)).length=0)
def j9(xs:QAH)(ps:QAD)(ns:qx):List (List Nat×QAH):=((qF xs).filter (qG ns ps)).map λc=>(cj c ps,c)
theorem QT:∀{uv:QA0},(∀v∈uv,∃t,v = .ref t)->∃as:List Addr,uv=as.map V.ref
 |[],_=>#[[],rfl]
 |v::uv,h=>by
  obtain⟨t,rfl⟩:=h v qng;obtain⟨as,rfl⟩:=QT (uv:=uv) λu c=>h u (qm_ _ c);exact#[t::as,rfl]
def qbW{β:Type}{R:Hp->V->β->Prop}{H:Hp}{us vs:QA0}{zs:List β}(h:bL R H vs zs)(p:us.Perm vs):∃ys,ys.Perm zs/\bL R H us ys:=by
 have m:∀{us vs:QA0},us.Perm vs->∀{zs:List β},bL R H vs zs->∃ys,ys.Perm zs/\bL R H us ys:=by
  have c:∀{v:V}{vs:QA0}{zs:List β},bL R H (v::vs) zs->∃z r,zs=z::r/\R H v z/\bL R H vs r:=by
   rintro v vs zs ⟨A,s⟩;cases zs with
   |nil=>simp at A
   |cons z r=>exact#[z,r,rfl,s 0 v z rfl rfl,by simpa using A,λi u y a b=>s (i+1) u y (by simpa using a) (by simpa using b)]
  have j:∀{v:V}{vs:QA0}{z:β}{r:List β},R H v z->bL R H vs r->bL R H (v::vs) (z::r):=by
   rintro v vs z r a ⟨b1,b2⟩;refine#[by simp[b1],λi u y o n=>?_];cases i with
   |zero=>
    simp at o n;subst o n;exact a
   |succ i=>exact b2 i u y (by simpa using o) (by simpa using n)
  intro us vs p
  induction p with
  |nil=>intro zs h;exact#[zs,.refl _,h]
  |cons x _ ih=>
   intro zs h;obtain⟨z,r,rfl,a,b⟩:=c h;obtain⟨ys,f,e⟩:=ih b;exact#[z::ys,f.cons z,j a e]
  |swap x y l=>
   intro zs h;obtain⟨z,r,rfl,a,b⟩:=c h;obtain⟨z2,r,rfl,a2,b2⟩:=c b;exact#[z2::z::r,.swap ..,j a2 (j a b2)]
  |trans _ _ G E=>
   intro zs h;obtain⟨ys,f,D⟩:=E h;obtain⟨B,e,C⟩:=G D;exact#[B,e.trans f,C]
 exact m p h
def Mu(C h:J9):Sp:=λm H Q _=>∃(o t:J9)(e:QAH)(f:QAD)(l:qx),m=[.ref o,.ref t]/\qdK C H o t e f l/\Qp e/\tW e f/\TabOk Cy Cz h H/\
 ∀(r:J9)(j:QA0)(i:List (List Nat×QAH))(c:Hp),i.Perm (j9 e f l)->H r=none->c r=some (.lst j)->gC H c j i->But h H c->TabOk Cy Cz h c->Q (.ref r) c
def Mv(T:Txt K mg a){c Pt:J9}(L:VB a.fJ base mg c Pt):bT P w K mg base gR 7 a.fH a.fJ ["web", "pointing"] (Mu a.b_ Pt):=by
 refine T.u6.okC L.cd sU (λvs H Q E h=>?_) (λA ap s H vs Q E hr h=>?_)
 ·obtain⟨o,t,r,m,ns,rfl,_⟩:=h;rfl
 ·obtain⟨o,t,r,m,ns,rfl,hp,hX,b0,hT,q⟩:=h;refine#[_,(aA (bF (i:=2) sU.nd rfl (Or.inr rfl) (PE.eqv (aN (X3 T) hr.d rfl T.Qi T.FP.kp T.Qh .nil bB (aj (aJ 0) (aj (aJ 1) ao))) (aK _ _ _)))
   (aA (jj (i:=3) sU.nd rfl rfl rfl rfl (show aR (aB dF) _ ["web", "pointing", "steps", "shut"] ["lot"] [2] ["lot", "steps"] from by rfl') rfl (PI.eqv (bO (K:=K) rfl (PE.eqv (aN (QK T) hr.d rfl T.Fz T.xZ.kp T.Fy .nil bB (aj (aJ 0) ao)) (aK _ _ _))) (bK _ _)) (λC s H fp pn=>(aL (i:=0) (show(["lot", "steps"]:QAH).Nodup by symm) rfl (Or.inl rfl))) (λC s H fp pn=>(gO (aQ gY (aH (bN (K:=K) rfl) rfl T.nm.len qnd (aj (PE.eqv (aN (Hx T) hr.d rfl T.zN T.tH.kp T.zM .nil bB (aj (aJ 1) (aj (aJ 0) ao))) (aK _ _ _)) ao)) aG (bJ _)))) (λC s H fp pn=>(aJ 0)))
   (aC (bh (qbp (K:=K) (k:=0) rfl hr.d rfl L.hd L.bt rfl T.Rf.sorted T.nm.len (aj (cC rfl rfl (show aR (aB dF) _ ["web", "pointing", "steps", "shut"] ["lot"] [0] ["lot", "web"] from by rfl') rfl (PI.eqv (bO (K:=K) rfl (aJ 3)) (bK _ _)) (λC s H fp pn=>(aL (i:=0) (show(["lot", "web"]:QAH).Nodup by symm) rfl (Or.inl rfl))) (λC s H fp pn=>cR) (λC s H fp pn=>(ji (aj (PE.eqv (aN (QM T) hr.d rfl T.FN T.yc.kp T.FJ .nil bB (aj (aJ 1) (aj (aJ 0) ao))) (aK _ _ _)) (aj (aJ 0) ao))))) ao) rfl))))),?_]
  have b9:600<sizeLine:=by decide
  have hw:=hp.1;left;refine#[o,t,r,m,ns,rfl,hp,λl sv H1 bc ax hS b8 s1=>?_];left;refine#[o,r,m,rfl,hw.same s1,hX.len.2,λr2 tv H2 ba e2 hN s2=>?_];have aw:=s2 _ _ ax;have b7:=JF hS s2;have tl:tv.length=2 ^ r.length - 2:=by rw[hN.1,vA]
  have p9:2 ^ r.length<=2 ^ 9:=qpV (by decide) hX.len.2;left;refine#[#[_,aV.of e2],λD hD=>Kv tv (λj I O=>(∃o1,I=[o1,some (.ref l)])/\(∃uv,O D=some (.lst uv)/\Mq H1 H2 uv (((qF r).take j).filter (qG ns m)))/\Same H2 O) #[#[_,rfl],#[[],ak,by rw[qpu];exact bL.nil],au hD] (λj I O _ h=>aV.of (h.2.2 _ _ e2)) ?_ ?_]
  ·rintro j v I H3 hj ⟨⟨o1,rfl⟩,⟨uv,uf,f⟩,N⟩;have ay:j<tv.length:=(qm2.mp hj).1;obtain⟨c,hc,B,rfl,a0,Vi⟩:=bL.at hN hj;have av:(((qF r).take j).filter (qG ns m)).length<=((qF r).take j).length:=qn2 _ _;rw[qni] at av;have Ri:=f.1;rw[take_one hc,qn5];left;refine#[l,B,sv,_,_,rfl,N _ _ aw,JF b7 N,N _ _ Vi,b8,λl5 lv J bb e5 am M=>?_];left;have hb:qG ns m c=decide (lv=[]):=by
    unfold qG;rw[<- am];simp
   have zW:=M _ _ uf;refine#[lv,.inl (aV.of e5),cZ.of (λh=>?_) (λh=>?_)]
   ·rw[h] at hb;left;refine#[uv,zW,∅,#[_,ak,?_],aX (N.trans M) hD];rw[qo0 hb,qo6];exact bL.snoc f #[B,rfl,a0,Vi]
   ·rw[h] at hb;left;refine#[#[uv,zW,?_],N.trans M];rw[qo1 (by rw[hb];simp),qo6,qnC];exact f
  ·rintro I H3 ⟨⟨o1,rfl⟩,⟨uv,uf,f⟩,N⟩;rw[tl,<- vA,qnn] at f;have S3:=s2.trans N;have ag:=f.same N;generalize hZ:(qF r).filter (qG ns m)=Z at f ag;have az:∀z∈Z,z.Sublist r/\0<z.length/\z.length<r.length:=λz hz=>by
    rw[<- hZ] at hz;exact qbU hX.len.2 (qnv.mp hz).1
   have zl:Z.length<=2 ^ r.length - 2:=by
    rw[<- hZ,<- vA];exact qn2 _ _
   have ul:=f.1;left;refine#[#[_,aV.of uf],λD2 aa=>Kv uv (λj I O=>(∃o1,I=[o1,some (.ref o)])/\(∃U,O D2=some (.lst U)/\gC H1 (Gs D2 O) U ((Z.take j).map λc=>(cj c m,c)))/\Same H3 O) #[#[_,rfl],#[[],ak,by rw[qpu];exact bL.nil],au aa] (λj I O _ h=>aV.of (h.2.2 _ _ uf)) ?_ ?_]
   ·rintro j v I H4 hj ⟨⟨o1,rfl⟩,⟨U,qD,y⟩,s4⟩;obtain⟨c,hc,B,rfl,a0,Vi⟩:=bL.at ag hj;have ar:=y.1;rw[qm7,qni] at ar;have ay:j<Z.length:=(qm2.mp hc).1;obtain⟨z1,z2,z3⟩:=az c (qm6 hc);have S4:=S3.trans s4;have ab:=s4 _ _ Vi;have ah:B≠D2:=λz=>by rw[z,aa] at Vi;cases Vi
    rw[take_one hc,qn3];left;refine#[o,B,r,c,m,rfl,hw.same (s1.trans S4),hX,b0,.inl ab,hX.nd.sublist z1,λx hx=>z1.mem hx,z2,z3,λr5 J ae Rh M=>?_];have zW:=M _ _ qD;have ai:r5≠D2:=λz=>by rw[z,qD] at ae;cases ae
    left;intro p6 Rj;have G:Same J (upd J p6 (.tup [.ref r5,.ref B])):=au Rj;have e6:upd J p6 (.tup [.ref r5,.ref B]) p6=some (.tup [.ref r5,.ref B]):=ak;have an:p6≠D2:=λz=>by rw[z,zW] at Rj;cases Rj
    generalize upd J p6 (.tup [.ref r5,.ref B])=H6 at G e6⊢;refine#[U,G _ _ zW,∅,#[_,ak,?_],aX (s4.trans (M.trans G)) aa];rw[qbV];refine bL.snoc (gC.same y (X7 (M.trans G))) #[p6,r5,B,rfl,Mt an e6,Mt ai (G _ _ Rh),a0,Mt ah (G _ _ (M _ _ ab))]
   ·rintro I H4 ⟨⟨o1,rfl⟩,⟨U,qD,y⟩,s4⟩;rw[ul,qnn] at y;have Y:gC H1 H4 U (Z.map λc=>(cj c m,c)):=gC.same y qdQ;obtain⟨as,rfl⟩:=QT (uv:=U) λv hv=>by
     obtain⟨k,hk⟩:=List.getElem?_of_mem hv;obtain⟨z,_,u,_,_,e,_⟩:=bL.at Y hk;exact#[u,e]
    have S4:=(s1.trans S3).trans s4;have af:=hT.same S4;have nP:∀{b:J9}{o:HO},H4 b=some o->(∀m,o≠.zU m)->b≠Pt:=λ{b o} e n z=>by
     obtain⟨qs,hq⟩:=af.tb;rw[z,hq] at e;cases e;exact n _ rfl
    left;refine#[af,as,aV.of qD,λu hu=>?_,λD3 bs J hb hB b6 al uf=>?_]
    ·obtain⟨k,hk⟩:=List.getElem?_of_mem hu;obtain⟨z,_,u',p,q,e,h1,h2,_⟩:=bL.at Y (v:=.ref u) (by rw[qnr,hk];rfl);cases e;exact#[p,#[_,cO.of h1],_,aV.of h2]
    ·have k5:∀b o,(∀m,o≠.zU m)->H4 b=some o->J b=some o:=λb o n e=>hB _ _ (nP e n) e;obtain⟨zs,hz,ac⟩:=qbW (R:=QS H1) (bL.keep Y λv z h=>h.keep k5) (hb.map V.ref);have G:Same J (upd J D3 (.lst (bs.map V.ref))):=au uf;refine q D3 _ zs _ (by rw[<- hZ] at hz;exact hz) (bZ S4 al) ak ?_ (λb o n e=>G _ _ (hB _ _ n (S4 _ _ e))) (b6.same G);refine#[ac.1,λi v z hv hz=>?_];obtain⟨u,p,q,e,h1,h2,h3,h4⟩:=(ac.2 i v z hv hz).same G;exact#[u,p,q,e,h1,h2,s1.free h3,h4]
def bT.no{P:qd}{w:lW}{K:YZ}{mg:Y4}{base:oY}{k:Nat}{f:J9}{c:sH}{ps:QAH}:bT P w K mg base gR k f c ps (λ_ _ _ _=>False):=#[λ_ _ _ _ h=>h.elim,λ_ _ _ _ _ _ _ _ _ _ _ _ _ h=>h.elim]
def preS(f:Nat->Sp):Nat->Sp
 |0=>λ_ _ _ _=>False
 |k+1=>f k
def Hy(n:Nat)(z:List Nat×QAH):Bool:=!decide (n∈z.1)
def Gu:Sp:=λi H Q _=>∃(l:J9)(e:QA0)(h:List (List Nat×QAH))(n:Nat)(G:Hp),i=[.ref l,.int n]/\H l=some (.lst e)/\e.length<=600/\gC G H e h/\
 ∀(r:J9)(c:QA0)(f:Hp),H r=none->f r=some (.lst c)->c.length<=e.length->gC G f c (h.filter (Hy n))->Same H f->Q (.ref r) f
def qdR(k:Int)(ks:qx):inV (.int k) (ks.map V.int)=decide (k∈ks):=by
 unfold inV;rw[List.any_map]
 induction ks with
 |nil=>rfl
 |cons a ks ih=>
  rw[qpk,ih]
  by_cases e:a=k
  ·subst e;simp[Wz]
  ·simp[Wz,e,qoE e]
def zQ(n:Nat)(ks:wX):inV (.int n) (ks.map λn:Nat=>V.int n)=decide (n∈ks):=by
 have h:=qdR (n:Int) (ks.map λn:Nat=>(n:Int));rw[qoG] at h;have e:(V.int ∘ λn:Nat=>(n:Int))=λn:Nat=>V.int n:=rfl;rw[e] at h;rw[h];rw[qou,qol,qol,qnA];constructor
 ·rintro⟨x,c,e⟩;have:x=n:=⋯
  rwa [this] at c
 ·intro c;exact#[n,c,rfl]
def rG(ks:wX):∀z∈ks.map (λn:Nat=>V.int n),jx z=true:=by
 intro z c;obtain⟨k,_,rfl⟩:=qnA.mp c;rfl
def Gv(T:Txt K mg a):bT P w K mg base gR 1 a.eE a.jV ["cuts", "number"] Gu:=by
 exists T.qR.oE,Fb
 ·obtain⟨l,r,L,n,G,rfl,_⟩:=h;rfl
 ·obtain⟨l,r,L,n,G,rfl,U,aa,N,q⟩:=h;refine#[_,(aC (bh (cC rfl rfl (show aR (aB lA) _ ["cuts", "number"] ["cut"] [1] ["cut", "number"] from by rfl') rfl (PI.eqv (bO (K:=K) rfl (aJ 0)) (bK _ _)) (λC s H fp M=>(aL (i:=0) (show(["cut", "number"]:QAH).Nodup by symm) rfl (Or.inl rfl))) (λC s H fp M=>(gO (aQ (pL (K:=K) rfl) (aJ 1) (bC (bD (K:=K) rfl) (aJ 0) aG (λ_ _=>rfl)) rfl))) (λC s H fp M=>(aJ 0))))),?_];have a0:700<sizeLine:=by decide
  left;refine#[#[_,aV.of U],λD I=>Kv r (λj o J=>(∃x,o=[x,some (.int n)])/\(∃e,J D=some (.lst e)/\e.length<=j/\gC G H e ((L.take j).filter (Hy n)))/\Same H J) #[#[_,rfl],#[[],ak,qm5 _,by rw[qpu];exact bL.nil],au I] (λj o J _ h=>aV.of (h.2.2 _ _ U)) ?_ ?_]
  ·rintro j v o H2 Y ⟨⟨x,rfl⟩,⟨e,c,m,hw⟩,f⟩;have ab:j<r.length:=(qm2.mp Y).1;obtain⟨z,y,O⟩:=bL.at N Y;obtain⟨u,p,q',rfl,h1,h2,h3,h4⟩:=id O;rw[take_one y,qn5];left;refine#[_,.inr (cO.of (f _ _ h1)),_,aO (j:=0) rfl,_,.inl (aV.of (f _ _ h2)),rfl,rG _,Hy n z,by rw[zQ];simp[Hy],cZ.of (λh=>?_) (λh=>?_)]
   ·have B:=h;left;refine#[e,c,⋯,#[_,ak,by simp;omega,?_],aX f I];rw[qo0 B,qo6];exact bL.snoc hw O
   ·have B:=h;left;refine#[#[e,c,⋯,?_],f];rw[qo1 (by rw[B];simp),qo6,qnC];exact hw
  ·rintro o H2 ⟨⟨x,rfl⟩,⟨e,c,m,hw⟩,f⟩;rw[N.1,qnn] at hw;left;exact q D e H2 I c m (gC.same hw f) f
def oZ:Nat->List (List Nat×QAH)->Option (List Nat)
 |0,zs=>if zs=[] then some [] else none
 |m+1,zs=>match zs with
  |[]=>some []
  |z::r=>z.1.findSome? λn=>(oZ m ((z::r).filter (Hy n))).map (n::·)
def qbY(m:Nat):oZ m []=some []:=by cases m <;> rfl
def QV{c β:Type}{f:c->Option β}{l:List c}{i:Nat}{n:c}{r:β}(h:l[i]? = some n)(p:(l.take i).findSome? f=none)(o:f n=some r):l.findSome? f=some r:=by
 have j:i<l.length:=(qm2.mp h).1;have e:l=l.take i++n::l.drop (i+1):=by
  have m:l[i]=n:=by rw[qnx j] at h;injection h
  rw[<- m,<- List.drop_eq_getElem_cons j,qog]
 rw[e,List.findSome?_append,p];simp[o]
def Bc{c β:Type}{f:c->Option β}{l:List c}{i:Nat}{n:c}(h:l[i]? = some n)(j:(l.take i).findSome? f=none)(e:f n=none):(l.take (i+1)).findSome? f=none:=by
 rw[take_one h,List.findSome?_append,j];simp[e]
theorem zR:∀{m:Nat}{zs:List (List Nat×QAH)}{ks:wX},oZ m zs=some ks->ks.length<=m
 |0,zs,ks,h=>by
  unfold oZ at h;split at h
  ·cases h;exact qm5 _
  ·cases h
 |m+1,zs,ks,h=>by
  unfold oZ at h;cases zs with
  |nil=>cases h;exact qnI _
  |cons z r=>
   dsimp only at h;obtain⟨n,_,c⟩:=qoN h;rw[qod] at c;obtain⟨e,f,rfl⟩:=c;have:=zR f;simp;omega
def Mw(k:Nat):Sp:=λi H Q _=>∃(l:J9)(f:QA0)(e:List (List Nat×QAH))(m:Nat)(G:Hp),i=[.ref l,.int m]/\m<=k/\k<=20/\H l=some (.lst f)/\f.length<=600/\gC G H f e/\
 (oZ m e=none->∀c,Same H c->Q .non c)/\(∀h,oZ m e=some h->∀(r:J9)(c:Hp),H r=none->c r=some (.lst (h.map λn:Nat=>V.int n))->Same H c->Q (.ref r) c)
def JG(T:Txt K mg a){k:Nat} (ih:bT P w K mg base gR (k+1) a.cF a.fj ["cuts", "most"] (preS Mw k)):bT P w K mg base gR (k+2) a.cF a.fj ["cuts", "most"] (Mw k):=by
 exists T.iz.oE,mH
 ·obtain⟨l,f,J,m,G,rfl,_⟩:=h;rfl
 ·obtain⟨l,f,J,m,G,rfl,ai,hk,hl,a0,M,q1,q2⟩:=h;refine#[_,(aA (bY (aQ gY (aH (bN (K:=K) rfl) rfl T.nm.len qnd (aj (aJ 0) ao)) aG (bJ _)) (aC (bh (cN ao))) bA)
   (aA (bY (aQ gY (aJ 1) aG (bJ _)) (aC (bh zX)) bA)
   (aA (gU qnS rfl (PI.eqv (bO (K:=K) rfl (bC (bD (K:=K) rfl) (bC (bD (K:=K) rfl) (aJ 0) aG (λ_ _=>rfl)) aG (λ_ _=>rfl))) (bK _ _)) (aL (i:=2) mH.nd rfl (Or.inl rfl))
   (aA (bF (i:=3) mH.nd rfl (Or.inl rfl) (PE.eqv (aN ih (hr.mono ⋯) rfl T.jY T.iz.kp T.jX .nil bB (aj (PE.eqv (aN (Gv T) (hr.mono ⋯) rfl T.wR T.qR.kp T.wQ .nil bB (aj (aJ 0) (aj (aJ 2) ao))) (aK _ _ _)) (aj (cX yV (aJ 1) aG) ao))) (aK _ _ _)))
   (aC (bY (aQ U8 (aJ 3) zX (bJ _)) (aC (bh (cX vM (cN (aj (aJ 2) ao)) (aJ 3)))) bA))))
   (aC (bh zX))))),?_]
  have ag:700<sizeLine:=by decide
  have s0:=Same.refl H;left;refine#[f,.inl (aV.of hl),cZ.of (λh=>?_) (λh=>?_)]
  ·have e:f=[]:=qnb h;subst e;have z0:J=[]:=qos.mp M.1.symm;subst z0;left;exact λp hp=>q2 [] (qbY m) p _ hp ak (au hp)
  ·have e:f≠[]:=qnL h;obtain⟨z,N,rfl⟩:∃z r,J=z::r:=by
    cases J with
    |nil=>exact absurd (qos.mp M.1) e
    |cons z r=>exact#[z,r,rfl]
   obtain⟨v,ac,rfl⟩:∃v r,f=v::r:=by
    cases f with
    |nil=>exact absurd rfl e
    |cons z r=>exact#[z,r,rfl]
   obtain⟨u,p,q',rfl,e1,e2,e3,e4⟩:=M.2 0 _ z rfl rfl;left;refine cZ.of (λh=>?_) (λh=>?_)
   ·have hm:m=0:=by have:=qnb h;omega
    subst hm;left;exact q1 rfl _ s0
   ·obtain⟨y,rfl⟩:∃y,m=y+1:=#[m - 1,by have:=qnL h;lia];obtain⟨k',rfl⟩:∃k',k=k'+1:=#[k - 1,⋯];left;refine#[_,.inl (aV.of hl),_,aO (j:=0) rfl,_,.inr (cO.of e1),_,aO (j:=0) rfl,#[_,aV.of e2],frL (z.1.map λn:Nat=>V.int n) (λi I H'=>(∃o1 o2,I=[some (.ref l),some (.int (y+1)),o1,o2])/\((z.1.take i).findSome? λn=>(oZ y ((z::N).filter (Hy n))).map (n::·))=none/\Same H H') #[#[_,_,rfl],by rw[qpu];rfl,s0] (λi I H' _ h=>aV.of (h.2.2 _ _ e2)) ?_ ?_]
    ·rintro i x I H2 hi ⟨⟨o1,o2,rfl⟩,c,o⟩;rw[qnr,qod] at hi;obtain⟨n,hn,rfl⟩:=hi;left;refine#[l,_,_,n,G,rfl,o _ _ hl,a0,gC.same M o,λr O H3 ah aa Ri C s3=>?_];have af:=C;left;refine#[r,O,_,y,G,rfl,⋯,⋯,aa,⋯,C,λe D Y=>?_,λks e r4 D ae Jy Y=>?_]
     ·left;exact#[by simpa using Bc hn c (by rw[e];rfl),o.trans (s3.trans Y)]
     ·have kl:=zR e;left;intro L ab;have U:Same D (upd D L (.lst [.int n])):=au ab;have e5:upd D L (.lst [.int n]) L=some (.lst [.int n]):=ak;have e6:=U _ _ Jy;generalize upd D L (.lst [.int n])=H5 at U e5 e6⊢;refine#[_,e5,_,e6,by simp;lia,λp7 B=>?_];have S5:=o.trans (s3.trans (Y.trans U));exact q2 (n::ks) (QV hn c (by rw[e];rfl)) p7 _ (bZ S5 B) (by rw[ak];rfl) (S5.trans (au B))
    ·rintro I H2 ⟨⟨o1,o2,rfl⟩,c,o⟩;rw[qm7,qnn] at c;left;exact q1 c _ o
theorem Mx(T:Txt K mg a):∀k:Nat,bT P w K mg base gR (k+2) a.cF a.fj ["cuts", "most"] (Mw k)
 |0=>JG T bT.no
 |k+1=>JG T (Mx T k)
def o9(z y:List Nat×QAH):Bool:=!(y.1.any λk=>decide (k∈z.1))
def zT:List Nat->List (List Nat×QAH)->Option (List (QAH))
 |[],_=>some []
 |n::ns,zs=>zs.findSome? λz=>if n∈z.1 then (zT ns (zs.filter (o9 z))).map (z.2::·) else none
theorem Gw:∀{ns:wX}{zs:List (List Nat×QAH)}{e:List (QAH)},zT ns zs=some e->e.length=ns.length
 |[],zs,e,h=>by
  unfold zT at h;cases h;rfl
 |n::ns,zs,e,h=>by
  unfold zT at h;obtain⟨z,_,c⟩:=qoN h;split at c
  ·rw[qod] at c;obtain⟨i,f,rfl⟩:=c;simp[Gw f]
  ·cases c
def Mz(k:Nat):Sp:=λj H Q _=>∃(l t:J9)(h:QA0)(e:List (List Nat×QAH))(f:wX)(G:Hp),j=[.ref l,.ref t]/\f.length<=k/\k<=20/\H l=some (.lst h)/\h.length<=600/\gC G H h e/\(∀z∈e,z.1.length<=20)/\H t=some (.lst (f.map λn:Nat=>V.int n))/\
 (zT f e=none->∀c,Same H c->Q .non c)/\(∀i,zT f e=some i->∀(r:J9)(lv:QA0)(c:Hp),H r=none->c r=some (.lst lv)->Mq G c lv i->Same H c->Q (.ref r) c)
def qbZ(x:V)(xs:QA0):wC (x::xs) (some 1) none=xs:=by
 unfold wC;have e:HT.Ds (x::xs).length 0 (some 1)=1:=by
  unfold HT.Ds;simp
  try omega
 have c:HT.Ds (x::xs).length (x::xs).length none=xs.length+1:=by simp[HT.Ds]
 rw[e,c];simp
def Gx(T:Txt K mg a){k:Nat} (ih:bT P w K mg base gR (k+1) a.dD a.gG ["cuts", "numbers"] (preS Mz k)):bT P w K mg base gR (k+2) a.dD a.gG ["cuts", "numbers"] (Mz k):=by
 exists T.nu.oE,jc
 ·obtain⟨l,t,us,zs,ns,G,rfl,_⟩:=h;rfl
 ·obtain⟨l,t,us,zs,ns,G,rfl,ae,hk,hl,aw,hz,rJ,ht,q1,q2⟩:=h;refine#[_,(aA (bY (aQ gY (aH (bN (K:=K) rfl) rfl T.nm.len qnd (aj (aJ 1) ao)) aG (bJ _)) (aC (bh (cN ao))) bA)
   (aA (gU qnS rfl (PI.eqv (bO (K:=K) rfl (aJ 0)) (bK _ _)) (PG.eqv (c7 (K:=K) (n:=2) rfl rfl (fL.eqv (aY (aL (i:=2) jc.nd rfl (Or.inr rfl)) (fL.eqv (aY (aL (i:=3) jc.nd rfl (Or.inl rfl)) (fL.mono cH dJ)) (aZ _ _))) (aZ _ _))) (dj _ _ _))
   (aC (bY (aQ (oA (K:=K) rfl) (bC (bD (K:=K) rfl) (aJ 1) aG (λ_ _=>rfl)) (aJ 2) rfl) (aA (jj (i:=4) jc.nd rfl rfl rfl rfl (show aR (aB m8) _ ["cuts", "numbers", "crossed", "lot", "others", "rest"] ["cut"] [2] ["cut", "crossed"] from by rfl') rfl (PI.eqv (bO (K:=K) rfl (aJ 0)) (bK _ _)) (λC s H fp pn=>(aL (i:=0) (show(["cut", "crossed"]:QAH).Nodup by symm) rfl (Or.inl rfl))) (λC s H fp pn=>(gO (cM (bW (aH (IW rfl) rfl T.Rf.any Im (aj (qao (show aR (_) _ ["cut", "crossed"] ["number"] [1] ["number", "crossed"] from by rfl') rfl (PI.eqv (bO (K:=K) rfl (bC (bD (K:=K) rfl) (aJ 0) aG (λ_ _=>rfl))) (bK _ _)) (λC s H fp pn=>(aL (i:=0) (show(["number", "crossed"]:QAH).Nodup by symm) rfl (Or.inl rfl))) (λC s H fp pn=>cR) (λC s H fp pn=>(cI (oA (K:=K) rfl) (aJ 0) (aJ 1) rfl))) ao)))))) (λC s H fp pn=>(aJ 0)))
   (aA (bF (i:=5) jc.nd rfl (Or.inl rfl) (PE.eqv (aN ih (hr.mono ⋯) rfl T.tM T.nu.kp T.tK .nil bB (aj (aJ 4) (aj (N5 (qem (K:=K) rfl) (aJ 1) (PO.eqv (JX aG) (Ef _)) qcy) ao))) (aK _ _ _)))
   (aC (bY (aQ U8 (aJ 5) zX (bJ _)) (aC (bh (cX vM (cN (aj (aJ 3) ao)) (aJ 5)))) bA)))) bA)))
   (aC (bh zX)))),?_]
  have av:700<sizeLine:=by decide
  have s0:=Same.refl H;left;refine#[_,.inl (aV.of ht),cZ.of (λh=>?_) (λh=>?_)]
  ·have Y:ns=[]:=by simpa using qnb h
   subst Y;left;exact λp hp=>q2 [] rfl p [] _ hp ak bL.nil (au hp)
  ·obtain⟨n,e,rfl⟩:∃n r,ns=n::r:=by
    cases ns with
    |nil=>simp at h
    |cons z r=>exact#[z,r,rfl]
   obtain⟨k',rfl⟩:∃k',k=k'+1:=#[k - 1,by simp at ae;lia];rw[qnt] at ae;left;refine#[#[_,aV.of hl],frL us (λi f I=>(∃M o2 o3 o4,f=[some (.ref l),some (.ref t),M,o2,o3,o4])/\((zs.take i).findSome? λz=>if n∈z.1 then (zT e (zs.filter (o9 z))).map (z.2::·) else none)=none/\Same H I) #[#[_,_,_,_,rfl],by rw[qpu];rfl,s0] (λi f I _ h=>aV.of (h.2.2 _ _ hl)) ?_ ?_]
   ·rintro i v f H2 hi ⟨⟨M,o2,o3,o4,rfl⟩,m,B⟩;obtain⟨z,N,hv⟩:=bL.at hz hi;obtain⟨u,p,U,rfl,e1,e2,e3,e4⟩:=id hv;left;have t2:=B _ _ ht;have p2:=B _ _ e2;refine#[_,cO.of (B _ _ e1),rfl,_,.inl (aV.of t2),_,aO (j:=0) rfl,_,.inl (aV.of p2),rfl,rG _,?_];rw[zQ];refine cZ.of (λh=>?_) (λh=>?_)
    ·have J:=qnb h;left;refine#[#[_,aV.of (B _ _ hl)],λD hD=>Kv us (λj f I=>(∃M,f=[M,some (.ref p)])/\(∃L,I D=some (.lst L)/\L.length<=j/\gC G H L ((zs.take j).filter (o9 z)))/\Same H2 I) #[#[_,rfl],#[[],ak,qm5 _,by rw[qpu];exact bL.nil],au hD] (λj f I _ h=>aV.of (h.2.2 _ _ (B _ _ hl))) ?_ ?_]
     ·rintro j v f H3 hj ⟨⟨M,rfl⟩,⟨L,uf,am,hw⟩,s3⟩;have ax:j<us.length:=(qm2.mp hj).1;obtain⟨y,a0,aa⟩:=bL.at hz hj;obtain⟨uy,py,qy,rfl,f1,f2,f3,f4⟩:=id aa;have ap:=rJ y (qm6 a0);rw[take_one a0,qn5];have O:=B.trans s3;left;refine#[_,.inr (cO.of (O _ _ f1)),_,aO (j:=0) rfl,#[_,aV.of (O _ _ f2)],λD1 ah=>Kv (y.1.map λn:Nat=>V.int n) (λi f I=>(∃o,f=[o,some (.ref p)])/\I D1=some (.lst (((y.1.take i).map λk=>decide (k∈z.1)).map V.bl))/\Same H3 I) #[#[_,rfl],ak,au ah] (λi f I _ h=>aV.of (h.2.2 _ _ (O _ _ f2))) ?_ ?_]
      ·rintro i5 x5 f H4 ag ⟨⟨o5,rfl⟩,qD,x⟩;rw[qnr,qod] at ag;obtain⟨n5,ac,rfl⟩:=ag;have ay:i5<y.1.length:=(qm2.mp ac).1;rw[take_one ac];left;refine#[_,.inl (aV.of ((O.trans x) _ _ e2)),rfl,rG _,?_];rw[zQ];refine#[_,qD,by simp;lia,?_,aX x ah];rw[ak];simp
      ·rintro f H4 ⟨⟨o5,rfl⟩,qD,x⟩;rw[qm7,qnn] at qD;left;refine#[_,qD,_,kj _,?_];rw[show(!(y.1.map λk=>decide (k∈z.1)).any id)=o9 z y by unfold o9;rw[List.any_map];rfl];have zW:=x _ _ uf;refine cZ.of (λh=>?_) (λh=>?_)
       ·left;refine#[L,zW,⋯,#[_,ak,by simp;omega,?_],aX (s3.trans x) hD];rw[qo0 h,qo6];exact bL.snoc hw aa
       ·left;refine#[#[L,zW,⋯,?_],s3.trans x];rw[qo1 (by rw[h];simp),qo6,qnC];exact hw
     ·rintro f H3 ⟨⟨M,rfl⟩,⟨L,uf,am,hw⟩,s3⟩;rw[hz.1,qnn] at hw;have O:=B.trans s3;left;refine#[_,aV.of (O _ _ ht),λp4 an=>?_];have x:Same H3 (upd H3 p4 (.lst (e.map λn:Nat=>V.int n))):=au an;have ai:upd H3 p4 (.lst (e.map λn:Nat=>V.int n)) p4=some (.lst (e.map λn:Nat=>V.int n)):=ak;rw[show wC ((n::e).map λn:Nat=>V.int n) (some 1) none=e.map λn:Nat=>V.int n from qbZ _ _];generalize upd H3 p4 (.lst (e.map λn:Nat=>V.int n))=H4 at x ai⊢;have S4:=O.trans x;refine#[D,p4,L,_,e,G,rfl,⋯,⋯,x _ _ uf,⋯,gC.same hw S4,λy hy=>rJ y (qnv.mp hy).1,ai,λY H5 s5=>?_,λcs Y r5 lv H5 ar Rh af s5=>?_]
      ·left;exact#[by simpa using Bc N m (by rw[if_pos J,Y];rfl),S4.trans s5]
      ·have cl:=Gw Y;have al:=af.1;have S5:=S4.trans s5;left;intro p6 Rj;have s6:Same H5 (upd H5 p6 (.lst [.ref U])):=au Rj;have e6:upd H5 p6 (.lst [.ref U]) p6=some (.lst [.ref U]):=ak;have e7:=s6 _ _ Rh;generalize upd H5 p6 (.lst [.ref U])=H6 at s6 e6 e7⊢;refine#[_,e6,_,e7,by simp;lia,λp8 ab=>?_];have S6:=S5.trans s6;have s8:Same H6 (upd H6 p8 (.lst ([.ref U]++lv))):=au ab;refine q2 (z.2::cs) (QV N m (by rw[if_pos J,Y];rfl)) p8 _ _ (bZ S6 ab) ak ?_ (S6.trans s8);have hx:=af.same (s6.trans s8);refine#[by simp[al],λi v c hv hc=>?_];cases i with
       |zero=>
        simp at hv hc;subst hv hc;exact#[U,rfl,e3,(S6.trans s8) _ _ e4]
       |succ i=>exact hx.2 i v c (by simpa using hv) (by simpa using hc)
    ·have J:=qnL h;left;exact#[by simpa using Bc N m (by rw[if_neg J]),B]
   ·rintro f H2 ⟨⟨M,o2,o3,o4,rfl⟩,m,B⟩;rw[hz.1,qnn] at m;left;exact q1 m _ B
theorem V7(T:Txt K mg a):∀k:Nat,bT P w K mg base gR (k+2) a.dD a.gG ["cuts", "numbers"] (Mz k)
 |0=>Gx T bT.no
 |k+1=>Gx T (V7 T k)
def fw0:(Str.ofString "the web has more than ").length<=sizeLine/\(Str.empty++Str.ofString "the web has more than ").length<=sizeLine/\Nat.log2 12<1920/\(Str.ofString (Int.repr 12)).length<=sizeLine/\(Str.empty++Str.ofString "the web has more than " ++Str.ofString (Int.repr 12)).length<=sizeLine/\(Str.ofString " ties").length<=sizeLine/\
 (Str.empty++Str.ofString "the web has more than " ++Str.ofString (Int.repr 12)++Str.ofString " ties").length<=sizeLine:=by symm
def qgC(C N:J9):Sp:=λh H Q E=>∃(o:J9)(f:QAH)(c:QAD),h=[.ref o,.int 12]/\fP C H o f c/\c.length<=20/\(c.length<=12->Q .non H)/\(12<c.length->∀e,Same H e->E (.ref N) none e)
def qgD(T:Txt K mg a):bT P w K mg base (Xg P w) 2 a.cg a.fW ["web", "most"] (qgC a.b_ a.eO):=by
 exists T.jq.qdg,wF
 ·obtain⟨o,f,c,rfl,_⟩:=h;rfl
 ·obtain⟨o,f,c,rfl,hw,n,j,i⟩:=h;refine#[_,(aC (bY (aQ uN (PE.eqv (iU (aJ 0) T.mU T.yd (Cg T) hr.d T.xY .nil bB) (iY _ _ _ _ _ _)) (aJ 1) (bJ _)) (aC (Pg (E:=E) rZ rfl rfl T.nW rfl T.Ju (aj (Xo (.cons (qbc xq) (.cons (qga (aJ 1)) (.cons (qbc xq) .nil)))) ao))) bA)),?_];left;obtain⟨p,fs,l,e⟩:=hw.ins Dh.1 Dh.2;refine#[_,_,l,e,o,f,c,rfl,hw,?_]
  by_cases m:12<c.length
  ·have:=i m _ (Same.refl _);refine cZ.pos (d:=#[0]) (qnE ⋯) ?_;left;obtain⟨a1,a2,a3,a4,a5,a6,a7⟩:=fw0;exact#[a1,a2,a3,a4,a5,a6,a7,this]
  ·refine cZ.neg (d:=#[0]) (qnM ⋯) ?_;left;exact j ⋯
def X8{c:qx}{ks:wX}(h:c.Perm (ks.map λn:Nat=>(n:Int)))(j:c.Pairwise (·<=·)):∃f:List Nat,c=f.map (λn:Nat=>(n:Int))/\f.Perm ks/\f.Pairwise (·<=·):=by
 have e:c=(c.map Int.toNat).map (λn:Nat=>(n:Int)):=by
  rw[qoG]
  conv=>lhs;rw[<- List.map_id c]
  refine qoO λn l=>?_;obtain⟨k,_,rfl⟩:=qnA.mp (h.mem_iff.mp l);rfl
 refine#[c.map Int.toNat,e,?_,?_]
 ·have i:=h.map Int.toNat;rw[qoG] at i;have m:ks.map (Int.toNat ∘ λn:Nat=>(n:Int))=ks:=by
   conv=>rhs;rw[<- List.map_id ks]
   exact qoO λn _=>rfl
  rwa [m] at i
 ·rw[List.pairwise_map];exact j.imp λh=>Int.toNat_le_toNat h
def qb0(G H:Hp)(x:V)(m:Nat)(zs:List (List Nat×QAH)):Prop:=(oZ m zs=none/\x = .non)\/∃c r,oZ m zs=some c/\x = .ref r/\G r=none/\H r=some (.lst (c.map λn:Nat=>V.int n))
def V8{G:Hp}{m:Nat}{zs:List (List Nat×QAH)}{R:V->Hp->Prop}(rest:∀x c,Same G c->qb0 G c x m zs->R x c):(oZ m zs=none->∀c,Same G c->R .non c)/\(∀ks,oZ m zs=some ks->∀(r:J9)(c:Hp),G r=none->c r=some (.lst (ks.map λn:Nat=>V.int n))->Same G c->R (.ref r) c):=
 #[λh c s=>rest _ _ s (.inl #[h,rfl]),λks h r c f e s=>rest _ _ s (.inr #[ks,r,h,rfl,f,e])]
def hits(xs:QAH)(ps:QAD)(ns:qx):Prop:=∀c:List (List Nat×QAH),c.Perm (j9 xs ps ns)->∃e,oZ 12 c=some e
def X_(C B M J L N:J9):Sp:=λG H Q E=>∃(o:J9)(v:V)(d:PyData)(h:QAH)(f:QAD),G=[.ref o,v]/\fP C H o h f/\Qp h/\tW h f/\rY H d v/\f.length<=20/\TabOk Cy Cz B H/\
 (JB f.length d=false->∀e,Same H e->E (.ref M) none e)/\
 (JB f.length d=true->12<f.length->∀e,Same H e->E (.ref J) none e)/\
 (JB f.length d=true->f.length<=12->∀c r,mJ f h=c::r->r≠[]->∀(l A:J9)(e:Hp),H A=none->e l=some (gZ l [("lot",.ref A)])->e A=some (.lst (c.map V.str))->Same H e->E (.ref L) (some l) e)/\
 (JB f.length d=true->f.length<=12->(mJ f h).length<=1->∀k p rest,jL f h=(k,p)::rest->∀(l c:J9)(e:Hp),H c=none->e l=some (gZ l [("tie",.int (k:Nat)),("lot",.ref c)])->e c=some (.lst (p.map V.str))->Same H e->E (.ref N) (some l) e)/\
 (JB f.length d=true->f.length<=12->(mJ f h).length<=1->jL f h=[]->∀(t:J9)(u:qx),v = .ref t->qdK C H o t h f u->hits h f u/\
  ∀(s:List (List Nat×QAH))(m:Nat)(y i:wX)(r z:J9)(lv:V)(e:Hp),s.Perm (j9 h f u)->oZ m s=some y->(∀j,j<m->oZ j s=none)->i.Perm y->i.Pairwise (·<=·)->e r=some (.tup [.ref z,lv])->H z=none->e z=some (.lst (i.map λn:Nat=>V.int n))->
   (match zT y s with
    |none=>lv = .non
    |some I=>∃x D,lv = .ref x/\H x=none/\e x=some (.lst D)/\Mq H e D I)->But B H e->TabOk Cy Cz B e->Q (.ref r) e)
def Yb(T:Txt K mg a){c Pt:J9}(L:VB a.fJ base mg c Pt):bT P w K mg base (Xg P w) 15 a.lX a.vX ["web", "pointing"] (X_ a.b_ Pt a.cu a.eO a.bG a.bH):=by
 exists T.FQ.qdg,nO
 ·obtain⟨o,v,d,xs,O,rfl,_⟩:=h;rfl
 ·obtain⟨o,v,d,xs,O,rfl,hw,hX,ag,hd,rJ,hT,q1,q2,q3,q4,q5⟩:=h;refine#[_,(aA (cQ (PE.eqv (aN (vq T) hr.d rfl T.jt T.eY.kp T.jr .nil (rZ.passes rfl) (aj (aJ 0) (aj (aJ 1) ao))) (aK _ _ _)))
   (aA (cQ (PE.eqv (aN (qgD T) hr.d rfl T.oU T.jq.kp T.oR .nil (rZ.passes rfl) (aj (aJ 0) (aj (rK rfl T.qw T.qz) ao))) (aK _ _ _)))
   (aA (cQ (PE.eqv (aN (Cw T) hr.d rfl T.uZ T.oV.kp T.uY .nil (rZ.passes rfl) (aj (aJ 0) ao)) (aK _ _ _)))
   (aA (bF (i:=2) nO.nd rfl (Or.inl rfl) (PE.eqv (aN (Mv (L:=L) (K:=K) T) hr.d rfl T.BW T.u6.kp T.BL .nil bB (aj (aJ 0) (aj (aJ 1) ao))) (aK _ _ _)))
   (aA (bF (i:=3) nO.nd rfl (Or.inl rfl) aG)
   (aA (bF (i:=4) nO.nd rfl (Or.inl rfl) (PE.eqv (aN (Mx (K:=K) T 12) (hr.mono ⋯) rfl T.jY T.iz.kp T.jX .nil bB (aj (aJ 2) (aj (aJ 3) ao))) (aK _ _ _)))
   (aA (Nz PassesOwn.leaving (aQ qe_ (aJ 4) zX (bJ _))
   (aA (PS.mono (Zi (i:=3) nO.nd rfl (Or.inl rfl) aG Vp) qaL)
   (aC (bF (i:=4) nO.nd rfl (Or.inl rfl) (PE.eqv (aN (Mx (K:=K) T 12) (hr.mono ∅) rfl T.jY T.iz.kp T.jX .nil bB (aj (aJ 2) (aj (aJ 3) ao))) (aK _ _ _))))))
   (aC (bh (ji (aj (aH (PB (K:=K) rfl) rfl T.Rf.sorted PyProof.Rows.boot_sorted (aj (aJ 4) ao)) (aj (PE.eqv (aN (V7 (K:=K) T 12) (hr.mono ∅) rfl T.tM T.nu.kp T.tK .nil bB (aj (aJ 2) (aj (aJ 4) ao))) (aK _ _ _)) ao)))))))))))),?_]
  have ba:600<sizeLine:=by decide
  left;refine#[o,v,d,xs,O,rfl,hw,hd,rJ,λH1 D=>#[λhb=>?_,λhb=>q1 hb _ D]];left;refine#[o,xs,O,rfl,hw.same D,rJ,λC=>?_,λC I N=>q2 hb C _ (D.trans N)];left;refine#[o,xs,O,rfl,hw.same D,hX,ag,λaa b7 I N=>?_,λc r b0 ab dx cc I e1 e2 e3 N=>q3 hb C c r b0 ab dx cc I (D.free e1) e2 e3 (D.trans N),λaa k ap rest b6 dx c I e1 e2 e3 N=>q4 hb C aa k ap rest b6 dx c I (D.free e1) e2 e3 (D.trans N)];obtain⟨t,ns,rfl,ht,al,ac⟩:=qdL hd hb;obtain⟨az,q⟩:=q5 hb C aa b7 t ns rfl #[hw,ht,al,ac,rJ];have S2:=D.trans N;left;refine#[o,t,xs,O,ns,rfl,#[hw.same S2,ht.same S2,al,ac,rJ],hX,ag,hT.same S2,λl us B H3 hz bd a0 G hB ah=>?_];obtain⟨kz,ay⟩:=az B hz;have B3:But Pt H H3:=λb u n e=>hB b u n (S2 _ _ e);have zl:B.length<=600:=by
   rw[hz.length_eq];unfold j9;rw[qm7];refine qnp (qn2 _ _) ?_;rw[vA];have:2 ^ xs.length<=2 ^ 9:=qpV (by decide) hX.len.2;omega
  have ul:us.length<=600:=by rw[G.1];exact zl
  left;refine#[l,us,B,0,I,rfl,⋯,⋯,a0,ul,G,?_];generalize hR:(fun(x:V) (H1:Hp)=>Dr 4 x _ H1 _)=R;refine V8 (R:=R) λx H4 s4 aw=>?_;rw[<- hR];clear hR R;left;refine whB (λσ H'=>∃(m:Nat)(x:V),σ=[some (.ref o),some (.ref t),some (.ref l),some (.int m),some x]/\m<=12/\(∀j,j<m->oZ j B=none)/\qb0 H3 H' x m B/\Same H3 H') (λσ _=>match σ with
   |[_,_,_,some (.int m),_]=>(12 - m).toNat
   |_=>0) #[0,x,rfl,∅,λj hj=>absurd hj (Nat.not_lt_zero _),aw,s4] ?_ ?_
  ·rintro σ H5 ⟨m,x,rfl,hm,Y,hx,M⟩
   rcases hx with⟨h0,rfl⟩|⟨ks,r,h0,rfl,ab,Rh⟩
   ·have bc:m≠12:=λz=>by rw[z,ay] at h0;cases h0
    left;refine#[l,us,B,m+1,I,rfl,⋯,⋯,M _ _ a0,ul,gC.same G M,?_];generalize hR:(fun(x:V) (H1:Hp)=>Dr 4 x _ H1 _)=R;refine V8 (R:=R) λx H6 s6 av=>?_;rw[<- hR];clear hR R;left;have an:qb0 H3 H6 x (m+1) B:=by
     rcases av with h|⟨ks,r,h1,h2,h3,h4⟩
     ·exact .inl h
     ·exact .inr #[ks,r,h1,h2,bZ M h3,h4]
    refine#[#[m+1,x,#[⋯,rfl],∅,λj hj=>?_,an,M.trans s6],?_]
    ·by_cases e:j=m
     ·rw[e];exact h0
     ·exact Y j ⋯
    ·lia
   ·have kl:=zR h0;left;refine#[ks.map λn:Nat=>(n:Int),by rw[qoG];exact aV.of Rh,by rw[qm7];lia,λp bb hp U ax=>?_];obtain⟨y,rfl,af,ae⟩:=X8 U ax;have s6:Same H5 (upd H5 p (.lst ((y.map λn:Nat=>(n:Int)).map V.int))):=au hp;have e6:upd H5 p (.lst ((y.map λn:Nat=>(n:Int)).map V.int)) p=some (.lst (y.map λn:Nat=>V.int n)):=by rw[ak,qoG];rfl
    generalize upd H5 p (.lst ((y.map λn:Nat=>(n:Int)).map V.int))=H6 at s6 e6⊢;have S6:=M.trans s6;have am:∀z∈B,z.1.length<=20:=λz ar=>by
     have h1:=hz.mem_iff.mp ar;unfold j9 at h1;obtain⟨c,_,rfl⟩:=qnA.mp h1;have h2:=lO (kO c) O 0;show(cj c O).length<=20;unfold cj;lia
    have S3:∀b u,b≠Pt->H b=some u->H6 b=some u:=λb u n e=>S6 _ _ (B3 b u n e);have T6:TabOk Cy Cz Pt H6:=ah.same S6;have fr:∀{b:J9},H3 b=none->H b=none:=λ{b} e=>by
     cases z:H b with
     |none=>rfl
     |some u=>
      by_cases n:b=Pt
      ·obtain⟨qs,hq⟩:=ah.tb;rw[n,hq] at e;cases e
      ·rw[B3 b u n z] at e;cases e
    refine#[l,r,us,B,ks,I,rfl,⋯,⋯,S6 _ _ a0,ul,gC.same G S6,am,s6 _ _ Rh,λha H7 J=>?_,λcs ha r7 lv H7 b9 b8 ai J=>?_]
    ·left;intro p8 f;refine q B m ks y p8 p .non _ hz h0 Y af ae ak (fr (bZ M hp)) ((au f) _ _ (J _ _ e6)) (by rw[ha]) (λb u n e=>(au f) _ _ (J _ _ (S3 b u n e))) (T6.same (J.trans (au f)))
    ·left;intro p8 f;refine q B m ks y p8 p (.ref r7) _ hz h0 Y af ae ak (fr (bZ M hp)) ((au f) _ _ (J _ _ e6)) ?_ (λb u n e=>(au f) _ _ (J _ _ (S3 b u n e))) (T6.same (J.trans (au f)));rw[ha];have s8:Same H7 (upd H7 p8 (.tup [.ref p,.ref r7])):=au f;refine#[r7,lv,rfl,fr (bZ S6 b9),s8 _ _ b8,?_];refine#[ai.1,λi v c hv hc=>?_];obtain⟨t8,e8,h8,h9⟩:=ai.2 i v c hv hc;exact#[t8,e8,S2.free h8,s8 _ _ h9]
  ·intro σ H8 Q8 Q9 h8 h9;revert h9;left;exact λh9=>getSt.imp (λv hv=>h8 _ _ hv) h9
def Strong(S:List gJ)(xs:QAH):Prop:=∀x∈xs,∀y∈xs,RT (gV S) x y
theorem V9(q:Str->Bool):∀(n:Nat)(xs:QAH),xs.length=n->xs.filter q∈ju xs
 |0,xs,h=>by
  rw[qoA h,parts_nil];simp
 |n+1,xs,h=>by
  have c:xs≠[]:=λz=>by rw[z] at h;simp at h
  rw[<- List.dropLast_concat_getLast c,Gp,qn5];have ih:=V9 q n xs.dropLast (by simp[h]);cases e:q (xs.getLast c) with
  |true=>
   refine qnJ _ (qnA.mpr #[_,ih,?_]);simp[e]
  |false=>
   refine qnG _ ?_;simpa [e] using ih
def Yc:∀n:Nat,n<=9->∀k:Nat,k<9->k<n->pD (2 ^ n - 1) k=true:=by symm
def qgE{xs:QAH}(v:xs.length<=9){q:Str->Bool}{x y:Str}(r:x∈xs)(p:y∈xs)(o:q x=false)(n:q y=true):∃j,j<2 ^ xs.length - 2/\xs.filter q=jG (pD (1+j)) xs:=by
 have h:=V9 q xs.length xs rfl;unfold ju at h;obtain⟨m,i,e⟩:=qnA.mp h;have i:=qnD.mp i;have C:m≠0:=λz=>by
  subst z;have c:y∈xs.filter q:=qnv.mpr #[p,n];rw[<- e] at c;unfold jG at c;obtain⟨u,s,_⟩:=qnA.mp c;have:=(qnv.mp s).2;simp[pD] at this
 have B:m≠2 ^ xs.length - 1:=λz=>by
  subst z;have f:x∈jG (pD (2 ^ xs.length - 1)) xs:=by
   unfold jG;obtain⟨k,l,A⟩:=List.getElem_of_mem r;refine qnA.mpr #[(x,k),qnv.mpr #[?_,Yc _ v k ⋯ l],rfl];rw[qo5];simp[l,A]
  rw[e] at f;have:=(qnv.mp f).2;rw[o] at this;cases this
 refine#[m - 1,⋯,?_];rw[show 1+(m - 1)=m by lia];exact e.symm
def MF{ps:QAD}{n:Nat}{a b:Str}:(n,a,b)∈aD (λ_=>none) ps 0↔∃e,ps[n]? = some e/\((a=e.1/\b=e.2)\/(a=e.2/\b=e.1)):=by
 rw[Lj];simp
def qgF{ps:QAD}:∀a b,gV (aD (λ_=>none) ps 0) a b->gV (aD (λ_=>none) ps 0) b a:=λa b ⟨n,h⟩=>by
 obtain⟨e,c,h⟩:=MF.mp h;exact#[n,MF.mpr #[e,c,h.elim (λz=>.inr #[z.2,z.1]) λz=>.inl #[z.2,z.1]]]
theorem QW{S:List gJ}{xs:QAH}:∀(ys:QAH)(e:List (QAH))(c:QAH),c∈e->c∈ys.foldl (fO S xs) e
 |[],e,c,h=>h
 |y::ys,e,c,h=>by
  refine QW ys _ c ?_;unfold fO;split
  ·exact h
  ·exact qnG _ h
theorem Gy{S:List gJ}{xs:QAH}:∀(ys:QAH)(e:List (QAH))(y:Str),y∈ys->y∈xs->∃c∈ys.foldl (fO S xs) e,y∈c
 |[],e,y,h,_=>by cases h
 |x::ys,e,y,h,i=>by
  rcases qnc.mp h with rfl|h
  ·obtain⟨c,l,j⟩:∃c∈fO S xs e y,y∈c:=by
    unfold fO;split
    ·rename_i f;obtain⟨c,m,f⟩:=qoQ.mp f;exact#[c,m,qnb f]
    ·exact#[mQ S xs y,by simp,rR.mpr #[i,.refl _]]
   exact#[c,QW ys _ c l,j]
  ·exact Gy ys _ y h i
def TV{ps:QAD}{xs:QAH}(h:(mJ ps xs).length<=1):∀x∈xs,∀y∈xs,RT (gV (aD (λ_=>none) ps 0)) x y:=λx l y j=>by
 unfold mJ Cr at h;obtain⟨c,e,p⟩:=Gy (S:=aD (λ_=>none) ps 0) (xs:=xs) xs [] x l l;obtain⟨d,f,o⟩:=Gy (S:=aD (λ_=>none) ps 0) (xs:=xs) xs [] y j j;have m:=Ox (S:=aD (λ_=>none) ps 0) (xs:=xs) xs [] (by simp) (λz n=>n);generalize xs.foldl (fO (aD (λ_=>none) ps 0) xs) []=r at h e f m;have i:c=d:=by
  match r,h,e,f with
  |[z],_,e,f=>
   rw[qn4] at e f;rw[e,f]
 subst i;obtain⟨s,_,rfl⟩:=m c e;exact((rR.mp p).2.symm qgF).trans (rR.mp o).2
theorem MJ:∀(m:Nat)(zs:List (List Nat×QAH))(N:wX),N.length<=m->(∀z∈zs,∃n∈z.1,n∈N)->∃ks,oZ m zs=some ks
 |0,zs,N,s,h=>by
  cases zs with
  |nil=>exact#[[],rfl]
  |cons z r=>
   obtain⟨n,_,c⟩:=h z qng;rw[qos.mp (show N.length=0 by lia)] at c;cases c
 |m+1,zs,N,s,h=>by
  cases zs with
  |nil=>exact#[[],rfl]
  |cons z r=>
   obtain⟨n,o,c⟩:=h z qng;obtain⟨ks,p⟩:=MJ m ((z::r).filter (Hy n)) (N.erase n) (by rw[qpl c];omega) λy l=>by
    obtain⟨j,i⟩:=qnv.mp l;obtain⟨k,a1,a2⟩:=h y j;have ne:k≠n:=λz=>by
     subst z;unfold Hy at i;simp[a1] at i
    exact#[k,a1,(qpQ ne).mpr a2]
   have some:(z.1.findSome? λn=>(oZ m ((z::r).filter (Hy n))).map (n::·)).isSome=true:=by
    rw[List.findSome?_isSome_iff];exact#[n,o,by rw[p];rfl]
   obtain⟨e,f⟩:=qoT.mp some;exact#[e,f]
theorem V_:∀{m:Nat}{zs:List (List Nat×QAH)}{ks:wX},oZ m zs=some ks->∀z∈zs,∃n∈z.1,n∈ks
 |0,zs,ks,h,z,c=>by
  unfold oZ at h;split at h
  ·rename_i e;subst e;cases c
  ·cases h
 |m+1,zs,ks,h,z,c=>by
  unfold oZ at h;cases zs with
  |nil=>cases c
  |cons y r=>
   dsimp only at h;obtain⟨n,l,f⟩:=qoN h;rw[qod] at f;obtain⟨i,j,rfl⟩:=f
   by_cases e:n∈z.1
   ·exact#[n,e,qng]
   ·obtain⟨k,a1,a2⟩:=V_ j z (qnv.mpr #[c,by unfold Hy;simp[e]]);exact#[k,a1,qm_ _ a2]
theorem Wa:∀{ns:wX}{zs:List (List Nat×QAH)}{f:List (QAH)},zT ns zs=some f->∃ys:List (List Nat×QAH),f=ys.map (·.2)/\(∀y∈ys,y∈zs)/\ys.Pairwise λz y=>o9 z y=true
 |[],zs,f,h=>by
  unfold zT at h;cases h;exact#[[],rfl,by simp,.nil]
 |n::ns,zs,f,h=>by
  unfold zT at h;obtain⟨z,i,e⟩:=qoN h;split at e
  ·rw[qod] at e;obtain⟨l,j,rfl⟩:=e;obtain⟨ys,rfl,a,b⟩:=Wa j;refine#[z::ys,rfl,λy c=>?_,List.pairwise_cons.mpr #[λy c=>(qnv.mp (a y c)).2,b]]
   rcases qnc.mp c with rfl|c
   ·exact i
   ·exact(qnv.mp (a y c)).1
  ·cases e
def JH{z y:List Nat×QAH}:o9 z y=true↔∀k∈y.1,¬k∈z.1:=by
 unfold o9;simp
theorem Wb:∀{ns:wX}{zs:List (List Nat×QAH)}(G:Nat->List Nat×QAH),ns.Nodup->(∀i∈ns,G i∈zs/\i∈(G i).1/\∀j∈ns,j≠i->∀t∈(G i).1,¬t∈(G j).1)->∃o,zT ns zs=some o
 |[],zs,G,_,_=>#[[],rfl]
 |n::ns,zs,G,p,h=>by
  obtain⟨s,r⟩:=qnY.mp p;obtain⟨B,A,y⟩:=h n qng;obtain⟨o,x⟩:=Wb (ns:=ns) (zs:=zs.filter (o9 (G n))) G r λi l=>by
   obtain⟨a,b,c⟩:=h i (qm_ _ l);refine#[qnv.mpr #[a,JH.mpr λk u e=>y i (qm_ _ l) (λz=>s (by rw[<- z];exact l)) k e u],b,λj v=>c j (qm_ _ v)]
  have some:(zs.findSome? λz=>if n∈z.1 then (zT ns (zs.filter (o9 z))).map (z.2::·) else none).isSome=true:=by
   rw[List.findSome?_isSome_iff];exact#[G n,B,by rw[if_pos A,x];rfl]
  obtain⟨m,f⟩:=qoT.mp some;exact#[m,f]
theorem qb1{i:Type}{f:i->Nat->List Nat}(j:∀e k,f e k=[]\/f e k=[k]):∀(ps:List i)(k:Nat),(jK f ps k).Nodup/\∀x∈jK f ps k,k<=x
 |[],k=>by simp[jK]
 |e::ps,k=>by
  obtain⟨a,b⟩:=qb1 j ps (k+1);unfold jK
  rcases j e k with h|h
  ·rw[h];exact#[a,λx c=>by have:=b x c;lia]
  ·rw[h];refine#[qnY.mpr #[λz=>by have:=b k z;lia,a],λx c=>?_]
   rcases qnc.mp c with rfl|c
   ·exact qm5 _
   ·have:=b x c;omega
def qb2{c:QAH}{ps:QAD}:(cj c ps).Nodup:=(qb1 (λe k=>by unfold eU;split <;> simp) ps 0).1
def TX{ps:QAD}{xs c:QAH}(o:xs.Nodup)(p:(mJ ps xs).length<=1)(B:c.Sublist xs)(G:0<c.length)(H:c.length<xs.length):cj c ps≠[]:=by
 intro v;obtain⟨x,s⟩:∃x,x∈c:=List.exists_mem_of_length_pos G;obtain⟨y,j,i⟩:∃y∈xs,¬y∈c:=by
  apply qnh;intro h;have:xs.length<=c.length:=by
   have D:∀y∈xs,y∈c:=λy j=>qnh λf=>h #[y,j,f];exact cV o D
  lia
 have con:=TV p x (B.mem s) y j;refine i (con.closed (P:=λz=>z∈c) (λa b r u=>?_) s);obtain⟨n,C⟩:=r;obtain⟨e,E,A⟩:=MF.mp C;have l:¬n∈cj c ps:=by rw[v];simp
 have f:e.1∈c↔e.2∈c:=by
  apply qnh;intro m;exact l (uG.mpr #[n,e,E,by unfold eU;rw[if_neg m];simp])
 rcases A with⟨rfl,rfl⟩|⟨rfl,rfl⟩
 ·exact f.mp u
 ·exact f.mpr u
def Yd{ps:QAD}{xs:QAH}(m:tW xs ps)(l:jL ps xs=[]){k:Nat}{e:Str×Str}(j:ps[k]? = some e):RT (rP (λi=>i≠k) ps) e.1 e.2:=by
 apply qnh;intro f;have c:¬e.1∈jz ps xs k e.2:=λh=>f ((rC.mp h).2.symm λa b ⟨i,o,n⟩=>#[i,o,n.symm]);have:(k,jz ps xs k e.2)∈jL ps xs:=by
  unfold jL;refine uG.mpr #[k,e,j,?_];rw[qnZ];unfold rB;rw[if_neg c];exact qn4.mpr rfl
 rw[l] at this;cases this
def tlA(ns:qx)(ps:QAD)(a:Nat):Str:=match ns[a]?,ps[a]? with
 |some n,some e=>qJ n e
 |_,_=>Str.ofString ""
def hdA(ns:qx)(ps:QAD)(a:Nat):Str:=match ns[a]?,ps[a]? with
 |some n,some e=>uJ n e
 |_,_=>Str.ofString ""
def vB(ns:qx)(ps:QAD):LY.Ar Str:=#[ps.length,tlA ns ps,hdA ns ps]
structure MK(xs:QAH)(ps:QAD)(ns:qx):Prop where
 pts:Qp xs
 ties:tW xs ps
 len:ns.length=ps.length
 h01:∀n∈ns,0<=n/\n<=1
 one:(mJ ps xs).length<=1
 bars:jL ps xs=[]
 le:ps.length<=12
def Ci{ns:qx}{ps:QAD}(i:ns.length=ps.length){a:Nat}(h:a<ps.length):∃n e,ns[a]? = some n/\ps[a]? = some e/\(vB ns ps).tl a=qJ n e/\(vB ns ps).hd a=uJ n e:=by
 have f:ns[a]? = some (ns[a]'⋯):=qnx _;have c:ps[a]? = some (ps[a]'h):=qnx _;refine#[_,_,f,c,?_,?_]
 ·show tlA ns ps a=_;unfold tlA;rw[f,c]
 ·show hdA ns ps a=_;unfold hdA;rw[f,c]
def Wc{n:Int}{e:Str×Str}(P:Str->Prop):(P e.1↔P e.2)↔(P (qJ n e)↔P (uJ n e)):=by
 unfold qJ uJ;split
 ·exact Iff.rfl
 ·exact#[Iff.symm,Iff.symm]
section
variable {xs:QAH}{ps:QAD}{ns:qx}
def TY(h:tW xs ps)(c:ns.length=ps.length):LY.In xs (vB ns ps):=λa f=>by
 obtain⟨n,e,_,l,j,i⟩:=Ci c f;obtain⟨a1,a2,_⟩:=h.ok e (qm6 l);rw[j,i];unfold qJ uJ;split <;> exact#[by assumption,by assumption]
def JK(o:ns.length=ps.length)(v:∀n∈ns,0<=n/\n<=1){c:QAH}:qG ns ps c=true↔∀a,a<ps.length->((vB ns ps).hd a∈c->(vB ns ps).tl a∈c):=by
 unfold qG;rw[qol,qos,List.filter_eq_nil_iff,qeJ o v];constructor
 ·intro h a l x;obtain⟨n,e,u,m,r,p⟩:=Ci o l;rw[r];rw[p] at x;exact qnh λz=>h (a,qJ n e,uJ n e) (Pb.mpr #[a,n,e,u,m,rfl]) (qnE #[z,x])
 ·intro h s y A;obtain⟨a,n,e,u,m,rfl⟩:=Pb.mp y;have l:=(qm2.mp m).1;obtain⟨B,C,j,i,r,p⟩:=Ci o l;rw[u] at j;rw[m] at i;cases j;cases i;have f:¬qJ n e∈c/\uJ n e∈c:=qnb A;have:=h a l;rw[r,p] at this;exact f.1 (this f.2)
def T3(p:ns.length=ps.length){c:QAH}{a:Nat}:a∈cj c ps↔a<ps.length/\¬((vB ns ps).tl a∈c↔(vB ns ps).hd a∈c):=by
 unfold cj;rw[uG];constructor
 ·rintro⟨j,e,r,f⟩;unfold eU at f;split at f
  ·cases f
  ·rename_i h;rw[qn4,qnZ] at f;subst f;have i:=(qm2.mp r).1;obtain⟨n,s,_,l,o,m⟩:=Ci p i;rw[r] at l;cases l;exact#[i,by rw[o,m];exact λz=>h ((Wc λx=>x∈c).mpr z)]
 ·rintro⟨i,h⟩;obtain⟨n,e,_,l,o,m⟩:=Ci p i;rw[o,m] at h;exact#[a,e,l,by unfold eU;rw[if_neg λz=>h ((Wc λx=>x∈c).mp z)];simp]
def inB(c:QAH)(x:Str):Bool:=decide (x∈c)
def MN(r:Qp xs)(p:ns.length=ps.length)(j:∀n∈ns,0<=n/\n<=1){z:List Nat×QAH}(m:z∈j9 xs ps ns):z.2.Sublist xs/\0<z.2.length/\z.2.length<xs.length/\qG ns ps z.2=true/\z.1=cj z.2 ps/\
  LY.Dc xs (vB ns ps) (inB z.2)/\∀a,a∈z.1↔a<ps.length/\LY.lv (vB ns ps) a (inB z.2)=true:=by
 unfold j9 at m;obtain⟨c,v,rfl⟩:=qnA.mp m;obtain⟨A,s⟩:=qnv.mp v;obtain⟨a1,a2,a3⟩:=qbU r.len.2 A;have l:=(JK p j).mp s;refine#[a1,a2,a3,s,rfl,#[#[?_,?_],λa i z=>qnE (l a i (qnb z))],λa=>?_]
 ·obtain⟨x,o⟩:=List.exists_mem_of_length_pos a2;exact#[x,a1.mem o,qnE o]
 ·apply qnh;intro e;have:∀y∈xs,y∈c:=λy u=>qnh λf=>e #[y,u,qnM f];have:=cV r.nd this;lia
 ·rw[T3 p];refine and_congr_right λi=>?_;unfold LY.lv inB;rw[qnK,qol,qn7,decide_eq_false_iff_not];have:=l a i;exact#[λh=>qnh λf=>h #[λz=>qnh λy=>f #[z,y],this],λh z=>h.2 (z.mp h.1)]
def M4(p:Qp xs)(C:tW xs ps)(m:ns.length=ps.length)(i:∀n∈ns,0<=n/\n<=1){X:Str->Bool}(h:LY.Dc xs (vB ns ps) X):∃z∈j9 xs ps ns,∀a,a∈z.1↔a<ps.length/\LY.lv (vB ns ps) a X=true:=by
 obtain⟨⟨⟨x,v,u⟩,y,l,s⟩,A⟩:=h;obtain⟨j,B,D⟩:=qgE p.len.2 l v s u;have E:xs.filter X∈qF xs:=by rw[D];exact qm6 (V6 B)
 have e:=TY C m;have c:∀{y},y∈xs->(y∈xs.filter X↔X y=true):=λl=>by rw[qnv];exact#[λz=>z.2,λz=>#[l,z]]
 have r:qG ns ps (xs.filter X)=true:=(JK m i).mpr λa f z=>(c (e a f).1).mpr (A a f ((c (e a f).2).mp z));have o:(cj (xs.filter X) ps,xs.filter X)∈j9 xs ps ns:=qnA.mpr #[_,qnv.mpr #[E,r],rfl];refine#[_,o,λa=>?_];rw[(MN p m i o).2.2.2.2.2.2 a];refine and_congr_right λf=>?_;unfold LY.lv inB;rw[qnK,qnK,qol,qn7,qn7,decide_eq_false_iff_not,c (e a f).1,c (e a f).2,Bool.not_eq_true]
def MK.con(w:MK xs ps ns):∀X,LY.Dc xs (vB ns ps) X->∃a,a<(vB ns ps).n/\LY.lv (vB ns ps) a X=true:=λX i=>by
 obtain⟨z,f,h⟩:=M4 w.pts w.ties w.len w.h01 i;obtain⟨a1,a2,a3,_,e,_,_⟩:=MN w.pts w.len w.h01 f;have:=TX w.pts.nd w.one a1 a2 a3;rw[<- e] at this;cases c:z.1 with
 |nil=>exact absurd c this
 |cons a r=>exact#[a,(h a).mp (by rw[c];exact qng)]
theorem MK.hits(w:MK xs ps ns):hits xs ps ns:=λf i=>by
 refine MJ 12 f (List.range ps.length) (by rw[qpi];exact w.le) λz c=>?_;obtain⟨_,_,_,_,_,l,h⟩:=MN w.pts w.len w.h01 (i.mem_iff.mp c);obtain⟨a,e,j⟩:=w.con _ l;exact#[a,(h a).mpr #[e,j],qnD.mpr e]
def MK.two(w:MK xs ps ns):∀X,LY.Pr xs X->∀a,a<(vB ns ps).n->∃b,b<(vB ns ps).n/\b≠a/\X ((vB ns ps).tl b)≠X ((vB ns ps).hd b):=λX ⟨⟨x,L,I⟩,y,J,H⟩ a Q=>by
 have go:∀(P:Nat->Prop){u v:Str},RT (rP P ps) u v->X u≠X v->∃b,b<(vB ns ps).n/\P b/\X ((vB ns ps).tl b)≠X ((vB ns ps).hd b):=λP u v h s=>by
  apply qnh;intro r;refine s (h.closed (P:=λz=>X u=X z) (λp q ⟨k,B,l⟩ e=>?_) rfl);have A:∃e,ps[k]? = some e/\(X p=X q↔X e.1=X e.2):=by
   rcases l with l|l
   ·exact#[_,l,Iff.rfl]
   ·exact#[_,l,#[Eq.symm,Eq.symm]]
  obtain⟨U,o,m⟩:=A;have i:=(qm2.mp o).1;obtain⟨n,T,_,G,O,N⟩:=Ci w.len i;rw[o] at G;cases G;have:X ((vB ns ps).tl k)=X ((vB ns ps).hd k):=qnh λz=>r #[k,i,B,z];rw[O,N] at this;refine e.trans (m.mpr ?_);unfold qJ uJ at this;split at this
  ·exact this
  ·exact this.symm
 have all:=(TV w.one x L y J);have all2:RT (rP (λ_=>True) ps) x y:=all.mono λp q ⟨k,B⟩=>by
  obtain⟨e,D,h⟩:=MF.mp B
  rcases h with⟨rfl,rfl⟩|⟨rfl,rfl⟩
  ·exact#[k,trivial,.inl D]
  ·exact#[k,trivial,.inr D]
 obtain⟨b,E,_,f⟩:=go _ all2 (by rw[I,H];simp)
 by_cases e:b=a
 ·subst e;obtain⟨n,e,_,m,C,M⟩:=Ci w.len E;have j:=Yd w.ties w.bars m;have ne:X e.1≠X e.2:=by
   rw[C,M] at f;unfold qJ uJ at f;split at f
   ·exact f
   ·exact f.symm
  obtain⟨c,o,m,C⟩:=go _ j ne;exact#[c,o,m,C]
 ·exact#[b,E,e,f]
def tX(ns:qx)(ks:wX):List Int:=(List.range ns.length).map λk=>(((ns[k]?).getD 0)+(if k∈ks then 1 else 0)) % 2
def Wd{ks:wX}{a:Nat}{n:Int}(h:ns[a]? = some n):(tX ns ks)[a]? = some ((n+(if a∈ks then 1 else 0)) % 2):=by
 have c:=(qm2.mp h).1;unfold tX;rw[qnr,qpq c];show some (((ns[a]?).getD 0+(if a∈ks then 1 else 0)) % 2)=_
 rw[h];rfl
def Gz{ks:wX}:(tX ns ks).length=ns.length:=by simp[tX]
def qdS{ks:wX}:∀n∈tX ns ks,0<=n/\n<=1:=λn c=>by
 obtain⟨k,_,rfl⟩:=qnA.mp c;lia
theorem QX{A:LY.Ar Str}:∀{F:List (Str->Bool)},(∀a,a<A.n->LY.cov A F a<=1)->F.Pairwise λX Y=>∀a,a<A.n->¬(LY.lv A a X=true/\LY.lv A a Y=true)
 |[],_=>.nil
 |X::F,h=>by
  refine List.pairwise_cons.mpr #[λY e a c ⟨i,f⟩=>?_,QX λa c=>?_]
  ·have:=h a c;unfold LY.cov at this;rw[qoq,if_pos i] at this;have:0<F.countP (LY.lv A a):=List.countP_pos_iff.mpr #[Y,e,f];lia
  ·have:=h a c;unfold LY.cov at this⊢;rw[qoq] at this;lia
theorem Bd:∀{l m:wX},l.Nodup->(∀x∈l,x∈m)->m.length<=l.length->m.Perm l
 |[],m,_,_,c=>by
  have:m=[]:=qos.mp (by simpa using c);rw[this]
 |a::l,m,i,f,c=>by
  obtain⟨n,j⟩:=qnY.mp i;have h:=f a qng;refine(List.perm_cons_erase h).trans (List.Perm.cons a (Bd j (λx e=>?_) ?_))
  ·exact(qpQ λz=>n (by rw[<- z];exact e)).mpr (f x (qm_ _ e))
  ·rw[qpl h];simp at c;omega
theorem pair_mem{m:Type}{R:m->m->Prop}(c:∀a b,R a b->R b a):∀{l:List m},l.Pairwise R->∀x∈l,∀y∈l,x≠y->R x y
 |[],_,x,n,_,_,_=>by cases n
 |a::l,h,x,n,y,r,j=>by
  obtain⟨o,s⟩:=List.pairwise_cons.mp h
  rcases qnc.mp n with e|i <;> rcases qnc.mp r with p|f
  ·exact absurd (e.trans p.symm) j
  ·rw[e];exact o y f
  ·rw[p];exact c _ _ (o x i)
  ·exact pair_mem c s x i y f j
def MK.told(w:MK xs ps ns){zs:List (List Nat×QAH)}{j:Nat}{ks:wX}(L:zs.Perm (j9 xs ps ns))(h1:oZ j zs=some ks)(h2:∀i,i<j->oZ i zs=none) :
  ks.Nodup/\(∀k∈ks,k<ps.length)/\(∀z∈j9 xs ps ns,∃i∈z.1,i∈ks)/\(∀N:List Nat,(∀z∈j9 xs ps ns,∃i∈z.1,i∈N)->ks.length<=N.length)/\Strong (aD (λk=>(tX ns ks)[k]?) ps 0) xs/\
   ∃O,zT ks zs=some O/\O.length=ks.length/\(∀c∈O,c.Sublist xs/\0<c.length/\c.length<xs.length/\qG ns ps c=true)/\(O.flatMap λc=>cj c ps).Nodup:=by
 have cd:=fun(z:List Nat×QAH) (L:z∈j9 xs ps ns)=>MN w.pts w.len w.h01 L;have B:∀z∈j9 xs ps ns,∃i∈z.1,i∈ks:=λz f=>V_ h1 z (L.mem_iff.mpr f);have I:∀N:List Nat,(∀z∈j9 xs ps ns,∃i∈z.1,i∈N)->ks.length<=N.length:=λN hN=>by
  have T:=zR h1;apply qnh;intro aw;obtain⟨q,hq⟩:=MJ N.length zs N (qm5 _) λz f=>hN z (L.mem_iff.mp f);rw[h2 _ ⋯] at hq;cases hq
 obtain⟨J,F,f1,f2,f3,f4⟩:=LY.qbw (TY w.ties w.len) w.con;have kJ:ks.length<=J.length:=I J λz f=>by
  obtain⟨_,_,_,_,_,hd,h⟩:=cd z f;obtain⟨a,h1,h2,h3⟩:=f1 _ hd;exact#[a,(h a).mpr #[h2,h3],h1]
 have a0:=QX f4;obtain⟨g,M⟩:∃g:(Str->Bool)->Nat,∀X,X∈F->g X∈ks/\g X<ps.length/\LY.lv (vB ns ps) (g X) X=true:=by
  refine Classical.axiomOfChoice (r:=λX k=>X∈F->k∈ks/\k<ps.length/\LY.lv (vB ns ps) k X=true) λX=>?_
  by_cases m:X∈F
  ·obtain⟨z,f,h⟩:=M4 w.pts w.ties w.len w.h01 (f3 X m);obtain⟨i,E,l⟩:=B z f;exact#[i,λ_=>#[l,(h i).mp E]]
  ·exact#[0,λz=>absurd z m]
 have nd:(F.map g).Nodup:=List.pairwise_map.mpr (a0.imp_of_mem λ{X Y} m hY h e=>h (g X) (M X m).2.1 #[(M X m).2.2,by rw[e];exact(M Y hY).2.2]);have pm:ks.Perm (F.map g):=Bd nd (λk l=>by
  obtain⟨X,m,rfl⟩:=qnA.mp l;exact(M X m).1) (by rw[qm7];lia)
 have Q:ks.Nodup:=pm.nodup_iff.mpr nd;have of:∀k∈ks,∃X∈F,g X=k:=λk l=>qnA.mp (pm.mem_iff.mp l);have aa:∀k∈ks,k<ps.length:=λk l=>by
  obtain⟨X,m,rfl⟩:=of k l;exact(M X m).2.1
 refine#[Q,aa,B,I,?_,?_]
 ·
  intro x hx y p;apply qnh;intro ae;obtain⟨C,hW⟩:∃C:Str->Bool,∀z,C z=true↔RT (gV (aD (λk=>(tX ns ks)[k]?) ps 0)) x z:=by
   classical exact#[λz=>decide (RT (gV (aD (λk=>(tX ns ks)[k]?) ps 0)) x z),λz=>decide_eq_true_iff]
  have step:∀a,a<ps.length->(a∈ks->C ((vB ns ps).hd a)=true->C ((vB ns ps).tl a)=true)/\(¬a∈ks->C ((vB ns ps).tl a)=true->C ((vB ns ps).hd a)=true):=λa o=>by
   obtain⟨n,e,g1,g2,g3,g4⟩:=Ci w.len o;have av:=w.h01 n (qm6 g1);have tr:=Wd (ks:=ks) g1;have one:∀u v,(a,u,v)∈aD (λk=>(tX ns ks)[k]?) ps 0->C u=true->C v=true:=λu v hs hu=>(hW v).mpr (((hW u).mp hu).tail #[a,hs]);rw[g3,g4];have ms:∀s:gJ,s∈aD (λk=>(tX ns ks)[k]?) ps 0↔_:=λs=>fZ;have n':n=0\/n=1:=⋯
   refine#[λl=>one _ _ ?_,λl=>one _ _ ?_]
   ·rw[if_pos l] at tr;refine(ms _).mpr #[a,e,g2,gW.mpr #[by simp,?_]];rw[qnZ,tr]
    rcases n' with rfl|rfl
    ·exact .inr #[rfl,rfl,rfl]
    ·exact .inl #[rfl,rfl,rfl]
   ·rw[if_neg l] at tr;refine(ms _).mpr #[a,e,g2,gW.mpr #[by simp,?_]];rw[qnZ,tr]
    rcases n' with rfl|rfl
    ·exact .inl #[rfl,rfl,rfl]
    ·exact .inr #[rfl,rfl,rfl]
  refine LY.qbx (V:=xs) (A:=vB ns ps) (J:=ks) (λX m=>?_) (λa o=>?_) w.two (TY w.ties w.len) _ C (qm5 _) #[#[x,hx,(hW x).mpr (.refl _)],y,p,?_] (λa o T=>?_) λa o ap=>(step a ap).1 o
  ·obtain⟨z,f,h⟩:=M4 w.pts w.ties w.len w.h01 m;obtain⟨i,E,l⟩:=B z f;exact#[i,l,(h i).mp E]
  ·
   have:∃z∈j9 xs ps ns,∀i∈z.1,¬i∈ks.erase a:=by
    apply qnh;intro hn;have:=I (ks.erase a) λz f=>qnh λh=>hn #[z,f,λi E l=>h #[i,E,l]];rw[qpl o] at this;have:=qpB o;omega
   obtain⟨z,f,ac⟩:=this;obtain⟨_,_,_,_,_,hd,h⟩:=cd z f;obtain⟨i,E,l⟩:=B z f;have only:∀b∈ks,b∈z.1->b=a:=λb hb am=>qnh λH=>ac b am ((qpQ H).mpr hb);have:=only i l E;subst this;obtain⟨l1,l2⟩:=(h i).mp E;exact#[_,hd,l1,l2,λb hb an af=>only b hb ((h b).mpr #[an,af])]
  ·rw[<- Bool.not_eq_true,hW];exact ae
  ·apply qnh;intro hn;unfold LY.lv at T;rw[qnK,qn7] at T;have:=(step a o).2 hn T.1;rw[T.2] at this;cases this
 ·obtain⟨G,hG⟩:∃G:Nat->List Nat×QAH,∀k,k∈ks->G k∈j9 xs ps ns/\∃X∈F,g X=k/\∀a,a∈(G k).1↔a<ps.length/\LY.lv (vB ns ps) a X=true:=by
   refine Classical.axiomOfChoice (r:=λk z=>k∈ks->z∈j9 xs ps ns/\∃X∈F,g X=k/\∀a,a∈z.1↔a<ps.length/\LY.lv (vB ns ps) a X=true) λk=>?_
   by_cases l:k∈ks
   ·obtain⟨X,m,rfl⟩:=of k l;obtain⟨z,f,h⟩:=M4 w.pts w.ties w.len w.h01 (f3 X m);exact#[z,λ_=>#[f,X,m,rfl,h]]
   ·exact#[([],[]),λz=>absurd z l]
  obtain⟨O,U⟩:=Wb (zs:=zs) G Q λk l=>by
   obtain⟨z1,X,m,rfl,h⟩:=hG k l;refine#[L.mem_iff.mpr z1,(h _).mpr (M X m).2,λk' ag H t ht hu=>?_];obtain⟨_,Y,hY,rfl,h'⟩:=hG k' ag;obtain⟨t1,t2⟩:=(h t).mp ht;obtain⟨_,t3⟩:=(h' t).mp hu;exact pair_mem (R:=λX Y=>∀a,a<(vB ns ps).n->¬(LY.lv (vB ns ps) a X=true/\LY.lv (vB ns ps) a Y=true)) (λa b h c U z=>h c U #[z.2,z.1]) a0 X m Y hY (λe=>H (by rw[e])) t t1 #[t2,t3]
  refine#[O,U,Gw U,?_];obtain⟨D,rfl,u1,u2⟩:=Wa U;have uc:=fun(y:List Nat×QAH) p=>cd y (L.mem_iff.mp (u1 y p));refine#[λc al=>?_,?_]
  ·obtain⟨y,p,rfl⟩:=qnA.mp al;obtain⟨a,b,c,d,_⟩:=uc y p;exact#[a,b,c,d]
  ·have ab:∀D:List (List Nat×QAH),(∀y∈D,y.1=cj y.2 ps)->D.Pairwise (λz y=>o9 z y=true)->((D.map (·.2)).flatMap λc=>cj c ps).Nodup:=by
    intro D
    induction D with
    |nil=>intro _ _;exact .nil
    |cons y D ih=>
     intro he hp;obtain⟨p1,p2⟩:=List.pairwise_cons.mp hp;rw[qnP,List.flatMap_cons,qpJ];refine#[qb2,ih (λy p=>he y (qm_ _ p)) p2,λa o b hb ar=>?_];subst ar;obtain⟨c,ai,ah⟩:=List.mem_flatMap.mp hb;obtain⟨v,hv,rfl⟩:=qnA.mp ai;have:=JH.mp (p1 v hv) a (by rw[he v (qm_ _ hv)];exact ah);rw[he y qng] at this;exact this o
   exact ab D (λy p=>(uc y p).2.2.2.2.1) u2
end
def gQ.keep{p:J9}{H c:Hp}(x:gQ H p)(s:Same H c):gQ c p:=by
 obtain⟨i,h,f,e⟩:=x;exact#[i,h,s _ _ f,e]
def QZ{p:J9}{H f:Hp}{c:QA0}{ps:QAD}(h:bI H c ps)(j:gQ H p)(b:But p H f):bI f c ps:=#[h.1,λi v e m l=>by
 obtain⟨t,rfl,z⟩:=h.2 i v e m l;refine#[t,rfl,b _ _ (λy=>?_) z];subst y;obtain⟨u,v,w,_⟩:=j;rw[z] at w;cases w]
def qdT:∀{ys:QA0}{xs:QAH},ys.Perm (xs.map V.str)->∃zs:QAH,ys=zs.map V.str/\zs.Perm xs:=by
 intro ys xs h;have all:∀y∈ys,∃z,y=V.str z:=λy i=>by
  obtain⟨z,_,rfl⟩:=qnA.mp (h.mem_iff.mp i);exact#[z,rfl]
 have:∃zs:QAH,ys=zs.map V.str:=by
  clear h
  induction ys with
  |nil=>exact#[[],rfl]
  |cons y ys ih=>
   obtain⟨zs,rfl⟩:=ih λz f=>all z (qm_ _ f);obtain⟨z,rfl⟩:=all y qng;exact#[z::zs,rfl]
 obtain⟨zs,rfl⟩:=this;refine#[zs,rfl,?_];have c:=h.map (λv=>match v with|V.str s=>s|_=> "")
 rw[qoG,qoG] at c;have e:∀l:QAH,l.map ((λv=>match v with|V.str s=>s|_=> "") ∘ V.str)=l:=λl=>by
  induction l with
  |nil=>rfl
  |cons a l ih=>rw[qnP,ih];rfl
 rw[e,e] at c;exact c
def qb3:Sp:=λm H Q _=>∃(p t n l:J9)(c:QAH)(f:QA0)(j:QAD),m=[.ref p,.ref t]/\gQ H p/\H t=some (.tup [.ref n,.ref l])/\H n=some (.lst (c.map V.str))/\H l=some (.lst f)/\bI H f j/\(∀e∈j,e.1∈c/\e.2∈c)/\n≠p/\l≠p/\c.length<=9/\f.length<=20/\
 ∀(r:J9)(i:qx)(h:Hp),H r=none->h r=some (.lst (i.map V.int))->i.length=f.length->(∀n∈i,0<=n/\n<=1)->gQ h p->But p H h->Q (.ref r) h
def qb4(T:Txt K mg a):bT P w K mg base gR 3 a.qp a.zB ["_law_pot_here", "_law_web_here"] qb3:=by
 exists T.Mg.oE,zu
 ·obtain⟨p,t,n,l,xs,tv,ps,rfl,_⟩:=h;rfl
 ·obtain⟨p,t,n,l,xs,tv,ps,rfl,hP,ht,hn,hl,ah,ap,np,lp,h9,rJ,q⟩:=h;refine#[_,(aA (bF (i:=2) zu.nd rfl (Or.inr rfl) (PE.eqv (aN (Gg T) hr.d rfl T.Df T.zO.kp T.Dd .nil bB (aj (aJ 0) (aj (bC (bD (K:=K) rfl) (aJ 1) aG (λ_ _=>rfl)) ao))) (aK _ _ _)))
   (aA (bF (i:=3) zu.nd rfl (Or.inl rfl) (PE.eqv (aN (fX T) hr.d rfl T.iC T.gM.kp T.iB .nil bB (aj (aJ 0) (aj aG ao))) (aK _ _ _)))
   (aA (jj (i:=4) zu.nd rfl rfl rfl rfl (show aR (aB vR) _ ["_law_pot_here", "_law_web_here", "_law_order", "_law_sort", "_law_row"] ["_law_a", "_law_b"] [2] ["_law_a", "_law_b", "_law_order"] from by rfl') rfl (PI.eqv (bO (K:=K) rfl (bC (bD (K:=K) rfl) (aJ 1) aG (λ_ _=>rfl))) (bK _ _)) (λC s H fp pn=>(PG.eqv (c7 (K:=K) (n:=2) rfl rfl (fL.eqv (aY (aL (i:=0) (show(["_law_a", "_law_b", "_law_order"]:QAH).Nodup by symm) rfl (Or.inl rfl)) (fL.eqv (aY (aL (i:=1) (show(["_law_a", "_law_b", "_law_order"]:QAH).Nodup by symm) rfl (Or.inl rfl)) (fL.mono cH dJ)) (aZ _ _))) (aZ _ _))) (dj _ _ _))) (λC s H fp pn=>cR) (λC s H fp pn=>(dI rT rfl T.nm.int nF (aj (cI uN (iT (K:=K) rfl qnu PySem.F.slot_list_index PySem.F.type_list_index (Ja (K:=K) rfl) (aJ 2) (aj (aJ 0) ao)) (iT (K:=K) rfl qnu PySem.F.slot_list_index PySem.F.type_list_index (Ja (K:=K) rfl) (aJ 2) (aj (aJ 1) ao)) (bJ _)) ao))))
   (aA (bY (aQ gY (aJ 3) aG (bJ _)) (aC (bh (cC rfl rfl (show aR (aB vR) _ ["_law_pot_here", "_law_web_here", "_law_order", "_law_sort", "_law_row"] ["_law_tie_here"] [0] ["_law_tie_here", "_law_pot_here"] from by rfl') rfl (PI.eqv (bO (K:=K) rfl (bC (bD (K:=K) rfl) (aJ 1) aG (λ_ _=>rfl))) (bK _ _)) (λC s H fp pn=>(aL (i:=0) (show(["_law_tie_here", "_law_pot_here"]:QAH).Nodup by symm) rfl (Or.inl rfl))) (λC s H fp pn=>cR) (λC s H fp pn=>(PE.eqv (aN (fX T) hr.d rfl T.iC T.gM.kp T.iB .nil bB (aj (aJ 1) (aj aG ao))) (aK _ _ _)))))) bA)
   (aA (bY (aQ gY (aJ 3) aG (bJ _)) (aC (bh (cC rfl rfl (show aR (aB vR) _ ["_law_pot_here", "_law_web_here", "_law_order", "_law_sort", "_law_row"] ["_law_turn"] [0] ["_law_turn", "_law_pot_here"] from by rfl') rfl (PI.eqv (bO (K:=K) rfl (aJ 4)) (bK _ _)) (λC s H fp pn=>(aL (i:=0) (show(["_law_turn", "_law_pot_here"]:QAH).Nodup by symm) rfl (Or.inl rfl))) (λC s H fp pn=>cR) (λC s H fp pn=>(cX pK (cX jM (aJ 0) (dI rT rfl T.nm.int nF (aj (cI gY (PE.eqv (aN (fX T) hr.d rfl T.iC T.gM.kp T.iB .nil bB (aj (aJ 1) (aj aG ao))) (aK _ _ _)) aG (bJ _)) ao))) aG))))) bA)
   (aC (bh (aJ 4)))))))),?_]
  have aw:60<=sizeLine:=by decide
  have tl:=ah.1;have tp:t≠p:=λz=>by
   subst z;obtain⟨u,v,w,_⟩:=hP;rw[ht] at w;cases w
  left;refine#[_,.inr (cO.of ht),_,aO (j:=0) rfl,p,n,_,rfl,hP,np,hn,by rw[qm7];lia,λr1 ys H1 an e1 aa XH Tn=>?_];obtain⟨zs,rfl,ag⟩:=qdT aa;have am:r1≠p:=(hP.ne an).symm;left;refine#[p,4,rfl,XH,by decide,by decide,λd2 H2 az ay ae af=>?_];have B2:=Tn.trans af;have e2:=af _ _ am e1;have Tv:bI H2 tv ps:=QZ (QZ ah hP Tn) XH af;have Cu:=B2 _ _ tp ht;have ac:=B2 _ _ lp hl;left;refine#[_,.inr (cO.of Cu),_,aO (j:=1) rfl,?_];left;refine#[#[_,aV.of ac],λD hD=>Kv tv (λi y r=>(∃G o2,y=[G,o2,some (.ref r1)])/\(∃o:List Int,r D=some (.lst (o.map V.int))/\o.length=i/\∀n∈o,0<=n/\n<=1)/\Same H2 r) #[#[_,_,rfl],#[[],ak,rfl,by simp],au hD] (λi y r _ h=>aV.of (h.2.2 _ _ ac)) ?_ ?_]
  ·rintro i x y H3 hi ⟨⟨G,o2,rfl⟩,⟨o,uf,M,O⟩,Y⟩;obtain⟨e,he,t2,rfl,a0⟩:=Tv.at hi;have ai:i<ps.length:=(qm2.mp he).1;have al:=ap e (qm6 he);have m1:e.1∈zs:=ag.mem_iff.mpr al.1;have m2:e.2∈zs:=ag.mem_iff.mpr al.2;left;refine#[_,cO.of (Y _ _ a0),rfl,?_];have e3:=Y _ _ e2;left;refine#[#[_,aV.of e3],_,aV.of e3,m1,#[_,aV.of e3],_,aV.of e3,m2,?_];refine#[_,uf,by simp;lia,#[o++[if zs.idxOf e.2<zs.idxOf e.1 then 1 else 0],?_,by simp[M],λk B=>?_],aX Y hD]
   ·rw[ak];simp
   ·rcases qnw.mp B with B|B
    ·exact O k B
    ·rw[qn4] at B;subst B;split <;> lia
  ·rintro y H3 ⟨⟨G,o2,rfl⟩,⟨o,uf,M,O⟩,Y⟩;have S3:=B2.same Y;have L:=ae.keep Y;have D0:H D=none:=ae.none B2 hD;have Dp:D≠p:=(ae.ne hD).symm;have a0:=Y _ _ Cu;have ab:=Y _ _ ac;left;refine cZ.of (λh=>?_) (λh=>?_)
   ·left;refine#[_,.inr (cO.of a0),_,aO (j:=1) rfl,?_];left;refine#[#[_,aV.of ab],λU c=>Kv tv (λi y r=>(∃G,y=[G,some (.ref p)])/\(∃o:List Int,r U=some (.lst (o.map V.int))/\o.length=i/\∀n∈o,0<=n/\n<=1)/\r l=some (.lst tv)/\gQ r p/\But p H3 r) #[#[_,rfl],#[[],ak,rfl,by simp],bQ ab c,L.upd (L.ne c),But.of (au c)] (λi y r _ h=>aV.of h.2.2.1) ?_ ?_]
    ·rintro i x y H4 hi ⟨⟨G,rfl⟩,⟨o,qD,T8,T9⟩,I,wD,wW⟩;have ai:i<tv.length:=(qm2.mp hi).1;have J:U≠p:=(L.ne c).symm;have lD:l≠U:=aU ab c;left;refine#[p,_,rfl,wD,by decide,by decide,λf H5 av ar G4 Ml=>?_];left;refine#[_,Ml _ _ J qD,by simp;lia,#[o++[f],by rw[ak];simp,by simp[T8],λm N=>?_],by rw[aF lD];exact Ml _ _ lp I,G4.upd J.symm,(wW.trans Ml).new c]
     rcases qnw.mp N with N|N
     ·exact T9 m N
     ·rw[qn4] at N;subst N;lia
    ·rintro y H4 ⟨⟨G,rfl⟩,⟨o,qD,T8,T9⟩,I,wD,wW⟩;left;exact q U o H4 (L.none S3 c) qD T8 T9 wD (S3.trans wW)
   ·left;refine cZ.of (λh=>?_) (λh=>?_)
    ·left;refine#[#[_,aV.of uf],λU c=>Kv (o.map V.int) (λi y r=>(∃G,y=[G,some (.ref p)])/\(∃ms:List Int,r U=some (.lst (ms.map V.int))/\ms.length=i/\∀n∈ms,0<=n/\n<=1)/\r D=some (.lst (o.map V.int))/\gQ r p/\But p H3 r) #[#[_,rfl],#[[],ak,rfl,by simp],bQ uf c,L.upd (L.ne c),But.of (au c)] (λi y r _ h=>aV.of h.2.2.1) ?_ ?_]
     ·rintro i x y H4 hi ⟨⟨G,rfl⟩,⟨ms,qD,T8,T9⟩,I,wD,wW⟩;rw[qnr] at hi;obtain⟨m,N,rfl⟩:=qod.mp hi;have ai:i<o.length:=(qm2.mp N).1;have ax:=O m (qm6 N);have J:U≠p:=(L.ne c).symm;have lD:D≠U:=aU uf c;left;refine#[p,_,rfl,wD,by decide,by decide,λf H5 av ar G4 Ml=>?_];left;refine#[_,Ml _ _ J qD,by simp;lia,#[ms++[(m+if f=0 then 1 else 0) % 2],by rw[ak];simp,by simp[T8],λk B=>?_],by rw[aF lD];exact Ml _ _ Dp I,G4.upd J.symm,(wW.trans Ml).new c]
      rcases qnw.mp B with B|B
      ·exact T9 k B
      ·rw[qn4] at B;subst B;lia
     ·rintro y H4 ⟨⟨G,rfl⟩,⟨ms,qD,T8,T9⟩,I,wD,wW⟩;left;exact q U ms H4 (L.none S3 c) qD (by rw[T8,qm7,M]) T9 wD (S3.trans wW)
    ·left;exact q D o H3 D0 uf M O L S3
def Ye:Sp:=λh H Q _=>∃(p c:J9)(f:QA0),h=[.ref p,.ref c]/\gQ H p/\H c=some (.lst f)/\c≠p/\f.length<=20/\
 ∀(r:J9)(e:Hp),r≠p->Sq e r f->gQ e p->But p H e->Q (.ref r) e
def Yg(T:Txt K mg a):bT P w K mg base gR 2 a.lZ a.vY ["_law_pot_here", "_law_row"] Ye:=by
 exists T.FT.oE,Xy
 ·obtain⟨p,J,B,rfl,_⟩:=h;rfl
 ·obtain⟨p,J,B,rfl,N,r,rp,rJ,q⟩:=h;refine#[_,(aC (bh (bC (bD (K:=K) rfl) (cN (aj (dI (uO (K:=K) rfl) rfl T.nm.list boot_list (aj (aJ 1) ao)) (aj (dI Ai rfl T.nm.tuple boot_tuple (aj (aJ 1) ao)) ao))) (PE.eqv (aN (fX T) hr.d rfl T.iC T.gM.kp T.iB .nil bB (aj (aJ 0) (aj aG ao))) (aK _ _ _)) (λ_ _=>rfl)))),?_];have a0:=qoL xH;left;refine#[_,.inl (aV.of r),λc e=>#[_,.inl (bQ r e),λi D O I m v=>?_]];have Y:Same H (upd H c (.lst B)):=au e;have e1:=I _ _ (show upd H c (.lst B) c=some (.lst B) from ak);have G:Same D (upd D m (.lst [.ref c,.ref i])):=au v;have C:=(Y.trans I).trans G;have L:=N.keep C;have y:=G _ _ e1;have f:=G _ _ O;have e3:upd D m (.lst [.ref c,.ref i]) m=some (.lst [.ref c,.ref i]):=ak;have o:c≠p:=λz=>by subst z;obtain⟨_,_,u,_⟩:=N;rw[e] at u;cases u
  have n:i≠p:=λz=>by subst z;obtain⟨_,_,u,_⟩:=L;rw[f] at u;cases u
  have M:m≠p:=λz=>by subst z;obtain⟨_,_,u,_⟩:=(N.keep (Y.trans I));rw[v] at u;cases u
  generalize upd D m (.lst [.ref c,.ref i])=H3 at C L y f e3⊢;refine#[p,_,rfl,L,by decide,by decide,λd H4 ab aa U l=>?_];have x:=l _ _ M e3;have:d=0\/d=1:=⋯
  left
  rcases this with rfl|rfl
  ·exact#[_,.inl (aV.of x),_,aO (j:=0) rfl,q c H4 o (.inl (l _ _ o y)) U ((But.of C).trans l)]
  ·exact#[_,.inl (aV.of x),_,aO (j:=1) rfl,q i H4 n (.inr (l _ _ n f)) U ((But.of C).trans l)]
def eZ(H:Hp)(t n l:J9)(xs:QAH)(c:QA0)(ps:QAD):Prop:=H t=some (.tup [.ref n,.ref l])/\H n=some (.lst (xs.map V.str))/\H l=some (.lst c)/\bI H c ps/\Qp xs/\tW xs ps
theorem eZ.same{H e:Hp}{t n l:J9}{xs:QAH}{c:QA0}{ps:QAD}(h:eZ H t n l xs c ps)(s:Same H e):eZ e t n l xs c ps:=#[s _ _ h.1,s _ _ h.2.1,s _ _ h.2.2.1,bI.same h.2.2.2.1 s,h.2.2.2.2]
def int_at{ns:qx}{i:Nat}{x:V}(h:(ns.map V.int)[i]? = some x):∃m,ns[i]? = some m/\x = .int m:=by
 rw[qnr] at h;cases c:ns[i]? with
 |none=>rw[c] at h;cases h
 |some n=>rw[c] at h;cases h;exact#[n,rfl,rfl]
def gQ.qdU{p b:J9}{H:Hp}{o:HO}(x:gQ H p)(h:H b=some o)(c:∀zs,o≠.lst zs):b≠p:=λz=>by
 subst z;obtain⟨u,v,e,_⟩:=x;rw[h] at e;exact c _ (qnB e)
theorem fP.but{C p:J9}{H l:Hp}{o:J9}{xs:QAH}{ps:QAD}(h:fP C H o xs ps)(c:gQ H p)(b:But p H l):fP C l o xs ps:=by
 obtain⟨v,n,m,r,j,i,f,u,s⟩:=h.ex;exact#[#[v,n,m,r,b _ _ (c.qdU j (by intro e z;cases z)) j,b _ _ (c.qdU i (by intro e z;cases z)) i,b _ _ (c.qdU f (by intro e z;cases z)) f,u.but c b,s]]
theorem eZ.but{p:J9}{H f:Hp}{t n l:J9}{xs:QAH}{c:QA0}{ps:QAD}(h:eZ H t n l xs c ps)(e:gQ H p)(b:But p H f)(i:n≠p)(j:l≠p):eZ f t n l xs c ps:=
 #[b _ _ (e.qdU h.1 (by intro m z;cases z)) h.1,b _ _ i h.2.1,b _ _ j h.2.2.1,h.2.2.2.1.but e b,h.2.2.2.2]
def qgG(zs:qx)(fx:sX):Prop:=∀(j:Nat) z,zs[j]? = some z->(z=0/\fx j=some 0)\/(z=1/\fx j=some 1)\/(z=2/\fx j=none)
def mZ{fx:sX}{ps:QAD}{j:Nat}{e:Str×Str}(c:ps[j]? = some e):aD fx (ps.take (j+1)) 0=aD fx (ps.take j) 0++gK fx e j:=by
 have f:j<ps.length:=(qm2.mp c).1;rw[take_one c,n_,qni,qpf ⋯,qnZ];simp[aD]
def T_:Sp:=λm H Q _=>∃(t n l g:J9)(h:QAH)(o:QA0)(c:QAD)(e:qx)(i:sX)(x:Str),m=[.ref t,.ref g,.str x]/\eZ H t n l h o c/\H g=some (.lst (e.map V.int))/\e.length=c.length/\qgG e i/\x∈h/\
 ∀(r:J9)(f:QAH)(j:Hp),H r=none->j r=some (.lst (f.map V.str))->f.length=(mQ (aD i c 0) h x).length->(∀y,y∈f↔RT (gV (aD i c 0)) x y)->Same H j->Q (.ref r) j
def GC(T:Txt K mg a):bT P w K mg base gR 1 a.iJ a.oO ["_law_web_here", "_law_pointing", "_law_start"] T_:=by
 exists T.nU.oE,dN
 ·obtain⟨t,n,l,g,xs,tv,o,zs,fx,x,rfl,_⟩:=h;rfl
 ·obtain⟨t,n,l,g,xs,tv,o,zs,fx,x,rfl,M,hg,ax,an,hx,q⟩:=h;refine#[_,(aA (bF (i:=3) dN.nd rfl (Or.inl rfl) (cN (aj (aJ 2) ao)))
   (aA (gU qnS rfl (PI.eqv (bO (K:=K) rfl (bC (bD (K:=K) rfl) (aJ 0) aG (λ_ _=>rfl))) (bK _ _)) (aL (i:=4) dN.nd rfl (Or.inl rfl))
   (aC (gU qnS rfl (PI.eqv (Vg (K:=K) rfl rfl T.nm.zip (aj (bC (bD (K:=K) rfl) (aJ 0) aG (λ_ _=>rfl)) (aj (aJ 1) ao))) (O9 _ _)) (PG.eqv (c7 (K:=K) (n:=2) rfl rfl (fL.eqv (aY (PG.eqv (c7 (K:=K) (n:=2) rfl rfl (fL.eqv (aY (aL (i:=5) dN.nd rfl (Or.inl rfl)) (fL.eqv (aY (aL (i:=6) dN.nd rfl (Or.inl rfl)) (fL.mono cH dJ)) (aZ _ _))) (aZ _ _))) (dj _ _ _)) (fL.eqv (aY (aL (i:=7) dN.nd rfl (Or.inl rfl)) (fL.mono cH dJ)) (aZ _ _))) (aZ _ _))) (dj _ _ _))
   (aA (bY (PW.pt (nY (aQ jN (aJ 7) aG (bJ _)) (nY (aQ (oA (K:=K) rfl) (aJ 5) (aJ 3) rfl) (rM (aQ (pL (K:=K) rfl) (aJ 6) (aJ 3) rfl))))) (aC (cQ (iT (K:=K) rfl qnu qnQ qnR dM (aJ 3) (aj (aJ 6) ao)))) bA)
   (aC (bY (PW.pt (nY (aQ jN (aJ 7) aG (bJ _)) (nY (aQ (oA (K:=K) rfl) (aJ 6) (aJ 3) rfl) (rM (aQ (pL (K:=K) rfl) (aJ 5) (aJ 3) rfl))))) (aC (cQ (iT (K:=K) rfl qnu qnQ qnR dM (aJ 3) (aj (aJ 5) ao)))) bA))))))
   (aC (bh (aJ 3))))),?_]
  have ay:60<=sizeLine:=by decide
  have hX:=M.2.2.2.2.1;have ai:=M.2.2.2.2.2;have l9:=hX.len;have rJ:=ai.len;have tl:=M.2.2.2.1.1;have Nk:∀s∈aD fx o 0,s.2.2∈xs:=Di ai;left;intro f hf;exists H,f,(.lst [.str x]),sf,ef,H1,hf;refine#[_,.inr (cO.of (sf _ _ M.1)),_,aO (j:=0) rfl,#[_,aV.of (sf _ _ M.2.1)],?_];refine frL (xs.map V.str) (λi N H'=>∃(fs:QAH)(o4 o5 o6 Y:Option V),N=[some (.ref t),some (.ref g),some (.str x),some (.ref f),o4,o5,o6,Y]/\H' f=some (.lst (fs.map V.str))/\Ni (aD fx o 0) x fs/\(lg (aD fx o 0) fs\/i+1<=fs.length)/\Same H H') #[[x],none,none,none,none,rfl,ef,Ni.begin _ _,.inr (qm5 _),sf] (λi N H' _ h=>by
   obtain⟨_,_,_,_,_,_,_,_,_,z⟩:=h;exact aV.of (z _ _ M.2.1)) ?_ ?_
  ·rintro i z N H2 hi ⟨fs,o4,o5,o6,Y,rfl,ab,hR,hC,s2⟩;left;refine#[_,.inr (cO.of (s2 _ _ M.1)),_,aO (j:=1) rfl,?_];left;refine#[#[_,aV.of (s2 _ _ M.2.2.1)],#[_,aV.of (s2 _ _ hg)],?_];refine frZ tv (zs.map V.int) (λj N H'=>∃(c:QAH)(o5 o6 Y:Option V),N=[some (.ref t),some (.ref g),some (.str x),some (.ref f),some z,o5,o6,Y]/\H' f=some (.lst (c.map V.str))/\dW (aD fx o 0) (aD fx (o.take j) 0) x fs c/\Same H H') #[fs,o5,o6,Y,rfl,ab,dW.enter hR,s2] (by simp;lia) (λi N H' _ h=>by
    obtain⟨_,_,_,_,_,_,_,z⟩:=h;exact#[aV.of (z _ _ M.2.2.1),aV.of (z _ _ hg)]) ?_ ?_
   ·rintro j z1 z2 tt N H4 ar ap am ⟨c,o5,o6,Y,rfl,aa,J,s4⟩;obtain⟨e,he,t2,rfl,Cu⟩:=M.2.2.2.1.at ar;obtain⟨m,hm,rfl⟩:=int_at ap;have st:Same H4 (upd H4 tt (.tup [.ref t2,.int m])):=au am;have C:=st _ _ aa;have ag:=st _ _ (s4 _ _ Cu);have U:=s4.trans st;have al:upd H4 tt (.tup [.ref t2,.int m]) tt=some (.tup [.ref t2,.int m]):=ak;generalize upd H4 tt (.tup [.ref t2,.int m])=H5 at C ag U al⊢;have b6:=J.r.len hx Nk;have Ua:∀s∈gK fx e j,s∈aD fx o 0:=λs hs=>fZ.mpr #[j,e,he,by rw[qnZ];exact hs];have v:=mZ (fx:=fx) he;generalize aD fx (o.take (j+1)) 0=T1 at v⊢;left;refine#[_,cO.of al,rfl,_,cO.of ag,rfl,?_]
    rcases an j m hm with⟨rfl,I⟩|⟨rfl,I⟩|⟨rfl,I⟩
    ·have O:gK fx e j=[(j,e.1,e.2)]:=by unfold gK;rw[I];rfl
     have a0:(j,e.1,e.2)∈aD fx o 0:=Ua _ (by rw[O];simp);rw[O] at v;have D:∀{f:QAH},dW (aD fx o 0) (aD fx (o.take j) 0++[(j,e.1,e.2)]) x fs f->dW (aD fx o 0) T1 x fs f:=λh=>by rw[v];exact h
     left;refine#[_,.inl (aV.of C),rfl,qnk.mp (bM _),?_];rw[bx];refine cZ.of (λh1=>?_) (λh1=>?_)
     ·have B:e.1∈c:=qnb h1;have d1:inV (.str e.2) (c.map V.str) = !decide (¬e.2∈c):=by rw[bx];simp
      left;refine#[_,.inl (aV.of C),rfl,qnk.mp (bM _),_,d1,cZ.of (λh2=>?_) (λh2=>?_)]
      ·have y:¬e.2∈c:=qnb h2;left;refine#[#[_,aV.of C],_,C,by simp;lia,c++[e.2],by rw[ak];simp,D (J.add a0 B y),aX U hf]
      ·have y:e.2∈c:=by simpa using h2
       left;exact#[c,C,D (J.skip (s:=(j,e.1,e.2)) λ_=>y),U]
     ·have B:¬e.1∈c:=qnL h1;left;exact#[c,C,D (J.skip (s:=(j,e.1,e.2)) λz=>absurd z B),U]
    have O:gK fx e j=[(j,e.2,e.1)]:=by unfold gK;rw[I];rfl
    have af:(j,e.2,e.1)∈aD fx o 0:=Ua _ (by rw[O];simp);rw[O] at v;have D:∀{f:QAH},dW (aD fx o 0) (aD fx (o.take j) 0++[(j,e.2,e.1)]) x fs f->dW (aD fx o 0) T1 x fs f:=λh=>by rw[v];exact h
    left;have u:=J;have p:=C;have L:=U;generalize H5=H6 at p L⊢;generalize c=G at p u;generalize aD fx (o.take j) 0=T0 at u D
    rotate_left
    have O:gK fx e j=[(j,e.1,e.2)]++[(j,e.2,e.1)]:=by unfold gK;rw[I];rfl
    have a0:(j,e.1,e.2)∈aD fx o 0:=Ua _ (by rw[O];simp);have af:(j,e.2,e.1)∈aD fx o 0:=Ua _ (by rw[O];simp);rw[O,<- qns] at v;have D:∀{f:QAH},dW (aD fx o 0) (aD fx (o.take j) 0++[(j,e.1,e.2)]++[(j,e.2,e.1)]) x fs f->dW (aD fx o 0) T1 x fs f:=λh=>by rw[v];exact h
    left;refine#[_,.inl (aV.of C),rfl,qnk.mp (bM _),?_];rw[bx];refine cZ.of (λh1=>?_) (λh1=>?_);have B:e.1∈c:=qnb h1;have d1:inV (.str e.2) (c.map V.str) = !decide (¬e.2∈c):=by rw[bx];simp
    left;refine#[_,.inl (aV.of C),rfl,qnk.mp (bM _),_,d1,cZ.of (λh2=>?_) (λh2=>?_)];have y:¬e.2∈c:=qnb h2;left;have u:=J.add a0 B y;have p:upd H5 f (.lst (c.map V.str++[.str e.2])) f=some (.lst ((c++[e.2]).map V.str)):=by rw[ak];simp
    have L:Same H (upd H5 f (.lst (c.map V.str++[.str e.2]))):=aX U hf;refine#[#[_,aV.of C],_,C,by simp;omega,?_];generalize upd H5 f (.lst (c.map V.str++[.str e.2]))=H6 at p L⊢;have u:dW (aD fx o 0) (aD fx (o.take j) 0++[(j,e.1,e.2)]) x fs (c++[e.2]):=u;generalize c++[e.2]=G at p u;generalize aD fx (o.take j) 0++[(j,e.1,e.2)]=T0 at u D
    rotate_left
    have y:e.2∈c:=by simpa using h2
    have u:=J.skip (s:=(j,e.1,e.2)) λ_=>y;left;have p:=C;have L:=U;generalize H5=H6 at p L⊢;generalize c=G at p u;generalize aD fx (o.take j) 0++[(j,e.1,e.2)]=T0 at u D
    rotate_left
    have B:¬e.1∈c:=qnL h1;have u:=J.skip (s:=(j,e.1,e.2)) λz=>absurd z B;left;have p:=C;have L:=U;generalize H5=H6 at p L⊢;generalize c=G at p u;generalize aD fx (o.take j) 0++[(j,e.1,e.2)]=T0 at u D
    all_goals
     refine#[_,.inl (aV.of p),rfl,qnk.mp (bM _),?_];rw[bx];refine cZ.of (λg1=>?_) (λg1=>?_)
     ·have ae:e.2∈G:=qnb g1;have d2:inV (.str e.1) (G.map V.str) = !decide (¬e.1∈G):=by rw[bx];simp
      have az:=u.r.len hx Nk;left;refine#[_,.inl (aV.of p),rfl,qnk.mp (bM _),_,d2,cZ.of (λg2=>?_) (λg2=>?_)]
      ·have ac:¬e.1∈G:=qnb g2;left;exact#[#[_,aV.of p],_,p,by rw[qm7];omega,G++[e.1],by rw[ak];simp,D (u.add af ae ac),aX L hf]
      ·have ac:e.1∈G:=by simpa using g2
       left;exact#[G,p,D (u.skip (s:=(j,e.2,e.1)) λ_=>ac),L]
     ·have ae:¬e.2∈G:=qnL g1;left;exact#[G,p,D (u.skip (s:=(j,e.2,e.1)) λz=>absurd z ae),L]
   ·rintro N H4 ⟨c,o5,o6,Y,rfl,aa,J,s4⟩;rw[tl,qnn] at J;obtain⟨av,aw⟩:=J.leave hC;left;exact#[c,aa,av,aw,s4]
  ·rintro N H2 ⟨fs,o4,o5,o6,Y,rfl,ab,hR,hC,s2⟩;have b0:=hR.len hx Nk;rw[qm7] at hC;have ah:lg (aD fx o 0) fs:=hC.elim id λz=>absurd z ⋯;left;exact q f fs H2 hf ab (hR.mQ ah hX.nd hx Nk) (hR.closed ah) s2
def qb5{R S:Str->Str->Prop}(f:∀a b,R a b->S b a){a b:Str}(h:RT R a b):RT S b a:=by
 induction h with
 |refl=>exact .refl _
 |tail _ q ih=>exact(RT.one (f _ _ q)).trans ih
def fxr(fx:sX):Nat->Option Int:=λj=>(fx j).map λd=>1 - d
def JL{fx:sX}{ps:QAD}(l:∀j d,j<ps.length->fx j=some d->d=0\/d=1){a b:Str}:gV (aD (fxr fx) ps 0) a b↔gV (aD fx ps 0) b a:=by
 constructor
 ·rintro⟨n,f⟩;refine#[n,?_];rw[Lj] at f⊢;obtain⟨e,i,h⟩:=f;have m:n<ps.length:=(qm2.mp i).1;refine#[e,i,?_];unfold fxr at h;cases c:fx n with
  |none=>rw[c] at h;simp at h⊢;rcases h with⟨rfl,rfl⟩|⟨rfl,rfl⟩ <;> simp
  |some d=>
   rw[c] at h
   rcases l n d m c with rfl|rfl <;> simp at h⊢ <;> exact#[h.2,h.1]
 ·rintro⟨n,f⟩;refine#[n,?_];rw[Lj] at f⊢;obtain⟨e,i,h⟩:=f;have m:n<ps.length:=(qm2.mp i).1;refine#[e,i,?_];unfold fxr;cases c:fx n with
  |none=>rw[c] at h;simp at h⊢;rcases h with⟨rfl,rfl⟩|⟨rfl,rfl⟩ <;> simp
  |some d=>
   rw[c] at h
   rcases l n d m c with rfl|rfl <;> simp at h⊢ <;> exact#[h.2,h.1]
def Wf{S:List gJ}{xs:QAH}{x:Str}:(mQ S xs x).length=xs.length↔∀y∈xs,RT (gV S) x y:=by
 constructor
 ·intro h y e;have j:mQ S xs x=xs:=by
   unfold mQ at h⊢;exact List.filter_eq_self.mpr (List.length_filter_eq_length_iff.mp h)
  have:y∈mQ S xs x:=by rw[j];exact e
  exact(rR.mp this).2
 ·intro h;apply qnh;intro f;have c:(mQ S xs x).length<xs.length:=by have:=KH (S:=S) (xs:=xs) (x:=x);lia
  unfold mQ at c;rw[List.length_filter_lt_length_iff_exists] at c;obtain⟨y,e,i⟩:=c;exact i (by simpa using h y e)
def M6:Sp:=λj H Q _=>∃(t n l g:J9)(f:QAH)(m:QA0)(e:QAD)(c:qx)(h:sX),j=[.ref t,.ref g]/\eZ H t n l f m e/\H g=some (.lst (c.map V.int))/\c.length=e.length/\qgG c h/\
 ∀(b:Bool)(i:Hp),(b=true↔Strong (aD h e 0) f)->Same H i->Q (.bl b) i
def M7(T:Txt K mg a):bT P w K mg base gR 2 a.gb a.ni ["_law_web_here", "_law_pointing"] M6:=by
 exists T.u9.oE,sW
 ·obtain⟨t,n,l,g,c,tv,u,L,e,rfl,_⟩:=h;rfl
 ·obtain⟨t,n,l,g,c,tv,u,L,e,rfl,f,hg,Y,I,q⟩:=h;refine#[_,(aA (bF (i:=2) sW.nd rfl (Or.inl rfl) (PE.eqv (aN (GC T) hr.d rfl T.wu T.nU.kp T.wk .nil bB (aj (aJ 0) (aj (aJ 1) (aj (bC (bD (K:=K) rfl) (bC (bD (K:=K) rfl) (aJ 0) aG (λ_ _=>rfl)) aG (λ_ _=>rfl)) ao)))) (aK _ _ _)))
   (aA (bF (i:=3) sW.nd rfl (Or.inl rfl) (PE.eqv (aN (GC T) hr.d rfl T.wu T.nU.kp T.wk .nil bB (aj (aJ 0) (aj (cC rfl rfl (show aR (aB pQ) _ ["_law_web_here", "_law_pointing", "_law_there", "_law_back"] ["_law_turn"] [] ["_law_turn"] from by rfl') rfl (PI.eqv (bO (K:=K) rfl (aJ 1)) (bK _ _)) (λC s H fp pn=>(aL (i:=0) (show(["_law_turn"]:QAH).Nodup by symm) rfl (Or.inl rfl))) (λC s H fp pn=>cR) (λC s H fp pn=>(bC (bD (K:=K) rfl) (cN (aj aG (aj aG (aj aG ao)))) (aJ 0) (λ_ _=>rfl)))) (aj (bC (bD (K:=K) rfl) (bC (bD (K:=K) rfl) (aJ 0) aG (λ_ _=>rfl)) aG (λ_ _=>rfl)) ao)))) (aK _ _ _)))
   (aC (bh (k_ (cI gY (aH (bN (K:=K) rfl) rfl T.nm.len qnd (aj (aJ 2) ao)) (aH (bN (K:=K) rfl) rfl T.nm.len qnd (aj (bC (bD (K:=K) rfl) (aJ 0) aG (λ_ _=>rfl)) ao)) (bJ _)) (qH (cI gY (aH (bN (K:=K) rfl) rfl T.nm.len qnd (aj (aJ 3) ao)) (aH (bN (K:=K) rfl) rfl T.nm.len qnd (aj (bC (bD (K:=K) rfl) (aJ 0) aG (λ_ _=>rfl)) ao)) (bJ _)))))))),?_]
  have ag:60<=sizeLine:=by decide
  have l9:=f.2.2.2.2.1.len;have rJ:=f.2.2.2.2.2.len;obtain⟨o,U⟩:∃o,c[0]? = some o:=#[_,qnx (show 0<c.length by lia)];have x:=qm6 U;have aa:Cm (c.map V.str) 0=some (.str o):=aO (j:=0) (by rw[qnr,U];rfl);left;refine#[_,.inr (cO.of f.1),_,aO (j:=0) rfl,?_];left;refine#[_,.inl (aV.of f.2.1),_,aa,t,n,l,g,c,tv,u,L,e,o,rfl,f,hg,Y,I,x,λr1 f1 H1 ai e1 af am s1=>?_];left;refine#[#[_,aV.of (s1 _ _ hg)],λD hD=>Kv (L.map V.int) (λi σ H'=>(∃o',σ=[o'])/\(∃r:List Int,H' D=some (.lst (r.map V.int))/\r.length=i/\qgG r (fxr e))/\Same H1 H') #[#[_,rfl],#[[],ak,rfl,λj z h=>by simp at h],au hD] (λi σ H' _ h=>aV.of (h.2.2 _ _ (s1 _ _ hg))) ?_ ?_]
  ·rintro i v σ H2 hi ⟨⟨o',rfl⟩,⟨r,J,Ri,G⟩,s2⟩;obtain⟨m,hm,rfl⟩:=int_at hi;have an:i<L.length:=(qm2.mp hm).1;left;intro p3 ac;exists H2,p3,(.lst [.int 1,.int 0,.int 2]),N,e3,H3,ac;obtain⟨v,hv,ab⟩:∃v:Int,Cm [V.int 1,V.int 0,V.int 2] m=some (.int v)/\((v=0/\fxr e i=some 0)\/(v=1/\fxr e i=some 1)\/(v=2/\fxr e i=none)):=by
    unfold fxr
    rcases I i m hm with⟨rfl,B⟩|⟨rfl,B⟩|⟨rfl,B⟩
    ·exact#[1,aO (j:=0) rfl,.inr (.inl #[rfl,by rw[B];rfl])]
    ·exact#[0,aO (j:=1) rfl,.inl #[rfl,by rw[B];rfl]]
    ·exact#[2,aO (j:=2) rfl,.inr (.inr #[rfl,by rw[B];rfl])]
   refine#[_,.inl (aV.of e3),_,hv,_,N _ _ J,by rw[qm7];lia,#[r++[v],by rw[ak];simp,by simp[Ri],λj z p=>?_],aX (s2.trans N) hD]
   by_cases hj:j<r.length
   ·rw[qny hj] at p;exact G j z p
   ·rw[qnz ⋯] at p;have h0:j - r.length=0:=by
     have:=(qm2.mp p).1;simp at this;omega
    rw[h0] at p;simp at p;subst p;have:j=i:=⋯
    subst this;exact ab
  ·rintro σ H2 ⟨⟨o',rfl⟩,⟨r,J,Ri,G⟩,s2⟩;rw[qm7] at Ri;have S2:=s1.trans s2;left;refine#[_,.inr (cO.of (S2 _ _ f.1)),_,aO (j:=0) rfl,?_];left;refine#[_,.inl (aV.of (S2 _ _ f.2.1)),_,aa,t,n,l,D,c,tv,u,r,fxr e,o,rfl,f.same S2,J,⋯,G,x,λr3 f3 H3 ah e3 ae al N=>?_];have M:=S2.trans N;left;refine#[_,.inl (aV.of ((s2.trans N) _ _ e1)),_,.inr (cO.of (M _ _ f.1)),_,aO (j:=0) rfl,?_];left;refine#[_,.inl (aV.of (M _ _ f.2.1)),?_];have a0:∀j d,j<u.length->e j=some d->d=0\/d=1:=λj d hj hd=>by
    obtain⟨z,p⟩:∃z,L[j]? = some z:=#[_,qnx (show j<L.length by lia)]
    rcases I j z p with⟨_,B⟩|⟨_,B⟩|⟨_,B⟩ <;> rw[B] at hd <;> cases hd <;> simp
   have O:Strong (aD e u 0) c↔(mQ (aD e u 0) c o).length=c.length/\(mQ (aD (fxr e) u 0) c o).length=c.length:=by
    rw[Wf,Wf];constructor
    ·intro h;exact#[h o x,λy hy=>qb5 (λ_ _ z=>(JL a0).mpr z) (h y hy o x)]
    ·rintro⟨h1,h2⟩ y hy z p;exact(qb5 (λ_ _ z=>(JL a0).mp z) (h2 y hy)).trans (h1 z p)
   simp only[qm7];rw[af];refine cZ.of (λh=>?_) (λh=>?_)
   ·have h1:(mQ (aD e u 0) c o).length=c.length:=by have:=qnb h;lia
    left;refine#[_,.inl (aV.of e3),_,.inr (cO.of (M _ _ f.1)),_,aO (j:=0) rfl,?_];left;refine#[_,.inl (aV.of (M _ _ f.2.1)),q _ _ ?_ M];rw[O,qol];simp only[qm7];rw[ae];constructor
    ·intro z;exact#[h1,⋯]
    ·rintro⟨_,z⟩;lia
   ·have h1:¬(mQ (aD e u 0) c o).length=c.length:=λz=>by
     have:=qnL h;lia
    refine q _ _ ?_ M;rw[O];exact#[λz=>(by cases z),λz=>absurd z.1 h1]
theorem Q0(c:QAH):∀(ns:qx)(ps:QAD)(i:Nat)(n:Int)(e:Str×Str),ns[i]? = some n->ps[i]? = some e->j8 c (ns.take (i+1)) (ps.take (i+1))=j8 c (ns.take i) (ps.take i)+(if ¬qJ n e∈c/\uJ n e∈c then 1 else 0)
 |[],_,i,n,e,h,_=>by simp at h
 |m::ns,[],i,n,e,_,h=>by simp at h
 |m::ns,d::ps,0,n,e,j,f=>by
  simp at j f;subst j f;simp[j8]
 |m::ns,d::ps,i+1,n,e,j,f=>by
  have:=Q0 c ns ps i n e (by simpa using j) (by simpa using f);rw[qpY,qpY,j8,this,qpY,qpY,j8];lia
theorem JM(c:QAH):∀(ns:qx)(ps:QAD),j8 c ns ps<=ps.length
 |[],_=>by simp[j8]
 |_::_,[]=>by simp[j8]
 |n::ns,e::ps=>by
  have:=JM c ns ps;simp only[j8,qnt];split <;> lia
def qdW:Sp:=λo H Q _=>∃(t n l g j:J9)(m c:QAH)(p:QA0)(f:QAD)(e:qx),o=[.ref t,.ref g,.ref j]/\eZ H t n l m p f/\H g=some (.lst (e.map V.int))/\e.length=f.length/\(∀n∈e,0<=n/\n<=1)/\H j=some (.lst (c.map V.str))/\
 ∀(r:J9)(i:QA0)(h:Hp),H r=none->h r=some (.lst i)->i.length=j8 c e f->Same H h->Q (.ref r) h
def qdX(T:Txt K mg a):bT P w K mg base gR 1 a.uX a.C_ ["_law_web_here", "_law_pointing", "_law_lot"] qdW:=by
 exists T.Tf.oE,sY
 ·obtain⟨t,n,l,g,cl,xs,c,L,p,o,rfl,_⟩:=h;rfl
 ·obtain⟨t,n,l,g,cl,xs,c,L,p,o,rfl,⟨ht,hn,hl,C,hX,ag⟩,hg,ai,ah,hc,q⟩:=h;refine#[_,(aA (bF (i:=3) sY.nd rfl (Or.inl rfl) (cN ao))
   (aA (gU qnS rfl (PI.eqv (vL (K:=K) rfl rfl T.Rf.enumerate (aj (bC (bD (K:=K) rfl) (aJ 0) aG (λ_ _=>rfl)) ao)) (nJ _ _)) (PG.eqv (c7 (K:=K) (n:=2) rfl rfl (fL.eqv (aY (aL (i:=4) sY.nd rfl (Or.inl rfl)) (fL.eqv (aY (PG.eqv (c7 (K:=K) (n:=2) rfl rfl (fL.eqv (aY (aL (i:=5) sY.nd rfl (Or.inl rfl)) (fL.eqv (aY (aL (i:=6) sY.nd rfl (Or.inl rfl)) (fL.mono cH dJ)) (aZ _ _))) (aZ _ _))) (dj _ _ _)) (fL.mono cH dJ)) (aZ _ _))) (aZ _ _))) (dj _ _ _))
   (aA (JT (bC (bD (K:=K) rfl) (cN (aj (ji (aj (aJ 5) (aj (aJ 6) ao))) (aj (ji (aj (aJ 6) (aj (aJ 5) ao))) ao))) (bC (bD (K:=K) rfl) (aJ 1) (aJ 4) (λ_ _=>rfl)) (λ_ _=>rfl)) (PG.eqv (c7 (K:=K) (n:=2) rfl rfl (fL.eqv (aY (aL (i:=7) sY.nd rfl (Or.inl rfl)) (fL.eqv (aY (aL (i:=8) sY.nd rfl (Or.inl rfl)) (fL.mono cH dJ)) (aZ _ _))) (aZ _ _))) (dj _ _ _)))
   (aC (bY (PW.pt (nY (aQ (pL (K:=K) rfl) (aJ 7) (aJ 2) rfl) (rM (aQ (oA (K:=K) rfl) (aJ 8) (aJ 2) rfl)))) (aC (cQ (iT (K:=K) rfl qnu qnQ qnR dM (aJ 3) (aj (aJ 4) ao)))) bA))))
   (aC (bh (aJ 3))))),?_]
  have al:60<=sizeLine:=by decide
  have tl:=C.1;have rJ:=ag.len;left;intro r u;exists H,r,(.lst []),s1,e1,H1,u;refine#[_,.inr (cO.of (s1 _ _ ht)),_,aO (j:=1) rfl,?_];left;refine#[#[_,aV.of (s1 _ _ hl)],frE L (λi J H'=>(∃v4 v5 v6 Y U,J=[some (.ref t),some (.ref g),some (.ref cl),some (.ref r),v4,v5,v6,Y,U])/\(∃B:List V,H' r=some (.lst B)/\B.length=j8 c (o.take i) (p.take i))/\Same H H') #[#[none,none,none,none,none,rfl],#[[],e1,by simp[j8]],s1] (λi J H' _ h=>aV.of (h.2.2 _ _ hl)) ?_ ?_]
  ·rintro i x tt J H2 hi a0 ⟨⟨v4,v5,v6,Y,U,rfl⟩,⟨B,er,y⟩,s2⟩;obtain⟨e,he,t2,rfl,Cu⟩:=C.at hi;have an:i<p.length:=(qm2.mp he).1;obtain⟨m,hm⟩:∃m,o[i]? = some m:=#[_,qnx (show i<o.length by lia)];have am:=ah m (qm6 hm);exists H2,tt,(.tup [.int i,.ref t2]),st,et,H3,a0;have S3:=s2.trans st;have ae:=JM c (o.take i) (p.take i);rw[qni] at ae;rw[Q0 c o p i m e hm he];left;refine#[_,cO.of et,rfl,?_];left;refine#[_,cO.of (S3 _ _ Cu),rfl,?_];left;intro O ac;exists H3,O,(.tup [.str e.1,.str e.2]),s4,e4,H4,ac;intro N ab;exists H4,N,(.tup [.str e.2,.str e.1]),s5,e5,H5,ab;intro p6 Rj;exists H5,p6,(.lst [.ref O,.ref N]),M,e6,H6,Rj;have I:=S3.trans (s4.trans (s5.trans M));obtain⟨pt,af,aa⟩:∃pt,Cm [V.ref O,V.ref N] m=some (.ref pt)/\H6 pt=some (.tup [.str (qJ m e),.str (uJ m e)]):=by
    obtain rfl|rfl:m=0\/m=1:=⋯
    ·exact#[O,aO (j:=0) rfl,(s5.trans M) _ _ e4]
    ·exact#[N,aO (j:=1) rfl,M _ _ e5]
   refine#[_,.inl (aV.of (I _ _ hg)),.int m,aO (by rw[qnr,hm];rfl),_,.inl (aV.of e6),_,af,?_];left;refine#[_,cO.of aa,rfl,?_];left;have D:=I _ _ hc;have f:=(st.trans (s4.trans (s5.trans M))) _ _ er;have fl:∀z∈c.map V.str,jx z=true:=qnk.mp (bM _);have d1:inV (.str (qJ m e)) (c.map V.str) = !decide (¬qJ m e∈c):=by rw[bx];simp
   refine#[_,.inl (aV.of D),rfl,fl,_,d1,cZ.of (λh=>?_) (λh=>?_)]
   ·have h':¬qJ m e∈c:=qnb h;left;refine#[_,.inl (aV.of D),rfl,fl,cZ.of (λG=>?_) (λG=>?_)]
    ·rw[bx] at G;have v:=qnb G;left;exact#[#[_,aV.of f],_,f,⋯,#[_,ak,by simp[y,h',v]],aX I u]
    ·rw[bx] at G;have v:=qnL G;left;exact#[#[_,f,by simp[y,v]],I]
   ·have h':qJ m e∈c:=by simpa using h
    left;exact#[#[_,f,by simp[y,h']],I]
  ·rintro J H2 ⟨⟨v4,v5,v6,Y,U,rfl⟩,⟨B,er,y⟩,s2⟩;have e1:o.take L.length=o:=qon ⋯;have e2:p.take L.length=p:=qon ⋯;rw[e1,e2] at y;left;exact q r B H2 u er y s2
def qgH{H:Hp}{t n l:J9}{xs:QAH}{c:QA0}{ps:QAD}(m:eZ H t n l xs c ps){k:Nat}{e:Str×Str}(j:ps[k]? = some e):∃i,c[k]? = some (.ref i)/\H i=some (.tup [.str e.1,.str e.2]):=by
 have f:k<c.length:=by rw[m.2.2.2.1.1];exact(qm2.mp j).1
 obtain⟨r,h,i,o,p⟩:=m.2.2.2.1.at (show c[k]? = some c[k] by simp[f]);rw[j] at h;cases h;exact#[i,by rw[<- o];simp[f],p]
def JN:Sp:=λh H Q _=>∃(t n l r:J9)(e c:QAH)(i:QA0)(j:QAD),h=[.ref t,.ref r]/\eZ H t n l e i j/\H r=some (.lst (c.map V.str))/\0<c.length/\c.length<e.length/\(∀x∈c,x∈e)/\e.filter (λy=>decide (y∈c))=c/\
 ∀f,Same H f->Q (.bl true) f
def Yh(T:Txt K mg a):bT P w K mg base gR 1 a.jW a.rE ["_law_web_here", "_law_lot"] JN:=by
 exists T.u_.oE,Jo
 ·obtain⟨t,n,l,r,u,c,tv,ps,rfl,_⟩:=h;rfl
 ·obtain⟨t,n,l,r,u,c,tv,ps,rfl,G,I,af,ae,aa,ab,q⟩:=h;refine#[_,(aA (bY (PW.pt (mO (cM (bW (aH (mG (K:=K) rfl) rfl T.nm.isinstance boot_isinstance (aj (aJ 1) (aj (fV (v:=.ty "list") rfl T.nm.list boot_list rfl) ao))))) (jJ (cM (bW (aH (jA rfl) rfl T.nm.all iG (aj (cC rfl rfl (show aR (aB oK) _ ["_law_web_here", "_law_lot"] ["_law_point"] [] ["_law_point"] from by rfl') rfl (PI.eqv (bO (K:=K) rfl (aJ 1)) (bK _ _)) (λC s H M J=>(aL (i:=0) (show(["_law_point"]:QAH).Nodup by symm) rfl (Or.inl rfl))) (λC s H M J=>cR) (λC s H M J=>(aH (mG (K:=K) rfl) rfl T.nm.isinstance boot_isinstance (aj (aJ 0) (aj (fV (v:=.ty "str") rfl T.nm.str boot_str rfl) ao))))) ao))))))) (aC (bh j7)) bA)
   (aC (bh (k_ (Ah uM uM aG (aH (bN (K:=K) rfl) rfl T.nm.len qnd (aj (aJ 1) ao)) (aH (bN (K:=K) rfl) rfl T.nm.len qnd (aj (bC (bD (K:=K) rfl) (aJ 0) aG (λ_ _=>rfl)) ao))) (qH (cI (K9 (K:=K) rfl hr.units) (aJ 1) (cC rfl rfl (show aR (aB oK) _ ["_law_web_here", "_law_lot"] ["_law_name"] [1] ["_law_name", "_law_lot"] from by rfl') rfl (PI.eqv (bO (K:=K) rfl (bC (bD (K:=K) rfl) (aJ 0) aG (λ_ _=>rfl))) (bK _ _)) (λC s H M J=>(aL (i:=0) (show(["_law_name", "_law_lot"]:QAH).Nodup by symm) rfl (Or.inl rfl))) (λC s H M J=>(gO (aQ (oA (K:=K) rfl) (aJ 0) (aJ 1) rfl))) (λC s H M J=>(aJ 0))) (bJ _))))))),?_]
  have ag:60<=sizeLine:=by decide
  have hX:=G.2.2.2.2.1;have l9:=hX.len;left;refine#[_,.lst I,_,kZ K,cZ.neg rfl ?_];left;refine#[#[_,aV.of I],λD hD=>Kv (c.map V.str) (λj f p=>(∃m,f=[m])/\p D=some (.lst (List.replicate j (.bl true)))/\Same H p) #[#[_,rfl],ak,au hD] (λj f p _ h=>aV.of (h.2.2 _ _ I)) ?_ ?_]
  ·rintro j z f H2 Y ⟨⟨m,rfl⟩,o,e⟩;obtain⟨y,O,rfl⟩:=kE Y;have U:j<c.length:=(qm2.mp O).1;left;refine#[_,.str _,_,uF K,?_];refine#[_,o,by simp;lia,by rw[ak,qoJ],aX e hD]
  ·rintro f H2 ⟨⟨m,rfl⟩,o,e⟩;left;refine#[_,o,_,jF _,?_];rw[show(List.replicate (c.map V.str).length true).all id=true by simp];left;refine#[_,.inl (aV.of (e _ _ I)),cZ.pos (by simpa using af) ?_];left;refine#[_,.inr (cO.of (e _ _ G.1)),_,aO (j:=0) rfl,_,.inl (aV.of (e _ _ G.2.1)),?_];rw[qnE (by simpa using ae)];left;refine#[_,.inr (cO.of (e _ _ G.1)),_,aO (j:=0) rfl,#[_,aV.of (e _ _ G.2.1)],λF hF=>Kv (u.map V.str) (λj f p=>(∃m,f=[m,some (.ref r)])/\p F=some (.lst (((u.take j).filter λy=>decide (y∈c)).map V.str))/\Same H2 p) #[#[_,rfl],ak,au hF] (λj f p _ h=>aV.of (h.2.2 _ _ (e _ _ G.2.1))) ?_ ?_]
   ·rintro j z f H3 Y ⟨⟨m,rfl⟩,N,B⟩;obtain⟨y,O,rfl⟩:=kE Y;have U:j<u.length:=(qm2.mp O).1;have a0:((u.take j).filter λy=>decide (y∈c)).length<=(u.take j).length:=qn2 _ _;rw[qni] at a0;rw[take_one O,qn5,qn3];left;refine#[_,.inl (aV.of (B _ _ (e _ _ I))),rfl,qnk.mp (bM _),?_];rw[bx];refine cZ.of (λh=>?_) (λh=>?_)
    ·have h':y∈c:=qnb h;left;refine#[_,N,by simp;lia,by rw[ak];simp[h'],aX B hF]
    ·have h':¬y∈c:=qnL h;left;refine#[by rw[N];simp[h'],B]
   ·rintro f H3 ⟨⟨m,rfl⟩,N,B⟩;rw[qm7,qnn,ab] at N;have L:PyData.canLay0 (.list (dO c))=true:=by
     have:=yK c λx hx=>KD (hX.nm x (aa x hx));simp[PyData.canLay0,this]
    have ac:(PyData.list (dO c)).depth<=64:=by
     have:=yL c;simp[PyData.depth];lia
    left;refine#[.list (dO c),#[r,_,rfl,aV.of ((e.trans B) _ _ I),rO _],.list (dO c),#[F,_,rfl,aV.of N,rO _],L,L,ac,?_];rw[show PyData.eqv (.list (dO c)) (.list (dO c))=true by simp[PyData.eqv,yM]];exact q _ (e.trans B)
def w5:Sp:=λi H Q _=>∃(t n l r:J9)(h c:QAH)(j:QA0)(f:QAD),i=[.ref t,.ref r]/\eZ H t n l h j f/\H r=some (.lst (c.map V.str))/\
 ∀(d:J9)(e:Hp),H d=none->e d=some (.lst ((cj c f).map λk:Nat=>V.int k))->Same H e->Q (.ref d) e
def Hz(T:Txt K mg a):bT P w K mg base gR 1 a.dY a.jd ["_law_web_here", "_law_lot"] w5:=by
 exists T.jZ.oE,wK
 ·obtain⟨t,n,l,r,xs,c,tv,m,rfl,_⟩:=h;rfl
 ·obtain⟨t,n,l,r,xs,c,tv,m,rfl,u,M8,q⟩:=h;refine#[_,(aC (bh (cC rfl rfl (show aR (aB jO) _ ["_law_web_here", "_law_lot"] ["_law_k", "_law_a", "_law_b"] [1] ["_law_k", "_law_a", "_law_b", "_law_lot"] from by rfl') rfl (PI.eqv (vL (K:=K) rfl rfl T.Rf.enumerate (aj (bC (bD (K:=K) rfl) (aJ 0) aG (λ_ _=>rfl)) ao)) (nJ _ _)) (λC s H fp pn=>(PG.eqv (c7 (K:=K) (n:=2) rfl rfl (fL.eqv (aY (aL (i:=0) (show(["_law_k", "_law_a", "_law_b", "_law_lot"]:QAH).Nodup by symm) rfl (Or.inl rfl)) (fL.eqv (aY (PG.eqv (c7 (K:=K) (n:=2) rfl rfl (fL.eqv (aY (aL (i:=1) (show(["_law_k", "_law_a", "_law_b", "_law_lot"]:QAH).Nodup by symm) rfl (Or.inl rfl)) (fL.eqv (aY (aL (i:=2) (show(["_law_k", "_law_a", "_law_b", "_law_lot"]:QAH).Nodup by symm) rfl (Or.inl rfl)) (fL.mono cH dJ)) (aZ _ _))) (aZ _ _))) (dj _ _ _)) (fL.mono cH dJ)) (aZ _ _))) (aZ _ _))) (dj _ _ _))) (λC s H fp pn=>(gO (aQ jN (cI (oA (K:=K) rfl) (aJ 1) (aJ 3) rfl) (cI (oA (K:=K) rfl) (aJ 2) (aJ 3) rfl) (bJ _)))) (λC s H fp pn=>(aJ 0))))),?_];have a0:60<=sizeLine:=by decide
  have rJ:=u.2.2.2.2.2.len;have tl:=u.2.2.2.1.1;have hl:=u.2.2.1;left;refine#[_,.inr (cO.of u.1),_,aO (j:=1) rfl,#[_,aV.of hl],λD hD=>cmE tv (λj y H'=>(∃N M L,y=[N,M,L,some (.ref r)])/\H' D=some (.lst ((cj c (m.take j)).map λk:Nat=>V.int k))/\Same H H') #[#[_,_,_,rfl],ak,au hD] (λj y H' _ h=>aV.of (h.2.2 _ _ hl)) ?_ ?_]
  ·rintro j v z y p hj O ⟨⟨N,M,L,rfl⟩,f,J⟩;obtain⟨e,he,B,rfl,Cu⟩:=u.2.2.2.1.at hj;have aa:j<m.length:=(qm2.mp he).1;have st:Same p (upd p z (.tup [.int j,.ref B])):=au O;have x:upd p z (.tup [.int j,.ref B]) z=some (.tup [.int j,.ref B]):=ak;have o:=J.trans st;have I:=st _ _ f;generalize upd p z (.tup [.int j,.ref B])=H3 at st x o I⊢;have Y:(cj c (m.take j)).length<=(m.take j).length:=lO (kO c) _ _;rw[qni] at Y;have U:cj c (m.take (j+1))=cj c (m.take j)++eU c e j:=rA (eU c) he;rw[U,qn3];left;refine#[_,cO.of x,rfl,_,cO.of (o _ _ Cu),rfl,?_];refine#[_,.inl (aV.of (o _ _ M8)),rfl,qnk.mp (bM _),_,.inl (aV.of (o _ _ M8)),rfl,qnk.mp (bM _),?_];rw[bx,bx]
   by_cases G:(e.1∈c↔e.2∈c)
   ·refine#[false,by simp[G],cZ.neg rfl ?_];left;refine#[?_,o];rw[I,show eU c e j=[] from if_pos G];simp
   ·refine#[true,by simpa using G,cZ.pos rfl ?_];left;refine#[_,I,by simp;lia,?_,aX o hD];rw[ak,show eU c e j=[j] from if_neg G];simp
  ·rintro y p ⟨⟨N,M,L,rfl⟩,f,J⟩;rw[tl,qnn] at f;left;exact q D p hD f J
def inK(ks:wX)(k:Nat):Bool:=decide (k∈ks)
def M9:Sp:=λj H Q _=>∃(t n l g k:J9)(h:QAH)(m:QA0)(e:QAD)(f:qx)(c:wX),j=[.ref t,.ref g,.ref k]/\eZ H t n l h m e/\H g=some (.lst (f.map V.int))/\f.length=e.length/\(∀n∈f,0<=n/\n<=1)/\
 H k=some (.lst (c.map λk:Nat=>V.int k))/\c.Nodup/\c.Pairwise (·<=·)/\(∀k∈c,k<e.length)/\Strong (aD (λk=>(tX f c)[k]?) e 0) h/\∀i,Same H i->Q (.bl true) i
def M_(T:Txt K mg a):bT P w K mg base gR 3 a.gj a.nj ["_law_web_here", "_law_row", "_law_numbers"] M9:=by
 exists T.vd.oE,LK
 ·obtain⟨t,n,l,g,k,xs,tv,ps,ns,ks,rfl,_⟩:=h;rfl
 ·obtain⟨t,n,l,g,kk,xs,tv,ps,ns,ks,rfl,hG,hg,O,ai,J,M,ab,N,ae,q⟩:=h;refine#[_,(aA (bY (PW.pt (mO (cM (bW (aH (mG (K:=K) rfl) rfl T.nm.isinstance boot_isinstance (aj (aJ 2) (aj (fV (v:=.ty "list") rfl T.nm.list boot_list rfl) ao))))) (jJ (cM (bW (aH (jA rfl) rfl T.nm.all iG (aj (cC rfl rfl (show aR (aB jB) _ ["_law_web_here", "_law_row", "_law_numbers"] ["_law_k"] [] ["_law_k"] from by rfl') rfl (PI.eqv (bO (K:=K) rfl (aJ 2)) (bK _ _)) (λC s H p o=>(aL (i:=0) (show(["_law_k"]:QAH).Nodup by symm) rfl (Or.inl rfl))) (λC s H p o=>cR) (λC s H p o=>(k_ (aH (mG (K:=K) rfl) rfl T.nm.isinstance boot_isinstance (aj (aJ 0) (aj (fV (v:=.ty "int") rfl T.nm.int nF rfl) ao))) (qH (Vl (aH (mG (K:=K) rfl) rfl T.nm.isinstance boot_isinstance (aj (aJ 0) (aj (fV (v:=.ty "bool") rfl T.Rf.bool Dw rfl) ao)))))))) ao))))))) (aC (bh j7)) bA)
   (aA (bY (aQ (qaX (K:=K) rfl hr.units) (aJ 2) (cC rfl rfl (show aR (aB jB) _ ["_law_web_here", "_law_row", "_law_numbers"] ["_law_k"] [2] ["_law_k", "_law_numbers"] from by rfl') rfl (PI.eqv (nC rfl T.nm.range (aj (aH (bN (K:=K) rfl) rfl T.nm.len qnd (aj (aJ 1) ao)) ao)) (nH _)) (λC s H p o=>(aL (i:=0) (show(["_law_k", "_law_numbers"]:QAH).Nodup by symm) rfl (Or.inl rfl))) (λC s H p o=>(gO (aQ (oA (K:=K) rfl) (aJ 0) (aJ 1) rfl))) (λC s H p o=>(aJ 0))) (bJ _)) (aC (bh j7)) bA)
   (aC (bh (PE.eqv (aN (M7 T) hr.d rfl T.BZ T.u9.kp T.BX .nil bB (aj (aJ 0) (aj (cC rfl rfl (show aR (aB jB) _ ["_law_web_here", "_law_row", "_law_numbers"] ["_law_k", "_law_turn"] [2] ["_law_k", "_law_turn", "_law_numbers"] from by rfl') rfl (PI.eqv (vL (K:=K) rfl rfl T.Rf.enumerate (aj (aJ 1) ao)) (nJ _ _)) (λC s H p o=>(PG.eqv (c7 (K:=K) (n:=2) rfl rfl (fL.eqv (aY (aL (i:=0) (show(["_law_k", "_law_turn", "_law_numbers"]:QAH).Nodup by symm) rfl (Or.inl rfl)) (fL.eqv (aY (aL (i:=1) (show(["_law_k", "_law_turn", "_law_numbers"]:QAH).Nodup by symm) rfl (Or.inl rfl)) (fL.mono cH dJ)) (aZ _ _))) (aZ _ _))) (dj _ _ _))) (λC s H p o=>cR) (λC s H p o=>(cX pK (cX jM (aJ 1) (dI rT rfl T.nm.int nF (aj (cI (oA (K:=K) rfl) (aJ 0) (aJ 2) rfl) ao))) aG))) ao))) (aK _ _ _)))))),?_]
  have ag:200<=sizeLine:=by decide
  have rJ:=hG.2.2.2.2.2.len;have kl:ks.length<=20:=by
   have:=cV (xs:=List.range ps.length) M λk J=>qnD.mpr (N k J);rw[qpi] at this;lia
  have nn:∀X:List Nat,X.map (λn:Nat=>V.int n)=(X.map λn:Nat=>(n:Int)).map V.int:=λX=>by rw[qoG];rfl
  have B:(List.range ns.length).filter (inK ks)=ks:=by
   refine List.Perm.eq_of_pairwise (λa b _ _ h1 h2=>Nat.le_antisymm h1 h2) (List.pairwise_le_range.sublist qo_) ab ?_;refine(Bd M (λx hx=>qnv.mpr #[qnD.mpr (by have:=N x hx;lia),qnE hx]) ?_);exact cV (List.nodup_range.sublist qo_) λy hy=>qnb (qnv.mp hy).2
  left;refine#[_,.lst J,_,kZ K,cZ.neg rfl ?_];left;refine#[#[_,aV.of J],λD hD=>Kv (ks.map λk:Nat=>V.int k) (λj c f=>(∃u,c=[u])/\f D=some (.lst (List.replicate j (.bl true)))/\Same H f) #[#[_,rfl],ak,au hD] (λj c f _ h=>aV.of (h.2.2 _ _ J)) ?_ ?_]
  ·rintro j z c H2 Y ⟨⟨u,rfl⟩,I,L⟩;rw[qnr,qod] at Y;obtain⟨y,hy,rfl⟩:=Y;have ah:j<ks.length:=(qm2.mp hy).1;left;refine#[_,.int _,_,Br K,cZ.pos rfl ?_];left;refine#[_,.int _,_,yI K,?_];refine#[_,I,by simp;lia,by rw[ak,qoJ];rfl,aX L hD]
  ·rintro c H2 ⟨⟨u,rfl⟩,I,L⟩;have U:=L _ _ J;have aa:=L _ _ hg;left;refine#[_,I,_,jF _,?_];rw[show(List.replicate (ks.map λk:Nat=>V.int k).length true).all id=true by simp];left;refine#[_,.inl (aV.of aa),by rw[qm7];lia,λE hE=>?_];rw[qm7];refine cmR (λj c f=>(∃u,c=[u,some (.ref kk)])/\f E=some (.lst (((List.range j).filter (inK ks)).map λn:Nat=>V.int n))/\Same H2 f) #[#[_,rfl],ak,au hE] ?_ ?_
   ·rintro j c H3 Y ⟨⟨u,rfl⟩,e,r⟩;have fl:=qn2 (inK ks) (List.range j);rw[qpi] at fl;rw[show(0:Int)+(j:Int)=(j:Int) by lia];left;refine#[_,.inl (aV.of (r _ _ U)),rfl,rG _,?_];rw[zQ,List.range_succ,qn5];refine cZ.of (λh=>?_) (λh=>?_)
    ·left;refine#[_,e,by rw[qm7];lia,?_,aX r hE];rw[ak,qo0 (by exact h),qo6];rfl
    ·left;refine#[?_,r];rw[qo1 (by unfold inK;rw[h];simp),qo6,List.map_nil,qnC];exact e
   ·rintro c H3 ⟨⟨u,rfl⟩,e,r⟩;rw[B] at e;have G:=r _ _ U;have a0:=r _ _ aa;left;rw[nn] at e G;refine#[.list (iW (ks.map λn:Nat=>(n:Int))),#[kk,_,rfl,aV.of G,yS _],.list (iW (ks.map λn:Nat=>(n:Int))),#[E,_,rfl,aV.of e,yS _],by simp[PyData.canLay0,lay_ints],by simp[PyData.canLay0,lay_ints],by have:=Eb (ks.map λn:Nat=>(n:Int));simp[PyData.depth];lia,false,by simp[PyData.eqv,Ec],cZ.neg rfl ?_];left;refine#[#[_,aV.of a0],λD5 zW=>cmE (ns.map V.int) (λj c f=>(∃o1 o2,c=[o1,o2,some (.ref kk)])/\f D5=some (.lst (((tX ns ks).take j).map V.int))/\Same H3 f) #[#[_,_,rfl],ak,au zW] (λj c f _ h=>aV.of (h.2.2 _ _ a0)) ?_ ?_]
    ·rintro j v tt c H4 Y ac ⟨⟨o1,o2,rfl⟩,Tt,s4⟩;obtain⟨m,hm,rfl⟩:=int_at Y;have jl:j<ns.length:=(qm2.mp hm).1;have tr:=Wd (ks:=ks) hm;have tl:=Gz (ns:=ns) (ks:=ks);left;exists H4,tt,(.tup [.int j,.int m]),st,e5,H5,ac;have S5:=s4.trans st;refine#[_,cO.of e5,rfl,?_];left;refine#[_,.inl (aV.of (S5 _ _ G)),rfl,by rw[<- nn];exact rG _,?_];rw[<- nn,zQ];have af:((tX ns ks).take j).length<=20:=by rw[qni];lia
     refine#[_,st _ _ Tt,by rw[qm7];lia,?_,aX S5 zW];rw[ak,take_one tr];simp
    ·rintro c H4 ⟨⟨o1,o2,rfl⟩,Tt,s4⟩;rw[qm7,<- Gz (ks:=ks),qnn] at Tt;left;have S4:=L.trans (r.trans s4);refine#[t,n,l,D5,xs,tv,ps,tX ns ks,λk=>(tX ns ks)[k]?,rfl,hG.same S4,Tt,by rw[Gz];exact O,λj z hz=>?_,λb H5 hb s5=>?_]
     ·have:=qdS z (qm6 hz);have z01:z=0\/z=1:=⋯
      rcases z01 with rfl|rfl
      ·exact .inl #[rfl,hz]
      ·exact .inr (.inl #[rfl,hz])
     ·left;rw[hb.mpr ae];exact q _ (S4.trans s5)
def Yi{ps:QAD}{ns:qx}(f:ns.length=ps.length)(e:∀n∈ns,0<=n/\n<=1){c:QAH}(h:qG ns ps c=true):j8 c ns ps=0:=by
 unfold qG at h;have:=qnb h;rw[qeJ f e] at this;rw[<- Vj c ns ps 0];exact this
theorem GD:∀xs:List Int,keysOf (xs.map V.int)=xs.map Sum.inl
 |[]=>rfl
 |x::xs=>by
  show Sum.inl x::keysOf (xs.map V.int)=_;rw[GD xs];rfl
def qgI{xs:qx}(h:xs.Nodup):(G3 (λi=>(keysOf (xs.map V.int))[i]?.getD (Sum.inl 0)) (xs.map V.int).length).length=xs.length:=by
 rw[GD,qm7];refine(RL _ xs.length λi j f c e=>?_).1;simp[f,c] at e;exact(List.getElem_inj h).mp e
theorem Bf{ps:QAD}(f:ps.length<=20):∀e:List (QAH),(e.flatMap λc=>cj c ps).length<=e.length * 20
 |[]=>by simp
 |c::e=>by
  have ih:=Bf f e;rw[List.flatMap_cons,qnT,qnt];have:=lO (kO c) ps 0;unfold cj at ih⊢;lia
def GF{xs c:QAH}(f:xs.Nodup)(h:c.Sublist xs):(xs.filter λy=>decide (y∈c))=c:=by
 induction h with
 |slnil=>rfl
 |cons a h ih=>
  rename_i i j;have l:a∉i:=λz=>(qnY.mp f).1 (h.subset z);rw[qo1 (by simpa using l)];exact ih (qnY.mp f).2
 |cons_cons a h ih=>
  rename_i i j;have l:=(qnY.mp f).1;rw[qo0 (by simp)];congr 1;have e:(j.filter λy=>decide (y∈a::i))=j.filter λy=>decide (y∈i):=List.filter_congr λy m=>by
   have:y≠a:=λz=>l (z▸m);simp[this]
  rw[e];exact ih (qnY.mp f).2
def Q5:Sp:=λp H Q _=>∃(t n l g k r q m:J9)(i:QAH)(s lv:QA0)(e:QAD)(h:qx)(f:wX)(j:List (QAH)),p=[.ref t,.ref g,.ref r]/\eZ H t n l i s e/\H g=some (.lst (h.map V.int))/\h.length=e.length/\(∀n∈h,0<=n/\n<=1)/\
 H r=some (.tup [.ref k,.ref m])/\H k=some (.lst (f.map λk:Nat=>V.int k))/\f.Nodup/\f.Pairwise (·<=·)/\(∀k∈f,k<e.length)/\Strong (aD (λk=>(tX h f)[k]?) e 0) i/\
 H m=some (.lst lv)/\rQ H lv j/\j.length=f.length/\(∀c∈j,c.Sublist i/\0<c.length/\c.length<i.length/\qG h e c=true)/\(j.flatMap λc=>cj c e).Nodup/\∀o,Same H o->Q (.bl true) o
def qb6(T:Txt K mg a):bT P w K mg base gR 4 a.qt a.zE ["_law_web_here", "_law_row", "_law_told"] Q5:=by
 exists T.Mh.oE,zx
 ·obtain⟨t,n,l,g,k,r,q,l2,xs,G,lv,f,ns,ks,D,rfl,_⟩:=h;rfl
 ·obtain⟨t,n,l,g,k,r,_,l2,xs,G,lv,f,ns,ks,D,rfl,C,hg,e,y,u,hk,L,a0,M,aa,m,O,ag,ae,af,q⟩:=h;refine#[_,(aA (bY (PW.pt (mO (cM (bW (aH (mG (K:=K) rfl) rfl T.nm.isinstance boot_isinstance (aj (aJ 2) (aj (fV (v:=.ty "tuple") rfl T.nm.tuple boot_tuple rfl) ao))))) (mO (aQ jN (aH (bN (K:=K) rfl) rfl T.nm.len qnd (aj (aJ 2) ao)) aG (bJ _)) (jJ (cM (bW (PE.eqv (aN (M_ T) hr.d rfl T.Ca T.vd.kp T.B_ .nil bB (aj (aJ 0) (aj (aJ 1) (aj (bC (bD (K:=K) rfl) (aJ 2) aG (λ_ _=>rfl)) ao)))) (aK _ _ _)))))))) (aC (bh j7)) bA)
   (aA (bY (PW.pt (mO (cM (bW (aH (mG (K:=K) rfl) rfl T.nm.isinstance boot_isinstance (aj (bC (bD (K:=K) rfl) (aJ 2) aG (λ_ _=>rfl)) (aj (fV (v:=.ty "list") rfl T.nm.list boot_list rfl) ao))))) (jJ (aQ jN (aH (bN (K:=K) rfl) rfl T.nm.len qnd (aj (bC (bD (K:=K) rfl) (aJ 2) aG (λ_ _=>rfl)) ao)) (aH (bN (K:=K) rfl) rfl T.nm.len qnd (aj (bC (bD (K:=K) rfl) (aJ 2) aG (λ_ _=>rfl)) ao)) (bJ _))))) (aC (bh j7)) bA)
   (aA (bF (i:=3) zx.nd rfl (Or.inl rfl) (cN ao))
   (aA (gU qnS rfl (PI.eqv (bO (K:=K) rfl (bC (bD (K:=K) rfl) (aJ 2) aG (λ_ _=>rfl))) (bK _ _)) (aL (i:=4) zx.nd rfl (Or.inl rfl))
   (aA (bY (PW.pt (mO (cM (bW (PE.eqv (aN (Yh T) hr.d rfl T.FZ T.u_.kp T.FW .nil bB (aj (aJ 0) (aj (aJ 4) ao))) (aK _ _ _)))) (jJ (aQ (qaX (K:=K) rfl hr.units) (PE.eqv (aN (qdX T) hr.d rfl T.qbH T.Tf.kp T.qbG .nil bB (aj (aJ 0) (aj (aJ 1) (aj (aJ 4) ao)))) (aK _ _ _)) (cN ao) (bJ _))))) (aC (bh j7)) bA)
   (aC (bF (i:=3) zx.nd rfl (Or.inl rfl) (cX vM (aJ 3) (PE.eqv (aN (Hz T) hr.d rfl T.tQ T.jZ.kp T.tO .nil bB (aj (aJ 0) (aj (aJ 4) ao))) (aK _ _ _)))))))
   (aC (bh (cI gY (aH Il rfl T.nm.len qnd (aj (dI (Ik rfl) rfl T.nm.set Ii (aj (aJ 3) ao)) ao)) (aH (bN (K:=K) rfl) rfl T.nm.len qnd (aj (aJ 3) ao)) (bJ _)))))))),?_]
  have an:400<=sizeLine:=by decide
  have rJ:=C.2.2.2.2.2.len;have kl:ks.length<=20:=by
   have:=cV (xs:=List.range f.length) L λk hk=>qnD.mpr (M k hk);rw[qpi] at this;lia
  left;refine#[_,.tup u,_,Cq K,cZ.neg rfl ?_];left;refine#[_,.inr (cO.of u),false,rfl,cZ.neg rfl ?_];left;refine#[_,.inr (cO.of u),_,aO (j:=0) rfl,t,n,l,g,k,xs,G,f,ns,ks,rfl,C,hg,e,y,hk,L,a0,M,aa,λH1 o=>?_];refine cZ.neg (d:=#[0]) rfl ?_;left;refine#[_,.inr (cO.of (o _ _ u)),_,aO (j:=1) rfl,_,.lst (o _ _ m),_,kZ K,cZ.neg rfl ?_];left;refine#[_,.inr (cO.of (o _ _ u)),_,aO (j:=1) rfl,?_];left;refine#[_,.inl (aV.of (o _ _ m)),_,.inr (cO.of (o _ _ u)),_,aO (j:=0) rfl,?_];left;have J:=O.1;refine#[_,.inl (aV.of (o _ _ hk)),false,by rw[J,ag,qm7];simp,cZ.neg rfl ?_];left;intro X ai;have Y:Same H (upd H1 X (.lst [])):=o.trans (au ai);have eX:upd H1 X (.lst []) X=some (.lst []):=ak;generalize upd H1 X (.lst [])=HX at Y eX⊢;refine#[_,.inr (cO.of (Y _ _ u)),_,aO (j:=1) rfl,?_];left;refine#[#[_,aV.of (Y _ _ m)],frL lv (λi U H'=>∃(x:J9),(∃o4,U=[some (.ref t),some (.ref g),some (.ref r),some (.ref x),o4])/\H' x=some (.lst (((D.take i).flatMap λc=>cj c f).map λn:Nat=>V.int n))/\Same H H') #[X,#[_,rfl],eX,Y] (λi U H' _ h=>by
   obtain⟨_,_,_,z⟩:=h;exact aV.of (z _ _ m)) ?_ ?_]
  ·rintro i v U H2 hi ⟨x,⟨o4,rfl⟩,B,I⟩;obtain⟨c,hc,t4,rfl,Vi⟩:=bL.at O hi;obtain⟨k1,k2,k3,k4⟩:=ae c (qm6 hc);have hX:=C.2.2.2.2.1;left;refine#[t,n,l,t4,xs,c,G,f,rfl,C.same I,I _ _ Vi,k2,k3,λx B=>k1.mem B,GF hX.nd k1,λH3 s3=>?_];refine cZ.neg (d:=#[0]) rfl ?_;have S3:=I.trans s3;left;refine#[t,n,l,g,t4,xs,c,G,f,ns,rfl,C.same S3,S3 _ _ hg,e,y,S3 _ _ Vi,λr5 us H5 ap Rh Ri s5=>?_];have u0:us=[]:=qos.mp (Ri.trans (Yi e y k4));subst u0;have S5:=S3.trans s5;left;intro p6 Rj;exists H5,p6,(.lst []),s6,e6,H6,Rj;refine#[.list [],#[r5,_,rfl,aV.of (s6 _ _ Rh),rfl],.list [],#[p6,_,rfl,aV.of e6,rfl],rfl,rfl,by simp[PyData.depth,PyData.depthAll],false,rfl,cZ.neg (d:=#[0]) rfl ?_];have S6:=S5.trans s6;left;refine#[t,n,l,t4,xs,c,G,f,rfl,C.same S6,S6 _ _ Vi,λr7 H7 am ab s7=>?_];have il:i<D.length:=(qm2.mp hc).1;have fl:=Bf rJ (D.take i);rw[qni] at fl;have cl:=lO (kO c) f 0;have al:=s3.trans (s5.trans (s6.trans s7));have av:(cj c f).length<=20:=by unfold cj;lia
   left;refine#[_,al _ _ B,_,ab,by simp only[qm7];lia,λp8 ac=>#[?_,(S6.trans s7).trans (au ac)]];rw[ak,take_one hc,List.flatMap_append,qn3];simp
  ·rintro U H2 ⟨x,⟨o4,rfl⟩,B,I⟩;rw[J,qnn] at B;obtain⟨Z,hZ⟩:∃Z:List Int,Z=(D.flatMap λc=>cj c f).map λn:Nat=>(n:Int):=#[_,rfl];have N:H2 x=some (.lst (Z.map V.int)):=by rw[B,hZ,qoG];rfl
   have ah:Z.Nodup:=by
    rw[hZ];exact List.pairwise_map.mpr (af.imp λh z=>h ⋯)
   have ar:Z.length<=400:=by
    rw[hZ,qm7];have:=Bf rJ D;lia
   have hb:(1000:Nat)<scanBound:=by decide
   left;refine#[_,.inl (aV.of N),λz hz=>?_,by rw[qm7];lia,λp hp=>#[_,ak,_,.inl (aV.of (bQ N hp)),?_]]
   ·obtain⟨n,_,rfl⟩:=qnA.mp hz;rfl
   ·rw[qgI ah];simp only[qm7,decide_true];exact q _ (I.trans (au hp))
end K51
namespace L2
open PySem PySem.Spec PyProof.Rows
section
variable {X:Cx}
def Wg{c:J9}{iter:rz}{L:List Stmt}{wi:TI}{g:TG}{tb:TS}{pos:Pos}(hp:PassesOwn (model X.prog X.w) X.A X.env X.xe)(hh:X.A.handled=some (.ref c))(hi:PIH c X tg iter wi)(hg:PG X tg g)(z:GZ X L tb)
  (hs:∀x,foldedSetIterable iter X.env x=pure x:=by intro _;rfl):PS X (.For tg iter L [] pos) (qe1 wi g tb):=by
 intro O s σ H D I h;refine wpAny_For (cG (hi O s σ H _ I h) λv s1 h1=>cG h1 λaf s2 h2=>?_) hs;obtain⟨it,fp,tn,J,H2,e,I2,T,ab,f2,dH,⟨m0,w0⟩,turn⟩:=h2;subst e;have y:∀{E:Hp},(∀b∈fp,E b=none)->∀b∈fp,pB X O E b:=λhn b z=>#[hn b z,(f2 b z).2];refine codeAny_forLoop_any (λn s'=>∃i p E,Inv X O p E s'/\tn i s'.heap/\(∀b∈fp,E b=none)/\dH i n p E) ?_ m0 #[0,σ,H2,I2,ab,λb z=>(f2 b z).1,w0];rintro n s3 ⟨i,l,H3,I3,U,a0,w3⟩
 rcases turn i n l H3 w3 with⟨Q,qn⟩|⟨go,N,hN,step⟩
 ·refine qoo hp (cG (T.done X rfl rfl rfl hh i O s3 l H3 X.xe I3 (y a0) U Q) λr s4 M=>?_);obtain⟨hr,I4⟩:=M;subst hr;exact qpD #[l,H3,I4,qn]
 ·refine qoo hp (cG (T.item X rfl rfl rfl hh i O s3 l H3 X.xe I3 (y a0) U go) λr s4 M=>?_);obtain⟨u,hr,h4⟩:=M;subst hr;refine qoo hp (cG h4 λ_ s5 M=>?_);obtain⟨x,H5,I5,r5,y5,U4,ac⟩:=M;have ae:=I5.pinned (y ac) (T.obj _ _ U4);refine qoo hp (cG (hg _ s5 l H5 x u _ ae r5 (step x H5 y5)) λ_ s6 M=>?_);obtain⟨aa,H6,I6,q6⟩:=M;refine qoo hp (cG (z _ s6 aa H6 _ I6 q6) λf s7 G=>?_);have again:∀{j:St}{C:Hp},Inv X (O++zZ fp s5.heap) j C s7->N j C->∃m,m<n/\∃i p E,Inv X O p E s7/\tn i s7.heap/\(∀b∈fp,E b=none)/\dH i m p E:=λ{j C} B Y=>by
   obtain⟨m',hm,w7⟩:=hN j C Y;refine#[m',hm,i+1,j,C,B.nZ,T.keep _ _ _ U4 λb z o e=>(B.pin (b,o) (qnJ _ (qnJ _ (j_ z e)))).1,λb z=>?_,w7];obtain⟨o,e,d⟩:=T.obj _ _ U4 b z;exact(B.pin (b,o) (qnJ _ (qnJ _ (j_ z e)))).2.1
  cases f with
  |next=>obtain⟨j,C,B,Y⟩:=G;exact again B Y
  |cont=>obtain⟨j,C,B,Y⟩:=G;exact again B Y
  |brk=>obtain⟨j,C,B,G⟩:=G;exact#[j,C,B.nZ,G]
  |ret v=>obtain⟨x7,j,C,B,r7,G⟩:=G;exact#[x7,j,C,B.nZ,r7,G]
end
section
variable {prog:qd}{w:lW}{A:lY}{E:QAB}{s:Y5}{a:J9}
def Yj{e it l:J9}{i:Nat}{c:wY}{old:eH}{Q:QAG->Shared->Prop}(z:A.handled=some (.ref a))(r:Ao a s.heap)(f:a≠it)
  (n:IsEnum s.heap e it i old) (j:s.heap.IsListIter it l i) (y:s.heap.IsList l c) (u:c[i]? = none)
  (C:∀h',Heap.ExtBut it s.heap h'->Q none {s with heap:=h'}):wpAny (model prog w) A (pyNext (.ref e)) Q E s:=by
 have p:s.TypeIs (.ref e) "enumerate" :=#[_,n,rfl];unfold pyNext;refine qm3 (qpm (qn_ (name:=Str.ofString "__next__") p qoC
  (qow qoC p F.entry_enumerate_next ?_ (F.args_enumerate_next_1 _))))
 show wpAny _ _ (field (.ref e) 2 >>= _) _ _ _;refine qm3 (qnU n rfl (x:=.ref it) rfl ?_);refine qm3 (El (A:=A.in1) z r f j y u λh' x m h=>?_);obtain⟨o,v,B⟩:=h;refine qm3 (qpt (T:= "StopIteration") (b:=true) #[o,v,B] qpR ?_);exact qm8 (C _ m)
end
def qdY(c:J9)(K:YZ)(a:J9):It:=#[(Ite K a).go,(Ite K a).UW,λi H=>(Ite K a).stop i H/\Hh H c]
def Ub{P:qd}{w:lW}{K:YZ}{C:wZ}{k:Nat}{pos:Pos}{c e it a:J9}(h:e≠it) :
  qa_ c P w K (.Tuple C k pos) (qdY c K a) [e,it] e (Ku e it a):=by
 refine DR h ?_;intro X A x i J s D H E I j st y;subst A;obtain⟨⟨G,n,M⟩,l⟩:=y;obtain⟨u,m,p,v⟩:=I.list n;obtain⟨old,B⟩:=st.he;have L:=m.length;refine Yj x (I.lone l) (l.ne (j it (by simp)).1) B st.hi p.isList (by simp;lia) λN r=>#[rfl,I.vJ (t':=s.toks) (λd o f z=>?_) j];simp only[qnc,qnF,qoD,not_or] at f;exact r d o f.2 z
section
variable {X:Cx}{K:YZ}
def Wh(c:J9)(K:YZ)(t:TA):TI:=λf H R=>t f H λi e=>ar1 i λx=>isRef x λa=>(∃h,aV K e a h)/\R (qdY c K a) e
@[simp ↓] theorem qg4 c K t σ H R:Wh c K t σ H R=(t σ H λvs e=>ar1 vs λx=>isRef x λa=>(∃xs,aV K e a xs)/\R (qdY c K a) e):=rfl
def qb7{c:J9}(O:X.K=K){Q:wZ}{k:Nat}{f:Pos}{a:rz}{n:TA}{p pos:Pos} (M:Gl X "enumerate") (L:X.mg "enumerate" = none) (N:PA X [a] n)
  (J:starEach [a] X.env=[(false,eval a X.env)]:=by rfl) :
  PIH c X (.Tuple Q k f) (.Call (.Name "enumerate" p) [a] [] pos) (Wh c K n):=by
 subst O;intro o s m H R I h;refine Call_ (mz I M L Ac (qnX (cG (N pos o s m H _ I h) λus e y=>?_) (by rw[J];rfl) (by rfl)));obtain⟨Y,x,j,z,l⟩:=y;obtain⟨v1,rfl,l⟩:=ar1.out l;obtain⟨C,rfl,⟨U,A⟩,q⟩:=isRef.out l;obtain⟨u,rfl,r⟩:=vals1 z;obtain rfl:u=Value.ref C:=r;obtain⟨E,rv,B,G⟩:=j.list A;refine call_enumerate_list B.isList λw b1 b2 b3 D=>?_;refine wpAny_pyIter_enum (s:={e with heap:=w}) b1 ?_;have T:Inv X o m x {e with heap:=w}:=j.kept (t':=e.toks) D;refine#[e.heap.objs.size+1,[e.heap.objs.size+1,e.heap.objs.size],_,_,x,rfl,T,Ub (Nat.succ_ne_self _),#[#[_,b1],b2],λd v=>?_,q];have i:e.heap.objs.size<=d:=by
  simp only[qnc,qnF,qoD] at v
  rcases v with rfl|rfl <;> first|exact qpW _ _|exact qm5 _
 exact j.zY i (j.hok.fresh i)
def qeK(c:J9):List V->Hp->VK->Prop:=λe H Q=>Hh H c/\qaI e H Q
@[simp ↓] theorem qkA c xs H Q:qeK c xs H Q=(Hh H c/\qaI xs H Q):=rfl
def Uc{c:J9}(G:X.A.handled=some (.ref c)):cJ X (.builtin "all") (qeK c):=by
 intro p_ s σ H xs x Q I r h;obtain⟨ca,h⟩:=h;obtain⟨a,ys,bs,rfl,L,J,q⟩:=qaJ h;obtain⟨u,rfl,C⟩:=r.one;obtain rfl:u=Value.ref a:=C;obtain⟨z,f,n,B,E,e⟩:=I.Kd L;obtain⟨U,T⟩:=J.get B;have O:s.heap.IsList a f.toArray:=#[_,e,rfl,n,rfl];have p:=I.lone ca;refine call_all_walk ?_;refine qoW O ?_;have j:a≠s.heap.objs.size:=qnf (qm9 e);have l:c≠s.heap.objs.size:=by obtain⟨o,x,e,_⟩:=p;exact qnf (qm9 e)
 have m:(s.heap.push {cls:=.type "list_iterator",data:=.fields [.ref a,.int 0 0].toArray}).IsList a f.toArray:=#[_,qm4 _ e,rfl,n,rfl];refine#[s.heap.objs.size,_,_,_,_,_,λi=>bs.getD i false,rfl,Ph (by exact G) s.heap.objs.size a j l f.toArray,#[#[#[_,qne _ rfl,rfl,rfl],m],p.to λo e=>qm4 _ e],λi v s' Q' E' N M=>?_,λh' y D=>?_]
 ·obtain rfl:=T i v (by simpa using N);exact qok M
 ·have Y:(List.range f.toArray.size).all (λi=>bs.getD i false)=bs.all id:=by
   rw[qnm,<- E,U];exact range_all bs
  rw[Y];refine#[.bl _,H,?_,rfl,q];exact I.kept (h':=h') (t':=y) λb o w=>D b o (by simp;exact qnf (qm9 w)) (qm4 _ w)
end
section
variable {K:YZ}{l l1 l2 c:J9}{g:TG}{tb:TS}{D:Ends}{d:qaf g tb D}{σ:St}{H:Hp}
def qlX(xs:QA0)(Pv:QA1)(v:Pv 0 σ H)(r:∀i σ H,i<=xs.length->Pv i σ H->aV K H l xs/\Hh H c)
  (o:∀i x σ H,xs[i]? = some x->Pv i σ H->g x σ H λh z=>tb {D with nx:=Pv (i+1),ct:=Pv (i+1),bk:=D.nx} h z) (u:∀σ H,Pv xs.length σ H->D.nx σ H):tFr (qbh c K l) g tb D d σ H:=by
 refine#[λi m σ H=>m=xs.length - i/\i<=xs.length/\Pv i σ H,#[xs.length,by simp,qnI _,v],?_];rintro i m σ H ⟨rfl,s,p⟩;obtain⟨q,w⟩:=r i σ H s p
 by_cases f:i<xs.length
 ·refine .inr #[#[xs,xs[i],q,by simp[f]],Pv (i+1),λj A n=>#[xs.length - (i+1),∅,rfl,f,n],λx A y=>?_];obtain⟨rfl,e⟩:=y;exact o i x σ _ (e xs q) p
 ·have e:i=xs.length:=⋯
  subst e;exact .inl #[#[#[xs,q,qm5 _],w],u σ H p]
def qlY(xs ys:QA0)(Pv:QA1)(C:Pv 0 σ H)(M:xs.length=ys.length)(z:∀i σ H,i<=xs.length->Pv i σ H->(aV K H l1 xs/\aV K H l2 ys)/\Hh H c)
  (w:∀i x y t σ H,xs[i]? = some x->ys[i]? = some y->H t=none->Pv i σ H->g (.ref t) σ (upd H t (.tup [x,y])) λh J=>tb {D with nx:=Pv (i+1),ct:=Pv (i+1),bk:=D.nx} h J) (B:∀σ H,Pv xs.length σ H->D.nx σ H):tFr (qde c K l1 l2) g tb D d σ H:=by
 refine#[λi m σ H=>m=xs.length - i/\i<=xs.length/\Pv i σ H,#[xs.length,by simp,qnI _,C],?_];rintro i m σ H ⟨rfl,A,p⟩;obtain⟨⟨n,j⟩,I⟩:=z i σ H A p
 by_cases f:i<xs.length
 ·refine .inr #[#[xs,ys,xs[i],ys[i]'⋯,n,j,by simp[f],by simp[show i<ys.length by omega]],Pv (i+1),λo L r=>#[xs.length - (i+1),⋯,rfl,f,r],λx L y=>?_];obtain⟨t,u,v,rfl,s,rfl,G,E⟩:=y;exact w i u v t σ H (G xs n) (E ys j) s p
 ·have e:i=xs.length:=⋯
  subst e;exact .inl #[#[#[xs,ys,n,j,.inl (qm5 _)],I],B σ H p]
end
section
variable {K:YZ}{own:QAH}{caps:wX}{g:TG}{tt:TT}{te:TE}{D l c:J9}{σ:St}{H:Hp}{Q:Hp->Prop}{d:qag g tt te Q}
def qlZ(xs:QA0)(Pv:QA1)(w:Pv 0 (stC own caps σ) H)(r:∀i σ H,i<=xs.length->Pv i σ H->aV K H l xs/\Hh H c)
  (o:∀i x t σ H,xs[i]? = some x->H t=none->Pv i σ H->yG g tt te D (Pv (i+1)) (.ref t) σ (upd H t (.tup [.int i,x]))) (v:∀σ H,Pv xs.length σ H->Q H):tCm own caps (qdY c K l) g tt te Q d D σ H:=by
 refine#[λi m σ H=>m=xs.length - i/\i<=xs.length/\Pv i σ H,#[xs.length,by simp,qnI _,w],?_];rintro i m σ H ⟨rfl,s,p⟩;obtain⟨q,z⟩:=r i σ H s p
 by_cases f:i<xs.length
 ·refine .inr #[#[xs,xs[i],q,by simp[f]],Pv (i+1),λh A j=>#[xs.length - (i+1),∅,rfl,f,j],λx A y=>?_];obtain⟨t,u,rfl,n,rfl,e⟩:=y;exact o i u t σ H (e xs q) n p
 ·have e:i=xs.length:=∅
  subst e;exact .inl #[#[#[xs,q,qm5 _],z],v σ H p]
end
section
variable {X:Cx}{K:YZ}{o:rz}{f:Str}{pos:Pos}{ta:TE}
def Ud(K:YZ)(ta:TE)(f:Str):TE:=λh H Q=>ta h H λx e=>isRef x λa=>∃C c fs,Lg K C/\W.findIn K (.ref C) f=some none/\e a=some (Al a C (some c))/\e c=some (gZ c fs)/\∃v,fs.lookup f=some v/\Q v e
@[simp ↓] theorem qiF K ta f σ H Q:Ud K ta f σ H Q=ta σ H λx e=>isRef x λa=>∃C c fs,Lg K C/\W.findIn K (.ref C) f=some none/\e a=some (Al a C (some c))/\e c=some (gZ c fs)/\∃v,fs.lookup f=some v/\Q v e:=rfl
def o_(E:X.K=K)(B:PE X o ta)(D:attributeBase o f X.env (eval o X.env)=eval o X.env):PE X (.Attribute o f pos) (Ud K ta f):=by
 subst E;intro n s j H Q I h;refine U_ D (cG (B n s j H _ I h) λu O l=>?_);obtain⟨x,M,c,m,q⟩:=l;obtain⟨a,rfl,C,T,fs,G,z,L,J,v,r,q⟩:=isRef.out q;obtain rfl:u=Value.ref a:=m;obtain⟨A,p,e,y,hw⟩:=Vv c.hok J;obtain⟨N,w,i⟩:=mV.some_of (v:=v) (o:=p f) (by rw[<- r];exact y f);exact qf6 c.pA (qdq c.hok L) e G z w (HN i) #[v,M,c.tok _,i,q]
end
end L2
namespace K51
open PySem L2
variable {P:qd}{w:lW}{K:YZ}{mg:Y4}{base:oY}{a:Adr}
def Q6:Addr->Sp:=λc m H Q _=>Hh H c/\∃(t n l g:J9)(i:QAH)(o:QA0)(e:QAD)(h:qx)(x:Str),m=[.ref t,.ref g,.str x]/\eZ H t n l i o e/\H g=some (.lst (h.map V.int))/\h.length=e.length/\(∀z∈h,z=2)/\x∈i/\
 ∀(r:J9)(f:QAH)(j:Hp),H r=none->j r=some (.lst (f.map V.str))->f.length=(mQ (aD (λ_=>none) e 0) i x).length->(∀y,y∈f↔RT (gV (aD (λ_=>none) e 0)) x y)->Same H j->Q (.ref r) j
def Q7(T:Txt K mg a):Em P w K mg base 1 a.iJ a.oO ["_law_web_here", "_law_pointing", "_law_start"] Q6:=by
 refine T.nU.qdh dN (λc vs H Q E h=>?_) (λc cdv A outer s H vs Q hr h=>?_)
 ·obtain⟨_,t,n,l,g,xs,tv,p,zs,x,rfl,_⟩:=h;rfl
 ·obtain⟨hc,t,n,l,g,xs,tv,p,zs,x,rfl,B,hg,b0,am,hx,q⟩:=h;obtain⟨fx,ae⟩:∃fx:Nat->Option Int,fx=λ_=>none:=#[_,rfl];rw[<- ae] at q;have ax:∀j,fx j=none:=λj=>by rw[ae]
  have ca:∀{D},Same H D->Hh D c:=λs=>by
   obtain⟨C,od,e⟩:=hc;exact#[C,od,s _ _ e]
  refine#[_,(aA (bF (i:=3) dN.nd rfl (Or.inl rfl) (cN (aj (aJ 2) ao)))
   (aA (Wg qnS rfl (zf (K:=K) rfl (bC (bD (K:=K) rfl) (aJ 0) aG (λ_ _=>rfl))) (aL (i:=4) dN.nd rfl (Or.inl rfl))
   (aC (Wg qnS rfl (qdf (K:=K) rfl rfl T.nm.zip (aj (bC (bD (K:=K) rfl) (aJ 0) aG (λ_ _=>rfl)) (aj (aJ 1) ao))) (CP (K:=K) (n:=2) rfl rfl (fL.eqv (aY (CP (K:=K) (n:=2) rfl rfl (fL.eqv (aY (aL (i:=5) dN.nd rfl (Or.inl rfl)) (fL.eqv (aY (aL (i:=6) dN.nd rfl (Or.inl rfl)) (fL.mono cH dJ)) (aZ _ _))) (aZ _ _))) (fL.eqv (aY (aL (i:=7) dN.nd rfl (Or.inl rfl)) (fL.mono cH dJ)) (aZ _ _))) (aZ _ _)))
   (aA (bY (PW.pt (nY (aQ jN (aJ 7) aG (bJ _)) (nY (aQ (oA (K:=K) rfl) (aJ 5) (aJ 3) rfl) (rM (aQ (pL (K:=K) rfl) (aJ 6) (aJ 3) rfl))))) (aC (cQ (iT (K:=K) rfl qnu qnQ qnR dM (aJ 3) (aj (aJ 6) ao)))) bA)
   (aC (bY (PW.pt (nY (aQ jN (aJ 7) aG (bJ _)) (nY (aQ (oA (K:=K) rfl) (aJ 6) (aJ 3) rfl) (rM (aQ (pL (K:=K) rfl) (aJ 5) (aJ 3) rfl))))) (aC (cQ (iT (K:=K) rfl qnu qnQ qnR dM (aJ 3) (aj (aJ 5) ao)))) bA))))))
   (aC (bh (aJ 3))))),?_]
  have b6:60<=sizeLine:=by decide
  have hX:=B.2.2.2.2.1;have ah:=B.2.2.2.2.2;have l9:=hX.len;have rJ:=ah.len;have tl:=B.2.2.2.1.1;have Nk:∀s∈aD fx p 0,s.2.2∈xs:=Di ah;left;intro f hf;exists H,f,(.lst [.str x]),sf,ef,H1,hf;refine#[_,.inr (cO.of (sf _ _ B.1)),_,aO (j:=0) rfl,#[_,aV.of (sf _ _ B.2.1)],?_];refine qlX (xs.map V.str) (λi G D=>∃(fs:QAH)(o4 M L J:Option V),G=[some (.ref t),some (.ref g),some (.str x),some (.ref f),o4,M,L,J]/\D f=some (.lst (fs.map V.str))/\Ni (aD fx p 0) x fs/\(lg (aD fx p 0) fs\/i+1<=fs.length)/\Same H D) #[[x],none,none,none,none,rfl,ef,Ni.begin _ _,.inr (qm5 _),sf] (λi G D _ h=>by
   obtain⟨_,_,_,_,_,_,_,_,_,z⟩:=h;exact#[aV.of (z _ _ B.2.1),ca z]) ?_ ?_
  ·rintro i z G H2 hi ⟨fs,o4,M,L,J,rfl,O,hR,hC,s2⟩;left;refine#[_,.inr (cO.of (s2 _ _ B.1)),_,aO (j:=1) rfl,?_];left;refine#[#[_,aV.of (s2 _ _ B.2.2.1)],#[_,aV.of (s2 _ _ hg)],?_];refine qlY tv (zs.map V.int) (λj G D=>∃(o:QAH)(M L J:Option V),G=[some (.ref t),some (.ref g),some (.str x),some (.ref f),some z,M,L,J]/\D f=some (.lst (o.map V.str))/\dW (aD fx p 0) (aD fx (p.take j) 0) x fs o/\Same H D) #[fs,M,L,J,rfl,O,dW.enter hR,s2] (by simp;lia) (λi G D _ h=>by
    obtain⟨_,_,_,_,_,_,_,z⟩:=h;exact#[#[aV.of (z _ _ B.2.2.1),aV.of (z _ _ hg)],ca z]) ?_ ?_
   ·rintro j z1 z2 tt G H4 ar ap an ⟨o,M,L,J,rfl,N,Y,s4⟩;obtain⟨e,he,t2,rfl,Cu⟩:=B.2.2.2.1.at ar;obtain⟨m,hm,rfl⟩:=int_at ap;have st:Same H4 (upd H4 tt (.tup [.ref t2,.int m])):=au an;have G5:=st _ _ N;have af:=st _ _ (s4 _ _ Cu);have s5:=s4.trans st;have ai:upd H4 tt (.tup [.ref t2,.int m]) tt=some (.tup [.ref t2,.int m]):=ak;generalize upd H4 tt (.tup [.ref t2,.int m])=H5 at G5 af s5 ai⊢;have b9:=Y.r.len hx Nk;have Ua:∀s∈gK fx e j,s∈aD fx p 0:=λs hs=>fZ.mpr #[j,e,he,by rw[qnZ];exact hs];have U:=mZ (fx:=fx) he;generalize aD fx (p.take (j+1)) 0=T1 at U⊢;left;refine#[ca s5,_,cO.of ai,rfl,ca s5,_,cO.of af,rfl,?_];obtain⟨rfl,aw⟩:m=2/\fx j=none:=#[am m (qm6 hm),ax j];have so:gK fx e j=[(j,e.1,e.2)]++[(j,e.2,e.1)]:=by unfold gK;rw[aw];rfl
    have av:(j,e.1,e.2)∈aD fx p 0:=Ua _ (by rw[so];simp);have al:(j,e.2,e.1)∈aD fx p 0:=Ua _ (by rw[so];simp);rw[so,<- qns] at U;have cv:∀{f:QAH},dW (aD fx p 0) (aD fx (p.take j) 0++[(j,e.1,e.2)]++[(j,e.2,e.1)]) x fs f->dW (aD fx p 0) T1 x fs f:=λh=>by rw[U];exact h
    left;refine#[_,.inl (aV.of G5),rfl,qnk.mp (bM _),?_];rw[bx];refine cZ.of (λh1=>?_) (λh1=>?_);have aa:e.1∈o:=qnb h1;have d1:inV (.str e.2) (o.map V.str) = !decide (¬e.2∈o):=by rw[bx];simp
    left;refine#[_,.inl (aV.of G5),rfl,qnk.mp (bM _),_,d1,cZ.of (λh2=>?_) (λh2=>?_)];have a0:¬e.2∈o:=qnb h2;left;have v:=Y.add av aa a0;have u:upd H5 f (.lst (o.map V.str++[.str e.2])) f=some (.lst ((o++[e.2]).map V.str)):=by rw[ak];simp
    have I:Same H (upd H5 f (.lst (o.map V.str++[.str e.2]))):=aX s5 hf;refine#[#[_,aV.of G5],_,G5,by simp;lia,?_];generalize upd H5 f (.lst (o.map V.str++[.str e.2]))=H6 at u I⊢;have v:dW (aD fx p 0) (aD fx (p.take j) 0++[(j,e.1,e.2)]) x fs (o++[e.2]):=v;generalize o++[e.2]=y at u v;generalize aD fx (p.take j) 0++[(j,e.1,e.2)]=T0 at v cv
    rotate_left
    have a0:e.2∈o:=by simpa using h2
    have v:=Y.skip (s:=(j,e.1,e.2)) λ_=>a0;left;have u:=G5;have I:=s5;generalize H5=H6 at u I⊢;generalize o=y at u v;generalize aD fx (p.take j) 0++[(j,e.1,e.2)]=T0 at v cv
    rotate_left
    have aa:¬e.1∈o:=qnL h1;have v:=Y.skip (s:=(j,e.1,e.2)) λz=>absurd z aa;left;have u:=G5;have I:=s5;generalize H5=H6 at u I⊢;generalize o=y at u v;generalize aD fx (p.take j) 0++[(j,e.1,e.2)]=T0 at v cv
    all_goals
     refine#[_,.inl (aV.of u),rfl,qnk.mp (bM _),?_];rw[bx];refine cZ.of (λg1=>?_) (λg1=>?_)
     ·have ac:e.2∈y:=qnb g1;have d2:inV (.str e.1) (y.map V.str) = !decide (¬e.1∈y):=by rw[bx];simp
      have b7:=v.r.len hx Nk;left;refine#[_,.inl (aV.of u),rfl,qnk.mp (bM _),_,d2,cZ.of (λg2=>?_) (λg2=>?_)]
      ·have ab:¬e.1∈y:=qnb g2;left;exact#[#[_,aV.of u],_,u,by rw[qm7];omega,y++[e.1],by rw[ak];simp,cv (v.add al ac ab),aX I hf]
      ·have ab:e.1∈y:=by simpa using g2
       left;exact#[y,u,cv (v.skip (s:=(j,e.2,e.1)) λ_=>ab),I]
     ·have ac:¬e.2∈y:=qnL g1;left;exact#[y,u,cv (v.skip (s:=(j,e.2,e.1)) λz=>absurd z ac),I]
   ·rintro G H4 ⟨o,M,L,J,rfl,N,Y,s4⟩;rw[tl,qnn] at Y;obtain⟨ay,az⟩:=Y.leave hC;left;exact#[o,N,ay,az,s4]
  ·rintro G H2 ⟨fs,o4,M,L,J,rfl,O,hR,hC,s2⟩;have b8:=hR.len hx Nk;rw[qm7] at hC;have ag:lg (aD fx p 0) fs:=hC.elim id λz=>absurd z ⋯;left;exact q f fs H2 hf O (hR.mQ ag hX.nd hx Nk) (hR.closed ag) s2
def Ue:Addr->Sp:=λc e H Q E=>Hh H c/\JN e H Q E
def Ug(T:Txt K mg a):Em P w K mg base 1 a.jW a.rE ["_law_web_here", "_law_lot"] Ue:=by
 refine T.u_.qdh Jo (λc5 vs H Q E h=>?_) (λc5 al A Y s H vs Q hr h=>?_)
 ·obtain⟨_,t,n,l,r,B,c,tv,ps,rfl,_⟩:=h;rfl
 ·obtain⟨ag,t,n,l,r,B,c,tv,ps,rfl,I,J,ah,af,ab,ac,q⟩:=h;have ca:∀{m},Same H m->Hh m c5:=λs=>by
   obtain⟨C,od,e⟩:=ag;exact#[C,od,s _ _ e]
  refine#[_,(aA (bY (PW.pt (mO (cM (bW (aH (mG (K:=K) rfl) rfl T.nm.isinstance boot_isinstance (aj (aJ 1) (aj (fV (v:=.ty "list") rfl T.nm.list boot_list rfl) ao))))) (jJ (cM (bW (aH (Uc rfl) rfl T.nm.all iG (aj (za rfl rfl (show aR (aB oK) _ ["_law_web_here", "_law_lot"] ["_law_point"] [] ["_law_point"] from by rfl') rfl (zf (K:=K) rfl (aJ 1)) (λC s H N L=>(aL (i:=0) (show(["_law_point"]:QAH).Nodup by symm) rfl (Or.inl rfl))) (λC s H N L=>cR) (λC s H N L=>(aH (mG (K:=K) rfl) rfl T.nm.isinstance boot_isinstance (aj (aJ 0) (aj (fV (v:=.ty "str") rfl T.nm.str boot_str rfl) ao))))) ao))))))) (aC (bh j7)) bA)
   (aC (bh (k_ (Ah uM uM aG (aH (bN (K:=K) rfl) rfl T.nm.len qnd (aj (aJ 1) ao)) (aH (bN (K:=K) rfl) rfl T.nm.len qnd (aj (bC (bD (K:=K) rfl) (aJ 0) aG (λ_ _=>rfl)) ao))) (qH (cI (K9 (K:=K) rfl hr.units) (aJ 1) (za rfl rfl (show aR (aB oK) _ ["_law_web_here", "_law_lot"] ["_law_name"] [1] ["_law_name", "_law_lot"] from by rfl') rfl (zf (K:=K) rfl (bC (bD (K:=K) rfl) (aJ 0) aG (λ_ _=>rfl))) (λC s H N L=>(aL (i:=0) (show(["_law_name", "_law_lot"]:QAH).Nodup by symm) rfl (Or.inl rfl))) (λC s H N L=>(gO (aQ (oA (K:=K) rfl) (aJ 0) (aJ 1) rfl))) (λC s H N L=>(aJ 0))) (bJ _))))))),?_]
  have ai:60<=sizeLine:=by decide
  have hX:=I.2.2.2.2.1;have l9:=hX.len;left;refine#[_,.lst J,_,kZ K,cZ.neg rfl ?_];left;refine#[#[_,aV.of J],λD hD=>qf_ (c.map V.str) (λj o m=>(∃p,o=[p])/\m D=some (.lst (List.replicate j (.bl true)))/\Same H m) #[#[_,rfl],ak,au hD] (λj o m _ h=>#[aV.of (h.2.2 _ _ J),ca h.2.2]) ?_ ?_]
  ·rintro j z o H2 hj ⟨⟨p,rfl⟩,u,f⟩;obtain⟨y,U,rfl⟩:=kE hj;have a0:j<c.length:=(qm2.mp U).1;left;refine#[_,.str _,_,uF K,?_];refine#[_,u,by simp;lia,by rw[ak,qoJ],aX f hD]
  ·rintro o H2 ⟨⟨p,rfl⟩,u,f⟩;left;refine#[ca f,_,u,_,jF _,?_];rw[show(List.replicate (c.map V.str).length true).all id=true by simp];left;refine#[_,.inl (aV.of (f _ _ J)),cZ.pos (by simpa using ah) ?_];left;refine#[_,.inr (cO.of (f _ _ I.1)),_,aO (j:=0) rfl,_,.inl (aV.of (f _ _ I.2.1)),?_];rw[qnE (by simpa using af)];left;refine#[_,.inr (cO.of (f _ _ I.1)),_,aO (j:=0) rfl,#[_,aV.of (f _ _ I.2.1)],λF hF=>qf_ (B.map V.str) (λj o m=>(∃p,o=[p,some (.ref r)])/\m F=some (.lst (((B.take j).filter λy=>decide (y∈c)).map V.str))/\Same H2 m) #[#[_,rfl],ak,au hF] (λj o m _ h=>#[aV.of (h.2.2 _ _ (f _ _ I.2.1)),ca (f.trans h.2.2)]) ?_ ?_]
   ·rintro j z o H3 hj ⟨⟨p,rfl⟩,O,G⟩;obtain⟨y,U,rfl⟩:=kE hj;have a0:j<B.length:=(qm2.mp U).1;have aa:((B.take j).filter λy=>decide (y∈c)).length<=(B.take j).length:=qn2 _ _;rw[qni] at aa;rw[take_one U,qn5,qn3];left;refine#[_,.inl (aV.of (G _ _ (f _ _ J))),rfl,qnk.mp (bM _),?_];rw[bx];refine cZ.of (λh=>?_) (λh=>?_)
    ·have h':y∈c:=qnb h;left;refine#[_,O,by simp;lia,by rw[ak];simp[h'],aX G hF]
    ·have h':¬y∈c:=qnL h;left;refine#[by rw[O];simp[h'],G]
   ·rintro o H3 ⟨⟨p,rfl⟩,O,G⟩;rw[qm7,qnn,ac] at O;have M:PyData.canLay0 (.list (dO c))=true:=by
     have:=yK c λx hx=>KD (hX.nm x (ab x hx));simp[PyData.canLay0,this]
    have ae:(PyData.list (dO c)).depth<=64:=by
     have:=yL c;simp[PyData.depth];lia
    left;refine#[.list (dO c),#[r,_,rfl,aV.of ((f.trans G) _ _ J),rO _],.list (dO c),#[F,_,rfl,aV.of O,rO _],M,M,ae,?_];rw[show PyData.eqv (.list (dO c)) (.list (dO c))=true by simp[PyData.eqv,yM]];exact q _ (f.trans G)
def GJ:Addr->Sp:=λc e H Q E=>Hh H c/\w5 e H Q E
def GK(T:Txt K mg a):Em P w K mg base 1 a.dY a.jd ["_law_web_here", "_law_lot"] GJ:=by
 refine T.jZ.qdh wK (λc5 vs H Q E h=>?_) (λc5 af A M s H vs Q hr h=>?_)
 ·obtain⟨_,t,n,l,r,xs,c,tv,o,rfl,_⟩:=h;rfl
 ·obtain⟨ab,t,n,l,r,xs,c,tv,o,rfl,x,M8,q⟩:=h;have ca:∀{u},Same H u->Hh u c5:=λs=>by
   obtain⟨C,od,e⟩:=ab;exact#[C,od,s _ _ e]
  refine#[_,(aC (bh (za rfl rfl (show aR (aB jO) _ ["_law_web_here", "_law_lot"] ["_law_k", "_law_a", "_law_b"] [1] ["_law_k", "_law_a", "_law_b", "_law_lot"] from by rfl') rfl (qb7 (K:=K) rfl rfl T.Rf.enumerate (aj (bC (bD (K:=K) rfl) (aJ 0) aG (λ_ _=>rfl)) ao)) (λC s H fp pn=>(CP (K:=K) (n:=2) rfl rfl (fL.eqv (aY (aL (i:=0) (show(["_law_k", "_law_a", "_law_b", "_law_lot"]:QAH).Nodup by symm) rfl (Or.inl rfl)) (fL.eqv (aY (CP (K:=K) (n:=2) rfl rfl (fL.eqv (aY (aL (i:=1) (show(["_law_k", "_law_a", "_law_b", "_law_lot"]:QAH).Nodup by symm) rfl (Or.inl rfl)) (fL.eqv (aY (aL (i:=2) (show(["_law_k", "_law_a", "_law_b", "_law_lot"]:QAH).Nodup by symm) rfl (Or.inl rfl)) (fL.mono cH dJ)) (aZ _ _))) (aZ _ _))) (fL.mono cH dJ)) (aZ _ _))) (aZ _ _)))) (λC s H fp pn=>(gO (aQ jN (cI (oA (K:=K) rfl) (aJ 1) (aJ 3) rfl) (cI (oA (K:=K) rfl) (aJ 2) (aJ 3) rfl) (bJ _)))) (λC s H fp pn=>(aJ 0))))),?_];have ac:60<=sizeLine:=by decide
  have rJ:=x.2.2.2.2.2.len;have tl:=x.2.2.2.1.1;have hl:=x.2.2.1;left;refine#[_,.inr (cO.of x.1),_,aO (j:=1) rfl,#[_,aV.of hl],λD hD=>qlZ tv (λj z u=>(∃U O N,z=[U,O,N,some (.ref r)])/\u D=some (.lst ((cj c (o.take j)).map λk:Nat=>V.int k))/\Same H u) #[#[_,_,_,rfl],ak,au hD] (λj z u _ h=>#[aV.of (h.2.2 _ _ hl),ca h.2.2]) ?_ ?_]
  ·rintro j v B z p hj Y ⟨⟨U,O,N,rfl⟩,f,L⟩;obtain⟨e,he,G,rfl,Cu⟩:=x.2.2.2.1.at hj;have ae:j<o.length:=(qm2.mp he).1;have st:Same p (upd p B (.tup [.int j,.ref G])):=au Y;have y:upd p B (.tup [.int j,.ref G]) B=some (.tup [.int j,.ref G]):=ak;have m:=L.trans st;have J:=st _ _ f;generalize upd p B (.tup [.int j,.ref G])=H3 at st y m J⊢;have aa:(cj c (o.take j)).length<=(o.take j).length:=lO (kO c) _ _;rw[qni] at aa;have a0:cj c (o.take (j+1))=cj c (o.take j)++eU c e j:=rA (eU c) he;rw[a0,qn3];left;refine#[ca m,_,cO.of y,rfl,ca m,_,cO.of (m _ _ Cu),rfl,?_];refine#[_,.inl (aV.of (m _ _ M8)),rfl,qnk.mp (bM _),_,.inl (aV.of (m _ _ M8)),rfl,qnk.mp (bM _),?_];rw[bx,bx]
   by_cases I:(e.1∈c↔e.2∈c)
   ·refine#[false,by simp[I],cZ.neg rfl ?_];left;refine#[?_,m];rw[J,show eU c e j=[] from if_pos I];simp
   ·refine#[true,by simpa using I,cZ.pos rfl ?_];left;refine#[_,J,by simp;lia,?_,aX m hD];rw[ak,show eU c e j=[j] from if_neg I];simp
  ·rintro z p ⟨⟨U,O,N,rfl⟩,f,L⟩;rw[tl,qnn] at f;left;exact q D p hD f L
theorem Q_{S:List gJ}{xs:QAH}:∀(ys:QAH)(c:List (QAH)),∃r,ys.foldl (fO S xs) c=c++r
 |[],c=>#[[],by simp]
 |y::ys,c=>by
  obtain⟨r,e⟩:=Q_ (S:=S) (xs:=xs) ys (fO S xs c y);rw[qo2,e];unfold fO;split
  ·exact#[r,rfl]
  ·exact#[[mQ S xs y]++r,by simp]
def Yk{ps:QAD}{xs:QAH}{f:Str}(h:xs[0]? = some f):∃r,mJ ps xs=mQ (aD (λ_=>none) ps 0) xs f::r:=by
 cases xs with
 |nil=>simp at h
 |cons x c=>
  simp at h;subst h;unfold mJ Cr;rw[qo2];have e:fO (aD (λ_=>none) ps 0) (x::c) [] x=[mQ (aD (λ_=>none) ps 0) (x::c) x]:=by simp[fO]
  rw[e];obtain⟨r,i⟩:=Q_ (S:=aD (λ_=>none) ps 0) (xs:=x::c) c [mQ (aD (λ_=>none) ps 0) (x::c) x];exact#[r,i]
theorem JQ{S:List gJ}{xs c:QAH}:∀(ys:QAH),(∀y∈ys,y∈c)->ys.foldl (fO S xs) [c]=[c]
 |[],_=>rfl
 |y::ys,h=>by
  rw[qo2];have e:fO S xs [c] y=[c]:=by
   unfold fO;rw[if_pos (by simp;exact h y qng)]
  rw[e];exact JQ ys λz f=>h z (qm_ _ f)
def Uh{ps:QAD}{xs:QAH}{c:Str}(h:xs[0]? = some c):(mJ ps xs).length<=1↔¬(mQ (aD (λ_=>none) ps 0) xs c).length<xs.length:=by
 have l:=qm6 h;constructor
 ·intro r m;have con:=TV r;have:mQ (aD (λ_=>none) ps 0) xs c=xs:=by
   unfold mQ;refine List.filter_eq_self.mpr λy f=>?_;simp;exact con c l y f
  rw[this] at m;lia
 ·intro p;have i:∀y∈xs,y∈mQ (aD (λ_=>none) ps 0) xs c:=λy f=>by
   have n:(mQ (aD (λ_=>none) ps 0) xs c).length<=xs.length:=KH;have o:mQ (aD (λ_=>none) ps 0) xs c=xs:=by
    unfold mQ at p n⊢;exact List.filter_eq_self.mpr (List.length_filter_eq_length_iff.mp ⋯)
   rw[o];exact f
  cases xs with
  |nil=>simp at h
  |cons x j=>
   simp at h;subst h;unfold mJ Cr;rw[qo2];have e:fO (aD (λ_=>none) ps 0) (x::j) [] x=[mQ (aD (λ_=>none) ps 0) (x::j) x]:=by simp[fO]
   rw[e,JQ j λy f=>i y (qm_ _ f)];simp
def Yl{ps:QAD}{xs:QAH}(j:tW xs ps){e:Str×Str}{k:Nat}(n:ps[k]? = some e)(s:¬e.1∈jz ps xs k e.2):cj (jz ps xs k e.2) ps=[k]:=by
 have c:∀e∈ps,e.1∈xs/\e.2∈xs:=λe o=>#[(j.ok e o).1,(j.ok e o).2.1];have l:∀i,i<=ps.length->jK (eU (jz ps xs k e.2)) (ps.take i) 0=if k<i then [k] else []:=by
  intro i
  induction i with
  |zero=>intro _;simp[jK]
  |succ i ih=>
   intro u;obtain⟨d,p⟩:∃d,ps[i]? = some d:=#[ps[i],by simp[show i<ps.length by lia]];rw[rA _ p,ih ⋯];have r:=Oz n (c e (qm6 n)).2 c s p;unfold eU
   by_cases h:i=k
   ·subst h;rw[if_neg (λz=>(r.mp z) rfl),if_neg ⋯,if_pos ⋯];rfl
   ·rw[if_pos (r.mpr h),qnC]
    by_cases f:k<i
    ·rw[if_pos f,if_pos ⋯]
    ·rw[if_neg f,if_neg ⋯]
 have m:k<ps.length:=(qm2.mp n).1;have:=l ps.length (qm5 _);rw[qnn,if_pos m] at this;exact this
@[simp ↓] theorem qkB (K:YZ)(xs:QA0)(H:Hp)(Q:VK):qes K xs H Q=(ar2 xs λx y=>isRef x λa=>∃C c b,H a=some (Al a C c)/\Ld K C/\qbb K C y=some b/\Q (.bl b) H):=rfl
def JR(K:YZ)(u v:J9):Addr->Sp:=λe p H Q _=>∃(t n l i j C:J9)(c:QAH)(o:Str)(f:QAH)(s:QA0)(h:QAD)(fs:List (Str×V)),p=[.ref t,.ref e]/\eZ H t n l f s h/\f[0]? = some o/\H e=some (Al e C (some i))/\H i=some (gZ i fs)/\fs.lookup ("lot" : Str)=some (.ref j)/\H j=some (.lst (c.map V.str))/\
 ((C=u/\(∃r,mJ h f=c::r/\r≠[]))\/(C=v/\(mJ h f).length<=1/\∃(k:Nat)(rest:List (Nat×QAH)),fs.lookup ("tie" : Str)=some (.int k)/\jL h f=(k,c)::rest))/\
 ∀m,Same H m->Q (.bl true) m
def Ym(T:Txt K mg a):Em P w K mg base 2 a.mj a.vZ ["_law_web_here", "_law_e"] (JR K a.bG a.bH):=by
 refine T.Ga.qdh Jp (λe vs H Q E h=>?_) (λe cdv A outer s H vs Q hr h=>?_)
 ·obtain⟨t,n,l,dx,cc,C,c,x0,m,tv,ps,fs,rfl,_⟩:=h;rfl
 ·obtain⟨t,n,l,dx,cc,C,c,x0,m,tv,ps,fs,rfl,o,L,M,G,M5,N,hC,q⟩:=h;refine#[_,(aA (bF (i:=2) Jp.nd rfl (Or.inr rfl) (zc (Q7 T) hr.d rfl T.wu T.nU.kp T.wk (aj (aJ 0) (aj (cX qdp (cN (aj aG ao)) (aH (bN (K:=K) rfl) rfl T.nm.len qnd (aj (bC (bD (K:=K) rfl) (aJ 0) aG (λ_ _=>rfl)) ao))) (aj (bC (bD (K:=K) rfl) (bC (bD (K:=K) rfl) (aJ 0) aG (λ_ _=>rfl)) aG (λ_ _=>rfl)) ao)))))
   (aA (bY (bW (aH (qet (K:=K) rfl) rfl T.nm.isinstance boot_isinstance (aj (aJ 1) (aj (rK (v:=.ref a.bG) rfl T.Gb rfl) ao)))) (aC (bh (k_ (cI uM (aH (bN (K:=K) rfl) rfl T.nm.len qnd (aj (aJ 2) ao)) (aH (bN (K:=K) rfl) rfl T.nm.len qnd (aj (bC (bD (K:=K) rfl) (aJ 0) aG (λ_ _=>rfl)) ao)) (bJ _)) (qH (cI (K9 (K:=K) rfl hr.units) (o_ (K:=K) rfl (aJ 1) rfl) (za rfl rfl (show aR (aB zp) _ ["_law_web_here", "_law_e", "_law_cluster"] ["_law_name"] [2] ["_law_name", "_law_cluster"] from by rfl') rfl (zf (K:=K) rfl (bC (bD (K:=K) rfl) (aJ 0) aG (λ_ _=>rfl))) (λC s H fp pn=>(aL (i:=0) (show(["_law_name", "_law_cluster"]:QAH).Nodup by symm) rfl (Or.inl rfl))) (λC s H fp pn=>(gO (aQ (oA (K:=K) rfl) (aJ 0) (aJ 1) rfl))) (λC s H fp pn=>(aJ 0))) (bJ _)))))) bA)
   (aA (bY (PW.pt (mO (cM (bW (aH (qet (K:=K) rfl) rfl T.nm.isinstance boot_isinstance (aj (aJ 1) (aj (rK (v:=.ref a.bH) rfl T.Gd rfl) ao))))) (mO (aQ uM (aH (bN (K:=K) rfl) rfl T.nm.len qnd (aj (aJ 2) ao)) (aH (bN (K:=K) rfl) rfl T.nm.len qnd (aj (bC (bD (K:=K) rfl) (aJ 0) aG (λ_ _=>rfl)) ao)) (bJ _)) (jJ (cM (bW (zc (Ug T) hr.d rfl T.FZ T.u_.kp T.FW (aj (aJ 0) (aj (o_ (K:=K) rfl (aJ 1) rfl) ao))))))))) (aC (bh j7)) bA)
   (aC (bh (k_ (cI (K9 (K:=K) rfl hr.units) (zc (GK T) hr.d rfl T.tQ T.jZ.kp T.tO (aj (aJ 0) (aj (o_ (K:=K) rfl (aJ 1) rfl) ao))) (cN (aj (o_ (K:=K) rfl (aJ 1) rfl) ao)) (bJ _)) (qH (cI (oA (K:=K) rfl) (bC (bD (K:=K) rfl) (bC (bD (K:=K) rfl) (bC (bD (K:=K) rfl) (aJ 0) aG (λ_ _=>rfl)) (o_ (K:=K) rfl (aJ 1) rfl) (λ_ _=>rfl)) aG (λ_ _=>rfl)) (o_ (K:=K) rfl (aJ 1) rfl) rfl)))))))),?_]
  have bf:200<=sizeLine:=by decide
  have hX:=o.2.2.2.2.1;have ac:=o.2.2.2.2.2;have l9:=hX.len;have rJ:=ac.len;have tl:=o.2.2.2.1.1;have Xn:∀{H'},Same H H'->Hh H' e:=λs=>#[C,some dx,s _ _ M];have two:(List.replicate tv.length [V.int 2]).flatten=(List.replicate ps.length (2:Int)).map V.int:=by
   rw[tl]
   induction ps.length with
   |zero=>rfl
   |succ n ih=>rw[qoy,qoy,qpI,ih];rfl
  have be:Cm (m.map V.str) 0=some (.str x0):=aO (j:=0) (by rw[qnr,L];rfl);left;intro p1 az;exists H,p1,(.lst [.int 2]),s1,e1,H1,az;refine#[_,.inr (cO.of (s1 _ _ o.1)),_,aO (j:=1) rfl,?_];left;refine#[_,.inl (aV.of (s1 _ _ o.2.2.1)),_,e1,⋯,by simp;lia,λp2 ay=>?_];rw[two];have s2:Same H (upd H1 p2 (.lst ((List.replicate ps.length (2:Int)).map V.int))):=s1.trans (au ay);have e2:upd H1 p2 (.lst ((List.replicate ps.length (2:Int)).map V.int)) p2=some (.lst ((List.replicate ps.length (2:Int)).map V.int)):=ak;generalize upd H1 p2 (.lst ((List.replicate ps.length (2:Int)).map V.int))=H2 at s2 e2⊢;refine#[_,.inr (cO.of (s2 _ _ o.1)),_,aO (j:=0) rfl,?_];left;refine#[_,.inl (aV.of (s2 _ _ o.2.1)),_,be,Xn s2,t,n,l,p2,m,tv,ps,List.replicate ps.length (2:Int),x0,rfl,o.same s2,e2,by simp,λz hz=>(List.mem_replicate.mp hz).2,qm6 L,λr f H3 bi er al b8 s3=>?_];have p:=s2.trans s3;obtain⟨rr,D⟩:=Yk (ps:=ps) L;have a0:=Uh (ps:=ps) L;have ag:=(qnY.mp T.nd).1;have av:=(qnY.mp T.nd).2;have an:a.bG≠a.bH:=λz=>absurd (yD av (i:=2) (j:=3) (x:=a.bG) rfl (by rw[z];rfl)) (by decide);have u:XC K C a.aM:=by
   rcases hC with⟨rfl,_⟩|⟨rfl,_⟩
   ·exact T.fu
   ·exact T.fB
  have af:Ld K C:=u.ask T.Jv T.Jw;have k1:qbb K C (.ref a.bG)=some (decide (C=a.bG)):=u.kit T.fu λz=>ag (z▸qm6 (i:=2) rfl);have k2:qbb K C (.ref a.bH)=some (decide (C=a.bH)):=u.kit T.fB λz=>ag (z▸qm6 (i:=3) rfl);left;refine#[C,#[_,p _ _ M],af,_,k1,cZ.of (λhb=>?_) (λhb=>?_)]
  ·have O:C=a.bG:=qnb hb;obtain⟨rest,am,b6⟩:∃r,mJ ps m=c::r/\r≠[]:=by
    rcases hC with⟨_,z⟩|⟨z,_⟩
    ·exact z
    ·exact absurd (O.symm.trans z) an
   rw[am] at D;injection D with bc bm;have b7:(mQ (aD (λ_=>none) ps 0) m x0).length<m.length:=by
    apply qnh;intro hn;have:=a0.mpr hn;rw[am] at this;cases rest with
    |nil=>exact b6 rfl
    |cons a b=>simp at this
   have ab:m.filter (λy=>decide (y∈f))=c:=by
    rw[bc];unfold mQ;refine List.filter_congr λy hy=>?_;rw[decide_eq_decide];exact b8 y
   have b9:∀x∈c,x∈m:=λx hx=>by rw[<- ab] at hx;exact(qnv.mp hx).1
   have bn:c.length<=9:=by rw[<- ab];have:=qn2 (λy=>decide (y∈f)) m;lia
   have Yn:PyData.canLay0 (.list (dO c))=true:=by
    have:=yK c λx hx=>KD (hX.nm x (b9 x hx));simp[PyData.canLay0,this]
   left;refine#[_,.inl (aV.of er),_,.inr (cO.of (p _ _ o.1)),_,aO (j:=0) rfl,?_];left;refine#[_,.inl (aV.of (p _ _ o.2.1)),cZ.pos (qnE (by rw[qm7,al];exact b7)) ?_];left;refine#[C,u.get,by rw[O];exact T.eF,_,p _ _ M,_,p _ _ G,_,M5,?_];refine#[_,.inr (cO.of (p _ _ o.1)),_,aO (j:=0) rfl,?_];left;refine#[#[_,aV.of (p _ _ o.2.1)],λF hF=>qf_ (m.map V.str) (λj σ H'=>(∃o',σ=[o',some (.ref r)])/\H' F=some (.lst (((m.take j).filter λy=>decide (y∈f)).map V.str))/\Same H3 H') #[#[_,rfl],ak,au hF] (λj σ H' _ h=>#[aV.of (h.2.2 _ _ (p _ _ o.2.1)),Xn (p.trans h.2.2)]) ?_ ?_]
   ·rintro j z σ H4 hj ⟨⟨o',rfl⟩,J,Y⟩;obtain⟨y,hy,rfl⟩:=kE hj;have bl:j<m.length:=(qm2.mp hy).1;have ap:((m.take j).filter λy=>decide (y∈f)).length<=(m.take j).length:=qn2 _ _;rw[qni] at ap;rw[take_one hy,qn5,qn3];left;refine#[_,.inl (aV.of (Y _ _ er)),rfl,qnk.mp (bM _),?_];rw[bx];refine cZ.of (λh=>?_) (λh=>?_)
    ·have h':y∈f:=qnb h;left;refine#[_,J,by simp;omega,by rw[ak];simp[h'],aX Y hF]
    ·have h':¬y∈f:=qnL h;left;refine#[by rw[J];simp[h'],Y]
   ·rintro σ H4 ⟨⟨o',rfl⟩,J,Y⟩;rw[qm7,qnn,ab] at J;have ba:(PyData.list (dO c)).depth<=64:=by
     have:=yL c;simp[PyData.depth];lia
    left;refine#[.list (dO c),#[cc,_,rfl,aV.of ((p.trans Y) _ _ N),rO _],.list (dO c),#[F,_,rfl,aV.of J,rO _],Yn,Yn,ba,?_];rw[show PyData.eqv (.list (dO c)) (.list (dO c))=true by simp[PyData.eqv,yM]];exact q _ (p.trans Y)
  ·have O:¬C=a.bG:=qnL hb;obtain⟨I,ah,k,rest,aa,Gm⟩:C=a.bH/\(mJ ps m).length<=1/\∃(k:Nat)(rest:List (Nat×QAH)),fs.lookup ("tie" : Str)=some (.int k)/\jL ps m=(k,c)::rest:=by
    rcases hC with⟨z,_⟩|z
    ·exact absurd z O
    ·exact z
   obtain⟨d,hd,ai,Wi⟩:∃d,ps[k]? = some d/\¬d.1∈c/\c=jz ps m k d.2:=by
    have hm:(k,c)∈jL ps m:=by rw[Gm];exact qng
    unfold jL at hm;obtain⟨j,d,h1,h2⟩:=uG.mp hm;rw[qnZ] at h2;unfold rB at h2;split at h2
    ·cases h2
    ·rename_i hn;rw[qn4] at h2;cases h2;exact#[d,h1,hn,rfl]
   obtain⟨d1,d2,_⟩:=ac.ok d (qm6 hd);have bj:=(qm2.mp hd).1;have B:c.Sublist m:=by rw[Wi];unfold jz mQ;exact qo_
   have ae:d.2∈c:=by rw[Wi];exact rC.mpr #[d2,.refl _]
   have ar:cj c ps=[k]:=by rw[Wi];exact Yl ac hd (by rw[<- Wi];exact ai)
   have bd:0<c.length:=qpB ae;have bb:c.length<m.length:=by
    have:=B.length_le
    by_cases e9:c.length=m.length
    ·exact absurd (by rw[B.eq_of_length e9];exact d1) ai
    ·lia
   have b0:¬(mQ (aD (λ_=>none) ps 0) m x0).length<m.length:=a0.mp ah;left;refine#[C,#[_,p _ _ M],af,_,k2,?_];rw[qnE I];refine cZ.neg rfl ?_;left;refine#[_,.inl (aV.of er),_,.inr (cO.of (p _ _ o.1)),_,aO (j:=0) rfl,?_];left;refine#[_,.inl (aV.of (p _ _ o.2.1)),cZ.neg (qnM (by rw[qm7,al];exact b0)) ?_];left;refine#[C,u.get,by rw[I];exact T.cP,_,p _ _ M,_,p _ _ G,_,M5,?_];refine#[Xn p,t,n,l,cc,m,c,tv,ps,rfl,o.same p,p _ _ N,bd,bb,λx hx=>B.mem hx,GF hX.nd B,λH4 Y=>?_];refine cZ.neg (d:=#[0]) rfl ?_;have S4:=p.trans Y;left;refine#[C,u.get,by rw[I];exact T.cP,_,S4 _ _ M,_,S4 _ _ G,_,M5,?_];refine#[Xn S4,t,n,l,cc,m,c,tv,ps,rfl,o.same S4,S4 _ _ N,λr5 H5 bg Rh s5=>?_];rw[ar] at Rh;have S5:=S4.trans s5;left;refine#[C,u.get,by rw[I];exact T.eG,_,S5 _ _ M,_,S5 _ _ G,_,aa,?_];intro p6 Rj;exists H5,p6,(.lst [.int k]),s6,e6,H6,Rj;have U:=S5.trans s6;refine#[.list (iW [(k:Int)]),#[r5,_,rfl,aV.of (s6 _ _ Rh),yS [(k:Int)]],.list (iW [(k:Int)]),#[p6,_,rfl,aV.of e6,yS [(k:Int)]],by simp[PyData.canLay0,lay_ints],by simp[PyData.canLay0,lay_ints],by have:=Eb [(k:Int)];simp[PyData.depth];lia,?_];rw[show PyData.eqv (.list (iW [(k:Int)])) (.list (iW [(k:Int)]))=true by simp[PyData.eqv,Ec]];refine cZ.pos rfl ?_;obtain⟨t8,aw,ax⟩:=qgH o hd;left;refine#[_,.inr (cO.of (U _ _ o.1)),_,aO (j:=1) rfl,?_];left;refine#[C,u.get,by rw[I];exact T.eG,_,U _ _ M,_,U _ _ G,_,aa,?_];left;refine#[_,.inl (aV.of (U _ _ o.2.2.1)),_,aO aw,?_];left;refine#[_,.inr (cO.of (U _ _ ax)),_,aO (j:=1) rfl,C,u.get,by rw[I];exact T.cP,_,U _ _ M,_,U _ _ G,_,M5,?_];left;refine#[_,.inl (aV.of (U _ _ N)),rfl,qnk.mp (bM _),?_];rw[bx,qnE ae];exact q _ U
def BP(p c:J9)(H e:Hp):Prop:=∀b u,b≠p->b≠c->H b=some u->e b=some u
def BP.trans{p f:J9}{H i h:Hp}(a:BP p f H i)(b:BP p f i h):BP p f H h:=λc u n m e=>b c u n m (a c u n m e)
def BP.same{p f:J9}{H c:Hp}(s:Same H c):BP p f H c:=λb u _ _ e=>s b u e
def BP.but{p f:J9}{H c:Hp}(s:But p H c):BP p f H c:=λb u n _ e=>s b u n e
def BP.ql1{p c:J9}{H f:Hp}(s:But c H f):BP p c H f:=λb u _ m e=>s b u m e
theorem BP.upd{p c r:J9}{H f:Hp}{u:HO}(s:BP p c H f)(h:H r=none):BP p c H (upd f r u):=λb w n m e=>by
 rw[aF (aU e h)];exact s b w n m e
def vC(H e:Hp):Prop:=∀b o,(∀c,o≠.zU c)->H b=some o->e b=some o
def vC.of{H c:Hp}(s:Same H c):vC H c:=λb o _ e=>s b o e
def qdZ{pos:Pos}{f:Str}{i:J9}{H j:Hp}(t:TabOk pos f i H)(b:But i H j):vC H j:=λc o n e=>b c o (λz=>by
 obtain⟨l,h⟩:=t.tb;rw[z,h] at e;cases e;exact n _ rfl) e
def vC.tups{H f:Hp}{c:QA0}{ps:QAD}(k:vC H f)(h:bI H c ps):bI f c ps:=#[h.1,λi v e l j=>by
 obtain⟨t,rfl,z⟩:=h.2 i v e l j;exact#[t,rfl,k _ _ (by simp) z]]
def vC.goals{H e:Hp}{t n l:J9}{xs:QAH}{c:QA0}{ps:QAD}(k:vC H e)(h:eZ H t n l xs c ps):eZ e t n l xs c ps:=
 #[k _ _ (by simp) h.1,k _ _ (by simp) h.2.1,k _ _ (by simp) h.2.2.1,k.tups h.2.2.2.1,h.2.2.2.2]
theorem gQ.lst{H:Hp}{p:J9}(h:gQ H p):∃xs,H p=some (.lst xs):=by
 obtain⟨x,y,u,_⟩:=h;exact#[_,u]
def Nb{pos:Pos}{c:Str}{f p:J9}{H h:Hp}(t:TabOk pos c f H)(x:gQ H p)(b:But p H h):TabOk pos c f h:=by
 obtain⟨i,e⟩:=x.lst;exact t.but e b
def qeL(i:Hp)(h f:J9)(e:QA0)(j:Hp):Prop:=∀v∈e,∃(t:J9)(c:QA0),v = .ref t/\j t=some (.lst c)/\t≠h/\t≠f/\i t=none
def qb8(C h:J9):Sp:=λj H Q _=>∃(p o t n l g:J9)(i:QAH)(m:QA0)(c:QAD)(f:qx),j=[.ref p,.ref o,.ref t,.ref g]/\gQ H p/\g≠p/\fP C H o i c/\eZ H t n l i m c/\n≠p/\l≠p/\H g=some (.lst (f.map V.int))/\f.length=c.length/\(∀n∈f,0<=n/\n<=1)/\c.length<=12/\TabOk Cy Cz h H/\
 ∀(e:Hp),gQ e p->BP p h H e->TabOk Cy Cz h e->Q (.bl true) e
def qb9(T:Txt K mg a){c Pt:J9}(L:VB a.fJ base mg c Pt):bT P w K mg base gR 16 a.qu a.zF ["_law_pot_here", "_law_made", "_law_web_here", "_law_row"] (qb8 a.b_ Pt):=by
 exists T.Mi.oE,uU
 ·obtain⟨p,o,t,n,l,g,xs,tv,ps,ns,rfl,_⟩:=h;rfl
 ·obtain⟨p,o,t,n,l,g,xs,tv,ps,ns,rfl,hP,gp,hW,hG,np,lp,hg,a0,am,c9,hT,q⟩:=h;refine#[_,(aA (qf5 (i:=7) rfl rfl rfl uU.nd rfl rfl (λR pn xe hx=>(aC (bF (i:=4) uU.nd rfl (Or.inl rfl) (qa5 hx rfl (Yb (L:=L) (K:=K) T) hr.d rfl T.Qk T.FQ.kp T.Qj (aj (aJ 1) (aj (PE.eqv (aN (Yg T) hr.d rfl T.Qm T.FT.kp T.Ql .nil bB (aj (aJ 0) (aj (aJ 3) ao))) (aK _ _ _)) ao)))))) rfl T.nA T.fK (λe=>(aA (bF (i:=5) uU.nd rfl (Or.inl rfl) (zc (Ym T) hr.d rfl T.Qo T.Ga.kp T.Qn (aj (aJ 2) (aj (aJ 7) ao))))
   (aA (bY (bW (aJ 5)) (aC (cQ (CK (K:=K) rfl qnu qpv qpw vN (o_ (K:=K) rfl (aJ 7) rfl)))) bA)
   (aC (bh (aJ 5)))))))
   (aA (bY (cM (bW (PE.eqv (aN (qb6 T) hr.d rfl T.V1 T.Mh.kp T.V0 .nil bB (aj (aJ 2) (aj (aJ 3) (aj (aJ 4) ao)))) (aK _ _ _)))) (aC (bh j7)) bA)
   (aA (cQ (CK (K:=K) rfl qnu qpv qpw vN (bC (bD (K:=K) rfl) (aJ 4) aG (λ_ _=>rfl))))
   (aA (gU qnS rfl (PI.eqv (bO (K:=K) rfl (bC (bD (K:=K) rfl) (aJ 4) aG (λ_ _=>rfl))) (bK _ _)) (aL (i:=6) uU.nd rfl (Or.inl rfl))
   (aC (cQ (CK (K:=K) rfl qnu qpv qpw vN (aJ 6)))))
   (aA (cQ (CK (K:=K) rfl qnu qpv qpw vN (bC (bD (K:=K) rfl) (aJ 4) aG (λ_ _=>rfl))))
   (aC (bh j7))))))),?_]
  have ci:200<=sizeLine:=by decide
  have hX:=hG.2.2.2.2.1;have ai:=hG.2.2.2.2.2;have rJ:=ai.len;left;generalize c5:Zc (qcp (qeT (uL (qaR Q5 E0 _))) _ _) _=Nx;refine#[p,g,_,rfl,hP,hg,gp,by rw[qm7];lia,λr2 H2 ch aw B G=>?_];have c3:=hW.but hP G;have az:=hG.but hP G np lp;have bw:=G _ _ gp hg;have al:=Nb hT hP G;obtain⟨d,hd,bm,bt⟩:=qbQ aw;have bq:JB ps.length d=true:=by rw[<- a0];exact QH bm bt am
  obtain⟨x0,bg⟩:∃x0,xs[0]? = some x0:=#[_,qnx (by have:=hX.len.1;lia)];have av:∀{D:J9},D∈qdA a->D≠a.aM:=λh z=>(qnY.mp T.nd).1 (z▸h);have B2:BP p Pt H H2:=BP.but G;have go:∀(C dx N:J9)(c:QAH)(fs:List (Str×V)),(C=a.bG\/C=a.bH)->fs.lookup ("lot" : Str)=some (.ref N)->((C=a.bG/\(∃r,mJ ps xs=c::r/\r≠[]))\/(C=a.bH/\(mJ ps xs).length<=1/\∃(k:Nat)(rest:List (Nat×QAH)),fs.lookup ("tie" : Str)=some (.int k)/\jL ps xs=(k,c)::rest))->
    ∀H3,Same H2 H3->H2 N=none->H3 dx=some (gZ dx fs)->H3 N=some (.lst (c.map V.str))->
    qa6 7 K a.aM (λe=>Zc (Zh (Sv (JR K a.bG a.bH e) (HS (fVar 2) (HS (fVar 7) Wy))) (Dr 5)) (Zc (qcp (uL (fVar 5)) (Zd (qcD K "list" K5 (Ud K (fVar 7) (Str.ofString "lot")))) Zb) (qeW (fVar 5)))) {nx:=Nx {nx:=λx H'=>Q V.non H',rt:=Q},rt:=Q} (jk [Str.ofString "_law_pot_here",Str.ofString "_law_made",Str.ofString "_law_web_here",Str.ofString "_law_row",Str.ofString "_law_told",Str.ofString "_law_good",Str.ofString "_law_lot",Str.ofString "_law_e"] [V.ref p,V.ref o,V.ref t,V.ref g]) C (some dx) H3:=λC dx N c fs hC M5 bj H3 S3 Yn ax ae=>by
   have br:(Ek K C/\W.mroIn K C (.ref a.aM)=some true/\C≠a.aM):=by
    rcases hC with rfl|rfl
    ·exact#[Ek.ofX T.wz T.fu,by rw[T.fu.mro];simp,av (by simp[qdA])]
    ·exact#[Ek.ofX T.wA T.fB,by rw[T.fB.mro];simp,av (by simp[qdA])]
   refine#[br,λex bz=>?_];exists H3,ex,(Al ex C (some dx)),se,ee,H4,bz;have S4:=S3.trans se;left;refine#[t,n,l,dx,N,C,c,x0,xs,tv,ps,fs,rfl,az.same S4,bg,ee,se _ _ ax,M5,se _ _ ae,bj,λH5 J=>?_];left;have S5:=S4.trans J;have aa:=se.trans J;have b7:N≠p:=B.nl Yn;have cf:H N=none:=by
    cases z:H N with
    |none=>rfl
    |some u=>rw[G N u b7 z] at Yn;cases Yn
   have ca:Q (.bl true) (upd H5 N (.lst [])):=q _ ((B.keep S5).upd b7.symm) ((B2.trans (BP.same S5)).upd cf) (by
    have:=al.same S5;exact this.but (aa _ _ ae) λb u nb e=>by rw[aF nb];exact e)
   refine#[C,?_,?_,_,J _ _ ee,_,aa _ _ ax,_,M5,.inl #[rfl,_,aV.of (aa _ _ ae)],#[_,aa _ _ ae],ca]
   ·rcases hC with rfl|rfl
    ·exact T.fu.get
    ·exact T.fB.get
   ·rcases hC with rfl|rfl
    ·exact T.eF
    ·exact T.cP
  left;refine#[o,.ref r2,d,xs,ps,rfl,c3,hX,ai,hd,rJ,al,λh=>?_,λ_ h=>?_,λ_ _ c r c1 bo dx N H3 e1 e2 e3 s3=>#[_,rfl,go _ dx N c _ (.inl rfl) rfl (.inl #[rfl,r,c1,bo]) H3 s3 e1 e2 e3],λ_ _ Y k ba rest c2 dx N H3 e1 e2 e3 s3=>#[_,rfl,go _ dx N ba _ (.inr rfl) rfl (.inr #[rfl,Y,k,rest,rfl,c2]) H3 s3 e1 e2 e3],λ_ _ Y Gm r3 U e3 bu=>?_]
  ·rw[bq] at h;cases h
  ·omega
  ·cases e3;have cb:U=ns:=by
    have inj:∀{a b:qx},a.map V.int=b.map V.int->a=b:=λ{a b} h=>List.map_inj_right (f:=V.int) (λx y z=>by cases z;rfl) |>.mp h
    have I:=bu.2.1
    rcases aw with z|z <;> rcases I with y|y <;> rw[z] at y <;> have y:=qnB y
    ·injection y with y;exact(inj y).symm
    ·cases y
    ·cases y
    ·injection y with y;exact(inj y).symm
   subst cb;have dH:MK xs ps U:=#[hX,ai,a0,am,Y,Gm,c9];refine#[dH.hits,λzs m ks ag r4 M lw H4 hz I h2 ab bn Jy ar O ay wW c4=>?_];obtain⟨bc,bd,_,_,bi,cs,c0,cd,b6,ce⟩:=dH.told hz I h2;rw[c0] at ay;obtain⟨l2,ws,rfl,ap,ac,hN⟩:=ay;have ah:=qdZ al wW;have et:tX U ag=tX U ks:=by
    unfold tX;refine qoO λk _=>?_;have hm:=ab.mem_iff (a:=k)
    by_cases hk:k∈ks
    ·rw[if_pos hk,if_pos (hm.mpr hk)]
    ·rw[if_neg hk,if_neg λz=>hk (hm.mp z)]
   have c6:rQ H4 ws cs:=#[hN.1,λi v c I h2=>by
    obtain⟨t,e,_,h⟩:=hN.2 i v c I h2;exact#[t,e,h]]
   have af:∀{b:J9},H2 b=none->H b=none:=λ{b} e=>by
    have bp:b≠p:=B.nl e;cases z:H b with
    |none=>rfl
    |some u=>rw[G b u bp z] at e;cases e
   have el:∀v∈ws,∃(t:J9)(c:QAH),v = .ref t/\H4 t=some (.lst (c.map V.str))/\0<c.length/\H2 t=none:=λv hv=>by
    obtain⟨i,hi⟩:=List.getElem?_of_mem hv;obtain⟨c,hc,t,e,h0,h⟩:=bL.at hN hi;exact#[t,c,e,h,(b6 c (qm6 hc)).2.1,h0]
   have c8:=ah.goals az;have bv:=ah _ _ (by simp) bw;have wD:gQ H4 p:=by
    obtain⟨x,y,e,z⟩:=B;exact#[x,y,ah _ _ (by simp) e,z]
   have B4:BP p Pt H H4:=B2.trans (BP.ql1 wW);left;subst c5;left;refine#[t,n,l,g,M,r4,r4,l2,xs,tv,ws,ps,U,ag,cs,rfl,c8,bv,a0,am,Jy,O,ab.nodup_iff.mpr bc,bn,λk hk=>bd k (ab.mem_iff.mp hk),by rw[et];exact bi,ac,c6,cd.trans ab.length_eq.symm,b6,ce,λH5 J=>?_];refine cZ.neg (d:=#[0]) rfl ?_;left;refine#[_,.inr (cO.of (J _ _ Jy)),_,aO (j:=0) rfl,.inl #[rfl,_,aV.of (J _ _ O)],?_];left;refine#[#[_,J _ _ O],?_];have bf:=af ar;have be:M≠p:=B.nl ar;have b9:r4≠M:=λz=>by rw[z,O] at Jy;cases Jy
   have P6:gQ (upd H5 M (.lst [])) p:=(wD.keep J).upd be.symm;have B6:BP p Pt H (upd H5 M (.lst [])):=(B4.trans (BP.same J)).upd bf;have T6:TabOk Cy Cz Pt (upd H5 M (.lst [])):=(c4.same J).but (J _ _ O) λb u nb e=>by rw[aF nb];exact e
   have R6:upd H5 M (.lst []) r4=some (.tup [.ref M,.ref l2]):=by rw[aF b9];exact J _ _ Jy
   have L6:upd H5 M (.lst []) l2=some (.lst ws):=by
    by_cases e:l2=M
    ·subst e;rw[ac] at O;have O:=qnB O;injection O with O;have w0:ws=[]:=by
      cases ws with
      |nil=>rfl
      |cons v r=>
       obtain⟨t,c,rfl,_⟩:=el v qng;cases ag with
       |nil=>cases O
       |cons x y=>cases O
     rw[ak,w0]
    ·rw[aF e];exact J _ _ ac
   have E6:qeL H2 l2 r4 ws (upd H5 M (.lst [])):=λv hv=>by
    obtain⟨t,c,rfl,I,h2,h3⟩:=el v hv;have an:t≠l2:=λz=>by
     rw[z,ac] at I;have I:=qnB I;injection I with I;rw[I] at hv;obtain⟨_,_,z⟩:=qnA.mp hv;cases z
    have tr:t≠r4:=λz=>by rw[z,Jy] at I;cases I
    by_cases e:t=M
    ·exact#[t,[],rfl,by rw[e,ak],an,tr,h3]
    ·exact#[t,_,rfl,by rw[aF e];exact J _ _ I,an,tr,h3]
   generalize upd H5 M (.lst [])=H6 at P6 B6 T6 R6 L6 E6⊢;refine#[_,.inr (cO.of R6),_,aO (j:=1) rfl,?_];left;refine#[#[_,aV.of L6],frL ws (λi σ H'=>(∃o6,σ=[some (.ref p),some (.ref o),some (.ref t),some (.ref g),some (.ref r4),none,o6,none])/\H' l2=some (.lst ws)/\H' r4=some (.tup [.ref M,.ref l2])/\qeL H2 l2 r4 ws H'/\gQ H' p/\BP p Pt H H'/\TabOk Cy Cz Pt H') #[#[_,rfl],L6,R6,E6,P6,B6,T6] (λi σ H' _ h=>aV.of h.2.1) ?_ ?_]
   ·rintro i v σ H7 hi ⟨⟨o6,rfl⟩,L7,R7,E7,P7,B7,T7⟩;obtain⟨t7,ys,rfl,h7,n1,n2,b0⟩:=E7 v (qm6 hi);have b8:t7≠p:=B.nl b0;left;refine#[#[_,aV.of h7],#[_,h7],by rw[aF (qoE n1)];exact L7,by rw[aF (qoE n2)];exact R7,λv hv=>?_,P7.upd b8.symm,B7.upd (af b0),T7.but h7 λb u nb e=>by rw[aF nb];exact e];obtain⟨t8,cg,rfl,e8,m1,m2,m3⟩:=E7 v hv
    by_cases e:t8=t7
    ·exact#[t8,[],rfl,by rw[e,ak],m1,m2,m3]
    ·exact#[t8,_,rfl,by rw[aF e];exact e8,m1,m2,m3]
   ·rintro σ H7 ⟨⟨o6,rfl⟩,L7,R7,E7,P7,B7,T7⟩;have bb:l2≠p:=B.nl ap;left;refine#[_,.inr (cO.of R7),_,aO (j:=1) rfl,.inl #[rfl,_,aV.of L7],?_];left;exact#[#[_,L7],q _ (P7.upd bb.symm) (B7.upd (af ap)) (T7.but L7 λb u nb e=>by rw[aF nb];exact e)]
def vC.seq{K:YZ}{H c:Hp}{a:J9}{xs:QA0}(k:vC H c)(h:aV K H a xs):aV K c a xs:=by
 rcases h with(h|⟨o,h⟩)|h
 ·exact .inl (.inl (k _ _ (by simp) h))
 ·exact .inl (.inr #[o,k _ _ (by simp) h])
 ·exact .inr h
theorem BP.at{pos:Pos}{c:Str}{p j:J9}{H l:Hp}(s:BP p j H l)(n:gQ H p)(m:TabOk pos c j H){b:J9}{u:HO}(h:H b=some u)(i:(∀f,u≠.zU f)/\∀xs,u≠.lst xs):l b=some u:=s b u (λz=>by
 obtain⟨xs,e⟩:=n.lst;rw[z,e] at h;cases h;exact i.2 _ rfl) (λz=>by
 obtain⟨f,e⟩:=m.tb;rw[z,e] at h;cases h;exact i.1 _ rfl) h
theorem BP.lst{pos:Pos}{c:Str}{p f:J9}{H i:Hp}(s:BP p f H i)(j:TabOk pos c f H){b:J9}{xs:QA0}(h:H b=some (.lst xs))(l:b≠p):i b=some (.lst xs):=s b _ l (λz=>by
 obtain⟨m,e⟩:=j.tb;rw[z,e] at h;cases h) h
def BP.tups{pos:Pos}{c:Str}{p j:J9}{H l:Hp}(s:BP p j H l)(n:gQ H p)(m:TabOk pos c j H){f:QA0}{ps:QAD}(h:bI H f ps):bI l f ps:=#[h.1,λi v e r o=>by
 obtain⟨t,rfl,z⟩:=h.2 i v e r o;exact#[t,rfl,s.at n m z #[by simp,by simp]]]
def BP.goals{pos:Pos}{c:Str}{p j:J9}{H m:Hp}(s:BP p j H m)(i:gQ H p)(e:TabOk pos c j H){t n l:J9}{xs:QAH}{f:QA0}{ps:QAD}(h:eZ H t n l xs f ps)(o:n≠p)(r:l≠p):eZ m t n l xs f ps:=
 #[s.at i e h.1 #[by simp,by simp],s.lst e h.2.1 o,s.lst e h.2.2.1 r,s.tups i e h.2.2.2.1,h.2.2.2.2]
def BP.web{pos:Pos}{c:Str}{p i:J9}{H j:Hp}(s:BP p i H j)(f:gQ H p)(e:TabOk pos c i H){C o:J9}{xs:QAH}{ps:QAD}(h:fP C H o xs ps):fP C j o xs ps:=by
 obtain⟨z,n,m,l,y,x,v,u,r⟩:=h.ex;exact#[#[z,n,m,l,s.at f e y #[by simp,by simp],s.at f e x #[by simp,by simp],s.at f e v #[by simp,by simp],s.tups f e u,r]]
def Nf(K:YZ)(f:J9):Sp:=λe H Q _=>∃(l:J9)(c:qx),e=[.ref l]/\aV K H l (c.map V.int)/\c.length<=63/\TabOk Cy Cz f H/\∀h,Q (.bl true) h
def qgK(T:Txt K mg a){c Pt:J9}(L:VB a.fJ base mg c Pt):bT P w K mg base gR 17 a.Bx a.Ma ["_law_script"] (Nf K Pt):=by
 exists T.qeF.oE,xU
 ·obtain⟨l,ns,rfl,_⟩:=h;rfl
 ·obtain⟨sl,B,rfl,hS,bw,hT,q⟩:=h;refine#[_,(aA (gU qnS rfl (PI.eqv (nC rfl T.nm.range (aj (aH (Eh rfl) rfl T.nm.max boot_max (aj aG (aj (aH (R9 rfl) rfl T.nm.min boot_min (aj aG (aj (aH (bN (K:=K) rfl) rfl T.nm.len qnd (aj (aJ 0) ao)) ao))) ao))) ao)) (nH _)) (aL (i:=1) xU.nd rfl (Or.inl rfl))
   (aA (bF (i:=2) xU.nd rfl (Or.inl rfl) (PE.eqv (aN (qgh T) hr.d rfl T.qeA T.qbD.kp T.qez .nil bB (aj (aJ 0) (aj (aJ 1) ao))) (aK _ _ _)))
   (aA (bF (i:=3) xU.nd rfl (Or.inl rfl) (PE.eqv (aN (qgm T) hr.d rfl T.qeE T.qbF.kp T.qeD .nil bB (aj (aJ 2) (aj (bC (bD (K:=K) rfl) (cN (aj aG (aj aG (aj aG ao)))) (PE.eqv (aN (fX T) hr.d rfl T.iC T.gM.kp T.iB .nil bB (aj (aJ 2) (aj aG ao))) (aK _ _ _)) (λ_ _=>rfl)) (aj (bC (bD (K:=K) rfl) (cN (aj aG (aj aG (aj aG (aj aG ao))))) (PE.eqv (aN (fX T) hr.d rfl T.iC T.gM.kp T.iB .nil bB (aj (aJ 2) (aj aG ao))) (aK _ _ _)) (λ_ _=>rfl)) ao)))) (aK _ _ _)))
   (aA (bF (i:=4) xU.nd rfl (Or.inl rfl) (PE.eqv (aN (qb4 T) hr.d rfl T.VR T.Mg.kp T.VP .nil bB (aj (aJ 2) (aj (aJ 3) ao))) (aK _ _ _)))
   (aA (bF (i:=5) xU.nd rfl (Or.inl rfl) (PE.eqv (qcx T.qeH (Qt T) hr.d rfl T.qeG T.Ft .nil bB (aj (bC (bD (K:=K) rfl) (aJ 3) aG (λ_ _=>rfl)) (aj (bC (bD (K:=K) rfl) (aJ 3) aG (λ_ _=>rfl)) ao))) (qaS _ _ _ _)))
   (aC (gU qnS rfl (PI.eqv (nC rfl T.nm.range (aj aG ao)) (nH _)) (aL (i:=6) xU.nd rfl (Or.inl rfl))
   (aC (bY (cM (bW (PE.eqv (aN (qb9 (L:=L) (K:=K) T) hr.d rfl T.V3 T.Mi.kp T.V2 .nil bB (aj (aJ 2) (aj (aJ 5) (aj (aJ 3) (aj (aJ 4) ao))))) (aK _ _ _)))) (aC (bh j7)) bA)))))))))
   (aC (bh j7))),?_]
  have bz:=qoL xH;left;refine#[_,.inl hS,?_];simp only[qm7];obtain⟨m,hm,c1⟩:∃m:Nat,(if 1<if (B.length:Int)<5 then (B.length:Int) else 5 then if (B.length:Int)<5 then (B.length:Int) else 5 else 1)=m/\m<=5:=by
   by_cases h1:(B.length:Int)<5
   ·rw[if_pos h1]
    by_cases h2:1<(B.length:Int)
    ·exact#[B.length,by rw[if_pos h2],⋯]
    ·exact#[1,by rw[if_neg h2];rfl,by decide]
   ·rw[if_neg h1];exact#[5,rfl,by decide]
  simp only[hm];refine#[⋯,⋯,frR (λi C U=>(∃o1 o2 o3 o4 o5 G,C=[some (.ref sl),o1,o2,o3,o4,o5,G])/\vC H U/\TabOk Cy Cz Pt U) #[#[_,_,_,_,_,_,rfl],vC.of (Same.refl _),hT] ?_ ?_]
  ·rintro i C O hi ⟨⟨o1,o2,o3,o4,o5,G,rfl⟩,k1,I⟩;left;refine#[sl,B,i,rfl,k1.seq hS,by simp at hi;lia,λp H2 ac ai am=>?_];have s2:Same O H2:=λb o e=>am b o (aU e ac) e;have bg:=I.same s2;left;intro a1 ah;have s3:Same H2 (upd H2 a1 (.lst [.int 6,.int 6,.int 9])):=au ah;have f3:upd H2 a1 (.lst [.int 6,.int 6,.int 9]) a1=some (.lst [.int 6,.int 6,.int 9]):=ak;have bq:a1≠p:=(ai.ne ah).symm;generalize upd H2 a1 (.lst [.int 6,.int 6,.int 9])=H3 at s3 f3⊢;have pC:=ai.keep s3;refine#[p,3,rfl,pC,by decide,by decide,λd1 H4 bb ba wD wW=>?_];obtain⟨v1,aa,aw⟩:=Vz (n:=3) (vs:=[V.int 6,.int 6,.int 9]) rfl bb ba;obtain⟨m1,rfl,c3⟩:∃m1:Nat,v1 = .int m1/\6<=m1/\m1<=9:=by
    simp only[qnc,qnF,qoD] at aa
    rcases aa with rfl|rfl|rfl
    ·exact#[6,rfl,by decide,by decide]
    ·exact#[6,rfl,by decide,by decide]
    ·exact#[9,rfl,by decide,by decide]
   refine#[_,.inl (aV.of (wW _ _ bq f3)),_,aw,?_];left;intro a2 ag;have s5:Same H4 (upd H4 a2 (.lst [.int 9,.int 9,.int 9,.int 12])):=au ag;have f5:upd H4 a2 (.lst [.int 9,.int 9,.int 9,.int 12]) a2=some (.lst [.int 9,.int 9,.int 9,.int 12]):=ak;have bo:a2≠p:=(wD.ne ag).symm;generalize upd H4 a2 (.lst [.int 9,.int 9,.int 9,.int 12])=H5 at s5 f5⊢;have G4:=wD.keep s5;refine#[p,4,rfl,G4,by decide,by decide,λd2 H6 ar ap Tq Tr=>?_];obtain⟨v2,a0,av⟩:=Vz (n:=4) (vs:=[V.int 9,.int 9,.int 9,.int 12]) rfl ar ap;obtain⟨m2,rfl,c2⟩:∃m2:Nat,v2 = .int m2/\9<=m2/\m2<=12:=by
    simp only[qnc,qnF,qoD] at a0
    rcases a0 with rfl|rfl|rfl|rfl
    ·exact#[9,rfl,by decide,by decide]
    ·exact#[9,rfl,by decide,by decide]
    ·exact#[9,rfl,by decide,by decide]
    ·exact#[12,rfl,by decide,by decide]
   refine#[_,.inl (aV.of (Tr _ _ bo f5)),_,av,?_];have B6:But p O H6:=(am.same s3).trans ((wW.same s5).trans Tr);have bf:=Nb (bg.same s3) pC ((wW.same s5).trans Tr);left;refine#[p,m1,m2,rfl,Tq,⋯,⋯,⋯,⋯,λt n l xs Y ps H7 ax az b0 ab ae af D hX x _ c4 XJ al=>?_];have be:=Nb bf Tq al;have np:n≠p:=(Tq.ne az).symm;have lp:l≠p:=(Tq.ne b0).symm;have tp:t≠p:=(Tq.ne ax).symm;have rJ:=x.len;have tl:=D.1;have B7:But p O H7:=B6.trans al;have bl:eZ H7 t n l xs Y ps:=#[ab,ae,af,D,hX,x];left;refine#[p,t,n,l,xs,Y,ps,rfl,XJ,ab,ae,af,D,λe he=>#[(x.ok e he).1,(x.ok e he).2.1],np,lp,hX.len.2,⋯,λg ns H8 b8 b7 c5 bn bi M=>?_];have gp:g≠p:=XJ.nl b8;have bd:=Nb be XJ M;have f:=bl.but XJ M np lp;have B8:But p O H8:=B7.trans M;left;refine#[_,.inr (cO.of f.1),_,aO (j:=0) rfl,_,.inr (cO.of f.1),_,aO (j:=1) rfl,λo dx ho b9 c0=>?_];have so:Same H8 (upd (upd H8 dx (.own o)) o (.ins a.b_ dx [])):=λb u e=>by
    rw[aF (aU e ho),aF (aU e b9)];exact e
   have ay:qC H8 Y ps:=#[f.2.2.2.1.1,λi v e h1 h2=>by
    obtain⟨t,rfl,z⟩:=f.2.2.2.1.2 i v e h1 h2;exact#[t,rfl,.inr z]]
   refine#[o,dx,n,l,Y,xs,ps,rfl,ak,.inl (so _ _ f.2.2.1),ay.same so,.inl (so _ _ f.2.1),hX,x,λH9 bc bm=>#[rfl,?_]];have s9:Same H8 H9:=λb u e=>bm b u (aU e ho) (so b u e);have J:=bi.keep s9;have y:=bd.same s9;have bj:=f.same s9;have b6:=s9 _ _ b7;have B9:But p O H9:=B8.same s9;left;refine frR (λj C U=>(∃G,C=[some (.ref sl),some (.int (i:Int)),some (.ref p),some (.ref t),some (.ref g),some (.ref o),G])/\gQ U p/\BP p Pt H9 U/\TabOk Cy Cz Pt U) #[#[_,rfl],J,BP.same (Same.refl _),y] ?_ ?_
   ·rintro j C bv hj ⟨⟨G,rfl⟩,an,r,N⟩;left;refine#[p,o,t,n,l,g,xs,Y,ps,ns,rfl,an,gp,r.web J y bc,r.goals J y bj np lp,np,lp,r.lst y b6 gp,⋯,bn,⋯,N,λc6 bu bt br=>?_];refine cZ.neg (d:=#[0]) rfl ?_;left;exact#[bu,r.trans bt,br]
   ·rintro C bv ⟨⟨G,rfl⟩,an,r,N⟩;refine#[#[_,_,_,_,_,_,rfl],λb u nt e=>?_,N];have e1:=k1 _ _ nt e;have bp:=aU e1 ac;exact r b u bp (λz=>by
     obtain⟨qs,hq⟩:=I.tb;rw[z,hq] at e1;cases e1;exact nt _ rfl) (B9 b u bp e1)
  ·rintro C O ⟨⟨o1,o2,o3,o4,o5,G,rfl⟩,k1,I⟩;left;exact q _
end K51
namespace L2
open PySem PySem.Spec PyProof.Rows
def mq(K:YZ)(x:Str)(f:J9):Prop:=W.nsIn K mainGlobals x=some (some (.ref f))
def qiL{K:YZ}{C B:J9}{e:ClassData}(c:W.clsIn K C=some e)(m:e.mro = .ref C::.ref B::lQ)(h:e.hasDict=true) (t:W.typeIn K (.ref C)=some (.type "type")) (a:W.findIn K (.ref C) "__getattribute__" = some (some (.builtin "BaseException.__getattribute__")))
  (n:W.findIn K (.ref C) "__getattr__" = some none) (g:W.findIn K (.ref C) "__class__" = some (some (.builtin "object.__class__"))) (k:W.keepIn K (.ref C)=true):XC K C B:=#[#[_,c,m,h],t,a,n,g,k]
end L2
namespace K51
open PySem L2
def unc{c:Type}{n:Nat}(l:List c)(h:l.length=n+1):∃a r,l=a::r:=by
 cases l with
 |nil=>cases h
 |cons a r=>exact#[a,r,rfl]
def j6{i:sH}{ps:QAH}(h:∀e,bindArgs i {pos:=[e]}=pure (ps.zip [e])):∀c:QAE,c.length=1->bindArgs i {pos:=c}=pure (ps.zip c):=by
 intro c f;obtain⟨e,c,rfl⟩:=unc c f;replace f:=qpa f;obtain rfl:=qoA f;exact h e
def cY{j:sH}{ps:QAH}(h:∀i f,bindArgs j {pos:=[i,f]}=pure (ps.zip [i,f])):∀c:QAE,c.length=2->bindArgs j {pos:=c}=pure (ps.zip c):=by
 intro c e;obtain⟨i,c,rfl⟩:=unc c e;replace e:=qpa e;obtain⟨f,c,rfl⟩:=unc c e;replace e:=qpa e;obtain rfl:=qoA e;exact h i f
def vD{l:sH}{ps:QAH}(h:∀j i f,bindArgs l {pos:=[j,i,f]}=pure (ps.zip [j,i,f])):∀c:QAE,c.length=3->bindArgs l {pos:=c}=pure (ps.zip c):=by
 intro c e;obtain⟨j,c,rfl⟩:=unc c e;replace e:=qpa e;obtain⟨i,c,rfl⟩:=unc c e;replace e:=qpa e;obtain⟨f,c,rfl⟩:=unc c e;replace e:=qpa e;obtain rfl:=qoA e;exact h j i f
def qgM{m:sH}{ps:QAH}(h:∀l j i f,bindArgs m {pos:=[l,j,i,f]}=pure (ps.zip [l,j,i,f])):∀e:QAE,e.length=4->bindArgs m {pos:=e}=pure (ps.zip e):=by
 intro e c;obtain⟨l,e,rfl⟩:=unc e c;replace c:=qpa c;obtain⟨j,e,rfl⟩:=unc e c;replace c:=qpa c;obtain⟨i,e,rfl⟩:=unc e c;replace c:=qpa c;obtain⟨f,e,rfl⟩:=unc e c;replace c:=qpa c;obtain rfl:=qoA c;exact h l j i f
def all_mk{l:W.OpenLaw}{w:lW}{K:YZ}{h:oY}{mg:Y4}{fa b_ aM cu eO bG bH d7 fC d8 g_ uV dz dB iI h_ jC fD lR ig gw dX gA gB cg dG lU f9 iu iw jD d9 bR lV fG fH eE cF dD lX Bu uW ql qm Bv Bw iJ gb uX qp lZ jW dY gj qt mj qu Bx:J9}(X:K.In h)(G:h.Ns mainGlobals mg) (c2:mg "law" = some (.ref fa))
  {bo bn bm bl bj bi bg bf be ar ap an am al ai ah ag af ae ac ab aa a0 bd bc bb ba b0 az ay ax aw av Y U Q O N M L J I H E D C B A z:sH}
  {bz y bw x:dR}{bv bu:Array (QAG)}{bt u r p c o br n m j f i:eH}{yj mK pq tY jw:Tok}
  {w6:ClassData}{Yo Yp:Str}{c1:J9}{Yq Ui:QAE}{Yr Ys:Bool}{Yt:QAH}{Uj:Option Bool}{Yu:dR}{Yv Yw Yx Yy Yz:QAG}{YB YC:Str}{c0:J9}{YD Uk:QAE}{YF YG:Bool}{YH:QAH}{Ul:Option Bool}{YJ:dR}{YK YL YM YQ YS:QAG}
  (Um:mq K "Web" b_)
  (qT:mq K "PointError" aM)
  (qU:mq K "NoPointing" cu)
  (yp:mq K "TooMuch" eO)
  (Bg:mq K "Parted" bG)
  (Bh:mq K "Barred" bH)
  (a1:mq K "steps_along" d7)
  (F1:cW K "steps_along" "steps_along" qK d7 bo)
  (a2:mq K "ways_along" fC)
  (F2:cW K "ways_along" "ways_along" sy fC bn)
  (a3:mq K "found_along" d8)
  (F3:cW K "found_along" "found_along" lq d8 bm)
  (a4:mq K "clusters" g_)
  (F4:cW K "clusters" "clusters" sE g_ bl)
  (a5:mq K "bars" uV)
  (F5:cW K "bars" "bars" Lx uV bj)
  (a6:W.findIn K (.ref bG) "__init__" = some (some (.ref dz))) (i6:W.isFn K (.ref dz)=true)
  (F6:cW K "__init__" "Parted.__init__" qL dz bi)
  (a7:W.findIn K (.ref bH) "__init__" = some (some (.ref dB))) (i7:W.isFn K (.ref dB)=true)
  (F7:cW K "__init__" "Barred.__init__" qM dB bg)
  (a8:mq K "is_list" iI)
  (F8:cW K "is_list" "is_list" Av iI bf)
  (a9:mq K "is_whole" h_)
  (F9:cW K "is_whole" "is_whole" xP h_ be)
  (a10:mq K "is_name" jC)
  (F10:cW K "is_name" "is_name" vQ jC ar)
  (a11:mq K "are_points" fD)
  (F11:cW K "are_points" "are_points" m6 fD ap)
  (a12:mq K "is_tie" lR)
  (F12:cW K "is_tie" "is_tie" zm lR an)
  (a13:mq K "are_ties" ig)
  (F13:cW K "are_ties" "are_ties" sG ig am)
  (a14:W.findIn K (.ref b_) "__init__" = some (some (.ref gw))) (i14:W.isFn K (.ref gw)=true)
  (F14:cW K "__init__" "Web.__init__" sI gw al)
  (a15:W.findIn K (.ref b_) "points" = some (some (.ref dX))) (i15:W.isFn K (.ref dX)=true)
  (F15:cW K "points" "Web.points" sJ dX ai)
  (a16:W.findIn K (.ref b_) "ties" = some (some (.ref gA))) (i16:W.isFn K (.ref gA)=true)
  (F16:cW K "ties" "Web.ties" xQ gA ah)
  (a17:W.findIn K (.ref b_) "many" = some (some (.ref gB))) (i17:W.isFn K (.ref gB)=true)
  (F17:cW K "many" "Web.many" xR gB ag)
  (a18:mq K "sure_of_few_ties" cg)
  (F18:cW K "sure_of_few_ties" "sure_of_few_ties" jm cg af)
  (a19:mq K "sure_of_ears" dG)
  (F19:cW K "sure_of_ears" "sure_of_ears" oH dG ae)
  (a20:mq K "lot_of" lU)
  (F20:cW K "lot_of" "lot_of" uQ lU ac)
  (a21:mq K "all_parts" f9)
  (F21:cW K "all_parts" "all_parts" pP f9 ab)
  (a22:mq K "all_lots" iu)
  (F22:cW K "all_lots" "all_lots" xT iu aa)
  (a23:mq K "crossing" iw)
  (F23:cW K "crossing" "crossing" sO iw a0)
  (a24:mq K "is_lead" jD)
  (F24:cW K "is_lead" "is_lead" Aw jD bd)
  (a25:mq K "is_pointing" d9)
  (F25:cW K "is_pointing" "is_pointing" lu d9 bc)
  (a26:mq K "sure_of_pointing" bR)
  (F26:cW K "sure_of_pointing" "sure_of_pointing" jo bR bb)
  (a27:mq K "arrows" lV)
  (F27:cW K "arrows" "arrows" Et lV ba)
  (a28:mq K "steps_into" fG)
  (F28:cW K "steps_into" "steps_into" m7 fG b0)
  (a29:mq K "shut_cuts" fH)
  (l29:K.lookup fH=some #[bt,bz,.func (W.fnOf "shut_cuts" "shut_cuts" (pG dF) (gk dF) (aB dF) .none u r p y c o),bv]) (c29:W.codeIn K c "shut_cuts" = true) (k29:W.keepIn K (.ref fH)=true)
  (a30:mq K "without_tie" eE)
  (F30:cW K "without_tie" "without_tie" lA eE az)
  (a31:mq K "ties_in_each" cF)
  (F31:cW K "ties_in_each" "ties_in_each" oJ cF ay)
  (a32:mq K "lots_apart" dD)
  (F32:cW K "lots_apart" "lots_apart" m8 dD ax)
  (a33:mq K "fewest" lX)
  (F33:cW K "fewest" "fewest" Eu lX aw)
  (a34:mq K "_law_pot" Bu)
  (F34:cW K "_law_pot" "_law_pot" qby Bu av)
  (a35:mq K "_law_take" uW)
  (F35:cW K "_law_take" "_law_take" S7 uW Y)
  (a36:mq K "_law_names" ql)
  (F36:cW K "_law_names" "_law_names" CV ql U)
  (a37:mq K "_law_mixed" qm)
  (F37:cW K "_law_mixed" "_law_mixed" Ly qm Q)
  (a38:mq K "_law_tie" Bv)
  (F38:cW K "_law_tie" "_law_tie" qbz Bv O)
  (a39:mq K "_law_web" Bw)
  (F39:cW K "_law_web" "_law_web" Jl Bw N)
  (a40:mq K "_law_reached" iJ)
  (F40:cW K "_law_reached" "_law_reached" Ax iJ M)
  (a41:mq K "_law_is_strong" gb)
  (F41:cW K "_law_is_strong" "_law_is_strong" pQ gb L)
  (a42:mq K "_law_into" uX)
  (F42:cW K "_law_into" "_law_into" S8 uX J)
  (a43:mq K "_law_drawn" qp)
  (F43:cW K "_law_drawn" "_law_drawn" vR qp I)
  (a44:mq K "_law_handed" lZ)
  (F44:cW K "_law_handed" "_law_handed" Ew lZ H)
  (a45:mq K "_law_is_lot" jW)
  (F45:cW K "_law_is_lot" "_law_is_lot" oK jW E)
  (a46:mq K "_law_crossing" dY)
  (F46:cW K "_law_crossing" "_law_crossing" jO dY D)
  (a47:mq K "_law_is_turned" gj)
  (F47:cW K "_law_is_turned" "_law_is_turned" jB gj C)
  (a48:mq K "_law_shown" qt)
  (F48:cW K "_law_shown" "_law_shown" Lz qt B)
  (a49:mq K "_law_barred" mj)
  (F49:cW K "_law_barred" "_law_barred" zp mj A)
  (a50:mq K "_law_asked" qu)
  (F50:cW K "_law_asked" "_law_asked" LC qu z)
  (a51:mq K "law" Bx)
  (l51:K.lookup Bx=some #[br,bw,.func (W.fnOf "law" "law" (pG zq) (gk zq) (aB zq) .none n m j x f i),bu]) (c51:W.codeIn K f "law" = true) (k51:W.keepIn K (.ref Bx)=true)
  (kY:W.nsIn K mainGlobals "LETTERS" = some (some (.str "abcdefghijklmnopqrstuvwxyz" yj)))
  (eV:W.nsIn K mainGlobals "MOST_LETTERS" = some (some (.int 4 mK)))
  (fM:W.nsIn K mainGlobals "MOST_POINTS" = some (some (.int 9 pq)))
  (iy:W.nsIn K mainGlobals "MOST_TIES" = some (some (.int 20 tY)))
  (cU:W.nsIn K mainGlobals "MOST_TIES_TAKEN" = some (some (.int 12 jw)))
  (Uo:W.plainGet K b_ Str.empty=true) (Uq:W.hasDictIn K b_=true) (Ur:W.plainOver K b_=true) (Us:W.findIn K (.ref b_) "__setattr__" = some (some (.builtin "object.__setattr__"))) (Ut:W.makesIn K b_=true) (Uu:W.keepIn K (.ref b_)=true)
  (GP:W.findIn K (.ref b_) "names" = some none)
  (GQ:W.findIn K (.ref b_) "pairs" = some none)
  (qcb:W.nsIn K mainGlobals "len" = some none)
  (qcc:W.nsIn K mainGlobals "max" = some none)
  (qcd:W.nsIn K mainGlobals "min" = some none)
  (qce:W.nsIn K mainGlobals "abs" = some none)
  (GR:W.nsIn K mainGlobals "divmod" = some none)
  (Ng:W.nsIn K mainGlobals "range" = some none)
  (qcf:W.nsIn K mainGlobals "zip" = some none)
  (Uv:W.nsIn K mainGlobals "list" = some none)
  (Nh:W.nsIn K mainGlobals "tuple" = some none)
  (qcg:W.nsIn K mainGlobals "int" = some none)
  (qch:W.nsIn K mainGlobals "str" = some none)
  (qci:W.nsIn K mainGlobals "set" = some none)
  (qcj:W.nsIn K mainGlobals "all" = some none)
  (tZ:W.nsIn K mainGlobals "isinstance" = some none)
  (vG:W.nsIn K mainGlobals "enumerate" = some none)
  (qck:W.nsIn K mainGlobals "any" = some none)
  (Uw:W.nsIn K mainGlobals "dict" = some none)
  (GX:W.nsIn K mainGlobals "sorted" = some none)
  (Ux:W.nsIn K mainGlobals "repr" = some none)
  (Uy:W.nsIn K mainGlobals "bool" = some none)
  (qcl:W.nsIn K mainGlobals "sum" = some none)
  (lM:W.clsIn K aM=some w6) (lN:w6.mro=[.ref aM,.type "ValueError",.type "Exception",.type "BaseException",.type "object"]) (qW:W.typeIn K (.ref aM)=some (.type "type"))
  (fK:W.excIn K aM lQ "ValueError.__new__" = true)
  (iQ:W.excIn K cu lQ "ValueError.__new__" = true)
  (nW:W.excIn K eO lQ "ValueError.__new__" = true)
  (qX:W.isClsIn K aM=true) (qgO:W.specialIn K (.ref aM) "__getattribute__" = some (some (.builtin "type.__getattribute__"))) (qgP:W.readsIn K aM (.type "type")=true) (qgQ:W.findCls K (.ref aM) (.type "type") "__init__" = some (.val (.builtin "ValueError.__init__")))
  (Jv:W.specialIn K (.builtin "object.__class__") "__get__" = some (some (.builtin "getset_descriptor.__get__"))) (Jw:W.takesIn K (.builtin "object.__class__")=some true)
  (Uz:Li [aM,cu,eO,bG,bH]=true)
  (jf:XC K cu aM)
  (oW:XC K eO aM)
  (fu:XC K bG aM)
  (fB:XC K bH aM)
  (Bj:K.lookup bG=some (excClassObj Yo Yp bG c1 Yq [.ref aM,.type "ValueError",.type "Exception",.type "BaseException",.type "object"] Yr Yt Ui Ys Uj Yu Yv Yw Yx Yy Yz "ValueError.__new__")) (Bk:W.findIn K (.ref bG) "__setattr__" = some (some (.builtin "object.__setattr__")))
  (eF:W.findIn K (.ref bG) "lot" = some none)
  (Bl:K.lookup bH=some (excClassObj YB YC bH c0 YD [.ref aM,.type "ValueError",.type "Exception",.type "BaseException",.type "object"] YF YH Uk YG Ul YJ YK YL YM YQ YS "ValueError.__new__")) (Bm:W.findIn K (.ref bH) "__setattr__" = some (some (.builtin "object.__setattr__")))
  (eG:W.findIn K (.ref bH) "tie" = some none)
  (cP:W.findIn K (.ref bH) "lot" = some none)
  (j4:W.nsIn K mainGlobals "ValueError" = some none)
  {cL PL:J9} (cdl:c=Value.ref cL)
  : ∃fd:FuncData,(∀(s:Y5)(v:eH),BindsTo s fd #[[v],[]] [("_law_script",v)])/\∀base:Heap,K.In base->base.Ns mainGlobals mg->W.CodeHd base cL PL->base.BuiltinsAt mg PL->bT l.prog w K mg base gR 17 fa fd ["_law_script"] (Nf K PL):=by
 have e:=c2.symm.trans (qnN X G a51);cases e;have b1:=F1.binds (ps:=["web", "fixed"]) λ_ _ _ _ _ _=>cY λ_ _=>rfl;have b2:=F2.binds (ps:=["start", "steps"]) λ_ _ _ _ _ _=>cY λ_ _=>rfl;have b3:=F3.binds (ps:=["web", "start", "steps"]) λ_ _ _ _ _ _=>vD λ_ _ _=>rfl;have b4:=F4.binds (ps:=["web"]) λ_ _ _ _ _ _=>j6 λ_=>rfl;have b5:=F5.binds (ps:=["web"]) λ_ _ _ _ _ _=>j6 λ_=>rfl;have b6:=F6.binds (ps:=["self", "lot"]) λ_ _ _ _ _ _=>cY λ_ _=>rfl;have b7:=F7.binds (ps:=["self", "tie", "lot"]) λ_ _ _ _ _ _=>vD λ_ _ _=>rfl;have b8:=F8.binds (ps:=["thing"]) λ_ _ _ _ _ _=>j6 λ_=>rfl;have b9:=F9.binds (ps:=["thing"]) λ_ _ _ _ _ _=>j6 λ_=>rfl;have dk:=F10.binds (ps:=["thing"]) λ_ _ _ _ _ _=>j6 λ_=>rfl;have di:=F11.binds (ps:=["thing"]) λ_ _ _ _ _ _=>j6 λ_=>rfl;have df:=F12.binds (ps:=["thing", "points"]) λ_ _ _ _ _ _=>cY λ_ _=>rfl;have de:=F13.binds (ps:=["thing", "points"]) λ_ _ _ _ _ _=>cY λ_ _=>rfl;have dd:=F14.binds (ps:=["self", "points", "ties"]) λ_ _ _ _ _ _=>vD λ_ _ _=>rfl;have dc:=F15.binds (ps:=["self"]) λ_ _ _ _ _ _=>j6 λ_=>rfl;have db:=F16.binds (ps:=["self"]) λ_ _ _ _ _ _=>j6 λ_=>rfl;have da:=F17.binds (ps:=["self"]) λ_ _ _ _ _ _=>j6 λ_=>rfl;have d6:=F18.binds (ps:=["web", "most"]) λ_ _ _ _ _ _=>cY λ_ _=>rfl;have d5:=F19.binds (ps:=["web"]) λ_ _ _ _ _ _=>j6 λ_=>rfl;have d4:=F20.binds (ps:=["web", "points"]) λ_ _ _ _ _ _=>cY λ_ _=>rfl;have d3:=F21.binds (ps:=["points"]) λ_ _ _ _ _ _=>j6 λ_=>rfl;have d2:=F22.binds (ps:=["web"]) λ_ _ _ _ _ _=>j6 λ_=>rfl;have d1:=F23.binds (ps:=["web", "lot"]) λ_ _ _ _ _ _=>cY λ_ _=>rfl;have d0:=F24.binds (ps:=["thing"]) λ_ _ _ _ _ _=>j6 λ_=>rfl;have cz:=F25.binds (ps:=["web", "thing"]) λ_ _ _ _ _ _=>cY λ_ _=>rfl;have cy:=F26.binds (ps:=["web", "thing"]) λ_ _ _ _ _ _=>cY λ_ _=>rfl;have cx:=F27.binds (ps:=["web", "pointing"]) λ_ _ _ _ _ _=>cY λ_ _=>rfl;have cw:=F28.binds (ps:=["steps", "lot"]) λ_ _ _ _ _ _=>cY λ_ _=>rfl;have bq:=Rz (st:=dF) l29 c29 k29;have cv:=bq.binds (ps:=["web", "pointing"]) λ_ _ _ _ _ _=>cY λ_ _=>rfl;have ct:=F30.binds (ps:=["cuts", "number"]) λ_ _ _ _ _ _=>cY λ_ _=>rfl;have cs:=F31.binds (ps:=["cuts", "most"]) λ_ _ _ _ _ _=>cY λ_ _=>rfl;have cr:=F32.binds (ps:=["cuts", "numbers"]) λ_ _ _ _ _ _=>cY λ_ _=>rfl;have cq:=F33.binds (ps:=["web", "pointing"]) λ_ _ _ _ _ _=>cY λ_ _=>rfl;have cp:=F34.binds (ps:=["_law_script", "_law_k"]) λ_ _ _ _ _ _=>cY λ_ _=>rfl;have co:=F35.binds (ps:=["_law_pot_here", "_law_many"]) λ_ _ _ _ _ _=>cY λ_ _=>rfl;have cn:=F36.binds (ps:=["_law_pot_here", "_law_many"]) λ_ _ _ _ _ _=>cY λ_ _=>rfl;have cm:=F37.binds (ps:=["_law_pot_here", "_law_things"]) λ_ _ _ _ _ _=>cY λ_ _=>rfl;have cl:=F38.binds (ps:=["_law_pot_here", "_law_names_here"]) λ_ _ _ _ _ _=>cY λ_ _=>rfl;have ck:=F39.binds (ps:=["_law_pot_here", "_law_points", "_law_most"]) λ_ _ _ _ _ _=>vD λ_ _ _=>rfl;have ci:=F40.binds (ps:=["_law_web_here", "_law_pointing", "_law_start"]) λ_ _ _ _ _ _=>vD λ_ _ _=>rfl;have ch:=F41.binds (ps:=["_law_web_here", "_law_pointing"]) λ_ _ _ _ _ _=>cY λ_ _=>rfl;have cf:=F42.binds (ps:=["_law_web_here", "_law_pointing", "_law_lot"]) λ_ _ _ _ _ _=>vD λ_ _ _=>rfl;have ce:=F43.binds (ps:=["_law_pot_here", "_law_web_here"]) λ_ _ _ _ _ _=>cY λ_ _=>rfl;have cd:=F44.binds (ps:=["_law_pot_here", "_law_row"]) λ_ _ _ _ _ _=>cY λ_ _=>rfl;have cc:=F45.binds (ps:=["_law_web_here", "_law_lot"]) λ_ _ _ _ _ _=>cY λ_ _=>rfl;have cb:=F46.binds (ps:=["_law_web_here", "_law_lot"]) λ_ _ _ _ _ _=>cY λ_ _=>rfl;have ca:=F47.binds (ps:=["_law_web_here", "_law_row", "_law_numbers"]) λ_ _ _ _ _ _=>vD λ_ _ _=>rfl;have c9:=F48.binds (ps:=["_law_web_here", "_law_row", "_law_told"]) λ_ _ _ _ _ _=>vD λ_ _ _=>rfl;have c8:=F49.binds (ps:=["_law_web_here", "_law_e"]) λ_ _ _ _ _ _=>cY λ_ _=>rfl;have c6:=F50.binds (ps:=["_law_pot_here", "_law_made", "_law_web_here", "_law_row"]) λ_ _ _ _ _ _=>qgM λ_ _ _ _=>rfl;have bp:=Rz (st:=zq) l51 c51 k51;have c5:=bp.binds (ps:=["_law_script"]) λ_ _ _ _ _ _=>j6 λ_=>rfl;have T:Txt K mg {d7:=d7,jP:=bo,fC:=fC,lB:=bn,d8:=d8,jQ:=bm,g_:=g_,pU:=bl,uV:=uV,CW:=bj,dz:=dz,jR:=bi,dB:=dB,jT:=bg,iI:=iI,oN:=bf,h_:=h_,pW:=be,jC:=jC,sZ:=ar,fD:=fD,lC:=ap,lR:=lR,vU:=an,ig:=ig,pX:=am,gw:=gw,pY:=al,dX:=dX,lE:=ai,gA:=gA,pZ:=ah,gB:=gB,qe:=ag,cg:=cg,fW:=af,dG:=dG,jh:=ae,lU:=lU,vV:=ac,f9:=f9,m_:=ab,iu:=iu,qg:=aa,iw:=iw,qj:=a0,jD:=jD,tu:=bd,d9:=d9,jU:=bc,bR:=bR,dU:=bb,lV:=lV,vW:=ba,fG:=fG,lF:=b0,fH:=fH,fJ:=W.fnOf "shut_cuts" "shut_cuts" (pG dF) (gk dF) (aB dF) .none u r p y c o,eE:=eE,jV:=az,cF:=cF,fj:=ay,dD:=dD,gG:=ax,lX:=lX,vX:=aw,Bu:=Bu,LQ:=av,uW:=uW,CZ:=Y,ql:=ql,zy:=U,qm:=qm,zA:=Q,Bv:=Bv,LR:=O,Bw:=Bw,L_:=N,iJ:=iJ,oO:=M,gb:=gb,ni:=L,uX:=uX,C_:=J,qp:=qp,zB:=I,lZ:=lZ,vY:=H,jW:=jW,rE:=E,dY:=dY,jd:=D,gj:=gj,nj:=C,qt:=qt,zE:=B,mj:=mj,vZ:=A,qu:=qu,zF:=z,Bx:=fa,Ma:=W.fnOf "law" "law" (pG zq) (gk zq) (aB zq) .none n m j x f i,kY:=.str "abcdefghijklmnopqrstuvwxyz" yj,eV:=.int 4 mK,fM:=.int 9 pq,iy:=.int 20 tY,cU:=.int 12 jw,b_:=b_,aM:=aM,cu:=cu,eO:=eO,bG:=bG,bH:=bH}:={je:=F1,lG:=b1,lH:=qnN X G a1,tD:=F2,zG:=b2,zH:=qnN X G a2,lJ:=F3,qN:=b3,qO:=qnN X G a3,xV:=F4,Fe:=b4,Fg:=qnN X G a4,Td:=F5,qbB:=b5,qbC:=qnN X G a5,wL:=F6,wM:=b6,wN:=F7,wO:=b7,jE:=F8,nQ:=b8,nR:=qnN X G a8,xW:=F9,Fi:=b9,Fj:=qnN X G a9,rF:=F10,wg:=dk,wj:=qnN X G a10,tE:=F11,zJ:=di,zK:=qnN X G a11,Fl:=F12,Qd:=df,Qe:=qnN X G a12,xX:=F13,Fo:=de,Fp:=qnN X G a13,Fq:=F14,Ft:=dd,zL:=F15,iK:=dc,iM:=#[a15,i15,F15.kp],Fv:=F16,tG:=db,tU:=#[a16,i16,F16.kp],Fw:=F17,xY:=da,yd:=#[a17,i17,F17.kp],jq:=F18,oR:=d6,oU:=qnN X G a18,oV:=F19,uY:=d5,uZ:=qnN X G a19,Fx:=F20,Qf:=d4,Qg:=qnN X G a20,u5:=F21,BJ:=d3,BK:=qnN X G a21,xZ:=F22,Fy:=d2,Fz:=qnN X G a22,yc:=F23,FJ:=d1,FN:=qnN X G a23,Ay:=F24,Jq:=d0,Jr:=qnN X G a24,lK:=F25,qP:=cz,qQ:=qnN X G a25,eY:=F26,jr:=cy,jt:=qnN X G a26,FP:=F27,Qh:=cx,Qi:=qnN X G a27,tH:=F28,zM:=cw,zN:=qnN X G a28,u6:=bq,BL:=cv,BW:=qnN X G a29,qR:=F30,wQ:=ct,wR:=qnN X G a30,iz:=F31,jX:=cs,jY:=qnN X G a31,nu:=F32,tK:=cr,tM:=qnN X G a32,FQ:=F33,Qj:=cq,Qk:=qnN X G a33,qbD:=F34,qez:=cp,qeA:=qnN X G a34,gM:=F35,iB:=co,iC:=qnN X G a35,Mf:=F36,VL:=cn,VN:=qnN X G a36,zO:=F37,Dd:=cm,Df:=qnN X G a37,qbE:=F38,qeB:=cl,qeC:=qnN X G a38,qbF:=F39,qeD:=ck,qeE:=qnN X G a39,nU:=F40,wk:=ci,wu:=qnN X G a40,u9:=F41,BX:=ch,BZ:=qnN X G a41,Tf:=F42,qbG:=cf,qbH:=qnN X G a42,Mg:=F43,VP:=ce,VR:=qnN X G a43,FT:=F44,Ql:=cd,Qm:=qnN X G a44,u_:=F45,FW:=cc,FZ:=qnN X G a45,jZ:=F46,tO:=cb,tQ:=qnN X G a46,vd:=F47,B_:=ca,Ca:=qnN X G a47,Mh:=F48,V0:=c9,V1:=qnN X G a48,Ga:=F49,Qn:=c8,Qo:=qnN X G a49,Mi:=F50,V2:=c6,V3:=qnN X G a50,qeF:=bp,qik:=c5,qil:=qnN X G a51,Js:=qnN X G kY,Jt:=#[yj,rfl],vf:=qnN X G eV,vg:=#[mK,rfl],wU:=qnN X G fM,wV:=#[pq,rfl],Cd:=qnN X G iy,Ce:=#[tY,rfl],qw:=qnN X G cU,qz:=#[jw,rfl],Mj:=GP,Dg:=GQ,qeG:=qnN X G Um,mU:=#[Uo,Uq,Ur,Us],qeH:=#[Ut,a14,i14,Uu],nm:=#[qn0 X G qcb,qn0 X G qcc,qn0 X G qcd,qn0 X G qce,qn0 X G GR,qn0 X G Ng,qn0 X G qcf,qn0 X G Uv,qn0 X G Nh,qn0 X G qcg,qn0 X G qch,qn0 X G qci,qn0 X G qcj,qn0 X G tZ],Rf:=#[qn0 X G vG,qn0 X G qck,qn0 X G Uw,qn0 X G GX,qn0 X G Ux,qn0 X G Uy],nm3:=#[qn0 X G qcl],nA:=qnN X G qT,zP:=qnN X G qU,Ju:=qnN X G yp,Gb:=qnN X G Bg,Gd:=qnN X G Bh,fK:=fK,iQ:=iQ,nW:=nW,ib:=qX,tb:=qW,ini:=#[qgO,qgP,qgQ],Jv:=Jv,Jw:=Jw,nd:=Je Uz,jf:=jf,oW:=oW,fu:=fu,fB:=fB,wz:=#[#[_,_,_,_,_,_,_,_,_,_,_,_,_,_,_,Bj],fK,#[_,lM,lN],a6,qpj.mp i6,fu.kp],Jx:=XC.set fu Bk,eF:=eF,wA:=#[#[_,_,_,_,_,_,_,_,_,_,_,_,_,_,_,Bl],fK,#[_,lM,lN],a7,qpj.mp i7,fB.kp],Az:=XC.set fB Bm,eG:=eG,cP:=cP,j4:=qn0 X G j4};exact#[_,λs v=>.of_eq rfl,λbase _ _ c3 c4=>qgK T #[cdl,c3,c4]]
def walk{l:W.OpenLaw}{q:qd}{i:QAH}{I:(Str->Option Value)->Heap->Prop}{y:World->Heap->Prop}{d H:DefRec}{K:Params->W.Frag}{c o:J9}(B:l.most=some 63)(r:d.params.defaults=[])
  (D:∀(w:lW)(h:oY),y w h->(K w.params).In h) (m:(PyProof.Rows.recsOf q).find? (λe=>e.name == ("shut_cuts" : Str))=some H) (j:∀w:World,W.tabIn (K w.params) "shut_cuts" = some (c,o)) (p:∀w:World,W.noTabs (K w.params)=true)
  (F:∀(w:lW)(mg:Y4)(fa:J9)(h:oY),(K w.params).In h->h.Ns mainGlobals mg->mg d.name=some (.ref fa)->
   ∃v:FuncData,(∀(s:Y5)(u:eH),BindsTo s v #[[u],[]] [("_law_script",u)])/\∀base:Heap,(K w.params).In base->base.Ns mainGlobals mg->W.CodeHd base c o->base.BuiltinsAt mg o->bT l.prog w (K w.params) mg base gR 17 fa v ["_law_script"] (Nf (K w.params) o)) :
  W.WalkO q i I y l.row.toRowW d [] (λf vs=>PySem.call f vs):=
 L2.qbj (n:=63) (k:=17) (x:= "_law_script") (CX:=λ_=>gR) (sp:=λw=>Nf (K w.params) o) B (by decide) r #[rfl,by decide,by decide,rfl] D m j p F (λ_ _ a A C G E=>#[a,A,rfl,E,C,.inl G,λ_=>rfl]) λ_ _ _ _ _ z=>z
end K51
end
set_option Elab.async false
set_option maxRecDepth 100000
set_option maxHeartbeats 4000000
open PySem PySem.W PyProof.Rows
namespace PySem.W.Fast
local macro_rules|`(command|def $i:declId $s:optDeclSig $v:declVal)=>`(command|noncomputable def $i $s:optDeclSig $v:declVal)
def tw8749467456203166888:=0
def tw10248251704667590447:=0
def tw14417516354111440402:=0
def tw5448073661967213738:=0
def tw8082640368100100653:=0
def tw2526603043473982347:=0
def tw8335920494630001061:=0
def tw16164411351528892203:=0
def tw1769643468433076660:=0
def tw720982423113572014:=0
def tw16063679712970180341:=0
def tw13915310498466916432:=0
def tw11664735300553888674:=0
def tw10810716889861310089:=0
def tw11395725098350548398:=0
def tw2204080176395740398:=0
def tw14562977835618884898:=0
def tw8213281971025064523:=0
def tw13016583148777005327:=0
def tw17074385316356622923:=0
def tw2565504257022255413:=0
def tw2325071971446698034:=0
def tw9291958437903921506:=0
def tw13609293989570475384:=0
def tw13119534120560362693:=0
def tw2770100064460245928:=0
def tw5320035929763927050:=0
def tw7544006918659834847:=0
def tw6183964777155492949:=0
def tw3053690045492264596:=0
def tw5255926450688129946:=0
def tw16352989080240373391:=0
def tw468824080630573284:=0
def tw10293316394374520624:=0
def tw12428613123107885671:=0
def tw6331655119170198709:=0
def tw14881074820644763629:=0
def tw4384611523947483353:=0
def tw4935148649490207498:=0
def tw11064202240685838379:=0
def tw10353339294697443866:=0
def tw5117885258397046278:=0
def tw1025993885692863859:=0
def tw11673605409669301940:=0
def tw5963077224149866811:=0
def tw18143950420601252049:=0
def tw11064315080075365492:=0
def tw3120271551037041449:=0
def tw65395144467480251:=0
def tw4551377823127728717:=0
def tw10722495345852706915:=0
def tw5189184624815272611:=0
def tw337556345127230600:=0
def tw16878679286797615181:=0
def tw4166610690129343858:=0
def tw2041390488502770428:=0
def tw11111888599748130612:=0
def tw12861689485400410439:=0
def tw6878257205175853058:=0
def tw10742641484556392594:=0
def tw1692861094841323091:=0
def tw8924216907247164338:=0
def tw12952029455828138829:=0
def tw5965372711096982716:=0
def tw4247139950465869400:=0
def tw3372372592590486258:=0
def tw5415469820552755517:=0
def tw12567387667085570970:=0
def tw17612961782103739704:=0
def tw12705076942457802263:=0
def tw5231480993248771684:=0
def tw14787563679001401698:=0
def tw10516321868227068055:=0
def tw14121165806524554882:=0
def tw9847071813480198531:=0
def tw388603024396612218:=0
def tw17630155743077522144:=0
def tw13120618067919563784:=0
def tw7942756641904740531:=0
def tw10152921769029188573:=0
def tw3913845445951977140:=0
def tw3671420483326175779:=0
def tw11879322183852681240:=0
def tw18176178775634608869:=0
def tw3671670552317687701:=0
def tw5136448597173518527:=0
def tw10770709763374867123:=0
def tw7247634617165234040:=0
def tw15810567762032526179:=0
def tw15778149916165986099:=0
def tw11309293029142359025:=0
def tw6426132369015432964:=0
def tw16369416896105706587:=0
def tw9184300725232291661:=0
def tw15691399152970063766:=0
def tw10016777316045791907:=0
def tw11092416930604390078:=0
def tw12474960061363873402:=0
def tw3664983578426541864:=0
def tw15231213256213221529:=0
def tw7046764500572629736:=0
def tw3797567771574613836:=0
def tw4993755822159052613:=0
def tw4965190729337715000:=0
def tw1744630453091903783:=0
def tw14498137087132841823:=0
def tw6748418272325837115:=0
def tw5541782504249225489:=0
def tw10884809126252539812:=0
def tw10051310915768430920:=0
def tw10833996154289366012:=0
def tw2181921025555109937:=0
def tw1192220170617435136:=0
def tw4909439813958178068:=0
def tw5900962849583369817:=0
def tw4658351965876967528:=0
def tw1745254119571857339:=0
def tw5657503728268832943:=0
def tw6291341540103874988:=0
def tw12931967506382511656:=0
def tw16361153654456263613:=0
def tw9483520568569317602:=0
def tw9755257456675844148:=0
def tw13400545840299999296:=0
def tw5021658268206624272:=0
def tw12336492053361283273:=0
def tw3709580342057921676:=0
def tw4790268973155550554:=0
def tw17923297297007616794:=0
def tw17470671018125371290:=0
def tw9349145004174344123:=0
def tw13787307331634063855:=0
def tw2361504435921474941:=0
def tw10493078431163956617:=0
def tw7073484751958535410:=0
def tw16385284462114769156:=0
def tw14188920148864958797:=0
def tw14800219015864679975:=0
def tw4800375379144317402:=0
def tw15609783242358987853:=0
def tw14306049639246434606:=0
def tw3589866348209851684:=0
def tw1814973960383453504:=0
def tw4969045774427513004:=0
def tw167918603854688836:=0
def tw15319452117560271651:=0
def tw5030278276724138883:=0
def tw1874412270859605942:=0
def tw18034775184544558053:=0
def tw6184420896205789909:=0
def tw5116795368613787028:=0
def tw4219700263170280642:=0
def tw8795000576060368829:=0
def tw7295061297969313954:=0
def tw16332869349645140551:=0
def tw4312850037751128902:=0
def tw16568080537265126079:=0
def tw9507221943735661785:=0
def tw17608768903768841314:=0
def tw9941411357733526119:=0
end PySem.W.Fast
set_option maxRecDepth 100000 in
set_option maxHeartbeats 0 in
theorem PySem.Challenge.cw_pointways_k51_whole_fewest_shown_holds : PySem.Challenge.rw_pointways_k51_whole_fewest_shown.Holds := by
  w_on;o_law;k_head;(case hw=>w_witness2)
  k_fill
  refine' K51.walk (l:=PySem.Challenge.rw_pointways_k51_whole_fewest_shown) rfl rfl (fun w h Y=>W.km_in_of Y) ?ql_ ?qma ?qmb ?F
  case ql_=>rfl
  case qma=>
    intro w;refine' L2.qbk ?b1 ?b2 ?b3 ?b4 ?b5
    (case b1=>k_is)
    (case b2=>k_is)
    (case b3=>rfl)
    (case b4=>k_is)
    (case b5=>rfl)
  case qmb=>intro w;kernel_rfl
  case F=>
    intro w mg fa h KX G hmg;refine' K51.all_mk KX G hmg ?Um ?qT ?qU ?yp ?Bg ?Bh ?a1 ?F1 ?a2 ?F2 ?a3 ?F3 ?a4 ?F4 ?a5 ?F5 ?a6 ?i6 ?F6 ?a7 ?i7 ?F7 ?a8 ?F8 ?a9 ?F9 ?a10 ?F10 ?a11 ?F11 ?a12 ?F12 ?a13 ?F13 ?a14 ?i14 ?F14 ?a15 ?i15 ?F15 ?a16 ?i16 ?F16 ?a17 ?i17 ?F17 ?a18 ?F18 ?a19 ?F19 ?a20 ?F20 ?a21 ?F21 ?a22 ?F22 ?a23 ?F23 ?a24 ?F24 ?a25 ?F25 ?a26 ?F26 ?a27 ?F27 ?a28 ?F28 ?a29 ?l29 ?c29 ?k29 ?a30 ?F30 ?a31 ?F31 ?a32 ?F32 ?a33 ?F33 ?a34 ?F34 ?a35 ?F35 ?a36 ?F36 ?a37 ?F37 ?a38 ?F38 ?a39 ?F39 ?a40 ?F40 ?a41 ?F41 ?a42 ?F42 ?a43 ?F43 ?a44 ?F44 ?a45 ?F45 ?a46 ?F46 ?a47 ?F47 ?a48 ?F48 ?a49 ?F49 ?a50 ?F50 ?a51 ?l51 ?c51 ?k51 ?kY ?eV ?fM ?iy ?cU ?Uo ?Uq ?Ur ?Us ?Ut ?Uu ?GP ?GQ ?qcb ?qcc ?qcd ?qce ?GR ?Ng ?qcf ?Uv ?Nh ?qcg ?qch ?qci ?qcj ?tZ ?vG ?qck ?Uw ?GX ?Ux ?Uy ?qcl ?lM ?lN ?qW ?fK ?iQ ?nW ?qX ?qgO ?qgP ?qgQ ?Jv ?Jw ?Uz ?jf ?oW ?fu ?fB ?Bj ?Bk ?eF ?Bl ?Bm ?eG ?cP ?j4 ?cdl
    case Um | qT | qU | yp | Bg | Bh | a1 | a2 | a3 | a4 | a5 | a8 | a9 | a10 | a11 | a12 | a13 | a18 | a19 | a20 | a21 | a22 | a23 | a24 | a25 | a26 | a27 | a28 | a29 | a30 | a31 | a32 | a33 | a34 | a35 | a36 | a37 | a38 | a39 | a40 | a41 | a42 | a43 | a44 | a45 | a46 | a47 | a48 | a49 | a50 | a51=>unfold L2.mq;k_is
    case a6 | i6 | a7 | i7 | a14 | i14 | a15 | i15 | a16 | i16 | a17 | i17 | l29 | c29 | k29 | l51 | c51 | k51 | kY | eV | fM | iy | cU | Uo | Uq | Ur | Us | Ut | Uu | GP | GQ | qcb | qcc | qcd | qce | GR | Ng | qcf | Uv | Nh | qcg | qch | qci | qcj | tZ | vG | qck | Uw | GX | Ux | Uy | qcl | lM | qW | qX | qgO | qgP | qgQ | Jv | Jw | Bj | Bk | eF | Bl | Bm | eG | cP | j4=>k_is
    case lN | cdl=>rfl
    case F1 | F2 | F3 | F4 | F5 | F6 | F7 | F8 | F9 | F10 | F11 | F12 | F13 | F14 | F15 | F16 | F17 | F18 | F19 | F20 | F21 | F22 | F23 | F24 | F25 | F26 | F27 | F28 | F30 | F31 | F32 | F33 | F34 | F35 | F36 | F37 | F38 | F39 | F40 | F41 | F42 | F43 | F44 | F45 | F46 | F47 | F48 | F49 | F50=>refine' L2.Rz ?l ?c ?k;(case l=>k_is);(case c=>k_is);(case k=>k_is)
    case fK | iQ | nW=>k_exc
    case Uz=>decide+kernel
    case jf | oW | fu | fB=>refine' L2.qiL ?c ?m ?h ?t ?a ?n ?g ?k;(case c=>k_is);(case m=>rfl);(case h=>rfl);(case t=>k_is);(case a=>k_is);(case n=>k_is);(case g=>k_is);(case k=>k_is)


