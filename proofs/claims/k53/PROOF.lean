import PyProof.Rows.All
import Wide.All
import OpenK.AllK
import Wide.FinOn
import Lean
import PyProof.EqAt
import PyProof.EqKinds
import PyProof.TupleCall
import PyProof.NeData
import PyProof.AttrMissHeap
import PyProof.FactsAll.enumerate_1
import KE.KDictOf
import PyProof.EnumMake
import PyProof.Rows.SumAny
import PyProof.Rows.StrJoin2
import PyProof.Rows.CountFlat
import PyProof.Rows.FoldWordsD
import PyProof.Rows.SeqMore2
import PyProof.Rows.MinMaxN
import PyProof.Rows.StrInSeq3
import PyProof.Rows.ReprR
import PyProof.StrLawsRepr
import PyProof.StrCalls2
import PyProof.Rows.StrNews2
import PyProof.Rows.StrSplitJoin
import PyProof.StrLawsTight
import PyProof.StrLawsChain
import PyProof.FString4
import PyProof.RulesTry
import PyProof.StrOps2
import PyProof.Rows.SeqMore
import PyProof.DictItems
import KE.KPairComp
import PyProof.Rows.SortRuns
import PyProof.Rows.SortShell
import KE.KSortKey
import PyProof.Rows.SeqCalls3
import PySem.Challenge.RW_pointways_k53_rings_hung_together
set_option genSizeOfSpec false
noncomputable section
set_option Elab.async false
set_option linter.all false
set_option maxRecDepth 100000
def qi4:=@PySem.wpAny_bind
def qi5:=@List.getElem?_eq_some_iff
def qi6:=@PySem.Heap.get?_push_of_some
def qi7:=@PyProof.Rows.wpS_pure
def qi8:=@PyProof.Rows.wpS_bind
def qi9:=@List.mem_of_getElem?
def qi_:=@PySem.wpAny_pure
def qja:=@List.length_map
def qjb:=@Nat.le_refl
def qjc:=@Array.size_push
def qjd:=@PySem.Heap.lt_size
def qje:=@List.getElem?_map
def qjf:=@List.mem_cons_of_mem
def qjg:=@PySem.Heap.get?_push_size
def qjh:=@List.getElem?_eq_getElem
def qji:=@List.length_take
def qjj:=@List.size_toArray
def qjk:=@List.take_length
def qjl:=@Nat.lt_of_lt_of_le
def qjm:=@List.mem_cons
def qjn:=@Nat.ne_of_lt
def qjo:=@PySem.boot_len
def qjp:=@List.mem_cons_self
def qjq:=@Bool.false_ne_true
def qjr:=@List.getElem?_append_left
def qjs:=@List.append_assoc
def qjt:=@List.length_cons
def qju:=@Option.map_eq_some_iff
def qjv:=@List.mem_map
def qjw:=@List.getElem?_append_right
def qjx:=@Nat.le_trans
def qjy:=@List.mem_filter
def qjz:=@List.mem_append
def qjA:=@Classical.byContradiction
def qjB:=@congrArg
def qjC:=@List.all_eq_true
def qjD:=@List.append_nil
def qjE:=@List.extract_eq_take_drop
def qjF:=@List.length_append
def qjG:=@of_decide_eq_true
def qjH:=@List.mem_append_right
def qjI:=@Option.some.inj
def qjJ:=@List.length_filter_le
def qjK:=@PySem.W.mg_of
def qjL:=@PySem.mem_of_lookup
def qjM:=@decide_eq_false
def qjN:=@PySem.Heap.size_push
def qjO:=@List.map_cons
def qjP:=@PyProof.Rows.wpS_forRange
def qjQ:=@PySem.W.mg_none_of
def qjR:=@List.mem_append_left
def qjS:=@Array.toList_extract
def qjT:=@List.take_append_drop
def qjU:=@List.map_append
def qjV:=@List.filter_append
def qjW:=@PySem.PassesOwn.never
def qjX:=@Nat.zero_add
def qjY:=@Nat.zero_le
def qjZ:=@PySem.wpAny_field
def qj0:=@List.nodup_cons
def qj1:=@PySem.wpAny_newObj_type
def qj2:=@decide_eq_true
def qj3:=@List.perm_append_comm
def qj4:=@PySem.F.plainAttrs_list
def qj5:=@Array.toList_append
def qj6:=@List.filter_nil
def qj7:=@Nat.lt_succ_of_lt
def qj8:=@List.getElem?_of_mem
def qj9:=@PySem.F.slot_list_append
def qj_:=@PySem.F.type_list_append
def qka:=@PyProof.Rows.slot_tuple_getitem
def qkb:=@List.Perm.append_left
def qkc:=@List.mem_range
def qkd:=@PySem.wpAny_mono
def qke:=@List.filter_cons_of_pos
def qkf:=@List.filter_cons_of_neg
def qkg:=@List.mem_singleton
def qkh:=@Bool.false_eq_true
def qki:=@Nat.lt_irrefl
def qkj:=@Bool.and_eq_true
def qkk:=@Array.length_toList
def qkl:=@PySem.wpAny_truthy_bool
def qkm:=@PySem.wpAny_holding
def qkn:=@PySem.Heap.get?_update_other
def qko:=@List.not_mem_nil
def qkp:=@Nat.le_succ_of_le
def qkq:=@List.length_singleton
def qkr:=@PyProof.Rows.wpS_mono
def qks:=@Bool.eq_iff_iff
def qkt:=@PySem.codeAny_mono
def qku:=@PySem.wpAny_Call_Name_kw
def qkv:=@PyProof.Rows.wpS_modify
def qkw:=@of_decide_eq_false
def qkx:=@PySem.wpAny_callSpecial?_slot
def qky:=@List.lookup_cons
def qkz:=@List.any_eq_true
def qkA:=@List.length_eq_zero_iff
def qkB:=@PyProof.Rows.callWith_type1
def qkC:=@Nat.le_of_lt
def qkD:=@decide_eq_true_eq
def qkE:=@Array.size_append
def qkF:=@Array.getElem?_eq_some_iff
def qkG:=@List.exists_of_findSome?_eq_some
def qkH:=@PySem.Heap.SameBut.update
def qkI:=@PySem.Heap.get?_update_self
def qkJ:=@List.mem_iff_getElem?
def qkK:=@Nat.lt_succ_self
def qkL:=@Nat.ne_of_gt
def qkM:=@Option.isSome_iff_exists
def qkN:=@List.getElem?_take_of_lt
def qkO:=@List.map_map
def qkP:=@Nat.le_succ
def qkQ:=@if_false
def qkR:=@List.eq_nil_of_length_eq_zero
def qkS:=@eq_true
def qkT:=@List.length_range
def qkU:=@Nat.min_eq_left
def qkV:=@List.mem_zipIdx_iff_getElem?
def qkW:=@beq_eq_false_iff_ne
def qkX:=@PyProof.Rows.F.plain_set_update_loop
def qkY:=@List.map_congr_left
def qkZ:=@List.take_of_length_le
def qk0:=@PySem.wpAny_call_entry
def qk1:=@decide_eq_decide
def qk2:=@List.cons_append
def qk3:=@PySem.wpAny_pyIter_tuple
def qk4:=@PySem.F.slot_tuple_iterator_next
def qk5:=@PySem.Obj.data_mapFields
def qk6:=@PySem.wpAny_setField_rec
def qk7:=@Ne.symm
def qk8:=@PySem.F.slot_enumerate_next
def qk9:=@PySem.wpAny_passesOwn
def qk_:=@List.map_nil
def qla:=@List.nodup_append
def qlb:=@Array.toList_push
def qlc:=@List.mem_of_mem_take
def qld:=@List.any_cons
def qle:=@PySem.wpAny_rule
def qlf:=@PySem.plainObj_wpAny_Assign_Attribute
def qlg:=@Array.getElem?_setIfInBounds_ne
def qlh:=@List.filter_sublist
def qli:=@List.take_zero
def qlj:=@if_true
def qlk:=@PySem.tupleKind_room_in1
def qll:=@of_eq_true
def qlm:=@PySem.codeAny_builtin
def qln:=@List.find?_cons
def qlo:=@PySem.W.kia_one
def qlp:=@PySem.Obj.isFreed_of_fields
def qlq:=@PySem.wpAny_pyIter_list
def qlr:=@PySem.wpAny_loadPart_at
def qls:=@List.filter_congr
def qlu:=@PySem.wpAny_call
def qlv:=@PySem.Around.under_plainId
def qlw:=@PySem.codeAny_call_builtin
def qlx:=@PySem.wpAny_setField
def qly:=@PySem.F.excBase_ValueError
def qlz:=@Array.toList_setIfInBounds
def qlA:=@List.replicate_succ'
def qlB:=@Nat.pow_le_pow_right
def qlC:=@List.getElem_mem
abbrev QAB:=PySem.Value->PySem.Shared->Prop
abbrev QAC:=List (PySem.Addr×PySem.Obj)
abbrev QAD:=List (PySem.Str×PySem.Str)
abbrev QAE:=List PySem.Value
abbrev QAG:=Option PySem.Value
abbrev QAH:=List PySem.Str
namespace L2
open PySem PySem.Spec PyProof.Rows
abbrev Key:=Sum Int Str
def rC:Key->Value->Bool
 |.inl k,v=>Value.isInt k v
 |.inr x,v=>Value.isStrOf x v
def qgD(w:World):Key->Int
 |.inl k=>hashInt k
 |.inr x=>hashStr w x
theorem cW:∀{k:Key}{v:Value},rC k v=true->(∃i t,k=Sum.inl i/\v=Value.int i t)\/(∃x t,k=Sum.inr x/\v=Value.str x t)
 |.inl i,v,h=>by
  obtain⟨t,e⟩:=Value.isInt_shape (k:=i) (v:=v) h;exact .inl ⟨i,t,rfl,e⟩
 |.inr x,v,h=>by
  obtain⟨t,e⟩:=Value.isStrOf_shape (x:=x) (v:=v) h;exact .inr ⟨x,t,rfl,e⟩
theorem DQ(i:Int)(t:Tok):rC (.inl i) (.int i t)=true:=by simp[rC,Value.isInt]
theorem DR(x:Str)(t:Tok):rC (.inr x) (.str x t)=true:=by simp[rC,Value.isStrOf]
theorem qbb(a b:Int):decide ((Sum.inl a:Key)=Sum.inl b)=(a == b):=by
 by_cases e:a=b
 ·subst e;simp
 ·have h:¬(Sum.inl a:Key)=Sum.inl b:=λq=>e (Sum.inl.inj q);rw[qjM h];exact(qkW.mpr e).symm
theorem qbc(a b:Str):decide ((Sum.inr a:Key)=Sum.inr b)=decide (a=b):=by
 by_cases e:a=b
 ·subst e;simp
 ·have h:¬(Sum.inr a:Key)=Sum.inr b:=λq=>e (Sum.inr.inj q);rw[qjM h,qjM e]
theorem qbd(a:Int)(b:Str):decide ((Sum.inl a:Key)=Sum.inr b)=false:=qjM (λq=>nomatch q)
theorem qbe(a:Str)(b:Int):decide ((Sum.inr a:Key)=Sum.inl b)=false:=qjM (λq=>nomatch q)
def bJ(prog:Program)(w:World):PySem.KeyKind prog w Key where
 is:=rC
 hash:=qgD w
 inj:=λv a b ha hb=>by
  rcases cW ha with⟨i,t,rfl,rfl⟩|⟨x,t,rfl,rfl⟩
  ·rcases cW hb with⟨j,u,rfl,e⟩|⟨y,u,rfl,e⟩
   ·injection e with e1 _;rw[e1]
   ·exact nomatch e
  ·rcases cW hb with⟨j,u,rfl,e⟩|⟨y,u,rfl,e⟩
   ·exact nomatch e
   ·injection e with e1 _;rw[e1]
 byValue:=λk v h=>by
  rcases cW h with⟨i,t,rfl,rfl⟩|⟨x,t,rfl,rfl⟩ <;> rfl
 pyHash:=λhv h=>by
  rcases cW hv with⟨i,t,rfl,rfl⟩|⟨x,t,rfl,rfl⟩
  ·exact wpAny_pyHash_int h
  ·exact wpAny_pyHash_str h
 eqBool:=λhu hv h=>by
  rcases cW hu with⟨i,t,rfl,rfl⟩|⟨x,t,rfl,rfl⟩
  ·rcases cW hv with⟨j,u,rfl,rfl⟩|⟨y,u,rfl,rfl⟩
   ·rw[qbb] at h;exact wpAny_eqBool_int h
   ·rw[qbd] at h;exact SeqAt.EqAt.int_str i t y u _ _ _ _ h
  ·rcases cW hv with⟨j,u,rfl,rfl⟩|⟨y,u,rfl,rfl⟩
   ·rw[qbe] at h;exact SeqAt.EqAt.str_int x t j u _ _ _ _ h
   ·rw[qbc] at h;exact wpAny_eqBool_str h
 «strs»:=λk x t v h=>by
  rcases cW h with⟨i,u,rfl,e⟩|⟨y,u,rfl,e⟩
  ·exact nomatch e
  ·injection e with e1 _;subst e1;cases v <;> rfl
theorem yM(prog:Program)(w:World)(i:Int)(t:Tok):(bJ prog w).is (.inl i) (.int i t)=true:=DQ i t
theorem Iz(prog:Program)(w:World)(x:Str)(t:Tok):(bJ prog w).is (.inr x) (.str x t)=true:=DR x t
inductive V where
 |non|bl (b:Bool)|int (i:Int)|str (x:Str)|Ug (b:Array UInt8)|flt (b:UInt64)|ref (a:Addr)|ty (n:String)
 deriving DecidableEq
def RelV:V->Value->Prop
 |.non,u=>u=Value.none
 |.bl b,u=>u=Value.bool b
 |.int i,u=>∃t,u=Value.int i t
 |.str x,u=>∃t,u=Value.str x t
 |.Ug b,u=>∃t,u=Value.bytes b t
 |.flt b,u=>∃t,u=Value.float b t
 |.ref a,u=>u=Value.ref a
 |.ty n,u=>u=Value.type n
abbrev Vals:List V->List Value->Prop:=Paired RelV
theorem Vals.length{xs:List V}{us:QAE}(r:Vals xs us):xs.length=us.length:=Paired.length r
theorem Vals.get:∀{xs:List V}{us:QAE}{i:Nat}{x:V},Vals xs us->xs[i]? = some x->∃u,us[i]? = some u/\RelV x u
 |_,_,_,_,.nil,e=>by simp at e
 |_,_,0,_,.cons r _,e=>by simp at e;subst e;exact⟨_,rfl,r⟩
 |_,_,i+1,x,.cons _ t,e=>by
  obtain⟨u,h1,h2⟩:=Vals.get (i:=i) (x:=x) t (by simpa using e);exact⟨u,by simpa using h1,h2⟩
theorem Vals.set{x:V}{u:Value}(r:RelV x u):∀{xs:List V}{us:QAE}(i:Nat),Vals xs us->Vals (xs.set i x) (us.set i u)
 |_,_,_,.nil=>.nil
 |_,_,0,.cons _ t=>.cons r t
 |_,_,i+1,.cons q t=>.cons q (Vals.set r i t)
theorem Vals.append:∀{xs ys:List V}{us ws:QAE},Vals xs us->Vals ys ws->Vals (xs++ys) (us++ws)
 |_,_,_,_,.nil,s=>s
 |_,_,_,_,.cons r t,s=>.cons r (Vals.append t s)
theorem Vals.take:∀{xs:List V}{us:QAE}(n:Nat),Vals xs us->Vals (xs.take n) (us.take n)
 |_,_,0,_=>.nil
 |_,_,_+1,.nil=>.nil
 |_,_,n+1,.cons r t=>.cons r (Vals.take n t)
theorem Vals.drop:∀{xs:List V}{us:QAE}(n:Nat),Vals xs us->Vals (xs.drop n) (us.drop n)
 |_,_,0,r=>r
 |_,_,_+1,.nil=>.nil
 |_,_,n+1,.cons _ t=>Vals.drop n t
def lQ:Option V->Option Value->Prop
 |some v,some u=>RelV v u
 |none,none=>True
 |_,_=>False
def KV{κ:Type}:List (κ×V)->List (κ×Value)->Prop:=Paired fun(p:κ×V) (q:κ×Value)=>p.1=q.1/\RelV p.2 q.2
def kV:Key->V
 |.inl i=>.int i
 |.inr x=>.str x
inductive HO where
 |lst (xs:List V)
 |tup (xs:List V)
 |dK (kvs:List (Key×V))|dT (kvs:List (List Key×V))
 |set (S:Int->Bool) (n:Nat)
 |ins (C dx:Addr) (fs:List (Str×V))
 |own (x:Addr)
 |xd (fs:List (Str×V))
 |met (f x:Addr)
 |rng (lo hi:Int)
 |IV (o:Obj) (u:HO)
 |xg (ps:Array Value)
 |ext (φ:Heap->Prop)
abbrev Hp:=Addr->Option HO
def upd(H:Hp)(a:Addr)(o:HO):Hp:=λb=>if b=a then some o else H b
theorem ak{H:Hp}{a:Addr}{o:HO}:upd H a o a=some o:=by unfold upd;rw[if_pos rfl]
theorem aD{H:Hp}{a b:Addr}{o:HO}(h:b≠a):upd H a o b=H b:=by unfold upd;rw[if_neg h]
theorem iR{H:Hp}{a b:Addr}{o u:HO}(h:H a=some o)(h':H b=some u)(d:o≠u):a≠b:=by
 intro e;subst e;rw[h] at h';exact d (qjI h')
theorem aW{H:Hp}{a b:Addr}{o:HO}(h:H a=some o)(h':H b=none):a≠b:=by
 intro e;subst e;rw[h] at h';cases h'
section
variable (P:Program)(w:World)
def b_(H:Hp)(h:Heap)(a:Addr):HO->Prop
 |.lst xs=>xs.length<=sizeLine/\∃(its:QAE)(n:Nat),Vals xs its/\h.get? a=some {cls:=.type "list",data:=.seq its.toArray n}
 |.tup xs=>xs.length<=sizeLine/\∃its:QAE,Vals xs its/\IsTup h a its.toArray
 |.dK kvs=>kvs.length<=sizeLine/\(a == sysModules)=false/\∃vs,KV kvs vs/\h.DictOf (bJ P w) a vs
 |.dT kvs=>kvs.length<=sizeLine/\(a == sysModules)=false/\∃xs:List (List Key×Addr×Value),
   Paired (fun(p:List Key×V) (q:List Key×Addr×Value)=>p.1=q.1/\H q.2.1=some (.tup (p.1.map kV))/\RelV p.2 q.2.2) kvs xs/\
   ∃o es ep,h.get? a=some o/\o.ExactDict/\o.data = .dict es ep/\es.toList=xs.map (entryOfKey (tupleKind (bJ P w)))/\(xs.map (·.1)).Nodup
 |.set S n=>h.SetOf (intKind P w) a S n
 |.ins C dx fs=>H dx=some (.own a)/\fs.length<=1000/\dx≠a/\h.get? a=some (W.instObj C dx)/\
   ∃mA,h.Ns1 dx mA/\(∀f,lQ (fs.lookup f) (mA f))/\PySem.Within mA (fs.map (·.1))
 |.own _=>∃o,h.get? a=some o
 |.xd fs=>∃mA,h.Ns1 a mA/\∀f,lQ (fs.lookup f) (mA f)
 |.rng lo hi=>∃t u v,h.get? a=some {cls:=.type "range",data:=.fields #[.int lo t,.int hi u,.int 1 v]}
 |.IV o u=>h.get? a=some o/\b_ H h a u
 |.xg ps=>h.get? a=some {cls:=.none,data:=.fields ps}
 |.met f x=>h.get? a=some (W.methodObj (.ref f) (.ref x))
 |.ext φ=>φ h/\(∃o,h.get? a=some o)/\∀h1 h2:Heap,φ h1->(∀o,h1.get? a=some o->h2.get? a=some o)->φ h2
def tH(H:Hp)(h:Heap):Prop:=∀a o,H a=some o->b_ P w H h a o
end
section
variable {P:Program}{w:World}{H H':Hp}{h h':Heap}{a:Addr}{o:HO}
theorem b_.lt(x:b_ P w H h a o):a<h.objs.size:=by
 cases o with
 |lst xs=>obtain⟨_,_,_,_,e⟩:=x;exact qjd e
 |tup xs=>obtain⟨_,_,_,p⟩:=x;exact p.lt
 |dK kvs=>obtain⟨_,_,_,_,o,_,_,e,_⟩:=x;exact qjd e
 |dT kvs=>obtain⟨_,_,_,_,o,_,_,e,_⟩:=x;exact qjd e
 |set S n=>obtain⟨o,_,_,_,e,_⟩:=x;exact qjd e
 |ins C dx fs=>obtain⟨_,_,_,e,_⟩:=x;exact qjd e
 |own y=>obtain⟨_,e⟩:=x;exact qjd e
 |xd fs=>obtain⟨_,⟨_,_,_,e,_⟩,_⟩:=x;exact qjd e
 |rng lo hi=>obtain⟨_,_,_,e⟩:=x;exact qjd e
 |IV ob u=>obtain⟨e,_⟩:=x;exact qjd e
 |xg ps=>exact qjd (show h.get? a=some _ from x)
 |met f y=>exact qjd (show h.get? a=some _ from x)
 |ext φ=>obtain⟨_,⟨_,e⟩,_⟩:=x;exact qjd e
theorem Paired.qbf{α β:Type}{F G:α->β->Prop}:∀{l₁:List α}{l₂:List β},Paired F l₁ l₂->(∀a b,F a b->G a b)->Paired G l₁ l₂
 |_,_,.nil,_=>.nil
 |_,_,.cons r t,f=>.cons (f _ _ r) (Paired.qbf t f)
theorem b_.stay(x:b_ P w H h a o)(k:∀b u,(b=a\/H b=some (.own a))->h.get? b=some u->h'.get? b=some u)
  (ho:∀b,H b=some (.own a)->H' b=some (.own a)) (ht:∀b xs,H b=some (.tup xs)->H' b=some (.tup xs)):b_ P w H' h' a o:=by
 induction o with
 |lst xs=>obtain⟨z,its,n,r,e⟩:=x;exact⟨z,its,n,r,k _ _ (.inl rfl) e⟩
 |tup xs=>obtain⟨z,its,r,ob,e,c⟩:=x;exact⟨z,its,r,ob,k _ _ (.inl rfl) e,c⟩
 |dK kvs=>obtain⟨z,y,vs,r,ob,es,ep,e,c⟩:=x;exact⟨z,y,vs,r,ob,es,ep,k _ _ (.inl rfl) e,c⟩
 |dT kvs=>
  obtain⟨z,y,xs,r,ob,es,ep,e,c⟩:=x;exact⟨z,y,xs,Paired.qbf r λp q z=>⟨z.1,ht _ _ z.2.1,z.2.2⟩,ob,es,ep,k _ _ (.inl rfl) e,c⟩
 |set S n=>obtain⟨ob,es,ep,t,e,c⟩:=x;exact⟨ob,es,ep,t,k _ _ (.inl rfl) e,c⟩
 |ins C dx fs=>
  obtain⟨d,z,ne,e,mA,⟨od,es,ep,e2,c⟩,r⟩:=x;exact⟨ho _ d,z,ne,k _ _ (.inl rfl) e,mA,⟨od,es,ep,k _ _ (.inr d) e2,c⟩,r⟩
 |own y=>obtain⟨ob,e⟩:=x;exact⟨ob,k _ _ (.inl rfl) e⟩
 |xd fs=>obtain⟨mA,⟨od,es,ep,e,c⟩,r⟩:=x;exact⟨mA,⟨od,es,ep,k _ _ (.inl rfl) e,c⟩,r⟩
 |rng lo hi=>obtain⟨t,u,v,e⟩:=x;exact⟨t,u,v,k _ _ (.inl rfl) e⟩
 |IV ob u ih=>obtain⟨e,q⟩:=x;exact⟨k _ _ (.inl rfl) e,ih q⟩
 |xg ps=>
  have e:h.get? a=some {cls:=.none,data:=.fields ps}:=x;show h'.get? a=some {cls:=.none,data:=.fields ps};exact k a _ (.inl rfl) e
 |met f y=>
  have e:h.get? a=some (W.methodObj (.ref f) (.ref y)):=x;show h'.get? a=some (W.methodObj (.ref f) (.ref y));exact k a _ (.inl rfl) e
 |ext φ=>obtain⟨p,⟨o,e⟩,st⟩:=x;exact⟨st _ _ p λo q=>k _ _ (.inl rfl) q,⟨o,k _ _ (.inl rfl) e⟩,st⟩
theorem tH.lt(x:tH P w H h)(e:H a=some o):a<h.objs.size:=(x a o e).lt
theorem tH.fresh(x:tH P w H h)(e:h.objs.size<=a):H a=none:=by
 cases q:H a with
 |none=>rfl
 |some u=>exact absurd (qjl (x.lt q) e) (qki _)
theorem tH.kept(x:tH P w H h)(k:∀b u,h.get? b=some u->h'.get? b=some u):tH P w H h':=λa o e=>
 (x a o e).stay (λb u _ q=>k b u q) (λ_ q=>q) λ_ _ q=>q
theorem tH.laid(x:tH P w H h)(k:∀b u,h.get? b=some u->h'.get? b=some u)(hp:h.objs.size<=a)(new:b_ P w (upd H a o) h' a o):tH P w (upd H a o) h':=λb u e=>by
 have hn:=x.fresh hp
 by_cases hb:b=a
 ·subst hb;rw[ak] at e;cases e;exact new
 ·rw[aD hb] at e;exact(x b u e).stay (λc v _ q=>k c v q) (λc q=>by rw[aD (aW q hn)];exact q) λc xs q=>by rw[aD (aW q hn)];exact q
end
def Rd(H:Hp)(a:Addr)(u:HO):Prop:=H a=some u\/∃o,H a=some (.IV o u)
theorem Rd.ok{P:Program}{w:World}{H:Hp}{h:Heap}{a:Addr}{u:HO}(r:Rd H a u)(x:tH P w H h):b_ P w H h a u:=by
 rcases r with r|⟨o,r⟩
 ·exact x a u r
 ·obtain⟨_,q⟩:=x a _ r;exact q
def Mut:Option HO->Prop
 |some (.lst _)=>True
 |some (.dK _)=>True
 |some (.dT _)=>True
 |some (.set _ _)=>True
 |some (.ins _ _ _)=>True
 |some (.ext _)=>True
 |_=>False
section
variable {P:Program}{w:World}{H:Hp}{h h':Heap}{x e:Addr}{o':HO}
theorem tH.write(ok:tH P w H h)(mu:Mut (H x))(he:e=x\/H e=some (.own x))(k:∀b u,b≠e->h.get? b=some u->h'.get? b=some u)(heo:∃u,h'.get? e=some u)
  (new:b_ P w (upd H x o') h' x o'):tH P w (upd H x o') h':=λb u q=>by
 have qdn:∀c y,H c=some (.own y)->c≠x:=λc y r z=>by subst z;rw[r] at mu;exact mu
 have qgE:∀c xs,H c=some (.tup xs)->c≠x:=λc xs r z=>by subst z;rw[r] at mu;exact mu
 by_cases hb:b=x
 ·subst hb;rw[ak] at q;cases q;exact new
 ·rw[aD hb] at q
  by_cases hbe:b=e
  ·have q':H b=some (.own x):=by
    rcases he with z|z
    ·exact absurd (hbe.trans z) hb
    ·rw[hbe];exact z
   rw[q] at q';cases q';obtain⟨v,hv⟩:=heo;exact⟨v,by rw[hbe];exact hv⟩
  ·refine(ok b u q).stay (λc v hc r=>k c v ?_ r) (λc r=>by rw[aD (qdn c b r)];exact r) λc xs r=>by rw[aD (qgE c xs r)];exact r
   rcases hc with rfl|hc
   ·exact hbe
   ·rintro rfl
    rcases he with z|z
    ·exact qdn c b hc z
    ·rw[hc] at z;cases z;exact hb rfl
end
structure Un(fs ex:List Addr)(H H':Hp)(h h':Heap):Prop where
 keep:∀b o,h.get? b=some o->H b=none->b∉fs->b∉ex->h'.get? b=some o
 slot:∀b o,h.get? b=some o->H b=none->b∈fs->b∉ex->∃sl,h'.get? b=some {o with slots:=sl}
 free:∀b o,h.get? b=some o->H b=none->b∉ex->H' b=none
 there:∀b o,h.get? b=some o->b∉ex->∃o',h'.get? b=some o'
 tups:∀b xs,H b=some (.tup xs)->H' b=some (.tup xs)
 vM:∀b o u,H b=some (.IV o u)->H' b=some (.IV o u)
 vN:∀b ps,H b=some (.xg ps)->∃more,H' b=some (.xg (ps++more))
section
variable {fs fs' ex ex':List Addr}{H H1 H2:Hp}{h h1 h2 h':Heap}{a x e:Addr}{o:HO}
theorem Un.any(u:Un fs ex H H1 h h1){b:Addr}{ob:Obj}(q:h.get? b=some ob)(n:H b=none)(hx:b∉ex):∃sl,h1.get? b=some {ob with slots:=sl}:=by
 by_cases hb:b∈fs
 ·exact u.slot b ob q n hb hx
 ·exact⟨ob.slots,u.keep b ob q n hb hx⟩
theorem Un.kept(k:∀b u,h.get? b=some u->h'.get? b=some u):Un fs ex H H h h':=
 ⟨λb ob q _ _ _=>k b ob q,λb ob q _ _ _=>⟨ob.slots,k b ob q⟩,λ_ _ _ n _=>n,λb ob q _=>⟨ob,k b ob q⟩,λ_ _ q=>q,λ_ _ _ q=>q,λ_ ps q=>⟨#[],by rw[q];simp⟩⟩
theorem Un.refl:Un fs ex H H h h:=Un.kept λ_ _ q=>q
theorem Un.laid(k:∀b u,h.get? b=some u->h'.get? b=some u)(hp:h.objs.size<=a)(hn:H a=none):Un fs ex H (upd H a o) h h' where
 keep:=λb u q _ _ _=>k b u q
 slot:=λb u q _ _ _=>⟨u.slots,k b u q⟩
 free:=λb u q n _=>by rw[aD (qjn (qjl (qjd q) hp))];exact n
 there:=λb u q _=>⟨u,k b u q⟩
 tups:=λb xs q=>by rw[aD (aW q hn)];exact q
 vM:=λb u xs q=>by rw[aD (aW q hn)];exact q
 vN:=λb ps q=>⟨#[],by rw[aD (aW q hn),q];simp⟩
theorem Un.write(mu:Mut (H x))(he:e=x\/H e=some (.own x))(k:∀b u,b≠e->h.get? b=some u->h'.get? b=some u)(heo:∃u,h'.get? e=some u):Un fs ex H (upd H x o) h h':=by
 have hx:∀b,H b=none->b≠x:=λb n z=>by subst z;rw[n] at mu;exact mu
 have hb:∀b,H b=none->b≠e:=λb n z=>by
  subst z
  rcases he with r|r
  ·exact hx b n r
  ·rw[n] at r;cases r
 have hm:∀b u,H b=some u->¬Mut (some u)->b≠x:=λb u q nm z=>by subst z;rw[q] at mu;exact nm mu
 refine⟨λb u q n _ _=>k b u (hb b n) q,λb u q n _ _=>⟨u.slots,k b u (hb b n) q⟩,λb u q n _=>by rw[aD (hx b n)];exact n,λb u q _=>?_,
  λb xs q=>by rw[aD (hm b _ q λz=>z)];exact q,λb u xs q=>by rw[aD (hm b _ q λz=>z)];exact q,λb ps q=>⟨#[],by rw[aD (hm b _ q λz=>z),q];simp⟩⟩
 by_cases hbe:b=e
 ·subst hbe;exact heo
 ·exact⟨u,k b u hbe q⟩
end
def trk(h:Heap)(H:Hp):List Addr:=(List.range h.objs.size).filter λa=>(H a).isSome
def zQ(h:Heap)(H:Hp):Heap:=W.hideAll h (trk h H)
theorem QH(h:Heap)(H:Hp):(zQ h H).objs.size=h.objs.size:=W.hideAll_size _ _
theorem Uo{h:Heap}{H:Hp}{b:Addr}{o:Obj}(e:h.get? b=some o)(n:H b=none):(zQ h H).get? b=some o:=
 W.hideAll_get _ e λhm=>by
  have q:(H b).isSome=true:=(qjy.mp hm).2;rw[n] at q;simp at q
theorem Yw{h:Heap}{H:Hp}{b:Addr}{o:Obj}(e:(zQ h H).get? b=some o):h.get? b=some o/\H b=none:=by
 have e':h.get? b=some o:=W.of_hideAll (trk h H) e;refine⟨e',?_⟩;cases q:H b with
 |none=>rfl
 |some x=>
  have hm:b∈trk h H:=qjy.mpr ⟨qkc.mpr (qjd e'),by simp[q]⟩;have z:(zQ h H).get? b=none:=W.hideAll_none (trk h H) hm;rw[z] at e;cases e
def Yx(g h:Heap)(L:Addr):QAC:=(List.range h.objs.size).filterMap λa=>if a=L\/(g.get? a).isSome=true then none else (h.get? a).map λo=>(a,o)
def rest(g h:Heap)(L d:Addr):QAC:=(Yx g h L).filter λp=>decide (p.1≠d)
structure Mod(K:W.Frag)(mg:Str->Option Value)(base:Heap):Prop where
 OD:K.In base
 glob:base.Ns mainGlobals mg
 blt:∃mb,base.Ns builtinsNs mb/\∀x:Str,x≠ "__name__" ->mb x=bootBuiltins x
 nolimit:base.NoLimit
set_option genInjectivity false in
structure Cx where
 prog:Program
 w:World
 K:W.Frag
 mg:Str->Option Value
 base:Heap
 A:Around
 N:QAH
 s₀:Shared
 H₀:Hp
 env:Env
 outer:List Env
 stack:List Env
 ex:List Addr
 fn:Str->Bool
 calm:Bool
 pn:QAC
 xe:QAB
def frs(l:List Env):List Addr:=l.filterMap (·.frame)
abbrev Cx.fs(X:Cx):List Addr:=frs X.outer
def Vis(sc:Scope)(x:Str):Prop:=sc.names.lookup x=some .local\/sc.names.lookup x=some .cell\/sc.names.lookup x=some .free
def Loc(sc:Scope)(x:Str):Prop:=sc.names.lookup x=some .local\/sc.names.lookup x=some .cell
def Look(env:Env)(h:Heap)(m:Str->Option Value)(x:Str)(u:Value):Prop:=
 (env.kindOf x=some .local/\m x=some u)\/((env.kindOf x=some .cell\/env.kindOf x=some .free)/\∃c,env.cells.lookup x=some c/\h.IsCell c (some u))
structure Cx.Ok(X:Cx):Prop where
 mod:Mod X.K X.mg X.base
 kind:X.env.scope.kind = .function
 glob:X.env.globals=mainGlobals
 blt:X.env.builtins=builtinsNs
 above:X.s₀.heap.objs.size<=X.env.locals
 inj:∀x y c,X.env.cells.lookup x=some c->X.env.cells.lookup y=some c->x=y
 has:∀x,(X.env.kindOf x=some .cell\/X.env.kindOf x=some .free)->∃c,X.env.cells.lookup x=some c
 cab:∀x c,X.fn x=true->X.env.cells.lookup x=some c->X.s₀.heap.objs.size<=c
 hd:X.calm=true->X.A.handled=none
 frames:X.A.frames=some X.stack
 stk:X.stack=X.outer\/(X.stack=X.env::X.outer/\X.env.frame=some X.env.locals)
 exf:∀b∈X.ex,b≠X.env.locals/\∀x c,X.env.cells.lookup x=some c->c≠b
 bs:∀b o,X.base.get? b=some o->X.s₀.heap.get? b=some o/\X.H₀ b=none
 Uq:X.base.objs.size<=X.s₀.heap.objs.size
 QJ:∀b o,X.base.get? b=some o->b∉X.ex
 QK:∀b∈X.ex,b∉X.fs
 uR:X.s₀.heap.FunFrames X.base X.outer
 Yy:∀b∈X.fs,X.H₀ b=none
structure Inv(X:Cx)(p_:QAC)(σ:List (Option V))(H:Hp)(s:Shared):Prop where
 ok:X.Ok
 os:s.os=X.s₀.os
 bare:AllBare s.gens
 base:Un X.fs X.ex X.H₀ H X.s₀.heap s.heap
 loc:∃m,s.heap.Ns X.env.locals m/\∀(i:Nat)(x:Str)(v:V),X.N[i]? = some x->σ[i]? = some (some v)->Vis X.env.scope x->∃u,RelV v u/\Look X.env s.heap m x u
 cell:∀x c,X.env.cells.lookup x=some c->∃v,s.heap.IsCell c v
 free:H X.env.locals=none
 m6:∀x c,X.env.cells.lookup x=some c->H c=none
 pin:∀p∈X.pn++p_,s.heap.get? p.1=some p.2/\H p.1=none/\p.1≠X.env.locals/\p.1∉X.fs/\∀v,p.2.data≠.cell v
 hok:tH X.prog X.w H s.heap
 len:σ.length=X.N.length
section
variable {X:Cx}{p_:QAC}{σ:List (Option V)}{H H':Hp}{s:Shared}{h':Heap}
theorem Cx.Ok.qgF(ok:X.Ok){b:Addr}{o:Obj}(e:X.base.get? b=some o):b∉X.fs:=λhb=>by
 have:=(ok.uR.mem hb).1;rw[e] at this;cases this
theorem Inv.bs(I:Inv X p_ σ H s):∀b o,X.base.get? b=some o->s.heap.get? b=some o/\H b=none:=λb o e=>
 ⟨I.base.keep b o (I.ok.bs b o e).1 (I.ok.bs b o e).2 (I.ok.qgF e) (I.ok.QJ b o e),I.base.free b o (I.ok.bs b o e).1 (I.ok.bs b o e).2 (I.ok.QJ b o e)⟩
theorem Inv.bk(I:Inv X p_ σ H s):∀b o,X.base.get? b=some o->s.heap.get? b=some o:=λb o e=>(I.bs b o e).1
theorem Inv.mod(I:Inv X p_ σ H s):Mod X.K X.mg X.base:=I.ok.mod
theorem Inv.rm(I:Inv X p_ σ H s):X.K.In s.heap:=I.ok.mod.OD.keeps I.bk
theorem Inv.lt(I:Inv X p_ σ H s):X.env.locals<s.heap.objs.size:=let ⟨_,hn,_⟩:=I.loc;hn.lt
theorem Inv.sz(I:Inv X p_ σ H s):X.s₀.heap.objs.size<=s.heap.objs.size:=qjx I.ok.above (qkC I.lt)
theorem Inv.qgG(I:Inv X p_ σ H s){a:Addr}(h:s.heap.objs.size<=a):a∉X.fs:=λhb=>by
 obtain⟨_,o,ho,_⟩:=I.ok.uR.mem hb;exact absurd (qjl (qjd ho) (qjx I.sz h)) (qki _)
theorem Inv.cne(I:Inv X p_ σ H s):∀x c,X.env.cells.lookup x=some c->c≠X.env.locals:=λx c e z=>by
 obtain⟨v,o,ho,hd⟩:=I.cell x c e;obtain⟨m,⟨o',es,ep,ho',hd',_⟩,_⟩:=I.loc;rw[z,ho'] at ho;cases ho;rw[hd'] at hd;cases hd
theorem Inv.uR(I:Inv X p_ σ H s):s.heap.FunFrames X.base X.outer:=by
 have all:∀(l:List Env),(∀b∈frs l,b∈X.fs)->X.s₀.heap.FunFrames X.base l->s.heap.FunFrames X.base l:=by
  intro l
  induction l with
  |nil=>intro _ _;trivial
  |cons env r ih=>
   intro hs hl;obtain⟨hk,⟨L,o,hf,hn,ho,hd⟩,hr⟩:=hl;have hL:L∈X.fs:=hs L (by unfold frs;rw[List.filterMap_cons,hf];exact qjp);obtain⟨sl,e⟩:=I.base.slot L o ho (I.ok.Yy L hL) hL λz=>I.ok.QK L z hL;exact⟨hk,⟨L,_,hf,hn,e,hd⟩,ih (λb hb=>hs b (by unfold frs;rw[List.filterMap_cons,hf];exact qjf _ hb)) hr⟩
 exact all X.outer (λ_ hb=>hb) I.ok.uR
theorem Inv.stack(I:Inv X p_ σ H s):s.heap.FunFrames X.base X.stack:=by
 rcases I.ok.stk with e|⟨e,hf⟩
 ·rw[e];exact I.uR
 ·rw[e];obtain⟨m,hn,_⟩:=I.loc;refine .cons (by rw[I.ok.kind];decide) hf hn ?_ I.uR;exact Heap.get?_none_of_le (qjx I.ok.Uq I.ok.above)
theorem Inv.zR(I:Inv X p_ σ H s):∀b∈frs X.stack,b∈X.env.locals::X.fs:=λb hb=>by
 rcases I.ok.stk with e|⟨e,hf⟩
 ·rw[e] at hb;exact qjf _ hb
 ·rw[e] at hb;unfold frs at hb;rw[List.filterMap_cons,hf] at hb;exact hb
theorem Inv.FZ(I:Inv X p_ σ H s):∀b∈frs X.stack,H b=none:=λb hb=>by
 rcases qjm.mp (I.zR b hb) with e|hb
 ·rw[e];exact I.free
 ·obtain⟨_,o,ho,_⟩:=I.ok.uR.mem hb;exact I.base.free b o ho (I.ok.Yy b hb) λz=>I.ok.QK b z hb
theorem Inv.step{g':Array GenState}{t':Nat}{d':Drawn}{ch:List Addr}(I:Inv X p_ σ H s)
  (hch:∀b∈ch,(b∈X.ex\/X.s₀.heap.objs.size<=b)/\b≠X.env.locals/\(∀x c,X.env.cells.lookup x=some c->c≠b)/\∀p∈X.pn++p_,p.1≠b)
  (keep:∀b o,b≠X.env.locals->b∉X.fs->b∉ch->s.heap.get? b=some o->H b=none->h'.get? b=some o)
  (slot:∀b o,b≠X.env.locals->b∈X.fs->b∉ch->s.heap.get? b=some o->H b=none->∃sl,h'.get? b=some {o with slots:=sl}) (free:∀b o,b∉ch->s.heap.get? b=some o->H b=none->H' b=none)
  (there:∀b o,b∉ch->s.heap.get? b=some o->∃o',h'.get? b=some o')
  (tups:∀b xs,H b=some (.tup xs)->H' b=some (.tup xs)) (vM:∀b o u,H b=some (.IV o u)->H' b=some (.IV o u)) (vN:∀b ps,H b=some (.xg ps)->∃more,H' b=some (.xg (ps++more)))
  (ns:∀m,s.heap.Ns X.env.locals m->h'.Ns X.env.locals m) (hok:tH X.prog X.w H' h') (hg:AllBare g') :
  Inv X p_ σ H' {s with heap:=h',gens:=g',drawn:=d',toks:=t'}:=by
 have neL:∀b o,X.s₀.heap.get? b=some o->b≠X.env.locals:=λb o e=>qjn (qjl (qjd e) I.ok.above);have neC:∀b o,X.s₀.heap.get? b=some o->b∉X.ex->b∉ch:=λb o e hx hb=>by
  rcases(hch b hb).1 with z|z
  ·exact hx z
  ·exact absurd (qjl (qjd e) z) (qki _)
 have cellK:∀x c,X.env.cells.lookup x=some c->∀v,s.heap.IsCell c v->h'.IsCell c v:=λx c e v ⟨o,ho,hd⟩=>by
  have nch:c∉ch:=λz=>(hch c z).2.2.1 x c e rfl
  by_cases hc:c∈X.fs
  ·obtain⟨sl,q⟩:=slot c o (I.cne x c e) hc nch ho (I.m6 x c e);exact⟨_,q,hd⟩
  ·exact⟨o,keep c o (I.cne x c e) hc nch ho (I.m6 x c e),hd⟩
 refine⟨I.ok,I.os,hg,⟨λb o e n hb hx=>?_,λb o e n hb hx=>?_,λb o e n hx=>?_,λb o e hx=>?_,λb xs e=>tups b xs (I.base.tups b xs e),λb o xs e=>vM b o xs (I.base.vM b o xs e),λb ps e=>?_⟩,?_,λx c e=>?_,?_,λx c e=>?_,λp hp=>?_,hok,I.len⟩
 ·exact keep b o (neL b o e) hb (neC b o e hx) (I.base.keep b o e n hb hx) (I.base.free b o e n hx)
 ·obtain⟨sl,e1⟩:=I.base.slot b o e n hb hx;obtain⟨sl',e2⟩:=slot b _ (neL b o e) hb (neC b o e hx) e1 (I.base.free b o e n hx);exact⟨sl',e2⟩
 ·obtain⟨o',e1⟩:=I.base.there b o e hx;exact free b o' (neC b o e hx) e1 (I.base.free b o e n hx)
 ·obtain⟨o',e1⟩:=I.base.there b o e hx;exact there b o' (neC b o e hx) e1
 ·obtain⟨m1,e1⟩:=I.base.vN b ps e;obtain⟨m2,e2⟩:=vN b _ e1;exact⟨m1++m2,by rw[e2,Array.append_assoc]⟩
 ·obtain⟨m,hn,hl⟩:=I.loc;refine⟨m,ns m hn,λi x v e1 e2 e3=>?_⟩;obtain⟨u,r,l⟩:=hl i x v e1 e2 e3;refine⟨u,r,?_⟩
  rcases l with l|⟨k,c,e,z⟩
  ·exact .inl l
  ·exact .inr ⟨k,c,e,cellK x c e _ z⟩
 ·obtain⟨v,z⟩:=I.cell x c e;exact⟨v,cellK x c e v z⟩
 ·obtain⟨m,⟨o,_,_,ho,_⟩,_⟩:=I.loc;exact free _ o (λz=>(hch _ z).2.1 rfl) ho I.free
 ·obtain⟨v,o,ho,hd⟩:=I.cell x c e;exact free c o (λz=>(hch c z).2.2.1 x c e rfl) ho (I.m6 x c e)
 ·obtain⟨e,n,ne,nf,d⟩:=I.pin p hp;have nch:p.1∉ch:=λz=>(hch p.1 z).2.2.2 p hp rfl;exact⟨keep p.1 p.2 ne nf nch e n,free p.1 p.2 nch e n,ne,nf,d⟩
theorem Inv.un{t':Nat}(I:Inv X p_ σ H s)(u:Un X.fs [] H H' s.heap h')(hok:tH X.prog X.w H' h'):Inv X p_ σ H' {s with heap:=h',toks:=t'}:=by
 obtain⟨m,⟨o,es,ep,ho,r⟩,_⟩:=id I.loc;obtain⟨sl,hL⟩:=u.any ho I.free (by simp);exact I.step (g':=s.gens) (d':=s.drawn) (ch:=[]) (λ_ z=>nomatch z) (λb o _ hb _ e n=>u.keep b o e n hb (by simp)) (λb o _ hb _ e n=>u.slot b o e n hb (by simp)) (λb o _ e n=>u.free b o e n (by simp)) (λb o _ e=>u.there b o e (by simp)) u.tups u.vM u.vN (λm' hm=>by
  obtain⟨o',es',ep',ho',r'⟩:=hm;rw[ho] at ho';cases ho';exact⟨_,es',ep',hL,r'⟩) hok I.bare
theorem Inv.call{g':Array GenState}{t':Nat}{d':Drawn}{ch:List Addr}(I:Inv X p_ σ H s)(u:Un (frs X.stack) ch H H' s.heap h')(hok:tH X.prog X.w H' h')(hg:AllBare g')
  (hch:∀b∈ch,(b∈X.ex\/X.s₀.heap.objs.size<=b)/\b≠X.env.locals/\(∀x c,X.env.cells.lookup x=some c->c≠b)/\∀p∈X.pn++p_,p.1≠b) :
  Inv X p_ σ H' {s with heap:=h',gens:=g',drawn:=d',toks:=t'}:=by
 obtain⟨m,⟨o,es,ep,ho,r⟩,_⟩:=id I.loc;obtain⟨sl,hL⟩:=u.any ho I.free λz=>(hch _ z).2.1 rfl;exact I.step (ch:=ch) hch (λb o hL hb hc e n=>u.keep b o e n (λz=>(qjm.mp (I.zR b z)).elim hL hb) hc) (λb o _ _ hc e n=>u.any e n hc) (λb o hc e n=>u.free b o e n hc) (λb o hc e=>u.there b o e hc) u.tups u.vM u.vN (λm' hm=>by
  obtain⟨o',es',ep',ho',r'⟩:=hm;rw[ho] at ho';cases ho';exact⟨_,es',ep',hL,r'⟩) hok hg
theorem Inv.turned{t':Nat}{it:Addr}(I:Inv X p_ σ H s)(k:∀b o,b≠it->s.heap.get? b=some o->h'.get? b=some o)(hn:H it=none)(hL:it≠X.env.locals)
  (h1:it∈X.ex\/X.s₀.heap.objs.size<=it) (h2:∀x c,X.env.cells.lookup x=some c->c≠it) (h3:∀p∈X.pn++p_,p.1≠it):Inv X p_ σ H {s with heap:=h',toks:=t'}:=by
 have nit:∀b u,H b=some u->b≠it:=λb u e z=>by rw[z,hn] at e;cases e
 refine I.step (g':=s.gens) (d':=s.drawn) (ch:=[it]) (λb hb=>?_) (λb o _ _ hc e _=>k b o (λz=>hc (by simp[z])) e) (λb o _ _ hc e _=>⟨o.slots,k b o (λz=>hc (by simp[z])) e⟩) (λ_ _ _ _ n=>n)
  (λb o hc e=>⟨o,k b o (λz=>hc (by simp[z])) e⟩) (λ_ _ e=>e) (λ_ _ _ e=>e) (λb ps e=>⟨#[],by rw[e];simp⟩) (λm hm=>?_) (λb u e=>?_) I.bare
 ·have e:b=it:=by simpa using hb
  subst e;exact⟨h1,hL,h2,h3⟩
 ·obtain⟨o,es,ep,ho,r⟩:=hm;exact⟨o,es,ep,k _ o (qk7 hL) ho,r⟩
 ·refine(I.hok b u e).stay (λc v hc q=>k c v ?_ q) (λ_ q=>q) λ_ _ q=>q
  rcases hc with z|z
  ·rw[z];exact nit b u e
  ·exact nit c _ z
theorem Inv.tok(I:Inv X p_ σ H s)(t:Nat):Inv X p_ σ H {s with toks:=t}:=I.un (h':=s.heap) (t':=t) Un.refl I.hok
theorem Inv.kept{t':Nat}(I:Inv X p_ σ H s)(k:∀b u,s.heap.get? b=some u->h'.get? b=some u):Inv X p_ σ H {s with heap:=h',toks:=t'}:=I.un (Un.kept k) (I.hok.kept k)
theorem Inv.laid{a:Addr}{o:HO}{t':Nat}(I:Inv X p_ σ H s)(k:∀b u,s.heap.get? b=some u->h'.get? b=some u)(hp:s.heap.objs.size<=a)(new:b_ X.prog X.w (upd H a o) h' a o) :
  Inv X p_ σ (upd H a o) {s with heap:=h',toks:=t'}:=I.un (Un.laid k hp (I.hok.fresh hp)) (I.hok.laid k hp new)
theorem Inv.write{x e:Addr}{o:HO}{t':Nat}(I:Inv X p_ σ H s)(mu:Mut (H x))(he:e=x\/H e=some (.own x))(k:∀b u,b≠e->s.heap.get? b=some u->h'.get? b=some u)(heo:∃u,h'.get? e=some u)
  (new:b_ X.prog X.w (upd H x o) h' x o):Inv X p_ σ (upd H x o) {s with heap:=h',toks:=t'}:=I.un (Un.write mu he k heo) (I.hok.write mu he k heo new)
theorem Inv.OJ{O1:QAC}(I:Inv X p_ σ H s)(h:∀p∈O1,s.heap.get? p.1=some p.2/\H p.1=none/\p.1≠X.env.locals/\p.1∉X.fs/\∀v,p.2.data≠.cell v):Inv X O1 σ H s:=
 ⟨I.ok,I.os,I.bare,I.base,I.loc,I.cell,I.free,I.m6,λp hp=>(qjz.mp hp).elim (λz=>I.pin p (qjR _ z)) (h p),I.hok,I.len⟩
theorem IW{N:QAH}(hN:N.Nodup){i j:Nat}{x:Str}(a:N[i]? = some x)(b:N[j]? = some x):i=j:=by
 obtain⟨h1,e1⟩:=qi5.mp a;obtain⟨h2,e2⟩:=qi5.mp b;exact(List.getElem_inj hN).mp (e1.trans e2.symm)
theorem DW{M:Model}{A:Around}{E:QAB}{i:Nat}{x:Str}{v:V}{u:Value}{Q:Unit->Shared->Prop}(I:Inv X p_ σ H s)(hN:X.N.Nodup)(hi:X.N[i]? = some x)(hx:Loc X.env.scope x)(r:RelV v u)
  (h:∀s',Inv X p_ (σ.set i (some v)) H s'->(∃a,Heap.SameBut a s.heap s'.heap/\(a=X.env.locals\/X.env.cells.lookup x=some a))->Q () s') (hf:X.fn x=true\/X.env.scope.names.lookup x=some .local:=by first|exact .inl rfl|exact .inr rfl|assumption):wpAny M A (storeName X.env x u) Q E s:=by
 obtain⟨m,hn,hl⟩:=id I.loc;have hcls:(X.env.scope.kind == .class || (X.env.scope.kind == .module && X.env.locals != X.env.globals))=false:=by rw[I.ok.kind];rfl
 have hiσ:i<σ.length:=by rw[I.len];exact(qi5.mp hi).1
 have cne:=I.cne;have tracked:∀{a:Addr}{h':Heap},(∃o,s.heap.get? a=some o/\H a=none)->Heap.SameBut a s.heap h'->tH X.prog X.w H h':=λ{a h'} ha hs b ob e=>by
  obtain⟨_,_,hfree⟩:=ha;refine(I.hok b ob e).stay (λc w' hc q=>(hs.2 c ?_).trans q) (λ_ q=>q) λ_ _ q=>q;rintro rfl
  rcases hc with rfl|hc
  ·rw[hfree] at e;cases e
  ·rw[hfree] at hc;cases hc
 rcases hx with hk|hk
 ·refine wpAny_storeName_local hk hn (λh' hn' hs=>?_) hcls;obtain⟨oL,_,_,hoL,_⟩:=id hn;refine h _ ⟨I.ok,I.os,I.bare,⟨λb o e n hb hx=>?_,λb o e n hb hx=>?_,I.base.free,λb o e hx=>?_,I.base.tups,I.base.vM,I.base.vN⟩,⟨_,hn',λj y v' e1 e2 e3=>?_⟩,λy c e=>?_,I.free,I.m6,λp hp=>?_,tracked ⟨oL,hoL,I.free⟩ hs,by simpa using I.len⟩ ⟨_,hs,.inl rfl⟩
  ·exact(hs.2 b (qjn (qjl (qjd e) I.ok.above))).trans (I.base.keep b o e n hb hx)
  ·obtain⟨sl,e1⟩:=I.base.slot b o e n hb hx;exact⟨sl,(hs.2 b (qjn (qjl (qjd e) I.ok.above))).trans e1⟩
  ·obtain⟨o',e1⟩:=I.base.there b o e hx;exact⟨o',(hs.2 b (qjn (qjl (qjd e) I.ok.above))).trans e1⟩
  ·by_cases hj:j=i
   ·subst hj;rw[hi] at e1;cases e1;rw[List.getElem?_set_self hiσ] at e2;cases e2;exact⟨u,r,.inl ⟨hk,by simp⟩⟩
   ·rw[List.getElem?_set_ne (qk7 hj)] at e2;obtain⟨u',r',q⟩:=hl j y v' e1 e2 e3;refine⟨u',r',?_⟩
    rcases q with⟨k,e⟩|⟨k,c,e,z⟩
    ·refine .inl ⟨k,?_⟩;have:y≠x:=λe=>hj (IW hN e1 (e▸hi));simp[this,e]
    ·exact .inr ⟨k,c,e,z.sameBut hs (cne y c e)⟩
  ·obtain⟨w',z⟩:=I.cell y c e;exact⟨w',z.sameBut hs (cne y c e)⟩
  ·obtain⟨e,n,ne,nf,d⟩:=I.pin p hp;exact⟨(hs.2 p.1 ne).trans e,n,ne,nf,d⟩
 ·have hfn:X.fn x=true:=by
   rcases hf with z|z
   ·exact z
   ·rw[z] at hk;cases hk
  obtain⟨c,hc⟩:=I.ok.has x (.inl hk);obtain⟨w',z⟩:=I.cell x c hc;refine wpAny_storeName_cell I.ok.kind hk hc z (λh' hc' hs=>?_);obtain⟨oc,hoc,qgH⟩:=id z;refine h {s with heap:=h'} ⟨I.ok,I.os,I.bare,⟨λb o e n hb hx=>?_,λb o e n hb hx=>?_,I.base.free,λb o e hx=>?_,I.base.tups,I.base.vM,I.base.vN⟩,⟨m,hn.sameBut hs (qk7 (cne x c hc)),λj y v' e1 e2 e3=>?_⟩,λy c' e=>?_,I.free,I.m6,λp hp=>?_,tracked ⟨oc,hoc,I.m6 x c hc⟩ hs,by simpa using I.len⟩ ⟨c,hs,.inr hc⟩
  ·exact(hs.2 b (qjn (qjl (qjd e) (I.ok.cab x c hfn hc)))).trans (I.base.keep b o e n hb hx)
  ·obtain⟨sl,e1⟩:=I.base.slot b o e n hb hx;exact⟨sl,(hs.2 b (qjn (qjl (qjd e) (I.ok.cab x c hfn hc)))).trans e1⟩
  ·obtain⟨o',e1⟩:=I.base.there b o e hx;exact⟨o',(hs.2 b (qjn (qjl (qjd e) (I.ok.cab x c hfn hc)))).trans e1⟩
  ·by_cases hj:j=i
   ·subst hj;rw[hi] at e1;cases e1;rw[List.getElem?_set_self hiσ] at e2;cases e2;exact⟨u,r,.inr ⟨.inl hk,c,hc,hc'⟩⟩
   ·rw[List.getElem?_set_ne (qk7 hj)] at e2;obtain⟨u',r',q⟩:=hl j y v' e1 e2 e3;refine⟨u',r',?_⟩
    rcases q with q|⟨k,c',e,z'⟩
    ·exact .inl q
    ·refine .inr ⟨k,c',e,z'.sameBut hs ?_⟩;rintro rfl;exact hj (IW hN e1 (I.ok.inj _ _ _ e hc▸hi))
  ·by_cases hcc:c'=c
   ·subst hcc;exact⟨_,hc'⟩
   ·obtain⟨w2,z2⟩:=I.cell y c' e;exact⟨w2,z2.sameBut hs hcc⟩
  ·obtain⟨e,n,ne,nf,d⟩:=I.pin p hp;refine⟨(hs.2 p.1 ?_).trans e,n,ne,nf,d⟩;intro q;rw[q,hoc] at e;have q':oc=p.2:=qjI e;exact d w' (by rw[<- q'];exact qgH)
theorem zT{M:Model}{A:Around}{E:QAB}{i:Nat}{x:Str}{v:V}{u:Value}{Q:Unit->Shared->Prop}(I:Inv X p_ σ H s)(hN:X.N.Nodup)(hi:X.N[i]? = some x)(hx:Loc X.env.scope x)(r:RelV v u)
  (h:∀s',Inv X p_ (σ.set i (some v)) H s'->Q () s') (hf:X.fn x=true\/X.env.scope.names.lookup x=some .local:=by first|exact .inl rfl|exact .inr rfl|assumption):wpAny M A (storeName X.env x u) Q E s:=
 DW I hN hi hx r (λs' I' _=>h s' I') hf
theorem Inv.call'{s':Shared}{ch:List Addr}(I:Inv X p_ σ H s)(ho:s'.os=s.os)(u:Un (frs X.stack) ch H H' s.heap s'.heap)(hok:tH X.prog X.w H' s'.heap)(hg:AllBare s'.gens)
  (hch:∀b∈ch,(b∈X.ex\/X.s₀.heap.objs.size<=b)/\b≠X.env.locals/\(∀x c,X.env.cells.lookup x=some c->c≠b)/\∀p∈X.pn++p_,p.1≠b):Inv X p_ σ H' s':=by
 obtain⟨h',g',d',t',o'⟩:=s';have e:o'=s.os:=ho;subst e;exact I.call (g':=g') (t':=t') (d':=d') u hok hg hch
end
abbrev XK:=Value->Option Addr->Hp->Prop
abbrev St:=List (Option V)
abbrev VK:=V->Hp->Prop
abbrev TE:=St->Hp->VK->Prop
abbrev TT:=St->Hp->(Bool->Hp->Prop)->Prop
abbrev TA:=St->Hp->(List V->Hp->Prop)->Prop
structure Ends where
 nx:St->Hp->Prop
 rt:VK
 bk:St->Hp->Prop:=λ_ _=>False
 ct:St->Hp->Prop:=λ_ _=>False
abbrev TS:=Ends->St->Hp->Prop
def EP(X:Cx)(p_:QAC)(σ:St)(Q:VK)(u:Value)(s':Shared):Prop:=∃v H',Inv X p_ σ H' s'/\RelV v u/\Q v H'
def TP(X:Cx)(p_:QAC)(σ:St)(Q:Bool->Hp->Prop)(b:Bool)(s':Shared):Prop:=∃H',Inv X p_ σ H' s'/\Q b H'
def AP(X:Cx)(p_:QAC)(σ:St)(Q:List V->Hp->Prop)(us:QAE)(s':Shared):Prop:=∃vs H',Inv X p_ σ H' s'/\Vals vs us/\Q vs H'
def SP(X:Cx)(p_:QAC)(D:Ends)(f:Flow)(s':Shared):Prop:=
 match f with
 |.next=>∃σ' H',Inv X p_ σ' H' s'/\D.nx σ' H'
 |.brk=>∃σ' H',Inv X p_ σ' H' s'/\D.bk σ' H'
 |.cont=>∃σ' H',Inv X p_ σ' H' s'/\D.ct σ' H'
 |.ret u=>∃v σ' H',Inv X p_ σ' H' s'/\RelV v u/\D.rt v H'
def PE(X:Cx)(e:Expr)(t:TE):Prop:=
 ∀(p_:QAC)(s:Shared)(σ:St)(H:Hp)(Q:VK),Inv X p_ σ H s->t σ H Q->wpAny (model X.prog X.w) X.A (eval e X.env) (EP X p_ σ Q) X.xe s
def PT(X:Cx)(e:Expr)(t:TT):Prop:=
 ∀(p_:QAC)(s:Shared)(σ:St)(H:Hp)(Q:Bool->Hp->Prop),Inv X p_ σ H s->t σ H Q->wpAny (model X.prog X.w) X.A (isTrue e X.env (eval e X.env)) (TP X p_ σ Q) X.xe s
def PW(X:Cx)(e:Expr)(t:TT):Prop:=
 ∀(whole:Sem Value)(p_:QAC)(s:Shared)(σ:St)(H:Hp)(Q:Bool->Hp->Prop),Inv X p_ σ H s->t σ H Q->wpAny (model X.prog X.w) X.A (isTrue e X.env whole) (TP X p_ σ Q) X.xe s
theorem PW.pt{X:Cx}{e:Expr}{t:TT}(h:PW X e t):PT X e t:=h _
def PA(X:Cx)(es:List Expr)(t:TA):Prop:=
 ∀(pos:Pos)(p_:QAC)(s:Shared)(σ:St)(H:Hp)(Q:List V->Hp->Prop),Inv X p_ σ H s->t σ H Q->wpAny (model X.prog X.w) X.A (spliced (backTo pos (starEach es X.env))) (AP X p_ σ Q) X.xe s
def PS(X:Cx)(st:Stmt)(t:TS):Prop:=
 ∀(p_:QAC)(s:Shared)(σ:St)(H:Hp)(D:Ends),Inv X p_ σ H s->t D σ H->wpAny (model X.prog X.w) X.A (exec st X.env) (SP X p_ D) X.xe s
def I_(X:Cx)(st:List Stmt)(t:TS):Prop:=
 ∀(p_:QAC)(s:Shared)(σ:St)(H:Hp)(D:Ends),Inv X p_ σ H s->t D σ H->wpAny (model X.prog X.w) X.A (execs st X.env) (SP X p_ D) X.xe s
theorem cF{α:Type}{t:Sem α}{Q Q':α->Shared->Prop}{M:Model}{A:Around}{E:QAB}{s:Shared}(h:wpAny M A t Q E s)(hQ:∀a s,Q a s->Q' a s):wpAny M A t Q' E s:=qkd h hQ λ_ _ x=>x
section
variable {X:Cx}
def Yz(i:Nat):TE:=λσ H Q=>∃v,σ[i]? = some (some v)/\Q v H
def tC(v:V):TE:=λ_ H Q=>Q v H
theorem Ur{i:Nat}{x:Str}{pos:Pos}(hN:X.N[i]? = some x)(hv:Vis X.env.scope x) (hd:(x == ("__debug__" : Str))=false:=by decide) (hcd:(x == ("__classdict__" : Str))=false:=by decide):PE X (.Name x pos) (Yz i):=by
 intro p_ s σ H Q I h;obtain⟨v,e,h⟩:=h;obtain⟨m,hn,hl⟩:=I.loc;obtain⟨u,r,l⟩:=hl i x v hN e hv;have fin:EP X p_ σ Q u s:=⟨v,H,I,r,h⟩
 rcases l with⟨hk,hm⟩|⟨hk,c,hc,hcell⟩
 ·exact wpAny_Name (wpAny_loadName_local I.ok.kind hk hn hm fin) hd
 ·rcases hk with hk|hk
  ·exact wpAny_Name (wpAny_loadName_cell I.ok.kind hk hc hcell fin) hd
  ·exact wpAny_Name (wpAny_loadName_free I.ok.kind hk hc hcell fin hcd) hd
theorem aF{i j pos}:PE X (.Constant (.int i) j pos) (tC (.int i)):=λ_ _ _ H _ I h=>wpAny_Constant_int ⟨.int i,H,I.tok _,⟨_,rfl⟩,h⟩
theorem pH{b j pos}:PE X (.Constant (.bool b) j pos) (tC (.bl b)):=λ_ _ _ H _ I h=>Constant_bool ⟨.bl b,H,I,rfl,h⟩
theorem xq{j pos}:PE X (.Constant .none j pos) (tC .non):=λ_ _ _ H _ I h=>Constant_none ⟨.non,H,I,rfl,h⟩
theorem uT{x j pos}:PE X (.Constant (.str x) j pos) (tC (.str x)):=λ_ _ _ H _ I h=>Calls.Constant_str ⟨.str x,H,I.tok _,⟨_,rfl⟩,h⟩
def Gl(X:Cx)(x:Str):Prop:=X.env.kindOf x=some .globalImplicit
theorem tK{E:QAB}{p_:QAC}{s:Shared}{σ:St}{H:Hp}{x:Str}{u:Value}{pos:Pos}{Q:QAB}(I:Inv X p_ σ H s)(hg:Gl X x)(hm:X.mg x=some u)(h:Q u s)
  (hd:(x == ("__debug__" : Str))=false:=by decide):wpAny (model X.prog X.w) X.A (eval (.Name x pos) X.env) Q E s:=
 Calls.Name_function_global I.ok.kind hg (Calls.loadGlobal_global (by rw[I.ok.glob];exact I.mod.glob.keeps I.bk) hm h) hd
theorem rD{E:QAB}{p_:QAC}{s:Shared}{σ:St}{H:Hp}{x:Str}{u:Value}{pos:Pos}{Q:QAB}(I:Inv X p_ σ H s)(hg:Gl X x)(hm:X.mg x=none)(hv:bootBuiltins x=some u)(h:Q u s)
  (hn:x≠ "__name__" :=by decide) (hd:(x == ("__debug__" : Str))=false:=by decide):wpAny (model X.prog X.w) X.A (eval (.Name x pos) X.env) Q E s:=by
 obtain⟨mb,h1,h2⟩:=I.mod.blt;exact Calls.Name_function_global I.ok.kind hg (Calls.loadGlobal_builtin (by rw[I.ok.glob];exact I.mod.glob.keeps I.bk) hm (by rw[I.ok.blt];exact h1.keeps I.bk) ((h2 x hn).trans hv) h) hd
theorem vO{x:Str}{v:V}{u:Value}{pos:Pos}(hg:Gl X x)(hm:X.mg x=some u)(r:RelV v u) (hd:(x == ("__debug__" : Str))=false:=by decide):PE X (.Name x pos) (tC v):=
 λ_ _ _ H _ I h=>tK I hg hm ⟨v,H,I,r,h⟩ hd
theorem pX{x:Str}{v:V}{u:Value}{pos:Pos}(hg:Gl X x)(hm:X.mg x=none)(hv:bootBuiltins x=some u)(r:RelV v u) (hn:x≠ "__name__" :=by decide) (hd:(x == ("__debug__" : Str))=false:=by decide):PE X (.Name x pos) (tC v):=
 λ_ _ _ H _ I h=>rD I hg hm hv ⟨v,H,I,r,h⟩ hn hd
variable {a b:Expr}{ta tb:TE}{pos:Pos}
def PC(X:Cx)(op:CmpOp)(a b:Expr)(t:TE):Prop:=
 ∀(p_:QAC)(s:Shared)(σ:St)(H:Hp)(Q:VK),Inv X p_ σ H s->t σ H Q->
  wpAny (model X.prog X.w) X.A (eval a X.env) (λv s₁=>wpAny (model X.prog X.w) X.A (eval b X.env) (λu s₂=>wpAny (model X.prog X.w) X.A (compareOp op v u) (EP X p_ σ Q) X.xe s₂) X.xe s₁) X.xe s
theorem Ja(b:Expr){op:CmpOp}(h:op≠.In)(h2:op≠.NotIn):behindInMarks op b=false:=by
 have e1:(op == CmpOp.In)=false:=by cases op <;> first|rfl|exact absurd rfl h
 have e2:(op == CmpOp.NotIn)=false:=by cases op <;> first|rfl|exact absurd rfl h2
 cases b <;> simp[behindInMarks,e1,e2]
def tB(t:TE):TT:=λσ H Q=>t σ H λx H1=>∃c,x = .bl c/\Q c H1
theorem qbg{op:CmpOp}{t:TE}(h:PC X op a b t)(h1:behindInMarks op b=false:=by first|exact Ja _ (by decide) (by decide)|rfl):PT X (.Compare a [op] [b] pos) (tB t):=by
 intro p_ s σ H Q I hw;refine wpAny_isTrue_Compare1 (cF (h p_ s σ H _ I hw) λv s1 h1=>cF h1 λu s2 h2=>cF h2 λc s3 zz=>?_) h1;obtain⟨x,H1,I1,r1,q1⟩:=zz;obtain⟨d,rfl,q⟩:=q1;cases r1;exact qkl ⟨H1,I1,q⟩
theorem qbh{e:Expr}{t:TE}(h:PE X e t)(he:∀whole,isTrue e X.env whole=(do let v <- whole;standAt e.pos;holding [v] (truthy v)):=by intro _;rfl):PT X e (tB t):=by
 intro p_ s σ H Q I hw;refine isTrue_plain (cF (h p_ s σ H _ I hw) λv s1 zz=>?_) (he _);obtain⟨x,H1,I1,r1,q1⟩:=zz;obtain⟨d,rfl,q⟩:=q1;cases r1;exact qkl ⟨H1,I1,q⟩
variable {tA tB':TT}{rest:List Expr}
def qdo(t u:TT):TT:=λσ H Q=>t σ H λc H1=>if c=true then u σ H1 Q else Q false H1
def tOr(t u:TT):TT:=λσ H Q=>t σ H λc H1=>if c=true then Q true H1 else u σ H1 Q
def qdp(t:TT):TT:=λσ H Q=>t σ H λc H1=>Q (!c) H1
theorem O2(ha:PT X a tA):PW X (.BoolOp .And [a] pos) tA:=by
 intro wh p_ s σ H Q I h;refine isTrue_and (cF (ha p_ s σ H Q I h) λc s1 e=>?_);cases c with
 |true=>exact isTrue_and_nil e
 |false=>exact e
theorem oJ(ha:PT X a tA):PW X (.BoolOp .Or [a] pos) tA:=by
 intro wh p_ s σ H Q I h;refine isTrue_or (cF (ha p_ s σ H Q I h) λc s1 e=>?_);cases c with
 |false=>exact isTrue_or_nil e
 |true=>exact e
theorem Us(ha:PT X a tA)(hb:PW X (.BoolOp .And (b::rest) pos) tB'):PW X (.BoolOp .And (a::b::rest) pos) (qdo tA tB'):=by
 intro wh p_ s σ H Q I h;refine isTrue_and (cF (ha p_ s σ H _ I h) λc s1 zz=>?_);obtain⟨H1,I1,q1⟩:=zz;cases c with
 |true=>exact hb wh p_ s1 σ H1 Q I1 q1
 |false=>exact⟨H1,I1,q1⟩
theorem uz(ha:PT X a tA)(hb:PW X (.BoolOp .Or (b::rest) pos) tB'):PW X (.BoolOp .Or (a::b::rest) pos) (tOr tA tB'):=by
 intro wh p_ s σ H Q I h;refine isTrue_or (cF (ha p_ s σ H _ I h) λc s1 zz=>?_);obtain⟨H1,I1,q1⟩:=zz;cases c with
 |true=>exact⟨H1,I1,q1⟩
 |false=>exact hb wh p_ s1 σ H1 Q I1 q1
theorem eG(ha:PT X a tA):PT X (.UnaryOp .Not a pos) (qdp tA):=by
 intro p_ s σ H Q I h;exact isTrue_not (ha p_ s σ H (λc H1=>Q (!c) H1) I h)
def Ut(ta tb:TE):TE:=λσ H Q=>ta σ H λx H1=>∃c,x = .bl c/\if c=true then tb σ H1 Q else Q (.bl false) H1
def Uu(ta:TE):TE:=λσ H Q=>ta σ H λx H1=>∃c,x = .bl c/\Q (.bl (!c)) H1
theorem Ga{op}{t:TE}(h:PE X a t):PE X (.BoolOp op [a] pos) t:=λp_ s σ H Q I hw=>BoolOp_one (h p_ s σ H Q I hw)
theorem qbi(ha:PE X a ta)(hb:PE X (.BoolOp .And (b::rest) pos) tb):PE X (.BoolOp .And (a::b::rest) pos) (Ut ta tb):=by
 intro p_ s σ H Q I h;refine BoolOp_and (cF (ha p_ s σ H _ I h) λv s1 zz=>?_);obtain⟨x,H1,I1,r1,q1⟩:=zz;obtain⟨c,rfl,q1⟩:=q1;cases r1;refine qkl ?_;cases c with
 |true=>exact hb p_ s1 σ H1 Q I1 q1
 |false=>exact⟨.bl false,H1,I1,rfl,q1⟩
theorem qbj(ha:PE X a ta):PE X (.UnaryOp .Not a pos) (Uu ta):=by
 intro p_ s σ H Q I h;refine UnaryOp_ (cF (ha p_ s σ H _ I h) λv s1 zz=>?_);obtain⟨x,H1,I1,r1,q1⟩:=zz;obtain⟨c,rfl,q1⟩:=q1;cases r1;exact not_of (qkl ⟨.bl (!c),H1,I1,rfl,q1⟩)
def tIf(t:TT)(ta tb:TE):TE:=λσ H Q=>t σ H λc H1=>if c=true then ta σ H1 Q else tb σ H1 Q
theorem Uv{c:Expr}(hc:PT X c tA)(ha:PE X a ta)(hb:PE X b tb):PE X (.IfExp c a b pos) (tIf tA ta tb):=by
 intro p_ s σ H Q I h;refine wpAny_IfExp (cF (hc p_ s σ H _ I h) λd s1 zz=>?_);obtain⟨H1,I1,q1⟩:=zz;cases d with
 |true=>exact ha p_ s1 σ H1 Q I1 q1
 |false=>exact hb p_ s1 σ H1 Q I1 q1
end
def aX(K:W.Frag)(H:Hp)(a:Addr)(xs:List V):Prop:=
 Rd H a (.lst xs)\/
  ∃(o:Obj)(its:Array Value)(n:Nat),K.lookup a=some o/\o.cls = .type "list" /\o.dict=none/\o.data = .seq its n/\its.size<=sizeLine/\Vals xs its.toList
def dg(K:W.Frag)(H:Hp)(a:Addr)(xs:List V):Prop:=
 Rd H a (.tup xs)\/
  ∃(o:Obj)(its:Array Value)(n:Nat),K.lookup a=some o/\o.cls = .type "tuple" /\o.data = .seq its n/\its.size<=sizeLine/\Vals xs its.toList
def qgI:Value->Option V
 |.none=>some .non
 |.bool b=>some (.bl b)
 |.int i _=>some (.int i)
 |.str x _=>some (.str x)
 |.bytes b _=>some (.Ug b)
 |.float b _=>some (.flt b)
 |.ref a=>some (.ref a)
 |.type n=>some (.ty n)
 |_=>none
theorem RelV.abs{x:V}{u:Value}(r:RelV x u):qgI u=some x:=by
 cases x with
 |non=>cases r;rfl
 |bl _=>cases r;rfl
 |int _=>obtain⟨t,rfl⟩:=r;rfl
 |str _=>obtain⟨t,rfl⟩:=r;rfl
 |Ug _=>obtain⟨t,rfl⟩:=r;rfl
 |flt _=>obtain⟨t,rfl⟩:=r;rfl
 |ref _=>cases r;rfl
 |ty _=>cases r;rfl
theorem RelV.inj{x y:V}{u:Value}(r:RelV x u)(q:RelV y u):x=y:=qjI (r.abs.symm.trans q.abs)
theorem Vals.inj:∀{xs ys:List V}{us:QAE},Vals xs us->Vals ys us->xs=ys
 |_,_,_,.nil,.nil=>rfl
 |_,_,_,.cons r t,.cons r' t'=>by rw[r.inj r',Vals.inj t t']
section
variable {X:Cx}{p_:QAC}{σ:St}{H:Hp}{s:Shared}{a:Addr}{xs ys:List V}
theorem aX.of{K:W.Frag}(h:H a=some (.lst xs)):aX K H a xs:=.inl (.inl h)
theorem dg.of{K:W.Frag}(h:H a=some (.tup xs)):dg K H a xs:=.inl (.inl h)
theorem Inv.list(I:Inv X p_ σ H s)(h:aX X.K H a xs):∃its:QAE,Vals xs its/\PlainL s.heap a its.toArray/\xs.length<=sizeLine:=by
 rcases h with h|⟨o,its,n,hk,hc,hd,hs,hz,r⟩
 ·obtain⟨z,its,n,r,e⟩:=h.ok I.hok;exact⟨its,r,⟨_,n,e,rfl,rfl,rfl⟩,z⟩
 ·refine⟨its.toList,r,⟨o,n,I.rm a o hk,hc,hd,by simpa using hs⟩,?_⟩;have e:=r.length;simp only[qkk] at e;omega
theorem Inv.tuple(I:Inv X p_ σ H s)(h:dg X.K H a xs):∃its:QAE,Vals xs its/\IsTup s.heap a its.toArray/\xs.length<=sizeLine:=by
 rcases h with h|⟨o,its,n,hk,hc,hs,hz,r⟩
 ·obtain⟨z,its,r,p⟩:=h.ok I.hok;exact⟨its,r,p,z⟩
 ·refine⟨its.toList,r,⟨o,I.rm a o hk,hc,n,by simpa using hs⟩,?_⟩;have e:=r.length;simp only[qkk] at e;omega
theorem Inv.Jb(I:Inv X p_ σ H s)(h:aX X.K H a xs)(h':aX X.K H a ys):xs=ys:=by
 obtain⟨its,r,⟨o,n,e,_,_,d⟩,_⟩:=I.list h;obtain⟨its',r',⟨o',n',e',_,_,d'⟩,_⟩:=I.list h';rw[e] at e';cases e';rw[d] at d';injection d' with d1 _;have:its=its':=by simpa using qjB Array.toList d1
 subst this;exact r.inj r'
theorem Inv.QL(I:Inv X p_ σ H s)(h:dg X.K H a xs)(h':dg X.K H a ys):xs=ys:=by
 obtain⟨its,r,⟨o,e,_,n,d⟩,_⟩:=I.tuple h;obtain⟨its',r',⟨o',e',_,n',d'⟩,_⟩:=I.tuple h';rw[e] at e';cases e';rw[d] at d';injection d' with d1 _;have:its=its':=by simpa using qjB Array.toList d1
 subst this;exact r.inj r'
end
abbrev Cx.wish(X:Cx)(E:QAB):Cx:={X with xe:=E}
abbrev Cx.Uh(X:Cx):Cx:=X.wish λ_ _=>False
theorem Cx.Ok.wish{X:Cx}(ok:X.Ok)(E:QAB):(X.wish E).Ok:=
 ⟨ok.mod,ok.kind,ok.glob,ok.blt,ok.above,ok.inj,ok.has,ok.cab,ok.hd,ok.frames,ok.stk,ok.exf,ok.bs,ok.Uq,ok.QJ,ok.QK,ok.uR,ok.Yy⟩
theorem Cx.Ok.rE{X:Cx}{E:QAB}(ok:(X.wish E).Ok):X.Ok:=
 ⟨ok.mod,ok.kind,ok.glob,ok.blt,ok.above,ok.inj,ok.has,ok.cab,ok.hd,ok.frames,ok.stk,ok.exf,ok.bs,ok.Uq,ok.QJ,ok.QK,ok.uR,ok.Yy⟩
section
variable {X:Cx}{p_:QAC}{σ:St}{H:Hp}{s:Shared}{E:QAB}
theorem Inv.wish(I:Inv X p_ σ H s)(E:QAB):Inv (X.wish E) p_ σ H s:=⟨I.ok.wish E,I.os,I.bare,I.base,I.loc,I.cell,I.free,I.m6,I.pin,I.hok,I.len⟩
theorem Inv.rE(I:Inv (X.wish E) p_ σ H s):Inv X p_ σ H s:=⟨I.ok.rE,I.os,I.bare,I.base,I.loc,I.cell,I.free,I.m6,I.pin,I.hok,I.len⟩
theorem SP.rE{D:Ends}{f:Flow}{s':Shared}(h:SP (X.wish E) p_ D f s'):SP X p_ D f s':=by
 cases f with
 |next=>obtain⟨σ',H',I,q⟩:=h;exact⟨σ',H',I.rE,q⟩
 |brk=>obtain⟨σ',H',I,q⟩:=h;exact⟨σ',H',I.rE,q⟩
 |cont=>obtain⟨σ',H',I,q⟩:=h;exact⟨σ',H',I.rE,q⟩
 |ret u=>obtain⟨v,σ',H',I,r,q⟩:=h;exact⟨v,σ',H',I.rE,r,q⟩
theorem I_.Uh{st:List Stmt}{t:TS}(h:I_ X.Uh st t):I_ X st t:=λp_ s σ H D I hw=>
 qkd (h p_ s σ H D (I.wish _) hw) (λ_ _ q=>q.rE) λ_ _ z=>False.elim z
end
section
variable {X:Cx}{st:Stmt}{rest:List Stmt}{t u:TS}{e:Expr}{te:TE}{pos:Pos}
def qaA:TS:=λD σ H=>D.nx σ H
def qdq(t u:TS):TS:=λD σ H=>t {D with nx:=u D} σ H
theorem bF:I_ X [] qaA:=λ_ _ σ H _ I h=>wpAny_execs_nil ⟨σ,H,I,h⟩
theorem aA(h1:PS X st t)(h2:I_ X rest u):I_ X (st::rest) (qdq t u):=by
 intro p_ s σ H D I h;refine wpAny_execs_cons (cF (h1 p_ s σ H {D with nx:=u D} I h) λf s1 q=>?_);cases f with
 |next=>
  obtain⟨σ',H',I',q⟩:=q;exact h2 p_ s1 σ' H' D I' q
 |ret v=>exact q
 |brk=>exact q
 |cont=>exact q
theorem aC(h1:PS X st t):I_ X [st] t:=by
 intro p_ s σ H D I h;refine wpAny_execs_cons (cF (h1 p_ s σ H D I h) λf s1 q=>?_);cases f with
 |next=>exact wpAny_execs_nil q
 |ret v=>exact q
 |brk=>exact q
 |cont=>exact q
theorem Inv.quiet{p_:QAC}{σ:St}{H:Hp}{s:Shared}(I:Inv X p_ σ H s):interactive X.env=false:=by simp[interactive,I.ok.kind]
def qaB(te:TE):TS:=λD σ H=>te σ H λ_ H1=>D.nx σ H1
theorem eN(he:PE X e te)(hs:swapsWith e none pos.line X.env=pure false:=by rfl):PS X (.Expr e pos) (qaB te):=by
 intro p_ s σ H D I h;refine wpAny_Expr_any (cF (he p_ s σ H _ I h) λv s1 zz=>?_) I.quiet hs;obtain⟨x,H1,I1,r1,q1⟩:=zz;exact⟨σ,H1,I1,q1⟩
def qdr(te:TE):TS:=λD σ H=>te σ H D.rt
theorem aY(he:PE X e te):PS X (.Return (some e) pos) (qdr te):=by
 intro p_ s σ H D I h;refine wpAny_Return_some (cF (he p_ s σ H _ I h) λv s1 zz=>?_);obtain⟨x,H1,I1,r1,q1⟩:=zz;exact⟨x,σ,H1,I1,r1,q1⟩
def qds(c:TT)(t u:TS):TS:=λD σ H=>c σ H λb H1=>if b=true then t D σ H1 else u D σ H1
theorem cR{c:Expr}{a b:List Stmt}{tc:TT}(hc:PT X c tc)(ha:I_ X a t)(hb:I_ X b u):PS X (.If c a b pos) (qds tc t u):=by
 intro p_ s σ H D I h;refine wpAny_If (cF (hc p_ s σ H _ I h) λd s1 zz=>?_);obtain⟨H1,I1,q1⟩:=zz;cases d with
 |true=>exact ha p_ s1 σ H1 D I1 q1
 |false=>exact hb p_ s1 σ H1 D I1 q1
def Uw:TS:=λ_ _ _=>False
theorem pI:PS X st Uw:=λ_ _ _ _ _ _ h=>h.elim
end
abbrev TG:=V->St->Hp->(St->Hp->Prop)->Prop
abbrev Iu:=List V->St->Hp->(St->Hp->Prop)->Prop
def PG(X:Cx)(target:Expr)(t:TG):Prop:=
 ∀(p_:QAC)(s:Shared)(σ:St)(H:Hp)(v:V)(u:Value)(Q:St->Hp->Prop),Inv X p_ σ H s->RelV v u->t v σ H Q->
  wpAny (model X.prog X.w) X.A (assign target X.env u) (λ_ s'=>∃σ' H',Inv X p_ σ' H' s'/\Q σ' H') X.xe s
def jF(X:Cx)(ts:List Expr)(t:Iu):Prop:=
 ∀(p_:QAC)(s:Shared)(σ:St)(H:Hp)(vs:List V)(us:QAE)(Q:St->Hp->Prop),Inv X p_ σ H s->Vals vs us->t vs σ H Q->
  wpAny (model X.prog X.w) X.A (assignInOrder ((assignEach ts X.env).map (·.2)) us) (λ_ s'=>∃σ' H',Inv X p_ σ' H' s'/\Q σ' H') X.xe s
abbrev QM:=V->V->V->Hp->(Hp->Prop)->Prop
def QS(X:Cx)(t:QM):Prop:=
 ∀(p_:QAC)(s:Shared)(σ:St)(H:Hp)(o i v:V)(ov iv u:Value)(Q:Hp->Prop),Inv X p_ σ H s->RelV o ov->RelV i iv->RelV v u->t o i v H Q->
  wpAny (model X.prog X.w) X.A (setItem ov iv u) (λ_ s'=>∃H',Inv X p_ σ H' s'/\Q H') X.xe s
abbrev YB:=V->V->Hp->VK->Prop
def PIp(X:Cx)(op:Operator)(t:YB):Prop:=
 ∀(p_:QAC)(s:Shared)(σ:St)(H:Hp)(x y:V)(v u:Value)(Q:VK),Inv X p_ σ H s->RelV x v->RelV y u->t x y H Q->
  wpAny (model X.prog X.w) X.A (inplaceOp op v u) (EP X p_ σ Q) X.xe s
section
variable {X:Cx}{pos:Pos}
def DX(i:Nat):TG:=λv σ H Q=>Q (σ.set i (some v)) H
theorem aL{i:Nat}{x:Str}(hN:X.N.Nodup)(hi:X.N[i]? = some x)(hx:Loc X.env.scope x)(hf:X.fn x=true\/X.env.scope.names.lookup x=some .local:=by first|exact .inl rfl|exact .inr rfl|assumption):PG X (.Name x pos) (DX i):=by
 intro p_ s σ H v u Q I r h;exact wpAny_assign_Name (zT I hN hi hx r (λs' I'=>⟨_,H,I',h⟩) hf)
def qbk:Iu:=λvs σ H Q=>vs=[]/\Q σ H
def Ux(t:TG)(u:Iu):Iu:=λvs σ H Q=>∃v r,vs=v::r/\t v σ H λσ' H'=>u r σ' H' Q
theorem fK:jF X [] qbk:=by
 intro p_ s σ H vs us Q I r h;obtain⟨e,h⟩:=h;subst e;cases r;exact assignInOrder_nil ⟨σ,H,I,h⟩
theorem bC{e:Expr}{es:List Expr}{t:TG}{u:Iu}(h1:PG X e t)(h2:jF X es u)
  (hs:(assignEach (e::es) X.env).map (·.2)=assign e X.env::(assignEach es X.env).map (·.2):=by rfl):jF X (e::es) (Ux t u):=by
 intro p_ s σ H vs us Q I r h;obtain⟨v,vr,e1,h⟩:=h;subst e1;cases r with
 |cons r rr=>
  rw[hs];refine assignInOrder_cons (cF (h1 p_ s σ H _ _ _ I r h) λ_ s1 zz=>?_);obtain⟨σ1,H1,I1,q1⟩:=zz;exact h2 p_ s1 σ1 H1 _ _ Q I1 rr q1
def YC(K:W.Frag)(n:Nat)(t:Iu):TG:=λv σ H Q=>∃a xs,v = .ref a/\dg K H a xs/\xs.length=n/\t xs σ H Q
theorem qbl{es:List Expr}{k:Nat}{t:Iu}{n:Nat}(hc:X.calm=true)(h:jF X es t)
  (hn:(assignEach es X.env).length=n:=by rfl) (hst:(assignEach es X.env).findIdx? (·.1)=none:=by rfl):PG X (.Tuple es k pos) (YC X.K n t):=by
 intro p_ s σ H v u Q I r hw;obtain⟨a,xs,e1,hq,hl,hw⟩:=hw;subst e1;cases r;obtain⟨its,rv,ht,hz⟩:=I.tuple hq;refine assign_Tuple_tuple (I.ok.hd hc) ht (by simp[hn,<- hl,rv.length]) hst λh' hx=>?_;have I1:Inv X p_ σ H {s with heap:=h'}:=I.kept (t':=s.toks) λb o e=>hx b o (qjn (qjd e)) e;exact h p_ _ σ H xs _ Q I1 (by simpa using rv) hw
def qdt(to ti:TE)(t:QM):TG:=λv σ H Q=>to σ H λo H1=>ti σ H1 λi H2=>t o i v H2 λH3=>Q σ H3
theorem Uy{o i:Expr}{to ti:TE}{t:QM}(ho:PE X o to)(hi:PE X i ti)(hs:QS X t)
  (ha:∀v,assign (.Subscript o i pos) X.env v=(do
   let ov <- holding [v] (eval o X.env)
   let iv <- holding [v,ov] (eval i X.env)
   standAt pos
   holding [v,ov,iv] (setItem ov iv v)
   release [v,ov,iv] []):=by intro _;rfl):PG X (.Subscript o i pos) (qdt to ti t):=by
 intro p_ s σ H v u Q I r h;rw[ha];refine qi4 (qkm (cF (ho p_ s σ H _ I h) λov s1 zz=>?_));obtain⟨x,H1,I1,r1,q1⟩:=zz;refine qi4 (qkm (cF (hi p_ s1 σ H1 _ I1 q1) λiv s2 zz=>?_));obtain⟨y,H2,I2,r2,q2⟩:=zz;refine qi4 (wpAny_standAt (qi4 (qkm (cF (hs p_ s2 σ H2 x y v ov iv u _ I2 r1 r2 r q2) λ_ s3 zz=>?_))));obtain⟨H3,I3,q3⟩:=zz;exact wpAny_release ⟨σ,H3,I3,q3⟩
def YD(te:TE)(g:TG):TS:=λD σ H=>te σ H λx H1=>g x σ H1 D.nx
theorem Gb{tg e:Expr}{te:TE}{g:TG}(he:PE X e te)(hg:PG X tg g)(hs:swapsWithSole [tg] e pos.line X.env=pure false:=by rfl)(hw:swappedStores [tg] e X.env=pure none:=by rfl)
  (h1:(assignEach [tg] X.env).map (·.2)=[assign tg X.env]:=by rfl):PS X (.Assign [tg] e pos) (YD te g):=by
 intro p_ s σ H D I h;refine wpAny_Assign_stores (cF (he p_ s σ H _ I h) λv s1 zz=>?_) hs hw;obtain⟨x,H1,I1,r1,q1⟩:=zz;rw[h1];exact cF (hg p_ s1 σ H1 x v _ I1 r1 q1) λ_ s2 q=>q
theorem bx{i:Nat}{x:Str}{e:Expr}{te:TE}{pos':Pos}(hN:X.N.Nodup)(hi:X.N[i]? = some x)(hx:Loc X.env.scope x)(he:PE X e te)(hs:swapsWith e (some (.Name x pos')) pos.line X.env=pure false:=by rfl)(hf:X.fn x=true\/X.env.scope.names.lookup x=some .local:=by first|exact .inl rfl|exact .inr rfl|assumption) :
  PS X (.Assign [.Name x pos'] e pos) (YD te (DX i)):=by
 intro p_ s σ H D I h;refine wpAny_Assign_Name (cF (he p_ s σ H _ I h) λv s1 zz=>?_) hs;obtain⟨y,H1,I1,r1,q1⟩:=zz;exact zT I1 hN hi hx r1 (λs2 I2=>⟨_,H1,I2,q1⟩) hf
def qbm(i:Nat)(te:TE)(ti:YB):TS:=λD σ H=>∃x,σ[i]? = some (some x)/\te σ H λy H1=>ti x y H1 λz H2=>D.nx (σ.set i (some z)) H2
theorem Uz{i:Nat}{x:Str}{e:Expr}{te:TE}{op:Operator}{ti:YB}{pos':Pos}(hN:X.N.Nodup)(hi:X.N[i]? = some x)(hx:Loc X.env.scope x)(he:PE X e te)(ho:PIp X op ti)(hf:X.fn x=true\/X.env.scope.names.lookup x=some .local:=by first|exact .inl rfl|exact .inr rfl|assumption) :
  PS X (.AugAssign (.Name x pos') op e pos) (qbm i te ti):=by
 intro p_ s σ H D I h;obtain⟨v,e1,h⟩:=h;obtain⟨m,hn,hl⟩:=I.loc;have vis:Vis X.env.scope x:=by rcases hx with k|k;exact .inl k;exact .inr (.inl k)
 obtain⟨u,r,l⟩:=hl i x v hi e1 vis;refine wpAny_AugAssign_Name ?_;have go:wpAny (model X.prog X.w) X.A (eval e X.env) (λw s₂=>wpAny (model X.prog X.w) X.A (inplaceOp op u w) (λr s₃=>wpAny (model X.prog X.w) X.A (storeName X.env x r) (λ_=>SP X p_ D .next) X.xe s₃) X.xe s₂) X.xe s:=by
  refine cF (he p_ s σ H _ I h) λw s1 zz=>?_;obtain⟨y,H1,I1,r1,q1⟩:=zz;refine cF (ho p_ s1 σ H1 v y u w _ I1 r r1 q1) λz s2 zz=>?_;obtain⟨zv,H2,I2,r2,q2⟩:=zz;exact zT I2 hN hi hx r2 (λs3 I3=>⟨_,H2,I3,q2⟩) hf
 rcases l with⟨hk,hm⟩|⟨hk,c,hc,hcell⟩
 ·exact wpAny_loadName_local I.ok.kind hk hn hm go
 ·rcases hk with hk|hk
  ·exact wpAny_loadName_cell I.ok.kind hk hc hcell go
  ·rcases hx with k|k
   ·have:X.env.scope.names.lookup x=some .free:=hk;rw[k] at this;cases this
   ·have:X.env.scope.names.lookup x=some .free:=hk;rw[k] at this;cases this
def ipI(f:Int->Int->Int):YB:=λx y H Q=>∃i j,x = .int i/\y = .int j/\Q (.int (f i j)) H
theorem qbn:PIp X .Add (ipI λi j=>i+j):=by
 intro p_ s σ H x y v u Q I r1 r2 h;obtain⟨i,j,e1,e2,q⟩:=h;subst e1;subst e2;obtain⟨t,rfl⟩:=r1;obtain⟨t',rfl⟩:=r2;exact iadd_int ⟨.int _,H,I.tok _,⟨_,rfl⟩,q⟩
end
section
variable {X:Cx}{pos:Pos}
def Gd(c:TT)(tb:TS):TS:=λD σ H=>∃jq:Nat->St->Hp->Prop,(∃m,jq m σ H)/\∀m σ H,jq m σ H->
 c σ H λb H1=>if b=true then ∃N:St->Hp->Prop,(∀σ' H',N σ' H'->∃m',m'<m/\jq m' σ' H')/\tb {D with nx:=N,ct:=N,bk:=D.nx} σ H1 else D.nx σ H1
theorem Jc{c:Expr}{body:List Stmt}{tc:TT}{tb:TS}(hp:PassesOwn (model X.prog X.w) X.A X.env X.xe)(hc:PT X c tc)(hb:I_ X body tb):PS X (.While c body [] pos) (Gd tc tb):=by
 intro p_ s σ H D I h;obtain⟨jq,⟨m0,w0⟩,turn⟩:=h;refine wpAny_While (codeAny_whileLoop (λn s'=>∃σ' H',Inv X p_ σ' H' s'/\jq n σ' H') ?_ m0 ⟨σ,H,I,w0⟩);rintro n s1 ⟨σ1,H1,I1,w1⟩;refine qk9 hp (cF (hc p_ s1 σ1 H1 _ I1 (turn n σ1 H1 w1)) λb s2 zz=>?_);obtain⟨H2,I2,q2⟩:=zz;cases b with
 |true=>
  obtain⟨N,hN,q2⟩:=q2;rw[if_pos rfl];refine qk9 hp (cF (hb p_ s2 σ1 H2 _ I2 q2) λf s3 q3=>?_);cases f with
  |next=>
   obtain⟨σ3,H3,I3,n3⟩:=q3;obtain⟨m',hm,w3⟩:=hN σ3 H3 n3;exact⟨m',hm,σ3,H3,I3,w3⟩
  |cont=>
   obtain⟨σ3,H3,I3,n3⟩:=q3;obtain⟨m',hm,w3⟩:=hN σ3 H3 n3;exact⟨m',hm,σ3,H3,I3,w3⟩
  |brk=>exact q3
  |ret v=>exact q3
 |false=>
  rw[if_neg qjq];exact wpAny_execs_nil ⟨σ1,H2,I2,q2⟩
end
structure It where
 go:Nat->Hp->Prop
 yld:Nat->Hp->V->Hp->Prop
 stop:Nat->Hp->Prop
def uo(X:Cx)(p_:QAC)(H:Hp)(b:Addr):Prop:=
 H b=none/\b≠X.env.locals/\b∉X.fs/\(b∈X.ex\/X.s₀.heap.objs.size<=b)/\(∀x c,X.env.cells.lookup x=some c->c≠b)/\∀p∈X.pn++p_,p.1≠b
theorem Inv.Dc{X:Cx}{p_:QAC}{σ:St}{H H':Hp}{s:Shared}{b:Addr}(I:Inv X p_ σ H s)(hb:s.heap.objs.size<=b)(hn:H' b=none):uo X p_ H' b:=by
 refine⟨hn,qkL (qjl I.lt hb),I.qgG hb,.inr (qjx I.sz hb),λx c e z=>?_,λp hp z=>?_⟩
 ·obtain⟨v,q⟩:=I.cell x c e;exact absurd (qjl q.lt (by rw[z];exact hb)) (qki _)
 ·exact absurd (qjl (qjd (I.pin p hp).1) (by rw[z];exact hb)) (qki _)
structure Turn(P:Program)(w:World)(K:W.Frag)(tg:Expr)(J:It)(fp:List Addr)(it:Addr)(tn:Nat->Heap->Prop):Prop where
 mem:it∈fp
 obj:∀i h,tn i h->∀b∈fp,∃o,h.get? b=some o/\∀v,o.data≠.cell v
 keep:∀i h h',tn i h->(∀b∈fp,∀o,h.get? b=some o->h'.get? b=some o)->tn i h'
 item:∀(X:Cx),X.prog=P->X.w=w->X.K=K->X.calm=true->∀(i:Nat)(p_:QAC)(s:Shared)(σ:St)(H:Hp)(E:QAB),Inv X p_ σ H s->(∀b∈fp,uo X p_ H b)->tn i s.heap->J.go i H->
  wpAny (model P w) X.A (pyNext (.ref it)) (λr s1=>∃u,r=some u/\
   wpAny (model P w) X.A (letOwnedTupleGo tg (.ref it) u) (λ_ s2=>∃x H',Inv X p_ σ H' s2/\RelV x u/\J.yld i H x H'/\tn (i+1) s2.heap/\∀b∈fp,H' b=none) E s1) E s
 done:∀(X:Cx),X.prog=P->X.w=w->X.K=K->X.calm=true->∀(i:Nat)(p_:QAC)(s:Shared)(σ:St)(H:Hp)(E:QAB),Inv X p_ σ H s->(∀b∈fp,uo X p_ H b)->tn i s.heap->J.stop i H->
  wpAny (model P w) X.A (pyNext (.ref it)) (λr s1=>r=none/\Inv X p_ σ H s1) E s
 self:∀(A:Around)(i:Nat)(s:Shared)(Q:QAB)(E:QAB),tn i s.heap->Q (.ref it) s->wpAny (model P w) A (pyIter (.ref it)) Q E s
abbrev TI:=St->Hp->(It->Hp->Prop)->Prop
def PIE(X:Cx)(p_:QAC)(σ:St)(tg:Expr)(R:It->Hp->Prop)(itv:Value)(s2:Shared):Prop:=
 ∃(it:Addr)(fp:List Addr)(tn:Nat->Heap->Prop)(J:It)(H':Hp),itv = .ref it/\Inv X p_ σ H' s2/\Turn X.prog X.w X.K tg J fp it tn/\tn 0 s2.heap/\(∀b∈fp,uo X p_ H' b)/\R J H'
def PI(X:Cx)(tg iter:Expr)(wi:TI):Prop:=
 ∀(p_:QAC)(s:Shared)(σ:St)(H:Hp)(R:It->Hp->Prop),Inv X p_ σ H s->wi σ H R->
  wpAny (model X.prog X.w) X.A (eval iter X.env) (λv s1=>wpAny (model X.prog X.w) X.A (pyIter v) (PIE X p_ σ tg R) X.xe s1) X.xe s
theorem UG{M:Model}{A:Around}{E:QAB}{s:Shared}{tg:Expr}{it:Addr}{u:Value}{o:Obj}{n:String}{vs:Array Value}{Q:Unit->Shared->Prop}(ho:s.heap.get? it=some o)(hc:o.cls = .type n)(hd:o.data = .fields vs)
  (hn : ["enumerate", "zip", "dict_itemiterator", "dict_reverseitemiterator", "odict_iterator", "itertools.zip_longest", "itertools.pairwise"].contains n=false) (hQ:Q () s):wpAny M A (letOwnedTupleGo tg (.ref it) u) Q E s:=by
 unfold letOwnedTupleGo;cases tg <;> first
  |exact qi_ hQ
  |(cases u <;> first
    |exact qi_ hQ
    |(refine qi4 (wpAny_load ho ?_)
      rw[hc,hd];show wpAny M A (if (["enumerate", "zip", "dict_itemiterator", "dict_reverseitemiterator", "odict_iterator", "itertools.zip_longest", "itertools.pairwise"].contains n && vs[0]? == some (rawInt _))=true then _ else _) Q E s
      rw[if_neg (by intro h;rw[hn,Bool.false_and] at h;cases h)];exact qi_ hQ))
def Ui(K:W.Frag)(a:Addr):It:=
 ⟨λi H=>∃xs x,aX K H a xs/\xs[i]? = some x,λi H x H'=>H'=H/\∀xs,aX K H a xs->xs[i]? = some x,λi H=>∃xs,aX K H a xs/\xs.length<=i⟩
def Itt(K:W.Frag)(a:Addr):It:=
 ⟨λi H=>∃xs x,dg K H a xs/\xs[i]? = some x,λi H x H'=>H'=H/\∀xs,dg K H a xs->xs[i]? = some x,λi H=>∃xs,dg K H a xs/\xs.length<=i⟩
def Uj(lo:Int)(n:Nat):It:=⟨λi _=>i<n,λi H x H'=>H'=H/\x = .int (lo+i),λi _=>n<=i⟩
theorem DY{P:Program}{w:World}{K:W.Frag}{tg:Expr}(a it:Addr):Turn P w K tg (Ui K a) [it] it (λi h=>h.IsListIter it a i) where
 mem:=by simp
 obj:=λi h st b hb=>by
  have e:b=it:=by simpa using hb
  subst e;obtain⟨o,e,c,d⟩:=st;exact⟨o,e,λv z=>by rw[d] at z;cases z⟩
 keep:=λi h h' st k=>st.at λo e=>k it (by simp) o e
 item:=by
  intro X hP hw hK hc i p_ s σ H E I hf st hg;subst hP hw hK;obtain⟨xs,x,hq,hx⟩:=hg;obtain⟨its,rv,p,hz⟩:=I.list hq;obtain⟨u,hu,ru⟩:=rv.get hx;obtain⟨f0,f1,f2,f3,f4,f5⟩:=hf it (by simp);refine wpAny_pyNext_list_item st p.isList (x:=u) (by simpa using hu) λh' st' sb=>?_;have I1:Inv X p_ σ H {s with heap:=h'}:=I.turned (t':=s.toks) (λb o hb e=>(sb.2 b hb).trans e) f0 f1 f3 f4 f5;obtain⟨o,e,c,d⟩:=id st';exact⟨u,rfl,UG (s:={s with heap:=h'}) e c d (by decide) ⟨x,H,I1,ru,⟨rfl,λys hy=>by rw[I.Jb hy hq];exact hx⟩,st',λb hb=>(hf b hb).1⟩⟩
 done:=by
  intro X hP hw hK hc i p_ s σ H E I hf st hg;subst hP hw hK;obtain⟨xs,hq,hx⟩:=hg;obtain⟨its,rv,p,hz⟩:=I.list hq;obtain⟨f0,f1,f2,f3,f4,f5⟩:=hf it (by simp);have hl:=rv.length;exact wpAny_pyNext_list_end (I.ok.hd hc) st p.isList (by simp;omega) λh' eb=>⟨rfl,I.turned (t':=s.toks) (λb o hb e=>eb b o hb e) f0 f1 f3 f4 f5⟩
 self:=λ_ _ _ _ _ st h=>wpAny_pyIter_listiter st h
theorem zU{P:Program}{w:World}{K:W.Frag}{tg:Expr}(a it:Addr):Turn P w K tg (Itt K a) [it] it (λi h=>h.IsTupleIter it a i) where
 mem:=by simp
 obj:=λi h st b hb=>by
  have e:b=it:=by simpa using hb
  subst e;obtain⟨o,e,c,d⟩:=st;exact⟨o,e,λv z=>by rw[d] at z;cases z⟩
 keep:=λi h h' st k=>st.at λo e=>k it (by simp) o e
 item:=by
  intro X hP hw hK hc i p_ s σ H E I hf st hg;subst hP hw hK;obtain⟨xs,x,hq,hx⟩:=hg;obtain⟨its,rv,p,hz⟩:=I.tuple hq;obtain⟨u,hu,ru⟩:=rv.get hx;obtain⟨f0,f1,f2,f3,f4,f5⟩:=hf it (by simp);refine wpAny_pyNext_tuple_item st (show s.heap.IsTuple a its.toArray from p) (x:=u) (by simpa using hu) λh' st' sb=>?_;have I1:Inv X p_ σ H {s with heap:=h'}:=I.turned (t':=s.toks) (λb o hb e=>(sb.2 b hb).trans e) f0 f1 f3 f4 f5;obtain⟨o,e,c,d⟩:=id st';exact⟨u,rfl,UG (s:={s with heap:=h'}) e c d (by decide) ⟨x,H,I1,ru,⟨rfl,λys hy=>by rw[I.QL hy hq];exact hx⟩,st',λb hb=>(hf b hb).1⟩⟩
 done:=by
  intro X hP hw hK hc i p_ s σ H E I hf st hg;subst hP hw hK;obtain⟨xs,hq,hx⟩:=hg;obtain⟨its,rv,p,hz⟩:=I.tuple hq;obtain⟨f0,f1,f2,f3,f4,f5⟩:=hf it (by simp);have hl:=rv.length;exact wpAny_pyNext_tuple_end (I.ok.hd hc) st (show s.heap.IsTuple a its.toArray from p) (by simp;omega) λh' eb=>⟨rfl,I.turned (t':=s.toks) (λb o hb e=>eb b o hb e) f0 f1 f3 f4 f5⟩
 self:=λ_ _ _ _ _ st h=>wpAny_pyIter_tupleiter st h
theorem Lw{P:Program}{w:World}{K:W.Frag}{tg:Expr}(it:Addr)(lo:Int)(n:Nat):Turn P w K tg (Uj lo n) [it] it (λi h=>IsRangeIter h it (lo+(i:Nat) * 1) ((n:Int) - (i:Nat)) 1) where
 mem:=by simp
 obj:=λi h st b hb=>by
  have e:b=it:=by simpa using hb
  subst e;exact⟨_,st,λv z=>by
   have z':Data.fields _=Data.cell v:=z;cases z'⟩
 keep:=λi h h' st k=>k it (by simp) _ st
 item:=by
  intro X hP hw hK hc i p_ s σ H E I hf st hg;subst hP hw hK;obtain⟨f0,f1,f2,f3,f4,f5⟩:=hf it (by simp);have jq:=Walks.range (prog:=X.prog) (w:=X.w) (I.ok.hd hc) it lo 1 n;refine jq.item i s _ _ hg st λv h' tk hv st' kk=>?_;obtain⟨t,rfl⟩:=hv;have I1:Inv X p_ σ H {s with heap:=h',toks:=tk}:=I.turned (λb o hb e=>kk b o (by simpa using hb) e) f0 f1 f3 f4 f5;refine⟨_,rfl,UG (s:={s with heap:=h',toks:=tk}) (n:= "range_iterator") st' rfl rfl (by decide) ⟨.int (lo+i),H,I1,⟨t,?_⟩,⟨rfl,rfl⟩,st',λb hb=>(hf b hb).1⟩⟩;rw[Int.mul_one]
 done:=by
  intro X hP hw hK hc i p_ s σ H E I hf st hg;subst hP hw hK;obtain⟨f0,f1,f2,f3,f4,f5⟩:=hf it (by simp);exact wpAny_pyNext_range_end (I.ok.hd hc) st (by have:n<=i:=hg;omega) λh' eb=>⟨rfl,I.turned (t':=s.toks) (λb o hb e=>eb b o hb e) f0 f1 f3 f4 f5⟩
 self:=λ_ _ _ _ _ st h=>wpAny_pyIter_rangeiter st h
section
variable {X:Cx}{tg:Expr}
def O4(K:W.Frag)(tl:TE):TI:=λσ H R=>tl σ H λx H1=>∃a,x = .ref a/\(∃xs,aX K H1 a xs)/\R (Ui K a) H1
def qbo(K:W.Frag)(tl:TE):TI:=λσ H R=>tl σ H λx H1=>∃a,x = .ref a/\(∃xs,dg K H1 a xs)/\R (Itt K a) H1
theorem YF{l:Expr}{tl:TE}(hl:PE X l tl):PI X tg l (O4 X.K tl):=by
 intro p_ s σ H R I h;refine cF (hl p_ s σ H _ I h) λv s1 zz=>?_;obtain⟨x,H1,I1,r1,q1⟩:=zz;obtain⟨a,e,⟨xs,hq⟩,q⟩:=q1;subst e;cases r1;obtain⟨its,rv,p,hz⟩:=I1.list hq;refine qlq p.isList ?_;refine⟨s1.heap.objs.size,[s1.heap.objs.size],_,_,H1,rfl,I1.kept (t':=s1.toks) λb o e=>qi6 _ e,DY a _,⟨_,qjg _ rfl,rfl,rfl⟩,λb hb=>?_,q⟩;have e:b=s1.heap.objs.size:=by simpa using hb
 subst e;exact I1.Dc (qjb _) (I1.hok.fresh (qjb _))
theorem qbp{l:Expr}{tl:TE}(hl:PE X l tl):PI X tg l (qbo X.K tl):=by
 intro p_ s σ H R I h;refine cF (hl p_ s σ H _ I h) λv s1 zz=>?_;obtain⟨x,H1,I1,r1,q1⟩:=zz;obtain⟨a,e,⟨xs,hq⟩,q⟩:=q1;subst e;cases r1;obtain⟨its,rv,p,hz⟩:=I1.tuple hq;refine qk3 (show s1.heap.IsTuple a its.toArray from p) ?_;refine⟨s1.heap.objs.size,[s1.heap.objs.size],_,_,H1,rfl,I1.kept (t':=s1.toks) λb o e=>qi6 _ e,zU a _,⟨_,qjg _ rfl,rfl,rfl⟩,λb hb=>?_,q⟩;have e:b=s1.heap.objs.size:=by simpa using hb
 subst e;exact I1.Dc (qjb _) (I1.hok.fresh (qjb _))
theorem UJ{p_:QAC}{σ:St}{H:Hp}{s:Shared}{R:It->Hp->Prop}{E:QAB}{lo hi:Int}{t u v:Tok}{tk:Nat}(I:Inv X p_ σ H s)(h1 : -(2 ^ 62)<=lo)(h2:lo<2 ^ 62)(h3 : -(2 ^ 62)<=hi)(h4:hi<2 ^ 62)
  (q:R (Uj lo (hi - lo).toNat) H):wpAny (model X.prog X.w) X.A (pyIter (.ref s.heap.objs.size)) (PIE X p_ σ tg R) E {s with heap:=s.heap.push {cls:=.type "range",data:=.fields #[.int lo t,.int hi u,.int 1 v]},toks:=tk}:=by
 refine wpAny_pyIter_range (IsRange.new ..) (small_one h1 h2 h3 h4) ?_;have I1:Inv X p_ σ H {s with heap:=s.heap.push {cls:=.type "range",data:=.fields #[.int lo t,.int hi u,.int 1 v]},toks:=tk}:=I.kept λb o e=>qi6 _ e;refine⟨(s.heap.push {cls:=.type "range",data:=.fields #[.int lo t,.int hi u,.int 1 v]}).objs.size,[(s.heap.push {cls:=.type "range",data:=.fields #[.int lo t,.int hi u,.int 1 v]}).objs.size],_,_,H,rfl,
  I1.kept (t':=tk) λb o e=>qi6 _ e,Lw _ lo (hi - lo).toNat,?_,λb hb=>?_,q⟩
 ·have e1:lo+((0:Nat):Int) * 1=lo:=by simp
  have e2:(((hi - lo).toNat:Nat):Int) - ((0:Nat):Int)=Builtin.Range.rangeSize lo hi 1:=by rw[rangeSize_one];split <;> omega
  show IsRangeIter _ _ (lo+((0:Nat):Int) * 1) ((((hi - lo).toNat:Nat):Int) - ((0:Nat):Int)) 1;rw[e1,e2];exact qjg _ rfl
 ·have e:b=(s.heap.push {cls:=.type "range",data:=.fields #[.int lo t,.int hi u,.int 1 v]}).objs.size:=by simpa using hb
  subst e;exact I1.Dc (qjb _) (I1.hok.fresh (qjb _))
def UL(ta:TA):TI:=λσ H R=>ta σ H λvs H1=>∃j:Int,vs=[.int j]/\-(2 ^ 62)<=j/\j<2 ^ 62/\R (Uj 0 j.toNat) H1
theorem lE{a:Expr}{ta:TA}{p pos:Pos} (hg:Gl X "range") (hm:X.mg "range" = none) (ha:PA X [a] ta) (hs:starEach [a] X.env=[(false,eval a X.env)]:=by rfl):PI X tg (.Call (.Name "range" p) [a] [] pos) (UL ta):=by
 intro p_ s σ H R I h;refine Call_ (rD I hg hm boot_range (qkB (cF (ha pos p_ s σ H _ I h) λus s1 zz=>?_) hs rfl));obtain⟨vs,H1,I1,r1,q1⟩:=zz;obtain⟨j,e,q1,q2,q⟩:=q1;subst e;cases r1 with
 |cons r rr=>
  cases rr;obtain⟨t,rfl⟩:=r;exact call_range_1 (UJ I1 (by omega) (by omega) q1 q2 (by simpa using q))
def qdu(wi:TI)(g:TG)(tb:TS):TS:=λD σ H=>wi σ H λJ H1=>∃jq:Nat->Nat->St->Hp->Prop,(∃m,jq 0 m σ H1)/\∀i m σ H,jq i m σ H->
 (J.stop i H/\D.nx σ H)\/(J.go i H/\∃N:St->Hp->Prop,(∀σ' H',N σ' H'->∃m',m'<m/\jq (i+1) m' σ' H')/\∀x H',J.yld i H x H'->g x σ H' λσ2 H2=>tb {D with nx:=N,ct:=N,bk:=D.nx} σ2 H2)
def zV(fp:List Addr)(h:Heap):QAC:=fp.filterMap λb=>(h.get? b).map λo=>(b,o)
theorem pY{fp:List Addr}{h:Heap}{b:Addr}{o:Obj}(hb:b∈fp)(e:h.get? b=some o):(b,o)∈zV fp h:=List.mem_filterMap.mpr ⟨b,hb,by rw[e];rfl⟩
theorem QT{fp:List Addr}{h:Heap}{p:Addr×Obj}(hp:p∈zV fp h):p.1∈fp/\h.get? p.1=some p.2:=by
 obtain⟨b,hb,e⟩:=List.mem_filterMap.mp hp;cases q:h.get? b with
 |none=>rw[q] at e;cases e
 |some o=>
  rw[q] at e;have e':(b,o)=p:=qjI e;subst e';exact⟨hb,q⟩
theorem Inv.pinned{p_:QAC}{σ:St}{H:Hp}{s:Shared}{fp:List Addr}(I:Inv X p_ σ H s)(hf:∀b∈fp,uo X p_ H b)(ho:∀b∈fp,∃o,s.heap.get? b=some o/\∀v,o.data≠.cell v):Inv X (p_++zV fp s.heap) σ H s:=
 I.OJ λp hp=>(qjz.mp hp).elim (λz=>I.pin p (qjH _ z)) λz=>by
  obtain⟨hb,e⟩:=QT z;obtain⟨f0,f1,f2,_⟩:=hf p.1 hb;obtain⟨o,e',d⟩:=ho p.1 hb;rw[e] at e';cases e';exact⟨e,f0,f1,f2,d⟩
theorem Inv.vP{p_ pl:QAC}{σ:St}{H:Hp}{s:Shared}(I:Inv X (p_++pl) σ H s):Inv X p_ σ H s:=I.OJ λp hp=>I.pin p (qjH _ (qjR _ hp))
theorem h_{iter:Expr}{body:List Stmt}{wi:TI}{g:TG}{tb:TS}{pos:Pos}(hp:PassesOwn (model X.prog X.w) X.A X.env X.xe)(hc:X.calm=true)(hi:PI X tg iter wi)(hg:PG X tg g)(hb:I_ X body tb)
  (hs:∀x,foldedSetIterable iter X.env x=pure x:=by intro _;rfl):PS X (.For tg iter body [] pos) (qdu wi g tb):=by
 intro p_ s σ H D I h;refine wpAny_For (cF (hi p_ s σ H _ I h) λv s1 h1=>cF h1 λitv s2 h2=>?_) hs;obtain⟨it,fp,tn,J,H2,e,I2,T,st2,f2,jq,⟨m0,w0⟩,turn⟩:=h2;subst e;have stat:∀{H':Hp},(∀b∈fp,H' b=none)->∀b∈fp,uo X p_ H' b:=λhn b hb=>⟨hn b hb,(f2 b hb).2⟩;refine codeAny_forLoop_any (λn s'=>∃i σ' H',Inv X p_ σ' H' s'/\tn i s'.heap/\(∀b∈fp,H' b=none)/\jq i n σ' H') ?_ m0 ⟨0,σ,H2,I2,st2,λb hb=>(f2 b hb).1,w0⟩;rintro n s3 ⟨i,σ3,H3,I3,st3,fr3,w3⟩
 rcases turn i n σ3 H3 w3 with⟨stop,qn⟩|⟨go,N,hN,step⟩
 ·refine qk9 hp (cF (T.done X rfl rfl rfl hc i p_ s3 σ3 H3 X.xe I3 (stat fr3) st3 stop) λr s4 zz=>?_);obtain⟨hr,I4⟩:=zz;subst hr;exact wpAny_execs_nil ⟨σ3,H3,I4,qn⟩
 ·refine qk9 hp (cF (T.item X rfl rfl rfl hc i p_ s3 σ3 H3 X.xe I3 (stat fr3) st3 go) λr s4 zz=>?_);obtain⟨u,hr,h4⟩:=zz;subst hr;refine qk9 hp (cF h4 λ_ s5 zz=>?_);obtain⟨x,H5,I5,r5,y5,Dd,fr5⟩:=zz;have I5':=I5.pinned (stat fr5) (T.obj _ _ Dd);refine qk9 hp (cF (hg _ s5 σ3 H5 x u _ I5' r5 (step x H5 y5)) λ_ s6 zz=>?_);obtain⟨σ6,H6,I6,q6⟩:=zz;refine qk9 hp (cF (hb _ s6 σ6 H6 _ I6 q6) λf s7 q7=>?_);have again:∀{σ7:St}{H7:Hp},Inv X (p_++zV fp s5.heap) σ7 H7 s7->N σ7 H7->∃m,m<n/\∃i σ' H',Inv X p_ σ' H' s7/\tn i s7.heap/\(∀b∈fp,H' b=none)/\jq i m σ' H':=λ{σ7 H7} I7 n7=>by
   obtain⟨m',hm,w7⟩:=hN σ7 H7 n7;refine⟨m',hm,i+1,σ7,H7,I7.vP,T.keep _ _ _ Dd λb hb o e=>(I7.pin (b,o) (qjH _ (qjH _ (pY hb e)))).1,λb hb=>?_,w7⟩;obtain⟨o,e,d⟩:=T.obj _ _ Dd b hb;exact(I7.pin (b,o) (qjH _ (qjH _ (pY hb e)))).2.1
  cases f with
  |next=>obtain⟨σ7,H7,I7,n7⟩:=q7;exact again I7 n7
  |cont=>obtain⟨σ7,H7,I7,n7⟩:=q7;exact again I7 n7
  |brk=>obtain⟨σ7,H7,I7,q7⟩:=q7;exact⟨σ7,H7,I7.vP,q7⟩
  |ret v=>obtain⟨x7,σ7,H7,I7,r7,q7⟩:=q7;exact⟨x7,σ7,H7,I7.vP,r7,q7⟩
end
theorem UW{K:W.Frag}{a:Addr}{xs:List V}{g:TG}{tb:TS}{D:Ends}{σ:St}{H:Hp}(Pv:Nat->St->Hp->Prop)(h0:Pv 0 σ H)(hl:∀i σ H,i<=xs.length->Pv i σ H->aX K H a xs)
  (hs:∀i x σ H,xs[i]? = some x->Pv i σ H->g x σ H λσ2 H2=>tb {D with nx:=Pv (i+1),ct:=Pv (i+1),bk:=D.nx} σ2 H2) (hd:∀σ H,Pv xs.length σ H->D.nx σ H) :
  ∃jq:Nat->Nat->St->Hp->Prop,(∃m,jq 0 m σ H)/\∀i m σ H,jq i m σ H->
   ((Ui K a).stop i H/\D.nx σ H)\/((Ui K a).go i H/\∃N:St->Hp->Prop,(∀σ' H',N σ' H'->∃m',m'<m/\jq (i+1) m' σ' H')/\∀x H',(Ui K a).yld i H x H'->g x σ H' λσ2 H2=>tb {D with nx:=N,ct:=N,bk:=D.nx} σ2 H2):=by
 refine⟨λi m σ H=>m=xs.length - i/\i<=xs.length/\Pv i σ H,⟨xs.length,by simp,qjY _,h0⟩,?_⟩;rintro i m σ H ⟨rfl,hi,p⟩;have q:=hl i σ H hi p
 by_cases hlt:i<xs.length
 ·refine .inr ⟨⟨xs,xs[i],q,by simp[hlt]⟩,Pv (i+1),λσ' H' p'=>⟨xs.length - (i+1),by omega,rfl,hlt,p'⟩,λx H' y=>?_⟩;obtain⟨e,y⟩:=y;subst e;exact hs i x σ _ (y xs q) p
 ·have e:i=xs.length:=by omega
  subst e;exact .inl ⟨⟨xs,q,qjb _⟩,hd σ H p⟩
theorem QV{lo:Int}{n:Nat}{g:TG}{tb:TS}{D:Ends}{σ:St}{H:Hp}(Pv:Nat->St->Hp->Prop)(h0:Pv 0 σ H)
  (hs:∀i σ H,i<n->Pv i σ H->g (.int (lo+i)) σ H λσ2 H2=>tb {D with nx:=Pv (i+1),ct:=Pv (i+1),bk:=D.nx} σ2 H2) (hd:∀σ H,Pv n σ H->D.nx σ H) :
  ∃jq:Nat->Nat->St->Hp->Prop,(∃m,jq 0 m σ H)/\∀i m σ H,jq i m σ H->
   ((Uj lo n).stop i H/\D.nx σ H)\/((Uj lo n).go i H/\∃N:St->Hp->Prop,(∀σ' H',N σ' H'->∃m',m'<m/\jq (i+1) m' σ' H')/\∀x H',(Uj lo n).yld i H x H'->g x σ H' λσ2 H2=>tb {D with nx:=N,ct:=N,bk:=D.nx} σ2 H2):=by
 refine⟨λi m σ H=>m=n - i/\i<=n/\Pv i σ H,⟨n,by simp,qjY _,h0⟩,?_⟩;rintro i m σ H ⟨rfl,hi,p⟩
 by_cases hlt:i<n
 ·refine .inr ⟨hlt,Pv (i+1),λσ' H' p'=>⟨n - (i+1),by omega,rfl,hlt,p'⟩,λx H' y=>?_⟩;obtain⟨e,y⟩:=y;subst e y;exact hs i σ _ hlt p
 ·have e:i=n:=by omega
  subst e;exact .inl ⟨qjb _,hd σ H p⟩
theorem U0{c:TT}{tb:TS}{D:Ends}{σ:St}{H:Hp}(Pv:St->Hp->Prop)(μ:St->Hp->Nat)(h0:Pv σ H)
  (hs:∀σ H,Pv σ H->c σ H λb H1=>if b=true then tb {D with nx:=λσ' H'=>Pv σ' H'/\μ σ' H'<μ σ H,ct:=λσ' H'=>Pv σ' H'/\μ σ' H'<μ σ H,bk:=D.nx} σ H1 else D.nx σ H1)
  (mono:∀σ H Q Q',(∀b H1,Q b H1->Q' b H1)->c σ H Q->c σ H Q'):Gd c tb D σ H:=by
 refine⟨λm σ H=>m=μ σ H/\Pv σ H,⟨_,rfl,h0⟩,?_⟩;rintro m σ H ⟨rfl,p⟩;refine mono σ H _ _ (λb H1 q=>?_) (hs σ H p);cases b with
 |true=>exact⟨_,λσ' H' ⟨p',l⟩=>⟨_,l,rfl,p'⟩,q⟩
 |false=>exact q
abbrev R2:=V->V->Hp->VK->Prop
def gJ(X:Cx)(f:Value->Value->Sem Value)(r:R2):Prop:=
 ∀(p_:QAC)(s:Shared)(σ:St)(H:Hp)(x y:V)(v u:Value)(Q:VK),Inv X p_ σ H s->RelV x v->RelV y u->r x y H Q->
  wpAny (model X.prog X.w) X.A (f v u) (EP X p_ σ Q) X.xe s
def UnR(X:Cx)(f:Value->Sem Value)(r:V->Hp->VK->Prop):Prop:=
 ∀(p_:QAC)(s:Shared)(σ:St)(H:Hp)(x:V)(v:Value)(Q:VK),Inv X p_ σ H s->RelV x v->r x H Q->
  wpAny (model X.prog X.w) X.A (f v) (EP X p_ σ Q) X.xe s
def cA(X:Cx)(f:Value)(r:List V->Hp->VK->Prop):Prop:=
 ∀(p_:QAC)(s:Shared)(σ:St)(H:Hp)(xs:List V)(us:QAE)(Q:VK),Inv X p_ σ H s->Vals xs us->r xs H Q->
  wpAny (model X.prog X.w) X.A (call f us) (EP X p_ σ Q) X.xe s
def tOp(r:R2)(ta tb:TE):TE:=λσ H Q=>ta σ H λx H1=>tb σ H1 λy H2=>r x y H2 Q
def tUn(r:V->Hp->VK->Prop)(ta:TE):TE:=λσ H Q=>ta σ H λx H1=>r x H1 Q
def rI(C:Int->Int->Prop)(g:Int->Int->V):R2:=λx y H Q=>∃i j,x = .int i/\y = .int j/\C i j/\Q (g i j) H
def rI0(g:Int->Int->V):R2:=λx y H Q=>∃i j,x = .int i/\y = .int j/\Q (g i j) H
def rU(g:Int->V):V->Hp->VK->Prop:=λx H Q=>∃i,x = .int i/\Q (g i) H
section
variable {X:Cx}{a b c:Expr}{ta tb tc:TE}{pos:Pos}
theorem qbq(ha:PE X a ta)(hb:PE X b tb){p_:QAC}{s:Shared}{σ:St}{H:Hp}{R:V->V->Hp->Prop}(I:Inv X p_ σ H s)
  (h:ta σ H λx H1=>tb σ H1 λy H2=>R x y H2) {Q:QAB}{f:Value->Value->Sem Value}
  (hf:∀v u s2 x y H2,Inv X p_ σ H2 s2->RelV x v->RelV y u->R x y H2->wpAny (model X.prog X.w) X.A (f v u) Q X.xe s2) :
  wpAny (model X.prog X.w) X.A (eval a X.env) (λv s₁=>wpAny (model X.prog X.w) X.A (eval b X.env) (λu s₂=>wpAny (model X.prog X.w) X.A (f v u) Q X.xe s₂) X.xe s₁) X.xe s:=by
 refine cF (ha p_ s σ H _ I h) λv s1 zz=>?_;obtain⟨x,H1,I1,r1,q1⟩:=zz;refine cF (hb p_ s1 σ H1 _ I1 q1) λu s2 zz=>?_;obtain⟨y,H2,I2,r2,q2⟩:=zz;exact hf v u s2 x y H2 I2 r1 r2 q2
theorem cB{op:Operator}{r:R2}(ho:gJ X (binaryOp op) r)(ha:PE X a ta)(hb:PE X b tb):PE X (.BinOp a op b pos) (tOp r ta tb):=by
 intro p_ s σ H Q I h;exact wpAny_BinOp (qbq ha hb I h λv u s2 x y H2 I2 rx ry q=>ho p_ s2 σ H2 x y v u Q I2 rx ry q)
theorem qaC{op:UnaryOp}{r:V->Hp->VK->Prop}(ho:UnR X (unaryOp op) r)(ha:PE X a ta):PE X (.UnaryOp op a pos) (tUn r ta):=by
 intro p_ s σ H Q I h;refine UnaryOp_ (cF (ha p_ s σ H _ I h) λv s1 zz=>?_);obtain⟨x,H1,I1,r1,q1⟩:=zz;exact ho p_ s1 σ H1 x v Q I1 r1 q1
theorem opI{f:Value->Value->Sem Value}{C:Int->Int->Prop}{g:Int->Int->Int}
  (rule:∀(i j:Int)(t u:Tok)(s:Shared)(Q:QAB)(E:QAB),C i j->Q (.int (g i j) s.toks) {s with toks:=s.toks+1}->wpAny (model X.prog X.w) X.A (f (.int i t) (.int j u)) Q E s) :
  gJ X f (rI C λi j=>.int (g i j)):=by
 intro p_ s σ H x y v u Q I rx ry h;obtain⟨i,j,rfl,rfl,hc,q⟩:=h;obtain⟨t,rfl⟩:=rx;obtain⟨t',rfl⟩:=ry;exact rule i j t t' s _ _ hc ⟨.int (g i j),H,I.tok _,⟨_,rfl⟩,q⟩
theorem qdv{f:Value->Value->Sem Value}{g:Int->Int->Int}
  (rule:∀(i j:Int)(t u:Tok)(s:Shared)(Q:QAB)(E:QAB),Q (.int (g i j) s.toks) {s with toks:=s.toks+1}->wpAny (model X.prog X.w) X.A (f (.int i t) (.int j u)) Q E s) :
  gJ X f (rI0 λi j=>.int (g i j)):=by
 intro p_ s σ H x y v u Q I rx ry h;obtain⟨i,j,rfl,rfl,q⟩:=h;obtain⟨t,rfl⟩:=rx;obtain⟨t',rfl⟩:=ry;exact rule i j t t' s _ _ ⟨.int (g i j),H,I.tok _,⟨_,rfl⟩,q⟩
theorem qbr{f:Value->Value->Sem Value}{g:Int->Int->Bool}
  (rule:∀(i j:Int)(t u:Tok)(s:Shared)(Q:QAB)(E:QAB),Q (.bool (g i j)) s->wpAny (model X.prog X.w) X.A (f (.int i t) (.int j u)) Q E s) :
  gJ X f (rI0 λi j=>.bl (g i j)):=by
 intro p_ s σ H x y v u Q I rx ry h;obtain⟨i,j,rfl,rfl,q⟩:=h;obtain⟨t,rfl⟩:=rx;obtain⟨t',rfl⟩:=ry;exact rule i j t t' s _ _ ⟨.bl (g i j),H,I,rfl,q⟩
@[simp] def QW (i j:Int):Prop:=0<j/\j<1073741824
@[simp] def qdw (i j:Int):Prop:=0<=j/\j<=1000000/\i.natAbs<2 ^ 64
@[simp] def YG (i j:Int):Prop:=(-(2 ^ 64)<i/\i<2 ^ 64)\/(-(2 ^ 64)<j/\j<2 ^ 64)
theorem YG.ok{i j:Int}(h:YG i j):IntMulOk i j:=by
 rcases h with⟨h1,h2⟩|⟨h1,h2⟩
 ·exact .of_left (intBits_le_64 h1 h2)
 ·exact .of_right (intBits_le_64 h1 h2)
theorem qbs:gJ X (binaryOp .Add) (rI0 λi j=>.int (i+j)):=qdv λ_ _ _ _ _ _ _ q=>add_int q
theorem qbt:gJ X (binaryOp .Sub) (rI0 λi j=>.int (i - j)):=qdv λ_ _ _ _ _ _ _ q=>sub_int q
theorem qbu:gJ X (binaryOp .Mult) (rI YG λi j=>.int (i * j)):=opI λ_ _ _ _ _ _ _ hc q=>mul_int q hc.ok
theorem YH:gJ X (binaryOp .FloorDiv) (rI QW λi j=>.int (i / j)):=opI λi j _ _ _ _ _ hc q=>by
 have h1:(0:Int)<j:=hc.1;have h2:j<1073741824:=hc.2;exact floordiv_int (by omega) (by rw[Int.fdiv_eq_ediv_of_nonneg i (by omega)];exact q) (.inl (PyProof.noPylong_small (by omega)))
theorem qbw:gJ X (binaryOp .Mod) (rI (λ_ j=>0<j) λi j=>.int (i % j)):=opI λi j _ _ _ _ _ hc q=>by
 have h1:(0:Int)<j:=hc;exact mod_int' (by omega) (by rw[Int.fmod_eq_emod_of_nonneg i (by omega)];exact q)
theorem qbx:gJ X (binaryOp .Pow) (rI qdw λi j=>.int (i ^ j.toNat)):=opI λ_ _ _ _ _ _ _ hc q=>pow_int_small hc.1 hc.2.1 hc.2.2 q
theorem unI{f:Value->Sem Value}{g:Int->Int}
  (rule:∀(i:Int)(t:Tok)(s:Shared)(Q:QAB)(E:QAB),Q (.int (g i) s.toks) {s with toks:=s.toks+1}->wpAny (model X.prog X.w) X.A (f (.int i t)) Q E s) :
  UnR X f (rU λi=>.int (g i)):=by
 intro p_ s σ H x v Q I rx h;obtain⟨i,rfl,q⟩:=h;obtain⟨t,rfl⟩:=rx;exact rule i t s _ _ ⟨.int (g i),H,I.tok _,⟨_,rfl⟩,q⟩
theorem qby:UnR X (unaryOp .USub) (rU λi=>.int (-i)):=unI λ_ _ _ _ _ q=>neg_int q
end
def zm:V->V->Bool
 |.non,.non=>true|.non,.int _=>true|.int _,.non=>true|.non,.bl _=>true|.bl _,.non=>true|.non,.str _=>true|.str _,.non=>true
 |.int _,.int _=>true|.bl _,.bl _=>true|.str _,.str _=>true|.Ug _,.Ug _=>true
 |.int _,.str _=>true|.str _,.int _=>true|.bl _,.str _=>true|.str _,.bl _=>true
 |_,_=>false
def rEq:R2:=λx y H Q=>zm x y=true/\Q (.bl (decide (x=y))) H
def rNe:R2:=λx y H Q=>zm x y=true/\Q (.bl (!decide (x=y))) H
theorem O5{i j:Int}:decide (V.int i=V.int j)=(i == j):=by
 rw[qks];simp
theorem U3{i j:Bool}:decide (V.bl i=V.bl j)=(i == j):=by
 rw[qks];simp
theorem O6{i j:Str}:decide (V.str i=V.str j)=(i == j):=by
 rw[qks];simp
theorem O7{i j:Array UInt8}:decide (V.Ug i=V.Ug j)=(i.toList == j.toList):=by
 rw[qks];cases i;cases j;simp
section
variable {X:Cx}{a b c:Expr}{ta tb tc:TE}{pos:Pos}
theorem bU{p_:QAC}{σ:St}{H:Hp}{s:Shared}{Q:VK}{k k':Bool}(I:Inv X p_ σ H s)(q:Q (.bl k) H)(e:k=k'):EP X p_ σ Q (.bool k') s:=by
 subst e;exact⟨.bl k,H,I,rfl,q⟩
theorem qdx:gJ X (compareOp .Eq) rEq:=by
 intro p_ s σ H x y v u Q I rx ry h;obtain⟨hs,q⟩:=h;cases x with
 |non=>
  cases rx;cases y with
  |non=>cases ry;exact PySem.EqNone.eq_none_none (bU I q (by simp))
  |bl j=>cases ry;exact PySem.EqNone.eq_none_bool (bU I q (by simp))
  |int j=>obtain⟨t',rfl⟩:=ry;exact PySem.EqNone.eq_none_int (bU I q (by simp))
  |str j=>obtain⟨t',rfl⟩:=ry;exact PySem.EqNone.eq_none_str (bU I q (by simp))
  |_=>exact absurd (show false=true from hs) qjq
 |bl i=>
  cases rx;cases y with
  |non=>cases ry;exact PySem.EqNone.eq_bool_none (bU I q (by simp))
  |bl j=>cases ry;exact eq_bool (bU I q U3)
  |str j=>obtain⟨t',rfl⟩:=ry;exact PySem.EqMixed.eq_bool_str (bU I q (by simp))
  |_=>exact absurd (show false=true from hs) qjq
 |int i=>
  obtain⟨t,rfl⟩:=rx;cases y with
  |non=>cases ry;exact PySem.EqNone.eq_int_none (bU I q (by simp))
  |int j=>obtain⟨t',rfl⟩:=ry;exact eq_int (bU I q O5)
  |str j=>obtain⟨t',rfl⟩:=ry;exact PySem.EqMixed.eq_int_str (bU I q (by simp))
  |_=>exact absurd (show false=true from hs) qjq
 |str i=>
  obtain⟨t,rfl⟩:=rx;cases y with
  |non=>cases ry;exact PySem.EqNone.eq_str_none (bU I q (by simp))
  |bl j=>cases ry;exact PySem.EqMixed.eq_str_bool (bU I q (by simp))
  |int j=>obtain⟨t',rfl⟩:=ry;exact PySem.EqMixed.eq_str_int (bU I q (by simp))
  |str j=>obtain⟨t',rfl⟩:=ry;exact eq_str (bU I q O6)
  |_=>exact absurd (show false=true from hs) qjq
 |Ug i=>
  obtain⟨t,rfl⟩:=rx;cases y with
  |Ug j=>obtain⟨t',rfl⟩:=ry;exact W.eq_bytes (bU I q O7)
  |_=>exact absurd (show false=true from hs) qjq
 |_=>cases y <;> exact absurd (show false=true from hs) qjq
theorem qdy:gJ X (compareOp .NotEq) rNe:=by
 intro p_ s σ H x y v u Q I rx ry h;obtain⟨hs,q⟩:=h;cases x with
 |non=>
  cases rx;cases y with
  |non=>cases ry;exact PySem.EqNone.ne_none_none (bU I q (by simp))
  |bl j=>cases ry;exact PySem.EqNone.ne_none_bool (bU I q (by simp))
  |int j=>obtain⟨t',rfl⟩:=ry;exact PySem.EqNone.ne_none_int (bU I q (by simp))
  |str j=>obtain⟨t',rfl⟩:=ry;exact PySem.EqNone.ne_none_str (bU I q (by simp))
  |_=>exact absurd (show false=true from hs) qjq
 |bl i=>
  cases rx;cases y with
  |non=>cases ry;exact PySem.EqNone.ne_bool_none (bU I q (by simp))
  |bl j=>cases ry;exact ne_bool (bU I q (qjB not U3))
  |str j=>obtain⟨t',rfl⟩:=ry;exact PySem.EqMixed.ne_bool_str (bU I q (by simp))
  |_=>exact absurd (show false=true from hs) qjq
 |int i=>
  obtain⟨t,rfl⟩:=rx;cases y with
  |non=>cases ry;exact PySem.EqNone.ne_int_none (bU I q (by simp))
  |int j=>obtain⟨t',rfl⟩:=ry;exact ne_int (bU I q (qjB not O5))
  |str j=>obtain⟨t',rfl⟩:=ry;exact PySem.EqMixed.ne_int_str (bU I q (by simp))
  |_=>exact absurd (show false=true from hs) qjq
 |str i=>
  obtain⟨t,rfl⟩:=rx;cases y with
  |non=>cases ry;exact PySem.EqNone.ne_str_none (bU I q (by simp))
  |bl j=>cases ry;exact PySem.EqMixed.ne_str_bool (bU I q (by simp))
  |int j=>obtain⟨t',rfl⟩:=ry;exact PySem.EqMixed.ne_str_int (bU I q (by simp))
  |str j=>obtain⟨t',rfl⟩:=ry;exact ne_str (bU I q (qjB not O6))
  |_=>exact absurd (show false=true from hs) qjq
 |Ug i=>
  obtain⟨t,rfl⟩:=rx;cases y with
  |Ug j=>obtain⟨t',rfl⟩:=ry;exact W.ne_bytes (bU I q (qjB not O7))
  |_=>exact absurd (show false=true from hs) qjq
 |_=>cases y <;> exact absurd (show false=true from hs) qjq
theorem qdz:gJ X (compareOp .Lt) (rI0 λi j=>.bl (decide (i<j))):=qbr λ_ _ _ _ _ _ _ q=>lt_int q
theorem qdA:gJ X (compareOp .LtE) (rI0 λi j=>.bl (decide (i<=j))):=qbr λ_ _ _ _ _ _ _ q=>le_int q
theorem qdB:gJ X (compareOp .Gt) (rI0 λi j=>.bl (decide (j<i))):=qbr λ_ _ _ _ _ _ _ q=>gt_int q
theorem QX:gJ X (compareOp .In) (λx y H Q=>∃i j,x = .str i/\y = .str j/\Q (.bl (!(Builtin.Str.occurrences j i 0 j.length 1).isEmpty)) H):=by
 intro p_ s σ H x y v u Q I rx ry h;obtain⟨i,j,rfl,rfl,q⟩:=h;obtain⟨t,rfl⟩:=rx;obtain⟨t',rfl⟩:=ry;exact in_str (bU I q rfl)
theorem qbz:gJ X (compareOp .Is) (λx y H Q=>y = .non/\Q (.bl (decide (x = .non))) H):=by
 intro p_ s σ H x y v u Q I rx ry h;obtain⟨rfl,q⟩:=h;cases ry;refine is_none_gen (bU I q ?_);cases x <;> first
  |(cases rx;rfl)
  |(obtain⟨t,rfl⟩:=rx;rfl)
theorem O8:gJ X (compareOp .IsNot) (λx y H Q=>y = .non/\Q (.bl (!decide (x = .non))) H):=by
 intro p_ s σ H x y v u Q I rx ry h;obtain⟨rfl,q⟩:=h;cases ry;refine isnot_none_gen (bU I q ?_);cases x <;> first
  |(cases rx;rfl)
  |(obtain⟨t,rfl⟩:=rx;rfl)
theorem gJ.or{f:Value->Value->Sem Value}{r r':R2}(h:gJ X f r)(h':gJ X f r'):gJ X f (λx y H Q=>r x y H Q\/r' x y H Q):=by
 intro p_ s σ H x y v u Q I rx ry q
 rcases q with q|q
 ·exact h p_ s σ H x y v u Q I rx ry q
 ·exact h' p_ s σ H x y v u Q I rx ry q
theorem bO(b:Expr){op:CmpOp}(h:op≠.In:=by decide)(h2:op≠.NotIn:=by decide):behindInMarks op b=false:=by
 have e1:(op == CmpOp.In)=false:=by cases op <;> first|rfl|exact absurd rfl h
 have e2:(op == CmpOp.NotIn)=false:=by cases op <;> first|rfl|exact absurd rfl h2
 cases b <;> simp[behindInMarks,e1,e2]
theorem gk{op:CmpOp}{r:R2}(ho:gJ X (compareOp op) r)(ha:PE X a ta)(hb:PE X b tb)(hm:behindInMarks op b=false):PE X (.Compare a [op] [b] pos) (tOp r ta tb):=by
 intro p_ s σ H Q I h;exact wpAny_Compare1 (qbq ha hb I h λv u s2 x y H2 I2 rx ry q=>ho p_ s2 σ H2 x y v u Q I2 rx ry q) hm
def O9(t:TE):TT:=λσ H Q=>t σ H λx H'=>∃k,x = .bl k/\Q k H'
theorem YJ{op:CmpOp}{r:R2}(ho:gJ X (compareOp op) r)(ha:PE X a ta)(hb:PE X b tb)(hm:behindInMarks op b=false):PT X (.Compare a [op] [b] pos) (O9 (tOp r ta tb)):=by
 intro p_ s σ H Q I h;refine wpAny_isTrue_Compare1 (cF (ha p_ s σ H _ I h) λv s1 ⟨x,H1,I1,r1,q1⟩=>cF (hb p_ s1 σ H1 _ I1 q1) λu s2 ⟨y,H2,I2,r2,q2⟩=>
  cF (ho p_ s2 σ H2 x y v u _ I2 r1 r2 q2) λc s3 ⟨z,H3,I3,r3,k,e,q3⟩=>?_) hm
 subst e;cases r3;exact qkl ⟨H3,I3,q3⟩
def Ge(r r':R2)(ta tb tc:TE):TE:=λσ H Q=>ta σ H λx H1=>tb σ H1 λy H2=>r x y H2 λz H3=>∃k,z = .bl k/\
 (if k=true then tc σ H3 λw' H4=>r' y w' H4 Q else Q (.bl false) H3)
theorem U4{op op':CmpOp}{r r':R2}(ho:gJ X (compareOp op) r)(ho':gJ X (compareOp op') r')(ha:PE X a ta)(hb:PE X b tb)(hc:PE X c tc)
  (hm:lastMarks [op,op'] [b,c]=false:=by with_unfolding_all rfl):PE X (.Compare a [op,op'] [b,c] pos) (Ge r r' ta tb tc):=by
 intro p_ s σ H Q I h;refine Compare_chain (cF (ha p_ s σ H _ I h) λv s1 ⟨x,H1,I1,r1,q1⟩=>chain_link (cF (hb p_ s1 σ H1 _ I1 q1) λu s2 ⟨y,H2,I2,r2,q2⟩=>
  cF (ho p_ s2 σ H2 x y v u _ I2 r1 r2 q2) λd s3 ⟨z,H3,I3,r3,k,e,q3⟩=>?_)) hm
 subst e;cases r3;refine qkl ?_;cases k with
 |false=>exact ite_ff ⟨.bl false,H3,I3,rfl,q3⟩
 |true=>exact ite_tt (chain_last (cF (hc p_ s3 σ H3 _ I3 q3) λw' s4 ⟨z',H4,I4,r4,q4⟩=>ho' p_ s4 σ H4 y z' u w' Q I4 r2 r4 q4))
theorem U5{op op':CmpOp}{r r':R2}(ho:gJ X (compareOp op) r)(ho':gJ X (compareOp op') r')(ha:PE X a ta)(hb:PE X b tb)(hc:PE X c tc)
  (hm:lastMarks [op,op'] [b,c]=false:=by with_unfolding_all rfl):PT X (.Compare a [op,op'] [b,c] pos) (O9 (Ge r r' ta tb tc)):=by
 intro p_ s σ H Q I h;refine isTrue_chain (cF (ha p_ s σ H _ I h) λv s1 ⟨x,H1,I1,r1,q1⟩=>test_link (cF (hb p_ s1 σ H1 _ I1 q1) λu s2 ⟨y,H2,I2,r2,q2⟩=>
  cF (ho p_ s2 σ H2 x y v u _ I2 r1 r2 q2) λd s3 ⟨z,H3,I3,r3,k,e,q3⟩=>?_)) hm
 subst e;cases r3;refine qkl ?_;cases k with
 |false=>
  obtain⟨k',e',q'⟩:=q3;cases e';exact ite_ff ⟨H3,I3,q'⟩
 |true=>
  refine ite_tt (test_last (cF (hc p_ s3 σ H3 _ I3 q3) λw' s4 ⟨z',H4,I4,r4,q4⟩=>cF (ho' p_ s4 σ H4 y z' u w' _ I4 r2 r4 q4) λd' s5 ⟨z2,H5,I5,r5,k2,e2,q5⟩=>?_));subst e2;cases r5;exact qkl ⟨H5,I5,q5⟩
theorem uU:(sizeLine:Nat)<2 ^ 63:=by rw[sizeLine_eq];decide
theorem Lx:gJ X (binaryOp .Add) (λx y H Q=>∃i j,x = .str i/\y = .str j/\i.length+j.length<=sizeLine/\Q (.str (i++j)) H):=by
 intro p_ s σ H x y v u Q I rx ry h;obtain⟨i,j,rfl,rfl,hz,q⟩:=h;obtain⟨t,rfl⟩:=rx;obtain⟨t',rfl⟩:=ry;exact add_str (λt' tk=>⟨.str (i++j),H,I.tok _,⟨_,rfl⟩,q⟩) hz
theorem vals1{x:V}{us:QAE}(r:Vals [x] us):∃u,us=[u]/\RelV x u:=by
 cases r with
 |cons r1 r2=>cases r2;exact⟨_,rfl,r1⟩
theorem vals2{x y:V}{us:QAE}(r:Vals [x,y] us):∃u w',us=[u,w']/\RelV x u/\RelV y w':=by
 cases r with
 |cons r1 r2=>
  cases r2 with
  |cons r3 r4=>cases r4;exact⟨_,_,rfl,r1,r3⟩
theorem U6:cA X (.builtin "abs") (λxs H Q=>∃i,xs=[.int i]/\Q (.int (if i<0 then -i else i)) H):=by
 intro p_ s σ H xs us Q I r h;obtain⟨i,rfl,q⟩:=h;obtain⟨u,rfl,t,rfl⟩:=vals1 r;exact call_abs_int λu tk=>⟨.int (if i<0 then -i else i),H,I.tok _,⟨_,rfl⟩,q⟩
theorem QZ(hc:X.calm=true):cA X (.builtin "max") (λxs H Q=>∃i j,xs=[.int i,.int j]/\Q (.int (if j > i then j else i)) H):=by
 intro p_ s σ H xs us Q I r h;obtain⟨i,j,rfl,q⟩:=h;obtain⟨u,w',rfl,⟨t,rfl⟩,⟨t',rfl⟩⟩:=vals2 r;refine max_two_ints (I.ok.hd hc) λh' tk k=>⟨_,H,I.kept k,?_,q⟩
 by_cases hj:j > i
 ·rw[if_pos hj,if_pos hj];exact⟨_,rfl⟩
 ·rw[if_neg hj,if_neg hj];exact⟨_,rfl⟩
theorem Q0(hc:X.calm=true):cA X (.builtin "min") (λxs H Q=>∃i j,xs=[.int i,.int j]/\Q (.int (if j<i then j else i)) H):=by
 intro p_ s σ H xs us Q I r h;obtain⟨i,j,rfl,q⟩:=h;obtain⟨u,w',rfl,⟨t,rfl⟩,⟨t',rfl⟩⟩:=vals2 r;refine min_two_ints (I.ok.hd hc) λh' tk k=>⟨_,H,I.kept k,?_,q⟩
 by_cases hj:j<i
 ·rw[if_pos hj,if_pos hj];exact⟨_,rfl⟩
 ·rw[if_neg hj,if_neg hj];exact⟨_,rfl⟩
theorem Jd:cA X (.builtin "divmod") (λxs H Q=>∃i j,xs=[.int i,.int j]/\QW i j/\∀p,H p=none->Q (.ref p) (upd H p (.tup [.int (i / j),.int (i % j)]))):=by
 intro p_ s σ H xs us Q I r h;obtain⟨i,j,rfl,⟨h1,h2⟩,q⟩:=h;obtain⟨u,w',rfl,⟨t,rfl⟩,⟨t',rfl⟩⟩:=vals2 r;refine divmod_int (by omega) ?_ (.inl (PyProof.noPylong_small (by omega)));rw[Int.fdiv_eq_ediv_of_nonneg i (by omega),Int.fmod_eq_emod_of_nonneg i (by omega)];have hn:H s.heap.objs.size=none:=I.hok.fresh (qjb _);refine⟨.ref s.heap.objs.size,_,?_,rfl,q _ hn⟩;refine I.laid (λb o e=>qi6 _ e) (qjb _) ⟨by simp only[qjt,List.length_nil];rw[sizeLine_eq];decide,[.int (i / j) s.toks,.int (i % j) (s.toks+1)],.cons ⟨_,rfl⟩ (.cons ⟨_,rfl⟩ .nil),?_⟩;exact⟨_,qjg s.heap rfl,rfl,0,rfl⟩
end
structure Ly(h:Heap)(x dx C:Addr)(mA:Str->Option Value):Prop where
 obj:h.get? x=some (W.instObj C dx)
 ns:h.Ns1 dx mA
 ne:dx≠x
theorem Q5{h:Heap}{dx:Addr}{mA:Str->Option Value}(n:h.Ns1 dx mA):∃od,h.get? dx=some od/\∀name,W.lookIn name od=some (mA name):=by
 obtain⟨o,es,ep,ho,hd,hk,_,hm⟩:=n;refine⟨o,ho,λname=>?_⟩;have e:=hm name;unfold nsFind findBy at e;rw[<- Array.find?_toList] at e;unfold W.lookIn;rw[hd];dsimp only;split
 ·rename_i y q;rw[q] at e;exact qjB some e
 ·rename_i q;rw[q] at e;have a:es.toList.any (·.refKey)=false:=by
   rw[List.any_eq_false];intro y hy;obtain⟨z,t,hkey⟩:=hk y (Array.mem_toList_iff.mp hy);simp[DictEntry.refKey,hkey]
  have a':¬es.toList.any (·.refKey)=true:=by rw[a];exact qjq
  rw[if_neg a'];exact qjB some e
theorem Ly.look{h:Heap}{x dx C:Addr}{mA:Str->Option Value}(I:Ly h x dx C mA):∃od,W.InstAt h x (W.instObj C dx) C (some od)/\∀name,W.lookIn name od=some (mA name):=
 let ⟨od,ho,hl⟩:=Q5 I.ns
 ⟨od,⟨I.obj,rfl,rfl,ho⟩,hl⟩
section
variable {prog:Program}{w:World}{A:Around}{E:QAB}{s:Shared}{K:W.Frag}{x dx C f:Addr}{mA:Str->Option Value}{name:Str}{v:Value}
theorem get_map{expr:Bool}{Q:QAB}(X:K.In s.heap)(I:Ly s.heap x dx C mA)(hg:W.plainGet K C name=true)(hh:W.hasDictIn K C=true)
  (ha:W.findIn K (.ref C) name=some none) (hv:mA name=some v) (hv':W.handedIn v=true) (h:Q v {s with toks:=s.toks+1}) :
  wpAny (model prog w) A (getAttr (.ref x) name expr) Q E s:=by
 obtain⟨od,J,hl⟩:=I.look;exact W.get_value X J (W.plainGet_of hg).1 (W.findObj_own hh ha rfl (by rw[hl,hv])) hv' h
theorem U7{pl:Sem Bool}{Q:Value×QAE->Shared->Prop}(X:K.In s.heap)(I:Ly s.heap x dx C mA)(hg:W.plainGet K C name=true)
  (hf:W.findIn K (.ref C) name=some (some (.ref f))) (ht:W.isFn K (.ref f)=true) (hv:mA name=none) (h:Q (.ref f,[.ref x]) s) :
  wpAny (model prog w) A (getMethod (.ref x) name pl) Q E s:=by
 obtain⟨od,J,hl⟩:=I.look;exact W.method_fn X J (W.plainGet_of hg).1 (W.plainGet_of hg).2 hf (beq_iff_eq.mp ht) (by show(W.lookIn name od).map (·.isSome)=some false;rw[hl,hv];rfl) h
theorem YK{ns:QAH}{Q:Unit->Shared->Prop}(X:K.In s.heap)(I:Ly s.heap x dx C mA)
  (hs:W.findIn K (.ref C) "__setattr__" = some (some (.builtin "object.__setattr__"))) (hp:W.plainOver K C=true) (ht:W.takerIn K C name=some none) (hh:W.hasDictIn K C=true)
  (hw:PySem.Within mA ns) (hsz:ns.length<=sizeLine)
  (h:∀h',Ly h' x dx C (λy=>if y=name then some v else mA y)->Heap.SameBut dx s.heap h'->Q () {s with heap:=h',toks:=s.toks+2}) :
  wpAny (model prog w) A (setAttr (.ref x) name v) Q E s:=by
 obtain⟨od,J,hl⟩:=I.look;refine W.set_plain X J hs (W.osa_open (s:={s with toks:=s.toks+1}) (r:=none) X J hp ht λb=>?_);obtain⟨cd,hc,hd'⟩:=W.any_some hh;have hx:s.heap.get? x=some ⟨.ref C,some dx,.plain,#[]⟩:=I.obj;refine qi4 (qi_ (qi4 (qi4 (wpAny_loadPart hx (qi4 (W.Looks.here (s:={s with toks:=s.toks+1}) (W.looks_clsIn X hc) ?_))))));rw[hd'];refine qi_ (a:=some dx) (qi4 (qi_ (qi4 ?_)));refine wpAny_nsSet1 (s:={s with toks:=s.toks+1}) I.ns λh' hn2 hs2=>?_;obtain⟨oD,esD,epD,hoD,hdD,hcD⟩:=hn2.count (PySem.Within.cons name v hw);refine qi4 (wpAny_lookBehind hoD (by rw[hdD];exact pastItsLine_dict (qjx hcD (by rw[qjt];omega))) ?_);exact qi_ (h _ ⟨(hs2.2 _ (qk7 I.ne)).trans I.obj,hn2,I.ne⟩ hs2)
theorem U8{R:Result->Shared->Prop}{vs:QAE}{kw:List (Str×Value)}(X:K.In s.heap)(hm:W.makesIn K C=true)
  (hi:W.findIn K (.ref C) "__init__" = some (some (.ref f))) (hf:W.typeIn K (.ref f)=some (.type "function"))
  (h:codeAny (model prog w) (A.under (.builtin "type.__call__" ⟨.ref C::vs,kw⟩)) (.call (.ref f) ⟨.ref (s.heap.objs.size+1)::vs,kw⟩) (W.InitBack (s.heap.objs.size+1) R)
   {s with heap:=(s.heap.push W.emptyDict).push (W.instObj C s.heap.objs.size)}) :
  codeAny (model prog w) A (.call (.ref C) ⟨vs,kw⟩) R s:=by
 obtain⟨hh,g,d,t,os⟩:=s;exact W.make_core (W.makes_of X hm) (W.looks_findIn X hi) (λself=>W.bind_fn X self hf) (.inl rfl) h
end
def jr(f:Str)(v:V):List (Str×V)->List (Str×V)
 |[]=>[(f,v)]
 |(g,x)::r=>if g=f then (g,v)::r else (g,x)::jr f v r
theorem m7(f g:Str)(v:V):∀fs:List (Str×V),(jr f v fs).lookup g=if g=f then some v else fs.lookup g
 |[]=>by
  show List.lookup g [(f,v)]=_
  by_cases h:g=f
  ·have hb:(g == f)=true:=beq_iff_eq.mpr h;simp only[List.lookup,hb,if_pos h]
  ·have hb:(g == f)=false:=qkW.mpr h;simp only[List.lookup,hb,if_neg h]
 |(k,x)::r=>by
  have ih:=m7 f g v r;rw[show jr f v ((k,x)::r)=(if k=f then (k,v)::r else (k,x)::jr f v r) from rfl]
  by_cases hk:k=f
  ·rw[if_pos hk]
   by_cases h:g=k
   ·have hb:(g == k)=true:=beq_iff_eq.mpr h;simp only[List.lookup,hb,if_pos (h.trans hk)]
   ·have hb:(g == k)=false:=qkW.mpr h;simp only[List.lookup,hb,if_neg (λe:g=f=>h (e.trans hk.symm))]
  ·rw[if_neg hk]
   by_cases h:g=k
   ·have hb:(g == k)=true:=beq_iff_eq.mpr h;simp only[List.lookup,hb,if_neg (λe:g=f=>hk (h.symm.trans e))]
   ·have hb:(g == k)=false:=qkW.mpr h;simp only[List.lookup,hb];exact ih
theorem pJ(f:Str)(v:V):∀fs:List (Str×V),f∈(jr f v fs).map (·.1)/\∀g,g∈fs.map (·.1)->g∈(jr f v fs).map (·.1)
 |[]=>⟨by simp[jr],λg h=>by simp at h⟩
 |(k,x)::r=>by
  obtain⟨i1,i2⟩:=pJ f v r;rw[show jr f v ((k,x)::r)=(if k=f then (k,v)::r else (k,x)::jr f v r) from rfl]
  by_cases hk:k=f
  ·rw[if_pos hk];subst hk;exact⟨by simp,λg h=>by simpa using h⟩
  ·rw[if_neg hk];refine⟨?_,λg h=>?_⟩
   ·rw[qjO];exact qjf _ i1
   ·rw[qjO] at h⊢
    rcases qjm.mp h with e|e
    ·exact qjm.mpr (.inl e)
    ·exact qjf _ (i2 g e)
theorem rF(f:Str)(v:V):∀fs:List (Str×V),(jr f v fs).length<=fs.length+1
 |[]=>by simp[jr]
 |(k,x)::r=>by
  have ih:=rF f v r;rw[show jr f v ((k,x)::r)=(if k=f then (k,v)::r else (k,x)::jr f v r) from rfl]
  by_cases hk:k=f
  ·rw[if_pos hk,qjt,qjt];omega
  ·rw[if_neg hk,qjt,qjt];omega
theorem lQ.some_of{v:V}{o:QAG}(r:lQ (some v) o):∃u,o=some u/\RelV v u:=by
 cases o with
 |none=>exact(show False from r).elim
 |some u=>exact⟨u,rfl,r⟩
theorem lQ.none_of{o:QAG}(r:lQ none o):o=none:=by
 cases o with
 |none=>rfl
 |some u=>exact(show False from r).elim
theorem Q6{v:V}{u:Value}(r:RelV v u):W.handedIn u=true:=by
 cases v with
 |non=>cases (show u=Value.none from r);rfl
 |bl b=>cases (show u=Value.bool b from r);rfl
 |int i=>obtain⟨t,e⟩:=(show ∃t,u=Value.int i t from r);cases e;rfl
 |str x=>obtain⟨t,e⟩:=(show ∃t,u=Value.str x t from r);cases e;rfl
 |Ug b=>obtain⟨t,e⟩:=(show ∃t,u=Value.bytes b t from r);cases e;rfl
 |flt b=>obtain⟨t,e⟩:=(show ∃t,u=Value.float b t from r);cases e;rfl
 |ref a=>cases (show u=Value.ref a from r);rfl
 |ty n=>cases (show u=Value.type n from r);rfl
section
variable {P:Program}{w:World}{H H':Hp}{h h':Heap}{a C dx:Addr}{fs fs':List (Str×V)}
theorem vQ(hok:tH P w H h)(e:H a=some (.ins C dx fs)):∃mA,Ly h a dx C mA/\(∀f,lQ (fs.lookup f) (mA f))/\PySem.Within mA (fs.map (·.1))/\fs.length<=1000/\H dx=some (.own a):=by
 obtain⟨d,z,ne,ob,mA,n,r,q⟩:=(show b_ P w H h a (.ins C dx fs) from hok a _ e);exact⟨mA,⟨ob,n,ne⟩,r,q,z,d⟩
end
structure Cls(K:W.Frag)(C:Addr):Prop where
 pg:W.plainGet K C Str.empty=true
 hd:W.hasDictIn K C=true
 po:W.plainOver K C=true
 sa:W.findIn K (.ref C) "__setattr__" = some (some (.builtin "object.__setattr__"))
theorem Cls.get{K:W.Frag}{C:Addr}(c:Cls K C)(f:Str):W.plainGet K C f=true:=c.pg
def j9(K:W.Frag)(C:Addr)(f:Str):Prop:=W.findIn K (.ref C) f=some none
theorem j9.taker{K:W.Frag}{C:Addr}{f:Str}(n:j9 K C f):W.takerIn K C f=some none:=by
 unfold W.takerIn;rw[show W.findIn K (.ref C) f=some none from n];rfl
structure Meth(K:W.Frag)(C:Addr)(m:Str)(f:Addr):Prop where
 at_:W.findIn K (.ref C) m=some (some (.ref f))
 fn:W.isFn K (.ref f)=true
 kp:W.keepIn K (.ref f)=true
section
variable {X:Cx}{p_:QAC}{σ:St}{H:Hp}{s:Shared}{a C dx:Addr}{fs:List (Str×V)}{f:Str}{v:V}{A:Around}{E:QAB}
theorem Lz{b:Bool}{Q:QAB}(I:Inv X p_ σ H s)(e:H a=some (.ins C dx fs))(c:Cls X.K C)(n:j9 X.K C f)(l:fs.lookup f=some v)
  (h:∀u s',Inv X p_ σ H s'->RelV v u->Q u s'):wpAny (model X.prog X.w) A (getAttr (.ref a) f b) Q E s:=by
 obtain⟨mA,O,r,_,_,_⟩:=vQ I.hok e;obtain⟨u,hu,ru⟩:=lQ.some_of (v:=v) (o:=mA f) (by rw[<- l];exact r f);exact get_map I.rm O (c.get f) c.hd n hu (Q6 ru) (h u _ (I.tok _) ru)
theorem LC{m:Str}{g:Addr}{pl:Sem Bool}{Q:Value×QAE->Shared->Prop}(I:Inv X p_ σ H s)(e:H a=some (.ins C dx fs))(c:Cls X.K C)(k:Meth X.K C m g)(l:fs.lookup m=none)
  (h:Q (.ref g,[.ref a]) s):wpAny (model X.prog X.w) A (getMethod (.ref a) m pl) Q E s:=by
 obtain⟨mA,O,r,_,_,_⟩:=vQ I.hok e;have hn:mA m=none:=lQ.none_of (by rw[<- l];exact r m);exact U7 I.rm O (c.get m) k.at_ k.fn hn h
theorem LK{y:V}{u:Value}{Q:Unit->Shared->Prop}(I:Inv X p_ σ H s)(e:H a=some (.ins C dx fs))(c:Cls X.K C)(n:j9 X.K C f)(hl:fs.length<1000)(ry:RelV y u)
  (h:∀s',Inv X p_ σ (upd H a (.ins C dx (jr f y fs))) s'->Q () s'):wpAny (model X.prog X.w) A (setAttr (.ref a) f u) Q E s:=by
 obtain⟨mA,O,r,wi,_,ho⟩:=vQ I.hok e;have hz:(fs.map (·.1)).length<=sizeLine:=by rw[qja,sizeLine_eq];omega
 refine YK I.rm O c.sa c.po n.taker c.hd wi hz λh' O' sb=>h _ ?_;have hd:∃o,h'.get? dx=some o:=let ⟨o,_,_,e',_⟩:=O'.ns;⟨o,e'⟩;refine I.write (x:=a) (e:=dx) (by rw[e];exact True.intro) (.inr ho) (λb q hb z=>(sb.2 b hb).trans z) hd ?_;refine⟨by rw[aD O.ne];exact ho,?_,O.ne,O'.obj,_,O'.ns,λg=>?_,λg hg=>?_⟩
 ·have:=rF f y fs;omega
 ·show lQ ((jr f y fs).lookup g) (if g=f then some u else mA g)
  rw[m7]
  by_cases q:g=f
  ·rw[if_pos q,if_pos q];exact ry
  ·rw[if_neg q,if_neg q];exact r g
 ·by_cases q:g=f
  ·rw[q];exact(pJ f y fs).1
  ·refine(pJ f y fs).2 g (wi g λz=>hg ?_);show(if g=f then some u else mA g)=none
   rw[if_neg q];exact z
theorem Inv.made(I:Inv X p_ σ H s):Inv X p_ σ (upd (upd H s.heap.objs.size (.own (s.heap.objs.size+1))) (s.heap.objs.size+1) (.ins C s.heap.objs.size []))
  {s with heap:=(s.heap.push W.emptyDict).push (W.instObj C s.heap.objs.size)}:=by
 have e1:(s.heap.push W.emptyDict).get? s.heap.objs.size=some W.emptyDict:=qjg s.heap rfl;have e2:((s.heap.push W.emptyDict).push (W.instObj C s.heap.objs.size)).get? (s.heap.objs.size+1)=some (W.instObj C s.heap.objs.size):=by
  have:=qjg (s.heap.push W.emptyDict) (o:=W.instObj C s.heap.objs.size) rfl
  rwa [qjN] at this
 have e3:(s.heap.push W.emptyDict).Ns s.heap.objs.size (λ_=>none):=⟨W.emptyDict,#[],_,e1,rfl,(λe he=>absurd he (by simp)),λ_=>rfl⟩;have I1:=I.laid (a:=s.heap.objs.size) (o:=.own (s.heap.objs.size+1)) (h':=s.heap.push W.emptyDict) (t':=s.toks) (λb u q=>qi6 _ q) (qjb _) ⟨_,e1⟩;refine I1.laid (a:=s.heap.objs.size+1) (o:=.ins C s.heap.objs.size []) (t':=s.toks) (λb u q=>qi6 _ q) (Nat.le_of_eq (qjN _ _)) ?_;have ne:s.heap.objs.size≠s.heap.objs.size+1:=qjn (qkK _);refine⟨by rw[aD ne,ak],qjY _,ne,e2,λ_=>none,(Heap.Ns1.of_empty e3).at λo q=>qi6 _ q,λ_=>True.intro,λy hy=>absurd rfl hy⟩
theorem YL{prog:Program}{w:World}{env:Env}{e:Expr}{f:Str}{pos:Pos}{s:Shared}{Q:QAB}(hb:attributeBase e f env (eval e env)=eval e env)
  (h:wpAny (model prog w) A (eval e env) (λo s₁=>wpAny (model prog w) A (getAttr o f true) Q E s₁) E s):wpAny (model prog w) A (eval (.Attribute e f pos) env) Q E s:=
 Attribute_any_ h (by rw[arm_eval_Attribute,hb])
end
def YM(K:W.Frag)(ta:TE)(f:Str):TE:=λσ H Q=>ta σ H λx H1=>∃a C dx fs v,x = .ref a/\H1 a=some (.ins C dx fs)/\Cls K C/\j9 K C f/\fs.lookup f=some v/\Q v H1
def qbA(K:W.Frag)(ta tv:TE)(f:Str):TS:=λD σ H=>tv σ H λy H1=>ta σ H1 λx H2=>∃a C dx fs,x = .ref a/\H2 a=some (.ins C dx fs)/\Cls K C/\j9 K C f/\fs.length<1000/\
 D.nx σ (upd H2 a (.ins C dx (jr f y fs)))
section
variable {X:Cx}{o e value:Expr}{f:Str}{pos pos' tpos:Pos}{ta tv:TE}
theorem qbB(he:PE X e ta)(hb:attributeBase e f X.env (eval e X.env)=eval e X.env):PE X (.Attribute e f pos) (YM X.K ta f):=by
 intro p_ s σ H Q I h;refine YL hb (cF (he p_ s σ H _ I h) λu s1 zz=>?_);obtain⟨x,H1,I1,rx,a,C,dx,fs,v,ex,ea,c,n,l,q⟩:=zz;subst ex;obtain rfl:u=Value.ref a:=rx;exact Lz I1 ea c n l λu' s2 I2 ru=>⟨v,H1,I2,ru,q⟩
theorem qbC(ha:PE X o ta)(hv:PE X value tv)(hs:swapsWith value (some (.Attribute o f pos')) pos.line X.env=pure false):PS X (.Assign [.Attribute o f pos'] value pos) (qbA X.K ta tv f):=by
 intro p_ s σ H D I h;refine qlf (cF (hv p_ s σ H _ I h) λu s1 ⟨y,H1,I1,ry,q⟩=>cF (ha p_ s1 σ H1 _ I1 q) λov s2 ⟨x,H2,I2,rx,a,C,dx,fs,ex,ea,c,n,l,q2⟩=>?_) hs;subst ex;obtain rfl:ov=Value.ref a:=rx;exact LK I2 ea c n l ry λs3 I3=>⟨σ,_,I3,q2⟩
end
section
variable {X:Cx}{p_:QAC}{σ:St}{H:Hp}{s:Shared}{A:Around}{E:QAB}{Q:QAB}{c:Value}{b:Bool}
inductive j_(K:W.Frag)(H:Hp):V->Value->Prop where
 |non:j_ K H .non (.type "NoneType")
 |bl (x:Bool):j_ K H (.bl x) (.type "bool")
 |int (i:Int):j_ K H (.int i) (.type "int")
 |str (x:Str):j_ K H (.str x) (.type "str")
 |flt (x:UInt64):j_ K H (.flt x) (.type "float")
 |lst {a:Addr}{xs:List V} (e:H a=some (.lst xs)):j_ K H (.ref a) (.type "list")
 |IV {a:Addr}{o:Obj}{xs:List V} (e:H a=some (.IV o (.lst xs))):j_ K H (.ref a) (.type "list")
 |tup {a:Addr}{xs:List V} (e:H a=some (.tup xs)):j_ K H (.ref a) (.type "tuple")
 |dK {a:Addr}{kvs:List (Key×V)} (e:H a=some (.dK kvs)):j_ K H (.ref a) (.type "dict")
 |dT {a:Addr}{kvs:List (List Key×V)} (e:H a=some (.dT kvs)):j_ K H (.ref a) (.type "dict")
 |ins {a C dx:Addr}{fs:List (Str×V)} (e:H a=some (.ins C dx fs)) (cl:Cls K C) (ha:W.findIn K (.ref C) "__class__" = some (some (.builtin "object.__class__")))
   (hn:W.specialIn K (.builtin "object.__class__") "__get__" = some (some (.builtin "getset_descriptor.__get__"))) (htk:W.takesIn K (.builtin "object.__class__")=some true)
   (hm:W.mroIn K C (.type "object")=some true):j_ K H (.ref a) (.ref C)
theorem Q7{x:V}{u t:Value}(I:Inv X p_ σ H s)(rx:RelV x u)(ty:j_ X.K H x t)(e:W.kitOne X.K t c=some b)(h:∀tk,Q (.bool b) {s with toks:=tk}) :
  wpAny (model X.prog X.w) A (call (.builtin "isinstance") [u,c]) Q E s:=by
 cases ty with
 |non=>cases (show u=Value.none from rx);exact qlo W.kitx_none I.rm True.intro e (λz=>nomatch z) h
 |bl y=>cases (show u=Value.bool y from rx);exact qlo W.kitx_bool I.rm True.intro e (λz=>nomatch z) h
 |int i=>obtain⟨t,q⟩:=(show ∃t,u=Value.int i t from rx);cases q;exact qlo W.kitx_int I.rm True.intro e (λz=>nomatch z) h
 |str y=>obtain⟨t,q⟩:=(show ∃t,u=Value.str y t from rx);cases q;exact qlo W.kitx_str I.rm True.intro e (λz=>nomatch z) h
 |flt y=>obtain⟨t,q⟩:=(show ∃t,u=Value.float y t from rx);cases q;exact qlo W.kitx_float I.rm True.intro e (λz=>nomatch z) h
 | @lst a xs ea=>
  cases (show u=Value.ref a from rx);obtain⟨_,_,n,_,h1⟩:=(show b_ X.prog X.w H s.heap a (.lst xs) from I.hok a _ ea);exact qlo W.kitx_list I.rm ⟨_,h1,rfl⟩ e (λz=>nomatch z) h
 | @IV a ob xs ea=>
  cases (show u=Value.ref a from rx);obtain⟨_,_,_,n,_,h1⟩:=(show b_ X.prog X.w H s.heap a (.IV ob (.lst xs)) from I.hok a _ ea);exact qlo W.kitx_list I.rm ⟨_,h1,rfl⟩ e (λz=>nomatch z) h
 | @tup a xs ea=>
  cases (show u=Value.ref a from rx);obtain⟨_,_,_,p⟩:=(show b_ X.prog X.w H s.heap a (.tup xs) from I.hok a _ ea);obtain⟨o,h1,h2,_⟩:=p;exact qlo W.kitx_tuple I.rm ⟨o,h1,h2⟩ e (λz=>nomatch z) h
 | @dK a kvs ea=>
  cases (show u=Value.ref a from rx);obtain⟨_,_,vs,_,p⟩:=(show b_ X.prog X.w H s.heap a (.dK kvs) from I.hok a _ ea);obtain⟨o,es,ep,h1,h2,_⟩:=p;exact qlo W.kitx_dict I.rm ⟨o,h1,h2.1⟩ e (λz=>nomatch z) h
 | @dT a kvs ea=>
  cases (show u=Value.ref a from rx);obtain⟨_,_,xs,_,o,es,ep,h1,h2,_⟩:=(show b_ X.prog X.w H s.heap a (.dT kvs) from I.hok a _ ea);exact qlo W.kitx_dict I.rm ⟨o,h1,h2.1⟩ e (λz=>nomatch z) h
 | @ins a C dx fs ea cl ha hn htk hm=>
  cases (show u=Value.ref a from rx);obtain⟨mA,O,_⟩:=vQ I.hok ea;obtain⟨od,J,_⟩:=O.look;exact qlo (W.kitx_own (cl.get _) cl.hd ha hn htk hm) I.rm J e (λz=>nomatch z) h
end
structure fJ(k:Nat)(A:Around):Prop where
 hd:A.handled=none
 dp:A.depth+3 * k+5<recursionLimit
 un:A.units+16 * k+200<cLine
 gd:A.guards=some []
theorem fJ.mono{j k:Nat}{A:Around}(r:fJ k A)(h:j<=k):fJ j A:=⟨r.hd,by have:=r.dp;omega,by have:=r.un;omega,r.gd⟩
theorem fJ.d{j k:Nat}{A:Around}(r:fJ k A)(h:j<=k:=by decide):fJ j A:=r.mono h
theorem fJ.deeper{k:Nat}{A:Around}(r:fJ (k+1) A)(env:Env):fJ k (A.deeper env):=
 ⟨r.hd,by have:=r.dp;show A.depth+1+3 * k+5<_;omega,by have:=r.un;show A.units+3+16 * k+200<_;omega,r.gd⟩
theorem fJ.in1{k:Nat}{A:Around}(r:fJ (k+1) A):fJ k A.in1:=
 ⟨r.hd,by have:=r.dp;show A.depth+3 * k+5<_;omega,by have:=r.un;show A.units+1+16 * k+200<_;omega,r.gd⟩
theorem LQ{A:Around}{C:Addr}{us:QAE}{kw:List (Str×Value)}:(A.under (.builtin "type.__call__" ⟨.ref C::us,kw⟩)).depth=A.depth+1:=by
 first|rfl|simp[Around.under,Code.weight,Code.isCreation,Code.isGuard,Code.isCaller,Code.frames,Code.isFrame,guardIds]
theorem LR{A:Around}{C:Addr}{us:QAE}{kw:List (Str×Value)}:(A.under (.builtin "type.__call__" ⟨.ref C::us,kw⟩)).units=A.units+1:=by
 first|rfl|simp[Around.under,Code.cUnits,Code.frames,Code.isFrame]
theorem Je{A:Around}{C:Addr}{us:QAE}{kw:List (Str×Value)}:(A.under (.builtin "type.__call__" ⟨.ref C::us,kw⟩)).guards=A.guards:=by
 first|rfl|simp[Around.under,Code.isGuard,guardIds]
theorem fJ.make{k:Nat}{A:Around}(r:fJ (k+1) A)(C:Addr)(us:QAE)(kw:List (Str×Value)):fJ k (A.under (.builtin "type.__call__" ⟨.ref C::us,kw⟩)):=
 ⟨r.hd,by have:=r.dp;rw[LQ];omega,by have:=r.un;rw[LR];omega,by rw[Je];exact r.gd⟩
theorem fJ.depth{k:Nat}{A:Around}(r:fJ k A):A.depth<recursionLimit:=by have:=r.dp;omega
theorem fJ.units{k:Nat}{A:Around}(r:fJ k A):A.units+64<cLine:=by have:=r.un;omega
def U9:TA:=λ_ H Q=>Q [] H
def O_(ta:TE)(tr:TA):TA:=λσ H Q=>ta σ H λx H1=>tr σ H1 λxs H2=>Q (x::xs) H2
section
variable {X:Cx}{e:Expr}{es:List Expr}{te:TE}{t:TA}{pos:Pos}
theorem ao:PA X [] U9:=λ_ _ _ _ H Q I h=>Calls.spliced_nil ⟨[],H,I,.nil,h⟩
theorem aj(ha:PE X e te)(hr:PA X es t)(hs:starEach (e::es) X.env=(false,eval e X.env)::starEach es X.env:=by rfl):PA X (e::es) (O_ te t):=by
 intro pos p_ s σ H Q I h;rw[hs];show wpAny _ _ (spliced ((false,eval e X.env)::backTo pos (starEach es X.env))) _ _ s;refine Calls.spliced_cons (cF (ha p_ s σ H _ I h) λu s1 zz=>?_);obtain⟨x,H1,I1,r1,q1⟩:=zz;refine cF (hr pos p_ s1 σ H1 _ I1 q1) λus s2 zz=>?_;obtain⟨xs,H2,I2,r2,q2⟩:=zz;exact⟨x::xs,H2,I2,.cons r1 r2,q2⟩
def qdC(t:TA):TE:=λσ H Q=>t σ H λxs H1=>xs.length<=sizeLine/\∀p,H1 p=none->Q (.ref p) (upd H1 p (.tup xs))
def qdD(t:TA):TE:=λσ H Q=>t σ H λxs H1=>xs.length<=sizeLine/\∀p,H1 p=none->Q (.ref p) (upd H1 p (.lst xs))
theorem kh{x1}(h:PA X es t):PE X (.Tuple es x1 pos) (qdC t):=by
 intro p_ s σ H Q I hq;refine wpAny_Tuple_spliced (cF (h pos p_ s σ H _ I hq) λus s1 zz=>?_);obtain⟨xs,H1,I1,r,z,q⟩:=zz;refine⟨by rw[<- r.length];exact z,?_⟩;have hf:H1 s1.heap.objs.size=none:=I1.hok.fresh (qjb _);refine⟨.ref s1.heap.objs.size,upd H1 s1.heap.objs.size (.tup xs),I1.laid (t':=s1.toks) (λb u e=>qi6 _ e) (qjb _) ?_,rfl,q _ hf⟩;exact⟨z,us,r,⟨_,qjg _ rfl,rfl,_,rfl⟩⟩
theorem dX(h:PA X es t):PE X (.List es pos) (qdD t):=by
 intro p_ s σ H Q I hq;refine wpAny_List_spliced (cF (h pos p_ s σ H _ I hq) λus s1 zz=>?_);obtain⟨xs,H1,I1,r,z,q⟩:=zz;refine⟨by rw[<- r.length];exact z,?_⟩;have hf:H1 s1.heap.objs.size=none:=I1.hok.fresh (qjb _);refine⟨.ref s1.heap.objs.size,upd H1 s1.heap.objs.size (.lst xs),I1.laid (t':=s1.toks) (λb u e=>qi6 _ e) (qjb _) ?_,rfl,q _ hf⟩;exact⟨z,us,0,r,qjg _ rfl⟩
end
abbrev Sp:=List V->Hp->VK->XK->Prop
abbrev U_:=List Env->Hp->Shared->XK->Value->Shared->Prop
structure zW(P:Program)(w:World)(K:W.Frag)(mg:Str->Option Value)(base:Heap)(A:Around)(outer:List Env)(s:Shared)(H:Hp):Prop where
 frames:A.frames=some outer
 mod:Mod K mg base
 bs:∀b o,base.get? b=some o->s.heap.get? b=some o/\H b=none
 Uq:base.objs.size<=s.heap.objs.size
 uR:s.heap.FunFrames base outer
 Yy:∀b∈frs outer,H b=none
 hok:tH P w H s.heap
 bare:AllBare s.gens
def CE(outer:List Env)(P:Program)(w:World)(H:Hp)(s:Shared)(Q:VK)(u:Value)(s':Shared):Prop:=
 ∃v H',s'.os=s.os/\AllBare s'.gens/\Un (frs outer) [] H H' s.heap s'.heap/\tH P w H' s'.heap/\RelV v u/\Q v H'
def CR(CX:U_)(outer:List Env)(P:Program)(w:World)(H:Hp)(s:Shared)(Q:VK)(E:XK)(r:Result)(s':Shared):Prop:=
 match r with
 |.ok (.ret u)=>CE outer P w H s Q u s'
 |.ok _=>False
 |.error e=>CX outer H s E e s'
structure bT(P:Program)(w:World)(K:W.Frag)(mg:Str->Option Value)(base:Heap)(CX:U_)(k:Nat)(f:Addr)(fd:FuncData)(ps:QAH)(sp:Sp):Prop where
 len:∀vs H Q E,sp vs H Q E->vs.length=ps.length
 run:∀(A:Around)(outer:List Env)(s:Shared)(H:Hp)(args:Args)(us:QAE)(vs:List V)(Q:VK)(E:XK),fJ k A->zW P w K mg base A outer s H->BindsTo s fd args (ps.zip us)->Vals vs us->sp vs H Q E->
  codeAny (model P w) A (.call (.ref f) args) (CR CX outer P w H s Q E) s
theorem zW.make{P:Program}{w:World}{K:W.Frag}{mg:Str->Option Value}{base:Heap}{A:Around}{outer:List Env}{s:Shared}{H:Hp}(e:zW P w K mg base A outer s H)(C:Addr)(us:QAE)(kw:List (Str×Value)) :
  zW P w K mg base (A.under (.builtin "type.__call__" ⟨.ref C::us,kw⟩)) outer s H:=⟨by first|exact e.frames|(simpa [Around.under,Code.envs,Code.isFrame,pushEnvs] using e.frames),e.mod,e.bs,e.Uq,e.uR,e.Yy,e.hok,e.bare⟩
theorem zW.in1{P:Program}{w:World}{K:W.Frag}{mg:Str->Option Value}{base:Heap}{A:Around}{outer:List Env}{s:Shared}{H:Hp}(e:zW P w K mg base A outer s H) :
  zW P w K mg base A.in1 outer s H:=⟨e.frames,e.mod,e.bs,e.Uq,e.uR,e.Yy,e.hok,e.bare⟩
section
variable {X:Cx}{p_:QAC}{σ:St}{H:Hp}{s s':Shared}
theorem Inv.env0(I:Inv X p_ σ H s):zW X.prog X.w X.K X.mg X.base X.A X.stack s H:=
 ⟨I.ok.frames,I.ok.mod,I.bs,qjx I.ok.Uq I.sz,I.stack,I.FZ,I.hok,I.bare⟩
theorem Inv.after{Q:VK}{u:Value}(I:Inv X p_ σ H s)(h:CE X.stack X.prog X.w H s Q u s'):EP X p_ σ Q u s':=by
 obtain⟨v,H',os,bare,un,hok,r,q⟩:=h;obtain⟨hh,g,d,t,os'⟩:=s';obtain rfl:os'=s.os:=os;exact⟨v,H',I.call (h':=hh) (g':=g) (d':=d) (t':=t) (ch:=[]) un hok bare (λb z=>absurd z (by simp)),r,q⟩
end
def Va(sp:Sp)(w6:List V)(E:XK)(t:TA):TE:=λσ H Q=>t σ H λvs H1=>sp (vs++w6) H1 Q E
def Vb(C:Addr)(m:Str)(sp:Sp)(w6:List V)(E:XK)(ta:TE)(t:TA):TE:=λσ H Q=>ta σ H λx H1=>∃a dx fs,x = .ref a/\H1 a=some (.ins C dx fs)/\fs.lookup m=none/\
 t σ H1 λvs H2=>sp (x::(vs++w6)) H2 Q E
def Vc(C:Addr)(sp:Sp)(w6:List V)(E:XK)(t:TA):TE:=λσ H Q=>t σ H λvs H1=>∀x dx,H1 x=none->H1 dx=none->dx≠x->
 sp (.ref x::(vs++w6)) (upd (upd H1 dx (.own x)) x (.ins C dx [])) (λv H2=>v = .non/\Q (.ref x) H2) E
def Binds(K:W.Frag)(fd:FuncData)(ps:QAH)(ds:QAE):Prop:=
 ∀(s:Shared)(us:QAE),K.In s.heap->(us++ds).length=ps.length->BindsTo s fd ⟨us,[]⟩ (ps.zip (us++ds))
theorem Binds.all{K:W.Frag}{fd:FuncData}{ps:QAH}(h:∀us:QAE,us.length=ps.length->bindArgs fd ⟨us,[]⟩=pure (ps.zip us)):Binds K fd ps []:=λs us _ hl=>by
 rw[qjD] at hl⊢;exact .of_eq (h us hl)
def Passes(CX:U_)(X:Cx)(E:XK):Prop:=∀(p_:QAC)(σ:St)(H:Hp)(s:Shared)(e:Value)(s':Shared),Inv X p_ σ H s->CX X.stack H s E e s'->X.xe e s'
section
variable {X:Cx}{CX:U_}{k:Nat}{f C:Addr}{fd:FuncData}{ps:QAH}{sp:Sp}{w6:List V}{ds:QAE}{E:XK}{x m:Str}{p pos apos:Pos}{e o:Expr}{es:List Expr}{ta:TE}{t:TA}
theorem Vd{p_:QAC}{σ:St}{H:Hp}{s:Shared}{Q:VK}{us:QAE}{vs:List V}(F:bT X.prog X.w X.K X.mg X.base CX k f fd ps sp)(hr:fJ k X.A)(hb:Binds X.K fd ps ds)(hd:Vals w6 ds)(hx:Passes CX X E)
  (I:Inv X p_ σ H s) (r:Vals vs us) (h:sp (vs++w6) H Q E):wpAny (model X.prog X.w) X.A (call (.ref f) us) (EP X p_ σ Q) X.xe s:=by
 have r2:Vals (vs++w6) (us++ds):=r.append hd;have hl:(us++ds).length=ps.length:=by rw[<- r2.length];exact F.len _ _ _ _ h
 refine qlu (qkt (F.run X.A X.stack s H ⟨us,[]⟩ (us++ds) (vs++w6) Q E hr I.env0 (hb s us I.rm hl) r2 h) λr s' hq=>?_);cases r with
 |error e=>exact hx p_ σ H s e s' I hq
 |ok fl=>
  cases fl with
  |ret u=>exact I.after hq
  |next=>exact False.elim hq
  |brk=>exact False.elim hq
  |cont=>exact False.elim hq
theorem aM(F:bT X.prog X.w X.K X.mg X.base CX k f fd ps sp)(hr:fJ k X.A)(hg:Gl X x)(hm:X.mg x=some (.ref f))(hk:W.keepIn X.K (.ref f)=true)(hb:Binds X.K fd ps ds)(hd:Vals w6 ds)(hx:Passes CX X E)
  (ha:PA X (e::es) t) (hdb:(x == ("__debug__" : Str))=false:=by decide) (he:starEach (e::es) X.env=(false,eval e X.env)::starEach es X.env:=by rfl) (hpl:(backTo pos (starEach es X.env)).any (·.1)=false:=by rfl) :
  PE X (.Call (.Name x p) (e::es) [] pos) (Va sp w6 E t):=by
 intro p_ s σ H Q I h;refine qku (tK I hg hm ?_ hdb);refine W.callWith_K (h₀:=X.base) I.ok.mod.OD hk (cF (ha pos p_ s σ H _ I h) λus s1 zz=>?_) he hpl;obtain⟨vs,H1,I1,r,q⟩:=zz;refine⟨I1.rm,?_⟩;exact Vd F hr hb hd hx I1 r q
theorem gM{pl:Sem Bool}(he:PE X o ta)(c:Cls X.K C)(hm:Meth X.K C m f)(F:bT X.prog X.w X.K X.mg X.base CX k f fd ps sp)(hr:fJ k X.A)(hb:Binds X.K fd ps ds)(hd:Vals w6 ds)(hx:Passes CX X E)
  (ht:eval (.Call (.Attribute o m apos) [] [] pos) X.env=(do
   let ov <- eval o X.env
   standAt apos.atName
   let (f,first) <- holding [ov] (getMethod ov m pl)
   callWith pos f first (backTo pos (starEach [] X.env)) (backToKw pos (keywordEach [] X.env))):=by rfl) :
  PE X (.Call (.Attribute o m apos) [] [] pos) (Vb C m sp w6 E ta U9):=by
 intro p_ s σ H Q I h;refine W.methodCall_KW (pl:=pl) (cF (he p_ s σ H _ I h) λu s1 zz=>?_) ht;obtain⟨x,H1,I1,rx,a,dx,fs,ex,ea,l,q⟩:=zz;subst ex;obtain rfl:u=Value.ref a:=rx;refine LC I1 ea c hm l ?_;exact W.callWith_K0 (first:=[.ref a]) I1.rm hm.kp (Vd (us:=[.ref a]) (vs:=[.ref a]) F hr hb hd hx I1 (.cons rfl .nil) q)
structure Mk(K:W.Frag)(C f:Addr):Prop where
 makes:W.makesIn K C=true
 init:W.findIn K (.ref C) "__init__" = some (some (.ref f))
 fn:W.isFn K (.ref f)=true
 kp:W.keepIn K (.ref C)=true
theorem Ve{p_:QAC}{σ:St}{H:Hp}{s:Shared}{Q:VK}{us:QAE}{vs:List V}(M:Mk X.K C f)(F:bT X.prog X.w X.K X.mg X.base CX k f fd ps sp)(hr:fJ (k+1) X.A)(hb:Binds X.K fd ps ds)(hd:Vals w6 ds)
  (hx:Passes CX X E) (I:Inv X p_ σ H s) (r:Vals vs us)
  (h:∀x dx,H x=none->H dx=none->dx≠x->sp (.ref x::(vs++w6)) (upd (upd H dx (.own x)) x (.ins C dx [])) (λv H2=>v = .non/\Q (.ref x) H2) E) :
  wpAny (model X.prog X.w) X.A (call (.ref C) us) (EP X p_ σ Q) X.xe s:=by
 have hq:=h (s.heap.objs.size+1) s.heap.objs.size (I.hok.fresh (qkP _)) (I.hok.fresh (qjb _)) (qjn (qkK _));have I2:=Inv.made (C:=C) I;have r2:Vals (V.ref (s.heap.objs.size+1)::(vs++w6)) (Value.ref (s.heap.objs.size+1)::(us++ds)):=.cons rfl (r.append hd);have hl:(Value.ref (s.heap.objs.size+1)::us++ds).length=ps.length:=by
  have e:=r2.length;rw[F.len _ _ _ _ hq] at e;exact e.symm
 refine qlu (U8 (f:=f) I.rm M.makes M.init (beq_iff_eq.mp M.fn) (qkt (F.run _ X.stack _ _ ⟨Value.ref (s.heap.objs.size+1)::us,[]⟩ (Value.ref (s.heap.objs.size+1)::(us++ds)) _ _ E (hr.make C us [])
  (I2.env0.make C us []) (hb _ (Value.ref (s.heap.objs.size+1)::us) I2.rm hl) r2 hq) λr s' hq'=>?_))
 cases r with
 |error e=>exact hx p_ σ _ _ e s' I2 hq'
 |ok fl=>
  cases fl with
  |ret u=>
   obtain⟨v,H',I3,rv,ev,q3⟩:=I2.after hq';subst ev;exact⟨rv,⟨V.ref (s.heap.objs.size+1),H',I3,rfl,q3⟩⟩
  |next=>exact False.elim hq'
  |brk=>exact False.elim hq'
  |cont=>exact False.elim hq'
theorem YQ(M:Mk X.K C f)(F:bT X.prog X.w X.K X.mg X.base CX k f fd ps sp)(hr:fJ (k+1) X.A)(hg:Gl X x)(hm:X.mg x=some (.ref C))(hb:Binds X.K fd ps ds)(hd:Vals w6 ds)(hx:Passes CX X E)
  (ha:PA X (e::es) t) (hdb:(x == ("__debug__" : Str))=false:=by decide) (he:starEach (e::es) X.env=(false,eval e X.env)::starEach es X.env:=by rfl) (hpl:(backTo pos (starEach es X.env)).any (·.1)=false:=by rfl) :
  PE X (.Call (.Name x p) (e::es) [] pos) (Vc C sp w6 E t):=by
 intro p_ s σ H Q I h;refine qku (tK I hg hm ?_ hdb);refine W.callWith_K (h₀:=X.base) I.ok.mod.OD M.kp (cF (ha pos p_ s σ H _ I h) λus s1 zz=>?_) he hpl;obtain⟨vs,H1,I1,r,q⟩:=zz;refine⟨I1.rm,?_⟩;exact Ve M F hr hb hd hx I1 r q
end
structure aO(N P:QAH)(sc:Scope):Prop where
 kind:sc.kind = .function
 co:sc.isCoroutine=false
 gen:sc.isGenerator=false
 nd:N.Nodup
 pre:N.take P.length=P
 par:∀x∈P,sc.names.lookup x=some .local\/sc.names.lookup x=some .cell
 qbD:∀y∈sc.names,y.2≠.free
theorem D_{kindOf:Str->Option NameKind}{x:Str}:∀{binds:List (Str×Value)}{m:Str->Option Value},(∀v,(x,v)∉binds)->bindL kindOf binds m x=m x
 |[],_,_=>rfl
 |(n,v)::r,m,h=>by
  unfold bindL;rw[D_ λw hw=>h w (qjf _ hw)];split
  ·have:x≠n:=by rintro rfl;exact h v qjp
   simp[this]
  ·rfl
theorem Ea{kindOf:Str->Option NameKind}{x:Str}:∀{binds:List (Str×Value)}{m:Str->Option Value},(∀v,(x,v)∉binds)->bindC kindOf binds m x=m x
 |[],_,_=>rfl
 |(n,v)::r,m,h=>by
  unfold bindC;rw[Ea λw hw=>h w (qjf _ hw)];split
  ·rfl
  ·have:x≠n:=by rintro rfl;exact h v qjp
   simp[this]
theorem Eb{kindOf:Str->Option NameKind}{x:Str}{v:Value}:∀{P:QAH}{vs:QAE}{i:Nat}{m:Str->Option Value},P.Nodup->P[i]? = some x->vs[i]? = some v->kindOf x=some .local->
  bindL kindOf (P.zip vs) m x=some v
 |[],_,_,_,_,h,_,_=>by simp at h
 |_::_,[],_,_,_,_,h,_=>by simp at h
 |p::P,w::vs,0,m,nd,h1,h2,hk=>by
  simp at h1 h2;subst h1;subst h2;show bindL kindOf ((p,w)::P.zip vs) m p=_;unfold bindL;rw[D_ λv hv=>(qj0.mp nd).1 (List.of_mem_zip hv).1,if_pos hk];simp
 |p::P,w::vs,i+1,m,nd,h1,h2,hk=>by
  show bindL kindOf ((p,w)::P.zip vs) m x=_;unfold bindL;exact Eb (i:=i) (qj0.mp nd).2 (by simpa using h1) (by simpa using h2) hk
theorem Ec{kindOf:Str->Option NameKind}{x:Str}{v:Value}:∀{P:QAH}{vs:QAE}{i:Nat}{m:Str->Option Value},P.Nodup->P[i]? = some x->vs[i]? = some v->kindOf x≠some .local->
  bindC kindOf (P.zip vs) m x=some v
 |[],_,_,_,_,h,_,_=>by simp at h
 |_::_,[],_,_,_,_,h,_=>by simp at h
 |p::P,w::vs,0,m,nd,h1,h2,hk=>by
  simp at h1 h2;subst h1;subst h2;show bindC kindOf ((p,w)::P.zip vs) m p=_;unfold bindC;rw[Ea λv hv=>(qj0.mp nd).1 (List.of_mem_zip hv).1,if_neg hk];simp
 |p::P,w::vs,i+1,m,nd,h1,h2,hk=>by
  show bindC kindOf ((p,w)::P.zip vs) m x=_;unfold bindC;exact Ec (i:=i) (qj0.mp nd).2 (by simpa using h1) (by simpa using h2) hk
def start(N:QAH)(vs:List V):St:=vs.map some++List.replicate (N.length - vs.length) none
def au(CX:U_)(P:Program)(w:World)(K:W.Frag)(mg:Str->Option Value)(base:Heap)(N:QAH)(qual:Str)(scope:Scope)(f:Addr)(cd:Value)(A:Around)(outer:List Env)(s:Shared)(H:Hp)(E:XK):Cx where
 prog:=P
 w:=w
 K:=K
 mg:=mg
 base:=base
 A:=A.deeper (envOfC qual scope s.heap.objs.size f cd)
 N:=N
 s₀:=s
 H₀:=H
 env:=envOfC qual scope s.heap.objs.size f cd
 outer:=outer
 stack:=envOfC qual scope s.heap.objs.size f cd::outer
 ex:=[]
 calm:=true
 fn:=λ_=>true
 pn:=[]
 xe:=λe s'=>wpAny (model P w) (A.deeper (envOfC qual scope s.heap.objs.size f cd)) (leaving (envOfC qual scope s.heap.objs.size f cd) e) (λ_ s''=>CX outer H s E e s'') (λe' s''=>CX outer H s E e' s'') s'
theorem Jf{sc:Scope}{n:Nat}{x:Str}(h:sc.names.lookup x=some .cell):∃c,(cellsFrom n sc.names []).lookup x=some c:=by
 have q:=W.cellsFrom_some sc.names n [] (.inl h);exact qkM.mp q
theorem Ed{CX:U_}{P:Program}{w:World}{K:W.Frag}{mg:Str->Option Value}{base:Heap}{N ps:QAH}{qual:Str}{scope:Scope}{f:Addr}{cd:Value}{A:Around}{outer:List Env}{s s1:Shared}{H:Hp}{E:XK}{us:QAE}{vs:List V}
  (S:aO N ps scope) (hd:A.handled=none) (e0:zW P w K mg base A outer s H) (hl:vs.length=ps.length) (r:Vals vs us)
  (x:InCallC s s.heap.objs.size (bindL (envOfC qual scope s.heap.objs.size f cd).kindOf (ps.zip us) λ_=>none) (cellsFrom (s.heap.objs.size+1) scope.names []) (bindC (envOfC qual scope s.heap.objs.size f cd).kindOf (ps.zip us) λ_=>none) s1) :
  Inv (au CX P w K mg base N qual scope f cd A outer s H E) [] (start N vs) H s1:=by
 have hpl:ps.length<=N.length:=by have:=qjB List.length S.pre;rw[qji] at this;omega
 obtain⟨h1,tk,rfl,hk⟩:=x.done;have noA:∀b:Addr,b∉(au CX P w K mg base N qual scope f cd A outer s H E).ex:=λb z=>absurd (show b∈([]:List Addr) from z) (by simp);refine⟨⟨e0.mod,S.kind,rfl,rfl,qjb _,λy z c h1 h2=>?_,λy hy=>?_,λy c _ h=>?_,λ_=>hd,Around.frames_deeper e0.frames,.inr ⟨rfl,rfl⟩,λb z=>absurd z (noA b),e0.bs,e0.Uq,λb _ _=>noA b,λb z=>absurd z (noA b),e0.uR,e0.Yy⟩,
  rfl,e0.bare,Un.kept hk,⟨_,x.toInCall.ns,λi y v h1 h2 h3=>?_⟩,λy c h=>⟨_,x.cell y c h⟩,e0.hok.fresh (qjb _),λy c h=>?_,λp hp=>absurd (show p∈([]:QAC) from hp) (by simp),e0.hok.kept hk,?_⟩
 ·exact name_of_addr x.apart (qjL h1) (qjL h2)
 ·have hy:scope.names.lookup y=some .cell\/scope.names.lookup y=some .free:=hy
  rcases hy with hy|hy
  ·exact Jf hy
  ·exact absurd rfl (S.qbD _ (qjL hy))
 ·exact qkC (x.above y c (qjL h))
 ·have hi:i<vs.length:=by
   unfold start at h2
   by_cases hi:i<vs.length
   ·exact hi
   ·rw[qjw (by simpa using hi)] at h2;rw[List.getElem?_replicate] at h2;split at h2 <;> cases h2
  have ha:vs[i]? = some v:=by
   unfold start at h2;rw[qjr (by simpa using hi),qje] at h2;cases e:vs[i]? with
   |none=>rw[e] at h2;cases h2
   |some a=>rw[e] at h2;cases h2;rfl
  obtain⟨u,hu,rv⟩:=r.get ha;have hp:ps[i]? = some y:=by
   rw[<- S.pre,qkN (by omega)];exact h1
  have ndP:ps.Nodup:=by rw[<- S.pre];exact S.nd.sublist (List.take_sublist _ _)
  refine⟨u,rv,?_⟩
  rcases S.par y (qi9 hp) with k|k
  ·exact .inl ⟨k,Eb ndP hp hu k⟩
  ·obtain⟨c,e⟩:=Jf (n:=s.heap.objs.size+1) k;refine .inr ⟨.inl k,c,e,?_⟩;have q:=x.cell y c e;rw[Ec ndP hp hu (by show scope.names.lookup y≠_;rw[k];decide)] at q;exact q
 ·exact e0.hok.fresh (qkC (x.above y c (qjL h)))
 ·unfold start;show _=N.length;rw[qjF,qja,List.length_replicate];omega
theorem Vf{CX:U_}{P:Program}{w:World}{K:W.Frag}{mg:Str->Option Value}{base:Heap}{k:Nat}{f:Addr}{name qual:Str}{params:Arguments}{body:List Stmt}{scope:Scope}{dV kV doc pm cdv ct oc:Value}{an od:Option Addr}
  {osl:Array (QAG)}{N ps:QAH}{sp:Sp} (lk:K.lookup f=some ⟨oc,od,.func (W.fnOf name qual params body scope dV kV doc pm an cdv ct),osl⟩) (hcd:W.codeIn K cdv qual=true) (S:aO N ps scope)
  (len:∀vs H Q E,sp vs H Q E->vs.length=ps.length)
  (hbody:∀(A:Around)(outer:List Env)(s:Shared)(H:Hp)(vs:List V)(Q:VK)(E:XK),fJ k (A.deeper (envOfC qual scope s.heap.objs.size f cdv))->sp vs H Q E->
   ∃t,I_ (au CX P w K mg base N qual scope f cdv A outer s H E) body t/\t {nx:=λ_ H'=>Q .non H',rt:=Q} (start N vs) H) :
  bT P w K mg base CX (k+1) f (W.fnOf name qual params body scope dV kV doc pm an cdv ct) ps sp:=by
 refine⟨len,λA outer s H args us vs Q E hr e0 hb r hsp=>?_⟩;have hl:=len _ _ _ _ hsp;have KX:K.In s.heap:=e0.mod.OD.keeps λb o e=>(e0.bs b o e).1;have lim:s.heap.NoLimit:=e0.mod.nolimit.keeps λb o e=>(e0.bs b o e).1;have hkind:∀y∈ps.zip us,scope.names.lookup y.1=some .local\/(scope.names.lookup y.1=some .cell/\((cellsFrom (s.heap.objs.size+1) scope.names []).lookup y.1).isSome=true):=λ⟨n,v⟩ hy=>by
  rcases S.par n (List.of_mem_zip hy).1 with q|q
  ·exact .inl q
  ·exact .inr ⟨q,W.cellsFrom_some _ _ _ (.inl q)⟩
 refine codeAny_call_function hr.depth (KX _ _ lk) rfl S.co S.gen rfl (W.codeRec_of KX hcd) (hb _ _ _ _ ?_);refine wpAny_newFunctionEnv_cells S.kind hkind λenv he s1 x=>?_;subst he;refine⟨lim.keeps x.toInCall.keep,codeAny_func ?_⟩;obtain⟨t,ht,hq⟩:=hbody A outer s H vs Q E (hr.deeper _) hsp;have I:Inv (au CX P w K mg base N qual scope f cdv A outer s H E) [] (start N vs) H s1:=Ed S hr.hd e0 hl r x;refine qkd (ht [] s1 (start N vs) H _ I hq) (λfl s' hs=>?_) λe s' hs=>hs;have fin:∀{σ':St}{H':Hp}{v:V}{u:Value},Inv (au CX P w K mg base N qual scope f cdv A outer s H E) [] σ' H' s'->RelV v u->Q v H'->CE outer P w H s Q u s':=
  λ{σ' H' v u} J rv q=>⟨v,H',J.os,J.bare,J.base,J.hok,rv,q⟩
 cases fl with
 |ret u=>
  obtain⟨v,σ',H',J,rv,q⟩:=hs;exact fin J rv q
 |next=>
  obtain⟨σ',H',J,q⟩:=hs;exact fin (v:=V.non) (u:=Value.none) J rfl q
 |brk=>
  obtain⟨_,_,_,q⟩:=hs;exact False.elim q
 |cont=>
  obtain⟨_,_,_,q⟩:=hs;exact False.elim q
section
variable {X:Cx}{x:Str}{p pos:Pos}{e:Expr}{es:List Expr}{t:TA}{id T:String}{r:List V->Hp->VK->Prop}
def tCB(r:List V->Hp->VK->Prop)(t:TA):TE:=λσ H Q=>t σ H λvs H1=>r vs H1 Q
theorem aH(hc:cA X (.builtin id) r)(hg:Gl X x)(hm:X.mg x=none)(hv:bootBuiltins x=some (.builtin id))(ha:PA X (e::es) t) (hn:x≠ "__name__" :=by decide) (hdb:(x == ("__debug__" : Str))=false:=by decide)
  (he:starEach (e::es) X.env=(false,eval e X.env)::starEach es X.env:=by rfl) (hpl:(backTo pos (starEach es X.env)).any (·.1)=false:=by rfl):PE X (.Call (.Name x p) (e::es) [] pos) (tCB r t):=by
 intro p_ s σ H Q I h;refine qku (rD I hg hm hv ?_ hn hdb);refine PyProof.Rows.callWith_builtin1 (cF (ha pos p_ s σ H _ I h) λus s1 zz=>?_) he hpl;obtain⟨vs,H1,I1,r1,q1⟩:=zz;exact hc p_ s1 σ H1 vs us Q I1 r1 q1
theorem iH(hc:cA X (.type T) r)(hg:Gl X x)(hm:X.mg x=none)(hv:bootBuiltins x=some (.type T))(ha:PA X (e::es) t) (hn:x≠ "__name__" :=by decide) (hdb:(x == ("__debug__" : Str))=false:=by decide)
  (he:starEach (e::es) X.env=(false,eval e X.env)::starEach es X.env:=by rfl) (hpl:(backTo pos (starEach es X.env)).any (·.1)=false:=by rfl):PE X (.Call (.Name x p) (e::es) [] pos) (tCB r t):=by
 intro p_ s σ H Q I h;refine qku (rD I hg hm hv ?_ hn hdb);refine qkB (cF (ha pos p_ s σ H _ I h) λus s1 zz=>?_) he hpl;obtain⟨vs,H1,I1,r1,q1⟩:=zz;exact hc p_ s1 σ H1 vs us Q I1 r1 q1
end
end L2
namespace HT
open PySem PyProof.Rows
section
variable {prog:Program}{w:World}{A:Around}{E:QAB}{s:Shared}
def g8(n d:Nat):Option Int->Nat
 |none=>d
 |some v=>if v<0 then (v+(n:Int)).toNat else min v.toNat n
theorem qbE(n d:Nat)(hd:d<=n)(o:Option Int):g8 n d o<=n:=by
 cases o with
 |none=>exact hd
 |some v=>
  show(if v<0 then (v+(n:Int)).toNat else min v.toNat n)<=n
  by_cases hv:v<0
  ·rw[if_pos hv];omega
  ·rw[if_neg hv];exact Nat.min_le_right _ _
theorem Pb(v:Int)(n d:Nat):(if v<0 then max (v+(n:Int)) 0 else min v (n:Int))=((g8 n d (some v):Nat):Int):=by
 show(if v<0 then max (v+(n:Int)) 0 else min v (n:Int))=(((if v<0 then (v+(n:Int)).toNat else min v.toNat n):Nat):Int)
 by_cases hv:v<0
 ·simp only[if_pos hv];omega
 ·simp only[if_neg hv];omega
theorem L_(lo hi:Option Int)(n:Nat):Builtin.Slice.sliceAdjust lo hi 1 (n:Int)=(((g8 n 0 lo:Nat):Int),((g8 n n hi:Nat):Int)):=by
 have h1:¬((1:Int)<0):=by omega
 unfold Builtin.Slice.sliceAdjust;simp only[h1,qkQ];refine Prod.ext ?_ ?_
 ·cases lo with
  |none=>rfl
  |some v=>exact Pb v n 0
 ·cases hi with
  |none=>rfl
  |some v=>exact Pb v n n
theorem Ma(i j:Nat):Builtin.Slice.slicePlaces (i:Int) (j:Int) 1=j - i:=by
 unfold Builtin.Slice.slicePlaces;have h1:(1:Int) > 0:=by omega
 simp only[h1,qlj,Int.ediv_one];split <;> omega
theorem lR{v:Value}{o:Option Int}{Q:Option Int->Shared->Prop}(p:IsPart v o)(h:Q o s):wpAny (model prog w) A (Builtin.Slice.slicePartIndex v) Q E s:=by
 cases p with
 |none=>exact slicePart_none h
 |int i t=>exact slicePart_int h
theorem xr{sl:Addr}{vl vu:Value}{lo hi:Option Int}{n:Nat}{Q:Int×Int×Nat->Shared->Prop}(hs:s.heap.IsSliceOf sl vl vu .none)(pl:IsPart vl lo)(pu:IsPart vu hi)
  (h:Q (((g8 n 0 lo:Nat):Int),1,g8 n n hi - g8 n 0 lo) s):wpAny (model prog w) A (Builtin.Slice.sliceApplied (.ref sl) (pure (n:Int))) Q E s:=by
 obtain⟨os,hos,hcs,hds⟩:=id hs;unfold Builtin.Slice.sliceApplied Builtin.Slice.sliceFields;refine qi4 (qi4 (qjZ hos hds (x:=vl) rfl (qi4 (qjZ hos hds (x:=vu) rfl (qi4 (qjZ hos hds (x:=.none) rfl (qi_ ?_)))))));refine qi4 (slicePart_none ?_);show wpAny _ _ (if ((1:Int) == 0)=true then _ else _) _ _ s
 rw[if_neg (by decide)];refine qi4 (lR pl (qi4 (lR pu (qi4 (qi_ ?_)))));show wpAny _ _ (match Builtin.Slice.sliceAdjust lo hi 1 (n:Int) with|(lo,hi)=>pure (lo,(1:Int),Builtin.Slice.slicePlaces lo hi 1)) _ _ s
 rw[L_ lo hi n];show wpAny _ _ (pure (((g8 n 0 lo:Nat):Int),(1:Int),Builtin.Slice.slicePlaces ((g8 n 0 lo:Nat):Int) ((g8 n n hi:Nat):Int) 1)) _ _ s;rw[Ma];exact qi_ h
theorem Vg(xs:Array Value)(i k:Nat):((List.range k).filterMap fun(m:Nat)=>xs[((i:Int)+(m:Int) * 1).toNat]?).toArray=((xs.toList.drop i).take k).toArray:=by
 have e:(fun(m:Nat)=>xs[((i:Int)+(m:Int) * 1).toNat]?)=λm=>xs[i+m]?:=by
  funext m
  have:((i:Int)+(m:Int) * 1).toNat=i+m:=by omega
  rw[this]
 rw[e];have:=pick_run xs i k;rw[List.filterMap_map] at this;have e2:((λx=>xs[x]?) ∘ λx=>i+x)=λm=>xs[i+m]?:=rfl;rw[e2] at this;rw[this]
theorem vR{t sl:Addr}{items:Array Value}{vl vu:Value}{lo hi:Option Int}{Q:QAB}(ht:IsTup s.heap t items)(hs:s.heap.IsSliceOf sl vl vu .none)(pl:IsPart vl lo)(pu:IsPart vu hi)
  (hw:¬(g8 items.size 0 lo=0/\g8 items.size items.size hi=items.size))
  (h:Q (.ref s.heap.objs.size) {s with heap:=s.heap.push {cls:=.type "tuple",data:=.seq ((items.toList.drop (g8 items.size 0 lo)).take (g8 items.size items.size hi - g8 items.size 0 lo)).toArray}})
  (hsz:items.size<=sizeLine):wpAny (model prog w) A (getItem (.ref t) (.ref sl)) Q E s:=by
 have vU:sizeOk (.seq ((items.toList.drop (g8 items.size 0 lo)).take (g8 items.size items.size hi - g8 items.size 0 lo)).toArray):=by
  show((items.toList.drop (g8 items.size 0 lo)).take (g8 items.size items.size hi - g8 items.size 0 lo)).toArray.size<=sizeLine;rw[qjj,qji,List.length_drop,qkk];omega
 have hj:g8 items.size items.size hi<=items.size:=qbE _ _ (qjb _) hi;obtain⟨os,hos,hcs,hds⟩:=id hs;have hTs:s.TypeIs (.ref sl) "slice" :=⟨os,hos,hcs⟩;unfold getItem
 try with_reducible refine qkm ?_
 first|refine qi4 (qi_ ?_)|skip
 refine qi4 (wpAny_sequenceKey ht.typeIs (by decide) ?_);refine qi4 (qkx (name:=Str.ofString "__getitem__") ht.typeIs qka
  (qk0 qka ht.typeIs entry_tuple_getitem ?_ (args_tuple_getitem _ _)))
 show wpAny _ _ (Builtin.Tuple.tupleItemsOf (.ref t) >>= _) _ _ s;refine qi4 (tupleItemsOf_ ht ?_);refine qi4 (wpAny_typeOf hTs ?_);rw[if_pos (by decide)];refine qi4 (xr hs pl pu ?_);have hno:¬((((g8 items.size 0 lo:Nat):Int) == 0 && (1:Int) == 1 && (g8 items.size items.size hi - g8 items.size 0 lo) == items.size)=true):=by
  intro q;rw[qkj,qkj] at q;have q1:((g8 items.size 0 lo:Nat):Int)=0:=eq_of_beq q.1.1;have q2:g8 items.size items.size hi - g8 items.size 0 lo=items.size:=eq_of_beq q.2;exact hw ⟨by omega,by omega⟩
 show wpAny _ _ (if (((g8 items.size 0 lo:Nat):Int) == 0 && (1:Int) == 1 && (g8 items.size items.size hi - g8 items.size 0 lo) == items.size)=true then _ else _) _ _ s
 rw[if_neg hno,Vg]
 first
  |exact qi4 (m:=Builtin.Tuple.tupleExact _) (qj1 (qi_ ⟨_,rfl,qi_ h⟩) vU)
  |exact qi4 (m:=Builtin.Tuple.tupleExact _) (qj1 (qi4 (qi_ (qi_ ⟨_,rfl,qi_ h⟩))) vU)
  |exact qi4 (qi4 (m:=Builtin.Tuple.tupleExact _) (qj1 (qi_ (qi_ ⟨_,rfl,qi_ h⟩)) vU))
  |exact qi4 (qi4 (m:=Builtin.Tuple.tupleExact _) (qj1 (qi_ ⟨_,rfl,qi_ h⟩) vU))
end
end HT
namespace L2
open PySem PySem.Spec PyProof.Rows
abbrev TO:=St->Hp->(Option Int->Hp->Prop)->Prop
def PO(X:Cx)(e:Option Expr)(t:TO):Prop:=
 ∀(p_:QAC)(s:Shared)(σ:St)(H:Hp)(Q:Option Int->Hp->Prop),Inv X p_ σ H s->t σ H Q->
  wpAny (model X.prog X.w) X.A (evalPart e X.env) (λu s'=>∃o H',Inv X p_ σ H' s'/\IsPart u o/\Q o H') X.xe s
def Pg:TO:=λ_ H Q=>Q none H
def Vh(t:TE):TO:=λσ H Q=>t σ H λx H1=>∃i,x = .int i/\Q (some i) H1
section
variable {X:Cx}{e:Expr}{te:TE}{lo hi:Option Expr}{tl th:TO}{pos p2:Pos}
theorem Ph:PO X none Pg:=by
 intro p_ s σ H Q I h;rw[evalPart_none];exact qi_ ⟨none,H,I,.none,h⟩
theorem pZ(h:PE X e te):PO X (some e) (Vh te):=by
 intro p_ s σ H Q I hw;rw[evalPart_some];refine cF (h p_ s σ H _ I hw) λu s1 zz=>?_;obtain⟨x,H1,I1,r1,q1⟩:=zz;obtain⟨i,rfl,q⟩:=q1;obtain⟨t,rfl⟩:=r1;exact⟨some i,H1,I1,.int i t,q⟩
def YS(X:Cx)(r:V->Option Int->Option Int->Hp->VK->Prop):Prop:=
 ∀(p_:QAC)(s:Shared)(σ:St)(H:Hp)(x:V)(v vl vu:Value)(lo hi:Option Int)(sl:Addr)(Q:VK),Inv X p_ σ H s->RelV x v->s.heap.IsSliceOf sl vl vu .none->IsPart vl lo->IsPart vu hi->r x lo hi H Q->
  ∃T id,typeLookup (.type T) "__getitem__" = pure (some (.builtin id))/\s.TypeIs v T/\wpAny (model X.prog X.w) X.A (getItem v (.ref sl)) (EP X p_ σ Q) X.xe s
def tSl(r:V->Option Int->Option Int->Hp->VK->Prop)(te:TE)(tl th:TO):TE:=λσ H Q=>te σ H λx H1=>tl σ H1 λl H2=>th σ H2 λu H3=>r x l u H3 Q
theorem vV{r:V->Option Int->Option Int->Hp->VK->Prop}(hr:YS X r)(he:PE X e te)(hl:PO X lo tl)(hu:PO X hi th):PE X (.Subscript e (.Slice lo hi none p2) pos) (tSl r te tl th):=by
 intro p_ s σ H Q I h;refine Subscript_ (cF (he p_ s σ H _ I h) λv s1 zz=>?_);obtain⟨x,H1,I1,r1,q1⟩:=zz;refine wpAny_Slice (cF (hl p_ s1 σ H1 _ I1 q1) λvl s2 ⟨l,H2,I2,pl,q2⟩=>cF (hu p_ s2 σ H2 _ I2 q2) λvu s3 ⟨u,H3,I3,pu,q3⟩=>?_);rw[evalPart_none];refine qi_ ?_;have I4:Inv X p_ σ H3 {s3 with heap:=s3.heap.push {cls:=.type "slice",data:=.fields #[vl,vu,.none]}}:=I3.kept (t':=s3.toks) λb ob q=>qi6 _ q;obtain⟨T,id,hT,ht,hg⟩:=hr p_ {s3 with heap:=s3.heap.push {cls:=.type "slice",data:=.fields #[vl,vu,.none]}} σ H3 x v vl vu l u s3.heap.objs.size Q I4 r1 (Heap.IsSliceOf.new ..) pl pu q3;show wpAny (model X.prog X.w) X.A (subscriptTail e (.Slice lo hi none p2) v (.ref s3.heap.objs.size)) (EP X p_ σ Q) X.xe {s3 with heap:=s3.heap.push {cls:=.type "slice",data:=.fields #[vl,vu,.none]}};exact tail_any (ops:=[.ref s3.heap.objs.size,v]) ht hT hg (by with_unfolding_all rfl)
def lU(xs:List V)(lo hi:Option Int):List V:=(xs.drop (HT.g8 xs.length 0 lo)).take (HT.g8 xs.length xs.length hi - HT.g8 xs.length 0 lo)
theorem yN(xs:List V)(lo hi:Option Int):(lU xs lo hi).length<=xs.length:=by
 unfold lU;rw[qji,List.length_drop];omega
def qbF(K:W.Frag):V->Option Int->Option Int->Hp->VK->Prop:=λx lo hi H Q=>∃a xs,x = .ref a/\dg K H a xs/\
 ¬(HT.g8 xs.length 0 lo=0/\HT.g8 xs.length xs.length hi=xs.length)/\∀p,H p=none->Q (.ref p) (upd H p (.tup (lU xs lo hi)))
theorem qbG:YS X (qbF X.K):=by
 intro p_ s σ H x v vl vu lo hi sl Q I rx hs pl pu h;obtain⟨a,xs,rfl,hx,hw,q⟩:=h;cases rx;obtain⟨its,r,ht,hz⟩:=I.tuple hx;have hlen:its.toArray.size=xs.length:=by rw[qjj];exact r.length.symm
 refine⟨"tuple",_,qka.lookup,ht.typeIs,?_⟩;refine HT.vR ht hs pl pu (by rw[hlen];exact hw) ?_ (by rw[hlen];exact hz);rw[hlen];refine⟨.ref s.heap.objs.size,_,I.laid (t':=s.toks) (o:=.tup (lU xs lo hi)) (λb ob q=>qi6 _ q) (qjb _) ?_,rfl,q _ (I.hok.fresh (qjb _))⟩;exact⟨qjx (yN xs lo hi) hz,_,(r.drop (HT.g8 xs.length 0 lo)).take (HT.g8 xs.length xs.length hi - HT.g8 xs.length 0 lo),IsTup.new _ _⟩
end
def Vi(n:Nat)(i:Int):Option Nat:=if 0<=i then (if i<n then some i.toNat else none) else if -(n:Int)<=i then some (i+n).toNat else none
def Ef{α:Type}(xs:List α)(i:Int):Option α:=(Vi xs.length i).bind λj=>xs[j]?
theorem Pj{n:Nat}{i:Int}{j:Nat}(h:Vi n i=some j):seqIndex? i n=some j/\j<n/\-(n:Int)<=i/\i<n:=by
 unfold Vi at h
 by_cases h0:0<=i
 ·rw[if_pos h0] at h
  by_cases h1:i<n
  ·rw[if_pos h1] at h;have e:i.toNat=j:=qjI h;exact⟨by rw[seqIndex_of h0 h1,e],by omega,by omega,h1⟩
  ·rw[if_neg h1] at h;cases h
 ·rw[if_neg h0] at h
  by_cases h1 : -(n:Int)<=i
  ·rw[if_pos h1] at h;have e:(i+n).toNat=j:=qjI h;exact⟨by rw[seqIndex_neg (by omega) h1,e],by omega,h1,by omega⟩
  ·rw[if_neg h1] at h;cases h
theorem Gf{α:Type}{xs:List α}{i:Int}{v:α}(h:Ef xs i=some v):∃j,seqIndex? i xs.length=some j/\xs[j]? = some v/\j<xs.length/\-(xs.length:Int)<=i/\i<xs.length:=by
 unfold Ef at h;cases e:Vi xs.length i with
 |none=>rw[e] at h;cases h
 |some j=>
  rw[e] at h;obtain⟨h1,h2,h3,h4⟩:=Pj e;exact⟨j,h1,h,h2,h3,h4⟩
theorem bA{α:Type}{xs:List α}{j:Nat}{v:α}(h:xs[j]? = some v):Ef xs (j:Int)=some v:=by
 have hj:j<xs.length:=(qi5.mp h).1;have e:Vi xs.length (j:Int)=some j:=by
  unfold Vi;rw[if_pos (by omega),if_pos (by omega)];simp
 unfold Ef;rw[e];exact h
def YT(b:Expr):Prop:=∀o i,subscripted b false o i=operate [o,i] (getItem o i)
def Vj(X:Cx)(r:R2):Prop:=
 ∀(value slice:Expr)(p_:QAC)(s:Shared)(σ:St)(H:Hp)(x y:V)(v u:Value)(Q:VK),Inv X p_ σ H s->RelV x v->RelV y u->r x y H Q->
  subscripted slice false v u=operate [v,u] (getItem v u)->wpAny (model X.prog X.w) X.A (subscriptTail value slice v u) (EP X p_ σ Q) X.xe s
def Vk(X:Cx)(id:String)(r:V->List V->Hp->VK->Prop):Prop:=
 ∀(p_:QAC)(s:Shared)(σ:St)(H:Hp)(x:V)(xs:List V)(v:Value)(us:QAE)(Q:VK),Inv X p_ σ H s->RelV x v->Vals xs us->r x xs H Q->
  wpAny (model X.prog X.w) X.A (call (.builtin id) (v::us)) (EP X p_ σ Q) X.xe s
section
variable {X:Cx}{a b:Expr}{ta tb:TE}{pos:Pos}
theorem bW{r:R2}(hr:Vj X r)(ha:PE X a ta)(hb:PE X b tb)(hs:YT b):PE X (.Subscript a b pos) (tOp r ta tb):=by
 intro p_ s σ H Q I h;exact Subscript_ (qbq ha hb I h λv u s2 x y H2 I2 rx ry q=>hr a b p_ s2 σ H2 x y v u Q I2 rx ry q (hs _ _))
def qgJ(K:W.Frag):R2:=λx y H Q=>∃p xs i v,x = .ref p/\y = .int i/\aX K H p xs/\Ef xs i=some v/\Q v H
def qgK(K:W.Frag):R2:=λx y H Q=>∃p xs i v,x = .ref p/\y = .int i/\dg K H p xs/\Ef xs i=some v/\Q v H
def qdE:R2:=λx y H Q=>∃z i c,x = .str z/\y = .int i/\z.length<=sizeLine/\Ef z.cps.toList i=some c/\Q (.str ⟨#[c]⟩) H
theorem YW:Vj X (qgJ X.K):=by
 intro value slice p_ s σ H x y v u Q I rx ry h hs;obtain⟨p,xs,i,z,rfl,rfl,hq,he,q⟩:=h;cases rx;obtain⟨t,rfl⟩:=ry;obtain⟨its,r,pl,hz⟩:=I.list hq;obtain⟨j,h1,h2,h3,h4,h5⟩:=Gf he;obtain⟨w,ew,Vl⟩:=r.get h2;have hl:=r.length;have hn:=uU;have fin:EP X p_ σ Q w s:=⟨z,H,I,Vl,q⟩
 by_cases h0:0<=i
 ·have hj:i.toNat=j:=by
   rw[seqIndex_of h0 h5] at h1;exact qjI h1
  exact item_listR pl.isList h0 (by omega) (by rw[hj];simpa using ew) fin hs
 ·have hj:(i+(its.toArray.size:Int)).toNat=j:=by
   rw[seqIndex_neg (by omega) h4] at h1;rw[qjj,<- hl];exact qjI h1
  exact subscriptTail_builtinR (x:=w) pl.isList.typeIs slot_list_getitem.lookup
   (wpAny_getItem_list_neg (Q:=λr s'=>r=w/\EP X p_ σ Q r s') pl.isList (by omega) (by rw[qjj] <;> omega) (by omega) (by rw[hj];simpa using ew) ⟨rfl,fin⟩) hs
theorem qbH:Vj X (qgK X.K):=by
 intro value slice p_ s σ H x y v u Q I rx ry h hs;obtain⟨p,xs,i,z,rfl,rfl,hq,he,q⟩:=h;cases rx;obtain⟨t,rfl⟩:=ry;obtain⟨its,r,pl,hz⟩:=I.tuple hq;obtain⟨j,h1,h2,h3,h4,h5⟩:=Gf he;obtain⟨w,ew,Vl⟩:=r.get h2;have hl:=r.length;have hn:=uU;have fin:EP X p_ σ Q w s:=⟨z,H,I,Vl,q⟩;exact subscriptTail_builtinR (x:=w) pl.typeIs slot_tuple_getitem.lookup
  (getItem_tuple (j:=j) (Q:=λr s'=>r=w/\EP X p_ σ Q r s') pl (by omega) (by omega) (by rw[qjj,<- hl];exact h1) (by simpa using ew) ⟨rfl,fin⟩) hs
theorem qbI:Vj X qdE:=by
 intro value slice p_ s σ H x y v u Q I rx ry h hs;obtain⟨z,i,c,rfl,rfl,hz,he,q⟩:=h;obtain⟨t,rfl⟩:=rx;obtain⟨t',rfl⟩:=ry;obtain⟨j,h1,h2,h3,h4,h5⟩:=Gf he;have hl:z.cps.toList.length=z.length:=by simp[Str.length]
 rw[hl] at h1 h4 h5;have hn:=uU;exact tail_any (typeIs_str s z t) slot_str_getitem.lookup (getItem_str (c:=c) (by
  have e1:decide (i < -(2 ^ 63:Int))=false:=qjM (by omega);have e2:decide (i≥2 ^ 63)=false:=qjM (by omega);rw[e1,e2,Bool.or_false]) (by rw[h1];simpa using h2) ⟨.str ⟨#[c]⟩,H,I.tok _,⟨_,rfl⟩,q⟩) hs
theorem Mf(its:QAE)(n j:Nat)(u:Value):Obj.mapSeq (·.setIfInBounds j u) {cls:=.type "list",data:=.seq its.toArray n}={cls:=.type "list",data:=.seq (its.set j u).toArray n}:=by
 simp[Obj.mapSeq]
theorem Inv.lst{p_:QAC}{σ:St}{H:Hp}{s:Shared}{p:Addr}{xs:List V}(I:Inv X p_ σ H s)(h:H p=some (.lst xs)) :
  ∃(its:QAE)(n:Nat),Vals xs its/\s.heap.get? p=some {cls:=.type "list",data:=.seq its.toArray n}/\xs.length<=sizeLine:=by
 obtain⟨z,its,n,r,e⟩:=I.hok p _ h;exact⟨its,n,r,e,z⟩
theorem Inv.qbJ{p_:QAC}{σ:St}{H:Hp}{s:Shared}{p:Addr}{xs ys:List V}{its its':QAE}{n n':Nat}{f:Obj->Obj}(I:Inv X p_ σ H s)(h:H p=some (.lst xs))
  (ho:s.heap.get? p=some {cls:=.type "list",data:=.seq its.toArray n}) (hf:f {cls:=.type "list",data:=.seq its.toArray n}={cls:=.type "list",data:=.seq its'.toArray n'}) (r:Vals ys its') (hz:ys.length<=sizeLine) (t:Nat) :
  Inv X p_ σ (upd H p (.lst ys)) {s with heap:=s.heap.update p f,toks:=t}:=by
 have e:(s.heap.update p f).get? p=some {cls:=.type "list",data:=.seq its'.toArray n'}:=by
  rw[qkI f ho (by rw[hf] <;> rfl),hf]
 refine I.write (x:=p) (e:=p) (by rw[h];trivial) (.inl rfl) (λb u hb q=>(qkn _ _ (qk7 hb)).trans q) ⟨_,e⟩ ?_;exact⟨hz,its',n',r,e⟩
def qaD:V->V->V->Hp->(Hp->Prop)->Prop:=λo i v H Q=>∃p xs k j,o = .ref p/\i = .int k/\H p=some (.lst xs)/\Vi xs.length k=some j/\Q (upd H p (.lst (xs.set j v)))
theorem set_list:QS X qaD:=by
 intro p_ s σ H o i v ov iv u Q I ro ri rv h;obtain⟨p,xs,k,j,rfl,rfl,hp,hj,q⟩:=h;cases ro;obtain⟨t,rfl⟩:=ri;obtain⟨its,n,r,ho,hz⟩:=I.lst hp;obtain⟨h1,h2,h3,h4⟩:=Pj hj;have hl:=r.length;have hn:=uU;have I':Inv X p_ σ (upd H p (.lst (xs.set j v))) {s with heap:=s.heap.update p (Obj.mapSeq (·.setIfInBounds j u))}:=
  I.qbJ hp ho (Mf its n j u) (r.set rv j) (by rw[List.length_set];exact hz) s.toks
 by_cases h0:0<=k
 ·have hk:k.toNat=j:=by
   rw[seqIndex_of h0 h4] at h1;exact qjI h1
  exact W.ki_setAt ho h0 (by omega) (by rw[qjj,<- hl];exact h4) (by rw[hk];exact⟨_,I',q⟩)
 ·have hk:(k+(its.toArray.size:Int)).toNat=j:=by
   rw[seqIndex_neg (by omega) h3] at h1;rw[qjj,<- hl];exact qjI h1
  exact W.ki_setBack ho (by omega) (by rw[qjj,<- hl];exact h3) (by omega) (by rw[hk];exact⟨_,I',q⟩)
theorem Gg(lo hi:Option Int)(n:Nat):(sliceBounds lo hi none n).1=((HT.g8 n 0 lo:Nat):Int)/\(sliceBounds lo hi none n).2.1=((HT.g8 n n hi:Nat):Int)/\(sliceBounds lo hi none n).2.2=1:=by
 refine⟨?_,?_,rfl⟩
 ·cases lo with
  |none=>simp[sliceBounds,HT.g8]
  |some i=>
   simp only[sliceBounds,HT.g8,Option.getD_none,show(1:Int) > 0 by decide,qlj]
   by_cases h:i<0
   ·simp only[h,qlj] <;> omega
   ·simp only[h,qkQ] <;> omega
 ·cases hi with
  |none=>simp[sliceBounds,HT.g8]
  |some i=>
   simp only[sliceBounds,HT.g8,Option.getD_none,show(1:Int) > 0 by decide,qlj]
   by_cases h:i<0
   ·simp only[h,qlj] <;> omega
   ·simp only[h,qkQ] <;> omega
theorem Df(its:QAE)(lo hi:Option Int):slicePick its.toArray lo hi none=((its.drop (HT.g8 its.length 0 lo)).take (HT.g8 its.length its.length hi - HT.g8 its.length 0 lo)).toArray:=by
 obtain⟨h1,h2,h3⟩:=Gg lo hi its.toArray.size;unfold slicePick;rw[h1,h2,h3];simp only[sliceRange_one,pick_run,qjj] <;> rfl
def YX(K:W.Frag):V->Option Int->Option Int->Hp->VK->Prop:=λx lo hi H Q=>∃a xs,x = .ref a/\aX K H a xs/\∀p,H p=none->Q (.ref p) (upd H p (.lst (lU xs lo hi)))
theorem YZ:YS X (YX X.K):=by
 intro p_ s σ H x v vl vu lo hi sl Q I rx hs pl pu h;obtain⟨a,xs,rfl,hx,q⟩:=h;cases rx;obtain⟨its,r,ht,hz⟩:=I.list hx;have hlen:=r.length;refine⟨"list",_,slot_list_getitem.lookup,ht.isList.typeIs,?_⟩;refine wpAny_getItem_list_slice ht.isList hs pl pu .none (by simp) ?_ (by rw[qjj] <;> omega);rw[Df,<- hlen];refine⟨.ref s.heap.objs.size,_,I.laid (t':=s.toks) (o:=.lst (lU xs lo hi)) (λb ob q=>qi6 _ q) (qjb _) ?_,rfl,q _ (I.hok.fresh (qjb _))⟩;exact⟨qjx (yN xs lo hi) hz,_,0,(r.drop (HT.g8 xs.length 0 lo)).take (HT.g8 xs.length xs.length hi - HT.g8 xs.length 0 lo),qjg _ rfl⟩
def iT:V->Bool
 |.non=>true
 |.bl _=>true
 |.int _=>true
 |.str _=>true
 |_=>false
def Q_:V->V->Bool
 |.non,.non=>true
 |.bl a,.bl b=>a == b
 |.bl a,.int b=>(if a then 1 else 0) == b
 |.int a,.bl b=>a == (if b then 1 else 0)
 |.int a,.int b=>a == b
 |.str a,.str b=>a == b
 |_,_=>false
theorem qbK{A:Around}{s:Shared}{y x:V}{u v:Value}(ry:RelV y u)(rx:RelV x v)(fy:iT y=true)(fx:iT x=true):SeqAt.EqAt A s u v (Q_ y x):=by
 cases y with
 |non=>
  cases ry;cases x with
  |non=>cases rx;exact SeqAt.EqAt.same _
  |bl b=>cases rx;exact SeqAt.EqAt.none_bool b
  |int b=>obtain⟨t,rfl⟩:=rx;exact SeqAt.EqAt.none_int b t
  |str b=>obtain⟨t,rfl⟩:=rx;exact SeqAt.EqAt.none_str b t
  |_=>exact absurd (show false=true from fx) qjq
 |bl a=>
  cases ry;cases x with
  |non=>cases rx;exact SeqAt.EqAt.bool_none a
  |bl b=>cases rx;exact SeqAt.EqAt.bool_bool a b
  |int b=>obtain⟨t,rfl⟩:=rx;exact SeqAt.EqAt.bool_int a b t
  |str b=>obtain⟨t,rfl⟩:=rx;exact SeqAt.EqAt.bool_str a b t
  |_=>exact absurd (show false=true from fx) qjq
 |int a=>
  obtain⟨t',rfl⟩:=ry;cases x with
  |non=>cases rx;exact SeqAt.EqAt.int_none a t'
  |bl b=>cases rx;exact SeqAt.EqAt.int_bool a t' b
  |int b=>obtain⟨t,rfl⟩:=rx;exact SeqAt.EqAt.int_int a t' b t
  |str b=>obtain⟨t,rfl⟩:=rx;exact SeqAt.EqAt.int_str a t' b t
  |_=>exact absurd (show false=true from fx) qjq
 |str a=>
  obtain⟨t',rfl⟩:=ry;cases x with
  |non=>cases rx;exact SeqAt.EqAt.str_none a t'
  |bl b=>cases rx;exact SeqAt.EqAt.str_bool a t' b
  |int b=>obtain⟨t,rfl⟩:=rx;exact SeqAt.EqAt.str_int a t' b t
  |str b=>obtain⟨t,rfl⟩:=rx;exact SeqAt.EqAt.str_str a t' b t
  |_=>exact absurd (show false=true from fx) qjq
 |_=>exact absurd (show false=true from fy) qjq
def Mg(x:V)(u:Value):Bool:=match u with
 |.none=>Q_ .non x
 |.bool b=>Q_ (.bl b) x
 |.int i _=>Q_ (.int i) x
 |.str z _=>Q_ (.str z) x
 |_=>false
theorem Vm{x y:V}{u:Value}(r:RelV y u)(f:iT y=true):Mg x u=Q_ y x:=by
 cases y with
 |non=>cases r;rfl
 |bl b=>cases r;rfl
 |int i=>obtain⟨t,rfl⟩:=r;rfl
 |str z=>obtain⟨t,rfl⟩:=r;rfl
 |_=>exact absurd (show false=true from f) qjq
theorem vW{x:V}:∀{xs:List V}{us:QAE},Vals xs us->xs.all iT=true->us.any (Mg x)=xs.any λy=>Q_ y x
 |_,_,.nil,_=>rfl
 |y::xs,u::us,.cons r t,f=>by
  rw[List.all_cons,qkj] at f;rw[qld,qld,Vm r f.1,vW t f.2]
theorem rG{A:Around}{s:Shared}{x:V}{v:Value}(rx:RelV x v)(fx:iT x=true):∀{xs:List V}{us:QAE},Vals xs us->xs.all iT=true->∀u∈us,SeqAt.EqAt A s u v (Mg x u)
 |_,_,.nil,_=>λu hu=>by cases hu
 |y::xs,u::us,.cons r t,f=>λu' hu=>by
  rw[List.all_cons,qkj] at f
  rcases qjm.mp hu with rfl|hu
  ·rw[Vm r f.1];exact qbK r rx f.1 fx
  ·exact rG rx fx t f.2 u' hu
def inV(x:V)(xs:List V):Bool:=xs.any λy=>Q_ y x
def rIn(K:W.Frag)(neg:Bool):R2:=λx y H Q=>∃p xs,y = .ref p/\(aX K H p xs\/dg K H p xs)/\iT x=true/\xs.all iT=true/\Q (.bl (if neg then !inV x xs else inV x xs)) H
theorem Ra:gJ X (compareOp .In) (rIn X.K false):=by
 intro p_ s σ H x y v u Q I rx ry h;obtain⟨p,xs,rfl,hq,fx,fs,q⟩:=h;cases ry
 rcases hq with hq|hq
 ·obtain⟨its,r,pl,hz⟩:=I.list hq;refine SeqAt.in_listAt (Mg x) pl.isList (λw hw=>rG rx fx r fs w (by simpa using hw)) ⟨.bl _,H,I,rfl,?_⟩;rw[show its.toArray.any (Mg x)=its.any (Mg x) by simp,vW r fs];exact q
 ·obtain⟨its,r,pl,hz⟩:=I.tuple hq;refine SeqAt.in_tupleAt (Mg x) pl (λw hw=>rG rx fx r fs w (by simpa using hw)) ⟨.bl _,H,I,rfl,?_⟩;rw[show its.toArray.any (Mg x)=its.any (Mg x) by simp,vW r fs];exact q
theorem Gh:gJ X (compareOp .NotIn) (rIn X.K true):=by
 intro p_ s σ H x y v u Q I rx ry h;obtain⟨p,xs,rfl,hq,fx,fs,q⟩:=h;cases ry
 rcases hq with hq|hq
 ·obtain⟨its,r,pl,hz⟩:=I.list hq;refine SeqAt.notIn_listAt (Mg x) pl.isList (λw hw=>rG rx fx r fs w (by simpa using hw)) ⟨.bl _,H,I,rfl,?_⟩;rw[show its.toArray.any (Mg x)=its.any (Mg x) by simp,vW r fs];exact q
 ·obtain⟨its,r,pl,hz⟩:=I.tuple hq;refine SeqAt.notIn_tupleAt (Mg x) pl (λw hw=>rG rx fx r fs w (by simpa using hw)) ⟨.bl _,H,I,rfl,?_⟩;rw[show its.toArray.any (Mg x)=its.any (Mg x) by simp,vW r fs];exact q
theorem Gi:gJ X (compareOp .NotIn) (λx y H Q=>∃i j,x = .str i/\y = .str j/\Q (.bl (!(!(Builtin.Str.occurrences j i 0 j.length 1).isEmpty))) H):=by
 intro p_ s σ H x y v u Q I rx ry h;obtain⟨i,j,rfl,rfl,q⟩:=h;obtain⟨t,rfl⟩:=rx;obtain⟨t',rfl⟩:=ry;exact notIn_str ⟨.bl _,H,I,rfl,q⟩
theorem Gj:cA X (.builtin "len") (λxs H Q=>∃p ys,xs=[.ref p]/\(aX X.K H p ys\/dg X.K H p ys)/\Q (.int ys.length) H):=by
 intro p_ s σ H xs us Q I r h;obtain⟨p,ys,rfl,hq,q⟩:=h;obtain⟨u,rfl,rx⟩:=vals1 r;cases rx;have hn:=uU
 rcases hq with hq|hq
 ·obtain⟨its,r',pl,hz⟩:=I.list hq;have hlen:=r'.length;exact Calls.call_len_list pl.isList (by simp only[qjj] <;> omega) ⟨.int ys.length,H,I.tok _,⟨s.toks+1,by rw[qjj,hlen]⟩,q⟩
 ·obtain⟨its,r',pl,hz⟩:=I.tuple hq;have hlen:=r'.length;exact len_tuple pl (by simp only[qjj] <;> omega) ⟨.int ys.length,H,I.tok _,⟨s.toks+1,by rw[qjj,hlen]⟩,q⟩
theorem Gk:cA X (.builtin "len") (λxs H Q=>∃z,xs=[.str z]/\z.length<=sizeLine/\Q (.int z.length) H):=by
 intro p_ s σ H xs us Q I r h;obtain⟨z,rfl,hz,q⟩:=h;obtain⟨u,rfl,t,rfl⟩:=vals1 r;have hn:=uU;exact len_str (by omega) ⟨.int z.length,H,I.tok _,⟨_,rfl⟩,q⟩
theorem Gm:cA X (.type "list") (λxs H Q=>∃p ys,xs=[.ref p]/\(aX X.K H p ys\/dg X.K H p ys)/\∀l,H l=none->Q (.ref l) (upd H l (.lst ys))):=by
 intro p_ s σ H xs us Q I r h;obtain⟨p,ys,rfl,hq,q⟩:=h;obtain⟨u,rfl,rx⟩:=vals1 r;cases rx;have fin:∀(its:QAE),Vals ys its->ys.length<=sizeLine->∀(h':Heap)(c':Nat),(∀b o',s.heap.get? b=some o'->h'.get? b=some o')->
   h'.get? s.heap.objs.size=some {cls:=.type "list",dict:=none,data:=.seq its.toArray c',slots:=#[]}->EP X p_ σ Q (.ref s.heap.objs.size) {s with heap:=h'}:=λits r' hz h' c' kp e=>
  ⟨.ref s.heap.objs.size,_,I.laid (t':=s.toks) kp (qjb _) (show b_ X.prog X.w _ h' _ (.lst ys) from⟨hz,its,c',r',e⟩),rfl,q _ (I.hok.fresh (qjb _))⟩
 rcases hq with hq|hq
 ·obtain⟨its,r',pl,hz⟩:=I.list hq;have hlen:=r'.length;obtain⟨o,ho,hc,n,hd⟩:=pl.isList;exact call_list_seq p (.inl rfl) ho hc hd (λh' c' kp e=>fin its r' hz h' c' kp e) (by simp only[qjj] <;> omega)
 ·obtain⟨its,r',pl,hz⟩:=I.tuple hq;have hlen:=r'.length;obtain⟨o,ho,hc,n,hd⟩:=pl;exact call_list_seq p (.inr rfl) ho hc hd (λh' c' kp e=>fin its r' hz h' c' kp e) (by simp only[qjj] <;> omega)
theorem Dg:cA X (.type "tuple") (λxs H Q=>∃p ys,xs=[.ref p]/\((aX X.K H p ys/\∀l,H l=none->Q (.ref l) (upd H l (.tup ys)))\/(dg X.K H p ys/\Q (.ref p) H))):=by
 intro p_ s σ H xs us Q I r h;obtain⟨p,ys,rfl,h⟩:=h;obtain⟨u,rfl,rx⟩:=vals1 r;cases rx
 rcases h with⟨hq,q⟩|⟨hq,q⟩
 ·obtain⟨its,r',pl,hz⟩:=I.list hq;have hlen:=r'.length;refine call_tuple_list pl.isList (λh' kp=>?_) (by simp only[qjj] <;> omega);have I1:Inv X p_ σ H {s with heap:=h'}:=I.kept (t':=s.toks) kp;have I2:Inv X p_ σ (upd H h'.objs.size (.tup ys)) {s with heap:=h'.push {cls:=.type "tuple",data:=.seq its.toArray}}:=
   I1.laid (t':=s.toks) (λb o e=>qi6 _ e) (qjb _) (show b_ X.prog X.w _ _ _ (.tup ys) from⟨hz,its,r',IsTup.new _ _⟩)
  exact⟨.ref h'.objs.size,_,I2,rfl,q _ (I1.hok.fresh (qjb _))⟩
 ·obtain⟨its,r',pl,hz⟩:=I.tuple hq;exact call_tuple_same pl ⟨.ref p,H,I,rfl,q⟩
def tyV(K:W.Frag)(T:String)(x:V)(H:Hp):Prop:=match x with
 |.str _=>T = "str"
 |.int _=>T = "int"
 |.ref p=>(T = "list" /\∃xs,aX K H p xs)\/(T = "tuple" /\∃o,K.lookup p=some o/\o.cls = .type "tuple" /\o.dict=none)\/
   (T = "dict" /\((∃kvs,H p=some (.dK kvs))\/∃kvs,H p=some (.dT kvs)))\/(T = "set" /\∃S n,H p=some (.set S n))
 |_=>False
theorem qbL{p_:QAC}{σ:St}{H:Hp}{s:Shared}{T:String}{x:V}{v:Value}(I:Inv X p_ σ H s)(r:RelV x v)(ty:tyV X.K T x H) :
  s.TypeIs v T/\∀a,v = .ref a->∃ob,s.heap.get? a=some ob/\ob.dict=none:=by
 cases x with
 |str z=>
  obtain⟨t,rfl⟩:=r;cases (show T = "str" from ty);exact⟨typeIs_str s z t,λ_ e=>nomatch e⟩
 |int i=>
  obtain⟨t,rfl⟩:=r;cases (show T = "int" from ty);exact⟨typeIs_int s i t,λ_ e=>nomatch e⟩
 |ref p=>
  cases r
  rcases ty with⟨rfl,xs,hq⟩|⟨rfl,o,hk,hc,hd⟩|⟨rfl,hk⟩|⟨rfl,S,n,hk⟩
  ·obtain⟨its,_,pl,_⟩:=I.list hq;refine⟨pl.isList.typeIs,λa e=>?_⟩;cases e;obtain⟨o,n,e,c,hd,_⟩:=pl;exact⟨o,e,hd⟩
  ·refine⟨⟨o,I.rm p o hk,hc⟩,λa e=>?_⟩;cases e;exact⟨o,I.rm _ o hk,hd⟩
  ·have z:∃o,s.heap.get? p=some o/\o.ExactDict:=by
    rcases hk with⟨kvs,hk⟩|⟨kvs,hk⟩
    ·obtain⟨_,_,_,_,o,_,_,e,ex,_⟩:=I.hok p _ hk;exact⟨o,e,ex⟩
    ·obtain⟨_,_,_,_,o,_,_,e,ex,_⟩:=I.hok p _ hk;exact⟨o,e,ex⟩
   obtain⟨o,e,ex⟩:=z;refine⟨⟨o,e,ex.1⟩,λa e2=>?_⟩;cases e2;exact⟨o,e,ex.2.1⟩
  ·obtain⟨o,_,_,_,e,ex,_⟩:=I.hok p _ hk;refine⟨⟨o,e,ex.1⟩,λa e2=>?_⟩;cases e2;exact⟨o,e,ex.2.1⟩
 |_=>exact False.elim ty
def tBM(K:W.Frag)(T:String)(r:V->List V->Hp->VK->Prop)(to:TE)(t:TA):TE:=λσ H Q=>to σ H λx H1=>tyV K T x H1/\t σ H1 λxs H2=>r x xs H2 Q
variable {o e:Expr}{es:List Expr}{to:TE}{t:TA}{name:Str}{apos cpos:Pos}{T id:String}{r:V->List V->Hp->VK->Prop}
theorem qdF(pa:PlainAttrs T)(slot:Slot T name id) (hty:typeOf (.builtin id)=pure (.type "method_descriptor")) (hm:Vk X id r) (ho:PE X o to) (ha:PA X (e::es) t)
  (hbase:attributeBase o name X.env (eval o X.env)=eval o X.env:=by rfl)
  (hfew:((backTo cpos (starEach (e::es) X.env)).all (λx=>!x.1) && (backToKw cpos (keywordEach [] X.env)).all (λx=>x.1.isSome)
   && decide ((e::es).length+([]:List Keyword).length+(if ([]:List Keyword).isEmpty then 0 else 1)<30))=true:=by rfl)
  (hline:(apos.endLine == cpos.line)=true:=by rfl) (hs:starEach (e::es) X.env=(false,eval e X.env)::starEach es X.env:=by rfl) (hplain:(backTo cpos (starEach es X.env)).any (·.1)=false:=by rfl) :
  PE X (.Call (.Attribute o name apos) (e::es) [] cpos) (tBM X.K T r to t):=by
 intro p_ s σ H Q I h;refine wpAny_Call_method_late hbase hfew hline rfl (cF (ho p_ s σ H _ I h) λv s1 zz=>?_);obtain⟨x,H1,I1,r1,ty,q1⟩:=zz;obtain⟨h1,h2⟩:=qbL I1 r1 ty;refine⟨T,id,pa,slot,hty,h1,h2,?_⟩;have hA:=ha cpos p_ s1 σ H1 _ I1 q1;rw[hs] at hA⊢;refine Calls.callWith_builtin (by show(false || (backTo cpos (starEach es X.env)).any (·.1))=false;rw[hplain] <;> rfl) (Calls.evalArgs_plain ?_)
 refine cF hA λus s2 zz=>?_;obtain⟨vs,H2,I2,r2,q2⟩:=zz;exact hm p_ s2 σ H2 x vs v us Q I2 r1 r2 q2
end
def MtM(X:Cx)(id:String)(r:V->List V->Hp->VK->Prop):Prop:=
 ∀(p_:QAC)(s:Shared)(σ:St)(H:Hp)(x:V)(xs:List V)(v:Value)(us:QAE)(Q:VK),Inv X p_ σ H s->RelV x v->Vals xs us->r x xs H Q->
  wpAny (model X.prog X.w) X.A (call (.builtin id) (v::us)) (EP X p_ σ Q) X.xe s
theorem Vals.one{x:V}{us:QAE}(h:Vals [x] us):∃u,us=[u]/\RelV x u:=vals1 h
theorem Vals.two{x y:V}{us:QAE}(h:Vals [x,y] us):∃u v,us=[u,v]/\RelV x u/\RelV y v:=vals2 h
section
variable {X:Cx}{p_:QAC}{σ:St}{H:Hp}{s:Shared}{l b:Addr}{xs ys zs:List V}
theorem Inv.qdG{its its':QAE}{n:Nat}{f:Array Value->Array Value}{t':Nat}(I:Inv X p_ σ H s)(hH:H l=some (.lst xs))
  (e:s.heap.get? l=some {cls:=.type "list",data:=.seq its.toArray n}) (hf:f its.toArray=its'.toArray) (hv:Vals ys its') (hz:ys.length<=sizeLine) :
  Inv X p_ σ (upd H l (.lst ys)) {s with heap:=s.heap.update l (Obj.mapSeq f),toks:=t'}:=by
 have q:=PySem.IsL.update e f;rw[hf] at q;refine I.write (x:=l) (e:=l) (by rw[hH];exact trivial) (.inl rfl) (λb' u hb hu=>(qkn s.heap (Obj.mapSeq f) (qk7 hb)).trans hu) ⟨_,q⟩ ?_;exact⟨hz,its',_,hv,q⟩
theorem Inv.qbM{its:QAE}{t':Nat}(I:Inv X p_ σ H s)(hv:Vals ys its)(hz:ys.length<=sizeLine) :
  Inv X p_ σ (upd H s.heap.objs.size (.lst ys)) {s with heap:=s.heap.push {cls:=.type "list",data:=.seq its.toArray},toks:=t'}:=
 I.laid (λ_ _ q=>qi6 _ q) (qjb _) ⟨hz,its,0,hv,qjg _ rfl⟩
theorem Inv.fresh(I:Inv X p_ σ H s):H s.heap.objs.size=none:=I.hok.fresh (qjb _)
theorem Inv.Rb(I:Inv X p_ σ H s)(hH:H l=some (.lst xs)):xs.length<=sizeLine/\∃(its:QAE)(n:Nat),Vals xs its/\xs.length=its.length/\s.heap.get? l=some {cls:=.type "list",data:=.seq its.toArray n}:=by
 obtain⟨z,its,n,r,e⟩:=I.hok l _ hH;exact⟨z,its,n,r,r.length,e⟩
end
section
variable {X:Cx}
def Gn:V->List V->Hp->VK->Prop:=λx vs H Q=>∃l xs y,x = .ref l/\vs=[y]/\H l=some (.lst xs)/\xs.length<sizeLine/\Q .non (upd H l (.lst (xs++[y])))
theorem Eh:MtM X "list.append" Gn:=by
 intro p_ s σ H x vs v us Q I rx rv h;obtain⟨l,xs,y,rfl,rfl,hH,hz,q⟩:=h;cases rx;obtain⟨u,rfl,ru⟩:=rv.one;obtain⟨z,its,n,r,hl,e⟩:=I.Rb hH;refine call_meets F.slot_list_append ⟨_,e,rfl⟩ F.entry_list_append (F.args_list_append_2 _ _) (PySem.list_append l its.toArray n u (by rw[qjj];omega)) ⟨e,?_⟩;refine⟨.non,_,I.qdG (its':=its++[u]) hH e (by simp) (r.append (.cons ru .nil)) ?_,rfl,q⟩;rw[qjF,qkq];omega
def qdH:R2:=λx y H Q=>∃l b xs zs,x = .ref l/\y = .ref b/\H l=some (.lst xs)/\H b=some (.lst zs)/\xs.length+zs.length<=sizeLine/\∀p,H p=none->Q (.ref p) (upd H p (.lst (xs++zs)))
theorem qbN:gJ X (binaryOp .Add) qdH:=by
 intro p_ s σ H x y v u Q I rx ry h;obtain⟨l,b,xs,zs,rfl,rfl,hH,hB,hz,q⟩:=h;cases rx;cases ry;obtain⟨z,its,n,r,hl,e⟩:=I.Rb hH;obtain⟨z2,its2,n2,r2,hl2,e2⟩:=I.Rb hB;refine PySem.P.add_list e e2 ?_ (by rw[qjj,qjj];omega);have ea:its.toArray++its2.toArray=(its++its2).toArray:=by simp
 rw[ea];exact⟨.ref _,_,I.qbM (t':=s.toks) (r.append r2) (by rw[qjF];omega),rfl,q _ I.fresh⟩
end
end L2
namespace Att
open PySem PySem.W PySem.Calls PyProof.Rows
theorem zp{P:Params}{h:Heap}:∀(ns:List Int)(vs:QAE),WellAll P h vs (ns.map WData.int)->IntsAre vs ns:=by
 intro ns
 induction ns with
 |nil=>
  intro vs w;rw[qk_] at w;cases w;exact .nil
 |cons n ns ih=>
  intro vs w;rw[qjO] at w;cases w with
  |cons a b=>
   cases a;exact .cons _ _ (ih _ b)
theorem Rf{l:OpenLaw}{n:Nat}(hn:l.most=some n){P:Params}{h:Heap}{args:List WData}{vals:QAE}
  (hpre:l.row.toRowW.claim.pre args=true) (hwl:WellAll P h vals args) :
  ∃a vs ns,vals=[Value.ref a]/\args=[WData.list (ns.map WData.int)]/\h.get? a=some {cls:=.type "list",data:=.seq vs.toArray}/\IntsAre vs ns/\ns.length<=n:=by
 have hsh:WShape.hasAll [] args [.list .int]=true:=(pre_splitW hpre).1;have hc:l.pre.holds [] {args:=args}=true:=(pre_splitW hpre).2;obtain⟨d,r,rfl,h1,h2⟩:=hasAllW_cons hsh;obtain rfl:=hasAllW_nil h2;obtain⟨xs,rfl,h3⟩:=hasW_list h1;obtain⟨ns,rfl⟩:=items_int h3;have hlen:ns.length<=n:=by
  unfold OpenLaw.pre at hc;have h4:(WTm.not (.lt (.lit (.int (n:Int))) (.len (.arg 0)))).holds [] {args:=[.list (ns.map .int)]}=true:=by
   have h4:=(holds_andW hc).1;rw[hn] at h4;exact h4
  have h5:=condW_of h4 (w_not (w_lt w_lit (w_len_list (w_arg rfl))));rw[qja] at h5;refine Nat.le_of_not_lt λq=>?_;have q':(n:Int)<((ns.length:Nat):Int):=by omega
  first
   |(rw[qj2 q'] at h5;exact absurd h5 (by decide))
   |(simp at h5;omega)
 cases hwl with
 |cons w1 w2=>
  cases w2;cases w1 with
  |list ho hall=>exact⟨_,_,ns,rfl,rfl,ho,zp ns _ hall,hlen⟩
theorem Rg(l:OpenLaw)(args:List WData):l.row.toRowW.claim.post args (.bool true) args=true:=
 postW_of (r:=l.row.toRowW) (X:=(true == true))
  (show WShape.has [] (.bool true) .bool=true by first|rfl|decide|simp[WShape.has,WShape.arms,WShape.armsAll])
  (show(WTm.eq .res (.lit (.bool true))).value [] {args:=args,res:=some (.bool true),after:=args}=some (.bool (true == true)) from w_eq_bool (w_res rfl) w_lit) rfl
theorem Jg{l:OpenLaw}{n:Nat}{q:Program}{loose:QAH}{XP:(Str->Option Value)->Heap->Prop}{YP:World->Heap->Prop}{d:DefRec}
  (hn:l.most=some n) (hdf:d.params.defaults=[])
  (call:∀(w:World)(s₀ s₁:Shared)(mg mb:Str->Option Value)(fa:Addr)(o:Obj)(pm cd doc:Value)(a:Addr)(vs:QAE)(ns:List Int),
   Ground q loose [] XP w s₀ mg mb s₁.heap->YP w s₁.heap->
   s₁.heap.get? fa=some o->o.data = .func (docDef d.name d.params d.body d.scope pm cd doc)->s₁.heap.CodeRec cd d.name->mg d.name=some (.ref fa)->
   s₁.heap.get? a=some {cls:=.type "list",data:=.seq vs.toArray}->IntsAre vs ns->ns.length<=n->s₁.gens = #[]->
   codeAny (model l.prog w) callerA (.call (.ref fa) ⟨[.ref a],[]⟩) (λr s'=>r = .ok (.ret (.bool true))/\OldK s₁.heap s'.heap/\s'.os=s₁.os/\AllBare s'.gens) s₁) :
  WalkO q loose XP YP l.row.toRowW d [] (λf vs=>PySem.call f vs):=by
 intro w s₀ s₁ mg mb G Y fa o pm cd doc dV kV ho hd hcd hD hmg hg args vals as hpre hlay hrd hwl hlo;obtain rfl:dV = .none:=Dflts.none hD hdf;obtain rfl:kV = .none:=Dflts.noKw hD;obtain⟨a,vs,ns,rfl,rfl,hobj,hints,hlen⟩:=Rf hn hpre hwl;refine enter_call (qkt (call w s₀ s₁ mg mb fa o pm cd doc a vs ns G Y ho (fd_plain hd) hcd hmg hobj hints hlen hg) λr s' hq=>?_);obtain⟨rfl,h2,h3,h4⟩:=hq;exact⟨.inl ⟨.bool true,.bool true,[],rfl,λ_=>rfl,.bool true,Rg l _,λ_=>⟨List.Pairwise.nil,λ_ hm=>(nomatch hm)⟩⟩,h2,h3,h4⟩
end Att
namespace L2
open PySem PySem.Spec PyProof.Rows
theorem xu:∀{vs:QAE}{ns:List Int},IntsAre vs ns->Vals (ns.map V.int) vs
 |_,_,.nil=>.nil
 |_,_,.cons n t h=>.cons ⟨t,rfl⟩ (xu h)
def inClass(s:Stmt)(j:Nat):Stmt:=match s with
 |.ClassDef _ _ _ body _ _ _ _ _ _ _=>body.getD j (.Pass ⟨0,0,0,0⟩)
 |_=>.Pass ⟨0,0,0,0⟩
def m8(s:Stmt):Arguments:=match s with
 |.FunctionDef _ a _ _ _ _ _ _ _ _=>a
 |_=>{posonlyargs:=[],args:=[],vararg:=none,kwonlyargs:=[],kw_defaults:=[],kwarg:=none,defaults:=[]}
def gw(s:Stmt):List Stmt:=match s with
 |.FunctionDef _ _ b _ _ _ _ _ _ _=>b
 |_=>[]
def aB(s:Stmt):Scope:=match s with
 |.FunctionDef _ _ _ _ _ _ sc _ _ _=>sc
 |_=>{kind:=.function,names:=[],isGenerator:=false,isCoroutine:=false}
abbrev iU:U_:=λ_ _ _ _ _ _=>False
abbrev E0:XK:=λ_ _ _=>False
theorem bh{X:Cx}:Passes iU X E0:=λ_ _ _ _ _ _ _ h=>h.elim
structure dz(K:W.Frag)(x qual:Str)(st:Stmt)(f:Addr)(fd:FuncData):Prop where
 ex:∃(oc:Value)(od:Option Addr)(kV doc pm:Value)(an:Option Addr)(cdv ct:Value)(osl:Array (QAG)),
  fd=W.fnOf x qual (m8 st) (gw st) (aB st) .none kV doc pm an cdv ct/\K.lookup f=some ⟨oc,od,.func fd,osl⟩/\W.codeIn K cdv qual=true
 kp:W.keepIn K (.ref f)=true
section
variable {P:Program}{w:World}{K:W.Frag}{mg:Str->Option Value}{base:Heap}
theorem dz.ok{x qual:Str}{st:Stmt}{f:Addr}{fd:FuncData}{N ps:QAH}{k:Nat}{sp:Sp}(F:dz K x qual st f fd)(S:aO N ps (aB st))(len:∀vs H Q E,sp vs H Q E->vs.length=ps.length)
  (hbody:∀(cdv:Value)(A:Around)(outer:List Env)(s:Shared)(H:Hp)(vs:List V)(Q:VK)(E:XK),fJ k (A.deeper (envOfC qual (aB st) s.heap.objs.size f cdv))->sp vs H Q E->
   ∃t,I_ (au iU P w K mg base N qual (aB st) f cdv A outer s H E).Uh (gw st) t/\t {nx:=λ_ H'=>Q .non H',rt:=Q} (start N vs) H):bT P w K mg base iU (k+1) f fd ps sp:=by
 obtain⟨oc,od,kV,doc,pm,an,cdv,ct,osl,rfl,lk,hcd⟩:=F.ex;refine Vf lk hcd S len λA outer s H vs Q E hr hsp=>?_;obtain⟨t,h,q⟩:=hbody cdv A outer s H vs Q E hr hsp;exact⟨t,h.Uh,q⟩
theorem dz.binds{x qual:Str}{st:Stmt}{f:Addr}{fd:FuncData}{ps:QAH}(F:dz K x qual st f fd)
  (h:∀(kV doc pm:Value)(an:Option Addr)(cdv ct:Value)(us:QAE),us.length=ps.length->bindArgs (W.fnOf x qual (m8 st) (gw st) (aB st) .none kV doc pm an cdv ct) ⟨us,[]⟩=pure (ps.zip us)):Binds K fd ps []:=by
 obtain⟨oc,od,kV,doc,pm,an,cdv,ct,osl,rfl,lk,hcd⟩:=F.ex;exact .all (h kV doc pm an cdv ct)
theorem Mh{x qual:Str}{st:Stmt}{f:Addr}{oc:Value}{od an:Option Addr}{osl:Array (QAG)}{kV doc pm cdv ct:Value}(l:K.lookup f=some ⟨oc,od,.func (W.fnOf x qual (m8 st) (gw st) (aB st) .none kV doc pm an cdv ct),osl⟩)
  (c:W.codeIn K cdv qual=true) (k:W.keepIn K (.ref f)=true):dz K x qual st f (W.fnOf x qual (m8 st) (gw st) (aB st) .none kV doc pm an cdv ct):=⟨⟨oc,od,kV,doc,pm,an,cdv,ct,osl,rfl,l,c⟩,k⟩
end
theorem Ei{A:Around}{k:Nat}(hr:fJ k A):A.units+1<cLine:=Nat.lt_of_le_of_lt (Nat.add_le_add_left (by decide:1<=64) _) hr.units
section
variable {X:Cx}
theorem pv(i:Nat){x:Str}{pos:Pos}(hN:X.N[i]? = some x:=by rfl)(hv:Vis X.env.scope x:=by first|exact Or.inl rfl|exact Or.inr (Or.inl rfl)|exact Or.inr (Or.inr rfl)) (hd:(x == ("__debug__" : Str))=false:=by decide)
  (hcd:(x == ("__classdict__" : Str))=false:=by decide):PE X (.Name x pos) (Yz i):=Ur hN hv hd hcd
end
def Same(H H':Hp):Prop:=∀b o,H b=some o->H' b=some o
theorem Same.refl(H:Hp):Same H H:=λ_ _ h=>h
theorem Same.trans{H H1 H2:Hp}(a:Same H H1)(b:Same H1 H2):Same H H2:=λc o h=>b c o (a c o h)
theorem Same.free{H H':Hp}(e:Same H H'){l:Addr}(h:H' l=Option.none):H l=Option.none:=by
 cases q:H l with
 |none=>rfl
 |some o=>
  rw[e l o q] at h;cases h
def oK(env:Env)(cs:List (Str×Addr))(p:Str×NameKind):List (Str×Addr):=if p.2 == .free then (p.1,(env.cells.lookup p.1).getD 0)::cs else cs
def Jh(env:Env)(names:List (Str×NameKind)):List (Str×Addr):=names.foldl (oK env) []
theorem yO{α β:Type}(f:α->β->Sem (ForInStep β))(g:β->α->β):∀(l:List α)(b:β),(∀x∈l,∀b,f x b=pure (.yield (g b x)))->forIn l b f=pure (l.foldl g b)
 |[],_,_=>rfl
 |x::l,b,h=>by
  rw[List.forIn_cons,h x qjp,pure_bind];exact yO f g l (g b x) λy hy=>h y (qjf _ hy)
theorem qX{sc:Scope}{env:Env}(h:∀x,(x,NameKind.free)∈sc.names->∃c,env.cells.lookup x=some c):closureFor sc env=pure (Jh env sc.names):=by
 simp only[closureFor];rw[yO _ (oK env) sc.names [] (λp hp cs=>by
  obtain⟨n,k⟩:=p;cases k with
  |free=>
   obtain⟨c,hc⟩:=h n hp;simp only[oK,cellOf,hc,beq_self_eq_true,qlj,Option.getD_some,pure_bind]
  |_=>simp only[oK];rfl)]
 rfl
theorem vX{env:Env}:∀(names:List (Str×NameKind))(acc:List (Str×Addr))(x:Str)(c:Addr),(∀x,(x,NameKind.free)∈names->∃c,env.cells.lookup x=some c)->(∀x c,(x,c)∈acc->env.cells.lookup x=some c)->
  (x,c)∈names.foldl (oK env) acc->env.cells.lookup x=some c
 |[],_,x,c,_,h,m=>h x c m
 |(n,k)::r,acc,x,c,hf,h,m=>by
  refine vX r (oK env acc (n,k)) x c (λy hy=>hf y (qjf _ hy)) (λy d hy=>?_) m;unfold oK at hy;split at hy
  ·rename_i hk;have hk':k = .free:=by simpa using hk
   subst hk';obtain⟨e,he⟩:=hf n qjp
   rcases qjm.mp hy with z|z
   ·cases z;show env.cells.lookup n=some _;rw[he];rfl
   ·exact h y d z
  ·exact h y d hy
theorem xG{env:Env}{x:Str}:∀(names:List (Str×NameKind))(acc:List (Str×Addr)),((x,NameKind.free)∈names\/(acc.lookup x).isSome=true)->((names.foldl (oK env) acc).lookup x).isSome=true
 |[],_,h=>h.elim (λz=>nomatch z) id
 |(n,k)::r,acc,h=>by
  refine xG r (oK env acc (n,k)) ?_
  by_cases hm:(x,NameKind.free)∈r
  ·exact .inl hm
  ·refine .inr ?_;unfold oK
   rcases h with h|h
   ·rcases qjm.mp h with z|z
    ·cases z;simp[qky]
    ·exact absurd z hm
   ·split
    ·simp only[qky];cases x == n <;> simp[h]
    ·exact h
def zX(env:Env)(sc:Scope)(C:Addr):List (Str×Addr):=cellsFrom (C+1) sc.names (Jh env sc.names)
theorem gO{x:Str}:∀(names:List (Str×NameKind))(n:Nat)(acc:List (Str×Addr)),(x,NameKind.cell)∈names\/(acc.lookup x).isSome=true->((cellsFrom n names acc).lookup x).isSome=true
 |[],_,_,h=>h.elim (λz=>nomatch z) id
 |(y,k)::r,n,acc,h=>by
  unfold cellsFrom;split
  ·refine gO r (n+1) ((y,n)::acc) ?_
   by_cases hm:(x,NameKind.cell)∈r
   ·exact .inl hm
   ·refine .inr ?_
    rcases h with h|h
    ·rcases qjm.mp h with z|z
     ·cases z;simp[qky]
     ·exact absurd z hm
    ·simp only[qky];cases x == y <;> simp[h]
  ·rename_i hk;refine gO r n acc ?_
   rcases h with h|h
   ·rcases qjm.mp h with z|z
    ·cases z;exact absurd rfl hk
    ·exact .inl z
   ·exact .inr h
theorem Mi:∀(names:List (Str×NameKind))(h:Heap)(acc:List (Str×Addr))(x:Str)(c:Addr),(x,c)∈cellsFrom h.objs.size names acc->(x,c)∈acc\/(h.objs.size<=c/\(pushCells h names).IsCell c none)
 |[],_,_,_,_,m=>.inl m
 |(n,k)::r,h,acc,x,c,m=>by
  unfold cellsFrom at m;unfold pushCells;split at m
  ·rename_i hk;rw[if_pos hk];have m':(x,c)∈cellsFrom (h.push {cls:=.type "cell",data:=.cell none}).objs.size r ((n,h.objs.size)::acc):=by rw[qjN];exact m
   rcases Mi r (h.push {cls:=.type "cell",data:=.cell none}) _ x c m' with z|⟨z1,z2⟩
   ·rcases qjm.mp z with e|e
    ·cases e;exact .inr ⟨qjb _,⟨_,pushCells_keeps _ _ _ _ (qjg _ rfl),rfl⟩⟩
    ·exact .inl e
   ·rw[qjN] at z1;exact .inr ⟨by omega,z2⟩
  ·rename_i hk;rw[if_neg hk];exact Mi r h acc x c m
theorem Mj{n0:Nat}{x:Str}:∀(names:List (Str×NameKind))(n:Nat)(acc:List (Str×Addr))(c:Addr),((x,NameKind.cell)∈names\/∀d,acc.lookup x=some d->n0<=d)->n0<=n->(cellsFrom n names acc).lookup x=some c->n0<=c
 |[],_,_,c,h,_,e=>h.elim (λz=>nomatch z) λz=>z c e
 |(y,k)::r,n,acc,c,h,hn,e=>by
  unfold cellsFrom at e;split at e
  ·refine Mj r (n+1) ((y,n)::acc) c ?_ (by omega) e
   by_cases hm:(x,NameKind.cell)∈r
   ·exact .inl hm
   ·refine .inr λd hd=>?_
    by_cases hxy:x=y
    ·subst hxy;have hnd:n=d:=by simpa [qky] using hd
     rw[<- hnd];exact hn
    ·have hb:(x == y)=false:=by simpa using hxy
     simp only[qky,hb] at hd
     rcases h with h|h
     ·rcases qjm.mp h with z|z
      ·cases z;exact absurd rfl hxy
      ·exact absurd z hm
     ·exact h d hd
  ·rename_i hk;refine Mj r n acc c ?_ hn e
   rcases h with h|h
   ·rcases qjm.mp h with z|z
    ·cases z;exact absurd rfl hk
    ·exact .inl z
   ·exact .inr h
theorem Ml:∀(names:List (Str×NameKind))(n:Nat)(acc:List (Str×Addr)),(∀y d,(y,d)∈acc->d<n)->(∀y z d,(y,d)∈acc->(z,d)∈acc->y=z)->
  ∀y z d,(y,d)∈cellsFrom n names acc->(z,d)∈cellsFrom n names acc->y=z
 |[],_,_,_,h=>h
 |(x,k)::r,n,acc,hl,h=>by
  unfold cellsFrom;split
  ·refine Ml r (n+1) ((x,n)::acc) (λy d hm=>?_) λy z d h1 h2=>?_
   ·rcases qjm.mp hm with e|e
    ·cases e;exact qkK _
    ·exact qj7 (hl y d e)
   ·rcases qjm.mp h1 with e1|e1 <;> rcases qjm.mp h2 with e2|e2
    ·cases e1;cases e2;rfl
    ·cases e1;exact absurd (hl z n e2) (qki _)
    ·cases e2;exact absurd (hl y n e1) (qki _)
    ·exact h y z d e1 e2
  ·exact Ml r n acc hl h
abbrev Y0:QAB:=λ_ _=>False
theorem Ji{prog:Program}{w:World}{A:Around}{R:Result->Shared->Prop}{s:Shared}{elt target iter:Expr}{ifs:List Expr}{scope:Scope}{pos:Pos}{it acc:Value}{env:Env}(I:Nat->Shared->Prop)
  (turn:∀n s,I n s->wpAny (model prog w) A (pyNext it) (λr s₁=>match r with
   |none=>R (.ok .next) s₁
   |some v=>wpAny (model prog w) A (letOwnedTupleGo target it v) (λ_ s₂=>wpAny (model prog w) A (assign target env v) (λ_ s₃=>
     wpAny (model prog w) A (forIn ifs true λc r=>if r=true then do let ok <- isTrue c env (eval c env);pure (ForInStep.yield ok) else pure (ForInStep.yield r)) (λok s₄=>
      if ok=true then wpAny (model prog w) A (eval elt env) (λx s₅=>
       wpAny (model prog w) A (call (.builtin "list.append") [acc,x]) (λ_ s₆=>∃m,m<n/\I m s₆) Y0 s₅) Y0 s₄
      else ∃m,m<n/\I m s₄) Y0 s₃) Y0 s₂) Y0 s₁) Y0 s)
  (n:Nat) (h:I n s):codeAny (model prog w) A (.compLoop (.ListComp elt [⟨target,iter,ifs,0⟩] scope pos) 0 it acc env) R s:=by
 refine codeAny_loop rfl I (λn s hI=>?_) n h;show wpAny _ A ((compTurn (.ListComp elt [⟨target,iter,ifs,0⟩] scope pos) 0 it acc env).onRaise (λx=>do noteFrame x env;theTreesLotGoes x)) _ _ s
 refine wpAny_noted ?_;rw[compTurn_list];refine qi4 (wpAny_standAt (qi4 (qkd (turn n s hI) (λr s₁ h₁=>?_) λ_ _ h'=>h'.elim)));cases r with
 |none=>exact qi_ h₁
 |some v=>
  refine qi4 (qkd h₁ (λ_ s₂ h₂=>?_) λ_ _ h'=>h'.elim);refine qi4 (qkd h₂ (λ_ s₃ h₃=>qi4 (qkd h₃ (λok s₄ h₄=>?_) λ_ _ h'=>h'.elim)) λ_ _ h'=>h'.elim);cases ok with
  |false=>exact qi_ ⟨rfl,h₄⟩
  |true=>
   exact qi4 (qi4 (qkd h₄ (λx s₅ h₅=>qi4 (qkd h₅ (λ_ s₆ h₆=>qi_ (qi_ ⟨rfl,h₆⟩)) λ_ _ h'=>h'.elim)) λ_ _ h'=>h'.elim))
def cj(X:Cx)(sc:Scope)(N:QAH)(C:Addr)(s:Shared)(H:Hp)(fp:List Addr)(pn:QAC):Cx:=
 {X with env:=compEnvC sc (zX X.env sc C) C X.env,N:=N,s₀:=s,H₀:=H,outer:=X.stack,ex:=fp,fn:=λx=>sc.names.any λp=>p.1 == x && p.2 == .cell,pn:=pn,xe:=Y0}
theorem lV{sc:Scope}{env:Env}(x:Str):(relabel sc env).names.lookup x=(sc.names.lookup x).map λk=>if (k == NameKind.free && env.scope.kind == .function && env.kindOf x == some .cell)=true then NameKind.cell else k:=by
 unfold relabel;show List.lookup x (sc.names.map _)=_
 induction sc.names with
 |nil=>rfl
 |cons p r ih=>
  obtain⟨n,k⟩:=p;rw[qjO];have e1:(if (k == NameKind.free && env.scope.kind == .function && env.kindOf n == some .cell)=true then (n,NameKind.cell) else (n,k))=(n,if (k == NameKind.free && env.scope.kind == .function && env.kindOf n == some .cell)=true then NameKind.cell else k):=by split <;> rfl
  show List.lookup x ((if (k == NameKind.free && env.scope.kind == .function && env.kindOf n == some .cell)=true then (n,NameKind.cell) else (n,k))::_)=_
  rw[e1]
  by_cases hx:x=n
  ·subst hx;simp only[qky,beq_self_eq_true,Option.map_some]
  ·have hb:(x == n)=false:=by simpa using hx
   simp only[qky,hb];exact ih
structure aN(ps sc:Scope)(pN own:QAH)(caps:List Nat)(N:QAH):Prop where
 kind:sc.kind = .function
 uniq:∀p∈sc.names,sc.names.lookup p.1=some p.2
 nd:N.Nodup
 names:N=own++caps.map λj=>pN.getD j ""
 free:∀p∈sc.names,p.2 = .free->ps.names.lookup p.1=some .cell\/ps.names.lookup p.1=some .free
 qdI:∀j∈caps,j<pN.length/\sc.names.lookup (pN.getD j "")=some .free
def stC(own:QAH)(caps:List Nat)(σ:St):St:=own.map (λ_=>none)++caps.map λj=>(σ[j]?).getD none
section
variable {X:Cx}{p_:QAC}{σ:St}{H:Hp}{s:Shared}{ps sc:Scope}{own pN:QAH}{caps:List Nat}{N:QAH}{fp:List Addr}
theorem aN.cells(S:aN ps sc pN own caps N)(hps:X.env.scope=ps)(ok:X.Ok):∀x,(x,NameKind.free)∈sc.names->∃c,X.env.cells.lookup x=some c:=λx hx=>by
 refine ok.has x ?_;show X.env.scope.names.lookup x=_\/X.env.scope.names.lookup x=_;rw[hps];exact S.free (x,.free) hx rfl
theorem zY(hfr:∀x,(x,NameKind.free)∈sc.names->∃c,X.env.cells.lookup x=some c){C:Addr}{x:Str}{c:Addr}{h:Heap}(hC:C+1=h.objs.size)(m:(x,c)∈zX X.env sc C):X.env.cells.lookup x=some c\/(h.objs.size<=c/\(pushCells h sc.names).IsCell c none):=by
 unfold zX at m;rw[hC] at m
 rcases Mi sc.names h _ x c m with z|z
 ·exact .inl (vX sc.names [] x c hfr (λ_ _ z=>nomatch z) z)
 ·exact .inr z
theorem Pk(I:Inv X p_ σ H s)(hps:X.env.scope=ps)(S:aN ps sc pN own caps N)(hf:∀b∈fp,uo X p_ H b)(ho:∀b∈fp,∃o,s.heap.get? b=some o/\∀v,o.data≠.cell v) :
  (cj X sc N s.heap.objs.size s H fp (X.pn++p_)).Ok where
 mod:=I.ok.mod
 kind:=S.kind
 glob:=I.ok.glob
 blt:=I.ok.blt
 above:=qjb _
 inj:=λx y c h1 h2=>by
  have cl:∀y d,(y,d)∈Jh X.env sc.names->X.env.cells.lookup y=some d:=λy d m=>vX sc.names [] y d (S.cells hps I.ok) (λ_ _ z=>nomatch z) m;refine Ml sc.names (s.heap.objs.size+1) (Jh X.env sc.names) (λy d m=>?_) (λy z d m1 m2=>I.ok.inj y z d (cl y d m1) (cl z d m2)) x y c (qjL h1) (qjL h2);obtain⟨v,q⟩:=I.cell y d (cl y d m);exact qj7 q.lt
 has:=λx hx=>by
  have hx1:(relabel sc X.env).names.lookup x=some .cell\/(relabel sc X.env).names.lookup x=some .free:=hx;have hx':(x,NameKind.cell)∈sc.names\/(x,NameKind.free)∈sc.names:=by
   rw[lV] at hx1;cases e:sc.names.lookup x with
   |none=>rw[e] at hx1;simp at hx1
   |some k=>
    rw[e] at hx1;have hm:=qjL e;cases k with
    |free=>exact .inr hm
    |cell=>exact .inl hm
    |_=>simp at hx1
  have q:((cellsFrom (s.heap.objs.size+1) sc.names (Jh X.env sc.names)).lookup x).isSome=true:=by
   rcases hx' with z|z
   ·exact gO sc.names _ _ (.inl z)
   ·exact gO sc.names _ _ (.inr (xG sc.names [] (.inl z)))
  exact qkM.mp q
 cab:=λx c hx h=>by
  have hx':(x,NameKind.cell)∈sc.names:=by
   have hx:(sc.names.any λp=>p.1 == x && p.2 == .cell)=true:=hx;obtain⟨⟨a,b⟩,hm,he⟩:=qkz.mp hx;simp at he;obtain⟨rfl,rfl⟩:=he;exact hm
  exact Mj (n0:=s.heap.objs.size) sc.names (s.heap.objs.size+1) (Jh X.env sc.names) c (.inl hx') (qkP _) h
 hd:=I.ok.hd
 frames:=I.ok.frames
 stk:=.inl rfl
 exf:=λb hb=>by
  obtain⟨o,e,_⟩:=ho b hb;refine⟨qjn (qjd e),λx c h z=>?_⟩;subst z
  rcases zY (S.cells hps I.ok) (h:=s.heap.push {cls:=.type "dict",data:=.dict #[]}) (by rw[qjN]) (qjL h) with q|⟨q,_⟩
  ·exact(hf c hb).2.2.2.2.1 x c q rfl
  ·rw[qjN] at q;exact absurd (qjl (qjl (qjd e) (qkP _)) q) (qki _)
 bs:=I.bs
 Uq:=qjx I.ok.Uq I.sz
 QJ:=λb o e hb=>by
  rcases(hf b hb).2.2.2.1 with z|z
  ·exact I.ok.QJ b o e z
  ·exact absurd (qjl (qjd e) (qjx I.ok.Uq z)) (qki _)
 QK:=λb hb z=>by
  rcases qjm.mp (I.zR b z) with q|q
  ·exact(hf b hb).2.1 q
  ·exact(hf b hb).2.2.1 q
 uR:=I.stack
 Yy:=I.FZ
def blockAt(sc:Scope)(s:Shared):Shared:={s with heap:=pushCells (s.heap.push {cls:=.type "dict",data:=.dict #[]}) sc.names}
theorem Vn(I:Inv X p_ σ H s)(hps:X.env.scope=ps)(hpN:X.N=pN)(S:aN ps sc pN own caps N)(hf:∀b∈fp,uo X p_ H b)(ho:∀b∈fp,∃o,s.heap.get? b=some o/\∀v,o.data≠.cell v) :
  Inv (cj X sc N s.heap.objs.size s H fp (X.pn++p_)) [] (stC own caps σ) H (blockAt sc s):=by
 have hk:∀b o,s.heap.get? b=some o->(blockAt sc s).heap.get? b=some o:=λb o e=>pushCells_keeps _ _ b o (qi6 _ e);have hns:(blockAt sc s).heap.Ns s.heap.objs.size λ_=>none:=(Heap.Ns.new s.heap (.type "dict")).keeps (pushCells_keeps _ _);have hcl:∀x c,(zX X.env sc s.heap.objs.size).lookup x=some c->X.env.cells.lookup x=some c\/(s.heap.objs.size+1<=c/\(blockAt sc s).heap.IsCell c none):=λx c e=>by
  rcases zY (S.cells hps I.ok) (h:=s.heap.push {cls:=.type "dict",data:=.dict #[]}) (by rw[qjN]) (qjL e) with q|⟨q,r⟩
  ·exact .inl q
  ·rw[qjN] at q;exact .inr ⟨q,r⟩
 refine⟨Pk I hps S hf ho,rfl,I.bare,Un.kept hk,⟨_,hns,λi x v e1 e2 e3=>?_⟩,λx c e=>?_,I.hok.fresh (qjb _),λx c e=>?_,λp hp=>?_,I.hok.kept hk,?_⟩
 ·have e1':N[i]? = some x:=e1;rw[S.names] at e1';unfold stC at e2
  by_cases hi:i<own.length
  ·rw[qjr (by simpa using hi),qje] at e2;cases q:own[i]? with
   |none=>rw[q] at e2;cases e2
   |some y=>rw[q] at e2;cases e2
  ·rw[qjw (by omega),qje] at e1';rw[qjw (by simp;omega),qje] at e2;simp only[qja] at e2;cases q:caps[i - own.length]? with
   |none=>rw[q] at e2;cases e2
   |some j=>
    rw[q] at e1' e2;have qdJ:pN.getD j "" = x:=qjI e1';have e2':(σ[j]?).getD none=some v:=qjI e2;have hj:σ[j]? = some (some v):=by
     cases z:σ[j]? with
     |none=>rw[z] at e2';cases e2'
     |some o=>rw[z] at e2';exact qjB some e2'
    obtain⟨hlt,hfree⟩:=S.qdI j (qi9 q);rw[qdJ] at hfree;have hNj:X.N[j]? = some x:=by
     rw[hpN,<- qdJ];simp[List.getD,qjh hlt]
    have qdK:=S.free (x,.free) (qjL hfree) rfl;have vis:Vis X.env.scope x:=by rw[hps];exact .inr qdK
    obtain⟨m,hn,hl⟩:=I.loc;obtain⟨u,r,l⟩:=hl j x v hNj hj vis;refine⟨u,r,.inr ?_⟩;have hkind:(relabel sc X.env).names.lookup x=some .cell\/(relabel sc X.env).names.lookup x=some .free:=by
     rw[lV,hfree];show some (if _ then _ else _)=_\/some (if _ then _ else _)=_
     split
     ·exact .inl rfl
     ·exact .inr rfl
    refine⟨hkind,?_⟩;have hcell:X.env.kindOf x=some .cell\/X.env.kindOf x=some .free:=by
     show X.env.scope.names.lookup x=_\/X.env.scope.names.lookup x=_;rw[hps];exact qdK
    rcases l with⟨hloc,_⟩|⟨_,c,hc,hcv⟩
    ·rcases hcell with z|z <;> (rw[hloc] at z;cases z)
    ·have q2:((zX X.env sc s.heap.objs.size).lookup x).isSome=true:=gO sc.names _ _ (.inr (xG sc.names [] (.inl (qjL hfree))));obtain⟨d,hd⟩:=qkM.mp q2;refine⟨d,hd,?_⟩
     rcases hcl x d hd with z|⟨z,_⟩
     ·rw[hc] at z;cases z;exact hcv.keeps hk
     ·
      exfalso;have hnc:(x,NameKind.cell)∉sc.names:=λhm=>by
       have:=S.uniq _ hm;rw[hfree] at this;cases this
      have hmem:=qjL hd;have qbO:∀(names:List (Str×NameKind))(n:Nat)(acc:List (Str×Addr)),(x,NameKind.cell)∉names->(cellsFrom n names acc).lookup x=acc.lookup x:=by
       intro names
       induction names with
       |nil=>intro _ _ _;rfl
       |cons p r ih=>
        intro n acc hm;obtain⟨y,k⟩:=p;unfold cellsFrom;split
        ·rename_i hkk;have hkk':k = .cell:=by simpa using hkk
         subst hkk';rw[ih _ _ λz=>hm (qjf _ z)];have hxy:(x == y)=false:=by
          cases hb:x == y with
          |false=>rfl
          |true=>exact absurd (by rw[beq_iff_eq.mp hb];exact qjp) hm
         simp only[qky,hxy]
        ·exact ih _ _ λz=>hm (qjf _ z)
      have e5:(Jh X.env sc.names).lookup x=some d:=(qbO sc.names _ _ hnc).symm.trans hd;have e6:=vX sc.names [] x d (S.cells hps I.ok) (λ_ _ z=>nomatch z) (qjL e5);rw[hc] at e6;cases e6;exact absurd (qjl (qjl hcv.lt (qkP _)) z) (qki _)
 ·rcases hcl x c e with z|⟨_,z⟩
  ·obtain⟨v,q⟩:=I.cell x c z;exact⟨v,q.keeps hk⟩
  ·exact⟨_,z⟩
 ·rcases hcl x c e with z|⟨z,_⟩
  ·exact I.m6 x c z
  ·exact I.hok.fresh (by omega)
 ·rw[qjD] at hp;obtain⟨e,n,ne,nf,d⟩:=I.pin p hp;refine⟨hk _ _ e,n,qjn (qjd e),λz=>?_,d⟩
  rcases qjm.mp (I.zR p.1 z) with q|q
  ·exact ne q
  ·exact nf q
 ·show(stC own caps σ).length=N.length;rw[S.names];simp[stC]
theorem Rh(I:Inv X p_ σ H s)(hf:∀b∈fp,uo X p_ H b){C:Addr}{pn:QAC}{O1:QAC}{σ':St}{H':Hp}{s':Shared}(I':Inv (cj X sc N C s H fp pn) O1 σ' H' s'):Inv X p_ σ H' s':=
 I.call' (ch:=fp) I'.os I'.base I'.hok I'.bare λb hb=>⟨(hf b hb).2.2.2.1,(hf b hb).2.1,(hf b hb).2.2.2.2.1,(hf b hb).2.2.2.2.2⟩
end
def PTs(X:Cx)(ifs:List Expr)(t:TT):Prop:=
 ∀(p_:QAC)(s:Shared)(σ:St)(H:Hp)(Q:Bool->Hp->Prop),Inv X p_ σ H s->t σ H Q->
  wpAny (model X.prog X.w) X.A (forIn ifs true λc r=>if r=true then do let ok <- isTrue c X.env (eval c X.env);pure (ForInStep.yield ok) else pure (ForInStep.yield r)) (TP X p_ σ Q) X.xe s
def qdL:TT:=λ_ H Q=>Q true H
theorem dM{X:Cx}:PTs X [] qdL:=λ_ _ _ H _ I h=>wpAny_tests_nil ⟨H,I,h⟩
theorem gA{X:Cx}{c:Expr}{t:TT}(h:PT X c t):PTs X [c] t:=λp_ s σ H Q I hw=>wpAny_tests_one (h p_ s σ H Q I hw)
def m9(own:QAH)(caps:List Nat)(J:It)(g:TG)(tt:TT)(te:TE)(D:Addr)(σ:St)(H:Hp)(Q:Hp->Prop):Prop:=
 ∃jq:Nat->Nat->St->Hp->Prop,(∃m,jq 0 m (stC own caps σ) H)/\∀i m σ' H',jq i m σ' H'->
  (J.stop i H'/\Q H')\/(J.go i H'/\∃N:St->Hp->Prop,(∀σ2 H2,N σ2 H2->∃m',m'<m/\jq (i+1) m' σ2 H2)/\∀x H2,J.yld i H' x H2->g x σ' H2 λσ2 H3=>tt σ2 H3 λb H4=>
   if b=true then te σ2 H4 λy H5=>∃ys,H5 D=some (.lst ys)/\ys.length<sizeLine/\N σ2 (upd H5 D (.lst (ys++[y]))) else N σ2 H4)
def Pn(own:QAH)(caps:List Nat)(wi:TI)(g:TG)(tt:TT)(te:TE):TE:=λσ H Q=>wi σ H λJ H1=>∀D,H1 D=none->m9 own caps J g tt te D σ (upd H1 D (.lst [])) (Q (.ref D))
theorem Gp{M:Model}{A:Around}{E:QAB}{s:Shared}{sc:Scope}{g:Addr}{cl:List (Str×Addr)}{qual:Str}{env:Env}{Q:Env->Shared->Prop}
  (h:Q (newEnv sc s.heap.objs.size g (cellsFrom (s.heap.objs.size+1) sc.names cl) qual none .none (some env) builtinsNs) (blockAt sc s)):wpAny M A (newFunctionEnv sc g cl [] qual none .none (some env)) Q E s:=by
 simp only[newFunctionEnv,Option.isSome_some,qlj];refine qi4 (wpAny_alloc ?_);refine qi4 (wpAny_layCells _ (λname kind cells=>by cases hkc:kind == NameKind.cell <;> simp[hkc]) _ _ _ _ ?_);rw[show({s with heap:=s.heap.push {cls:=.type "dict",data:=.dict #[]}}:Shared).heap.objs.size=s.heap.objs.size+1 from qjN ..];rw[List.forIn_nil];exact qi4 (qi_ (qi_ h))
def Jj(X:Cx)(p_:QAC)(σ:St)(Q:Hp->Prop)(C:Addr)(r:Result)(s':Shared):Prop:=
 ∃H',r = .ok .next/\Inv X p_ σ H' s'/\(∃m,s'.heap.Ns C m)/\uo X p_ H' C/\Q H'
section
variable {X:Cx}{ps sc:Scope}{own pN:QAH}{caps:List Nat}{N:QAH}
theorem zZ{p_:QAC}{σ:St}{H:Hp}{s:Shared}{E:QAB}{elt tg iter:Expr}{ifs:List Expr}{pos:Pos}{J:It}{fp:List Addr}{it D:Addr}{tn:Nat->Heap->Prop}{g:TG}{tt:TT}{te:TE}{Q:Hp->Prop}
  (I:Inv X p_ σ H s) (hps:X.env.scope=ps) (hpN:X.N=pN) (S:aN ps sc pN own caps N) (T:Turn X.prog X.w X.K tg J fp it tn) (st:tn 0 s.heap) (hf:∀b∈fp,uo X p_ H b) (hc:X.calm=true)
  (hg:∀C s H fp pn,PG (cj X sc N C s H fp pn) tg g) (ht:∀C s H fp pn,PTs (cj X sc N C s H fp pn) ifs tt) (he:∀C s H fp pn,PE (cj X sc N C s H fp pn) elt te)
  (h:m9 own caps J g tt te D σ H Q) :
  wpAny (model X.prog X.w) X.A (newFunctionEnv sc X.env.globals (Jh X.env sc.names) [] X.env.qual none .none (some X.env)) (λcenv s4=>
   codeAny (model X.prog X.w) X.A (.compStart (.ListComp elt [⟨tg,iter,ifs,0⟩] sc pos) 0 (.ref it) (.ref D) {cenv with scope:=relabel sc X.env}) (Jj X p_ σ Q cenv.locals) s4) E s:=by
 obtain⟨jq,⟨m0,w0⟩,turn⟩:=h;refine Gp ?_;have ho:=T.obj 0 _ st;have I0:=Vn I hps hpN S hf ho;have ok':=Pk I hps S hf ho;have hk:∀b o,s.heap.get? b=some o->(blockAt sc s).heap.get? b=some o:=λb o e=>pushCells_keeps _ _ b o (qi6 _ e);have st0:tn 0 (blockAt sc s).heap:=T.keep 0 _ _ st λb _ o e=>hk b o e;have stat:∀{H':Hp},(∀b∈fp,H' b=none)->∀b∈fp,uo (cj X sc N s.heap.objs.size s H fp (X.pn++p_)) [] H' b:=λhn b hb=>
  ⟨hn b hb,(ok'.exf b hb).1,ok'.QK b hb,.inl hb,(ok'.exf b hb).2,λp hp=>(hf b hb).2.2.2.2.2 p (by rw[qjD] at hp;exact hp)⟩
 have loop:codeAny (model X.prog X.w) X.A (.compLoop (.ListComp elt [⟨tg,iter,ifs,0⟩] sc pos) 0 (.ref it) (.ref D) (cj X sc N s.heap.objs.size s H fp (X.pn++p_)).env) (Jj X p_ σ Q s.heap.objs.size) (blockAt sc s):=by
  refine Ji (λn s'=>∃i σ' H',Inv (cj X sc N s.heap.objs.size s H fp (X.pn++p_)) [] σ' H' s'/\tn i s'.heap/\(∀b∈fp,H' b=none)/\jq i n σ' H') ?_ m0 ⟨0,_,H,I0,st0,λb hb=>(hf b hb).1,w0⟩;rintro n s3 ⟨i,σ3,H3,I3,st3,fr3,w3⟩
  rcases turn i n σ3 H3 w3 with⟨stop,qn⟩|⟨go,N',hN,step⟩
  ·refine cF (T.done (cj X sc N s.heap.objs.size s H fp (X.pn++p_)) rfl rfl rfl hc i [] s3 σ3 H3 Y0 I3 (stat fr3) st3 stop) λr s4 zz=>?_;obtain⟨hr,I4⟩:=zz;subst hr;obtain⟨m,hn,_⟩:=I4.loc;exact⟨H3,rfl,Rh I hf I4,⟨m,hn⟩,I.Dc (qjb _) I4.free,qn⟩
  ·refine cF (T.item (cj X sc N s.heap.objs.size s H fp (X.pn++p_)) rfl rfl rfl hc i [] s3 σ3 H3 Y0 I3 (stat fr3) st3 go) λr s4 zz=>?_;obtain⟨u,hr,h4⟩:=zz;subst hr;refine cF h4 λ_ s5 zz=>?_;obtain⟨x,H5,I5,r5,y5,Dd,fr5⟩:=zz;have I5':=I5.pinned (stat fr5) (T.obj _ _ Dd);refine cF (hg _ _ _ _ _ _ s5 σ3 H5 x u _ I5' r5 (step x H5 y5)) λ_ s6 zz=>?_;obtain⟨σ6,H6,I6,q6⟩:=zz;refine cF (ht _ _ _ _ _ _ s6 σ6 H6 _ I6 q6) λb s7 zz=>?_;obtain⟨H7,I7,q7⟩:=zz;have again:∀{σ8:St}{H8:Hp}{s8:Shared},Inv (cj X sc N s.heap.objs.size s H fp (X.pn++p_)) ([]++zV fp s5.heap) σ8 H8 s8->N' σ8 H8->
     ∃m,m<n/\∃i σ' H',Inv (cj X sc N s.heap.objs.size s H fp (X.pn++p_)) [] σ' H' s8/\tn i s8.heap/\(∀b∈fp,H' b=none)/\jq i m σ' H':=λ{σ8 H8 s8} I8 n8=>by
    obtain⟨m',hm,w8⟩:=hN σ8 H8 n8;refine⟨m',hm,i+1,σ8,H8,I8.vP,T.keep _ _ _ Dd λb hb o e=>(I8.pin (b,o) (qjH _ (qjH _ (pY hb e)))).1,λb hb=>?_,w8⟩;obtain⟨o,e,d⟩:=T.obj _ _ Dd b hb;exact(I8.pin (b,o) (qjH _ (qjH _ (pY hb e)))).2.1
   cases b with
   |false=>
    rw[if_neg qjq] at q7⊢;exact again I7 q7
   |true=>
    rw[if_pos rfl] at q7⊢;refine cF (he _ _ _ _ _ _ s7 σ6 H7 _ I7 q7) λv s8 zz=>?_;obtain⟨y,H8,I8,r8,ys,hD,hz,n8⟩:=zz;refine cF (Eh (X:=cj X sc N s.heap.objs.size s H fp (X.pn++p_)) _ s8 σ6 H8 (.ref D) [y] (.ref D) [v] (λ_ H9=>N' σ6 H9) I8 rfl (.cons r8 .nil) ⟨D,ys,y,rfl,rfl,hD,hz,n8⟩) λ_ s9 zz=>?_;obtain⟨_,H9,I9,_,n9⟩:=zz;exact again I9 n9
 exact codeAny_compStart_list loop (T.self X.A 0 _ _ _ st0 loop)
variable {elt tg iter:Expr}{ifs:List Expr}{pos:Pos}{wi:TI}{g:TG}{tt:TT}{te:TE}
theorem aN.locs(S:aN ps sc pN own caps N):∀x∈sc.names,x.2 = .local->sc.names.lookup x.1=some .local:=λx hx e=>by rw[<- e];exact S.uniq x hx
theorem cG(hps:X.env.scope=ps)(hpN:X.N=pN)(S:aN ps sc pN own caps N)(hc:X.calm=true)(hi:PI X tg iter wi)
  (hg:∀C s H fp pn,PG (cj X sc N C s H fp pn) tg g) (ht:∀C s H fp pn,PTs (cj X sc N C s H fp pn) ifs tt) (he:∀C s H fp pn,PE (cj X sc N C s H fp pn) elt te)
  (hs:∀x,foldedSetIterable iter X.env x=pure x:=by intro _;rfl):PE X (.ListComp elt [⟨tg,iter,ifs,0⟩] sc pos) (Pn own caps wi g tt te):=by
 intro p_ s σ H Q I h;rw[eval_ListComp];refine wpAny_comprehension_free (use:=none) rfl hs (qX (S.cells hps I.ok)) S.kind S.locs (cF (hi p_ s σ H _ I h) λv s1 h1=>cF h1 λitv s2 h2=>?_);obtain⟨it,fp,tn,J,H2,e,I2,T,st2,f2,q⟩:=h2;subst e;have fr:H2 s2.heap.objs.size=none:=I2.fresh;refine qj1 ?_;have I3:Inv X p_ σ (upd H2 s2.heap.objs.size (.lst [])) {s2 with heap:=s2.heap.push {cls:=.type "list",data:=.seq ([]:QAE).toArray},toks:=s2.toks}:=I2.qbM (its:=[]) (ys:=[]) .nil (qjY _);have f3:∀b∈fp,uo X p_ (upd H2 s2.heap.objs.size (.lst [])) b:=λb hb=>by
  obtain⟨o,e,_⟩:=T.obj 0 _ st2 b hb;exact⟨by rw[aD (qjn (qjd e))];exact(f2 b hb).1,(f2 b hb).2⟩
 refine cF (zZ (iter:=iter) (pos:=pos) I3 hps hpN S T (T.keep 0 _ _ st2 λb _ o e=>qi6 _ e) f3 hc hg ht he (q _ fr)) λcenv s4 h4=>?_;refine qkt h4 λr s5 ⟨H5,hr,I5,⟨m,hn⟩,f5,q5⟩=>?_;subst hr;refine⟨m,hn,λh' hs'=>?_⟩;have I6:Inv X p_ σ H5 {s5 with heap:=h',toks:=s5.toks}:=I5.turned (it:=cenv.locals) (λb o hb e=>(hs'.2 b hb).trans e) f5.1 f5.2.1 f5.2.2.2.1 f5.2.2.2.2.1 f5.2.2.2.2.2;exact⟨.ref s2.heap.objs.size,H5,I6,rfl,q5⟩
theorem jt{i:Nat}{y:Str}{py spos:Pos}(hN:X.N.Nodup)(hy:X.N[i]? = some y)(hl:X.env.scope.names.lookup y=some .local)(hps:X.env.scope=ps)(hpN:X.N=pN)(S:aN ps sc pN own caps N)(hc:X.calm=true)(hi:PI X tg iter wi)
  (hg:∀C s H fp pn,PG (cj X sc N C s H fp pn) tg g) (ht:∀C s H fp pn,PTs (cj X sc N C s H fp pn) ifs tt) (he:∀C s H fp pn,PE (cj X sc N C s H fp pn) elt te)
  (hsw:swapsWith (.ListComp elt [⟨tg,iter,ifs,0⟩] sc pos) (some (.Name y py)) spos.line X.env=pure true:=by rfl)
  (hs:∀x,foldedSetIterable iter X.env x=pure x:=by intro _;rfl):PS X (.Assign [.Name y py] (.ListComp elt [⟨tg,iter,ifs,0⟩] sc pos) spos) (YD (Pn own caps wi g tt te) (DX i)):=by
 intro p_ s σ H D0 I h;rw[exec_Assign_Name_used _ _ _ _ hsw];refine qi4 (wpAny_standAt (qi4 ?_));show wpAny _ X.A (do let _ <- comprehension (.ListComp elt [⟨tg,iter,ifs,0⟩] sc pos) sc X.env _ (newList []) false (eval iter X.env) (some (assign (.Name y py) X.env))) _ _ s
 refine qi4 (qkd (wpAny_comprehension_free (use:=some (assign (.Name y py) X.env)) (Q:=λ_ s'=>SP X p_ D0 .next s') rfl hs (qX (S.cells hps I.ok)) S.kind S.locs
  (cF (hi p_ s σ H _ I h) λv s1 h1=>cF h1 λitv s2 h2=>?_)) (λ_ s' hq=>qi_ (qi_ hq)) λ_ _ e=>e)
 obtain⟨it,fp,tn,J,H2,e,I2,T,st2,f2,q⟩:=h2;subst e;have fr:H2 s2.heap.objs.size=none:=I2.fresh;refine qj1 ?_;have I3:Inv X p_ σ (upd H2 s2.heap.objs.size (.lst [])) {s2 with heap:=s2.heap.push {cls:=.type "list",data:=.seq ([]:QAE).toArray},toks:=s2.toks}:=I2.qbM (its:=[]) (ys:=[]) .nil (qjY _);have f3:∀b∈fp,uo X p_ (upd H2 s2.heap.objs.size (.lst [])) b:=λb hb=>by
  obtain⟨o,e,_⟩:=T.obj 0 _ st2 b hb;exact⟨by rw[aD (qjn (qjd e))];exact(f2 b hb).1,(f2 b hb).2⟩
 refine cF (zZ (iter:=iter) (pos:=pos) I3 hps hpN S T (T.keep 0 _ _ st2 λb _ o e=>qi6 _ e) f3 hc hg ht he (q _ fr)) λcenv s4 h4=>?_;refine qkt h4 λr s5 ⟨H5,hr,I5,⟨m,hn⟩,f5,q5⟩=>?_;subst hr;show wpAny _ X.A (assign (.Name y py) X.env (.ref s2.heap.objs.size)) _ _ _;refine wpAny_assign_Name (DW I5 hN hy (.inl hl) (v:=.ref s2.heap.objs.size) rfl (λs6 I6 hsb=>?_) (.inr hl));obtain⟨a,sb,ha⟩:=hsb;have hne:cenv.locals≠a:=by
  rcases ha with z|z
  ·rw[z];exact f5.2.1
  ·exact λe=>f5.2.2.2.2.1 y a z e.symm
 refine⟨m,hn.sameBut sb hne,λh' hs'=>?_⟩;have I7:Inv X p_ (σ.set i (some (.ref s2.heap.objs.size))) H5 {s6 with heap:=h',toks:=s6.toks}:=I6.turned (it:=cenv.locals) (λb o hb e=>(hs'.2 b hb).trans e) f5.1 f5.2.1 f5.2.2.2.1 f5.2.2.2.2.1 f5.2.2.2.2.2;exact⟨_,H5,I7,q5⟩
end
section
variable {X:Cx}{p_:QAC}{σ:St}{H:Hp}{s:Shared}{h':Heap}
theorem Inv.Pq{t':Nat}{ch:List Addr}(I:Inv X p_ σ H s)(k:∀b o,b∉ch->s.heap.get? b=some o->h'.get? b=some o)(hf:∀b∈ch,uo X p_ H b):Inv X p_ σ H {s with heap:=h',toks:=t'}:=by
 refine I.step (g':=s.gens) (d':=s.drawn) (ch:=ch) (λb hb=>⟨(hf b hb).2.2.2.1,(hf b hb).2.1,(hf b hb).2.2.2.2.1,(hf b hb).2.2.2.2.2⟩) (λb o _ _ hc e _=>k b o hc e) (λb o _ _ hc e _=>⟨o.slots,k b o hc e⟩) (λ_ _ _ _ n=>n)
  (λb o hc e=>⟨o,k b o hc e⟩) (λ_ _ e=>e) (λ_ _ _ e=>e) (λb ps e=>⟨#[],by rw[e];simp⟩) (λm hm=>?_) (λb u e=>?_) I.bare
 ·obtain⟨o,es,ep,ho,r⟩:=hm;exact⟨o,es,ep,k _ o (λz=>(hf _ z).2.1 rfl) ho,r⟩
 ·refine(I.hok b u e).stay (λc v hc q=>k c v (λz=>?_) q) (λ_ q=>q) λ_ _ q=>q;have hn:=(hf c z).1
  rcases hc with y|y
  ·rw[y,e] at hn;cases hn
  ·rw[y] at hn;cases hn
end
def Its(x:Str):It:=⟨λi _=>i<x.cps.size,λi H v H'=>H'=H/\∃c,x.cps[i]? = some c/\v = .str ⟨#[c]⟩,λi _=>x.cps.size<=i⟩
theorem Vo{P:Program}{w:World}{K:W.Frag}{tg:Expr}(x:Str)(t:Tok)(it:Addr):Turn P w K tg (Its x) [it] it (λi h=>h.IsStrIter it (strIterType x) x t i) where
 mem:=by simp
 obj:=λi h st b hb=>by
  have e:b=it:=by simpa using hb
  subst e;obtain⟨o,e,c,d⟩:=st;exact⟨o,e,λv z=>by rw[d] at z;cases z⟩
 keep:=λi h h' st k=>by
  obtain⟨o,e,c,d⟩:=st;exact⟨o,k it (by simp) o e,c,d⟩
 item:=by
  intro X hP hw hK hc i p_ s σ H E I hf st hg;subst hP hw hK;obtain⟨f0,f1,f2,f3,f4,f5⟩:=hf it (by simp);have hx:x.cps[i]? = some (x.cps[i]'hg):=Array.getElem?_eq_getElem hg;have fin:∀h',h'.IsStrIter it (strIterType x) x t (i+1)->Heap.SameBut it s.heap h'->∃u,(some (Value.str ⟨#[x.cps[i]'hg]⟩ s.toks))=some u/\
    wpAny (model X.prog X.w) X.A (letOwnedTupleGo tg (.ref it) u) (λ_ s2=>∃y H',Inv X p_ σ H' s2/\RelV y u/\(Its x).yld i H y H'/\s2.heap.IsStrIter it (strIterType x) x t (i+1)/\∀b∈[it],H' b=none) E {s with heap:=h',toks:=s.toks+1}:=λh' st' sb=>by
   have I1:Inv X p_ σ H {s with heap:=h',toks:=s.toks+1}:=I.turned (λb o hb e=>(sb.2 b hb).trans e) f0 f1 f3 f4 f5;refine⟨_,rfl,?_⟩;have res:∃y H',Inv X p_ σ H' {s with heap:=h',toks:=s.toks+1}/\RelV y (Value.str ⟨#[x.cps[i]'hg]⟩ s.toks)/\(Its x).yld i H y H'/\h'.IsStrIter it (strIterType x) x t (i+1)/\∀b∈[it],H' b=none:=
    ⟨.str ⟨#[x.cps[i]'hg]⟩,H,I1,⟨_,rfl⟩,⟨rfl,_,hx,rfl⟩,st',λb hb=>(hf b hb).1⟩
   unfold letOwnedTupleGo;cases tg <;> exact qi_ res
  by_cases ha:x.cps.all (· < 128)=true
  ·have ey:strIterType x = "str_ascii_iterator" :=by unfold strIterType;rw[if_pos ha]
   rw[ey] at st;exact wpAny_pyNext_ascii_item st hx λh' st' sb=>fin h' (by rw[ey];exact st') sb
  ·have ey:strIterType x = "str_iterator" :=by unfold strIterType;rw[if_neg ha]
   rw[ey] at st;exact wpAny_pyNext_wide_item st hx λh' st' sb=>fin h' (by rw[ey];exact st') sb
 done:=by
  intro X hP hw hK hc i p_ s σ H E I hf st hg;subst hP hw hK;obtain⟨f0,f1,f2,f3,f4,f5⟩:=hf it (by simp);have hx:x.cps[i]? = none:=Array.getElem?_eq_none hg
  by_cases ha:x.cps.all (· < 128)=true
  ·have ey:strIterType x = "str_ascii_iterator" :=by unfold strIterType;rw[if_pos ha]
   rw[ey] at st;exact wpAny_pyNext_ascii_end (I.ok.hd hc) st hx λh' eb=>⟨rfl,I.turned (t':=s.toks) (λb o hb e=>eb b o hb e) f0 f1 f3 f4 f5⟩
  ·have ey:strIterType x = "str_iterator" :=by unfold strIterType;rw[if_neg ha]
   rw[ey] at st;exact wpAny_pyNext_wide_end (I.ok.hd hc) st hx λh' eb=>⟨rfl,I.turned (t':=s.toks) (λb o hb e=>eb b o hb e) f0 f1 f3 f4 f5⟩
 self:=λA i s Q E st h=>by
  by_cases ha:x.cps.all (· < 128)=true
  ·have ey:strIterType x = "str_ascii_iterator" :=by unfold strIterType;rw[if_pos ha]
   rw[ey] at st;exact wpAny_pyIter_striter_ascii st h
  ·have ey:strIterType x = "str_iterator" :=by unfold strIterType;rw[if_neg ha]
   rw[ey] at st;exact wpAny_pyIter_striter_wide st h
section
variable {X:Cx}{tg:Expr}
def qbP(tl:TE):TI:=λσ H R=>tl σ H λx H1=>∃z,x = .str z/\R (Its z) H1
theorem qbQ{l:Expr}{tl:TE}(hl:PE X l tl):PI X tg l (qbP tl):=by
 intro p_ s σ H R I h;refine cF (hl p_ s σ H _ I h) λv s1 zz=>?_;obtain⟨x,H1,I1,r1,q1⟩:=zz;obtain⟨z,e,q⟩:=q1;subst e;obtain⟨t,rfl⟩:=r1;refine wpAny_pyIter_strU ?_;refine⟨s1.heap.objs.size,[s1.heap.objs.size],_,_,H1,rfl,I1.kept (t':=s1.toks) λb o e=>qi6 _ e,Vo z t _,⟨_,qjg _ rfl,rfl,rfl⟩,λb hb=>?_,q⟩;have e:b=s1.heap.objs.size:=by simpa using hb
 subst e;exact I1.Dc (qjb _) (I1.hok.fresh (qjb _))
end
theorem Pr{h:Heap}{a b:Addr}{o u:Obj}{T U:String}(ha:h.get? a=some o)(hb:h.get? b=some u)(ca:o.cls = .type T)(cb:u.cls = .type U)(hne:T≠U):a≠b:=λe=>by
 subst e;rw[ha] at hb;cases hb;rw[ca] at cb;injection cb with e2;exact hne e2
section
variable {X:Cx}{p_:QAC}{σ:St}{H:Hp}{s:Shared}
theorem j_.kit{x:V}{u t:Value}(I:Inv X p_ σ H s)(rx:RelV x u)(ty:j_ X.K H x t):∃Φ,W.KitX X.K u t Φ/\Φ s.heap/\u≠.builtin "__main__.__loader__#opaque" :=by
 cases ty with
 |non=>cases (show u=Value.none from rx);exact⟨_,W.kitx_none,True.intro,λz=>nomatch z⟩
 |bl y=>cases (show u=Value.bool y from rx);exact⟨_,W.kitx_bool,True.intro,λz=>nomatch z⟩
 |int i=>obtain⟨t,q⟩:=(show ∃t,u=Value.int i t from rx);cases q;exact⟨_,W.kitx_int,True.intro,λz=>nomatch z⟩
 |str y=>obtain⟨t,q⟩:=(show ∃t,u=Value.str y t from rx);cases q;exact⟨_,W.kitx_str,True.intro,λz=>nomatch z⟩
 |flt y=>obtain⟨t,q⟩:=(show ∃t,u=Value.float y t from rx);cases q;exact⟨_,W.kitx_float,True.intro,λz=>nomatch z⟩
 | @lst a xs ea=>
  cases (show u=Value.ref a from rx);obtain⟨_,_,n,_,h1⟩:=(show b_ X.prog X.w H s.heap a (.lst xs) from I.hok a _ ea);exact⟨_,W.kitx_list,⟨_,h1,rfl⟩,λz=>nomatch z⟩
 | @IV a ob xs ea=>
  cases (show u=Value.ref a from rx);obtain⟨_,_,_,n,_,h1⟩:=(show b_ X.prog X.w H s.heap a (.IV ob (.lst xs)) from I.hok a _ ea);exact⟨_,W.kitx_list,⟨_,h1,rfl⟩,λz=>nomatch z⟩
 | @tup a xs ea=>
  cases (show u=Value.ref a from rx);obtain⟨_,_,_,p⟩:=(show b_ X.prog X.w H s.heap a (.tup xs) from I.hok a _ ea);obtain⟨o,h1,h2,_⟩:=p;exact⟨_,W.kitx_tuple,⟨o,h1,h2⟩,λz=>nomatch z⟩
 | @dK a kvs ea=>
  cases (show u=Value.ref a from rx);obtain⟨_,_,vs,_,p⟩:=(show b_ X.prog X.w H s.heap a (.dK kvs) from I.hok a _ ea);obtain⟨o,es,ep,h1,h2,_⟩:=p;exact⟨_,W.kitx_dict,⟨o,h1,h2.1⟩,λz=>nomatch z⟩
 | @dT a kvs ea=>
  cases (show u=Value.ref a from rx);obtain⟨_,_,xs,_,o,es,ep,h1,h2,_⟩:=(show b_ X.prog X.w H s.heap a (.dT kvs) from I.hok a _ ea);exact⟨_,W.kitx_dict,⟨o,h1,h2.1⟩,λz=>nomatch z⟩
 | @ins a C dx fs ea cl ha hn htk hm=>
  cases (show u=Value.ref a from rx);obtain⟨mA,O,_⟩:=vQ I.hok ea;obtain⟨od,J,_⟩:=O.look;exact⟨_,W.kitx_own (cl.get _) cl.hd ha hn htk hm,J,λz=>nomatch z⟩
theorem Ri:cA X (.builtin "isinstance") (λxs H Q=>∃x n t b,xs=[x,.ty n]/\j_ X.K H x t/\W.kitOne X.K t (.type n)=some b/\Q (.bl b) H):=by
 intro p_ s σ H xs us Q I r h;obtain⟨x,n,t,b,rfl,ty,e,q⟩:=h;obtain⟨u,v,rfl,rx,rc⟩:=r.two;obtain rfl:v=Value.type n:=rc;exact Q7 I rx ty e λtk=>⟨.bl b,H,I.tok tk,rfl,q⟩
theorem Rj:cA X (.builtin "isinstance") (λxs H Q=>∃x p m n t b,xs=[x,.ref p]/\H p=some (.tup [.ty m,.ty n])/\j_ X.K H x t/\W.kitAny X.K t [.type m,.type n]=some b/\Q (.bl b) H):=by
 intro p_ s σ H xs us Q I r h;obtain⟨x,p,m,n,t,b,rfl,hp,ty,e,q⟩:=h;obtain⟨u,v,rfl,rx,rc⟩:=r.two;obtain rfl:v=Value.ref p:=rc;obtain⟨Φ,Z,hΦ,hne⟩:=ty.kit I rx;obtain⟨_,its,rv,o,e1,e2,k,e3⟩:=(show b_ X.prog X.w H s.heap p (.tup [.ty m,.ty n]) from I.hok p _ hp);obtain⟨u1,u2,rfl,r1,r2⟩:=rv.two;obtain rfl:u1=Value.type m:=r1;obtain rfl:u2=Value.type n:=r2;obtain⟨c,dd,dt,sl⟩:=o;replace e2:c = .type "tuple" :=e2;replace e3:dt = .seq [Value.type m,Value.type n].toArray k:=e3;subst e2 e3;exact W.kia_tup Z I.rm hΦ e1 e hne λtk=>⟨.bl b,H,I.tok tk,rfl,q⟩
theorem boot_isinstance:bootBuiltins "isinstance" = some (.builtin "isinstance"):=by decide+kernel
theorem boot_str:bootBuiltins "str" = some (.type "str"):=by decide+kernel
theorem boot_list:bootBuiltins "list" = some (.type "list"):=by decide+kernel
theorem boot_tuple:bootBuiltins "tuple" = some (.type "tuple"):=by decide+kernel
theorem Rk:bootBuiltins "int" = some (.type "int"):=by decide+kernel
theorem Mp:bootBuiltins "bool" = some (.type "bool"):=by decide+kernel
theorem Mq:bootBuiltins "dict" = some (.type "dict"):=by decide+kernel
theorem Ej:bootBuiltins "set" = some (.type "set"):=by decide+kernel
end
mutual
def Is(K:W.Frag)(H:Hp):PyData->V->Prop
 |.none,v=>v = .non
 |.bool b,v=>v = .bl b
 |.int i,v=>v = .int i
 |.str x,v=>v = .str x
 |.list ds,v=>∃a xs,v = .ref a/\aX K H a xs/\qY K H ds xs
 |.tuple ds,v=>∃a xs,v = .ref a/\dg K H a xs/\qY K H ds xs
 |.dict _,_=>False
def qY(K:W.Frag)(H:Hp):List PyData->List V->Prop
 |[],vs=>vs=[]
 |d::ds,vs=>∃v r,vs=v::r/\Is K H d v/\qY K H ds r
end
section
variable {X:Cx}{p_:QAC}{σ:St}{H:Hp}{s:Shared}
mutual
theorem Is.reads(I:Inv X p_ σ H s):∀(d:PyData)(v:V)(u:Value),Is X.K H d v->RelV v u->∃as,Reads s.heap u d as
 |.none,v,u,h,r=>by
  simp only[Is] at h;subst h;cases r;exact⟨_,.none⟩
 |.bool b,v,u,h,r=>by
  simp only[Is] at h;subst h;cases r;exact⟨_,.bool b⟩
 |.int i,v,u,h,r=>by
  simp only[Is] at h;subst h;obtain⟨t,rfl⟩:=r;exact⟨_,.int i t⟩
 |.str x,v,u,h,r=>by
  simp only[Is] at h;subst h;obtain⟨t,rfl⟩:=r;exact⟨_,.str x t⟩
 |.list ds,v,u,h,r=>by
  simp only[Is] at h;obtain⟨a,xs,rfl,hq,hs⟩:=h;cases r;obtain⟨its,rv,pl,hz⟩:=I.list hq;obtain⟨o,e,c,n,dt⟩:=pl.isList;obtain⟨as,ra⟩:=qY.reads I ds xs its hs rv;exact⟨_,.list e c dt (by simpa using ra)⟩
 |.tuple ds,v,u,h,r=>by
  simp only[Is] at h;obtain⟨a,xs,rfl,hq,hs⟩:=h;cases r;obtain⟨its,rv,pl,hz⟩:=I.tuple hq;obtain⟨o,e,c,n,dt⟩:=pl;obtain⟨as,ra⟩:=qY.reads I ds xs its hs rv;exact⟨_,.tuple e c dt (by simpa using ra)⟩
 |.dict _,v,u,h,r=>by
  simp only[Is] at h
theorem qY.reads(I:Inv X p_ σ H s):∀(ds:List PyData)(vs:List V)(us:QAE),qY X.K H ds vs->Vals vs us->∃as,ReadsAll s.heap us ds as
 |[],vs,us,h,r=>by
  simp only[qY] at h;subst h;cases r;exact⟨_,.nil⟩
 |d::ds,vs,us,h,r=>by
  simp only[qY] at h;obtain⟨v,vr,rfl,h1,h2⟩:=h;cases r with
  |cons r1 r2=>
   obtain⟨as,ra⟩:=Is.reads I d v _ h1 r1;obtain⟨bs,rb⟩:=qY.reads I ds vr _ h2 r2;exact⟨_,.cons ra rb⟩
end
theorem qbR:gJ X (compareOp .Eq) (λx y H Q=>∃d e,Is X.K H d x/\Is X.K H e y/\d.canLay0=true/\e.canLay0=true/\X.A.units+min d.depth e.depth<cLine/\Q (.bl (PyData.eqv d e)) H):=by
 intro p_ s σ H x y v u Q I rx ry h;obtain⟨d,e,hx,hy,h1,h2,hu,q⟩:=h;obtain⟨as,ra⟩:=hx.reads I d x v rx;obtain⟨bs,rb⟩:=hy.reads I e y u ry;exact SeqAt.compareEq_reads ra rb h1 h2 hu ⟨.bl _,H,I,rfl,q⟩
theorem qbS:gJ X (compareOp .NotEq) (λx y H Q=>∃d e,Is X.K H d x/\Is X.K H e y/\d.canLay0=true/\e.canLay0=true/\X.A.units+min d.depth e.depth<cLine/\Q (.bl (!PyData.eqv d e)) H):=by
 intro p_ s σ H x y v u Q I rx ry h;obtain⟨d,e,hx,hy,h1,h2,hu,q⟩:=h;obtain⟨as,ra⟩:=hx.reads I d x v rx;obtain⟨bs,rb⟩:=hy.reads I e y u ry;exact SeqAt.compareNe_reads ra rb h1 h2 hu ⟨.bl _,H,I,rfl,q⟩
end
section
variable {X:Cx}
def Gq:V->List V->Hp->VK->Prop:=λx vs H Q=>∃l xs i y,x = .ref l/\vs=[.int i,y]/\H l=some (.lst xs)/\0<=i/\i<=xs.length/\xs.length<sizeLine/\Q .non (upd H l (.lst (xs.take i.toNat++y::xs.drop i.toNat)))
theorem Vals.ins{y:V}{u:Value}(ru:RelV y u):∀{xs:List V}{us:QAE}(i:Nat),Vals xs us->Vals (xs.take i++y::xs.drop i) (us.take i++u::us.drop i):=λi r=>(r.take i).append (.cons ru (r.drop i))
theorem Rm:MtM X "list.insert" Gq:=by
 intro p_ s σ H x vs v us Q I rx rv h;obtain⟨l,xs,i,y,rfl,rfl,hH,h0,hi,hz,q⟩:=h;cases rx;obtain⟨u1,u,rfl,⟨t,rfl⟩,ru⟩:=rv.two;obtain⟨z,its,n,r,hl,e⟩:=I.Rb hH;have hn:=uU;have hfit:¬(!Builtin.List.listFitsIndex i)=true:=by
  unfold Builtin.List.listFitsIndex;simp;omega
 refine call_meets F.slot_list_insert ⟨_,e,rfl⟩ F.entry_list_insert (F.args_list_insert_3 _ _ _) (PySem.AutoListH.list_insert_list_int_val_1 l its.toArray n i t u hfit (by rw[qjj];omega)) ⟨e,?_⟩;refine⟨.non,_,I.qdG (its':=its.take i.toNat++u::its.drop i.toNat) hH e ?_ (r.ins ru i.toNat) ?_,rfl,q⟩
 ·have hm:min i.toNat its.length=i.toNat:=by omega
  simp only[qjj];rw[if_neg (by omega),hm];apply Array.toList_inj.mp;simp;exact qkZ (by simp)
 ·simp;omega
end
section
variable {X:Cx}
def m_:List V->List Bool->Prop
 |[],bs=>bs=[]
 |x::xs,bs=>∃b r,bs=b::r/\x = .bl b/\m_ xs r
theorem m_.get:∀{xs:List V}{bs:List Bool}{its:QAE},m_ xs bs->Vals xs its->xs.length=bs.length/\∀(i:Nat)(v:Value),its[i]? = some v->v = .bool (bs.getD i false)
 |[],bs,its,h,r=>by
  cases h;cases r;exact⟨rfl,λi v e=>by simp at e⟩
 |x::xs,bs,its,h,r=>by
  obtain⟨b,br,rfl,rfl,h⟩:=h;cases r with
  |cons r1 r2=>
   obtain⟨h1,h2⟩:=m_.get h r2;refine⟨by simp[h1],λi v e=>?_⟩;cases i with
   |zero=>
    simp at e;subst e;exact r1
   |succ i=>
    simp at e;simpa using h2 i v e
theorem range_all(bs:List Bool):(List.range bs.length).all (λi=>bs.getD i false)=bs.all id:=by
 rw[qks,qjC,qjC];constructor
 ·intro h b hb;obtain⟨i,hi,rfl⟩:=List.mem_iff_getElem.mp hb;have:=h i (qkc.mpr hi);simpa [List.getD,hi] using this
 ·intro h i hi;have hi':=qkc.mp hi;have:=h bs[i] (qlC hi');simpa [List.getD,hi'] using this
theorem Rn(hc:X.calm=true):cA X (.builtin "all") (λxs H Q=>∃a ys bs,xs=[.ref a]/\H a=some (.lst ys)/\m_ ys bs/\Q (.bl (bs.all id)) H):=by
 intro p_ s σ H xs us Q I r h;obtain⟨a,ys,bs,rfl,ha,hb,q⟩:=h;obtain⟨u,rfl,ru⟩:=r.one;obtain rfl:u=Value.ref a:=ru;obtain⟨z,its,n,rv,hl,e⟩:=I.Rb ha;obtain⟨h1,h2⟩:=hb.get rv;have hL:s.heap.IsList a its.toArray:=⟨_,e,rfl,n,rfl⟩;refine call_all_walk ?_;refine qlq hL ?_;have hne:a≠s.heap.objs.size:=qjn (qjd e);have hL2:(s.heap.push {cls:=.type "list_iterator",data:=.fields #[.ref a,.int 0 0]}).IsList a its.toArray:=⟨_,qi6 _ e,rfl,n,rfl⟩;refine⟨s.heap.objs.size,_,_,_,_,_,λi=>bs.getD i false,rfl,Walks.list (by exact I.ok.hd hc) s.heap.objs.size a hne its.toArray,⟨⟨_,qjg _ rfl,rfl,rfl⟩,hL2⟩,λi v s' Q' E' hP hQ=>?_,λh' tk kk=>?_⟩
 ·obtain rfl:=h2 i v (by simpa using hP);exact qkl hQ
 ·have e2:(List.range its.toArray.size).all (λi=>bs.getD i false)=bs.all id:=by
   rw[qjj,<- hl,h1];exact range_all bs
  rw[e2];refine⟨.bl _,H,?_,rfl,q⟩;exact I.kept (h':=h') (t':=tk) λb o eb=>kk b o (by simp;exact qjn (qjd eb)) (qi6 _ eb)
end
def Gs(l:List Key)(k:Key):Bool:=l.any λx=>decide (x=k)
theorem Vp{l:List Key}{k:Key}:Gs l k=true↔k∈l:=by
 unfold Gs;rw[qkz];constructor
 ·rintro⟨x,hx,e⟩;have e':=qjG e;subst e';exact hx
 ·intro h;exact⟨k,h,qj2 rfl⟩
theorem Vq(l:List Key)(x k:Key):Gs (l++[x]) k=(Gs l k || decide (k=x)):=by
 unfold Gs;rw[List.any_append];simp only[qld,List.any_nil,Bool.or_false];congr 1;exact qk1.mpr ⟨λe=>e.symm,λe=>e.symm⟩
def xH(acc:List Key)(k:Key):List Key:=if Gs acc k=true then acc else acc++[k]
def CW(val:Nat->Key)(i:Nat):List Key:=((List.range i).map val).foldl xH []
theorem vY(val:Nat->Key)(i:Nat):CW val (i+1)=xH (CW val i) (val i):=by
 unfold CW;rw[List.range_succ,qjU,List.foldl_append];rfl
theorem Vr(val:Nat->Key):∀i,(CW val i).length<=i
 |0=>qjb _
 |i+1=>by
  rw[vY];have ih:=Vr val i;unfold xH;split
  ·omega
  ·rw[qjF,qkq];omega
theorem Mr(val:Nat->Key):∀n,(∀i j,i<n->j<n->val i=val j->i=j)->(CW val n).length=n/\∀k,k∈CW val n->∃i,i<n/\val i=k
 |0,_=>⟨rfl,λk h=>by simp[CW] at h⟩
 |n+1,h=>by
  obtain⟨h1,h2⟩:=Mr val n λi j hi hj=>h i j (by omega) (by omega);have hnot:¬Gs (CW val n) (val n)=true:=λhm=>by
   obtain⟨i,hi,e⟩:=h2 _ (Vp.mp hm);have:=h i n (by omega) (by omega) e;omega
  rw[vY];unfold xH;rw[if_neg hnot];refine⟨by simp[h1],λk hk=>?_⟩
  rcases qjz.mp hk with z|z
  ·obtain⟨i,hi,e⟩:=h2 k z;exact⟨i,by omega,e⟩
  ·exact⟨n,by omega,(qkg.mp z).symm⟩
theorem Y4{k:Key}{v:Value}(h:rC k v=true):v.scannable=true:=by
 rcases cW h with⟨i,t,rfl,rfl⟩|⟨x,t,rfl,rfl⟩ <;> rfl
theorem Jk{P:Program}{w:World}{h:Heap}{a:Addr}{S S':Key->Bool}{n n':Nat}(x:h.SetOf (bJ P w) a S n)(e:∀k,S k=S' k)(en:n=n'):h.SetOf (bJ P w) a S' n':=by
 have:S=S':=funext e;subst this;subst en;exact x
abbrev ni(P:Program)(w:World)(h:Heap)(a:Addr)(l:List Key):Prop:=h.SetOf (bJ P w) a (Gs l) l.length
theorem ni.at{P:Program}{w:World}{h h':Heap}{a:Addr}{l:List Key}(x:ni P w h a l)(k:∀o,h.get? a=some o->h'.get? a=some o):ni P w h' a l:=by
 obtain⟨o,es,ep,t,e,r⟩:=x;exact⟨o,es,ep,t,k o e,r⟩
theorem Ek{P:Program}{w:World}{h:Heap}{a:Addr}{led:Bool} (e:h.get? a=some {cls:=.type "set",dict:=none,data:=.set #[] 0 (.fresh 0 0 led)}):ni P w h a []:=
 ⟨_,#[],0,.fresh 0 0 led,e,⟨rfl,rfl,rfl⟩,rfl,(λx hx=>by simp at hx),(λk=>by simp[Gs]),(by unfold scanBound;decide),(by cases led <;> rfl),rfl⟩
section
variable {P:Program}{w:World}{A:Around}{R:Result->Shared->Prop}{I:Addr}{fp wr:List Addr}{n:Nat}{PP:Nat->Value->Prop}{St:Nat->Heap->Prop}
theorem Jl(jq:Walks P w A.in1 I fp wr n PP St)(S:Addr)(hSf:S∉fp)(val:Nat->Key)(hval:∀i v,PP i v->rC (val i) v=true)(hb:n+1<scanBound) :
  ∀(k i:Nat)(s:Shared),n - i=k->i<=n->St i s.heap->ni P w s.heap S (CW val i)->
   (∀h' tk,(∀b o,b≠S->b∉wr->s.heap.get? b=some o->h'.get? b=some o)->ni P w h' S (CW val n)->R (.ok (.ret .none)) {s with heap:=h',toks:=tk})->
   codeAny (model P w) A (.builtin "set.update.loop" ⟨[.ref S,.ref I],[]⟩) R s:=by
 have hSw:S∉wr:=λh=>hSf (jq.sub _ h);intro k
 induction k with
 |zero=>
  intro i s hk hi hst hS hR;obtain rfl:i=n:=by omega
  refine qlm PyProof.Rows.F.entry_set_update_loop ?_;rw[qlv qkX _];show wpAny _ A.in1 (pyNext (.ref I) >>= _) _ _ s;refine qi4 (jq.done s _ _ hst λh' tk hm=>?_);exact qi_ (hR h' tk (λb o _ hb e=>hm b o hb e) (hS.at λo e=>hm S o hSw e))
 |succ k ih=>
  intro i s hk hi hst hS hR;have hlt:i<n:=by omega
  refine qlm PyProof.Rows.F.entry_set_update_loop ?_;rw[qlv qkX _];show wpAny _ A.in1 (pyNext (.ref I) >>= _) _ _ s;refine qi4 (jq.item i s _ _ hlt hst λv h' tk hP hst' hm=>?_);have hkey:(bJ P w).is (val i) v=true:=hval i v hP;have hS':ni P w h' S (CW val i):=hS.at λo e=>hm S o hSw e;show wpAny _ A.in1 (holding [v] (setAdd S v) >>= _) _ _ _;refine qi4 (qkm ?_);unfold setAdd;refine qkm (qi4 ((bJ P w).pyHash (k:=val i) hkey ?_));have hroom:(CW val i).length+1<scanBound:=by have:=Vr val i;omega
  refine wpAny_setAddHashed_of (knd:=bJ P w) (s:={s with heap:=h',toks:=tk+1}) hkey (Y4 (hval i v hP)) hS' hroom λh2 hsb hS2=>?_;have hSi:ni P w h2 S (CW val (i+1)):=by
   refine Jk hS2 (λk'=>?_) ?_
   ·rw[vY];unfold xH;split
    ·rename_i hm1
     by_cases e:k'=val i
     ·rw[e,hm1];rfl
     ·rw[qjM e,Bool.or_false]
    ·exact(Vq _ _ _).symm
   ·rw[vY];unfold xH;split
    ·rfl
    ·rw[qjF,qkq]
  refine qi_ ⟨plainId_quiet qkX _,ih (i+1) _ (by omega) hlt (jq.frame _ h' _ hst' λb hb o e=>?_) hSi λh3 tk3 hm3 rA=>?_⟩
  ·exact(hsb.2 b (λz:b=S=>hSf (by rw[<- z];exact hb))).trans e
  ·refine hR h3 tk3 (λb o hbS hbw e=>hm3 b o hbS hbw ?_) rA;exact(hsb.2 b hbS).trans (hm b o hbw e)
end
theorem Dh:isSubtype (.type "list") (.type "set")=pure false:=by rw[isSubtype_type];kernel_rfl
theorem xJ:isSubtype (.type "list") (.type "frozenset")=pure false:=by rw[isSubtype_type];kernel_rfl
set_option maxHeartbeats 4000000 in
theorem Jm{P:Program}{w:World}{A:Around}{E:QAB}{s:Shared}{l:Addr}{its:Array Value}{val:Nat->Key}{Q:QAB}
  (hh:A.handled=none) (hl:s.heap.IsList l its) (hval:∀i v,its[i]? = some v->rC (val i) v=true) (hb:its.size+1<scanBound)
  (h:∀(g:Heap)(tk:Nat),ni P w g s.heap.objs.size (CW val its.size)->(∀b o,s.heap.get? b=some o->g.get? b=some o)->Q (.ref s.heap.objs.size) {s with heap:=g,toks:=tk}) :
  wpAny (model P w) A (call (.type "set") [.ref l]) Q E s:=by
 obtain⟨c,tl,hmro⟩:=PySem.F.called_set.mro;have q1:=PySem.F.called_set.made;have q2:=PySem.F.called_set.sub;refine qlu (codeAny_of_tree ?_);show wpAny _ _ (callAny (.type "set") _) _ _ s;refine qi_ ⟨Code.quiet_builtin _ (by decide+kernel),qlm PySem.F.entry_type_call ?_⟩;rw[Around.under_plain (weight_type_call_type "set" [.ref l] []) rfl];have q3:=PySem.F.called_set.notType;have q4:=PySem.F.called_set.canCreate;have q5:=PySem.F.typeCall_set_1 (.ref l)
 repeat (any_goals (first|assumption|wp_step))
 refine qkt (code_set_new_1 (.ref l) (E:=E) (Q₁:=λob s1=>∃led:Bool,ob = .ref s.heap.objs.size/\s1={s with heap:=s.heap.push {cls:=.type "set",dict:=none,data:=.set #[] 0 (.fresh 0 0 led)}}) λled=>⟨led,rfl,rfl⟩) λr s1 hr=>?_;cases r with
 |error e=>exact hr
 |ok fl=>
  cases fl with
  |ret ob=>
   obtain⟨led,rfl,rfl⟩:=hr;have new:(s.heap.push {cls:=.type "set",dict:=none,data:=.set #[] 0 (.fresh 0 0 led)}).get? s.heap.objs.size=some {cls:=.type "set",dict:=none,data:=.set #[] 0 (.fresh 0 0 led)}:=qjg _ rfl;have ty:Shared.TypeIs {s with heap:=s.heap.push {cls:=.type "set",dict:=none,data:=.set #[] 0 (.fresh 0 0 led)}} (.ref s.heap.objs.size) "set" :=⟨_,new,rfl⟩;have q6:=PySem.F.called_set.init.lookup;have q7:=PySem.F.called_set.init.bind (.ref s.heap.objs.size)
   repeat (any_goals (first|assumption|wp_step))
   refine qkt (qlw (R:=wants (λr s2=>r = .none/\∃g tk,s2={s with heap:=g,toks:=tk}/\ni P w g s.heap.objs.size (CW val its.size)/\(∀b o,s.heap.get? b=some o->g.get? b=some o)) E)
    PySem.F.called_set.init.plain PySem.F.entry_set_init (check_set_init_1 ty ?_)) λr2 s2 hr2=>?_
   ·obtain⟨ol,ho,hcl,nl,hdl⟩:=hl;obtain⟨oc,od,odt,osl⟩:=ol;simp only at hcl hdl;subst hcl;subst hdl;have ho2:(s.heap.push {cls:=.type "set",dict:=none,data:=.set #[] 0 (.fresh 0 0 led)}).get? l=some {cls:=.type "list",dict:=od,data:=.seq its nl,slots:=osl}:=qi6 _ ho;have q8:=Dh;have q9:=xJ;have q10:(Value.type "list" == Value.type "dict")=false:=by decide
    have hl1:(s.heap.push {cls:=.type "set",dict:=none,data:=.set #[] 0 (.fresh 0 0 led)}).IsList l its:=⟨_,ho2,rfl,nl,rfl⟩;unfold Builtin.«set.__init__» noKeywords Builtin.Frozenset.updateFrom;generalize hPI:pyIter=PI
    wp_walk
    subst hPI;refine qlq hl1 ?_;refine qi4 (wpAny_runValue ?_);have lt1:l<s.heap.objs.size:=qjd ho;have hh3:A.in1.in1.in1.handled=none:=by simp[hh]
    have ne1:l≠(s.heap.push {cls:=.type "set",dict:=none,data:=.set #[] 0 (.fresh 0 0 led)}).objs.size:=by
     rw[qjN];exact qjn (qj7 lt1)
    have nf:s.heap.objs.size∉[(s.heap.push {cls:=.type "set",dict:=none,data:=.set #[] 0 (.fresh 0 0 led)}).objs.size,l]:=by
     rw[qjN];simp only[qjm,qkg,qko,or_false,not_or];exact⟨qjn (qkK _),qkL lt1⟩
    refine Jl (Walks.list hh3 _ l ne1 its) s.heap.objs.size nf val hval hb (its.size - 0) 0 _ (by omega) (qjY _) ⟨⟨_,qjg _ rfl,rfl,rfl⟩,hl1.push _⟩ ?hS0 ?hR
    case hS0=>
     have hget:((s.heap.push {cls:=.type "set",dict:=none,data:=.set #[] 0 (.fresh 0 0 led)}).push {cls:=.type "list_iterator",data:=.fields #[.ref l,.int 0 0]}).get? s.heap.objs.size
       = some {cls:=.type "set",dict:=none,data:=.set #[] 0 (.fresh 0 0 led)}:=qi6 _ new
     exact Ek hget
    case hR=>
     intro g tk hm hS;show wpAny _ _ _ _ _ _;refine qi_ ?_;show wpAny _ _ (ret Value.none) _ _ _;refine qi_ ⟨rfl,g,tk,rfl,hS,λb o e=>?_⟩;have lb:b<s.heap.objs.size:=qjd e;refine hm b o (qjn lb) ?_ (qi6 _ (qi6 _ e));simp only[qjm,qko,or_false];rw[qjN];exact qjn (qj7 lb)
   ·cases r2 with
    |error e=>exact hr2
    |ok fl2=>
     cases fl2 with
     |ret r=>
      obtain⟨rfl,g,tk,rfl,hS,hk⟩:=hr2
      repeat (any_goals (first|assumption|wp_step))
      exact h _ _ hS hk
     |_=>exact hr2.elim
  |_=>exact hr.elim
theorem z6:isSubtype (.type "tuple") (.type "set")=pure false:=by rw[isSubtype_type];kernel_rfl
theorem vZ:isSubtype (.type "tuple") (.type "frozenset")=pure false:=by rw[isSubtype_type];kernel_rfl
set_option maxHeartbeats 4000000 in
theorem Gu{P:Program}{w:World}{A:Around}{E:QAB}{s:Shared}{l:Addr}{its:Array Value}{val:Nat->Key}{Q:QAB}
  (hh:A.handled=none) (hl:s.heap.IsTuple l its) (hval:∀i v,its[i]? = some v->rC (val i) v=true) (hb:its.size+1<scanBound)
  (h:∀(g:Heap)(tk:Nat),ni P w g s.heap.objs.size (CW val its.size)->(∀b o,s.heap.get? b=some o->g.get? b=some o)->Q (.ref s.heap.objs.size) {s with heap:=g,toks:=tk}) :
  wpAny (model P w) A (call (.type "set") [.ref l]) Q E s:=by
 obtain⟨c,tl,hmro⟩:=PySem.F.called_set.mro;have q1:=PySem.F.called_set.made;have q2:=PySem.F.called_set.sub;refine qlu (codeAny_of_tree ?_);show wpAny _ _ (callAny (.type "set") _) _ _ s;refine qi_ ⟨Code.quiet_builtin _ (by decide+kernel),qlm PySem.F.entry_type_call ?_⟩;rw[Around.under_plain (weight_type_call_type "set" [.ref l] []) rfl];have q3:=PySem.F.called_set.notType;have q4:=PySem.F.called_set.canCreate;have q5:=PySem.F.typeCall_set_1 (.ref l)
 repeat (any_goals (first|assumption|wp_step))
 refine qkt (code_set_new_1 (.ref l) (E:=E) (Q₁:=λob s1=>∃led:Bool,ob = .ref s.heap.objs.size/\s1={s with heap:=s.heap.push {cls:=.type "set",dict:=none,data:=.set #[] 0 (.fresh 0 0 led)}}) λled=>⟨led,rfl,rfl⟩) λr s1 hr=>?_;cases r with
 |error e=>exact hr
 |ok fl=>
  cases fl with
  |ret ob=>
   obtain⟨led,rfl,rfl⟩:=hr;have new:(s.heap.push {cls:=.type "set",dict:=none,data:=.set #[] 0 (.fresh 0 0 led)}).get? s.heap.objs.size=some {cls:=.type "set",dict:=none,data:=.set #[] 0 (.fresh 0 0 led)}:=qjg _ rfl;have ty:Shared.TypeIs {s with heap:=s.heap.push {cls:=.type "set",dict:=none,data:=.set #[] 0 (.fresh 0 0 led)}} (.ref s.heap.objs.size) "set" :=⟨_,new,rfl⟩;have q6:=PySem.F.called_set.init.lookup;have q7:=PySem.F.called_set.init.bind (.ref s.heap.objs.size)
   repeat (any_goals (first|assumption|wp_step))
   refine qkt (qlw (R:=wants (λr s2=>r = .none/\∃g tk,s2={s with heap:=g,toks:=tk}/\ni P w g s.heap.objs.size (CW val its.size)/\(∀b o,s.heap.get? b=some o->g.get? b=some o)) E)
    PySem.F.called_set.init.plain PySem.F.entry_set_init (check_set_init_1 ty ?_)) λr2 s2 hr2=>?_
   ·obtain⟨ol,ho,hcl,nl,hdl⟩:=hl;obtain⟨oc,od,odt,osl⟩:=ol;simp only at hcl hdl;subst hcl;subst hdl;have ho2:(s.heap.push {cls:=.type "set",dict:=none,data:=.set #[] 0 (.fresh 0 0 led)}).get? l=some {cls:=.type "tuple",dict:=od,data:=.seq its nl,slots:=osl}:=qi6 _ ho;have q8:=z6;have q9:=vZ;have q10:(Value.type "tuple" == Value.type "dict")=false:=by decide
    have hl1:(s.heap.push {cls:=.type "set",dict:=none,data:=.set #[] 0 (.fresh 0 0 led)}).IsTuple l its:=⟨_,ho2,rfl,nl,rfl⟩;unfold Builtin.«set.__init__» noKeywords Builtin.Frozenset.updateFrom;generalize hPI:pyIter=PI
    wp_walk
    subst hPI;refine qk3 hl1 ?_;refine qi4 (wpAny_runValue ?_);have lt1:l<s.heap.objs.size:=qjd ho;have hh3:A.in1.in1.in1.handled=none:=by simp[hh]
    have ne1:l≠(s.heap.push {cls:=.type "set",dict:=none,data:=.set #[] 0 (.fresh 0 0 led)}).objs.size:=by
     rw[qjN];exact qjn (qj7 lt1)
    have nf:s.heap.objs.size∉[(s.heap.push {cls:=.type "set",dict:=none,data:=.set #[] 0 (.fresh 0 0 led)}).objs.size,l]:=by
     rw[qjN];simp only[qjm,qkg,qko,or_false,not_or];exact⟨qjn (qkK _),qkL lt1⟩
    refine Jl (Walks.tuple hh3 _ l ne1 its) s.heap.objs.size nf val hval hb (its.size - 0) 0 _ (by omega) (qjY _) ⟨⟨_,qjg _ rfl,rfl,rfl⟩,⟨_,qi6 _ ho2,rfl,nl,rfl⟩⟩ ?hS0 ?hR
    case hS0=>
     have hget:((s.heap.push {cls:=.type "set",dict:=none,data:=.set #[] 0 (.fresh 0 0 led)}).push {cls:=.type "tuple_iterator",data:=.fields #[.ref l,.int 0 0]}).get? s.heap.objs.size
       = some {cls:=.type "set",dict:=none,data:=.set #[] 0 (.fresh 0 0 led)}:=qi6 _ new
     exact Ek hget
    case hR=>
     intro g tk hm hS;show wpAny _ _ _ _ _ _;refine qi_ ?_;show wpAny _ _ (ret Value.none) _ _ _;refine qi_ ⟨rfl,g,tk,rfl,hS,λb o e=>?_⟩;have lb:b<s.heap.objs.size:=qjd e;refine hm b o (qjn lb) ?_ (qi6 _ (qi6 _ e));simp only[qjm,qko,or_false];rw[qjN];exact qjn (qj7 lb)
   ·cases r2 with
    |error e=>exact hr2
    |ok fl2=>
     cases fl2 with
     |ret r=>
      obtain⟨rfl,g,tk,rfl,hS,hk⟩:=hr2
      repeat (any_goals (first|assumption|wp_step))
      exact h _ _ hS hk
     |_=>exact hr2.elim
  |_=>exact hr.elim
def Y5(P:Program)(w:World)(a:Addr)(l:List Key):HO:=.ext λh=>ni P w h a l
section
variable {X:Cx}
def keysOf:List V->List Key
 |[]=>[]
 |.int i::r=>.inl i::keysOf r
 |.str x::r=>.inr x::keysOf r
 |_::r=>keysOf r
def isKey:V->Bool
 |.int _=>true
 |.str _=>true
 |_=>false
theorem Gv:∀{xs:List V}{its:QAE},xs.all isKey=true->Vals xs its->(keysOf xs).length=its.length/\∀(i:Nat)(v:Value),its[i]? = some v->rC ((keysOf xs).getD i (.inl 0)) v=true
 |[],_,_,.nil=>⟨rfl,λi v e=>by simp at e⟩
 |x::xs,u::us,h,.cons r1 r2=>by
  rw[List.all_cons,qkj] at h;obtain⟨h1,h2⟩:=Gv h.2 r2;cases x with
  |int i=>
   obtain⟨t,rfl⟩:=r1;refine⟨by simp[keysOf,h1],λj v e=>?_⟩;cases j with
   |zero=>simp at e;subst e;exact DQ i t
   |succ j=>simp at e;simpa [keysOf] using h2 j v e
  |str z=>
   obtain⟨t,rfl⟩:=r1;refine⟨by simp[keysOf,h1],λj v e=>?_⟩;cases j with
   |zero=>simp at e;subst e;exact DR z t
   |succ j=>simp at e;simpa [keysOf] using h2 j v e
  |_=>exact absurd (show false=true from h.1) qjq
theorem El(hc:X.calm=true):cA X (.type "set") (λxs H Q=>∃a ys,xs=[.ref a]/\(aX X.K H a ys\/dg X.K H a ys)/\ys.all isKey=true/\ys.length+1<scanBound/\
  ∀p,H p=none->Q (.ref p) (upd H p (Y5 X.prog X.w p (CW (λi=>(keysOf ys).getD i (.inl 0)) ys.length)))):=by
 intro p_ s σ H xs us Q I r h;obtain⟨a,ys,rfl,hq,hk,hb,q⟩:=h;obtain⟨u,rfl,ru⟩:=r.one;obtain rfl:u=Value.ref a:=ru;have fin:∀(g:Heap)(tk:Nat),ni X.prog X.w g s.heap.objs.size (CW (λi=>(keysOf ys).getD i (.inl 0)) ys.length)->(∀b o,s.heap.get? b=some o->g.get? b=some o)->EP X p_ σ Q (.ref s.heap.objs.size) {s with heap:=g,toks:=tk}:=λg tk hS kk=>by
  have hn:H s.heap.objs.size=none:=I.hok.fresh (qjb _);refine⟨.ref s.heap.objs.size,_,I.laid (o:=Y5 X.prog X.w s.heap.objs.size (CW (λi=>(keysOf ys).getD i (.inl 0)) ys.length)) (λb o e=>kk b o e) (qjb _) ⟨hS,?_,λh1 h2 p k=>p.at k⟩,rfl,q _ hn⟩;obtain⟨o,_,_,_,e,_⟩:=hS;exact⟨o,e⟩
 rcases hq with hq|hq
 ·obtain⟨its,rv,pl,hz⟩:=I.list hq;obtain⟨h1,h2⟩:=Gv hk rv;have hl:=rv.length;refine Jm (val:=λi=>(keysOf ys).getD i (.inl 0)) (I.ok.hd hc) pl.isList (λi v e=>h2 i v (by simpa using e)) (by rw[qjj];omega) λg tk hS kk=>fin g tk ?_ kk;have ez:its.toArray.size=ys.length:=by rw[qjj,hl]
  rw[ez] at hS;exact hS
 ·obtain⟨its,rv,pl,hz⟩:=I.tuple hq;obtain⟨h1,h2⟩:=Gv hk rv;have hl:=rv.length;refine Gu (val:=λi=>(keysOf ys).getD i (.inl 0)) (I.ok.hd hc) (show s.heap.IsTuple a its.toArray from pl) (λi v e=>h2 i v (by simpa using e)) (by rw[qjj];omega) λg tk hS kk=>fin g tk ?_ kk;have ez:its.toArray.size=ys.length:=by rw[qjj,hl]
  rw[ez] at hS;exact hS
theorem Em:cA X (.builtin "len") (λxs H Q=>∃a l,xs=[.ref a]/\H a=some (Y5 X.prog X.w a l)/\Q (.int l.length) H):=by
 intro p_ s σ H xs us Q I r h;obtain⟨a,l,rfl,ha,q⟩:=h;obtain⟨u,rfl,ru⟩:=r.one;obtain rfl:u=Value.ref a:=ru;obtain⟨⟨o,es,ep,t,e,ex,hd,_,_,hsz,hf,hn⟩,_⟩:=(show b_ X.prog X.w H s.heap a (Y5 X.prog X.w a l) from I.hok a _ ha);refine call_len_set e ex hd hf (by unfold scanBound at hsz;omega) ⟨.int l.length,H,I.tok _,⟨_,by rw[hn]⟩,q⟩
end
section
variable {X:Cx}
def qdM:R2:=λx y H Q=>∃i j,x = .str i/\y = .str j/\i.length+j.length<=sizeLine/\Q (.str (i++j)) H
def qgL:R2:=λx y H Q=>∃i j,x = .str i/\y = .str j/\Q (.bl (!(Builtin.Str.occurrences j i 0 j.length 1).isEmpty)) H
def Y6:R2:=λx y H Q=>∃i j,x = .str i/\y = .str j/\Q (.bl (!(!(Builtin.Str.occurrences j i 0 j.length 1).isEmpty))) H
def Y7(K:W.Frag):R2:=λx y H Q=>rIn K false x y H Q\/qgL x y H Q
def Gw(K:W.Frag):R2:=λx y H Q=>rIn K true x y H Q\/Y6 x y H Q
theorem qbT:gJ X (compareOp .In) (Y7 X.K):=Ra.or QX
theorem Ro:gJ X (compareOp .NotIn) (Gw X.K):=Gh.or Gi
def qbU(K:W.Frag):R2:=λx y H Q=>∃p xs i v,x = .ref p/\y = .int i/\(aX K H p xs\/dg K H p xs)/\Ef xs i=some v/\Q v H
theorem ixQ:Vj X (qbU X.K):=by
 intro value slice p_ s σ H x y v u Q I rx ry h hs;obtain⟨p,xs,i,z,e1,e2,hq|hq,e3,q⟩:=h
 ·exact YW value slice p_ s σ H x y v u Q I rx ry ⟨p,xs,i,z,e1,e2,hq,e3,q⟩ hs
 ·exact qbH value slice p_ s σ H x y v u Q I rx ry ⟨p,xs,i,z,e1,e2,hq,e3,q⟩ hs
def qaE(K:W.Frag):List V->Hp->VK->Prop:=λxs H Q=>∃p ys,xs=[.ref p]/\(aX K H p ys\/dg K H p ys)/\Q (.int ys.length) H
def qaF:List V->Hp->VK->Prop:=λxs H Q=>∃z,xs=[.str z]/\z.length<=sizeLine/\Q (.int z.length) H
variable {K:W.Frag}
theorem qgM(hK:X.K=K):Vj X (qbU K):=by subst hK;exact ixQ
theorem inK(hK:X.K=K):gJ X (compareOp .In) (Y7 K):=by subst hK;exact qbT
theorem qbV(hK:X.K=K):gJ X (compareOp .NotIn) (Gw K):=by subst hK;exact Ro
theorem qdN(hK:X.K=K):cA X (.builtin "len") (qaE K):=by subst hK;exact Gj
theorem qdO:cA X (.builtin "len") qaF:=Gk
def Pu(K:W.Frag):List V->Hp->VK->Prop:=λxs H Q=>∃p ys,xs=[.ref p]/\(aX K H p ys\/dg K H p ys)/\∀l,H l=none->Q (.ref l) (upd H l (.lst ys))
theorem Y8(hK:X.K=K):cA X (.type "list") (Pu K):=by subst hK;exact Gm
def qaG(K:W.Frag):List V->Hp->VK->Prop:=λxs H Q=>∃x n t b,xs=[x,.ty n]/\j_ K H x t/\W.kitOne K t (.type n)=some b/\Q (.bl b) H
theorem qdP(hK:X.K=K):cA X (.builtin "isinstance") (qaG K):=by subst hK;exact Ri
def qaH(K:W.Frag):List V->Hp->VK->Prop:=λxs H Q=>∃x p m n t b,xs=[x,.ref p]/\H p=some (.tup [.ty m,.ty n])/\j_ K H x t/\W.kitAny K t [.type m,.type n]=some b/\Q (.bl b) H
theorem qdQ(hK:X.K=K):cA X (.builtin "isinstance") (qaH K):=by subst hK;exact Rj
theorem fL(hK:X.K=K){es:List Expr}{k:Nat}{pos:Pos}{t:Iu}{n:Nat}(hc:X.calm=true)(h:jF X es t)
  (hn:(assignEach es X.env).length=n:=by rfl) (hst:(assignEach es X.env).findIdx? (·.1)=none:=by rfl):PG X (.Tuple es k pos) (YC K n t):=by subst hK;exact qbl hc h hn hst
theorem bI(hK:X.K=K){tg l:Expr}{tl:TE}(hl:PE X l tl):PI X tg l (O4 K tl):=by subst hK;exact YF hl
theorem Y9(hK:X.K=K){tg l:Expr}{tl:TE}(hl:PE X l tl):PI X tg l (qbo K tl):=by subst hK;exact qbp hl
theorem Gx(hK:X.K=K){e:Expr}{ta:TE}{f:Str}{pos:Pos}(he:PE X e ta)(hb:attributeBase e f X.env (eval e X.env)=eval e X.env):PE X (.Attribute e f pos) (YM K ta f):=by subst hK;exact qbB he hb
theorem oM(hK:X.K=K){o e:Expr}{es:List Expr}{to:TE}{t:TA}{name:Str}{apos cpos:Pos}{T id:String}{r:V->List V->Hp->VK->Prop}(pa:PlainAttrs T)(slot:Slot T name id) (hty:typeOf (.builtin id)=pure (.type "method_descriptor")) (hm:Vk X id r) (ho:PE X o to) (ha:PA X (e::es) t)
  (hbase:attributeBase o name X.env (eval o X.env)=eval o X.env:=by rfl)
  (hfew:((backTo cpos (starEach (e::es) X.env)).all (λx=>!x.1) && (backToKw cpos (keywordEach [] X.env)).all (λx=>x.1.isSome)
   && decide ((e::es).length+([]:List Keyword).length+(if ([]:List Keyword).isEmpty then 0 else 1)<30))=true:=by rfl)
  (hline:(apos.endLine == cpos.line)=true:=by rfl) (hs:starEach (e::es) X.env=(false,eval e X.env)::starEach es X.env:=by rfl) (hplain:(backTo cpos (starEach es X.env)).any (·.1)=false:=by rfl) :
  PE X (.Call (.Attribute o name apos) (e::es) [] cpos) (tBM K T r to t):=by subst hK;exact qdF pa slot hty hm ho ha hbase hfew hline hs hplain
theorem lF:bootBuiltins "all" = some (.builtin "all"):=by decide+kernel
theorem tM:bootBuiltins "any" = some (.builtin "any"):=by decide+kernel
theorem boot_max:bootBuiltins "max" = some (.builtin "max"):=by decide+kernel
theorem boot_min:bootBuiltins "min" = some (.builtin "min"):=by decide+kernel
theorem boot_abs:bootBuiltins "abs" = some (.builtin "abs"):=by decide+kernel
theorem boot_divmod:bootBuiltins "divmod" = some (.builtin "divmod"):=by decide+kernel
end
structure Nm(mg:Str->Option Value):Prop where
 len:mg "len" = none
 max:mg "max" = none
 min:mg "min" = none
 abs:mg "abs" = none
 divmod:mg "divmod" = none
 range:mg "range" = none
 zip:mg "zip" = none
 list:mg "list" = none
 tuple:mg "tuple" = none
 int:mg "int" = none
 str:mg "str" = none
 set:mg "set" = none
 all:mg "all" = none
 isinstance:mg "isinstance" = none
section
variable {K:W.Frag}{own:QAH}{caps:List Nat}{g:TG}{tt:TT}{te:TE}{D:Addr}{σ:St}{H:Hp}{Q:Hp->Prop}
abbrev Jo(g:TG)(tt:TT)(te:TE)(D:Addr)(N:St->Hp->Prop)(x:V)(σ:St)(H:Hp):Prop:=
 g x σ H λσ2 H3=>tt σ2 H3 λb H4=>if b=true then te σ2 H4 λy H5=>∃ys,H5 D=some (.lst ys)/\ys.length<sizeLine/\N σ2 (upd H5 D (.lst (ys++[y]))) else N σ2 H4
theorem En{l:Addr}{xs:List V}(Pv:Nat->St->Hp->Prop)(h0:Pv 0 (stC own caps σ) H)(hl:∀i σ H,i<=xs.length->Pv i σ H->aX K H l xs)
  (hs:∀i x σ H,xs[i]? = some x->Pv i σ H->Jo g tt te D (Pv (i+1)) x σ H) (hd:∀σ H,Pv xs.length σ H->Q H):m9 own caps (Ui K l) g tt te D σ H Q:=by
 refine⟨λi m σ H=>m=xs.length - i/\i<=xs.length/\Pv i σ H,⟨xs.length,by simp,qjY _,h0⟩,?_⟩;rintro i m σ H ⟨rfl,hi,p⟩;have q:=hl i σ H hi p
 by_cases hlt:i<xs.length
 ·refine .inr ⟨⟨xs,xs[i],q,by simp[hlt]⟩,Pv (i+1),λσ' H' p'=>⟨xs.length - (i+1),by omega,rfl,hlt,p'⟩,λx H' y=>?_⟩;obtain⟨e,y⟩:=y;subst e;exact hs i x σ _ (y xs q) p
 ·have e:i=xs.length:=by omega
  subst e;exact .inl ⟨⟨xs,q,qjb _⟩,hd σ H p⟩
theorem Jp{l:Addr}{xs:List V}(Pv:Nat->St->Hp->Prop)(h0:Pv 0 (stC own caps σ) H)(hl:∀i σ H,i<=xs.length->Pv i σ H->dg K H l xs)
  (hs:∀i x σ H,xs[i]? = some x->Pv i σ H->Jo g tt te D (Pv (i+1)) x σ H) (hd:∀σ H,Pv xs.length σ H->Q H):m9 own caps (Itt K l) g tt te D σ H Q:=by
 refine⟨λi m σ H=>m=xs.length - i/\i<=xs.length/\Pv i σ H,⟨xs.length,by simp,qjY _,h0⟩,?_⟩;rintro i m σ H ⟨rfl,hi,p⟩;have q:=hl i σ H hi p
 by_cases hlt:i<xs.length
 ·refine .inr ⟨⟨xs,xs[i],q,by simp[hlt]⟩,Pv (i+1),λσ' H' p'=>⟨xs.length - (i+1),by omega,rfl,hlt,p'⟩,λx H' y=>?_⟩;obtain⟨e,y⟩:=y;subst e;exact hs i x σ _ (y xs q) p
 ·have e:i=xs.length:=by omega
  subst e;exact .inl ⟨⟨xs,q,qjb _⟩,hd σ H p⟩
theorem Ms{lo:Int}{n:Nat}(Pv:Nat->St->Hp->Prop)(h0:Pv 0 (stC own caps σ) H)
  (hs:∀i σ H,i<n->Pv i σ H->Jo g tt te D (Pv (i+1)) (.int (lo+i)) σ H) (hd:∀σ H,Pv n σ H->Q H):m9 own caps (Uj lo n) g tt te D σ H Q:=by
 refine⟨λi m σ H=>m=n - i/\i<=n/\Pv i σ H,⟨n,by simp,qjY _,h0⟩,?_⟩;rintro i m σ H ⟨rfl,hi,p⟩
 by_cases hlt:i<n
 ·refine .inr ⟨hlt,Pv (i+1),λσ' H' p'=>⟨n - (i+1),by omega,rfl,hlt,p'⟩,λx H' y=>?_⟩;obtain⟨e,y⟩:=y;subst e y;exact hs i σ _ hlt p
 ·have e:i=n:=by omega
  subst e;exact .inl ⟨qjb _,hd σ H p⟩
theorem Vs{z:Str}(Pv:Nat->St->Hp->Prop)(h0:Pv 0 (stC own caps σ) H)
  (hs:∀i c σ H,z.cps[i]? = some c->Pv i σ H->Jo g tt te D (Pv (i+1)) (.str ⟨#[c]⟩) σ H) (hd:∀σ H,Pv z.cps.size σ H->Q H):m9 own caps (Its z) g tt te D σ H Q:=by
 refine⟨λi m σ H=>m=z.cps.size - i/\i<=z.cps.size/\Pv i σ H,⟨z.cps.size,by simp,qjY _,h0⟩,?_⟩;rintro i m σ H ⟨rfl,hi,p⟩
 by_cases hlt:i<z.cps.size
 ·refine .inr ⟨hlt,Pv (i+1),λσ' H' p'=>⟨z.cps.size - (i+1),by omega,rfl,hlt,p'⟩,λx H' y=>?_⟩;obtain⟨e,c,hc,rfl⟩:=y;subst e;exact hs i c σ _ hc p
 ·have e:i=z.cps.size:=by omega
  subst e;exact .inl ⟨qjb _,hd σ H p⟩
end
def SqB(b:Bool)(K:W.Frag)(H:Hp)(p:Addr)(xs:List V):Prop:=match b with|true=>aX K H p xs|false=>dg K H p xs
def Itq(b:Bool)(K:W.Frag)(p:Addr):It:=match b with|true=>Ui K p|false=>Itt K p
def qbW(K:W.Frag)(tl:TE):TI:=λσ H R=>tl σ H λx H1=>∃b p,x = .ref p/\(∃xs,SqB b K H1 p xs)/\R (Itq b K p) H1
theorem tO{X:Cx}{K:W.Frag}(hK:X.K=K){tg l:Expr}{tl:TE}(hl:PE X l tl):PI X tg l (qbW K tl):=by
 intro p_ s σ H R I h;refine cF (hl p_ s σ H _ I h) λv s1 zz=>?_;obtain⟨x,H1,I1,r1,q1⟩:=zz;obtain⟨b,p,e,hq,q⟩:=q1;subst e;subst hK;cases b with
 |true=>
  cases r1;obtain⟨xs,hq⟩:=hq;obtain⟨its,rv,pl,hz⟩:=I1.list hq;refine qlq pl.isList ?_;refine⟨s1.heap.objs.size,[s1.heap.objs.size],_,_,H1,rfl,I1.kept (t':=s1.toks) λb o e=>qi6 _ e,DY p _,⟨_,qjg _ rfl,rfl,rfl⟩,λb hb=>?_,q⟩;have e:b=s1.heap.objs.size:=by simpa using hb
  subst e;exact I1.Dc (qjb _) (I1.hok.fresh (qjb _))
 |false=>
  cases r1;obtain⟨xs,hq⟩:=hq;obtain⟨its,rv,pl,hz⟩:=I1.tuple hq;refine qk3 (show s1.heap.IsTuple p its.toArray from pl) ?_;refine⟨s1.heap.objs.size,[s1.heap.objs.size],_,_,H1,rfl,I1.kept (t':=s1.toks) λb o e=>qi6 _ e,zU p _,⟨_,qjg _ rfl,rfl,rfl⟩,λb hb=>?_,q⟩;have e:b=s1.heap.objs.size:=by simpa using hb
  subst e;exact I1.Dc (qjb _) (I1.hok.fresh (qjb _))
section
variable {K:W.Frag}{own:QAH}{caps:List Nat}{g:TG}{tt:TT}{te:TE}{D:Addr}{σ:St}{H:Hp}{Q:Hp->Prop}
theorem Vt{b:Bool}{l:Addr}{xs:List V}(Pv:Nat->St->Hp->Prop)(h0:Pv 0 (stC own caps σ) H)(hl:∀i σ H,i<=xs.length->Pv i σ H->SqB b K H l xs)
  (hs:∀i x σ H,xs[i]? = some x->Pv i σ H->Jo g tt te D (Pv (i+1)) x σ H) (hd:∀σ H,Pv xs.length σ H->Q H):m9 own caps (Itq b K l) g tt te D σ H Q:=by
 cases b with
 |true=>exact En Pv h0 hl hs hd
 |false=>exact Jp Pv h0 hl hs hd
end
theorem aq{H:Hp}{p:Addr}{o:HO}(h:H p=none):Same H (upd H p o):=λb u e=>by rw[aD (aW e h)];exact e
theorem aU{H H':Hp}{p:Addr}{o:HO}(s:Same H H')(h:H p=none):Same H (upd H' p o):=λb u e=>by rw[aD (aW e h)];exact s b u e
def Sq(H:Hp)(p:Addr)(xs:List V):Prop:=H p=some (.lst xs)\/H p=some (.tup xs)
theorem Sq.q{K:W.Frag}{H:Hp}{p:Addr}{xs:List V}(h:Sq H p xs):aX K H p xs\/dg K H p xs:=h.elim (λe=>.inl (aX.of e)) λe=>.inr (dg.of e)
theorem Sq.b{H:Hp}{p:Addr}{xs:List V}(h:Sq H p xs):∃b,∀K H',Same H H'->SqB b K H' p xs:=h.elim (λe=>⟨true,λ_ _ s=>aX.of (s _ _ e)⟩) λe=>⟨false,λ_ _ s=>dg.of (s _ _ e)⟩
theorem Sq.same{H H':Hp}{p:Addr}{xs:List V}(h:Sq H p xs)(s:Same H H'):Sq H' p xs:=h.elim (λe=>.inl (s _ _ e)) λe=>.inr (s _ _ e)
theorem Sq.ty{K:W.Frag}{H:Hp}{p:Addr}{xs:List V}(h:Sq H p xs):j_ K H (.ref p) (.type "list")\/j_ K H (.ref p) (.type "tuple"):=h.elim (λe=>.inl (.lst e)) λe=>.inr (.tup e)
theorem gB{α:Type}(f:α->Bool):∀l:List α,m_ (l.map λc=>.bl (f c)) (l.map f)
 |[]=>rfl
 |c::l=>⟨f c,l.map f,rfl,rfl,gB f l⟩
theorem Mt{α:Type}(f:α->Bool)(l:List α):(l.map f).all id=l.all f:=by
 rw[List.all_map];rfl
theorem take_one{α:Type}{l:List α}{i:Nat}{x:α}(h:l[i]? = some x):l.take (i+1)=l.take i++[x]:=by
 rw[List.take_succ,h];rfl
def Px:List V->Hp->VK->Prop:=λxs H Q=>∃p ys,xs=[.ref p]/\Sq H p ys/\∀l H',H' l=some (.tup ys)->Same H H'->Q (.ref l) H'
theorem Vu{X:Cx}:cA X (.type "tuple") Px:=by
 intro p_ s σ H xs us Q I r h;obtain⟨p,ys,rfl,hq,q⟩:=h;refine Dg p_ s σ H _ us Q I r ⟨p,ys,rfl,?_⟩
 rcases hq with e|e
 ·exact .inl ⟨aX.of e,λl hl=>q l _ ak (aq hl)⟩
 ·exact .inr ⟨dg.of e,q p H e (Same.refl H)⟩
def qbX(J:It)(g:TG)(tb:TS):TS:=λD σ H=>∃jq:Nat->Nat->St->Hp->Prop,(∃m,jq 0 m σ H)/\∀i m σ H,jq i m σ H->
   (J.stop i H/\D.nx σ H)\/(J.go i H/\∃N:St->Hp->Prop,(∀σ' H',N σ' H'->∃m',m'<m/\jq (i+1) m' σ' H')/\∀x H',J.yld i H x H'->g x σ H' λσ2 H2=>tb {D with nx:=N,ct:=N,bk:=D.nx} σ2 H2)
theorem cH{H:Hp}{b p:Addr}{o u:HO}(h:H b=some o)(n:H p=none):upd H p u b=some o:=by rw[aD (aW h n)];exact h
theorem Py{H:Hp}{b p:Addr}{o o' u:HO}(h:H b=some o)(n:H p=some o')(d:o≠o'):upd H p u b=some o:=by
 rw[aD (λe=>d (by subst e;rw[h] at n;exact qjI n))];exact h
theorem bK{H H':Hp}{b:Addr}(s:Same H H')(h:H' b=none):H b=none:=by
 cases e:H b with
 |none=>rfl
 |some o=>rw[s b o e] at h;cases h
def But(p:Addr)(H H':Hp):Prop:=∀b o,b≠p->H b=some o->H' b=some o
theorem But.refl(p:Addr)(H:Hp):But p H H:=λ_ _ _ e=>e
theorem But.trans{p:Addr}{H H1 H2:Hp}(x:But p H H1)(y:But p H1 H2):But p H H2:=λb o hb e=>y b o hb (x b o hb e)
theorem But.new{p q:Addr}{H H':Hp}{u:HO}(x:But p H H')(h:H q=none):But p H (upd H' q u):=λb o hb e=>by
 rw[aD (aW e h)];exact x b o hb e
theorem But.same{p:Addr}{H H1 H2:Hp}(x:But p H H1)(y:Same H1 H2):But p H H2:=λb o hb e=>y b o (x b o hb e)
theorem But.none{p b:Addr}{H H':Hp}{u:HO}(x:But p H H')(hp:H' p=some u)(h:H' b = .none):H b = .none:=by
 cases e:H b with
 |none=>rfl
 |some o=>
  have hb:b≠p:=λz=>by subst z;rw[hp] at h;cases h
  rw[x b o hb e] at h;cases h
theorem z7{xs:QAH}{i:Nat}{x:V}(h:(xs.map V.str)[i]? = some x):∃z,xs[i]? = some z/\x = .str z:=by
 rw[qje] at h;cases e:xs[i]? with
 |none=>rw[e] at h;cases h
 |some z=>rw[e] at h;exact⟨z,rfl,(qjI h).symm⟩
theorem pK{α:Type}{xs:List α}(h:xs.Nodup){i j:Nat}{x:α}(hi:xs[i]? = some x)(hj:xs[j]? = some x):i=j:=by
 obtain⟨h1,e1⟩:=qi5.mp hi;obtain⟨h2,e2⟩:=qi5.mp hj;exact(List.getElem_inj h).mp (e1.trans e2.symm)
def Yq(c:Nat):Bool:=!(Builtin.Str.occurrences ("abcdefghijklmnopqrstuvwxyz" : Str) ⟨#[c]⟩ 0 ("abcdefghijklmnopqrstuvwxyz" : Str).length 1).isEmpty
def nameB(x:Str):Bool:=decide (1<=x.length) && decide (x.length<=4) && x.cps.toList.all Yq
theorem Vv:∀n<26,Yq (97+n)=true:=by decide+kernel
theorem Mu:∀n:Nat,n<26->Ef (Str.ofString "abcdefghijklmnopqrstuvwxyz").cps.toList (n:Int)=some (97+n):=by decide+kernel
theorem yP:(Str.ofString "abcdefghijklmnopqrstuvwxyz").length<=sizeLine:=by decide+kernel
theorem rJ{i:Int}(h0:0<=i)(h1:i<26):∃n:Nat,i=n/\n<26/\Ef (Str.ofString "abcdefghijklmnopqrstuvwxyz").cps.toList i=some (97+n):=
 ⟨i.toNat,by omega,by omega,by
  obtain⟨n,rfl⟩:∃n:Nat,i=n:=⟨i.toNat,by omega⟩;exact Mu n (by omega)⟩
structure qb(c:Nat)(k:Nat)(x:Str):Prop where
 len:x.length=k
 fst:x.cps[0]? = some c
 all:x.cps.toList.all Yq=true
theorem qb.one{n:Nat}(h:n<26):qb (97+n) 1 ⟨#[97+n]⟩:=⟨rfl,rfl,by simp[Vv n h]⟩
theorem qb.name{c k:Nat}{x:Str}(h:qb c k x)(h1:1<=k)(h4:k<=4):nameB x=true:=by
 unfold nameB;rw[h.len,h.all];simp;omega
section
variable {κ:Type} [DecidableEq κ]
def kY(kvs:List (κ×V))(k:κ):Option V:=(kvs.find? λkv=>decide (kv.1=k)).map (·.2)
def putK(kvs:List (κ×V))(k:κ)(v:V):List (κ×V):=
 if (kvs.any λkv=>decide (kv.1=k))=true then kvs.map (λkv=>if kv.1=k then (kv.1,v) else kv) else kvs++[(k,v)]
theorem v7{p:κ×V}{r:List (κ×V)}{k:κ}(e:p.1=k):kY (p::r) k=some p.2:=by simp[kY,qln,e]
theorem wg{p:κ×V}{r:List (κ×V)}{k:κ}(e:¬p.1=k):kY (p::r) k=kY r k:=by simp[kY,qln,e]
theorem z8(k:κ):∀kvs:List (κ×V),(kvs.any λkv=>decide (kv.1=k))=(kY kvs k).isSome
 |[]=>rfl
 |p::r=>by
  rw[qld]
  by_cases e:p.1=k
  ·simp only[v7 e,qj2 e,Bool.true_or,Option.isSome_some]
  ·rw[wg e,qjM e,Bool.false_or];exact z8 k r
theorem rK(kvs:List (κ×V))(k:κ)(v:V):(putK kvs k v).length<=kvs.length+1:=by
 unfold putK;split
 ·rw[qja];omega
 ·rw[qjF,qjt,List.length_nil];omega
theorem Vw{kvs:List (κ×V)}{k:κ}(v:V)(h:kY kvs k=none):putK kvs k v=kvs++[(k,v)]:=by
 unfold putK;rw[z8,h];exact if_neg (by decide)
theorem lQ.pL{o:Option V}{u:QAG}(r:lQ o u):o.isSome=u.isSome:=by
 cases o with
 |none=>cases u with
  |none=>rfl
  |some _=>exact(show False from r).elim
 |some _=>cases u with
  |none=>exact(show False from r).elim
  |some _=>rfl
theorem lQ.getD{o:Option V}{u:QAG}{d:V}{d':Value}(r:lQ o u)(rd:RelV d d'):RelV (o.getD d) (u.getD d'):=by
 cases o with
 |none=>cases u with
  |none=>exact rd
  |some _=>exact(show False from r).elim
 |some _=>cases u with
  |none=>exact(show False from r).elim
  |some _=>exact r
theorem KV.val{kvs:List (κ×V)}{vs:List (κ×Value)}(r:KV kvs vs)(k:κ):lQ (kY kvs k) (valueAt vs k):=by
 unfold KV at r
 induction r with
 |nil=>exact True.intro
 | @cons p q ps qs h t ih=>
  obtain⟨h1,h2⟩:=h
  by_cases e:p.1=k
  ·have e':q.1=k:=h1.symm.trans e;have b:valueAt (q::qs) k=some q.2:=by simp[valueAt,qln,e']
   rw[v7 e,b];exact h2
  ·have e':¬q.1=k:=λz=>e (h1.trans z);have b:valueAt (q::qs) k=valueAt qs k:=by simp[valueAt,qln,e']
   rw[wg e,b];exact ih
theorem KV.any{kvs:List (κ×V)}{vs:List (κ×Value)}(r:KV kvs vs)(k:κ):(kvs.any λkv=>decide (kv.1=k))=vs.any λkv=>decide (kv.1=k):=by
 unfold KV at r
 induction r with
 |nil=>rfl
 |cons h t ih=>rw[qld,qld,ih,h.1]
theorem KV.repl{kvs:List (κ×V)}{vs:List (κ×Value)}(r:KV kvs vs)(k:κ){y:V}{u:Value}(ry:RelV y u) :
  KV (kvs.map λkv=>if kv.1=k then (kv.1,y) else kv) (vs.map λkv=>if kv.1=k then (kv.1,u) else kv):=by
 unfold KV at r⊢
 induction r with
 |nil=>exact .nil
 | @cons p q ps qs h t ih=>
  rw[qjO,qjO];refine .cons ?_ ih;obtain⟨h1,h2⟩:=h
  by_cases e:p.1=k
  ·rw[if_pos e,if_pos (h1.symm.trans e)];exact⟨h1,ry⟩
  ·rw[if_neg e,if_neg (λz=>e (h1.trans z))];exact⟨h1,h2⟩
theorem KV.put{kvs:List (κ×V)}{vs:List (κ×Value)}(r:KV kvs vs)(k:κ){y:V}{u:Value}(ry:RelV y u):KV (putK kvs k y) (stored vs k u):=by
 unfold putK stored;rw[r.any k]
 by_cases e:(vs.any λkv=>decide (kv.1=k))=true
 ·rw[if_pos e,if_pos e];exact r.repl k ry
 ·rw[if_neg e,if_neg e];exact Paired.snoc r ⟨rfl,ry⟩
theorem KV.length{kvs:List (κ×V)}{vs:List (κ×Value)}(r:KV kvs vs):kvs.length=vs.length:=Paired.length r
end
theorem z9{P:Program}{w:World}{k:Key}{u:Value}(r:RelV (kV k) u):(bJ P w).is k u=true:=by
 cases k with
 |inl i=>obtain⟨t,e⟩:=(show ∃t,u=Value.int i t from r);subst e;exact yM P w i t
 |inr x=>obtain⟨t,e⟩:=(show ∃t,u=Value.str x t from r);subst e;exact Iz P w x t
theorem Eo{P:Program}{w:World}:∀{ks:List Key}{us:QAE},Vals (ks.map kV) us->ItemsAre (bJ P w) ks us
 |[],_,r=>by rw[qk_] at r;cases r;exact .nil
 |k::ks,_,r=>by
  rw[qjO] at r;cases r with
  |cons h t=>exact .cons (z9 h) (Eo t)
abbrev KT(H:Hp):List (List Key×V)->List (List Key×Addr×Value)->Prop:=Paired λp q=>p.1=q.1/\H q.2.1=some (.tup (p.1.map kV))/\RelV p.2 q.2.2
theorem KT.val{H:Hp}{kvs:List (List Key×V)}{xs:List (List Key×Addr×Value)}(r:KT H kvs xs)(k:List Key):lQ (kY kvs k) ((atKey xs k).map (·.2)):=by
 induction r with
 |nil=>exact True.intro
 | @cons p q ps qs h t ih=>
  obtain⟨h1,_,h2⟩:=h
  by_cases e:p.1=k
  ·have e':q.1=k:=h1.symm.trans e;have b:atKey (q::qs) k=some q.2:=by simp[atKey,qln,e']
   rw[v7 e,b];exact h2
  ·have e':¬q.1=k:=λz=>e (h1.trans z);have b:atKey (q::qs) k=atKey qs k:=by simp[atKey,qln,e']
   rw[wg e,b];exact ih
theorem KT.repl{H:Hp}{kvs:List (List Key×V)}{xs:List (List Key×Addr×Value)}(r:KT H kvs xs)(k:List Key){y:V}{u:Value}(ry:RelV y u) :
  KT H (kvs.map λkv=>if kv.1=k then (kv.1,y) else kv) (xs.map (putAt k u)):=by
 induction r with
 |nil=>exact .nil
 | @cons p q ps qs h t ih=>
  rw[qjO,qjO];refine .cons ?_ ih;obtain⟨h1,h2,h3⟩:=h;unfold putAt
  by_cases e:p.1=k
  ·rw[if_pos e,if_pos (h1.symm.trans e)];exact⟨h1,h2,ry⟩
  ·rw[if_neg e,if_neg (λz=>e (h1.trans z))];exact⟨h1,h2,h3⟩
theorem KT.put{H:Hp}{kvs:List (List Key×V)}{xs:List (List Key×Addr×Value)}(r:KT H kvs xs)(k:List Key){b:Addr}{y:V}{u:Value}(hb:H b=some (.tup (k.map kV)))(ry:RelV y u) :
  KT H (putK kvs k y) (storedH xs k b u):=by
 have e:(kvs.any λkv=>decide (kv.1=k))=(atKey xs k).isSome:=by
  rw[z8,(r.val k).pL,Option.isSome_map]
 unfold putK storedH;rw[e]
 by_cases q:(atKey xs k).isSome=true
 ·rw[if_pos q,if_pos q];exact r.repl k ry
 ·rw[if_neg q,if_neg q];exact Paired.snoc r ⟨rfl,hb,ry⟩
theorem KT.keeps{H H':Hp}{kvs:List (List Key×V)}{xs:List (List Key×Addr×Value)}(r:KT H kvs xs)(ht:∀b ys,H b=some (.tup ys)->H' b=some (.tup ys)):KT H' kvs xs:=
 Paired.qbf r λ_ _ z=>⟨z.1,ht _ _ z.2.1,z.2.2⟩
section
variable {P:Program}{w:World}{H:Hp}{h:Heap}{a:Addr}
theorem qaI{u:HO}(ok:tH P w H h)(e:Rd H a u):b_ P w H h a u:=e.ok ok
theorem z_{kvs:List (Key×V)}(ok:tH P w H h)(e:Rd H a (.dK kvs)):kvs.length<=sizeLine/\(a == sysModules)=false/\∃vs,KV kvs vs/\h.DictOf (bJ P w) a vs:=
 show b_ P w H h a (.dK kvs) from qaI ok e
theorem qaJ{kvs:List (Key×V)}(ok:tH P w H h)(e:H a=some (.dK kvs)):kvs.length<=sizeLine/\(a == sysModules)=false/\∃vs,KV kvs vs/\h.DictOf (bJ P w) a vs:=z_ ok (.inl e)
theorem xK{ks:List Key}(ok:tH P w H h)(e:H a=some (.tup (ks.map kV))):(tupleKind (bJ P w)).is h ks a:=by
 obtain⟨_,its,r,o,h1,h2,n,h3⟩:=(show b_ P w H h a (.tup (ks.map kV)) from ok a _ e);exact⟨o,its.toArray,n,h1,h2,h3,by simpa using Eo r⟩
theorem Aa{kvs:List (List Key×V)}(ok:tH P w H h)(e:Rd H a (.dT kvs)):kvs.length<=sizeLine/\(a == sysModules)=false/\
  ∃xs,KT H kvs xs/\h.DictOfH (tupleKind (bJ P w)) a xs:=by
 obtain⟨z,y,xs,r,o,es,ep,h1,h2,h3,h4,h5⟩:=(show b_ P w H h a (.dT kvs) from qaI ok e);refine⟨z,y,xs,r,o,es,ep,h1,h2,h3,h4,λx hx=>?_,h5⟩;have all:∀{l:List (List Key×V)}{m:List (List Key×Addr×Value)},KT H l m->∀x∈m,(tupleKind (bJ P w)).is h x.1 x.2.1:=by
  intro l m q
  induction q with
  |nil=>intro x hx;exact nomatch hx
  | @cons p q ps qs hq t ih=>
   intro x hx
   rcases qjm.mp hx with e|hx
   ·subst e;exact xK ok (by rw[<- hq.1];exact hq.2.1)
   ·exact ih x hx
 exact all r x hx
theorem qdR{kvs:List (List Key×V)}(ok:tH P w H h)(e:H a=some (.dT kvs)):kvs.length<=sizeLine/\(a == sysModules)=false/\
  ∃xs,KT H kvs xs/\h.DictOfH (tupleKind (bJ P w)) a xs:=Aa ok (.inl e)
end
def ju(H:Hp)(a:Addr)(y:V)(r:Option V):Prop:=
 (∃kvs k,Rd H a (.dK kvs)/\y=kV k/\r=kY kvs k)\/∃kvs k b,Rd H a (.dT kvs)/\y = .ref b/\H b=some (.tup (k.map kV))/\r=kY kvs k
def Gy(H:Hp)(a:Addr)(y v:V)(H':Hp):Prop:=
 (∃kvs k,H a=some (.dK kvs)/\y=kV k/\kvs.length<sizeLine/\H'=upd H a (.dK (putK kvs k v)))\/
 ∃kvs k b,H a=some (.dT kvs)/\y = .ref b/\H b=some (.tup (k.map kV))/\kvs.length<sizeLine/\H'=upd H a (.dT (putK kvs k v))
theorem ju.k{H:Hp}{a:Addr}{kvs:List (Key×V)}{k:Key}(e:H a=some (.dK kvs)):ju H a (kV k) (kY kvs k):=.inl ⟨kvs,k,.inl e,rfl,rfl⟩
theorem Gy.k{H:Hp}{a:Addr}{kvs:List (Key×V)}{k:Key}{v:V}(e:H a=some (.dK kvs))(hl:kvs.length<sizeLine):Gy H a (kV k) v (upd H a (.dK (putK kvs k v))):=.inl ⟨kvs,k,e,rfl,hl,rfl⟩
section
variable {X:Cx}{p_:QAC}{σ:St}{H:Hp}{s:Shared}{a:Addr}{y v:V}{u r:Value}{o:Option V}{A:Around}{E:QAB}
theorem Inv.big(I:Inv X p_ σ H s):sysModules<s.heap.objs.size:=by
 have h:mainGlobals<s.heap.objs.size:=(I.mod.glob.keeps I.bk).lt;exact Nat.lt_trans (by decide) h
theorem Rp{Q:QAB}(hu:A.units+1<cLine)(I:Inv X p_ σ H s)(g:ju H a y (some v))(ry:RelV y u)(h:∀w' s',Inv X p_ σ H s'->RelV v w'->Q w' s') :
  wpAny (model X.prog X.w) A (getItem (.ref a) u) Q E s:=by
 rcases g with⟨kvs,k,e,ey,l⟩|⟨kvs,k,b,e,ey,eb,l⟩
 ·subst ey;obtain⟨z,hd,vs,rel,dd⟩:=z_ I.hok e;obtain⟨w',hw,Vl⟩:=lQ.some_of (v:=v) (o:=valueAt vs k) (by rw[l];exact rel.val k);exact wpAny_getItem_of (z9 ry) dd.mapOf hw (h w' _ (I.tok _) Vl)
 ·subst ey;cases (show u=Value.ref b from ry);obtain⟨z,hd,xs,rel,dd⟩:=Aa I.hok e;obtain⟨w',hw,Vl⟩:=lQ.some_of (v:=v) (o:=(atKey xs k).map (·.2)) (by rw[l];exact rel.val k);obtain⟨p,hp,hp2⟩:=qju.mp hw;refine wpAny_getItem_heap (qlk hu) (xK I.hok eb) dd hp ?_;rw[hp2];exact h w' _ (I.tok _) Vl
theorem qgN{Q:QAB}(hu:A.units+1<cLine)(I:Inv X p_ σ H s)(g:ju H a y o)(ry:RelV y u)(h:∀s',Inv X p_ σ H s'->Q (.bool o.isSome) s') :
  wpAny (model X.prog X.w) A (compareOp .In u (.ref a)) Q E s:=by
 rcases g with⟨kvs,k,e,ey,l⟩|⟨kvs,k,b,e,ey,eb,l⟩
 ·subst ey;obtain⟨z,hd,vs,rel,dd⟩:=z_ I.hok e;refine wpAny_in_of (z9 ry) hd dd.mapOf ?_;rw[<- (rel.val k).pL,<- l];exact h _ (I.tok _)
 ·subst ey;cases (show u=Value.ref b from ry);obtain⟨z,hd,xs,rel,dd⟩:=Aa I.hok e;refine wpAny_in_heap (qlk hu) (xK I.hok eb) hd dd ?_;have q:=(rel.val k).pL;rw[Option.isSome_map] at q;rw[<- q,<- l];exact h _ (I.tok _)
theorem Y_{Q:QAB}(hu:A.units+1<cLine)(I:Inv X p_ σ H s)(g:ju H a y o)(ry:RelV y u)(h:∀s',Inv X p_ σ H s'->Q (.bool (!o.isSome)) s') :
  wpAny (model X.prog X.w) A (compareOp .NotIn u (.ref a)) Q E s:=by
 rcases g with⟨kvs,k,e,ey,l⟩|⟨kvs,k,b,e,ey,eb,l⟩
 ·subst ey;obtain⟨z,hd,vs,rel,dd⟩:=z_ I.hok e;refine wpAny_notIn_of (z9 ry) hd dd.mapOf ?_;rw[<- (rel.val k).pL,<- l];exact h _ (I.tok _)
 ·subst ey;cases (show u=Value.ref b from ry);obtain⟨z,hd,xs,rel,dd⟩:=Aa I.hok e;refine wpAny_notIn_heap (qlk hu) (xK I.hok eb) hd dd ?_;have q:=(rel.val k).pL;rw[Option.isSome_map] at q;rw[<- q,<- l];exact h _ (I.tok _)
theorem Gz{h':Heap}{t':Nat}{ob:HO}(I:Inv X p_ σ H s)(mu:Mut (H a))(hs:Heap.SameBut a s.heap h')(he:∃q,h'.get? a=some q)(new:b_ X.prog X.w (upd H a ob) h' a ob) :
  Inv X p_ σ (upd H a ob) {s with heap:=h',toks:=t'}:=
 I.write (x:=a) (e:=a) mu (.inl rfl) (λb q hb z=>(hs.2 b hb).trans z) he new
theorem Vx{P:Program}{w:World}{H':Hp}{h':Heap}{kvs:List (Key×V)}{vs:List (Key×Value)}(z:kvs.length<=sizeLine)(hd:(a == sysModules)=false)(rel:KV kvs vs)(dd:h'.DictOf (bJ P w) a vs) :
  b_ P w H' h' a (.dK kvs):=⟨z,hd,vs,rel,dd⟩
theorem Rq{H':Hp}{Q:Unit->Shared->Prop}(hu:A.units+1<cLine)(I:Inv X p_ σ H s)(g:Gy H a y v H')(ry:RelV y u)(rv:RelV v r)(h:∀s',Inv X p_ σ H' s'->Q () s') :
  wpAny (model X.prog X.w) A (setItem (.ref a) u r) Q E s:=by
 rcases g with⟨kvs,k,e,ey,l,eH⟩|⟨kvs,k,b,e,ey,eb,l,eH⟩
 ·subst ey eH;obtain⟨z,hd,vs,rel,dd⟩:=qaJ I.hok e;have hz:vs.length<=sizeLine:=by rw[<- rel.length];exact z
  have hl:(putK kvs k v).length<=sizeLine:=by have:=rK kvs k v;omega
  refine wpAny_setItem_pairs (hsz:=hz) (z9 ry) dd λh' dd' hs=>h _ ?_;have he:∃q,h'.get? a=some q:=let ⟨q,_,_,hq,_⟩:=dd';⟨q,hq⟩;exact Gz I (by rw[e];exact True.intro) hs he (Vx hl hd (rel.put k rv) dd')
 ·subst ey eH;cases (show u=Value.ref b from ry);obtain⟨z,hd,xs,rel,dd⟩:=qdR I.hok e;have hz:xs.length<=sizeLine:=by rw[<- Paired.length rel];exact z
  have hl:(putK kvs k v).length<=sizeLine:=by have:=rK kvs k v;omega
  refine wpAny_setItem_heap (hsz:=hz) (qlk hu) (xK I.hok eb) dd λh' dd' hs=>h _ ?_;obtain⟨q,es,ep,hq,h2,h3,h4,_,h5⟩:=dd';refine Gz I (by rw[e];exact True.intro) hs ⟨q,hq⟩ ⟨hl,hd,_,(rel.put k eb rv).keeps λc ys ec=>?_,q,es,ep,hq,h2,h3,h4,h5⟩;rw[aD (iR ec e (λz=>nomatch z))];exact ec
end
def qdS(i:Expr):Prop:=∀ov iv,subscripted i false ov iv=operate [ov,iv] (getItem ov iv)
theorem Za{prog:Program}{w:World}{A:Around}{E:QAB}{s:Shared}{env:Env}{value slice:Expr}{pos:Pos}{T id:String}{Q:QAB}
  (hl:typeLookup (.type T) "__getitem__" = pure (some (.builtin id))) (hs:qdS slice)
  (h:wpAny (model prog w) A (eval value env) (λo s₁=>wpAny (model prog w) A (eval slice env) (λi s₂=>s₂.TypeIs o T/\wpAny (model prog w) A (getItem o i) Q E s₂) E s₁) E s) :
  wpAny (model prog w) A (eval (.Subscript value slice pos) env) Q E s:=by
 refine Subscript_ (qkd h (λo s₁ h₁=>qkd h₁ (λi s₂ h₂=>?_) λ_ _ x=>x) λ_ _ x=>x);obtain⟨hT,h₂⟩:=h₂;unfold subscriptTail;refine qi4 ?_;rw[getitemInPython_of_ne hT.not_modules];refine qi4 (wpAny_specialOf hT hl ?_);have fin:wpAny (model prog w) A (subscripted slice false o i) (λr s₃=>wpAny (model prog w) A (letTemporaryGo value o r >>= λ_=>pure r) Q E s₃) E s₂:=by
  rw[hs o i];exact wpAny_operating (qkd h₂ (λr s₃ h₃=>qi4 (wpAny_letTemporaryGo (qi_ h₃))) λ_ _ x=>x)
 first
  |exact qi_ (qi4 fin)
  |exact qi4 (qi_ (qi4 fin))
  |exact qi4 fin
theorem Jq{X:Cx}{p_:QAC}{σ:St}{H:Hp}{s:Shared}{a:Addr}{y:V}{o:Option V}(I:Inv X p_ σ H s)(g:ju H a y o):s.TypeIs (.ref a) "dict" :=by
 rcases g with⟨kvs,k,e,_,_⟩|⟨kvs,k,b,e,_,_,_⟩
 ·obtain⟨_,_,vs,_,dd⟩:=z_ I.hok e;exact dd.typeIs
 ·obtain⟨_,_,xs,_,dd⟩:=Aa I.hok e;exact dd.typeIs
def Vy(td ty:TE):TE:=λσ H Q=>td σ H λx H1=>ty σ H1 λy H2=>∃a v,x = .ref a/\ju H2 a y (some v)/\Q v H2
def qbY(ty td:TE):TE:=λσ H Q=>ty σ H λy H1=>td σ H1 λx H2=>∃a o,x = .ref a/\ju H2 a y o/\Q (.bl o.isSome) H2
def GC(ty td:TE):TE:=λσ H Q=>ty σ H λy H1=>td σ H1 λx H2=>∃a o,x = .ref a/\ju H2 a y o/\Q (.bl (!o.isSome)) H2
def Vz(td ty tv:TE):TS:=λD σ H=>tv σ H λv H1=>td σ H1 λx H2=>ty σ H2 λy H3=>∃a H4,x = .ref a/\Gy H3 a y v H4/\D.nx σ H4
section
variable {X:Cx}{o i e value:Expr}{pos pos' tpos:Pos}{td ty tv:TE}
theorem Zb(hu:X.A.units+1<cLine)(ho:PE X o td)(hi:PE X i ty)(hs:qdS i):PE X (.Subscript o i pos) (Vy td ty):=by
 intro p_ s σ H Q I h;refine Za PySem.F.slot_dict_getitem.lookup hs (cF (ho p_ s σ H _ I h) λu s1 ⟨x,H1,I1,rx,q1⟩=>cF (hi p_ s1 σ H1 _ I1 q1) λiv s2 ⟨y,H2,I2,ry,a,v,ex,g,q2⟩=>?_);subst ex;obtain rfl:u=Value.ref a:=rx;exact⟨Jq I2 g,Rp hu I2 g ry λw' s3 I3 Vl=>⟨v,H2,I3,Vl,q2⟩⟩
theorem qbZ(hu:X.A.units+1<cLine)(hi:PE X i ty)(ho:PE X o td):PC X .In i o (qbY ty td):=by
 intro p_ s σ H Q I h;refine cF (hi p_ s σ H _ I h) λiv s1 ⟨y,H1,I1,ry,q1⟩=>cF (ho p_ s1 σ H1 _ I1 q1) λu s2 ⟨x,H2,I2,rx,a,ov,ex,g,q2⟩=>?_;subst ex;obtain rfl:u=Value.ref a:=rx;exact qgN hu I2 g ry λs3 I3=>⟨.bl ov.isSome,H2,I3,rfl,q2⟩
theorem Rr(hu:X.A.units+1<cLine)(hi:PE X i ty)(ho:PE X o td):PC X .NotIn i o (GC ty td):=by
 intro p_ s σ H Q I h;refine cF (hi p_ s σ H _ I h) λiv s1 ⟨y,H1,I1,ry,q1⟩=>cF (ho p_ s1 σ H1 _ I1 q1) λu s2 ⟨x,H2,I2,rx,a,ov,ex,g,q2⟩=>?_;subst ex;obtain rfl:u=Value.ref a:=rx;exact Y_ hu I2 g ry λs3 I3=>⟨.bl (!ov.isSome),H2,I3,rfl,q2⟩
theorem Zc(hu:X.A.units+1<cLine)(ho:PE X o td)(hi:PE X i ty)(hv:PE X value tv)(hs:swapsWith value (some (.Subscript o i pos')) pos.line X.env=pure false) :
  PS X (.Assign [.Subscript o i pos'] value pos) (Vz td ty tv):=by
 intro p_ s σ H D I h;refine wpAny_Assign_Subscript (cF (hv p_ s σ H _ I h) λr s1 ⟨v,H1,I1,rv,q1⟩=>cF (ho p_ s1 σ H1 _ I1 q1) λu s2 ⟨x,H2,I2,rx,q2⟩=>cF (hi p_ s2 σ H2 _ I2 q2) λiv s3 ⟨y,H3,I3,ry,a,H4,ex,g,q3⟩=>?_) hs;subst ex;obtain rfl:u=Value.ref a:=rx;exact Rq hu I3 g ry rv λs4 I4=>⟨σ,H4,I4,q3⟩
end
theorem Jr{P:Program}{w:World}{H:Hp}(h:Heap)(hb:sysModules<h.objs.size):b_ P w H (h.push {cls:=.type "dict",data:=.dict #[]}) h.objs.size (.dK []):=
 ⟨qjY _,qkW.mpr (qk7 (qjn hb)),[],.nil,Heap.DictOf.new h⟩
def VB:TE:=λ_ H Q=>∀p,H p=none->Q (.ref p) (upd H p (.dK []))
section
variable {X:Cx}{pos:Pos}
theorem Js:PE X (.Dict [] [] pos) VB:=λp_ s σ H Q I h=>
 wpAny_Dict_empty ⟨.ref s.heap.objs.size,_,I.laid (a:=s.heap.objs.size) (o:=.dK []) (t':=s.toks) (λ_ _ q=>qi6 _ q) (qjb _) (Jr s.heap I.big),rfl,h _ (I.hok.fresh (qjb _))⟩
end
def uV:List (TE×TE)->St->Hp->(List (V×V)->Hp->Prop)->Prop
 |[],_,H,Q=>Q [] H
 |(tk,tv)::r,σ,H,Q=>tk σ H λx H1=>tv σ H1 λy H2=>uV r σ H2 λps H3=>Q ((x,y)::ps) H3
abbrev VV:List (V×V)->List (Value×Value)->Prop:=Paired λp q=>RelV p.1 q.1/\RelV p.2 q.2
def PPs(X:Cx)(pos:Pos)(keys:List (Option Expr))(values:List Expr)(Uk:List (TE×TE)):Prop:=
 ∀(p_:QAC)(s:Shared)(σ:St)(H:Hp)(Q:List (V×V)->Hp->Prop),Inv X p_ σ H s->uV Uk σ H Q->
  wpAny (model X.prog X.w) X.A (evalPairs (pairTrees keys values X.env pos)) (λvs s'=>∃ps H',Inv X p_ σ H' s'/\VV ps vs/\Q ps H') X.xe s
theorem Zd{X:Cx}{pos:Pos}:PPs X pos [] [] []:=λp_ s σ H Q I h=>pairTrees_nil_walk ⟨[],H,I,.nil,h⟩
theorem VD{X:Cx}{pos:Pos}{k v:Expr}{ks:List (Option Expr)}{vs:List Expr}{tk tv:TE}{Uk:List (TE×TE)}(hk:PE X k tk)(hv:PE X v tv)(hr:PPs X pos ks vs Uk) :
  PPs X pos (some k::ks) (v::vs) ((tk,tv)::Uk):=λp_ s σ H Q I h=>
 pairTrees_cons_walk (cF (hk p_ s σ H _ I h) λu s1 ⟨x,H1,I1,rx,q1⟩=>cF (hv p_ s1 σ H1 _ I1 q1) λw2 s2 ⟨y,H2,I2,ry,q2⟩=>
  cF (hr p_ s2 σ H2 _ I2 q2) λws s3 ⟨ps,H3,I3,rel,q3⟩=>⟨(x,y)::ps,H3,I3,.cons ⟨rx,ry⟩ rel,q3⟩)
def uW(kvs more:List (Key×V)):List (Key×V):=more.foldl (λacc kv=>putK acc kv.1 kv.2) kvs
theorem KV.merge:∀{more:List (Key×V)}{rs:List (Key×Value)}{kvs:List (Key×V)}{vs:List (Key×Value)},KV more rs->KV kvs vs->KV (uW kvs more) (merged vs rs):=by
 intro more rs kvs vs r;unfold KV at r
 induction r generalizing kvs vs with
 |nil=>intro q;exact q
 | @cons p q ps qs h t ih=>
  intro r0;have e:KV (putK kvs p.1 p.2) (stored vs q.1 q.2):=by
   have:=r0.put p.1 h.2;rw[<- h.1];exact this
  exact ih e
theorem uD:∀(more kvs:List (Key×V)),(uW kvs more).length<=kvs.length+more.length
 |[],kvs=>by show kvs.length<=kvs.length+0;omega
 |p::r,kvs=>by
  have h1:=uD r (putK kvs p.1 p.2);have h2:=rK kvs p.1 p.2;show(uW (putK kvs p.1 p.2) r).length<=_;rw[qjt];omega
theorem Ab{P:Program}{w:World}:∀{kvs:List (Key×V)}{ws:List (Value×Value)},VV (kvs.map λkv=>(kV kv.1,kv.2)) ws->∃rs,Carries (bJ P w) ws rs/\KV kvs rs
 |[],_,r=>by rw[qk_] at r;cases r;exact⟨[],True.intro,.nil⟩
 |p::kvs,_,r=>by
  rw[qjO] at r;cases r with
  | @cons a b as bs h t=>
   obtain⟨rs,c,q⟩:=Ab (P:=P) (w:=w) t;obtain⟨b1,b2⟩:=b;exact⟨(p.1,b2)::rs,⟨z9 h.1,rfl,c⟩,.cons ⟨rfl,h.2⟩ q⟩
def qaK(Uk:List (TE×TE)):TE:=λσ H Q=>∀p,H p=none->uV Uk σ (upd H p (.dK [])) λps H2=>H2 p=some (.dK [])/\∃kvs:List (Key×V),ps=kvs.map (λkv=>(kV kv.1,kv.2))/\kvs.length<=15/\Q (.ref p) (upd H2 p (.dK (uW [] kvs)))
theorem Ze{X:Cx}{pos:Pos}{keys:List (Option Expr)}{values:List Expr}{Uk:List (TE×TE)}(h:PPs X pos keys values Uk)(hall:keys.all (·.isSome)=true)(hl:keys.length=values.length)(h0:keys≠[])
  (h15:keys.length<=15):PE X (.Dict keys values pos) (qaK Uk):=by
 intro p_ s σ H Q I q;have hn:=I.hok.fresh (qjb s.heap.objs.size);have I1:=I.laid (a:=s.heap.objs.size) (o:=.dK []) (h':=s.heap.push {cls:=.type "dict",data:=.dict #[]}) (t':=s.toks) (λ_ _ q=>qi6 _ q) (qjb _) (Jr s.heap I.big);refine wpAny_Dict_walk (knd:=bJ X.prog X.w) hall hl h0 h15 (cF (h p_ _ σ _ _ I1 (q _ hn)) λws s2 zz=>?_);obtain⟨ps,H2,I2,rel,e,kvs,ep,lk,q2⟩:=zz;subst ep;obtain⟨rs,c,rk⟩:=Ab (P:=X.prog) (w:=X.w) rel;obtain⟨z,hd,vs0,r0,dd⟩:=qaJ I2.hok e;cases r0;refine⟨rs,c,dd,λh' dd' hs=>⟨.ref s.heap.objs.size,_,?_,rfl,q2⟩⟩;have hz:(uW [] kvs).length<=sizeLine:=by
  have h1:=uD kvs [];rw[List.length_nil] at h1;rw[sizeLine_eq];omega
 have he:∃q,h'.get? s.heap.objs.size=some q:=let ⟨q,_,_,hq,_⟩:=dd';⟨q,hq⟩;exact Gz I2 (by rw[e];exact True.intro) hs he (Vx hz hd (rk.merge .nil) dd')
structure M2(X:Cx)(o:Expr)(m:Str)(apos:Pos)(e f:Expr)(cpos:Pos):Prop where
 base:attributeBase o m X.env (eval o X.env)=eval o X.env
 few:((backTo cpos (starEach [e,f] X.env)).all (λx=>!x.1) && (backToKw cpos (keywordEach [] X.env)).all (λx=>x.1.isSome)
  && decide (([e,f]:List Expr).length+([]:List Keyword).length+(if ([]:List Keyword).isEmpty then 0 else 1)<30))=true
 line:(apos.endLine == cpos.line)=true
 trees:backTo cpos (starEach [e,f] X.env)=[(false,eval e X.env),(false,eval f X.env)]
def IsD(H:Hp)(a:Addr):Prop:=(∃kvs,Rd H a (.dK kvs))\/∃kvs,Rd H a (.dT kvs)
theorem qb0{X:Cx}{p_:QAC}{σ:St}{H:Hp}{s:Shared}{a:Addr}(I:Inv X p_ σ H s)(d:IsD H a) :
  s.TypeIs (.ref a) "dict" /\(∀b,Value.ref a = .ref b->∃ob,s.heap.get? b=some ob/\ob.dict=none)/\(a == sysModules)=false:=by
 rcases d with⟨kvs,e⟩|⟨kvs,e⟩
 ·obtain⟨_,hd,vs,_,dd⟩:=z_ I.hok e;refine⟨dd.typeIs,λb q=>?_,hd⟩;cases q;obtain⟨ob,_,_,h1,h2,_⟩:=dd;exact⟨ob,h1,h2.2.1⟩
 ·obtain⟨_,hd,xs,_,dd⟩:=Aa I.hok e;refine⟨dd.typeIs,λb q=>?_,hd⟩;cases q;obtain⟨ob,_,_,h1,h2,_⟩:=dd;exact⟨ob,h1,h2.2.1⟩
section
variable {X:Cx}{p_:QAC}{σ:St}{H:Hp}{s:Shared}{a:Addr}{y d:V}{u r:Value}{o:Option V}{A:Around}{E:QAB}
theorem qb1{Q:QAB}(hu:A.units+1<cLine)(I:Inv X p_ σ H s)(g:ju H a y o)(ry:RelV y u)(rd:RelV d r)(h:∀w' s',Inv X p_ σ H s'->RelV (o.getD d) w'->Q w' s') :
  wpAny (model X.prog X.w) A (call (.builtin "dict.get") [.ref a,u,r]) Q E s:=by
 rcases g with⟨kvs,k,e,ey,l⟩|⟨kvs,k,b,e,ey,eb,l⟩
 ·subst ey;obtain⟨z,hd,vs,rel,dd⟩:=z_ I.hok e;refine call_meetsIn PySem.F.slot_dict_get dd.typeIs PySem.F.entry_dict_get (PySem.F.args_dict_get_3 _ _ _) (meets_dict_get_default (bJ X.prog X.w) a (z9 ry) hd r) ⟨_,dd.mapOf,h _ _ (I.tok _) ?_⟩;rw[l];exact(rel.val k).getD rd
 ·subst ey;cases (show u=Value.ref b from ry);obtain⟨z,hd,xs,rel,dd⟩:=Aa I.hok e;refine call_meetsIn PySem.F.slot_dict_get dd.typeIs PySem.F.entry_dict_get (PySem.F.args_dict_get_3 _ _ _) (meetsH_dict_get_default (tupleKind (bJ X.prog X.w)) a b hd r) ⟨qlk hu,k,xs,xK I.hok eb,dd,h _ _ (I.tok _) ?_⟩;rw[l];exact(rel.val k).getD rd
end
def Mv(td ty tx:TE):TE:=λσ H Q=>td σ H λx H1=>∃a,x = .ref a/\IsD H1 a/\ty σ H1 λy H2=>tx σ H2 λz H3=>∃o,ju H3 a y o/\Q (o.getD z) H3
section
variable {X:Cx}{o e f:Expr}{apos cpos:Pos}{td ty tx:TE}
theorem Jt(hu:X.A.units+1<cLine)(ho:PE X o td)(he:PE X e ty)(hf:PE X f tx) (m:M2 X o "get" apos e f cpos):PE X (.Call (.Attribute o "get" apos) [e,f] [] cpos) (Mv td ty tx):=by
 intro p_ s σ H Q I h;refine wpAny_Call_method m.base m.few m.line PySem.F.plainAttrs_dict PySem.F.slot_dict_get PySem.F.type_dict_get (cF (ho p_ s σ H _ I h) λu s1 zz=>?_);obtain⟨x,H1,I1,rx,a,ex,d,q1⟩:=zz;subst ex;obtain rfl:u=Value.ref a:=rx;obtain⟨t1,t2,_⟩:=qb0 I1 d;refine⟨t1,t2,?_⟩;rw[m.trees];refine Calls.callWith_builtin rfl (Calls.evalArgs_plain (Calls.spliced_cons (cF (he p_ s1 σ H1 _ I1 q1) λiv s2 ⟨y,H2,I2,ry,q2⟩=>
  Calls.spliced_cons (cF (hf p_ s2 σ H2 _ I2 q2) λfv s3 ⟨z,H3,I3,rz,ov,g,q3⟩=>Calls.spliced_nil ?_))))
 exact qb1 hu I3 g ry rz λw' s4 I4 Vl=>⟨_,H3,I4,Vl,q3⟩
end
structure Nm2(mg:Str->Option Value):Prop where
 enumerate:mg "enumerate" = none
 any:mg "any" = none
 dict:mg "dict" = none
 sorted:mg "sorted" = none
 repr:mg "repr" = none
 bool:mg "bool" = none
theorem Inv.Zf{X:Cx}{p_:QAC}{σ:St}{H:Hp}{s:Shared}{h2:Heap}{t':Nat}{x y:V}{u u':Value}(I:Inv X p_ σ H s)(I1:Inv X p_ σ H {s with heap:=h2,toks:=t'})(ru:RelV x u)(ru':RelV y u')
  (VF:h2.get? s.heap.objs.size=some {cls:=.type "tuple",data:=.seq #[u,u']}):Inv X p_ σ (upd H s.heap.objs.size (.tup [x,y])) {s with heap:=h2,toks:=t'}:=by
 have hfr:H s.heap.objs.size=none:=I.hok.fresh (qjb _);refine⟨I1.ok,I1.os,I1.bare,⟨I1.base.keep,I1.base.slot,λc o e n hx=>?_,I1.base.there,λc zs e=>?_,λc o v e=>?_,λc qs e=>?_⟩,I1.loc,I1.cell,?_,λv c e=>?_,λv hv=>?_,?_,I1.len⟩
 ·rw[aD (λe'=>?_)]
  ·exact I1.base.free c o e n hx
  ·exact absurd (qjl (qjd e) I.sz) (by rw[e'];exact qki _)
 ·have e':=I1.base.tups c zs e;rw[aD (aW e' hfr)];exact e'
 ·have e':=I1.base.vM c o v e;rw[aD (aW e' hfr)];exact e'
 ·obtain⟨m,e'⟩:=I1.base.vN c qs e;exact⟨m,by rw[aD (aW e' hfr)];exact e'⟩
 ·rw[aD (qjn I.lt)];exact I1.free
 ·obtain⟨w',qc⟩:=I.cell v c e;rw[aD (qjn qc.lt)];exact I1.m6 v c e
 ·obtain⟨f1,f2,f3⟩:=I1.pin v hv;refine⟨f1,?_,f3⟩;rw[aD (qjn (qjd (I.pin v hv).1))];exact f2
 ·intro c v e
  by_cases hcs:c=s.heap.objs.size
  ·subst hcs;rw[ak] at e;cases e;exact⟨by show 2<=sizeLine;rw[sizeLine_eq];decide,[u,u'],.cons ru (.cons ru' .nil),⟨_,VF,rfl,0,rfl⟩⟩
  ·rw[aD hcs] at e;refine(I1.hok c v e).stay (λ_ _ _ qq=>qq) (λd qd=>?_) λd zs qd=>?_
   ·rw[aD (aW qd hfr)];exact qd
   ·rw[aD (aW qd hfr)];exact qd
def Ite(K:W.Frag)(a:Addr):It:=
 ⟨λi H=>∃xs x,aX K H a xs/\xs[i]? = some x,
  λi H v H'=>∃t x,v = .ref t/\H t=none/\H'=upd H t (.tup [.int i,x])/\∀xs,aX K H a xs->xs[i]? = some x,
  λi H=>∃xs,aX K H a xs/\xs.length<=i⟩
structure qb2(e it a:Addr)(i:Nat)(h:Heap):Prop where
 he:∃old,IsEnum h e it i old
 hi:h.IsListIter it a i
theorem Rt{P:Program}{w:World}{K:W.Frag}{es:List Expr}{k:Nat}{pos:Pos}{e it a:Addr}(nei:e≠it) :
  Turn P w K (.Tuple es k pos) (Ite K a) [e,it] e (qb2 e it a) where
 mem:=by simp
 obj:=λi h st c hc=>by
  simp only[qjm,qko,or_false] at hc
  rcases hc with rfl|rfl
  ·obtain⟨old,q⟩:=st.he;exact⟨_,q,λv e=>nomatch e⟩
  ·obtain⟨o,e,_,d⟩:=st.hi;exact⟨o,e,λv y=>by rw[d] at y;cases y⟩
 keep:=λi h h' st kk=>by
  obtain⟨old,q⟩:=st.he;exact⟨⟨old,kk e (by simp) _ q⟩,st.hi.at λo z=>kk it (by simp) o z⟩
 item:=by
  intro X hP hw hK hc i p_ s σ H E I hf st hg;subst hP hw hK;obtain⟨xs,x,qa,hx⟩:=hg;obtain⟨its,rv,pl,hz1⟩:=I.list qa;obtain⟨u,hu,ru⟩:=rv.get hx;obtain⟨old,hE⟩:=st.he;obtain⟨o1,e1,c1,_⟩:=id st.hi;refine wpAny_pyNext_enum_item hE st.hi pl.isList (x:=u) (by simpa using hu) nei λh' a1 a2 a3 a4 kk=>?_;refine⟨_,rfl,wpAny_letOwnedTupleGo_enum a1 λh2 b1 sb=>?_⟩;have lt:∀{c o},s.heap.get? c=some o->s.heap.objs.size≠c:=λe=>qkL (qjd e);have hn:H s.heap.objs.size=none:=I.hok.fresh (qjb _);have kk2:∀c o,c∉[e,it]->s.heap.get? c=some o->h2.get? c=some o:=λc o hc z=>by
   simp only[qjm,qko,or_false,not_or] at hc;exact(sb.2 c hc.1).trans (kk c o hc.1 hc.2 z)
  have I1:Inv X p_ σ H {s with heap:=h2,toks:=s.toks+1}:=I.Pq kk2 hf;have VF:=sb.extBut _ _ (lt hE) a3;have I2:Inv X p_ σ (upd H s.heap.objs.size (.tup [.int i,x])) {s with heap:=h2,toks:=s.toks+1}:=I.Zf I1 ⟨_,rfl⟩ ru VF;refine⟨.ref s.heap.objs.size,_,I2,rfl,⟨s.heap.objs.size,x,rfl,hn,rfl,λxs' q'=>by rw[I.Jb q' qa];exact hx⟩,?_,λc hcm=>?_⟩
  ·exact⟨⟨_,b1⟩,a2.extBut sb.extBut nei.symm⟩
  ·have hne:c≠s.heap.objs.size:=by
    simp only[qjm,qko,or_false] at hcm
    rcases hcm with rfl|rfl
    ·exact(lt hE).symm
    ·exact(lt e1).symm
   rw[aD hne];exact(hf c hcm).1
 done:=by
  intro X hP hw hK hc i p_ s σ H E I hf st hg;subst hP hw hK;obtain⟨xs,qa,hl⟩:=hg;obtain⟨its,rv,pl,hz1⟩:=I.list qa;obtain⟨old,hE⟩:=st.he;have l1:=rv.length;refine wpAny_pyNext_enum_end (I.ok.hd hc) hE st.hi pl.isList (by simp;omega) λh' kk=>⟨rfl,I.Pq (t':=s.toks) (λc o hcm z=>?_) hf⟩;simp only[qjm,qko,or_false,not_or] at hcm;exact kk c o hcm.2 z
 self:=λ_ _ _ _ _ st h=>by
  obtain⟨old,q⟩:=st.he;exact wpAny_pyIter_enum q h
section
variable {X:Cx}{K:W.Frag}
def VG(K:W.Frag)(t:TA):TI:=λσ H R=>t σ H λvs H1=>∃a xs,vs=[.ref a]/\aX K H1 a xs/\R (Ite K a) H1
theorem Ep:bootBuiltins "enumerate" = some (.type "enumerate"):=by decide+kernel
theorem tQ(hK:X.K=K){es:List Expr}{k:Nat}{pos':Pos}{a:Expr}{ta:TA}{p pos:Pos} (hg:Gl X "enumerate") (hm:X.mg "enumerate" = none) (ha:PA X [a] ta)
  (hs:starEach [a] X.env=[(false,eval a X.env)]:=by rfl) :
  PI X (.Tuple es k pos') (.Call (.Name "enumerate" p) [a] [] pos) (VG K ta):=by
 subst hK;intro p_ s σ H R I h;refine Call_ (rD I hg hm Ep (qkB (cF (ha pos p_ s σ H _ I h) λus s1 zz=>?_) (by rw[hs];rfl) (by rfl)));obtain⟨vs,H1,I1,r1,q1⟩:=zz;obtain⟨l1,xs,e,qa,q⟩:=q1;subst e;obtain⟨u,rfl,r⟩:=vals1 r1;obtain rfl:u=Value.ref l1:=r;obtain⟨its,rv,pl,hz1⟩:=I1.list qa;refine call_enumerate_list pl.isList λh' b1 b2 b3 kk=>?_;refine wpAny_pyIter_enum (s:={s1 with heap:=h'}) b1 ?_;have I2:Inv X p_ σ H1 {s1 with heap:=h'}:=I1.kept (t':=s1.toks) kk;refine⟨s1.heap.objs.size+1,[s1.heap.objs.size+1,s1.heap.objs.size],_,_,H1,rfl,I2,Rt (Nat.succ_ne_self _),⟨⟨_,b1⟩,b2⟩,λc hc=>?_,q⟩;have hle:s1.heap.objs.size<=c:=by
  simp only[qjm,qko,or_false] at hc
  rcases hc with rfl|rfl <;> first|exact Nat.le_add_right _ _|exact qjb _
 exact I1.Dc hle (I1.hok.fresh hle)
end
section
variable {X:Cx}{K:W.Frag}{tg:Expr}
theorem Pz(hK:X.K=K){o value:Expr}{ta tv:TE}{f:Str}{pos pos':Pos}(ha:PE X o ta)(hv:PE X value tv)(hs:swapsWith value (some (.Attribute o f pos')) pos.line X.env=pure false):PS X (.Assign [.Attribute o f pos'] value pos) (qbA K ta tv f):=by subst hK;exact qbC ha hv hs
end
@[simp ↓] theorem qgO (i:Nat) σ H Q:Yz i σ H Q=(∃v,σ[i]? = some (some v)/\Q v H):=rfl
@[simp ↓] theorem qiI (v:V) z0 H Q:tC v z0 H Q=(Q v H):=rfl
@[simp ↓] theorem qiJ (t:TE) σ H Q:tB t σ H Q=(t σ H λx H1=>∃c,x = .bl c/\Q c H1):=rfl
@[simp ↓] theorem qgP (t:TT) σ H Q:qdp t σ H Q=(t σ H λc H1=>Q (!c) H1):=rfl
@[simp ↓] theorem qfF (ta:TE) σ H Q:Uu ta σ H Q=(ta σ H λx H1=>∃c,x = .bl c/\Q (.bl (!c)) H1):=rfl
@[simp ↓] theorem qfG D σ H:qaA  D σ H=(D.nx σ H):=rfl
@[simp ↓] theorem qgQ (t u:TS) D σ H:qdq t u D σ H=(t {D with nx:=u D} σ H):=rfl
@[simp ↓] theorem qfH (te:TE) D σ H:qaB te D σ H=(te σ H λ_ H1=>D.nx σ H1):=rfl
@[simp ↓] theorem qgR (te:TE) D σ H:qdr te D σ H=(te σ H D.rt):=rfl
@[simp ↓] theorem qdT z0 z1 z2:Uw  z0 z1 z2=(False):=rfl
@[simp ↓] theorem qfI (i:Nat) v σ H Q:DX i v σ H Q=(Q (σ.set i (some v)) H):=rfl
@[simp ↓] theorem qgS vs σ H Q:qbk  vs σ H Q=(vs=[]/\Q σ H):=rfl
@[simp ↓] theorem qfJ (t:TG)(u:Iu) vs σ H Q:Ux t u vs σ H Q=(∃v r,vs=v::r/\t v σ H λσ' H'=>u r σ' H' Q):=rfl
@[simp ↓] theorem qgT (K:W.Frag)(n:Nat)(t:Iu) v σ H Q:YC K n t v σ H Q=(∃a xs,v = .ref a/\dg K H a xs/\xs.length=n/\t xs σ H Q):=rfl
@[simp ↓] theorem qgU (to ti:TE)(t:QM) v σ H Q:qdt to ti t v σ H Q=(to σ H λo H1=>ti σ H1 λi H2=>t o i v H2 λH3=>Q σ H3):=rfl
@[simp ↓] theorem qgV (te:TE)(g:TG) D σ H:YD te g D σ H=(te σ H λx H1=>g x σ H1 D.nx):=rfl
@[simp ↓] theorem qgW (i:Nat)(te:TE)(ti:YB) D σ H:qbm i te ti D σ H=(∃x,σ[i]? = some (some x)/\te σ H λy H1=>ti x y H1 λz H2=>D.nx (σ.set i (some z)) H2):=rfl
@[simp ↓] theorem qig (f:Int->Int->Int) x y H Q:ipI f x y H Q=(∃i j,x = .int i/\y = .int j/\Q (.int (f i j)) H):=rfl
@[simp ↓] theorem qfK (K:W.Frag)(tl:TE) σ H R:O4 K tl σ H R=(tl σ H λx H1=>∃a,x = .ref a/\(∃xs,aX K H1 a xs)/\R (Ui K a) H1):=rfl
@[simp ↓] theorem qgX (K:W.Frag)(tl:TE) σ H R:qbo K tl σ H R=(tl σ H λx H1=>∃a,x = .ref a/\(∃xs,dg K H1 a xs)/\R (Itt K a) H1):=rfl
@[simp ↓] theorem qfL (ta:TA) σ H R:UL ta σ H R=(ta σ H λvs H1=>∃j:Int,vs=[.int j]/\-(2 ^ 62)<=j/\j<2 ^ 62/\R (Uj 0 j.toNat) H1):=rfl
@[simp ↓] theorem qih (r:R2)(ta tb:TE) σ H Q:tOp r ta tb σ H Q=(ta σ H λx H1=>tb σ H1 λy H2=>r x y H2 Q):=rfl
@[simp ↓] theorem qii (r:V->Hp->VK->Prop)(ta:TE) σ H Q:tUn r ta σ H Q=(ta σ H λx H1=>r x H1 Q):=rfl
@[simp ↓] theorem qfM (t:TE) σ H Q:O9 t σ H Q=(t σ H λx H'=>∃k,x = .bl k/\Q k H'):=rfl
@[simp ↓] theorem qgY (K:W.Frag)(ta:TE)(f:Str) σ H Q:YM K ta f σ H Q=(ta σ H λx H1=>∃a C dx fs v,x = .ref a/\H1 a=some (.ins C dx fs)/\Cls K C/\j9 K C f/\fs.lookup f=some v/\Q v H1):=rfl
@[simp ↓] theorem qgZ (K:W.Frag)(ta tv:TE)(f:Str) D σ H:qbA K ta tv f D σ H=(tv σ H λy H1=>ta σ H1 λx H2=>∃a C dx fs,x = .ref a/\H2 a=some (.ins C dx fs)/\Cls K C/\j9 K C f/\fs.length<1000/\D.nx σ (upd H2 a (.ins C dx (jr f y fs)))):=rfl
@[simp ↓] theorem qg0 z0 H Q:U9  z0 H Q=(Q [] H):=rfl
@[simp ↓] theorem qfN (ta:TE)(tr:TA) σ H Q:O_ ta tr σ H Q=(ta σ H λx H1=>tr σ H1 λxs H2=>Q (x::xs) H2):=rfl
@[simp ↓] theorem qg1 (t:TA) σ H Q:qdC t σ H Q=(t σ H λxs H1=>xs.length<=sizeLine/\∀p,H1 p=none->Q (.ref p) (upd H1 p (.tup xs))):=rfl
@[simp ↓] theorem qg2 (t:TA) σ H Q:qdD t σ H Q=(t σ H λxs H1=>xs.length<=sizeLine/\∀p,H1 p=none->Q (.ref p) (upd H1 p (.lst xs))):=rfl
@[simp ↓] theorem qij (r:List V->Hp->VK->Prop)(t:TA) σ H Q:tCB r t σ H Q=(t σ H λvs H1=>r vs H1 Q):=rfl
@[simp ↓] theorem qdb z0 H Q:Pg  z0 H Q=(Q none H):=rfl
@[simp ↓] theorem qfO (t:TE) σ H Q:Vh t σ H Q=(t σ H λx H1=>∃i,x = .int i/\Q (some i) H1):=rfl
@[simp ↓] theorem qik (r:V->Option Int->Option Int->Hp->VK->Prop)(te:TE)(tl th:TO) σ H Q:tSl r te tl th σ H Q=(te σ H λx H1=>tl σ H1 λl H2=>th σ H2 λu H3=>r x l u H3 Q):=rfl
@[simp ↓] theorem qg3 (K:W.Frag) x lo hi H Q:qbF K x lo hi H Q=(∃a xs,x = .ref a/\dg K H a xs/\¬(HT.g8 xs.length 0 lo=0/\HT.g8 xs.length xs.length hi=xs.length)/\∀p,H p=none->Q (.ref p) (upd H p (.tup (lU xs lo hi)))):=rfl
@[simp ↓] theorem qil (K:W.Frag)(T:String)(r:V->List V->Hp->VK->Prop)(to:TE)(t:TA) σ H Q:tBM K T r to t σ H Q=(to σ H λx H1=>tyV K T x H1/\t σ H1 λxs H2=>r x xs H2 Q):=rfl
@[simp ↓] theorem qg4 z0 H Q:qdL  z0 H Q=(Q true H):=rfl
@[simp ↓] theorem qg5 (tl:TE) σ H R:qbP tl σ H R=(tl σ H λx H1=>∃z,x = .str z/\R (Its z) H1):=rfl
@[simp ↓] theorem qg6 (K:W.Frag)(tl:TE) σ H R:qbW K tl σ H R=(tl σ H λx H1=>∃b p,x = .ref p/\(∃xs,SqB b K H1 p xs)/\R (Itq b K p) H1):=rfl
structure qg7(Q:VK) where
 n:Nat
structure qb3(g:TG)(tb:TS)(D:Ends) where
 n:Nat
structure qdU(c:TT)(tb:TS)(D:Ends) where
 n:Nat
structure qb4(g:TG)(tt:TT)(te:TE)(Q:Hp->Prop) where
 n:Nat
structure Mw(A B:Prop) where
 n:Nat
def VH(sp:Sp)(vs:List V)(H:Hp)(Q:VK)(d:qg7 Q)(E:XK):Prop:=sp vs H Q E
def tFr(J:It)(g:TG)(tb:TS)(D:Ends)(d:qb3 g tb D)(σ:St)(H:Hp):Prop:=qbX J g tb D σ H
def tWh(c:TT)(tb:TS)(D:Ends)(d:qdU c tb D)(σ:St)(H:Hp):Prop:=Gd c tb D σ H
def tCm(own:QAH)(caps:List Nat)(J:It)(g:TG)(tt:TT)(te:TE)(Q:Hp->Prop)(d:qb4 g tt te Q)(D:Addr)(σ:St)(H:Hp):Prop:=m9 own caps J g tt te D σ H Q
def eE(b:Bool)(A B:Prop)(d:Mw A B):Prop:=if b=true then A else B
@[simp] theorem qim (A B:Prop)(d:Mw A B):eE true A B d=A:=rfl
@[simp] theorem qin (A B:Prop)(d:Mw A B):eE false A B d=B:=rfl
theorem eE.of{b:Bool}{A B:Prop}{d:Mw A B}(h1:b=true->A)(h2:b=false->B):eE b A B d:=by
 cases b with
 |true=>exact h1 rfl
 |false=>exact h2 rfl
theorem eE.pos{b:Bool}{A B:Prop}{d:Mw A B}(h:b=true)(h1:A):eE b A B d:=by subst h;exact h1
theorem eE.neg{b:Bool}{A B:Prop}{d:Mw A B}(h:b=false)(h1:B):eE b A B d:=by subst h;exact h1
@[simp ↓] theorem qfP (sp:Sp)(w6:List V)(E:XK)(t:TA)(σ:St)(H:Hp)(Q:VK):Va sp w6 E t σ H Q=t σ H λvs H1=>VH sp (vs++w6) H1 Q ⟨0⟩ E:=rfl
@[simp ↓] theorem qfQ (C:Addr)(m:Str)(sp:Sp)(w6:List V)(E:XK)(ta:TE)(t:TA)(σ:St)(H:Hp)(Q:VK):Vb C m sp w6 E ta t σ H Q=ta σ H λx H1=>∃a dx fs,x = .ref a/\H1 a=some (.ins C dx fs)/\fs.lookup m=none/\t σ H1 λvs H2=>VH sp (x::(vs++w6)) H2 Q ⟨0⟩ E:=rfl
@[simp ↓] theorem qfR (C:Addr)(sp:Sp)(w6:List V)(E:XK)(t:TA)(σ:St)(H:Hp)(Q:VK):Vc C sp w6 E t σ H Q=t σ H λvs H1=>∀x dx,H1 x=none->H1 dx=none->dx≠x->
 VH sp (.ref x::(vs++w6)) (upd (upd H1 dx (.own x)) x (.ins C dx [])) (λv H2=>v = .non/\Q (.ref x) H2) ⟨0⟩ E:=rfl
@[simp ↓] theorem qg8 (wi:TI)(g:TG)(tb:TS)(D:Ends)(σ:St)(H:Hp):qdu wi g tb D σ H=wi σ H λJ H1=>tFr J g tb D ⟨0⟩ σ H1:=rfl
@[simp ↓] theorem qdV (c:TT)(tb:TS)(D:Ends)(σ:St)(H:Hp):Gd c tb D σ H=tWh c tb D ⟨0⟩ σ H:=rfl
@[simp ↓] theorem qfS (own:QAH)(caps:List Nat)(wi:TI)(g:TG)(tt:TT)(te:TE)(σ:St)(H:Hp)(Q:VK):Pn own caps wi g tt te σ H Q=wi σ H λJ H1=>∀D,H1 D=none->tCm own caps J g tt te (Q (.ref D)) ⟨0⟩ D σ (upd H1 D (.lst [])):=rfl
@[simp ↓] theorem qg9 (c:TT)(t u:TS)(D:Ends)(σ:St)(H:Hp):qds c t u D σ H=c σ H λb H1=>eE b (t D σ H1) (u D σ H1) ⟨0⟩:=rfl
@[simp ↓] theorem qio (c:TT)(t u:TE)(σ:St)(H:Hp)(Q:VK):tIf c t u σ H Q=c σ H λb H1=>eE b (t σ H1 Q) (u σ H1 Q) ⟨0⟩:=rfl
@[simp ↓] theorem qg_ (t u:TT)(σ:St)(H:Hp)(Q:Bool->Hp->Prop):qdo t u σ H Q=t σ H λc H1=>eE c (u σ H1 Q) (Q false H1) ⟨0⟩:=rfl
@[simp ↓] theorem qip (t u:TT)(σ:St)(H:Hp)(Q:Bool->Hp->Prop):tOr t u σ H Q=t σ H λc H1=>eE c (Q true H1) (u σ H1 Q) ⟨0⟩:=rfl
@[simp ↓] theorem qfT (ta tb:TE)(σ:St)(H:Hp)(Q:VK):Ut ta tb σ H Q=ta σ H λx H1=>∃c,x = .bl c/\eE c (tb σ H1 Q) (Q (.bl false) H1) ⟨0⟩:=rfl
@[simp ↓] theorem qdW (r r':R2)(ta tb tc:TE)(σ:St)(H:Hp)(Q:VK):Ge r r' ta tb tc σ H Q=ta σ H λx H1=>tb σ H1 λy H2=>r x y H2 λz H3=>∃k,z = .bl k/\eE k (tc σ H3 λz H4=>r' y z H4 Q) (Q (.bl false) H3) ⟨0⟩:=rfl
def Ac(g:TG)(tt:TT)(te:TE)(D:Addr)(N:St->Hp->Prop)(x:V)(σ:St)(H:Hp):Prop:=
 g x σ H λσ2 H3=>tt σ2 H3 λb H4=>eE b (te σ2 H4 λy H5=>∃ys,H5 D=some (.lst ys)/\ys.length<sizeLine/\N σ2 (upd H5 D (.lst (ys++[y])))) (N σ2 H4) ⟨0⟩
@[simp ↓] theorem qfU (g:TG)(tt:TT)(te:TE)(D:Addr)(N:St->Hp->Prop)(x:V)(σ:St)(H:Hp):Ac g tt te D N x σ H =
 (g x σ H λσ2 H3=>tt σ2 H3 λb H4=>eE b (te σ2 H4 λy H5=>∃ys,H5 D=some (.lst ys)/\ys.length<sizeLine/\N σ2 (upd H5 D (.lst (ys++[y])))) (N σ2 H4) ⟨0⟩):=rfl
@[simp ↓] theorem qha {α:Type}(a b:α)(R:α->α->Prop):(∃v w,[a,b]=[v,w]/\R v w)=R a b:=by
 refine propext ⟨?_,λh=>⟨a,b,rfl,h⟩⟩;rintro⟨_,_,e,h⟩;cases e;exact h
@[simp] theorem qfV {α β:Type}(a:α)(b:β)(R:α->β->Prop):(∃v w,(a=v/\b=w)/\R v w)=R a b:=by
 refine propext ⟨?_,λh=>⟨a,b,⟨rfl,rfl⟩,h⟩⟩;rintro⟨_,_,⟨rfl,rfl⟩,h⟩;exact h
@[simp] theorem sz0:(0<=sizeLine)=True:=qkS (by decide)
@[simp] theorem sz1:(1<=sizeLine)=True:=qkS (by decide)
@[simp] theorem sz2:(2<=sizeLine)=True:=qkS (by decide)
@[simp] theorem sz3:(3<=sizeLine)=True:=qkS (by decide)
@[simp] theorem sz4:(4<=sizeLine)=True:=qkS (by decide)
@[simp] theorem sz5:(5<=sizeLine)=True:=qkS (by decide)
@[simp] theorem sz6:(6<=sizeLine)=True:=qkS (by decide)
@[simp] theorem sz7:(7<=sizeLine)=True:=qkS (by decide)
@[simp] theorem sz8:(8<=sizeLine)=True:=qkS (by decide)
@[simp] theorem sz9:(9<=sizeLine)=True:=qkS (by decide)
@[simp] theorem qiK:(10<=sizeLine)=True:=qkS (by decide)
@[simp] theorem qiL:(11<=sizeLine)=True:=qkS (by decide)
@[simp] theorem qiM:(12<=sizeLine)=True:=qkS (by decide)
@[simp] theorem qiN:(13<=sizeLine)=True:=qkS (by decide)
@[simp] theorem qiO:(14<=sizeLine)=True:=qkS (by decide)
@[simp] theorem qiP:(15<=sizeLine)=True:=qkS (by decide)
@[simp] theorem qiQ:(16<=sizeLine)=True:=qkS (by decide)
@[simp] theorem qiR:(17<=sizeLine)=True:=qkS (by decide)
@[simp] theorem qiS:(18<=sizeLine)=True:=qkS (by decide)
@[simp] theorem qiT:(19<=sizeLine)=True:=qkS (by decide)
@[simp] theorem Di:(20<=sizeLine)=True:=qkS (by decide)
@[simp] theorem qfW (i j:Int):zm (.int i) (.int j)=true:=rfl
@[simp] theorem qfX (i j:Str):zm (.str i) (.str j)=true:=rfl
@[simp] theorem qfY (i j:Bool):zm (.bl i) (.bl j)=true:=rfl
@[simp] theorem qfZ (i:Int)(j:Str):zm (.int i) (.str j)=true:=rfl
@[simp] theorem qf0 (i:Int)(j:Str):zm (.str j) (.int i)=true:=rfl
@[simp] theorem qdX (K:W.Frag)(p:Addr)(H:Hp):tyV K "list" (.ref p) H=(∃xs,aX K H p xs):=by simp[tyV]
@[simp] theorem qf1 (K:W.Frag)(p:Str)(H:Hp):tyV K "str" (.str p) H=True:=by simp[tyV]
section
variable {K:W.Frag}{l:Addr}{xs:List V}{g:TG}{tb:TS}{D:Ends}{d:qb3 g tb D}{σ:St}{H:Hp}
theorem frL(xs:List V)(Pv:Nat->St->Hp->Prop)(h0:Pv 0 σ H)(hl:∀i σ H,i<=xs.length->Pv i σ H->aX K H l xs)
  (hs:∀i x σ H,xs[i]? = some x->Pv i σ H->g x σ H λσ2 H2=>tb {D with nx:=Pv (i+1),ct:=Pv (i+1),bk:=D.nx} σ2 H2) (hd:∀σ H,Pv xs.length σ H->D.nx σ H):tFr (Ui K l) g tb D d σ H:=UW Pv h0 hl hs hd
theorem frR{lo:Int}{n:Nat}(Pv:Nat->St->Hp->Prop)(h0:Pv 0 σ H)
  (hs:∀i σ H,i<n->Pv i σ H->g (.int (lo+i)) σ H λσ2 H2=>tb {D with nx:=Pv (i+1),ct:=Pv (i+1),bk:=D.nx} σ2 H2) (hd:∀σ H,Pv n σ H->D.nx σ H):tFr (Uj lo n) g tb D d σ H:=QV Pv h0 hs hd
end
section
variable {K:W.Frag}{own:QAH}{caps:List Nat}{g:TG}{tt:TT}{te:TE}{D l l1 l2:Addr}{σ:St}{H:Hp}{Q:Hp->Prop}{d:qb4 g tt te Q}
theorem Iv(xs:List V)(Pv:Nat->St->Hp->Prop)(h0:Pv 0 (stC own caps σ) H)(hl:∀i σ H,i<=xs.length->Pv i σ H->aX K H l xs)
  (hs:∀i x σ H,xs[i]? = some x->Pv i σ H->Ac g tt te D (Pv (i+1)) x σ H) (hd:∀σ H,Pv xs.length σ H->Q H):tCm own caps (Ui K l) g tt te Q d D σ H:=En Pv h0 hl hs hd
theorem cmT(xs:List V)(Pv:Nat->St->Hp->Prop)(h0:Pv 0 (stC own caps σ) H)(hl:∀i σ H,i<=xs.length->Pv i σ H->dg K H l xs)
  (hs:∀i x σ H,xs[i]? = some x->Pv i σ H->Ac g tt te D (Pv (i+1)) x σ H) (hd:∀σ H,Pv xs.length σ H->Q H):tCm own caps (Itt K l) g tt te Q d D σ H:=Jp Pv h0 hl hs hd
theorem cmQ{b:Bool}(xs:List V)(Pv:Nat->St->Hp->Prop)(h0:Pv 0 (stC own caps σ) H)(hl:∀i σ H,i<=xs.length->Pv i σ H->SqB b K H l xs)
  (hs:∀i x σ H,xs[i]? = some x->Pv i σ H->Ac g tt te D (Pv (i+1)) x σ H) (hd:∀σ H,Pv xs.length σ H->Q H):tCm own caps (Itq b K l) g tt te Q d D σ H:=Vt Pv h0 hl hs hd
theorem cmR{lo:Int}{n:Nat}(Pv:Nat->St->Hp->Prop)(h0:Pv 0 (stC own caps σ) H)
  (hs:∀i σ H,i<n->Pv i σ H->Ac g tt te D (Pv (i+1)) (.int (lo+i)) σ H) (hd:∀σ H,Pv n σ H->Q H):tCm own caps (Uj lo n) g tt te Q d D σ H:=Ms Pv h0 hs hd
theorem cmS{z:Str}(Pv:Nat->St->Hp->Prop)(h0:Pv 0 (stC own caps σ) H)
  (hs:∀i c σ H,z.cps[i]? = some c->Pv i σ H->Ac g tt te D (Pv (i+1)) (.str ⟨#[c]⟩) σ H) (hd:∀σ H,Pv z.cps.size σ H->Q H):tCm own caps (Its z) g tt te Q d D σ H:=Vs Pv h0 hs hd
end
theorem VJ{c:Bool}{t u:TS}{D:Ends}{σ:St}{H:Hp}{d:Mw (t D σ H) (u D σ H)}(R:St->Hp->Prop)(hc:∀σ H,R σ H->D.nx σ H)
  (h:∀N:St->Hp->Prop,(∀σ H,R σ H->N σ H)->eE c (t {D with nx:=N} σ H) (u {D with nx:=N} σ H) ⟨0⟩):eE c (t D σ H) (u D σ H) d:=h D.nx hc
theorem GD{α β:Type}{f:α->β}{ys zs:List β}(h:ys.Perm zs):∀l:List α,zs=l.map f->∃l':List α,l'.Perm l/\ys=l'.map f:=by
 induction h with
 |nil=>
  intro l e;cases l with
  |nil=>exact⟨[],.nil,rfl⟩
  |cons a l=>cases e
 |cons x _ ih=>
  intro l e;cases l with
  |nil=>cases e
  |cons a l=>
   simp only[qjO,List.cons.injEq] at e;obtain⟨l',p,e'⟩:=ih l e.2;exact⟨a::l',p.cons a,by rw[e',e.1,qjO]⟩
 |swap x y _=>
  intro l e
  match l,e with
  |a::b::l,e=>
   simp only[qjO,List.cons.injEq] at e;exact⟨b::a::l,.swap ..,by rw[e.1,e.2.1,e.2.2];rfl⟩
 |trans _ _ ih1 ih2=>
  intro l e;obtain⟨l',p,e'⟩:=ih2 l e;obtain⟨l2,p2,e2⟩:=ih1 l' e';exact⟨l2,p2.trans p,e2⟩
end L2
namespace L2
open PySem
theorem GF(K:W.Frag):W.kitOne K (.type "list") (.type "int")=some false:=by simp[W.kitOne];rfl
theorem Dj(K:W.Frag):W.kitOne K (.type "list") (.type "bool")=some false:=by simp[W.kitOne];rfl
theorem Dk(K:W.Frag):W.kitOne K (.type "tuple") (.type "int")=some false:=by simp[W.kitOne];rfl
theorem Ad(K:W.Frag):W.kitOne K (.type "tuple") (.type "bool")=some false:=by simp[W.kitOne];rfl
theorem Ju(K:W.Frag):W.kitOne K (.type "str") (.type "str")=some true:=by simp[W.kitOne]
theorem Jv(K:W.Frag):W.kitOne K (.type "str") (.type "int")=some false:=by simp[W.kitOne];rfl
theorem GJ(K:W.Frag):W.kitOne K (.type "str") (.type "bool")=some false:=by simp[W.kitOne];rfl
theorem Jw(K:W.Frag):W.kitOne K (.type "int") (.type "int")=some true:=by simp[W.kitOne]
theorem GK(K:W.Frag):W.kitOne K (.type "int") (.type "bool")=some false:=by simp[W.kitOne];rfl
theorem GP(K:W.Frag):W.kitOne K (.type "bool") (.type "int")=some true:=by simp[W.kitOne];rfl
theorem Dl(K:W.Frag):W.kitOne K (.type "bool") (.type "bool")=some true:=by simp[W.kitOne]
theorem GQ(K:W.Frag):W.kitOne K (.type "dict") (.type "int")=some false:=by simp[W.kitOne];rfl
theorem Dm(K:W.Frag):W.kitOne K (.type "dict") (.type "bool")=some false:=by simp[W.kitOne];rfl
theorem xM(K:W.Frag):W.kitOne K (.type "NoneType") (.type "int")=some false:=by simp[W.kitOne];rfl
theorem wj(K:W.Frag):W.kitOne K (.type "NoneType") (.type "bool")=some false:=by simp[W.kitOne];rfl
end L2
namespace L2
open PySem PySem.Spec PyProof.Rows
section
variable {X:Cx}{K:W.Frag}
def qdY(K:W.Frag):R2:=λx y H Q=>∃d e,Is K H d x/\Is K H e y/\d.canLay0=true/\e.canLay0=true/\d.depth<=64/\Q (.bl (PyData.eqv d e)) H
def qdZ(K:W.Frag):R2:=λx y H Q=>∃d e,Is K H d x/\Is K H e y/\d.canLay0=true/\e.canLay0=true/\d.depth<=64/\Q (.bl (!PyData.eqv d e)) H
theorem qb5(hK:X.K=K)(hu:X.A.units+64<cLine):gJ X (compareOp .Eq) (qdY K):=by
 subst hK;intro p_ s σ H x y v u Q I rx ry h;obtain⟨d,e,h1,h2,h3,h4,h5,q⟩:=h;exact qbR p_ s σ H x y v u Q I rx ry ⟨d,e,h1,h2,h3,h4,by omega,q⟩
theorem qb6(hK:X.K=K)(hu:X.A.units+64<cLine):gJ X (compareOp .NotEq) (qdZ K):=by
 subst hK;intro p_ s σ H x y v u Q I rx ry h;obtain⟨d,e,h1,h2,h3,h4,h5,q⟩:=h;exact qbS p_ s σ H x y v u Q I rx ry ⟨d,e,h1,h2,h3,h4,by omega,q⟩
end
def jm(xs:QAH):List PyData:=xs.map PyData.str
theorem GR{K:W.Frag}{H:Hp}:∀xs:QAH,qY K H (jm xs) (xs.map V.str)
 |[]=>rfl
 |x::xs=>⟨_,_,rfl,rfl,GR xs⟩
theorem Zg(c:Nat):Yq c=decide (c∈("abcdefghijklmnopqrstuvwxyz" : Str).cps.toList):=PySem.StrLaws.found_one _ c
theorem qb7{c:Nat}(h:Yq c=true):c<128:=by
 rw[Zg] at h;have h':=qjG h;have key:∀x∈("abcdefghijklmnopqrstuvwxyz" : Str).cps.toList,x<128:=by decide+kernel
 exact key c h'
theorem Zh{x:Str}(h:nameB x=true):PyData.strOk x=true:=by
 unfold nameB at h;simp only[qkj] at h;have h2:=h.2;unfold PyData.strOk;rw[<- Array.all_toList];rw[qjC] at h2⊢;intro c hc;have:=qb7 (h2 c hc);exact qj2 (by omega)
theorem Jx:∀xs:QAH,(∀x∈xs,PyData.strOk x=true)->PyData.canLayAll0 (jm xs)=true
 |[],_=>by simp[jm,PyData.canLayAll0]
 |x::xs,h=>by
  have:=Jx xs λy hy=>h y (qjf _ hy);simp[jm] at this;simp[jm,PyData.canLayAll0,PyData.canLay0,this,h x qjp]
theorem Jy:∀xs:QAH,PyData.depthAll (jm xs)<=1
 |[]=>by simp[jm,PyData.depthAll]
 |x::xs=>by
  have:=Jy xs;simp[jm] at this;simp[jm,PyData.depthAll,PyData.depth,this]
@[simp ↓] theorem qf2 (td ty:TE)(σ:St)(H:Hp)(Q:VK):Vy td ty σ H Q=(td σ H λx H1=>ty σ H1 λy H2=>∃a v,x = .ref a/\ju H2 a y (some v)/\Q v H2):=rfl
@[simp ↓] theorem qhb (ty td:TE)(σ:St)(H:Hp)(Q:VK):qbY ty td σ H Q=(ty σ H λy H1=>td σ H1 λx H2=>∃a o,x = .ref a/\ju H2 a y o/\Q (.bl o.isSome) H2):=rfl
@[simp ↓] theorem qdc (ty td:TE)(σ:St)(H:Hp)(Q:VK):GC ty td σ H Q=(ty σ H λy H1=>td σ H1 λx H2=>∃a o,x = .ref a/\ju H2 a y o/\Q (.bl (!o.isSome)) H2):=rfl
@[simp ↓] theorem qf3 (td ty tv:TE)(D:Ends)(σ:St)(H:Hp):Vz td ty tv D σ H=(tv σ H λv H1=>td σ H1 λx H2=>ty σ H2 λy H3=>∃a H4,x = .ref a/\Gy H3 a y v H4/\D.nx σ H4):=rfl
@[simp ↓] theorem qd0 (σ:St)(H:Hp)(Q:VK):VB σ H Q=(∀p,H p=none->Q (.ref p) (upd H p (.dK []))):=rfl
@[simp ↓] theorem qf4 (Uk:List (TE×TE))(σ:St)(H:Hp)(Q:VK):qaK Uk σ H Q=(∀p,H p=none->uV Uk σ (upd H p (.dK [])) λps H2=>H2 p=some (.dK [])/\∃kvs:List (Key×V),ps=kvs.map (λkv=>(kV kv.1,kv.2))/\kvs.length<=15/\Q (.ref p) (upd H2 p (.dK (uW [] kvs)))):=rfl
@[simp ↓] theorem qd1 (σ:St)(H:Hp)(Q:List (V×V)->Hp->Prop):uV [] σ H Q=Q [] H:=rfl
@[simp ↓] theorem qd2 (tk tv:TE)(r:List (TE×TE))(σ:St)(H:Hp)(Q:List (V×V)->Hp->Prop):uV ((tk,tv)::r) σ H Q=(tk σ H λx H1=>tv σ H1 λy H2=>uV r σ H2 λps H3=>Q ((x,y)::ps) H3):=rfl
@[simp ↓] theorem qd3 (td ty tx:TE)(σ:St)(H:Hp)(Q:VK):Mv td ty tx σ H Q=(td σ H λx H1=>∃a,x = .ref a/\IsD H1 a/\ty σ H1 λy H2=>tx σ H2 λz H3=>∃o,ju H3 a y o/\Q (o.getD z) H3):=rfl
@[simp ↓] theorem qf5 (K:W.Frag)(t:TA)(σ:St)(H:Hp)(R:It->Hp->Prop):VG K t σ H R=(t σ H λvs H1=>∃a xs,vs=[.ref a]/\aX K H1 a xs/\R (Ite K a) H1):=rfl
theorem qd4{H:Hp}{a:Addr}{kvs:List (Key×V)}(i:Int)(e:H a=some (.dK kvs)):ju H a (.int i) (kY kvs (Sum.inl i)):=ju.k (k:=Sum.inl i) e
theorem qb8{H:Hp}{a:Addr}{kvs:List (Key×V)}(x:Str)(e:H a=some (.dK kvs)):ju H a (.str x) (kY kvs (Sum.inr x)):=ju.k (k:=Sum.inr x) e
theorem qhc{H:Hp}{a:Addr}{kvs:List (Key×V)}{v:V}(x:Str)(e:H a=some (.dK kvs))(hl:kvs.length<sizeLine):Gy H a (.str x) v (upd H a (.dK (putK kvs (Sum.inr x) v))):=Gy.k (k:=Sum.inr x) e hl
theorem isD{H:Hp}{a:Addr}{kvs:List (Key×V)}(e:H a=some (.dK kvs)):IsD H a:=.inl ⟨kvs,.inl e⟩
theorem range_any(bs:List Bool):(List.range bs.length).any (λi=>bs.getD i false)=bs.any id:=by
 rw[qks,qkz,qkz];constructor
 ·rintro⟨i,hi,h⟩;have hi':=qkc.mp hi;refine⟨bs[i],qlC hi',?_⟩;simpa [List.getD,hi'] using h
 ·rintro⟨b,hb,h⟩;obtain⟨i,hi,rfl⟩:=List.mem_iff_getElem.mp hb;exact⟨i,qkc.mpr hi,by simpa [List.getD,hi] using h⟩
section
variable {X:Cx}{K:W.Frag}
def qaL:List V->Hp->VK->Prop:=λxs H Q=>∃a ys bs,xs=[.ref a]/\H a=some (.lst ys)/\m_ ys bs/\Q (.bl (bs.any id)) H
theorem Ru(hc:X.calm=true):cA X (.builtin "any") qaL:=by
 intro p_ s σ H xs us Q I r h;obtain⟨a,ys,bs,rfl,ha,hb,q⟩:=h;obtain⟨u,rfl,ru⟩:=r.one;obtain rfl:u=Value.ref a:=ru;obtain⟨z,its,n,rv,hl,e⟩:=I.Rb ha;obtain⟨h1,h2⟩:=hb.get rv;have hL:s.heap.IsList a its.toArray:=⟨_,e,rfl,n,rfl⟩;refine call_any_walk ?_;refine qlq hL ?_;have hne:a≠s.heap.objs.size:=qjn (qjd e);have hL2:(s.heap.push {cls:=.type "list_iterator",data:=.fields #[.ref a,.int 0 0]}).IsList a its.toArray:=⟨_,qi6 _ e,rfl,n,rfl⟩;refine⟨s.heap.objs.size,_,_,_,_,_,λi=>bs.getD i false,rfl,Walks.list (by exact I.ok.hd hc) s.heap.objs.size a hne its.toArray,⟨⟨_,qjg _ rfl,rfl,rfl⟩,hL2⟩,λi v s' Q' E' hP hQ=>?_,λh' tk kk=>?_⟩
 ·obtain rfl:=h2 i v (by simpa using hP);exact qkl hQ
 ·have e2:(List.range its.toArray.size).any (λi=>bs.getD i false)=bs.any id:=by
   rw[qjj,<- hl,h1];exact range_any bs
  rw[e2];refine⟨.bl _,H,?_,rfl,q⟩;exact I.kept (h':=h') (t':=tk) λb o eb=>kk b o (by simp;exact qjn (qjd eb)) (qi6 _ eb)
def qd5(K:W.Frag)(neg:Bool):R2:=λx y H Q=>∃d es,Is K H d x/\Is K H (.list es) y/\d.canLay0=true/\PyData.canLayAll0 es=true/\d.depth<=32/\Q (.bl (if neg then !es.any (λy=>PyData.eqv y d) else es.any λy=>PyData.eqv y d)) H
@[simp ↓] theorem qhd (K:W.Frag)(neg:Bool)(x y:V)(H:Hp)(Q:VK):qd5 K neg x y H Q=∃d es,Is K H d x/\Is K H (.list es) y/\d.canLay0=true/\PyData.canLayAll0 es=true/\d.depth<=32/\Q (.bl (if neg then !es.any (λy=>PyData.eqv y d) else es.any λy=>PyData.eqv y d)) H:=rfl
theorem VL(hK:X.K=K)(hu:X.A.units+64<cLine):gJ X (compareOp .NotIn) (qd5 K true):=by
 subst hK;intro p_ s σ H x y v u Q I rx ry h;obtain⟨d,es,hx,hy,h1,h2,h3,q⟩:=h;obtain⟨as,ra⟩:=hx.reads I d x v rx;obtain⟨bs,rb⟩:=hy.reads I _ y u ry;have:=Nat.min_le_right (PyData.depthAll es) d.depth;exact SeqAt.notIn_list_reads rb ra h2 h1 (by omega) ⟨.bl _,H,I,rfl,q⟩
end
section
variable {K:W.Frag}{l:Addr}{g:TG}{tb:TS}{D:Ends}{d:qb3 g tb D}{σ:St}{H:Hp}
theorem frE(xs:List V)(Pv:Nat->St->Hp->Prop)(h0:Pv 0 σ H)(hl:∀i σ H,i<=xs.length->Pv i σ H->aX K H l xs)
  (hs:∀i x t σ H,xs[i]? = some x->H t=none->Pv i σ H->g (.ref t) σ (upd H t (.tup [.int i,x])) λσ2 H2=>tb {D with nx:=Pv (i+1),ct:=Pv (i+1),bk:=D.nx} σ2 H2) (hd:∀σ H,Pv xs.length σ H->D.nx σ H):tFr (Ite K l) g tb D d σ H:=by
 refine⟨λi m σ H=>m=xs.length - i/\i<=xs.length/\Pv i σ H,⟨xs.length,by simp,qjY _,h0⟩,?_⟩;rintro i m σ H ⟨rfl,hi,p⟩;have q:=hl i σ H hi p
 by_cases hlt:i<xs.length
 ·refine .inr ⟨⟨xs,xs[i],q,by simp[hlt]⟩,Pv (i+1),λσ' H' p'=>⟨xs.length - (i+1),by omega,rfl,hlt,p'⟩,λx H' y=>?_⟩;obtain⟨t,u,rfl,ht,rfl,e⟩:=y;exact hs i u t σ H (e xs q) ht p
 ·have e:i=xs.length:=by omega
  subst e;exact .inl ⟨⟨xs,q,qjb _⟩,hd σ H p⟩
end
section
variable {K:W.Frag}{own:QAH}{caps:List Nat}{g:TG}{tt:TT}{te:TE}{D l:Addr}{σ:St}{H:Hp}{Q:Hp->Prop}{d:qb4 g tt te Q}
theorem cmE(xs:List V)(Pv:Nat->St->Hp->Prop)(h0:Pv 0 (stC own caps σ) H)(hl:∀i σ H,i<=xs.length->Pv i σ H->aX K H l xs)
  (hs:∀i x t σ H,xs[i]? = some x->H t=none->Pv i σ H->Ac g tt te D (Pv (i+1)) (.ref t) σ (upd H t (.tup [.int i,x]))) (hd:∀σ H,Pv xs.length σ H->Q H):tCm own caps (Ite K l) g tt te Q d D σ H:=by
 refine⟨λi m σ H=>m=xs.length - i/\i<=xs.length/\Pv i σ H,⟨xs.length,by simp,qjY _,h0⟩,?_⟩;rintro i m σ H ⟨rfl,hi,p⟩;have q:=hl i σ H hi p
 by_cases hlt:i<xs.length
 ·refine .inr ⟨⟨xs,xs[i],q,by simp[hlt]⟩,Pv (i+1),λσ' H' p'=>⟨xs.length - (i+1),by omega,rfl,hlt,p'⟩,λx H' y=>?_⟩;obtain⟨t,u,rfl,ht,rfl,e⟩:=y;exact hs i u t σ H (e xs q) ht p
 ·have e:i=xs.length:=by omega
  subst e;exact .inl ⟨⟨xs,q,qjb _⟩,hd σ H p⟩
end
section
variable {c:TT}{tb:TS}{D:Ends}{d:qdU c tb D}{σ:St}{H:Hp}
theorem whB(Pv:St->Hp->Prop)(μ:St->Hp->Nat)(h0:Pv σ H)
  (hs:∀σ H,Pv σ H->c σ H λb H1=>eE b (tb {D with nx:=λσ' H'=>Pv σ' H'/\μ σ' H'<μ σ H,ct:=λσ' H'=>Pv σ' H'/\μ σ' H'<μ σ H,bk:=D.nx} σ H1) (D.nx σ H1) ⟨0⟩)
  (mono:∀σ H Q Q',(∀b H1,Q b H1->Q' b H1)->c σ H Q->c σ H Q'):tWh c tb D d σ H:=U0 Pv μ h0 hs mono
end
end L2
namespace L2
open PySem
inductive RT{α:Type}(R:α->α->Prop):α->α->Prop where
 |refl (a:α):RT R a a
 |tail {a b c:α}:RT R a b->R b c->RT R a c
theorem RT.one{α:Type}{R:α->α->Prop}{a b:α}(h:R a b):RT R a b:=.tail (.refl a) h
theorem RT.trans{α:Type}{R:α->α->Prop}{a b c:α}(h:RT R a b)(h2:RT R b c):RT R a c:=by
 induction h2 with
 |refl=>exact h
 |tail _ r ih=>exact .tail ih r
theorem RT.mono{α:Type}{R S:α->α->Prop}(h:∀a b,R a b->S a b){a b:α}(r:RT R a b):RT S a b:=by
 induction r with
 |refl=>exact .refl _
 |tail _ q ih=>exact .tail ih (h _ _ q)
theorem RT.symm{α:Type}{R:α->α->Prop}(h:∀a b,R a b->R b a){a b:α}(r:RT R a b):RT R b a:=by
 induction r with
 |refl=>exact .refl _
 |tail _ q ih=>exact(RT.one (h _ _ q)).trans ih
theorem RT.closed{α:Type}{R:α->α->Prop}{P:α->Prop}(hc:∀a b,R a b->P a->P b){a b:α}(ha:P a)(r:RT R a b):P b:=by
 induction r with
 |refl=>exact ha
 |tail _ q ih=>exact hc _ _ q ih
abbrev jw:=Nat×Str×Str
def pO(S:List jw)(a b:Str):Prop:=∃n,(n,a,b)∈S
def uX(fx:Nat->Option Int)(e:Str×Str)(k:Nat):List jw:=
 (if (fx k).getD 0=0 then [(k,e.1,e.2)] else [])++(if (fx k).getD 1=1 then [(k,e.2,e.1)] else [])
def aZ(fx:Nat->Option Int):QAD->Nat->List jw
 |[],_=>[]
 |e::r,k=>uX fx e k++aZ fx r (k+1)
theorem rM(fx:Nat->Option Int):∀(l m:QAD)(k:Nat),aZ fx (l++m) k=aZ fx l k++aZ fx m (k+l.length)
 |[],m,k=>by simp[aZ]
 |e::l,m,k=>by
  simp only[qk2,aZ,rM fx l m (k+1),qjs,qjt];rw[show k+1+l.length=k+(l.length+1) by omega]
theorem GX(fx:Nat->Option Int){ps:QAD}{i:Nat}{e:Str×Str}(h:ps[i]? = some e):aZ fx (ps.take (i+1)) 0=aZ fx (ps.take i) 0++uX fx e i:=by
 have hi:i<ps.length:=(qi5.mp h).1;rw[take_one h,rM,qji,qkU (qkC hi),qjX];simp[aZ]
theorem jx{fx:Nat->Option Int}{e:Str×Str}{k:Nat}{s:jw}:s∈uX fx e k↔s.1=k/\(((fx k).getD 0=0/\s.2.1=e.1/\s.2.2=e.2)\/((fx k).getD 1=1/\s.2.1=e.2/\s.2.2=e.1)):=by
 obtain⟨n,a,b⟩:=s;unfold uX;rw[qjz];constructor
 ·rintro(h|h)
  ·split at h
   ·rename_i h0;simp at h;exact⟨h.1,.inl ⟨h0,h.2.1,h.2.2⟩⟩
   ·simp at h
  ·split at h
   ·rename_i h0;simp at h;exact⟨h.1,.inr ⟨h0,h.2.1,h.2.2⟩⟩
   ·simp at h
 ·rintro⟨rfl,⟨h0,rfl,rfl⟩|⟨h0,rfl,rfl⟩⟩
  ·exact .inl (by rw[if_pos h0];simp)
  ·exact .inr (by rw[if_pos h0];simp)
theorem jX{fx:Nat->Option Int}:∀{ps:QAD}{k:Nat}{s:jw},s∈aZ fx ps k↔∃j e,ps[j]? = some e/\s∈uX fx e (k+j)
 |[],k,s=>by simp[aZ]
 |e::r,k,s=>by
  simp only[aZ,qjz,jX (ps:=r)];constructor
  ·rintro(h|⟨j,e',h1,h2⟩)
   ·exact⟨0,e,rfl,h⟩
   ·exact⟨j+1,e',by simpa using h1,by rw[show k+(j+1)=k+1+j by omega];exact h2⟩
  ·rintro⟨j,e',h1,h2⟩;cases j with
   |zero=>simp at h1;subst h1;exact .inl h2
   |succ j=>exact .inr ⟨j,e',by simpa using h1,by rw[show k+1+j=k+(j+1) by omega];exact h2⟩
def ig(P:Nat->Prop)(ps:QAD)(a b:Str):Prop:=∃k,P k/\(ps[k]? = some (a,b)\/ps[k]? = some (b,a))
theorem ig.symm{P:Nat->Prop}{ps:QAD}{a b:Str}(h:ig P ps a b):ig P ps b a:=by
 obtain⟨k,hk,h⟩:=h;exact⟨k,hk,h.symm⟩
theorem Ae{P:Nat->Prop} [DecidablePred P] {ps:QAD}{a b:Str}:pO ((aZ (λ_=>none) ps 0).filter λs=>decide (P s.1)) a b↔ig P ps a b:=by
 unfold pO ig;constructor
 ·rintro⟨n,h⟩;obtain⟨h,hP⟩:=qjy.mp h;obtain⟨j,e,h1,h2⟩:=jX.mp h;rw[qjX] at h2;obtain⟨rfl,h3⟩:=jx.mp h2;refine⟨_,qjG hP,?_⟩
  rcases h3 with⟨_,h3,h4⟩|⟨_,h3,h4⟩
  ·simp only at h3 h4;subst h3 h4;exact .inl h1
  ·simp only at h3 h4;subst h3 h4;exact .inr h1
 ·rintro⟨k,hP,h⟩;refine⟨k,qjy.mpr ⟨jX.mpr ?_,qj2 hP⟩⟩
  rcases h with h|h
  ·exact⟨k,_,h,by rw[qjX];exact jx.mpr ⟨rfl,.inl ⟨rfl,rfl,rfl⟩⟩⟩
  ·exact⟨k,_,h,by rw[qjX];exact jx.mpr ⟨rfl,.inr ⟨rfl,rfl,rfl⟩⟩⟩
end L2
namespace L2
open PySem PySem.Spec PyProof.Rows
def aR{β:Type}(R:Hp->V->β->Prop)(H:Hp)(vs:List V)(bs:List β):Prop:=vs.length=bs.length/\∀(i:Nat) v b,vs[i]? = some v->bs[i]? = some b->R H v b
section
variable {β:Type}{R:Hp->V->β->Prop}{H H':Hp}{vs:List V}{bs:List β}
theorem aR.nil:aR R H [] []:=⟨rfl,λi v b h=>by simp at h⟩
theorem aR.keep(h:aR R H vs bs)(k:∀v b,R H v b->R H' v b):aR R H' vs bs:=⟨h.1,λi v b h1 h2=>k v b (h.2 i v b h1 h2)⟩
theorem aR.at(h:aR R H vs bs){i:Nat}{v:V}(hv:vs[i]? = some v):∃b,bs[i]? = some b/\R H v b:=by
 have hi:i<bs.length:=by rw[<- h.1];exact(qi5.mp hv).1
 exact⟨bs[i],by simp[hi],h.2 i v _ hv (by simp[hi])⟩
theorem aR.snoc{v:V}{b:β}(h:aR R H vs bs)(hv:R H v b):aR R H (vs++[v]) (bs++[b]):=by
 refine⟨by simp[h.1],λi u d h1 h2=>?_⟩
 by_cases hi:i<vs.length
 ·rw[qjr hi] at h1;rw[qjr (by rw[<- h.1];exact hi)] at h2;exact h.2 i u d h1 h2
 ·rw[qjw (by omega)] at h1;rw[qjw (by rw[<- h.1];omega),<- h.1] at h2;cases hk:i - vs.length with
  |zero=>
   rw[hk] at h1 h2;cases h1;cases h2;exact hv
  |succ j=>
   rw[hk] at h1;simp at h1
end
def Jz(H:Hp)(v:V)(s:jw):Prop:=∃t,v = .ref t/\H t=some (.tup [.int s.1,.str s.2.1,.str s.2.2])
def VN(H:Hp)(v:V)(c:QAH):Prop:=∃t,v = .ref t/\H t=some (.lst (c.map V.str))
abbrev cI:=aR Jz
abbrev eO:=aR VN
def bV(H H':Hp):Prop:=∀b xs,H b=some (.tup xs)->H' b=some (.tup xs)
theorem bV.of{H H':Hp}(s:Same H H'):bV H H':=λb xs e=>s b _ e
theorem bV.set{H:Hp}{p:Addr}{o u:HO}(h:H p=some o)(hn:∀xs,o≠.tup xs):bV H (upd H p u):=λb xs e=>by
 rw[aD (λz=>by subst z;rw[h] at e;exact hn xs (qjI e))];exact e
theorem Jz.keep{H H':Hp}(k:bV H H'):∀v s,Jz H v s->Jz H' v s:=λv s ⟨t,e,h⟩=>⟨t,e,k _ _ h⟩
theorem cI.keep{H H':Hp}{vs:List V}{S:List jw}(h:cI H vs S)(k:bV H H'):cI H' vs S:=aR.keep h (Jz.keep k)
theorem eO.same{H H':Hp}{vs:List V}{S:List (QAH)}(h:eO H vs S)(k:Same H H'):eO H' vs S:=aR.keep h λv s ⟨t,e,q⟩=>⟨t,e,k _ _ q⟩
def qaM(H:Hp)(d:Addr)(fx:Nat->Option Int):Prop:=∃kvs,H d=some (.dK kvs)/\∀k:Nat,kY kvs (Sum.inl (k:Int))=(fx k).map V.int
theorem JB{H:Hp}{d:Addr}(h:H d=some (.dK [])):qaM H d (λ_=>none):=⟨[],h,λ_=>rfl⟩
theorem JC(o:Option Int)(x:Int):(o.map V.int).getD (.int x) = .int (o.getD x):=by cases o <;> rfl
end L2
namespace L2
open PySem
inductive yQ(S:List jw)(a:Str):List Nat->List Str->Str->Prop where
 |nil:yQ S a [] [a] a
 |snoc {w:List Nat}{vs:QAH}{b c:Str}{n:Nat}:yQ S a w vs b->(n,b,c)∈S->yQ S a (w++[n]) (vs++[c]) c
theorem yQ.reach{S:List jw}{a:Str}{w:List Nat}{vs:QAH}{b:Str}(h:yQ S a w vs b):RT (pO S) a b:=by
 induction h with
 |nil=>exact .refl _
 |snoc _ q ih=>exact .tail ih ⟨_,q⟩
inductive Walk(S:List jw)(a:Str):Nat->Str->Prop where
 |nil:Walk S a 0 a
 |snoc {k:Nat}{b c:Str}{n:Nat}:Walk S a k b->(n,b,c)∈S->Walk S a (k+1) c
theorem Walk.of{S:List jw}{a b:Str}(h:RT (pO S) a b):∃k,Walk S a k b:=by
 induction h with
 |refl=>exact⟨0,.nil⟩
 |tail _ q ih=>
  obtain⟨k,hk⟩:=ih;obtain⟨n,hn⟩:=q;exact⟨k+1,.snoc hk hn⟩
abbrev BR:=List (Str×List Nat)
structure Lq(S:List jw)(a:Str)(at_:Nat)(R:BR):Prop where
 st:R[0]? = some (a,[])
 nd:(R.map (·.1)).Nodup
 pth:∀y w,(y,w)∈R->∃vs,yQ S a w vs y/\vs.Nodup/\∀v∈vs,v∈R.map (·.1)
 cl:∀(i:Nat) y w,i<at_->R[i]? = some (y,w)->∀n c,(n,y,c)∈S->∃w',(c,w')∈R/\w'.length<=w.length+1
 mono:∀(i j:Nat) y w z u,i<=j->R[i]? = some (y,w)->R[j]? = some (z,u)->w.length<=u.length
 bd:∀(y:Str)(w:List Nat) z u,R[at_]? = some (y,w)->(z,u)∈R->u.length<=w.length+1
structure kj(S T:List jw)(a:Str)(at_:Nat)(h:Str)(wh:List Nat)(R:BR):Prop where
 bf:Lq S a at_ R
 hr:R[at_]? = some (h,wh)
 md:∀n c,(n,h,c)∈T->∃w',(c,w')∈R/\w'.length<=wh.length+1
theorem Lq.begin(S:List jw)(a:Str):Lq S a 0 [(a,[])]:=by
 refine⟨rfl,by simp,?_,by intro i y w h;omega,?_,?_⟩
 ·intro y w h;simp at h;obtain⟨rfl,rfl⟩:=h;exact⟨[y],.nil,by simp,by simp⟩
 ·intro i j y w z u hij h1 h2;have hi:i=0:=by have:=(qi5.mp h1).1;simp at this;omega
  have hj:j=0:=by have:=(qi5.mp h2).1;simp at this;omega
  subst hi hj;rw[h1] at h2;cases h2;exact qjb _
 ·intro y w z u h1 h2;simp at h1 h2;rw[h2.2,<- h1.2];simp
theorem kj.enter{S:List jw}{a:Str}{at_:Nat}{h:Str}{wh:List Nat}{R:BR}(b:Lq S a at_ R)(hr:R[at_]? = some (h,wh)):kj S [] a at_ h wh R:=⟨b,hr,by simp⟩
theorem kj.skip{S T:List jw}{a:Str}{at_:Nat}{h:Str}{wh:List Nat}{R:BR}(b:kj S T a at_ h wh R){s:jw}(hs:s.2.1=h->s.2.2∈R.map (·.1)):kj S (T++[s]) a at_ h wh R:=by
 refine⟨b.bf,b.hr,λn c hm=>?_⟩
 rcases qjz.mp hm with q|q
 ·exact b.md n c q
 ·simp at q;subst q;obtain⟨⟨c',w'⟩,hw,e⟩:=qjv.mp (hs rfl);simp only at e;subst e;exact⟨w',hw,b.bf.bd _ _ _ _ b.hr hw⟩
theorem kj.add{S T:List jw}{a:Str}{at_:Nat}{h:Str}{wh:List Nat}{R:BR}(b:kj S T a at_ h wh R){n:Nat}{c:Str}(hS:(n,h,c)∈S)(hc:¬c∈R.map (·.1)):kj S (T++[(n,h,c)]) a at_ h wh (R++[(c,wh++[n])]):=by
 obtain⟨⟨st,nd,pth,cl,mono,bd⟩,hr,md⟩:=b;have hat:at_<R.length:=(qi5.mp hr).1;have ml:∀{i:Nat}{x},i<R.length->(R++[(c,wh++[n])])[i]? = some x->R[i]? = some x:=λhi e=>by rwa [qjr hi] at e
 have last:∀{i:Nat}{x},¬i<R.length->(R++[(c,wh++[n])])[i]? = some x->x=(c,wh++[n]):=λhi e=>by
  rw[qjw (by omega)] at e;cases hk:_ - R.length with
  |zero=>rw[hk] at e;simp at e;exact e.symm
  |succ k=>rw[hk] at e;simp at e
 refine⟨⟨?_,?_,?_,?_,?_,?_⟩,?_,?_⟩
 ·rw[qjr (by omega)];exact st
 ·rw[qjU,qla];refine⟨nd,by simp,?_⟩;intro x hx y hy e;simp at hy;subst hy;exact hc (e▸hx)
 ·intro y w hy
  rcases qjz.mp hy with q|q
  ·obtain⟨vs,h1,h2,h3⟩:=pth y w q;exact⟨vs,h1,h2,λv hv=>by rw[qjU];exact qjR _ (h3 v hv)⟩
  ·simp at q;obtain⟨rfl,rfl⟩:=q;obtain⟨vs,h1,h2,h3⟩:=pth h wh (qi9 hr);refine⟨vs++[y],.snoc h1 hS,?_,?_⟩
   ·rw[qla];refine⟨h2,by simp,?_⟩;intro x hx z hz e;simp at hz;subst hz;exact hc (e▸h3 x hx)
   ·intro v hv;rw[qjU]
    rcases qjz.mp hv with q|q
    ·exact qjR _ (h3 v q)
    ·simp at q;subst q;simp
 ·intro i y w hi e m c' hm;obtain⟨w',q1,q2⟩:=cl i y w hi (ml (by omega) e) m c' hm;exact⟨w',qjR _ q1,q2⟩
 ·intro i j y w z u hij h1 h2
  by_cases hj:j<R.length
  ·exact mono i j y w z u hij (ml (by omega) h1) (ml hj h2)
  ·have e2:=last hj h2;cases e2
   by_cases hi:i<R.length
   ·have:=bd h wh y w hr (qi9 (ml hi h1));simp;exact this
   ·have e1:=last hi h1;cases e1;exact qjb _
 ·intro y w z u h1 h2;have h1':=ml hat h1;rw[hr] at h1';cases h1'
  rcases qjz.mp h2 with q|q
  ·exact bd _ _ z u hr q
  ·simp at q;rw[q.2];simp
 ·rw[qjr hat];exact hr
 ·intro m c' hm
  rcases qjz.mp hm with q|q
  ·obtain⟨w',q1,q2⟩:=md m c' q;exact⟨w',qjR _ q1,q2⟩
  ·simp at q;obtain⟨rfl,rfl⟩:=q;exact⟨wh++[m],by simp,by simp⟩
theorem kj.leave{S:List jw}{a:Str}{at_:Nat}{h:Str}{wh:List Nat}{R:BR}(b:kj S S a at_ h wh R):Lq S a (at_+1) R:=by
 obtain⟨⟨st,nd,pth,cl,mono,bd⟩,hr,md⟩:=b;refine⟨st,nd,pth,?_,mono,?_⟩
 ·intro i y w hi e n c hm
  by_cases hia:i=at_
  ·subst hia;rw[hr] at e;cases e;exact md n c hm
  ·exact cl i y w (by omega) e n c hm
 ·intro y w z u h1 h2;have q1:=bd h wh z u hr h2;have q2:=mono at_ (at_+1) h wh y w (by omega) hr h1;omega
theorem Lq.all{S:List jw}{a:Str}{R:BR}(b:Lq S a R.length R){k:Nat}{y:Str}(h:Walk S a k y):∃w,(y,w)∈R/\w.length<=k:=by
 induction h with
 |nil=>exact⟨[],qi9 b.st,qjb _⟩
 | @snoc k b' c n _ q ih=>
  obtain⟨w,h1,h2⟩:=ih;obtain⟨i,hi⟩:=qkJ.mp h1;obtain⟨w',h3,h4⟩:=b.cl i b' w (qi5.mp hi).1 hi n c q;exact⟨w',h3,by omega⟩
theorem Lq.iff{S:List jw}{a:Str}{R:BR}(b:Lq S a R.length R)(y:Str):y∈R.map (·.1)↔RT (pO S) a y:=by
 constructor
 ·intro h;obtain⟨⟨z,w⟩,h1,e⟩:=qjv.mp h;simp only at e;subst e;obtain⟨vs,p,_⟩:=b.pth z w h1;exact p.reach
 ·intro h;obtain⟨k,hk⟩:=Walk.of h;obtain⟨w,h1,_⟩:=b.all hk;exact qjv.mpr ⟨(y,w),h1,rfl⟩
theorem Lq.sub{S:List jw}{a:Str}{i:Nat}{R:BR}(b:Lq S a i R){xs:QAH}(ha:a∈xs)(hS:∀s∈S,s.2.2∈xs):∀y∈R.map (·.1),y∈xs:=by
 intro y h;obtain⟨⟨z,w⟩,h1,e⟩:=qjv.mp h;simp only at e;subst e;obtain⟨vs,p,_⟩:=b.pth z w h1;cases p with
 |nil=>exact ha
 |snoc _ q=>exact hS _ q
theorem jy{α:Type} [DecidableEq α]:∀{l xs:List α},l.Nodup->(∀y∈l,y∈xs)->l.length<=xs.length
 |[],_,_,_=>qjY _
 |y::l,xs,hn,hs=>by
  obtain⟨h1,h2⟩:=qj0.mp hn;have hy:y∈xs:=hs y qjp;have:=jy (l:=l) (xs:=xs.erase y) h2 λz hz=>(List.mem_erase_of_ne (fun(e:z=y)=>h1 (e▸hz))).mpr (hs z (qjf _ hz));rw[List.length_erase_of_mem hy] at this;have h0:0<xs.length:=List.length_pos_of_mem hy;simp only[qjt];omega
theorem yQ.len{S:List jw}{a:Str}{w:List Nat}{vs:QAH}{b:Str}(h:yQ S a w vs b):vs.length=w.length+1:=by
 induction h with
 |nil=>rfl
 |snoc _ _ ih=>simp[ih]
theorem Lq.qhe{S:List jw}{a:Str}{i:Nat}{R:BR}(b:Lq S a i R){y:Str}{w:List Nat}(h:(y,w)∈R):w.length<R.length:=by
 obtain⟨vs,p,nd,sub⟩:=b.pth y w h;have h1:=jy nd sub;have h2:=p.len;simp at h1;omega
def qhf(H:Hp)(kv:Key×V)(yw:Str×List Nat):Prop:=kv.1=Sum.inr yw.1/\∃p,kv.2 = .ref p/\H p=some (.lst (yw.2.map λn:Nat=>V.int n))
structure d8(H:Hp)(kvs:List (Key×V))(R:BR):Prop where
 len:kvs.length=R.length
 ok:∀(i:Nat) kv yw,kvs[i]? = some kv->R[i]? = some yw->qhf H kv yw
theorem d8.keep{H H':Hp}{kvs:List (Key×V)}{R:BR}(h:d8 H kvs R)(k:∀(p:Addr) (w:List Nat),H p=some (.lst (w.map λn:Nat=>V.int n))->H' p=some (.lst (w.map λn:Nat=>V.int n))):d8 H' kvs R:=
 ⟨h.len,λi kv yw h1 h2=>by
  obtain⟨e,p,e2,q⟩:=h.ok i kv yw h1 h2;exact⟨e,p,e2,k _ _ q⟩⟩
theorem d8.none{H:Hp}{kvs:List (Key×V)}{R:BR}(h:d8 H kvs R){y:Str}(hy:¬y∈R.map (·.1)):kY kvs (Sum.inr y)=Option.none:=by
 unfold kY;rw[List.find?_eq_none.mpr]
 ·rfl
 ·intro kv hk;obtain⟨i,hi⟩:=qkJ.mp hk;have hl:i<R.length:=by rw[<- h.len];exact(qi5.mp hi).1
  obtain⟨e,_⟩:=h.ok i kv R[i] hi (by simp[hl]);simp only[qkD];intro z;rw[e] at z;cases z;exact hy (qjv.mpr ⟨R[i],qlC hl,rfl⟩)
theorem d8.some{H:Hp}{kvs:List (Key×V)}{R:BR}(h:d8 H kvs R)(nd:(R.map (·.1)).Nodup){y:Str}{w:List Nat}(hy:(y,w)∈R):∃p,kY kvs (Sum.inr y)=Option.some (.ref p)/\H p=Option.some (.lst (w.map λn:Nat=>V.int n)):=by
 obtain⟨i,hi⟩:=qkJ.mp hy;have hl:i<kvs.length:=by rw[h.len];exact(qi5.mp hi).1
 have hk:kvs[i]? = Option.some kvs[i]:=by simp[hl]
 unfold kY;have hf:∃kv,kvs.find? (λkv=>decide (kv.1=Sum.inr y))=Option.some kv:=by
  cases e:kvs.find? (λkv=>decide (kv.1=Sum.inr y)) with
  |some kv=>exact⟨kv,rfl⟩
  |none=>
   have:=List.find?_eq_none.mp e kvs[i] (qlC hl);obtain⟨e1,_⟩:=h.ok i _ _ hk hi;simp[e1] at this
 obtain⟨kv,hkv⟩:=hf;rw[hkv];have hm:=List.mem_of_find?_eq_some hkv;have hp:=List.find?_some hkv;simp only[qkD] at hp;obtain⟨j,hj⟩:=qkJ.mp hm;have hlj:j<R.length:=by rw[<- h.len];exact(qi5.mp hj).1
 obtain⟨e1,p,e2,e3⟩:=h.ok j kv R[j] hj (by simp[hlj]);rw[hp] at e1;have ey:R[j].1=y:=(Sum.inr.inj e1).symm;have ej:j=i:=pK nd (x:=y) (by rw[qje,show R[j]? = Option.some R[j] by simp[hlj]];simp[ey]) (by rw[qje,hi];rfl);subst ej;have:R[j]=(y,w):=by
  have:=hi;simp[hlj] at this;exact this
 rw[this] at e3;exact⟨p,by simp[e2],e3⟩
theorem d8.has{H:Hp}{kvs:List (Key×V)}{R:BR}(h:d8 H kvs R)(nd:(R.map (·.1)).Nodup)(y:Str):(kY kvs (Sum.inr y)).isSome=decide (y∈R.map (·.1)):=by
 by_cases hy:y∈R.map (·.1)
 ·obtain⟨⟨z,w⟩,h1,e⟩:=qjv.mp hy;simp only at e;subst e;obtain⟨p,e,_⟩:=h.some nd h1;rw[e,qj2 hy];rfl
 ·rw[h.none hy,qjM hy];rfl
theorem d8.qhg{H:Hp}{kvs:List (Key×V)}{R:BR}(h:d8 H kvs R)(nd:(R.map (·.1)).Nodup)(y:Str):(kY kvs (Sum.inr y)).isNone = !decide (y∈R.map (·.1)):=by
 rw[<- h.has nd y];cases kY kvs (Sum.inr y) <;> rfl
theorem d8.snoc{H:Hp}{kvs:List (Key×V)}{R:BR}{y:Str}{w:List Nat}{p:Addr}(h:d8 H kvs R)(hp:H p=Option.some (.lst (w.map λn:Nat=>V.int n))):d8 H (kvs++[(Sum.inr y,.ref p)]) (R++[(y,w)]):=by
 refine⟨by simp[h.len],λi kv yw h1 h2=>?_⟩
 by_cases hi:i<kvs.length
 ·rw[qjr hi] at h1;rw[qjr (by rw[<- h.len];exact hi)] at h2;exact h.ok i kv yw h1 h2
 ·rw[qjw (by omega)] at h1;rw[qjw (by rw[<- h.len];omega),<- h.len] at h2;cases hk:i - kvs.length with
  |zero=>
   rw[hk] at h1 h2;cases h1;cases h2;exact⟨rfl,p,rfl,hp⟩
  |succ j=>
   rw[hk] at h1;simp at h1
def qd6(i:Nat)(σ:St):Nat:=match σ[i]? with|some (some (V.int n))=>(10 - n).toNat|_=>0
theorem cD(x:Str)(xs:QAH):inV (.str x) (xs.map V.str)=decide (x∈xs):=by
 unfold inV;rw[List.any_map,qks,qkz,qkD];constructor
 ·rintro⟨y,hy,e⟩;simp[Q_] at e;exact e▸hy
 ·intro h;exact⟨x,h,by simp[Q_]⟩
theorem dI(xs:QAH):(xs.map V.str).all iT=true:=by
 rw[List.all_map,qjC];intro x _;rfl
open Classical in
def Ul(S:List jw)(xs:QAH)(x:Str):QAH:=xs.filter λy=>decide (RT (pO S) x y)
theorem PB{S:List jw}{xs:QAH}{x y:Str}:y∈Ul S xs x↔y∈xs/\RT (pO S) x y:=by
 unfold Ul;simp
theorem Zi{S:List jw}{xs:QAH}{x:Str}:(Ul S xs x).length<=xs.length:=qjJ _ _
theorem VP{S:List jw}{xs:QAH}{x y:Str}{i:Nat}(h:xs[i]? = some y)(b:Bool)(hb:b=true↔RT (pO S) x y):Ul S (xs.take (i+1)) x=Ul S (xs.take i) x++if b=true then [y] else []:=by
 unfold Ul;rw[take_one h,qjV];congr 1
 by_cases hr:RT (pO S) x y
 ·rw[if_pos (hb.mpr hr)];simp[hr]
 ·rw[if_neg λz=>hr (hb.mp z)];simp[hr]
def lW(S:List jw)(xs:QAH)(acc:List (QAH))(x:Str):List (QAH):=if (acc.any λc=>decide (x∈c))=true then acc else acc++[Ul S xs x]
def Af(S:List jw)(xs ys:QAH):List (QAH):=ys.foldl (lW S xs) []
theorem Rv{S:List jw}{xs ys:QAH}{x:Str}{i:Nat}(h:ys[i]? = some x):Af S xs (ys.take (i+1))=lW S xs (Af S xs (ys.take i)) x:=by
 unfold Af;rw[take_one h,List.foldl_append];rfl
theorem JD{S:List jw}{xs:QAH}:∀(ys:QAH)(acc:List (QAH)),(ys.foldl (lW S xs) acc).length<=acc.length+ys.length
 |[],acc=>by simp
 |y::ys,acc=>by
  have h1:=JD (S:=S) (xs:=xs) ys (lW S xs acc y);have h2:(lW S xs acc y).length<=acc.length+1:=by
   unfold lW;split <;> simp
  simp only[List.foldl_cons,qjt];omega
end L2
namespace L2
open PySem PySem.Spec PyProof.Rows
@[simp] theorem qf6 (i:Int):zm (.int i) .non=true:=rfl
@[simp] theorem qf7 (i:Int):zm .non (.int i)=true:=rfl
@[simp] theorem qf8 (i:Str):zm (.str i) .non=true:=rfl
theorem JF:∀a b:QAH,PyData.eqvAll (jm a) (jm b)=decide (a=b)
 |[],[]=>rfl
 |[],y::b=>by simp[jm,PyData.eqvAll]
 |x::a,[]=>by simp[jm,PyData.eqvAll]
 |x::a,y::b=>by
  show(PyData.eqv (.str x) (.str y) && PyData.eqvAll (jm a) (jm b))=_;rw[JF a b,qks];simp[PyData.eqv]
end L2
namespace L2
open PySem
def jl{α β:Type}(f:α->Nat->List β):List α->Nat->List β
 |[],_=>[]
 |e::r,k=>f e k++jl f r (k+1)
theorem yR{α β:Type}(f:α->Nat->List β):∀(l m:List α)(k:Nat),jl f (l++m) k=jl f l k++jl f m (k+l.length)
 |[],m,k=>by simp[jl]
 |e::l,m,k=>by
  simp only[qk2,jl,yR f l m (k+1),qjs,qjt];rw[show k+1+l.length=k+(l.length+1) by omega]
theorem xO{α β:Type}(f:α->Nat->List β){ps:List α}{i:Nat}{e:α}(h:ps[i]? = some e):jl f (ps.take (i+1)) 0=jl f (ps.take i) 0++f e i:=by
 have hi:i<ps.length:=(qi5.mp h).1;rw[take_one h,yR,qji,qkU (qkC hi),qjX];simp[jl]
theorem Ag{α β:Type}{f:α->Nat->List β}:∀{ps:List α}{k:Nat}{s:β},s∈jl f ps k↔∃j e,ps[j]? = some e/\s∈f e (k+j)
 |[],k,s=>by simp[jl]
 |e::r,k,s=>by
  simp only[jl,qjz,Ag (ps:=r)];constructor
  ·rintro(h|⟨j,e',h1,h2⟩)
   ·exact⟨0,e,rfl,h⟩
   ·exact⟨j+1,e',by simpa using h1,by rw[show k+(j+1)=k+1+j by omega];exact h2⟩
  ·rintro⟨j,e',h1,h2⟩;cases j with
   |zero=>simp at h1;subst h1;exact .inl h2
   |succ j=>exact .inr ⟨j,e',by simpa using h1,by rw[show k+1+j=k+(j+1) by omega];exact h2⟩
theorem lX{α β:Type}{f:α->Nat->List β}(hf:∀e k,(f e k).length<=1):∀(ps:List α)(k:Nat),(jl f ps k).length<=ps.length
 |[],_=>by simp[jl]
 |e::r,k=>by
  have h1:=lX hf r (k+1);have h2:=hf e k;simp only[jl,qjF,qjt];omega
def Mx(k:Nat)(s:jw):Bool:=decide (s.1≠k)
def uE(ps:QAD)(xs:QAH)(k:Nat)(b:Str):QAH:=Ul ((aZ (λ_=>none) ps 0).filter (Mx k)) xs b
def qZ(ps:QAD)(xs:QAH)(e:Str×Str)(k:Nat):List (Nat×QAH):=if e.1∈uE ps xs k e.2 then [] else [(k,uE ps xs k e.2)]
def oN(ps:QAD)(xs:QAH):List (Nat×QAH):=jl (qZ ps xs) ps 0
theorem Rw(ps:QAD)(xs:QAH)(e:Str×Str)(k:Nat):(qZ ps xs e k).length<=1:=by
 unfold qZ;split <;> simp
theorem Rx{ps:QAD}{xs:QAH}{b y:Str}{k:Nat}:y∈uE ps xs k b↔y∈xs/\RT (ig (λj=>j≠k) ps) b y:=by
 unfold uE;rw[PB];have:RT (pO ((aZ (λ_=>none) ps 0).filter (Mx k))) b y↔RT (ig (λj=>j≠k) ps) b y:=⟨RT.mono (S:=ig (λj=>j≠k) ps) λa b h=>Ae.mp h,RT.mono (R:=ig (λj=>j≠k) ps) λa b h=>Ae.mpr h⟩;rw[this]
def iV(c:QAH)(e:Str×Str)(k:Nat):List Nat:=if (e.1∈c↔e.2∈c) then [] else [k]
def dY(c:QAH)(ps:QAD):List Nat:=jl (iV c) ps 0
theorem lY(c:QAH)(e:Str×Str)(k:Nat):(iV c e k).length<=1:=by
 unfold iV;split <;> simp
theorem Mz{xs c:QAH}(hx:xs.Nodup)(hc:c.Nodup)(h:∀x∈c,x∈xs):(xs.filter λy=>decide (y∈c)).length=c.length:=by
 refine Nat.le_antisymm (jy (hx.filter _) λy hy=>?_) (jy hc λy hy=>?_)
 ·exact qjG (qjy.mp hy).2
 ·exact qjy.mpr ⟨h y hy,qj2 hy⟩
def xP(H:Hp)(v:V)(z:Addr×Nat×QAH):Prop:=∃t,v = .ref t/\H t=some (.tup [.int z.2.1,.ref z.1])/\H z.1=some (.lst (z.2.2.map V.str))
theorem xP.same{H H':Hp}{vs:List V}{zs:List (Addr×Nat×QAH)}(h:aR xP H vs zs)(k:Same H H'):aR xP H' vs zs:=aR.keep h λv s ⟨t,e,q,r⟩=>⟨t,e,k _ _ q,k _ _ r⟩
theorem xP.there{H:Hp}{vs:List V}{zs:List (Addr×Nat×QAH)}(h:aR xP H vs zs):∀z∈zs,H z.1=some (.lst (z.2.2.map V.str)):=λz hz=>by
 obtain⟨i,hi⟩:=qkJ.mp hz;have hl:i<vs.length:=by rw[h.1];exact(qi5.mp hi).1
 obtain⟨t,_,_,r⟩:=h.2 i vs[i] z (by simp[hl]) hi;exact r
end L2
set_option maxHeartbeats 4000000
namespace L2
open PySem PySem.Spec PyProof.Rows
section
variable {prog:Program}{w:World}{A:Around}{E:QAB}{s:Shared}
theorem VR{a:Addr}{Q:Option Obj->Shared->Prop}(h:Q (s.heap.get? a) s):wpAny (model prog w) A (loadIfAlive a) Q E s:=λΓ p _=>by
 show Sem.wp _ _ (Sem.loadIfAlive a Sem.pure) _ _ _ _;rw[Sem.wp_loadIfAlive];exact h
def lZ(b:Bool)(it l:Addr)(items:Array Value)(i:Nat)(h:Heap):Prop:=match b with
 |true=>h.IsListIter it l i/\h.IsList l items
 |false=>h.IsTupleIter it l i/\h.IsTuple l items
theorem qb9{b:Bool}{it l:Addr}{items:Array Value}{i:Nat}{h:Heap}(st:lZ b it l items i h):l≠it:=by
 cases b with
 |true=>
  obtain⟨⟨o,e,c,_⟩,⟨u,e',c',_⟩⟩:=st;exact Pr e' e c' c (by decide)
 |false=>
  obtain⟨⟨o,e,c,_⟩,⟨u,e',c',_⟩⟩:=st;exact Pr e' e c' c (by decide)
theorem V0{b:Bool}{it l:Addr}{items:Array Value}{i:Nat}{h:Heap}(st:lZ b it l items i h):∃o T,h.get? it=some o/\o.cls = .type T/\T≠ "enumerate" :=by
 cases b with
 |true=>obtain⟨⟨o,e,c,_⟩,_⟩:=st;exact⟨o,_,e,c,by decide⟩
 |false=>obtain⟨⟨o,e,c,_⟩,_⟩:=st;exact⟨o,_,e,c,by decide⟩
theorem qaN{b:Bool}{it l:Addr}{items:Array Value}{i:Nat}{h:Heap}(st:lZ b it l items i h):∃o T,h.get? l=some o/\o.cls = .type T/\T≠ "enumerate" :=by
 cases b with
 |true=>obtain⟨_,⟨o,e,c,_⟩⟩:=st;exact⟨o,_,e,c,by decide⟩
 |false=>obtain⟨_,⟨o,e,c,_⟩⟩:=st;exact⟨o,_,e,c,by decide⟩
theorem wk{b:Bool}{it l:Addr}{items:Array Value}{i:Nat}{h h':Heap}(st:lZ b it l items i h)(k1:∀o,h.get? it=some o->h'.get? it=some o)(k2:∀o,h.get? l=some o->h'.get? l=some o):lZ b it l items i h':=by
 cases b with
 |true=>obtain⟨⟨o,e,c⟩,⟨u,e',c'⟩⟩:=st;exact⟨⟨o,k1 _ e,c⟩,⟨u,k2 _ e',c'⟩⟩
 |false=>obtain⟨⟨o,e,c⟩,⟨u,e',c'⟩⟩:=st;exact⟨⟨o,k1 _ e,c⟩,⟨u,k2 _ e',c'⟩⟩
theorem V1{b:Bool}{it l:Addr}{items:Array Value}{i:Nat}{x:Value}{Q:QAB}(st:lZ b it l items i s.heap)(hx:items[i]? = some x)
  (hQ:∀h',lZ b it l items (i+1) h'->Heap.SameBut it s.heap h'->Q x {s with heap:=h'}):wpAny (model prog w) A (Builtin.SmallTypes.nextOf (.ref it)) Q E s:=by
 have ne:=qb9 st;cases b with
 |true=>
  obtain⟨h1,h2⟩:=st;refine wpAny_nextOf_list_item h1 h2 hx λh' a1 a2=>hQ h' ⟨a1,?_⟩ a2;obtain⟨u,e',c'⟩:=h2;exact⟨u,(a2.2 _ ne).trans e',c'⟩
 |false=>
  obtain⟨h1,h2⟩:=st;obtain⟨o,ho,hc,hd⟩:=id h1;obtain⟨ol,hol,hcl,nl,hdl⟩:=id h2;unfold Builtin.SmallTypes.nextOf;refine qi4 (qkx (name:=Str.ofString "__next__") h1.typeIs qk4 (qk0 qk4 h1.typeIs F.entry_tuple_iterator_next ?_ (F.args_tuple_iterator_next_1 _)));show wpAny (model prog w) _ (field (.ref it) 0 >>= _) _ _ s;refine qi4 (qjZ ho hd (x:=.ref l) rfl ?_);show wpAny (model prog w) _ (if (Value.ref l == Value.none)=true then _ else _) _ _ s
  rw[if_neg (λz=>by cases z)];show wpAny (model prog w) _ (field (.ref it) 1 >>= _) _ _ s;refine qi4 (qjZ ho hd (x:=.int i 0) rfl ?_);show wpAny (model prog w) _ (seqItems? (.ref l) >>= _) _ _ s;refine qi4 (wpAny_seqItems hol hdl ?_);simp only[Int.toNat_natCast,hx];refine qi4 (qlx ho hd (by simp) (qi_ ⟨x,rfl,qi_ (hQ _ ⟨?_,?_⟩ (qkH ..))⟩))
  ·exact⟨_,qkI _ ho (qlp (qk5 hd _)),(Obj.cls_mapFields ..).trans hc,by rw[qk5 hd];simp[rawInt]⟩
  ·exact⟨ol,((qkH ..).2 _ ne).trans hol,hcl,nl,hdl⟩
theorem V2{b:Bool}{it l:Addr}{items:Array Value}{i:Nat}{Q:QAB}(hh:A.handled=none)(st:lZ b it l items i s.heap)(hx:items[i]? = none)
  (hE:∀h' e,Heap.ExtBut it s.heap h'->(∃o,h'.get? e=some o/\o.cls = .type "StopIteration")->E (.ref e) {s with heap:=h'}):wpAny (model prog w) A (Builtin.SmallTypes.nextOf (.ref it)) Q E s:=by
 cases b with
 |true=>exact wpAny_nextOf_list_end hh st.1 st.2 hx hE
 |false=>
  obtain⟨h1,h2⟩:=st;obtain⟨o,ho,hc,hd⟩:=id h1;obtain⟨ol,hol,hcl,nl,hdl⟩:=id h2;unfold Builtin.SmallTypes.nextOf;refine qi4 (qkx (name:=Str.ofString "__next__") h1.typeIs qk4 (qk0 qk4 h1.typeIs F.entry_tuple_iterator_next ?_ (F.args_tuple_iterator_next_1 _)));show wpAny (model prog w) _ (field (.ref it) 0 >>= _) _ _ s;refine qi4 (qjZ ho hd (x:=.ref l) rfl ?_);show wpAny (model prog w) _ (if (Value.ref l == Value.none)=true then _ else _) _ _ s
  rw[if_neg (λz=>by cases z)];show wpAny (model prog w) _ (field (.ref it) 1 >>= _) _ _ s;refine qi4 (qjZ ho hd (x:=.int i 0) rfl ?_);show wpAny (model prog w) _ (seqItems? (.ref l) >>= _) _ _ s;refine qi4 (wpAny_seqItems hol hdl ?_);simp only[Int.toNat_natCast,hx];refine qi4 (qle (qi4 (qlx ho hd (by simp) ?_)));show wpAny (model prog w) _ (newExc (.type "StopIteration") [] >>= _) _ _ _;refine qi4 ?_;simp only[newExc,newTuple];refine qi4 (qj1 ?_ (by size_fits));refine qi4 (m:=firstArgMember _ _) (wpAny_of_eq (a:=Value.none) (by first|rfl|(simp only[firstArgMember];rfl)) ?_)
  refine qj1 ?_ (by size_fits);simp only[raiseNew];refine qi4 (wpAny_handled ?_)
  first|rw[show A.in1.handled=none from hh]|rw[hh]
  refine qi4 (qi_ (wpAny_throw ?_));exact hE _ _ (((qkH ..).extBut.push _).push _) ⟨_,qjg _ rfl,rfl⟩
def nj(h:Heap)(e it:Addr)(i:Int):Prop:=∃f0 f1 old,h.get? e=some {cls:=.type "enumerate",dict:=none,data:=.fields #[f0,f1,.ref it,rawInt i,.none,old],slots:=#[]}/\(f0 = .none\/∃a:Int,f0=rawInt a)
theorem Zj{e it r:Addr}{i:Int}{x f0 f1 old:Value}{Q:PySem.Fin->Shared->Prop} (he:s.heap.get? e=some {cls:=.type "enumerate",dict:=none,data:=.fields #[f0,f1,.ref it,rawInt i,.none,old],slots:=#[]}) (hf:f0 = .none\/∃a:Int,f0=rawInt a)
  (hQ:∀h',nj h' e it i->Heap.SameBut e s.heap h'->Q (.done (.ret (.ref r))) {s with heap:=h'}) :
  wpAny (model prog w) A (Builtin.SmallTypes.ownedTupleIsFree (.ref e) >>= λb=>if b=true then (rule "enumerate.__next__.owned-tuple-again" >>= λ_=>field (.ref e) 5 >>= λo=>setField (.ref e) 5 x >>= λ_=>Builtin.SmallTypes.ownedTupleHandOut (.ref e) (.ref r) >>= λ_=>letGo [o] [.ref r] >>= λ_=>ret (.ref r)) else ret (.ref r)) Q E s:=by
 have out:wpAny (model prog w) A (rule "enumerate.__next__.owned-tuple-again" >>= λ_=>field (.ref e) 5 >>= λo=>setField (.ref e) 5 x >>= λ_=>Builtin.SmallTypes.ownedTupleHandOut (.ref e) (.ref r) >>= λ_=>letGo [o] [.ref r] >>= λ_=>ret (.ref r)) Q E s:=by
  refine qi4 (qle ?_);refine qi4 (qjZ he rfl (x:=old) rfl ?_);refine qi4 (qk6 he (by simp) λh5 Zk Zm=>?_);refine qi4 ?_;unfold Builtin.SmallTypes.ownedTupleHandOut;refine qi4 (qk6 Zk (by simp) λh6 he6 hs6=>?_);refine qk6 he6 (by simp) λh7 he7 hs7=>?_;refine qi4 (wpAny_letGo (qi_ (hQ h7 ⟨rawInt r,.bool false,x,he7,.inr ⟨_,rfl⟩⟩ ?_)));exact⟨hs7.1.trans (hs6.1.trans Zm.1),λc hc=>(hs7.2 c hc).trans ((hs6.2 c hc).trans (Zm.2 c hc))⟩
 refine qi4 ?_;unfold Builtin.SmallTypes.ownedTupleIsFree;refine qi4 (qjZ he rfl (x:=f0) rfl ?_)
 rcases hf with rfl|⟨a,rfl⟩
 ·exact qi_ out
 ·show wpAny (model prog w) A (loadIfAlive a.toNat >>= _) _ _ s;refine qi4 (VR ?_);cases hl:s.heap.get? a.toNat with
  |none=>exact qi_ out
  |some ob=>
   show wpAny (model prog w) A (field (.ref e) 1 >>= _) _ _ s;refine qi4 (qjZ he rfl (x:=f1) rfl ?_)
   by_cases hb:(f1 != .bool true)=true
   ·rw[if_pos hb];refine qi4 (qk6 he (by simp) λh5 Zk Zm=>?_);exact qi_ (qi_ (hQ h5 ⟨rawInt a,.bool true,old,Zk,.inr ⟨_,rfl⟩⟩ Zm))
   ·rw[if_neg hb];exact qi_ (qi_ (hQ s.heap ⟨rawInt a,f1,old,he,.inr ⟨_,rfl⟩⟩ ⟨rfl,λ_ _=>rfl⟩))
theorem MF{b:Bool}{e it l:Addr}{i:Nat}{items:Array Value}{x:Value}{Q:QAG->Shared->Prop}
  (he:nj s.heap e it i) (st:lZ b it l items i s.heap) (hx:items[i]? = some x)
  (hQ:∀h',nj h' e it ((i:Int)+1)->lZ b it l items (i+1) h'->h'.get? s.heap.objs.size=some {cls:=.type "tuple",data:=.seq #[.int i s.toks,x]}->
   (∀c o,c≠e->c≠it->s.heap.get? c=some o->h'.get? c=some o)->Q (some (.ref s.heap.objs.size)) {s with heap:=h',toks:=s.toks+1}) :
  wpAny (model prog w) A (pyNext (.ref e)) Q E s:=by
 obtain⟨f0,f1,old,he,hf⟩:=he;obtain⟨oi,Ti,hoi,hci,hTi⟩:=V0 st;obtain⟨ol,Tl,hol,hcl,hTl⟩:=qaN st;have hne:it≠e:=Pr hoi he hci rfl hTi;have hnl:l≠e:=Pr hol he hcl rfl hTl;have hT:s.TypeIs (.ref e) "enumerate" :=⟨_,he,rfl⟩;unfold pyNext;refine qi4 (wpAny_attempt (qkx (name:=Str.ofString "__next__") hT qk8 (qk0 qk8 hT F.entry_enumerate_next ?_ (F.args_enumerate_next_1 _))));obtain⟨hp,g,d,tk,os⟩:=s;show wpAny (model prog w) _ (field (.ref e) 2 >>= _) _ _ _;refine qi4 (qjZ he rfl (x:=.ref it) rfl ?_);refine qi4 (V1 st hx λh1 st1 hs1=>?_);replace hs1:Heap.SameBut it hp h1:=hs1;have Er:=(hs1.2 e hne.symm).trans he;show wpAny (model prog w) _ (field (.ref e) 3 >>= _) _ _ ⟨h1,g,d,tk,os⟩;refine qi4 (qjZ Er rfl (x:=rawInt i) rfl ?_);show wpAny (model prog w) _ (field (.ref e) 4 >>= _) _ _ ⟨h1,g,d,tk,os⟩;refine qi4 (qjZ Er rfl (x:=.none) rfl ?_);show wpAny (model prog w) _ (mkInt i >>= _) _ _ ⟨h1,g,d,tk,os⟩;refine qi4 (wpAny_mkInt ?_);show wpAny (model prog w) _ (setField (.ref e) 3 (rawInt ((i:Int)+1)) >>= _) _ _ ⟨h1,g,d,tk+1,os⟩;refine qi4 (qk6 Er (by simp) λh2 he2 hs2=>?_);replace hs2:Heap.SameBut e h1 h2:=hs2;show wpAny (model prog w) _ (setField (.ref e) 4 .none >>= _) _ _ ⟨h2,g,d,tk+1,os⟩;refine qi4 (qk6 he2 (by simp) λh3 he3 hs3=>?_);replace hs3:Heap.SameBut e h2 h3:=hs3;show wpAny (model prog w) _ (newTuple [.int i tk,x] >>= _) _ _ ⟨h3,g,d,tk+1,os⟩;refine qi4 (wpAny_newTuple ?_);have hsz:h3.objs.size=hp.objs.size:=by rw[hs3.1,hs2.1,hs1.1]
 have hel:e<hp.objs.size:=qjd he;have he4:(h3.push {cls:=.type "tuple",data:=.seq #[.int i tk,x]}).get? e=some {cls:=.type "enumerate",dict:=none,data:=.fields #[f0,f1,.ref it,rawInt ((i:Int)+1),.none,old],slots:=#[]}:=qi6 _ he3;have Ry:(h3.push {cls:=.type "tuple",data:=.seq #[.int i tk,x]}).get? hp.objs.size=some {cls:=.type "tuple",data:=.seq #[.int i tk,x]}:=by rw[<- hsz];exact qjg _ rfl
 have JG:∀c o,c≠e->c≠it->hp.get? c=some o->(h3.push {cls:=.type "tuple",data:=.seq #[.int i tk,x]}).get? c=some o:=λc o h1 h2 h3=>qi6 _ (hs3.extBut c o h1 (hs2.extBut c o h1 (hs1.extBut c o h2 h3)));have MJ:lZ b it l items (i+1) (h3.push {cls:=.type "tuple",data:=.seq #[.int i tk,x]}):=wk st1 (λo z=>qi6 _ (hs3.extBut _ _ hne (hs2.extBut _ _ hne z))) (λo z=>qi6 _ (hs3.extBut _ _ hnl (hs2.extBut _ _ hnl z)));refine Zj (s:=⟨h3.push {cls:=.type "tuple",data:=.seq #[.int i tk,x]},g,d,tk+1,os⟩) he4 hf λh5 hE5 Zm=>⟨_,rfl,qi_ ?_⟩;rw[show(Shared.mk h3 g d (tk+1) os).heap.objs.size=hp.objs.size from hsz];refine hQ h5 hE5 (wk MJ (λo z=>(Zm.2 _ hne).trans z) (λo z=>(Zm.2 _ hnl).trans z)) ((Zm.2 _ (qkL hel)).trans Ry) λc o h1 h2 h3=>(Zm.2 c h1).trans (JG c o h1 h2 h3)
end
end L2
namespace PySem
open Sem (wp)
theorem rN:typeLookup (.type "enumerate") "__getattr__" = pure none:=by rw[typeLookup_type,builtinLookup_eq_fast];kernel_rfl
theorem wu:typeLookup (.type "enumerate") "keys" = pure none:=by rw[typeLookup_type,builtinLookup_eq_fast];kernel_rfl
theorem mj:entryFor table "enumerate.__getattribute__" = some Builtin.«object.__getattribute__»:=
 entryFor_alias (id':= "object.__getattribute__") (by kernel_rfl) (by decide+kernel) (by decide+kernel) (by kernel_rfl)
theorem GZ(a:Addr)(xs:Array Value)(sl:Array (QAG))(name:Str)(u:Tok) (hmiss:typeLookup (.type "enumerate") name=pure none) (hname:(["__module__", "__name__", "__qualname__", "__doc__", "__annotations__"]:QAH).contains name=false) (hsz:name.length+100<=sizeLine:=by size_fits) :
  Meets (Builtin.«object.__getattribute__» ⟨[.ref a,.str name u],[]⟩) (λA R s=>s.heap.get? a=some {cls:=.type "enumerate",dict:=none,data:=.fields xs,slots:=sl}/\raisesAttr (.ref a) name A R s):=
 Meets.of_wp λprog w A R s hs=>by
  obtain⟨hp,g,d,tk,os⟩:=s;obtain⟨hx,hs⟩:=hs;have hT:(⟨hp,g,d,tk,os⟩:Shared).TypeIs (.ref a) "enumerate" :=⟨_,hx,rfl⟩;unfold Builtin.«object.__getattribute__»
  repeat (any_goals (first|assumption|wp_step))
  simp only[hname,qkh,qkQ]
  repeat (any_goals (first|assumption|wp_step))
  exact wpAny_raiseAttrError hs.1 hs.2 (attrMsg_fits (by decide+kernel) hsz)
theorem G3{prog:Program}{w:World}{A:Around}{E:QAB}{s:Shared}{a:Addr}{xs:Array Value}{Q:QAG->Shared->Prop}
  (hx:s.heap.get? a=some {cls:=.type "enumerate",dict:=none,data:=.fields xs,slots:=#[]}) (hA:A.handled=none)
  (h:∀h' tk,(∀b o,s.heap.get? b=some o->h'.get? b=some o)->Q none {s with heap:=h',toks:=tk}) :
  wpAny (model prog w) A (getAttr? (.ref a) "keys") Q E s:=by
 obtain⟨hp,g,d,tk,os⟩:=s;have hT:∀tk',(⟨hp,g,d,tk',os⟩:Shared).TypeIs (.ref a) "enumerate" :=λ_=>⟨_,hx,rfl⟩;have f1:=sub_AttributeError;have f3:=F.slot_enumerate_getattribute.lookup;have f4:=F.slot_enumerate_getattribute.bind (.ref a);have f5:=rN;have hname:(["__module__", "__name__", "__qualname__", "__doc__", "__annotations__"]:QAH).contains "keys" = false:=by decide
 unfold getAttr? getAttrBy? getAttrBy
 repeat (any_goals (first|assumption|exact hT _|((with_reducible show wpAny _ _ (call (Value.builtin "enumerate.__getattribute__") _ _) _ _ _);refine call_meets F.slot_enumerate_getattribute (hT _) mj (F.args_enumerate_getattribute_2 _ _) (GZ a xs #[] "keys" _ wu hname) ⟨hx,hA,λh' tk' e hx'=>?_⟩)|wp_step))
 obtain⟨t',u',he⟩:=hx'.there;show wpAny _ _ (getattributeRaised _ _ _ _ _ _ _) _ _ _;unfold getattributeRaised
 repeat (any_goals (first|assumption|wp_step))
 exact h _ _ hx'.of.keeps
end PySem
namespace PySem
open Sem (wp)
open AutoSeq1 (wpAny_loadPart')
theorem wz(l:Addr)(items:Array Value)(n:Nat)(dct:Option Addr)(sl:Array (QAG)) :
  Meets (Builtin.«enumerate.__new__» ⟨[.type "enumerate",.ref l],[]⟩) (λ_ R s=>s.heap.get? l=some {cls:=.type "tuple",dict:=dct,data:=.seq items n,slots:=sl}/\
   R (.ok (.ret (.ref (s.heap.push {cls:=.type "tuple_iterator",data:=.fields #[.ref l,.int 0 0]}).objs.size)))
    {s with heap:=(s.heap.push {cls:=.type "tuple_iterator",data:=.fields #[.ref l,.int 0 0]}).push {cls:=.type "enumerate",data:=.fields #[.none,.bool false,.ref s.heap.objs.size,rawInt 0,.none,.none]}}):=
 .of_wp λprog w A R s h=>by
  obtain⟨hp,g,d,tk,os⟩:=s;obtain⟨hl,h⟩:=h;have hsub:=sub_enumerate;have hL:Heap.IsTuple (Shared.heap ⟨hp,g,d,tk,os⟩) l items:=⟨_,hl,rfl,n,rfl⟩
  wp_walk using wpAny_loadPart' hl
  refine wpAny_stack_any λst=>qi_ ?_;split
  ·rename_i c _ _ _ _ _;cases (c == Value.type "enumerate")
   ·wp_walk using wpAny_loadPart' hl,qk3 hL
    exact⟨_,rfl,h⟩
   ·wp_walk using wpAny_loadPart' hl,qk3 hL
    exact⟨_,rfl,h⟩
  ·wp_walk using wpAny_loadPart' hl,qk3 hL
   exact⟨_,rfl,h⟩
section
variable {prog:Program}{w:World}{A:Around}{E:QAB}{s:Shared}
theorem wA{b:Bool}{l:Addr}{items:Array Value}{Q:QAB}(hL:match b with|true=>s.heap.IsList l items|false=>s.heap.IsTuple l items)
  (h:∀h',L2.nj h' (s.heap.objs.size+1) s.heap.objs.size 0->L2.lZ b s.heap.objs.size l items 0 h'->h'.objs.size=s.heap.objs.size+2->
   (∀b o,s.heap.get? b=some o->h'.get? b=some o)->Q (.ref (s.heap.objs.size+1)) {s with heap:=h'}) :
  wpAny (model prog w) A (call (.type "enumerate") [.ref l]) Q E s:=by
 cases b with
 |true=>
  exact call_enumerate_list hL λh' b1 b2 b3 kk=>h h' ⟨_,_,_,b1,.inl rfl⟩ ⟨b2,hL.at λo z=>kk _ _ z⟩ b3 kk
 |false=>
  obtain⟨⟨c,dct,dt,sl⟩,hl,hc,n,hd⟩:=id hL;replace hc:c = .type "tuple" :=hc;replace hd:dt = .seq items n:=hd;subst hc hd;refine callType_new F.called_enumerate (by decide) (F.typeCall_enumerate_1 _) (F.newCall_enumerate_1 _) (λobj=>F.args_object_init_2 obj _) F.entry_enumerate_new
   (wz l items n dct sl) ⟨hl,?_⟩
  have hz:(s.heap.push {cls:=.type "tuple_iterator",data:=.fields #[.ref l,.int 0 0]}).objs.size=s.heap.objs.size+1:=qjN ..;show _/\_;rw[hz];have he:L2.nj ((s.heap.push {cls:=.type "tuple_iterator",data:=.fields #[.ref l,.int 0 0]}).push
    {cls:=.type "enumerate",data:=.fields #[.none,.bool false,.ref s.heap.objs.size,rawInt 0,.none,.none]}) (s.heap.objs.size+1) s.heap.objs.size 0:=by
   have:=qjg (s.heap.push {cls:=.type "tuple_iterator",data:=.fields #[.ref l,.int 0 0]})
    (o:={cls:=.type "enumerate",data:=.fields #[.none,.bool false,.ref s.heap.objs.size,rawInt 0,.none,.none]}) rfl
   rw[hz] at this;exact⟨_,_,_,this,.inl rfl⟩
  obtain⟨_,_,_,he',_⟩:=id he;have kk:∀b o,s.heap.get? b=some o->((s.heap.push {cls:=.type "tuple_iterator",data:=.fields #[.ref l,.int 0 0]}).push
    {cls:=.type "enumerate",data:=.fields #[.none,.bool false,.ref s.heap.objs.size,rawInt 0,.none,.none]}).get? b=some o:=λb o x=>qi6 _ (qi6 _ x)
  refine⟨⟨_,he',rfl⟩,h _ he ⟨⟨_,qi6 _ (qjg _ rfl),rfl,rfl⟩,⟨_,kk _ _ hl,rfl,n,rfl⟩⟩ (by rw[qjN,hz]) kk⟩
end
end PySem
namespace L2
open PySem PySem.Spec PyProof.Rows
section
variable {prog:Program}{w:World}{A:Around}{E:QAB}{s:Shared}
theorem MK{b:Bool}{e it l:Addr}{i:Nat}{items:Array Value}{Q:QAG->Shared->Prop}(hh:A.handled=none)
  (he:nj s.heap e it i) (st:lZ b it l items i s.heap) (hx:items[i]? = none)
  (hQ:∀h',Heap.ExtBut it s.heap h'->Q none {s with heap:=h'}):wpAny (model prog w) A (pyNext (.ref e)) Q E s:=by
 obtain⟨f0,f1,old,he,hf⟩:=he;have hT:s.TypeIs (.ref e) "enumerate" :=⟨_,he,rfl⟩;unfold pyNext;refine qi4 (wpAny_attempt (qkx (name:=Str.ofString "__next__") hT qk8
  (qk0 qk8 hT F.entry_enumerate_next ?_ (F.args_enumerate_next_1 _))))
 show wpAny _ _ (field (.ref e) 2 >>= _) _ _ _;refine qi4 (qjZ he rfl (x:=.ref it) rfl ?_);refine qi4 (V2 hh st hx λh' x he' hx'=>?_);obtain⟨o,ho,hc⟩:=hx';refine qi4 (wpAny_isInstance (T:= "StopIteration") (b:=true) ⟨o,ho,hc⟩ isSubtype_stop ?_);exact qi_ (hQ _ he')
end
theorem wB:entryFor table "dict.update.loop" = some Builtin.«dict.update.loop»:=entryFor_of_fast (by kernel_rfl)
theorem kZ:plainId "dict.update.loop" = true:=by decide+kernel
def nums{α:Type}:Nat->List α->List (Key×α)
 |_,[]=>[]
 |n,x::xs=>(Sum.inl (n:Int),x)::nums (n+1) xs
theorem Ah{α:Type}:∀(n:Nat)(xs:List α),(nums n xs).length=xs.length
 |_,[]=>rfl
 |n,x::xs=>by rw[nums,qjt,qjt,Ah]
theorem JH{α:Type}:∀(n:Nat)(xs:List α)(y:α),nums n (xs++[y])=nums n xs++[(Sum.inl ((n+xs.length:Nat):Int),y)]
 |n,[],y=>rfl
 |n,x::xs,y=>by
  rw[qk2,nums,JH (n+1) xs y,nums,qk2,qjt,Nat.add_right_comm,Nat.add_assoc]
theorem JK{α:Type}:∀(n:Nat)(xs:List α)(m:Nat),(nums n xs).any (λkv=>decide (kv.1=(Sum.inl (m:Int):Key)))=true->n<=m/\m<n+xs.length
 |n,[],m,h=>by simp[nums] at h
 |n,x::xs,m,h=>by
  rw[nums,qld,Bool.or_eq_true] at h
  rcases h with h|h
  ·have h1:=qjG h;injection h1 with h1;have h2:n=m:=by omega
   subst h2;simp
  ·have:=JK (n+1) xs m h;rw[qjt];omega
theorem Zn:∀{ys:List V}{its:QAE}(n:Nat),Vals ys its->KV (nums n ys) (nums n its):=by
 intro ys its n r
 induction r generalizing n with
 |nil=>exact .nil
 |cons h t ih=>exact .cons ⟨rfl,h⟩ (ih (n+1))
section
variable {P:Program}{w:World}{A:Around}{R:Result->Shared->Prop}{b:Bool}{e it l D:Addr}{its:QAE}
theorem Zo(hh:A.handled=none)(h1:D≠e)(h2:D≠it)(h3:D≠l)(hs:its.length<=sizeLine) :
  ∀(k i:Nat)(s:Shared),its.length - i=k->i<=its.length->nj s.heap e it i->lZ b it l its.toArray i s.heap->s.heap.DictOf (bJ P w) D (nums 0 (its.take i))->
   (∀h' tk,(∀c o,c≠D->c≠e->c≠it->s.heap.get? c=some o->h'.get? c=some o)->h'.DictOf (bJ P w) D (nums 0 its)->R (.ok (.ret .none)) {s with heap:=h',toks:=tk})->
   codeAny (model P w) A (.builtin "dict.update.loop" ⟨[.ref D,.ref e,rawInt i,.none],[]⟩) R s:=by
 intro k
 induction k with
 |zero=>
  intro i s hk hi hE hst hD hR;obtain rfl:i=its.length:=by omega
  refine qlm wB ?_;rw[qlv kZ _];show wpAny _ A.in1 (pyNext (.ref e) >>= _) _ _ s;refine qi4 (MK (A:=A.in1) hh hE hst (by simp) λh' hm=>?_);refine qi4 (qi_ ?_);refine qi_ (hR h' s.toks (λc o c1 c2 c3 z=>hm c o c3 z) ?_);rw[qjk] at hD;exact hD.extBut hm h2
 |succ k ih=>
  intro i s hk hi hE hst hD hR;have hlt:i<its.length:=by omega
  refine qlm wB ?_;rw[qlv kZ _];show wpAny _ A.in1 (pyNext (.ref e) >>= _) _ _ s;refine qi4 (MF hE hst (x:=its[i]) (by simp[hlt]) λh' hE' hst' ht hm=>?_);have hT:(Shared.mk h' s.gens s.drawn (s.toks+1) s.os).TypeIs (.ref s.heap.objs.size) "tuple" :=⟨_,ht,rfl⟩;show wpAny _ A.in1 (holding _ _ >>= _) _ _ _;refine qi4 (qkm ?_);refine qi4 (wpAny_tryCatch ?_);unfold Builtin.Dict.pairItems;refine qi4 (wpAny_typeOf hT ?_);rw[if_pos (by decide)];refine qi4 (wpAny_seqItems ht rfl ?_);refine qi_ ?_;show wpAny _ A.in1 (holding _ (dictSet D (.int i s.toks) its[i])) _ _ _;refine qkm ?_;have hD':h'.DictOf (bJ P w) D (nums 0 (its.take i)):=by
   obtain⟨o,es,ep,ho,r⟩:=hD;exact⟨o,es,ep,hm D o h1 h2 ho,r⟩
  refine wpAny_dictSet_pairs (knd:=bJ P w) (k:=Sum.inl (i:Int)) (s:=Shared.mk h' s.gens s.drawn (s.toks+1) s.os) (yM P w i s.toks) hD' (λh2' hD2 hsb=>?_) (by rw[Ah,qji];omega);have ei:(i:Int)+1=((i+1:Nat):Int):=by omega
  have est:stored (nums 0 (its.take i)) (Sum.inl (i:Int)) its[i]=nums 0 (its.take (i+1)):=by
   unfold stored;rw[if_neg (λz=>?_)]
   ·rw[List.take_succ_eq_append_getElem hlt,JH,qji,qkU (by omega),qjX]
   ·have:=JK _ _ _ z;rw[qji] at this;omega
  rw[est] at hD2;rw[ei] at hE';refine qi_ ⟨plainId_quiet kZ _,?_⟩;show codeAny _ A (.builtin "dict.update.loop" ⟨[.ref D,.ref e,rawInt ((i:Int)+1),.none],[]⟩) _ _;rw[ei];refine ih (i+1) _ (by omega) hlt ?_ (wk hst' (λo z=>(hsb.2 _ h2.symm).trans z) (λo z=>(hsb.2 _ h3.symm).trans z)) hD2 λh3' tk hm3 rB=>?_
  ·obtain⟨f0,f1,old,q,hf⟩:=hE';exact⟨f0,f1,old,(hsb.2 _ h1.symm).trans q,hf⟩
  ·exact hR h3' tk (λc o c1 c2 c3 z=>hm3 c o c1 c2 c3 ((hsb.2 c c1).trans (hm c o c2 c3 z))) rB
end
section
variable {P:Program}{w:World}{A:Around}{E:QAB}{s:Shared}{b:Bool}{e it l:Addr}{its:QAE}
theorem G4{Q:QAB} (hT:s.TypeIs (.ref e) "enumerate") (h:Q (.ref e) s):wpAny (model P w) A (pyIter (.ref e)) Q E s:=by
 refine wpAny_pyIter_slot hT F.slot_enumerate_iter (qk0 F.slot_enumerate_iter hT F.entry_enumerate_iter ?_ (F.args_enumerate_iter_1 _));show wpAny _ _ (ret (.ref e)) _ _ s;exact qi_ ⟨_,rfl, "enumerate",_,hT,qk8.lookup,h⟩
theorem Zq{Q:QAB}(hh:A.handled=none)(hE:nj s.heap e it 0)(hst:lZ b it l its.toArray 0 s.heap)(hs:its.length<=sizeLine)
  (h:∀h' tk,(∀c o,c≠e->c≠it->s.heap.get? c=some o->h'.get? c=some o)->h'.DictOf (bJ P w) s.heap.objs.size (nums 0 its)->Q (.ref s.heap.objs.size) {s with heap:=h',toks:=tk}) :
  wpAny (model P w) A (call (.type "dict") [.ref e]) Q E s:=by
 obtain⟨f0,f1,old,he,hf⟩:=hE;obtain⟨oi,Ti,hoi,hci,hTi⟩:=V0 hst;obtain⟨ol,Tl,hol,hcl,hTl⟩:=qaN hst;refine callType_codes (Q₁:=λobj s₁=>obj = .ref s.heap.objs.size/\s₁={s with heap:=s.heap.push {cls:=.type "dict",data:=.dict #[]}}) F.kt_called_dict (F.kt_typeCall_dict_1 _) F.entry_dict_init (kt_code_dict_new _ ⟨rfl,rfl⟩) ?_;rintro obj s₁ ⟨rfl,rfl⟩;have hnew:(s.heap.push {cls:=.type "dict",data:=.dict #[]}).DictOf (bJ P w) s.heap.objs.size []:=Heap.DictOf.new s.heap;have kp:∀c o,s.heap.get? c=some o->(s.heap.push {cls:=.type "dict",data:=.dict #[]}).get? c=some o:=λc o z=>qi6 _ z;have ne:∀{c o},s.heap.get? c=some o->s.heap.objs.size≠c:=λz=>qkL (qjd z);have hT:(Shared.mk (s.heap.push {cls:=.type "dict",data:=.dict #[]}) s.gens s.drawn s.toks s.os).TypeIs (.ref e) "enumerate" :=⟨_,kp _ _ he,rfl⟩;refine⟨hnew.typeIs,F.args_dict_init_2 _ _,?_⟩;unfold Builtin.«dict.__init__»;refine qi4 ?_;unfold Builtin.Dict.selfAndRest;refine qi4 (wpAny_notOrdered_dict hnew.typeIs ?_);show wpAny _ _ (pure (s.heap.objs.size,[Value.ref e])) _ _ _;refine qi_ ?_;show wpAny _ _ (Builtin.Dict.updateFrom "dict.__init__" s.heap.objs.size (.ref e) [] .none) _ _ _;unfold Builtin.Dict.updateFrom;refine qi4 (wpAny_typeOf hT ?_);rw[if_pos (by decide)];show wpAny (model P w) A.in1.in1 (getAttr? (.ref e) "keys" >>= _) _ _ _;refine qi4 (G3 (A:=A.in1.in1) (kp _ _ he) hh λh1 tk1 k1=>?_);have Er:=k1 _ _ (kp _ _ he);have hT1:(Shared.mk h1 s.gens s.drawn tk1 s.os).TypeIs (.ref e) "enumerate" :=⟨_,Er,rfl⟩;simp only[Option.isNone_none,qlj];refine qi4 (qle ?_);refine qi4 (G4 (s:=Shared.mk h1 s.gens s.drawn tk1 s.os) hT1 ?_);refine qi_ ⟨plainId_quiet kZ _,?_⟩;have hD1:h1.DictOf (bJ P w) s.heap.objs.size []:=by
  obtain⟨o,es,ep,ho,r⟩:=hnew;exact⟨o,es,ep,k1 _ o ho,r⟩
 refine Zo (A:=A.in1) (b:=b) (l:=l) (it:=it) hh (ne he) (ne hoi) (ne hol) hs its.length 0 _ (by omega) (qjY _) ⟨f0,f1,old,Er,hf⟩ (wk hst (λo z=>k1 _ _ (kp _ _ z)) (λo z=>k1 _ _ (kp _ _ z))) (by simpa [nums] using hD1) λh' tk hm hD=>⟨rfl,h h' tk (λc o c1 c2 z=>hm c o (ne z).symm c1 c2 (k1 _ _ (kp _ _ z))) hD⟩
end
section
variable {X:Cx}{K:W.Frag}
def tDE(K:W.Frag)(t:TA):TE:=λσ H Q=>t σ H λvs H1=>∃a xs,vs=[.ref a]/\(aX K H1 a xs\/dg K H1 a xs)/\∀p,H1 p=none->Q (.ref p) (upd H1 p (.dK (nums 0 xs)))
@[simp ↓] theorem qiq (K:W.Frag)(t:TA) σ H Q:tDE K t σ H Q=(t σ H λvs H1=>∃a xs,vs=[.ref a]/\(aX K H1 a xs\/dg K H1 a xs)/\∀p,H1 p=none->Q (.ref p) (upd H1 p (.dK (nums 0 xs)))):=rfl
theorem JL(hK:X.K=K)(hc:X.calm=true){a:Expr}{ta:TA}{p p2 pos pos2:Pos} (hg1:Gl X "dict") (hm1:X.mg "dict" = none) (hg2:Gl X "enumerate") (hm2:X.mg "enumerate" = none) (ha:PA X [a] ta)
  (hs:starEach [a] X.env=[(false,eval a X.env)]:=by rfl)
  (hs1:starEach [.Call (.Name "enumerate" p2) [a] [] pos2] X.env=[(false,eval (.Call (.Name "enumerate" p2) [a] [] pos2) X.env)]:=by rfl) :
  PE X (.Call (.Name "dict" p) [.Call (.Name "enumerate" p2) [a] [] pos2] [] pos) (tDE K ta):=by
 subst hK;intro p_ s σ H Q I h;refine qku (rD I hg1 hm1 Mq ?_ (by decide) (by decide));refine qkB ?_ (by rw[hs1];rfl) (by rfl);rw[hs1];show wpAny _ _ (spliced ((false,eval (.Call (.Name "enumerate" p2) [a] [] pos2) X.env)::[])) _ _ s;refine Calls.spliced_cons ?_;refine qku (rD I hg2 hm2 Ep ?_ (by decide) (by decide));refine qkB (cF (ha pos2 p_ s σ H _ I h) λus s1 zz=>?_) (by rw[hs];rfl) (by rfl);obtain⟨vs,H1,I1,r1,q1⟩:=zz;obtain⟨l1,xs,rfl,qa,q⟩:=q1;obtain⟨u,rfl,r⟩:=vals1 r1;obtain rfl:u=Value.ref l1:=r;have go:∃(b:Bool)(its:QAE),Vals xs its/\its.length<=sizeLine/\(match b with|true=>s1.heap.IsList l1 its.toArray|false=>s1.heap.IsTuple l1 its.toArray):=by
  rcases qa with qa|qa
  ·obtain⟨its,rv,pl,hz⟩:=I1.list qa;exact⟨true,its,rv,by rw[<- rv.length];exact hz,pl.isList⟩
  ·obtain⟨its,rv,pl,hz⟩:=I1.tuple qa;exact⟨false,its,rv,by rw[<- rv.length];exact hz,pl⟩
 obtain⟨b,its,rv,hz,hL⟩:=go;refine wA (b:=b) hL λh' b1 b2 b3 kk=>?_;refine Calls.spliced_nil ?_;refine Zq (s:={s1 with heap:=h'}) (b:=b) (I1.ok.hd hc) b1 b2 hz λh2 tk km hD=>?_;have kk2:∀c o,s1.heap.get? c=some o->h2.get? c=some o:=λc o z=>km c o (qjn (qj7 (qjd z))) (qjn (qjd z)) (kk c o z);have hle:s1.heap.objs.size<=h'.objs.size:=by rw[b3];omega
 have hf:H1 h'.objs.size=none:=I1.hok.fresh hle;refine⟨.ref h'.objs.size,_,I1.laid (o:=.dK (nums 0 xs)) (t':=tk) kk2 hle ?_,rfl,q _ hf⟩;refine(show b_ _ _ _ _ _ (.dK (nums 0 xs)) from⟨by rw[Ah,rv.length];exact hz,?_,nums 0 its,Zn 0 rv,hD⟩);have h1:=I1.big;have h2:sysModules<h'.objs.size:=qjl h1 hle;exact qkW.mpr (qkL h2)
end
structure Nm3(mg:Str->Option Value):Prop where
 sum:mg "sum" = none
theorem JM:∀{ys:QAH}{us:QAE},Vals (ys.map V.str) us->StrsAre us ys
 |[],_,r=>by rw[qk_] at r;cases r;exact .nil
 |y::ys,_,r=>by
  rw[qjO] at r;cases r with
  |cons h t=>
   obtain⟨k,rfl⟩:=h;exact .cons y k (JM t)
section
variable {X:Cx}{K:W.Frag}
def rJoin:V->List V->Hp->VK->Prop:=λx xs H Q=>∃(sep:Str)(l:Addr)(ys:QAH),x = .str sep/\xs=[.ref l]/\H l=some (.lst (ys.map V.str))/\(ys.map (·.length)).sum+ys.length * sep.length<=16777216/\Q (.str (Txt.join sep ys)) H
theorem Zr:Vk X "str.join" rJoin:=by
 intro p_ s σ H x xs v us Q I rx rs q;obtain⟨sep,l,ys,rfl,rfl,hl,hz,q⟩:=q;obtain⟨u,rfl,ru⟩:=rs.one;obtain rfl:u=Value.ref l:=ru;obtain⟨t,rfl⟩:=rx;obtain⟨its,rv,pl,hz1⟩:=I.list (aX.of hl);exact join_list pl.isList (by simpa using JM rv) hz λt' k=>⟨.str _,H,I.tok _,⟨t',rfl⟩,q⟩
theorem qhh(hK:X.K=K):YS X (YX K):=by subst hK;exact YZ
@[simp ↓] theorem qf9 (K:W.Frag) x lo hi H Q:YX K x lo hi H Q=(∃a xs,x = .ref a/\aX K H a xs/\∀p,H p=none->Q (.ref p) (upd H p (.lst (lU xs lo hi)))):=rfl
theorem Es:∀(xs:QAH)(a:Array Nat),(xs.foldl (λacc p=>acc++(Str.ofString "").cps++p.cps) a).toList=a.toList++xs.flatMap (·.cps.toList)
 |[],a=>by simp
 |x::xs,a=>by
  rw[List.foldl_cons,Es xs];rw[show(Str.ofString "").cps = #[] from rfl,Array.append_empty];simp
theorem Rz(ys:QAH):(Txt.join (Str.ofString "") ys).cps.toList=ys.flatMap (·.cps.toList):=by
 cases ys with
 |nil=>rfl
 |cons x xs=>
  show(List.foldl _ x.cps xs).toList=_;exact(Es xs x.cps).trans (by simp)
theorem rO:∀(ys:QAH),(∀y∈ys,∃n,n<26/\y=⟨#[97+n]⟩)->(ys.flatMap (·.cps.toList)).length=ys.length/\(ys.flatMap (·.cps.toList)).all Yq=true/\(ys.map (·.length)).sum=ys.length
 |[],_=>by simp
 |y::ys,h=>by
  obtain⟨n,hn,rfl⟩:=h y (qjp ..);obtain⟨h1,h2,h3⟩:=rO ys λz hz=>h z (qjf _ hz);refine⟨by simp only[List.flatMap_cons,qjF,qjt,h1];simp;omega,by rw[List.flatMap_cons,List.all_append,h2];simp[Vv n hn],?_⟩;rw[qjO,List.sum_cons,h3,qjt];show 1+_=_;omega
theorem qb.glue{c k:Nat}{x:Str}(h:qb c k x)(hk:0<k){ys:QAH}(hy:∀y∈ys,∃n,n<26/\y=⟨#[97+n]⟩):qb c (k+ys.length) (x++Txt.join (Str.ofString "") ys):=by
 obtain⟨h1,h2,h3⟩:=h;obtain⟨y1,y2,_⟩:=rO ys hy;have e:=Rz ys;have hs:x.cps.size=k:=h1;refine⟨?_,?_,?_⟩
 ·show(x.cps++(Txt.join (Str.ofString "") ys).cps).size=_;rw[qkE,hs,<- qkk,e,y1]
 ·show(x.cps++(Txt.join (Str.ofString "") ys).cps)[0]? = _;rw[Array.getElem?_append_left (by omega)];exact h2
 ·show(x.cps++(Txt.join (Str.ofString "") ys).cps).toList.all Yq=true;rw[qj5,List.all_append,h3,e,y2];rfl
end
section
variable {X:Cx}{sc0 sc:Scope}{N0 own N:QAH}{caps:List Nat}{elt tg iter:Expr}{ifs:List Expr}{pos:Pos}{wi:TI}{g:TG}{tt:TT}{te:TE}
theorem Ai{C0 s0 H0 fp0 pn0}(S:aN sc0 sc N0 own caps N)(hc:(cj X sc0 N0 C0 s0 H0 fp0 pn0).calm=true)(hi:PI (cj X sc0 N0 C0 s0 H0 fp0 pn0) tg iter wi)
  (hg:∀C s H fp pn,PG (cj (cj X sc0 N0 C0 s0 H0 fp0 pn0) sc N C s H fp pn) tg g) (ht:∀C s H fp pn,PTs (cj (cj X sc0 N0 C0 s0 H0 fp0 pn0) sc N C s H fp pn) ifs tt) (he:∀C s H fp pn,PE (cj (cj X sc0 N0 C0 s0 H0 fp0 pn0) sc N C s H fp pn) elt te)
  (hs:∀x,foldedSetIterable iter (cj X sc0 N0 C0 s0 H0 fp0 pn0).env x=pure x:=by intro _;rfl):PE (cj X sc0 N0 C0 s0 H0 fp0 pn0) (.ListComp elt [⟨tg,iter,ifs,0⟩] sc pos) (Pn own caps wi g tt te):=by
 have S':aN (relabel sc0 X.env) sc N0 own caps N:=by
  refine⟨S.kind,S.uniq,S.nd,S.names,λp hp e=>?_,S.qdI⟩;rw[lV]
  rcases S.free p hp e with h|h
  ·rw[h];exact .inl rfl
  ·rw[h];simp only[Option.map_some];split
   ·exact .inl rfl
   ·exact .inr rfl
 exact cG (ps:=relabel sc0 X.env) (pN:=N0) rfl rfl S' hc hi hg ht he hs
end
def d9(ns:List Int):List PyData:=ns.map PyData.int
theorem tU{K:W.Frag}{H:Hp}:∀ns:List Int,qY K H (d9 ns) (ns.map V.int)
 |[]=>rfl
 |n::ns=>⟨_,_,rfl,rfl,tU ns⟩
theorem lay_ints:∀ns:List Int,PyData.canLayAll0 (d9 ns)=true
 |[]=>by simp[d9,PyData.canLayAll0]
 |x::xs=>by
  have:=lay_ints xs;simp[d9] at this;simp[d9,PyData.canLayAll0,PyData.canLay0,this]
theorem Aj:∀xs:List Int,PyData.depthAll (d9 xs)<=1
 |[]=>by simp[d9,PyData.depthAll]
 |x::xs=>by
  have:=Aj xs;simp[d9] at this;simp[d9,PyData.depthAll,PyData.depth,this]
theorem wC:∀a b:List Int,PyData.eqvAll (d9 a) (d9 b)=decide (a=b)
 |[],[]=>rfl
 |[],y::b=>by simp[d9,PyData.eqvAll]
 |x::a,[]=>by simp[d9,PyData.eqvAll]
 |x::a,y::b=>by
  show(PyData.eqv (.int x) (.int y) && PyData.eqvAll (d9 a) (d9 b))=_;rw[wC a b,qks];simp[PyData.eqv]
def zq(n:Int)(e:Str×Str):Str:=if n=0 then e.1 else e.2
def Dn(n:Int)(e:Str×Str):Str:=if n=0 then e.2 else e.1
def Dq:List Int->List (Str×Str)->Nat->List jw
 |n::ns,e::ps,k=>(k,zq n e,Dn n e)::Dq ns ps (k+1)
 |_,_,_=>[]
theorem V3(fx:Nat->Option Int):∀(ps:QAD)(ns:List Int)(k:Nat),(∀i,fx (k+i)=ns[i]?)->ns.length=ps.length->(∀n∈ns,0<=n/\n<=1)->aZ fx ps k=Dq ns ps k
 |[],ns,k,_,hl,_=>by
  have:ns=[]:=qkA.mp hl;subst this;rfl
 |e::ps,[],k,_,hl,_=>by simp at hl
 |e::ps,n::ns,k,hf,hl,h01=>by
  have h0:=hf 0;rw[Nat.add_zero] at h0;have hn:=h01 n qjp;have ih:=V3 fx ps ns (k+1) (λi=>by rw[show k+1+i=k+(i+1) by omega,hf (i+1)];simp) (by simpa using hl) λm hm=>h01 m (qjf _ hm);rw[aZ,Dq,ih];unfold uX zq Dn;rw[h0];have:n=0\/n=1:=by omega
  rcases this with rfl|rfl <;> simp
def isInt(x:V)(R:Int->Prop):Prop:=match x with|.int i=>R i|_=>False
def isStr(x:V)(R:Str->Prop):Prop:=match x with|.str i=>R i|_=>False
def rP(x:V)(R:Bool->Prop):Prop:=match x with|.bl i=>R i|_=>False
def isRef(x:V)(R:Addr->Prop):Prop:=match x with|.ref i=>R i|_=>False
def RB(x:V)(R:String->Prop):Prop:=match x with|.ty n=>R n|_=>False
def ar0(xs:List V)(R:Prop):Prop:=match xs with|[]=>R|_=>False
def ar1(xs:List V)(R:V->Prop):Prop:=match xs with|[x]=>R x|_=>False
def ar2(xs:List V)(R:V->V->Prop):Prop:=match xs with|[x,y]=>R x y|_=>False
def arH(xs:List V)(R:V->List V->Prop):Prop:=match xs with|x::r=>R x r|[]=>False
def getSt:St->Nat->(V->Prop)->Prop
 |[],_,_=>False
 |o::_,0,R=>match o with|some v=>R v|none=>False
 |_::σ,n+1,R=>getSt σ n R
@[simp ↓] theorem qf_ (i:Int) R:isInt (.int i) R=R i:=rfl
@[simp ↓] theorem qga (i:Str) R:isStr (.str i) R=R i:=rfl
@[simp ↓] theorem qhi (i:Bool) R:rP (.bl i) R=R i:=rfl
@[simp ↓] theorem qgb (i:Addr) R:isRef (.ref i) R=R i:=rfl
@[simp ↓] theorem qhj (i:String) R:RB (.ty i) R=R i:=rfl
@[simp ↓] theorem qir R:ar0 [] R=R:=rfl
@[simp ↓] theorem qis x R:ar1 [x] R=R x:=rfl
@[simp ↓] theorem qit x y R:ar2 [x,y] R=R x y:=rfl
@[simp ↓] theorem qiu x r R:arH (x::r) R=R x r:=rfl
@[simp ↓] theorem qgc v σ R:getSt (some v::σ) 0 R=R v:=rfl
@[simp ↓] theorem qgd o σ n R:getSt (o::σ) (n+1) R=getSt σ n R:=rfl
theorem isInt.out{x:V}{R}(h:isInt x R):∃i,x = .int i/\R i:=by cases x <;> first|exact⟨_,rfl,h⟩|exact h.elim
theorem isStr.out{x:V}{R}(h:isStr x R):∃i,x = .str i/\R i:=by cases x <;> first|exact⟨_,rfl,h⟩|exact h.elim
theorem rP.out{x:V}{R}(h:rP x R):∃i,x = .bl i/\R i:=by cases x <;> first|exact⟨_,rfl,h⟩|exact h.elim
theorem isRef.out{x:V}{R}(h:isRef x R):∃i,x = .ref i/\R i:=by cases x <;> first|exact⟨_,rfl,h⟩|exact h.elim
theorem RB.out{x:V}{R}(h:RB x R):∃i,x = .ty i/\R i:=by cases x <;> first|exact⟨_,rfl,h⟩|exact h.elim
theorem ar0.out{xs:List V}{R}(h:ar0 xs R):xs=[]/\R:=by cases xs <;> first|exact⟨rfl,h⟩|exact h.elim
theorem ar1.out{xs:List V}{R}(h:ar1 xs R):∃x,xs=[x]/\R x:=by
 match xs,h with
 |[x],h=>exact⟨x,rfl,h⟩
theorem ar2.out{xs:List V}{R}(h:ar2 xs R):∃x y,xs=[x,y]/\R x y:=by
 match xs,h with
 |[x,y],h=>exact⟨x,y,rfl,h⟩
theorem arH.out{xs:List V}{R}(h:arH xs R):∃x r,xs=x::r/\R x r:=by cases xs <;> first|exact⟨_,_,rfl,h⟩|exact h.elim
theorem getSt.out:∀{σ:St}{i:Nat}{R},getSt σ i R->∃v,σ[i]? = some (some v)/\R v
 |[],_,_,h=>h.elim
 |some v::_,0,_,h=>⟨v,rfl,h⟩
 |none::_,0,_,h=>h.elim
 |_::σ,n+1,R,h=>by
  obtain⟨v,e,q⟩:=getSt.out (σ:=σ) (i:=n) h;exact⟨v,by simpa using e,q⟩
section
variable {X:Cx}
theorem PE.mono{e:Expr}{t t':TE}(o:PE X e t)(h:∀{σ H Q},t' σ H Q->t σ H Q):PE X e t':=λp_ s σ H Q I q=>o p_ s σ H Q I (h q)
theorem PS.mono{e:Stmt}{t t':TS}(o:PS X e t)(h:∀{D σ H},t' D σ H->t D σ H):PS X e t':=λp_ s σ H D I q=>o p_ s σ H D I (h q)
theorem jF.mono{e:List Expr}{t t':Iu}(o:jF X e t)(h:∀{v σ H Q},t' v σ H Q->t v σ H Q):jF X e t':=λp_ s σ H v u Q I r q=>o p_ s σ H v u Q I r (h q)
theorem gJ.mono{f:Value->Value->Sem Value}{r r':R2}(o:gJ X f r)(h:∀{x y H Q},r' x y H Q->r x y H Q):gJ X f r':=λp_ s σ H x y v u Q I rx ry q=>o p_ s σ H x y v u Q I rx ry (h q)
theorem UnR.mono{f:Value->Sem Value}{r r':V->Hp->VK->Prop}(o:UnR X f r)(h:∀{x H Q},r' x H Q->r x H Q):UnR X f r':=λp_ s σ H x v Q I rx q=>o p_ s σ H x v Q I rx (h q)
theorem cA.mono{f:Value}{r r':List V->Hp->VK->Prop}(o:cA X f r)(h:∀{x H Q},r' x H Q->r x H Q):cA X f r':=λp_ s σ H x v Q I rx q=>o p_ s σ H x v Q I rx (h q)
theorem Vk.mono{f:String}{r r':V->List V->Hp->VK->Prop}(o:Vk X f r)(h:∀{x y H Q},r' x y H Q->r x y H Q):Vk X f r':=λp_ s σ H x y v u Q I rx ry q=>o p_ s σ H x y v u Q I rx ry (h q)
theorem Vj.mono{r r':R2}(o:Vj X r)(h:∀{x y H Q},r' x y H Q->r x y H Q):Vj X r':=λa b p_ s σ H x y v u Q I rx ry q z=>o a b p_ s σ H x y v u Q I rx ry (h q) z
theorem YS.mono{r r':V->Option Int->Option Int->Hp->VK->Prop}(o:YS X r)(h:∀{x lo hi H Q},r' x lo hi H Q->r x lo hi H Q):YS X r':=λp_ s σ H x v vl vu lo hi sl Q I rx z1 z2 z3 q=>o p_ s σ H x v vl vu lo hi sl Q I rx z1 z2 z3 (h q)
theorem PIp.mono{op:Operator}{r r':YB}(o:PIp X op r)(h:∀{x y H Q},r' x y H Q->r x y H Q):PIp X op r':=λp_ s σ H x y v u Q I rx ry q=>o p_ s σ H x y v u Q I rx ry (h q)
theorem QS.mono{r r':QM}(o:QS X r)(h:∀{x y z H Q},r' x y z H Q->r x y z H Q):QS X r':=λp_ s σ H o' i v ov iv u Q I a b c q=>o p_ s σ H o' i v ov iv u Q I a b c (h q)
end
def fVar(i:Nat):TE:=λσ H Q=>getSt σ i λv=>Q v H
@[simp ↓] theorem qhk (i:Nat) σ H Q:fVar i σ H Q=getSt σ i (λv=>Q v H):=rfl
theorem qb_{i:Nat}{σ H Q}(h:fVar i σ H Q):Yz i σ H Q:=getSt.out h
def jz:QAH->List V->St
 |_::N,v::vs=>some v::jz N vs
 |_::N,[]=>none::jz N []
 |[],_=>[]
@[simp ↓] theorem qdd n N v vs:jz (n::N) (v::vs)=some v::jz N vs:=rfl
@[simp ↓] theorem qde n N:jz (n::N) []=none::jz N []:=rfl
@[simp ↓] theorem qd7 vs:jz [] vs=[]:=by cases vs <;> rfl
theorem pP:∀(N:QAH)(vs:List V),vs.length<=N.length->jz N vs=start N vs
 |[],[],_=>rfl
 |[],_::_,h=>by simp at h
 |n::N,[],_=>by
  rw[jz,pP N [] (by simp)];simp[start,List.replicate_succ]
 |n::N,v::vs,h=>by
  rw[jz,pP N vs (by simpa using h)];simp[start]
def Zt(g:Int->Int->V):R2:=λx y H Q=>isInt x λi=>isInt y λj=>Q (g i j) H
def fI(C:Int->Int->Prop)(g:Int->Int->V):R2:=λx y H Q=>isInt x λi=>isInt y λj=>C i j/\Q (g i j) H
def fU(g:Int->V):V->Hp->VK->Prop:=λx H Q=>isInt x λi=>Q (g i) H
@[simp ↓] theorem qiv g x y H Q:Zt g x y H Q=(isInt x λi=>isInt y λj=>Q (g i j) H):=rfl
@[simp ↓] theorem qiU C g x y H Q:fI C g x y H Q=(isInt x λi=>isInt y λj=>C i j/\Q (g i j) H):=rfl
@[simp ↓] theorem qiV g x H Q:fU g x H Q=(isInt x λi=>Q (g i) H):=rfl
theorem JN{g:Int->Int->V}{x y H Q}(h:Zt g x y H Q):rI0 g x y H Q:=by
 obtain⟨i,rfl,h1⟩:=isInt.out h;obtain⟨j,rfl,h2⟩:=isInt.out h1;exact⟨i,j,rfl,rfl,h2⟩
theorem Zu{C}{g:Int->Int->V}{x y H Q}(h:fI C g x y H Q):rI C g x y H Q:=by
 obtain⟨i,rfl,h1⟩:=isInt.out h;obtain⟨j,rfl,h2⟩:=isInt.out h1;exact⟨i,j,rfl,rfl,h2⟩
theorem qhl{g:Int->V}{x H Q}(h:fU g x H Q):rU g x H Q:=by
 obtain⟨i,rfl,h⟩:=isInt.out h;exact⟨i,rfl,h⟩
def fEq:R2:=λx y H Q=>match x,y with
 |.int i,.int j=>Q (.bl (decide (i=j))) H
 |.str i,.str j=>Q (.bl (decide (i=j))) H
 |.bl i,.bl j=>Q (.bl (decide (i=j))) H
 |x,y=>zm x y=true/\Q (.bl (decide (x=y))) H
def fNe:R2:=λx y H Q=>match x,y with
 |.int i,.int j=>∃k,decide (i=j) = !k/\Q (.bl k) H
 |.str i,.str j=>∃k,decide (i=j) = !k/\Q (.bl k) H
 |.bl i,.bl j=>∃k,decide (i=j) = !k/\Q (.bl k) H
 |x,y=>zm x y=true/\∃k,decide (x=y) = !k/\Q (.bl k) H
@[simp ↓] theorem qiw i j H Q:fEq (.int i) (.int j) H Q=Q (.bl (decide (i=j))) H:=rfl
@[simp ↓] theorem qix i j H Q:fEq (.str i) (.str j) H Q=Q (.bl (decide (i=j))) H:=rfl
@[simp ↓] theorem qiy i j H Q:fEq (.bl i) (.bl j) H Q=Q (.bl (decide (i=j))) H:=rfl
@[simp ↓] theorem qiz i j H Q:fNe (.int i) (.int j) H Q=∃k,decide (i=j) = !k/\Q (.bl k) H:=rfl
@[simp ↓] theorem qiA i j H Q:fNe (.str i) (.str j) H Q=∃k,decide (i=j) = !k/\Q (.bl k) H:=rfl
@[simp ↓] theorem qiB i j H Q:fNe (.bl i) (.bl j) H Q=∃k,decide (i=j) = !k/\Q (.bl k) H:=rfl
theorem xQ{b:Bool}{R:Bool->Prop}(h:∃k,b = !k/\R k):R (!b):=by
 obtain⟨k,e,q⟩:=h;rw[e,Bool.not_not];exact q
theorem qd8{x y H Q}(h:fEq x y H Q):rEq x y H Q:=by
 unfold fEq at h;split at h
 ·exact⟨rfl,by simpa using h⟩
 ·exact⟨rfl,by simpa using h⟩
 ·exact⟨rfl,by simpa using h⟩
 ·exact h
theorem qd9{x y H Q}(h:fNe x y H Q):rNe x y H Q:=by
 unfold fNe at h;split at h
 ·exact⟨rfl,by simpa using xQ (R:=λk=>Q (.bl k) H) h⟩
 ·exact⟨rfl,by simpa using xQ (R:=λk=>Q (.bl k) H) h⟩
 ·exact⟨rfl,by simpa using xQ (R:=λk=>Q (.bl k) H) h⟩
 ·exact⟨h.1,xQ (R:=λk=>Q (.bl k) H) h.2⟩
def V4:R2:=λx y H Q=>isStr x λi=>isStr y λj=>i.length+j.length<=sizeLine/\Q (.str (i++j)) H
@[simp ↓] theorem qge x y H Q:V4 x y H Q=(isStr x λi=>isStr y λj=>i.length+j.length<=sizeLine/\Q (.str (i++j)) H):=rfl
theorem Zv{x y H Q}(h:V4 x y H Q):qdM x y H Q:=by
 obtain⟨i,rfl,h1⟩:=isStr.out h;obtain⟨j,rfl,h2⟩:=isStr.out h1;exact⟨i,j,rfl,rfl,h2⟩
def qca:R2:=λx y H Q=>isRef x λl=>isRef y λb=>∃xs,H l=some (.lst xs)/\∃zs,H b=some (.lst zs)/\xs.length+zs.length<=sizeLine/\∀p,H p=none->Q (.ref p) (upd H p (.lst (xs++zs)))
@[simp ↓] theorem qhm x y H Q:qca x y H Q=(isRef x λl=>isRef y λb=>∃xs,H l=some (.lst xs)/\∃zs,H b=some (.lst zs)/\xs.length+zs.length<=sizeLine/\∀p,H p=none->Q (.ref p) (upd H p (.lst (xs++zs)))):=rfl
theorem qcb{x y H Q}(h:qca x y H Q):qdH x y H Q:=by
 obtain⟨i,rfl,h0⟩:=isRef.out h;obtain⟨j,rfl,xs,h1,zs,h2,h3⟩:=isRef.out h0;exact⟨i,j,xs,zs,rfl,rfl,h1,h2,h3⟩
def wD(t:TE):TT:=λσ H Q=>t σ H λx H'=>rP x λk=>Q k H'
@[simp ↓] theorem qgf (t:TE) σ H Q:wD t σ H Q=(t σ H λx H'=>rP x λk=>Q k H'):=rfl
def V5(ta:TE):TE:=λσ H Q=>ta σ H λx H1=>rP x λc=>Q (.bl (!c)) H1
@[simp ↓] theorem qgg (ta:TE) σ H Q:V5 ta σ H Q=(ta σ H λx H1=>rP x λc=>Q (.bl (!c)) H1):=rfl
def V6(ta tb:TE):TE:=λσ H Q=>ta σ H λx H1=>rP x λc=>eE c (tb σ H1 Q) (Q (.bl false) H1) ⟨0⟩
@[simp ↓] theorem qgh (ta tb:TE) σ H Q:V6 ta tb σ H Q=(ta σ H λx H1=>rP x λc=>eE c (tb σ H1 Q) (Q (.bl false) H1) ⟨0⟩):=rfl
def G5(r r':R2)(ta tb tc:TE):TE:=λσ H Q=>ta σ H λx H1=>tb σ H1 λy H2=>r x y H2 λz H3=>rP z λk=>eE k (tc σ H3 λw' H4=>r' y w' H4 Q) (Q (.bl false) H3) ⟨0⟩
@[simp ↓] theorem qd_ (r r':R2)(ta tb tc:TE) σ H Q:G5 r r' ta tb tc σ H Q=(ta σ H λx H1=>tb σ H1 λy H2=>r x y H2 λz H3=>rP z λk=>eE k (tc σ H3 λw' H4=>r' y w' H4 Q) (Q (.bl false) H3) ⟨0⟩):=rfl
section
variable {X:Cx}{K:W.Frag}{a b c:Expr}{ta tb tc:TE}{tA:TT}{pos:Pos}
theorem aG(i:Nat){x:Str}{pos:Pos}(hN:X.N[i]? = some x:=by rfl)(hv:Vis X.env.scope x:=by first|exact Or.inl rfl|exact Or.inr (Or.inl rfl)|exact Or.inr (Or.inr rfl)) (hd:(x == ("__debug__" : Str))=false:=by decide)
  (hcd:(x == ("__classdict__" : Str))=false:=by decide):PE X (.Name x pos) (fVar i):=(Ur hN hv hd hcd).mono qb_
theorem iW:gJ X (binaryOp .Add) (Zt λi j=>.int (i+j)):=qbs.mono JN
theorem nu:gJ X (binaryOp .Sub) (Zt λi j=>.int (i - j)):=qbt.mono JN
theorem G6:gJ X (compareOp .Lt) (Zt λi j=>.bl (decide (i<j))):=qdz.mono JN
theorem xR:gJ X (compareOp .LtE) (Zt λi j=>.bl (decide (i<=j))):=qdA.mono JN
theorem uY:gJ X (compareOp .Gt) (Zt λi j=>.bl (decide (j<i))):=qdB.mono JN
theorem kE:gJ X (compareOp .Eq) fEq:=qdx.mono qd8
theorem rQ:gJ X (compareOp .NotEq) fNe:=qdy.mono qd9
theorem JQ:gJ X (binaryOp .Add) V4:=Lx.mono Zv
theorem qe:gJ X (binaryOp .Add) qca:=qbN.mono qcb
theorem PJ:UnR X (unaryOp .USub) (fU λi=>.int (-i)):=qby.mono qhl
theorem wF(x:V)(R:Bool->Prop):rP x R=(∃k,x = .bl k/\R k):=propext ⟨rP.out,λ⟨k,e,q⟩=>by subst e;exact q⟩
theorem V7(x:V)(R:Int->Prop):isInt x R=(∃k,x = .int k/\R k):=propext ⟨isInt.out,λ⟨k,e,q⟩=>by subst e;exact q⟩
theorem JR(x:V)(R:Addr->Prop):isRef x R=(∃k,x = .ref k/\R k):=propext ⟨isRef.out,λ⟨k,e,q⟩=>by subst e;exact q⟩
theorem V8(x:V)(R:Str->Prop):isStr x R=(∃k,x = .str k/\R k):=propext ⟨isStr.out,λ⟨k,e,q⟩=>by subst e;exact q⟩
theorem qcc(x:List V)(R:V->List V->Prop):arH x R=(∃k j,x=k::j/\R k j):=propext ⟨arH.out,λ⟨k,j,e,q⟩=>by subst e;exact q⟩
theorem JT(t:TE):wD t=O9 t:=by
 funext σ H Q
 exact qjB (t σ H) (funext λx=>funext λH'=>wF _ _)
theorem qaO(t:TE):wD t=tB t:=by
 funext σ H Q
 exact qjB (t σ H) (funext λx=>funext λH'=>wF _ _)
theorem V9(t:TE):V5 t=Uu t:=by
 funext σ H Q
 exact qjB (t σ H) (funext λx=>funext λH'=>wF _ _)
theorem V_(t u:TE):V6 t u=Ut t u:=by
 funext σ H Q
 exact qjB (t σ H) (funext λx=>funext λH'=>wF _ _)
theorem Et(r r':R2)(ta tb tc:TE):G5 r r' ta tb tc=Ge r r' ta tb tc:=by
 funext σ H Q
 exact qjB (ta σ H) (funext λx=>funext λH1=>qjB (tb σ H1) (funext λy=>funext λH2=>qjB (r x y H2) (funext λz=>funext λH3=>wF _ _)))
theorem aV{op:CmpOp}{r:R2}(ho:gJ X (compareOp op) r)(ha:PE X a ta)(hb:PE X b tb)(hm:behindInMarks op b=false):PT X (.Compare a [op] [b] pos) (wD (tOp r ta tb)):=JT _▸YJ ho ha hb hm
theorem PK{op:CmpOp}{t:TE}(h:PC X op a b t)(h1:behindInMarks op b=false:=by first|exact Ja _ (by decide) (by decide)|rfl):PT X (.Compare a [op] [b] pos) (wD t):=qaO _▸qbg h h1
theorem dG{e:Expr}{t:TE}(h:PE X e t)(he:∀whole,isTrue e X.env whole=(do let v <- whole;standAt e.pos;holding [v] (truthy v)):=by intro _;rfl):PT X e (wD t):=qaO _▸qbh h he
theorem RG{op op':CmpOp}{r r':R2}(ho:gJ X (compareOp op) r)(ho':gJ X (compareOp op') r')(ha:PE X a ta)(hb:PE X b tb)(hc:PE X c tc)
  (hm:lastMarks [op,op'] [b,c]=false:=by with_unfolding_all rfl):PE X (.Compare a [op,op'] [b,c] pos) (G5 r r' ta tb tc):=Et _ _ _ _ _▸U4 ho ho' ha hb hc hm
theorem xT{op op':CmpOp}{r r':R2}(ho:gJ X (compareOp op) r)(ho':gJ X (compareOp op') r')(ha:PE X a ta)(hb:PE X b tb)(hc:PE X c tc)
  (hm:lastMarks [op,op'] [b,c]=false:=by with_unfolding_all rfl):PT X (.Compare a [op,op'] [b,c] pos) (wD (G5 r r' ta tb tc)):=by
 rw[JT,Et];exact U5 ho ho' ha hb hc hm
theorem Zw(ha:PE X a ta):PE X (.UnaryOp .Not a pos) (V5 ta):=V9 _▸qbj ha
theorem zA{rest:List Expr}(ha:PE X a ta)(hb:PE X (.BoolOp .And (b::rest) pos) tb):PE X (.BoolOp .And (a::b::rest) pos) (V6 ta tb):=V_ _ _▸qbi ha hb
end
def qcd(K:W.Frag):R2:=λx y H Q=>isRef x λp=>isInt y λi=>∃xs,(aX K H p xs\/dg K H p xs)/\∃v,Ef xs i=some v/\Q v H
@[simp ↓] theorem qhn (K:W.Frag) x y H Q:qcd K x y H Q=(isRef x λp=>isInt y λi=>∃xs,(aX K H p xs\/dg K H p xs)/\∃v,Ef xs i=some v/\Q v H):=rfl
theorem qce{K:W.Frag}{x y H Q}(h:qcd K x y H Q):qbU K x y H Q:=by
 obtain⟨p,rfl,h1⟩:=isRef.out h;obtain⟨i,rfl,xs,h2,v,h3,h4⟩:=isInt.out h1;exact⟨p,xs,i,v,rfl,rfl,h2,h3,h4⟩
def qcf  : R2:=λx y H Q=>isStr x λz=>isInt y λi=>z.length<=sizeLine/\∃c,Ef z.cps.toList i=some c/\Q (.str ⟨#[c]⟩) H
@[simp ↓] theorem qho  x y H Q:qcf x y H Q=(isStr x λz=>isInt y λi=>z.length<=sizeLine/\∃c,Ef z.cps.toList i=some c/\Q (.str ⟨#[c]⟩) H):=rfl
theorem qcg  {x y H Q} (h:qcf x y H Q):qdE x y H Q:=by
 obtain⟨z,rfl,h1⟩:=isStr.out h;obtain⟨i,rfl,h2,c,h3,h4⟩:=isInt.out h1;exact⟨z,i,c,rfl,rfl,h2,h3,h4⟩
def JV(K:W.Frag):List V->Hp->VK->Prop:=λxs H Q=>ar1 xs λx=>isRef x λp=>∃ys,(aX K H p ys\/dg K H p ys)/\Q (.int ys.length) H
@[simp ↓] theorem qgi (K:W.Frag) xs H Q:JV K xs H Q=(ar1 xs λx=>isRef x λp=>∃ys,(aX K H p ys\/dg K H p ys)/\Q (.int ys.length) H):=rfl
theorem Zx{K:W.Frag}{xs H Q}(h:JV K xs H Q):qaE K xs H Q:=by
 obtain⟨x,rfl,h1⟩:=ar1.out h;obtain⟨p,rfl,ys,h2,h3⟩:=isRef.out h1;exact⟨p,ys,rfl,h2,h3⟩
def Wa  : List V->Hp->VK->Prop:=λxs H Q=>ar1 xs λx=>isStr x λz=>z.length<=sizeLine/\Q (.int z.length) H
@[simp ↓] theorem qgj  xs H Q:Wa xs H Q=(ar1 xs λx=>isStr x λz=>z.length<=sizeLine/\Q (.int z.length) H):=rfl
theorem Zy  {xs H Q} (h:Wa xs H Q):qaF xs H Q:=by
 obtain⟨x,rfl,h1⟩:=ar1.out h;obtain⟨p,rfl,h2⟩:=isStr.out h1;exact⟨p,rfl,h2⟩
def G7(K:W.Frag):List V->Hp->VK->Prop:=λxs H Q=>ar1 xs λx=>isRef x λp=>∃ys,(aX K H p ys\/dg K H p ys)/\∀l,H l=none->Q (.ref l) (upd H l (.lst ys))
@[simp ↓] theorem qdf (K:W.Frag) xs H Q:G7 K xs H Q=(ar1 xs λx=>isRef x λp=>∃ys,(aX K H p ys\/dg K H p ys)/\∀l,H l=none->Q (.ref l) (upd H l (.lst ys))):=rfl
theorem RJ{K:W.Frag}{xs H Q}(h:G7 K xs H Q):Pu K xs H Q:=by
 obtain⟨x,rfl,h1⟩:=ar1.out h;obtain⟨p,rfl,ys,h2,h3⟩:=isRef.out h1;exact⟨p,ys,rfl,h2,h3⟩
def G8  : List V->Hp->VK->Prop:=λxs H Q=>ar1 xs λx=>isRef x λp=>∃ys,Sq H p ys/\∀l H',H' l=some (.tup ys)->Same H H'->Q (.ref l) H'
@[simp ↓] theorem qdg  xs H Q:G8 xs H Q=(ar1 xs λx=>isRef x λp=>∃ys,Sq H p ys/\∀l H',H' l=some (.tup ys)->Same H H'->Q (.ref l) H'):=rfl
theorem RK  {xs H Q} (h:G8 xs H Q):Px xs H Q:=by
 obtain⟨x,rfl,h1⟩:=ar1.out h;obtain⟨p,rfl,ys,h2,h3⟩:=isRef.out h1;exact⟨p,ys,rfl,h2,h3⟩
def Wb(K:W.Frag):List V->Hp->VK->Prop:=λxs H Q=>ar2 xs λx y=>RB y λn=>∃t,j_ K H x t/\∃b,W.kitOne K t (.type n)=some b/\Q (.bl b) H
@[simp ↓] theorem qgk (K:W.Frag) xs H Q:Wb K xs H Q=(ar2 xs λx y=>RB y λn=>∃t,j_ K H x t/\∃b,W.kitOne K t (.type n)=some b/\Q (.bl b) H):=rfl
theorem Zz{K:W.Frag}{xs H Q}(h:Wb K xs H Q):qaG K xs H Q:=by
 obtain⟨x,y,rfl,h1⟩:=ar2.out h;obtain⟨n,rfl,t,h2,b,h3,h4⟩:=RB.out h1;exact⟨x,n,t,b,rfl,h2,h3,h4⟩
def Wc(K:W.Frag):List V->Hp->VK->Prop:=λxs H Q=>ar2 xs λx y=>isRef y λp=>∃m n,H p=some (.tup [.ty m,.ty n])/\∃t,j_ K H x t/\∃b,W.kitAny K t [.type m,.type n]=some b/\Q (.bl b) H
@[simp ↓] theorem qgl (K:W.Frag) xs H Q:Wc K xs H Q=(ar2 xs λx y=>isRef y λp=>∃m n,H p=some (.tup [.ty m,.ty n])/\∃t,j_ K H x t/\∃b,W.kitAny K t [.type m,.type n]=some b/\Q (.bl b) H):=rfl
theorem ZC{K:W.Frag}{xs H Q}(h:Wc K xs H Q):qaH K xs H Q:=by
 obtain⟨x,y,rfl,h1⟩:=ar2.out h;obtain⟨p,rfl,m,n,h0,t,h2,b,h3,h4⟩:=isRef.out h1;exact⟨x,p,m,n,t,b,rfl,h0,h2,h3,h4⟩
def fIn(K:W.Frag):R2:=λx y H Q=>isRef y λp=>∃xs,(aX K H p xs\/dg K H p xs)/\iT x=true/\(∀z∈xs,iT z=true)/\Q (.bl (inV x xs)) H
@[simp ↓] theorem qiC (K:W.Frag) x y H Q:fIn K x y H Q=(isRef y λp=>∃xs,(aX K H p xs\/dg K H p xs)/\iT x=true/\(∀z∈xs,iT z=true)/\Q (.bl (inV x xs)) H):=rfl
theorem qea{K:W.Frag}{x y H Q}(h:fIn K x y H Q):Y7 K x y H Q:=by
 obtain⟨p,rfl,xs,h1,h2,h3,h4⟩:=isRef.out h;exact .inl ⟨p,xs,rfl,h1,h2,qjC.mpr h3,h4⟩
def MN(K:W.Frag):R2:=λx y H Q=>isRef y λp=>∃xs,(aX K H p xs\/dg K H p xs)/\iT x=true/\(∀z∈xs,iT z=true)/\∃k,inV x xs = !k/\Q (.bl k) H
@[simp ↓] theorem qeb (K:W.Frag) x y H Q:MN K x y H Q=(isRef y λp=>∃xs,(aX K H p xs\/dg K H p xs)/\iT x=true/\(∀z∈xs,iT z=true)/\∃k,inV x xs = !k/\Q (.bl k) H):=rfl
theorem Wd{K:W.Frag}{x y H Q}(h:MN K x y H Q):Gw K x y H Q:=by
 obtain⟨p,rfl,xs,h1,h2,h3,h4⟩:=isRef.out h;exact .inl ⟨p,xs,rfl,h1,h2,qjC.mpr h3,xQ (R:=λk=>Q (.bl k) H) h4⟩
def qch(K:W.Frag):R2:=λx y H Q=>isStr x λi=>isStr y λj=>Q (.bl (!(Builtin.Str.occurrences j i 0 j.length 1).isEmpty)) H
@[simp ↓] theorem qhp (K:W.Frag) x y H Q:qch K x y H Q=(isStr x λi=>isStr y λj=>Q (.bl (!(Builtin.Str.occurrences j i 0 j.length 1).isEmpty)) H):=rfl
theorem qci{K:W.Frag}{x y H Q}(h:qch K x y H Q):Y7 K x y H Q:=by
 obtain⟨i,rfl,h1⟩:=isStr.out h;obtain⟨j,rfl,h2⟩:=isStr.out h1;exact .inr ⟨i,j,rfl,rfl,h2⟩
def G9  : V->List V->Hp->VK->Prop:=λx vs H Q=>isRef x λl=>ar1 vs λy=>∃xs,H l=some (.lst xs)/\xs.length<sizeLine/\Q .non (upd H l (.lst (xs++[y])))
@[simp ↓] theorem qdh  x vs H Q:G9 x vs H Q=(isRef x λl=>ar1 vs λy=>∃xs,H l=some (.lst xs)/\xs.length<sizeLine/\Q .non (upd H l (.lst (xs++[y])))):=rfl
theorem RL  {x vs H Q} (h:G9 x vs H Q):Gn x vs H Q:=by
 obtain⟨l,rfl,h1⟩:=isRef.out h;obtain⟨y,rfl,xs,h2,h3⟩:=ar1.out h1;exact⟨l,xs,y,rfl,rfl,h2,h3⟩
def G_  : V->List V->Hp->VK->Prop:=λx vs H Q=>isRef x λl=>ar2 vs λj y=>isInt j λi=>∃xs,H l=some (.lst xs)/\0<=i/\i<=xs.length/\xs.length<sizeLine/\Q .non (upd H l (.lst (xs.take i.toNat++y::xs.drop i.toNat)))
@[simp ↓] theorem qdi  x vs H Q:G_ x vs H Q=(isRef x λl=>ar2 vs λj y=>isInt j λi=>∃xs,H l=some (.lst xs)/\0<=i/\i<=xs.length/\xs.length<sizeLine/\Q .non (upd H l (.lst (xs.take i.toNat++y::xs.drop i.toNat)))):=rfl
theorem RM  {x vs H Q} (h:G_ x vs H Q):Gq x vs H Q:=by
 obtain⟨l,rfl,h1⟩:=isRef.out h;obtain⟨j,y,rfl,h2⟩:=ar2.out h1;obtain⟨i,rfl,xs,h3⟩:=isInt.out h2;exact⟨l,xs,i,y,rfl,rfl,h3⟩
def Wf  : V->List V->Hp->VK->Prop:=λx vs H Q=>isStr x λsep=>ar1 vs λy=>isRef y λl=>∃ys:QAH,H l=some (.lst (ys.map V.str))/\(ys.map (·.length)).sum+ys.length * sep.length<=16777216/\Q (.str (Txt.join sep ys)) H
@[simp ↓] theorem qgm  x vs H Q:Wf x vs H Q=(isStr x λsep=>ar1 vs λy=>isRef y λl=>∃ys:QAH,H l=some (.lst (ys.map V.str))/\(ys.map (·.length)).sum+ys.length * sep.length<=16777216/\Q (.str (Txt.join sep ys)) H):=rfl
theorem ZD  {x vs H Q} (h:Wf x vs H Q):rJoin x vs H Q:=by
 obtain⟨sep,rfl,h1⟩:=isStr.out h;obtain⟨y,rfl,h2⟩:=ar1.out h1;obtain⟨l,rfl,ys,h3⟩:=isRef.out h2;exact⟨sep,l,ys,rfl,rfl,h3⟩
def qcj(K:W.Frag):R2:=λx y H Q=>∃d,Is K H d x/\∃e,Is K H e y/\d.canLay0=true/\e.canLay0=true/\d.depth<=64/\∃k,PyData.eqv d e = !k/\Q (.bl k) H
@[simp ↓] theorem qhq (K:W.Frag) x y H Q:qcj K x y H Q=(∃d,Is K H d x/\∃e,Is K H e y/\d.canLay0=true/\e.canLay0=true/\d.depth<=64/\∃k,PyData.eqv d e = !k/\Q (.bl k) H):=rfl
theorem qck{K:W.Frag}{x y H Q}(h:qcj K x y H Q):qdZ K x y H Q:=by
 obtain⟨d,h1,e,h2,h3,h4,h5,h6⟩:=h;exact⟨d,e,h1,h2,h3,h4,h5,xQ (R:=λk=>Q (.bl k) H) h6⟩
def qcl(K:W.Frag):R2:=λx y H Q=>∃d,Is K H d x/\∃e,Is K H e y/\d.canLay0=true/\e.canLay0=true/\d.depth<=64/\Q (.bl (PyData.eqv d e)) H
@[simp ↓] theorem qhr (K:W.Frag) x y H Q:qcl K x y H Q=(∃d,Is K H d x/\∃e,Is K H e y/\d.canLay0=true/\e.canLay0=true/\d.depth<=64/\Q (.bl (PyData.eqv d e)) H):=rfl
theorem qcm{K:W.Frag}{x y H Q}(h:qcl K x y H Q):qdY K x y H Q:=by
 obtain⟨d,h1,e,h2,h3,h4,h5,h6⟩:=h;exact⟨d,e,h1,h2,h3,h4,h5,h6⟩
def qcn  : List V->Hp->VK->Prop:=λxs H Q=>ar1 xs λx=>isInt x λi=>Q (.int (if i<0 then -i else i)) H
@[simp ↓] theorem qhs  xs H Q:qcn xs H Q=(ar1 xs λx=>isInt x λi=>Q (.int (if i<0 then -i else i)) H):=rfl
theorem qco  {xs H Q} (h:qcn xs H Q):(λxs H Q=>∃i,xs=[.int i]/\Q (.int (if i<0 then -i else i)) H:List V->Hp->VK->Prop) xs H Q:=by
 obtain⟨x,rfl,h1⟩:=ar1.out h;obtain⟨i,rfl,h2⟩:=isInt.out h1;exact⟨i,rfl,h2⟩
def Wg  : List V->Hp->VK->Prop:=λxs H Q=>ar2 xs λx y=>isInt x λi=>isInt y λj=>Q (.int (if j > i then j else i)) H
@[simp ↓] theorem qgn  xs H Q:Wg xs H Q=(ar2 xs λx y=>isInt x λi=>isInt y λj=>Q (.int (if j > i then j else i)) H):=rfl
theorem ZF  {xs H Q} (h:Wg xs H Q):(λxs H Q=>∃i j,xs=[.int i,.int j]/\Q (.int (if j > i then j else i)) H:List V->Hp->VK->Prop) xs H Q:=by
 obtain⟨x,y,rfl,h1⟩:=ar2.out h;obtain⟨i,rfl,h2⟩:=isInt.out h1;obtain⟨j,rfl,h3⟩:=isInt.out h2;exact⟨i,j,rfl,h3⟩
def Wh  : List V->Hp->VK->Prop:=λxs H Q=>ar2 xs λx y=>isInt x λi=>isInt y λj=>Q (.int (if j<i then j else i)) H
@[simp ↓] theorem qgo  xs H Q:Wh xs H Q=(ar2 xs λx y=>isInt x λi=>isInt y λj=>Q (.int (if j<i then j else i)) H):=rfl
theorem ZG  {xs H Q} (h:Wh xs H Q):(λxs H Q=>∃i j,xs=[.int i,.int j]/\Q (.int (if j<i then j else i)) H:List V->Hp->VK->Prop) xs H Q:=by
 obtain⟨x,y,rfl,h1⟩:=ar2.out h;obtain⟨i,rfl,h2⟩:=isInt.out h1;obtain⟨j,rfl,h3⟩:=isInt.out h2;exact⟨i,j,rfl,h3⟩
def Hf  : List V->Hp->VK->Prop:=λxs H Q=>ar2 xs λx y=>isInt x λi=>isInt y λj=>QW i j/\∀p,H p=none->Q (.ref p) (upd H p (.tup [.int (i / j),.int (i % j)]))
@[simp ↓] theorem qdj  xs H Q:Hf xs H Q=(ar2 xs λx y=>isInt x λi=>isInt y λj=>QW i j/\∀p,H p=none->Q (.ref p) (upd H p (.tup [.int (i / j),.int (i % j)]))):=rfl
theorem RN  {xs H Q} (h:Hf xs H Q):(λxs H Q=>∃i j,xs=[.int i,.int j]/\QW i j/\∀p,H p=none->Q (.ref p) (upd H p (.tup [.int (i / j),.int (i % j)])):List V->Hp->VK->Prop) xs H Q:=by
 obtain⟨x,y,rfl,h1⟩:=ar2.out h;obtain⟨i,rfl,h2⟩:=isInt.out h1;obtain⟨j,rfl,h3⟩:=isInt.out h2;exact⟨i,j,rfl,h3⟩
def qcp  : List V->Hp->VK->Prop:=λxs H Q=>ar1 xs λx=>isRef x λa=>∃ys,H a=some (.lst ys)/\∃bs,m_ ys bs/\Q (.bl (bs.all id)) H
@[simp ↓] theorem qht  xs H Q:qcp xs H Q=(ar1 xs λx=>isRef x λa=>∃ys,H a=some (.lst ys)/\∃bs,m_ ys bs/\Q (.bl (bs.all id)) H):=rfl
theorem qcq  {xs H Q} (h:qcp xs H Q):(λxs H Q=>∃a ys bs,xs=[.ref a]/\H a=some (.lst ys)/\m_ ys bs/\Q (.bl (bs.all id)) H:List V->Hp->VK->Prop) xs H Q:=by
 obtain⟨x,rfl,h1⟩:=ar1.out h;obtain⟨a,rfl,ys,h2,bs,h3,h4⟩:=isRef.out h1;exact⟨a,ys,bs,rfl,h2,h3,h4⟩
def qcr  : List V->Hp->VK->Prop:=λxs H Q=>ar1 xs λx=>isRef x λa=>∃ys,H a=some (.lst ys)/\∃bs,m_ ys bs/\Q (.bl (bs.any id)) H
@[simp ↓] theorem qhu  xs H Q:qcr xs H Q=(ar1 xs λx=>isRef x λa=>∃ys,H a=some (.lst ys)/\∃bs,m_ ys bs/\Q (.bl (bs.any id)) H):=rfl
theorem qcs  {xs H Q} (h:qcr xs H Q):qaL xs H Q:=by
 obtain⟨x,rfl,h1⟩:=ar1.out h;obtain⟨a,rfl,ys,h2,bs,h3,h4⟩:=isRef.out h1;exact⟨a,ys,bs,rfl,h2,h3,h4⟩
def Wi:QM:=λo i v H Q=>isRef o λp=>isInt i λk=>∃xs,H p=some (.lst xs)/\∃j,Vi xs.length k=some j/\Q (upd H p (.lst (xs.set j v)))
@[simp ↓] theorem qgp o i v H Q:Wi o i v H Q=(isRef o λp=>isInt i λk=>∃xs,H p=some (.lst xs)/\∃j,Vi xs.length k=some j/\Q (upd H p (.lst (xs.set j v)))):=rfl
theorem ZJ{o i v H Q}(h:Wi o i v H Q):qaD o i v H Q:=by
 obtain⟨p,rfl,h1⟩:=isRef.out h;obtain⟨k,rfl,xs,h2,j,h3,h4⟩:=isInt.out h1;exact⟨p,xs,k,j,rfl,rfl,h2,h3,h4⟩
def qct(K:W.Frag):V->Option Int->Option Int->Hp->VK->Prop:=λx lo hi H Q=>isRef x λa=>∃xs,aX K H a xs/\∀p,H p=none->Q (.ref p) (upd H p (.lst (lU xs lo hi)))
@[simp ↓] theorem qhv (K:W.Frag) x lo hi H Q:qct K x lo hi H Q=(isRef x λa=>∃xs,aX K H a xs/\∀p,H p=none->Q (.ref p) (upd H p (.lst (lU xs lo hi)))):=rfl
theorem qcu{K:W.Frag}{x lo hi H Q}(h:qct K x lo hi H Q):YX K x lo hi H Q:=by
 obtain⟨a,rfl,xs,h1⟩:=isRef.out h;exact⟨a,xs,rfl,h1⟩
def qec:Iu:=λvs σ H Q=>ar0 vs (Q σ H)
def qaP(t:TG)(u:Iu):Iu:=λvs σ H Q=>arH vs λv r=>t v σ H λσ' H'=>u r σ' H' Q
def qee(K:W.Frag)(n:Nat)(t:Iu):TG:=λv σ H Q=>isRef v λa=>∃xs,dg K H a xs/\xs.length=n/\t xs σ H Q
@[simp ↓] theorem qhw vs σ H Q:qec vs σ H Q=ar0 vs (Q σ H):=rfl
@[simp ↓] theorem qgq t u vs σ H Q:qaP t u vs σ H Q=(arH vs λv r=>t v σ H λσ' H'=>u r σ' H' Q):=rfl
@[simp ↓] theorem qhx K n t v σ H Q:qee K n t v σ H Q=(isRef v λa=>∃xs,dg K H a xs/\xs.length=n/\t xs σ H Q):=rfl
theorem iY{vs σ H Q}(h:qec vs σ H Q):qbk vs σ H Q:=ar0.out h
theorem bD(t:TG)(u:Iu):qaP t u=Ux t u:=by
 funext vs σ H Q
 exact qcc _ _
theorem fM(K:W.Frag)(n:Nat)(t:Iu):qee K n t=YC K n t:=by
 funext v σ H Q
 refine propext ⟨λh=>?_,λ⟨a,xs,e,h⟩=>by subst e;exact⟨xs,h⟩⟩;obtain⟨a,rfl,xs,h1⟩:=isRef.out h;exact⟨a,xs,rfl,h1⟩
def qcv(f:Int->Int->Int):YB:=λx y H Q=>isInt x λi=>isInt y λj=>Q (.int (f i j)) H
@[simp ↓] theorem qhy f x y H Q:qcv f x y H Q=(isInt x λi=>isInt y λj=>Q (.int (f i j)) H):=rfl
theorem qcw{f:Int->Int->Int}{x y H Q}(h:qcv f x y H Q):ipI f x y H Q:=by
 obtain⟨i,rfl,h1⟩:=isInt.out h;obtain⟨j,rfl,h2⟩:=isInt.out h1;exact⟨i,j,rfl,rfl,h2⟩
def qef(i:Nat)(te:TE)(ti:YB):TS:=λD σ H=>getSt σ i λx=>te σ H λy H1=>ti x y H1 λz H2=>D.nx (σ.set i (some z)) H2
@[simp ↓] theorem qhz i te ti D σ H:qef i te ti D σ H=(getSt σ i λx=>te σ H λy H1=>ti x y H1 λz H2=>D.nx (σ.set i (some z)) H2):=rfl
theorem Wj{i:Nat}{te:TE}{ti:YB}{D σ H}(h:qef i te ti D σ H):qbm i te ti D σ H:=getSt.out h
def Wk(K:W.Frag)(tl:TE):TI:=λσ H R=>tl σ H λx H1=>isRef x λa=>(∃xs,aX K H1 a xs)/\R (Ui K a) H1
def qaQ(K:W.Frag)(tl:TE):TI:=λσ H R=>tl σ H λx H1=>isRef x λp=>∃b,(∃xs,SqB b K H1 p xs)/\R (Itq b K p) H1
def qaR(tl:TE):TI:=λσ H R=>tl σ H λx H1=>isStr x λz=>R (Its z) H1
def Wm(ta:TA):TI:=λσ H R=>ta σ H λvs H1=>ar1 vs λv=>isInt v λj=>-(2 ^ 62)<=j/\j<2 ^ 62/\R (Uj 0 j.toNat) H1
def Wn(K:W.Frag)(t:TA):TI:=λσ H R=>t σ H λvs H1=>ar1 vs λx=>isRef x λa=>(∃xs,aX K H1 a xs)/\R (Ite K a) H1
@[simp ↓] theorem qeg K tl σ H R:Wk K tl σ H R=(tl σ H λx H1=>isRef x λa=>(∃xs,aX K H1 a xs)/\R (Ui K a) H1):=rfl
@[simp ↓] theorem qgr K tl σ H R:qaQ K tl σ H R=(tl σ H λx H1=>isRef x λp=>∃b,(∃xs,SqB b K H1 p xs)/\R (Itq b K p) H1):=rfl
@[simp ↓] theorem qgs tl σ H R:qaR tl σ H R=(tl σ H λx H1=>isStr x λz=>R (Its z) H1):=rfl
@[simp ↓] theorem qeh ta σ H R:Wm ta σ H R=(ta σ H λvs H1=>ar1 vs λv=>isInt v λj=>-(2 ^ 62)<=j/\j<2 ^ 62/\R (Uj 0 j.toNat) H1):=rfl
@[simp ↓] theorem qei K t σ H R:Wn K t σ H R=(t σ H λvs H1=>ar1 vs λx=>isRef x λa=>(∃xs,aX K H1 a xs)/\R (Ite K a) H1):=rfl
theorem bB(K:W.Frag)(tl:TE):Wk K tl=O4 K tl:=by
 funext σ H R
 exact qjB (tl σ H) (funext λx=>funext λH1=>JR _ _)
theorem pQ(K:W.Frag)(tl:TE):qaQ K tl=qbW K tl:=by
 funext σ H R
 refine qjB (tl σ H) (funext λx=>funext λH1=>propext ⟨λh=>?_,λ⟨b,p,e,h⟩=>by subst e;exact⟨b,h⟩⟩);obtain⟨p,rfl,b,h1⟩:=isRef.out h;exact⟨b,p,rfl,h1⟩
theorem Wo(tl:TE):qaR tl=qbP tl:=by
 funext σ H R
 exact qjB (tl σ H) (funext λx=>funext λH1=>V8 _ _)
theorem lG(ta:TA):Wm ta=UL ta:=by
 funext σ H R
 refine qjB (ta σ H) (funext λx=>funext λH1=>propext ⟨λh=>?_,λ⟨b,e,h⟩=>by subst e;exact h⟩);obtain⟨v,rfl,h1⟩:=ar1.out h;obtain⟨i,rfl,h2⟩:=isInt.out h1;exact⟨i,rfl,h2⟩
theorem lH(K:W.Frag)(t:TA):Wn K t=VG K t:=by
 funext σ H R
 refine qjB (t σ H) (funext λx=>funext λH1=>propext ⟨λh=>?_,λ⟨a,xs,e,h1,h3⟩=>by subst e;exact⟨⟨xs,h1⟩,h3⟩⟩);obtain⟨v,rfl,h1⟩:=ar1.out h;obtain⟨i,rfl,⟨xs,h3⟩,h5⟩:=isRef.out h1;exact⟨i,xs,rfl,h3,h5⟩
def qaS(sp:Sp)(E:XK)(t:TA):TE:=λσ H Q=>t σ H λvs H1=>VH sp vs H1 Q ⟨0⟩ E
@[simp ↓] theorem qgt sp E t σ H Q:qaS sp E t σ H Q=(t σ H λvs H1=>VH sp vs H1 Q ⟨0⟩ E):=rfl
theorem aJ(sp:Sp)(E:XK)(t:TA):qaS sp E t=Va sp [] E t:=by
 funext σ H Q
 exact qjB (t σ H) (funext λvs=>funext λH1=>by rw[qjD];rfl)
def qaT(C:Addr)(m:Str)(sp:Sp)(E:XK)(ta:TE)(t:TA):TE:=λσ H Q=>ta σ H λx H1=>isRef x λa=>∃dx fs,H1 a=some (.ins C dx fs)/\fs.lookup m=none/\t σ H1 λvs H2=>VH sp (.ref a::vs) H2 Q ⟨0⟩ E
@[simp ↓] theorem qgu C m sp E ta t σ H Q:qaT C m sp E ta t σ H Q=(ta σ H λx H1=>isRef x λa=>∃dx fs,H1 a=some (.ins C dx fs)/\fs.lookup m=none/\t σ H1 λvs H2=>VH sp (.ref a::vs) H2 Q ⟨0⟩ E):=rfl
theorem gQ(C:Addr)(m:Str)(sp:Sp)(E:XK)(ta:TE)(t:TA):qaT C m sp E ta t=Vb C m sp [] E ta t:=by
 funext σ H Q
 refine qjB (ta σ H) (funext λx=>funext λH1=>propext ⟨λh=>?_,λ⟨a,dx,fs,e,h1,h2,h3⟩=>?_⟩)
 ·obtain⟨a,rfl,dx,fs,h1,h2,h3⟩:=isRef.out h;refine⟨a,dx,fs,rfl,h1,h2,?_⟩;simp only[qjD];exact h3
 ·subst e;refine⟨dx,fs,h1,h2,?_⟩;simp only[qjD] at h3;exact h3
def qaU(C:Addr)(sp:Sp)(E:XK)(t:TA):TE:=λσ H Q=>t σ H λvs H1=>∀x dx,H1 x=none->H1 dx=none->dx≠x->
 VH sp (.ref x::vs) (upd (upd H1 dx (.own x)) x (.ins C dx [])) (λv H2=>v = .non/\Q (.ref x) H2) ⟨0⟩ E
@[simp ↓] theorem qgv C sp E t σ H Q:qaU C sp E t σ H Q=(t σ H λvs H1=>∀x dx,H1 x=none->H1 dx=none->dx≠x->
 VH sp (.ref x::vs) (upd (upd H1 dx (.own x)) x (.ins C dx [])) (λv H2=>v = .non/\Q (.ref x) H2) ⟨0⟩ E):=rfl
theorem Wq(C:Addr)(sp:Sp)(E:XK)(t:TA):qaU C sp E t=Vc C sp [] E t:=by
 funext σ H Q
 refine qjB (t σ H) (funext λvs=>funext λH1=>?_);simp only[qjD];rfl
def qej(K:W.Frag)(ta:TE)(f:Str):TE:=λσ H Q=>ta σ H λx H1=>isRef x λa=>∃C dx fs,H1 a=some (.ins C dx fs)/\Cls K C/\j9 K C f/\∃v,fs.lookup f=some v/\Q v H1
@[simp ↓] theorem qhA K ta f σ H Q:qej K ta f σ H Q=(ta σ H λx H1=>isRef x λa=>∃C dx fs,H1 a=some (.ins C dx fs)/\Cls K C/\j9 K C f/\∃v,fs.lookup f=some v/\Q v H1):=rfl
theorem Hg(K:W.Frag)(ta:TE)(f:Str):qej K ta f=YM K ta f:=by
 funext σ H Q
 refine qjB (ta σ H) (funext λx=>funext λH1=>propext ⟨λh=>?_,λ⟨a,C,dx,fs,v,e,h1,h2,h3,h4⟩=>by subst e;exact⟨C,dx,fs,h1,h2,h3,v,h4⟩⟩);obtain⟨a,rfl,C,dx,fs,h1,h2,h3,v,h4⟩:=isRef.out h;exact⟨a,C,dx,fs,v,rfl,h1,h2,h3,h4⟩
def qaV(td ty:TE):TE:=λσ H Q=>td σ H λx H1=>ty σ H1 λy H2=>isRef x λa=>∃v,ju H2 a y (some v)/\Q v H2
def qek(ty td:TE):TE:=λσ H Q=>ty σ H λy H1=>td σ H1 λx H2=>isRef x λa=>∃o,ju H2 a y o/\Q (.bl o.isSome) H2
def PN(ty td:TE):TE:=λσ H Q=>ty σ H λy H1=>td σ H1 λx H2=>isRef x λa=>∃o,ju H2 a y o/\Q (.bl o.isNone) H2
def qaW(td ty tv:TE):TS:=λD σ H=>tv σ H λv H1=>td σ H1 λx H2=>ty σ H2 λy H3=>isRef x λa=>∃H4,Gy H3 a y v H4/\D.nx σ H4
def Wr(td ty tx:TE):TE:=λσ H Q=>td σ H λx H1=>isRef x λa=>IsD H1 a/\ty σ H1 λy H2=>tx σ H2 λz H3=>∃o,ju H3 a y o/\Q (o.getD z) H3
@[simp ↓] theorem qgw td ty σ H Q:qaV td ty σ H Q=(td σ H λx H1=>ty σ H1 λy H2=>isRef x λa=>∃v,ju H2 a y (some v)/\Q v H2):=rfl
@[simp ↓] theorem qhB ty td σ H Q:qek ty td σ H Q=(ty σ H λy H1=>td σ H1 λx H2=>isRef x λa=>∃o,ju H2 a y o/\Q (.bl o.isSome) H2):=rfl
@[simp ↓] theorem qdk ty td σ H Q:PN ty td σ H Q=(ty σ H λy H1=>td σ H1 λx H2=>isRef x λa=>∃o,ju H2 a y o/\Q (.bl o.isNone) H2):=rfl
@[simp ↓] theorem qgx td ty tv D σ H:qaW td ty tv D σ H=(tv σ H λv H1=>td σ H1 λx H2=>ty σ H2 λy H3=>isRef x λa=>∃H4,Gy H3 a y v H4/\D.nx σ H4):=rfl
@[simp ↓] theorem qel td ty tx σ H Q:Wr td ty tx σ H Q=(td σ H λx H1=>isRef x λa=>IsD H1 a/\ty σ H1 λy H2=>tx σ H2 λz H3=>∃o,ju H3 a y o/\Q (o.getD z) H3):=rfl
theorem Hh{x:V}{β:Type}{R:Addr->β->Prop}:(isRef x λa=>∃b,R a b)=(∃a b,x = .ref a/\R a b):=propext ⟨λh=>by obtain⟨a,rfl,b,h1⟩:=isRef.out h;exact⟨a,b,rfl,h1⟩,λ⟨a,b,e,h⟩=>by subst e;exact⟨b,h⟩⟩
theorem Ws(td ty:TE):qaV td ty=Vy td ty:=by
 funext σ H Q
 exact qjB (td σ H) (funext λx=>funext λH1=>qjB (ty σ H1) (funext λy=>funext λH2=>Hh))
theorem ZK(ty td:TE):qek ty td=qbY ty td:=by
 funext σ H Q
 exact qjB (ty σ H) (funext λx=>funext λH1=>qjB (td σ H1) (funext λy=>funext λH2=>Hh))
theorem M4(ty td:TE):PN ty td=GC ty td:=by
 funext σ H Q
 refine qjB (ty σ H) (funext λx=>funext λH1=>qjB (td σ H1) (funext λy=>funext λH2=>?_));rw[Hh];simp only[Option.not_isSome]
theorem Wt(td ty tv:TE):qaW td ty tv=Vz td ty tv:=by
 funext D σ H
 exact qjB (tv σ H) (funext λv=>funext λH1=>qjB (td σ H1) (funext λx=>funext λH2=>qjB (ty σ H2) (funext λy=>funext λH3=>Hh)))
theorem Eu(td ty tx:TE):Wr td ty tx=Mv td ty tx:=by
 funext σ H Q
 exact qjB (td σ H) (funext λx=>funext λH1=>JR _ _)
def qaX(t:TE):TO:=λσ H Q=>t σ H λx H1=>isInt x λi=>Q (some i) H1
@[simp ↓] theorem qgy t σ H Q:qaX t σ H Q=(t σ H λx H1=>isInt x λi=>Q (some i) H1):=rfl
theorem mq(t:TE):qaX t=Vh t:=by
 funext σ H Q
 exact qjB (t σ H) (funext λx=>funext λH1=>V7 _ _)
section
variable {X:Cx}{K:W.Frag}
theorem PE.eqv{e:Expr}{t t':TE}(o:PE X e t)(h:t'=t):PE X e t':=h▸o
theorem PC.eqv{op:CmpOp}{a b:Expr}{t t':TE}(o:PC X op a b t)(h:t'=t):PC X op a b t':=h▸o
theorem PS.eqv{e:Stmt}{t t':TS}(o:PS X e t)(h:t'=t):PS X e t':=h▸o
theorem PG.eqv{e:Expr}{t t':TG}(o:PG X e t)(h:t'=t):PG X e t':=h▸o
theorem jF.eqv{e:List Expr}{t t':Iu}(o:jF X e t)(h:t'=t):jF X e t':=h▸o
theorem PI.eqv{tg e:Expr}{t t':TI}(o:PI X tg e t)(h:t'=t):PI X tg e t':=h▸o
theorem PO.eqv{e:Option Expr}{t t':TO}(o:PO X e t)(h:t'=t):PO X e t':=h▸o
theorem zB:gJ X (binaryOp .Mult) (fI YG λi j=>.int (i * j)):=qbu.mono Zu
theorem Wu:gJ X (binaryOp .FloorDiv) (fI QW λi j=>.int (i / j)):=YH.mono Zu
theorem tV:gJ X (binaryOp .Mod) (fI (λ_ j=>0<j) λi j=>.int (i % j)):=qbw.mono Zu
theorem ZL:gJ X (binaryOp .Pow) (fI qdw λi j=>.int (i ^ j.toNat)):=qbx.mono Zu
theorem cg(hK:X.K=K):Vj X (qcd K):=(qgM hK).mono qce
theorem PX:Vj X qcf:=qbI.mono qcg
theorem xU(hK:X.K=K):gJ X (compareOp .In) (fIn K):=(inK hK).mono qea
theorem qhC(hK:X.K=K):gJ X (compareOp .In) (qch K):=(inK hK).mono qci
theorem Hi(hK:X.K=K):gJ X (compareOp .NotIn) (MN K):=(qbV hK).mono Wd
theorem qcx(hK:X.K=K)(hu:X.A.units+64<cLine):gJ X (compareOp .Eq) (qcl K):=(qb5 hK hu).mono qcm
theorem qcy(hK:X.K=K)(hu:X.A.units+64<cLine):gJ X (compareOp .NotEq) (qcj K):=(qb6 hK hu).mono qck
theorem bY(hK:X.K=K):cA X (.builtin "len") (JV K):=(qdN hK).mono Zx
theorem qcz:cA X (.builtin "len") Wa:=qdO.mono Zy
theorem wG(hK:X.K=K):cA X (.type "list") (G7 K):=(Y8 hK).mono RJ
theorem Ew:cA X (.type "tuple") G8:=Vu.mono RK
theorem M5(hK:X.K=K):cA X (.builtin "isinstance") (Wb K):=(qdP hK).mono Zz
theorem Wv(hK:X.K=K):cA X (.builtin "isinstance") (Wc K):=(qdQ hK).mono ZC
theorem lJ(hc:X.calm=true):cA X (.builtin "all") qcp:=(Rn hc).mono qcq
theorem tW(hc:X.calm=true):cA X (.builtin "any") qcr:=(Ru hc).mono qcs
theorem Ey:cA X (.builtin "abs") qcn:=U6.mono qco
theorem Ak(hc:X.calm=true):cA X (.builtin "max") Wg:=(QZ hc).mono ZF
theorem Al(hc:X.calm=true):cA X (.builtin "min") Wh:=(Q0 hc).mono ZG
theorem Hj:cA X (.builtin "divmod") Hf:=Jd.mono RN
theorem fO:Vk X "list.append" G9:=Vk.mono (r:=Gn) Eh RL
theorem M6:Vk X "list.insert" G_:=Vk.mono (r:=Gq) Rm RM
theorem Ww:Vk X "str.join" Wf:=Zr.mono ZD
theorem Wx(hK:X.K=K):YS X (qct K):=(qhh hK).mono qcu
theorem Ez:QS X Wi:=set_list.mono ZJ
theorem P0:PIp X .Add (qcv λi j=>i+j):=qbn.mono qcw
end
theorem getSt.imp{σ:St}{i:Nat}{R R':V->Prop}(f:∀v,R v->R' v):getSt σ i R->getSt σ i R':=by
 induction σ generalizing i with
 |nil=>exact λh=>h.elim
 |cons o σ ih=>
  cases i with
  |zero=>cases o with
   |none=>exact λh=>h.elim
   |some v=>exact f v
  |succ n=>exact ih
theorem isInt.imp{x:V}{R R':Int->Prop}(f:∀v,R v->R' v):isInt x R->isInt x R':=by cases x <;> first|exact f _|exact λh=>h.elim
theorem isRef.imp{x:V}{R R':Addr->Prop}(f:∀v,R v->R' v):isRef x R->isRef x R':=by cases x <;> first|exact f _|exact λh=>h.elim
theorem rP.imp{x:V}{R R':Bool->Prop}(f:∀v,R v->R' v):rP x R->rP x R':=by cases x <;> first|exact f _|exact λh=>h.elim
theorem JW{K:W.Frag}{g:Int->Int->V}{i j:Nat}:∀(σ:St)(H:Hp)(Q Q':Bool->Hp->Prop),(∀(b:Bool)(H1:Hp),Q b H1->Q' b H1)->wD (tOp (Zt g) (fVar i) (tCB (JV K) (O_ (fVar j) U9))) σ H Q->wD (tOp (Zt g) (fVar i) (tCB (JV K) (O_ (fVar j) U9))) σ H Q':=
 λ_ _ _ _ f h=>getSt.imp (λ_ h=>getSt.imp (λ_ h=>isRef.imp (λ_ ⟨ys,h1,h2⟩=>⟨ys,h1,isInt.imp (λ_ h=>isInt.imp (λ_ h=>rP.imp (λ_ h=>f _ _ h) h) h) h2⟩) h) h) h
theorem dz.qg{P:Program}{w:World}{K:W.Frag}{mg:Str->Option Value}{base:Heap}{x qual:Str}{st:Stmt}{f:Addr}{fd:FuncData}{N ps:QAH}{k:Nat}{sp:Sp}(F:dz K x qual st f fd)(S:aO N ps (aB st))(len:∀vs H Q E,sp vs H Q E->vs.length=ps.length)
  (hbody:∀(cdv:Value)(A:Around)(outer:List Env)(s:Shared)(H:Hp)(vs:List V)(Q:VK)(E:XK),fJ k (A.deeper (envOfC qual (aB st) s.heap.objs.size f cdv))->sp vs H Q E->
   ∃t,I_ (au iU P w K mg base N qual (aB st) f cdv A outer s H E).Uh (gw st) t/\t {nx:=λ_ H'=>Q .non H',rt:=Q} (jz N vs) H):bT P w K mg base iU (k+1) f fd ps sp:=by
 refine F.ok S len λcdv A outer s H vs Q E hr h=>?_;obtain⟨t,h1,h2⟩:=hbody cdv A outer s H vs Q E hr h;refine⟨t,h1,?_⟩;have hl:=len _ _ _ _ h;have hp:ps.length<=N.length:=by have:=qjB List.length S.pre;rw[qji] at this;omega
 rw[pP N vs (by omega)] at h2;exact h2
end L2
namespace L2
open PySem
def wH(T:List jw)(h:Str)(wh:List Nat)(R:BR):BR:=T.foldl (λR s=>if s.2.1=h/\¬s.2.2∈R.map (·.1) then R++[(s.2.2,wh++[s.1])] else R) R
def xV(S:List jw)(a:Str):Nat->BR
 |0=>[(a,[])]
 |n+1=>match (xV S a n)[n]? with
  |some x=>wH S x.1 x.2 (xV S a n)
  |none=>xV S a n
theorem M7(T:List jw)(s:jw)(h:Str)(wh:List Nat)(R:BR):wH (T++[s]) h wh R=if s.2.1=h/\¬s.2.2∈(wH T h wh R).map (·.1) then wH T h wh R++[(s.2.2,wh++[s.1])] else wH T h wh R:=by
 unfold wH;rw[List.foldl_append];rfl
theorem RP{S:List jw}{a:Str}{n:Nat}{h:Str}{wh:List Nat}(e:(xV S a n)[n]? = some (h,wh)):xV S a (n+1)=wH S h wh (xV S a n):=by
 show(match (xV S a n)[n]? with|some x=>wH S x.1 x.2 (xV S a n)|none=>xV S a n)=_
 rw[e]
def qhD(S:List jw)(a:Str)(R:BR):Prop:=xV S a R.length=R
def qj(H:Hp)(kvs:List (Key×V)):Prop:=∀kv∈kvs,∀p,kv.2 = .ref p->H p=none
theorem qj.snoc{H:Hp}{kvs:List (Key×V)}(h:qj H kvs){k:Key}{p:Addr}(hp:H p=none):qj H (kvs++[(k,.ref p)]):=by
 intro kv hkv q hq
 rcases qjz.mp hkv with z|z
 ·exact h kv z q hq
 ·simp at z;subst z;cases hq;exact hp
theorem Hl:∀(ns:List Int)(ps:QAD)(k j:Nat)(s:jw),(Dq ns ps k)[j]? = some s↔∃n e,ns[j]? = some n/\ps[j]? = some e/\s=(k+j,zq n e,Dn n e)
 |[],ps,k,j,s=>by simp[Dq]
 |n::ns,[],k,j,s=>by simp[Dq]
 |n::ns,e::ps,k,0,s=>by simp[Dq,eq_comm]
 |n::ns,e::ps,k,j+1,s=>by
  rw[Dq,List.getElem?_cons_succ,Hl ns ps (k+1) j s];simp only[List.getElem?_cons_succ,show k+1+j=k+(j+1) by omega]
theorem JX{ns:List Int}{ps:QAD}{s:jw}:s∈Dq ns ps 0↔∃j n e,ns[j]? = some n/\ps[j]? = some e/\s=(j,zq n e,Dn n e):=by
 rw[qkJ];constructor
 ·rintro⟨j,h⟩;obtain⟨n,e,h1,h2,h3⟩:=(Hl ns ps 0 j s).mp h;exact⟨j,n,e,h1,h2,by rw[h3,qjX]⟩
 ·rintro⟨j,n,e,h1,h2,h3⟩;exact⟨j,(Hl ns ps 0 j s).mpr ⟨n,e,h1,h2,by rw[h3,qjX]⟩⟩
def ZM(S:List jw)(f:QAH):Prop:=∀s∈S,s.2.1∈f->s.2.2∈f
structure Rch(S:List jw)(x:Str)(f:QAH):Prop where
 st:x∈f
 nd:f.Nodup
 rt:∀y∈f,RT (pO S) x y
structure qhE(S T:List jw)(x:Str)(f0 f:QAH):Prop where
 r0:f0.Nodup
 r:Rch S x f
 sub:∀y∈f0,y∈f
 le:f0.length<=f.length
 md:∀s∈T,s.2.1∈f0->s.2.2∈f
 cl:ZM S f0->f=f0
theorem zlt{m b:Nat}{c:Int}(h:m<=b)(hb:(b:Int)<c):(m:Int)<c:=by omega
theorem zlo{f:Int}(h:0<=f) : -4611686018427387904<=f:=by omega
theorem zhi{f c:Int}(h:f<c)(hc:c<=4611686018427387904):f<4611686018427387904:=Int.lt_of_lt_of_le h hc
theorem zsz{a b:Nat}(h:a<b)(hb:b<=20):a<sizeLine:=qjl h (qjx hb (qll Di))
theorem qhF{a b:Nat}(h:a<=b)(hb:b<=20):a<=sizeLine:=qjx h (qjx hb (qll Di))
theorem z2{n:Nat}(h:(1:Int)<n):2<=n:=by omega
theorem zn1{b i:Nat}:0<=((b:Int)+5 * i) % 26:=by omega
theorem zn2{b i:Nat}:((b:Int)+5 * i) % 26<26:=by omega
theorem zn3{b i c:Nat}(h:((b:Int)+5 * i) % 26=c):c=(b+5 * i) % 26:=by omega
theorem zn4{j y:Nat}{e:Int}(h:j<e.toNat)(he:e<4)(hy:y=j):y<sizeLine:=by
 have:=qll Di;omega
theorem zn5{y:Nat}{e:Int}(h:y=e.toNat)(he:e<4):y+y * 0<=16777216:=by omega
theorem zn6{y:Nat}{e:Int}(h:y=e.toNat)(he:e<4):1+y<=4:=by omega
theorem zn7{i j w b:Nat}(hi:i<w)(hj:j<w)(hij:i<j)(hw:w<=9)(z:(b+5 * j) % 26=(b+5 * i) % 26):False:=by omega
theorem zn8{j w:Nat}(h:¬j<w)(h2:j - w=0):j=w:=by omega
theorem zpa(c:Int):0<=if 1000000000000000000<c then c - 1000000000000000000 else 0:=by split <;> omega
theorem zpb(c:Int)(k:Nat):0<=c % 2147483629+977 * (k:Int)+1:=by omega
theorem zpc(c:Int){k:Nat}(h:k<100):c % 2147483629+977 * (k:Int)+1<4294967296:=by omega
theorem zs1{s i t p:Nat}(h:s<=2 * i+1)(hi:i<t)(e:t=p)(hp:p<=20):s<sizeLine:=by
 have:60<sizeLine:=by decide
 omega
theorem zs2{s i:Nat}(h:s<=2 * i+1):s+1<=2 * (i+1):=by omega
theorem zs3{s t p:Nat}(h:s<=2 * t)(e:t=p)(hp:p<=20):s<=40:=by omega
end L2
namespace L2
open PySem PySem.Spec PyProof.Rows
mutual
def pF(H:Hp):PyData->V->Prop
 |.none,v=>v = .non
 |.bool b,v=>v = .bl b
 |.int i,v=>v = .int i
 |.str x,v=>v = .str x
 |.list ds,v=>∃a xs,v = .ref a/\H a=some (.lst xs)/\bQ H ds xs
 |.tuple ds,v=>∃a xs,v = .ref a/\H a=some (.tup xs)/\bQ H ds xs
 |.dict kvs,v=>kvs=[]/\∃a,v = .ref a/\H a=some (.dK [])
def bQ(H:Hp):List PyData->List V->Prop
 |[],vs=>vs=[]
 |d::ds,vs=>∃v r,vs=v::r/\pF H d v/\bQ H ds r
end
mutual
theorem pF.same{H H':Hp}(s:Same H H'):∀(d:PyData)(v:V),pF H d v->pF H' d v
 |.none,v,h=>by simp only[pF] at h⊢;exact h
 |.bool b,v,h=>by simp only[pF] at h⊢;exact h
 |.int i,v,h=>by simp only[pF] at h⊢;exact h
 |.str x,v,h=>by simp only[pF] at h⊢;exact h
 |.list ds,v,h=>by
  simp only[pF] at h⊢;obtain⟨a,xs,e,h1,h2⟩:=h;exact⟨a,xs,e,s _ _ h1,bQ.same s ds xs h2⟩
 |.tuple ds,v,h=>by
  simp only[pF] at h⊢;obtain⟨a,xs,e,h1,h2⟩:=h;exact⟨a,xs,e,s _ _ h1,bQ.same s ds xs h2⟩
 |.dict kvs,v,h=>by
  simp only[pF] at h⊢;obtain⟨e0,a,e,h1⟩:=h;exact⟨e0,a,e,s _ _ h1⟩
theorem bQ.same{H H':Hp}(s:Same H H'):∀(ds:List PyData)(vs:List V),bQ H ds vs->bQ H' ds vs
 |[],vs,h=>by simp only[bQ] at h⊢;exact h
 |d::ds,vs,h=>by
  simp only[bQ] at h⊢;obtain⟨v,r,e,h1,h2⟩:=h;exact⟨v,r,e,pF.same s d v h1,bQ.same s ds r h2⟩
end
theorem bQ.ints(H:Hp):∀ns:List Int,bQ H (ns.map PyData.int) (ns.map V.int)
 |[]=>by simp[bQ]
 |n::ns=>by simp only[qjO,bQ];exact⟨_,_,rfl,by simp[pF],bQ.ints H ns⟩
theorem bQ.length{H:Hp}:∀{ds:List PyData}{xs:List V},bQ H ds xs->ds.length=xs.length
 |[],_,h=>by simp only[bQ] at h;subst h;rfl
 |d::ds,_,h=>by
  simp only[bQ] at h;obtain⟨v,r,rfl,h1,h2⟩:=h;simp[bQ.length h2]
theorem bQ.at{H:Hp}:∀{ds:List PyData}{xs:List V}{i:Nat}{v:V},bQ H ds xs->xs[i]? = some v->∃d,ds[i]? = some d/\pF H d v
 |[],_,i,v,h,e=>by simp only[bQ] at h;subst h;simp at e
 |d::ds,_,0,v,h,e=>by
  simp only[bQ] at h;obtain⟨w,r,rfl,h1,h2⟩:=h;simp at e;subst e;exact⟨d,rfl,h1⟩
 |d::ds,_,i+1,v,h,e=>by
  simp only[bQ] at h;obtain⟨w,r,rfl,h1,h2⟩:=h;exact bQ.at (i:=i) h2 (by simpa using e)
def hid(p:Addr)(H:Hp):Hp:=λb=>if b=p then none else H b
theorem uZ{p b:Addr}{H:Hp}{o:HO}(h:b≠p)(e:H b=some o):hid p H b=some o:=by
 unfold hid;rw[if_neg h];exact e
section
variable {X:Cx}{p_:QAC}{σ:St}{H:Hp}{s:Shared}{K:W.Frag}
end
theorem Am{f:Array Value->Array Value}{o:Obj}:(Obj.mapFields f o).dict=o.dict:=by
 obtain⟨c,d,dat,sl⟩:=o;cases dat <;> rfl
def Trc(base h:Heap)(e:Addr)(cls:Value×Option Addr)(fl:Value)(T:Addr):Prop:=
 ∃oe vs oT ts,h.get? e=some oe/\(oe.cls,oe.dict)=cls/\oe.data = .fields vs/\vs[2]? = some .none/\vs[1]? = some (.ref T)/\base.get? T=none/\T≠e/\h.get? T=some oT/\oT.data = .fields ts/\ts[3]? = some fl
structure Stn(base:Heap)(l:List Env)(e:Addr)(cls:Value×Option Addr)(fl:Value)(h h':Heap):Prop where
 stays:base.StaysIn h'
 frames:h'.FunFrames base l
 trc:∃T,Trc base h' e cls fl T
 slots:h.UpToSlots h'
section
variable {M:Model}{A:Around}{E:QAB}{s:Shared}{base:Heap}{env:Env}{outer l:List Env}{L e:Addr}{Q:Unit->Shared->Prop}
theorem P_{oe:Obj}{vs:Array Value}{head:Value}{had:Bool}(fr:A.frames=some (env::outer))(ff:s.heap.FunFrames base (env::outer))(lf:env.frame=some L)(ee:s.heap.get? e=some oe)
  (st:base.StaysIn s.heap) (nb:base.get? e=none) (de:oe.data = .fields vs) (v2:vs[2]? = some .none) (hq:∀h',Stn base (env::outer) e (oe.cls,oe.dict) (rawInt L) s.heap h'->Q () {s with heap:=h'}) :
  wpAny M A (do let a <- frameOf env;let pl <- entryPlaceOf L had;let b <- EntryCells.newEntry head a .none (rawInt L) .none pl;setField (.ref e) 1 b) Q E s:=by
 have sz2:2<vs.size:=(qkF.mp v2).1;have ne:e∉frs (env::outer):=λz=>by
  obtain⟨_,o,y,d⟩:=ff.mem z;rw[ee] at y;cases y;exact d vs de
 refine qi4 (wpAny_frameOf_fun fr ff lf λg1 x1=>?_);refine qi4 (wpAny_entryPlaceOf λpl okp=>?_);unfold EntryCells.newEntry newFields;refine qi4 (qj1 ?_ (okp.sizeOk5 _ _ _ _ _));have e1:g1.get? e=some oe:=(x1.2.1 e ne).trans ee;have st1:base.StaysIn g1:=λb o z=>(x1.2.1 b λy=>by rw[(ff.mem y).1] at z;cases z).trans (st b o z);generalize hR:({cls:=.type "traceback",dict:=none,data:=.fields ([head,.ref L,.none,rawInt L,.none]++(if pl.isEmpty then List.replicate 6 Value.none else pl)).toArray}:Obj)=R
 have dR:∃ts,R.data = .fields ts/\ts[3]? = some (rawInt L)/\R.isFreed=false:=by
  subst hR;exact⟨_,rfl,by simp,rfl⟩
 obtain⟨ts,dR,tR,fR⟩:=dR;have e2:=qi6 (h:=g1) R e1;refine qlx e2 de (Nat.lt_of_succ_lt sz2) (hq _ ?_);have Te:g1.objs.size≠e:=qkL (qjd e1);have keep:∀{b o},b≠e->g1.get? b=some o->((g1.push R).update e (Obj.mapFields (·.setIfInBounds 1 (Value.ref g1.objs.size)))).get? b=some o:=λ{b o} nb z=>by
  rw[qkn _ _ (qk7 nb)];exact qi6 _ z
 have nr:∀{b o},s.heap.get? b=some o->(∀us,o.data≠.fields us)->b≠e:=λ{b o} z d y=>by
  rw[y,ee] at z;cases z;exact d vs de
 have d3:=qk5 de (·.setIfInBounds 1 (Value.ref g1.objs.size));refine⟨λb o z=>keep (λy=>by rw[y,nb] at z;cases z) (st1 b o z),ff.of_keeps λb o z d=>?_,⟨g1.objs.size,?_⟩,λb o z d=>?_⟩
 ·obtain⟨sl,y⟩:=x1.2.2 b o z;exact⟨_,keep (nr z d) y,rfl⟩
 ·refine⟨_,_,R,ts,qkI _ e2 (qlp d3),by rw[Obj.cls_mapFields,Am],d3,?_,?_,st1.fresh,Te,?_,dR,tR⟩
  ·rw[qlg (by decide)];exact v2
  ·simp[Nat.lt_of_succ_lt sz2]
  ·rw[qkn _ _ (qk7 Te)];exact qjg g1 fR
 ·obtain⟨sl,y⟩:=x1.2.2 b o z;exact⟨sl,keep (nr z d) y⟩
theorem M8{oe:Obj}{vs:Array Value}(fr:A.frames=some (env::outer))(ff:s.heap.FunFrames base (env::outer))(lf:env.frame=some L)(ee:s.heap.get? e=some oe)
  (st:base.StaysIn s.heap) (nb:base.get? e=none) (de:oe.data = .fields vs) (v1:vs[1]? = some .none) (v2:vs[2]? = some .none) (hq:∀h',Stn base (env::outer) e (oe.cls,oe.dict) (rawInt L) s.heap h'->Q () {s with heap:=h'}) :
  wpAny M A (noteFrame (.ref e) env) Q E s:=by
 unfold noteFrame;simp only[lf];refine qi4 (qjZ ee de v1 ?_);rw[if_neg (by decide)];exact P_ fr ff lf ee st nb de v2 hq
theorem RQ{cls:Value×Option Addr}{T:Addr}(fr:A.frames=some (env::outer))(ff:s.heap.FunFrames base (env::outer))(lf:env.frame=some L)(tr:Trc base s.heap e cls .none T)
  (st:base.StaysIn s.heap) (nb:base.get? e=none) (hq:∀h',Stn base (env::outer) e cls (rawInt L) s.heap h'->Q () {s with heap:=h'}) :
  wpAny M A (noteFrame (.ref e) env) Q E s:=by
 obtain⟨oe,vs,oT,ts,ee,rfl,de,v2,v1,nT,Te,eT,dT,t3⟩:=tr;unfold noteFrame;simp only[lf];refine qi4 (qjZ ee de v1 ?_);rw[if_pos (by simp)];refine qi4 (qjZ eT dT t3 ?_);rw[if_neg (by simp[rawInt])];refine qi4 (qlx eT dT (qkF.mp t3).1 ?_);have oth:∀{b},b≠T->(s.heap.update T (Obj.mapFields (·.setIfInBounds 3 Value.none))).get? b=s.heap.get? b:=λn=>qkn _ _ (qk7 n);have nr:∀{b o},s.heap.get? b=some o->(∀us,o.data≠.fields us)->b≠T:=λ{b o} z d y=>by
  rw[y,eT] at z;cases z;exact d ts dT
 refine P_ (s:={s with heap:=s.heap.update T (Obj.mapFields (·.setIfInBounds 3 Value.none))}) fr (ff.of_keeps λb o z d=>⟨o,(oth (nr z d)).trans z,rfl⟩) lf ((oth (qk7 Te)).trans ee) (λb o z=>(oth λy=>by rw[y,nT] at z;cases z).trans (st b o z)) nb de v2 λh' x=>hq h' ⟨x.stays,x.frames,x.trc,λb o z d=>x.slots b o ((oth (nr z d)).trans z) d⟩
theorem Wy{cls:Value×Option Addr}{fl:Value}{T:Addr}(ff:s.heap.FunFrames base l)(tr:Trc base s.heap e cls fl T)(st:base.StaysIn s.heap)(hq:∀h',Stn base l e cls .none s.heap h'->Q () {s with heap:=h'}) :
  wpAny M A (setFlight (.ref e) none) Q E s:=by
 obtain⟨oe,vs,oT,ts,ee,rfl,de,v2,v1,nT,Te,eT,dT,t3⟩:=tr;have z3:3<ts.size:=(qkF.mp t3).1;unfold setFlight;refine qi4 (qjZ ee de v1 ?_);rw[if_pos (by simp)];refine qlx eT dT z3 (hq _ ?_);have oth:∀{b}(f:Obj->Obj),b≠T->(s.heap.update T f).get? b=s.heap.get? b:=λf n=>qkn _ _ (qk7 n);have nr:∀{b o},s.heap.get? b=some o->(∀us,o.data≠.fields us)->b≠T:=λ{b o} z d y=>by
  rw[y,eT] at z;cases z;exact d ts dT
 refine⟨λb o z=>(oth _ λy=>by rw[y,nT] at z;cases z).trans (st b o z),ff.of_keeps λb o z d=>⟨o,(oth _ (nr z d)).trans z,rfl⟩,⟨T,oe,vs,_,_,(oth _ (qk7 Te)).trans ee,rfl,de,v2,v1,nT,Te,qkI _ eT (qlp (qk5 dT _)),qk5 dT _,?_⟩,λb o z d=>⟨o.slots,(oth _ (nr z d)).trans z⟩⟩;simp[z3]
theorem Qa{cls:Value×Option Addr}(note:∀Q':Unit->Shared->Prop,(∀h',Stn base (env::outer) e cls (rawInt L) s.heap h'->Q' () {s with heap:=h'})->wpAny M A (noteFrame (.ref e) env) Q' E s)
  (hq:∀h',Stn base (env::outer) e cls .none s.heap h'->Q () {s with heap:=h'}):wpAny M A (leaving env (.ref e)) Q E s:=by
 unfold leaving;refine qi4 (note _ λh1 x1=>?_);obtain⟨T,tr⟩:=x1.trc;exact Wy (s:={s with heap:=h1}) x1.frames tr x1.stays λh2 x2=>hq h2 ⟨x2.stays,x2.frames,x2.trc,x1.slots.trans x2.slots⟩
end
structure EY(h0 h:Heap)(H:Hp)(a C:Addr)(od:Option Addr):Prop where
 new:h0.get? a=none
 un:H a=none
 ob:∃oe vs,h.get? a=some oe/\(oe.cls,oe.dict)=(Value.ref C,od)/\oe.data = .fields vs/\vs[2]? = some .none/\(vs[1]? = some .none\/
  ∃T oT ts,vs[1]? = some (.ref T)/\T≠a/\h0.get? T=none/\H T=none/\h.get? T=some oT/\oT.data = .fields ts/\ts[3]? = some .none)
structure qcA(h0 h:Heap)(H:Hp)(a C:Addr)(od:Option Addr)(T:Addr):Prop where
 new:h0.get? a=none
 newT:h0.get? T=none
 un:H a=none
 unT:H T=none
 ob:∃oe vs oT ts,h.get? a=some oe/\(oe.cls,oe.dict)=(Value.ref C,od)/\oe.data = .fields vs/\vs[2]? = some .none/\vs[1]? = some (.ref T)/\T≠a/\h.get? T=some oT/\oT.data = .fields ts/\ts[3]? = some .none
theorem qcA.in{h0 h:Heap}{H:Hp}{a C T:Addr}{od:Option Addr}(x:qcA h0 h H a C od T):EY h0 h H a C od:=by
 obtain⟨h1,h2,h3,h4,oe,vs,oT,ts,t1,t2,t3,t4,t5,t6,t7⟩:=x;exact⟨h1,h3,oe,vs,t1,t2,t3,t4,.inr ⟨T,oT,ts,t5,t6,h2,h4,t7⟩⟩
def RV(P:Program)(w:World):U_:=λouter H s E e s'=>∃(a C:Addr)(od:Option Addr)(H':Hp),e = .ref a/\s'.os=s.os/\AllBare s'.gens/\Un (frs outer) [] H H' s.heap s'.heap/\tH P w H' s'.heap/\(∃T,qcA s.heap s'.heap H' a C od T)/\E (.ref C) od H'
theorem M9{P:Program}{w:World}{H:Hp}{h:Heap}(x:tH P w H h){b:Addr}(e:h.get? b=none):H b=none:=by
 cases q:H b with
 |none=>rfl
 |some u=>
  obtain⟨o,eo⟩:∃o,h.get? b=some o:=by
   have:=x b u q;cases u with
   |lst xs=>obtain⟨_,_,_,_,e⟩:=this;exact⟨_,e⟩
   |tup xs=>obtain⟨_,_,_,o,e,_⟩:=this;exact⟨_,e⟩
   |dK kvs=>obtain⟨_,_,_,_,o,_,_,e,_⟩:=this;exact⟨_,e⟩
   |dT kvs=>obtain⟨_,_,_,_,o,_,_,e,_⟩:=this;exact⟨_,e⟩
   |set S n=>obtain⟨o,_,_,_,e,_⟩:=this;exact⟨_,e⟩
   |ins C dx fs=>obtain⟨_,_,_,e,_⟩:=this;exact⟨_,e⟩
   |own y=>obtain⟨_,e⟩:=this;exact⟨_,e⟩
   |xd fs=>obtain⟨_,⟨_,_,_,e,_⟩,_⟩:=this;exact⟨_,e⟩
   |rng lo hi=>obtain⟨_,_,_,e⟩:=this;exact⟨_,e⟩
   |IV ob u=>obtain⟨e,_⟩:=this;exact⟨_,e⟩
   |xg ps=>exact⟨_,(show h.get? b=some _ from this)⟩
   |met f y=>exact⟨_,(show h.get? b=some _ from this)⟩
   |ext φ=>obtain⟨_,⟨o,e⟩,_⟩:=this;exact⟨_,e⟩
  rw[e] at eo;cases eo
section
variable {X:Cx}{p_:QAC}{σ:St}{H:Hp}{s:Shared}
theorem Inv.old(I:Inv X p_ σ H s)(hex:X.ex=[]){b:Addr}(e:s.heap.get? b=none):X.s₀.heap.get? b=none:=by
 cases q:X.s₀.heap.get? b with
 |none=>rfl
 |some o=>
  obtain⟨o',eo⟩:=I.base.there b o q (by rw[hex];simp);rw[e] at eo;cases eo
theorem Qc(I:Inv X p_ σ H s)(hex:X.ex=[]){a C:Addr}{od:Option Addr}{l:List Addr}(hl:∀b∈l,b∈frs X.stack\/(X.s₀.heap.get? b=none/\H b=none))(ha:X.s₀.heap.get? a=none)(hH:H a=none)(hs:∀b∈frs X.stack,b∈l)
  {E:XK} (hE:E (.ref C) od H) {h':Heap} (x:Stn (W.hideAll s.heap l) X.stack a (.ref C,od) .none s.heap h'):RV X.prog X.w X.outer X.H₀ X.s₀ E (.ref a) {s with heap:=h'}:=by
 obtain⟨k1,k2,⟨T,oe,vs,oT,ts,t1,t2,t3,t4,tt,t5,t6,t7,t8,t9⟩,k4⟩:=x;have nl:∀{b:Addr}{o:Obj},b∉l->s.heap.get? b=some o->h'.get? b=some o:=λhb e=>k1 _ _ (W.hideAll_get _ e hb);have qem:∀{b:Addr}{o:Obj},X.s₀.heap.get? b=some o->b∉X.fs->b∉l:=λ{b o} e hb hm=>by
  rcases hl b hm with z|⟨z,_⟩
  ·rcases qjm.mp (I.zR b z) with z|z
   ·rw[z] at e;exact absurd (qjd e) (Nat.not_lt.mpr I.ok.above)
   ·exact hb z
  ·rw[z] at e;cases e
 have trL:∀{b:Addr}{u:HO},H b=some u->b∉l:=λ{b u} e hm=>by
  rcases hl b hm with z|⟨_,z⟩
  ·rw[I.FZ b z] at e;cases e
  ·rw[z] at e;cases e
 have fsl:∀{b:Addr}{o:Obj},b∈X.fs->s.heap.get? b=some o->∃sl,h'.get? b=some {o with slots:=sl}:=λ{b o} hb e=>by
  obtain⟨_,o2,e2,hd⟩:=I.uR.mem hb;rw[e] at e2;cases e2;exact k4 b o e hd
 have Uh:∀b:Addr,b∉X.ex:=λb=>by rw[hex];simp
 refine⟨a,C,od,H,rfl,I.os,I.bare,⟨λb o e n hb _=>?_,λb o e n hb _=>?_,λb o e n _=>I.base.free b o e n (Uh b),λb o e _=>?_,I.base.tups,I.base.vM,I.base.vN⟩,λb u e=>?_,⟨T,ha,?_,hH,?_,oe,vs,oT,ts,t1,t2,t3,t4,tt,t6,t7,t8,t9⟩,hE⟩
 ·exact nl (qem e hb) (I.base.keep b o e n hb (Uh b))
 ·obtain⟨sl,e2⟩:=I.base.slot b o e n hb (Uh b);obtain⟨sl',e3⟩:=fsl hb e2;exact⟨sl',e3⟩
 ·obtain⟨o',e2⟩:=I.base.there b o e (Uh b)
  by_cases hb:b∈X.fs
  ·obtain⟨sl,e3⟩:=fsl hb e2;exact⟨_,e3⟩
  ·exact⟨o',nl (qem e hb) e2⟩
 ·refine(I.hok b u e).stay (λc v hc q=>?_) (λc q=>q) λc xs q=>q
  rcases hc with rfl|hc
  ·exact nl (trL e) q
  ·exact nl (trL hc) q
 all_goals
  have hT:T∉frs X.stack:=λhm=>by
   obtain⟨_,o2,e2,hd⟩:=k2.mem hm;rw[t7] at e2;cases e2;exact hd _ t8
  have cs:s.heap.get? T=none\/(X.s₀.heap.get? T=none/\H T=none):=by
   cases q:s.heap.get? T with
   |none=>exact .inl rfl
   |some o=>
    by_cases hm:T∈l
    ·exact .inr ((hl T hm).resolve_left hT)
    ·rw[W.hideAll_get _ q hm] at t5;cases t5
 ·exact cs.elim (λz=>I.old hex z) λz=>z.1
 ·exact cs.elim (λz=>M9 I.hok z) λz=>z.2
theorem Wz(I:Inv X p_ σ H s)(hst:X.stack=X.env::X.outer)(hfr:X.env.frame=some X.env.locals)(hex:X.ex=[]){a C:Addr}{od:Option Addr}(x:EY X.s₀.heap s.heap H a C od){E:XK}(hE:E (.ref C) od H){E':QAB} :
  wpAny (model X.prog X.w) X.A (leaving X.env (.ref a)) (λ_ s''=>RV X.prog X.w X.outer X.H₀ X.s₀ E (.ref a) s'') E' s:=by
 obtain⟨new,un,oe,vs,he,hc,hd,h0,hT⟩:=x;have fr:=I.ok.frames;rw[hst] at fr;have qaY:∀l:List Addr,s.heap.FunFrames (W.hideAll s.heap (frs X.stack++l)) (X.env::X.outer):=λl=>by
  rw[<- hst];exact W.funFrames_hide I.stack λenv he b hb=>qjR _ (List.mem_filterMap.mpr ⟨env,he,hb⟩)
 rcases hT with h1|⟨T,oT,ts,h1,h2,h3,h4,h5,h6,h7⟩
 ·refine Qa (base:=W.hideAll s.heap (frs X.stack++[a])) (λQ' q=>M8 fr (qaY _) hfr he (λb o e=>W.of_hideAll _ e) (W.hideAll_none _ (by simp)) hd h1 h0 q) λh' hL=>?_;rw[hc,<- hst] at hL;refine Qc I hex (λb hb=>?_) new un (λb hb=>qjR _ hb) hE hL
  rcases qjz.mp hb with z|z
  ·exact .inl z
  ·rw[qkg.mp z];exact .inr ⟨new,un⟩
 ·refine Qa (base:=W.hideAll s.heap (frs X.stack++[a,T])) (cls:=(.ref C,od)) (λQ' q=>RQ fr (qaY _) hfr (T:=T) ⟨oe,vs,oT,ts,he,hc,hd,h0,h1,W.hideAll_none _ (by simp),h2,h5,h6,h7⟩ (λb o e=>W.of_hideAll _ e) (W.hideAll_none _ (by simp)) q) λh' hL=>?_;rw[<- hst] at hL;refine Qc I hex (λb hb=>?_) new un (λb hb=>qjR _ hb) hE hL
  rcases qjz.mp hb with z|z
  ·exact .inl z
  ·simp only[qjm,qko,or_false] at z
   rcases z with rfl|rfl
   ·exact .inr ⟨new,un⟩
   ·exact .inr ⟨h3,h4⟩
theorem EY.back{h0 h1 h:Heap}{H:Hp}{a C:Addr}{od:Option Addr}(x:EY h1 h H a C od)(k:∀b,h1.get? b=none->h0.get? b=none):EY h0 h H a C od:=by
 obtain⟨new,un,oe,vs,he,hc,hd,h2,hT⟩:=x;refine⟨k _ new,un,oe,vs,he,hc,hd,h2,?_⟩
 rcases hT with h1|⟨T,oT,ts,h1,h2,h3,h4,h5⟩
 ·exact .inl h1
 ·exact .inr ⟨T,oT,ts,h1,h2,k _ h3,h4,h5⟩
def Lets(X:Cx)(E:XK):Prop:=∀(p_:QAC)(σ:St)(H:Hp)(s:Shared)(a C:Addr)(od:Option Addr),Inv X p_ σ H s->EY X.s₀.heap s.heap H a C od->E (.ref C) od H->X.xe (.ref a) s
theorem qm{P:Program}{w:World}{K:W.Frag}{mg:Str->Option Value}{base:Heap}{N:QAH}{qual:Str}{scope:Scope}{f:Addr}{cd:Value}{A:Around}{outer:List Env}{s:Shared}{H:Hp}{E:XK} :
  Lets (au (RV P w) P w K mg base N qual scope f cd A outer s H E) E:=λp_ σ H1 s1 a C od I x hE=>Wz I rfl rfl rfl x hE
theorem Lets.passes{X:Cx}{E:XK}(h:Lets X E)(hex:X.ex=[]):Passes (RV X.prog X.w) X E:=λp_ σ H s e s' I hx=>by
 obtain⟨a,C,od,H',rfl,ho,hg,un,hok,⟨T,ex⟩,hE⟩:=hx;have I':Inv X p_ σ H' s':=I.call' (ch:=[]) ho un hok hg λb z=>(nomatch z);exact h p_ σ H' s' a C od I' (ex.in.back λb e=>I.old hex e) hE
theorem Qd{K:W.Frag}{h:Heap}{C:Addr}{bmB:QAE}{newId:String}(X:K.In h)(q:W.excIn K C bmB newId=true) :
  ∃bm N nm q bs hdct sn sub ab col dd k0 k1 k2 k3 k5 mN,h.get? C=some (excClassObj nm q C N bs bm hdct sn sub ab col dd k0 k1 k2 k3 k5 newId)/\h.Ns N mN/\mN "__init__" = none/\OwnTail h bmB bm/\∀v b,W.mroIn K C v=some b->(Value.ref C::bm).contains v=b:=by
 unfold W.excIn at q;split at q
 ·rename_i dd cd sl ho;split at q
  ·rename_i C' bm k0 k1 k2 k3 n k5 hm hs;simp only[qkj,beq_iff_eq,Bool.not_eq_true'] at q;obtain⟨⟨⟨⟨⟨rfl,rfl⟩,hdel⟩,ht⟩,hok⟩,hni⟩:=q;obtain⟨nm,bs,mro,ns,qn,hd,sn,sub,ab,col,del⟩:=cd;dsimp only at hm hdel hok hni;subst hm hdel;obtain rfl:sl = #[k0,k1,k2,k3,some (.builtin n),k5]:=by
    obtain⟨l⟩:=sl;simp only at hs;rw[hs]
   exact⟨bm,ns,nm,qn,bs,hd,sn,sub,ab,col,dd,k0,k1,k2,k3,k5,_,X _ _ ho,.of_isNs (W.isNs_of_in X hok),W.nsMap_none_of_in X hok hni,W.tail_of_in X ht,λv b e=>by
    unfold W.mroIn W.clsIn at e;rw[ho] at e;simpa using e⟩
  ·cases q
 ·cases q
abbrev jY:QAE:=[.type "ValueError",.type "Exception",.type "BaseException",.type "object"]
def Ao(K:W.Frag)(C:Addr):Prop:=W.excIn K C jY "ValueError.__new__" = true
def WD(C:Addr)(E:XK)(ta:TA):TS:=λ_ σ H=>ta σ H λvs H1=>vs.length<=sizeLine/\E (.ref C) none H1
@[simp ↓] theorem qen C E ta D σ H:WD C E ta D σ H=ta σ H λvs H1=>vs.length<=sizeLine/\E (.ref C) none H1:=rfl
theorem JZ{X:Cx}{E:XK}{C:Addr}{x:Str}{np cpos pos:Pos}{e:Expr}{es:List Expr}{ta:TA}(hL:Lets X E)(hex:X.ex=[])(hc:X.calm=true)(cl:Ao X.K C)(hg:Gl X x)(hm:X.mg x=some (.ref C))(ha:PA X (e::es) ta)
  (hdb:(x == ("__debug__" : Str))=false:=by decide) (hs:starEach (e::es) X.env=(false,eval e X.env)::starEach es X.env:=by rfl) (hpl:(backTo cpos (starEach (e::es) X.env)).any (·.1)=false:=by rfl) :
  PS X (.Raise (some (.Call (.Name x np) (e::es) [] cpos)) none pos) (WD C E ta):=by
 intro p_ s σ H D I h;obtain⟨bm,N,nm,q,bs,hdct,sn,sub,ab,col,dd,k0,k1,k2,k3,k5,mN,hC0,hN0,hni,T0,_⟩:=Qd I.ok.mod.OD cl;refine wpAny_Raise_call_subT (bm:=bm) (N:=N) (nm:=nm) (q:=q) (bs:=bs) (hdct:=hdct) (sn:=sn) (sub:=sub) (ab:=ab) (col:=col) (dd:=dd) (k0:=k0) (k1:=k1) (k2:=k2) (k3:=k3) (k5:=k5) (mN:=mN) (C:=C) qly (T0.hasType (by decide)) (I.ok.hd hc) hpl hni ?_;refine tK I hg hm ⟨rfl,?_⟩ hdb;have hp:=λQ q=>ha cpos p_ s σ H Q I q;rw[hs] at hp⊢;show wpAny _ _ (evalArgs (.ref C) true ((false,eval e X.env)::backTo cpos (starEach es X.env)) []) _ _ s;refine Calls.evalArgs_plain (cF (hp _ h) λus s1 zz=>?_);obtain⟨vs,H1,I1,r1,hz,hE⟩:=zz;refine⟨rfl,by rw[<- r1.length];exact hz,I1.bk _ _ hC0,hN0.keeps I1.bk,T0.keeps I1.bk,λh' a mk=>?_⟩;obtain⟨t,ht,htn,htt⟩:=mk.there;have I2:Inv X p_ σ H1 {s1 with heap:=h',toks:=s1.toks}:=I1.kept mk.keeps;exact hL p_ σ H1 _ a C none I2 ⟨I1.old hex mk.new,M9 I1.hok mk.new,_,_,ht,rfl,rfl,rfl,.inl rfl⟩ hE
theorem dz.okE{P:Program}{w:World}{K:W.Frag}{mg:Str->Option Value}{base:Heap}{x qual:Str}{st:Stmt}{f:Addr}{fd:FuncData}{N ps:QAH}{k:Nat}{sp:Sp}(F:dz K x qual st f fd)(S:aO N ps (aB st))(len:∀vs H Q E,sp vs H Q E->vs.length=ps.length)
  (hbody:∀(cdv:Value)(A:Around)(outer:List Env)(s:Shared)(H:Hp)(vs:List V)(Q:VK)(E:XK),fJ k (A.deeper (envOfC qual (aB st) s.heap.objs.size f cdv))->sp vs H Q E->
   ∃t,I_ (au (RV P w) P w K mg base N qual (aB st) f cdv A outer s H E) (gw st) t/\t {nx:=λ_ H'=>Q .non H',rt:=Q} (start N vs) H):bT P w K mg base (RV P w) (k+1) f fd ps sp:=by
 obtain⟨oc,od,kV,doc,pm,an,cdv,ct,osl,rfl,lk,hcd⟩:=F.ex;exact Vf lk hcd S len λA outer s H vs Q E hr hsp=>hbody cdv A outer s H vs Q E hr hsp
end
end L2
namespace L2
open PySem PySem.Spec PySem.W PyProof.Rows
section
variable {prog:Program}{w:World}{A:Around}{E:QAB}{K:W.Frag}{h:Heap}{g:Array GenState}{d:Drawn}{t:Nat}{os:OsState}{x C:Addr}
def Aq(x C:Addr)(h:Heap):Prop:=∃ox vs,h.get? x=some ox/\ox.cls = .ref C/\ox.data = .fields vs
theorem Aq.type{M:Model}(e:Aq x C h):Looks M h (typeOf (.ref x)) (.ref C):=by
 obtain⟨ox,vs,h1,h2,_⟩:=e;exact h2▸(Looks.ld h1).andThen .now
end
end L2
namespace L2
open PySem PySem.Spec PyProof.Rows
section
variable {X:Cx}{p_:QAC}{σ:St}{H:Hp}{s:Shared}
def qeo(K:W.Frag)(C:Addr):Prop:=∀h,K.In h->∃bm N nm q bs hdct sn sub ab col dd k0 k1 k2 k3 k5,h.get? C=some (excClassObj nm q C N bs bm hdct sn sub ab col dd k0 k1 k2 k3 k5 "ValueError.__new__")/\∀v b,W.mroIn K C v=some b->(Value.ref C::bm).contains v=b
end
section
variable {X:Cx}{p_:QAC}{σ:St}{H:Hp}{s:Shared}{a:Addr}
end
theorem dz.ZP{P:Program}{w:World}{K:W.Frag}{mg:Str->Option Value}{base:Heap}{x qual:Str}{st:Stmt}{f:Addr}{fd:FuncData}{N ps:QAH}{k:Nat}{sp:Sp}(F:dz K x qual st f fd)(S:aO N ps (aB st))(len:∀vs H Q E,sp vs H Q E->vs.length=ps.length)
  (hbody:∀(cdv:Value)(A:Around)(outer:List Env)(s:Shared)(H:Hp)(vs:List V)(Q:VK)(E:XK),fJ k (A.deeper (envOfC qual (aB st) s.heap.objs.size f cdv))->sp vs H Q E->
   ∃t,I_ (au (RV P w) P w K mg base N qual (aB st) f cdv A outer s H E) (gw st) t/\t {nx:=λ_ H'=>Q .non H',rt:=Q} (jz N vs) H):bT P w K mg base (RV P w) (k+1) f fd ps sp:=by
 refine F.okE S len λcdv A outer s H vs Q E hr h=>?_;obtain⟨t,h1,h2⟩:=hbody cdv A outer s H vs Q E hr h;refine⟨t,h1,?_⟩;have hl:=len _ _ _ _ h;have hp:ps.length<=N.length:=by have:=qjB List.length S.pre;rw[qji] at this;omega
 rw[pP N vs (by omega)] at h2;exact h2
theorem qep{P:Program}{w:World}{X:Cx}:Passes (RV P w) X E0:=λ_ _ _ _ _ _ _ h=>by
 obtain⟨_,_,_,_,_,_,_,_,_,_,z⟩:=h;exact z.elim
section
variable {X:Cx}{p_:QAC}{σ:St}{H:Hp}{s:Shared}
end
structure Sml(k n:Nat)(d:PyData):Prop where
 sh:d.showable=true
 dp:d.depth<=k
 ln:d.shown.length<=n
end L2
namespace L2
open PySem PySem.Spec
section
variable {σ:St}{H:Hp}{p:Addr}
variable {φ:PyData->Prop}
structure big(t:TE)(σ:St)(H:Hp)(Q:VK):Prop where
 out:t σ H Q
end
end L2
namespace L2
open PySem PySem.Spec PyProof.Rows
section
variable {X:Cx}{K:W.Frag}
end
section
variable {X:Cx}{K:W.Frag}
end
section
variable {X:Cx}{p_:QAC}{σ:St}{H:Hp}{s:Shared}
end
section
variable {X:Cx}
def rR:List TE->St->Hp->Str->(Str->Hp->Prop)->Prop
 |[],_,H,acc,Q=>Q acc H
 |t::r,σ,H,acc,Q=>t σ H λx H1=>isStr x λy=>y.length<=sizeLine/\(acc++y).length<=sizeLine/\rR r σ H1 (acc++y) Q
@[simp ↓] theorem qeq σ H acc Q:rR [] σ H acc Q=Q acc H:=rfl
@[simp ↓] theorem qer t r σ H acc Q:rR (t::r) σ H acc Q=(t σ H λx H1=>isStr x λy=>y.length<=sizeLine/\(acc++y).length<=sizeLine/\rR r σ H1 (acc++y) Q):=rfl
def Qe(ts:List TE):TE:=λσ H Q=>rR ts σ H Str.empty λz H1=>z.length<=sizeLine/\Q (.str z) H1
@[simp ↓] theorem qdl ts σ H Q:Qe ts σ H Q=(rR ts σ H Str.empty λz H1=>z.length<=sizeLine/\Q (.str z) H1):=rfl
def PF(X:Cx)(e:Expr)(t:TE):Prop:=∀(p_:QAC)(s:Shared)(σ:St)(H:Hp)(Q:Str->Hp->Prop),Inv X p_ σ H s->(t σ H λx H1=>isStr x λy=>y.length<=sizeLine/\Q y H1)->
 wpAny (model X.prog X.w) X.A (eval e X.env) (λv s1=>∃y tk H1,v = .str y tk/\Inv X p_ σ H1 s1/\Q y H1) X.xe s
theorem WK{e:Expr}{t:TE}(h:PE X e t):PF X e t:=λp_ s σ H Q I hq=>
 cF (h p_ s σ H _ I hq) λv s1 ⟨x,H1,I1,r,q⟩=>by
  obtain⟨y,rfl,_,q2⟩:=isStr.out q;obtain⟨tk,rfl⟩:=r;exact⟨y,tk,H1,rfl,I1,q2⟩
inductive PFs(X:Cx):List Expr->List TE->Prop where
 |nil:PFs X [] []
 |cons {e:Expr}{es:List Expr}{t:TE}{ts:List TE}:PF X e t->PFs X es ts->PFs X (e::es) (t::ts)
theorem PFs.joins{es:List Expr}{ts:List TE}(h:PFs X es ts):∀(p_:QAC)(s:Shared)(σ:St)(H:Hp)(acc:Str)(Q:Str->Hp->Prop)(R:Str->Shared->Prop),Inv X p_ σ H s->rR ts σ H acc Q->
  (∀out s1 H1,Inv X p_ σ H1 s1->Q out H1->R out s1)->Joins (model X.prog X.w) X.A X.xe (evalEach es X.env) acc R s:=by
 induction h with
 |nil=>exact λp_ s σ H acc Q R I hq hR=>hR _ _ _ I hq
 | @cons e es t ts h hs ih=>
  intro p_ s σ H acc Q R I hq hR;show wpAny _ _ (eval e X.env) _ _ s;refine qkd (h p_ s σ H (λy H1=>(acc++y).length<=sizeLine/\rR ts σ H1 (acc++y) Q) I hq) (λv s1 ⟨y,tk,H1,e1,I1,hl,q⟩=>⟨y,tk,e1,hl,ih p_ s1 σ H1 _ Q R I1 q hR⟩) λ_ _ z=>z
theorem RW{v₁ v₂:Expr}{rest:List Expr}{pos:Pos}{ts:List TE}(h:PFs X (v₁::v₂::rest) ts):PE X (.JoinedStr (v₁::v₂::rest) pos) (Qe ts):=by
 intro p_ s σ H Q I hq;refine wpAny_JoinedStr (h.joins p_ s σ H Str.empty _ _ I hq λout s1 H1 I1 q=>?_);exact⟨q.1,.str out,H1,I1.tok _,⟨_,rfl⟩,q.2⟩
end
end L2
namespace L2
open PySem PySem.Spec PySem.W PyProof.Rows
section
variable {prog:Program}{w:World}{A:Around}{E:QAB}{K:W.Frag}{h:Heap}{g:Array GenState}{d:Drawn}{t:Nat}{os:OsState}
variable {nm q:Str}{C N:Addr}{bs bm:QAE}{hdct:Bool}{sn:QAH}{sub:QAE}{ab:Bool}{col:Option Bool}{dd:Option Addr}{k0 k1 k2 k3 k5:QAG}
theorem Ho{rest:QAE}{f:Addr}{Q:PySem.Fin->Shared->Prop}(X:K.In h)(T:OwnTail h jY bm) (hi:findIn K (.ref C) "__init__" = some (some (.ref f))) (hf:typeIn K (.ref f)=some (.type "function"))
  (hC:h.get? C=some (excClassObj nm q C N bs bm hdct sn sub ab col dd k0 k1 k2 k3 k5 "ValueError.__new__"))
  (hq:∀h' e,Heap.MadeExcOf h h' e (.ref C) rest->wpAny (model prog w) A (call (.ref f) (.ref e::rest)) (λr s'=>r = .none/\Q (.done (.ret (.ref e))) s') E ⟨h',g,d,t,os⟩) (hz:rest.length<=sizeLine) :
  wpAny (model prog w) A (Builtin.«type.__call__» ⟨.ref C::rest,[]⟩) Q E ⟨h,g,d,t,os⟩:=by
 have F:=qly
 repeat (first|with_reducible refine qlr hC ?_|with_reducible refine wpAny_madeBy_exc hC ?_|wp_step)
 refine codeAny_call_builtin_code (Code.quiet_builtin _ F.quiet) (wpAny_check_new_subT F T hC (codeAny_exc_new_subT F T hC ?_ hz));show wpAny _ _ _ _ _ _;generalize hG:(h.push {cls:=.type "tuple",data:=.seq rest.toArray}).push {cls:=.ref C,data:=.fields #[.ref h.objs.size,.none,.none,.none,.bool false,.none]}=G;have kp:∀b o,h.get? b=some o->G.get? b=some o:=λb o e=>by
  rw[<- hG];exact qi6 _ (qi6 _ e)
 have hget:G.get? (h.objs.size+1)=some {cls:=.ref C,data:=.fields #[.ref h.objs.size,.none,.none,.none,.bool false,.none]}:=by
  rw[<- hG]
  heap_get
 have hT:G.get? h.objs.size=some {cls:=.type "tuple",data:=.seq rest.toArray}:=by
  rw[<- hG];exact qi6 _ (Heap.get?_push_at rfl rfl)
 have X1:K.In G:=λb o e=>kp b o (X b o e);have hC1:=kp _ _ hC;have hcC:(Value.ref C::bm).contains (.ref C)=true:=by simp
 unfold isInstance
 repeat (first|with_reducible refine qlr hget ?_|(with_reducible refine wpAny_isSubtype_exc hC1 ?_;rw[hcC])|wp_step)
 show wpAny _ _ (typeLookup (.ref C) _) _ _ _;refine(looks_findIn (M:=model prog w) X1 hi).at ?_;refine qkm (qi4 ?_);unfold bindSpecial;refine qi4 ((looks_typeIn (M:=model prog w) X1 hf).at ?_);rw[if_pos (by decide)];refine qi_ (qi4 (qkd (hq G (h.objs.size+1) ⟨kp,Heap.get?_none_of_le (qkP _),h.objs.size,hget,Heap.get?_none_of_le (qjb _),hT⟩) (λr s' hr=>?_) λ_ _ x=>x));obtain⟨rfl,hQ⟩:=hr
 wp_walk
 exact hQ
theorem ZQ{rest:QAE}{f:Addr}{Q:QAB}(X:K.In h)(T:OwnTail h jY bm) (hi:findIn K (.ref C) "__init__" = some (some (.ref f))) (hf:typeIn K (.ref f)=some (.type "function"))
  (hC:h.get? C=some (excClassObj nm q C N bs bm hdct sn sub ab col dd k0 k1 k2 k3 k5 "ValueError.__new__"))
  (hq:∀h' e,Heap.MadeExcOf h h' e (.ref C) rest->wpAny (model prog w) (A.under (.builtin "type.__call__" ⟨.ref C::rest,[]⟩)) (call (.ref f) (.ref e::rest)) (λr s'=>r = .none/\Q (.ref e) s') E ⟨h',g,d,t,os⟩) (hz:rest.length<=sizeLine) :
  wpAny (model prog w) A (call (.ref C) rest) Q E ⟨h,g,d,t,os⟩:=by
 have f1:=tc_lookup;have f2:=tc_bind (.ref C);have hT:(⟨h,g,d,t,os⟩:Shared).TypeIs (.ref C) "type" :=⟨_,hC,rfl⟩;refine qlu (codeAny_of_tree ?_);show wpAny _ _ (callAny (.ref C) _) _ _ _
 repeat (any_goals (first|assumption|with_reducible refine qlr hC ?_|wp_step))
 refine⟨rfl,codeAny_call_builtin_at (Code.quiet_builtin _ (by decide+kernel)) entry_typeCall (wpAny_check_type_call_sub hC (Ho X T hi hf hC (λh' e hm=>?_) hz))⟩;exact hq h' e hm
theorem ZR{rest:QAE}{e t0:Addr}{oe:Obj}{vs:Array Value}{Q:QAB}(T:OwnTail h jY bm)
  (hC:h.get? C=some (excClassObj nm q C N bs bm hdct sn sub ab col dd k0 k1 k2 k3 k5 "ValueError.__new__")) (he:h.get? e=some oe) (hc:oe.cls = .ref C) (hd:oe.data = .fields vs) (h0:vs[0]? = some (.ref t0))
  (hq:∀h' t1,(∀b o,b≠e->h.get? b=some o->h'.get? b=some o)->h'.get? e=some {oe with data:=.fields (vs.setIfInBounds 0 (.ref t1))}->Q .none ⟨h',g,d,t,os⟩) (hz:rest.length<=sizeLine) :
  wpAny (model prog w) A (call (.builtin "ValueError.__init__") (.ref e::rest)) Q E ⟨h,g,d,t,os⟩:=by
 have F:=qly;refine qlu (qlw F.init.plain F.initEntry (wpAny_check_init_subT F T hC he hc ?_));have Er:(h.push {cls:=.type "tuple",data:=.seq rest.toArray}).get? e=some oe:=qi6 _ he;unfold Builtin.«BaseException.__init__» Builtin.BaseException.bexcPut
 repeat (first|with_reducible refine qjZ Er hd h0 ?_|with_reducible refine qlx Er hd (qkF.mp h0).1 ?_|wp_step)
 have d3:=qk5 hd (·.setIfInBounds 0 (Value.ref h.objs.size));refine hq _ h.objs.size (λb o hb z=>?_) ?_
 ·rw[qkn _ _ (qk7 hb)];exact qi6 _ z
 ·refine(qkI _ Er (qlp d3)).trans (qjB some ?_);obtain⟨c,dct,dat,sl⟩:=oe;cases hd;rfl
def Hq(x C:Addr)(od:Option Addr)(h:Heap):Prop:=∃ox vs t0,h.get? x=some ox/\ox.cls = .ref C/\ox.data = .fields vs/\vs[0]? = some (.ref t0)/\vs[1]? = some .none/\vs[2]? = some .none/\ox.dict=od
theorem Hq.at{x C:Addr}{od:Option Addr}{h:Heap}(e:Hq x C od h):Aq x C h:=by
 obtain⟨ox,vs,t0,h1,h2,h3,_⟩:=e;exact⟨ox,vs,h1,h2,h3⟩
structure qhG(K:W.Frag)(C:Addr):Prop where
 ga:findIn K (.ref C) "__getattribute__" = some (some (.builtin "BaseException.__getattribute__"))
 gn:findIn K (.ref C) "__getattr__" = some none
 mb:mroIn K C (.type "BaseException")=some true
 hd:hasDictIn K C=true
structure u0(K:W.Frag)(C PE:Addr):Prop where
 sa:findIn K (.ref C) "__setattr__" = some (some (.builtin "object.__setattr__"))
 mo:mroIn K C (.type "object")=some true
 cl:∃cd,clsIn K C=some cd/\cd.mro = .ref C::.ref PE::jY/\cd.hasDict=true
theorem qcB{x PE:Addr}{name:Str}{tk:Tok}{v:Value}{R:Result->Shared->Prop}(X:K.In h)(I:Aq x C h)(S:u0 K C PE)(ha:findIn K (.ref C) name=some none)
  (hq:wpAny (model prog w) A.in1 (Builtin.ObjectAttr.storeInOwnDict (.ref x) (.ref C) (.str name tk) name v false)
   (λfin s'=>match fin with|.done f=>R (.ok f) s'|.again c'=>c'.quiet=true/\codeAny (model prog w) A c' R s') (λe s'=>R (.error e) s') ⟨h,g,d,t,os⟩) :
  codeAny (model prog w) A (.call (.builtin "object.__setattr__") ⟨[.ref x,.str name tk,v],[]⟩) R ⟨h,g,d,t,os⟩:=by
 have SF:=PySem.F.store_object;obtain⟨cd,hc,hm,_⟩:=S.cl;have L0:=I.type (M:=model prog w);have sub:Looks (model prog w) h (isInstance (.ref x) (.type "object")) true:=L0.andThen (looks_mroIn X S.mo);refine qlw SF.slot.plain SF.entry (@check_slot (model prog w) _ _ ⟨h,g,d,t,os⟩ "object.__setattr__" "object" "__setattr__" (.ref x) [.str name tk,v] [] _ SF.kind SF.split sub (SF.args (.ref x) (.str name tk) v) ?_);have Lm:Looks (model prog w) h (mroOf (.ref C)) cd.mro:=(looks_clsIn X hc).andThen .now;rw[osa_eq,refuse_eq];refine qi4 (qi4 (Looks.here (s:=⟨h,g,d,t,os⟩) L0 (qi4 (Looks.here (s:=⟨h,g,d,t,os⟩) Lm ?_))));rw[hm,refuseLoop_ref,refuseLoop_ref,PySem.F.store_ValueError.passes];exact qi_ (qi4 (Looks.here (s:=⟨h,g,d,t,os⟩) L0 (qi4 (Looks.here (s:=⟨h,g,d,t,os⟩) (looks_findIn X ha) (qi4 (qi_ hq))))))
theorem WL{x PE:Addr}{name:Str}{v:Value}{Q:Unit->Shared->Prop}{s:Shared}(X:K.In s.heap)(I:Aq x C s.heap)(S:u0 K C PE)(ha:findIn K (.ref C) name=some none)
  (hq:∀A':Around,wpAny (model prog w) A' (Builtin.ObjectAttr.storeInOwnDict (.ref x) (.ref C) (.str name s.toks) name v false) (λfin s'=>fin = .done (.ret .none)/\Q () s') (λe s'=>False) {s with toks:=s.toks+1}) :
  wpAny (model prog w) A (setAttr (.ref x) name v) Q E s:=by
 have L0:=I.type (M:=model prog w);refine qi4 (wpAny_mkText (qi4 (qi4 (qi4 (L0 _ _ _ _ (λ_ _ e=>e) (looks_findIn X S.sa _ _ _ _ (λ_ _ e=>e) (qkm ?_)))))));rw[PySem.F.store_object.slot.bind];refine qi4 (qi_ (qi4 (qlu (qkt (qcB (A:=A) (tk:=s.toks) (v:=v) (R:=λr s'=>match r with|.ok (.ret _)=>Q () s'|.ok _=>False|.error e=>False) X I S ha (qkd (hq _) (λfin s' z=>?_) λe s' z=>z)) λr s' z=>?_))))
 ·obtain⟨rfl,z⟩:=z;exact z
 ·rcases r with e|(v|_|_|_) <;> first|exact z.elim|exact qi_ (qi_ z)
theorem ZS{x dx:Addr}{ns:QAH}{mA:Str->Option Value}{name:Str}{tk:Tok}{v:Value}{Q:PySem.Fin->Shared->Prop}{cd:ClassData}(X:K.In h)(e:Hq x C (some dx) h)(hn:h.Ns1 dx mA)(hc:clsIn K C=some cd)(hd:cd.hasDict=true)
  (hw:PySem.Within mA ns) (hsz:ns.length<=sizeLine) (hq:∀h' t',h'.Ns1 dx (λy=>if y=name then some v else mA y)->Heap.SameBut dx h h'->Q (.done (.ret .none)) ⟨h',g,d,t',os⟩) :
  wpAny (model prog w) A (Builtin.ObjectAttr.storeInOwnDict (.ref x) (.ref C) (.str name tk) name v false) Q E ⟨h,g,d,t,os⟩:=by
 obtain⟨ox,vs,t0,h1,h2,h3,_,_,_,h6⟩:=e;obtain⟨oc,odi,oda,osl⟩:=ox;cases h2;cases h3;cases h6;refine qi4 (qi_ (qi4 (qi4 (wpAny_loadPart h1 (qi4 (Looks.here (s:=⟨h,g,d,t,os⟩) (looks_clsIn X hc) ?_))))));rw[hd];refine qi_ (a:=some dx) (qi4 (qi_ (qi4 ?_)));refine wpAny_nsSet1 (s:=⟨h,g,d,t,os⟩) hn λh' hn2 hs2=>?_;obtain⟨oD,esD,epD,hoD,hdD,hcD⟩:=hn2.count (PySem.Within.cons name v hw);refine qi4 (wpAny_lookBehind hoD (by rw[hdD];exact pastItsLine_dict (qjx hcD (by rw[qjt];omega))) ?_);exact qi_ (hq _ _ hn2 hs2)
theorem ZV{x:Addr}{name:Str}{tk:Tok}{v:Value}{Q:PySem.Fin->Shared->Prop}{cd:ClassData}(X:K.In h)(e:Hq x C none h)(hc:clsIn K C=some cd)(hd:cd.hasDict=true)
  (hq:∀h' t',h'.Ns1 h.objs.size (λy=>if y=name then some v else none)->(∀b o,b≠x->h.get? b=some o->h'.get? b=some o)->Hq x C (some h.objs.size) h'->Q (.done (.ret .none)) ⟨h',g,d,t',os⟩) :
  wpAny (model prog w) A (Builtin.ObjectAttr.storeInOwnDict (.ref x) (.ref C) (.str name tk) name v false) Q E ⟨h,g,d,t,os⟩:=by
 obtain⟨ox,vs,t0,h1,h2,h3,h40,h41,h42,h6⟩:=e;obtain⟨oc,odi,oda,osl⟩:=ox;cases h2;cases h3;cases h6;refine qi4 (qi_ (qi4 (qi4 (wpAny_loadPart h1 (qi4 (Looks.here (s:=⟨h,g,d,t,os⟩) (looks_clsIn X hc) ?_))))));rw[hd,if_neg (by decide)];show wpAny _ _ (if (!true || !typeHasDict (Value.ref C))=true then pure none else _) _ _ _
 rw[if_neg (by simp[typeHasDict])];have hxs:x≠h.objs.size:=qjn (qjd h1);have h1':(h.push {cls:=.type "dict",data:=.dict #[]}).get? x=some ⟨.ref C,none,.fields vs,osl⟩:=qi6 _ h1;refine qi4 (wpAny_alloc' ?_);refine qi4 (wpAny_update' h1' ?_);refine qi_ ?_;generalize hG:((h.push {cls:=.type "dict",data:=.dict #[]}).update x λo=>{cls:=o.cls,dict:=some h.objs.size,data:=o.data,slots:=o.slots})=G;have g1:G.get? h.objs.size=some {cls:=.type "dict",data:=.dict #[]}:=by
  rw[<- hG];exact(Heap.get?_update_ne _ _ _ _ hxs.symm).trans (Heap.get?_push_at rfl rfl)
 have g2:G.get? x=some ⟨.ref C,some h.objs.size,.fields vs,osl⟩:=by
  rw[<- hG];exact qkI _ h1' rfl
 have g3:∀b o,b≠x->h.get? b=some o->G.get? b=some o:=λb o hb z=>by
  rw[<- hG];exact(Heap.get?_update_ne _ _ _ _ hb).trans (qi6 _ z)
 have hnd:G.Ns h.objs.size (λ_=>none):=⟨_,#[],_,g1,rfl,λe he=>absurd he (by simp),λ_=>rfl⟩;show wpAny _ _ (Builtin.ObjectAttr.storeInDict h.objs.size (.str name tk) name v) _ _ _;unfold Builtin.ObjectAttr.storeInDict Builtin.ObjectAttr.newKeyGuard;refine qi4 (qi_ (qi4 (wpAny_nsSet1 (Heap.Ns1.of_empty hnd) λh' hn' hs=>?_)));obtain⟨oD,esD,epD,hoD,hdD,hcD⟩:=hn'.count (Within.cons name v Within.nil);refine qi4 (wpAny_lookBehind hoD (by rw[hdD];exact pastItsLine_dict (qjx hcD (by rw[qjt,List.length_nil,sizeLine_eq];omega))) ?_);exact qi_ (hq _ _ hn' (λb o hb z=>(hs.2 b (qjn (qjd z))).trans (g3 b o hb z)) ⟨_,vs,t0,(hs.2 x hxs).trans g2,rfl,rfl,h40,h41,h42,rfl⟩)
end
end L2
namespace L2
open PySem PySem.Spec PyProof.Rows
def dh(x C:Addr)(od:Option Addr):HO:=.ext λh=>Hq x C od h
def iu(dx:Addr)(fs:List (Str×V)):HO:=.ext λh=>fs.length<=1000/\∃mA,h.Ns1 dx mA/\(∀f,lQ (fs.lookup f) (mA f))/\PySem.Within mA (fs.map (·.1))
section
variable {P:Program}{w:World}{H:Hp}{h:Heap}{x C dx:Addr}{od:Option Addr}{fs:List (Str×V)}
theorem Hr(e:Hq x C od h):b_ P w H h x (dh x C od):=by
 obtain⟨ox,vs,t0,h1,h2⟩:=id e;exact⟨e,⟨ox,h1⟩,λg1 g2 ⟨ox,vs,t0,a1,a2⟩ k=>⟨ox,vs,t0,k _ a1,a2⟩⟩
theorem zE(ok:tH P w H h)(e:H x=some (dh x C od)):Hq x C od h:=((show b_ P w H h x (dh x C od) from ok _ _ e)).1
theorem Qf{mA:Str->Option Value}(hl:fs.length<=1000)(hn:h.Ns1 dx mA)(hr:∀f,lQ (fs.lookup f) (mA f))(hw:PySem.Within mA (fs.map (·.1))):b_ P w H h dx (iu dx fs):=by
 obtain⟨o,es,ep,h1,h2⟩:=id hn;exact⟨⟨hl,mA,hn,hr,hw⟩,⟨o,h1⟩,λg1 g2 ⟨c,mB,⟨o,es,ep,a1,a2⟩,b⟩ k=>⟨c,mB,⟨o,es,ep,k _ a1,a2⟩,b⟩⟩
theorem ZW(ok:tH P w H h)(e:H dx=some (iu dx fs)):fs.length<=1000/\∃mA,h.Ns1 dx mA/\(∀f,lQ (fs.lookup f) (mA f))/\PySem.Within mA (fs.map (·.1)):=((show b_ P w H h dx (iu dx fs) from ok _ _ e)).1
theorem qcC{o:HO}(e:H x=some o):upd H x o=H:=funext λb=>by
 by_cases hb:b=x
 ·subst hb;rw[ak,e]
 ·rw[aD hb]
end
section
variable {X:Cx}{p_:QAC}{σ:St}{H:Hp}{s:Shared}
theorem Inv.qcD{a:Addr}{ob:HO}(I:Inv X p_ σ H s)(hex:X.ex=[])(new:X.s₀.heap.get? a=none)(un:H a=none)(e:∃ox vs,s.heap.get? a=some ox/\ox.data = .fields vs)(ok:b_ X.prog X.w (upd H a ob) s.heap a ob)(hp:∀p∈X.pn++p_,p.1≠a):Inv X p_ σ (upd H a ob) s:=by
 have nf:∀{b o},s.heap.get? b=some o->(∀vs,o.data≠.fields vs)->b≠a:=λ{b o} eb hd z=>by
  subst z;obtain⟨ox,vs,h1,h3⟩:=e;rw[eb] at h1;cases h1;exact hd vs h3
 have old:∀{b o},X.s₀.heap.get? b=some o->b≠a:=λ{b o} eb z=>by
  rw[z,new] at eb;cases eb
 have ne:∀{b:Addr}{u:HO},H b=some u->b≠a:=λ{b u} q z=>by
  rw[z,un] at q;cases q
 refine⟨I.ok,I.os,I.bare,⟨λb o eb n hb hx=>I.base.keep b o eb n hb hx,I.base.slot,λb o eb n hx=>?_,I.base.there,λb xs q=>?_,λb o u q=>?_,λb ps q=>?_⟩,I.loc,I.cell,?_,λx c q=>?_,λp hpp=>?_,λb u q=>?_,I.len⟩
 ·rw[aD (old eb)];exact I.base.free b o eb n hx
 ·have z:=I.base.tups b xs q;rw[aD (ne z)];exact z
 ·have z:=I.base.vM b o u q;rw[aD (ne z)];exact z
 ·obtain⟨m,z⟩:=I.base.vN b ps q;exact⟨m,by rw[aD (ne z)];exact z⟩
 ·obtain⟨m,⟨o,es,ep,eo,d,r⟩,_⟩:=I.loc;rw[aD (nf eo λvs y=>by rw[d] at y;cases y)];exact I.free
 ·obtain⟨v,o,eo,d⟩:=I.cell x c q;rw[aD (nf eo λvs y=>by rw[d] at y;cases y)];exact I.m6 x c q
 ·obtain⟨f1,f2,f3⟩:=I.pin p hpp;refine⟨f1,?_,f3⟩;rw[aD (hp p hpp)];exact f2
 ·by_cases hb:b=a
  ·subst hb;rw[ak] at q;cases q;exact ok
  ·rw[aD hb] at q;refine(I.hok b u q).stay (λc v _ z=>z) (λc z=>?_) λc xs z=>?_
   ·rw[aD (ne z)];exact z
   ·rw[aD (ne z)];exact z
theorem Inv.qes{e C:Addr}{args:QAE}{h':Heap}(I:Inv X p_ σ H s)(hex:X.ex=[])(mk:Heap.MadeExcOf s.heap h' e (.ref C) args):H e=none/\Inv X p_ σ (upd H e (dh e C none)) {s with heap:=h'}:=by
 have un:=M9 I.hok mk.new;obtain⟨t0,ht,_⟩:=mk.there;have I2:Inv X p_ σ H {s with heap:=h',toks:=s.toks}:=I.kept mk.keeps;refine⟨un,I2.qcD hex (I.old hex mk.new) un ⟨_,_,ht,rfl⟩ (Hr ⟨_,_,t0,ht,rfl,rfl,rfl,rfl,rfl,rfl⟩) λp hp z=>?_⟩;have e1:=(I.pin p hp).1;rw[z,mk.new] at e1;cases e1
end
structure XMk(K:W.Frag)(C B f:Addr):Prop where
 ob:∃nm q N bs hdct sn sub ab col dd k0 k1 k2 k3 k5,K.lookup C=some (excClassObj nm q C N bs (.ref B::jY) hdct sn sub ab col dd k0 k1 k2 k3 k5 "ValueError.__new__")
 pe:Ao K B
 pm:∃cd,W.clsIn K B=some cd/\cd.mro = .ref B::jY
 init:W.findIn K (.ref C) "__init__" = some (some (.ref f))
 fn:W.typeIn K (.ref f)=some (.type "function")
 kp:W.keepIn K (.ref C)=true
theorem XMk.tail{K:W.Frag}{C B f:Addr}{h:Heap}(M:XMk K C B f)(X:K.In h):OwnTail h jY (.ref B::jY):=by
 obtain⟨bm,N,nm,qn,bs,hdct,sn,sub,ab,col,dd,k0,k1,k2,k3,k5,mN,hC0,hN0,hni,T0,_⟩:=Qd X M.pe;obtain⟨cd,h1,h2⟩:=M.pm;have e:bm=jY:=by
  unfold W.clsIn at h1;split at h1
  ·rename_i c' d' cd' sl' ho;cases h1;have z:=X _ _ ho;rw[hC0] at z;cases z;simpa using h2
  ·cases h1
 subst e;exact .own hC0 hN0 hni .base
section
variable {X:Cx}{C B f:Addr}{x:Str}{np p pos apos:Pos}{e:Expr}{es:List Expr}{t:TA}
structure qet(K:W.Frag)(B:Addr):Prop where
 sg:W.specialIn K (.ref B) "__getattribute__" = some (some (.builtin "type.__getattribute__"))
 rd:W.readsIn K B (.type "type")=true
 fc:W.findCls K (.ref B) (.type "type") "__init__" = some (.val (.builtin "ValueError.__init__"))
def qaZ(C:Addr)(t:TA):TE:=λσ H Q=>t σ H λvs H1=>ar2 vs λv y=>isRef v λa=>∃od,H1 a=some (dh a C od)/\Q .non H1
@[simp ↓] theorem qgz C t σ H Q:qaZ C t σ H Q=t σ H λvs H1=>ar2 vs λv y=>isRef v λa=>∃od,H1 a=some (dh a C od)/\Q .non H1:=rfl
theorem Qg{pl:Sem Bool}(M:XMk X.K C B f)(N:qet X.K B)(hg:Gl X x)(hm:X.mg x=some (.ref B))(ha:PA X (e::es) t) (hdb:(x == ("__debug__" : Str))=false:=by decide)
  (he:starEach (e::es) X.env=(false,eval e X.env)::starEach es X.env:=by rfl) (hpl:(backTo pos (starEach es X.env)).any (·.1)=false:=by rfl)
  (ht:eval (.Call (.Attribute (.Name x np) "__init__" apos) (e::es) [] pos) X.env=(do
   let ov <- eval (.Name x np) X.env
   standAt apos.atName
   let (f,first) <- holding [ov] (getMethod ov "__init__" pl)
   callWith pos f first (backTo pos (starEach (e::es) X.env)) (backToKw pos (keywordEach [] X.env))):=by rfl) :
  PE X (.Call (.Attribute (.Name x np) "__init__" apos) (e::es) [] pos) (qaZ C t):=by
 intro p_ s σ H Q I h;refine W.methodCall_KW (pl:=pl) (tK I hg hm ?_ hdb) ht;refine W.method_cls I.rm N.sg (W.cls_value I.rm N.rd N.fc rfl ?_);have I0:Inv X p_ σ H {s with toks:=s.toks+1}:=I.tok _;refine PyProof.Rows.callWith_builtin1 (cF (ha pos p_ _ σ H _ I0 h) λus s1 zz=>?_) he hpl;obtain⟨vs,H1,I1,r,q⟩:=zz;obtain⟨v,y,rfl,q⟩:=ar2.out q;obtain⟨a,rfl,od,ea,q⟩:=isRef.out q;obtain⟨u1,u2,rfl,r1,r2⟩:=r.two;obtain rfl:u1=Value.ref a:=r1;obtain⟨nm,qn,N,bs,hdct,sn,sub,ab,col,dd,k0,k1,k2,k3,k5,hC⟩:=M.ob;have T:=M.tail I1.rm;have hC1:=I1.rm _ _ hC;obtain⟨ox,vs,t0,h1,h2,h3,h4,h5,h6,h7⟩:=zE I1.hok ea;obtain⟨hh,g,d,tk,os⟩:=s1;refine ZR T hC1 h1 h2 h3 h4 (λh' t1 keep he'=>?_) (by show 1<=sizeLine;decide);have sz:0<vs.size:=(qkF.mp h4).1;have new:Hq a C od h':=⟨_,vs.setIfInBounds 0 (.ref t1),t1,he',h2,rfl,by simp[sz],by rw[qlg (by decide)];exact h5,by rw[qlg (by decide)];exact h6,h7⟩;have I2:Inv X p_ σ (upd H1 a (dh a C od)) {(⟨hh,g,d,tk,os⟩:Shared) with heap:=h',toks:=tk}:=I1.write (x:=a) (e:=a) (by rw[ea];exact True.intro) (.inl rfl) keep ⟨_,he'⟩ (Hr new);rw[qcC ea] at I2;exact⟨.non,H1,I2,rfl,q⟩
end
section
variable {X:Cx}{C B:Addr}{o value:Expr}{f:Str}{pos pos':Pos}{ta tv:TE}
def sX0(C:Addr)(ta tv:TE)(f:Str):TS:=λD σ H=>tv σ H λy H1=>ta σ H1 λx H2=>isRef x λa=>H2 a=some (dh a C none)/\∀dx,H2 dx=none->D.nx σ (upd (upd H2 dx (iu dx [(f,y)])) a (dh a C (some dx)))
@[simp ↓] theorem qiD C ta tv f D σ H:sX0 C ta tv f D σ H=tv σ H λy H1=>ta σ H1 λx H2=>isRef x λa=>H2 a=some (dh a C none)/\∀dx,H2 dx=none->D.nx σ (upd (upd H2 dx (iu dx [(f,y)])) a (dh a C (some dx))):=rfl
theorem qa0(S:u0 X.K C B)(hn:W.findIn X.K (.ref C) f=some none)(ha:PE X o ta)(hv:PE X value tv)(hs:swapsWith value (some (.Attribute o f pos')) pos.line X.env=pure false):PS X (.Assign [.Attribute o f pos'] value pos) (sX0 C ta tv f):=by
 intro p_ s σ H D I h;refine qlf (cF (hv p_ s σ H _ I h) λu s1 z1=>?_) hs;obtain⟨y,H1,I1,ry,q⟩:=z1;refine cF (ha p_ s1 σ H1 _ I1 q) λov s2 z2=>?_;obtain⟨x,H2,I2,rx,q2⟩:=z2;obtain⟨a,rfl,ea,q2⟩:=isRef.out q2;obtain rfl:ov=Value.ref a:=rx;have E0:=zE I2.hok ea;obtain⟨cd,hc,_,hd⟩:=S.cl;have OD:=I2.rm;refine WL OD E0.at S hn λA'=>?_;obtain⟨hh,g,d,tk,os⟩:=s2;refine ZV OD E0 hc hd λh' t' hns keep E1=>⟨rfl,?_⟩;have hf:H2 hh.objs.size=none:=I2.hok.fresh (qjb _);obtain⟨oD,es,ep,eD,rest⟩:=id hns;obtain⟨ox,_,_,ex1,_⟩:=id E0;have axs:a≠hh.objs.size:=qjn (qjd ex1);have nfr:oD.isFreed=false:=(Heap.get?_some_iff.mp eD).2;have hgD:(hh.push oD).get? hh.objs.size=some oD:=qjg hh nfr;have hns':(hh.push oD).Ns1 hh.objs.size (λy'=>if y'=f then some u else none):=⟨oD,es,ep,hgD,rest⟩
 have rel:∀f',lQ ([(f,y)].lookup f') (if f'=f then some u else none):=λf'=>by
  have e:=m7 f f' y [];rw[show[(f,y)].lookup f'=(jr f y []).lookup f' from rfl,e]
  by_cases z:f'=f
  ·rw[if_pos z,if_pos z];exact ry
  ·rw[if_neg z,if_neg z];exact True.intro
 have wi:PySem.Within (λy'=>if y'=f then some u else none) ([(f,y)].map (·.1)):=Within.cons f u Within.nil
 have I3:Inv X p_ σ (upd H2 hh.objs.size (iu hh.objs.size [(f,y)])) {(⟨hh,g,d,tk,os⟩:Shared) with heap:=hh.push oD,toks:=tk}:=I2.laid (λb o z=>qi6 _ z) (qjb _) (Qf (by show(1:Nat)<=1000;decide) hns' rel wi);have I4:Inv X p_ σ (upd (upd H2 hh.objs.size (iu hh.objs.size [(f,y)])) a (dh a C (some hh.objs.size))) {(⟨hh.push oD,g,d,tk,os⟩:Shared) with heap:=h',toks:=t'}:=by
  refine I3.write (x:=a) (e:=a) (by rw[aD axs,ea];exact True.intro) (.inl rfl) (λb o hb z=>?_) ?_ (Hr E1)
  ·by_cases hbs:b=hh.objs.size
   ·subst hbs;rw[hgD] at z;cases z;exact eD
   ·rw[Heap.get?_push_ne _ _ _ hbs] at z;exact keep b o hb z
  ·obtain⟨ox',_,_,z,_⟩:=id E1;exact⟨_,z⟩
 exact⟨σ,_,I4,q2 _ hf⟩
def sX1(C:Addr)(ta tv:TE)(f:Str):TS:=λD σ H=>tv σ H λy H1=>ta σ H1 λx H2=>isRef x λa=>∃dx fs,H2 a=some (dh a C (some dx))/\H2 dx=some (iu dx fs)/\fs.length<1000/\D.nx σ (upd H2 dx (iu dx (jr f y fs)))
@[simp ↓] theorem qiE C ta tv f D σ H:sX1 C ta tv f D σ H=tv σ H λy H1=>ta σ H1 λx H2=>isRef x λa=>∃dx fs,H2 a=some (dh a C (some dx))/\H2 dx=some (iu dx fs)/\fs.length<1000/\D.nx σ (upd H2 dx (iu dx (jr f y fs))):=rfl
theorem qeu(S:u0 X.K C B)(hn:W.findIn X.K (.ref C) f=some none)(ha:PE X o ta)(hv:PE X value tv)(hs:swapsWith value (some (.Attribute o f pos')) pos.line X.env=pure false):PS X (.Assign [.Attribute o f pos'] value pos) (sX1 C ta tv f):=by
 intro p_ s σ H D I h;refine qlf (cF (hv p_ s σ H _ I h) λu s1 z1=>?_) hs;obtain⟨y,H1,I1,ry,q⟩:=z1;refine cF (ha p_ s1 σ H1 _ I1 q) λov s2 z2=>?_;obtain⟨x,H2,I2,rx,q2⟩:=z2;obtain⟨a,rfl,dx,fs,ea,ed,hl,q2⟩:=isRef.out q2;obtain rfl:ov=Value.ref a:=rx;have E0:=zE I2.hok ea;obtain⟨hl0,mA,hns,hr,hw⟩:=ZW I2.hok ed;obtain⟨cd,hc,_,hd⟩:=S.cl;have OD:=I2.rm;refine WL OD E0.at S hn λA'=>?_;obtain⟨hh,g,d,tk,os⟩:=s2;refine ZS OD E0 hns hc hd hw (by rw[qja,sizeLine_eq];omega) λh' t' hns' sb=>⟨rfl,?_⟩;have he:∃o,h'.get? dx=some o:=let ⟨o,_,_,e',_⟩:=hns';⟨o,e'⟩;have I4:Inv X p_ σ (upd H2 dx (iu dx (jr f y fs))) {(⟨hh,g,d,tk,os⟩:Shared) with heap:=h',toks:=t'}:=by
  refine I2.write (x:=dx) (e:=dx) (by rw[ed];exact True.intro) (.inl rfl) (λb o hb z=>(sb.2 b hb).trans z) he (Qf ?_ hns' (λg'=>?_) λg' hg=>?_)
  ·have:=rF f y fs;omega
  ·show lQ ((jr f y fs).lookup g') (if g'=f then some u else mA g')
   rw[m7]
   by_cases z:g'=f
   ·rw[if_pos z,if_pos z];exact ry
   ·rw[if_neg z,if_neg z];exact hr g'
  ·by_cases z:g'=f
   ·rw[z];exact(pJ f y fs).1
   ·refine(pJ f y fs).2 g' (hw g' λy'=>hg ?_);show(if g'=f then some u else mA g')=none
    rw[if_neg z];exact y'
 exact⟨σ,_,I4,q2⟩
end
end L2
namespace L2
open PySem
end L2
namespace L2
open PySem PySem.Spec PyProof.Rows PySem.SeqAt
structure XC(K:W.Frag)(C B:Addr):Prop where
 cl:∃cd,W.clsIn K C=some cd/\cd.mro = .ref C::.ref B::jY/\cd.hasDict=true
 ty:W.typeIn K (.ref C)=some (.type "type")
 ga:W.findIn K (.ref C) "__getattribute__" = some (some (.builtin "BaseException.__getattribute__"))
 gn:W.findIn K (.ref C) "__getattr__" = some none
 gc:W.findIn K (.ref C) "__class__" = some (some (.builtin "object.__class__"))
 kp:W.keepIn K (.ref C)=true
section
variable {K:W.Frag}{C D B:Addr}
theorem XC.mro(c:XC K C B)(v:Value):W.mroIn K C v=some ((Value.ref C::Value.ref B::jY).contains v):=by
 obtain⟨cd,h1,h2,_⟩:=c.cl;unfold W.mroIn;rw[h1,Option.bind_some,h2];rfl
theorem XC.set(c:XC K C B) (sa:W.findIn K (.ref C) "__setattr__" = some (some (.builtin "object.__setattr__"))):u0 K C B:=by
 obtain⟨cd,h1,h2,h3⟩:=c.cl;exact⟨sa,by rw[c.mro];simp,cd,h1,h2,h3⟩
end
def Hs:List Addr->Bool
 |[]=>true
 |a::l=>!l.contains a && Hs l
theorem E_:∀{l:List Addr},Hs l=true->l.Nodup
 |[],_=>List.Pairwise.nil
 |a::l,h=>by
  simp only[Hs,qkj,Bool.not_eq_true',List.contains_eq_mem,decide_eq_false_iff_not] at h;exact qj0.mpr ⟨h.1,E_ h.2⟩
def ar3(vs:List V)(R:V->V->V->Prop):Prop:=match vs with
 |[u,v,w]=>R u v w
 |_=>False
@[simp ↓] theorem qiF u v w R:ar3 [u,v,w] R=R u v w:=rfl
end L2
namespace L2
open PySem PySem.Spec PyProof.Rows
section
variable {M:Model}{A:Around}{E:QAB}{s:Shared}{env:Env}
variable {nm q:Str}{C N:Addr}{bs bm:QAE}{hdct:Bool}{sn:QAH}{sub:QAE}{ab:Bool}{col:Option Bool}{dd:Option Addr}{k0 k1 k2 k3 k5:QAG}{newId:String}
theorem ZX{x:Sem Value}{Q:Flow->Shared->Prop}(hh:A.handled=none)
  (h:wpAny M A x (λv s1=>∃(a C:Addr)(oe:Obj)(vs:Array Value)(nm q:Str)(N:Addr)(bs bm:QAE)(hdct:Bool)(sn:QAH)(sub:QAE)(ab:Bool)(col:Option Bool)(dd:Option Addr)(k0 k1 k2 k3 k5:QAG)(newId:String),v = .ref a/\bm.contains (.type "BaseException")=true/\
   s1.heap.get? C=some (excClassObj nm q C N bs bm hdct sn sub ab col dd k0 k1 k2 k3 k5 newId)/\s1.heap.get? a=some oe/\oe.cls = .ref C/\oe.data = .fields vs/\vs[1]? = some .none/\E (.ref a) s1) E s) :
  wpAny M A (raiseStmt env (some x) none) Q E s:=by
 unfold raiseStmt;refine qi4 (qkd h (λv s1 z=>?_) λ_ _ x=>x);obtain⟨a,C,oe,vs,nm,q,N,bs,bm,hdct,sn,sub,ab,col,dd,k0,k1,k2,k3,k5,newId,rfl,hb,hC,he,hc,hd,h1,hE⟩:=z;have hcB:(Value.ref C::bm).contains (.type "BaseException")=true:=by rw[List.contains_cons,hb,Bool.or_true]
 obtain⟨hp,g,d,tk,os⟩:=s1;obtain⟨oc,odd,oda,osl⟩:=oe;cases hc;cases hd
 repeat (first|with_reducible refine qlr he ?_|with_reducible refine qlr hC ?_|(with_reducible refine wpAny_isSubtype_exc hC ?_;rw[hcB])|wp_step)
 rw[h1];refine qi_ ?_;rw[if_neg (by decide)];exact qi_ (wpAny_raiseNew_none hh hE)
end
section
variable {X:Cx}{p_:QAC}{σ:St}{H:Hp}{s:Shared}
theorem Inv.qhH{a:Addr}{φ:Heap->Prop}(I:Inv X p_ σ H s)(ea:H a=some (.ext φ)):Inv X p_ σ (hid a H) s:=by
 have ne:∀{b:Addr}{u:HO},hid a H b=some u->b≠a/\H b=some u:=λ{b u} z=>by
  unfold hid at z;split at z
  ·cases z
  ·rename_i h;exact⟨h,z⟩
 have kp:∀{b:Addr}{u:HO},b≠a->H b=some u->hid a H b=some u:=λh z=>uZ h z;have nn:∀{b:Addr},H b=none->hid a H b=none:=λ{b} z=>by
  unfold hid;split
  ·rfl
  ·exact z
 refine⟨I.ok,I.os,I.bare,⟨I.base.keep,I.base.slot,λb o eb n hx=>nn (I.base.free b o eb n hx),I.base.there,λb xs q=>?_,λb o u q=>?_,λb ps q=>?_⟩,I.loc,I.cell,nn I.free,λx c q=>nn (I.m6 x c q),λp hpp=>?_,λb u q=>?_,I.len⟩
 ·have z:=I.base.tups b xs q;exact kp (λy=>by rw[y,ea] at z;cases z) z
 ·have z:=I.base.vM b o u q;exact kp (λy=>by rw[y,ea] at z;cases z) z
 ·obtain⟨m,z⟩:=I.base.vN b ps q;exact⟨m,kp (λy=>by rw[y,ea] at z;cases z) z⟩
 ·obtain⟨f1,f2,f3⟩:=I.pin p hpp;exact⟨f1,nn f2,f3⟩
 ·obtain⟨hb,q'⟩:=ne q;refine(I.hok b u q').stay (λc v _ z=>z) (λc z=>?_) λc xs z=>?_
  ·exact kp (λy=>by rw[y,ea] at z;cases z) z
  ·exact kp (λy=>by rw[y,ea] at z;cases z) z
end
section
variable {X:Cx}{E:XK}{k:Nat}{C B f:Addr}{fd:FuncData}{ps:QAH}{sp:Sp}{x:Str}{np cpos pos:Pos}{e:Expr}{es:List Expr}{t:TA}
def Qh(C:Addr)(sp:Sp)(E:XK)(t:TA):TS:=λ_ σ H=>t σ H λvs H1=>vs.length<=sizeLine/\∀a,H1 a=none->VH sp (.ref a::vs) (upd H1 a (dh a C none)) (λv H2=>v = .non/\∃od,H2 a=some (dh a C od)/\E (.ref C) od (hid a H2)) ⟨0⟩ E0
@[simp ↓] theorem qdm C sp E t D σ H:Qh C sp E t D σ H=t σ H λvs H1=>vs.length<=sizeLine/\∀a,H1 a=none->VH sp (.ref a::vs) (upd H1 a (dh a C none)) (λv H2=>v = .non/\∃od,H2 a=some (dh a C od)/\E (.ref C) od (hid a H2)) ⟨0⟩ E0:=rfl
theorem Fb(hL:Lets X E)(hex:X.ex=[])(hc:X.calm=true)(M:XMk X.K C B f)(F:bT X.prog X.w X.K X.mg X.base iU k f fd ps sp)(hr:fJ (k+1) X.A)(hg:Gl X x)(hm:X.mg x=some (.ref C))(hb:Binds X.K fd ps [])
  (ha:PA X (e::es) t) (hdb:(x == ("__debug__" : Str))=false:=by decide) (he:starEach (e::es) X.env=(false,eval e X.env)::starEach es X.env:=by rfl) (hpl:(backTo cpos (starEach es X.env)).any (·.1)=false:=by rfl) :
  PS X (.Raise (some (.Call (.Name x np) (e::es) [] cpos)) none pos) (Qh C sp E t):=by
 intro p_ s σ H D I h;show wpAny _ _ (do standAt pos;raiseStmt X.env (some (do let v <- eval (.Call (.Name x np) (e::es) [] cpos) X.env;standAt pos;pure v)) none) _ _ s
 refine qi4 (wpAny_standAt (ZX (I.ok.hd hc) (qi4 ?_)));refine qkd (Q:=λv s1=>∃(a C:Addr)(oe:Obj)(vs:Array Value)(nm q:Str)(N:Addr)(bs bm:QAE)(hdct:Bool)(sn:QAH)(sub:QAE)(ab:Bool)(col:Option Bool)(dd:Option Addr)(k0 k1 k2 k3 k5:QAG)(newId:String),v = .ref a/\bm.contains (.type "BaseException")=true/\
   s1.heap.get? C=some (excClassObj nm q C N bs bm hdct sn sub ab col dd k0 k1 k2 k3 k5 newId)/\s1.heap.get? a=some oe/\oe.cls = .ref C/\oe.data = .fields vs/\vs[1]? = some .none/\X.xe (.ref a) s1) ?_ (λv s1 z=>qi4 (wpAny_standAt (qi_ z))) λ_ _ z=>z
 refine qku (tK I hg hm ?_ hdb);refine W.callWith_K (h₀:=X.base) I.ok.mod.OD M.kp (cF (ha cpos p_ s σ H _ I h) λus s1 zz=>?_) he hpl;obtain⟨vs,H1,I1,r,hz,q⟩:=zz;refine⟨I1.rm,?_⟩;obtain⟨nm,qn,N,bs,hdct,sn,sub,ab,col,dd,k0,k1,k2,k3,k5,hC⟩:=M.ob;have T:=M.tail I1.rm;have hC1:=I1.rm _ _ hC;have OD:=I1.rm;obtain⟨hh,g,d,tk,os⟩:=s1;refine ZQ OD T M.init M.fn hC1 (λh' a mk=>?_) (by show us.length<=_;rw[<- r.length];exact hz);have new:X.s₀.heap.get? a=none:=I1.old hex mk.new;obtain⟨un,I2⟩:=I1.qes hex mk;have hq:=q a un;have r2:Vals (V.ref a::vs) (Value.ref a::us):=.cons rfl r;have hl:(Value.ref a::us).length=ps.length:=by rw[<- r2.length];exact F.len _ _ _ _ hq
 have hbd:=hb _ (Value.ref a::us) I2.rm (by rw[qjD];exact hl);rw[qjD] at hbd;refine qlu (qkt (F.run _ X.stack _ _ ⟨Value.ref a::us,[]⟩ (Value.ref a::us) _ _ _ (hr.make C us []) (I2.env0.make C us []) hbd r2 hq) λrr s' hq'=>?_);cases rr with
 |error z=>exact False.elim hq'
 |ok fl=>
  cases fl with
  |ret u=>
   obtain⟨v,H',I3,rv,ev,od,ea,hE⟩:=I2.after hq';subst ev;obtain⟨ox,ws,t0,g1,g2,g3,g4,g5,g6,g7⟩:=zE I3.hok ea;refine⟨rv,a,C,ox,ws,nm,qn,N,bs,_,hdct,sn,sub,ab,col,dd,k0,k1,k2,k3,k5,_,rfl,?_,I3.rm _ _ hC,g1,g2,g3,g5,?_⟩
   ·simp[jY]
   ·refine hL p_ σ (hid a H') s' a C od (I3.qhH ea) ⟨new,?_,ox,ws,g1,by rw[g2,g7],g3,g6,.inl g5⟩ hE;unfold hid;rw[if_pos rfl]
  |next=>exact False.elim hq'
  |brk=>exact False.elim hq'
  |cont=>exact False.elim hq'
end
theorem Inv.WM{X:Cx}{p_:QAC}{σ:St}{H:Hp}{s:Shared}{a:Addr}{ob:HO}(I:Inv X p_ σ H s)(new:X.s₀.heap.objs.size<=a)(fp:uo X p_ H a)(ok:b_ X.prog X.w (upd H a ob) s.heap a ob):Inv X p_ σ (upd H a ob) s:=by
 obtain⟨un,f1,f2,f3,f4,f5⟩:=fp;have old:∀{b o},X.s₀.heap.get? b=some o->b≠a:=λ{b o} eb z=>by
  have:=qjd eb;rw[z] at this;exact absurd (qjl this new) (qki _)
 have ne:∀{b:Addr}{u:HO},H b=some u->b≠a:=λ{b u} q z=>by
  rw[z,un] at q;cases q
 refine⟨I.ok,I.os,I.bare,⟨λb o eb n hb hx=>I.base.keep b o eb n hb hx,I.base.slot,λb o eb n hx=>?_,I.base.there,λb xs q=>?_,λb o u q=>?_,λb ps q=>?_⟩,I.loc,I.cell,?_,λx c q=>?_,λp hpp=>?_,λb u q=>?_,I.len⟩
 ·rw[aD (old eb)];exact I.base.free b o eb n hx
 ·have z:=I.base.tups b xs q;rw[aD (ne z)];exact z
 ·have z:=I.base.vM b o u q;rw[aD (ne z)];exact z
 ·obtain⟨m,z⟩:=I.base.vN b ps q;exact⟨m,by rw[aD (ne z)];exact z⟩
 ·rw[aD f1.symm];exact I.free
 ·rw[aD (f4 x c q)];exact I.m6 x c q
 ·obtain⟨g1,g2,g3⟩:=I.pin p hpp;refine⟨g1,?_,g3⟩;rw[aD (f5 p hpp)];exact g2
 ·by_cases hb:b=a
  ·subst hb;rw[ak] at q;cases q;exact ok
  ·rw[aD hb] at q;refine(I.hok b u q).stay (λ_ _ _ qq=>qq) (λd qd=>?_) λd zs qd=>?_
   ·rw[aD (ne qd)];exact qd
   ·rw[aD (ne qd)];exact qd
def arT(xs:List V)(R:V->V->V->Prop):Prop:=match xs with|[x,y,z]=>R x y z|_=>False
@[simp ↓] theorem qiG x y z R:arT [x,y,z] R=R x y z:=rfl
structure Clause(K:W.Frag)(D:Addr):Prop where
 ob:qeo K D
 be:W.mroIn K D (.type "BaseException")=some true
end L2
namespace L2
open PySem
theorem Z0{fx:Nat->Option Int}{ps:QAD}{n:Nat}{a b:Str}:(n,a,b)∈aZ fx ps 0↔∃e,ps[n]? = some e/\(((fx n).getD 0=0/\a=e.1/\b=e.2)\/((fx n).getD 1=1/\a=e.2/\b=e.1)):=by
 rw[jX];constructor
 ·rintro⟨j,e,h1,h2⟩;obtain⟨h3,h4⟩:=jx.mp h2;rw[qjX] at h3 h4;simp only at h3 h4;subst h3;exact⟨e,h1,h4⟩
 ·rintro⟨e,h1,h2⟩;exact⟨n,e,h1,jx.mpr ⟨by simp,by rw[qjX];exact h2⟩⟩
end L2
namespace L2
open PySem PySem.Spec
section
variable {σ:St}{H:Hp}{p:Addr}
variable {φ:PyData->Prop}
end
structure Ltr(n:Nat)(x:Str):Prop where
 cp:∀c∈x.cps.toList,c<16 ^ 8
 ln:x.length<=n
section
variable {σ:St}{H:Hp}{p:Addr}{K:W.Frag}
variable {φ:PyData->Prop}
end
section
variable {X:Cx}
def qa1(t:TE):TE:=λσ H Q=>t σ H λx H1=>isInt x λi=>i.natAbs.log2<1920/\Q (.str (toString i)) H1
@[simp ↓] theorem qgA t σ H Q:qa1 t σ H Q=(t σ H λx H1=>isInt x λi=>i.natAbs.log2<1920/\Q (.str (toString i)) H1):=rfl
theorem qcE{e:Expr}{pos:Pos}{t:TE}(h:PE X e t):PF X (.FormattedValue e (-1) none pos) (qa1 t):=λp_ s σ H Q I hq=>
 wpAny_FormattedValue_plain (cF (h p_ s σ H _ I hq) λv s1 ⟨x,H1,I1,r,q⟩=>by
  obtain⟨i,rfl,hi,q1⟩:=isInt.out q;obtain⟨y,e1,_,q2⟩:=isStr.out q1;cases e1;obtain⟨tk,rfl⟩:=r;exact wpAny_formatField_int hi ⟨_,_,H1,rfl,I1.tok _,q2⟩)
end
end L2
namespace L2
open PySem PySem.Spec PyProof.Rows
def M_(c':Addr)(qual:Str):HO:=.ext λh=>h.CodeRec (.ref c') qual
def TabOk(pos:Pos)(qual:Str)(P:Addr)(H:Hp):Prop:=
 H P=some (.xg #[])\/∃c',H P=some (.xg #[rawInt pos.line,rawInt pos.col,.ref c'])/\H c'=some (M_ c' qual)
theorem TabOk.same{pos:Pos}{qual:Str}{P:Addr}{H H':Hp}(t:TabOk pos qual P H)(s:Same H H'):TabOk pos qual P H':=by
 rcases t with t|⟨c,t,u⟩
 ·exact .inl (s _ _ t)
 ·exact .inr ⟨c,s _ _ t,s _ _ u⟩
theorem TabOk.but{pos:Pos}{qual:Str}{P p:Addr}{H H':Hp}{xs:List V}(t:TabOk pos qual P H)(hp:H p=some (.lst xs))(s:But p H H'):TabOk pos qual P H':=by
 rcases t with t|⟨c,t,u⟩
 ·exact .inl (s _ _ (iR t hp (by simp)) t)
 ·exact .inr ⟨c,s _ _ (iR t hp (by simp)) t,s _ _ (iR u hp (by simp[M_])) u⟩
theorem Z1{P:Program}{w:World}{H:Hp}{h:Heap}{c':Addr}{qual:Str}(r:h.CodeRec (.ref c') qual):b_ P w H h c' (M_ c' qual):=by
 refine⟨r,?_,λh1 h2 r1 k=>?_⟩
 ·obtain⟨c,o,_,_,e,ho,_⟩:=r;cases e;exact⟨o,ho⟩
 ·obtain⟨c,o,vs,t,e,ho,d⟩:=r1;cases e;exact⟨c',o,vs,t,rfl,k o ho,d⟩
section
variable {P:Program}{w:World}{K:W.Frag}{mg:Str->Option Value}{base:Heap}
theorem Z2{A:Around}{outer:List Env}{s:Shared}{H:Hp}{f c':Addr}{name qual:Str}{params:Arguments}{body:Expr}{scope:Scope}{pm ctv:Value}{N ps:QAH}{us:QAE}{vs:List V}{Q:VK}{k:Nat}{t:TE}
  (hr:fJ (k+1) A) (e0:zW P w K mg base A outer s H) (ho:s.heap.get? f=some (W.kla_obj name qual params body scope [] pm c' ctv)) (hcd:s.heap.CodeRec (.ref c') qual) (S:aO N ps scope)
  (hb:bindArgs (W.kla_fn name qual params body scope [] pm (.ref c') ctv) ⟨us,[]⟩=pure (ps.zip us)) (r:Vals vs us) (hl:vs.length=ps.length)
  (ht:PE (au iU P w K mg base N qual scope f (.ref c') A outer s H E0) body t) (hq:t (start N vs) H Q) :
  codeAny (model P w) A (.call (.ref f) ⟨us,[]⟩) (CR iU outer P w H s Q E0) s:=by
 have lim:s.heap.NoLimit:=e0.mod.nolimit.keeps λb o e=>(e0.bs b o e).1;have hkind:∀y∈ps.zip us,scope.names.lookup y.1=some .local\/(scope.names.lookup y.1=some .cell/\((cellsFrom (s.heap.objs.size+1) scope.names []).lookup y.1).isSome=true):=λ⟨n,v⟩ hy=>by
  rcases S.par n (List.of_mem_zip hy).1 with q|q
  ·exact .inl q
  ·exact .inr ⟨q,W.cellsFrom_some _ _ _ (.inl q)⟩
 refine W.kla_callFunE hr.depth ho rfl S.co S.gen rfl hcd ?_;rw[hb];refine qi_ (wpAny_newFunctionEnv_cells S.kind hkind λenv he s1 x=>?_);subst he;refine⟨lim.keeps x.toInCall.keep,W.kla_codeExpr ?_⟩;have I:Inv (au iU P w K mg base N qual scope f (.ref c') A outer s H E0) [] (start N vs) H s1:=Ed S hr.hd e0 hl r x;refine qkd (ht [] s1 (start N vs) H _ I hq) (λu s' hs=>?_) λe s' hs=>hs;obtain⟨v,H',J,rv,q⟩:=hs;exact⟨v,H',J.os,J.bare,J.base,J.hok,rv,q⟩
end
section
variable {X:Cx}{p_:QAC}{σ:St}{H:Hp}{s:Shared}
theorem WQ{M:Model}{A:Around}{E:QAB}{Q:QAB}{c P:Addr}{pos:Pos}{qual:Str}{params:Arguments}{body:Expr}{scope:Scope}{ln:Nat}(I:Inv X p_ σ H s)(hc:X.env.code = .ref c)(C:W.CodeHd X.base c P)(hb:X.base.BuiltinsAt X.mg P)
  (hT:TabOk pos qual P H) (hcl:closureFor scope X.env=pure [])
  (h:∀f c' pm ctv H' s',Inv X p_ σ H' s'->But P H H'->TabOk pos qual P H'->s'.heap.get? f=some (W.kla_obj "<lambda>" qual params body scope [] pm c' ctv)->s.heap.objs.size<=f->f<s'.heap.objs.size->H' f=none->H' c'=some (M_ c' qual)->Q (.ref f) s') :
  wpAny M A (makeFunction "<lambda>" qual params (.expr body) scope X.env [] [] [] pos ln) Q E s:=by
 have hg:s.heap.Ns mainGlobals X.mg:=I.ok.mod.glob.keeps I.bk;have hbs:s.heap.BuiltinsAt X.mg P:=by
  obtain⟨bm,o,h1,h2,h3,h4,h5,h6⟩:=hb;exact⟨bm,o,h1,h2,h3,h4,I.bk _ _ h5,h6⟩
 have hgP:∀{ps},H P=some (.xg ps)->mainGlobals≠P:=λhP q=>by
  obtain⟨o,_,_,e,_⟩:=I.ok.mod.glob;have:=(I.bs _ _ e).2;rw[q,hP] at this;cases this
 rcases hT with hP|⟨c',hP,hc'⟩
 ·have gP:s.heap.get? P=some (W.tabObj #[]):=I.hok P _ hP;refine W.kla_makeFunction (mg:=X.mg) hcl I.ok.glob hg hc (C.keeps I.bk) gP trivial rfl (hgP hP) hbs λc' ctv h' tk hx hge hlt hrec htb=>?_;have hps:(#[]:Array Value)++#[rawInt pos.line,rawInt pos.col,.ref c'] = #[rawInt pos.line,rawInt pos.col,.ref c']:=by simp
  rw[hps] at htb;have nP:∀{b:Addr},H b=none->b≠P:=λe z=>by rw[z,hP] at e;cases e
  have nc:∀{b:Addr}{o:Obj},s.heap.get? b=some o->b≠c':=λe=>qjn (qjl (qjd e) hge);have nc2:∀{b:Addr}{o:HO},H b=some o->b≠c':=λe=>qjn (qjl (I.hok.lt e) hge);have hPc:P≠c':=nc2 hP;have kp:∀b o,b≠P->s.heap.get? b=some o->(h'.push (W.kla_obj "<lambda>" qual params body scope [] ((X.mg "__name__").getD .none) c' ctv)).get? b=some o:=λb o n e=>qi6 _ (hx b o n e);have qev:=qi6 (W.kla_obj "<lambda>" qual params body scope [] ((X.mg "__name__").getD .none) c' ctv) htb;have at1:∀{b:Addr},b≠P->b≠c'->upd (upd H P (.xg #[rawInt pos.line,rawInt pos.col,.ref c'])) c' (M_ c' qual) b=H b:=λn1 n2=>by rw[aD n2,aD n1]
  have atP:upd (upd H P (.xg #[rawInt pos.line,rawInt pos.col,.ref c'])) c' (M_ c' qual) P=some (.xg #[rawInt pos.line,rawInt pos.col,.ref c']):=by rw[aD hPc,ak]
  have J:Inv X p_ σ (upd (upd H P (.xg #[rawInt pos.line,rawInt pos.col,.ref c'])) c' (M_ c' qual)) {s with heap:=h'.push (W.kla_obj "<lambda>" qual params body scope [] ((X.mg "__name__").getD .none) c' ctv),toks:=tk}:=by
   refine I.step (ch:=[]) (by simp) (λb o _ _ _ e n=>kp b o (nP n) e) (λb o _ _ _ e n=>⟨o.slots,kp b o (nP n) e⟩) (λb o _ e n=>?_) (λb o _ e=>?_) (λb xs e=>?_) (λb o u e=>?_) (λb ps e=>?_) (λm hm=>?_) (λb u e=>?_) I.bare
   ·rw[at1 (nP n) (nc e)];exact n
   ·by_cases z:b=P
    ·exact⟨_,by rw[z];exact qev⟩
    ·exact⟨o,kp b o z e⟩
   ·rw[at1 (iR e hP (by simp)) (nc2 e)];exact e
   ·rw[at1 (iR e hP (by simp)) (nc2 e)];exact e
   ·by_cases z:b=P
    ·subst z;rw[hP] at e;cases e;exact⟨#[rawInt pos.line,rawInt pos.col,.ref c'],by rw[atP];simp⟩
    ·exact⟨#[],by rw[at1 z (nc2 e),e];simp⟩
   ·exact(hm.extBut hx (λz=>nP I.free z)).push _
   ·by_cases z1:b=c'
    ·subst z1;rw[ak] at e;cases e;refine Z1 ?_;obtain⟨c,o,vs,t,e,ho,d⟩:=hrec;exact⟨c,o,vs,t,e,qi6 _ ho,d⟩
    ·by_cases z2:b=P
     ·subst z2;rw[atP] at e;cases e;exact qev
     ·rw[at1 z2 z1] at e;refine(I.hok b u e).stay (λd v hd q=>kp d v ?_ q) (λd q=>by rw[at1 (iR q hP (by simp)) (nc2 q)];exact q) λd xs q=>by rw[at1 (iR q hP (by simp)) (nc2 q)];exact q
      rcases hd with rfl|hd
      ·exact z2
      ·exact iR hd hP (by simp)
  exact h _ c' _ ctv _ _ J (λb o n e=>by rw[at1 n (nc2 e)];exact e) (.inr ⟨c',atP,ak⟩) (qjg _ rfl) (qjx hge (qkC hlt)) (by show h'.objs.size<(Heap.push h' _).objs.size;rw[qjN];exact qkK _)
   (by rw[at1 (λz=>?_) (qkL hlt)];exact I.hok.fresh (qjx hge (qkC hlt));exact absurd (I.hok.lt hP) (by rw[<- z];exact Nat.not_lt.mpr (qjx hge (qkC hlt)))) ak
 ·have gP:s.heap.get? P=some (W.tabObj #[rawInt pos.line,rawInt pos.col,.ref c']):=I.hok P _ hP;refine W.kla_makeFunctionHit (mg:=X.mg) (cv:=.ref c') hcl I.ok.glob hg hc (C.keeps I.bk) gP (by simp[TriplesOk,rawInt]) (by simp[codeAmong,rawInt]) hbs λctv h' tk hk hsz=>?_;exact h _ c' _ ctv H _ (I.kept λb o e=>qi6 _ (hk b o e)) (λb o _ e=>e) (.inr ⟨c',hP,hc'⟩) (qjg _ rfl) hsz (by show h'.objs.size<(Heap.push h' _).objs.size;rw[qjN];exact qkK _) (I.hok.fresh hsz) hc'
end
section
variable {X:Cx}{p_:QAC}{σ:St}{H:Hp}{s:Shared}
structure Rec(X:Cx)(p_:QAC)(H:Hp)(it:Addr):Prop where
 no:H it=none
 loc:it≠X.env.locals
 ab:X.s₀.heap.objs.size<=it
 cel:∀x c,X.env.cells.lookup x=some c->c≠it
 pin:∀p∈X.pn++p_,p.1≠it
theorem Inv.rcd(I:Inv X p_ σ H s){it:Addr}(h:s.heap.objs.size<=it):Rec X p_ H it where
 no:=I.hok.fresh h
 loc:=qkL (qjl I.lt h)
 ab:=qjx I.sz h
 cel:=λx c e z=>by
  obtain⟨v,o,ho,_⟩:=I.cell x c e;exact absurd (qjl (qjd ho) h) (by rw[z];exact qki _)
 pin:=λp hp z=>by
  have:=qjd (I.pin p hp).1;exact absurd (qjl this h) (by rw[z];exact qki _)
theorem Inv.turn{t':Nat}{it:Addr}{h':Heap}(I:Inv X p_ σ H s)(R:Rec X p_ H it)(k:∀b o,b≠it->s.heap.get? b=some o->h'.get? b=some o):Inv X p_ σ H {s with heap:=h',toks:=t'}:=
 I.turned k R.no R.loc (.inr R.ab) R.cel R.pin
def qa2(X:Cx)(p_:QAC)(σ:St)(H:Hp)(n:Nat)(k:Int)(s:Shared)(u:Value)(s':Shared):Prop:=
 ∃t,u = .int k t/\Inv X p_ σ H s'/\∀b o,n<=b->H b=none->s.heap.get? b=some o->s'.heap.get? b=some o
end
theorem aX.Z4{K:W.Frag}{H H':Hp}{P a:Addr}{xs:List V}{ps:Array Value}(h:aX K H a xs)(hP:H P=some (.xg ps))(b:But P H H'):aX K H' a xs:=by
 rcases h with(h|⟨o,h⟩)|h
 ·exact .inl (.inl (b _ _ (iR h hP (by simp)) h))
 ·exact .inl (.inr ⟨o,b _ _ (iR h hP (by simp)) h⟩)
 ·exact .inr h
theorem dg.Z4{K:W.Frag}{H H':Hp}{P a:Addr}{xs:List V}{ps:Array Value}(h:dg K H a xs)(hP:H P=some (.xg ps))(b:But P H H'):dg K H' a xs:=by
 rcases h with(h|⟨o,h⟩)|h
 ·exact .inl (.inl (b _ _ (iR h hP (by simp)) h))
 ·exact .inl (.inr ⟨o,b _ _ (iR h hP (by simp)) h⟩)
 ·exact .inr h
theorem TabOk.tb{pos:Pos}{qual:Str}{P:Addr}{H:Hp}(t:TabOk pos qual P H):∃ps,H P=some (.xg ps):=by
 rcases t with t|⟨c,t,_⟩
 ·exact⟨_,t⟩
 ·exact⟨_,t⟩
structure WR(fd:FuncData)(base:Heap)(mg:Str->Option Value)(c P:Addr):Prop where
 cd:fd.code = .ref c
 hd:W.CodeHd base c P
 bt:base.BuiltinsAt mg P
theorem dz.okC{P:Program}{w:World}{K:W.Frag}{mg:Str->Option Value}{base:Heap}{x qual:Str}{st:Stmt}{f c:Addr}{fd:FuncData}{N ps:QAH}{k:Nat}{sp:Sp}(F:dz K x qual st f fd)(hc:fd.code = .ref c)(S:aO N ps (aB st))(len:∀vs H Q E,sp vs H Q E->vs.length=ps.length)
  (hbody:∀(A:Around)(outer:List Env)(s:Shared)(H:Hp)(vs:List V)(Q:VK)(E:XK),fJ k (A.deeper (envOfC qual (aB st) s.heap.objs.size f (.ref c)))->sp vs H Q E->
   ∃t,I_ (au iU P w K mg base N qual (aB st) f (.ref c) A outer s H E).Uh (gw st) t/\t {nx:=λ_ H'=>Q .non H',rt:=Q} (jz N vs) H):bT P w K mg base iU (k+1) f fd ps sp:=by
 obtain⟨oc,od,kV,doc,pm,an,cdv,ct,osl,rfl,lk,hcd⟩:=F.ex;obtain rfl:cdv = .ref c:=hc;refine Vf lk hcd S len λA outer s H vs Q E hr hsp=>?_;obtain⟨t,h,q⟩:=hbody A outer s H vs Q E hr hsp;refine⟨t,h.Uh,?_⟩;have hl:=len _ _ _ _ hsp;have hp:ps.length<=N.length:=by have:=qjB List.length S.pre;rw[qji] at this;omega
 rw[pP N vs (by omega)] at q;exact q
def qew(P:Addr)(H:Hp):Prop:=∀b,b≠P->H b=none\/∃o xs,H b=some (.IV o (.lst xs))
theorem RX{P:Program}{w:World}{K:W.Frag}{mg mb:Str->Option Value}{CX:U_}{k:Nat}{fa a c Pt:Addr}{fd:FuncData}{x:Str}{sp:Sp}{s₁:Shared}{vs:QAE}{ns:List Int}
  (KX:K.In s₁.heap) (hns:s₁.heap.Ns mainGlobals mg) (hb:s₁.heap.Ns builtinsNs mb) (hbb:∀x:Str,x≠ "__name__" ->mb x=bootBuiltins x) (hlim:s₁.heap.NoLimit) (hg:s₁.gens = #[])
  (ha:s₁.heap.get? a=some {cls:=.type "list",data:=.seq vs.toArray}) (hi:IntsAre vs ns) (hl:ns.length<=sizeLine) (hr:fJ k callerA)
  (hC:W.CodeHd s₁.heap c Pt) (hPt:s₁.heap.get? Pt=some (W.tabObj #[])) (hKP:K.lookup Pt=none) (hBA:s₁.heap.BuiltinsAt mg Pt)
  (F:∀base:Heap,K.In base->base.Ns mainGlobals mg->W.CodeHd base c Pt->base.BuiltinsAt mg Pt->bT P w K mg base CX k fa fd [x] sp) (hbind:∀(s:Shared)(u:Value),BindsTo s fd ⟨[u],[]⟩ [(x,u)])
  (hsp:∀H:Hp,H Pt=some (.xg #[])->aX K H a (ns.map V.int)->sp [.ref a] H (λv _=>v = .bl true) λ_ _ _=>False)
  (hCX:∀H e s',CX [] H s₁ (λ_ _ _=>False) e s'->False) :
  codeAny (model P w) callerA (.call (.ref fa) ⟨[.ref a],[]⟩) (λr s'=>r = .ok (.ret (.bool true))/\OldK s₁.heap s'.heap/\s'.os=s₁.os/\AllBare s'.gens) s₁:=by
 have rv:=xu hi;have lenV:=hi.length;have aP:a≠Pt:=λz=>by rw[z,hPt] at ha;cases ha
 have core:∀H:Hp,qew Pt H->H Pt=some (.xg #[])->aX K H a (ns.map V.int)->tH P w H s₁.heap->(∀b,H b≠none->b=a\/b=Pt)->(H a≠none->K.lookup a=none)->
   codeAny (model P w) callerA (.call (.ref fa) ⟨[.ref a],[]⟩) (λr s'=>r = .ok (.ret (.bool true))/\OldK s₁.heap s'.heap/\s'.os=s₁.os/\AllBare s'.gens) s₁:=by
  intro H hO hHP hS hok hA hK;have zF:∀{b:Addr}{o:Obj},s₁.heap.get? b=some o->H b=none->(zQ s₁.heap H).get? b=some o:=λe n=>Uo e n;have noA:∀{b:Addr}{o:Obj},s₁.heap.get? b=some o->(∀its n,o.data≠.seq its n)->o.cls≠.none->H b=none:=λ{b o} e d1 d2=>by
   cases q:H b with
   |none=>rfl
   |some u=>
    rcases hA b (by rw[q];simp) with e'|e'
    ·subst e';rw[ha] at e;cases e;exact absurd rfl (d1 _ _)
    ·subst e';rw[hPt] at e;cases e;exact absurd rfl d2
  have noD:∀{b:Addr}{o:Obj}{es:Array DictEntry}{ep:Nat},s₁.heap.get? b=some o->o.data = .dict es ep->H b=none:=λ{b o es ep} e d=>by
   cases q:H b with
   |none=>rfl
   |some u=>
    rcases hA b (by rw[q];simp) with e'|e'
    ·subst e';rw[ha] at e;cases e;cases d
    ·subst e';rw[hPt] at e;cases e;cases d
  have nsK:∀{b:Addr}{m:Str->Option Value},s₁.heap.Ns b m->(zQ s₁.heap H).Ns b m:=λ{b m} ⟨o,es,ep,e,d,r⟩=>⟨o,es,ep,zF e (noD e d),d,r⟩;have hKb:K.In (zQ s₁.heap H):=λb o e=>zF (KX b o e) (by
   cases q:H b with
   |none=>rfl
   |some u=>
    rcases hA b (by rw[q];simp) with e'|e'
    ·subst e';rw[hK (by rw[q];simp)] at e;cases e
    ·subst e';rw[hKP] at e;cases e)
  have hCb:W.CodeHd (zQ s₁.heap H) c Pt:=by
   obtain⟨o,vs',file,tf,flags,tg,inF,text,tt,e1,e2,e3,r⟩:=hC;exact⟨o,vs',file,tf,flags,tg,inF,text,tt,zF e1 (noA e1 (λ_ _ z=>by rw[e3] at z;cases z) (by rw[e2];simp)),e2,e3,r⟩
  have hBb:(zQ s₁.heap H).BuiltinsAt mg Pt:=by
   obtain⟨bm,o,h1,h2,h3,h4,h5,h6,h7,h8⟩:=hBA;exact⟨bm,o,h1,h2,h3,h4,zF h5 (noA h5 (λ_ _ z=>by rw[h8] at z;cases z) (by rw[h6];simp)),h6,h7,h8⟩
  have hM:Mod K mg (zQ s₁.heap H):=⟨hKb,nsK hns,⟨mb,nsK hb,hbb⟩,let ⟨mc,h1,h2⟩:=hlim;⟨mc,nsK h1,h2⟩⟩;have e0:zW P w K mg (zQ s₁.heap H) callerA [] s₁ H:=⟨rfl,hM,λb o e=>Yw e,Nat.le_of_eq (QH _ _),trivial,λb hb=>absurd (show b∈([]:List Addr) from hb) (by simp),hok,.of_eq hg⟩;refine qkt ((F _ hKb (nsK hns) hCb hBb).run callerA [] s₁ H ⟨[.ref a],[]⟩ [.ref a] [.ref a] _ _ hr e0 (hbind s₁ (.ref a)) (.cons rfl .nil) (hsp H hHP hS)) λr s' h=>?_;cases r with
  |error e=>exact(hCX H e s' h).elim
  |ok fl=>
   cases fl with
   |next=>exact False.elim h
   |brk=>exact False.elim h
   |cont=>exact False.elim h
   |ret u=>
    obtain⟨v,H',os,bare,un,hok',r',q⟩:=h;have q':v = .bl true:=q;subst q';obtain rfl:u=Value.bool true:=r';have kp:∀b o,b≠Pt->s₁.heap.get? b=some o->s'.heap.get? b=some o:=λb o nb e=>by
     cases q:H b with
     |none=>exact un.keep b o e q (by intro z;exact absurd (show b∈([]:List Addr) from z) (by simp)) (by simp)
     |some u=>
      rcases hO b nb with z|⟨ob,xs,z⟩
      ·rw[q] at z;cases z
      ·have z2:=un.vM b ob _ z;obtain⟨e1,_⟩:=hok b _ z;obtain⟨e2,_⟩:=hok' b _ z2;rw[e] at e1;cases e1;exact e2
    obtain⟨more,hm⟩:=un.vN Pt _ hHP;have gP:s'.heap.get? Pt=some (W.tabObj (#[]++more)):=hok' Pt _ hm;refine⟨rfl,⟨λb o e=>?_,λb o e=>?_⟩,os,bare⟩
    ·by_cases nb:b=Pt
     ·subst nb;rw[hPt] at e;cases e;exact .inr (.inl ⟨(hC.tab hPt).isCodeTable,rfl,#[],more,rfl,gP⟩)
     ·exact .inl (kp b o nb e)
    ·by_cases nb:b=Pt
     ·exact⟨_,by rw[nb];exact gP⟩
     ·exact⟨o,kp b o nb e⟩
 cases hk:K.lookup a with
 |some o=>
  have e:=KX a o hk;rw[ha] at e;cases e;refine core (λb=>if b=Pt then some (.xg #[]) else none) (λb nb=>.inl (if_neg nb)) (if_pos rfl) (.inr ⟨_,vs.toArray,_,hk,rfl,rfl,rfl,by rw[qjj,lenV];exact hl,by simpa using rv⟩) (λb u z=>?_) (λb z=>?_) λz=>absurd (if_neg aP) z
  ·by_cases hb:b=Pt
   ·have z':=(if_pos hb).symm.trans z;cases z';subst hb;exact hPt
   ·have z':=(if_neg hb).symm.trans z;cases z'
  ·by_cases hb:b=Pt
   ·exact .inr hb
   ·exact absurd (if_neg hb) z
 |none=>
  refine core (λb=>if b=Pt then some (.xg #[]) else if b=a then some (.IV {cls:=.type "list",data:=.seq vs.toArray} (.lst (ns.map V.int))) else none) (λb nb=>?_) (if_pos rfl)
   (.inl (.inr ⟨{cls:=.type "list",data:=.seq vs.toArray},(if_neg aP).trans (if_pos rfl)⟩)) (λb u z=>?_) (λb z=>?_) λ_=>hk
  ·by_cases hb:b=a
   ·exact .inr ⟨_,_,(if_neg nb).trans (if_pos hb)⟩
   ·exact .inl ((if_neg nb).trans (if_neg hb))
  ·by_cases hp:b=Pt
   ·have z':=(if_pos hp).symm.trans z;cases z';subst hp;exact hPt
   ·by_cases hb:b=a
    ·have z':=((if_neg hp).trans (if_pos hb)).symm.trans z;cases z';subst hb;exact⟨ha,by rw[qja];exact hl,vs,_,rv,ha⟩
    ·have z':=((if_neg hp).trans (if_neg hb)).symm.trans z;cases z'
  ·by_cases hp:b=Pt
   ·exact .inr hp
   ·by_cases hb:b=a
    ·exact .inl hb
    ·exact absurd ((if_neg hp).trans (if_neg hb)) z
theorem WT{l:W.OpenLaw}{n k:Nat}{q:Program}{loose:QAH}{XP:(Str->Option Value)->Heap->Prop}{YP:World->Heap->Prop}{d dt:DefRec}{K:Params->W.Frag}{CX:World->U_}{sp:World->Sp}{x xt:Str}{c Pt:Addr}
  (hn:l.most=some n) (hn2:n<=sizeLine) (hdf:d.params.defaults=[]) (hr:fJ k callerA)
  (hY:∀(w:World)(h:Heap),YP w h->(K w.params).In h)
  (hrec:(recsOf q).find? (λe=>e.name == xt)=some dt) (htab:∀w:World,W.tabIn (K w.params) xt=some (c,Pt)) (hnt:∀w:World,W.noTabs (K w.params)=true)
  (F:∀(w:World)(mg:Str->Option Value)(fa:Addr)(h:Heap),(K w.params).In h->h.Ns mainGlobals mg->mg d.name=some (.ref fa)->
   ∃fd:FuncData,(∀(s:Shared)(u:Value),BindsTo s fd ⟨[u],[]⟩ [(x,u)])/\
    ∀base:Heap,(K w.params).In base->base.Ns mainGlobals mg->W.CodeHd base c Pt->base.BuiltinsAt mg Pt->bT l.prog w (K w.params) mg base (CX w) k fa fd [x] (sp w))
  (hsp:∀(w:World)(H:Hp)(a:Addr)(ns:List Int),ns.length<=n->H Pt=some (.xg #[])->aX (K w.params) H a (ns.map V.int)->sp w [.ref a] H (λv _=>v = .bl true) λ_ _ _=>False)
  (hCX:∀(w:World)(H:Hp)(s:Shared)(e:Value)(s':Shared),CX w [] H s (λ_ _ _=>False) e s'->False) :
  W.WalkO q loose XP YP l.row.toRowW d [] (λf vs=>PySem.call f vs):=by
 refine Att.Jg hn hdf λw s₀ s₁ mg mb fa o pm cd doc a vs ns G Y ho hd hcd hmg hobj hints hlen hg=>?_;have KX:=hY w _ Y;obtain⟨fd,hb,hF⟩:=F w mg fa _ KX G.T.g hmg;obtain⟨hC,hPt⟩:=W.tab_of G.T KX hrec (htab w);have hKP:(K w.params).lookup Pt=none:=by
  cases e:(K w.params).lookup Pt with
  |none=>rfl
  |some ob=>
   have e1:=KX _ _ e;rw[hPt] at e1;cases e1;have h2:=qjC.mp (hnt w) _ (W.mem_of_lookupK e);exact absurd (show false=true from h2) qjq
 have hBA:s₁.heap.BuiltinsAt mg Pt:=by
  obtain⟨bm,ob,b1,b2,b3,b4,b5,b6⟩:=G.T.bmain;refine⟨bm,ob,b1,b2,λq=>?_,λq=>?_,b3,b4,b5,b6⟩
  ·obtain⟨o',es,ep,e,hd',_⟩:=G.T.g;rw[q,e] at b3;cases b3;rw[hd'] at b6;cases b6
  ·rw[q,hPt] at b3;cases b3;cases b4
 exact RX KX G.T.g G.T.b G.T.builtins G.T.nolimit hg hobj hints (qjx hlen hn2) hr hC hPt hKP hBA hF hb (λH hO hS=>hsp w H a ns hlen hO hS) λH e s'=>hCX w H s₁ e s'
theorem WW{K:W.Frag}{x:Str}{f c P:Addr}{oc oc':Value}{od od':Option Addr}{sl sl':Array (QAG)}{fd:FuncData}{vs:Array Value}(a:W.nsIn K mainGlobals x=some (some (.ref f)))(l:K.lookup f=some ⟨oc,od,.func fd,sl⟩)
  (e:fd.code = .ref c) (k:K.lookup c=some ⟨oc',od',.fields vs,sl'⟩) (v:vs[11]? = some (.ref P)):W.tabIn K x=some (c,P):=by
 unfold W.tabIn;rw[a];dsimp only;rw[l];dsimp only;rw[e];dsimp only;rw[k];dsimp only;rw[v]
end L2
namespace L2
open PySem PyProof.Rows
section
variable {prog:Program}{w:World}{A:Around}{E:QAB}{s:Shared}
theorem J0{st:SortSt}{x y:Keyed}{a b:Int}{t u:Tok}{Q:Option Bool->SortSt->Prop}(hk:kindOf st=oneType')(hx:x.1 = .int a t)(hy:y.1 = .int b u)(h:∀b,Q (some b) st) :
  wpS (model prog w) A E s (lt' x y) Q st:=by
 rw[lt'_eq];refine qi8 (wpS_get ?_);rw[hk,keyLt'_oneType,hx,hy];refine qi8 (wpS_lift (wpAny_attempt (oneLt_int ⟨rfl,?_⟩)));exact qi7 (h _)
theorem aQ{st:SortSt}{arr:Array Keyed}{i:Nat}{Q:Keyed->SortSt->Prop}(hi:i<arr.size)(h:Q arr[i] st):wpS (model prog w) A E s (elem' arr i) Q st:=by
 rw[elem'_eq,getElem?_pos arr i hi];exact qi7 h
def nA:Bool->Keyed->Array Keyed->Nat->Nat->Nat->StateT SortSt Sem (Option Nat):=sortPriv% PySem.Builtin.gallop
def byd(Nb:Bool)(key:Keyed)(arr:Array Keyed)(base i:Nat):StateT SortSt Sem (Option Bool):=do
 let x <- elem' arr (base+i)
 if Nb then lt' x key else return (<- lt' key x).map (!·)
def Z5(Nb:Bool)(key:Keyed)(arr:Array Keyed)(base n lo0 hi0:Nat):StateT SortSt Sem (Option Nat):=do
 let mut lo:=lo0
 let mut hi:=hi0
 for _ in [0:n] do
  if lo≥hi then break
  let m:=lo+(hi - lo) / 2
  let some more <- byd Nb key arr base m|return none
  if more then lo:=m+1 else hi:=m
 return some hi
theorem Nf(Nb:Bool)(key:Keyed)(arr:Array Keyed)(base n hint:Nat):nA Nb key arr base n hint=(do
 let mut lastofs:=0
 let mut ofs:=1
 let some rt0 <- byd Nb key arr base hint|return none
 if rt0 then
  let maxofs:=n - hint
  for _ in [0:n] do
   if ofs≥maxofs then break
   let some more <- byd Nb key arr base (hint+ofs)|return none
   if !more then break
   lastofs:=ofs
   ofs:=2 * ofs+1
  Z5 Nb key arr base n (hint+lastofs+1) (hint+min ofs maxofs)
 else
  let maxofs:=hint+1
  for _ in [0:n] do
   if ofs≥maxofs then break
   let some found <- byd Nb key arr base (hint - ofs)|return none
   if found then break
   lastofs:=ofs
   ofs:=2 * ofs+1
  Z5 Nb key arr base n (hint+1 - min ofs maxofs) (hint - lastofs)):=rfl
def IK(arr:Array Keyed):Prop:=∀p∈arr.toList,∃n t,p.1=Value.int n t
theorem IK.at{arr:Array Keyed}(h:IK arr){i:Nat}(hi:i<arr.size):∃n t,arr[i].1=Value.int n t:=h _ (by simp)
theorem cT{st:SortSt}{Nb:Bool}{key:Keyed}{arr:Array Keyed}{base n hint:Nat}{Q:Option Nat->SortSt->Prop}(hk:kindOf st=oneType')(hI:IK arr)(hkey:∃a t,key.1=Value.int a t)(hn:base+n<=arr.size)(hh:hint<n)(h:∀k,k<=n->Q (some k) st) :
  wpS (model prog w) A E s (nA Nb key arr base n hint) Q st:=by
 rw[Nf];obtain⟨ka,kt,hkey⟩:=hkey;have bey:∀{i:Nat}{Q:Option Bool->SortSt->Prop},i<n->(∀b,Q (some b) st)->wpS (model prog w) A E s (byd Nb key arr base i) Q st:=λ{i Q} hi hq=>by
  unfold byd;refine qi8 (aQ (show base+i<arr.size by omega) ?_);obtain⟨xa,xt,hx⟩:=hI.at (show base+i<arr.size by omega);cases Nb with
  |true=>exact J0 hk hx hkey hq
  |false=>exact qi8 (J0 hk hkey hx λb=>qi7 (hq _))
 have fin:∀lo hi:Nat,hi<=n->wpS (model prog w) A E s (Z5 Nb key arr base n lo hi) Q st:=by
  intro lo hi hhi;unfold Z5;dsimp only;refine qi8 (qkr (qjP (I:=λ_ (c:Option (Option Nat)×Nat×Nat) st'=>st'=st/\c.1=none/\c.2.2<=n) (Q:=λc st'=>st'=st/\c.1=none/\c.2.2<=n) ?_ (λ_ _ h=>h) ⟨rfl,rfl,hhi⟩) ?_)
  ·rintro i ⟨c0,lo,hi⟩ st' _ _ ⟨rfl,hc,hn'⟩;dsimp only at hc hn'⊢;subst hc
   by_cases hle:lo≥hi
   ·rw[if_pos hle];exact qi7 ⟨rfl,rfl,hn'⟩
   ·rw[if_neg hle];refine qi8 (bey (by omega) λb=>?_);cases b with
    |true=>exact qi7 ⟨rfl,rfl,hn'⟩
    |false=>exact qi7 ⟨rfl,rfl,by dsimp only;omega⟩
  ·rintro⟨c0,lo,hi⟩ st' ⟨rfl,hc,hn'⟩;dsimp only at hc hn'⊢;subst hc;exact qi7 (h _ hn')
 dsimp only;refine qi8 (bey hh λrt0=>?_);dsimp only;cases rt0 with
 |true=>
  simp only[qlj];refine qi8 (qkr (qjP (I:=λ_ (c:Option (Option Nat)×Nat×Nat) st'=>st'=st/\c.1=none) (Q:=λc st'=>st'=st/\c.1=none) ?_ (λ_ _ h=>h) ⟨rfl,rfl⟩) ?_)
  ·rintro i ⟨c0,la,of⟩ st' _ _ ⟨rfl,hc⟩;dsimp only at hc⊢;subst hc
   by_cases hle:of≥n - hint
   ·rw[if_pos hle];exact qi7 ⟨rfl,rfl⟩
   ·rw[if_neg hle];refine qi8 (bey (i:=hint+of) (by omega) λb=>?_);cases b with
    |true=>exact qi7 ⟨rfl,rfl⟩
    |false=>exact qi7 ⟨rfl,rfl⟩
  ·rintro⟨c0,la,of⟩ st' ⟨rfl,hc⟩;dsimp only at hc⊢;subst hc;exact fin _ _ (by omega)
 |false=>
  simp only[qkh,qkQ];refine qi8 (qkr (qjP (I:=λ_ (c:Option (Option Nat)×Nat×Nat) st'=>st'=st/\c.1=none) (Q:=λc st'=>st'=st/\c.1=none) ?_ (λ_ _ h=>h) ⟨rfl,rfl⟩) ?_)
  ·rintro i ⟨c0,la,of⟩ st' _ _ ⟨rfl,hc⟩;dsimp only at hc⊢;subst hc
   by_cases hle:of≥hint+1
   ·rw[if_pos hle];exact qi7 ⟨rfl,rfl⟩
   ·rw[if_neg hle];refine qi8 (bey (i:=hint - of) (by omega) λb=>?_);cases b with
    |true=>exact qi7 ⟨rfl,rfl⟩
    |false=>exact qi7 ⟨rfl,rfl⟩
  ·rintro⟨c0,la,of⟩ st' ⟨rfl,hc⟩;dsimp only at hc⊢;subst hc;exact fin _ _ (by omega)
end
section
variable {prog:Program}{w:World}{A:Around}{E:QAB}{s:Shared}
def gR:Nat->StateT SortSt Sem Unit:=sortPriv% PySem.Builtin.setMinGallop
abbrev xW(st:SortSt)(g:Nat):SortSt:=SortSt.mk' (kindOf st) (arrOf st) (pendingOf st) g (failedOf st)
theorem dj(g:Nat):gR g=modify λst=>xW st g:=rfl
def Ar:Array Keyed->Array Keyed->StateT SortSt Sem (Array Keyed):=sortPriv% PySem.Builtin.mergeLo
def mz(a b out:Array Keyed)(ia ib:Nat):Array Keyed:=out++a.extract ia a.size++b.extract ib b.size
def xX(a b out:Array Keyed)(ia ib:Nat):Array Keyed:=out++b.extract ib b.size++a.extract ia a.size
theorem J3(a b:Array Keyed):Ar a b=(do
 rule "list.sort.merge-lo"
 let total:=a.size+b.size
 let mut out:Array Keyed:=#[<- elem' b 0]
 let mut ia:=0
 let mut ib:=1
 if ib == b.size then return mz a b out ia ib
 if ia+1 == a.size then return xX a b out ia ib
 let mut minGallop:=gallopOf (<- get)
 for _ in [0:total] do
  let mut acount:=0
  let mut bcount:=0
  for _ in [0:total] do
   let some bWins <- lt' (<- elem' b ib) (<- elem' a ia)|return mz a b out ia ib
   if bWins then
    out:=out.push (<- elem' b ib);ib:=ib+1;bcount:=bcount+1;acount:=0
    if ib == b.size then return mz a b out ia ib
    if bcount≥minGallop then break
   else
    out:=out.push (<- elem' a ia);ia:=ia+1;acount:=acount+1;bcount:=0
    if ia+1 == a.size then return xX a b out ia ib
    if acount≥minGallop then break
  rule "list.sort.gallop"
  minGallop:=minGallop+1
  for _ in [0:total] do
   if minGallop > 1 then minGallop:=minGallop - 1
   gR minGallop
   let some k <- nA false (<- elem' b ib) a ia (a.size - ia) 0|return mz a b out ia ib
   acount:=k
   if k > 0 then
    out:=out++a.extract ia (ia+k);ia:=ia+k
    if ia+1 == a.size then return xX a b out ia ib
    if ia == a.size then return mz a b out ia ib
   out:=out.push (<- elem' b ib);ib:=ib+1
   if ib == b.size then return mz a b out ia ib
   let some k <- nA true (<- elem' a ia) b ib (b.size - ib) 0|return mz a b out ia ib
   bcount:=k
   if k > 0 then
    out:=out++b.extract ib (ib+k);ib:=ib+k
    if ib == b.size then return mz a b out ia ib
   out:=out.push (<- elem' a ia);ia:=ia+1
   if ia+1 == a.size then return xX a b out ia ib
   if acount<7 && bcount<7 then break
  minGallop:=minGallop+1
  gR minGallop
 unsupported "internal:list.sort.merge-bound"):=rfl
def gU(st st':SortSt):Prop:=kindOf st'=kindOf st/\arrOf st'=arrOf st/\pendingOf st'=pendingOf st/\failedOf st'=failedOf st
theorem gU.refl(st:SortSt):gU st st:=⟨rfl,rfl,rfl,rfl⟩
theorem gU.set{st st':SortSt}(h:gU st st')(g:Nat):gU st (xW st' g):=h
def MP(a b out:Array Keyed)(ia ib:Nat):Prop:=out.toList.Perm (a.toList.take ia++b.toList.take ib)
theorem MP.b{a b out:Array Keyed}{ia ib:Nat}(h:MP a b out ia ib)(hi:ib<b.size):MP a b (out.push b[ib]) ia (ib+1):=by
 unfold MP at h⊢;rw[qlb,List.take_succ,<- qjs];have:b.toList[ib]?.toList=[b[ib]]:=by rw[qjh (by simpa using hi)];simp
 rw[this];exact h.append_right _
theorem MP.a{a b out:Array Keyed}{ia ib:Nat}(h:MP a b out ia ib)(hi:ia<a.size):MP a b (out.push a[ia]) (ia+1) ib:=by
 unfold MP at h⊢;rw[qlb,List.take_succ];have:a.toList[ia]?.toList=[a[ia]]:=by rw[qjh (by simpa using hi)];simp
 rw[this,qjs];refine(h.append_right _).trans ?_;rw[qjs];exact qkb _ qj3
theorem Fd{l:List Keyed}(i k:Nat):l.take (i+k)=l.take i++(l.drop i).take k:=by rw[List.take_add]
theorem MP.as{a b out:Array Keyed}{ia ib:Nat}(h:MP a b out ia ib)(k:Nat):MP a b (out++a.extract ia (ia+k)) (ia+k) ib:=by
 unfold MP at h⊢;rw[qj5,qjS,Fd,qjE,Nat.add_sub_cancel_left,qjs];refine(h.append_right _).trans ?_;rw[qjs];exact qkb _ qj3
theorem MP.bs{a b out:Array Keyed}{ia ib:Nat}(h:MP a b out ia ib)(k:Nat):MP a b (out++b.extract ib (ib+k)) ia (ib+k):=by
 unfold MP at h⊢;rw[qj5,qjS,Fd,qjE,Nat.add_sub_cancel_left,<- qjs];exact h.append_right _
theorem MP.done{a b out:Array Keyed}{ia ib:Nat}(h:MP a b out ia ib):(mz a b out ia ib).toList.Perm (a.toList++b.toList):=by
 have e1:a.toList=a.toList.take ia++a.toList.drop ia:=(qjT _ _).symm;have e2:b.toList=b.toList.take ib++b.toList.drop ib:=(qjT _ _).symm;unfold mz;rw[qj5,qj5,qjS,qjS,qjE,qjE];rw[qkZ (by simp),qkZ (by simp)]
 conv=>rhs;rw[e1,e2]
 unfold MP at h;refine((h.append_right _).append_right _).trans ?_;rw[qjs,qjs,qjs];refine qkb _ ?_;rw[<- qjs,<- qjs];exact qj3.append_right _
theorem MP.last{a b out:Array Keyed}{ia ib:Nat}(h:MP a b out ia ib):(xX a b out ia ib).toList.Perm (a.toList++b.toList):=by
 refine List.Perm.trans ?_ h.done;unfold xX mz;simp only[qj5,qjs];exact qkb _ qj3
theorem MP.size{a b out:Array Keyed}{ia ib:Nat}(h:MP a b out ia ib)(ha:ia<=a.size)(hb:ib<=b.size):out.size=ia+ib:=by
 have:=h.length_eq;simp at this;omega
structure Mid(a b out:Array Keyed)(ia ib:Nat):Prop where
 p:MP a b out ia ib
 a1:ia+1<a.size
 b1:ib<b.size
theorem Ng{st:SortSt}{a b:Array Keyed}{Q:Array Keyed->SortSt->Prop}(hk:kindOf st=oneType')(hA:IK a)(hB:IK b)(ha:0<a.size)(hb:0<b.size)(h:∀out st',gU st st'->out.toList.Perm (a.toList++b.toList)->Q out st') :
  wpS (model prog w) A E s (Ar a b) Q st:=by
 rw[J3];refine qi8 (wpS_lift (qle ⟨rfl,?_⟩));refine qi8 (aQ hb ?_);have h0:MP a b #[b[0]] 0 1:=by
  have:=MP.b (a:=a) (b:=b) (out:=#[]) (ia:=0) (ib:=0) (List.Perm.refl _) hb;exact this
 dsimp only
 by_cases hb1:(1 == b.size)=true
 ·rw[if_pos hb1];exact qi7 (h _ _ (gU.refl _) h0.done)
 rw[if_neg hb1]
 by_cases ha1:(0+1 == a.size)=true
 ·rw[if_pos ha1];exact qi7 (h _ _ (gU.refl _) h0.last)
 rw[if_neg ha1];have m0:Mid a b #[b[0]] 0 1:=⟨h0,by simp at ha1;omega,by simp at hb1;omega⟩;refine qi8 (wpS_get ?_);refine qi8 (qkr (qjP (I:=λi (c:Option (Array Keyed)×Array Keyed×Nat×Nat×Nat) st'=>c.1=none/\Mid a b c.2.1 c.2.2.1 c.2.2.2.1/\gU st st'/\i+1<=c.2.1.size)
  (Q:=λc st'=>gU st st'/\∃r,c.1=some r/\r.toList.Perm (a.toList++b.toList)) ?_ ?_ ⟨rfl,m0,gU.refl _,qjb _⟩) ?_)
 ·rintro i ⟨c0,Ht,ia0,ib0,mg⟩ st1 _ hi ⟨hc,m1,g1,p1⟩;dsimp only at hc m1 p1⊢;subst hc;refine qi8 (qkr (qjP (I:=λj (c:Option (Array Keyed)×Array Keyed×Nat×Nat×Nat×Nat) st'=>c.1=none/\Mid a b c.2.1 c.2.2.1 c.2.2.2.1/\st'=st1/\Ht.size+j<=c.2.1.size)
   (Q:=λc st'=>st'=st1/\((∃r,c.1=some r/\r.toList.Perm (a.toList++b.toList))\/(c.1=none/\Mid a b c.2.1 c.2.2.1 c.2.2.2.1/\Ht.size+1<=c.2.1.size))) ?_ ?_ ⟨rfl,m1,rfl,qjb _⟩) ?_)
  ·rintro j ⟨c0,out,ia,ib,ac,bc⟩ st2 _ hj ⟨hc,m2,rfl,p2⟩;dsimp only at hc m2 p2⊢;subst hc;refine qi8 (aQ m2.b1 (qi8 (aQ (by have:=m2.a1;omega) ?_)));obtain⟨x,xt,hx⟩:=hB.at m2.b1;obtain⟨y,yt,hy⟩:=hA.at (show ia<a.size by have:=m2.a1;omega);refine qi8 (J0 (g1.1.trans hk) hx hy λbw=>?_);cases bw with
   |true=>
    simp only[qlj];refine qi8 (aQ m2.b1 ?_);have m3:=m2.p.b m2.b1
    by_cases hb2:(ib+1 == b.size)=true
    ·rw[if_pos hb2];exact qi7 ⟨rfl,.inl ⟨_,rfl,m3.done⟩⟩
    ·rw[if_neg hb2];have m4:Mid a b (out.push (b[ib]'m2.b1)) ia (ib+1):=⟨m3,m2.a1,by have:=m2.b1;simp at hb2;omega⟩;split
     ·exact qi7 ⟨rfl,.inr ⟨rfl,m4,by simp;omega⟩⟩
     ·exact qi7 ⟨rfl,m4,rfl,by simp;omega⟩
   |false=>
    simp only[qkh,qkQ];refine qi8 (aQ (by have:=m2.a1;omega) ?_);have m3:=m2.p.a (show ia<a.size by have:=m2.a1;omega)
    by_cases ha2:(ia+1+1 == a.size)=true
    ·rw[if_pos ha2];exact qi7 ⟨rfl,.inl ⟨_,rfl,m3.last⟩⟩
    ·rw[if_neg ha2];have m4:Mid a b (out.push (a[ia]'(by have:=m2.a1;omega))) (ia+1) ib:=⟨m3,by have:=m2.a1;simp at ha2;omega,m2.b1⟩;split
     ·exact qi7 ⟨rfl,.inr ⟨rfl,m4,by simp;omega⟩⟩
     ·exact qi7 ⟨rfl,m4,rfl,by simp;omega⟩
  ·rintro⟨c0,out,ia,ib,ac,bc⟩ st2 ⟨hc,m2,rfl,p2⟩;dsimp only at hc m2 p2⊢;exact⟨rfl,.inr ⟨hc,m2,by omega⟩⟩
  ·rintro⟨c0,out,ia,ib,ac,bc⟩ st2 ⟨rfl,⟨r,hc,hr⟩|⟨hc,m2,p2⟩⟩
   ·dsimp only at hc⊢;subst hc;exact qi7 ⟨g1,r,rfl,hr⟩
   ·dsimp only at hc m2 p2⊢;subst hc;dsimp only;refine qi8 (wpS_lift (qle ⟨rfl,?_⟩));refine qi8 (qkr (qjP (I:=λj (c:Option (Array Keyed)×Array Keyed×Nat×Nat×Nat×Nat×Nat) st'=>c.1=none/\Mid a b c.2.1 c.2.2.1 c.2.2.2.1/\gU st st'/\out.size<=c.2.1.size)
     (Q:=λc st'=>gU st st'/\((∃r,c.1=some r/\r.toList.Perm (a.toList++b.toList))\/(c.1=none/\Mid a b c.2.1 c.2.2.1 c.2.2.2.1/\out.size<=c.2.1.size))) ?_ ?_ ⟨rfl,m2,g1,qjb _⟩) ?_)
    ·rintro j ⟨c0,dH,ia,ib,mg,ac,bc⟩ st3 _ hj ⟨hc,m3,g3,p3⟩;dsimp only at hc m3 p3⊢;subst hc;have a1:=m3.a1;have b1:=m3.b1
     by_cases hmg:mg > 1
     ·rw[if_pos hmg];rw[dj];refine qi8 (qkv ?_);have g4:=g3.set (mg - 1);generalize xW st3 (mg - 1)=MJ at g4⊢;have JG:=g4.1.trans hk;refine qi8 (aQ b1 (qi8 (cT JG hA (hB.at b1) (by omega) (by omega) λk hkn=>?_)));dsimp only
      by_cases h2:k > 0
      ·rw[if_pos h2];have q6:=m3.p.as k
       by_cases h3:(ia+k+1 == a.size)=true
       ·rw[if_pos h3];exact qi7 ⟨g4,.inl ⟨_,rfl,q6.last⟩⟩
       ·rw[if_neg h3]
        by_cases h4:(ia+k == a.size)=true
        ·rw[if_pos h4];exact qi7 ⟨g4,.inl ⟨_,rfl,q6.done⟩⟩
        ·rw[if_neg h4];have q1':=q6;have q2':ia+k+1<a.size:=by simp at h3 h4;omega
         have q4':out.size<=(dH++a.extract ia (ia+k)).size:=by simp;omega
         refine qi8 (aQ b1 ?_);have q5:=q1'.b b1
         by_cases h1:(ib+1 == b.size)=true
         ·rw[if_pos h1];exact qi7 ⟨g4,.inl ⟨_,rfl,q5.done⟩⟩
         ·rw[if_neg h1];have b2:ib+1<b.size:=by simp at h1;omega
          refine qi8 (aQ (by omega) (qi8 (cT JG hB (hA.at (by omega)) (by omega) (by omega) λk' hkn'=>?_)));dsimp only
          by_cases h2:k' > 0
          ·rw[if_pos h2];have q6:=q5.bs k'
           by_cases h3:(ib+1+k' == b.size)=true
           ·rw[if_pos h3];exact qi7 ⟨g4,.inl ⟨_,rfl,q6.done⟩⟩
           ·rw[if_neg h3];have r1:=q6;have r3:ib+1+k'<b.size:=by simp at h3;omega
            have r4:out.size<=((dH++a.extract ia (ia+k)).push (b[ib]'b1)++b.extract (ib+1) (ib+1+k')).size:=by simp;omega
            refine qi8 (aQ (show ia+k<a.size by omega) ?_);have r5:=r1.a (show ia+k<a.size by omega)
            by_cases g1:(ia+k+1+1 == a.size)=true
            ·rw[if_pos g1];exact qi7 ⟨g4,.inl ⟨_,rfl,r5.last⟩⟩
            ·rw[if_neg g1];have m4:Mid a b (((dH++a.extract ia (ia+k)).push (b[ib]'b1)++b.extract (ib+1) (ib+1+k')).push (a[ia+k]'(show ia+k<a.size by omega))) (ia+k+1) (ib+1+k'):=⟨r5,by simp at g1;omega,r3⟩
             by_cases g2:(decide (k<7) && decide (k'<7))=true
             ·rw[if_pos g2];exact qi7 ⟨g4,.inr ⟨rfl,m4,by rw[qjc];omega⟩⟩
             ·rw[if_neg g2];exact qi7 ⟨rfl,m4,g4,by rw[qjc];omega⟩
          ·rw[if_neg h2];have r1:=q5;have r3:ib+1<b.size:=b2;have r4:out.size<=((dH++a.extract ia (ia+k)).push (b[ib]'b1)).size:=by simp;omega
           refine qi8 (aQ (show ia+k<a.size by omega) ?_);have r5:=r1.a (show ia+k<a.size by omega)
           by_cases g1:(ia+k+1+1 == a.size)=true
           ·rw[if_pos g1];exact qi7 ⟨g4,.inl ⟨_,rfl,r5.last⟩⟩
           ·rw[if_neg g1];have m4:Mid a b (((dH++a.extract ia (ia+k)).push (b[ib]'b1)).push (a[ia+k]'(show ia+k<a.size by omega))) (ia+k+1) (ib+1):=⟨r5,by simp at g1;omega,r3⟩
            by_cases g2:(decide (k<7) && decide (k'<7))=true
            ·rw[if_pos g2];exact qi7 ⟨g4,.inr ⟨rfl,m4,by rw[qjc];omega⟩⟩
            ·rw[if_neg g2];exact qi7 ⟨rfl,m4,g4,by rw[qjc];omega⟩
      ·rw[if_neg h2];have q1':=m3.p;have q2':ia+1<a.size:=a1;have q4':out.size<=(dH).size:=p3;refine qi8 (aQ b1 ?_);have q5:=q1'.b b1
       by_cases h1:(ib+1 == b.size)=true
       ·rw[if_pos h1];exact qi7 ⟨g4,.inl ⟨_,rfl,q5.done⟩⟩
       ·rw[if_neg h1];have b2:ib+1<b.size:=by simp at h1;omega
        refine qi8 (aQ (by omega) (qi8 (cT JG hB (hA.at (by omega)) (by omega) (by omega) λk' hkn'=>?_)));dsimp only
        by_cases h2:k' > 0
        ·rw[if_pos h2];have q6:=q5.bs k'
         by_cases h3:(ib+1+k' == b.size)=true
         ·rw[if_pos h3];exact qi7 ⟨g4,.inl ⟨_,rfl,q6.done⟩⟩
         ·rw[if_neg h3];have r1:=q6;have r3:ib+1+k'<b.size:=by simp at h3;omega
          have r4:out.size<=((dH).push (b[ib]'b1)++b.extract (ib+1) (ib+1+k')).size:=by simp;omega
          refine qi8 (aQ (show ia<a.size by omega) ?_);have r5:=r1.a (show ia<a.size by omega)
          by_cases g1:(ia+1+1 == a.size)=true
          ·rw[if_pos g1];exact qi7 ⟨g4,.inl ⟨_,rfl,r5.last⟩⟩
          ·rw[if_neg g1];have m4:Mid a b (((dH).push (b[ib]'b1)++b.extract (ib+1) (ib+1+k')).push (a[ia]'(show ia<a.size by omega))) (ia+1) (ib+1+k'):=⟨r5,by simp at g1;omega,r3⟩
           by_cases g2:(decide (k<7) && decide (k'<7))=true
           ·rw[if_pos g2];exact qi7 ⟨g4,.inr ⟨rfl,m4,by rw[qjc];omega⟩⟩
           ·rw[if_neg g2];exact qi7 ⟨rfl,m4,g4,by rw[qjc];omega⟩
        ·rw[if_neg h2];have r1:=q5;have r3:ib+1<b.size:=b2;have r4:out.size<=((dH).push (b[ib]'b1)).size:=by simp;omega
         refine qi8 (aQ (show ia<a.size by omega) ?_);have r5:=r1.a (show ia<a.size by omega)
         by_cases g1:(ia+1+1 == a.size)=true
         ·rw[if_pos g1];exact qi7 ⟨g4,.inl ⟨_,rfl,r5.last⟩⟩
         ·rw[if_neg g1];have m4:Mid a b (((dH).push (b[ib]'b1)).push (a[ia]'(show ia<a.size by omega))) (ia+1) (ib+1):=⟨r5,by simp at g1;omega,r3⟩
          by_cases g2:(decide (k<7) && decide (k'<7))=true
          ·rw[if_pos g2];exact qi7 ⟨g4,.inr ⟨rfl,m4,by rw[qjc];omega⟩⟩
          ·rw[if_neg g2];exact qi7 ⟨rfl,m4,g4,by rw[qjc];omega⟩
     ·rw[if_neg hmg];rw[dj];refine qi8 (qkv ?_);have g4:=g3.set mg;generalize xW st3 mg=MJ at g4⊢;have JG:=g4.1.trans hk;refine qi8 (aQ b1 (qi8 (cT JG hA (hB.at b1) (by omega) (by omega) λk hkn=>?_)));dsimp only
      by_cases h2:k > 0
      ·rw[if_pos h2];have q6:=m3.p.as k
       by_cases h3:(ia+k+1 == a.size)=true
       ·rw[if_pos h3];exact qi7 ⟨g4,.inl ⟨_,rfl,q6.last⟩⟩
       ·rw[if_neg h3]
        by_cases h4:(ia+k == a.size)=true
        ·rw[if_pos h4];exact qi7 ⟨g4,.inl ⟨_,rfl,q6.done⟩⟩
        ·rw[if_neg h4];have q1':=q6;have q2':ia+k+1<a.size:=by simp at h3 h4;omega
         have q4':out.size<=(dH++a.extract ia (ia+k)).size:=by simp;omega
         refine qi8 (aQ b1 ?_);have q5:=q1'.b b1
         by_cases h1:(ib+1 == b.size)=true
         ·rw[if_pos h1];exact qi7 ⟨g4,.inl ⟨_,rfl,q5.done⟩⟩
         ·rw[if_neg h1];have b2:ib+1<b.size:=by simp at h1;omega
          refine qi8 (aQ (by omega) (qi8 (cT JG hB (hA.at (by omega)) (by omega) (by omega) λk' hkn'=>?_)));dsimp only
          by_cases h2:k' > 0
          ·rw[if_pos h2];have q6:=q5.bs k'
           by_cases h3:(ib+1+k' == b.size)=true
           ·rw[if_pos h3];exact qi7 ⟨g4,.inl ⟨_,rfl,q6.done⟩⟩
           ·rw[if_neg h3];have r1:=q6;have r3:ib+1+k'<b.size:=by simp at h3;omega
            have r4:out.size<=((dH++a.extract ia (ia+k)).push (b[ib]'b1)++b.extract (ib+1) (ib+1+k')).size:=by simp;omega
            refine qi8 (aQ (show ia+k<a.size by omega) ?_);have r5:=r1.a (show ia+k<a.size by omega)
            by_cases g1:(ia+k+1+1 == a.size)=true
            ·rw[if_pos g1];exact qi7 ⟨g4,.inl ⟨_,rfl,r5.last⟩⟩
            ·rw[if_neg g1];have m4:Mid a b (((dH++a.extract ia (ia+k)).push (b[ib]'b1)++b.extract (ib+1) (ib+1+k')).push (a[ia+k]'(show ia+k<a.size by omega))) (ia+k+1) (ib+1+k'):=⟨r5,by simp at g1;omega,r3⟩
             by_cases g2:(decide (k<7) && decide (k'<7))=true
             ·rw[if_pos g2];exact qi7 ⟨g4,.inr ⟨rfl,m4,by rw[qjc];omega⟩⟩
             ·rw[if_neg g2];exact qi7 ⟨rfl,m4,g4,by rw[qjc];omega⟩
          ·rw[if_neg h2];have r1:=q5;have r3:ib+1<b.size:=b2;have r4:out.size<=((dH++a.extract ia (ia+k)).push (b[ib]'b1)).size:=by simp;omega
           refine qi8 (aQ (show ia+k<a.size by omega) ?_);have r5:=r1.a (show ia+k<a.size by omega)
           by_cases g1:(ia+k+1+1 == a.size)=true
           ·rw[if_pos g1];exact qi7 ⟨g4,.inl ⟨_,rfl,r5.last⟩⟩
           ·rw[if_neg g1];have m4:Mid a b (((dH++a.extract ia (ia+k)).push (b[ib]'b1)).push (a[ia+k]'(show ia+k<a.size by omega))) (ia+k+1) (ib+1):=⟨r5,by simp at g1;omega,r3⟩
            by_cases g2:(decide (k<7) && decide (k'<7))=true
            ·rw[if_pos g2];exact qi7 ⟨g4,.inr ⟨rfl,m4,by rw[qjc];omega⟩⟩
            ·rw[if_neg g2];exact qi7 ⟨rfl,m4,g4,by rw[qjc];omega⟩
      ·rw[if_neg h2];have q1':=m3.p;have q2':ia+1<a.size:=a1;have q4':out.size<=(dH).size:=p3;refine qi8 (aQ b1 ?_);have q5:=q1'.b b1
       by_cases h1:(ib+1 == b.size)=true
       ·rw[if_pos h1];exact qi7 ⟨g4,.inl ⟨_,rfl,q5.done⟩⟩
       ·rw[if_neg h1];have b2:ib+1<b.size:=by simp at h1;omega
        refine qi8 (aQ (by omega) (qi8 (cT JG hB (hA.at (by omega)) (by omega) (by omega) λk' hkn'=>?_)));dsimp only
        by_cases h2:k' > 0
        ·rw[if_pos h2];have q6:=q5.bs k'
         by_cases h3:(ib+1+k' == b.size)=true
         ·rw[if_pos h3];exact qi7 ⟨g4,.inl ⟨_,rfl,q6.done⟩⟩
         ·rw[if_neg h3];have r1:=q6;have r3:ib+1+k'<b.size:=by simp at h3;omega
          have r4:out.size<=((dH).push (b[ib]'b1)++b.extract (ib+1) (ib+1+k')).size:=by simp;omega
          refine qi8 (aQ (show ia<a.size by omega) ?_);have r5:=r1.a (show ia<a.size by omega)
          by_cases g1:(ia+1+1 == a.size)=true
          ·rw[if_pos g1];exact qi7 ⟨g4,.inl ⟨_,rfl,r5.last⟩⟩
          ·rw[if_neg g1];have m4:Mid a b (((dH).push (b[ib]'b1)++b.extract (ib+1) (ib+1+k')).push (a[ia]'(show ia<a.size by omega))) (ia+1) (ib+1+k'):=⟨r5,by simp at g1;omega,r3⟩
           by_cases g2:(decide (k<7) && decide (k'<7))=true
           ·rw[if_pos g2];exact qi7 ⟨g4,.inr ⟨rfl,m4,by rw[qjc];omega⟩⟩
           ·rw[if_neg g2];exact qi7 ⟨rfl,m4,g4,by rw[qjc];omega⟩
        ·rw[if_neg h2];have r1:=q5;have r3:ib+1<b.size:=b2;have r4:out.size<=((dH).push (b[ib]'b1)).size:=by simp;omega
         refine qi8 (aQ (show ia<a.size by omega) ?_);have r5:=r1.a (show ia<a.size by omega)
         by_cases g1:(ia+1+1 == a.size)=true
         ·rw[if_pos g1];exact qi7 ⟨g4,.inl ⟨_,rfl,r5.last⟩⟩
         ·rw[if_neg g1];have m4:Mid a b (((dH).push (b[ib]'b1)).push (a[ia]'(show ia<a.size by omega))) (ia+1) (ib+1):=⟨r5,by simp at g1;omega,r3⟩
          by_cases g2:(decide (k<7) && decide (k'<7))=true
          ·rw[if_pos g2];exact qi7 ⟨g4,.inr ⟨rfl,m4,by rw[qjc];omega⟩⟩
          ·rw[if_neg g2];exact qi7 ⟨rfl,m4,g4,by rw[qjc];omega⟩
    ·rintro⟨c0,dH,ia,ib,mg,ac,bc⟩ st3 ⟨hc,m3,g3,p3⟩;exact⟨g3,.inr ⟨hc,m3,p3⟩⟩
    ·rintro⟨c0,dH,ia,ib,mg,ac,bc⟩ st3 ⟨g3,⟨r,hc,hr⟩|⟨hc,m3,p3⟩⟩
     ·dsimp only at hc⊢;subst hc;exact qi7 ⟨g3,r,rfl,hr⟩
     ·dsimp only at hc m3 p3⊢;subst hc;dsimp only;rw[dj];exact qi8 (qkv (qi7 ⟨rfl,m3,g3.set _,by dsimp only;omega⟩))
 ·rintro⟨c0,Ht,ia0,ib0,mg⟩ st1 ⟨hc,m1,g1,p1⟩;dsimp only at hc m1 p1⊢;have:=m1.p.size (by have:=m1.a1;omega) (by have:=m1.b1;omega);have h1:=m1.a1;have h2:=m1.b1;omega
 ·rintro⟨c0,Ht,ia0,ib0,mg⟩ st1 ⟨g1,r,hc,hr⟩;dsimp only at hc⊢;subst hc;exact qi7 (h _ _ g1 hr)
end
section
variable {prog:Program}{w:World}{A:Around}{E:QAB}{s:Shared}
def Av:Array Keyed->Array Keyed->StateT SortSt Sem (Array Keyed):=sortPriv% PySem.Builtin.mergeHi
def mC(a b out:Array Keyed)(na nb:Nat):Array Keyed:=a.extract 0 na++b.extract 0 nb++out.reverse
def tX(a b out:Array Keyed)(na nb:Nat):Array Keyed:=b.extract 0 nb++a.extract 0 na++out.reverse
theorem J4(a b:Array Keyed):Av a b=(do
 rule "list.sort.merge-hi"
 let total:=a.size+b.size
 let mut na:=a.size - 1
 let mut nb:=b.size
 let mut out:Array Keyed:=#[<- elem' a na]
 if na == 0 then return mC a b out na nb
 if nb == 1 then return tX a b out na nb
 let mut minGallop:=gallopOf (<- get)
 for _ in [0:total] do
  let mut acount:=0
  let mut bcount:=0
  for _ in [0:total] do
   let some aWins <- lt' (<- elem' b (nb - 1)) (<- elem' a (na - 1))|return mC a b out na nb
   if aWins then
    na:=na - 1;out:=out.push (<- elem' a na);acount:=acount+1;bcount:=0
    if na == 0 then return mC a b out na nb
    if acount≥minGallop then break
   else
    nb:=nb - 1;out:=out.push (<- elem' b nb);bcount:=bcount+1;acount:=0
    if nb == 1 then return tX a b out na nb
    if bcount≥minGallop then break
  rule "list.sort.gallop"
  minGallop:=minGallop+1
  for _ in [0:total] do
   if minGallop > 1 then minGallop:=minGallop - 1
   gR minGallop
   let some at_ <- nA false (<- elem' b (nb - 1)) a 0 na (na - 1)|return mC a b out na nb
   let k:=na - at_
   acount:=k
   if k > 0 then
    out:=out++(a.extract at_ na).reverse;na:=at_
    if na == 0 then return mC a b out na nb
   nb:=nb - 1;out:=out.push (<- elem' b nb)
   if nb == 1 then return tX a b out na nb
   let some at_ <- nA true (<- elem' a (na - 1)) b 0 nb (nb - 1)|return mC a b out na nb
   let k:=nb - at_
   bcount:=k
   if k > 0 then
    out:=out++(b.extract at_ nb).reverse;nb:=at_
    if nb == 1 then return tX a b out na nb
    if nb == 0 then return mC a b out na nb
   na:=na - 1;out:=out.push (<- elem' a na)
   if na == 0 then return mC a b out na nb
   if acount<7 && bcount<7 then break
  minGallop:=minGallop+1
  gR minGallop
 unsupported "internal:list.sort.merge-bound"):=rfl
def HP(a b out:Array Keyed)(na nb:Nat):Prop:=out.toList.Perm (a.toList.drop na++b.toList.drop nb)
theorem drop_one{l:List Keyed}{i:Nat}(h:i<l.length):l.drop i=l[i]::l.drop (i+1):=List.drop_eq_getElem_cons h
theorem HP.b{a b out:Array Keyed}{na nb:Nat}(h:HP a b out na nb)(h0:0<nb)(hi:nb<=b.size):HP a b (out.push (b[nb - 1]'(by omega))) na (nb - 1):=by
 unfold HP at h⊢;rw[qlb,drop_one (l:=b.toList) (i:=nb - 1) (by simp;omega),show nb - 1+1=nb by omega];refine(h.append_right _).trans ?_;rw[qjs];refine qkb _ ?_;simp only[Array.getElem_toList];exact qj3
theorem HP.a{a b out:Array Keyed}{na nb:Nat}(h:HP a b out na nb)(h0:0<na)(hi:na<=a.size):HP a b (out.push (a[na - 1]'(by omega))) (na - 1) nb:=by
 unfold HP at h⊢;rw[qlb,drop_one (l:=a.toList) (i:=na - 1) (by simp;omega),show na - 1+1=na by omega];refine(h.append_right _).trans ?_;simp only[Array.getElem_toList,qk2];exact qj3
theorem J5{l:List Keyed}{i n:Nat}(h:i<=n):l.drop i=(l.drop i).take (n - i)++l.drop n:=by
 have:=(qjT (n - i) (l.drop i)).symm;rw[List.drop_drop,show i+(n - i)=n by omega] at this;exact this
theorem HP.as{a b out:Array Keyed}{na nb:Nat}(h:HP a b out na nb){k:Nat}(hk:k<=na):HP a b (out++(a.extract k na).reverse) k nb:=by
 unfold HP at h⊢;rw[qj5,Array.toList_reverse,qjS,qjE];have e:=J5 (l:=a.toList) hk;generalize (a.toList.drop k).take (na - k)=X at e⊢;rw[e];refine((h.append_right _).trans qj3).trans ?_;rw[qjs];exact(List.reverse_perm _).append_right _
theorem HP.bs{a b out:Array Keyed}{na nb:Nat}(h:HP a b out na nb){k:Nat}(hk:k<=nb):HP a b (out++(b.extract k nb).reverse) na k:=by
 unfold HP at h⊢;rw[qj5,Array.toList_reverse,qjS,qjE];have e:=J5 (l:=b.toList) hk;generalize (b.toList.drop k).take (nb - k)=X at e⊢;rw[e];refine(h.append_right _).trans ?_;rw[qjs];refine qkb _ (qj3.trans ?_);exact(List.reverse_perm _).append_right _
theorem HP.done{a b out:Array Keyed}{na nb:Nat}(h:HP a b out na nb):(mC a b out na nb).toList.Perm (a.toList++b.toList):=by
 have e1:a.toList=a.toList.take na++a.toList.drop na:=(qjT _ _).symm;have e2:b.toList=b.toList.take nb++b.toList.drop nb:=(qjT _ _).symm;unfold mC;rw[qj5,qj5,qjS,qjS,qjE,qjE,Array.toList_reverse];simp only[List.drop_zero,Nat.sub_zero]
 conv=>rhs;rw[e1,e2]
 unfold HP at h;rw[qjs,qjs];refine qkb _ ?_;refine(qkb _ ((List.reverse_perm _).trans h)).trans ?_;rw[<- qjs,<- qjs];exact qj3.append_right _
theorem HP.first{a b out:Array Keyed}{na nb:Nat}(h:HP a b out na nb):(tX a b out na nb).toList.Perm (a.toList++b.toList):=by
 refine List.Perm.trans ?_ h.done;unfold tX mC;simp only[qj5];exact qj3.append_right _
theorem HP.size{a b out:Array Keyed}{na nb:Nat}(h:HP a b out na nb):out.size=(a.size - na)+(b.size - nb):=by
 have:=h.length_eq;simp at this;exact this
structure uq(a b out:Array Keyed)(na nb:Nat):Prop where
 p:HP a b out na nb
 a0:0<na
 a1:na<=a.size
 b0:1<nb
 b1:nb<=b.size
theorem Nh{st:SortSt}{a b:Array Keyed}{Q:Array Keyed->SortSt->Prop}(hk:kindOf st=oneType')(hA:IK a)(hB:IK b)(ha:0<a.size)(hb:0<b.size)(h:∀out st',gU st st'->out.toList.Perm (a.toList++b.toList)->Q out st') :
  wpS (model prog w) A E s (Av a b) Q st:=by
 rw[J4];refine qi8 (wpS_lift (qle ⟨rfl,?_⟩));refine qi8 (aQ (show a.size - 1<a.size by omega) ?_);have h0:HP a b #[a[a.size - 1]'(by omega)] (a.size - 1) b.size:=by
  have:=HP.a (a:=a) (b:=b) (out:=#[]) (na:=a.size) (nb:=b.size) (by unfold HP;simp[List.drop_of_length_le]) ha (qjb _);exact this
 dsimp only
 by_cases ha1:(a.size - 1 == 0)=true
 ·rw[if_pos ha1];exact qi7 (h _ _ (gU.refl _) h0.done)
 rw[if_neg ha1]
 by_cases hb1:(b.size == 1)=true
 ·rw[if_pos hb1];exact qi7 (h _ _ (gU.refl _) h0.first)
 rw[if_neg hb1];have m0:uq a b #[a[a.size - 1]'(by omega)] (a.size - 1) b.size:=⟨h0,by simp at ha1;omega,by omega,by simp at hb1;omega,qjb _⟩;refine qi8 (wpS_get ?_);refine qi8 (qkr (qjP (I:=λi (c:Option (Array Keyed)×Nat×Nat×Array Keyed×Nat) st'=>c.1=none/\uq a b c.2.2.2.1 c.2.1 c.2.2.1/\gU st st'/\i+1<=(c.2.2.2.1).size)
  (Q:=λc st'=>gU st st'/\∃r,c.1=some r/\r.toList.Perm (a.toList++b.toList)) ?_ ?_ ⟨rfl,m0,gU.refl _,qjb _⟩) ?_)
 ·rintro i ⟨c0,na0,nb0,Ht,mg⟩ st1 _ hi ⟨hc,m1,g1,p1⟩;dsimp only at hc m1 p1⊢;subst hc;refine qi8 (qkr (qjP (I:=λj (c:Option (Array Keyed)×Nat×Nat×Array Keyed×Nat×Nat) st'=>c.1=none/\uq a b c.2.2.2.1 c.2.1 c.2.2.1/\st'=st1/\Ht.size+j<=c.2.2.2.1.size)
   (Q:=λc st'=>st'=st1/\((∃r,c.1=some r/\r.toList.Perm (a.toList++b.toList))\/(c.1=none/\uq a b c.2.2.2.1 c.2.1 c.2.2.1/\Ht.size+1<=c.2.2.2.1.size))) ?_ ?_ ⟨rfl,m1,rfl,qjb _⟩) ?_)
  ·rintro j ⟨c0,na,nb,out,ac,bc⟩ st2 _ hj ⟨hc,m2,rfl,p2⟩;dsimp only at hc m2 p2⊢;subst hc;have a0:=m2.a0;have a1:=m2.a1;have b0:=m2.b0;have b1:=m2.b1;refine qi8 (aQ (show nb - 1<b.size by omega) (qi8 (aQ (show na - 1<a.size by omega) ?_)));obtain⟨x,xt,hx⟩:=hB.at (show nb - 1<b.size by omega);obtain⟨y,yt,hy⟩:=hA.at (show na - 1<a.size by omega);refine qi8 (J0 (g1.1.trans hk) hx hy λbw=>?_);cases bw with
   |true=>
    simp only[qlj];refine qi8 (aQ (show na - 1<a.size by omega) ?_);have m3:=m2.p.a a0 a1
    by_cases h2:(na - 1 == 0)=true
    ·rw[if_pos h2];exact qi7 ⟨rfl,.inl ⟨_,rfl,m3.done⟩⟩
    ·rw[if_neg h2];have m4:uq a b (out.push (a[na - 1]'(by omega))) (na - 1) nb:=⟨m3,by simp at h2;omega,by omega,b0,b1⟩
     by_cases h3:ac+1≥mg
     ·rw[if_pos h3];exact qi7 ⟨rfl,.inr ⟨rfl,m4,by rw[qjc];omega⟩⟩
     ·rw[if_neg h3];exact qi7 ⟨rfl,m4,rfl,by rw[qjc];omega⟩
   |false=>
    simp only[qkh,qkQ];refine qi8 (aQ (show nb - 1<b.size by omega) ?_);have m3:=m2.p.b (by omega) b1
    by_cases h2:(nb - 1 == 1)=true
    ·rw[if_pos h2];exact qi7 ⟨rfl,.inl ⟨_,rfl,m3.first⟩⟩
    ·rw[if_neg h2];have m4:uq a b (out.push (b[nb - 1]'(by omega))) na (nb - 1):=⟨m3,a0,a1,by simp at h2;omega,by omega⟩
     by_cases h3:bc+1≥mg
     ·rw[if_pos h3];exact qi7 ⟨rfl,.inr ⟨rfl,m4,by rw[qjc];omega⟩⟩
     ·rw[if_neg h3];exact qi7 ⟨rfl,m4,rfl,by rw[qjc];omega⟩
  ·rintro⟨c0,na,nb,out,ac,bc⟩ st2 ⟨hc,m2,rfl,p2⟩;dsimp only at hc m2 p2⊢;exact⟨rfl,.inr ⟨hc,m2,by omega⟩⟩
  ·rintro⟨c0,na,nb,out,ac,bc⟩ st2 ⟨rfl,⟨r,hc,hr⟩|⟨hc,m2,p2⟩⟩
   ·dsimp only at hc⊢;subst hc;exact qi7 ⟨g1,r,rfl,hr⟩
   ·dsimp only at hc m2 p2⊢;subst hc;dsimp only;refine qi8 (wpS_lift (qle ⟨rfl,?_⟩));refine qi8 (qkr (qjP (I:=λj (c:Option (Array Keyed)×Nat×Nat×Array Keyed×Nat×Nat×Nat) st'=>c.1=none/\uq a b c.2.2.2.1 c.2.1 c.2.2.1/\gU st st'/\out.size<=c.2.2.2.1.size)
     (Q:=λc st'=>gU st st'/\((∃r,c.1=some r/\r.toList.Perm (a.toList++b.toList))\/(c.1=none/\uq a b c.2.2.2.1 c.2.1 c.2.2.1/\out.size<=c.2.2.2.1.size))) ?_ ?_ ⟨rfl,m2,g1,qjb _⟩) ?_)
    ·rintro j ⟨c0,na,nb,dH,mg,ac,bc⟩ st3 _ hj ⟨hc,m3,g3,p3⟩;dsimp only at hc m3 p3⊢;subst hc;have a0:=m3.a0;have a1:=m3.a1;have b0:=m3.b0;have b1:=m3.b1
     by_cases hmg:mg > 1
     ·rw[if_pos hmg];rw[dj];refine qi8 (qkv ?_);have g4:=g3.set (mg - 1);generalize xW st3 (mg - 1)=MJ at g4⊢;have JG:=g4.1.trans hk;refine qi8 (aQ (show nb - 1<b.size by omega) (qi8 (cT JG hA (hB.at (show nb - 1<b.size by omega)) (by omega) (by omega) λat1 qcF=>?_)));dsimp only
      by_cases d2:na - at1 > 0
      ·rw[if_pos d2];have q6:=m3.p.as qcF
       by_cases d3:(at1 == 0)=true
       ·rw[if_pos d3];exact qi7 ⟨g4,.inl ⟨_,rfl,q6.done⟩⟩
       ·rw[if_neg d3];have qcG:0<at1:=by simp at d3;omega
        have q1:=q6;have q2:0<at1:=qcG;have q4:out.size<=(dH++(a.extract at1 na).reverse).size:=by rw[qkE];omega
        refine qi8 (aQ (show nb - 1<b.size by omega) ?_);have q5:=q1.b (show 0<nb by omega) b1
        by_cases f1:(nb - 1 == 1)=true
        ·rw[if_pos f1];exact qi7 ⟨g4,.inl ⟨_,rfl,q5.first⟩⟩
        ·rw[if_neg f1];have b2:1<nb - 1:=by simp at f1;omega
         refine qi8 (aQ (show at1 - 1<a.size by omega) (qi8 (cT JG hB (hA.at (show at1 - 1<a.size by omega)) (by omega) (by omega) λat2 Ni=>?_)));dsimp only
         by_cases f2:nb - 1 - at2 > 0
         ·rw[if_pos f2];have q6:=q5.bs Ni
          by_cases f3:(at2 == 1)=true
          ·rw[if_pos f3];exact qi7 ⟨g4,.inl ⟨_,rfl,q6.first⟩⟩
          ·rw[if_neg f3]
           by_cases f4:(at2 == 0)=true
           ·rw[if_pos f4];exact qi7 ⟨g4,.inl ⟨_,rfl,q6.done⟩⟩
           ·rw[if_neg f4];have Nj:1<at2:=by simp at f3 f4;omega
            have r1:=q6;have r2:0<at1:=q2;have r3:1<at2:=Nj;have r4:out.size<=((dH++(a.extract at1 na).reverse).push (b[nb - 1]'(show nb - 1<b.size by omega))++(b.extract at2 (nb - 1)).reverse).size:=by rw[qkE,qjc];omega
            refine qi8 (aQ (show at1 - 1<a.size by omega) ?_);have r5:=r1.a r2 (show at1<=a.size by omega)
            by_cases e1:(at1 - 1 == 0)=true
            ·rw[if_pos e1];exact qi7 ⟨g4,.inl ⟨_,rfl,r5.done⟩⟩
            ·rw[if_neg e1];have m4:uq a b (((dH++(a.extract at1 na).reverse).push (b[nb - 1]'(show nb - 1<b.size by omega))++(b.extract at2 (nb - 1)).reverse).push (a[at1 - 1]'(show at1 - 1<a.size by omega))) (at1 - 1) (at2):=⟨r5,by simp at e1;omega,by omega,r3,by omega⟩;split
             ·exact qi7 ⟨g4,.inr ⟨rfl,m4,by rw[qjc];omega⟩⟩
             ·exact qi7 ⟨rfl,m4,g4,by rw[qjc];omega⟩
         ·rw[if_neg f2];have r1:=q5;have r2:0<at1:=q2;have r3:1<nb - 1:=b2;have r4:out.size<=((dH++(a.extract at1 na).reverse).push (b[nb - 1]'(show nb - 1<b.size by omega))).size:=by rw[qjc];omega
          refine qi8 (aQ (show at1 - 1<a.size by omega) ?_);have r5:=r1.a r2 (show at1<=a.size by omega)
          by_cases e1:(at1 - 1 == 0)=true
          ·rw[if_pos e1];exact qi7 ⟨g4,.inl ⟨_,rfl,r5.done⟩⟩
          ·rw[if_neg e1];have m4:uq a b (((dH++(a.extract at1 na).reverse).push (b[nb - 1]'(show nb - 1<b.size by omega))).push (a[at1 - 1]'(show at1 - 1<a.size by omega))) (at1 - 1) (nb - 1):=⟨r5,by simp at e1;omega,by omega,r3,by omega⟩;split
           ·exact qi7 ⟨g4,.inr ⟨rfl,m4,by rw[qjc];omega⟩⟩
           ·exact qi7 ⟨rfl,m4,g4,by rw[qjc];omega⟩
      ·rw[if_neg d2];have q1:=m3.p;have q2:0<na:=a0;have q4:out.size<=(dH).size:=p3;refine qi8 (aQ (show nb - 1<b.size by omega) ?_);have q5:=q1.b (show 0<nb by omega) b1
       by_cases f1:(nb - 1 == 1)=true
       ·rw[if_pos f1];exact qi7 ⟨g4,.inl ⟨_,rfl,q5.first⟩⟩
       ·rw[if_neg f1];have b2:1<nb - 1:=by simp at f1;omega
        refine qi8 (aQ (show na - 1<a.size by omega) (qi8 (cT JG hB (hA.at (show na - 1<a.size by omega)) (by omega) (by omega) λat2 Ni=>?_)));dsimp only
        by_cases f2:nb - 1 - at2 > 0
        ·rw[if_pos f2];have q6:=q5.bs Ni
         by_cases f3:(at2 == 1)=true
         ·rw[if_pos f3];exact qi7 ⟨g4,.inl ⟨_,rfl,q6.first⟩⟩
         ·rw[if_neg f3]
          by_cases f4:(at2 == 0)=true
          ·rw[if_pos f4];exact qi7 ⟨g4,.inl ⟨_,rfl,q6.done⟩⟩
          ·rw[if_neg f4];have Nj:1<at2:=by simp at f3 f4;omega
           have r1:=q6;have r2:0<na:=q2;have r3:1<at2:=Nj;have r4:out.size<=((dH).push (b[nb - 1]'(show nb - 1<b.size by omega))++(b.extract at2 (nb - 1)).reverse).size:=by rw[qkE,qjc];omega
           refine qi8 (aQ (show na - 1<a.size by omega) ?_);have r5:=r1.a r2 (show na<=a.size by omega)
           by_cases e1:(na - 1 == 0)=true
           ·rw[if_pos e1];exact qi7 ⟨g4,.inl ⟨_,rfl,r5.done⟩⟩
           ·rw[if_neg e1];have m4:uq a b (((dH).push (b[nb - 1]'(show nb - 1<b.size by omega))++(b.extract at2 (nb - 1)).reverse).push (a[na - 1]'(show na - 1<a.size by omega))) (na - 1) (at2):=⟨r5,by simp at e1;omega,by omega,r3,by omega⟩;split
            ·exact qi7 ⟨g4,.inr ⟨rfl,m4,by rw[qjc];omega⟩⟩
            ·exact qi7 ⟨rfl,m4,g4,by rw[qjc];omega⟩
        ·rw[if_neg f2];have r1:=q5;have r2:0<na:=q2;have r3:1<nb - 1:=b2;have r4:out.size<=((dH).push (b[nb - 1]'(show nb - 1<b.size by omega))).size:=by rw[qjc];omega
         refine qi8 (aQ (show na - 1<a.size by omega) ?_);have r5:=r1.a r2 (show na<=a.size by omega)
         by_cases e1:(na - 1 == 0)=true
         ·rw[if_pos e1];exact qi7 ⟨g4,.inl ⟨_,rfl,r5.done⟩⟩
         ·rw[if_neg e1];have m4:uq a b (((dH).push (b[nb - 1]'(show nb - 1<b.size by omega))).push (a[na - 1]'(show na - 1<a.size by omega))) (na - 1) (nb - 1):=⟨r5,by simp at e1;omega,by omega,r3,by omega⟩;split
          ·exact qi7 ⟨g4,.inr ⟨rfl,m4,by rw[qjc];omega⟩⟩
          ·exact qi7 ⟨rfl,m4,g4,by rw[qjc];omega⟩
     ·rw[if_neg hmg];rw[dj];refine qi8 (qkv ?_);have g4:=g3.set mg;generalize xW st3 mg=MJ at g4⊢;have JG:=g4.1.trans hk;refine qi8 (aQ (show nb - 1<b.size by omega) (qi8 (cT JG hA (hB.at (show nb - 1<b.size by omega)) (by omega) (by omega) λat1 qcF=>?_)));dsimp only
      by_cases d2:na - at1 > 0
      ·rw[if_pos d2];have q6:=m3.p.as qcF
       by_cases d3:(at1 == 0)=true
       ·rw[if_pos d3];exact qi7 ⟨g4,.inl ⟨_,rfl,q6.done⟩⟩
       ·rw[if_neg d3];have qcG:0<at1:=by simp at d3;omega
        have q1:=q6;have q2:0<at1:=qcG;have q4:out.size<=(dH++(a.extract at1 na).reverse).size:=by rw[qkE];omega
        refine qi8 (aQ (show nb - 1<b.size by omega) ?_);have q5:=q1.b (show 0<nb by omega) b1
        by_cases f1:(nb - 1 == 1)=true
        ·rw[if_pos f1];exact qi7 ⟨g4,.inl ⟨_,rfl,q5.first⟩⟩
        ·rw[if_neg f1];have b2:1<nb - 1:=by simp at f1;omega
         refine qi8 (aQ (show at1 - 1<a.size by omega) (qi8 (cT JG hB (hA.at (show at1 - 1<a.size by omega)) (by omega) (by omega) λat2 Ni=>?_)));dsimp only
         by_cases f2:nb - 1 - at2 > 0
         ·rw[if_pos f2];have q6:=q5.bs Ni
          by_cases f3:(at2 == 1)=true
          ·rw[if_pos f3];exact qi7 ⟨g4,.inl ⟨_,rfl,q6.first⟩⟩
          ·rw[if_neg f3]
           by_cases f4:(at2 == 0)=true
           ·rw[if_pos f4];exact qi7 ⟨g4,.inl ⟨_,rfl,q6.done⟩⟩
           ·rw[if_neg f4];have Nj:1<at2:=by simp at f3 f4;omega
            have r1:=q6;have r2:0<at1:=q2;have r3:1<at2:=Nj;have r4:out.size<=((dH++(a.extract at1 na).reverse).push (b[nb - 1]'(show nb - 1<b.size by omega))++(b.extract at2 (nb - 1)).reverse).size:=by rw[qkE,qjc];omega
            refine qi8 (aQ (show at1 - 1<a.size by omega) ?_);have r5:=r1.a r2 (show at1<=a.size by omega)
            by_cases e1:(at1 - 1 == 0)=true
            ·rw[if_pos e1];exact qi7 ⟨g4,.inl ⟨_,rfl,r5.done⟩⟩
            ·rw[if_neg e1];have m4:uq a b (((dH++(a.extract at1 na).reverse).push (b[nb - 1]'(show nb - 1<b.size by omega))++(b.extract at2 (nb - 1)).reverse).push (a[at1 - 1]'(show at1 - 1<a.size by omega))) (at1 - 1) (at2):=⟨r5,by simp at e1;omega,by omega,r3,by omega⟩;split
             ·exact qi7 ⟨g4,.inr ⟨rfl,m4,by rw[qjc];omega⟩⟩
             ·exact qi7 ⟨rfl,m4,g4,by rw[qjc];omega⟩
         ·rw[if_neg f2];have r1:=q5;have r2:0<at1:=q2;have r3:1<nb - 1:=b2;have r4:out.size<=((dH++(a.extract at1 na).reverse).push (b[nb - 1]'(show nb - 1<b.size by omega))).size:=by rw[qjc];omega
          refine qi8 (aQ (show at1 - 1<a.size by omega) ?_);have r5:=r1.a r2 (show at1<=a.size by omega)
          by_cases e1:(at1 - 1 == 0)=true
          ·rw[if_pos e1];exact qi7 ⟨g4,.inl ⟨_,rfl,r5.done⟩⟩
          ·rw[if_neg e1];have m4:uq a b (((dH++(a.extract at1 na).reverse).push (b[nb - 1]'(show nb - 1<b.size by omega))).push (a[at1 - 1]'(show at1 - 1<a.size by omega))) (at1 - 1) (nb - 1):=⟨r5,by simp at e1;omega,by omega,r3,by omega⟩;split
           ·exact qi7 ⟨g4,.inr ⟨rfl,m4,by rw[qjc];omega⟩⟩
           ·exact qi7 ⟨rfl,m4,g4,by rw[qjc];omega⟩
      ·rw[if_neg d2];have q1:=m3.p;have q2:0<na:=a0;have q4:out.size<=(dH).size:=p3;refine qi8 (aQ (show nb - 1<b.size by omega) ?_);have q5:=q1.b (show 0<nb by omega) b1
       by_cases f1:(nb - 1 == 1)=true
       ·rw[if_pos f1];exact qi7 ⟨g4,.inl ⟨_,rfl,q5.first⟩⟩
       ·rw[if_neg f1];have b2:1<nb - 1:=by simp at f1;omega
        refine qi8 (aQ (show na - 1<a.size by omega) (qi8 (cT JG hB (hA.at (show na - 1<a.size by omega)) (by omega) (by omega) λat2 Ni=>?_)));dsimp only
        by_cases f2:nb - 1 - at2 > 0
        ·rw[if_pos f2];have q6:=q5.bs Ni
         by_cases f3:(at2 == 1)=true
         ·rw[if_pos f3];exact qi7 ⟨g4,.inl ⟨_,rfl,q6.first⟩⟩
         ·rw[if_neg f3]
          by_cases f4:(at2 == 0)=true
          ·rw[if_pos f4];exact qi7 ⟨g4,.inl ⟨_,rfl,q6.done⟩⟩
          ·rw[if_neg f4];have Nj:1<at2:=by simp at f3 f4;omega
           have r1:=q6;have r2:0<na:=q2;have r3:1<at2:=Nj;have r4:out.size<=((dH).push (b[nb - 1]'(show nb - 1<b.size by omega))++(b.extract at2 (nb - 1)).reverse).size:=by rw[qkE,qjc];omega
           refine qi8 (aQ (show na - 1<a.size by omega) ?_);have r5:=r1.a r2 (show na<=a.size by omega)
           by_cases e1:(na - 1 == 0)=true
           ·rw[if_pos e1];exact qi7 ⟨g4,.inl ⟨_,rfl,r5.done⟩⟩
           ·rw[if_neg e1];have m4:uq a b (((dH).push (b[nb - 1]'(show nb - 1<b.size by omega))++(b.extract at2 (nb - 1)).reverse).push (a[na - 1]'(show na - 1<a.size by omega))) (na - 1) (at2):=⟨r5,by simp at e1;omega,by omega,r3,by omega⟩;split
            ·exact qi7 ⟨g4,.inr ⟨rfl,m4,by rw[qjc];omega⟩⟩
            ·exact qi7 ⟨rfl,m4,g4,by rw[qjc];omega⟩
        ·rw[if_neg f2];have r1:=q5;have r2:0<na:=q2;have r3:1<nb - 1:=b2;have r4:out.size<=((dH).push (b[nb - 1]'(show nb - 1<b.size by omega))).size:=by rw[qjc];omega
         refine qi8 (aQ (show na - 1<a.size by omega) ?_);have r5:=r1.a r2 (show na<=a.size by omega)
         by_cases e1:(na - 1 == 0)=true
         ·rw[if_pos e1];exact qi7 ⟨g4,.inl ⟨_,rfl,r5.done⟩⟩
         ·rw[if_neg e1];have m4:uq a b (((dH).push (b[nb - 1]'(show nb - 1<b.size by omega))).push (a[na - 1]'(show na - 1<a.size by omega))) (na - 1) (nb - 1):=⟨r5,by simp at e1;omega,by omega,r3,by omega⟩;split
          ·exact qi7 ⟨g4,.inr ⟨rfl,m4,by rw[qjc];omega⟩⟩
          ·exact qi7 ⟨rfl,m4,g4,by rw[qjc];omega⟩
    ·rintro⟨c0,na,nb,dH,mg,ac,bc⟩ st3 ⟨hc,m3,g3,p3⟩;exact⟨g3,.inr ⟨hc,m3,p3⟩⟩
    ·rintro⟨c0,na,nb,dH,mg,ac,bc⟩ st3 ⟨g3,⟨r,hc,hr⟩|⟨hc,m3,p3⟩⟩
     ·dsimp only at hc⊢;subst hc;exact qi7 ⟨g3,r,rfl,hr⟩
     ·dsimp only at hc m3 p3⊢;subst hc;dsimp only;rw[dj];exact qi8 (qkv (qi7 ⟨rfl,m3,g3.set _,by dsimp only;omega⟩))
 ·rintro⟨c0,na0,nb0,Ht,mg⟩ st1 ⟨hc,m1,g1,p1⟩;dsimp only at hc m1 p1⊢;have:=m1.p.size;have h1:=m1.a0;have h2:=m1.b0;have h3:=m1.a1;have h4:=m1.b1;omega
 ·rintro⟨c0,na0,nb0,Ht,mg⟩ st1 ⟨g1,r,hc,hr⟩;dsimp only at hc⊢;subst hc;exact qi7 (h _ _ g1 hr)
end
section
variable {prog:Program}{w:World}{A:Around}{E:QAB}{s:Shared}{a₀:Array Keyed}
structure SI(a₀:Array Keyed)(p:Array (Nat×Nat×Nat))(st:SortSt):Prop where
 perm:(arrOf st).Perm a₀
 kind:kindOf st=oneType'
 failed:failedOf st=none
 pend:pendingOf st=p
theorem SI.size{p:Array (Nat×Nat×Nat)}{st:SortSt}(h:SI a₀ p st):(arrOf st).size=a₀.size:=h.perm.size_eq
theorem SI.ik{p:Array (Nat×Nat×Nat)}{st:SortSt}(h:SI a₀ p st)(h0:IK a₀):IK (arrOf st):=λx hx=>h0 x ((Array.perm_iff_toList_perm.mp h.perm).mem_iff.mp hx)
theorem SI.arr{p:Array (Nat×Nat×Nat)}{st:SortSt}(h:SI a₀ p st){xs:Array Keyed}(hp:xs.Perm (arrOf st)):SI a₀ p (setArr st xs):=⟨hp.trans h.perm,h.kind,h.failed,h.pend⟩
theorem iZ{p:Array (Nat×Nat×Nat)}{st:SortSt}{i j:Nat}{Q:Option Bool->SortSt->Prop}(hS:SI a₀ p st)(h0:IK a₀)(hi:i<a₀.size)(hj:j<a₀.size)(h:∀b,Q (some b) st):wpS (model prog w) A E s (ltAt' i j) Q st:=by
 rw[ltAt'_eq];refine qi8 (wpS_get ?_);have hs:=hS.size;have hI:=hS.ik h0;refine qi8 (aQ (show i<(arrOf st).size by omega) (qi8 (aQ (show j<(arrOf st).size by omega) ?_)));obtain⟨x,xt,hx⟩:=hI.at (show i<(arrOf st).size by omega);obtain⟨y,yt,hy⟩:=hI.at (show j<(arrOf st).size by omega);exact J0 hS.kind hx hy h
theorem qp{p:Array (Nat×Nat×Nat)}{st:SortSt}{i j:Nat}{Q:Unit->SortSt->Prop}(hS:SI a₀ p st)(h:∀st',SI a₀ p st'->Q () st'):wpS (model prog w) A E s (reverseSlice' i j) Q st:=by
 rw[reverseSlice'_eq];exact qkv (h _ (hS.arr (mirror_perm _ _ _ _)))
theorem RZ{p:Array (Nat×Nat×Nat)}{st:SortSt}{lo n ok:Nat}{Q:Bool->SortSt->Prop}(hS:SI a₀ p st)(h0:IK a₀)(hn:lo+n<=a₀.size)(h:∀st',SI a₀ p st'->Q true st'):wpS (model prog w) A E s (binarySort' lo n ok) Q st:=by
 rw[binarySort'_eq];refine qi8 (qkr (qjP (I:=λ_ c st'=>c=(none,())/\SI a₀ p st') (Q:=λc st'=>c=(none,())/\SI a₀ p st') ?_ (λ_ _ h=>h) ⟨rfl,hS⟩) ?_)
 ·rintro k c st1 h1 h2 ⟨rfl,hS1⟩;refine qi8 (qkr (qjP (I:=λ_ (c:Option Bool×Nat×Nat) st'=>c.1=none/\c.2.2<=k/\st'=st1) (Q:=λc st'=>c.1=none/\st'=st1) ?_ (λ_ _ h=>⟨h.1,h.2.2⟩) ⟨rfl,qjb _,rfl⟩) ?_)
  ·rintro i ⟨c0,l,r⟩ st2 _ _ ⟨hc,hr,rfl⟩;dsimp only at hc hr⊢;subst hc
   by_cases hle:l≥r
   ·rw[if_pos hle];exact qi7 ⟨rfl,rfl⟩
   ·rw[if_neg hle];refine qi8 (iZ hS1 h0 (by omega) (by omega) λb=>?_);cases b with
    |true=>exact qi7 ⟨rfl,by dsimp only;omega,rfl⟩
    |false=>exact qi7 ⟨rfl,hr,rfl⟩
  ·rintro⟨c0,l,r⟩ st2 ⟨hc,rfl⟩;dsimp only at hc⊢;subst hc;dsimp only;rw[moveDown'_eq];exact qi8 (qkv (qi7 ⟨rfl,hS1.arr (bubble_perm _ _ _)⟩))
 ·rintro c st1 ⟨rfl,hS1⟩;exact qi7 (h _ hS1)
theorem WX{p:Array (Nat×Nat×Nat)}{st:SortSt}{lo nrem:Nat}{Q:Option Nat->SortSt->Prop}(hS:SI a₀ p st)(h0:IK a₀)(hn:lo+nrem<=a₀.size)(h1:1<=nrem)(h:∀n st',SI a₀ p st'->1<=n->n<=nrem->Q (some n) st'):wpS (model prog w) A E s (countRun' lo nrem) Q st:=by
 rw[countRun'_eq];dsimp only;refine qi8 (qkr (qjP (I:=λi (c:Option (Option Nat)×Nat) st'=>c.1=none/\c.2=i/\st'=st) (Q:=λc st'=>c.1=none/\1<=c.2/\c.2<=nrem/\st'=st) ?_ ?_ ⟨rfl,rfl,rfl⟩) ?_)
 ·rintro i ⟨c0,n⟩ st1 hi1 hi2 ⟨hc,hn',rfl⟩;dsimp only at hc hn'⊢;subst hc hn';refine qi8 (iZ hS h0 (by omega) (by omega) λb=>?_);cases b with
  |true=>exact qi7 ⟨rfl,hi1,by dsimp only;omega,rfl⟩
  |false=>exact qi7 ⟨rfl,rfl,rfl⟩
 ·rintro⟨c0,n⟩ st1 ⟨hc,hn',rfl⟩;dsimp only at hc hn'⊢;exact⟨hc,by omega,by omega,rfl⟩
 ·rintro⟨c0,n⟩ st1 ⟨hc,hn1,hn2,rfl⟩;dsimp only at hc hn1 hn2⊢;subst hc;dsimp only
  by_cases he:(n == nrem)=true
  ·rw[if_pos he];exact qi7 (h _ _ hS hn1 hn2)
  ·rw[if_neg he];have hlt:n<nrem:=by simp at he;omega
   by_cases xY:n > 1
   ·rw[if_pos xY];refine qi8 (iZ hS h0 (by omega) (by omega) λb=>?_);cases b with
    |true=>exact qi7 (h _ _ hS hn1 hn2)
    |false=>
     simp only[qkh,qkQ];refine qi8 (qp hS λst3 rA=>?_);refine qi8 (wpS_lift (qle ⟨rfl,?_⟩));refine qi8 (qkr (qjP (I:=λi (c:Option (Option Nat)×Nat×Nat) st'=>c.1=none/\c.2.1=i/\SI a₀ p st') (Q:=λc st'=>c.1=none/\1<=c.2.1/\c.2.1<=nrem/\SI a₀ p st') ?_ ?_ ⟨rfl,rfl,rA⟩) ?_)
     ·rintro i ⟨c0,n5,q5⟩ Dd hi1 hi2 ⟨hc,hn',Aw⟩;dsimp only at hc hn'⊢;subst hc hn';refine qi8 (iZ Aw h0 (by omega) (by omega) λb=>?_);cases b with
      |true=>
       simp only[qlj]
       by_cases hq:q5 > 0
       ·rw[if_pos hq];refine qi8 (qp Aw λst6 hS6=>qi7 ⟨rfl,rfl,hS6⟩)
       ·rw[if_neg hq];exact qi7 ⟨rfl,rfl,Aw⟩
      |false=>
       simp only[qkh,qkQ];refine qi8 (iZ Aw h0 (by omega) (by omega) λb=>?_);cases b with
       |true=>exact qi7 ⟨rfl,by dsimp only;omega,by dsimp only;omega,Aw⟩
       |false=>exact qi7 ⟨rfl,rfl,Aw⟩
     ·rintro⟨c0,n5,q5⟩ Dd ⟨hc,hn',Aw⟩;dsimp only at hc hn'⊢;exact⟨hc,by omega,by omega,Aw⟩
     ·rintro⟨c0,n5,q5⟩ Dd ⟨hc,Z6,hn6,Aw⟩;dsimp only at hc Z6 hn6⊢;subst hc;dsimp only
      by_cases hq:q5 > 0
      ·rw[if_pos hq];refine qi8 (qp Aw λst6 hS6=>qi8 ?_);refine qp hS6 λWY W0=>?_;refine qi8 (qkr (qjP (I:=λi (c:Option (Option Nat)×Nat) st'=>c.1=none/\c.2=i/\st'=WY) (Q:=λc st'=>c.1=none/\1<=c.2/\c.2<=nrem/\st'=WY) ?_ ?_ ⟨rfl,rfl,rfl⟩) ?_)
       ·rintro i ⟨c0,n7⟩ W2 hi1 hi2 ⟨hc,hn',rfl⟩;dsimp only at hc hn'⊢;subst hc hn';refine qi8 (iZ W0 h0 (by omega) (by omega) λb=>?_);cases b with
        |true=>exact qi7 ⟨rfl,by dsimp only;omega,by dsimp only;omega,rfl⟩
        |false=>exact qi7 ⟨rfl,rfl,rfl⟩
       ·rintro⟨c0,n7⟩ W2 ⟨hc,hn',rfl⟩;dsimp only at hc hn'⊢;exact⟨hc,by omega,by omega,rfl⟩
       ·rintro⟨c0,n7⟩ W2 ⟨hc,W3,W4,rfl⟩;dsimp only at hc W3 W4⊢;subst hc;exact qi7 (h _ _ W0 W3 W4)
      ·rw[if_neg hq];refine qi8 ?_;refine qp Aw λWY W0=>?_;refine qi8 (qkr (qjP (I:=λi (c:Option (Option Nat)×Nat) st'=>c.1=none/\c.2=i/\st'=WY) (Q:=λc st'=>c.1=none/\1<=c.2/\c.2<=nrem/\st'=WY) ?_ ?_ ⟨rfl,rfl,rfl⟩) ?_)
       ·rintro i ⟨c0,n7⟩ W2 hi1 hi2 ⟨hc,hn',rfl⟩;dsimp only at hc hn'⊢;subst hc hn';refine qi8 (iZ W0 h0 (by omega) (by omega) λb=>?_);cases b with
        |true=>exact qi7 ⟨rfl,by dsimp only;omega,by dsimp only;omega,rfl⟩
        |false=>exact qi7 ⟨rfl,rfl,rfl⟩
       ·rintro⟨c0,n7⟩ W2 ⟨hc,hn',rfl⟩;dsimp only at hc hn'⊢;exact⟨hc,by omega,by omega,rfl⟩
       ·rintro⟨c0,n7⟩ W2 ⟨hc,W3,W4,rfl⟩;dsimp only at hc W3 W4⊢;subst hc;exact qi7 (h _ _ W0 W3 W4)
   ·rw[if_neg xY];refine qi8 (wpS_lift (qle ⟨rfl,?_⟩));refine qi8 (qkr (qjP (I:=λi (c:Option (Option Nat)×Nat×Nat) st'=>c.1=none/\c.2.1=i/\SI a₀ p st') (Q:=λc st'=>c.1=none/\1<=c.2.1/\c.2.1<=nrem/\SI a₀ p st') ?_ ?_ ⟨rfl,rfl,hS⟩) ?_)
    ·rintro i ⟨c0,n5,q5⟩ Dd hi1 hi2 ⟨hc,hn',Aw⟩;dsimp only at hc hn'⊢;subst hc hn';refine qi8 (iZ Aw h0 (by omega) (by omega) λb=>?_);cases b with
     |true=>
      simp only[qlj]
      by_cases hq:q5 > 0
      ·rw[if_pos hq];refine qi8 (qp Aw λst6 hS6=>qi7 ⟨rfl,rfl,hS6⟩)
      ·rw[if_neg hq];exact qi7 ⟨rfl,rfl,Aw⟩
     |false=>
      simp only[qkh,qkQ];refine qi8 (iZ Aw h0 (by omega) (by omega) λb=>?_);cases b with
      |true=>exact qi7 ⟨rfl,by dsimp only;omega,by dsimp only;omega,Aw⟩
      |false=>exact qi7 ⟨rfl,rfl,Aw⟩
    ·rintro⟨c0,n5,q5⟩ Dd ⟨hc,hn',Aw⟩;dsimp only at hc hn'⊢;exact⟨hc,by omega,by omega,Aw⟩
    ·rintro⟨c0,n5,q5⟩ Dd ⟨hc,Z6,hn6,Aw⟩;dsimp only at hc Z6 hn6⊢;subst hc;dsimp only
     by_cases hq:q5 > 0
     ·rw[if_pos hq];refine qi8 (qp Aw λst6 hS6=>qi8 ?_);refine qp hS6 λWY W0=>?_;refine qi8 (qkr (qjP (I:=λi (c:Option (Option Nat)×Nat) st'=>c.1=none/\c.2=i/\st'=WY) (Q:=λc st'=>c.1=none/\1<=c.2/\c.2<=nrem/\st'=WY) ?_ ?_ ⟨rfl,rfl,rfl⟩) ?_)
      ·rintro i ⟨c0,n7⟩ W2 hi1 hi2 ⟨hc,hn',rfl⟩;dsimp only at hc hn'⊢;subst hc hn';refine qi8 (iZ W0 h0 (by omega) (by omega) λb=>?_);cases b with
       |true=>exact qi7 ⟨rfl,by dsimp only;omega,by dsimp only;omega,rfl⟩
       |false=>exact qi7 ⟨rfl,rfl,rfl⟩
      ·rintro⟨c0,n7⟩ W2 ⟨hc,hn',rfl⟩;dsimp only at hc hn'⊢;exact⟨hc,by omega,by omega,rfl⟩
      ·rintro⟨c0,n7⟩ W2 ⟨hc,W3,W4,rfl⟩;dsimp only at hc W3 W4⊢;subst hc;exact qi7 (h _ _ W0 W3 W4)
     ·rw[if_neg hq];refine qi8 ?_;refine qp Aw λWY W0=>?_;refine qi8 (qkr (qjP (I:=λi (c:Option (Option Nat)×Nat) st'=>c.1=none/\c.2=i/\st'=WY) (Q:=λc st'=>c.1=none/\1<=c.2/\c.2<=nrem/\st'=WY) ?_ ?_ ⟨rfl,rfl,rfl⟩) ?_)
      ·rintro i ⟨c0,n7⟩ W2 hi1 hi2 ⟨hc,hn',rfl⟩;dsimp only at hc hn'⊢;subst hc hn';refine qi8 (iZ W0 h0 (by omega) (by omega) λb=>?_);cases b with
       |true=>exact qi7 ⟨rfl,by dsimp only;omega,by dsimp only;omega,rfl⟩
       |false=>exact qi7 ⟨rfl,rfl,rfl⟩
      ·rintro⟨c0,n7⟩ W2 ⟨hc,hn',rfl⟩;dsimp only at hc hn'⊢;exact⟨hc,by omega,by omega,rfl⟩
      ·rintro⟨c0,n7⟩ W2 ⟨hc,W3,W4,rfl⟩;dsimp only at hc W3 W4⊢;subst hc;exact qi7 (h _ _ W0 W3 W4)
end
section
variable {prog:Program}{w:World}{A:Around}{E:QAB}{s:Shared}{a₀:Array Keyed}
theorem Z7{M:Model}{v st:SortSt}{Q:PUnit->SortSt->Prop}(h:Q ⟨⟩ v):wpS M A E s (set v:StateT SortSt Sem PUnit) Q st:=by
 unfold wpS;rw[StateT.run_set];exact qi_ ⟨rfl,h⟩
theorem J6(i:Nat):mergeAt' i=(do
 let s <- get
 let (some (sa,na,power),some (sb,nb,_)):=((pendingOf s)[i]?,(pendingOf s)[i+1]?)|unsupported "internal:list.sort.pending"
 set (SortSt.mk' (kindOf s) (arrOf s) (((pendingOf s).setIfInBounds i (sa,na+nb,power)).eraseIdxIfInBounds (i+1)) (gallopOf s) (failedOf s))
 let some k <- nA false (<- elem' (arrOf s) sb) (arrOf s) sa na 0|return false
 let (sa,na):=(sa+k,na - k)
 if na == 0 then return true
 let some nb <- nA true (<- elem' (arrOf s) (sa+na - 1)) (arrOf s) sb nb (nb - 1)|return false
 if nb == 0 then return true
 let x:=(arrOf s).extract sa sb
 let y:=(arrOf s).extract sb (sb+nb)
 let merged <- if na<=nb then Ar x y else Av x y
 modify λs=>SortSt.mk' (kindOf s) (merged.toList.zipIdx.foldl (λa (p,j)=>a.setIfInBounds (sa+j) p) (arrOf s)) (pendingOf s) (gallopOf s) (failedOf s)
 return (failedOf (<- get)).isNone):=rfl
def Iw:Nat->List (Nat×Nat×Nat)->Nat->Prop
 |s,[],e=>s=e
 |s,(a,n,_)::r,e=>a=s/\0<n/\Iw (s+n) r e
theorem Iw.le:∀{s e:Nat}{p:List (Nat×Nat×Nat)},Iw s p e->s<=e
 |_,_,[],h=>Nat.le_of_eq h
 |_,_,(a,n,_)::r,⟨_,_,h⟩=>by have:=Iw.le h;omega
theorem Iw.merge:∀{s e i sa na pw sb nb q:Nat}{p:List (Nat×Nat×Nat)},Iw s p e->p[i]? = some (sa,na,pw)->p[i+1]? = some (sb,nb,q)->
  sb=sa+na/\0<na/\0<nb/\sb+nb<=e/\Iw s ((p.set i (sa,na+nb,pw)).eraseIdx (i+1)) e
 |s,e,0,sa,na,pw,sb,nb,q,(a,n,x)::(b,m,y)::r,⟨h1,h2,h3,h4,h5⟩,e1,e2=>by
  simp at e1 e2;obtain⟨rfl,rfl,rfl⟩:=e1;obtain⟨rfl,rfl,rfl⟩:=e2;have:=h5.le;refine⟨by omega,h2,h4,by omega,?_⟩;simp only[List.set_cons_zero,List.eraseIdx_cons_succ,List.eraseIdx_cons_zero];exact⟨h1,by omega,by rw[<- Nat.add_assoc];exact h5⟩
 |s,e,i+1,sa,na,pw,sb,nb,q,(a,n,x)::r,⟨h1,h2,h3⟩,e1,e2=>by
  obtain⟨q1,q2,q3,q4,q5⟩:=Iw.merge h3 (by simpa using e1) (by simpa using e2);refine⟨q1,q2,q3,q4,?_⟩;simp only[List.set_cons_succ,List.eraseIdx_cons_succ];exact⟨h1,h2,q5⟩
 |_,_,0,_,_,_,_,_,_,[],_,e1,_=>by simp at e1
 |_,_,0,_,_,_,_,_,_,[_],_,_,e2=>by simp at e2
 |_,_,_+1,_,_,_,_,_,_,[],_,e1,_=>by simp at e1
theorem Fe:∀(m:List Keyed)(a:Array Keyed)(sa j:Nat),sa+j+m.length<=a.size->((m.zipIdx j).foldl (λa (p,j)=>a.setIfInBounds (sa+j) p) a).toList=a.toList.take (sa+j)++m++a.toList.drop (sa+j+m.length)
 |[],a,sa,j,_=>by simp
 |x::m,a,sa,j,h=>by
  simp only[qjt] at h;rw[List.zipIdx_cons,List.foldl_cons];rw[Fe m _ sa (j+1) (by simp;omega)];simp only[qlz];rw[List.take_set,List.drop_set_of_lt (by omega)];have h2:sa+j<a.toList.length:=by simp;omega
  rw[show sa+(j+1)=(sa+j)+1 by omega,List.take_succ,qjh h2];have h3:(a.toList.take (sa+j)).length=sa+j:=by simp;omega
  rw[List.set_append_right _ _ (by omega),h3];simp only[Nat.sub_self,Option.toList,List.set_cons_zero,qjs,qk2,List.nil_append,qjt];rw[show sa+j+1+m.length=sa+j+(m.length+1) by omega]
theorem J7{a m:Array Keyed}{sa e:Nat}(hm:m.toList.Perm ((a.toList.take e).drop sa))(h1:sa<=e)(h2:e<=a.size):((m.toList.zipIdx).foldl (λa (p,j)=>a.setIfInBounds (sa+j) p) a).Perm a:=by
 rw[Array.perm_iff_toList_perm];have hl:m.toList.length=e - sa:=by rw[hm.length_eq];simp;omega
 rw[Fe _ _ _ _ (by rw[hl];omega),hl];have e1:a.toList=a.toList.take sa++((a.toList.take e).drop sa++a.toList.drop e):=by
  conv=>lhs;rw[<- qjT e a.toList]
  rw[<- qjs];congr 1
  conv=>lhs;rw[<- qjT sa (a.toList.take e),List.take_take,qkU h1]
 conv=>rhs;rw[e1]
 rw[qjs,show sa+0=sa by omega,show sa+(e - sa)=e by omega];exact qkb _ (hm.append_right _)
def Qi(a₀:Array Keyed)(e n:Nat)(st:SortSt):Prop:=∃p,SI a₀ p st/\Iw 0 p.toList e/\p.size=n
theorem u5{st:SortSt}{e n i:Nat}{Q:Bool->SortSt->Prop}(h0:IK a₀)(hP:Qi a₀ e n st)(he:e<=a₀.size)(hi:i+1<n)(h:∀st',Qi a₀ e (n - 1) st'->Q true st'):wpS (model prog w) A E s (mergeAt' i) Q st:=by
 obtain⟨p,hS,hk,hn⟩:=hP;rw[J6];refine qi8 (wpS_get ?_);rw[hS.pend]
 rcases e1:p[i]? with _|⟨sa,na,pw⟩
 ·rw[Array.getElem?_eq_none_iff] at e1;omega
 rcases e2:p[i+1]? with _|⟨sb,nb,q⟩
 ·rw[Array.getElem?_eq_none_iff] at e2;omega
 obtain⟨q1,q2,q3,q4,q5⟩:=hk.merge (i:=i) (by rw[Array.getElem?_toList];exact e1) (by rw[Array.getElem?_toList];exact e2);dsimp only;refine qi8 (Z7 ?_);have hs:=hS.size;have hI:=hS.ik h0;have hp1:Iw 0 ((p.setIfInBounds i (sa,na+nb,pw)).eraseIdxIfInBounds (i+1)).toList e:=by
  rw[Array.toList_eraseIdxIfInBounds,qlz];exact q5
 have hp2:((p.setIfInBounds i (sa,na+nb,pw)).eraseIdxIfInBounds (i+1)).size=n - 1:=by
  rw[<- qkk,Array.toList_eraseIdxIfInBounds,qlz,List.length_eraseIdx];rw[List.length_set,qkk,if_pos (by omega)];omega
 have hS1:SI a₀ ((p.setIfInBounds i (sa,na+nb,pw)).eraseIdxIfInBounds (i+1)) (SortSt.mk' (kindOf st) (arrOf st) ((p.setIfInBounds i (sa,na+nb,pw)).eraseIdxIfInBounds (i+1)) (gallopOf st) (failedOf st)):=⟨hS.perm,hS.kind,hS.failed,rfl⟩;have qa3:=h _ ⟨_,hS1,hp1,hp2⟩;refine qi8 (aQ (show sb<(arrOf st).size by omega) (qi8 (cT hS1.kind hI (hI.at (show sb<(arrOf st).size by omega)) (by omega) q2 λk hk1=>?_)));dsimp only
 by_cases c1:(na - k == 0)=true
 ·rw[if_pos c1];exact qi7 qa3
 rw[if_neg c1];have c1':0<na - k:=by simp at c1;omega
 refine qi8 (aQ (show sa+k+(na - k) - 1<(arrOf st).size by omega) (qi8 (cT hS1.kind hI (hI.at (show sa+k+(na - k) - 1<(arrOf st).size by omega)) (by omega) (by omega) λUm hk2=>?_)));dsimp only
 by_cases c2:(Um == 0)=true
 ·rw[if_pos c2];exact qi7 qa3
 rw[if_neg c2];have c2':0<Um:=by simp at c2;omega
 have hx:IK ((arrOf st).extract (sa+k) sb):=λx hx=>hI x (by
  rw[qjS,qjE] at hx;exact List.mem_of_mem_drop (qlc hx))
 have hy:IK ((arrOf st).extract sb (sb+Um)):=λx hx=>hI x (by
  rw[qjS,qjE] at hx;exact List.mem_of_mem_drop (qlc hx))
 have hxy:((arrOf st).extract (sa+k) sb).toList++((arrOf st).extract sb (sb+Um)).toList=((arrOf st).toList.take (sb+Um)).drop (sa+k):=by
  rw[qjS,qjS,qjE,qjE,List.drop_take];rw[show sb+Um - sb=Um by omega,show sb+Um - (sa+k)=(sb - (sa+k))+Um by omega,List.take_add,List.drop_drop,show sa+k+(sb - (sa+k))=sb by omega]
 by_cases c3:na - k<=Um
 ·rw[if_pos c3];refine qi8 (Ng hS1.kind hx hy (by simp;omega) (by simp;omega) λout st2 hg hp=>?_);refine qi8 (qkv ?_);refine qi8 (wpS_get (qi7 ?_));obtain⟨g1,g2,g3,g4⟩:=hg;have hs2:(arrOf st2)=arrOf st:=g2;have hpp:((out.toList.zipIdx).foldl (λa (p,j)=>a.setIfInBounds (sa+k+j) p) (arrOf st)).Perm (arrOf st):=J7 (e:=sb+Um) (hp.trans (by rw[hxy])) (by omega) (by omega);have hf:failedOf st2=none:=g4.trans hS.failed;have:=h (SortSt.mk' (kindOf st2) ((out.toList.zipIdx).foldl (λa (p,j)=>a.setIfInBounds (sa+k+j) p) (arrOf st2)) (pendingOf st2) (gallopOf st2) (failedOf st2)) ⟨_,⟨by rw[hs2];exact hpp.trans hS.perm,g1.trans hS1.kind,hf,g3⟩,hp1,hp2⟩;rw[show(failedOf (SortSt.mk' (kindOf st2) ((out.toList.zipIdx).foldl (λa (p,j)=>a.setIfInBounds (sa+k+j) p) (arrOf st2)) (pendingOf st2) (gallopOf st2) (failedOf st2))).isNone=true by show(failedOf st2).isNone=true;rw[hf];rfl];exact this
 ·rw[if_neg c3];refine qi8 (Nh hS1.kind hx hy (by simp;omega) (by simp;omega) λout st2 hg hp=>?_);refine qi8 (qkv ?_);refine qi8 (wpS_get (qi7 ?_));obtain⟨g1,g2,g3,g4⟩:=hg;have hs2:(arrOf st2)=arrOf st:=g2;have hpp:((out.toList.zipIdx).foldl (λa (p,j)=>a.setIfInBounds (sa+k+j) p) (arrOf st)).Perm (arrOf st):=J7 (e:=sb+Um) (hp.trans (by rw[hxy])) (by omega) (by omega);have hf:failedOf st2=none:=g4.trans hS.failed;have:=h (SortSt.mk' (kindOf st2) ((out.toList.zipIdx).foldl (λa (p,j)=>a.setIfInBounds (sa+k+j) p) (arrOf st2)) (pendingOf st2) (gallopOf st2) (failedOf st2)) ⟨_,⟨by rw[hs2];exact hpp.trans hS.perm,g1.trans hS1.kind,hf,g3⟩,hp1,hp2⟩;rw[show(failedOf (SortSt.mk' (kindOf st2) ((out.toList.zipIdx).foldl (λa (p,j)=>a.setIfInBounds (sa+k+j) p) (arrOf st2)) (pendingOf st2) (gallopOf st2) (failedOf st2))).isNone=true by show(failedOf st2).isNone=true;rw[hf];rfl];exact this
theorem Iw.snoc:∀{s e n q:Nat}{p:List (Nat×Nat×Nat)},Iw s p e->0<n->Iw s (p++[(e,n,q)]) (e+n)
 |s,e,n,q,[],h,hn=>by
  cases h;exact⟨rfl,hn,rfl⟩
 |s,e,n,q,(a,m,x)::r,⟨h1,h2,h3⟩,hn=>⟨h1,h2,Iw.snoc h3 hn⟩
theorem Iw.power:∀{s e i w:Nat}{p:List (Nat×Nat×Nat)},Iw s p e->Iw s (p.modify i λx=>(x.1,x.2.1,w)) e
 |s,e,i,w,[],h=>by cases i <;> exact h
 |s,e,0,w,(a,m,x)::r,⟨h1,h2,h3⟩=>⟨h1,h2,h3⟩
 |s,e,i+1,w,(a,m,x)::r,⟨h1,h2,h3⟩=>⟨h1,h2,Iw.power h3⟩
theorem Z8{st:SortSt}{Q:Unit->SortSt->Prop}(h0:IK a₀)(hS:SI a₀ #[] st)(h:∀st',(arrOf st').Perm a₀->failedOf st'=none->Q () st'):wpS (model prog w) A E s sortRuns' Q st:=by
 rw[sortRuns'_eq];refine qi8 (wpS_get ?_);dsimp only;rw[hS.size];refine qi8 (qkr (qjP (I:=λ_ (c:Option Unit×Nat) st'=>c.1=none/\c.2<=a₀.size/\∃n,Qi a₀ c.2 n st') (Q:=λc st'=>c.1=none/\c.2<=a₀.size/\∃n,Qi a₀ c.2 n st') ?_ (λ_ _ h=>h) ⟨rfl,qjY _,0,#[],hS,rfl,rfl⟩) ?_)
 ·rintro i ⟨c0,lo⟩ st1 _ hi ⟨hc,hlo,n,hP⟩;dsimp only at hc hlo hP⊢;subst hc;obtain⟨p,hS1,hk,hn⟩:=hP
  by_cases hge:lo≥a₀.size
  ·rw[if_pos hge];exact qi7 ⟨rfl,hlo,n,p,hS1,hk,hn⟩
  rw[if_neg hge];refine qi8 (WX hS1 h0 (by omega) (by omega) λfound st2 hS2 hf1 hf2=>?_);dsimp only
  by_cases hmr:found<minRun' a₀.size a₀.size 0
  ·rw[if_pos hmr];refine qi8 (wpS_lift (qle ⟨rfl,?_⟩));refine qi8 (RZ hS2 h0 (by omega) λst2 hS2=>?_);simp only[Bool.not_true,qkh,qkQ];refine qi8 (wpS_get ?_);have hpos:0<min (a₀.size - lo) (minRun' a₀.size a₀.size 0):=by omega
   have hle:lo+min (a₀.size - lo) (minRun' a₀.size a₀.size 0)<=a₀.size:=by omega
   have push:∀(n2:Nat)(st3:SortSt),Qi a₀ lo n2 st3->Qi a₀ (lo+min (a₀.size - lo) (minRun' a₀.size a₀.size 0)) (n2+1) (setPending st3 ((pendingOf st3).push (lo,min (a₀.size - lo) (minRun' a₀.size a₀.size 0),0))):=λn2 st3 pG=>by
    obtain⟨p3,rA,hk3,xY⟩:=pG;refine⟨_,⟨rA.perm,rA.kind,rA.failed,rfl⟩,?_,by show(Array.push _ _).size=_;rw[qjc,rA.pend];exact qjB (· + 1) xY⟩;rw[rA.pend,qlb];exact hk3.snoc hpos
   rcases hb:(pendingOf st2).back? with _|⟨s1,n1,w1⟩
   ·dsimp only;exact qi8 (qkv (qi7 ⟨rfl,hle,_,push _ _ ⟨p,hS2,hk,hn⟩⟩))
   ·dsimp only;refine qi8 (qkr (qjP (I:=λ_ (c:Option Unit×Unit) st'=>c.1=none/\∃n,Qi a₀ lo n st') (Q:=λc st'=>c.1=none/\∃n,Qi a₀ lo n st') ?_ (λ_ _ h=>h) ⟨rfl,_,⟨p,hS2,hk,hn⟩⟩) ?_)
    ·rintro j ⟨c0,c1⟩ st3 _ _ ⟨hc,n3,pG⟩;dsimp only at hc⊢;subst hc;refine qi8 (wpS_get ?_);have hsz:(pendingOf st3).size=n3:=by
      obtain⟨p3,rA,hk3,xY⟩:=pG;rw[rA.pend,xY]
     by_cases h2:(pendingOf st3).size > 1
     ·rw[if_pos h2]
      rcases hm:(pendingOf st3)[(pendingOf st3).size - 2]? with _|⟨x1,x2,older⟩
      ·exact qi7 ⟨rfl,_,pG⟩
      ·dsimp only;split
       ·exact qi7 ⟨rfl,_,pG⟩
       ·refine qi8 (u5 h0 pG hlo (by omega) λMJ Dr=>?_);exact qi7 ⟨rfl,_,Dr⟩
     ·rw[if_neg h2];exact qi7 ⟨rfl,_,pG⟩
    ·rintro⟨c0,c1⟩ st3 ⟨hc,n3,pG⟩;dsimp only at hc⊢;subst hc;dsimp only;refine qi8 (qkv (qi8 (qkv (qi7 ⟨rfl,hle,_,push n3 _ ?_⟩))));obtain⟨p3,rA,hk3,xY⟩:=pG;refine⟨_,⟨rA.perm,rA.kind,rA.failed,rfl⟩,?_,by show(Array.modify _ _ _).size=_;rw[Array.size_modify,rA.pend];exact xY⟩;rw[Array.toList_modify,rA.pend];exact hk3.power
  ·rw[if_neg hmr];refine qi8 (wpS_get ?_);have hpos:0<found:=hf1;have hle:lo+found<=a₀.size:=by omega
   have push:∀(n2:Nat)(st3:SortSt),Qi a₀ lo n2 st3->Qi a₀ (lo+found) (n2+1) (setPending st3 ((pendingOf st3).push (lo,found,0))):=λn2 st3 pG=>by
    obtain⟨p3,rA,hk3,xY⟩:=pG;refine⟨_,⟨rA.perm,rA.kind,rA.failed,rfl⟩,?_,by show(Array.push _ _).size=_;rw[qjc,rA.pend];exact qjB (· + 1) xY⟩;rw[rA.pend,qlb];exact hk3.snoc hpos
   rcases hb:(pendingOf st2).back? with _|⟨s1,n1,w1⟩
   ·dsimp only;exact qi8 (qkv (qi7 ⟨rfl,hle,_,push _ _ ⟨p,hS2,hk,hn⟩⟩))
   ·dsimp only;refine qi8 (qkr (qjP (I:=λ_ (c:Option Unit×Unit) st'=>c.1=none/\∃n,Qi a₀ lo n st') (Q:=λc st'=>c.1=none/\∃n,Qi a₀ lo n st') ?_ (λ_ _ h=>h) ⟨rfl,_,⟨p,hS2,hk,hn⟩⟩) ?_)
    ·rintro j ⟨c0,c1⟩ st3 _ _ ⟨hc,n3,pG⟩;dsimp only at hc⊢;subst hc;refine qi8 (wpS_get ?_);have hsz:(pendingOf st3).size=n3:=by
      obtain⟨p3,rA,hk3,xY⟩:=pG;rw[rA.pend,xY]
     by_cases h2:(pendingOf st3).size > 1
     ·rw[if_pos h2]
      rcases hm:(pendingOf st3)[(pendingOf st3).size - 2]? with _|⟨x1,x2,older⟩
      ·exact qi7 ⟨rfl,_,pG⟩
      ·dsimp only;split
       ·exact qi7 ⟨rfl,_,pG⟩
       ·refine qi8 (u5 h0 pG hlo (by omega) λMJ Dr=>?_);exact qi7 ⟨rfl,_,Dr⟩
     ·rw[if_neg h2];exact qi7 ⟨rfl,_,pG⟩
    ·rintro⟨c0,c1⟩ st3 ⟨hc,n3,pG⟩;dsimp only at hc⊢;subst hc;dsimp only;refine qi8 (qkv (qi8 (qkv (qi7 ⟨rfl,hle,_,push n3 _ ?_⟩))));obtain⟨p3,rA,hk3,xY⟩:=pG;refine⟨_,⟨rA.perm,rA.kind,rA.failed,rfl⟩,?_,by show(Array.modify _ _ _).size=_;rw[Array.size_modify,rA.pend];exact xY⟩;rw[Array.toList_modify,rA.pend];exact hk3.power
 ·rintro⟨c0,lo⟩ st1 ⟨hc,hlo,n,hP⟩;dsimp only at hc hlo hP⊢;subst hc;dsimp only;refine qi8 (qkr (qjP (I:=λ_ (c:Option Unit×Unit) st'=>c.1=none/\∃n,Qi a₀ lo n st') (Q:=λc st'=>c.1=none/\∃n,Qi a₀ lo n st') ?_ (λ_ _ h=>h) ⟨rfl,_,hP⟩) ?_)
  ·rintro j ⟨c0,c1⟩ st3 _ _ ⟨hc,n3,pG⟩;dsimp only at hc⊢;subst hc;refine qi8 (wpS_get ?_);have hsz:(pendingOf st3).size=n3:=by
    obtain⟨p3,rA,hk3,xY⟩:=pG;rw[rA.pend,xY]
   by_cases h2:(pendingOf st3).size<=1
   ·rw[if_pos h2];exact qi7 ⟨rfl,_,pG⟩
   ·rw[if_neg h2];refine qi8 (u5 h0 pG hlo ?_ λMJ Dr=>?_)
    ·rw[hsz] at h2⊢
     repeat' split
     all_goals omega
    ·exact qi7 ⟨rfl,_,Dr⟩
  ·rintro⟨c0,c1⟩ st3 ⟨hc,n3,pG⟩;dsimp only at hc⊢;subst hc;obtain⟨p3,rA,hk3,xY⟩:=pG;exact qi7 (h _ rA.perm rA.failed)
end
end L2
namespace L2
open PySem PySem.Spec PyProof.Rows
section
variable {X:Cx}{p_:QAC}{σ:St}{H:Hp}{s:Shared}{A:Around}{E:QAB}{D kS:Addr}{e e1:Nat}{vs:QAE}{kz:List Int}{P:PySem.Fin->Shared->Prop}
theorem Qj{st:SortSt}{keys:Array Value}(I:Inv X p_ σ H s)(RD:Rec X p_ H D)(RS:Rec X p_ H kS)(hka:kS≠D) (gD:s.heap.get? D=some (seqObj "list" #[] e1)) (gS:s.heap.get? kS=some (seqObj "list" keys e))
  (hsz:keys.size=vs.length) (hle:vs.length<=sizeLine) (hp:(arrOf st).Perm (keys.zip vs.toArray)) (hfl:failedOf st=none)
  (h:∀s' out c,Inv X p_ σ H s'->s'.heap.get? D=some (seqObj "list" out c)->out.toList.Perm vs->P (.done (.ret .none)) s') :
  wpAny (model X.prog X.w) A (ksk_tail D false e1 (.ref kS) st) P E s:=by
 have hl:(arrOf st).toList.Perm (keys.toList.zip vs):=by rw[<- ksk_zip];exact Array.perm_iff_toList_perm.mp hp
 have hout:((arrOf st).map (·.2)).toList.Perm vs:=by
  have h1:=hl.map Prod.snd;rw[List.map_snd_zip (by show vs.length<=keys.size;rw[hsz];exact qjb _)] at h1;rw[Array.toList_map];exact h1
 have hos:((arrOf st).map (·.2)).size=vs.length:=by have:=hout.length_eq;rwa [qkk] at this
 obtain⟨out,hO⟩:∃out,(arrOf st).map (λp:Keyed=>p.2)=out:=⟨_,rfl⟩;have hx:wpAny (model X.prog X.w) A (do
   Builtin.List.listUpdate (.ref kS) λ_=>#[]
   letGo ((arrOf st).map (λp:Keyed=>p.1)).toList (failedOf st).toList
   let touched:=(<- seqEpoch D) != e1
   Builtin.List.listUpdate (.ref D) λ_=>out
   if let some e:=failedOf st then rule "list.sort.comparison-raised";throw e
   if touched then rule "list.sort.modified";raiseError "ValueError" "list modified during sort"
   ret .none) P E s->wpAny (model X.prog X.w) A (ksk_tail D false e1 (.ref kS) st) P E s:=by
  subst hO;exact λz=>z
 refine hx ?_;clear hx;rw[hO] at hout hos;clear hO;have s1:=qkH s.heap kS (Obj.mapSeq λ_=>(#[]:Array Value));have gD1:(s.heap.update kS (Obj.mapSeq λ_=>(#[]:Array Value))).get? D=some (seqObj "list" #[] e1):=(s1.2 D hka.symm).trans gD;have s2:=qkH (s.heap.update kS (Obj.mapSeq λ_=>(#[]:Array Value))) D (Obj.mapSeq λ_=>out);obtain⟨c2,hc2⟩:∃c2,((s.heap.update kS (Obj.mapSeq λ_=>(#[]:Array Value))).update D (Obj.mapSeq λ_=>out)).get? D=some (seqObj "list" (out) c2):=
  ⟨_,get?_update_seq gD1 λ_=>out⟩
 have J1:=I.turn (t':=s.toks) RS (h':=s.heap.update kS (Obj.mapSeq λ_=>(#[]:Array Value))) λb o nb e=>(s1.2 b nb).trans e;have J2:=λtk=>J1.turn (t':=tk) RD (h':=(s.heap.update kS (Obj.mapSeq λ_=>(#[]:Array Value))).update D (Obj.mapSeq λ_=>out)) λb o nb e=>(s2.2 b nb).trans e;refine qi4 (listUpdate_at gS rfl ?_ (by rw[hsz];exact hle) (qjY _));refine qi4 (wpAny_letGo ?_);refine qi4 (seqEpoch_at gD1 rfl ?_);refine qi4 (listUpdate_at gD1 rfl ?_ (qjY _) (by show(out).size<=_;rw[hos];exact qkp hle));rw[hfl];simp only[bne_self_eq_false,qkh,qkQ];exact qi_ (h _ _ c2 (J2 _) hc2 hout)
theorem qcH{keys:Array Value}(I:Inv X p_ σ H s)(RD:Rec X p_ H D)(RS:Rec X p_ H kS)(hka:kS≠D) (gD:s.heap.get? D=some (seqObj "list" #[] e1)) (gS:s.heap.get? kS=some (seqObj "list" keys e))
  (hk:IntsAre keys.toList kz) (hlen:kz.length=vs.length) (hle:vs.length<=sizeLine)
  (h:∀s' out c,Inv X p_ σ H s'->s'.heap.get? D=some (seqObj "list" out c)->out.toList.Perm vs->P (.done (.ret .none)) s') :
  wpAny (model X.prog X.w) A (ksk_end D false vs.toArray e1 (.ref kS) keys) P E s:=by
 have hsz:keys.size=vs.length:=by
  have h1:=hk.length;rw[qkk] at h1;rw[h1];exact hlen
 unfold ksk_end;simp only[qkh,qkQ]
 by_cases h2:vs.toArray.size<2
 ·rw[if_pos h2,if_pos h2];refine qi4 (qi_ ?_);refine qi4 (qi_ ?_);exact Qj (st:=SortSt.mk' general' (keys.zip vs.toArray) #[] 7 none) I RD RS hka gD gS hsz hle (Array.Perm.refl _) rfl h
 ·rw[if_neg h2,if_neg h2];rw[qjj] at h2;rw[ksk_kind hk (by rw[hsz];omega)];refine qi4 (qi_ ?_);refine qi4 (qkd (Z8 (a₀:=keys.zip vs.toArray) (st:=SortSt.mk' oneType' (keys.zip vs.toArray) #[] 7 none)
   (Q:=λ_ st'=>(arrOf st').Perm (keys.zip vs.toArray)/\failedOf st'=none)
   (ksk_intKeys hk) ⟨Array.Perm.refl _,rfl,rfl,rfl⟩ λst' a1 a2=>⟨a1,a2⟩) ?_ λ_ _ e=>e)
  rintro⟨⟨⟩,st'⟩ s' ⟨rfl,hp,hf⟩
  try dsimp only
  exact Qj I RD RS hka gD gS hsz hle hp hf h
theorem Z9{q:Addr}{fo:Obj}{n:Nat}(I:Inv X p_ σ H s)(RD:Rec X p_ H D)(RS:Rec X p_ H kS)(hka:kS≠D) (gD:s.heap.get? D=some (seqObj "list" #[] e1)) (gS:s.heap.get? kS=some (seqObj "list" #[] e))
  (hlen:kz.length=vs.length) (hle:vs.length<=sizeLine) (nD:n<=D) (nS:n<=kS) (nq:n<=q) (hq:H q=none) (hfo:s.heap.get? q=some fo) (hqS:q≠kS)
  (turn:∀(i:Nat)(v:Value)(k:Int),vs[i]? = some v->kz[i]? = some k->∀s',Inv X p_ σ H s'->s'.heap.get? q=some fo->wpAny (model X.prog X.w) A (call (.ref q) [v]) (qa2 X p_ σ H n k s') (λ_ _=>False) s')
  (h:∀s' out c,Inv X p_ σ H s'->s'.heap.get? D=some (seqObj "list" out c)->out.toList.Perm vs->P (.done (.ret .none)) s') :
  wpAny (model X.prog X.w) A (ksk_rest D (.ref q) false vs.toArray e1 (.ref kS)) P E s:=by
 unfold ksk_rest;refine qi4 (qle ?_)
 first
  |rw[List.forIn_toArray]
  |(rw[<- Array.forIn_toList];simp only[List.toList_toArray])
  |rw[<- Array.forIn_toList]
 refine qi4 (ksk_fold (λi s'=>∃kA e,Inv X p_ σ H s'/\s'.heap.get? kS=some (seqObj "list" kA e)/\s'.heap.get? D=some (seqObj "list" #[] e1)/\s'.heap.get? q=some fo/\IntsAre kA.toList (kz.take i)) vs 0 s
  ⟨#[],e,I,gS,gD,hfo,by simpa using IntsAre.nil⟩ ?step ?done)
 case step=>
  rintro j x s' hx ⟨kA,e,I',gS',gD',gq',hk⟩;simp only[qjX] at hk⊢;have hj:j<vs.length:=(qi5.mp hx).1;obtain⟨k,hkj⟩:∃k,kz[j]? = some k:=⟨_,qjh (by rw[hlen];exact hj)⟩;have hz:kA.size<vs.length:=by
   have h1:=hk.length;rw[qkk,qji,hlen] at h1;exact Nat.lt_of_le_of_lt (qjx (Nat.le_of_eq h1) (Nat.min_le_left _ _)) hj
  refine qi4 (wpAny_attempt (qkd (turn j x k hx hkj s' I' gq') (λv s'' he=>?_) λ_ _ hF=>hF.elim));obtain⟨t2,rfl,I2,kp⟩:=he
  try dsimp only
  have nk:=kp kS _ nS RS.no gS';have na:=kp D _ nD RD.no gD';have gq:=kp q _ nq hq gq';have s1:=qkH s''.heap kS (Obj.mapSeq (·.push (.int k t2)));obtain⟨c2,hc2⟩:∃c2,(s''.heap.update kS (Obj.mapSeq (·.push (.int k t2)))).get? kS=some (seqObj "list" (kA.push (.int k t2)) c2):=⟨_,get?_update_seq nk (·.push (.int k t2))⟩;have ek:kz.take (j+1)=kz.take j++[k]:=by rw[List.take_add_one,hkj];simp
  have ea:(kA.push (Value.int k t2)).toList=kA.toList++[Value.int k t2]:=by simp
  refine qi4 (listUpdate_at nk rfl ?_ (qjx (qkC hz) hle) (qjx (Nat.le_of_eq (qjc ..)) (Nat.succ_le_succ (qjx (qkC hz) hle))));refine qi_ ⟨rfl,kA.push (.int k t2),c2,I2.turn (t':=s''.toks) RS λb o nb e=>(s1.2 b nb).trans e,hc2,(s1.2 D hka.symm).trans na,(s1.2 q hqS).trans gq,by rw[ea,ek];exact ksk_snoc hk⟩
 case done=>
  rintro s' ⟨kA,e,I',gS',gD',gq',hk⟩;have hk':IntsAre kA.toList kz:=by
   have e3:kz.take (0+vs.length)=kz:=qkZ (by rw[hlen,qjX];exact qjb _);rw[e3] at hk;exact hk
  try dsimp only
  refine qi4 (listItems_at gS' rfl ?_);exact qcH I' RD RS hka gD' gS' hk' hlen hle h
end
section
variable {X:Cx}{p_:QAC}{σ:St}{H:Hp}{s:Shared}
theorem Qk:∀{bs:List Addr}{its:QAE},Vals (bs.map V.ref) its->its=bs.map Value.ref
 |[],_,r=>by cases r;rfl
 |b::bs,_,r=>by
  cases r with
  |cons x y=>
   rw[Qk y];cases x;rfl
theorem Fg:∀(bs:List Addr),Vals (bs.map V.ref) (bs.map Value.ref)
 |[]=>.nil
 |b::bs=>.cons rfl (Fg bs)
theorem R0{l:QAE}{as:List Addr}(h:l.Perm (as.map Value.ref)):∃bs:List Addr,l=bs.map Value.ref/\bs.Perm as:=by
 have h1:=h.map (λv=>match v with|Value.ref a=>a|_=>0)
 rw[qkO] at h1;have e:as.map ((λv=>match v with|Value.ref a=>a|_=>0) ∘ Value.ref)=as:=by
  conv=>rhs;rw[<- List.map_id as]
  exact qkY λa _=>rfl
 rw[e] at h1;refine⟨_,?_,h1⟩;rw[qkO]
 conv=>lhs;rw[<- List.map_id l]
 refine qkY λv hv=>?_;obtain⟨a,_,rfl⟩:=qjv.mp (h.mem_iff.mp hv);rfl
theorem R3{Q:QAB}{l q:Addr}{fo:Obj}{as:List Addr}{n:Nat}(kf:Nat->Int)(I:Inv X p_ σ H s)
  (hl:aX X.K H l (as.map V.ref)) (hn:n<=s.heap.objs.size) (nq:n<=q) (hq:H q=none) (hfo:s.heap.get? q=some fo)
  (turn:∀i a,as[i]? = some a->∀s',Inv X p_ σ H s'->s'.heap.get? q=some fo->wpAny (model X.prog X.w) X.A.in1.in1 (call (.ref q) [.ref a]) (qa2 X p_ σ H n (kf i) s') (λ_ _=>False) s')
  (hQ:∀(D:Addr)(bs:List Addr)(s':Shared),bs.Perm as->H D=none->Inv X p_ σ (upd H D (.lst (bs.map V.ref))) s'->Q (.ref D) s') :
  wpAny (model X.prog X.w) X.A (call (.builtin "sorted") [.ref l] [(Str.ofString "key",.ref q)]) Q X.xe s:=by
 obtain⟨its,rv,pl,hsz⟩:=I.list hl;obtain rfl:=Qk rv;rw[qja] at hsz;have hle:(as.map Value.ref).length<=sizeLine:=by rw[qja];exact hsz
 have hls:=pl.isList;refine call_function_entry_kw kind_sorted plain_sorted entry_sorted (ksk_s1 _ _) ?_;unfold Builtin.«sorted»;refine qi4 (m:=checkCount "sorted" 1 1 _) (qi_ ?_);refine qi4 (collect_list hls ?_ hle);refine qi4 (wpAny_newList ?_ hle);have hu1:((s.heap.push (seqObj "list" #[] 0)).update s.heap.objs.size (Obj.mapSeq (·++(as.map Value.ref).toArray))).objs.size=s.heap.objs.size+1:=by
  rw[Heap.size_update,size_push']
 have qa4:∀b o,s.heap.get? b=some o->((s.heap.push (seqObj "list" #[] 0)).update s.heap.objs.size (Obj.mapSeq (·++(as.map Value.ref).toArray))).get? b=some o:=λb o q=>by
  have hlt:b<s.heap.objs.size:=qjd q;rw[Heap.get?_update_ne _ _ _ _ (qjn hlt),Heap.get?_push_ne _ _ _ (qjn hlt)];exact q
 generalize (s.heap.push (seqObj "list" #[] 0)).update s.heap.objs.size (Obj.mapSeq (·++(as.map Value.ref).toArray))=g1 at hu1 qa4⊢;have gD0:(g1.push (seqObj "list" (as.map Value.ref).toArray 0)).get? g1.objs.size=some (seqObj "list" (as.map Value.ref).toArray 0):=qjg _ rfl;refine qi4 (qkm (wpAny_call_entry_kw slot_list_sort ⟨_,gD0,rfl⟩ entry_list_sort ?body (ksk_l1 _ _)))
 case body=>
  have RD:Rec X p_ H g1.objs.size:=I.rcd (by rw[hu1];exact qkP _);show wpAny (model X.prog X.w) X.A.in1.in1 (Builtin.«list.sort» ⟨[.ref g1.objs.size],[(Str.ofString "key",.ref q)]⟩) _ _ _;rw[ksk_t1];unfold ksk_tree;have qlt:=qjd hfo;have s1:=qkH (g1.push (seqObj "list" (as.map Value.ref).toArray 0)) g1.objs.size (Obj.mapSeq λ_=>(#[]:Array Value));obtain⟨e1,ho1⟩:∃e1,((g1.push (seqObj "list" (as.map Value.ref).toArray 0)).update g1.objs.size (Obj.mapSeq λ_=>(#[]:Array Value))).get? g1.objs.size=some (seqObj "list" #[] e1):=⟨_,get?_update_seq gD0 λ_=>#[]⟩;have hu2:((g1.push (seqObj "list" (as.map Value.ref).toArray 0)).update g1.objs.size (Obj.mapSeq λ_=>(#[]:Array Value))).objs.size=g1.objs.size+1:=by rw[Heap.size_update,size_push']
  have W5:∀b o,s.heap.get? b=some o->((g1.push (seqObj "list" (as.map Value.ref).toArray 0)).update g1.objs.size (Obj.mapSeq λ_=>(#[]:Array Value))).get? b=some o:=λb o e=>by
   have hb:b≠g1.objs.size:=qjn (by rw[hu1];exact qj7 (qjd e));exact(s1.2 b hb).trans (qi6 _ (qa4 b o e))
  refine qi4 (listItems_at gD0 rfl ?_);refine qi4 (listUpdate_at gD0 rfl ?_ (by rw[qjj];exact hle) (qjY _));generalize (g1.push (seqObj "list" (as.map Value.ref).toArray 0)).update g1.objs.size (Obj.mapSeq λ_=>(#[]:Array Value))=g2 at ho1 hu2 W5⊢;refine qi4 (seqEpoch_at ho1 rfl ?_);refine qi4 (wpAny_newTuple ?_ hle);refine qi4 (wpAny_newList ?_ (qjY _));refine qkm ?_;have hu3:(g2.push (seqObj "tuple" (as.map Value.ref).toArray 0)).objs.size=g2.objs.size+1:=size_push' ..;have RS:Rec X p_ H (g2.push (seqObj "tuple" (as.map Value.ref).toArray 0)).objs.size:=I.rcd (by rw[hu3,hu2,hu1];exact qkp (qkp (qkP _)));have I1:Inv X p_ σ H {s with heap:=(g2.push (seqObj "tuple" (as.map Value.ref).toArray 0)).push (seqObj "list" #[] 0)}:=I.kept (t':=s.toks) λb o e=>qi6 _ (qi6 _ (W5 b o e));refine Z9 (s:={s with heap:=(g2.push (seqObj "tuple" (as.map Value.ref).toArray 0)).push (seqObj "list" #[] 0)}) (kz:=(List.range as.length).map kf) (n:=n) (q:=q) (fo:=fo) (e1:=e1) I1 RD RS (by rw[hu3,hu2];exact qkL (qj7 (qkK _)))
   (qi6 _ (qi6 _ ho1)) (qjg _ rfl) (by simp) hle (by rw[hu1];exact qkp hn) (by rw[hu3,hu2,hu1];exact qkp (qkp (qkp hn))) nq hq (qi6 _ (qi6 _ (W5 _ _ hfo)))
   (by rw[hu3,hu2,hu1];exact qjn (qj7 (qj7 (qj7 qlt)))) (λi v k hv hk s' I' hf'=>?_) λs' out c I' gD' hp=>⟨_,rfl,?_⟩
  ·rw[qje] at hv hk;cases ha:as[i]? with
   |none=>rw[ha] at hv;cases hv
   |some a=>
    rw[ha] at hv;have hi:i<as.length:=(qi5.mp ha).1;rw[List.getElem?_range hi] at hk;cases hv;cases hk;exact turn i a ha s' I' hf'
  ·obtain⟨bs,e,hb⟩:=R0 hp;refine qi_ ⟨_,rfl,hQ _ bs s' hb RD.no (I'.WM (qjx I.sz (by rw[hu1];exact qkP _)) (I.Dc (by rw[hu1];exact qkP _) RD.no) ⟨by rw[qja,hb.length_eq];exact hsz,out.toList,c,by rw[e];exact Fg bs,by rw[Array.toArray_toList];exact gD'⟩)⟩
end
abbrev Z_(ap:Pos):Arguments:={posonlyargs:=[],args:=[{arg:= "cut",annotation:=none,pos:=ap}],vararg:=none,kwonlyargs:=[],kw_defaults:=[],kwarg:=none,defaults:=[]}
abbrev cutScope:Scope:={kind:=.function,names:=[(Str.ofString "cut",.local),(Str.ofString "len",.globalImplicit)],isGenerator:=false,isCoroutine:=false,more:=[]}
def W6(K:W.Frag)(pos:Pos)(qual:Str)(P:Addr)(t:TA):TE:=λσ H Q=>t σ H λvs H1=>ar1 vs λx=>isRef x λl=>TabOk pos qual P H1/\∃as:List Addr,aX K H1 l (as.map V.ref)/\
 (∀a∈as,∃c r xs,dg K H1 a (V.ref c::r)/\aX K H1 c xs)/\
 ∀(D:Addr)(bs:List Addr)(H2:Hp),bs.Perm as->But P H1 H2->TabOk pos qual P H2->H1 D=none->H2 D=none->Q (.ref D) (upd H2 D (.lst (bs.map V.ref)))
section
variable {X:Cx}
theorem R4:aO ["cut"] ["cut"] cutScope:=⟨rfl,rfl,rfl,by decide,rfl,by decide,by decide⟩
theorem W7{K:W.Frag}{k:Nat}{c P:Addr}{e:Expr}{t:TA}{p pos lp ap np cp sp kp bp np2:Pos}{j:Nat}{qual:Str}(hK:X.K=K)(hr:fJ (k+3) X.A)(hc:X.env.code = .ref c)(C:W.CodeHd X.base c P)(hb:X.base.BuiltinsAt X.mg P)
  (hg:Gl X "sorted") (hm:X.mg "sorted" = none) (hml:X.mg "len" = none) (ha:PA X [e] t) (hqu:X.env.qual++ "<lambda>" = qual)
  (he:starEach [e] X.env=[(false,eval e X.env)]:=by rfl) :
  PE X (.Call (.Name "sorted" p) [e] [⟨some "key",.Lambda (Z_ ap) (.Call (.Name "len" np2) [.Subscript (.Name "cut" np) (.Constant (.int 0) j cp) sp] [] bp) cutScope lp,kp⟩] pos) (W6 K lp qual P t):=by
 subst hK hqu;intro p_ s σ H Q I h;refine qku (rD I hg hm boot_sorted ?_);refine callWith_kw (cF (ha pos p_ s σ H _ I h) λus s1 zz=>?_) (by rw[he];rfl) (by rw[he];rfl);obtain⟨vs,H1,I1,r1,q1⟩:=zz;obtain⟨x,rfl,q2⟩:=ar1.out q1;obtain⟨l,e1,hT,as,hl,hrow,qq⟩:=isRef.out (x:=x) q2;subst e1;obtain⟨u,rfl,ru⟩:=r1.one;obtain rfl:u=Value.ref l:=ru;refine kws_cons (W.kla_eval rfl ?_);refine WQ I1 hc C hb hT rfl λf c' pm ctv H2 s2 I2 hB hT2 hf hge hlt hnf hcq=>?_;refine kws_nil ?_;show wpAny _ X.A (call (.builtin "sorted") [.ref l] [(Str.ofString "key",.ref f)]) _ _ s2;obtain⟨ps,hP⟩:=hT.tb;have below:∀b∈frs X.stack,b<s1.heap.objs.size:=λb hb=>by
  obtain⟨_,o,ho,_⟩:=I1.stack.mem hb;exact qjd ho
 have key:∃kf:Nat->Int,∀i a,as[i]? = some a->∃c r xs,dg X.K H1 a (V.ref c::r)/\aX X.K H1 c xs/\kf i=(xs.length:Int):=by
  have:∀i:Nat,∃z:Int,∀a,as[i]? = some a->∃c r xs,dg X.K H1 a (V.ref c::r)/\aX X.K H1 c xs/\z=(xs.length:Int):=λi=>by
   cases hi:as[i]? with
   |none=>exact⟨0,λa h=>by cases h⟩
   |some a=>
    obtain⟨c,r,xs,h1,h2⟩:=hrow a (qi9 hi);exact⟨xs.length,λb h=>by cases h;exact⟨c,r,xs,h1,h2,rfl⟩⟩
  exact⟨λi=>Classical.choose (this i),λi=>Classical.choose_spec (this i)⟩
 obtain⟨kf,hkf⟩:=key;refine R3 kf I2 (hl.Z4 hP hB) (n:=s1.heap.objs.size) (qjx hge (qkC hlt)) hge hnf hf (λi a hi s3 I3 hf3=>?_) λD bs s3 hbs hD I3=>⟨.ref D,_,I3,rfl,qq D bs H2 hbs hB hT2 ?_ hD⟩
 ·obtain⟨c0,r,xs,hra,hcx,hk⟩:=hkf i a hi;have qhI:=hra.Z4 hP hB;have qhJ:=hcx.Z4 hP hB;have run:=Z2 (Q:=λv H'=>v = .int (kf i)/\H'=H2) (vs:=[.ref a]) (us:=[.ref a]) (N:=["cut"]) (ps:=["cut"]) (k:=k) hr.in1.in1 I3.env0.in1.in1 hf3 (I3.hok c' _ hcq).1 R4 rfl (.cons rfl .nil) rfl
   (aH (bY (K:=X.K) rfl) rfl hml qjo (aj (bW (cg (K:=X.K) rfl) (pv 0) aF (λ_ _=>rfl)) ao)) ?_
  ·refine qlu (qkt run λr s4 hq=>?_);cases r with
   |error e=>exact hq.elim
   |ok fl=>
    cases fl with
    |next=>exact False.elim hq
    |brk=>exact False.elim hq
    |cont=>exact False.elim hq
    |ret u=>
     have un:Un (frs X.stack) [] H2 H2 s3.heap s4.heap:=by
      obtain⟨v,H',_,_,un,_,_,_,rfl⟩:=hq;exact un
     obtain⟨v,H',I4,rv,rfl,rfl⟩:=I3.after hq;obtain⟨t,rfl⟩:=rv;exact⟨t,rfl,I4,λb o hn hb e=>un.keep b o e hb (λz=>absurd (below b z) (Nat.not_lt.mpr hn)) (by simp)⟩
  ·refine⟨.ref a,rfl,?_⟩;refine⟨V.ref c0::r,.inr qhI,V.ref c0,by simp[Ef,Vi],?_⟩;exact⟨xs,.inl qhJ,by rw[hk],rfl⟩
 ·cases q:H1 D with
  |none=>rfl
  |some u=>
   by_cases z:D=P
   ·rw[z] at hD;obtain⟨ps2,hP2⟩:=hT2.tb;rw[hP2] at hD;cases hD
   ·rw[hB _ _ z q] at hD;cases hD
@[simp ↓] theorem qex (K:W.Frag)(pos:Pos)(qual:Str)(P:Addr)(t:TA) σ H Q:W6 K pos qual P t σ H Q=(t σ H λvs H1=>ar1 vs λx=>isRef x λl=>TabOk pos qual P H1/\∃as:List Addr,aX K H1 l (as.map V.ref)/\
 (∀a∈as,∃c r xs,dg K H1 a (V.ref c::r)/\aX K H1 c xs)/\
 ∀(D:Addr)(bs:List Addr)(H2:Hp),bs.Perm as->But P H1 H2->TabOk pos qual P H2->H1 D=none->H2 D=none->Q (.ref D) (upd H2 D (.lst (bs.map V.ref)))):=rfl
end
theorem J8:∀{ns:List Int}{us:QAE},Vals (ns.map V.int) us->IntsAre us ns
 |[],_,r=>by cases r;exact .nil
 |n::ns,_,r=>by
  cases r with
  |cons x y=>
   obtain⟨t,rfl⟩:=x;exact .cons n t (J8 y)
section
variable {X:Cx}{K:W.Frag}
def W8(K:W.Frag):List V->Hp->VK->Prop:=λxs H Q=>ar1 xs λv=>isRef v λl=>∃(ns:List Int),aX K H l (ns.map V.int)/\ns.length<64/\∀(p:Addr)(ns':List Int),H p=none->ns'.Perm ns->ns'.Pairwise (·<=·)->Q (.ref p) (upd H p (.lst (ns'.map V.int)))
@[simp ↓] theorem qey K xs H Q:W8 K xs H Q=(ar1 xs λv=>isRef v λl=>∃(ns:List Int),aX K H l (ns.map V.int)/\ns.length<64/\∀(p:Addr)(ns':List Int),H p=none->ns'.Perm ns->ns'.Pairwise (·<=·)->Q (.ref p) (upd H p (.lst (ns'.map V.int)))):=rfl
theorem J9(hK:X.K=K):cA X (.builtin "sorted") (W8 K):=by
 subst hK;intro p_ s σ H xs us Q I r h;obtain⟨v,rfl,h⟩:=ar1.out h;obtain⟨l,rfl,ss,hl,h64,q⟩:=isRef.out h;obtain⟨u,rfl,ru⟩:=r.one;obtain rfl:u=Value.ref l:=ru;obtain⟨its,rv,pl,hz1⟩:=I.list hl;have hle:its.length=ss.length:=by
  have:=rv.length;simpa using this.symm
 refine sorted_ints pl.isList (J8 rv) (by omega) λout ss' a1 a2 a3=>?_;have I1:Inv X p_ σ H {s with heap:=sortedAll s.heap its out}:=I.kept (t':=s.toks) λ_ _=>sortedAll_old;have hn:H (s.heap.objs.size+1)=none:=I.hok.fresh (qkP _);obtain⟨e,he⟩:=sortedAll_at s.heap its out;have hlen:ss'.length<=sizeLine:=by
  rw[a2.length_eq];exact qjx (qkC h64) (by decide)
 exact⟨.ref (s.heap.objs.size+1),_,I1.WM (ob:=.lst (ss'.map V.int)) (qjx I.sz (qkP _)) (I.Dc (qkP _) hn) ⟨by rw[qja];exact hlen,out.toList,e,xu a1,he⟩,rfl,q _ _ hn a2 a3⟩
end
end L2
namespace L2
open PySem
def CZ(zs:QAH)(j:Nat):Str:=(zs[j]?).getD (Str.ofString "")
def jA(zs:QAH)(j:Nat):Str×Str:=(CZ zs (if j=0 then zs.length - 1 else j - 1),CZ zs j)
theorem W9{zs:QAH}{j:Nat}{x:Str}(h:zs[j]? = some x):CZ zs j=x:=by unfold CZ;rw[h];rfl
theorem rT{zs:QAH}{j:Nat}(h:j<zs.length):zs[j]? = some (CZ zs j):=by unfold CZ;rw[qjh h];rfl
theorem wI{zs:QAH}{j:Nat}(h:j<zs.length):CZ zs j∈zs:=qi9 (rT h)
inductive mD(xs:QAH):List (QAH)->Nat->Prop where
 |nil:mD xs [] 1
 |snoc {rs:List (QAH)}{m:Nat}{h:Str}{z:Nat}:mD xs rs m->h∈xs.take m->2<=z->m+z<=xs.length+1->mD xs (rs++[h::(xs.drop m).take (z - 1)]) (m+z - 1)
theorem Hu{xs:QAH}{m z:Nat}(hz:2<=z):xs.take (m+z - 1)=xs.take m++(xs.drop m).take (z - 1):=by
 rw[show m+z - 1=m+(z - 1) by omega,List.take_add]
theorem mD.pos{xs:QAH}{rs:List (QAH)}{m:Nat}(h:mD xs rs m):1<=m:=by
 cases h with
 |nil=>exact qjb _
 |snoc _ _ _ _=>omega
theorem mD.mem{xs:QAH}{rs:List (QAH)}{m:Nat}(h:mD xs rs m):∀R∈rs,∀x∈R,x∈xs.take m:=by
 induction h with
 |nil=>intro R hR;cases hR
 | @snoc rs m h z hh hm hz hl ih=>
  intro R hR x hx;rw[Hu hz,qjz]
  rcases qjz.mp hR with hR|hR
  ·exact .inl (ih R hR x hx)
  ·rw[qkg] at hR;subst hR
   rcases qjm.mp hx with rfl|hx
   ·exact .inl hm
   ·exact .inr hx
theorem u6{xs:QAH}{m z:Nat}(nd:xs.Nodup):∀x∈(xs.drop m).take z,¬x∈xs.take m:=λx h1 h2=>by
 have h3:=qlc h1;have e:(xs.take m++xs.drop m).Nodup:=by rw[qjT];exact nd
 exact(qla.mp e).2.2 x h2 x h3 rfl
theorem mD.ring{xs:QAH}{rs:List (QAH)}{m:Nat}(nd:xs.Nodup)(h:mD xs rs m):∀R∈rs,R.Nodup/\2<=R.length:=by
 induction h with
 |nil=>intro R hR;cases hR
 | @snoc rs m h z hh hm hz hl ih=>
  intro R hR
  rcases qjz.mp hR with hR|hR
  ·exact ih R hR
  ·rw[qkg] at hR;subst hR;refine⟨qj0.mpr ⟨λhx=>u6 nd _ hx hm,nd.sublist ((List.take_sublist _ _).trans (List.drop_sublist _ _))⟩,?_⟩;simp;omega
theorem mD.all{xs:QAH}{rs:List (QAH)}{m:Nat}(h:mD xs rs m)(h0:rs≠[]):∀x∈xs.take m,∃R∈rs,x∈R:=by
 induction h with
 |nil=>exact absurd rfl h0
 | @snoc rs m h z hh hm hz hl ih=>
  intro x hx;rw[Hu hz,qjz] at hx
  rcases hx with hx|hx
  ·by_cases e:rs=[]
   ·subst e;have:m=1:=by
     generalize hr:([]:List (QAH))=r at hh;cases hh with
     |nil=>rfl
     |snoc _ _ _ _=>simp at hr
    subst this;refine⟨_,qjH _ (qkg.mpr rfl),?_⟩;have:x=h:=by
     cases xs with
     |nil=>simp at hm
     |cons a r=>simp at hx hm;rw[hx,hm]
    rw[this];exact qjp
   ·obtain⟨R,hR,h2⟩:=ih e x hx;exact⟨R,qjR _ hR,h2⟩
  ·exact⟨_,qjH _ (qkg.mpr rfl),qjf _ hx⟩
theorem mD.con{xs:QAH}{rs:List (QAH)}{m:Nat}{J:Str->Str->Prop}(sym:∀a b,J a b->J b a)(h:mD xs rs m)(hJ:∀R∈rs,∀x∈R,∀y∈R,RT J x y):∀x∈xs.take m,∀y∈xs.take m,RT J x y:=by
 induction h with
 |nil=>
  intro x hx y hy;cases xs with
  |nil=>simp at hx
  |cons a r=>
   simp at hx hy;rw[hx,hy];exact .refl _
 | @snoc rs m h z hh hm hz hl ih=>
  have ih:=ih λR hR=>hJ R (qjR _ hR);have hR:=hJ _ (qjH rs (qkg.mpr rfl));have key:∀x∈xs.take (m+z - 1),RT J h x:=λx hx=>by
   rw[Hu hz,qjz] at hx
   rcases hx with hx|hx
   ·exact ih h hm x hx
   ·exact hR h qjp x (qjf _ hx)
  exact λx hx y hy=>((key x hx).symm sym).trans (key y hy)
theorem mD.draw{xs:QAH}{rs:List (QAH)}{m:Nat}(nd:xs.Nodup)(h:mD xs rs m)(f:Str->Prop):∀(k:Nat)(R:QAH),rs[k]? = some R->∃g:Str->Prop,(∀x∈R,g x↔f x)/\∀k' R',rs[k']? = some R'->k'≠k->∀x∈R',∀y∈R',g x↔g y:=by
 induction h with
 |nil=>intro k R hR;simp at hR
 | @snoc rs m h z hh hm hz hl ih=>
  intro k R hR
  by_cases hk:k<rs.length
  ·rw[qjr hk] at hR;obtain⟨g,g1,g2⟩:=ih k R hR;refine⟨λx=>(x∈xs.take m/\g x)\/(¬x∈xs.take m/\g h),λx hx=>?_,λk' R' hR' hne=>?_⟩
   ·have Yr:=hh.mem R (qi9 hR) x hx;rw[<- g1 x hx];exact⟨λa=>a.elim (λb=>b.2) λb=>absurd Yr b.1,λa=>.inl ⟨Yr,a⟩⟩
   ·by_cases hk':k'<rs.length
    ·rw[qjr hk'] at hR';intro x hx y hy;have Yr:=hh.mem R' (qi9 hR') x hx;have hym:=hh.mem R' (qi9 hR') y hy;have:=g2 k' R' hR' hne x hx y hy;exact⟨λa=>a.elim (λb=>.inl ⟨hym,this.mp b.2⟩) λb=>absurd Yr b.1,λa=>a.elim (λb=>.inl ⟨Yr,this.mpr b.2⟩) λb=>absurd hym b.1⟩
    ·have hkl:=(qi5.mp hR').1;rw[qjF,qkq] at hkl;have:k'=rs.length:=by omega
     subst this;simp at hR';subst hR';have one:∀x∈h::(xs.drop m).take (z - 1),((x∈xs.take m/\g x)\/(¬x∈xs.take m/\g h))↔g h:=λx hx=>by
      rcases qjm.mp hx with rfl|hx
      ·exact⟨λa=>a.elim (λb=>b.2) λb=>b.2,λa=>.inl ⟨hm,a⟩⟩
      ·have:=u6 nd x hx;exact⟨λa=>a.elim (λb=>absurd b.1 this) λb=>b.2,λa=>.inr ⟨this,a⟩⟩
     exact λx hx y hy=>(one x hx).trans (one y hy).symm
  ·have hkl:=(qi5.mp hR).1;rw[qjF,qkq] at hkl;have:k=rs.length:=by omega
   subst this;simp at hR;subst hR;refine⟨λx=>(x∈xs.take m/\f h)\/(¬x∈xs.take m/\f x),λx hx=>?_,λk' R' hR' hne x hx y hy=>?_⟩
   ·rcases qjm.mp hx with rfl|hx
    ·exact⟨λa=>a.elim (λb=>b.2) λb=>b.2,λa=>.inl ⟨hm,a⟩⟩
    ·have:=u6 nd x hx;exact⟨λa=>a.elim (λb=>absurd b.1 this) λb=>b.2,λa=>.inr ⟨this,a⟩⟩
   ·have hkl:=(qi5.mp hR').1;rw[qjF,qkq] at hkl;rw[qjr (by omega)] at hR';have Yr:=hh.mem R' (qi9 hR') x hx;have hym:=hh.mem R' (qi9 hR') y hy;exact⟨λa=>a.elim (λb=>.inl ⟨hym,b.2⟩) λb=>absurd Yr b.1,λa=>a.elim (λb=>.inl ⟨Yr,b.2⟩) λb=>absurd hym b.1⟩
abbrev T4:=(Str×Str)×Nat×Nat×Nat
def uF(R:QAH)(j:Nat)(d:T4):Prop:=d.2.1<2/\(d.1=jA R j\/d.1=((jA R j).2,(jA R j).1))/\
 ((d.2.2.2=0/\zq d.2.1 d.1=(jA R j).1/\Dn d.2.1 d.1=(jA R j).2)\/(d.2.2.2=1/\zq d.2.1 d.1=(jA R j).2/\Dn d.2.1 d.1=(jA R j).1))
structure Nk(rs:List (QAH))(ds:List T4)(L:List (Nat×Nat)):Prop where
 nd:L.Nodup
 len:L.length=ds.length
 mem:∀k j,(k,j)∈L↔∃R,rs[k]? = some R/\j<R.length
 at_:∀(i k j:Nat)(d:T4),L[i]? = some (k,j)->ds[i]? = some d->d.2.2.1=k/\∃R,rs[k]? = some R/\uF R j d
theorem round{R:QAH}{P:Str->Prop}(h:∀j,j<R.length->P (jA R j).1->P (jA R j).2){i:Nat}(hi:i<R.length)(hP:P (CZ R i)):∀j,j<R.length->P (CZ R j):=by
 have up:∀d i,i+d<R.length->P (CZ R i)->P (CZ R (i+d)):=by
  intro d
  induction d with
  |zero=>intro i _ h;exact h
  |succ d ih=>
   intro i hd hp;have:=h (i+d+1) (by omega);unfold jA at this;rw[if_neg (by omega)] at this;exact this (ih i (by omega) hp)
 have last:=up (R.length - 1 - i) i (by omega) hP;rw[show i+(R.length - 1 - i)=R.length - 1 by omega] at last;have first:=h 0 (by omega);unfold jA at first;rw[if_pos rfl] at first;intro j hj;have:=up j 0 (by omega) (first last)
 rwa [qjX] at this
theorem Nk.tie{rs:List (QAH)}{ds:List T4}{L:List (Nat×Nat)}(c:Nk rs ds L){k j:Nat}{R:QAH}(hR:rs[k]? = some R)(hj:j<R.length):∃(i:Nat)(d:T4),L[i]? = some (k,j)/\ds[i]? = some d/\d.2.2.1=k/\uF R j d:=by
 obtain⟨i,hi⟩:=qj8 ((c.mem k j).mpr ⟨R,hR,hj⟩);have hil:i<ds.length:=by rw[<- c.len];exact(qi5.mp hi).1
 refine⟨i,ds[i],hi,qjh hil,?_⟩;obtain⟨a,R',hR',b⟩:=c.at_ i k j _ hi (qjh hil);rw[hR] at hR';cases hR';exact⟨a,b⟩
theorem Nk.of{rs:List (QAH)}{ds:List T4}{L:List (Nat×Nat)}(c:Nk rs ds L){i:Nat}{d:T4}(hd:ds[i]? = some d):∃(j:Nat)(R:QAH),L[i]? = some (d.2.2.1,j)/\rs[d.2.2.1]? = some R/\j<R.length/\uF R j d:=by
 have hil:i<L.length:=by rw[c.len];exact(qi5.mp hd).1
 obtain⟨k,j,hL⟩:∃k j,L[i]? = some (k,j):=⟨_,_,qjh hil⟩;obtain⟨a,R,hR,b⟩:=c.at_ i k j d hL hd;subst a;obtain⟨R',h1,h2⟩:=(c.mem _ j).mp (qi9 hL);rw[hR] at h1;cases h1;exact⟨j,R,hL,hR,h2,b⟩
theorem xZ{R:QAH}{j:Nat}(hj:j<R.length):(if j=0 then R.length - 1 else j - 1)<R.length:=by split <;> omega
theorem uF.ends{R:QAH}{j:Nat}{d:T4}(hj:j<R.length)(h:uF R j d):(∃p,p<R.length/\d.1.1=CZ R p)/\∃p,p<R.length/\d.1.2=CZ R p:=by
 obtain⟨_,h|h,_⟩:=h
 ·rw[h];exact⟨⟨_,xZ hj,rfl⟩,_,hj,rfl⟩
 ·rw[h];exact⟨⟨_,hj,rfl⟩,_,xZ hj,rfl⟩
theorem uF.cross{R:QAH}{j:Nat}{d:T4}{g:Str->Prop}(h:uF R j d):(g d.1.1↔g d.1.2)↔(g (jA R j).1↔g (jA R j).2):=by
 obtain⟨_,h|h,_⟩:=h
 ·rw[h]
 ·rw[h];exact⟨Iff.symm,Iff.symm⟩
def jG(g:Str->Prop)(d:T4):Prop:=¬g (zq d.2.1 d.1)/\g (Dn d.2.1 d.1)
theorem Nk.alt{rs:List (QAH)}{ds:List T4}{L:List (Nat×Nat)}(c:Nk rs ds L){g:Str->Prop}(hg:∀d∈ds,¬jG g d){i:Nat}{d:T4}(hd:ds[i]? = some d)(hx:¬(g d.1.1↔g d.1.2)) :
  ∀w,w<2->∃(i':Nat)(d':T4),ds[i']? = some d'/\d'.2.2.1=d.2.2.1/\d'.2.2.2=w/\¬(g d'.1.1↔g d'.1.2):=by
 intro w hw;apply qjA;intro hno;obtain⟨j,R,hL,hR,hj,ht⟩:=c.of hd;obtain⟨⟨p,hp,ep⟩,q,hq,eq⟩:=ht.ends hj;rw[ep,eq] at hx;have st:∀b,b<R.length->((g (jA R b).1↔g (jA R b).2)\/∃d'∈ds,uF R b d'/\d'.2.2.2≠w):=λb hb=>by
  obtain⟨i',d',h1,h2,h3,h4⟩:=c.tie hR hb
  by_cases e:d'.2.2.2=w
  ·refine Or.inl ?_
   apply qjA;intro h;exact hno ⟨i',d',h2,h3,e,λz=>h (h4.cross.mp z)⟩
  ·exact .inr ⟨d',qi9 h2,h4,e⟩
 have w01:w=0\/w=1:=by omega
 rcases w01 with rfl|rfl
 ·have key:=fun(i:Nat) (hi:i<R.length) (hP:g (CZ R i))=>round (R:=R) (P:=g) (i:=i) (λb hb h=>by
   rcases st b hb with e|⟨d',hd',⟨_,_,h4⟩,e⟩
   ·exact e.mp h
   ·rcases h4 with h4|h4
    ·exact absurd h4.1 e
    ·have:=hg d' hd';unfold jG at this;rw[h4.2.1,h4.2.2] at this;exact qjA λz=>this ⟨z,h⟩) hi hP
  exact hx ⟨λa=>key p hp a q hq,λa=>key q hq a p hp⟩
 ·have key:=fun(i:Nat) (hi:i<R.length) (hP:¬g (CZ R i))=>round (R:=R) (P:=λx=>¬g x) (i:=i) (λb hb h=>by
   rcases st b hb with e|⟨d',hd',⟨_,_,h4⟩,e⟩
   ·exact λz=>h (e.mpr z)
   ·rcases h4 with h4|h4
    ·have:=hg d' hd';unfold jG at this;rw[h4.2.1,h4.2.2] at this;exact λz=>this ⟨h,z⟩
    ·exact absurd h4.1 e) hi hP
  exact hx ⟨λa=>qjA λz=>key q hq z p hp a,λa=>qjA λz=>key p hp z q hq a⟩
theorem Nk.pair{xs:QAH}{m:Nat}{rs:List (QAH)}{ds:List T4}{L:List (Nat×Nat)}(nd:xs.Nodup)(hh:mD xs rs m)(c:Nk rs ds L){i1 i2:Nat}{d1 d2:T4}(h1:ds[i1]? = some d1)(h2:ds[i2]? = some d2)(hk:d1.2.2.1=d2.2.2.1)(c1:d1.2.2.2=0)(c2:d2.2.2.2=1) :
  ∃g:Str->Prop,(∀d∈ds,¬jG g d)/\∀(i:Nat)(d:T4),ds[i]? = some d->((g d.1.1↔g d.1.2)↔(i≠i1/\i≠i2)):=by
 obtain⟨a,R,hL1,hR,ha,ht1⟩:=c.of h1;obtain⟨b,R',hL2,hR',hb,R5⟩:=c.of h2;rw[<- hk] at hR' hL2;rw[hR] at hR';cases hR';have rnd:=(hh.ring nd R (qi9 hR)).1;have hab:a≠b:=λz=>by
  subst z;have:=pK c.nd hL1 hL2;subst this;rw[h1] at h2;cases h2;rw[c1] at c2;cases c2
 obtain⟨lo,hlo⟩:∃lo,lo=min a b:=⟨_,rfl⟩;obtain⟨hi,hhi⟩:∃hi,hi=max a b:=⟨_,rfl⟩;have arc:∀p,p<R.length->((∃q,R[q]? = some (CZ R p)/\lo<=q/\q<hi)↔lo<=p/\p<hi):=λp hp=>⟨λ⟨q,hq,z⟩=>by rw[pK rnd (rT hp) hq];exact z,λz=>⟨p,rT hp,z⟩⟩;obtain⟨g,g1,g2⟩:=hh.draw nd (λx=>(∃q,R[q]? = some x/\lo<=q/\q<hi)↔b<a) _ R hR;have gp:∀p,p<R.length->(g (CZ R p)↔((lo<=p/\p<hi)↔b<a)):=λp hp=>by rw[g1 _ (wI hp),arc p hp]
 have own:∀(i:Nat)(d:T4),ds[i]? = some d->((g d.1.1↔g d.1.2)↔(i≠i1/\i≠i2))/\¬jG g d:=λi d hd=>by
  obtain⟨j,Q,hL,hQ,hj,ht⟩:=c.of hd;rw[ht.cross]
  by_cases hkk:d.2.2.1=d1.2.2.1
  ·rw[hkk] at hQ hL;rw[hR] at hQ;cases hQ;have i1e:i=i1↔j=a:=⟨λz=>by subst z;rw[hL1] at hL;cases hL;rfl,λz=>by subst z;exact pK c.nd hL hL1⟩;have i2e:i=i2↔j=b:=⟨λz=>by subst z;rw[hL2] at hL;cases hL;rfl,λz=>by subst z;exact pK c.nd hL hL2⟩;have e1:(g (jA R j).1↔_):=gp _ (xZ hj);have e2:(g (jA R j).2↔_):=gp _ hj;constructor
   ·rw[e1,e2,show(i≠i1/\i≠i2)↔(j≠a/\j≠b) from by rw[Ne,Ne,i1e,i2e]];split <;> omega
   ·rintro⟨z1,z2⟩;have cl1:j=a->d.2.2.2=0:=λz=>by
     have:=i1e.mpr z;subst this;rw[h1] at hd;cases hd;exact c1
    have cl2:j=b->d.2.2.2=1:=λz=>by
     have:=i2e.mpr z;subst this;rw[h2] at hd;cases hd;exact c2
    rcases ht.2.2 with⟨h0,o1,o2⟩|⟨h0,o1,o2⟩
    ·rw[o1,e1] at z1;rw[o2,e2] at z2;have hjb:j≠b:=λz=>by have:=cl2 z;omega
     revert z1 z2;split <;> omega
    ·rw[o1,e2] at z1;rw[o2,e1] at z2;have hja:j≠a:=λz=>by have:=cl1 z;omega
     revert z1 z2;split <;> omega
  ·have hm1:CZ Q (if j=0 then Q.length - 1 else j - 1)∈Q:=wI (xZ hj)
   have hm2:CZ Q j∈Q:=wI hj;have eq:g (jA Q j).1↔g (jA Q j).2:=g2 _ Q hQ hkk _ hm1 _ hm2;refine⟨⟨λ_=>⟨λz=>?_,λz=>?_⟩,λ_=>eq⟩,?_⟩
   ·subst z;rw[h1] at hd;cases hd;exact hkk rfl
   ·subst z;rw[h2] at hd;cases hd;exact hkk hk.symm
   ·rintro⟨z1,z2⟩
    rcases ht.2.2 with⟨h0,o1,o2⟩|⟨h0,o1,o2⟩
    ·rw[o1] at z1;rw[o2] at z2;exact z1 (eq.mpr z2)
    ·rw[o1] at z1;rw[o2] at z2;exact z1 (eq.mp z2)
 refine⟨g,λd hd=>?_,λi d hd=>(own i d hd).1⟩;obtain⟨i,hi⟩:=qj8 hd;exact(own i d hi).2
theorem J_:∀{l m:List Nat},l.Nodup->(∀x∈l,x∈m)->m.length<=l.length->m.Perm l
 |[],m,_,_,hl=>by
  have:m=[]:=qkA.mp (by simpa using hl);rw[this]
 |a::l,m,nd,hs,hl=>by
  obtain⟨n1,n2⟩:=qj0.mp nd;have ha:=hs a qjp;refine(List.perm_cons_erase ha).trans (List.Perm.cons a (J_ n2 (λx hx=>?_) ?_))
  ·exact(List.mem_erase_of_ne λz=>n1 (by rw[<- z];exact hx)).mpr (hs x (qjf _ hx))
  ·rw[List.length_erase_of_mem ha];simp at hl;omega
theorem split_len{α:Type}(p q:α->Bool):∀l:List α,(l.filter p).length=(l.filter λx=>p x && q x).length+(l.filter λx=>p x && !q x).length
 |[]=>rfl
 |a::l=>by
  have ih:=split_len p q l;simp only[List.filter_cons];cases p a <;> cases q a <;> simp <;> omega
theorem W_:∀{l m:List Nat},m.Nodup->l.length<=m.length->∃f:Nat->Nat,(∀i∈l,f i∈m)/\∀i∈l,∀j∈l,f i=f j->i=j
 |[],m,_,_=>⟨id,λi h=>(by cases h),λi h=>(by cases h)⟩
 |a::l,[],_,h=>by simp at h
 |a::l,b::m,nd,h=>by
  obtain⟨n1,n2⟩:=qj0.mp nd;obtain⟨f,f1,f2⟩:=W_ (l:=l) n2 (by simpa using h);refine⟨λi=>if i=a then b else f i,λi hi=>?_,λi hi j hj=>?_⟩
  ·by_cases e:i=a
   ·simp[e]
   ·simp only[e,qkQ];exact qjf _ (f1 i ((qjm.mp hi).resolve_left e))
  ·by_cases e:i=a <;> by_cases e2:j=a
   ·exact λ_=>e.trans e2.symm
   ·simp only[e,e2,qlj,qkQ];exact λz=>absurd (z▸f1 j ((qjm.mp hj).resolve_left e2)) n1
   ·simp only[e,e2,qlj,qkQ];exact λz=>absurd (z▸f1 i ((qjm.mp hi).resolve_left e)) n1
   ·simp only[e,e2,qkQ];exact λz=>f2 i ((qjm.mp hi).resolve_left e) j ((qjm.mp hj).resolve_left e2) z
def rW(n:Nat)(rg cl s:Nat->Nat):List Nat:=(List.range n).filter λi=>decide (cl i=s (rg i))
def k_(n:Nat)(rg cl:Nat->Nat)(k w:Nat):List Nat:=(List.range n).filter λi=>decide (rg i=k/\cl i=w)
theorem zG{n:Nat}{rg cl s:Nat->Nat}{i:Nat}:i∈rW n rg cl s↔i<n/\cl i=s (rg i):=by simp[rW]
theorem zH{n:Nat}{rg cl:Nat->Nat}{k w i:Nat}:i∈k_ n rg cl k w↔i<n/\rg i=k/\cl i=w:=by simp[k_]
theorem qcI{n:Nat}{rg cl:Nat->Nat}{k w:Nat}:(k_ n rg cl k w).Nodup:=List.nodup_range.sublist qlh
theorem Xa{n:Nat}{rg cl s:Nat->Nat}:(rW n rg cl s).Nodup:=List.nodup_range.sublist qlh
theorem Fi{n:Nat}{rg cl s:Nat->Nat}(k:Nat):(rW n rg cl s).length=(k_ n rg cl k (s k)).length+((List.range n).filter λi=>decide (cl i=s (rg i)) && !decide (rg i=k)).length:=by
 unfold rW k_;rw[split_len _ λi=>decide (rg i=k)];congr 2;refine qls λi _=>?_;rw[<- Bool.decide_and,qk1];exact⟨λz=>⟨z.2,by rw[<- z.2];exact z.1⟩,λz=>⟨by rw[z.1];exact z.2,z.1⟩⟩
theorem qaa{β:Type}(b0:β){n:Nat}{rg cl:Nat->Nat}{zs:List (List Nat×β)}{ks:List Nat}(H0:∀i,i<n->cl i<2)
  (H1:∀i1 i2,i1<n->i2<n->rg i1=rg i2->cl i1=0->cl i2=1->∃z∈zs,∀i,i∈z.1↔i=i1\/i=i2)
  (H2:∀z∈zs,∃k,∀w,w<2->∃i∈z.1,i<n/\rg i=k/\cl i=w)
  (hit:∀z∈zs,∃i∈z.1,i∈ks) (few:∀N:List Nat,(∀z∈zs,∃i∈z.1,i∈N)->ks.length<=N.length) :
  ∃s:Nat->Nat,(∀k,s k<2)/\ks.Perm (rW n rg cl s)/\(∀k,(k_ n rg cl k (s k)).length<=(k_ n rg cl k (1 - s k)).length)/\
   ∃G:Nat->List Nat×β,∀i∈ks,G i∈zs/\i∈(G i).1/\∀j∈ks,j≠i->∀t∈(G i).1,¬t∈(G j).1:=by
 obtain⟨s,hs⟩:∃s:Nat->Nat,∀k,s k<2/\∀i,i<n->rg i=k->cl i=s k->i∈ks:=by
  refine Classical.axiomOfChoice (r:=λk w=>w<2/\∀i,i<n->rg i=k->cl i=w->i∈ks) λk=>?_
  by_cases h:∀i,i<n->rg i=k->cl i=0->i∈ks
  ·exact⟨0,by omega,h⟩
  ·refine⟨1,by omega,λi2 hi2 hk2 hc2=>qjA λhn=>h λi1 hi1 hk1 hc1=>?_⟩;obtain⟨z,hz,hzi⟩:=H1 i1 i2 hi1 hi2 (hk1.trans hk2.symm) hc1 hc2;obtain⟨i,hi,hik⟩:=hit z hz
   rcases(hzi i).mp hi with rfl|rfl
   ·exact hik
   ·exact absurd hik hn
 have qez:∀s:Nat->Nat,(∀k,s k<2)->∀z∈zs,∃i∈z.1,i∈rW n rg cl s:=λs hs z hz=>by
  obtain⟨k,hk⟩:=H2 z hz;obtain⟨i,hi,hin,hr,hc⟩:=hk (s k) (hs k);exact⟨i,hi,zG.mpr ⟨hin,by rw[hc,hr]⟩⟩
 have s2:=λk=>(hs k).1;have hp:ks.Perm (rW n rg cl s):=J_ Xa (λi hi=>by
  obtain⟨a,b⟩:=zG.mp hi;exact(hs (rg i)).2 i a rfl b) (few _ (qez s s2))
 have hle:∀k,(k_ n rg cl k (s k)).length<=(k_ n rg cl k (1 - s k)).length:=λk=>by
  have h1:=few _ (qez (λj=>if j=k then 1 - s k else s j) λj=>by
   split
   ·omega
   ·exact s2 j)
  rw[hp.length_eq,Fi k,Fi k] at h1;rw[if_pos rfl] at h1;have:((List.range n).filter λi=>decide (cl i=if rg i=k then 1 - s k else s (rg i)) && !decide (rg i=k))=((List.range n).filter λi=>decide (cl i=s (rg i)) && !decide (rg i=k)):=by
   refine qls λi _=>?_
   by_cases e:rg i=k
   ·simp[e]
   ·simp[e]
  rw[this] at h1;omega
 refine⟨s,s2,hp,hle,?_⟩;obtain⟨f,hf⟩:=Classical.axiomOfChoice (r:=λk (f:Nat->Nat)=>(∀i∈k_ n rg cl k (s k),f i∈k_ n rg cl k (1 - s k))/\∀i∈k_ n rg cl k (s k),∀j∈k_ n rg cl k (s k),f i=f j->i=j) λk=>W_ qcI (hle k);have inO:∀i∈ks,i<n/\cl i=s (rg i)/\i∈k_ n rg cl (rg i) (s (rg i)):=λi hi=>by
  obtain⟨a,b⟩:=zG.mp (hp.mem_iff.mp hi);exact⟨a,b,zH.mpr ⟨a,rfl,b⟩⟩
 have ex:∀i,∃z:List Nat×β,i∈ks->z∈zs/\∀t,t∈z.1↔t=i\/t=f (rg i) i:=λi=>by
  by_cases hi:i∈ks
  ·obtain⟨a,b,c⟩:=inO i hi;obtain⟨p1,p2,p3⟩:=zH.mp ((hf (rg i)).1 i c);have:=s2 (rg i);have e01:s (rg i)=0\/s (rg i)=1:=by omega
   rcases e01 with e|e
   ·obtain⟨z,hz,hzi⟩:=H1 i (f (rg i) i) a p1 p2.symm (by omega) (by omega);exact⟨z,λ_=>⟨hz,hzi⟩⟩
   ·obtain⟨z,hz,hzi⟩:=H1 (f (rg i) i) i p1 a p2 (by omega) (by omega);exact⟨z,λ_=>⟨hz,λt=>(hzi t).trans Or.comm⟩⟩
  ·exact⟨([],b0),λz=>absurd z hi⟩
 obtain⟨G,hG⟩:=Classical.axiomOfChoice ex;refine⟨G,λi hi=>⟨(hG i hi).1,((hG i hi).2 i).mpr (.inl rfl),λj hj hne t ht hu=>?_⟩⟩;obtain⟨a,b,c⟩:=inO i hi;obtain⟨a',b',c'⟩:=inO j hj;obtain⟨p1,p2,p3⟩:=zH.mp ((hf (rg i)).1 i c);obtain⟨q1,q2,q3⟩:=zH.mp ((hf (rg j)).1 j c');have u1:=s2 (rg i);have u2:=s2 (rg j)
 rcases((hG i hi).2 t).mp ht with e|e <;> rcases((hG j hj).2 t).mp hu with e'|e'
 ·exact hne (e'.symm.trans e)
 ·have:i=f (rg j) j:=e.symm.trans e';rw[<- this] at q2 q3;rw[<- q2] at q3 u2;omega
 ·have:j=f (rg i) i:=e'.symm.trans e;rw[<- this] at p2 p3;rw[<- p2] at p3 u1;omega
 ·have hr:rg i=rg j:=p2.symm.trans ((qjB rg (e.symm.trans e')).trans q2);rw[e,hr] at e';rw[hr] at c;exact hne ((hf (rg j)).2 i c j c' e').symm
theorem Xb{J:Str->Str->Prop}(sym:∀a b,J a b->J b a){r:Nat->Str}{n j0:Nat}(h1:∀j,0<j->j<n->j≠j0->J (r (j - 1)) (r j))(h0:0≠j0->0<n->J (r (n - 1)) (r 0)):∀j,j<n->RT J (r 0) (r j):=by
 have up:∀j,j<n->(j<j0\/j0=0)->RT J (r 0) (r j):=by
  intro j
  induction j with
  |zero=>intro _ _;exact .refl _
  |succ j ih=>
   intro hj hz;exact .tail (ih (by omega) (by omega)) (h1 (j+1) (by omega) hj (by omega))
 have down:∀d,d<n->j0<=n - 1 - d->0<j0->RT J (r 0) (r (n - 1 - d)):=by
  intro d
  induction d with
  |zero=>intro hd _ hz;exact .one (sym _ _ (h0 (by omega) (by omega)))
  |succ d ih=>
   intro hd hj hz;have:=h1 (n - 1 - d) (by omega) (by omega) (by omega);rw[show n - 1 - d - 1=n - 1 - (d+1) by omega] at this;exact .tail (ih (by omega) (by omega) hz) (sym _ _ this)
 intro j hj
 by_cases h:j<j0\/j0=0
 ·exact up j hj h
 ·have:=down (n - 1 - j) (by omega) (by omega) (by omega);rw[show n - 1 - (n - 1 - j)=j by omega] at this;exact this
theorem Nk.con{xs:QAH}{m:Nat}{rs:List (QAH)}{ds:List T4}{L:List (Nat×Nat)}(hh:mD xs rs m)(c:Nk rs ds L)(t:Nat):∀x∈xs.take m,∀y∈xs.take m,RT (ig (λi=>i≠t) (ds.map (·.1))) x y:=by
 have sym:∀a b,ig (λi=>i≠t) (ds.map (·.1)) a b->ig (λi=>i≠t) (ds.map (·.1)) b a:=λa b h=>h.symm;refine hh.con sym λR hR x hx y hy=>?_;obtain⟨k,hk⟩:=qj8 hR;obtain⟨j0,hj0⟩:∃j0,∀j,j<R.length->j≠j0->∀i:Nat,L[i]? = some (k,j)->i≠t:=by
  by_cases h:∃j,L[t]? = some (k,j)
  ·obtain⟨j,h⟩:=h;exact⟨j,λj' _ hne i hi z=>by subst z;rw[h] at hi;cases hi;exact hne rfl⟩
  ·exact⟨0,λj' _ hne i hi z=>by subst z;exact h ⟨j',hi⟩⟩
 have one:∀j,j<R.length->j≠j0->ig (λi=>i≠t) (ds.map (·.1)) (jA R j).1 (jA R j).2:=λj hj hne=>by
  obtain⟨i,d,h1,h2,_,h4⟩:=c.tie hk hj;refine⟨i,hj0 j hj hne i h1,?_⟩;rw[qje,h2]
  rcases h4.2.1 with e|e
  ·exact .inl (qjB some e)
  ·exact .inr (qjB some e)
 have con:=Xb sym (r:=CZ R) (n:=R.length) (j0:=j0) (λj h1 h2 h3=>by
  have:=one j h2 h3;unfold jA at this
  rwa [if_neg (by omega)] at this) (λh1 h2=>by
  have:=one 0 h2 h1;unfold jA at this
  rwa [if_pos rfl] at this)
 obtain⟨i,hi⟩:=qj8 hx;obtain⟨j,hj⟩:=qj8 hy;have ei:=W9 hi;have ej:=W9 hj;subst ei ej;exact((con i (qi5.mp hi).1).symm sym).trans (con j (qi5.mp hj).1)
theorem Nk.in_{xs:QAH}{m:Nat}{rs:List (QAH)}{ds:List T4}{L:List (Nat×Nat)}(nd:xs.Nodup)(hh:mD xs rs m)(c:Nk rs ds L):∀d∈ds,d.1.1∈xs.take m/\d.1.2∈xs.take m/\d.1.1≠d.1.2:=λd hd=>by
 obtain⟨i,hi⟩:=qj8 hd;obtain⟨j,R,_,hR,hj,ht⟩:=c.of hi;have hm:=hh.mem R (qi9 hR);obtain⟨rnd,r2⟩:=hh.ring nd R (qi9 hR);have ne:(jA R j).1≠(jA R j).2:=λz=>by
  have h1:=rT (xZ hj);have h2:=rT hj;have z:CZ R (if j=0 then R.length - 1 else j - 1)=CZ R j:=z
  rw[z] at h1;have:=pK rnd h1 h2;split at this <;> omega
 have m1:=hm _ (wI (xZ hj));have m2:=hm _ (wI hj)
 rcases ht.2.1 with e|e
 ·rw[e];exact⟨m1,m2,ne⟩
 ·rw[e];exact⟨m2,m1,ne.symm⟩
end L2
local macro_rules | `(tactic| rfl') => `(tactic| exact ⟨rfl, by decide +kernel, by decide +kernel, rfl, by decide +kernel, by decide +kernel⟩)
local macro_rules | `(tactic| left) => `(tactic| simp -dsimp [L2.au,L2.stC,-Bool.exists_bool,-List.map_take,-Prod.forall,-Prod.exists])
local macro_rules | `(tactic| symm) => `(tactic| decide +kernel)
local macro_rules | `(tactic| exists $H, $p, $v, $s:ident, $e:ident, $G:ident, $h) => `(tactic| (have $s : L2.Same $H (L2.upd $H $p $v) := L2.aq $h; have $e : L2.upd $H $p $v $p = some $v := L2.ak; generalize L2.upd $H $p $v = $G at $s:ident $e:ident ⊢))
local macro_rules | `(tactic| exists $a, $b) => `(tactic| refine $a $b (fun $(Lean.mkIdent `vs) $(Lean.mkIdent `H) $(Lean.mkIdent `Q) $(Lean.mkIdent `E) $(Lean.mkIdent `h) => ?_) (fun $(Lean.mkIdent `cdv) $(Lean.mkIdent `A) $(Lean.mkIdent `outer) $(Lean.mkIdent `s) $(Lean.mkIdent `H) $(Lean.mkIdent `vs) $(Lean.mkIdent `Q) $(Lean.mkIdent `E) $(Lean.mkIdent `hr) $(Lean.mkIdent `h) => ?_))
local macro_rules | `(tactic| ac_rfl) => `(tactic| exact ⟨rfl, rfl, rfl, by decide +kernel, rfl, by decide +kernel, by decide +kernel⟩)
namespace Xc
open PySem L2
def top(i:Nat):Stmt:=PySem.Challenge.pw_pointways_k53_rings_hung_together.main.body.getD i (.Pass ⟨0,0,0,0⟩)
abbrev oO:Stmt:=top 1
abbrev qt:Stmt:=top 2
abbrev jH:Stmt:=top 3
abbrev qu:Stmt:=top 4
abbrev Hv:Stmt:=top 5
abbrev oR:Stmt:=inClass (top 12) 0
abbrev oU:Stmt:=inClass (top 13) 0
abbrev yc:Stmt:=top 19
abbrev u9:Stmt:=top 20
abbrev tY:Stmt:=top 21
abbrev lg:Stmt:=top 22
abbrev wJ:Stmt:=top 23
abbrev qw:Stmt:=top 24
abbrev qz:Stmt:=inClass (top 25) 0
abbrev qC:Stmt:=inClass (top 25) 1
abbrev u_:Stmt:=inClass (top 25) 2
abbrev vd:Stmt:=inClass (top 25) 3
abbrev iw:Stmt:=top 26
abbrev mF:Stmt:=top 28
abbrev rY:Stmt:=top 30
abbrev nC:Stmt:=top 31
abbrev vf:Stmt:=top 32
abbrev qD:Stmt:=top 33
abbrev yd:Stmt:=top 35
abbrev jJ:Stmt:=top 36
abbrev iy:Stmt:=top 37
abbrev Ax:Stmt:=top 38
abbrev lq:Stmt:=top 39
abbrev cP:Stmt:=top 42
abbrev jK:Stmt:=top 43
abbrev mG:Stmt:=top 44
abbrev lu:Stmt:=top 45
abbrev Ay:Stmt:=top 46
abbrev Xd:Stmt:=top 48
abbrev Np:Stmt:=top 49
abbrev zJ:Stmt:=top 50
abbrev Hw:Stmt:=top 51
abbrev Hx:Stmt:=top 52
abbrev Nq:Stmt:=top 53
abbrev mH:Stmt:=top 54
abbrev jB:Stmt:=top 55
abbrev q_:Stmt:=top 56
theorem fP:aO ["web", "fixed", "steps", "number", "first", "second"] ["web", "fixed"] (aB oO):=by ac_rfl
theorem cJ:aO ["start", "steps", "ways", "row", "at", "here", "number", "origin", "goal"] ["start", "steps"] (aB qt):=by ac_rfl
theorem rZ:aO ["web", "start", "steps", "ways"] ["web", "start", "steps"] (aB jH):=by ac_rfl
theorem nF:aO ["web", "steps", "told", "point"] ["web"] (aB qu):=by ac_rfl
theorem qF:aO ["web", "steps", "told", "number", "first", "second", "lot"] ["web"] (aB Hv):=by ac_rfl
theorem Az:aO ["self", "lot"] ["self", "lot"] (aB oR):=by ac_rfl
theorem A_:aO ["self", "tie", "lot"] ["self", "tie", "lot"] (aB oU):=by ac_rfl
theorem Bb:aO ["thing"] ["thing"] (aB yc):=by ac_rfl
theorem Ka:aO ["thing"] ["thing"] (aB u9):=by ac_rfl
theorem Nr:aO ["thing"] ["thing"] (aB tY):=by ac_rfl
theorem Ds:aO ["thing"] ["thing"] (aB lg):=by ac_rfl
theorem R6:aO ["thing", "points"] ["thing", "points"] (aB wJ):=by ac_rfl
theorem Kc:aO ["thing", "points"] ["thing", "points"] (aB qw):=by ac_rfl
theorem Kd:aO ["self", "points", "ties"] ["self", "points", "ties"] (aB qz):=by ac_rfl
theorem Dt:aO ["self"] ["self"] (aB qC):=by ac_rfl
theorem Ke:aO ["self"] ["self"] (aB u_):=by ac_rfl
theorem Kf:aO ["self"] ["self"] (aB vd):=by ac_rfl
theorem ur:aO ["web", "most"] ["web", "most"] (aB iw):=by ac_rfl
theorem fu:aO ["web", "parts", "barring", "number", "lot"] ["web"] (aB mF):=by ac_rfl
theorem Fj:aO ["web", "points", "lot"] ["web", "points"] (aB rY):=by ac_rfl
theorem lA:aO ["points", "parts", "point"] ["points"] (aB nC):=by ac_rfl
theorem Kg:aO ["web"] ["web"] (aB vf):=by ac_rfl
theorem su:aO ["web", "lot", "inside", "ties"] ["web", "lot"] (aB qD):=by ac_rfl
theorem Nt:aO ["thing"] ["thing"] (aB yd):=by ac_rfl
theorem Bc:aO ["web", "thing"] ["web", "thing"] (aB jJ):=by ac_rfl
theorem kO:aO ["web", "thing"] ["web", "thing"] (aB iy):=by ac_rfl
theorem R7:aO ["web", "pointing"] ["web", "pointing"] (aB Ax):=by ac_rfl
theorem Du:aO ["steps", "lot"] ["steps", "lot"] (aB lq):=by ac_rfl
theorem qG:aO ["web", "pointing", "steps", "shut"] ["web", "pointing"] (aB cP):=by ac_rfl
theorem Bd:aO ["cuts", "number"] ["cuts", "number"] (aB jK):=by ac_rfl
theorem kI:aO ["cuts", "most", "number", "rest"] ["cuts", "most"] (aB mG):=by ac_rfl
theorem gV:aO ["cuts", "numbers", "crossed", "lot", "others", "rest"] ["cuts", "numbers"] (aB lu):=by ac_rfl
theorem lK:aO ["web", "pointing", "cuts", "most", "numbers"] ["web", "pointing"] (aB Ay):=by ac_rfl
theorem Xe:aO ["_law_script", "_law_k", "_law_cell"] ["_law_script", "_law_k"] (aB Xd):=by ac_rfl
theorem Ql:aO ["_law_pot_here", "_law_many", "_law_digit"] ["_law_pot_here", "_law_many"] (aB Np):=by ac_rfl
theorem mJ:aO ["_law_pot_here", "_law_many", "_law_letters", "_law_begin", "_law_found", "_law_k", "_law_size", "_law_more"] ["_law_pot_here", "_law_many"] (aB zJ):=by ac_rfl
theorem Bf:aO ["_law_pot_here", "_law_things", "_law_found", "_law_thing"] ["_law_pot_here", "_law_things"] (aB Hw):=by ac_rfl
theorem jZ:aO ["_law_pot_here", "_law_names_here", "_law_found", "_law_many", "_law_left", "_law_k", "_law_size"] ["_law_pot_here", "_law_names_here"] (aB Hx):=by ac_rfl
theorem nG:aO ["_law_pot_here", "_law_rings_here", "_law_found", "_law_k", "_law_ring", "_law_j", "_law_ends", "_law_about", "_law_turn"] ["_law_pot_here", "_law_rings_here"] (aB Nq):=by ac_rfl
theorem nH:aO ["_law_ties_here", "_law_many", "_law_numbers", "_law_ring", "_law_ones", "_law_own"] ["_law_ties_here", "_law_many", "_law_numbers"] (aB mH):=by ac_rfl
theorem j4:aO ["_law_points", "_law_ties_here", "_law_lots", "_law_crossed", "_law_lot", "_law_own"] ["_law_points", "_law_ties_here", "_law_lots"] (aB jB):=by ac_rfl
theorem qH:aO ["_law_script", "_law_k", "_law_pot_here", "_law_names_here", "_law_rings_here", "_law_ties_here", "_law_points", "_law_numbers", "_law_lots"] ["_law_script"] (aB q_):=by ac_rfl
set_option genInjectivity false in
structure Adr where
 cX:Addr
 i_:FuncData
 dN:Addr
 jL:FuncData
 cY:Addr
 jc:FuncData
 fQ:Addr
 nJ:FuncData
 sy:Addr
 zK:FuncData
 cM:Addr
 jd:FuncData
 cN:Addr
 je:FuncData
 gC:Addr
 mK:FuncData
 fV:Addr
 nM:FuncData
 iI:Addr
 qI:FuncData
 dO:Addr
 jM:FuncData
 j5:Addr
 tZ:FuncData
 fW:Addr
 nO:FuncData
 eU:Addr
 nQ:FuncData
 cV:Addr
 jN:FuncData
 eV:Addr
 nR:FuncData
 eX:Addr
 nU:FuncData
 bM:Addr
 d7:FuncData
 cQ:Addr
 g_:FuncData
 j6:Addr
 t_:FuncData
 eF:Addr
 lB:FuncData
 fX:Addr
 nW:FuncData
 fY:Addr
 nY:FuncData
 iJ:Addr
 qJ:FuncData
 cZ:Addr
 jf:FuncData
 bH:Addr
 cU:FuncData
 j7:Addr
 ud:FuncData
 dU:Addr
 jO:FuncData
 dW:Addr
 eY:FuncData
 c7:Addr
 jg:FuncData
 bZ:Addr
 dJ:FuncData
 cO:Addr
 fB:FuncData
 j8:Addr
 uf:FuncData
 yS:Addr
 Hy:FuncData
 sE:Addr
 zL:FuncData
 nZ:Addr
 wK:FuncData
 n6:Addr
 wL:FuncData
 n_:Addr
 wM:FuncData
 sG:Addr
 zM:FuncData
 fZ:Addr
 oh:FuncData
 f9:Addr
 ou:FuncData
 yU:Addr
 Hz:FuncData
 jC:Value
 dB:Value
 dZ:Value
 gb:Value
 cC:Value
 bN:Addr
 aK:Addr
 bR:Addr
 dw:Addr
 bL:Addr
 bG:Addr
def qhK(a:Adr):List Addr:=[a.bR,a.dw,a.bL,a.bG]
structure Txt(K:W.Frag)(mg:Str->Option Value)(a:Adr):Prop where
 gW:dz K "steps_along" "steps_along" oO a.cX a.i_
 jP:Binds K a.i_ ["web", "fixed"] []
 jQ:mg "steps_along" = some (.ref a.cX)
 qK:dz K "ways_along" "ways_along" qt a.dN a.jL
 wN:Binds K a.jL ["start", "steps"] []
 wO:mg "ways_along" = some (.ref a.dN)
 jR:dz K "found_along" "found_along" jH a.cY a.jc
 oV:Binds K a.jc ["web", "start", "steps"] []
 oW:mg "found_along" = some (.ref a.cY)
 vg:dz K "clusters" "clusters" qu a.fQ a.nJ
 Bg:Binds K a.nJ ["web"] []
 Bh:mg "clusters" = some (.ref a.fQ)
 Nu:dz K "bars" "bars" Hv a.sy a.zK
 Xf:Binds K a.zK ["web"] []
 Xg:mg "bars" = some (.ref a.sy)
 uG:dz K "__init__" "Parted.__init__" oR a.cM a.jd
 uH:Binds K a.jd ["self", "lot"] []
 uI:dz K "__init__" "Barred.__init__" oU a.cN a.je
 uJ:Binds K a.je ["self", "tie", "lot"] []
 iK:dz K "is_list" "is_list" yc a.gC a.mK
 lM:Binds K a.mK ["thing"] []
 lN:mg "is_list" = some (.ref a.gC)
 vh:dz K "is_whole" "is_whole" u9 a.fV a.nM
 Bj:Binds K a.nM ["thing"] []
 Bk:mg "is_whole" = some (.ref a.fV)
 pR:dz K "is_name" "is_name" tY a.iI a.qI
 ug:Binds K a.qI ["thing"] []
 uh:mg "is_name" = some (.ref a.iI)
 qL:dz K "are_points" "are_points" lg a.dO a.jM
 wQ:Binds K a.jM ["thing"] []
 wR:mg "are_points" = some (.ref a.dO)
 Bl:dz K "is_tie" "is_tie" wJ a.j5 a.tZ
 Kh:Binds K a.tZ ["thing", "points"] []
 Kl:mg "is_tie" = some (.ref a.j5)
 vm:dz K "are_ties" "are_ties" qw a.fW a.nO
 Bm:Binds K a.nO ["thing", "points"] []
 Bo:mg "are_ties" = some (.ref a.fW)
 Bp:dz K "__init__" "Web.__init__" qz a.eU a.nQ
 Bq:Binds K a.nQ ["self", "points", "ties"] []
 wU:dz K "points" "Web.points" qC a.cV a.jN
 gF:Binds K a.jN ["self"] []
 Br:dz K "ties" "Web.ties" u_ a.eV a.nR
 qM:Binds K a.nR ["self"] []
 Bs:dz K "many" "Web.many" vd a.eX a.nU
 vo:Binds K a.nU ["self"] []
 iz:dz K "sure_of_few_ties" "sure_of_few_ties" iw a.bM a.d7
 mL:Binds K a.d7 ["web", "most"] []
 mO:mg "sure_of_few_ties" = some (.ref a.bM)
 mQ:dz K "sure_of_ears" "sure_of_ears" mF a.cQ a.g_
 sH:Binds K a.g_ ["web"] []
 sI:mg "sure_of_ears" = some (.ref a.cQ)
 Bt:dz K "lot_of" "lot_of" rY a.j6 a.t_
 Km:Binds K a.t_ ["web", "points"] []
 Ko:mg "lot_of" = some (.ref a.j6)
 sJ:dz K "all_parts" "all_parts" nC a.eF a.lB
 yV:Binds K a.lB ["points"] []
 yW:mg "all_parts" = some (.ref a.eF)
 vp:dz K "all_lots" "all_lots" vf a.fX a.nW
 Bu:Binds K a.nW ["web"] []
 Bv:mg "all_lots" = some (.ref a.fX)
 vq:dz K "crossing" "crossing" qD a.fY a.nY
 Bw:Binds K a.nY ["web", "lot"] []
 Bx:mg "crossing" = some (.ref a.fY)
 yg:dz K "is_lead" "is_lead" yd a.iJ a.qJ
 Fl:Binds K a.qJ ["thing"] []
 Fo:mg "is_lead" = some (.ref a.iJ)
 jT:dz K "is_pointing" "is_pointing" jJ a.cZ a.jf
 oX:Binds K a.jf ["web", "thing"] []
 oY:mg "is_pointing" = some (.ref a.cZ)
 dD:dz K "sure_of_pointing" "sure_of_pointing" iy a.bH a.cU
 iB:Binds K a.cU ["web", "thing"] []
 iC:mg "sure_of_pointing" = some (.ref a.bH)
 BJ:dz K "arrows" "arrows" Ax a.j7 a.ud
 Kp:Binds K a.ud ["web", "pointing"] []
 Kq:mg "arrows" = some (.ref a.j7)
 qN:dz K "steps_into" "steps_into" lq a.dU a.jO
 wV:Binds K a.jO ["steps", "lot"] []
 wW:mg "steps_into" = some (.ref a.dU)
 sO:dz K "shut_cuts" "shut_cuts" cP a.dW a.eY
 yX:Binds K a.eY ["web", "pointing"] []
 yZ:mg "shut_cuts" = some (.ref a.dW)
 oZ:dz K "without_tie" "without_tie" jK a.c7 a.jg
 uK:Binds K a.jg ["cuts", "number"] []
 uL:mg "without_tie" = some (.ref a.c7)
 gj:dz K "ties_in_each" "ties_in_each" mG a.bZ a.dJ
 jh:Binds K a.dJ ["cuts", "most"] []
 ji:mg "ties_in_each" = some (.ref a.bZ)
 lC:dz K "lots_apart" "lots_apart" lu a.cO a.fB
 qO:Binds K a.fB ["cuts", "numbers"] []
 qP:mg "lots_apart" = some (.ref a.cO)
 BK:dz K "fewest" "fewest" Ay a.j8 a.uf
 Kr:Binds K a.uf ["web", "pointing"] []
 Ks:mg "fewest" = some (.ref a.j8)
 Xh:dz K "_law_pot" "_law_pot" Xd a.yS a.Hy
 qa5:Binds K a.Hy ["_law_script", "_law_k"] []
 qa6:mg "_law_pot" = some (.ref a.yS)
 mR:dz K "_law_take" "_law_take" Np a.sE a.zL
 o9:Binds K a.zL ["_law_pot_here", "_law_many"] []
 o_:mg "_law_take" = some (.ref a.sE)
 HB:dz K "_law_names" "_law_names" zJ a.nZ a.wK
 Qm:Binds K a.wK ["_law_pot_here", "_law_many"] []
 Qn:mg "_law_names" = some (.ref a.nZ)
 zN:dz K "_law_mixed" "_law_mixed" Hw a.n6 a.wL
 HD:Binds K a.wL ["_law_pot_here", "_law_things"] []
 HF:mg "_law_mixed" = some (.ref a.n6)
 HJ:dz K "_law_rings" "_law_rings" Hx a.n_ a.wM
 Qo:Binds K a.wM ["_law_pot_here", "_law_names_here"] []
 Qp:mg "_law_rings" = some (.ref a.n_)
 Nv:dz K "_law_ties" "_law_ties" Nq a.sG a.zM
 Xi:Binds K a.zM ["_law_pot_here", "_law_rings_here"] []
 Xj:mg "_law_ties" = some (.ref a.sG)
 vA:dz K "_law_is_right" "_law_is_right" mH a.fZ a.oh
 BL:Binds K a.oh ["_law_ties_here", "_law_many", "_law_numbers"] []
 BP:mg "_law_is_right" = some (.ref a.fZ)
 vB:dz K "_law_are_lots" "_law_are_lots" jB a.f9 a.ou
 BW:Binds K a.ou ["_law_points", "_law_ties_here", "_law_lots"] []
 BX:mg "_law_are_lots" = some (.ref a.f9)
 qa7:dz K "law" "law" q_ a.yU a.Hz
 qeA:Binds K a.Hz ["_law_script"] []
 qeB:mg "law" = some (.ref a.yU)
 Fp:mg "LETTERS" = some a.jC
 Fq:RelV (.str "abcdefghijklmnopqrstuvwxyz") a.jC
 sS:mg "MOST_LETTERS" = some a.dB
 sU:RelV (.int 4) a.dB
 uM:mg "MOST_POINTS" = some a.dZ
 uN:RelV (.int 9) a.dZ
 za:mg "MOST_TIES" = some a.gb
 zc:RelV (.int 20) a.gb
 oA:mg "MOST_TIES_TAKEN" = some a.cC
 oE:RelV (.int 12) a.cC
 qa8:mg "Web" = some (.ref a.bN)
 kW:Cls K a.bN
 HN:j9 K a.bN "names"
 zO:j9 K a.bN "pairs"
 qa9:Mk K a.bN a.eU
 gG:Meth K a.bN "points" a.cV
 qQ:Meth K a.bN "ties" a.eV
 vC:Meth K a.bN "many" a.eX
 qR:mg "PointError" = some (.ref a.aK)
 wX:mg "NoPointing" = some (.ref a.bR)
 Ft:mg "TooMuch" = some (.ref a.dw)
 Ku:mg "Parted" = some (.ref a.bL)
 Kv:mg "Barred" = some (.ref a.bG)
 eZ:Ao K a.aK
 gH:Ao K a.bR
 lO:Ao K a.dw
 gY:XC K a.bR a.aK
 mU:XC K a.dw a.aK
 jD:XC K a.bL a.aK
 jE:XC K a.bG a.aK
 ib:W.isClsIn K a.aK=true
 tb:W.typeIn K (.ref a.aK)=some (.type "type")
 ini:qet K a.aK
 Kw:W.specialIn K (.builtin "object.__class__") "__get__" = some (some (.builtin "getset_descriptor.__get__"))
 Ky:W.takesIn K (.builtin "object.__class__")=some true
 nd:(a.aK::qhK a).Nodup
 jj:mg "ValueError" = none
 yh:XMk K a.bL a.aK a.cM
 Fv:u0 K a.bL a.aK
 fC:W.findIn K (.ref a.bL) "lot" = some none
 yj:XMk K a.bG a.aK a.cN
 yp:u0 K a.bG a.aK
 fD:W.findIn K (.ref a.bG) "tie" = some none
 fG:W.findIn K (.ref a.bG) "lot" = some none
 nm:Nm mg
 Lr:Nm2 mg
 nm3:Nm3 mg
end Xc
namespace Xc
open PySem L2
variable {P:Program}{w:World}{K:W.Frag}{mg:Str->Option Value}{base:Heap}{a:Adr}
def pW(H:Hp)(p:Addr):Prop:=∃x y:Int,H p=some (.lst [.int x,.int y])/\0<=x/\0<=y/\y<4294967296
def qcJ(K:W.Frag):Sp:=λvs H Q _=>∃(l:Addr)(ns:List Int)(k:Nat),vs=[.ref l,.int k]/\aX K H l (ns.map V.int)/\k<100/\∀p H',H p=none->pW H' p->But p H H'->Q (.ref p) H'
def qab:Sp:=λvs H Q _=>∃(p:Addr)(m:Int),vs=[.ref p,.int m]/\pW H p/\0<m/\m<1000000/\∀(d:Int) H',0<=d->d<m->pW H' p->But p H H'->Q (.int d) H'
theorem qcK(T:Txt K mg a):bT P w K mg base iU 1 a.yS a.Hy ["_law_script", "_law_k"] (qcJ K):=by
 exists T.Xh.qg,Xe
 ·obtain⟨l,ns,k,rfl,_⟩:=h;rfl
 ·obtain⟨l,ns,k,rfl,hS,hk,q⟩:=h;refine⟨_,(aA (bx (i:=2) Xe.nd rfl (Or.inl rfl) (Uv (aV G6 (aG 1) (aH (bY (K:=K) rfl) rfl T.nm.len qjo (aj (aG 0) ao)) (bO _)) (bW (cg (K:=K) rfl) (aG 0) (aG 1) (λ_ _=>rfl)) aF))
   (aC (aY (dX (aj (aH (Ak rfl) rfl T.nm.max boot_max (aj aF (aj (cB nu (aH Ey rfl T.nm.abs boot_abs (aj (aG 2) ao)) (cB ZL aF aF)) ao))) (aj (cB iW (cB iW (cB tV (aH Ey rfl T.nm.abs boot_abs (aj (aG 2) ao)) aF) (cB zB aF (aG 1))) aF) ao)))))),?_⟩
  have fin:∀(x y:Int),0<=x->0<=y->y<4294967296->∀p:Addr,H p=none->Q (.ref p) (upd H p (.lst [.int x,.int y])):=λx y h1 h2 h3 p hp=>
   q p _ hp ⟨x,y,ak,h1,h2,h3⟩ λb o hb e=>by rw[aD hb];exact e
  left;refine⟨_,.inl hS,eE.of (λh=>?_) (λh=>?_)⟩
  ·have hlt:k<ns.length:=by simpa using h
   left;refine⟨_,.inl hS,.int (ns[k]'hlt),bA (by simp[hlt]),?_⟩;left;exact fin _ _ (zpa _) (zpb _ _) (zpc _ hk)
  ·left;exact fin _ _ (by first|omega|(split <;> omega)) (by omega) (by omega)
theorem lD(T:Txt K mg a):bT P w K mg base iU 1 a.sE a.zL ["_law_pot_here", "_law_many"] qab:=by
 exists T.mR.qg,Ql
 ·obtain⟨p,m,rfl,_⟩:=h;rfl
 ·obtain⟨p,m,rfl,⟨x,y,hp,hx,hy,hy2⟩,hm,hm2,q⟩:=h;refine⟨_,(aA (cR (aV uY (bW (cg (K:=K) rfl) (aG 0) aF (λ_ _=>rfl)) aF (bO _)) (aA (Gb (aH Hj rfl T.nm.divmod boot_divmod (aj (bW (cg (K:=K) rfl) (aG 0) aF (λ_ _=>rfl)) (aj (aG 1) ao))) (PG.eqv (fL (K:=K) (n:=2) rfl rfl (jF.eqv (bC (Uy (aG 0) aF Ez) (jF.eqv (bC (aL (i:=2) Ql.nd rfl (Or.inl rfl)) (jF.mono fK iY)) (bD _ _))) (bD _ _))) (fM _ _ _)))
   (aC (aY (aG 2)))) bF)
   (aA (Gb (cB tV (cB iW (cB zB (bW (cg (K:=K) rfl) (aG 0) aF (λ_ _=>rfl)) aF) aF) aF) (Uy (aG 0) aF Ez))
   (aC (aY (cB tV (cB Wu (cB tV (cB zB (bW (cg (K:=K) rfl) (aG 0) aF (λ_ _=>rfl)) (bW (cg (K:=K) rfl) (aG 0) aF (λ_ _=>rfl))) aF) aF) (aG 1)))))),?_⟩
  have hl:aX K H p [.int x,.int y]:=aX.of hp;left;refine⟨_,.inl hl,_,bA (j:=0) rfl,?_⟩;left;refine eE.of (λh=>?_) (λh=>?_)
  ·left;refine⟨_,.inl hl,_,bA (j:=0) rfl,?_⟩;left;refine⟨⟨hm,by omega⟩,λt ht=>?_⟩;have npt:p≠t:=aW hp ht;refine⟨_,dg.of ak,rfl,_,(by rw[aD npt];exact hp),0,rfl,?_⟩;refine q _ _ (Int.emod_nonneg _ (by omega)) (Int.emod_lt_of_pos _ hm) ⟨_,_,ak,Int.ediv_nonneg hx (by omega),hy,hy2⟩ λb o hb e=>?_;rw[aD hb,aD (aW e ht)];exact e
  ·have z0:0<=(y * 48271+12345) % 2147483647:=Int.emod_nonneg _ (by decide);have z1:(y * 48271+12345) % 2147483647<2147483647:=Int.emod_lt_of_pos _ (by decide);left;refine⟨_,.inl hl,_,bA (j:=1) rfl,?_⟩;left;refine⟨_,hp,1,rfl,_,.inl (aX.of ak),_,bA (j:=1) rfl,_,.inl (aX.of ak),_,bA (j:=1) rfl,?_⟩;left;refine⟨⟨by omega,by omega⟩,hm,?_⟩;refine q _ _ (Int.emod_nonneg _ (by omega)) (Int.emod_lt_of_pos _ hm) ⟨_,_,ak,hx,z0,by omega⟩ λb o hb e=>?_;rw[aD hb];exact e
def Nx:Sp:=λvs H Q _=>∃p xs,vs=[.ref p]/\Sq H p xs/\∀H',Same H H'->Q (.bl true) H'
theorem qT(T:Txt K mg a):bT P w K mg base iU 1 a.gC a.mK ["thing"] Nx:=by
 exists T.iK.qg,Bb
 ·obtain⟨p,xs,rfl,_⟩:=h;rfl
 ·obtain⟨p,xs,rfl,hp,q⟩:=h;refine⟨_,(aC (aY (aH (Wv (K:=K) rfl) rfl T.nm.isinstance boot_isinstance (aj (aG 0) (aj (kh (aj (pX (v:=.ty "list") rfl T.nm.list boot_list rfl) (aj (pX (v:=.ty "tuple") rfl T.nm.tuple boot_tuple rfl) ao))) ao))))),?_⟩;left;refine λt ht=>⟨_,_,ak,?_⟩
  rcases(hp.same (aq ht)).ty (K:=K) with ty|ty
  ·exact⟨_,ty,true,by simp[W.kitAny,W.kitOne],q _ (aq ht)⟩
  ·exact⟨_,ty,true,by simp[W.kitAny,W.kitOne];rfl,q _ (aq ht)⟩
def Ny:Sp:=λvs H Q _=>∃x,vs=[.str x]/\x.length<=sizeLine/\∀H',Same H H'->Q (.bl (nameB x)) H'
theorem vD(T:Txt K mg a):bT P w K mg base iU 1 a.iI a.qI ["thing"] Ny:=by
 exists T.pR.qg,Nr
 ·obtain⟨x,rfl,_⟩:=h;rfl
 ·obtain⟨x,rfl,hx,q⟩:=h;refine⟨_,(aA (cR (PW.pt (uz (eG (dG (aH (M5 (K:=K) rfl) rfl T.nm.isinstance boot_isinstance (aj (aG 0) (aj (pX (v:=.ty "str") rfl T.nm.str boot_str rfl) ao))))) (oJ (eG (xT xR xR aF (aH qcz rfl T.nm.len qjo (aj (aG 0) ao)) (vO rfl T.sS T.sU)))))) (aC (aY pH)) bF)
   (aC (aY (aH (lJ rfl) rfl T.nm.all lF (aj (cG rfl rfl (show aN (aB tY) _ ["thing"] ["sign"] [] ["sign"] from by rfl') rfl (PI.eqv (qbQ (aG 0)) (Wo _)) (λC s H fp pn=>(aL (i:=0) (show(["sign"]:QAH).Nodup by symm) rfl (Or.inl rfl))) (λC s H fp pn=>dM) (λC s H fp pn=>(gk (qhC (K:=K) rfl) (aG 0) (vO rfl T.Fp T.Fq) rfl))) ao))))),?_⟩
  left;refine⟨_,.str x,_,Ju K,eE.neg rfl ?_⟩;left;refine⟨hx,eE.of (λh1=>?_) (λh1=>?_)⟩
  ·have h1':1<=x.length:=by simp at h1;omega
   left;refine eE.of (λh2=>?_) (λh2=>?_)
   ·have h2':¬x.length<=4:=by simp at h2;omega
    have e:nameB x=false:=by
     unfold nameB;rw[qjM h2'];simp
    rw[e] at q;left;exact q H (Same.refl H)
   ·have h2':x.length<=4:=by simp at h2;omega
    left;refine λD hD=>cmS (λi σ' H'=>(∃o,σ'=[o])/\Same H H'/\H' D=some (.lst ((x.cps.toList.take i).map λc=>.bl (Yq c)))) ⟨⟨none,rfl⟩,aq hD,by simpa using ak⟩ ?_ ?_
    ·rintro i c σ' H' hc ⟨⟨o,rfl⟩,sm,BZ⟩;have h4:4<sizeLine:=by decide
     have hsz:x.cps.size=x.length:=rfl;left;refine⟨_,BZ,by simp;omega,aU sm hD,?_⟩;rw[ak,take_one (l:=x.cps.toList) (x:=c) (by simpa using hc),qjU];rfl
    ·rintro σ' H' ⟨⟨o,rfl⟩,sm,BZ⟩;left;refine⟨_,BZ,_,gB Yq _,?_⟩;rw[Mt];have e:nameB x=(x.cps.toList.take x.cps.size).all Yq:=by
      unfold nameB;rw[qj2 h1',qj2 h2',show x.cps.toList.take x.cps.size=x.cps.toList from qkZ (by simp)];rfl
     rw[<- e];exact q H' sm
  ·have h1':¬1<=x.length:=by simp at h1;omega
   have e:nameB x=false:=by
    unfold nameB;rw[qjM h1'];simp
   rw[e] at q;left;exact q H (Same.refl H)
theorem Xk{xs:QAH}{i:Nat}{x:V}(h:(xs.map V.str)[i]? = some x):∃z,z∈xs/\x = .str z:=by
 rw[qje] at h;cases e:xs[i]? with
 |none=>rw[e] at h;cases h
 |some z=>
  rw[e] at h;exact⟨z,qi9 e,(qjI h).symm⟩
theorem vG{x:Str}(h:nameB x=true):x.length<=sizeLine:=by
 unfold nameB at h;simp at h;have h4:4<=sizeLine:=by decide
 omega
theorem pU:∀n,m_ (List.replicate n (.bl true)) (List.replicate n true)
 |0=>rfl
 |n+1=>⟨true,_,rfl,rfl,pU n⟩
theorem B_:∀xs:QAH,keysOf (xs.map V.str)=xs.map Sum.inr
 |[]=>rfl
 |x::xs=>by
  show Sum.inr x::keysOf (xs.map V.str)=_;rw[B_ xs];rfl
theorem qcL{xs:QAH}(h:xs.Nodup):(CW (λi=>(keysOf (xs.map V.str))[i]?.getD (Sum.inl 0)) (xs.map V.str).length).length=xs.length:=by
 rw[B_,qja];refine(Mr _ xs.length λi j hi hj e=>?_).1;simp[hi,hj] at e;exact(List.getElem_inj h).mp e
structure Ls(xs:QAH):Prop where
 len:1<=xs.length/\xs.length<=9
 nm:∀x∈xs,nameB x=true
 nd:xs.Nodup
def Dv:Sp:=λvs H Q _=>∃p xs,vs=[.ref p]/\Sq H p (xs.map V.str)/\Ls xs/\∀H',Same H H'->Q (.bl true) H'
theorem Dw(T:Txt K mg a):bT P w K mg base iU 2 a.dO a.jM ["thing"] Dv:=by
 exists T.qL.qg,Ds
 ·obtain⟨p,xs,rfl,_⟩:=h;rfl
 ·obtain⟨p,xs,rfl,hp,hx,q⟩:=h;refine⟨_,(aA (cR (PW.pt (uz (eG (dG (PE.eqv (aM (qT T) hr.d rfl T.lN T.iK.kp T.lM .nil bh (aj (aG 0) ao)) (aJ _ _ _)))) (oJ (eG (xT xR xR aF (aH (bY (K:=K) rfl) rfl T.nm.len qjo (aj (aG 0) ao)) (vO rfl T.uM T.uN)))))) (aC (aY pH)) bF)
   (aC (aY (zA (aH (lJ rfl) rfl T.nm.all lF (aj (cG rfl rfl (show aN (aB lg) _ ["thing"] ["one"] [] ["one"] from by rfl') rfl (PI.eqv (tO (K:=K) rfl (aG 0)) (pQ _ _)) (λC s H fp pn=>(aL (i:=0) (show(["one"]:QAH).Nodup by symm) rfl (Or.inl rfl))) (λC s H fp pn=>dM) (λC s H fp pn=>(PE.eqv (aM (vD T) hr.d rfl T.uh T.pR.kp T.ug .nil bh (aj (aG 0) ao)) (aJ _ _ _)))) ao)) (Ga (gk kE (aH Em rfl T.nm.len qjo (aj (iH (El rfl) rfl T.nm.set Ej (aj (aG 0) ao)) ao)) (aH (bY (K:=K) rfl) rfl T.nm.len qjo (aj (aG 0) ao)) (bO _))))))),?_⟩
  have hl:=hx.len;have h60:60<sizeLine:=by decide
  left;refine⟨p,_,rfl,hp,λH1 s1=>?_⟩;have hp1:=hp.same s1;left;refine⟨_,hp1.q,eE.pos (by simp;omega) ?_⟩;left;refine eE.neg (by simp;omega) ?_;obtain⟨b,hb⟩:=hp.b;left;refine⟨b,⟨_,hb K H1 s1⟩,λD hD=>cmQ (xs.map V.str) (λi σ' H'=>(∃o,σ'=[o])/\Same H1 H'/\H' D=some (.lst (List.replicate i (.bl true)))) ⟨⟨none,rfl⟩,aq hD,ak⟩ (λi σ' H' _ h=>hb K H' (s1.trans h.2.1)) ?_ ?_⟩
  ·rintro i x σ' H' hi ⟨⟨o,rfl⟩,sm,BZ⟩;obtain⟨z,hz,rfl⟩:=Xk hi;have hi2:i<xs.length:=by simpa using (qi5.mp hi).1
   left;refine⟨z,rfl,vG (hx.nm z hz),λH2 s2=>?_⟩;left;refine⟨_,s2 _ _ BZ,by simp;omega,aU (sm.trans s2) hD,?_⟩;rw[ak,hx.nm z hz,<- qlA]
  ·rintro σ' H' ⟨⟨o,rfl⟩,sm,BZ⟩;have hp2:=hp1.same sm;left;refine⟨_,BZ,_,pU _,?_⟩;rw[show(List.replicate (xs.map V.str).length true).all id=true by simp];left;refine⟨_,hp2.q,by simp[isKey],by simp;unfold scanBound;omega,λt ht=>⟨_,ak,_,(hp2.same (aq ht)).q,?_⟩⟩;rw[qj2 (by rw[qcL hx.nd];simp)];exact q _ (s1.trans (sm.trans (aq ht)))
theorem qac{x:Str}{xs:QAH}(h:x∈xs):inV (.str x) (xs.map V.str)=true:=by
 unfold inV;rw[qkz];exact⟨.str x,qjv.mpr ⟨x,h,rfl⟩,by simp[Q_]⟩
theorem Xl(xs:QAH):(xs.map V.str).all iT=true:=by
 rw[qjC];intro v hv;obtain⟨x,_,rfl⟩:=qjv.mp hv;rfl
def R8:Sp:=λvs H Q _=>∃t p x y xs,vs=[.ref t,.ref p]/\Sq H t [.str x,.str y]/\Sq H p (xs.map V.str)/\Ls xs/\x∈xs/\y∈xs/\x≠y/\∀H',Same H H'->Q (.bl true) H'
theorem R9(T:Txt K mg a):bT P w K mg base iU 2 a.j5 a.tZ ["thing", "points"] R8:=by
 exists T.Bl.qg,R6
 ·obtain⟨t,p,x,y,xs,rfl,_⟩:=h;rfl
 ·obtain⟨t,p,x,y,xs,rfl,ht,hp,hx,Yr,hym,hne,q⟩:=h;refine⟨_,(aA (cR (PW.pt (uz (eG (dG (PE.eqv (aM (qT T) hr.d rfl T.lN T.iK.kp T.lM .nil bh (aj (aG 0) ao)) (aJ _ _ _)))) (oJ (aV rQ (aH (bY (K:=K) rfl) rfl T.nm.len qjo (aj (aG 0) ao)) aF (bO _))))) (aC (aY pH)) bF)
   (aA (cR (eG (dG (aH (lJ rfl) rfl T.nm.all lF (aj (cG rfl rfl (show aN (aB wJ) _ ["thing", "points"] ["end"] [1] ["end", "points"] from by rfl') rfl (PI.eqv (tO (K:=K) rfl (aG 0)) (pQ _ _)) (λC s H fp pn=>(aL (i:=0) (show(["end", "points"]:QAH).Nodup by symm) rfl (Or.inl rfl))) (λC s H fp pn=>dM) (λC s H fp pn=>(zA (PE.eqv (aM (vD T) hr.d rfl T.uh T.pR.kp T.ug .nil bh (aj (aG 0) ao)) (aJ _ _ _)) (Ga (gk (xU (K:=K) rfl) (aG 0) (aG 1) rfl))))) ao)))) (aC (aY pH)) bF)
   (aC (aY (gk rQ (bW (cg (K:=K) rfl) (aG 0) aF (λ_ _=>rfl)) (bW (cg (K:=K) rfl) (aG 0) aF (λ_ _=>rfl)) (bO _)))))),?_⟩
  have h60:60<sizeLine:=by decide
  left;refine⟨t,_,rfl,ht,λH1 s1=>?_⟩;left;refine⟨_,(ht.same s1).q,false,rfl,eE.neg rfl ?_⟩;obtain⟨b,hb⟩:=ht.b;left;refine⟨b,⟨_,hb K H1 s1⟩,λD hD=>cmQ [.str x,.str y] (λi σ' H'=>(∃o,σ'=[o,some (.ref p)])/\Same H1 H'/\H' D=some (.lst (List.replicate i (.bl true)))) ⟨⟨none,rfl⟩,aq hD,ak⟩ (λi σ' H' _ h=>hb K H' (s1.trans h.2.1)) ?_ ?_⟩
  ·rintro i v σ' H' hi ⟨⟨o,rfl⟩,sm,BZ⟩;obtain⟨z,hz,rfl⟩:∃z,z∈xs/\v = .str z:=by
    match i,hi with
    |0,hi=>exact⟨x,Yr,(qjI hi).symm⟩
    |1,hi=>exact⟨y,hym,(qjI hi).symm⟩
   have hi2:i<2:=(qi5.mp hi).1;left;refine⟨z,rfl,vG (hx.nm z hz),λH2 s2=>?_⟩;rw[hx.nm z hz];left;refine⟨_,(hp.same (s1.trans (sm.trans s2))).q,rfl,qjC.mp (Xl xs),_,s2 _ _ BZ,by simp;omega,aU (sm.trans s2) hD,?_⟩;rw[ak,qac hz,<- qlA]
  ·rintro σ' H' ⟨⟨o,rfl⟩,sm,BZ⟩;have R5:=ht.same (s1.trans sm);left;refine⟨_,BZ,_,pU _,?_⟩;rw[show(List.replicate [V.str x,V.str y].length true).all id=true by simp];left;refine⟨_,R5.q,_,bA (j:=0) rfl,_,R5.q,_,bA (j:=1) rfl,?_⟩;left;refine⟨true,by simp[hne],?_⟩;exact q _ (s1.trans sm)
def Ca(H:Hp)(v:V)(e:Str×Str):Prop:=∃t,v = .ref t/\Sq H t [.str e.1,.str e.2]
theorem Ca.same{H H':Hp}{v:V}{e:Str×Str}(h:Ca H v e)(s:Same H H'):Ca H' v e:=by
 obtain⟨t,rfl,h⟩:=h;exact⟨t,rfl,h.same s⟩
def oF(H:Hp)(vs:List V)(ps:QAD):Prop:=vs.length=ps.length/\∀(i:Nat) v e,vs[i]? = some v->ps[i]? = some e->Ca H v e
theorem oF.same{H H':Hp}{vs:List V}{ps:QAD}(h:oF H vs ps)(s:Same H H'):oF H' vs ps:=⟨h.1,λi v e h1 h2=>(h.2 i v e h1 h2).same s⟩
theorem oF.at{H:Hp}{vs:List V}{ps:QAD}(h:oF H vs ps){i:Nat}{v:V}(hv:vs[i]? = some v):∃e,ps[i]? = some e/\Ca H v e:=by
 have hi:i<ps.length:=by rw[<- h.1];exact(qi5.mp hv).1
 exact⟨ps[i],by simp[hi],h.2 i v _ hv (by simp[hi])⟩
structure Cd(xs:QAH)(ps:QAD):Prop where
 len:ps.length<=20
 ok:∀e∈ps,e.1∈xs/\e.2∈xs/\e.1≠e.2
def Kz:Sp:=λvs H Q _=>∃t p tv xs ps,vs=[.ref t,.ref p]/\Sq H t tv/\oF H tv ps/\Sq H p (xs.map V.str)/\Ls xs/\Cd xs ps/\∀H',Same H H'->Q (.bl true) H'
theorem KC(T:Txt K mg a):bT P w K mg base iU 3 a.fW a.nO ["thing", "points"] Kz:=by
 exists T.vm.qg,Kc
 ·obtain⟨t,p,tv,xs,ps,rfl,_⟩:=h;rfl
 ·obtain⟨t,p,tv,xs,ps,rfl,ht,hpr,hp,hx,hts,q⟩:=h;refine⟨_,(aA (cR (PW.pt (uz (eG (dG (PE.eqv (aM (qT T) hr.d rfl T.lN T.iK.kp T.lM .nil bh (aj (aG 0) ao)) (aJ _ _ _)))) (oJ (aV uY (aH (bY (K:=K) rfl) rfl T.nm.len qjo (aj (aG 0) ao)) (vO rfl T.za T.zc) (bO _))))) (aC (aY pH)) bF)
   (aC (aY (aH (lJ rfl) rfl T.nm.all lF (aj (cG rfl rfl (show aN (aB qw) _ ["thing", "points"] ["one"] [1] ["one", "points"] from by rfl') rfl (PI.eqv (tO (K:=K) rfl (aG 0)) (pQ _ _)) (λC s H fp pn=>(aL (i:=0) (show(["one", "points"]:QAH).Nodup by symm) rfl (Or.inl rfl))) (λC s H fp pn=>dM) (λC s H fp pn=>(PE.eqv (aM (R9 T) hr.d rfl T.Kl T.Bl.kp T.Kh .nil bh (aj (aG 0) (aj (aG 1) ao))) (aJ _ _ _)))) ao))))),?_⟩
  have hlen:=hpr.1;have C_:=hts.len;have h60:60<sizeLine:=by decide
  left;refine⟨t,_,rfl,ht,λH1 s1=>?_⟩;left;refine⟨_,(ht.same s1).q,eE.neg (by simp;omega) ?_⟩;obtain⟨b,hb⟩:=ht.b;left;refine⟨b,⟨_,hb K H1 s1⟩,λD hD=>cmQ tv (λi σ' H'=>(∃o,σ'=[o,some (.ref p)])/\Same H1 H'/\H' D=some (.lst (List.replicate i (.bl true)))) ⟨⟨none,rfl⟩,aq hD,ak⟩ (λi σ' H' _ h=>hb K H' (s1.trans h.2.1)) ?_ ?_⟩
  ·rintro i v σ' H' hi ⟨⟨o,rfl⟩,sm,BZ⟩;obtain⟨e,he,t2,rfl,R5⟩:=hpr.at hi;have hi2:i<tv.length:=(qi5.mp hi).1;obtain⟨h1,h2,h3⟩:=hts.ok e (qi9 he);have s2:=s1.trans sm;left;refine⟨t2,p,e.1,e.2,xs,rfl,R5.same s2,hp.same s2,hx,h1,h2,h3,λH2 s3=>?_⟩;left;refine⟨_,s3 _ _ BZ,by simp;omega,aU (sm.trans s3) hD,?_⟩;rw[ak,<- qlA]
  ·rintro σ' H' ⟨⟨o,rfl⟩,sm,BZ⟩;left;refine⟨_,BZ,_,pU _,?_⟩;rw[show(List.replicate tv.length true).all id=true by simp];exact q _ (s1.trans sm)
def cu(H:Hp)(vs:List V)(ps:QAD):Prop:=vs.length=ps.length/\∀(i:Nat) v e,vs[i]? = some v->ps[i]? = some e->∃t,v = .ref t/\H t=some (.tup [.str e.1,.str e.2])
def bV(H H':Hp):Prop:=∀b xs,H b=some (.tup xs)->H' b=some (.tup xs)
theorem cu.keep{H H':Hp}{vs:List V}{ps:QAD}(h:cu H vs ps)(s:bV H H'):cu H' vs ps:=⟨h.1,λi v e h1 h2=>by
 obtain⟨t,rfl,e⟩:=h.2 i v e h1 h2;exact⟨t,rfl,s _ _ e⟩⟩
theorem cu.snoc{H:Hp}{vs:List V}{ps:QAD}{t:Addr}{e:Str×Str}(h:cu H vs ps)(ht:H t=some (.tup [.str e.1,.str e.2])):cu H (vs++[.ref t]) (ps++[e]):=by
 refine⟨by simp[h.1],λi v d h1 h2=>?_⟩
 by_cases hi:i<vs.length
 ·rw[qjr hi] at h1;rw[qjr (by rw[<- h.1];exact hi)] at h2;exact h.2 i v d h1 h2
 ·rw[qjw (by omega)] at h1;rw[qjw (by rw[<- h.1];omega),<- h.1] at h2;cases hk:i - vs.length with
  |zero=>
   rw[hk] at h1 h2;cases h1;cases h2;exact⟨t,rfl,ht⟩
  |succ j=>
   rw[hk] at h1;simp at h1
structure gK(C:Addr)(H:Hp)(o:Addr)(xs:QAH)(ps:QAD):Prop where
 ex:∃dx n m tv,H o=some (.ins C dx [("names",V.ref n),("pairs",V.ref m)])/\H n=some (.tup (xs.map V.str))/\H m=some (.tup tv)/\cu H tv ps/\ps.length<=20
def qad(C:Addr):Sp:=λvs H Q _=>∃o dx p t tv xs ps,vs=[.ref o,.ref p,.ref t]/\H o=some (.ins C dx [])/\Sq H t tv/\oF H tv ps/\Sq H p (xs.map V.str)/\Ls xs/\Cd xs ps/\
 ∀H',gK C H' o xs ps->But o H H'->Q .non H'
theorem KD(T:Txt K mg a):bT P w K mg base iU 4 a.eU a.nQ ["self", "points", "ties"] (qad a.bN):=by
 exists T.Bp.qg,Kd
 ·obtain⟨o,dx,p,t,tv,xs,ps,rfl,_⟩:=h;rfl
 ·obtain⟨o,dx,p,t,tv,xs,ps,rfl,ho,ht,hpr,hp,hx,hts,q⟩:=h;refine⟨_,(aA (cR (eG (dG (PE.eqv (aM (Dw T) hr.d rfl T.wR T.qL.kp T.wQ .nil bh (aj (aG 1) ao)) (aJ _ _ _)))) (aC pI) bF)
   (aA (cR (eG (dG (PE.eqv (aM (KC T) hr.d rfl T.Bo T.vm.kp T.Bm .nil bh (aj (aG 2) (aj (aG 1) ao))) (aJ _ _ _)))) (aC pI) bF)
   (aA (Pz (K:=K) rfl (aG 0) (iH Ew rfl T.nm.tuple boot_tuple (aj (aG 1) ao)) rfl)
   (aC (Pz (K:=K) rfl (aG 0) (iH Ew rfl T.nm.tuple boot_tuple (aj (cG rfl rfl (show aN (aB qz) _ ["self", "points", "ties"] ["pair"] [] ["pair"] from by rfl') rfl (PI.eqv (tO (K:=K) rfl (aG 2)) (pQ _ _)) (λC s H fp pn=>(aL (i:=0) (show(["pair"]:QAH).Nodup by symm) rfl (Or.inl rfl))) (λC s H fp pn=>dM) (λC s H fp pn=>(kh (aj (bW (cg (K:=K) rfl) (aG 0) aF (λ_ _=>rfl)) (aj (bW (cg (K:=K) rfl) (aG 0) aF (λ_ _=>rfl)) ao))))) ao)) rfl))))),?_⟩
  left;refine⟨p,xs,rfl,hp,hx,λH1 s1=>?_⟩;left;refine⟨t,p,tv,xs,ps,rfl,ht.same s1,hpr.same s1,hp.same s1,hx,hts,λH2 s2'=>?_⟩;have s2:=s1.trans s2';left;refine⟨_,hp.same s2,λn H3 hn s3'=>?_⟩;have s3:=s2.trans s3';have nno:n≠o:=iR hn (s3 _ _ ho) (by intro z;cases z);refine⟨_,_,_,s3 _ _ ho,T.kW,T.HN,by simp,?_⟩;have hto:t≠o:=by rcases ht with z|z <;> exact iR z ho (by intro y;cases y)
  have qeC:∀{ob:HO}{b:Addr}{u:HO},b≠o->H b=some u->upd H3 o ob b=some u:=λhb e=>by rw[aD hb];exact s3 _ _ e
  obtain⟨b,hb⟩:∃b,∀H',(∀c u,c≠o->H c=some u->H' c=some u)->SqB b K H' t tv:=by
   rcases ht with z|z
   ·exact⟨true,λH' k=>aX.of (k _ _ hto z)⟩
   ·exact⟨false,λH' k=>dg.of (k _ _ hto z)⟩
  have e1:jr "names" (V.ref n) []=([("names",V.ref n)]:List (Str×V)):=rfl;rw[e1];have MJ:∀(c:Addr)(u:HO),c≠o->H c=some u->upd H3 o (.ins a.bN dx [("names",V.ref n)]) c=some u:=λc u hc e=>qeC hc e;generalize h4:upd H3 o (.ins a.bN dx [("names",V.ref n)])=H4 at MJ⊢;have ho4:H4 o=some (.ins a.bN dx [("names",V.ref n)]):=by rw[<- h4];exact ak
  have hn4:H4 n=some (.tup (xs.map V.str)):=by rw[<- h4,aD nno];exact hn
  refine⟨b,⟨_,hb H4 MJ⟩,λD hD=>cmQ tv (λi σ' H'=>(∃o',σ'=[o'])/\Same H4 H'/\∃tvs,H' D=some (.lst tvs)/\cu H' tvs (ps.take i)) ⟨⟨none,rfl⟩,aq hD,[],ak,by simp[cu]⟩ (λi σ' H' _ h=>hb H' λc u hc e=>h.2.1 _ _ (MJ c u hc e)) ?_ ?_⟩
  ·rintro i v σ' H' hi ⟨⟨o',rfl⟩,sm,tvs,BZ,htv⟩;have hi2:i<tv.length:=(qi5.mp hi).1;have hlen:=hpr.1;have C_:=hts.len;obtain⟨e,he,t2,rfl,R5⟩:=hpr.at hi;have t2o:t2≠o:=by rcases R5 with z|z <;> exact iR z ho (by intro y;cases y)
   have ht3:Sq H' t2 [.str e.1,.str e.2]:=by
    rcases R5 with z|z
    ·exact .inl (sm _ _ (MJ _ _ t2o z))
    ·exact .inr (sm _ _ (MJ _ _ t2o z))
   left;refine⟨_,ht3.q,_,bA (j:=0) rfl,_,ht3.q,_,bA (j:=1) rfl,λpt hpt=>?_⟩;have hDp:D≠pt:=aW BZ hpt;refine⟨tvs,by rw[aD hDp];exact BZ,?_,aU (sm.trans (aq hpt)) hD,_,ak,?_⟩
   ·have h4':20<sizeLine:=by decide
    have:=htv.1;simp at this;omega
   ·rw[take_one he];refine(htv.keep ?_).snoc ?_
    ·intro c zs ec;rw[aD (iR ec BZ (by intro y;cases y)),aD (aW ec hpt)];exact ec
    ·rw[aD (qk7 hDp)];exact ak
  ·rintro σ' H' ⟨⟨o',rfl⟩,sm,tvs,BZ,htv⟩;left;refine⟨tvs,.inl BZ,λm H5 hm s5=>⟨_,_,_,s5 _ _ (sm _ _ ho4),T.kW,T.zO,by simp,?_⟩⟩;have ho5:=s5 _ _ (sm _ _ ho4);have mno:m≠o:=iR hm ho5 (by intro z;cases z);have e2:jr "pairs" (V.ref m) ([("names",V.ref n)]:List (Str×V))=([("names",V.ref n),("pairs",V.ref m)]:List (Str×V)):=by
    show(if ("names" : Str) = "pairs" then _ else (("names" : Str),V.ref n)::jr "pairs" (V.ref m) [])=_
    rw[if_neg (by symm)];rfl
   rw[e2];refine q _ ⟨dx,n,m,tvs,ak,?_,?_,?_,hts.len⟩ λc u hc e=>?_
   ·rw[aD nno];exact s5 _ _ (sm _ _ hn4)
   ·rw[aD mno];exact hm
   ·have hl:=hpr.1;rw[hl,qjk] at htv;refine htv.keep λc zs ec=>?_;rw[aD (iR (s5 _ _ ec) ho5 (by intro z;cases z))];exact s5 _ _ ec
   ·rw[aD hc];exact s5 _ _ (sm _ _ (MJ c u hc e))
def R_(C:Addr):Sp:=λvs H Q _=>∃o xs ps,vs=[.ref o]/\gK C H o xs ps/\∀l,H l=none->Q (.ref l) (upd H l (.lst (xs.map V.str)))
theorem gZ(T:Txt K mg a):bT P w K mg base iU 1 a.cV a.jN ["self"] (R_ a.bN):=by
 exists T.wU.qg,Dt
 ·obtain⟨o,xs,ps,rfl,_⟩:=h;rfl
 ·obtain⟨o,xs,ps,rfl,⟨dx,n,m,tv,h1,h2,h3,h4,h5⟩,q⟩:=h;refine⟨_,(aC (aY (iH (wG (K:=K) rfl) rfl T.nm.list boot_list (aj (PE.eqv (Gx (K:=K) rfl (aG 0) rfl) (Hg _ _ _)) ao)))),?_⟩;left;refine⟨_,_,_,h1,T.kW,T.HN,_,rfl,_,.inr (dg.of h2),q⟩
def qae(C:Addr):Sp:=λvs H Q _=>∃o xs ps,vs=[.ref o]/\gK C H o xs ps/\∀l tv,H l=none->cu H tv ps->Q (.ref l) (upd H l (.lst tv))
theorem sV(T:Txt K mg a):bT P w K mg base iU 1 a.eV a.nR ["self"] (qae a.bN):=by
 exists T.Br.qg,Ke
 ·obtain⟨o,xs,ps,rfl,_⟩:=h;rfl
 ·obtain⟨o,xs,ps,rfl,⟨dx,n,m,tv,h1,h2,h3,h4,h5⟩,q⟩:=h;refine⟨_,(aC (aY (iH (wG (K:=K) rfl) rfl T.nm.list boot_list (aj (PE.eqv (Gx (K:=K) rfl (aG 0) rfl) (Hg _ _ _)) ao)))),?_⟩;left;refine⟨_,_,_,h1,T.kW,T.zO,_,rfl,_,.inr (dg.of h3),λl hl=>q l tv hl h4⟩
theorem pW.upd{p q:Addr}{H:Hp}{u:HO}(x:pW H p)(h:p≠q):pW (L2.upd H q u) p:=by
 obtain⟨a,b,e,r⟩:=x;exact⟨a,b,by rw[aD h];exact e,r⟩
theorem pW.ne{p q:Addr}{H:Hp}(x:pW H p)(h:H q=none):p≠q:=by
 obtain⟨a,b,e,r⟩:=x;exact aW e h
theorem pW.none{p b:Addr}{H H':Hp}(x:But p H H')(hp:pW H' p)(h:H' b = .none):H b = .none:=by
 obtain⟨a,b,e,r⟩:=hp;exact x.none e h
def Xm:Sp:=λvs H Q _=>∃p l xs,vs=[.ref p,.ref l]/\pW H p/\l≠p/\H l=some (.lst xs)/\xs.length<=100/\∀r ys H',H r=none->H' r=some (.lst ys)->ys.Perm xs->pW H' p->But p H H'->Q (.ref r) H'
theorem KH(T:Txt K mg a):bT P w K mg base iU 2 a.n6 a.wL ["_law_pot_here", "_law_things"] Xm:=by
 exists T.zN.qg,Bf
 ·obtain⟨p,l,xs,rfl,_⟩:=h;rfl
 ·obtain⟨p,l,xs,rfl,hp,hlp,hl,h100,q⟩:=h;refine⟨_,(aA (bx (i:=2) Bf.nd rfl (Or.inl rfl) (dX ao))
   (aA (h_ qjW rfl (PI.eqv (bI (K:=K) rfl (aG 1)) (bB _ _)) (aL (i:=3) Bf.nd rfl (Or.inl rfl))
   (aC (eN (oM (K:=K) rfl qj4 PySem.F.slot_list_insert PySem.F.type_list_insert M6 (aG 2) (aj (PE.eqv (aM (lD T) hr.d rfl T.o_ T.mR.kp T.o9 .nil bh (aj (aG 0) (aj (cB iW (aH (bY (K:=K) rfl) rfl T.nm.len qjo (aj (aG 2) ao)) aF) ao))) (aJ _ _ _)) (aj (aG 3) ao))))))
   (aC (aY (aG 2))))),?_⟩
  have h4':100<sizeLine:=by decide
  left;intro r hr0;have hpr:p≠r:=hp.ne hr0;refine⟨⟨_,aX.of (cH hl hr0)⟩,frL xs (λi σ H'=>∃v ys,σ=[some (.ref p),some (.ref l),some (.ref r),v]/\H' r=some (.lst ys)/\ys.Perm (xs.take i)/\pW H' p/\But p H H') ⟨none,[],rfl,ak,by simp,hp.upd hpr,(But.refl _ _).new hr0⟩ (λi σ H' _ ⟨_,_,_,_,_,_,hb⟩=>aX.of (hb _ _ hlp hl)) ?_ ?_⟩
  ·rintro i x σ H' hi ⟨v,ys,rfl,hr',hperm,hP,hB⟩;have hi2:i<xs.length:=(qi5.mp hi).1;have hly:ys.length=i:=by
    have:=hperm.length_eq;simp at this;omega
   left;refine⟨⟨_,aX.of hr'⟩,ys,.inl (aX.of hr'),p,_,rfl,hP,by omega,by omega,λd H1 hd0 hd1 hP1 hB1=>?_⟩;have hr1:H1 r=some (.lst ys):=hB1 _ _ (qk7 hpr) hr';left;refine⟨ys,hr1,hd0,by omega,by omega,_,ak,?_,hP1.upd hpr,(hB.trans hB1).new hr0⟩
   ·rw[take_one hi];have e:(ys.take d.toNat++x::ys.drop d.toNat).Perm (x::ys):=by
     refine List.perm_middle.trans ?_;rw[qjT]
    exact e.trans ((List.Perm.cons x hperm).trans (List.perm_append_singleton x _).symm)
  ·rintro σ H' ⟨v,ys,rfl,hr',hperm,hP,hB⟩;rw[qjk] at hperm;left;exact q r ys H' hr0 hr' hperm hP hB
def Xn:Sp:=λvs H Q _=>∃(p:Addr)(m:Nat),vs=[.ref p,.int m]/\pW H p/\1<=m/\m<=9/\∀(r:Addr)(xs:QAH)(H':Hp),H r=none->H' r=some (.lst (xs.map V.str))->Ls xs->xs.length=m->pW H' p->But p H H'->Q (.ref r) H'
theorem Xo(T:Txt K mg a):bT P w K mg base iU 2 a.nZ a.wK ["_law_pot_here", "_law_many"] Xn:=by
 exists T.HB.qg,mJ
 ·obtain⟨p,m,rfl,_⟩:=h;rfl
 ·obtain⟨p,m,rfl,hp,h1,h9,q⟩:=h;refine⟨_,(aA (bx (i:=2) mJ.nd rfl (Or.inr rfl) uT)
   (aA (bx (i:=3) mJ.nd rfl (Or.inl rfl) (PE.eqv (aM (lD T) hr.d rfl T.o_ T.mR.kp T.o9 .nil bh (aj (aG 0) (aj aF ao))) (aJ _ _ _)))
   (aA (bx (i:=4) mJ.nd rfl (Or.inl rfl) (dX ao))
   (aA (h_ qjW rfl (PI.eqv (lE rfl T.nm.range (aj (aG 1) ao)) (lG _)) (aL (i:=5) mJ.nd rfl (Or.inl rfl))
   (aA (bx (i:=6) mJ.nd rfl (Or.inl rfl) (PE.eqv (aM (lD T) hr.d rfl T.o_ T.mR.kp T.o9 .nil bh (aj (aG 0) (aj aF ao))) (aJ _ _ _)))
   (aA (bx (i:=7) mJ.nd rfl (Or.inl rfl) (oM (K:=K) rfl PySem.F.plainAttrs_str PySem.F.slot_str_join PySem.F.type_str_join Ww uT (aj (cG rfl rfl (show aN (aB zJ) _ ["_law_pot_here", "_law_many", "_law_letters", "_law_begin", "_law_found", "_law_k", "_law_size", "_law_more"] ["_law_j"] [2,0] ["_law_j", "_law_letters", "_law_pot_here"] from by rfl') rfl (PI.eqv (lE rfl T.nm.range (aj (aG 6) ao)) (lG _)) (λC s H fp pn=>(aL (i:=0) (show(["_law_j", "_law_letters", "_law_pot_here"]:QAH).Nodup by symm) rfl (Or.inl rfl))) (λC s H fp pn=>dM) (λC s H fp pn=>(bW PX (aG 1) (PE.eqv (aM (lD T) hr.d rfl T.o_ T.mR.kp T.o9 .nil bh (aj (aG 2) (aj aF ao))) (aJ _ _ _)) (λ_ _=>rfl)))) ao)))
   (aC (eN (oM (K:=K) rfl qj4 qj9 qj_ fO (aG 4) (aj (cB JQ (bW PX (aG 2) (cB tV (cB iW (aG 3) (cB zB aF (aG 5))) aF) (λ_ _=>rfl)) (aG 7)) ao)))))))
   (aC (aY (aG 4))))))),?_⟩
  left;refine⟨p,_,rfl,hp,by decide,by decide,λd H1 hd0 hd1 hP1 hB1=>?_⟩;obtain⟨b,rfl,qiW,hbl⟩:=rJ hd0 hd1;have hP2:=hP1;have hB2:=hB1;left;intro r hr0;refine⟨zlt h9 (by decide),frR (λi σ H'=>∃v8 v9 v10 ws,σ=[some (.ref p),some (.int m),some (.str (Str.ofString "abcdefghijklmnopqrstuvwxyz")),some (.int b),some (.ref r),v8,v9,v10]/\H' r=some (.lst (ws.map V.str))/\ws.length=i/\(∀(j:Nat) x,ws[j]? = some x->∃k,1<=k/\k<=4/\qb (97+(b+5 * j) % 26) k x)/\pW H' p/\But p H H') ⟨none,none,none,[],rfl,ak,rfl,λj x e=>by simp at e,hP2.upd (hP2.ne hr0),hB2.same (aq hr0)⟩ ?_ ?_⟩
  ·rintro i σ H' hi ⟨v8,v9,v10,ws,rfl,hr',hl,hw,hP,hB⟩;left;obtain⟨c,hc,qhL,hcl⟩:=rJ (i:=((b:Int)+5 * i) % 26) zn1 zn2;have hc':c=(b+5 * i) % 26:=zn3 hc;have pr:r≠p:=λz=>by subst z;obtain⟨_,_,u,_⟩:=hP2;rw[hr0] at u;cases u
   refine⟨p,_,rfl,hP,by decide,by decide,λe H3 he0 Er pG hB3=>?_⟩;left;have hDr:∀{D:Addr},H3 D=none->r≠D:=λhD=>aW (hB3 _ _ pr hr') hD;refine⟨zlo he0,zhi Er (by decide),λD hD=>cmR (λj σ H4=>∃v ys,σ=[v,some (.str (Str.ofString "abcdefghijklmnopqrstuvwxyz")),some (.ref p)]/\H4 D=some (.lst (ys.map V.str))/\H4 r=some (.lst (ws.map V.str))/\ys.length=j/\(∀y∈ys,∃n,n<26/\y=(⟨#[97+n]⟩:Str))/\pW H4 p/\But p H H4) ⟨_,[],rfl,ak,cH (hB3 _ _ pr hr') hD,rfl,by simp,pG.upd (pG.ne hD),(hB.trans hB3).same (aq hD)⟩ ?_ ?_⟩
   ·rintro j σ H4 hj ⟨v,ys,rfl,iQ,KJ,hyl,hys,Dr,KN⟩;have hDp:D≠p:=(pG.ne hD).symm;left;refine⟨p,_,rfl,Dr,by decide,by decide,λf H5 hf0 hf1 hP5 Xp=>?_⟩;obtain⟨n,rfl,qhM,hnl⟩:=rJ hf0 hf1;simp -dsimp[au,stC,-Bool.exists_bool,-List.map_take,-Prod.forall,-Prod.exists,yP,hnl];have s20:=qll Di;refine⟨_,Xp _ _ hDp iQ,by rw[qja];exact zn4 hj Er hyl,ys++[⟨#[97+n]⟩],by rw[ak];simp,by rw[aD (hDr hD)];exact Xp _ _ pr KJ,by simp[hyl],λy hy=>?_,hP5.upd hDp.symm,(KN.trans Xp).new (pW.none (hB.trans hB3) pG hD)⟩
    rcases qjz.mp hy with hy|hy
    ·exact hys y hy
    ·exact⟨n,qhM,by simpa using hy⟩
   ·rintro σ H4 ⟨v,ys,rfl,iQ,KJ,hyl,hys,Dr,KN⟩;have hy3:=rO ys hys;left;have hw4:=(qb.one qhL).glue (by decide) hys;have s20:=qll Di;refine⟨ys,iQ,by rw[hy3.2.2];exact zn5 hyl Er,?_⟩;simp -dsimp[au,stC,-Bool.exists_bool,-List.map_take,-Prod.forall,-Prod.exists,yP,hcl];have hlen:(⟨#[97+c]⟩:Str).length+(Txt.join (Str.ofString "") ys).length=1+ys.length:=by
     rw[<- hw4.len];exact(qkE).symm
    refine⟨⟨_,aX.of KJ⟩,by rw[hlen];exact qhF (zn6 hyl Er) (by decide),_,KJ,by rw[qja,hl];exact zsz hi (qjx h9 (by decide)),ws++[_],by rw[ak];simp;rfl,by simp[hl],λj y e=>?_,Dr.upd pr.symm,KN.new (pW.none hB2 hP2 hr0)⟩
    by_cases hj:j<ws.length
    ·rw[qjr hj] at e;exact hw j y e
    ·rw[qjw (Nat.not_lt.mp hj)] at e;cases hk:j - ws.length with
     |zero=>
      rw[hk] at e;simp at e;subst e;have ej:j=i:=(zn8 hj hk).trans hl;subst ej;exact⟨1+ys.length,Nat.le_add_right 1 _,zn6 hyl Er,by rw[<- hc'];exact hw4⟩
     |succ k=>
      rw[hk] at e;simp at e
  ·rintro σ H' ⟨v8,v9,v10,ws,rfl,hr',hl,hw,hP,hB⟩;left;have nd:ws.Nodup:=by
    unfold List.Nodup;rw[List.pairwise_iff_getElem];intro i j hi hj hij e;obtain⟨k1,_,_,w1⟩:=hw i _ (by simp[hi]:ws[i]? = some ws[i]);obtain⟨k2,_,_,w2⟩:=hw j _ (by simp[hj]:ws[j]? = some ws[j]);have z:=w1.fst;rw[e,w2.fst] at z;simp at z;exact zn7 hi hj hij (by rw[hl];exact h9) z
   refine q r ws H' (pW.none hB2 hP2 hr0) hr' ⟨⟨by rw[hl];exact h1,by rw[hl];exact h9⟩,λx hx=>?_,nd⟩ hl hP hB;obtain⟨j,hj,e⟩:=List.mem_iff_getElem.mp hx;obtain⟨k,k1,k4,w⟩:=hw j x (by simp[hj,e]);exact w.name k1 k4
theorem cu.at{H:Hp}{vs:List V}{ps:QAD}(h:cu H vs ps){i:Nat}{v:V}(hv:vs[i]? = some v):∃e,ps[i]? = some e/\∃t,v = .ref t/\H t=some (.tup [.str e.1,.str e.2]):=by
 have hi:i<ps.length:=by rw[<- h.1];exact(qi5.mp hv).1
 exact⟨ps[i],by simp[hi],h.2 i v _ hv (by simp[hi])⟩
theorem cu.same{H H':Hp}{vs:List V}{ps:QAD}(h:cu H vs ps)(b:Same H H'):cu H' vs ps:=h.keep λc xs e=>b c _ e
theorem pW.nl{p q:Addr}{H:Hp}(x:pW H p)(h:H q = .none):q≠p:=λz=>(x.ne h) z.symm
theorem qeD{m:Str}{u v:V} (h1:¬m = "names") (h2:¬m = "pairs"):∀p∈([("names",u),("pairs",v)]:List (Str×V)),¬m=p.1:=λp hp=>by
 simp at hp
 rcases hp with rfl|rfl
 ·exact h1
 ·exact h2
theorem gK.same{C:Addr}{H H':Hp}{o:Addr}{xs:QAH}{ps:QAD}(h:gK C H o xs ps)(s:Same H H'):gK C H' o xs ps:=by
 obtain⟨dx,n,m,tv,h1,h2,h3,h4,h5⟩:=h.ex;exact⟨⟨dx,n,m,tv,s _ _ h1,s _ _ h2,s _ _ h3,cu.same h4 s,h5⟩⟩
theorem gK.ins{C:Addr}{H:Hp}{o:Addr}{xs:QAH}{ps:QAD}(h:gK C H o xs ps){m:Str} (h1:¬m = "names") (h2:¬m = "pairs"):∃dx fs,H o=some (.ins C dx fs)/\∀p∈fs,¬m=p.1:=by
 obtain⟨dx,n,mm,tv,e,_⟩:=h.ex;exact⟨dx,_,e,qeD h1 h2⟩
theorem um:¬(("ties" : Str) = "names")/\¬(("ties" : Str) = "pairs"):=by symm
theorem fH:¬(("points" : Str) = "names")/\¬(("points" : Str) = "pairs"):=by symm
theorem zP:¬(("many" : Str) = "names")/\¬(("many" : Str) = "pairs"):=by symm
def Ce(C:Addr):Sp:=λvs H Q _=>∃o d xs ps fx,vs=[.ref o,.ref d]/\gK C H o xs ps/\qaM H d fx/\∀l tv H',H l=none->H' l=some (.lst tv)->cI H' tv (aZ fx ps 0)->tv.length<=40->Same H H'->Q (.ref l) H'
theorem mV(T:Txt K mg a):bT P w K mg base iU 2 a.cX a.i_ ["web", "fixed"] (Ce a.bN):=by
 exists T.gW.qg,fP
 ·obtain⟨o,d,xs,ps,fx,rfl,_⟩:=h;rfl
 ·obtain⟨o,d,xs,ps,fx,rfl,hw,hfx,q⟩:=h;refine⟨_,(aA (bx (i:=2) fP.nd rfl (Or.inl rfl) (dX ao))
   (aA (h_ qjW rfl (PI.eqv (tQ (K:=K) rfl rfl T.Lr.enumerate (aj (PE.eqv (gM (aG 0) T.kW T.qQ (sV T) hr.d T.qM .nil bh) (gQ _ _ _ _ _ _)) ao)) (lH _ _)) (PG.eqv (fL (K:=K) (n:=2) rfl rfl (jF.eqv (bC (aL (i:=3) fP.nd rfl (Or.inl rfl)) (jF.eqv (bC (PG.eqv (fL (K:=K) (n:=2) rfl rfl (jF.eqv (bC (aL (i:=4) fP.nd rfl (Or.inl rfl)) (jF.eqv (bC (aL (i:=5) fP.nd rfl (Or.inl rfl)) (jF.mono fK iY)) (bD _ _))) (bD _ _))) (fM _ _ _)) (jF.mono fK iY)) (bD _ _))) (bD _ _))) (fM _ _ _))
   (aA (cR (aV kE (PE.eqv (Jt (Ei hr) (aG 1) (aG 3) aF ⟨rfl,rfl,rfl,rfl⟩) (Eu _ _ _)) aF (bO _)) (aC (eN (oM (K:=K) rfl qj4 qj9 qj_ fO (aG 2) (aj (kh (aj (aG 3) (aj (aG 4) (aj (aG 5) ao)))) ao)))) bF)
   (aC (cR (aV kE (PE.eqv (Jt (Ei hr) (aG 1) (aG 3) aF ⟨rfl,rfl,rfl,rfl⟩) (Eu _ _ _)) aF (bO _)) (aC (eN (oM (K:=K) rfl qj4 qj9 qj_ fO (aG 2) (aj (kh (aj (aG 3) (aj (aG 5) (aj (aG 4) ao)))) ao)))) bF))))
   (aC (aY (aG 2))))),?_⟩
  obtain⟨dx,fs,hi,hno⟩:=hw.ins um.1 um.2;obtain⟨_,_,_,_,_,_,_,_,C_⟩:=hw.ex;left;intro L hL;refine⟨_,_,cH hi hL,hno,o,xs,ps,rfl,hw.same (aq hL),λl2 uO hl2 Xq=>?_⟩;have sa:Same H (upd (upd H L (.lst [])) l2 (.lst uO)):=(aq hL).trans (aq hl2);have eL:upd (upd H L (.lst [])) l2 (.lst uO) L=some (.lst []):=cH ak hl2;have e2:upd (upd H L (.lst [])) l2 (.lst uO) l2=some (.lst uO):=ak;have yq:=cu.same Xq (aq (o:=HO.lst uO) hl2);have L2n:L≠l2:=λz=>by subst z;rw[ak] at hl2;cases hl2
  generalize upd (upd H L (.lst [])) l2 (.lst uO)=H1 at sa eL e2 yq⊢;obtain⟨kvs,hd,hv⟩:=hfx;have dL:d≠L:=aW hd hL;left;refine⟨⟨_,aX.of e2⟩,frE uO (λi σ H'=>(∃v3 v4 v5 sv,σ=[some (.ref o),some (.ref d),some (.ref L),v3,v4,v5]/\H' L=some (.lst sv)/\cI H' sv (aZ fx (ps.take i) 0)/\sv.length<=2 * i)/\H' l2=some (.lst uO)/\cu H' uO ps/\Same H H') ⟨⟨_,_,_,[],rfl,eL,aR.nil,by simp⟩,e2,yq,sa⟩ (λi σ H' _ h=>aX.of h.2.1) ?_ ?_⟩
  ·rintro i x t σ H2 hi ht ⟨⟨v3,v4,v5,sv,rfl,hL2,hsv,hsl⟩,qeE,htv,s2⟩;have hi2:i<uO.length:=(qi5.mp hi).1;have tl:=htv.1;obtain⟨e,he,tt,rfl,htt⟩:=htv.at hi;rw[GX fx he];unfold uX;left;have st:Same H2 (upd H2 t (.tup [.int i,.ref tt])):=aq ht;refine⟨_,dg.of ak,rfl,_,dg.of (st _ _ htt),rfl,isD (st _ _ (s2 _ _ hd)),_,qd4 i (st _ _ (s2 _ _ hd)),?_⟩;have tL:L≠t:=aW hL2 ht;have KQ:=st _ _ hL2;have Dy:=st _ _ qeE;have yq:=cu.same htv st;have s3:=s2.trans st;have qcM:=cI.keep hsv (L2.bV.of st);generalize upd H2 t (.tup [.int i,.ref tt])=H3 at KQ Dy yq s3 qcM⊢;have s60:60<=sizeLine:=by decide
   have add:∀(H3:Hp)(sv:List V)(S:List jw)(n:Nat)(x y:Str)(b:Addr),H3 L=some (.lst sv)->cI H3 sv S->H3 b=none->H3 l2=some (.lst uO)->cu H3 uO ps->Same H H3->
     (upd (upd H3 b (.tup [.int n,.str x,.str y])) L (.lst (sv++[.ref b])) L=some (.lst (sv++[.ref b]))/\cI (upd (upd H3 b (.tup [.int n,.str x,.str y])) L (.lst (sv++[.ref b]))) (sv++[.ref b]) (S++[(n,x,y)]))/\upd (upd H3 b (.tup [.int n,.str x,.str y])) L (.lst (sv++[.ref b])) l2=some (.lst uO)/\cu (upd (upd H3 b (.tup [.int n,.str x,.str y])) L (.lst (sv++[.ref b]))) uO ps/\Same H (upd (upd H3 b (.tup [.int n,.str x,.str y])) L (.lst (sv++[.ref b]))):=by
    intro H3 sv S n x y b KQ hsv hb hl2 htv s3;have sb:Same H3 (upd H3 b (.tup [.int n,.str x,.str y])):=aq hb;have kp:L2.bV (upd H3 b (.tup [.int n,.str x,.str y])) (upd (upd H3 b (.tup [.int n,.str x,.str y])) L (.lst (sv++[.ref b]))):=L2.bV.set (sb _ _ KQ) (by intro z e;cases e);refine⟨⟨ak,aR.snoc (cI.keep (cI.keep hsv (L2.bV.of sb)) kp) ⟨b,rfl,kp _ _ ak⟩⟩,by rw[aD L2n.symm];exact sb _ _ hl2,(cu.same htv sb).keep kp,aU (s3.trans sb) hL⟩
   rw[hv i,JC];left;refine VJ (λσ H4=>(∃sv,σ=[some (.ref o),some (.ref d),some (.ref L),some (.int i),some (.str e.1),some (.str e.2)]/\H4 L=some (.lst sv)/\cI H4 sv (aZ fx (ps.take i) 0++if (fx i).getD 0=0 then [(i,e.1,e.2)] else [])/\sv.length<=2 * i+1)/\H4 l2=some (.lst uO)/\cu H4 uO ps/\Same H H4) ?_ ?_
   ·rintro σ H4 ⟨⟨sv,rfl,Sd,qeF,qcN⟩,Sg,Sh,s4⟩;left;refine⟨isD (s4 _ _ hd),_,qd4 i (s4 _ _ hd),?_⟩;rw[hv i,JC];left;refine eE.of (λh=>?_) (λh=>?_)
    ·have h':(fx i).getD 1=1:=by simpa using h
     left;refine⟨⟨_,aX.of Sd⟩,λb hb=>?_⟩;refine⟨_,cH Sd hb,zs1 qcN hi2 tl C_,?_⟩;obtain⟨⟨k1,k2⟩,k3,k4,k5⟩:=add H4 sv _ i e.2 e.1 b Sd qeF hb Sg Sh s4;refine⟨⟨_,k1,?_,by rw[qjF];exact zs2 qcN⟩,k3,k4,k5⟩;rw[if_pos h',<- qjs];exact k2
    ·have h':¬(fx i).getD 1=1:=by simpa using h
     left;refine⟨⟨_,Sd,?_,Nat.le_of_succ_le (zs2 qcN)⟩,Sg,Sh,s4⟩;rw[if_neg h',qjD];exact qeF
   ·intro N hN;refine eE.of (λh=>?_) (λh=>?_)
    ·have h':(fx i).getD 0=0:=by simpa using h
     left;refine⟨⟨_,aX.of KQ⟩,λb hb=>?_⟩;refine⟨_,cH KQ hb,zs1 (qkp hsl) hi2 tl C_,?_⟩;obtain⟨⟨k1,k2⟩,k3,k4,k5⟩:=add H3 sv _ i e.1 e.2 b KQ qcM hb Dy yq s3;refine hN _ _ ⟨⟨_,rfl,k1,?_,by rw[qjF];exact Nat.succ_le_succ hsl⟩,k3,k4,k5⟩;rw[if_pos h'];exact k2
    ·have h':¬(fx i).getD 0=0:=by simpa using h
     left;refine hN _ _ ⟨⟨_,rfl,KQ,?_,qkp hsl⟩,Dy,yq,s3⟩;rw[if_neg h',qjD];exact qcM
  ·rintro σ H2 ⟨⟨v3,v4,v5,sv,rfl,hL2,hsv,hsl⟩,qeE,htv,s2⟩;left;rw[htv.1,qjk] at hsv;have tl:=htv.1;exact q L sv H2 hL hL2 hsv (zs3 hsl tl C_) s2
def Dz:Sp:=λvs H Q _=>∃(start:Str)(l:Addr)(tv:List V)(S:List jw)(xs:QAH),vs=[.str start,.ref l]/\H l=some (.lst tv)/\cI H tv S/\start∈xs/\(∀s∈S,s.2.2∈xs)/\xs.length<=9/\
 ∀(d:Addr)(kvs:List (Key×V))(R:BR)(H':Hp),H d=none->H' d=some (.dK kvs)->d8 H' kvs R->Lq S start R.length R->qhD S start R->qj H kvs->Same H H'->Q (.ref d) H'
theorem DG(T:Txt K mg a):bT P w K mg base iU 1 a.dN a.jL ["start", "steps"] Dz:=by
 exists T.qK.qg,cJ
 ·obtain⟨start,l,tv,S,xs,rfl,_⟩:=h;rfl
 ·obtain⟨start,l,tv,S,xs,rfl,hl,hS,hsx,hSx,h9,q⟩:=h;refine⟨_,(aA (bx (i:=2) cJ.nd rfl (Or.inl rfl) (Ze (VD (aG 0) (dX ao) Zd) rfl rfl (by simp) (by decide)))
   (aA (bx (i:=3) cJ.nd rfl (Or.inl rfl) (dX (aj (aG 0) ao)))
   (aA (bx (i:=4) cJ.nd rfl (Or.inl rfl) aF)
   (aA (Jc qjW (aV G6 (aG 4) (aH (bY (K:=K) rfl) rfl T.nm.len qjo (aj (aG 3) ao)) (bO _))
   (aA (bx (i:=5) cJ.nd rfl (Or.inl rfl) (bW (cg (K:=K) rfl) (aG 3) (aG 4) (λ_ _=>rfl)))
   (aA (h_ qjW rfl (PI.eqv (bI (K:=K) rfl (aG 1)) (bB _ _)) (PG.eqv (fL (K:=K) (n:=3) rfl rfl (jF.eqv (bC (aL (i:=6) cJ.nd rfl (Or.inl rfl)) (jF.eqv (bC (aL (i:=7) cJ.nd rfl (Or.inl rfl)) (jF.eqv (bC (aL (i:=8) cJ.nd rfl (Or.inl rfl)) (jF.mono fK iY)) (bD _ _))) (bD _ _))) (bD _ _))) (fM _ _ _))
   (aC (cR (PW.pt (Us (aV kE (aG 7) (aG 5) (bO _)) (O2 (PK (PC.eqv (Rr (Ei hr) (aG 8) (aG 2)) (M4 _ _)))))) (aA (PS.eqv (Zc (Ei hr) (aG 2) (aG 8) (cB qe (PE.eqv (Zb (Ei hr) (aG 2) (aG 5) (λ_ _=>rfl)) (Ws _ _)) (dX (aj (aG 6) ao))) rfl) (Wt _ _ _))
   (aC (eN (oM (K:=K) rfl qj4 qj9 qj_ fO (aG 3) (aj (aG 8) ao))))) bF)))
   (aC (PS.mono (Uz (i:=4) cJ.nd rfl (Or.inl rfl) aF P0) Wj)))))
   (aC (aY (aG 2))))))),?_⟩
  left;intro d hd p1 hp1;refine⟨cH ak hp1,[(Sum.inr start,.ref p1)],rfl,by simp,λrl hrl=>?_⟩;have em:uW [] [((Sum.inr start:Key),V.ref p1)]=[(Sum.inr start,.ref p1)]:=rfl;rw[em] at hrl⊢;have dp1:d≠p1:=λz=>by subst z;rw[ak] at hp1;cases hp1
  have qhN:H p1=none:=bK (aq hd) hp1;have sa:Same H (upd (upd (upd H d (.dK [])) p1 (.lst [])) d (.dK [(Sum.inr start,.ref p1)])):=aU ((aq hd).trans (aq hp1)) hd;have qhO:H rl=none:=bK sa hrl;have e1:upd (upd (upd H d (.dK [])) p1 (.lst [])) d (.dK [(Sum.inr start,.ref p1)]) d=some (.dK [(Sum.inr start,.ref p1)]):=ak;have e2:upd (upd (upd H d (.dK [])) p1 (.lst [])) d (.dK [(Sum.inr start,.ref p1)]) p1=some (.lst []):=by rw[aD dp1.symm];exact ak
  generalize upd (upd (upd H d (.dK [])) p1 (.lst [])) d (.dK [(Sum.inr start,.ref p1)])=H1 at sa hrl e1 e2⊢;have sb:=sa.trans (aq (o:=.lst [.str start]) hrl);have dr:d≠rl:=aW e1 hrl;have qeG:qj H [((Sum.inr start:Key),V.ref p1)]:=by
   intro kv hkv q hq;simp at hkv;subst hkv;cases hq;exact qhN
  refine whB (λσ H'=>∃(n:Nat)(R:BR)(kvs:List (Key×V))(o5 o6 o7 o8:Option V),σ=[some (.str start),some (.ref l),some (.ref d),some (.ref rl),some (.int n),o5,o6,o7,o8]/\H' d=some (.dK kvs)/\d8 H' kvs R/\H' rl=some (.lst (R.map λyw=>.str yw.1))/\Lq S start n R/\xV S start n=R/\qj H kvs/\n<=R.length/\Same H H')
   (λσ _=>qd6 4 σ)
   ⟨0,[(start,[])],[(Sum.inr start,.ref p1)],none,none,none,none,rfl,cH e1 hrl,⟨rfl,?_⟩,ak,Lq.begin S start,rfl,qeG,by simp,sb⟩ ?_ JW
  ·intro i kv yw h1 h2;have hi:i=0:=by have:=(qi5.mp h1).1;simp at this;omega
   subst hi;simp at h1 h2;subst h1 h2;exact⟨rfl,p1,rfl,cH e2 hrl⟩
  ·rintro σ H2 ⟨n,R,kvs,o5,o6,o7,o8,rfl,hd2,hW2,hr2,hB,hF,hN,hnR,s2⟩;have hR9:R.length<=9:=by
    have h1:=jy hB.nd (hB.sub hsx hSx);simp at h1;omega
   left;refine⟨_,.inl (aX.of hr2),eE.of (λhlt=>?_) (λhlt=>?_)⟩
   ·have hlt':n<R.length:=by simpa using hlt
    left;obtain⟨⟨hh,wh⟩,hR⟩:∃x,R[n]? = some x:=⟨R[n],by simp[hlt']⟩;refine⟨_,.inl (aX.of hr2),.str hh,bA (by rw[qje,hR];rfl),⟨_,aX.of (s2 _ _ hl)⟩,frL tv (λj σ H'=>∃(R:BR)(kvs:List (Key×V))(o6 o7 o8:Option V),σ=[some (.str start),some (.ref l),some (.ref d),some (.ref rl),some (.int n),some (.str hh),o6,o7,o8]/\H' d=some (.dK kvs)/\d8 H' kvs R/\H' rl=some (.lst (R.map λyw=>.str yw.1))/\kj S (S.take j) start n hh wh R/\wH (S.take j) hh wh (xV S start n)=R/\qj H kvs/\Same H H') ⟨R,kvs,o6,o7,o8,rfl,hd2,hW2,hr2,kj.enter hB hR,hF,hN,s2⟩ (λj σ H' _ h=>by
     obtain⟨_,_,_,_,_,_,_,_,_,_,_,_,z⟩:=h;exact aX.of (z _ _ hl)) ?_ ?_⟩
    ·rintro j x σ H3 hj ⟨R,kvs,o6,o7,o8,rfl,hd3,hW3,Ys,hM,hF3,hN3,s3⟩;obtain⟨⟨sn,so,sg⟩,hs,t,rfl,ht⟩:=hS.at hj;have hR9:R.length<=9:=by
      have h1:=jy hM.bf.nd (hM.bf.sub hsx hSx);simp at h1;omega
     have hFs:=M7 (S.take j) (sn,so,sg) hh wh (xV S start n);rw[hF3] at hFs;rw[take_one hs];left;refine⟨_,dg.of (s3 _ _ ht),rfl,?_⟩;left
     by_cases hoh:so=hh
     ·subst hoh;refine eE.pos (by simp) ?_;left;refine⟨_,qb8 sg hd3,?_⟩;rw[hW3.qhg hM.bf.nd];refine eE.of (λhg=>?_) (λhg=>?_)
      ·have hg':¬sg∈R.map (·.1):=by simpa using hg
       obtain⟨pw,hpw,qhP⟩:=hW3.some hM.bf.nd (qi9 hM.hr);have hwl:=hM.bf.qhe (qi9 hM.hr);have s20:=qll Di;left;refine⟨.ref pw,?_,λb hb=>?_⟩
       ·have:=qb8 so hd3;rw[hpw] at this;exact this
       refine⟨_,cH qhP hb,_,ak,by simp;omega,λc hc=>?_⟩;have s4:Same H3 (upd (upd H3 b (.lst [.int sn])) c (.lst (wh.map (λn:Nat=>V.int n)++[.int sn]))):=(aq hb).trans (aq hc);have ec:upd (upd H3 b (.lst [.int sn])) c (.lst (wh.map (λn:Nat=>V.int n)++[.int sn])) c=some (.lst (wh.map (λn:Nat=>V.int n)++[.int sn])):=ak;generalize upd (upd H3 b (.lst [.int sn])) c (.lst (wh.map (λn:Nat=>V.int n)++[.int sn]))=H4 at s4 ec⊢;have hd4:=s4 _ _ hd3;have KJ:=s4 _ _ Ys;have hkl:=hW3.len;have epk:putK kvs (Sum.inr sg) (.ref c)=kvs++[(Sum.inr sg,.ref c)]:=Vw _ (hW3.none hg');refine⟨_,qhc sg hd4 (by omega),?_⟩;rw[epk];have Qq:upd H4 d (.dK (kvs++[(Sum.inr sg,.ref c)])) rl=some (.lst (R.map λyw=>.str yw.1)):=by rw[aD dr.symm];exact KJ
       have ne0:∀w:List Nat,R.map (λyw=>V.str yw.1)≠w.map (λn:Nat=>V.int n):=λw e=>by
        have hst:=hM.bf.st;cases R with
        |nil=>simp at hst
        |cons r R=>
         cases w with
         |nil=>simp at e
         |cons n w=>simp at e
       have kp:∀(p:Addr)(w:List Nat),H4 p=some (.lst (w.map λn:Nat=>V.int n))->upd (upd H4 d (.dK (kvs++[(Sum.inr sg,.ref c)]))) rl (.lst (R.map (λyw=>V.str yw.1)++[.str sg])) p=some (.lst (w.map λn:Nat=>V.int n)):=λp w e=>by
        have h1:p≠d:=λz=>by subst z;rw[hd4] at e;cases e
        have h2:p≠rl:=λz=>by subst z;rw[KJ] at e;exact ne0 w (HO.lst.inj (qjI e))
        rw[aD h2,aD h1];exact e
       have ec':H4 c=some (.lst ((wh++[sn]).map λn:Nat=>V.int n)):=by rw[ec];simp
       refine⟨⟨_,aX.of Qq⟩,_,Qq,by simp;omega,R++[(sg,wh++[sn])],_,by rw[aD dr];exact ak,?_,by rw[ak];simp,hM.add (qi9 hs) hg',hFs.trans (if_pos ⟨rfl,hg'⟩),hN3.snoc (bK (s3.trans (aq hb)) hc),aU (aU (s3.trans s4) hd) qhO⟩;refine d8.snoc (d8.keep (H:=H4) (d8.keep hW3 λp w e=>s4 _ _ e) kp) (kp _ _ ec')
      ·have hg':sg∈R.map (·.1):=by simpa using hg
       left;exact⟨R,kvs,hd3,hW3,Ys,hM.skip λ_=>hg',hFs.trans (if_neg (λz=>z.2 hg')),hN3,s3⟩
     ·refine eE.neg (by simp[hoh]) ?_;left;exact⟨R,kvs,hd3,hW3,Ys,hM.skip λz=>absurd z hoh,hFs.trans (if_neg (λz=>hoh z.1)),hN3,s3⟩
    ·rintro σ H3 ⟨R,kvs,o6,o7,o8,rfl,hd3,hW3,Ys,hM,hF3,hN3,s3⟩;have hl3:S.take tv.length=S:=by rw[hS.1,qjk]
     rw[hl3] at hM hF3;left;have hlen:=(qi5.mp hM.hr).1;refine⟨⟨n+1,by omega,R,kvs,hd3,hW3,Ys,hM.leave,(RP (by rw[hF];exact hR)).trans hF3,hN3,hlen,s3⟩,?_⟩;simp[qd6];omega
   ·have hlt':¬n<R.length:=by simpa using hlt
    have en:n=R.length:=by omega
    subst en;left;exact q d kvs R H2 hd hd2 hW2 hB hF hN s2
def Cg(C:Addr):Sp:=λvs H Q _=>∃(o:Addr)(start:Str)(l:Addr)(tv:List V)(S:List jw)(xs:QAH)(ps:QAD),vs=[.ref o,.str start,.ref l]/\gK C H o xs ps/\H l=some (.lst tv)/\cI H tv S/\start∈xs/\(∀s∈S,s.2.2∈xs)/\xs.length<=9/\
 ∀(r:Addr)(H':Hp),H r=none->H' r=some (.lst ((Ul S xs start).map V.str))->Same H H'->Q (.ref r) H'
theorem sW(T:Txt K mg a):bT P w K mg base iU 2 a.cY a.jc ["web", "start", "steps"] (Cg a.bN):=by
 exists T.jR.qg,rZ
 ·obtain⟨o,start,l,tv,S,xs,ps,rfl,_⟩:=h;rfl
 ·obtain⟨o,start,l,tv,S,xs,ps,rfl,hw,hl,hS,hsx,hSx,h9,q⟩:=h;refine⟨_,(aA (bx (i:=3) rZ.nd rfl (Or.inr rfl) (PE.eqv (aM (DG T) hr.d rfl T.wO T.qK.kp T.wN .nil bh (aj (aG 1) (aj (aG 2) ao))) (aJ _ _ _)))
   (aC (aY (cG rfl rfl (show aN (aB jH) _ ["web", "start", "steps", "ways"] ["point"] [3] ["point", "ways"] from by rfl') rfl (PI.eqv (bI (K:=K) rfl (PE.eqv (gM (aG 0) T.kW T.gG (gZ T) hr.d T.gF .nil bh) (gQ _ _ _ _ _ _))) (bB _ _)) (λC s H fp pn=>(aL (i:=0) (show(["point", "ways"]:QAH).Nodup by symm) rfl (Or.inl rfl))) (λC s H fp pn=>(gA (PK (PC.eqv (qbZ (Ei hr) (aG 0) (aG 1)) (ZK _ _))))) (λC s H fp pn=>(aG 0)))))),?_⟩
  left;refine⟨start,l,tv,S,xs,rfl,hl,hS,hsx,hSx,h9,λd kvs R H1 hd hd1 hW hB _ _ s1=>?_⟩;obtain⟨dx,fs,hi,hno⟩:=(hw.same s1).ins fH.1 fH.2;left;refine⟨_,_,hi,hno,o,xs,ps,rfl,hw.same s1,λl2 hl2=>?_⟩;exists H1,l2,(.lst (xs.map V.str)),s2,e2,H2,hl2;have hd2:=s2 _ _ hd1;have hW2:=hW.keep λp w e=>s2 _ _ e;have s20:=qll Di;left;refine⟨⟨_,aX.of e2⟩,λD hD=>Iv (xs.map V.str) (λi σ H'=>(∃o,σ=[o,some (.ref d)])/\H' D=some (.lst ((Ul S (xs.take i) start).map V.str))/\Same H2 H') ⟨⟨_,rfl⟩,ak,aq hD⟩ (λi σ H' _ h=>aX.of (h.2.2 _ _ e2)) ?_ ?_⟩
  ·rintro i x σ H3 hi ⟨⟨o',rfl⟩,rB,s3⟩;obtain⟨y,hy,rfl⟩:=z7 hi;have hi2:i<xs.length:=(qi5.mp hy).1;left;refine⟨_,qb8 y (s3 _ _ hd2),?_⟩;rw[hW2.has hB.nd,VP hy (decide (y∈R.map (·.1))) (by rw[qkD];exact hB.iff y)];refine eE.of (λh=>?_) (λh=>?_)
   ·rw[if_pos h];left;have hfl:=Zi (S:=S) (xs:=xs.take i) (x:=start);rw[qji] at hfl;refine⟨_,rB,by simp;omega,by simp[ak],aU s3 hD⟩
   ·rw[if_neg (by rw[h];exact qjq),qjD];left;exact⟨rB,s3⟩
  ·rintro σ H3 ⟨⟨o',rfl⟩,rB,s3⟩;rw[qja,qjk] at rB;left;exact q D H3 (bK (s1.trans s2) hD) rB ((s1.trans s2).trans s3)
theorem Qs{xs:QAH}{ps:QAD}{fx:Nat->Option Int}(h:Cd xs ps):∀s∈aZ fx ps 0,s.2.2∈xs:=by
 intro s hs;obtain⟨j,e,h1,h2⟩:=jX.mp hs;obtain⟨q1,q2,_⟩:=h.ok e (qi9 h1);obtain⟨_,q|q⟩:=jx.mp h2
 ·rw[q.2.2];exact q2
 ·rw[q.2.2];exact q1
def KR(C:Addr):Sp:=λvs H Q _=>∃(o:Addr)(xs:QAH)(ps:QAD),vs=[.ref o]/\gK C H o xs ps/\Ls xs/\Cd xs ps/\
 ∀(l:Addr)(rs:List V)(H':Hp),H l=none->H' l=some (.lst rs)->eO H' rs (Af (aZ (λ_=>none) ps 0) xs xs)->(∀v∈rs,∀b,v = .ref b->H b=none)->Same H H'->Q (.ref l) H'
theorem KY(T:Txt K mg a):bT P w K mg base iU 3 a.fQ a.nJ ["web"] (KR a.bN):=by
 exists T.vg.qg,nF
 ·obtain⟨o,xs,ps,rfl,_⟩:=h;rfl
 ·obtain⟨o,xs,ps,rfl,hw,hX,hTs,q⟩:=h;refine⟨_,(aA (bx (i:=1) nF.nd rfl (Or.inl rfl) (PE.eqv (aM (mV T) hr.d rfl T.jQ T.gW.kp T.jP .nil bh (aj (aG 0) (aj Js ao))) (aJ _ _ _)))
   (aA (bx (i:=2) nF.nd rfl (Or.inl rfl) (dX ao))
   (aA (h_ qjW rfl (PI.eqv (bI (K:=K) rfl (PE.eqv (gM (aG 0) T.kW T.gG (gZ T) hr.d T.gF .nil bh) (gQ _ _ _ _ _ _))) (bB _ _)) (aL (i:=3) nF.nd rfl (Or.inr rfl))
   (aC (cR (eG (dG (aH (tW rfl) rfl T.Lr.any tM (aj (cG rfl rfl (show aN (aB qu) _ ["web", "steps", "told", "point"] ["cluster"] [3] ["cluster", "point"] from by rfl') rfl (PI.eqv (bI (K:=K) rfl (aG 2)) (bB _ _)) (λC s H fp pn=>(aL (i:=0) (show(["cluster", "point"]:QAH).Nodup by symm) rfl (Or.inl rfl))) (λC s H fp pn=>dM) (λC s H fp pn=>(gk (xU (K:=K) rfl) (aG 1) (aG 0) rfl))) ao)))) (aC (eN (oM (K:=K) rfl qj4 qj9 qj_ fO (aG 2) (aj (PE.eqv (aM (sW T) hr.d rfl T.oW T.jR.kp T.oV .nil bh (aj (aG 0) (aj (aG 3) (aj (aG 1) ao)))) (aJ _ _ _)) ao)))) bF)))
   (aC (aY (aG 2)))))),?_⟩
  have hSx:=Qs (fx:=λ_=>none) hTs;left;intro d hd;refine⟨o,d,xs,ps,λ_=>none,rfl,hw.same (aq hd),JB ak,λl tv H1 hl0 hl1 hS _ s1'=>?_⟩;have s1:=(aq hd).trans s1';have qiX:=bK (aq hd) hl0;left;intro L hL;obtain⟨dx,fs,hi,hno⟩:=(hw.same (s1.trans (aq (o:=HO.lst []) hL))).ins fH.1 fH.2;refine⟨_,_,hi,hno,o,xs,ps,rfl,hw.same (s1.trans (aq hL)),λl2 hl2=>?_⟩;have s2:Same H1 (upd (upd H1 L (.lst [])) l2 (.lst (xs.map V.str))):=(aq hL).trans (aq hl2);have e2:upd (upd H1 L (.lst [])) l2 (.lst (xs.map V.str)) l2=some (.lst (xs.map V.str)):=ak;have eL:upd (upd H1 L (.lst [])) l2 (.lst (xs.map V.str)) L=some (.lst []):=cH ak hl2;have l2L:l2≠L:=λz=>by subst z;rw[ak] at hl2;cases hl2
  generalize upd (upd H1 L (.lst [])) l2 (.lst (xs.map V.str))=H2 at s2 e2 eL⊢;have hL0:=bK s1 hL;have s20:=qll Di;have l9:=hX.len;left;refine⟨⟨_,aX.of e2⟩,frL (xs.map V.str) (λi σ H'=>(∃v3 rs,σ=[some (.ref o),some (.ref l),some (.ref L),v3]/\H' L=some (.lst rs)/\eO H' rs (Af (aZ (λ_=>none) ps 0) xs (xs.take i))/\∀v∈rs,∀b,v = .ref b->H b=none/\b≠L)/\H' l2=some (.lst (xs.map V.str))/\Same H1 H') ⟨⟨_,[],rfl,eL,aR.nil,by simp⟩,e2,s2⟩ (λi σ H' _ h=>aX.of h.2.1) ?_ ?_⟩
  ·rintro i x σ H3 hi ⟨⟨v3,rs,rfl,KQ,hrs,hfr⟩,Dy,s3⟩;obtain⟨y,hy,rfl⟩:=z7 hi;have hi2:i<xs.length:=(qi5.mp hy).1;have hcl:=JD (S:=aZ (λ_=>none) ps 0) (xs:=xs) (xs.take i) [];have qbO:(Af (aZ (λ_=>none) ps 0) xs (xs.take i)).length<=i:=by
    unfold Af;rw[qji] at hcl;simp at hcl;omega
   have hrl:=hrs.1;rw[Rv hy];generalize hcs:Af (aZ (λ_=>none) ps 0) xs (xs.take i)=cs at hrs qbO hrl⊢;left;refine⟨⟨_,aX.of KQ⟩,λD hD=>Iv rs (λj σ H'=>(∃o',σ=[o',some (.str y)])/\H' D=some (.lst ((cs.take j).map λc=>V.bl (decide (y∈c))))/\Same H3 H') ⟨⟨_,rfl⟩,ak,aq hD⟩ (λj σ H' _ h=>aX.of (h.2.2 _ _ KQ)) ?_ ?_⟩
   ·rintro j x σ H4 hj ⟨⟨o',rfl⟩,iQ,s4⟩;obtain⟨c,hc,t,rfl,ht⟩:=hrs.at hj;have hj2:j<cs.length:=(qi5.mp hc).1;left;refine⟨_,.inl (aX.of (s4 _ _ ht)),rfl,qjC.mp (dI c),_,iQ,by simp;omega,?_,aU s4 hD⟩;rw[ak,cD,take_one hc];simp
   ·rintro σ H4 ⟨⟨o',rfl⟩,iQ,s4⟩;rw[hrl,qjk] at iQ;left;refine⟨_,iQ,_,gB _ _,?_⟩;have ea:(cs.map λc=>decide (y∈c)).any id=cs.any λc=>decide (y∈c):=by rw[List.any_map];rfl
    rw[ea];have Sd:=s4 _ _ KQ;refine eE.of (λh=>?_) (λh=>?_)
    ·have h':(cs.any λc=>decide (y∈c))=false:=by simpa using h
     have ef:lW (aZ (λ_=>none) ps 0) xs cs y=cs++[Ul (aZ (λ_=>none) ps 0) xs y]:=by unfold lW;rw[if_neg (by rw[h'];exact qjq)]
     rw[ef];have hl4:=s4 _ _ (s3 _ _ hl1);have hS4:=cI.keep hS (L2.bV.of (s3.trans s4));left;refine⟨⟨_,aX.of Sd⟩,o,y,l,tv,aZ (λ_=>none) ps 0,xs,ps,rfl,hw.same ((s1.trans s3).trans s4),hl4,hS4,qi9 hy,hSx,l9.2,λr H5 hr0 Qq s5=>?_⟩;have hL5:=s5 _ _ Sd;have rL:r≠L:=λz=>by subst z;rw[Sd] at hr0;cases hr0
     have s6:Same H1 (upd H5 L (.lst (rs++[.ref r]))):=aU ((s3.trans s4).trans s5) hL;have l2n:l2≠L:=l2L;left;refine⟨_,hL5,by omega,⟨_,ak,?_,?_⟩,by rw[aD l2n];exact s5 _ _ (s4 _ _ Dy),s6⟩
     ·have kp:∀v c,v∈rs->VN H3 v c->VN (upd H5 L (.lst (rs++[.ref r]))) v c:=λv c hv ⟨t,e,ht⟩=>⟨t,e,by rw[aD (hfr v hv t e).2];exact s5 _ _ (s4 _ _ ht)⟩;refine aR.snoc ⟨hrs.1,λj v c h1 h2=>kp v c (qi9 h1) (hrs.2 j v c h1 h2)⟩ ⟨r,rfl,by rw[aD rL];exact Qq⟩
     ·intro v hv b e
      rcases qjz.mp hv with z|z
      ·exact hfr v z b e
      ·simp at z;rw[z] at e;cases e;exact⟨bK ((s1.trans s3).trans s4) hr0,rL⟩
    ·have h':(cs.any λc=>decide (y∈c))=true:=by simpa using h
     have ef:lW (aZ (λ_=>none) ps 0) xs cs y=cs:=by unfold lW;rw[if_pos h']
     rw[ef];left;exact⟨⟨rs,Sd,hrs.same s4,hfr⟩,s4 _ _ Dy,s3.trans s4⟩
  ·rintro σ H3 ⟨⟨v3,rs,rfl,KQ,hrs,hfr⟩,Dy,s3⟩;rw[qja,qjk] at hrs;left;exact q L rs H3 hL0 KQ hrs (λv hv b e=>(hfr v hv b e).1) (s1.trans s3)
def qaf(C:Addr):Sp:=λvs H Q _=>∃(o:Addr)(xs:QAH)(ps:QAD),vs=[.ref o]/\gK C H o xs ps/\Ls xs/\Cd xs ps/\
 ∀(l:Addr)(rs:List V)(H':Hp),H l=none->H' l=some (.lst rs)->∀(zs:List (Addr×Nat×QAH)),aR xP H' rs zs->zs.map (·.2)=oN ps xs->(zs.map (·.1)).Nodup->(∀z∈zs,H z.1=none/\z.1≠l)->Same H H'->Q (.ref l) H'
theorem qag(T:Txt K mg a):bT P w K mg base iU 3 a.sy a.zK ["web"] (qaf a.bN):=by
 exists T.Nu.qg,qF
 ·obtain⟨o,xs,ps,rfl,_⟩:=h;rfl
 ·obtain⟨o,xs,ps,rfl,hw,hX,hTs,q⟩:=h;refine⟨_,(aA (bx (i:=1) qF.nd rfl (Or.inl rfl) (PE.eqv (aM (mV T) hr.d rfl T.jQ T.gW.kp T.jP .nil bh (aj (aG 0) (aj Js ao))) (aJ _ _ _)))
   (aA (bx (i:=2) qF.nd rfl (Or.inl rfl) (dX ao))
   (aA (h_ qjW rfl (PI.eqv (tQ (K:=K) rfl rfl T.Lr.enumerate (aj (PE.eqv (gM (aG 0) T.kW T.qQ (sV T) hr.d T.qM .nil bh) (gQ _ _ _ _ _ _)) ao)) (lH _ _)) (PG.eqv (fL (K:=K) (n:=2) rfl rfl (jF.eqv (bC (aL (i:=3) qF.nd rfl (Or.inr rfl)) (jF.eqv (bC (PG.eqv (fL (K:=K) (n:=2) rfl rfl (jF.eqv (bC (aL (i:=4) qF.nd rfl (Or.inl rfl)) (jF.eqv (bC (aL (i:=5) qF.nd rfl (Or.inl rfl)) (jF.mono fK iY)) (bD _ _))) (bD _ _))) (fM _ _ _)) (jF.mono fK iY)) (bD _ _))) (bD _ _))) (fM _ _ _))
   (aA (bx (i:=6) qF.nd rfl (Or.inl rfl) (PE.eqv (aM (sW T) hr.d rfl T.oW T.jR.kp T.oV .nil bh (aj (aG 0) (aj (aG 5) (aj (cG rfl rfl (show aN (aB Hv) _ ["web", "steps", "told", "number", "first", "second", "lot"] ["step"] [3] ["step", "number"] from by rfl') rfl (PI.eqv (bI (K:=K) rfl (aG 1)) (bB _ _)) (λC s H fp pn=>(aL (i:=0) (show(["step", "number"]:QAH).Nodup by symm) rfl (Or.inl rfl))) (λC s H fp pn=>(gA (aV rQ (bW (cg (K:=K) rfl) (aG 0) aF (λ_ _=>rfl)) (aG 1) (bO _)))) (λC s H fp pn=>(aG 0))) ao)))) (aJ _ _ _)))
   (aC (cR (aV (Hi (K:=K) rfl) (aG 4) (aG 6) rfl) (aC (eN (oM (K:=K) rfl qj4 qj9 qj_ fO (aG 2) (aj (kh (aj (aG 3) (aj (aG 6) ao))) ao)))) bF))))
   (aC (aY (aG 2)))))),?_⟩
  have hSx:=Qs (fx:=λ_=>none) hTs;have s50:50<=sizeLine:=by decide
  have l9:=hX.len;left;intro d hd;refine⟨o,d,xs,ps,λ_=>none,rfl,hw.same (aq hd),JB ak,λl tv H1 hl0 hl1 hS qiH s1'=>?_⟩;have s1:=(aq hd).trans s1';left;intro L hL;obtain⟨dx,fs,hi,hno⟩:=(hw.same (s1.trans (aq (o:=HO.lst []) hL))).ins um.1 um.2;refine⟨_,_,hi,hno,o,xs,ps,rfl,hw.same (s1.trans (aq hL)),λl2 uO hl2 Xq=>?_⟩;have s2:Same H1 (upd (upd H1 L (.lst [])) l2 (.lst uO)):=(aq hL).trans (aq hl2);have e2:upd (upd H1 L (.lst [])) l2 (.lst uO) l2=some (.lst uO):=ak;have eL:upd (upd H1 L (.lst [])) l2 (.lst uO) L=some (.lst []):=cH ak hl2;have l2L:l2≠L:=λz=>by subst z;rw[ak] at hl2;cases hl2
  have yq:=cu.same Xq (aq (o:=HO.lst uO) hl2);generalize upd (upd H1 L (.lst [])) l2 (.lst uO)=H2 at s2 e2 eL yq⊢;have hL0:=bK s1 hL;left;refine⟨⟨_,aX.of e2⟩,frE uO (λi σ H'=>(∃o3 o4 o5 o6 rs zs,σ=[some (.ref o),some (.ref l),some (.ref L),o3,o4,o5,o6]/\H' L=some (.lst rs)/\aR xP H' rs zs/\zs.map (·.2)=jl (qZ ps xs) (ps.take i) 0/\(zs.map (·.1)).Nodup/\∀z∈zs,H z.1=none/\z.1≠L)/\H' l2=some (.lst uO)/\cu H' uO ps/\Same H1 H') ⟨⟨_,_,_,_,[],[],rfl,eL,aR.nil,rfl,by simp,by simp⟩,e2,yq,s2⟩ (λi σ H' _ h=>aX.of h.2.1) ?_ ?_⟩
  ·rintro i x t σ H3 hi ht ⟨⟨o3,o4,o5,o6,rs,zs,rfl,KQ,hrs,hzs,hzn,hfr⟩,Dy,htv,s3⟩;obtain⟨e,he,tt,rfl,htt⟩:=htv.at hi;have hem:=qi9 he;obtain⟨q1,q2,q3⟩:=hTs.ok e hem;have hi2:i<ps.length:=(qi5.mp he).1;have hcl:(jl (qZ ps xs) (ps.take i) 0).length<=20:=by
    have h1:=lX (Rw ps xs) (ps.take i) 0;rw[qji] at h1;have:=hTs.len;omega
   have hrl:rs.length=(jl (qZ ps xs) (ps.take i) 0).length:=by rw[hrs.1,<- hzs,qja]
   have st:Same H3 (upd H3 t (.tup [.int i,.ref tt])):=aq ht;rw[xO _ he];generalize hcs:jl (qZ ps xs) (ps.take i) 0=cs at hzs hcl hrl⊢;left;refine⟨_,dg.of ak,rfl,_,dg.of (st _ _ htt),rfl,?_⟩;have Sd:=st _ _ KQ;have Sg:=st _ _ Dy;have Sh:=cu.same htv st;have s4:=s3.trans st;have qcO:=xP.same hrs st;generalize upd H3 t (.tup [.int i,.ref tt])=H4 at Sd Sg Sh s4 qcO⊢;have hl4:=s4 _ _ hl1;have hS4:=cI.keep hS (L2.bV.of s4);refine⟨⟨_,aX.of hl4⟩,λD hD=>Iv tv (λj σ H'=>(∃o',σ=[o',some (.int i)])/\(∃fv,H' D=some (.lst fv)/\fv.length<=j/\cI H' fv ((((aZ (λ_=>none) ps 0)).take j).filter (Mx i)))/\Same H4 H') ⟨⟨_,rfl⟩,⟨[],ak,by simp,aR.nil⟩,aq hD⟩ (λj σ H' _ h=>aX.of (h.2.2 _ _ hl4)) ?_ ?_⟩
   ·rintro j x σ H5 hj ⟨⟨o',rfl⟩,⟨fv,vH,hfl,hfv⟩,s5⟩;obtain⟨⟨sn,so,sg⟩,hs,t5,rfl,ht5⟩:=hS4.at hj;have hj2:j<tv.length:=(qi5.mp hj).1;rw[take_one hs,qjV];left;refine⟨_,.inr (dg.of (s5 _ _ ht5)),_,bA (j:=0) rfl,?_⟩;left
    by_cases hsi:sn=i
    ·refine⟨false,by simp[hsi],eE.neg rfl ?_⟩;have ef : [((sn,so,sg):jw)].filter (Mx i)=[]:=by simp[Mx,hsi]
     rw[ef,qjD];left;exact⟨⟨fv,vH,by omega,hfv⟩,s5⟩
    ·refine⟨true,?_,eE.pos rfl ?_⟩
     ·simp;omega
     have ef : [((sn,so,sg):jw)].filter (Mx i)=[(sn,so,sg)]:=by simp[Mx,hsi]
     rw[ef];left;have kp:L2.bV H5 (upd H5 D (.lst (fv++[.ref t5]))):=L2.bV.set vH (by intro z e;cases e);exact⟨_,vH,by omega,⟨_,ak,by simp;omega,aR.snoc (cI.keep hfv kp) ⟨t5,rfl,kp _ _ (s5 _ _ ht5)⟩⟩,aU s5 hD⟩
   ·rintro σ H5 ⟨⟨o',rfl⟩,⟨fv,vH,hfl,hfv⟩,s5⟩;rw[hS.1,qjk] at hfv;left;refine⟨o,e.2,D,fv,_,xs,ps,rfl,hw.same ((s1.trans s4).trans s5),vH,hfv,q2,λs hs=>hSx s ((qjy.mp hs).1),l9.2,λr H6 hr0 hr6 s6=>?_⟩;have qeH:H6 r=some (.lst ((uE ps xs i e.2).map V.str)):=hr6;left;refine⟨_,.inl (aX.of qeH),rfl,qjC.mp (dI _),?_⟩;rw[cD];have hL6:=s6 _ _ (s5 _ _ Sd);have sH5:Same H H5:=(s1.trans s4).trans s5;have rH:H r=none:=bK sH5 hr0;have rL:r≠L:=λz=>by subst z;rw[s5 _ _ Sd] at hr0;cases hr0
    have qeI:=xP.same (xP.same qcO s5) s6;refine⟨!decide (e.1∈uE ps xs i e.2),by simp,eE.of (λh=>?_) (λh=>?_)⟩
    ·have h':¬e.1∈uE ps xs i e.2:=by simpa using h
     have eb:qZ ps xs e i=[(i,uE ps xs i e.2)]:=by unfold qZ;rw[if_neg h']
     rw[eb];left;refine⟨⟨_,aX.of hL6⟩,λt7 ht7=>?_⟩;have s7:Same H6 (upd H6 t7 (.tup [.int i,.ref r])):=aq ht7;have hL7:=s7 _ _ hL6;have e7:upd H6 t7 (.tup [.int i,.ref r]) t7=some (.tup [.int i,.ref r]):=ak;have hr7:=s7 _ _ qeH;have qcP:=xP.same qeI s7;have t7H:H t7=none:=bK (sH5.trans s6) ht7;have s27:=(s4.trans s5).trans (s6.trans s7);have qeJ:=s7 _ _ (s6 _ _ (s5 _ _ Sg));have qeK:=cu.same Sh ((s5.trans s6).trans s7);generalize upd H6 t7 (.tup [.int i,.ref r])=H7 at s7 hL7 e7 hr7 qcP s27 qeJ qeK⊢;have kt:L2.bV H7 (upd H7 L (.lst (rs++[.ref t7]))):=L2.bV.set hL7 (by intro z e;cases e);have rzs:¬r∈zs.map (·.1):=λz=>by
      obtain⟨y,hy,e0⟩:=qjv.mp z;have:=xP.there (xP.same qcO s5) y hy;rw[e0,hr0] at this;cases this
     refine⟨_,hL7,by omega,⟨_,ak,zs++[(r,i,uE ps xs i e.2)],?_,by simp[hzs],?_,?_⟩,by rw[aD l2L];exact qeJ,qeK.keep kt,aU s27 hL⟩
     ·refine aR.snoc ⟨qcP.1,λj v z h1 h2=>?_⟩ ⟨t7,rfl,kt _ _ e7,by rw[aD rL];exact hr7⟩;obtain⟨t',z1,z2,z3⟩:=qcP.2 j v z h1 h2;exact⟨t',z1,kt _ _ z2,by rw[aD (hfr z (qi9 h2)).2];exact z3⟩
     ·rw[qjU,qla];refine⟨hzn,by simp,?_⟩;intro x hx y hy e0;simp at hy;subst hy;exact rzs (e0▸hx)
     ·intro z hz
      rcases qjz.mp hz with y|y
      ·exact hfr z y
      ·simp at y;subst y;exact⟨rH,rL⟩
    ·have h':e.1∈uE ps xs i e.2:=by simpa using h
     have eb:qZ ps xs e i=[]:=by unfold qZ;rw[if_pos h']
     rw[eb,qjD];left;exact⟨⟨rs,hL6,zs,qeI,hzs,hzn,hfr⟩,s6 _ _ (s5 _ _ Sg),cu.same Sh (s5.trans s6),(s4.trans s5).trans s6⟩
  ·rintro σ H3 ⟨⟨o3,o4,o5,o6,rs,zs,rfl,KQ,hrs,hzs,hzn,hfr⟩,Dy,htv,s3⟩;rw[htv.1,qjk] at hzs;left;exact q L rs H3 hL0 KQ zs hrs hzs hzn hfr (s1.trans s3)
def Qt(H:Hp)(e C:Addr)(fs:List (Str×V)):Prop:=∃dx,dx≠e/\H e=some (dh e C (some dx))/\H dx=some (iu dx fs)
def Xr(C:Addr)(f:Str):Sp:=λvs H Q _=>∃(e l:Addr)(xs:List V),vs=[.ref e,.ref l]/\H e=some (dh e C none)/\H l=some (.lst xs)/\
 ∀(b:Addr)(H':Hp),H b=none->H' b=some (.lst xs)->Qt H' e C [(f,.ref b)]->But e H H'->Q .non H'
theorem KZ{H:Hp}{e l C:Addr}{xs:List V}{f:Str}{Q:VK}{K:W.Frag}(he:H e=some (dh e C none))(hl:H l=some (.lst xs))(q:∀(b:Addr) (H':Hp),H b=none->H' b=some (.lst xs)->Qt H' e C [(f,.ref b)]->But e H H'->Q .non H') :
  (∃x,H e=some (dh e C x))/\∃ys,(aX K H l ys\/dg K H l ys)/\∀(l:Addr),H l=none->upd H l (.lst ys) e=some (dh e C none)/\∀dx,upd H l (.lst ys) dx=none->Q .non (upd (upd (upd H l (.lst ys)) dx (iu dx [(f,.ref l)])) e (dh e C (some dx))):=by
 refine⟨⟨_,he⟩,xs,.inl (aX.of hl),λb hb=>?_⟩;exists H,b,(.lst xs),s1,e1,H1,hb;refine⟨s1 _ _ he,λdx hdx=>?_⟩;have ne:dx≠e:=λz=>by rw[z,s1 _ _ he] at hdx;cases hdx
 have be:b≠e:=λz=>by rw[z,he] at hb;cases hb
 have bd:b≠dx:=λz=>by rw[<- z,e1] at hdx;cases hdx
 refine q b _ hb (by rw[aD be,aD bd];exact e1) ⟨dx,ne,ak,by rw[aD ne];exact ak⟩ λc o hc z=>?_;rw[aD hc,aD (λy=>by rw[<- y,s1 _ _ z] at hdx;cases hdx)];exact s1 _ _ z
theorem K1{H:Hp}{e l C:Addr}{xs:List V}{f g:Str}{y:V}{Q:VK}{K:W.Frag}(fg:g≠f)(he:H e=some (dh e C none))(hl:H l=some (.lst xs))(q:∀(b:Addr) (H':Hp),H b=none->H' b=some (.lst xs)->Qt H' e C [(f,y),(g,.ref b)]->But e H H'->Q .non H') :
  (∃x,H e=some (dh e C x))/\H e=some (dh e C none)/\∀dx,H dx=none->∃ys,(aX K (upd (upd H dx (iu dx [(f,y)])) e (dh e C (some dx))) l ys\/dg K (upd (upd H dx (iu dx [(f,y)])) e (dh e C (some dx))) l ys)/\
   ∀(l:Addr),upd (upd H dx (iu dx [(f,y)])) e (dh e C (some dx)) l=none->∃d2,upd (upd (upd H dx (iu dx [(f,y)])) e (dh e C (some dx))) l (.lst ys) e=some (dh e C (some d2))/\∃fs,upd (upd (upd H dx (iu dx [(f,y)])) e (dh e C (some dx))) l (.lst ys) d2=some (iu d2 fs)/\fs.length<1000/\
    Q .non (upd (upd (upd (upd H dx (iu dx [(f,y)])) e (dh e C (some dx))) l (.lst ys)) d2 (iu d2 (jr g (.ref l) fs))):=by
 refine⟨⟨_,he⟩,he,λdx hdx=>?_⟩;have ne:dx≠e:=λz=>by rw[z,he] at hdx;cases hdx
 have le:l≠e:=λz=>by rw[z,he] at hl;cases hl
 have ld:l≠dx:=λz=>by rw[z,hdx] at hl;cases hl
 have e1:upd (upd H dx (iu dx [(f,y)])) e (dh e C (some dx)) e=some (dh e C (some dx)):=ak;have d1:upd (upd H dx (iu dx [(f,y)])) e (dh e C (some dx)) dx=some (iu dx [(f,y)]):=by rw[aD ne];exact ak
 have b1:But e H (upd (upd H dx (iu dx [(f,y)])) e (dh e C (some dx))):=λc o hc z=>by
  rw[aD hc,aD (λy=>by rw[y,hdx] at z;cases z)];exact z
 generalize upd (upd H dx (iu dx [(f,y)])) e (dh e C (some dx))=H1 at e1 d1 b1⊢;refine⟨xs,.inl (aX.of (b1 _ _ le hl)),λb hb=>?_⟩;exists H1,b,(.lst xs),s2,e2,H2,hb;refine⟨dx,s2 _ _ e1,_,s2 _ _ d1,by show(1:Nat)<1000;decide,?_⟩;have bd:b≠dx:=λz=>by rw[z,d1] at hb;cases hb
 have be:b≠e:=λz=>by rw[z,e1] at hb;cases hb
 have hb0:H b=none:=by
  cases z:H b with
  |none=>rfl
  |some o=>rw[b1 _ _ be z] at hb;cases hb
 have ep:jr g (.ref b) [(f,y)]=[(f,y),(g,.ref b)]:=by
  show(if f=g then _ else _)=_
  rw[if_neg (λz=>fg z.symm)];rfl
 rw[ep];refine q b _ hb0 (by rw[aD bd];exact e2) ⟨dx,ne,by rw[aD (qk7 ne)];exact s2 _ _ e1,ak⟩ λc o hc z=>?_;rw[aD (λy=>by rw[y,hdx] at z;cases z)];exact s2 _ _ (b1 _ _ hc z)
def Xu(C:Addr)(f g:Str):Sp:=λvs H Q _=>∃(e l:Addr)(y:V)(xs:List V),vs=[.ref e,y,.ref l]/\H e=some (dh e C none)/\H l=some (.lst xs)/\
 ∀(b:Addr)(H':Hp),H b=none->H' b=some (.lst xs)->Qt H' e C [(f,y),(g,.ref b)]->But e H H'->Q .non H'
theorem Ci(T:Txt K mg a):bT P w K mg base iU 1 a.cM a.jd ["self", "lot"] (Xr a.bL "lot"):=by
 exists T.uG.qg,Az
 ·obtain⟨e,l,xs,rfl,_⟩:=h;rfl
 ·obtain⟨e,l,xs,rfl,he,hl,q⟩:=h;refine⟨_,(aA (eN (Qg T.yh T.ini rfl T.qR (aj (aG 0) (aj uT ao))))
   (aC (qa0 T.Fv T.fC (aG 0) (iH (wG (K:=K) rfl) rfl T.nm.list boot_list (aj (aG 1) ao)) rfl))),?_⟩
  left;exact KZ he hl q
theorem Cj(T:Txt K mg a):bT P w K mg base iU 1 a.cN a.je ["self", "tie", "lot"] (Xu a.bG "tie" "lot"):=by
 exists T.uI.qg,A_
 ·obtain⟨e,l,y,xs,rfl,_⟩:=h;rfl
 ·obtain⟨e,l,y,xs,rfl,he,hl,q⟩:=h;refine⟨_,(aA (eN (Qg T.yj T.ini rfl T.qR (aj (aG 0) (aj uT ao))))
   (aA (qa0 T.yp T.fD (aG 0) (aG 1) rfl)
   (aC (qeu T.yp T.fG (aG 0) (iH (wG (K:=K) rfl) rfl T.nm.list boot_list (aj (aG 2) ao)) rfl)))),?_⟩
  left;exact K1 (by decide) he hl q
def vI(ps:QAD)(xs:QAH):List (QAH):=Af (aZ (λ_=>none) ps 0) xs xs
def zu(C Pa Ba:Addr):Sp:=λvs H Q E=>∃(o:Addr)(xs:QAH)(ps:QAD),vs=[.ref o]/\gK C H o xs ps/\Ls xs/\Cd xs ps/\
 ((vI ps xs).length<=1->oN ps xs=[]->∀H',Same H H'->Q .non H')/\
 (∀c r,vI ps xs=c::r->r≠[]->∀(dx cc:Addr)(H':Hp),H cc=none->H' dx=some (iu dx [("lot",.ref cc)])->H' cc=some (.lst (c.map V.str))->Same H H'->E (.ref Pa) (some dx) H')/\
 ((vI ps xs).length<=1->∀k lot rest,oN ps xs=(k,lot)::rest->∀(dx c:Addr)(H':Hp),H c=none->H' dx=some (iu dx [("tie",.int (k:Nat)),("lot",.ref c)])->H' c=some (.lst (lot.map V.str))->Same H H'->E (.ref Ba) (some dx) H')
theorem zx(T:Txt K mg a):bT P w K mg base (RV P w) 5 a.cQ a.g_ ["web"] (zu a.bN a.bL a.bG):=by
 exists T.mQ.ZP,fu
 ·obtain⟨o,xs,ps,rfl,_⟩:=h;rfl
 ·obtain⟨o,xs,ps,rfl,hw,hX,hTs,q1,q2,q3⟩:=h;refine⟨_,(aA (bx (i:=1) fu.nd rfl (Or.inl rfl) (PE.eqv (aM (KY T) hr.d rfl T.Bh T.vg.kp T.Bg .nil bh (aj (aG 0) ao)) (aJ _ _ _)))
   (aA (cR (aV uY (aH (bY (K:=K) rfl) rfl T.nm.len qjo (aj (aG 1) ao)) aF (bO _)) (aC (Fb (E:=E) qm rfl rfl T.yh (Ci T) hr.d rfl T.Ku T.uH (aj (bW (cg (K:=K) rfl) (aG 1) aF (λ_ _=>rfl)) ao))) bF)
   (aA (bx (i:=2) fu.nd rfl (Or.inl rfl) (PE.eqv (aM (qag T) hr.d rfl T.Xg T.Nu.kp T.Xf .nil bh (aj (aG 0) ao)) (aJ _ _ _)))
   (aC (cR (aV uY (aH (bY (K:=K) rfl) rfl T.nm.len qjo (aj (aG 2) ao)) aF (bO _)) (aA (Gb (bW (cg (K:=K) rfl) (aG 2) aF (λ_ _=>rfl)) (PG.eqv (fL (K:=K) (n:=2) rfl rfl (jF.eqv (bC (aL (i:=3) fu.nd rfl (Or.inl rfl)) (jF.eqv (bC (aL (i:=4) fu.nd rfl (Or.inl rfl)) (jF.mono fK iY)) (bD _ _))) (bD _ _))) (fM _ _ _)))
   (aC (Fb (E:=E) qm rfl rfl T.yj (Cj T) hr.d rfl T.Kv T.uJ (aj (aG 3) (aj (aG 4) ao))))) bF))))),?_⟩
  left;refine⟨o,xs,ps,rfl,hw,hX,hTs,λl1 rs1 H1 hl1 e1 hls hnw s1=>?_⟩;have hcl:rs1.length=(vI ps xs).length:=hls.1;left;refine⟨_,.inl (aX.of e1),eE.of (λh=>?_) (λh=>?_)⟩
  ·have hpos:=qjG h;obtain⟨c,r,hcr⟩:∃c r,vI ps xs=c::r:=by
    cases hc:vI ps xs with
    |nil=>rw[hc] at hcl;simp at hcl;rw[hcl] at hpos;simp at hpos
    |cons c r=>exact⟨c,r,rfl⟩
   have hr0:r≠[]:=λz=>by rw[hcr,z] at hcl;simp at hcl;rw[hcl] at hpos;simp at hpos
   obtain⟨v,hv⟩:∃v,rs1[0]? = some v:=⟨_,qjh (by rw[hcl,hcr];simp)⟩;obtain⟨c',hc',t,rfl,ht⟩:=hls.at hv;have:c'=c:=by
    have h2:(vI ps xs)[0]? = some c':=hc';rw[hcr] at h2;simpa using h2.symm
   subst this;left;refine⟨_,.inl (aX.of e1),_,bA (j:=0) hv,?_⟩;intro e5 Zk;have s5:Same H1 (upd H1 e5 (dh e5 a.bL none)):=aq Zk;have x5:upd H1 e5 (dh e5 a.bL none) e5=some (dh e5 a.bL none):=ak;have hc5:=s5 _ _ ht;have e50:H e5=none:=bK s1 Zk;have S5:=s1.trans s5;generalize upd H1 e5 (dh e5 a.bL none)=H5 at s5 x5 hc5 S5⊢;refine⟨e5,t,_,rfl,x5,hc5,λcc H6 hc0 ec hbe hB=>⟨rfl,?_⟩⟩;obtain⟨dx,dxe,hx5,hdx⟩:=hbe;have ce:cc≠e5:=λz=>by rw[z,x5] at hc0;cases hc0
   refine⟨_,hx5,q2 _ _ hcr hr0 dx cc _ (bK S5 hc0) (uZ dxe hdx) (uZ ce ec) λb' u e=>?_⟩;have be:b'≠e5:=λz=>by rw[z,e50] at e;cases e
   exact uZ be (hB b' u be (S5 _ _ e))
  ·have h1:(vI ps xs).length<=1:=by
    have h0:=qkw h;omega
   left;refine⟨o,xs,ps,rfl,hw.same s1,hX,hTs,λl rs H2 hl0 e2 zs hzs Xv qiY hzn s2=>?_⟩;have S2:=s1.trans s2;left;refine⟨_,.inl (aX.of e2),eE.of (λh=>?_) (λh=>?_)⟩
   ·have hpos:=qjG h;cases rs with
    |nil=>simp at hpos
    |cons v rs=>
    cases zs with
    |nil=>have:=hzs.1;simp at this
    |cons z zs=>
    obtain⟨t,rfl,ht,hc⟩:=hzs.2 0 v z rfl rfl;have hz0:=(hzn z qjp).1;rw[qjO] at Xv;left;refine⟨_,.inl (aX.of e2),_,bA (j:=0) rfl,?_⟩;left;refine⟨_,dg.of ht,rfl,?_⟩;left;intro e5 Zk;have s5:Same H2 (upd H2 e5 (dh e5 a.bG none)):=aq Zk;have x5:upd H2 e5 (dh e5 a.bG none) e5=some (dh e5 a.bG none):=ak;have hc5:=s5 _ _ hc;have e50:H e5=none:=bK S2 Zk;have S5:=S2.trans s5;generalize upd H2 e5 (dh e5 a.bG none)=H5 at s5 x5 hc5 S5⊢;refine⟨e5,z.1,.int z.2.1,_,rfl,x5,hc5,λc H6 hc0 ec hbe hB=>⟨rfl,?_⟩⟩;obtain⟨dx,dxe,hx,hdx⟩:=hbe;have ce:c≠e5:=λz=>by rw[z,x5] at hc0;cases hc0
    refine⟨_,hx,q3 h1 z.2.1 z.2.2 _ Xv.symm dx c _ (bK S5 hc0) (uZ dxe hdx) (uZ ce ec) λb' u e=>?_⟩;have be:b'≠e5:=λz=>by rw[z,e50] at e;cases e
    exact uZ be (hB b' u be (S5 _ _ e))
   ·have h0:=qkw h;cases zs with
    |cons z zs=>have:=hzs.1;simp at this;omega
    |nil=>
     left;exact q1 h1 Xv.symm _ S2
def tyD:PyData->String
 |.none=> "NoneType"
 |.bool _=> "bool"
 |.int _=> "int"
 |.str _=> "str"
 |.list _=> "list"
 |.tuple _=> "tuple"
 |.dict _=> "dict"
def K3:PyData->Bool
 |.list _=>true
 |.tuple _=>true
 |_=>false
def intD:PyData->Bool
 |.int _=>true
 |.bool _=>true
 |_=>false
def qa_:PyData->Bool
 |.bool _=>true
 |_=>false
def HS:PyData->Bool
 |.int _=>true
 |_=>false
def Xw:PyData->Bool
 |.int i=>decide (0<=i) && decide (i<=1)
 |_=>false
def kids:PyData->List PyData
 |.list ds=>ds
 |.tuple ds=>ds
 |_=>[]
def Fw(n:Nat)(d:PyData):Bool:=K3 d && (decide ((kids d).length=n) && (kids d).all Xw)
theorem Nz{H:Hp}{d:PyData}{v:V}(h:pF H d v):j_ K H v (.type (tyD d)):=by
 cases d with
 |none=>simp only[pF] at h;subst h;exact .non
 |bool b=>simp only[pF] at h;subst h;exact .bl b
 |int i=>simp only[pF] at h;subst h;exact .int i
 |str x=>simp only[pF] at h;subst h;exact .str x
 |list ds=>simp only[pF] at h;obtain⟨a,xs,rfl,h1,_⟩:=h;exact .lst h1
 |tuple ds=>simp only[pF] at h;obtain⟨a,xs,rfl,h1,_⟩:=h;exact .tup h1
 |dict ds=>simp only[pF] at h;obtain⟨_,a,rfl,h1⟩:=h;exact .dK h1
theorem qah(d:PyData):W.kitAny K (.type (tyD d)) [.type "list",.type "tuple"]=some (K3 d):=by
 cases d <;> simp[W.kitAny,W.kitOne,tyD,K3] <;> rfl
theorem Xx(d:PyData):W.kitOne K (.type (tyD d)) (.type "int")=some (intD d):=by
 cases d with
 |none=>exact xM K
 |bool b=>exact GP K
 |int i=>exact Jw K
 |str x=>exact Jv K
 |list ds=>exact GF K
 |tuple ds=>exact Dk K
 |dict ds=>exact GQ K
theorem Ss(d:PyData):W.kitOne K (.type (tyD d)) (.type "bool")=some (qa_ d):=by
 cases d with
 |none=>exact wj K
 |bool b=>exact Dl K
 |int i=>exact GK K
 |str x=>exact GJ K
 |list ds=>exact Dj K
 |tuple ds=>exact Ad K
 |dict ds=>exact Dm K
theorem qcQ{H:Hp}{t:Addr}{ns:List Int}(h:Sq H t (ns.map V.int)):∃d,pF H d (.ref t)/\K3 d=true/\kids d=ns.map PyData.int:=by
 rcases h with h|h
 ·exact⟨.list (ns.map PyData.int),by simp only[pF];exact⟨t,_,rfl,h,bQ.ints H ns⟩,rfl,rfl⟩
 ·exact⟨.tuple (ns.map PyData.int),by simp only[pF];exact⟨t,_,rfl,h,bQ.ints H ns⟩,rfl,rfl⟩
theorem Xy{H:Hp}{d:PyData}{v:V}(h:pF H d v)(hs:K3 d=true):∃t xs,v = .ref t/\Sq H t xs/\bQ H (kids d) xs:=by
 cases d with
 |list ds=>simp only[pF] at h;obtain⟨a,xs,rfl,h1,h2⟩:=h;exact⟨a,xs,rfl,.inl h1,h2⟩
 |tuple ds=>simp only[pF] at h;obtain⟨a,xs,rfl,h1,h2⟩:=h;exact⟨a,xs,rfl,.inr h1,h2⟩
 |_=>cases hs
def qai(C:Addr):Sp:=λvs H Q _=>∃o xs ps,vs=[.ref o]/\gK C H o xs ps/\Q (.int ps.length) H
theorem zf(T:Txt K mg a):bT P w K mg base iU 1 a.eX a.nU ["self"] (qai a.bN):=by
 exists T.Bs.qg,Kf
 ·obtain⟨o,xs,ps,rfl,_⟩:=h;rfl
 ·obtain⟨o,xs,ps,rfl,⟨dx,n,m,tv,h1,h2,h3,h4,h5⟩,q⟩:=h;refine⟨_,(aC (aY (aH (bY (K:=K) rfl) rfl T.nm.len qjo (aj (PE.eqv (Gx (K:=K) rfl (aG 0) rfl) (Hg _ _ _)) ao)))),?_⟩;left;refine⟨_,_,_,h1,T.kW,T.zO,_,rfl,_,.inr (dg.of h3),?_⟩;rw[h4.1];exact q
def K4:Sp:=λvs H Q _=>∃(d:PyData)(v:V),vs=[v]/\pF H d v/\∀H',Same H H'->Q (.bl (K3 d)) H'
theorem K5(T:Txt K mg a):bT P w K mg base iU 1 a.gC a.mK ["thing"] K4:=by
 exists T.iK.qg,Bb
 ·obtain⟨d,v,rfl,_⟩:=h;rfl
 ·obtain⟨d,v,rfl,hd,q⟩:=h;refine⟨_,(aC (aY (aH (Wv (K:=K) rfl) rfl T.nm.isinstance boot_isinstance (aj (aG 0) (aj (kh (aj (pX (v:=.ty "list") rfl T.nm.list boot_list rfl) (aj (pX (v:=.ty "tuple") rfl T.nm.tuple boot_tuple rfl) ao))) ao))))),?_⟩;left;refine λt ht=>⟨_,_,ak,_,Nz (pF.same (aq ht) d v hd),_,qah d,q _ (aq ht)⟩
def K6:Sp:=λvs H Q _=>∃(d:PyData)(v:V),vs=[v]/\pF H d v/\Q (.bl (HS d)) H
theorem K7(T:Txt K mg a):bT P w K mg base iU 1 a.fV a.nM ["thing"] K6:=by
 exists T.vh.qg,Ka
 ·obtain⟨d,v,rfl,_⟩:=h;rfl
 ·obtain⟨d,v,rfl,hd,q⟩:=h;refine⟨_,(aC (aY (zA (aH (M5 (K:=K) rfl) rfl T.nm.isinstance boot_isinstance (aj (aG 0) (aj (pX (v:=.ty "int") rfl T.nm.int Rk rfl) ao))) (Ga (Zw (aH (M5 (K:=K) rfl) rfl T.nm.isinstance boot_isinstance (aj (aG 0) (aj (pX (v:=.ty "bool") rfl T.Lr.bool Mp rfl) ao)))))))),?_⟩;left;refine⟨_,Nz hd,_,Xx d,?_⟩;cases hi:intD d with
  |false=>
   refine eE.neg rfl ?_;left;rw[show HS d=false by cases d <;> first|rfl|cases hi] at q
   exact q
  |true=>
   refine eE.pos rfl ?_;left;refine⟨_,Nz hd,_,Ss d,?_⟩;rw[show HS d = !qa_ d by cases d <;> first|rfl|cases hi] at q
   exact q
def NK:Sp:=λvs H Q _=>∃(d:PyData)(v:V),vs=[v]/\pF H d v/\Q (.bl (Xw d)) H
theorem NQ(T:Txt K mg a):bT P w K mg base iU 2 a.iJ a.qJ ["thing"] NK:=by
 exists T.yg.qg,Nt
 ·obtain⟨d,v,rfl,_⟩:=h;rfl
 ·obtain⟨d,v,rfl,hd,q⟩:=h;refine⟨_,(aC (aY (zA (PE.eqv (aM (K7 T) hr.d rfl T.Bk T.vh.kp T.Bj .nil bh (aj (aG 0) ao)) (aJ _ _ _)) (Ga (RG xR xR aF (aG 0) aF))))),?_⟩;left;refine⟨d,v,rfl,hd,?_⟩;cases hw:HS d with
  |false=>
   rw[show Xw d=false by cases d <;> first|rfl|cases hw] at q
   left;exact q
  |true=>
   obtain⟨i,rfl⟩:∃i,d = .int i:=by cases d <;> first|exact⟨_,rfl⟩|cases hw
   simp only[pF] at hd;subst hd;left;simp only[Xw] at q;refine eE.of (λh=>?_) (λh=>?_)
   ·rw[h] at q;left;exact q
   ·rw[h] at q;left;exact q
theorem gB:∀l:List Bool,m_ (l.map V.bl) l
 |[]=>rfl
 |b::l=>⟨b,_,rfl,rfl,gB l⟩
def Ck(C:Addr):Sp:=λvs H Q _=>∃(o:Addr)(v:V)(d:PyData)(xs:QAH)(ps:QAD),vs=[.ref o,v]/\gK C H o xs ps/\pF H d v/\ps.length<=20/\
 ∀H',Same H H'->Q (.bl (Fw ps.length d)) H'
theorem sX(T:Txt K mg a):bT P w K mg base iU 3 a.cZ a.jf ["web", "thing"] (Ck a.bN):=by
 exists T.jT.qg,Bc
 ·obtain⟨o,v,d,xs,ps,rfl,_⟩:=h;rfl
 ·obtain⟨o,v,d,xs,ps,rfl,hw,hd,C_,q⟩:=h;refine⟨_,(aA (cR (PW.pt (uz (eG (dG (PE.eqv (aM (K5 T) hr.d rfl T.lN T.iK.kp T.lM .nil bh (aj (aG 1) ao)) (aJ _ _ _)))) (oJ (aV rQ (aH (bY (K:=K) rfl) rfl T.nm.len qjo (aj (aG 1) ao)) (PE.eqv (gM (aG 0) T.kW T.vC (zf T) hr.d T.vo .nil bh) (gQ _ _ _ _ _ _)) (bO _))))) (aC (aY pH)) bF)
   (aC (aY (aH (lJ rfl) rfl T.nm.all lF (aj (cG rfl rfl (show aN (aB jJ) _ ["web", "thing"] ["one"] [] ["one"] from by rfl') rfl (PI.eqv (tO (K:=K) rfl (aG 1)) (pQ _ _)) (λC s H fp pn=>(aL (i:=0) (show(["one"]:QAH).Nodup by symm) rfl (Or.inl rfl))) (λC s H fp pn=>dM) (λC s H fp pn=>(PE.eqv (aM (NQ T) hr.d rfl T.Fo T.yg.kp T.Fl .nil bh (aj (aG 0) ao)) (aJ _ _ _)))) ao))))),?_⟩
  left;refine⟨d,v,rfl,hd,λH1 s1=>?_⟩;cases hs:K3 d with
  |false=>
   left;have e:Fw ps.length d=false:=by unfold Fw;rw[hs];rfl
   rw[e] at q;exact q _ s1
  |true=>
   obtain⟨t,ys,rfl,hq,hall⟩:=Xy hd hs;obtain⟨dx,fs,hi,hno⟩:=(hw.same s1).ins zP.1 zP.2;have hq1:=hq.same s1;have hlen:=hall.length;left;refine⟨_,hq1.q,_,_,hi,hno,o,xs,ps,rfl,hw.same s1,?_⟩;left
   by_cases hn:ys.length=ps.length
   ·refine⟨false,by simp[hn],eE.neg rfl ?_⟩;obtain⟨b,hb⟩:=hq1.b;left;refine⟨b,⟨_,hb K H1 (Same.refl _)⟩,λD hD=>cmQ ys (λi σ H'=>(∃o',σ=[o'])/\H' D=some (.lst ((((kids d).take i).map Xw).map V.bl))/\Same H1 H') ⟨⟨_,rfl⟩,ak,aq hD⟩ (λi σ H' _ h=>hb K H' h.2.2) ?_ ?_⟩
    ·rintro i x σ H2 hi ⟨⟨o',rfl⟩,hD2,s2⟩;have hi2:i<ys.length:=(qi5.mp hi).1;obtain⟨c,hc,hx⟩:=hall.at hi;left;refine⟨c,x,rfl,pF.same (s1.trans s2) c x hx,?_⟩;left;refine⟨_,hD2,by rw[qja,qja];exact zsz (Nat.lt_of_le_of_lt (List.length_take_le ..) hi2) (by rw[hn];exact C_),?_,aU s2 hD⟩;rw[ak,List.take_add_one,hc];simp
    ·rintro σ H2 ⟨⟨o',rfl⟩,hD2,s2⟩;left;refine⟨_,hD2,_,gB _,?_⟩;have e:Fw ps.length d=(((kids d).take ys.length).map Xw).all id:=by
      unfold Fw;rw[hs,<- hlen,qjk,qj2 (by rw[hlen];exact hn),List.all_map];rfl
     rw[<- e];exact q _ (s1.trans s2)
   ·refine⟨true,by simp;exact λz=>hn (Int.ofNat.inj z),eE.pos rfl ?_⟩;left;have e:Fw ps.length d=false:=by unfold Fw;rw[qjM (by rw[hlen];exact hn)];simp
    rw[e] at q;exact q _ s1
theorem Qu:∀{ns:List Int},(∀n∈ns,0<=n/\n<=1)->(ns.map PyData.int).all Xw=true
 |[],_=>rfl
 |n::ns,h=>by
  have h1:=h n qjp;rw[qjO,List.all_cons,Qu λm hm=>h m (qjf _ hm)];simp[Xw,h1]
theorem K8{d:PyData}{ns:List Int}(h1:K3 d=true)(h2:kids d=ns.map PyData.int)(h01:∀n∈ns,0<=n/\n<=1):Fw ns.length d=true:=by
 unfold Fw;rw[h1,h2,Qu h01];simp
def qaj(C:Addr)(H:Hp)(o t:Addr)(xs:QAH)(ps:QAD)(ns:List Int):Prop:=gK C H o xs ps/\Sq H t (ns.map V.int)/\(∀n∈ns,0<=n/\n<=1)/\ns.length=ps.length/\ps.length<=20
def uw(C:Addr):Sp:=λvs H Q _=>∃(o t:Addr)(xs:QAH)(ps:QAD)(ns:List Int),vs=[.ref o,.ref t]/\qaj C H o t xs ps ns/\∀H',Same H H'->Q .non H'
theorem ux(T:Txt K mg a):bT P w K mg base iU 4 a.bH a.cU ["web", "thing"] (uw a.bN):=by
 exists T.dD.qg,kO
 ·obtain⟨o,t,xs,ps,ns,rfl,_⟩:=h;rfl
 ·obtain⟨o,t,xs,ps,ns,rfl,⟨hw,ht,h01,hl,C_⟩,q⟩:=h;refine⟨_,(aC (cR (eG (dG (PE.eqv (aM (sX T) hr.d rfl T.oY T.jT.kp T.oX .nil bh (aj (aG 0) (aj (aG 1) ao))) (aJ _ _ _)))) (aC pI) bF)),?_⟩;obtain⟨d,hd,hs,hk⟩:=qcQ ht;left;refine⟨o,.ref t,d,xs,ps,rfl,hw,hd,C_,λH1 s1=>?_⟩;rw[<- hl,K8 hs hk h01];left;exact q _ s1
theorem Fx:∀(xs:List V)(n k:Nat),kY (nums n xs) (Sum.inl ((n+k:Nat):Int):Key)=xs[k]?
 |[],n,k=>by simp[nums,kY]
 |x::xs,n,0=>by rw[nums,v7 (by simp)];rfl
 |x::xs,n,k+1=>by
  rw[nums,wg (by intro z;injection z with z;omega)];have:=Fx xs (n+1) k;rw[show n+1+k=n+(k+1) by omega] at this;rw[this];simp
def qcR(ns:List Int)(ps:QAD):List jw:=aZ (λk=>ns[k]?) ps 0
def Sv(C:Addr):Sp:=λvs H Q _=>∃(o t:Addr)(xs:QAH)(ps:QAD)(ns:List Int),vs=[.ref o,.ref t]/\qaj C H o t xs ps ns/\
 ∀l tv H',H l=none->H' l=some (.lst tv)->cI H' tv (qcR ns ps)->tv.length<=40->Same H H'->Q (.ref l) H'
theorem Sw(T:Txt K mg a):bT P w K mg base iU 5 a.j7 a.ud ["web", "pointing"] (Sv a.bN):=by
 exists T.BJ.qg,R7
 ·obtain⟨o,t,xs,ps,ns,rfl,_⟩:=h;rfl
 ·obtain⟨o,t,xs,ps,ns,rfl,hp,q⟩:=h;refine⟨_,(aA (eN (PE.eqv (aM (ux T) hr.d rfl T.iC T.dD.kp T.iB .nil bh (aj (aG 0) (aj (aG 1) ao))) (aJ _ _ _)))
   (aC (aY (PE.eqv (aM (mV T) hr.d rfl T.jQ T.gW.kp T.jP .nil bh (aj (aG 0) (aj (JL (K:=K) rfl rfl rfl T.Lr.dict rfl T.Lr.enumerate (aj (aG 1) ao)) ao))) (aJ _ _ _))))),?_⟩
  left;refine⟨o,t,xs,ps,ns,rfl,hp,λH1 s1=>?_⟩;obtain⟨hw,ht,h01,hl,C_⟩:=hp;left;refine⟨_,(ht.same s1).q,λd hd=>⟨o,d,xs,ps,(λk=>ns[k]?),rfl,hw.same (s1.trans (aq hd)),⟨_,ak,λk=>?_⟩,λl tv H2 hl hl2 hst h40 s2=>q l tv H2 (bK (s1.trans (aq hd)) hl) hl2 hst h40 ((s1.trans (aq hd)).trans s2)⟩⟩;have:=Fx (ns.map V.int) 0 k;rw[qjX,qje] at this;exact this
theorem qeL{ps:QAD}{ns:List Int}(hlen:ns.length=ps.length)(h01:∀n∈ns,0<=n/\n<=1):qcR ns ps=Dq ns ps 0:=V3 (λk=>ns[k]?) ps ns 0 (λi=>by rw[qjX]) hlen h01
def sY(C N:Addr):Sp:=λvs H Q E=>∃(o:Addr)(v:V)(d:PyData)(xs:QAH)(ps:QAD),vs=[.ref o,v]/\gK C H o xs ps/\pF H d v/\ps.length<=20/\
 ∀H',Same H H'->(Fw ps.length d=true->Q .non H')/\(Fw ps.length d=false->E (.ref N) none H')
theorem sZ(T:Txt K mg a):bT P w K mg base (RV P w) 4 a.bH a.cU ["web", "thing"] (sY a.bN a.bR):=by
 exists T.dD.ZP,kO
 ·obtain⟨o,v,d,xs,ps,rfl,_⟩:=h;rfl
 ·obtain⟨o,v,d,xs,ps,rfl,hw,hd,C_,q⟩:=h;refine⟨_,(aC (cR (eG (dG (PE.eqv (aM (sX T) hr.d rfl T.oY T.jT.kp T.oX .nil bh (aj (aG 0) (aj (aG 1) ao))) (aJ _ _ _)))) (aC (JZ (E:=E) qm rfl rfl T.gH rfl T.wX (aj uT ao))) bF)),?_⟩;left;refine⟨o,v,d,xs,ps,rfl,hw,hd,C_,λH1 s1=>?_⟩;cases hb:Fw ps.length d with
  |true=>
   left;exact(q _ s1).1 hb
  |false=>
   left;exact(q _ s1).2 hb
theorem qak{H:Hp}{d:PyData}{v:V}{n:Nat}(h:pF H d v)(hp:Fw n d=true):∃(t:Addr)(ns:List Int),v = .ref t/\Sq H t (ns.map V.int)/\(∀m∈ns,0<=m/\m<=1)/\ns.length=n:=by
 unfold Fw at hp;rw[qkj,qkj] at hp;obtain⟨h1,h2,h3⟩:=hp;obtain⟨t,ys,rfl,hq,hall⟩:=Xy h h1;have key:∀(ds:List PyData)(ys:List V),bQ H ds ys->ds.all Xw=true->∃ns:List Int,ys=ns.map V.int/\(∀m∈ns,0<=m/\m<=1)/\ns.length=ds.length:=by
  intro ds
  induction ds with
  |nil=>intro ys h _;exact⟨[],by simpa [bQ] using h,by simp,rfl⟩
  |cons c ds ih=>
   intro ys h hl;rw[List.all_cons,qkj] at hl;simp only[bQ] at h;obtain⟨x,r,rfl,hx,hr⟩:=h;obtain⟨ns,rfl,e2,e3⟩:=ih r hr hl.2;cases c with
   |int i=>
    simp only[pF] at hx;subst hx;have hi:0<=i/\i<=1:=by simpa [Xw] using hl.1
    refine⟨i::ns,rfl,λm hm=>?_,by simp[e3]⟩
    rcases qjm.mp hm with rfl|hm
    ·exact hi
    ·exact e2 m hm
   |_=>exact absurd hl.1 (by simp[Xw])
 obtain⟨ns,rfl,e2,e3⟩:=key _ _ hall h3;exact⟨t,ns,rfl,hq,e2,by rw[e3];exact qjG h2⟩
def m5(m k:Nat):Bool:=decide (m / 2 ^ k % 2=1)
theorem qal:∀n:Nat,n<=9->∀m:Nat,m<512->1<=m->m+1<2 ^ n->(List.range n).any (m5 m)=true/\(List.range n).all (m5 m)=false:=by symm
theorem Xz{n m:Nat}(h9:n<=9)(h5:m<512)(h1:1<=m)(h2:m+1<2 ^ n):(∃k,k<n/\m5 m k=true)/\∃k,k<n/\m5 m k=false:=by
 obtain⟨a,b⟩:=qal n h9 m h5 h1 h2;rw[qkz] at a;rw[List.all_eq_false] at b;obtain⟨k,hk,e⟩:=a;obtain⟨j,hj,f⟩:=b;exact⟨⟨k,qkc.mp hk,e⟩,⟨j,qkc.mp hj,by simpa using f⟩⟩
def iM(b:Nat->Bool)(xs:QAH):QAH:=(xs.zipIdx.filter λe=>b e.2).map (·.1)
theorem bits_sub(b:Nat->Bool)(xs:QAH):(iM b xs).Sublist xs:=by
 have h:=List.Sublist.map (λe:Str×Nat=>e.1) (qlh (p:=λe:Str×Nat=>b e.2) (l:=xs.zipIdx));rw[List.zipIdx_map_fst] at h;exact h
theorem XD{b:Nat->Bool}{xs:QAH}{k:Nat}(hk:k<xs.length)(hb:b k=true):0<(iM b xs).length:=by
 refine List.length_pos_of_mem (a:=xs[k]) ?_;unfold iM;rw[qjv];refine⟨(xs[k],k),?_,rfl⟩;rw[qjy];refine⟨?_,hb⟩;rw[qkV];simp[hk]
theorem qam{b:Nat->Bool}{xs:QAH}{k:Nat}(hk:k<xs.length)(hb:b k=false):(iM b xs).length<xs.length:=by
 unfold iM;rw[qja];have:(xs.zipIdx.filter λe=>b e.2).length<xs.zipIdx.length:=by
  rw[List.length_filter_lt_length_iff_exists];refine⟨(xs[k],k),?_,by simp[hb]⟩;rw[qkV];simp[hk]
 rwa [List.length_zipIdx] at this
theorem Fy{b:Nat->Bool}{l:QAH}{x:Str}:iM b (l++[x])=iM b l++if b l.length=true then [x] else []:=by
 unfold iM;rw[List.zipIdx_append,qjV,qjU]
 by_cases h:b l.length=true <;> simp[h]
theorem Sx{H:Hp}{r:Addr}{tv us:List V}{cs:List (QAH)}(hr:H r=some (.lst tv))(h:eO H tv cs)(hc:∀c∈cs,0<c.length):eO (upd H r (.lst us)) tv cs:=by
 refine⟨h.1,λi v c hv hcc=>?_⟩;obtain⟨t,rfl,ht⟩:=h.2 i v c hv hcc;refine⟨t,rfl,?_⟩;rw[aD]
 ·exact ht
 ·intro z;subst z;rw[hr] at ht;have e:tv=c.map V.str:=by injection ht with ht;injection ht
  have hl:=hc c (qi9 hcc);rw[e,qje] at hv;cases hx:c[i]? with
  |none=>rw[hx] at hv;cases hv
  |some x=>rw[hx] at hv;cases hv
theorem qan{m n:Nat}(h:m<2 ^ n):m5 m n=false:=by
 unfold m5;rw[Nat.div_eq_of_lt h];rfl
theorem qao{m n:Nat}(h:m<2 ^ n):m5 (2 ^ n+m) n=true:=by
 unfold m5;rw[Nat.add_div_left _ (Nat.two_pow_pos n),Nat.div_eq_of_lt h];rfl
theorem NT{m n k:Nat}(h:k<n):m5 (2 ^ n+m) k=m5 m k:=by
 unfold m5;have e:2 ^ n=2 ^ k * (2 * 2 ^ (n - k - 1)):=by
  rw[<- Nat.mul_assoc,<- Nat.pow_succ,<- Nat.pow_add];congr 1;omega
 rw[e,Nat.mul_add_div (Nat.two_pow_pos k),Nat.mul_add_mod]
theorem Sy{b b':Nat->Bool}{xs:QAH}(h:∀k,k<xs.length->b k=b' k):iM b xs=iM b' xs:=by
 unfold iM;congr 1;refine qls λe he=>?_;obtain⟨x,k⟩:=e;rw[qkV] at he;exact h k (qi5.mp he).1
def iD(xs:QAH):List (QAH):=(List.range (2 ^ xs.length)).map λm=>iM (m5 m) xs
theorem parts_nil:iD []=[[]]:=rfl
theorem Cm(l:QAH)(x:Str):iD (l++[x])=iD l++(iD l).map (·++[x]):=by
 unfold iD;rw[qjF,qkq,Nat.pow_succ,Nat.mul_two,List.range_add,qjU,qkO,qkO];congr 1
 ·refine qkY λm hm=>?_;rw[Fy,qan (qkc.mp hm)];simp
 ·refine qkY λm hm=>?_;show iM (m5 (2 ^ l.length+m)) (l++[x])=iM (m5 m) l++[x];rw[Fy,qao (qkc.mp hm),Sy (b':=m5 m) λk hk=>NT hk];simp
def oG(xs:QAH):List (QAH):=(List.range (2 ^ xs.length - 2)).map λm=>iM (m5 (1+m)) xs
theorem yr(xs:QAH):(iD xs).length=2 ^ xs.length:=by simp[iD]
theorem tE(xs:QAH):(oG xs).length=2 ^ xs.length - 2:=by simp[oG]
theorem Qv{xs:QAH}{i:Nat}(h:i<2 ^ xs.length - 2):(oG xs)[i]? = some (iM (m5 (1+i)) xs):=by
 unfold oG;rw[qje,List.getElem?_range h];rfl
theorem NZ{xs:QAH}:((iD xs).take (2 ^ xs.length - 1)).drop 1=oG xs:=by
 refine List.ext_getElem? λi=>?_;rw[List.getElem?_drop]
 by_cases h:i<2 ^ xs.length - 2
 ·rw[Qv h,qkN (by omega)];unfold iD;rw[qje,List.getElem?_range (by omega)];rfl
 ·rw[List.getElem?_eq_none (by rw[qji,yr];omega),List.getElem?_eq_none (by rw[tE];omega)]
theorem XF{xs c:QAH}(h9:xs.length<=9)(h:c∈oG xs):c.Sublist xs/\0<c.length/\c.length<xs.length:=by
 unfold oG at h;obtain⟨m,hm,rfl⟩:=qjv.mp h;have hm:=qkc.mp hm;have p9:2 ^ xs.length<=2 ^ 9:=qlB (by decide) h9;obtain⟨⟨k1,hk1,hb1⟩,⟨k2,hk2,hb2⟩⟩:=Xz (n:=xs.length) (m:=1+m) h9 (by omega) (by omega) (by omega);exact⟨bits_sub _ _,XD hk1 hb1,qam hk2 hb2⟩
def qhQ(G H:Hp)(v:V)(c:QAH):Prop:=∃t,v = .ref t/\G t=none/\H t=some (.lst (c.map V.str))
def HW(G H:Hp)(tv:List V)(cs:List (QAH)):Prop:=aR (qhQ G) H tv cs
theorem HW.same{G H H':Hp}{tv:List V}{cs:List (QAH)}(h:HW G H tv cs)(s:Same H H'):HW G H' tv cs:=⟨h.1,λi v c h1 h2=>by
 obtain⟨t,rfl,h0,ht⟩:=h.2 i v c h1 h2;exact⟨t,rfl,h0,s _ _ ht⟩⟩
def HX:Sp:=λvs H Q _=>∃(n:Addr)(xs:QAH),vs=[.ref n]/\H n=some (.lst (xs.map V.str))/\xs.length<=9/\
 ∀(r:Addr)(tv:List V)(H':Hp),H r=none->H' r=some (.lst tv)->HW H H' tv (iD xs)->Same H H'->Q (.ref r) H'
theorem HY(T:Txt K mg a):bT P w K mg base iU 1 a.eF a.lB ["points"] HX:=by
 exists T.sJ.qg,lA
 ·obtain⟨n,xs,rfl,_⟩:=h;rfl
 ·obtain⟨n,xs,rfl,hn,h9,q⟩:=h;refine⟨_,(aA (bx (i:=1) lA.nd rfl (Or.inl rfl) (dX (aj (dX ao) ao)))
   (aA (h_ qjW rfl (PI.eqv (bI (K:=K) rfl (aG 0)) (bB _ _)) (aL (i:=2) lA.nd rfl (Or.inr rfl))
   (aC (bx (i:=1) lA.nd rfl (Or.inl rfl) (cB qe (aG 1) (cG rfl rfl (show aN (aB nC) _ ["points", "parts", "point"] ["part"] [2] ["part", "point"] from by rfl') rfl (PI.eqv (bI (K:=K) rfl (aG 1)) (bB _ _)) (λC s H fp pn=>(aL (i:=0) (show(["part", "point"]:QAH).Nodup by symm) rfl (Or.inl rfl))) (λC s H fp pn=>dM) (λC s H fp pn=>(cB qe (aG 0) (dX (aj (aG 1) ao)))))))))
   (aC (aY (aG 1))))),?_⟩
  have qcS:600<sizeLine:=by decide
  left;intro p hp;exists H,p,(.lst []),s1,e1,H1,hp;intro r hr;exists H1,r,(.lst [.ref p]),s2,e2,H2,hr;have S2:=s1.trans s2;refine⟨⟨_,aX.of (S2 _ _ hn)⟩,frL (xs.map V.str) (λi σ H'=>(∃rp o2,σ=[some (.ref n),some (.ref rp),o2]/\H rp=none/\∃tv,H' rp=some (.lst tv)/\HW H H' tv (iD (xs.take i)))/\Same H H') ⟨⟨r,none,rfl,s1.free hr,_,e2,?_⟩,S2⟩ (λi σ H' _ h=>aX.of (h.2 _ _ hn)) ?_ ?_⟩
  ·exact⟨rfl,λi v c h1 h2=>by
    cases i with
    |succ i=>simp at h1
    |zero=>
     simp at h1;rw[qli,parts_nil] at h2;simp at h2;subst h1 h2;exact⟨p,rfl,hp,s2 _ _ e1⟩⟩
  ·rintro i v σ H3 hi ⟨⟨rp,o2,rfl,qeM,tv,hrp,hN⟩,s3⟩;obtain⟨y,hy,rfl⟩:=z7 hi;have hi9:i<xs.length:=(qi5.mp hy).1;have hlt:tv.length=2 ^ i:=by
    have:=hN.1;rw[yr,qji,qkU (by omega)] at this;exact this
   have p8:2 ^ i<=2 ^ 8:=qlB (by decide) (by omega);rw[take_one hy,Cm];have h9c:∀c∈iD (xs.take i),c.length<=9:=λc hc=>by
    obtain⟨m,_,rfl⟩:=qjv.mp hc;have:=(bits_sub (m5 m) (xs.take i)).length_le;rw[qji] at this;omega
   generalize hC:iD (xs.take i)=cs at hN h9c⊢;left;refine⟨⟨_,aX.of hrp⟩,λD hD=>Iv tv (λj σ H'=>(∃o1,σ=[o1,some (.str y)])/\(∃uv,H' D=some (.lst uv)/\aR (λH' v c=>∃t,v = .ref t/\H t=none/\t≠D/\H' t=some (.lst (c.map V.str))) H' uv ((cs.take j).map (·++[y])))/\Same H3 H') ⟨⟨_,rfl⟩,⟨[],ak,aR.nil⟩,aq hD⟩ (λi σ H' _ h=>aX.of (h.2.2 _ _ hrp)) ?_ ?_⟩
   ·rintro j v σ H4 hj ⟨⟨o1,rfl⟩,⟨uv,iQ,hA⟩,s4⟩;have hj2:j<tv.length:=(qi5.mp hj).1;obtain⟨c,hc,t,rfl,ht0,ht⟩:=aR.at hN hj;have hul:uv.length=j:=by
     have:=hA.1;have hcl:=hN.1;rw[qja,qji] at this;omega
    have Ry:=s4 _ _ ht;left;intro p5 hp5;exists H4,p5,(.lst [.str y]),s5,e5,H5,hp5;have hc9:=h9c c (qi9 hc);refine⟨_,s5 _ _ Ry,_,e5,by simp;omega,λp6 Qw=>?_⟩;exists H5,p6,(.lst (c.map V.str++[.str y])),s6,e6,H6,Qw;have Qx:=(s5.trans s6) _ _ iQ;have p6D:p6≠D:=λz=>by rw[z,s5 _ _ iQ] at Qw;cases Qw
    refine⟨uv,Qx,by omega,⟨_,ak,?_⟩,aU (s4.trans (s5.trans s6)) hD⟩;rw[take_one hc,qjU];refine aR.snoc (aR.keep hA ?_) ⟨p6,rfl,(s3.trans (s4.trans s5)).free Qw,p6D,by rw[aD p6D,e6];simp⟩;rintro v b ⟨t,rfl,h0,hne,ht⟩;exact⟨t,rfl,h0,hne,by rw[aD hne];exact(s5.trans s6) _ _ ht⟩
   ·rintro σ H4 ⟨⟨o1,rfl⟩,⟨uv,iQ,hA⟩,s4⟩;rw[hN.1,qjk] at hA;have hul:uv.length=cs.length:=by rw[hA.1,qja]
    have hcl:=hN.1;left;refine⟨_,s4 _ _ hrp,_,iQ,by omega,λp5 hp5=>⟨⟨(s3.trans s4).free hp5,_,ak,?_⟩,(s3.trans s4).trans (aq hp5)⟩⟩;have s5:Same H4 (upd H4 p5 (.lst (tv++uv))):=aq hp5;generalize upd H4 p5 (.lst (tv++uv))=H5 at s5⊢;refine⟨by simp[hN.1,hA.1],λk v c h1 h2=>?_⟩
    by_cases hk:k<tv.length
    ·rw[qjr hk] at h1;rw[qjr (by omega)] at h2;obtain⟨t,rfl,h0,ht⟩:=hN.2 k v c h1 h2;exact⟨t,rfl,h0,(s4.trans s5) _ _ ht⟩
    ·rw[qjw (by omega)] at h1;rw[qjw (by omega),<- hcl] at h2;obtain⟨t,rfl,h0,_,ht⟩:=hA.2 _ v c h1 h2;exact⟨t,rfl,h0,s5 _ _ ht⟩
  ·rintro σ H3 ⟨⟨rp,o2,rfl,qeM,tv,hrp,hN⟩,s3⟩;rw[qja,qjk] at hN;left;exact q rp tv H3 qeM hrp hN s3
theorem qcT{xs:List V}:lU xs (some 1) (some (-1))=(xs.take (xs.length - 1)).drop 1:=by
 unfold lU;have e1:HT.g8 xs.length 0 (some 1)=min 1 xs.length:=by
  unfold HT.g8;simp
  try omega
 have e2:HT.g8 xs.length xs.length (some (-1))=xs.length - 1:=by
  unfold HT.g8;simp
  try omega
 rw[e1,e2,List.drop_take];cases xs with
 |nil=>rfl
 |cons x xs=>
  rw[qkU (by simp)]
def K9(C:Addr):Sp:=λvs H Q _=>∃(o:Addr)(xs:QAH)(ps:QAD),vs=[.ref o]/\gK C H o xs ps/\xs.length<=9/\
 ∀(r:Addr)(tv:List V)(H':Hp),H r=none->H' r=some (.lst tv)->HW H H' tv (oG xs)->Same H H'->Q (.ref r) H'
theorem K_(T:Txt K mg a):bT P w K mg base iU 2 a.fX a.nW ["web"] (K9 a.bN):=by
 exists T.vp.qg,Kg
 ·obtain⟨o,xs,ps,rfl,_⟩:=h;rfl
 ·obtain⟨o,xs,ps,rfl,hw,h9,q⟩:=h;refine⟨_,(aC (aY (vV (Wx (K:=K) rfl) (PE.eqv (aM (HY T) hr.d rfl T.yW T.sJ.kp T.yV .nil bh (aj (PE.eqv (gM (aG 0) T.kW T.gG (gZ T) hr.d T.gF .nil bh) (gQ _ _ _ _ _ _)) ao)) (aJ _ _ _)) (PO.eqv (pZ aF) (mq _)) (PO.eqv (pZ (qaC PJ aF)) (mq _))))),?_⟩;have qcS:600<sizeLine:=by decide
  obtain⟨dx,fs,hin,hno⟩:=hw.ins fH.1 fH.2;left;refine⟨dx,fs,hin,hno,o,xs,ps,rfl,hw,λn hn=>?_⟩;exists H,n,(.lst (xs.map V.str)),s1,e1,H1,hn;left;refine⟨n,xs,rfl,e1,h9,λr tv H2 hr e2 hN s2=>?_⟩;left;have tl:tv.length=2 ^ xs.length:=by rw[hN.1,yr]
  refine⟨_,aX.of e2,λp3 hp3=>?_⟩;exists H2,p3,(.lst (lU tv (some 1) (some (-1)))),s3,e3,H3,hp3;refine q p3 _ H3 ((s1.trans s2).free hp3) e3 ?_ (s1.trans (s2.trans s3));rw[qcT,tl,<- NZ];refine⟨by rw[List.length_drop,qji,List.length_drop,qji,hN.1],λk v c h1 h2=>?_⟩;rw[List.getElem?_drop] at h1 h2;have hk:1+k<2 ^ xs.length - 1:=by
   have:=(qi5.mp h1).1;rw[qji] at this;omega
  rw[qkN hk] at h1 h2;obtain⟨t,rfl,h0,ht⟩:=hN.2 _ v c h1 h2;exact⟨t,rfl,s1.free h0,s3 _ _ ht⟩
def Cp(c:QAH)(st:jw):Bool:=decide (¬st.2.1∈c/\st.2.2∈c)
def DK:Sp:=λvs H Q _=>∃(s l:Addr)(tv:List V)(S:List jw)(c:QAH),vs=[.ref s,.ref l]/\H s=some (.lst tv)/\cI H tv S/\H l=some (.lst (c.map V.str))/\tv.length<=40/\
 ∀(r:Addr)(tv':List V)(H':Hp),H r=none->H' r=some (.lst tv')->tv'.length=(S.filter (Cp c)).length->Same H H'->Q (.ref r) H'
theorem DN(T:Txt K mg a):bT P w K mg base iU 1 a.dU a.jO ["steps", "lot"] DK:=by
 exists T.qN.qg,Du
 ·obtain⟨s,l,tv,S,c,rfl,_⟩:=h;rfl
 ·obtain⟨s,l,tv,S,c,rfl,hs,hS,hl,h40,q⟩:=h;refine⟨_,(aC (aY (cG rfl rfl (show aN (aB lq) _ ["steps", "lot"] ["step"] [1] ["step", "lot"] from by rfl') rfl (PI.eqv (bI (K:=K) rfl (aG 0)) (bB _ _)) (λC s H fp pn=>(aL (i:=0) (show(["step", "lot"]:QAH).Nodup by symm) rfl (Or.inl rfl))) (λC s H fp pn=>(gA (PW.pt (Us (aV (Hi (K:=K) rfl) (bW (cg (K:=K) rfl) (aG 0) aF (λ_ _=>rfl)) (aG 1) rfl) (O2 (aV (xU (K:=K) rfl) (bW (cg (K:=K) rfl) (aG 0) aF (λ_ _=>rfl)) (aG 1) rfl)))))) (λC s H fp pn=>(aG 0))))),?_⟩;have s60:60<=sizeLine:=by decide
  left;refine⟨⟨_,aX.of hs⟩,λD hD=>Iv tv (λi σ H'=>(∃o',σ=[o',some (.ref l)])/\(∃tv',H' D=some (.lst tv')/\tv'.length=((S.take i).filter (Cp c)).length)/\Same H H') ⟨⟨_,rfl⟩,⟨[],ak,rfl⟩,aq hD⟩ (λi σ H' _ h=>aX.of (h.2.2 _ _ hs)) ?_ ?_⟩
  ·rintro i x σ H2 hi ⟨⟨o',rfl⟩,⟨tv',hD2,hl2⟩,s2⟩;obtain⟨st,hst,t,rfl,ht⟩:=hS.at hi;have hi2:i<S.length:=(qi5.mp hst).1;have R5:=s2 _ _ ht;have hll:=s2 _ _ hl;have hle:((S.take i).filter (Cp c)).length<=(S.take i).length:=qjJ _ _;rw[qji,<- hS.1] at hle;rw[take_one hst,qjV];left;have d1:inV (.str st.2.1) (c.map V.str) = !decide (¬st.2.1∈c):=by rw[cD];simp
   refine⟨_,.inr (dg.of R5),_,bA (j:=1) rfl,_,.inl (aX.of hll),rfl,qjC.mp (dI _),_,d1,eE.of (λh=>?_) (λh=>?_)⟩
   ·have h':¬st.2.1∈c:=qjG h;left;refine⟨_,.inr (dg.of R5),_,bA (j:=2) rfl,_,.inl (aX.of hll),rfl,qjC.mp (dI _),?_⟩;rw[cD];refine eE.of (λh2=>?_) (λh2=>?_)
    ·have h2':st.2.2∈c:=qjG h2;left;refine⟨_,hD2,by omega,⟨_,ak,?_⟩,aU s2 hD⟩;simp[Cp,h',h2',hl2]
    ·have h2':¬st.2.2∈c:=qkw h2;left;refine⟨⟨_,hD2,?_⟩,s2⟩;simp[Cp,h',h2',hl2]
   ·have h':st.2.1∈c:=by simpa using h
    left;refine⟨⟨_,hD2,?_⟩,s2⟩;simp[Cp,h',hl2]
  ·rintro σ H2 ⟨⟨o',rfl⟩,⟨tv',hD2,hl2⟩,s2⟩;rw[hS.1,qjk] at hl2;left;exact q D tv' H2 hD hD2 hl2 s2
def SJ(C:Addr):Sp:=λvs H Q _=>∃(o p:Addr)(xs c:QAH)(ps:QAD),vs=[.ref o,.ref p]/\gK C H o xs ps/\Ls xs/\Sq H p (c.map V.str)/\c.Nodup/\(∀x∈c,x∈xs)/\0<c.length/\c.length<xs.length/\
 ∀(r:Addr)(H':Hp),H r=none->H' r=some (.lst ((xs.filter λy=>decide (y∈c)).map V.str))->Same H H'->Q (.ref r) H'
theorem SM(T:Txt K mg a):bT P w K mg base iU 2 a.j6 a.t_ ["web", "points"] (SJ a.bN):=by
 exists T.Bt.qg,Fj
 ·obtain⟨o,p,xs,c,ps,rfl,_⟩:=h;rfl
 ·obtain⟨o,p,xs,c,ps,rfl,hw,hX,hp,hcn,hcx,hc0,hc9,q⟩:=h;refine⟨_,(aA (cR (PW.pt (uz (eG (dG (PE.eqv (aM (qT T) hr.d rfl T.lN T.iK.kp T.lM .nil bh (aj (aG 1) ao)) (aJ _ _ _)))) (oJ (eG (dG (aH (lJ rfl) rfl T.nm.all lF (aj (cG rfl rfl (show aN (aB rY) _ ["web", "points", "lot"] ["point"] [] ["point"] from by rfl') rfl (PI.eqv (tO (K:=K) rfl (aG 1)) (pQ _ _)) (λC s H fp pn=>(aL (i:=0) (show(["point"]:QAH).Nodup by symm) rfl (Or.inl rfl))) (λC s H fp pn=>dM) (λC s H fp pn=>(PE.eqv (aM (vD T) hr.d rfl T.uh T.pR.kp T.ug .nil bh (aj (aG 0) ao)) (aJ _ _ _)))) ao))))))) (aC pI) bF)
   (aA (jt (i:=2) Fj.nd rfl rfl rfl rfl (show aN (aB rY) _ ["web", "points", "lot"] ["point"] [1] ["point", "points"] from by rfl') rfl (PI.eqv (bI (K:=K) rfl (PE.eqv (gM (aG 0) T.kW T.gG (gZ T) hr.d T.gF .nil bh) (gQ _ _ _ _ _ _))) (bB _ _)) (λC s H fp pn=>(aL (i:=0) (show(["point", "points"]:QAH).Nodup by symm) rfl (Or.inl rfl))) (λC s H fp pn=>(gA (aV (xU (K:=K) rfl) (aG 0) (aG 1) rfl))) (λC s H fp pn=>(aG 0)))
   (aA (cR (aV rQ (aH (bY (K:=K) rfl) rfl T.nm.len qjo (aj (aG 2) ao)) (aH (bY (K:=K) rfl) rfl T.nm.len qjo (aj (aG 1) ao)) (bO _)) (aC pI) bF)
   (aA (cR (PW.pt (uz (aV kE (aH (bY (K:=K) rfl) rfl T.nm.len qjo (aj (aG 2) ao)) aF (bO _)) (oJ (aV kE (aH (bY (K:=K) rfl) rfl T.nm.len qjo (aj (aG 2) ao)) (aH (bY (K:=K) rfl) rfl T.nm.len qjo (aj (PE.eqv (gM (aG 0) T.kW T.gG (gZ T) hr.d T.gF .nil bh) (gQ _ _ _ _ _ _)) ao)) (bO _))))) (aC pI) bF)
   (aC (aY (aG 2))))))),?_⟩
  have s20:=qll Di;have l9:=hX.len;have hfl:=Mz hX.nd hcn hcx;left;refine⟨p,_,rfl,hp,λH1 s1=>?_⟩;left;obtain⟨b,hb⟩:=(hp.same s1).b;refine⟨b,⟨_,hb K H1 (Same.refl _)⟩,λD hD=>cmQ (c.map V.str) (λi σ H'=>(∃o',σ=[o'])/\H' D=some (.lst (List.replicate i (.bl true)))/\Same H1 H') ⟨⟨_,rfl⟩,ak,aq hD⟩ (λi σ H' _ h=>hb K H' h.2.2) ?_ ?_⟩
  ·rintro i x σ H2 hi ⟨⟨o',rfl⟩,hD2,s2⟩;obtain⟨y,hy,rfl⟩:=z7 hi;have hi2:i<c.length:=(qi5.mp hy).1;have hn:=hX.nm y (hcx y (qi9 hy));left;refine⟨y,rfl,vG hn,λH3 s3=>?_⟩;rw[hn];left;refine⟨_,s3 _ _ hD2,by simp;omega,?_,aU (s2.trans s3) hD⟩;rw[ak,qlA]
  ·rintro σ H2 ⟨⟨o',rfl⟩,hD2,s2⟩;have sH2:=s1.trans s2;left;refine⟨_,hD2,_,pU _,?_⟩;rw[show(List.replicate (c.map V.str).length true).all id=true by simp];obtain⟨dx,fs,hi,hno⟩:=(hw.same sH2).ins fH.1 fH.2;left;refine⟨_,_,hi,hno,o,xs,ps,rfl,hw.same sH2,λl2 hl2=>?_⟩;exists H2,l2,(.lst (xs.map V.str)),s3,e2,H3,hl2;have sH3:=sH2.trans s3;left;refine⟨⟨_,aX.of e2⟩,λD2 hD2=>Iv (xs.map V.str) (λi σ H'=>(∃o',σ=[o',some (.ref p)])/\H' D2=some (.lst (((xs.take i).filter λy=>decide (y∈c)).map V.str))/\Same H3 H') ⟨⟨_,rfl⟩,ak,aq hD2⟩ (λi σ H' _ h=>aX.of (h.2.2 _ _ e2)) ?_ ?_⟩
   ·rintro i x σ H4 hi ⟨⟨o',rfl⟩,iQ,s4⟩;obtain⟨y,hy,rfl⟩:=z7 hi;have hi2:i<xs.length:=(qi5.mp hy).1;left;refine⟨_,(hp.same (sH3.trans s4)).q,rfl,qjC.mp (dI _),?_⟩;rw[cD,take_one hy,qjV];have qhR:((xs.take i).filter λy=>decide (y∈c)).length<=(xs.take i).length:=qjJ _ _;rw[qji] at qhR;refine eE.of (λh=>?_) (λh=>?_)
    ·have h':y∈c:=qjG h;left;refine⟨_,iQ,by simp;omega,?_,aU s4 hD2⟩;rw[ak];simp[h']
    ·have h':¬y∈c:=qkw h;left;refine⟨?_,s4⟩;rw[iQ];simp[h']
   ·rintro σ H4 ⟨⟨o',rfl⟩,iQ,s4⟩;rw[qja,qjk] at iQ;have sH4:=sH3.trans s4;left;refine⟨_,.inl (aX.of iQ),_,(hp.same sH4).q,false,by simp[hfl],eE.neg rfl ?_⟩;left;refine⟨_,.inl (aX.of iQ),eE.neg (qjM λz=>?_) ?_⟩
    ·have z2:=qjB List.length z;rw[qja,hfl,List.length_nil] at z2;omega
    obtain⟨dx,fs,hi,hno⟩:=(hw.same sH4).ins fH.1 fH.2;left;refine⟨_,.inl (aX.of iQ),_,_,hi,hno,o,xs,ps,rfl,hw.same sH4,λl5 hl5=>?_⟩;have s5:Same H4 (upd H4 l5 (.lst (xs.map V.str))):=aq hl5;left;refine⟨_,.inl (aX.of ak),eE.neg (by simp only[qja,hfl];exact qjM (by omega)) ?_⟩;left;exact q D2 _ (bK sH3 hD2) (s5 _ _ iQ) (sH4.trans s5)
def La(C:Addr):Sp:=λvs H Q _=>∃(o p:Addr)(xs c:QAH)(ps:QAD),vs=[.ref o,.ref p]/\gK C H o xs ps/\Ls xs/\Cd xs ps/\Sq H p (c.map V.str)/\c.Nodup/\(∀x∈c,x∈xs)/\0<c.length/\c.length<xs.length/\
 ∀(r:Addr)(H':Hp),H r=none->H' r=some (.lst ((dY c ps).map λn:Nat=>V.int n))->Same H H'->Q (.ref r) H'
theorem Lb(T:Txt K mg a):bT P w K mg base iU 3 a.fY a.nY ["web", "lot"] (La a.bN):=by
 exists T.vq.qg,su
 ·obtain⟨o,p,xs,c,ps,rfl,_⟩:=h;rfl
 ·obtain⟨o,p,xs,c,ps,rfl,hw,hX,hTs,hp,hcn,hcx,hc0,hc9,q⟩:=h;refine⟨_,(aA (bx (i:=2) su.nd rfl (Or.inr rfl) (PE.eqv (aM (SM T) hr.d rfl T.Ko T.Bt.kp T.Km .nil bh (aj (aG 0) (aj (aG 1) ao))) (aJ _ _ _)))
   (aA (bx (i:=3) su.nd rfl (Or.inl rfl) (PE.eqv (gM (aG 0) T.kW T.qQ (sV T) hr.d T.qM .nil bh) (gQ _ _ _ _ _ _)))
   (aC (aY (cG rfl rfl (show aN (aB qD) _ ["web", "lot", "inside", "ties"] ["number", "first", "second"] [2] ["number", "first", "second", "inside"] from by rfl') rfl (PI.eqv (tQ (K:=K) rfl rfl T.Lr.enumerate (aj (aG 3) ao)) (lH _ _)) (λC s H fp pn=>(PG.eqv (fL (K:=K) (n:=2) rfl rfl (jF.eqv (bC (aL (i:=0) (show(["number", "first", "second", "inside"]:QAH).Nodup by symm) rfl (Or.inl rfl)) (jF.eqv (bC (PG.eqv (fL (K:=K) (n:=2) rfl rfl (jF.eqv (bC (aL (i:=1) (show(["number", "first", "second", "inside"]:QAH).Nodup by symm) rfl (Or.inl rfl)) (jF.eqv (bC (aL (i:=2) (show(["number", "first", "second", "inside"]:QAH).Nodup by symm) rfl (Or.inl rfl)) (jF.mono fK iY)) (bD _ _))) (bD _ _))) (fM _ _ _)) (jF.mono fK iY)) (bD _ _))) (bD _ _))) (fM _ _ _))) (λC s H fp pn=>(gA (aV rQ (gk (xU (K:=K) rfl) (aG 1) (aG 3) rfl) (gk (xU (K:=K) rfl) (aG 2) (aG 3) rfl) (bO _)))) (λC s H fp pn=>(aG 0))))))),?_⟩
  have s50:50<=sizeLine:=by decide
  have C_:=hTs.len;left;refine⟨o,p,xs,c,ps,rfl,hw,hX,hp,hcn,hcx,hc0,hc9,λr H1 hr0 hr1 s1=>?_⟩;obtain⟨dx,fs,hi,hno⟩:=(hw.same s1).ins um.1 um.2;left;refine⟨_,_,hi,hno,o,xs,ps,rfl,hw.same s1,λl2 uO hl2 Xq=>?_⟩;have s2:Same H1 (upd H1 l2 (.lst uO)):=aq hl2;have e2:upd H1 l2 (.lst uO) l2=some (.lst uO):=ak;have yq:=cu.same Xq s2;have hr2:=s2 _ _ hr1;generalize upd H1 l2 (.lst uO)=H2 at s2 e2 yq hr2⊢;left;refine⟨⟨_,aX.of e2⟩,λD hD=>cmE uO (λi σ H'=>(∃o1 o2 o3,σ=[o1,o2,o3,some (.ref r)])/\H' D=some (.lst ((jl (iV c) (ps.take i) 0).map λn:Nat=>V.int n))/\Same H2 H') ⟨⟨_,_,_,rfl⟩,ak,aq hD⟩ (λi σ H' _ h=>aX.of (h.2.2 _ _ e2)) ?_ ?_⟩
  ·rintro i x t σ H3 hi ht ⟨⟨o1,o2,o3,rfl⟩,rB,s3⟩;obtain⟨e,he,tt,rfl,htt⟩:=yq.at hi;obtain⟨q1,q2,_⟩:=hTs.ok e (qi9 he);have hi2:i<ps.length:=(qi5.mp he).1;have hcl:(jl (iV c) (ps.take i) 0).length<=20:=by
    have h1:=lX (lY c) (ps.take i) 0;rw[qji] at h1;omega
   have st:Same H3 (upd H3 t (.tup [.int i,.ref tt])):=aq ht;rw[xO _ he];left;refine⟨_,dg.of ak,rfl,_,dg.of (st _ _ (s3 _ _ htt)),rfl,?_⟩;have KJ:=st _ _ (s3 _ _ hr2);have iQ:=st _ _ rB;have s4:=s3.trans st;generalize upd H3 t (.tup [.int i,.ref tt])=H4 at KJ iQ s4⊢;refine⟨_,.inl (aX.of KJ),rfl,qjC.mp (dI _),_,.inl (aX.of KJ),rfl,qjC.mp (dI _),?_⟩;rw[cD,cD];have m1:(e.1∈xs.filter λy=>decide (y∈c))↔e.1∈c:=by simp[q1]
   have m2:(e.2∈xs.filter λy=>decide (y∈c))↔e.2∈c:=by simp[q2]
   by_cases hif:e.1∈c↔e.2∈c
   ·have ef:iV c e i=[]:=by unfold iV;rw[if_pos hif]
    refine⟨false,by simp only[m1,m2,hif];simp,eE.neg rfl ?_⟩;rw[ef,qjD];left;exact⟨iQ,s4⟩
   ·have ef:iV c e i=[i]:=by unfold iV;rw[if_neg hif]
    refine⟨true,?_,eE.pos rfl ?_⟩
    ·simp only[m1,m2];simp;exact λz=>hif z
    rw[ef];left;refine⟨_,iQ,by simp;omega,?_,aU s4 hD⟩;rw[ak]
  ·rintro σ H3 ⟨⟨o1,o2,o3,rfl⟩,rB,s3⟩;rw[yq.1,qjk] at rB;left;exact q D H3 (bK (s1.trans s2) hD) rB ((s1.trans s2).trans s3)
abbrev N5:Pos:=⟨160,67,160,90⟩
abbrev N6:Str:= "shut_cuts" ++ ".<locals>." ++ "<lambda>"
def Ld(G H:Hp)(v:V)(z:List Nat×QAH):Prop:=∃u p q,v = .ref u/\H u=some (.tup [.ref p,.ref q])/\H p=some (.lst (z.1.map λn:Nat=>V.int n))/\G q=none/\H q=some (.lst (z.2.map V.str))
def fj(G H:Hp)(vs:List V)(zs:List (List Nat×QAH)):Prop:=aR (Ld G) H vs zs
theorem Ld.keep{G H H':Hp}{v:V}{z:List Nat×QAH}(h:Ld G H v z)(k:∀b o,(∀ps,o≠.xg ps)->H b=some o->H' b=some o):Ld G H' v z:=by
 obtain⟨u,p,q,e,h1,h2,h3,h4⟩:=h;exact⟨u,p,q,e,k _ _ (by simp) h1,k _ _ (by simp) h2,h3,k _ _ (by simp) h4⟩
theorem Ld.same{G H H':Hp}{v:V}{z:List Nat×QAH}(h:Ld G H v z)(k:Same H H'):Ld G H' v z:=h.keep λb o _ e=>k b o e
theorem fj.same{G H H':Hp}{vs:List V}{zs:List (List Nat×QAH)}(h:fj G H vs zs)(k:Same H H'):fj G H' vs zs:=aR.keep h λ_ _ x=>x.same k
theorem Fz{H H':Hp}{vs:List V}{S:List jw}(h:cI H vs S)(k:Same H H'):cI H' vs S:=aR.keep h λv s ⟨t,e,z⟩=>⟨t,e,k _ _ z⟩
def Cq(D:Addr)(H:Hp):Hp:=λb=>if b=D then none else H b
theorem XH{D:Addr}{H:Hp}{o:HO}:Cq D (upd H D o)=Cq D H:=by
 funext b
 unfold Cq
 by_cases h:b=D
 ·rw[if_pos h,if_pos h]
 ·rw[if_neg h,if_neg h,aD h]
theorem SN{D:Addr}{H H':Hp}(s:Same H H'):Same (Cq D H) (Cq D H'):=λb o e=>by
 unfold Cq at e⊢
 by_cases h:b=D
 ·rw[if_pos h] at e;cases e
 ·rw[if_neg h] at e⊢;exact s b o e
theorem qap{D:Addr}{H:Hp}:Same (Cq D H) H:=λb o e=>by
 unfold Cq at e
 by_cases h:b=D
 ·rw[if_pos h] at e;cases e
 ·rw[if_neg h] at e;exact e
theorem H_{D b:Addr}{H:Hp}{o:HO}(h:b≠D)(e:H b=some o):Cq D H b=some o:=by
 unfold Cq;rw[if_neg h];exact e
def zj(ns:List Int)(ps:QAD)(c:QAH):Bool:=decide (((qcR ns ps).filter (Cp c)).length=0)
def uP(xs:QAH)(ps:QAD)(ns:List Int):List (List Nat×QAH):=((oG xs).filter (zj ns ps)).map λc=>(dY c ps,c)
theorem Le:∀{uv:List V},(∀v∈uv,∃t,v = .ref t)->∃as:List Addr,uv=as.map V.ref
 |[],_=>⟨[],rfl⟩
 |v::uv,h=>by
  obtain⟨t,rfl⟩:=h v qjp;obtain⟨as,rfl⟩:=Le (uv:=uv) λu hu=>h u (qjf _ hu);exact⟨t::as,rfl⟩
theorem Lf{β:Type}{R:Hp->V->β->Prop}{H:Hp}{us vs:List V}{zs:List β}(h:aR R H vs zs)(p:us.Perm vs):∃ys,ys.Perm zs/\aR R H us ys:=by
 have key:∀{us vs:List V},us.Perm vs->∀{zs:List β},aR R H vs zs->∃ys,ys.Perm zs/\aR R H us ys:=by
  have XJ:∀{v:V}{vs:List V}{zs:List β},aR R H (v::vs) zs->∃z r,zs=z::r/\R H v z/\aR R H vs r:=by
   rintro v vs zs ⟨h1,h2⟩;cases zs with
   |nil=>simp at h1
   |cons z r=>exact⟨z,r,rfl,h2 0 v z rfl rfl,by simpa using h1,λi u y a b=>h2 (i+1) u y (by simpa using a) (by simpa using b)⟩
  have mk:∀{v:V}{vs:List V}{z:β}{r:List β},R H v z->aR R H vs r->aR R H (v::vs) (z::r):=by
   rintro v vs z r a ⟨b1,b2⟩;refine⟨by simp[b1],λi u y hu hy=>?_⟩;cases i with
   |zero=>
    simp at hu hy;subst hu hy;exact a
   |succ i=>exact b2 i u y (by simpa using hu) (by simpa using hy)
  intro us vs p
  induction p with
  |nil=>intro zs h;exact⟨zs,.refl _,h⟩
  |cons x _ ih=>
   intro zs h;obtain⟨z,r,rfl,a,b⟩:=XJ h;obtain⟨ys,p1,p2⟩:=ih b;exact⟨z::ys,p1.cons z,mk a p2⟩
  |swap x y l=>
   intro zs h;obtain⟨z,r,rfl,a,b⟩:=XJ h;obtain⟨z2,r,rfl,a2,b2⟩:=XJ b;exact⟨z2::z::r,.swap ..,mk a2 (mk a b2)⟩
  |trans _ _ i1 i2=>
   intro zs h;obtain⟨ys,p1,q1⟩:=i2 h;obtain⟨ws,p2,q2⟩:=i1 q1;exact⟨ws,p2.trans p1,q2⟩
 exact key p h
def Ia(C Pt:Addr):Sp:=λvs H Q _=>∃(o t:Addr)(xs:QAH)(ps:QAD)(ns:List Int),vs=[.ref o,.ref t]/\qaj C H o t xs ps ns/\Ls xs/\Cd xs ps/\TabOk N5 N6 Pt H/\
 ∀(r:Addr)(us:List V)(zs:List (List Nat×QAH))(H':Hp),zs.Perm (uP xs ps ns)->H r=none->H' r=some (.lst us)->fj H H' us zs->But Pt H H'->TabOk N5 N6 Pt H'->Q (.ref r) H'
theorem Ib(T:Txt K mg a){c Pt:Addr}(L:WR a.eY base mg c Pt):bT P w K mg base iU 7 a.dW a.eY ["web", "pointing"] (Ia a.bN Pt):=by
 refine T.sO.okC L.cd qG (λvs H Q E h=>?_) (λA outer s H vs Q E hr h=>?_)
 ·obtain⟨o,t,xs,ps,ns,rfl,_⟩:=h;rfl
 ·obtain⟨o,t,xs,ps,ns,rfl,hp,hX,hTs,hT,q⟩:=h;refine⟨_,(aA (bx (i:=2) qG.nd rfl (Or.inr rfl) (PE.eqv (aM (Sw T) hr.d rfl T.Kq T.BJ.kp T.Kp .nil bh (aj (aG 0) (aj (aG 1) ao))) (aJ _ _ _)))
   (aA (jt (i:=3) qG.nd rfl rfl rfl rfl (show aN (aB cP) _ ["web", "pointing", "steps", "shut"] ["lot"] [2] ["lot", "steps"] from by rfl') rfl (PI.eqv (bI (K:=K) rfl (PE.eqv (aM (K_ T) hr.d rfl T.Bv T.vp.kp T.Bu .nil bh (aj (aG 0) ao)) (aJ _ _ _))) (bB _ _)) (λC s H fp pn=>(aL (i:=0) (show(["lot", "steps"]:QAH).Nodup by symm) rfl (Or.inl rfl))) (λC s H fp pn=>(gA (aV kE (aH (bY (K:=K) rfl) rfl T.nm.len qjo (aj (PE.eqv (aM (DN T) hr.d rfl T.wW T.qN.kp T.wV .nil bh (aj (aG 1) (aj (aG 0) ao))) (aJ _ _ _)) ao)) aF (bO _)))) (λC s H fp pn=>(aG 0)))
   (aC (aY (W7 (K:=K) (k:=0) rfl hr.d rfl L.hd L.bt rfl T.Lr.sorted T.nm.len (aj (cG rfl rfl (show aN (aB cP) _ ["web", "pointing", "steps", "shut"] ["lot"] [0] ["lot", "web"] from by rfl') rfl (PI.eqv (bI (K:=K) rfl (aG 3)) (bB _ _)) (λC s H fp pn=>(aL (i:=0) (show(["lot", "web"]:QAH).Nodup by symm) rfl (Or.inl rfl))) (λC s H fp pn=>dM) (λC s H fp pn=>(kh (aj (PE.eqv (aM (Lb T) hr.d rfl T.Bx T.vq.kp T.Bw .nil bh (aj (aG 1) (aj (aG 0) ao))) (aJ _ _ _)) (aj (aG 0) ao))))) ao) rfl))))),?_⟩
  have qcS:600<sizeLine:=by decide
  have hw:=hp.1;left;refine⟨o,t,xs,ps,ns,rfl,hp,λl sv H1 hl0 hl1 hS h40 s1=>?_⟩;left;refine⟨o,xs,ps,rfl,hw.same s1,hX.len.2,λr2 tv H2 hr2 e2 hN s2=>?_⟩;have hl2:=s2 _ _ hl1;have hS2:=Fz hS s2;have tl:tv.length=2 ^ xs.length - 2:=by rw[hN.1,tE]
  have p9:2 ^ xs.length<=2 ^ 9:=qlB (by decide) hX.len.2;left;refine⟨⟨_,aX.of e2⟩,λD hD=>Iv tv (λj σ H'=>(∃o1,σ=[o1,some (.ref l)])/\(∃uv,H' D=some (.lst uv)/\HW H1 H2 uv (((oG xs).take j).filter (zj ns ps)))/\Same H2 H') ⟨⟨_,rfl⟩,⟨[],ak,by rw[qli];exact aR.nil⟩,aq hD⟩ (λj σ H' _ h=>aX.of (h.2.2 _ _ e2)) ?_ ?_⟩
  ·rintro j v σ H3 hj ⟨⟨o1,rfl⟩,⟨uv,rB,huv⟩,s3⟩;have hj2:j<tv.length:=(qi5.mp hj).1;obtain⟨c,hc,t4,rfl,ht0,Ry⟩:=aR.at hN hj;have hle:(((oG xs).take j).filter (zj ns ps)).length<=((oG xs).take j).length:=qjJ _ _;rw[qji] at hle;have hul:=huv.1;rw[take_one hc,qjV];left;refine⟨l,t4,sv,_,_,rfl,s3 _ _ hl2,Fz hS2 s3,s3 _ _ Ry,h40,λl5 lv H5 hl5 e5 qeN s5=>?_⟩;left;have hb:zj ns ps c=decide (lv=[]):=by
    unfold zj;rw[<- qeN];simp
   have vH:=s5 _ _ rB;refine⟨lv,.inl (aX.of e5),eE.of (λh=>?_) (λh=>?_)⟩
   ·rw[h] at hb;left;refine⟨uv,vH,by omega,⟨_,ak,?_⟩,aU (s3.trans s5) hD⟩;rw[qke hb,qj6];exact aR.snoc huv ⟨t4,rfl,ht0,Ry⟩
   ·rw[h] at hb;left;refine⟨⟨uv,vH,?_⟩,s3.trans s5⟩;rw[qkf (by rw[hb];simp),qj6,qjD];exact huv
  ·rintro σ H3 ⟨⟨o1,rfl⟩,⟨uv,rB,huv⟩,s3⟩;rw[tl,<- tE,qjk] at huv;have S3:=s2.trans s3;have hN3:=huv.same s3;generalize hZ:(oG xs).filter (zj ns ps)=Z at huv hN3;have hZ9:∀z∈Z,z.Sublist xs/\0<z.length/\z.length<xs.length:=λz hz=>by
    rw[<- hZ] at hz;exact XF hX.len.2 (qjy.mp hz).1
   have zl:Z.length<=2 ^ xs.length - 2:=by
    rw[<- hZ,<- tE];exact qjJ _ _
   have ul:=huv.1;left;refine⟨⟨_,aX.of rB⟩,λD2 hD2=>Iv uv (λj σ H'=>(∃o1,σ=[o1,some (.ref o)])/\(∃wv,H' D2=some (.lst wv)/\fj H1 (Cq D2 H') wv ((Z.take j).map λc=>(dY c ps,c)))/\Same H3 H') ⟨⟨_,rfl⟩,⟨[],ak,by rw[qli];exact aR.nil⟩,aq hD2⟩ (λj σ H' _ h=>aX.of (h.2.2 _ _ rB)) ?_ ?_⟩
   ·rintro j v σ H4 hj ⟨⟨o1,rfl⟩,⟨wv,iQ,hcs⟩,s4⟩;obtain⟨c,hc,t4,rfl,ht0,Ry⟩:=aR.at hN3 hj;have hwl:=hcs.1;rw[qja,qji] at hwl;have hj2:j<Z.length:=(qi5.mp hc).1;obtain⟨z1,z2,z3⟩:=hZ9 c (qi9 hc);have S4:=S3.trans s4;have qeO:=s4 _ _ Ry;have t4D:t4≠D2:=λz=>by rw[z,hD2] at Ry;cases Ry
    rw[take_one hc,qjU];left;refine⟨o,t4,xs,c,ps,rfl,hw.same (s1.trans S4),hX,hTs,.inl qeO,hX.nd.sublist z1,λx hx=>z1.mem hx,z2,z3,λr5 H5 hr0 Qq s5=>?_⟩;have vH:=s5 _ _ iQ;have r5D:r5≠D2:=λz=>by rw[z,iQ] at hr0;cases hr0
    left;intro p6 Qw;have s6:Same H5 (upd H5 p6 (.tup [.ref r5,.ref t4])):=aq Qw;have e6:upd H5 p6 (.tup [.ref r5,.ref t4]) p6=some (.tup [.ref r5,.ref t4]):=ak;have p6D:p6≠D2:=λz=>by rw[z,vH] at Qw;cases Qw
    generalize upd H5 p6 (.tup [.ref r5,.ref t4])=H6 at s6 e6⊢;refine⟨wv,s6 _ _ vH,by omega,⟨_,ak,?_⟩,aU (s4.trans (s5.trans s6)) hD2⟩;rw[XH];refine aR.snoc (fj.same hcs (SN (s5.trans s6))) ⟨p6,r5,t4,rfl,H_ p6D e6,H_ r5D (s6 _ _ Qq),ht0,H_ t4D (s6 _ _ (s5 _ _ qeO))⟩
   ·rintro σ H4 ⟨⟨o1,rfl⟩,⟨wv,iQ,hcs⟩,s4⟩;rw[ul,qjk] at hcs;have qcU:fj H1 H4 wv (Z.map λc=>(dY c ps,c)):=fj.same hcs qap;obtain⟨as,rfl⟩:=Le (uv:=wv) λv hv=>by
     obtain⟨k,hk⟩:=qj8 hv;obtain⟨z,_,u,_,_,e,_⟩:=aR.at qcU hk;exact⟨u,e⟩
    have S4:=(s1.trans S3).trans s4;have hT4:=hT.same S4;have nP:∀{b:Addr}{o:HO},H4 b=some o->(∀ps,o≠.xg ps)->b≠Pt:=λ{b o} e n z=>by
     obtain⟨qs,hq⟩:=hT4.tb;rw[z,hq] at e;cases e;exact n _ rfl
    left;refine⟨hT4,as,aX.of iQ,λu hu=>?_,λD3 bs H5 hb hB hT5 qhS rB=>?_⟩
    ·obtain⟨k,hk⟩:=qj8 hu;obtain⟨z,_,u',p,q,e,h1,h2,_⟩:=aR.at qcU (v:=.ref u) (by rw[qje,hk];rfl);cases e;exact⟨p,⟨_,dg.of h1⟩,_,aX.of h2⟩
    ·have k5:∀b o,(∀ps,o≠.xg ps)->H4 b=some o->H5 b=some o:=λb o n e=>hB _ _ (nP e n) e;obtain⟨zs,hz,hzs⟩:=Lf (R:=Ld H1) (aR.keep qcU λv z h=>h.keep k5) (hb.map V.ref);have s6:Same H5 (upd H5 D3 (.lst (bs.map V.ref))):=aq rB;refine q D3 _ zs _ (by rw[<- hZ] at hz;exact hz) (bK S4 qhS) ak ?_ (λb o n e=>s6 _ _ (hB _ _ n (S4 _ _ e))) (hT5.same s6);refine⟨hzs.1,λi v z hv hz=>?_⟩;obtain⟨u,p,q,e,h1,h2,h3,h4⟩:=(hzs.2 i v z hv hz).same s6;exact⟨u,p,q,e,h1,h2,s1.free h3,h4⟩
theorem bT.no{P:Program}{w:World}{K:W.Frag}{mg:Str->Option Value}{base:Heap}{k:Nat}{f:Addr}{fd:FuncData}{ps:QAH}:bT P w K mg base iU k f fd ps (λ_ _ _ _=>False):=⟨λ_ _ _ _ h=>h.elim,λ_ _ _ _ _ _ _ _ _ _ _ _ _ h=>h.elim⟩
def preS(f:Nat->Sp):Nat->Sp
 |0=>λ_ _ _ _=>False
 |k+1=>f k
def DP(n:Nat)(z:List Nat×QAH):Bool:=!decide (n∈z.1)
def Cr:Sp:=λvs H Q _=>∃(l:Addr)(us:List V)(zs:List (List Nat×QAH))(n:Nat)(G:Hp),vs=[.ref l,.int n]/\H l=some (.lst us)/\us.length<=600/\fj G H us zs/\
 ∀(r:Addr)(us':List V)(H':Hp),H r=none->H' r=some (.lst us')->us'.length<=us.length->fj G H' us' (zs.filter (DP n))->Same H H'->Q (.ref r) H'
theorem qaq(k:Int)(ks:List Int):inV (.int k) (ks.map V.int)=decide (k∈ks):=by
 unfold inV;rw[List.any_map]
 induction ks with
 |nil=>rfl
 |cons a ks ih=>
  rw[qld,ih]
  by_cases e:a=k
  ·subst e;simp[Q_]
  ·simp[Q_,e,qk7 e]
theorem Ie(n:Nat)(ks:List Nat):inV (.int n) (ks.map λn:Nat=>V.int n)=decide (n∈ks):=by
 have h:=qaq (n:Int) (ks.map λn:Nat=>(n:Int));rw[qkO] at h;have e:(V.int ∘ λn:Nat=>(n:Int))=λn:Nat=>V.int n:=rfl;rw[e] at h;rw[h];rw[qks,qkD,qkD,qjv];constructor
 ·rintro⟨x,hx,e⟩;have:x=n:=by omega
  rwa [this] at hx
 ·intro hx;exact⟨n,hx,rfl⟩
theorem yu(ks:List Nat):∀z∈ks.map (λn:Nat=>V.int n),iT z=true:=by
 intro z hz;obtain⟨k,_,rfl⟩:=qjv.mp hz;rfl
theorem Cu(T:Txt K mg a):bT P w K mg base iU 1 a.c7 a.jg ["cuts", "number"] Cr:=by
 exists T.oZ.qg,Bd
 ·obtain⟨l,us,zs,n,G,rfl,_⟩:=h;rfl
 ·obtain⟨l,us,zs,n,G,rfl,hl,qcV,hz,q⟩:=h;refine⟨_,(aC (aY (cG rfl rfl (show aN (aB jK) _ ["cuts", "number"] ["cut"] [1] ["cut", "number"] from by rfl') rfl (PI.eqv (bI (K:=K) rfl (aG 0)) (bB _ _)) (λC s H fp pn=>(aL (i:=0) (show(["cut", "number"]:QAH).Nodup by symm) rfl (Or.inl rfl))) (λC s H fp pn=>(gA (aV (Hi (K:=K) rfl) (aG 1) (bW (cg (K:=K) rfl) (aG 0) aF (λ_ _=>rfl)) rfl))) (λC s H fp pn=>(aG 0))))),?_⟩;have qeP:700<sizeLine:=by decide
  left;refine⟨⟨_,aX.of hl⟩,λD hD=>Iv us (λj σ H'=>(∃o1,σ=[o1,some (.int n)])/\(∃wv,H' D=some (.lst wv)/\wv.length<=j/\fj G H wv ((zs.take j).filter (DP n)))/\Same H H') ⟨⟨_,rfl⟩,⟨[],ak,qjb _,by rw[qli];exact aR.nil⟩,aq hD⟩ (λj σ H' _ h=>aX.of (h.2.2 _ _ hl)) ?_ ?_⟩
  ·rintro j v σ H2 hj ⟨⟨o1,rfl⟩,⟨wv,hD2,hwl,hw⟩,s2⟩;have hj2:j<us.length:=(qi5.mp hj).1;obtain⟨z,hzj,hv⟩:=aR.at hz hj;obtain⟨u,p,q',rfl,h1,h2,h3,h4⟩:=id hv;rw[take_one hzj,qjV];left;refine⟨_,.inr (dg.of (s2 _ _ h1)),_,bA (j:=0) rfl,_,.inl (aX.of (s2 _ _ h2)),rfl,yu _,DP n z,by rw[Ie];simp[DP],eE.of (λh=>?_) (λh=>?_)⟩
   ·have ho:=h;left;refine⟨wv,hD2,by omega,⟨_,ak,by simp;omega,?_⟩,aU s2 hD⟩;rw[qke ho,qj6];exact aR.snoc hw hv
   ·have ho:=h;left;refine⟨⟨wv,hD2,by omega,?_⟩,s2⟩;rw[qkf (by rw[ho];simp),qj6,qjD];exact hw
  ·rintro σ H2 ⟨⟨o1,rfl⟩,⟨wv,hD2,hwl,hw⟩,s2⟩;rw[hz.1,qjk] at hw;left;exact q D wv H2 hD hD2 hwl (fj.same hw s2) s2
def mW:Nat->List (List Nat×QAH)->Option (List Nat)
 |0,zs=>if zs=[] then some [] else none
 |m+1,zs=>match zs with
  |[]=>some []
  |z::r=>z.1.findSome? λn=>(mW m ((z::r).filter (DP n))).map (n::·)
theorem XM(m:Nat):mW m []=some []:=by cases m <;> rfl
theorem Lg{α β:Type}{f:α->Option β}{l:List α}{i:Nat}{n:α}{r:β}(h:l[i]? = some n)(h0:(l.take i).findSome? f=none)(h1:f n=some r):l.findSome? f=some r:=by
 have hi:i<l.length:=(qi5.mp h).1;have e:l=l.take i++n::l.drop (i+1):=by
  have h2:l[i]=n:=by rw[qjh hi] at h;injection h
  rw[<- h2,<- List.drop_eq_getElem_cons hi,qjT]
 rw[e,List.findSome?_append,h0];simp[h1]
theorem yx{α β:Type}{f:α->Option β}{l:List α}{i:Nat}{n:α}(h:l[i]? = some n)(h0:(l.take i).findSome? f=none)(h1:f n=none):(l.take (i+1)).findSome? f=none:=by
 rw[take_one h,List.findSome?_append,h0];simp[h1]
theorem wY:∀{m:Nat}{zs:List (List Nat×QAH)}{ks:List Nat},mW m zs=some ks->ks.length<=m
 |0,zs,ks,h=>by
  unfold mW at h;split at h
  ·cases h;exact qjb _
  ·cases h
 |m+1,zs,ks,h=>by
  unfold mW at h;cases zs with
  |nil=>cases h;exact qjY _
  |cons z r=>
   dsimp only at h;obtain⟨n,_,hn⟩:=qkG h;rw[qju] at hn;obtain⟨ks',h1,rfl⟩:=hn;have:=wY h1;simp;omega
def Ig(k:Nat):Sp:=λvs H Q _=>∃(l:Addr)(us:List V)(zs:List (List Nat×QAH))(m:Nat)(G:Hp),vs=[.ref l,.int m]/\m<=k/\k<=20/\H l=some (.lst us)/\us.length<=600/\fj G H us zs/\
 (mW m zs=none->∀H',Same H H'->Q .non H')/\(∀ks,mW m zs=some ks->∀(r:Addr)(H':Hp),H r=none->H' r=some (.lst (ks.map λn:Nat=>V.int n))->Same H H'->Q (.ref r) H')
theorem FJ(T:Txt K mg a){k:Nat} (ih:bT P w K mg base iU (k+1) a.bZ a.dJ ["cuts", "most"] (preS Ig k)):bT P w K mg base iU (k+2) a.bZ a.dJ ["cuts", "most"] (Ig k):=by
 exists T.gj.qg,kI
 ·obtain⟨l,us,zs,m,G,rfl,_⟩:=h;rfl
 ·obtain⟨l,us,zs,m,G,rfl,hmk,hk,hl,qcV,hz,q1,q2⟩:=h;refine⟨_,(aA (cR (aV kE (aH (bY (K:=K) rfl) rfl T.nm.len qjo (aj (aG 0) ao)) aF (bO _)) (aC (aY (dX ao))) bF)
   (aA (cR (aV kE (aG 1) aF (bO _)) (aC (aY xq)) bF)
   (aA (h_ qjW rfl (PI.eqv (bI (K:=K) rfl (bW (cg (K:=K) rfl) (bW (cg (K:=K) rfl) (aG 0) aF (λ_ _=>rfl)) aF (λ_ _=>rfl))) (bB _ _)) (aL (i:=2) kI.nd rfl (Or.inl rfl))
   (aA (bx (i:=3) kI.nd rfl (Or.inl rfl) (PE.eqv (aM ih (hr.mono (by omega)) rfl T.ji T.gj.kp T.jh .nil bh (aj (PE.eqv (aM (Cu T) (hr.mono (by omega)) rfl T.uL T.oZ.kp T.uK .nil bh (aj (aG 0) (aj (aG 2) ao))) (aJ _ _ _)) (aj (cB nu (aG 1) aF) ao))) (aJ _ _ _)))
   (aC (cR (aV O8 (aG 3) xq (bO _)) (aC (aY (cB qe (dX (aj (aG 2) ao)) (aG 3)))) bF))))
   (aC (aY xq))))),?_⟩
  have qeP:700<sizeLine:=by decide
  have s0:=Same.refl H;left;refine⟨us,.inl (aX.of hl),eE.of (λh=>?_) (λh=>?_)⟩
  ·have h0:us=[]:=qjG h;subst h0;have z0:zs=[]:=qkA.mp hz.1.symm;subst z0;left;exact λp hp=>q2 [] (XM m) p _ hp ak (aq hp)
  ·have h0:us≠[]:=qkw h;obtain⟨z,zs',rfl⟩:∃z r,zs=z::r:=by
    cases zs with
    |nil=>exact absurd (qkA.mp hz.1) h0
    |cons z r=>exact⟨z,r,rfl⟩
   obtain⟨v,us',rfl⟩:∃v r,us=v::r:=by
    cases us with
    |nil=>exact absurd rfl h0
    |cons z r=>exact⟨z,r,rfl⟩
   obtain⟨u,p,q',rfl,e1,e2,e3,e4⟩:=hz.2 0 _ z rfl rfl;left;refine eE.of (λh=>?_) (λh=>?_)
   ·have hm:m=0:=by have:=qjG h;omega
    subst hm;left;exact q1 rfl _ s0
   ·obtain⟨m',rfl⟩:∃m',m=m'+1:=⟨m - 1,by have:=qkw h;omega⟩;obtain⟨k',rfl⟩:∃k',k=k'+1:=⟨k - 1,by omega⟩;left;refine⟨_,.inl (aX.of hl),_,bA (j:=0) rfl,_,.inr (dg.of e1),_,bA (j:=0) rfl,⟨_,aX.of e2⟩,frL (z.1.map λn:Nat=>V.int n) (λi σ H'=>(∃o1 o2,σ=[some (.ref l),some (.int (m'+1)),o1,o2])/\((z.1.take i).findSome? λn=>(mW m' ((z::zs').filter (DP n))).map (n::·))=none/\Same H H') ⟨⟨_,_,rfl⟩,by rw[qli];rfl,s0⟩ (λi σ H' _ h=>aX.of (h.2.2 _ _ e2)) ?_ ?_⟩
    ·rintro i x σ H2 hi ⟨⟨o1,o2,rfl⟩,hno,s2⟩;rw[qje,qju] at hi;obtain⟨n,hn,rfl⟩:=hi;left;refine⟨l,_,_,n,G,rfl,s2 _ _ hl,qcV,fj.same hz s2,λr us2 H3 hr0 Ys hul hcs s3=>?_⟩;have qiZ:=hcs;left;refine⟨r,us2,_,m',G,rfl,by omega,by omega,Ys,by omega,hcs,λh0 H4 s4=>?_,λks h0 r4 H4 qi0 KJ s4=>?_⟩
     ·left;exact⟨by simpa using yx hn hno (by rw[h0];rfl),s2.trans (s3.trans s4)⟩
     ·have kl:=wY h0;left;intro p5 hp5;have s5:Same H4 (upd H4 p5 (.lst [.int n])):=aq hp5;have e5:upd H4 p5 (.lst [.int n]) p5=some (.lst [.int n]):=ak;have e6:=s5 _ _ KJ;generalize upd H4 p5 (.lst [.int n])=H5 at s5 e5 e6⊢;refine⟨_,e5,_,e6,by simp;omega,λp7 hp7=>?_⟩;have S5:=s2.trans (s3.trans (s4.trans s5));exact q2 (n::ks) (Lg hn hno (by rw[h0];rfl)) p7 _ (bK S5 hp7) (by rw[ak];rfl) (S5.trans (aq hp7))
    ·rintro σ H2 ⟨⟨o1,o2,rfl⟩,hno,s2⟩;rw[qja,qjk] at hno;left;exact q1 hno _ s2
theorem Ih(T:Txt K mg a):∀k:Nat,bT P w K mg base iU (k+2) a.bZ a.dJ ["cuts", "most"] (Ig k)
 |0=>FJ T bT.no
 |k+1=>FJ T (Ih T k)
def mX(z y:List Nat×QAH):Bool:=!(y.1.any λk=>decide (k∈z.1))
def wZ:List Nat->List (List Nat×QAH)->Option (List (QAH))
 |[],_=>some []
 |n::ns,zs=>zs.findSome? λz=>if n∈z.1 then (wZ ns (zs.filter (mX z))).map (z.2::·) else none
theorem Cv:∀{ns:List Nat}{zs:List (List Nat×QAH)}{cs:List (QAH)},wZ ns zs=some cs->cs.length=ns.length
 |[],zs,cs,h=>by
  unfold wZ at h;cases h;rfl
 |n::ns,zs,cs,h=>by
  unfold wZ at h;obtain⟨z,_,hz⟩:=qkG h;split at hz
  ·rw[qju] at hz;obtain⟨cs',h1,rfl⟩:=hz;simp[Cv h1]
  ·cases hz
def Ii(k:Nat):Sp:=λvs H Q _=>∃(l t:Addr)(us:List V)(zs:List (List Nat×QAH))(ns:List Nat)(G:Hp),vs=[.ref l,.ref t]/\ns.length<=k/\k<=20/\H l=some (.lst us)/\us.length<=600/\fj G H us zs/\(∀z∈zs,z.1.length<=20)/\H t=some (.lst (ns.map λn:Nat=>V.int n))/\
 (wZ ns zs=none->∀H',Same H H'->Q .non H')/\(∀cs,wZ ns zs=some cs->∀(r:Addr)(lv:List V)(H':Hp),H r=none->H' r=some (.lst lv)->HW G H' lv cs->Same H H'->Q (.ref r) H')
theorem XQ(x:V)(xs:List V):lU (x::xs) (some 1) none=xs:=by
 unfold lU;have e1:HT.g8 (x::xs).length 0 (some 1)=1:=by
  unfold HT.g8;simp
  try omega
 have e2:HT.g8 (x::xs).length (x::xs).length none=xs.length+1:=by simp[HT.g8]
 rw[e1,e2];simp
theorem Cw(T:Txt K mg a){k:Nat} (ih:bT P w K mg base iU (k+1) a.cO a.fB ["cuts", "numbers"] (preS Ii k)):bT P w K mg base iU (k+2) a.cO a.fB ["cuts", "numbers"] (Ii k):=by
 exists T.lC.qg,gV
 ·obtain⟨l,t,us,zs,ns,G,rfl,_⟩:=h;rfl
 ·obtain⟨l,t,us,zs,ns,G,rfl,hmk,hk,hl,qcV,hz,C_,ht,q1,q2⟩:=h;refine⟨_,(aA (cR (aV kE (aH (bY (K:=K) rfl) rfl T.nm.len qjo (aj (aG 1) ao)) aF (bO _)) (aC (aY (dX ao))) bF)
   (aA (h_ qjW rfl (PI.eqv (bI (K:=K) rfl (aG 0)) (bB _ _)) (PG.eqv (fL (K:=K) (n:=2) rfl rfl (jF.eqv (bC (aL (i:=2) gV.nd rfl (Or.inr rfl)) (jF.eqv (bC (aL (i:=3) gV.nd rfl (Or.inl rfl)) (jF.mono fK iY)) (bD _ _))) (bD _ _))) (fM _ _ _))
   (aC (cR (aV (xU (K:=K) rfl) (bW (cg (K:=K) rfl) (aG 1) aF (λ_ _=>rfl)) (aG 2) rfl) (aA (jt (i:=4) gV.nd rfl rfl rfl rfl (show aN (aB lu) _ ["cuts", "numbers", "crossed", "lot", "others", "rest"] ["cut"] [2] ["cut", "crossed"] from by rfl') rfl (PI.eqv (bI (K:=K) rfl (aG 0)) (bB _ _)) (λC s H fp pn=>(aL (i:=0) (show(["cut", "crossed"]:QAH).Nodup by symm) rfl (Or.inl rfl))) (λC s H fp pn=>(gA (eG (dG (aH (tW rfl) rfl T.Lr.any tM (aj (Ai (show aN (_) _ ["cut", "crossed"] ["number"] [1] ["number", "crossed"] from by rfl') rfl (PI.eqv (bI (K:=K) rfl (bW (cg (K:=K) rfl) (aG 0) aF (λ_ _=>rfl))) (bB _ _)) (λC s H fp pn=>(aL (i:=0) (show(["number", "crossed"]:QAH).Nodup by symm) rfl (Or.inl rfl))) (λC s H fp pn=>dM) (λC s H fp pn=>(gk (xU (K:=K) rfl) (aG 0) (aG 1) rfl))) ao)))))) (λC s H fp pn=>(aG 0)))
   (aA (bx (i:=5) gV.nd rfl (Or.inl rfl) (PE.eqv (aM ih (hr.mono (by omega)) rfl T.qP T.lC.kp T.qO .nil bh (aj (aG 4) (aj (vV (Wx (K:=K) rfl) (aG 1) (PO.eqv (pZ aF) (mq _)) Ph) ao))) (aJ _ _ _)))
   (aC (cR (aV O8 (aG 5) xq (bO _)) (aC (aY (cB qe (dX (aj (aG 3) ao)) (aG 5)))) bF)))) bF)))
   (aC (aY xq)))),?_⟩
  have qeP:700<sizeLine:=by decide
  have s0:=Same.refl H;left;refine⟨_,.inl (aX.of ht),eE.of (λh=>?_) (λh=>?_)⟩
  ·have h0:ns=[]:=by simpa using qjG h
   subst h0;left;exact λp hp=>q2 [] rfl p [] _ hp ak aR.nil (aq hp)
  ·obtain⟨n,ns',rfl⟩:∃n r,ns=n::r:=by
    cases ns with
    |nil=>simp at h
    |cons z r=>exact⟨z,r,rfl⟩
   obtain⟨k',rfl⟩:∃k',k=k'+1:=⟨k - 1,by simp at hmk;omega⟩;rw[qjt] at hmk;left;refine⟨⟨_,aX.of hl⟩,frL us (λi σ H'=>(∃o1 o2 o3 o4,σ=[some (.ref l),some (.ref t),o1,o2,o3,o4])/\((zs.take i).findSome? λz=>if n∈z.1 then (wZ ns' (zs.filter (mX z))).map (z.2::·) else none)=none/\Same H H') ⟨⟨_,_,_,_,rfl⟩,by rw[qli];rfl,s0⟩ (λi σ H' _ h=>aX.of (h.2.2 _ _ hl)) ?_ ?_⟩
   ·rintro i v σ H2 hi ⟨⟨o1,o2,o3,o4,rfl⟩,hno,s2⟩;obtain⟨z,hzi,hv⟩:=aR.at hz hi;obtain⟨u,p,q',rfl,e1,e2,e3,e4⟩:=id hv;left;have t2:=s2 _ _ ht;have p2:=s2 _ _ e2;refine⟨_,dg.of (s2 _ _ e1),rfl,_,.inl (aX.of t2),_,bA (j:=0) rfl,_,.inl (aX.of p2),rfl,yu _,?_⟩;rw[Ie];refine eE.of (λh=>?_) (λh=>?_)
    ·have hin:=qjG h;left;refine⟨⟨_,aX.of (s2 _ _ hl)⟩,λD hD=>Iv us (λj σ H'=>(∃o1,σ=[o1,some (.ref p)])/\(∃wv,H' D=some (.lst wv)/\wv.length<=j/\fj G H wv ((zs.take j).filter (mX z)))/\Same H2 H') ⟨⟨_,rfl⟩,⟨[],ak,qjb _,by rw[qli];exact aR.nil⟩,aq hD⟩ (λj σ H' _ h=>aX.of (h.2.2 _ _ (s2 _ _ hl))) ?_ ?_⟩
     ·rintro j v σ H3 hj ⟨⟨o1,rfl⟩,⟨wv,rB,hwl,hw⟩,s3⟩;have hj2:j<us.length:=(qi5.mp hj).1;obtain⟨y,hyj,hvy⟩:=aR.at hz hj;obtain⟨uy,py,qy,rfl,f1,f2,f3,f4⟩:=id hvy;have y20:=C_ y (qi9 hyj);rw[take_one hyj,qjV];have S3:=s2.trans s3;left;refine⟨_,.inr (dg.of (S3 _ _ f1)),_,bA (j:=0) rfl,⟨_,aX.of (S3 _ _ f2)⟩,λD1 hD1=>Iv (y.1.map λn:Nat=>V.int n) (λi σ H'=>(∃o,σ=[o,some (.ref p)])/\H' D1=some (.lst (((y.1.take i).map λk=>decide (k∈z.1)).map V.bl))/\Same H3 H') ⟨⟨_,rfl⟩,ak,aq hD1⟩ (λi σ H' _ h=>aX.of (h.2.2 _ _ (S3 _ _ f2))) ?_ ?_⟩
      ·rintro i5 x5 σ H4 hi5 ⟨⟨o5,rfl⟩,iQ,s4⟩;rw[qje,qju] at hi5;obtain⟨n5,Z6,rfl⟩:=hi5;have hi6:i5<y.1.length:=(qi5.mp Z6).1;rw[take_one Z6];left;refine⟨_,.inl (aX.of ((S3.trans s4) _ _ e2)),rfl,yu _,?_⟩;rw[Ie];refine⟨_,iQ,by simp;omega,?_,aU s4 hD1⟩;rw[ak];simp
      ·rintro σ H4 ⟨⟨o5,rfl⟩,iQ,s4⟩;rw[qja,qjk] at iQ;left;refine⟨_,iQ,_,gB _,?_⟩;rw[show(!(y.1.map λk=>decide (k∈z.1)).any id)=mX z y by unfold mX;rw[List.any_map];rfl];have vH:=s4 _ _ rB;refine eE.of (λh=>?_) (λh=>?_)
       ·left;refine⟨wv,vH,by omega,⟨_,ak,by simp;omega,?_⟩,aU (s3.trans s4) hD⟩;rw[qke h,qj6];exact aR.snoc hw hvy
       ·left;refine⟨⟨wv,vH,by omega,?_⟩,s3.trans s4⟩;rw[qkf (by rw[h];simp),qj6,qjD];exact hw
     ·rintro σ H3 ⟨⟨o1,rfl⟩,⟨wv,rB,hwl,hw⟩,s3⟩;rw[hz.1,qjk] at hw;have S3:=s2.trans s3;left;refine⟨_,aX.of (S3 _ _ ht),λp4 hp4=>?_⟩;have s4:Same H3 (upd H3 p4 (.lst (ns'.map λn:Nat=>V.int n))):=aq hp4;have e44:upd H3 p4 (.lst (ns'.map λn:Nat=>V.int n)) p4=some (.lst (ns'.map λn:Nat=>V.int n)):=ak;rw[show lU ((n::ns').map λn:Nat=>V.int n) (some 1) none=ns'.map λn:Nat=>V.int n from XQ _ _];generalize upd H3 p4 (.lst (ns'.map λn:Nat=>V.int n))=H4 at s4 e44⊢;have S4:=S3.trans s4;refine⟨D,p4,wv,_,ns',G,rfl,by omega,by omega,s4 _ _ rB,by omega,fj.same hw S4,λy hy=>C_ y (qjy.mp hy).1,e44,λh0 H5 s5=>?_,λcs h0 r5 lv H5 qi1 Qq zy s5=>?_⟩
      ·left;exact⟨by simpa using yx hzi hno (by rw[if_pos hin,h0];rfl),S4.trans s5⟩
      ·have cl:=Cv h0;have lvl:=zy.1;have S5:=S4.trans s5;left;intro p6 Qw;have s6:Same H5 (upd H5 p6 (.lst [.ref q'])):=aq Qw;have e6:upd H5 p6 (.lst [.ref q']) p6=some (.lst [.ref q']):=ak;have e7:=s6 _ _ Qq;generalize upd H5 p6 (.lst [.ref q'])=H6 at s6 e6 e7⊢;refine⟨_,e6,_,e7,by simp;omega,λp8 hp8=>?_⟩;have S6:=S5.trans s6;have s8:Same H6 (upd H6 p8 (.lst ([.ref q']++lv))):=aq hp8;refine q2 (z.2::cs) (Lg hzi hno (by rw[if_pos hin,h0];rfl)) p8 _ _ (bK S6 hp8) ak ?_ (S6.trans s8);have hx:=zy.same (s6.trans s8);refine⟨by simp[lvl],λi v c hv hc=>?_⟩;cases i with
       |zero=>
        simp at hv hc;subst hv hc;exact⟨q',rfl,e3,(S6.trans s8) _ _ e4⟩
       |succ i=>exact hx.2 i v c (by simpa using hv) (by simpa using hc)
    ·have hin:=qkw h;left;exact⟨by simpa using yx hzi hno (by rw[if_neg hin]),s2⟩
   ·rintro σ H2 ⟨⟨o1,o2,o3,o4,rfl⟩,hno,s2⟩;rw[hz.1,qjk] at hno;left;exact q1 hno _ s2
theorem Qy(T:Txt K mg a):∀k:Nat,bT P w K mg base iU (k+2) a.cO a.fB ["cuts", "numbers"] (Ii k)
 |0=>Cw T bT.no
 |k+1=>Cw T (Qy T k)
theorem fw0:(Str.ofString "the web has more than ").length<=sizeLine/\(Str.empty++Str.ofString "the web has more than ").length<=sizeLine/\Nat.log2 12<1920/\(Str.ofString (Int.repr 12)).length<=sizeLine/\(Str.empty++Str.ofString "the web has more than " ++Str.ofString (Int.repr 12)).length<=sizeLine/\(Str.ofString " ties").length<=sizeLine/\
 (Str.empty++Str.ofString "the web has more than " ++Str.ofString (Int.repr 12)++Str.ofString " ties").length<=sizeLine:=by symm
def qcW(C N:Addr):Sp:=λvs H Q E=>∃(o:Addr)(xs:QAH)(ps:QAD),vs=[.ref o,.int 12]/\gK C H o xs ps/\ps.length<=20/\(ps.length<=12->Q .non H)/\(12<ps.length->∀H',Same H H'->E (.ref N) none H')
theorem qcX(T:Txt K mg a):bT P w K mg base (RV P w) 2 a.bM a.d7 ["web", "most"] (qcW a.bN a.dw):=by
 exists T.iz.ZP,ur
 ·obtain⟨o,xs,ps,rfl,_⟩:=h;rfl
 ·obtain⟨o,xs,ps,rfl,hw,C_,q1,q2⟩:=h;refine⟨_,(aC (cR (aV uY (PE.eqv (gM (aG 0) T.kW T.vC (zf T) hr.d T.vo .nil bh) (gQ _ _ _ _ _ _)) (aG 1) (bO _)) (aC (JZ (E:=E) qm rfl rfl T.lO rfl T.Ft (aj (RW (.cons (WK uT) (.cons (qcE (aG 1)) (.cons (WK uT) .nil)))) ao))) bF)),?_⟩;left;obtain⟨dx,fs,hi,hno⟩:=hw.ins zP.1 zP.2;refine⟨_,_,hi,hno,o,xs,ps,rfl,hw,?_⟩
  by_cases hb:12<ps.length
  ·have:=q2 hb _ (Same.refl _);refine eE.pos (d:=⟨0⟩) (qj2 (by omega)) ?_;left;obtain⟨a1,a2,a3,a4,a5,a6,a7⟩:=fw0;exact⟨a1,a2,a3,a4,a5,a6,a7,this⟩
  ·refine eE.neg (d:=⟨0⟩) (qjM (by omega)) ?_;left;exact q1 (by omega)
theorem SQ{ns':List Int}{ks:List Nat}(h:ns'.Perm (ks.map λn:Nat=>(n:Int)))(hp:ns'.Pairwise (·<=·)):∃ks':List Nat,ns'=ks'.map (λn:Nat=>(n:Int))/\ks'.Perm ks/\ks'.Pairwise (·<=·):=by
 have e:ns'=(ns'.map Int.toNat).map (λn:Nat=>(n:Int)):=by
  rw[qkO]
  conv=>lhs;rw[<- List.map_id ns']
  refine qkY λn hn=>?_;obtain⟨k,_,rfl⟩:=qjv.mp (h.mem_iff.mp hn);rfl
 refine⟨ns'.map Int.toNat,e,?_,?_⟩
 ·have h1:=h.map Int.toNat;rw[qkO] at h1;have e2:ks.map (Int.toNat ∘ λn:Nat=>(n:Int))=ks:=by
   conv=>rhs;rw[<- List.map_id ks]
   exact qkY λn _=>rfl
  rwa [e2] at h1
 ·rw[List.pairwise_map];exact hp.imp λh=>Int.toNat_le_toNat h
def XR(G H:Hp)(x:V)(m:Nat)(zs:List (List Nat×QAH)):Prop:=(mW m zs=none/\x = .non)\/∃ks r,mW m zs=some ks/\x = .ref r/\G r=none/\H r=some (.lst (ks.map λn:Nat=>V.int n))
theorem Qz{G:Hp}{m:Nat}{zs:List (List Nat×QAH)}{R:V->Hp->Prop}(rest:∀x H',Same G H'->XR G H' x m zs->R x H'):(mW m zs=none->∀H',Same G H'->R .non H')/\(∀ks,mW m zs=some ks->∀(r:Addr)(H':Hp),G r=none->H' r=some (.lst (ks.map λn:Nat=>V.int n))->Same G H'->R (.ref r) H'):=
 ⟨λh H' s=>rest _ _ s (.inl ⟨h,rfl⟩),λks h r H' h0 h1 s=>rest _ _ s (.inr ⟨ks,r,h,rfl,h0,h1⟩)⟩
def hits(xs:QAH)(ps:QAD)(ns:List Int):Prop:=∀zs:List (List Nat×QAH),zs.Perm (uP xs ps ns)->∃ks,mW 12 zs=some ks
def SX(C Pt NP TM Pa Ba:Addr):Sp:=λvs H Q E=>∃(o:Addr)(v:V)(d:PyData)(xs:QAH)(ps:QAD),vs=[.ref o,v]/\gK C H o xs ps/\Ls xs/\Cd xs ps/\pF H d v/\ps.length<=20/\TabOk N5 N6 Pt H/\
 (Fw ps.length d=false->∀H',Same H H'->E (.ref NP) none H')/\
 (Fw ps.length d=true->12<ps.length->∀H',Same H H'->E (.ref TM) none H')/\
 (Fw ps.length d=true->ps.length<=12->∀c r,vI ps xs=c::r->r≠[]->∀(dx cc:Addr)(H':Hp),H cc=none->H' dx=some (iu dx [("lot",.ref cc)])->H' cc=some (.lst (c.map V.str))->Same H H'->E (.ref Pa) (some dx) H')/\
 (Fw ps.length d=true->ps.length<=12->(vI ps xs).length<=1->∀k lot rest,oN ps xs=(k,lot)::rest->∀(dx c:Addr)(H':Hp),H c=none->H' dx=some (iu dx [("tie",.int (k:Nat)),("lot",.ref c)])->H' c=some (.lst (lot.map V.str))->Same H H'->E (.ref Ba) (some dx) H')/\
 (Fw ps.length d=true->ps.length<=12->(vI ps xs).length<=1->oN ps xs=[]->∀(t:Addr)(ns:List Int),v = .ref t->qaj C H o t xs ps ns->hits xs ps ns/\
  ∀(zs:List (List Nat×QAH))(m:Nat)(ks ks':List Nat)(r k1:Addr)(lv:V)(H':Hp),zs.Perm (uP xs ps ns)->mW m zs=some ks->(∀j,j<m->mW j zs=none)->ks'.Perm ks->ks'.Pairwise (·<=·)->H' r=some (.tup [.ref k1,lv])->H k1=none->H' k1=some (.lst (ks'.map λn:Nat=>V.int n))->
   (match wZ ks zs with
    |none=>lv = .non
    |some cs=>∃l2 ws,lv = .ref l2/\H l2=none/\H' l2=some (.lst ws)/\HW H H' ws cs)->But Pt H H'->TabOk N5 N6 Pt H'->Q (.ref r) H')
theorem S8(T:Txt K mg a){c Pt:Addr}(L:WR a.eY base mg c Pt):bT P w K mg base (RV P w) 15 a.j8 a.uf ["web", "pointing"] (SX a.bN Pt a.bR a.dw a.bL a.bG):=by
 exists T.BK.ZP,lK
 ·obtain⟨o,v,d,xs,ps,rfl,_⟩:=h;rfl
 ·obtain⟨o,v,d,xs,ps,rfl,hw,hX,hTs,hd,C_,hT,q1,q2,q3,q4,q5⟩:=h;refine⟨_,(aA (eN (PE.eqv (aM (sZ T) hr.d rfl T.iC T.dD.kp T.iB .nil (qm.passes rfl) (aj (aG 0) (aj (aG 1) ao))) (aJ _ _ _)))
   (aA (eN (PE.eqv (aM (qcX T) hr.d rfl T.mO T.iz.kp T.mL .nil (qm.passes rfl) (aj (aG 0) (aj (vO rfl T.oA T.oE) ao))) (aJ _ _ _)))
   (aA (eN (PE.eqv (aM (zx T) hr.d rfl T.sI T.mQ.kp T.sH .nil (qm.passes rfl) (aj (aG 0) ao)) (aJ _ _ _)))
   (aA (bx (i:=2) lK.nd rfl (Or.inl rfl) (PE.eqv (aM (Ib (L:=L) (K:=K) T) hr.d rfl T.yZ T.sO.kp T.yX .nil bh (aj (aG 0) (aj (aG 1) ao))) (aJ _ _ _)))
   (aA (bx (i:=3) lK.nd rfl (Or.inl rfl) aF)
   (aA (bx (i:=4) lK.nd rfl (Or.inl rfl) (PE.eqv (aM (Ih (K:=K) T 12) (hr.mono (by omega)) rfl T.ji T.gj.kp T.jh .nil bh (aj (aG 2) (aj (aG 3) ao))) (aJ _ _ _)))
   (aA (Jc PassesOwn.leaving (aV qbz (aG 4) xq (bO _))
   (aA (PS.mono (Uz (i:=3) lK.nd rfl (Or.inl rfl) aF P0) Wj)
   (aC (bx (i:=4) lK.nd rfl (Or.inl rfl) (PE.eqv (aM (Ih (K:=K) T 12) (hr.mono (by omega)) rfl T.ji T.gj.kp T.jh .nil bh (aj (aG 2) (aj (aG 3) ao))) (aJ _ _ _))))))
   (aC (aY (kh (aj (aH (J9 (K:=K) rfl) rfl T.Lr.sorted PyProof.Rows.boot_sorted (aj (aG 4) ao)) (aj (PE.eqv (aM (Qy (K:=K) T 12) (hr.mono (by omega)) rfl T.qP T.lC.kp T.qO .nil bh (aj (aG 2) (aj (aG 4) ao))) (aJ _ _ _)) ao)))))))))))),?_⟩
  have qcS:600<sizeLine:=by decide
  left;refine⟨o,v,d,xs,ps,rfl,hw,hd,C_,λH1 s1=>⟨λhb=>?_,λhb=>q1 hb _ s1⟩⟩;left;refine⟨o,xs,ps,rfl,hw.same s1,C_,λh12=>?_,λh12 H2 s2=>q2 hb h12 _ (s1.trans s2)⟩;left;refine⟨o,xs,ps,rfl,hw.same s1,hX,hTs,λhc1 hb1 H2 s2=>?_,λc r hcr hr0 dx cc H2 e1 e2 e3 s2=>q3 hb h12 c r hcr hr0 dx cc H2 (s1.free e1) e2 e3 (s1.trans s2),λhc1 k lot rest hbr dx c H2 e1 e2 e3 s2=>q4 hb h12 hc1 k lot rest hbr dx c H2 (s1.free e1) e2 e3 (s1.trans s2)⟩;obtain⟨t,ns,rfl,ht,h01,hln⟩:=qak hd hb;obtain⟨hit,q⟩:=q5 hb h12 hc1 hb1 t ns rfl ⟨hw,ht,h01,hln,C_⟩;have S2:=s1.trans s2;left;refine⟨o,t,xs,ps,ns,rfl,⟨hw.same S2,ht.same S2,h01,hln,C_⟩,hX,hTs,hT.same S2,λl us zs H3 hz hl0 hl3 hcs hB hT3=>?_⟩;obtain⟨kz,hkz⟩:=hit zs hz;have B3:But Pt H H3:=λb u n e=>hB b u n (S2 _ _ e);have zl:zs.length<=600:=by
   rw[hz.length_eq];unfold uP;rw[qja];refine qjx (qjJ _ _) ?_;rw[tE];have:2 ^ xs.length<=2 ^ 9:=qlB (by decide) hX.len.2;omega
  have ul:us.length<=600:=by rw[hcs.1];exact zl
  left;refine⟨l,us,zs,0,H2,rfl,by omega,by omega,hl3,ul,hcs,?_⟩;generalize hR:(fun(x:V) (H1:Hp)=>DX 4 x _ H1 _)=R;refine Qz (R:=R) λx H4 s4 hx4=>?_;rw[<- hR];clear hR R;left;refine whB (λσ H'=>∃(m:Nat)(x:V),σ=[some (.ref o),some (.ref t),some (.ref l),some (.int m),some x]/\m<=12/\(∀j,j<m->mW j zs=none)/\XR H3 H' x m zs/\Same H3 H') (λσ _=>match σ with
   |[_,_,_,some (.int m),_]=>(12 - m).toNat
   |_=>0) ⟨0,x,rfl,by omega,λj hj=>absurd hj (Nat.not_lt_zero _),hx4,s4⟩ ?_ ?_
  ·rintro σ H5 ⟨m,x,rfl,hm,hno,hx,s5⟩
   rcases hx with⟨h0,rfl⟩|⟨ks,r,h0,rfl,hr0,Qq⟩
   ·have m12:m≠12:=λz=>by rw[z,hkz] at h0;cases h0
    left;refine⟨l,us,zs,m+1,H2,rfl,by omega,by omega,s5 _ _ hl3,ul,fj.same hcs s5,?_⟩;generalize hR:(fun(x:V) (H1:Hp)=>DX 4 x _ H1 _)=R;refine Qz (R:=R) λx H6 s6 hx6=>?_;rw[<- hR];clear hR R;left;have num:XR H3 H6 x (m+1) zs:=by
     rcases hx6 with h|⟨ks,r,h1,h2,h3,h4⟩
     ·exact .inl h
     ·exact .inr ⟨ks,r,h1,h2,bK s5 h3,h4⟩
    refine⟨⟨m+1,x,⟨by omega,rfl⟩,by omega,λj hj=>?_,num,s5.trans s6⟩,?_⟩
    ·by_cases e:j=m
     ·rw[e];exact h0
     ·exact hno j (by omega)
    ·omega
   ·have kl:=wY h0;left;refine⟨ks.map λn:Nat=>(n:Int),by rw[qkO];exact aX.of Qq,by rw[qja];omega,λp ns' hp hperm hpw=>?_⟩;obtain⟨ks',rfl,hk1,hk2⟩:=SQ hperm hpw;have s6:Same H5 (upd H5 p (.lst ((ks'.map λn:Nat=>(n:Int)).map V.int))):=aq hp;have e6:upd H5 p (.lst ((ks'.map λn:Nat=>(n:Int)).map V.int)) p=some (.lst (ks'.map λn:Nat=>V.int n)):=by rw[ak,qkO];rfl
    generalize upd H5 p (.lst ((ks'.map λn:Nat=>(n:Int)).map V.int))=H6 at s6 e6⊢;have S6:=s5.trans s6;have z20:∀z∈zs,z.1.length<=20:=λz hz'=>by
     have h1:=hz.mem_iff.mp hz';unfold uP at h1;obtain⟨c,_,rfl⟩:=qjv.mp h1;have h2:=lX (lY c) ps 0;show(dY c ps).length<=20;unfold dY;omega
    have S3:∀b u,b≠Pt->H b=some u->H6 b=some u:=λb u n e=>S6 _ _ (B3 b u n e);have T6:TabOk N5 N6 Pt H6:=hT3.same S6;have fr:∀{b:Addr},H3 b=none->H b=none:=λ{b} e=>by
     cases z:H b with
     |none=>rfl
     |some u=>
      by_cases n:b=Pt
      ·obtain⟨qs,hq⟩:=hT3.tb;rw[n,hq] at e;cases e
      ·rw[B3 b u n z] at e;cases e
    refine⟨l,r,us,zs,ks,H2,rfl,by omega,by omega,S6 _ _ hl3,ul,fj.same hcs S6,z20,s6 _ _ Qq,λha H7 s7=>?_,λcs ha r7 lv H7 h70 h71 h72 s7=>?_⟩
    ·left;intro p8 hp8;refine q zs m ks ks' p8 p .non _ hz h0 hno hk1 hk2 ak (fr (bK s5 hp)) ((aq hp8) _ _ (s7 _ _ e6)) (by rw[ha]) (λb u n e=>(aq hp8) _ _ (s7 _ _ (S3 b u n e))) (T6.same (s7.trans (aq hp8)))
    ·left;intro p8 hp8;refine q zs m ks ks' p8 p (.ref r7) _ hz h0 hno hk1 hk2 ak (fr (bK s5 hp)) ((aq hp8) _ _ (s7 _ _ e6)) ?_ (λb u n e=>(aq hp8) _ _ (s7 _ _ (S3 b u n e))) (T6.same (s7.trans (aq hp8)));rw[ha];have s8:Same H7 (upd H7 p8 (.tup [.ref p,.ref r7])):=aq hp8;refine⟨r7,lv,rfl,fr (bK S6 h70),s8 _ _ h71,?_⟩;refine⟨h72.1,λi v c hv hc=>?_⟩;obtain⟨t8,e8,h8,h9⟩:=h72.2 i v c hv hc;exact⟨t8,e8,S2.free h8,s8 _ _ h9⟩
  ·intro σ H8 Q8 Q9 h8 h9;revert h9;left;exact λh9=>getSt.imp (λv hv=>h8 _ _ hv) h9
theorem QB(q:Str->Bool):∀(n:Nat)(xs:QAH),xs.length=n->xs.filter q∈iD xs
 |0,xs,h=>by
  rw[qkR h,parts_nil];simp
 |n+1,xs,h=>by
  have hne:xs≠[]:=λz=>by rw[z] at h;simp at h
  rw[<- List.dropLast_concat_getLast hne,Cm,qjV];have ih:=QB q n xs.dropLast (by simp[h]);cases hq:q (xs.getLast hne) with
  |true=>
   refine qjH _ (qjv.mpr ⟨_,ih,?_⟩);simp[hq]
  |false=>
   refine qjR _ ?_;simpa [hq] using ih
theorem S_:∀n:Nat,n<=9->∀k:Nat,k<9->k<n->m5 (2 ^ n - 1) k=true:=by symm
theorem qcY{xs:QAH}(h9:xs.length<=9){q:Str->Bool}{x y:Str}(hx:x∈xs)(hy:y∈xs)(qx:q x=false)(qy:q y=true):∃j,j<2 ^ xs.length - 2/\xs.filter q=iM (m5 (1+j)) xs:=by
 have h:=QB q xs.length xs rfl;unfold iD at h;obtain⟨m,hm,e⟩:=qjv.mp h;have hm:=qkc.mp hm;have m0:m≠0:=λz=>by
  subst z;have hy2:y∈xs.filter q:=qjy.mpr ⟨hy,qy⟩;rw[<- e] at hy2;unfold iM at hy2;obtain⟨u,hu,_⟩:=qjv.mp hy2;have:=(qjy.mp hu).2;simp[m5] at this
 have m1:m≠2 ^ xs.length - 1:=λz=>by
  subst z;have hx2:x∈iM (m5 (2 ^ xs.length - 1)) xs:=by
   unfold iM;obtain⟨k,hk,ek⟩:=List.getElem_of_mem hx;refine qjv.mpr ⟨(x,k),qjy.mpr ⟨?_,S_ _ h9 k (by omega) hk⟩,rfl⟩;rw[qkV];simp[hk,ek]
  rw[e] at hx2;have:=(qjy.mp hx2).2;rw[qx] at this;cases this
 refine⟨m - 1,by omega,?_⟩;rw[show 1+(m - 1)=m by omega];exact e.symm
theorem N7{ps:QAD}{n:Nat}{a b:Str}:(n,a,b)∈aZ (λ_=>none) ps 0↔∃e,ps[n]? = some e/\((a=e.1/\b=e.2)\/(a=e.2/\b=e.1)):=by
 rw[Z0];simp
theorem FN{S:List jw}{xs c:QAH}:∀(ys:QAH),(∀y∈ys,y∈c)->ys.foldl (lW S xs) [c]=[c]
 |[],_=>rfl
 |y::ys,h=>by
  rw[List.foldl_cons];have e:lW S xs [c] y=[c]:=by
   unfold lW;rw[if_pos (by simp;exact h y qjp)]
  rw[e];exact FN ys λz hz=>h z (qjf _ hz)
theorem XS{ps:QAD}{xs:QAH}(hTs:Cd xs ps)(h:∀(k:Nat) e,ps[k]? = some e->RT (ig (λi=>i≠k) ps) e.1 e.2):oN ps xs=[]:=by
 cases hb:oN ps xs with
 |nil=>rfl
 |cons z rest=>
  have hm:z∈oN ps xs:=by rw[hb];exact qjp
  unfold oN at hm;obtain⟨j,e,h1,h2⟩:=Ag.mp hm;rw[qjX] at h2;unfold qZ at h2;rw[if_pos ?_] at h2
  ·cases h2
  ·exact Rx.mpr ⟨(hTs.ok e (qi9 h1)).1,(h j e h1).symm λa b ⟨i,g1,g2⟩=>⟨i,g1,g2.symm⟩⟩
theorem qar{ps:QAD}{xs:QAH}(con:∀x∈xs,∀y∈xs,RT (pO (aZ (λ_=>none) ps 0)) x y):(vI ps xs).length<=1:=by
 cases xs with
 |nil=>simp[vI,Af]
 |cons x ys=>
  unfold vI Af;rw[List.foldl_cons];have e:lW (aZ (λ_=>none) ps 0) (x::ys) [] x=[Ul (aZ (λ_=>none) ps 0) (x::ys) x]:=by simp[lW]
  rw[e,FN ys λy hy=>PB.mpr ⟨qjf _ hy,con x qjp y (qjf _ hy)⟩];simp
theorem Ij:∀(m:Nat)(zs:List (List Nat×QAH))(N:List Nat),N.length<=m->(∀z∈zs,∃n∈z.1,n∈N)->∃ks,mW m zs=some ks
 |0,zs,N,hN,h=>by
  cases zs with
  |nil=>exact⟨[],rfl⟩
  |cons z r=>
   obtain⟨n,_,h2⟩:=h z qjp;rw[qkA.mp (show N.length=0 by omega)] at h2;cases h2
 |m+1,zs,N,hN,h=>by
  cases zs with
  |nil=>exact⟨[],rfl⟩
  |cons z r=>
   obtain⟨n,hn,h2⟩:=h z qjp;obtain⟨ks,hk⟩:=Ij m ((z::r).filter (DP n)) (N.erase n) (by rw[List.length_erase_of_mem h2];omega) λy hy=>by
    obtain⟨y1,y2⟩:=qjy.mp hy;obtain⟨k,a1,a2⟩:=h y y1;have ne:k≠n:=λz=>by
     subst z;unfold DP at y2;simp[a1] at y2
    exact⟨k,a1,(List.mem_erase_of_ne ne).mpr a2⟩
   have some:(z.1.findSome? λn=>(mW m ((z::r).filter (DP n))).map (n::·)).isSome=true:=by
    rw[List.findSome?_isSome_iff];exact⟨n,hn,by rw[hk];rfl⟩
   obtain⟨ks',hk'⟩:=qkM.mp some;exact⟨ks',hk'⟩
theorem QC:∀{m:Nat}{zs:List (List Nat×QAH)}{ks:List Nat},mW m zs=some ks->∀z∈zs,∃n∈z.1,n∈ks
 |0,zs,ks,h,z,hz=>by
  unfold mW at h;split at h
  ·rename_i e;subst e;cases hz
  ·cases h
 |m+1,zs,ks,h,z,hz=>by
  unfold mW at h;cases zs with
  |nil=>cases hz
  |cons y r=>
   dsimp only at h;obtain⟨n,hn,h2⟩:=qkG h;rw[qju] at h2;obtain⟨ks',h1,rfl⟩:=h2
   by_cases e:n∈z.1
   ·exact⟨n,e,qjp⟩
   ·obtain⟨k,a1,a2⟩:=QC h1 z (qjy.mpr ⟨hz,by unfold DP;simp[e]⟩);exact⟨k,a1,qjf _ a2⟩
theorem QD:∀{ns:List Nat}{zs:List (List Nat×QAH)}{cs:List (QAH)},wZ ns zs=some cs->∃ys:List (List Nat×QAH),cs=ys.map (·.2)/\(∀y∈ys,y∈zs)/\ys.Pairwise λz y=>mX z y=true
 |[],zs,cs,h=>by
  unfold wZ at h;cases h;exact⟨[],rfl,by simp,.nil⟩
 |n::ns,zs,cs,h=>by
  unfold wZ at h;obtain⟨z,hm,hz⟩:=qkG h;split at hz
  ·rw[qju] at hz;obtain⟨cs',h1,rfl⟩:=hz;obtain⟨ys,rfl,a,b⟩:=QD h1;refine⟨z::ys,rfl,λy hy=>?_,List.pairwise_cons.mpr ⟨λy hy=>(qjy.mp (a y hy)).2,b⟩⟩
   rcases qjm.mp hy with rfl|hy
   ·exact hm
   ·exact(qjy.mp (a y hy)).1
  ·cases hz
theorem FP{z y:List Nat×QAH}:mX z y=true↔∀k∈y.1,¬k∈z.1:=by
 unfold mX;simp
theorem QF:∀{ns:List Nat}{zs:List (List Nat×QAH)}(G:Nat->List Nat×QAH),ns.Nodup->(∀i∈ns,G i∈zs/\i∈(G i).1/\∀j∈ns,j≠i->∀t∈(G i).1,¬t∈(G j).1)->∃cs,wZ ns zs=some cs
 |[],zs,G,_,_=>⟨[],rfl⟩
 |n::ns,zs,G,nd,h=>by
  obtain⟨n1,n2⟩:=qj0.mp nd;obtain⟨g1,g2,g3⟩:=h n qjp;obtain⟨cs,hc⟩:=QF (ns:=ns) (zs:=zs.filter (mX (G n))) G n2 λi hi=>by
   obtain⟨a,b,c⟩:=h i (qjf _ hi);refine⟨qjy.mpr ⟨a,FP.mpr λk hk hk2=>g3 i (qjf _ hi) (λz=>n1 (by rw[<- z];exact hi)) k hk2 hk⟩,b,λj hj=>c j (qjf _ hj)⟩
  have some:(zs.findSome? λz=>if n∈z.1 then (wZ ns (zs.filter (mX z))).map (z.2::·) else none).isSome=true:=by
   rw[List.findSome?_isSome_iff];exact⟨G n,g1,by rw[if_pos g2,hc];rfl⟩
  obtain⟨cs',hk'⟩:=qkM.mp some;exact⟨cs',hk'⟩
def jU(ds:List T4):QAD:=ds.map λd=>d.1
def FQ(ds:List T4):List Int:=ds.map λd=>(d.2.1:Int)
def Cy(ds:List T4)(i:Nat):Nat:=((ds[i]?).map λd=>d.2.2.1).getD 0
def FT(ds:List T4)(i:Nat):Nat:=((ds[i]?).map λd=>d.2.2.2).getD 0
theorem Cz{ds:List T4}{i:Nat}{d:T4}(h:ds[i]? = some d):Cy ds i=d.2.2.1:=by unfold Cy;rw[h];rfl
theorem CG{ds:List T4}{i:Nat}{d:T4}(h:ds[i]? = some d):FT ds i=d.2.2.2:=by unfold FT;rw[h];rfl
theorem vJ{ds:List T4}{c:QAH}{i:Nat}:i∈dY c (jU ds)↔∃d,ds[i]? = some d/\¬(d.1.1∈c↔d.1.2∈c):=by
 unfold dY;rw[Ag];constructor
 ·rintro⟨j,e,he,hm⟩;unfold jU at he;rw[qje,qju] at he;obtain⟨d,hd,rfl⟩:=he;unfold iV at hm;split at hm
  ·cases hm
  ·rename_i hn;rw[qkg,qjX] at hm;subst hm;exact⟨d,hd,hn⟩
 ·rintro⟨d,hd,hn⟩;exact⟨i,d.1,by unfold jU;rw[qje,hd];rfl,by unfold iV;rw[if_neg hn];simp⟩
theorem X3{α:Type}{f:α->Nat->List Nat}(hf:∀e k,f e k=[]\/f e k=[k]):∀(ps:List α)(k:Nat),(jl f ps k).Nodup/\∀x∈jl f ps k,k<=x
 |[],k=>by simp[jl]
 |e::ps,k=>by
  obtain⟨a,b⟩:=X3 hf ps (k+1);unfold jl
  rcases hf e k with h|h
  ·rw[h];exact⟨a,λx hx=>by have:=b x hx;omega⟩
  ·rw[h];refine⟨qj0.mpr ⟨λz=>by have:=b k z;omega,a⟩,λx hx=>?_⟩
   rcases qjm.mp hx with rfl|hx
   ·exact qjb _
   ·have:=b x hx;omega
theorem X4{c:QAH}{ps:QAD}:(dY c ps).Nodup:=(X3 (λe k=>by unfold iV;split <;> simp) ps 0).1
theorem Lh{ds:List T4}{c:QAH}(h2:∀d∈ds,d.2.1<2):zj (FQ ds) (jU ds) c=true↔∀d∈ds,¬jG (λx=>x∈c) d:=by
 unfold zj;rw[qkD,qkA,List.filter_eq_nil_iff,qeL (by simp[FQ,jU]) (λn hn=>by
  obtain⟨d,hd,rfl⟩:=qjv.mp hn;have:=h2 d hd;omega)]
 constructor
 ·intro h d hd hl;obtain⟨i,hi⟩:=qj8 hd;exact h (i,zq d.2.1 d.1,Dn d.2.1 d.1) (JX.mpr ⟨i,_,_,by unfold FQ;rw[qje,hi];rfl,by unfold jU;rw[qje,hi];rfl,rfl⟩) (qj2 hl)
 ·intro h s hs hi;obtain⟨j,n,e,h1,h2,rfl⟩:=JX.mp hs;unfold FQ at h1;unfold jU at h2;rw[qje,qju] at h1 h2;obtain⟨d,hd,rfl⟩:=h1;obtain⟨d',hd',rfl⟩:=h2;rw[hd] at hd';cases hd';have hi':¬(zq d.2.1 d.1)∈c/\(Dn d.2.1 d.1)∈c:=qjG hi;exact h d (qi9 hd) hi'
structure mY(xs:QAH)(rs:List (QAH))(m:Nat)(ds:List T4)(L:List (Nat×Nat))(ys:QAH):Prop where
 nd:xs.Nodup
 hung:mD xs rs m
 cac:Nk rs ds L
 ne:rs≠[]
 le:ds.length<=12
 pts:Ls ys
 mem:∀x,x∈ys↔x∈xs.take m
section
variable {xs:QAH}{rs:List (QAH)}{m:Nat}{ds:List T4}{L:List (Nat×Nat)}{ys:QAH}
theorem mY.two(w:mY xs rs m ds L ys):∀d∈ds,d.2.1<2/\d.2.2.2<2:=λd hd=>by
 obtain⟨i,hi⟩:=qj8 hd;obtain⟨j,R,_,_,_,ht⟩:=w.cac.of hi;refine⟨ht.1,?_⟩
 rcases ht.2.2 with h|h
 ·rw[h.1];omega
 ·rw[h.1];omega
theorem mY.ties(w:mY xs rs m ds L ys):Cd ys (jU ds):=⟨by have:=w.le;unfold jU;rw[qja];omega,λe he=>by
 obtain⟨d,hd,rfl⟩:=qjv.mp he;obtain⟨a,b,c⟩:=w.cac.in_ w.nd w.hung d hd;exact⟨(w.mem _).mpr a,(w.mem _).mpr b,c⟩⟩
theorem mY.con(w:mY xs rs m ds L ys)(t:Nat):∀x∈ys,∀y∈ys,RT (ig (λi=>i≠t) (jU ds)) x y:=λx hx y hy=>w.cac.con w.hung t x ((w.mem x).mp hx) y ((w.mem y).mp hy)
theorem mY.all(w:mY xs rs m ds L ys):∀x∈ys,∀y∈ys,RT (pO (aZ (λ_=>none) (jU ds) 0)) x y:=λx hx y hy=>(w.con 99 x hx y hy).mono λa b ⟨k,_,h⟩=>by
 rcases h with h|h
 ·exact⟨k,N7.mpr ⟨_,h,.inl ⟨rfl,rfl⟩⟩⟩
 ·exact⟨k,N7.mpr ⟨_,h,.inr ⟨rfl,rfl⟩⟩⟩
theorem mY.one(w:mY xs rs m ds L ys):(vI (jU ds) ys).length<=1:=qar w.all
theorem mY.bars(w:mY xs rs m ds L ys):oN (jU ds) ys=[]:=XS w.ties λk e he=>by
 obtain⟨a,b,_⟩:=w.ties.ok e (qi9 he);exact w.con k _ a _ b
theorem mY.cut(w:mY xs rs m ds L ys){z:List Nat×QAH}(hz:z∈uP ys (jU ds) (FQ ds)):z.2.Sublist ys/\0<z.2.length/\z.2.length<ys.length/\z.1=dY z.2 (jU ds)/\∀d∈ds,¬jG (λx=>x∈z.2) d:=by
 unfold uP at hz;obtain⟨c,hc,rfl⟩:=qjv.mp hz;obtain⟨h1,h2⟩:=qjy.mp hc;obtain⟨a,b,c2⟩:=XF w.pts.len.2 h1;exact⟨a,b,c2,rfl,(Lh λd hd=>(w.two d hd).1).mp h2⟩
theorem mY.alt(w:mY xs rs m ds L ys){z:List Nat×QAH}(hz:z∈uP ys (jU ds) (FQ ds)):∃k,∀v,v<2->∃i∈z.1,i<ds.length/\Cy ds i=k/\FT ds i=v:=by
 obtain⟨a,b,c,e,hs⟩:=w.cut hz;have some:∃(i:Nat)(d:T4),ds[i]? = some d/\¬(d.1.1∈z.2↔d.1.2∈z.2):=by
  apply qjA;intro hno;obtain⟨x,hx⟩:∃x,x∈z.2:=List.exists_mem_of_length_pos b;have hall:∀y∈ys,y∈z.2:=λy hy=>by
   refine(w.all x (a.mem hx) y hy).closed (P:=λy=>y∈z.2) (λp q ⟨n,hn⟩ hp=>?_) hx;obtain⟨e,he,ht⟩:=N7.mp hn;unfold jU at he;rw[qje,qju] at he;obtain⟨d,hd,rfl⟩:=he;have hc:d.1.1∈z.2↔d.1.2∈z.2:=qjA λhne=>hno ⟨n,d,hd,hne⟩
   rcases ht with⟨rfl,rfl⟩|⟨rfl,rfl⟩
   ·exact hc.mp hp
   ·exact hc.mpr hp
  have:=jy w.pts.nd hall;omega
 obtain⟨i,d,hd,hx⟩:=some;refine⟨d.2.2.1,λv hv=>?_⟩;obtain⟨i',d',h1,h2,h3,h4⟩:=w.cac.alt (g:=λx=>x∈z.2) hs hd hx v hv;refine⟨i',by rw[e];exact vJ.mpr ⟨d',h1,h4⟩,(qi5.mp h1).1,?_,?_⟩
 ·rw[Cz h1,h2]
 ·rw[CG h1,h3]
theorem mY.pair(w:mY xs rs m ds L ys){i1 i2:Nat}(h1:i1<ds.length)(h2:i2<ds.length)(hk:Cy ds i1=Cy ds i2)(c1:FT ds i1=0)(c2:FT ds i2=1):∃z∈uP ys (jU ds) (FQ ds),∀i,i∈z.1↔i=i1\/i=i2:=by
 have e1:=qjh h1;have e2:=qjh h2;rw[Cz e1,Cz e2] at hk;rw[CG e1] at c1;rw[CG e2] at c2;obtain⟨g,g1,g2⟩:=w.cac.pair w.nd w.hung e1 e2 hk c1 c2;have D:DecidablePred g:=λx=>Classical.propDecidable _;obtain⟨q,hq⟩:∃q:Str->Bool,∀x,q x=true↔g x:=⟨λx=>decide (g x),λx=>decide_eq_true_iff⟩;have hin:=fun(d:T4) (hd:d∈ds)=>w.ties.ok d.1 (qjv.mpr ⟨d,hd,rfl⟩);have hm:∀x,x∈ys.filter q↔x∈ys/\g x:=λx=>by rw[qjy,hq]
 have hx1:¬(g (ds[i1]).1.1↔g (ds[i1]).1.2):=λz=>((g2 i1 _ e1).mp z).1 rfl;have two:∃x∈ys,∃y∈ys,q x=false/\q y=true:=by
  obtain⟨a,b,_⟩:=hin _ (qi9 e1)
  by_cases h:g (ds[i1]).1.1
  ·refine⟨_,b,_,a,?_,(hq _).mpr h⟩;rw[<- Bool.not_eq_true,hq];exact λz=>hx1 ⟨λ_=>z,λ_=>h⟩
  ·refine⟨_,a,(ds[i1]).1.2,b,?_,?_⟩
   ·rw[<- Bool.not_eq_true,hq];exact h
   ·rw[hq];exact qjA λz=>hx1 ⟨λy=>absurd y h,λy=>absurd y z⟩
 obtain⟨x,hx,y,hy,qx,qy⟩:=two;obtain⟨j,hj,ej⟩:=qcY w.pts.len.2 hx hy qx qy;have qhT:ys.filter q∈oG ys:=by rw[ej];exact qi9 (Qv hj)
 refine⟨(dY (ys.filter q) (jU ds),ys.filter q),qjv.mpr ⟨_,qjy.mpr ⟨qhT,(Lh λd hd=>(w.two d hd).1).mpr λd hd hl=>?_⟩,rfl⟩,λi=>?_⟩
 ·obtain⟨a,b,_⟩:=hin d hd;have ho:zq d.2.1 d.1∈ys:=by unfold zq;split <;> assumption
  refine g1 d hd ⟨λz=>hl.1 ((hm _).mpr ⟨ho,z⟩),((hm _).mp hl.2).2⟩
 ·rw[vJ];constructor
  ·rintro⟨d,hd,hn⟩;obtain⟨a,b,_⟩:=hin d (qi9 hd);apply qjA;intro hno;have:=(g2 i d hd).mpr ⟨λz=>hno (.inl z),λz=>hno (.inr z)⟩;exact hn ⟨λz=>(hm _).mpr ⟨b,this.mp ((hm _).mp z).2⟩,λz=>(hm _).mpr ⟨a,this.mpr ((hm _).mp z).2⟩⟩
  ·intro hi;have hil:i<ds.length:=by rcases hi with rfl|rfl <;> assumption
   have hd:=qjh hil;obtain⟨a,b,_⟩:=hin _ (qi9 hd);refine⟨_,hd,λz=>?_⟩;have:=(g2 i _ hd).mp ⟨λy=>((hm _).mp (z.mp ((hm _).mpr ⟨a,y⟩))).2,λy=>((hm _).mp (z.mpr ((hm _).mpr ⟨b,y⟩))).2⟩
   rcases hi with rfl|rfl
   ·exact this.1 rfl
   ·exact this.2 rfl
theorem mY.hits(w:mY xs rs m ds L ys):hits ys (jU ds) (FQ ds):=λzs hz=>by
 refine Ij 12 zs (List.range ds.length) (by rw[qkT];exact w.le) λz hz'=>?_;obtain⟨k,h⟩:=w.alt (hz.mem_iff.mp hz');obtain⟨i,a,b,_⟩:=h 0 (by omega);exact⟨i,a,qkc.mpr b⟩
theorem N8{n:Nat}{rg cl s:Nat->Nat}:(rW n rg cl s).Pairwise (·<=·):=by
 unfold rW;exact(List.pairwise_le_range).sublist qlh
theorem mY.told(w:mY xs rs m ds L ys){zs:List (List Nat×QAH)}{j:Nat}{ks ks':List Nat}(hz:zs.Perm (uP ys (jU ds) (FQ ds)))(h1:mW j zs=some ks)(h2:∀i,i<j->mW i zs=none)(hp:ks'.Perm ks)(hs:ks'.Pairwise (·<=·)) :
  ∃s:Nat->Nat,(∀k,s k<2)/\ks'=rW ds.length (Cy ds) (FT ds) s/\(∀k,(k_ ds.length (Cy ds) (FT ds) k (s k)).length<=(k_ ds.length (Cy ds) (FT ds) k (1 - s k)).length)/\
   ∃cs,wZ ks zs=some cs/\cs.length=ks.length/\(∀c∈cs,c.Sublist ys/\0<c.length/\c.length<ys.length/\∀d∈ds,¬jG (λx=>x∈c) d)/\(cs.flatMap λc=>dY c (jU ds)).Nodup:=by
 have few:∀N:List Nat,(∀z∈zs,∃i∈z.1,i∈N)->ks.length<=N.length:=λN hN=>by
  have hl:=wY h1;apply qjA;intro hlt;obtain⟨q,hq⟩:=Ij N.length zs N (qjb _) hN;rw[h2 _ (by omega)] at hq;cases hq
 obtain⟨s,s2,hr,hle,G,hG⟩:=qaa (n:=ds.length) (rg:=Cy ds) (cl:=FT ds) (zs:=zs) (ks:=ks) [] (λi hi=>by
  rw[CG (qjh hi)];exact(w.two _ (qlC hi)).2) (λi1 i2 a b c d e=>by
  obtain⟨z,hz',h⟩:=w.pair a b c d e;exact⟨z,hz.mem_iff.mpr hz',h⟩) (λz hz'=>w.alt (hz.mem_iff.mp hz')) (QC h1) few
 have nd:ks.Nodup:=hr.nodup_iff.mpr Xa;obtain⟨cs,hc⟩:=QF G nd hG;refine⟨s,s2,List.Perm.eq_of_pairwise (λa b _ _ h1 h2=>Nat.le_antisymm h1 h2) hs N8 (hp.trans hr),hle,cs,hc,Cv hc,?_⟩;obtain⟨us,rfl,u1,u2⟩:=QD hc;have uc:=fun(y:List Nat×QAH) hy=>w.cut (hz.mem_iff.mp (u1 y hy));refine⟨λc hc'=>?_,?_⟩
 ·obtain⟨y,hy,rfl⟩:=qjv.mp hc';obtain⟨a,b,c,_,e⟩:=uc y hy;exact⟨a,b,c,e⟩
 ·have key:∀us:List (List Nat×QAH),(∀y∈us,y.1=dY y.2 (jU ds))->us.Pairwise (λz y=>mX z y=true)->((us.map (·.2)).flatMap λc=>dY c (jU ds)).Nodup:=by
   intro us
   induction us with
   |nil=>intro _ _;exact .nil
   |cons y us ih=>
    intro he hp;obtain⟨p1,p2⟩:=List.pairwise_cons.mp hp;rw[qjO,List.flatMap_cons,qla];refine⟨X4,ih (λy hy=>he y (qjf _ hy)) p2,λa ha b hb hab=>?_⟩;subst hab;obtain⟨c,hc1,hc2⟩:=List.mem_flatMap.mp hb;obtain⟨v,hv,rfl⟩:=qjv.mp hc1;have:=FP.mp (p1 v hv) a (by rw[he v (qjf _ hv)];exact hc2);rw[he y qjp] at this;exact this ha
  exact key us (λy hy=>(uc y hy).2.2.2.1) u2
end
end Xc
namespace L2
open PySem PySem.Spec PyProof.Rows
def X5  : List V->Hp->VK->Prop:=λxs H Q=>match xs with|[x,y,z]=>isInt x λi=>isInt y λj=>isInt z λk=>Q (.int (min (min i j) k)) H|_=>False
@[simp ↓] theorem qgB  x y z H Q:X5 [x,y,z] H Q=(isInt x λi=>isInt y λj=>isInt z λk=>Q (.int (min (min i j) k)) H):=rfl
theorem Tc{xs:List V}{H:Hp}{Q:VK}(h:X5 xs H Q):∃x y z,xs=[x,y,z]/\isInt x λi=>isInt y λj=>isInt z λk=>Q (.int (min (min i j) k)) H:=by
 match xs,h with
 |[x,y,z],h=>exact⟨x,y,z,rfl,h⟩
section
variable {X:Cx}{K:W.Frag}
theorem N_(hc:X.calm=true):cA X (.builtin "min") X5:=by
 intro p_ s σ H xs us Q I r h;obtain⟨x,y,z,rfl,h1⟩:=Tc h;obtain⟨i,rfl,h2⟩:=isInt.out h1;obtain⟨j,rfl,h3⟩:=isInt.out h2;obtain⟨k,rfl,q⟩:=isInt.out h3;obtain⟨u,us',rfl,⟨t,rfl⟩,r2⟩:∃u us',us=u::us'/\RelV (.int i) u/\Vals [.int j,.int k] us':=by
  cases r with
  |cons r1 r2=>exact⟨_,_,rfl,r1,r2⟩
 obtain⟨u2,w',rfl,⟨t',rfl⟩,⟨t2,rfl⟩⟩:=vals2 r2;refine min_three_ints (I.ok.hd hc) λh' tk kk=>⟨_,H,I.kept kk,?_,q⟩
 by_cases h1:j<i <;> by_cases h2:k<j <;> by_cases h3:k<i <;> simp only[h1,h2,h3,qlj,qkQ]
 all_goals first
  |(rw[show min (min i j) k=k by omega];exact⟨_,rfl⟩)
  |(rw[show min (min i j) k=j by omega];exact⟨_,rfl⟩)
  |(rw[show min (min i j) k=i by omega];exact⟨_,rfl⟩)
end
end L2
namespace Xc
open PySem L2
variable {P:Program}{w:World}{K:W.Frag}{mg:Str->Option Value}{base:Heap}{a:Adr}
theorem pW.off{p:Addr}{H:Hp}(hp:pW H p){t:Addr}{c:QAH}(h:H t=some (.lst (c.map V.str)))(hc:2<=c.length):t≠p:=λz=>by
 subst z;obtain⟨_,_,u,_⟩:=hp;rw[h] at u;cases c with
 |nil=>simp at hc
 |cons x c=>simp at u
theorem QG{n j:Nat}{d:Nat}:HT.g8 n d (some (j:Int))=min j n:=by
 simp[HT.g8];intro h;omega
theorem qas{xs:List V}{a b:Nat}(h:a<=xs.length):lU xs (some (a:Int)) (some ((a+b:Nat):Int))=(xs.drop a).take b:=by
 unfold lU;rw[QG,QG,qkU h,List.take_eq_take_iff];simp;omega
theorem pW.keep{p:Addr}{H H':Hp}(x:pW H p)(s:Same H H'):pW H' p:=by
 obtain⟨u1,u2,u3,u4⟩:=x;exact⟨u1,u2,s _ _ u3,u4⟩
theorem CJ{p:Addr}{H H':Hp}{vs:List V}{cs:List (QAH)}(h:eO H vs cs)(hp:pW H p)(b:But p H H')(hc:∀c∈cs,2<=c.length):eO H' vs cs:=⟨h.1,λi v c hv hcc=>by
 obtain⟨t,rfl,ht⟩:=h.2 i v c hv hcc;exact⟨t,rfl,b _ _ (hp.off ht (hc c (qi9 hcc))) ht⟩⟩
theorem X6{xs:QAH}{m:Nat}(h:mD xs [] m):m=1:=by
 generalize hr:([]:List (QAH))=r at h;cases h with
 |nil=>rfl
 |snoc _ _ _ _=>simp at hr
def X7:Sp:=λvs H Q _=>∃(p n:Addr)(xs:QAH),vs=[.ref p,.ref n]/\pW H p/\n≠p/\H n=some (.lst (xs.map V.str))/\xs.length=9/\Ls xs/\
 ∀(r:Addr)(lv:List V)(rs:List (QAH))(m:Nat)(H':Hp),H r=none->H' r=some (.lst lv)->eO H' lv rs->mD xs rs m->m<=9->rs≠[]->rs.length<=4->(rs.map List.length).sum<=12->pW H' p->But p H H'->Q (.ref r) H'
theorem X8(T:Txt K mg a):bT P w K mg base iU 2 a.n_ a.wM ["_law_pot_here", "_law_names_here"] X7:=by
 exists T.HJ.qg,jZ
 ·obtain⟨p,n,xs,rfl,_⟩:=h;rfl
 ·obtain⟨p,n,xs,rfl,hp,np,hn,h9,hX,q⟩:=h;refine⟨_,(aA (bx (i:=2) jZ.nd rfl (Or.inl rfl) (dX ao))
   (aA (bx (i:=3) jZ.nd rfl (Or.inl rfl) aF)
   (aA (bx (i:=4) jZ.nd rfl (Or.inl rfl) aF)
   (aA (h_ qjW rfl (PI.eqv (lE rfl T.nm.range (aj (cB iW aF (PE.eqv (aM (lD T) hr.d rfl T.o_ T.mR.kp T.o9 .nil bh (aj (aG 0) (aj aF ao))) (aJ _ _ _))) ao)) (lG _)) (aL (i:=5) jZ.nd rfl (Or.inl rfl))
   (aA (bx (i:=6) jZ.nd rfl (Or.inl rfl) (aH (N_ rfl) rfl T.nm.min boot_min (aj (cB iW aF (PE.eqv (aM (lD T) hr.d rfl T.o_ T.mR.kp T.o9 .nil bh (aj (aG 0) (aj aF ao))) (aJ _ _ _))) (aj (aG 4) (aj (cB iW (cB nu (aH (bY (K:=K) rfl) rfl T.nm.len qjo (aj (aG 1) ao)) (aG 3)) aF) ao)))))
   (aC (cR (aV uY (aG 6) aF (bO _)) (aA (eN (oM (K:=K) rfl qj4 qj9 qj_ fO (aG 2) (aj (cB qe (dX (aj (bW (cg (K:=K) rfl) (aG 1) (PE.eqv (aM (lD T) hr.d rfl T.o_ T.mR.kp T.o9 .nil bh (aj (aG 0) (aj (aG 3) ao))) (aJ _ _ _)) (λ_ _=>rfl)) ao)) (vV (Wx (K:=K) rfl) (aG 1) (PO.eqv (pZ (aG 3)) (mq _)) (PO.eqv (pZ (cB nu (cB iW (aG 3) (aG 6)) aF)) (mq _)))) ao)))
   (aA (bx (i:=3) jZ.nd rfl (Or.inl rfl) (cB nu (cB iW (aG 3) (aG 6)) aF))
   (aC (bx (i:=4) jZ.nd rfl (Or.inl rfl) (cB nu (aG 4) (aG 6)))))) bF))))
   (aC (aY (aG 2))))))),?_⟩
  have qcZ:200<=sizeLine:=by decide
  left;refine λD hD=>⟨p,_,rfl,hp.upd (hp.ne hD),by decide,by decide,λd0 H1 hd0 hd1 hP1 hB1=>?_⟩;have Dp:D≠p:=hp.nl hD;have hn1:=hB1 _ _ np (cH hn hD);have hD1:=hB1 _ _ Dp ak;have qhU:But p H H1:=((But.refl _ _).new hD).trans hB1;left;refine⟨by omega,by omega,frR (λi σ H'=>∃(m:Nat)(rs:List (QAH))(lv:List V)(t:Nat),(∃o1 o2,σ=[some (.ref p),some (.ref n),some (.ref D),some (.int m),some (.int (12 - t:Nat)),o1,o2])/\t=(rs.map List.length).sum/\t<=12/\mD xs rs m/\m<=9/\rs.length<=i/\(0<i->rs≠[])/\H' D=some (.lst lv)/\eO H' lv rs/\pW H' p/\But p H H') ⟨1,[],[],0,⟨_,_,rfl⟩,rfl,by decide,.nil,by decide,by decide,λh=>absurd h (by decide),hD1,aR.nil,hP1,qhU⟩ ?_ ?_⟩
  ·rintro i σ H2 hi ⟨m,rs,lv,t,⟨o1,o2,rfl⟩,ht,Td,hh,hm9,hrl,hr0,hD2,zy,hP2,hB2⟩;have hn2:=hB2 _ _ np hn;left;refine⟨p,_,rfl,hP2,by decide,by decide,λd H3 hd0 hd1 pG hB3=>?_⟩;have xY:=hB3 _ _ np hn2;have rB:=hB3 _ _ Dp hD2;have hr2:∀R∈rs,2<=R.length:=λR hR=>(hh.ring hX.nd R hR).2;have qeQ:=CJ zy hP2 hB3 hr2;have qeR:=hB2.trans hB3;have hm1:=hh.pos;left;refine⟨_,.inl (aX.of xY),?_⟩;rw[qja,h9];obtain⟨z,hz⟩:∃z:Nat,(z:Int)=min (2+d) (min ((12 - t:Nat):Int) (((9:Nat):Int) - (m:Int)+1)):=⟨(min (2+d) (min ((12 - t:Nat):Int) (((9:Nat):Int) - (m:Int)+1))).toNat,by omega⟩;have hz':min (2+d) (min ((12 - t:Nat):Int) (9 - (m:Int)+1))=(z:Int):=hz.symm;refine eE.of (λh=>?_) (λh=>?_)
   ·have z2:2<=z:=by have:=qjG h;omega
    left;refine⟨⟨_,aX.of rB⟩,p,_,rfl,pG,by omega,by omega,λe H4 he0 Er Dr KN=>?_⟩;have hn4:=KN _ _ np xY;have iQ:=KN _ _ Dp rB;have qeS:=CJ qeQ pG KN hr2;have qhV:=qeR.trans KN;obtain⟨e',rfl⟩:∃e':Nat,e=e':=⟨e.toNat,by omega⟩;have heL:e'<xs.length:=by omega
    obtain⟨x,hx⟩:∃x,xs[e']? = some x:=⟨_,qjh heL⟩;left;refine⟨_,.inl (aX.of hn4),_,bA (by rw[qje,hx];rfl),?_⟩;simp only[hz'];have e1:((m:Int)+(z:Int) - 1)=((m+z - 1:Nat):Int):=by omega
    have e2:((12 - t:Nat):Int) - (z:Int)=((12 - (t+z):Nat):Int):=by omega
    rw[e1,e2];have ec:lU (xs.map V.str) (some (m:Int)) (some ((m+z - 1:Nat):Int))=((xs.drop m).take (z - 1)).map V.str:=by
     rw[show m+z - 1=m+(z - 1) by omega,qas (by rw[qja];omega),List.map_take,List.map_drop]
    intro p1 hp1;exists H4,p1,(.lst [.str x]),s1,e5,H5,hp1;refine⟨_,aX.of (s1 _ _ hn4),λp2 hp2=>?_⟩;rw[ec];exists H5,p2,(.lst (((xs.drop m).take (z - 1)).map V.str)),s2,e6,H6,hp2;refine⟨_,s2 _ _ e5,_,e6,by simp;omega,λp3 hp3=>?_⟩;have s3:Same H6 (upd H6 p3 (.lst ((x::(xs.drop m).take (z - 1)).map V.str))):=aq hp3;have e7:upd H6 p3 (.lst ((x::(xs.drop m).take (z - 1)).map V.str)) p3=some (.lst ((x::(xs.drop m).take (z - 1)).map V.str)):=ak;rw[show[V.str x]++((xs.drop m).take (z - 1)).map V.str=(x::(xs.drop m).take (z - 1)).map V.str from rfl];generalize upd H6 p3 (.lst ((x::(xs.drop m).take (z - 1)).map V.str))=H7 at s3 e7⊢;have S7:=(s1.trans s2).trans s3;have hh2:=mD.snoc hh (qi9 (show(xs.take m)[e']? = some x by rw[qkN (by omega)];exact hx)) z2 (by omega);have Ys:∀R∈rs++[x::(xs.drop m).take (z - 1)],2<=R.length:=λR hR=>(hh2.ring hX.nd R hR).2;have X_:=S7 _ _ iQ;have p3D:p3≠D:=λzz=>by rw[zz,(s1.trans s2) _ _ iQ] at hp3;cases hp3
    have lvl:=qeS.1;have hl8:eO (upd H7 D (.lst (lv++[.ref p3]))) (lv++[.ref p3]) (rs++[x::(xs.drop m).take (z - 1)]):=aR.snoc (Sx X_ (qeS.same S7) λc hc=>by have:=hr2 c hc;omega) ⟨p3,rfl,by rw[aD p3D];exact e7⟩;refine⟨lv,X_,by omega,m+z - 1,rs++[x::(xs.drop m).take (z - 1)],lv++[.ref p3],t+z,⟨rfl,rfl⟩,?_,by omega,hh2,by omega,by simp;omega,by simp,ak,hl8,(Dr.keep S7).upd Dp.symm,(qhV.same S7).new hD⟩;rw[qjU,List.sum_append,<- ht];simp;omega
   ·have z1:¬1<z:=by have:=qkw h;omega
    left;refine⟨m,rs,lv,t,⟨rfl,rfl⟩,ht,Td,hh,hm9,by omega,λz=>?_,rB,qeQ,pG,qeR⟩;subst z;have:=X6 hh;simp at ht;omega
  ·rintro σ H2 ⟨m,rs,lv,t,⟨o1,o2,rfl⟩,ht,Td,hh,hm9,hrl,hr0,hD2,zy,hP2,hB2⟩;left;exact q D lv rs m H2 hD hD2 zy hh hm9 (hr0 (by omega)) (by omega) (by rw[<- ht];exact Td) hP2 hB2
end Xc
namespace L2
open PySem PySem.Spec PyProof.Rows
section
variable {prog:Program}{w:World}{A:Around}{E:QAB}{s:Shared}
theorem Ik{sl:Addr}{vs:Value}{Q:Int×Int×Nat->Shared->Prop}(hs:s.heap.IsSliceOf sl .none .none vs)(ps:IsPart vs (some (-1)))
  (h:Q ((1:Int),-1,2) s):wpAny (model prog w) A (Builtin.Slice.sliceApplied (.ref sl) (pure ((2:Nat):Int))) Q E s:=by
 obtain⟨os,hos,hcs,hds⟩:=id hs;unfold Builtin.Slice.sliceApplied Builtin.Slice.sliceFields;refine qi4 (qi4 (qjZ hos hds (x:=.none) rfl (qi4 (qjZ hos hds (x:=.none) rfl (qi4 (qjZ hos hds (x:=vs) rfl (qi_ ?_)))))));refine qi4 (HT.lR ps ?_);show wpAny _ _ (if ((-1:Int) == 0)=true then _ else _) _ _ s
 rw[if_neg (by decide)];refine qi4 (HT.lR .none (qi4 (HT.lR .none (qi4 (qi_ ?_)))));show wpAny _ _ (match Builtin.Slice.sliceAdjust none none (-1) ((2:Nat):Int) with|(lo,hi)=>pure (lo,(-1:Int),Builtin.Slice.slicePlaces lo hi (-1))) _ _ s
 rw[show Builtin.Slice.sliceAdjust none none (-1) ((2:Nat):Int)=(1,-1) by decide];show wpAny _ _ (pure ((1:Int),(-1:Int),Builtin.Slice.slicePlaces 1 (-1) (-1))) _ _ s;rw[show Builtin.Slice.slicePlaces 1 (-1) (-1)=2 by decide];exact qi_ h
theorem Oa{t sl:Addr}{x y:Value}{vs:Value}{Q:QAB}(ht:IsTup s.heap t #[x,y])(hs:s.heap.IsSliceOf sl .none .none vs)(ps:IsPart vs (some (-1)))
  (h:Q (.ref s.heap.objs.size) {s with heap:=s.heap.push {cls:=.type "tuple",data:=.seq #[y,x]}}):wpAny (model prog w) A (getItem (.ref t) (.ref sl)) Q E s:=by
 have vU:sizeOk (.seq #[y,x]):=by show 2<=sizeLine;decide
 obtain⟨os,hos,hcs,hds⟩:=id hs;have hTs:s.TypeIs (.ref sl) "slice" :=⟨os,hos,hcs⟩;unfold getItem
 try with_reducible refine qkm ?_
 first|refine qi4 (qi_ ?_)|skip
 refine qi4 (wpAny_sequenceKey ht.typeIs (by decide) ?_);refine qi4 (qkx (name:=Str.ofString "__getitem__") ht.typeIs qka
  (qk0 qka ht.typeIs entry_tuple_getitem ?_ (args_tuple_getitem _ _)))
 show wpAny _ _ (Builtin.Tuple.tupleItemsOf (.ref t) >>= _) _ _ s;refine qi4 (tupleItemsOf_ ht ?_);refine qi4 (wpAny_typeOf hTs ?_);rw[if_pos (by decide)];refine qi4 (Ik hs ps ?_);have hno:¬(((1:Int) == 0 && (-1:Int) == 1 && (2:Nat) == (#[x,y]:Array Value).size)=true):=λz=>by cases (show false=true from z)
 show wpAny _ _ (if ((1:Int) == 0 && (-1:Int) == 1 && (2:Nat) == (#[x,y]:Array Value).size)=true then _ else _) _ _ s
 rw[if_neg hno];have e:((List.range 2).filterMap fun(m:Nat)=>(#[x,y]:Array Value)[((1:Int)+(m:Int) * (-1)).toNat]?).toArray = #[y,x]:=rfl;rw[e]
 first
  |exact qi4 (m:=Builtin.Tuple.tupleExact _) (qj1 (qi_ ⟨_,rfl,qi_ h⟩) vU)
  |exact qi4 (m:=Builtin.Tuple.tupleExact _) (qj1 (qi4 (qi_ (qi_ ⟨_,rfl,qi_ h⟩))) vU)
  |exact qi4 (qi4 (m:=Builtin.Tuple.tupleExact _) (qj1 (qi_ (qi_ ⟨_,rfl,qi_ h⟩)) vU))
  |exact qi4 (qi4 (m:=Builtin.Tuple.tupleExact _) (qj1 (qi_ ⟨_,rfl,qi_ h⟩) vU))
end
section
variable {X:Cx}{K:W.Frag}
def qba(K:W.Frag)(te:TE)(tk:TO):TE:=λσ H Q=>te σ H λx H1=>tk σ H1 λk H2=>k=some (-1)/\isRef x λa=>∃u v,dg K H2 a [u,v]/\∀p,H2 p=none->Q (.ref p) (upd H2 p (.tup [v,u]))
@[simp ↓] theorem qgC (K:W.Frag) te tk σ H Q:qba K te tk σ H Q=te σ H λx H1=>tk σ H1 λk H2=>k=some (-1)/\isRef x λa=>∃u v,dg K H2 a [u,v]/\∀p,H2 p=none->Q (.ref p) (upd H2 p (.tup [v,u])):=rfl
theorem qat(hK:X.K=K){e st:Expr}{te:TE}{tk:TO}{pos p2:Pos}(he:PE X e te)(hk:PO X (some st) tk):PE X (.Subscript e (.Slice none none (some st) p2) pos) (qba K te tk):=by
 subst hK;intro p_ s σ H Q I h;refine Subscript_ (cF (he p_ s σ H _ I h) λv s1 z=>?_);obtain⟨x,H1,I1,r1,q1⟩:=z;refine wpAny_Slice ?_;rw[evalPart_none];refine qi_ (qi_ ?_);refine cF (hk p_ s1 σ H1 _ I1 q1) λvk s2 z=>?_;obtain⟨k,H2,I2,pk,rfl,q2⟩:=z;obtain⟨a,rfl,u,v,hx,q⟩:=isRef.out q2;cases r1;have I4:Inv X p_ σ H2 {s2 with heap:=s2.heap.push {cls:=.type "slice",data:=.fields #[.none,.none,vk]}}:=I2.kept (t':=s2.toks) λb ob q=>qi6 _ q;obtain⟨its,r,ht,hz⟩:=I4.tuple hx;obtain⟨u1,v1,rfl,ru,rv⟩:=vals2 r;show wpAny (model X.prog X.w) X.A (subscriptTail e (.Slice none none (some st) p2) (.ref a) (.ref s2.heap.objs.size)) (EP X p_ σ Q) X.xe {s2 with heap:=s2.heap.push {cls:=.type "slice",data:=.fields #[.none,.none,vk]}};refine tail_any (ops:=[.ref a,.ref s2.heap.objs.size]) ht.typeIs qka.lookup ?_ (by with_unfolding_all rfl);refine Oa ht (Heap.IsSliceOf.new ..) pk ?_;refine⟨.ref _,_,I4.laid (t':=s2.toks) (o:=.tup [v,u]) (λb ob q=>qi6 _ q) (qjb _) ?_,rfl,q _ (I4.hok.fresh (qjb _))⟩;exact⟨by show 2<=sizeLine;decide,[v1,u1],.cons rv (.cons ru .nil),IsTup.new _ _⟩
end
end L2
namespace Xc
open PySem L2
variable {P:Program}{w:World}{K:W.Frag}{mg:Str->Option Value}{base:Heap}{a:Adr}
def jo:List (QAH)->Nat->List (Nat×Nat)
 |[],_=>[]
 |R::rs,k=>(List.range R.length).map (λj=>(k,j))++jo rs (k+1)
theorem FW:∀(l m:List (QAH))(k:Nat),jo (l++m) k=jo l k++jo m (k+l.length)
 |[],m,k=>by simp[jo]
 |R::l,m,k=>by
  simp only[qk2,jo,FW l m (k+1),qjs,qjt];rw[show k+1+l.length=k+(l.length+1) by omega]
theorem yC:∀{rs:List (QAH)}{k a j:Nat},(a,j)∈jo rs k↔∃i R,rs[i]? = some R/\a=k+i/\j<R.length
 |[],k,a,j=>by simp[jo]
 |R::rs,k,a,j=>by
  simp only[jo,qjz,yC (rs:=rs)];constructor
  ·rintro(h|⟨i,Q,h1,h2,h3⟩)
   ·obtain⟨j',hj,e⟩:=qjv.mp h;cases e;exact⟨0,R,rfl,rfl,qkc.mp hj⟩
   ·exact⟨i+1,Q,by simpa using h1,by omega,h3⟩
  ·rintro⟨i,Q,h1,h2,h3⟩;cases i with
   |zero=>
    simp at h1;subst h1 h2;exact .inl (qjv.mpr ⟨j,qkc.mpr h3,rfl⟩)
   |succ i=>exact .inr ⟨i,Q,by simpa using h1,by omega,h3⟩
theorem Li:∀(rs:List (QAH))(k:Nat),(jo rs k).Nodup
 |[],k=>List.nodup_nil
 |R::rs,k=>by
  unfold jo;rw[qla];refine⟨List.pairwise_map.mpr (List.nodup_range.imp λh z=>h (by cases z;rfl)),Li rs (k+1),λa ha b hb e=>?_⟩;subst e;obtain⟨j,hj,rfl⟩:=qjv.mp ha;obtain⟨i,Q,_,h2,_⟩:=yC.mp hb;omega
theorem yD:∀(rs:List (QAH))(k:Nat),(jo rs k).length=(rs.map List.length).sum
 |[],k=>rfl
 |R::rs,k=>by
  unfold jo;rw[qjF,yD rs (k+1)];simp
def T4S(H:Hp)(v:V)(d:T4):Prop:=∃t e,v = .ref t/\H t=some (.tup [.ref e,.int d.2.1,.int d.2.2.1,.int d.2.2.2])/\H e=some (.tup [.str d.1.1,.str d.1.2])
def Ob(H:Hp)(tv:List V)(ds:List T4):Prop:=aR T4S H tv ds
theorem T4S.keep{H H':Hp}{v:V}{d:T4}(h:T4S H v d)(k:bV H H'):T4S H' v d:=by
 obtain⟨t,e,rfl,h1,h2⟩:=h;exact⟨t,e,rfl,k _ _ h1,k _ _ h2⟩
theorem Ob.keep{H H':Hp}{tv:List V}{ds:List T4}(h:Ob H tv ds)(k:bV H H'):Ob H' tv ds:=aR.keep h λ_ _ x=>x.keep k
theorem oH{H H':Hp}(s:Same H H'):bV H H':=λc xs e=>s _ _ e
theorem Il{p:Addr}{H H':Hp}(hp:pW H p)(b:But p H H'):bV H H':=λc xs e=>b c _ (λz=>by
 subst z;obtain⟨_,_,u,_⟩:=hp;rw[e] at u;cases u) e
def T4P(rs:List (QAH))(H:Hp)(v:V)(z:T4×(Nat×Nat)):Prop:=T4S H v z.1/\z.1.2.2.1=z.2.1/\∃R,rs[z.2.1]? = some R/\uF R z.2.2 z.1
theorem yE{rs:List (QAH)}{H H':Hp}{tv:List V}{zs:List (T4×(Nat×Nat))}(h:aR (T4P rs) H tv zs)(k:bV H H'):aR (T4P rs) H' tv zs:=aR.keep h λ_ _ x=>⟨x.1.keep k,x.2⟩
theorem qc0{rs:List (QAH)}{H:Hp}{tv:List V}{zs:List (T4×(Nat×Nat))}(h:aR (T4P rs) H tv zs)(hp:(zs.map (·.2)).Perm (jo rs 0)):Ob H tv (zs.map (·.1))/\Nk rs (zs.map (·.1)) (zs.map (·.2)):=by
 refine⟨⟨by rw[qja];exact h.1,λi v d hv hd=>?_⟩,hp.nodup_iff.mpr (Li rs 0),by simp,λk j=>?_,λi k j d h1 h2=>?_⟩
 ·rw[qje,qju] at hd;obtain⟨z,hz,rfl⟩:=hd;exact(h.2 i v z hv hz).1
 ·rw[hp.mem_iff,yC];constructor
  ·rintro⟨i,R,a,b,c⟩;rw[qjX] at b;subst b;exact⟨R,a,c⟩
  ·rintro⟨R,a,c⟩;exact⟨k,R,a,(qjX _).symm,c⟩
 ·rw[qje,qju] at h1 h2;obtain⟨z,hz,e⟩:=h1;obtain⟨z',hz',e'⟩:=h2;rw[hz] at hz';cases hz';have hi:i<tv.length:=by rw[h.1];exact(qi5.mp hz).1
  obtain⟨_,a,b⟩:=h.2 i _ z (qjh hi) hz;subst e';rw[e] at a b;exact⟨a,b⟩
theorem Yb{R:QAH}{j k:Nat}{ab tu:Nat}(ha:ab<2)(ht:tu<2):uF R j (if ab=0 then jA R j else ((jA R j).2,(jA R j).1),tu,k,(ab+tu) % 2):=by
 have a01:ab=0\/ab=1:=by omega
 have t01:tu=0\/tu=1:=by omega
 rcases a01 with rfl|rfl <;> rcases t01 with rfl|rfl
 ·exact⟨by simp,.inl rfl,.inl ⟨rfl,rfl,rfl⟩⟩
 ·exact⟨by simp,.inl rfl,.inr ⟨rfl,rfl,rfl⟩⟩
 ·exact⟨by simp,.inr rfl,.inr ⟨rfl,rfl,rfl⟩⟩
 ·exact⟨by simp,.inr rfl,.inl ⟨rfl,rfl,rfl⟩⟩
theorem qau{xs:QAH}{k:Nat}(h2:2<=xs.length)(hk:k<xs.length):Ef (xs.map V.str) ((k:Int) - 1)=some (.str (jA xs k).1)/\Ef (xs.map V.str) (k:Int)=some (.str (jA xs k).2):=by
 refine⟨?_,bA (by rw[qje,rT hk];rfl)⟩;cases k with
 |zero=>
  unfold Ef Vi;rw[if_neg (by omega),if_pos (by simp;omega)];have e:(((0:Nat):Int) - 1+(xs.map V.str).length).toNat=xs.length - 1:=by simp;omega
  show(xs.map V.str)[(((0:Nat):Int) - 1+(xs.map V.str).length).toNat]? = _;rw[e,qje,rT (by omega)];rfl
 |succ k=>
  rw[show((k+1:Nat):Int) - 1=(k:Int) by omega];exact bA (by rw[qje,rT (by omega)];rfl)
def Tf:Sp:=λvs H Q _=>∃(p l:Addr)(lv:List V)(rs:List (QAH)),vs=[.ref p,.ref l]/\pW H p/\l≠p/\H l=some (.lst lv)/\eO H lv rs/\(∀R∈rs,2<=R.length)/\rs.length<=4/\(rs.map List.length).sum<=12/\
 ∀(r:Addr)(tv:List V)(ds:List T4)(L:List (Nat×Nat))(H':Hp),H r=none->H' r=some (.lst tv)->Ob H' tv ds->Nk rs ds L->ds.length<=12->pW H' p->But p H H'->Q (.ref r) H'
theorem Tg(T:Txt K mg a):bT P w K mg base iU 3 a.sG a.zM ["_law_pot_here", "_law_rings_here"] Tf:=by
 exists T.Nv.qg,nG
 ·obtain⟨p,l,lv,rs,rfl,_⟩:=h;rfl
 ·obtain⟨p,l,lv,rs,rfl,hp,lp,hl,zy,hr2,KJ,h12,q⟩:=h;refine⟨_,(aA (bx (i:=2) nG.nd rfl (Or.inl rfl) (dX ao))
   (aA (h_ qjW rfl (PI.eqv (tQ (K:=K) rfl rfl T.Lr.enumerate (aj (aG 1) ao)) (lH _ _)) (PG.eqv (fL (K:=K) (n:=2) rfl rfl (jF.eqv (bC (aL (i:=3) nG.nd rfl (Or.inl rfl)) (jF.eqv (bC (aL (i:=4) nG.nd rfl (Or.inl rfl)) (jF.mono fK iY)) (bD _ _))) (bD _ _))) (fM _ _ _))
   (aC (h_ qjW rfl (PI.eqv (lE rfl T.nm.range (aj (aH (bY (K:=K) rfl) rfl T.nm.len qjo (aj (aG 4) ao)) ao)) (lG _)) (aL (i:=5) nG.nd rfl (Or.inl rfl))
   (aA (bx (i:=6) nG.nd rfl (Or.inl rfl) (kh (aj (bW (cg (K:=K) rfl) (aG 4) (cB nu (aG 5) aF) (λ_ _=>rfl)) (aj (bW (cg (K:=K) rfl) (aG 4) (aG 5) (λ_ _=>rfl)) ao))))
   (aA (bx (i:=7) nG.nd rfl (Or.inl rfl) (PE.eqv (aM (lD T) hr.d rfl T.o_ T.mR.kp T.o9 .nil bh (aj (aG 0) (aj aF ao))) (aJ _ _ _)))
   (aA (bx (i:=8) nG.nd rfl (Or.inl rfl) (PE.eqv (aM (lD T) hr.d rfl T.o_ T.mR.kp T.o9 .nil bh (aj (aG 0) (aj aF ao))) (aJ _ _ _)))
   (aC (eN (oM (K:=K) rfl qj4 qj9 qj_ fO (aG 2) (aj (kh (aj (bW (cg (K:=K) rfl) (dX (aj (aG 6) (aj (qat (K:=K) rfl (aG 6) (PO.eqv (pZ (qaC PJ aF)) (mq _))) ao))) (aG 7) (λ_ _=>rfl)) (aj (aG 8) (aj (aG 3) (aj (cB tV (cB iW (aG 7) (aG 8)) aF) ao))))) ao))))))))))
   (aC (aY (PE.eqv (aM (KH T) hr.d rfl T.HF T.zN.kp T.HD .nil bh (aj (aG 0) (aj (aG 2) ao))) (aJ _ _ _)))))),?_⟩
  have qcZ:200<=sizeLine:=by decide
  left;refine λD hD=>⟨⟨_,aX.of (cH hl hD)⟩,frE lv (λi σ H'=>∃(tv:List V)(zs:List (T4×(Nat×Nat))),(∃o1 o2 o3 o4 o5 o6,σ=[some (.ref p),some (.ref l),some (.ref D),o1,o2,o3,o4,o5,o6])/\H' D=some (.lst tv)/\aR (T4P rs) H' tv zs/\zs.map (·.2)=jo (rs.take i) 0/\pW H' p/\But p H H') ⟨[],[],⟨_,_,_,_,_,_,rfl⟩,ak,aR.nil,rfl,hp.upd (hp.ne hD),(But.refl _ _).new hD⟩ (λi σ H' _ h=>by
   obtain⟨_,_,_,_,_,_,_,hB⟩:=h;exact aX.of (hB _ _ lp hl)) ?_ ?_⟩
  ·rintro i x tt σ H2 hi htt ⟨tv,zs,⟨o1,o2,o3,o4,o5,o6,rfl⟩,hD2,hT,hzs,hP2,hB2⟩;obtain⟨R,hR,t,rfl,ht⟩:=aR.at zy hi;have R2:=hr2 R (qi9 hR);left;refine⟨_,dg.of ak,rfl,?_⟩;left;have st:Same H2 (upd H2 tt (.tup [.int i,.ref t])):=aq htt;generalize upd H2 tt (.tup [.int i,.ref t])=H3 at st⊢;have tp:t≠p:=hp.off ht R2;have pG:=hP2.keep st;have hB3:=hB2.same st;have hi4:i<4:=by have:=zy.1;have:=(qi5.mp hi).1;omega
   have il:i<rs.length:=(qi5.mp hR).1;have hsum:(jo (rs.take i) 0).length+R.length<=12:=by
    have e2:((rs.take (i+1)).map List.length).sum<=(rs.map List.length).sum:=by
     conv=>rhs;rw[<- qjT (i+1) rs,qjU,List.sum_append]
     omega
    rw[take_one hR,qjU,List.sum_append,qjO,qk_,List.sum_cons,List.sum_nil] at e2;rw[yD];omega
   refine⟨_,.inl (aX.of (hB3 _ _ tp ht)),by rw[qja];omega,?_⟩;rw[qja];refine frR (λj σ H'=>∃(tv:List V)(zs:List (T4×(Nat×Nat))),(∃o1 o2 o3 o4,σ=[some (.ref p),some (.ref l),some (.ref D),some (.int i),some (.ref t),o1,o2,o3,o4])/\H' D=some (.lst tv)/\aR (T4P rs) H' tv zs/\zs.map (·.2)=jo (rs.take i) 0++(List.range j).map (λj=>(i,j))/\pW H' p/\But p H H') ⟨tv,zs,⟨_,_,_,_,rfl⟩,st _ _ hD2,yE hT (oH st),by simp[hzs],pG,hB3⟩ ?_ ?_
   ·rintro j σ H4 hj ⟨tv,zs,⟨o1,o2,o3,o4,rfl⟩,iQ,hT4,qav,Dr,KN⟩;have Ry:=KN _ _ tp ht;obtain⟨a1,a2⟩:=qau R2 hj;left;refine⟨_,.inl (aX.of Ry),_,a1,_,.inl (aX.of Ry),_,a2,λe1 Er=>?_⟩;exists H4,e1,(.tup [.str (jA R j).1,.str (jA R j).2]),s1,e5,H5,Er;have hP5:=Dr.keep s1;have Xp:=KN.same s1;have e1p:e1≠p:=Dr.nl Er;have Dp:D≠p:=hp.nl hD;have vH:=s1 _ _ iQ;have hT5:=yE hT4 (oH s1);refine⟨p,_,rfl,hP5,by decide,by decide,λab H6 ha0 ha1 hP6 hB6=>?_⟩;have Qx:=hB6 _ _ Dp vH;have e6:=hB6 _ _ e1p e5;have hT6:=yE hT5 (Il hP5 hB6);have qhW:=Xp.trans hB6;obtain⟨ab,rfl⟩:∃n:Nat,ab=n:=⟨ab.toNat,by omega⟩;left;refine⟨p,_,rfl,hP6,by decide,by decide,λtu H7 hu0 hu1 hP7 Yt=>?_⟩;have X_:=Yt _ _ Dp Qx;have e7:=Yt _ _ e1p e6;have hT7:=yE hT6 (Il hP6 Yt);have qhX:=qhW.trans Yt;obtain⟨tu,rfl⟩:∃n:Nat,tu=n:=⟨tu.toNat,by omega⟩;have hT:=Yb (R:=R) (j:=j) (k:=i) (ab:=ab) (tu:=tu) (by omega) (by omega);rw[show(0:Int)+(j:Int)=(j:Int) by omega] at *;left;have em:(((ab:Int)+(tu:Int)) % 2)=(((ab+tu) % 2:Nat):Int):=by omega
    rw[em];refine⟨⟨_,aX.of X_⟩,_,_,dg.of e7,λp1 h1 p2 h2=>?_⟩;have hp1:=cH (u:=HO.lst [V.ref e1,V.ref p1]) (ak (H:=H7) (a:=p1) (o:=HO.tup [.str (jA R j).2,.str (jA R j).1])) h2;have sm:=(aq (o:=HO.tup [.str (jA R j).2,.str (jA R j).1]) h1).trans (aq (o:=HO.lst [V.ref e1,V.ref p1]) h2);have hp2:upd (upd H7 p1 (HO.tup [.str (jA R j).2,.str (jA R j).1])) p2 (HO.lst [V.ref e1,V.ref p1]) p2=some (HO.lst [V.ref e1,V.ref p1]):=ak;generalize upd (upd H7 p1 (HO.tup [.str (jA R j).2,.str (jA R j).1])) p2 (HO.lst [V.ref e1,V.ref p1])=H8 at hp1 hp2 sm⊢;obtain⟨pp,a3,hpp⟩:∃pp:Addr,Ef [V.ref e1,V.ref p1] (ab:Int)=some (.ref pp)/\H8 pp=some (.tup [.str (if ab=0 then jA R j else ((jA R j).2,(jA R j).1)).1,.str (if ab=0 then jA R j else ((jA R j).2,(jA R j).1)).2]):=by
     have a01:ab=0\/ab=1:=by omega
     rcases a01 with rfl|rfl
     ·exact⟨e1,rfl,sm _ _ e7⟩
     ·exact⟨p1,rfl,hp1⟩
    refine⟨_,.inl (aX.of hp2),_,a3,λp3 h3=>?_⟩;exists H8,p3,(.tup [.ref pp,.int tu,.int i,.int ((ab+tu) % 2:Nat)]),s3,e9,H9,h3;have S9:=sm.trans s3;have Yu:=S9 _ _ X_;have kp:bV H9 (upd H9 D (.lst (tv++[.ref p3]))):=λc zs e=>Py e Yu (by intro z;cases z);have zl:tv.length<12+1:=by
     have e:=qjB List.length qav;rw[qja,qjF,qja,qkT] at e;have:=hT4.1;omega
    refine⟨tv,Yu,by omega,_,ak,zs++[((if ab=0 then jA R j else ((jA R j).2,(jA R j).1),tu,i,(ab+tu) % 2),(i,j))],aR.snoc (yE (yE hT7 (oH S9)) kp) ⟨⟨p3,pp,rfl,kp _ _ e9,kp _ _ (s3 _ _ hpp)⟩,rfl,R,hR,hT⟩,?_,(hP7.keep S9).upd Dp.symm,(qhX.same S9).new hD⟩
    rw[qjU,qav,List.range_succ];simp
   ·rintro σ H4 ⟨tv,zs,⟨o1,o2,o3,o4,rfl⟩,iQ,hT4,qav,Dr,KN⟩;refine⟨tv,zs,⟨_,_,_,_,_,_,rfl⟩,iQ,hT4,?_,Dr,KN⟩;rw[qav,take_one hR,FW,qji,qjX,qkU (by omega)];simp[jo]
  ·rintro σ H2 ⟨tv,zs,⟨o1,o2,o3,o4,o5,o6,rfl⟩,hD2,hT,hzs,hP2,hB2⟩;left;rw[zy.1,qjk] at hzs;have hzl:zs.length<=12:=by
    have e:=qjB List.length hzs;rw[qja,yD] at e;omega
   have htl:=hT.1;refine⟨p,D,tv,rfl,hP2,hp.nl hD,hD2,by omega,λr ys H3 hr0 Ys hperm pG hB3=>?_⟩;obtain⟨us,hu,hA⟩:=Lf hT hperm;obtain⟨c1,c2⟩:=qc0 hA ((hu.map _).trans (by rw[hzs]));left;exact q r ys _ _ H3 (pW.none hB2 hP2 hr0) Ys (c1.keep (Il hP2 hB3)) c2 (by rw[qja,hu.length_eq];exact hzl) pG (hB2.trans hB3)
theorem qc1{X:Cx}{K:W.Frag}(hK:X.K=K):YS X (qbF K):=by subst hK;exact qbG
def qaw(ds:List T4)(i j k:Nat):Bool:=decide (Cy ds k=i/\FT ds k=j)
theorem qax{n:Nat}{rg cl s:Nat->Nat}(k:Nat):((rW n rg cl s).filter λi=>decide (rg i=k))=k_ n rg cl k (s k):=by
 unfold rW k_;rw[List.filter_filter];refine qls λi _=>?_;rw[<- Bool.decide_and,qk1];exact⟨λz=>⟨z.1,by rw[<- z.1];exact z.2⟩,λz=>⟨z.1,by rw[z.1];exact z.2⟩⟩
def qhY(H:Hp)(v:V)(ks:List Nat):Prop:=∃t,v = .ref t/\H t=some (.lst (ks.map λn:Nat=>V.int n))
def qc2(H:Hp)(lv:List V)(ls:List (List Nat)):Prop:=aR qhY H lv ls
def Lj:Sp:=λvs H Q _=>∃(l n:Addr)(m:Nat)(tv:List V)(ds:List T4)(s:Nat->Nat),vs=[.ref l,.int m,.ref n]/\H l=some (.lst tv)/\Ob H tv ds/\ds.length<=12/\m<=4/\H n=some (.lst ((rW ds.length (Cy ds) (FT ds) s).map λk:Nat=>V.int k))/\
 (∀k,s k<2)/\(∀k,(k_ ds.length (Cy ds) (FT ds) k (s k)).length<=(k_ ds.length (Cy ds) (FT ds) k (1 - s k)).length)/\
 ∀H',Same H H'->Q (.bl true) H'
theorem Lk(T:Txt K mg a):bT P w K mg base iU 1 a.fZ a.oh ["_law_ties_here", "_law_many", "_law_numbers"] Lj:=by
 exists T.vA.qg,nH
 ·obtain⟨l,n,m,tv,ds,s,rfl,_⟩:=h;rfl
 ·obtain⟨l,n,m,tv,ds,sd,rfl,hl,hT,h12,hm,hn,s2,hle,q⟩:=h;refine⟨_,(aA (h_ qjW rfl (PI.eqv (lE rfl T.nm.range (aj (aG 1) ao)) (lG _)) (aL (i:=3) nH.nd rfl (Or.inr rfl))
   (aA (jt (i:=4) nH.nd rfl rfl rfl rfl (show aN (aB mH) _ ["_law_ties_here", "_law_many", "_law_numbers", "_law_ring", "_law_ones", "_law_own"] ["_law_about"] [0,3] ["_law_about", "_law_ties_here", "_law_ring"] from by rfl') rfl (Y9 (K:=K) rfl (kh (aj aF (aj aF ao)))) (λC s H fp pn=>(aL (i:=0) (show(["_law_about", "_law_ties_here", "_law_ring"]:QAH).Nodup by symm) rfl (Or.inr rfl))) (λC s H fp pn=>dM) (λC s H fp pn=>(Ai (show aN (_) _ ["_law_about", "_law_ties_here", "_law_ring"] ["_law_k", "_law_tie"] [2,0] ["_law_k", "_law_tie", "_law_ring", "_law_about"] from by rfl') rfl (PI.eqv (tQ (K:=K) rfl rfl T.Lr.enumerate (aj (aG 1) ao)) (lH _ _)) (λC s H fp pn=>(PG.eqv (fL (K:=K) (n:=2) rfl rfl (jF.eqv (bC (aL (i:=0) (show(["_law_k", "_law_tie", "_law_ring", "_law_about"]:QAH).Nodup by symm) rfl (Or.inl rfl)) (jF.eqv (bC (aL (i:=1) (show(["_law_k", "_law_tie", "_law_ring", "_law_about"]:QAH).Nodup by symm) rfl (Or.inl rfl)) (jF.mono fK iY)) (bD _ _))) (bD _ _))) (fM _ _ _))) (λC s H fp pn=>(gA (aV (qcx (K:=K) rfl hr.units) (vV (qc1 (K:=K) rfl) (aG 1) (PO.eqv (pZ aF) (mq _)) Ph) (kh (aj (aG 2) (aj (aG 3) ao))) (bO _)))) (λC s H fp pn=>(aG 0)))))
   (aA (jt (i:=5) nH.nd rfl rfl rfl rfl (show aN (aB mH) _ ["_law_ties_here", "_law_many", "_law_numbers", "_law_ring", "_law_ones", "_law_own"] ["_law_k"] [3,0] ["_law_k", "_law_ring", "_law_ties_here"] from by rfl') rfl (PI.eqv (bI (K:=K) rfl (aG 2)) (bB _ _)) (λC s H fp pn=>(aL (i:=0) (show(["_law_k", "_law_ring", "_law_ties_here"]:QAH).Nodup by symm) rfl (Or.inl rfl))) (λC s H fp pn=>(gA (aV kE (bW (cg (K:=K) rfl) (bW (cg (K:=K) rfl) (aG 2) (aG 0) (λ_ _=>rfl)) aF (λ_ _=>rfl)) (aG 1) (bO _)))) (λC s H fp pn=>(aG 0)))
   (aC (cR (PW.pt (uz (aV (VL (K:=K) rfl hr.units) (aG 5) (aG 4) rfl) (oJ (aV uY (aH (bY (K:=K) rfl) rfl T.nm.len qjo (aj (aG 5) ao)) (aH (Al rfl) rfl T.nm.min boot_min (aj (aH (bY (K:=K) rfl) rfl T.nm.len qjo (aj (bW (cg (K:=K) rfl) (aG 4) aF (λ_ _=>rfl)) ao)) (aj (aH (bY (K:=K) rfl) rfl T.nm.len qjo (aj (bW (cg (K:=K) rfl) (aG 4) aF (λ_ _=>rfl)) ao)) ao))) (bO _))))) (aC (aY pH)) bF)))))
   (aC (aY pH))),?_⟩
  have qcZ:200<=sizeLine:=by decide
  have tl:=hT.1;left;refine⟨by omega,frR (λi σ H'=>(∃o3 o4 o5,σ=[some (.ref l),some (.int m),some (.ref n),o3,o4,o5])/\Same H H') ⟨⟨_,_,_,rfl⟩,Same.refl _⟩ ?_ ?_⟩
  ·rintro i σ H1 hi ⟨⟨o3,o4,o5,rfl⟩,s1⟩;rw[show(0:Int)+(i:Int)=(i:Int) by omega];left;refine λpt hpt=>⟨⟨_,dg.of ak⟩,λD hD=>?_⟩;have st:=s1.trans (aq (o:=HO.tup [.int 0,.int 1]) hpt);have et:upd H1 pt (HO.tup [.int 0,.int 1]) pt=some (HO.tup [.int 0,.int 1]):=ak;generalize upd H1 pt (HO.tup [.int 0,.int 1])=H2 at st et hD⊢;refine cmT [V.int 0,V.int 1] (λj σ H'=>(∃o,σ=[o,some (.ref l),some (.int i)])/\∃lv,H' D=some (.lst lv)/\qc2 H' lv ((List.range j).map (k_ ds.length (Cy ds) (FT ds) i))/\Same H2 H') ⟨⟨_,rfl⟩,[],ak,aR.nil,aq hD⟩ (λj σ H' _ h=>by
    obtain⟨_,_,_,_,z⟩:=h;exact dg.of (z _ _ et)) ?_ ?_
   ·rintro j x σ H3 hj ⟨⟨o,rfl⟩,lv,rB,zy,s3⟩;obtain⟨hj2,rfl⟩:j<2/\x = .int j:=by
     match j,hj with
     |0,hj=>simp at hj;exact⟨by decide,hj.symm⟩
     |1,hj=>simp at hj;exact⟨by decide,hj.symm⟩
     |j+2,hj=>simp at hj
    left;refine⟨⟨_,aX.of (s3 _ _ (st _ _ hl))⟩,λD2 hD2=>cmE tv (λq σ H'=>(∃o1 o2,σ=[o1,o2,some (.int i),some (.int j)])/\H' D2=some (.lst (((List.range q).filter (qaw ds i j)).map λk:Nat=>V.int k))/\Same H3 H') ⟨⟨_,_,rfl⟩,ak,aq hD2⟩ (λq σ H' _ h=>aX.of (h.2.2 _ _ (s3 _ _ (st _ _ hl)))) ?_ ?_⟩
    ·rintro q x t σ H4 hq ht ⟨⟨o1,o2,rfl⟩,iQ,s4⟩;obtain⟨d,hd,t4,e4,rfl,h4,_⟩:=aR.at hT hq;have ql:q<tv.length:=(qi5.mp hq).1;have S4:=st.trans (s3.trans s4);have h5:=cH (u:=HO.tup [.int q,.ref t4]) (S4 _ _ h4) ht;left;have Dd:Same H4 (upd H4 t (.tup [.int q,.ref t4])):=aq ht;have e5:upd H4 t (.tup [.int q,.ref t4]) t=some (.tup [.int q,.ref t4]):=ak;generalize upd H4 t (.tup [.int q,.ref t4])=H5 at h5 Dd e5⊢;refine⟨_,dg.of e5,rfl,?_⟩;left;refine⟨_,dg.of h5,by simp[HT.g8],λp6 Qw p7 hp7=>?_⟩;rw[show lU [V.ref e4,.int d.2.1,.int d.2.2.1,.int d.2.2.2] (some 2) none=[V.int d.2.2.1,.int d.2.2.2] from rfl] at hp7⊢;have s6:Same H5 (upd H5 p6 (.tup [V.int d.2.2.1,.int d.2.2.2])):=aq Qw;have e6:upd H5 p6 (.tup [V.int d.2.2.1,.int d.2.2.2]) p6=some (.tup [V.int d.2.2.1,.int d.2.2.2]):=ak;generalize upd H5 p6 (.tup [V.int d.2.2.1,.int d.2.2.2])=H6 at s6 e6 hp7⊢;exists H6,p7,(.tup [V.int i,.int j]),s7,e7,H7,hp7;have S7:=Dd.trans (s6.trans s7);have X_:=S7 _ _ iQ;have fl:=qjJ (qaw ds i j) (List.range q);rw[qkT] at fl;refine⟨.tuple (d9 [(d.2.2.1:Int),d.2.2.2]),⟨p6,_,rfl,dg.of (s7 _ _ e6),tU _⟩,.tuple (d9 [(i:Int),j]),⟨p7,_,rfl,dg.of e7,tU _⟩,by simp[PyData.canLay0,lay_ints],by simp[PyData.canLay0,lay_ints],by have:=Aj [(d.2.2.1:Int),d.2.2.2];simp[PyData.depth];omega,?_⟩;rw[List.range_succ,qjV];have eb:(PyData.tuple (d9 [(d.2.2.1:Int),d.2.2.2])).eqv (.tuple (d9 [(i:Int),j]))=qaw ds i j q:=by
      unfold qaw;show PyData.eqvAll (d9 [(d.2.2.1:Int),d.2.2.2]) (d9 [(i:Int),j])=_;rw[wC,Cz hd,CG hd,qk1];simp;omega
     rw[eb];refine eE.of (λh=>?_) (λh=>?_)
     ·left;refine⟨_,X_,by rw[qja];omega,?_,aU (s4.trans S7) hD2⟩;rw[ak,qke (by exact h),qj6];simp
     ·left;refine⟨?_,s4.trans S7⟩;rw[qkf (by rw[h];simp),qj6,qk_,qjD];exact X_
    ·rintro σ H4 ⟨⟨o1,o2,rfl⟩,iQ,s4⟩;rw[tl] at iQ;have D2D:D2≠D:=λz=>by rw[z,rB] at hD2;cases hD2
     have lvl:=zy.1;rw[qja,qkT] at lvl;left;have BZ:=s4 _ _ rB;refine⟨lv,BZ,by omega,_,ak,?_,aU (s3.trans s4) hD⟩;rw[List.range_succ,qjU];refine aR.snoc ⟨zy.1,λk v c hv hc=>?_⟩ ⟨D2,rfl,by rw[aD D2D];exact iQ⟩;obtain⟨t',rfl,e'⟩:=zy.2 k v c hv hc;have tD:t'≠D:=λz=>by
      rw[z,rB] at e';cases e';rw[qje,qju] at hv;obtain⟨_,_,w⟩:=hv;cases w
     exact⟨t',rfl,by rw[aD tD];exact s4 _ _ e'⟩
   ·rintro σ H3 ⟨⟨o,rfl⟩,lv,rB,zy,s3⟩;obtain⟨A,hA⟩:∃A,A=k_ ds.length (Cy ds) (FT ds) i 0:=⟨_,rfl⟩;obtain⟨B,hB⟩:∃B,B=k_ ds.length (Cy ds) (FT ds) i 1:=⟨_,rfl⟩;obtain⟨ta,tb,rfl,hta,htb⟩:∃ta tb,lv=[.ref ta,.ref tb]/\H3 ta=some (.lst (A.map λn:Nat=>V.int n))/\H3 tb=some (.lst (B.map λn:Nat=>V.int n)):=by
     have hl2:=zy.1;rw[qja,qkT] at hl2
     match lv,hl2 with
     |[x,y],_=>
      obtain⟨ta,rfl,h1⟩:=zy.2 0 x _ rfl rfl;obtain⟨tb,rfl,h2⟩:=zy.2 1 y _ rfl rfl;exact⟨ta,tb,rfl,by rw[hA];exact h1,by rw[hB];exact h2⟩
    have S3:=st.trans s3;have xY:=S3 _ _ hn;left;obtain⟨jq,hW⟩:∃jq,jq=rW ds.length (Cy ds) (FT ds) sd:=⟨_,rfl⟩;rw[<- hW] at xY;have Wl:jq.length<=12:=by
     rw[hW];unfold rW;have:=qjJ (λi=>decide (FT ds i=sd (Cy ds i))) (List.range ds.length);rw[qkT] at this;omega
    refine⟨⟨_,aX.of xY⟩,λD4 iQ=>Iv (jq.map λk:Nat=>V.int k) (λq σ H'=>(∃o1,σ=[o1,some (.int i),some (.ref l)])/\H' D4=some (.lst (((jq.take q).filter λk=>decide (Cy ds k=i)).map λk:Nat=>V.int k))/\Same H3 H') ⟨⟨_,rfl⟩,ak,aq iQ⟩ (λq σ H' _ h=>aX.of (h.2.2 _ _ xY)) ?_ ?_⟩
    ·rintro q x σ H4 hq ⟨⟨o1,rfl⟩,vH,s4⟩;rw[qje,qju] at hq;obtain⟨k,hk,rfl⟩:=hq;have hkn:k<ds.length:=(zG.mp (by rw[<- hW];exact qi9 hk)).1;obtain⟨d,hd⟩:∃d,ds[k]? = some d:=⟨_,qjh hkn⟩;obtain⟨v,hv,t4,e4,rfl,h4,_⟩:∃v,tv[k]? = some v/\T4S H v d:=⟨_,qjh (by omega),hT.2 k _ d (qjh (by omega)) hd⟩;have S4:=S3.trans s4;have ql:q<jq.length:=(qi5.mp hk).1;left;refine⟨_,.inl (aX.of (S4 _ _ hl)),_,bA hv,_,.inr (dg.of (S4 _ _ h4)),_,bA (j:=2) rfl,?_⟩;left;have fl:=qjJ (λk=>decide (Cy ds k=i)) (jq.take q);rw[qji] at fl;rw[show decide ((d.2.2.1:Int)=(i:Int))=decide (Cy ds k=i) by rw[Cz hd,qk1];omega,take_one hk,qjV];refine eE.of (λh=>?_) (λh=>?_)
     ·left;refine⟨_,vH,by rw[qja];omega,?_,aU s4 iQ⟩;rw[ak,qke (by exact h),qj6];simp
     ·left;refine⟨?_,s4⟩;rw[qkf (by rw[h];simp),qj6,qk_,qjD];exact vH
    ·rintro σ H4 ⟨⟨o1,rfl⟩,vH,s4⟩;rw[qja,qjk,hW,qax] at vH;obtain⟨C,hC⟩:∃C,C=k_ ds.length (Cy ds) (FT ds) i (sd i):=⟨_,rfl⟩;rw[<- hC] at vH;have AB:(C=A\/C=B)/\C.length<=A.length/\C.length<=B.length:=by
      have h1:=s2 i;have h2:=hle i;rw[<- hC] at h2;have h01:sd i=0\/sd i=1:=by omega
      rcases h01 with e|e
      ·rw[e] at hC h2;rw[hC,<- hA] at h2⊢;rw[show 1 - 0=1 from rfl,<- hB] at h2;exact⟨.inl rfl,qjb _,h2⟩
      ·rw[e] at hC h2;rw[hC,<- hB] at h2⊢;rw[show 1 - 1=0 from rfl,<- hA] at h2;exact⟨.inr rfl,h2,qjb _⟩
     have s5:=s3.trans s4;have qc3:=s4 _ _ rB;have qc4:=s4 _ _ hta;have htb':=s4 _ _ htb;have nn:∀X:List Nat,X.map (λn:Nat=>V.int n)=(X.map λn:Nat=>(n:Int)).map V.int:=λX=>by rw[qkO];rfl
     left;rw[nn] at vH qc4 htb';refine⟨.list (d9 (C.map λn:Nat=>(n:Int))),⟨D4,_,rfl,aX.of vH,tU _⟩,[.list (d9 (A.map λn:Nat=>(n:Int))),.list (d9 (B.map λn:Nat=>(n:Int)))],⟨D,_,rfl,aX.of qc3,⟨_,_,rfl,⟨ta,_,rfl,aX.of qc4,tU _⟩,⟨_,_,rfl,⟨tb,_,rfl,aX.of htb',tU _⟩,rfl⟩⟩⟩,by simp[PyData.canLay0,lay_ints],by simp[PyData.canLayAll0,PyData.canLay0,lay_ints],by have:=Aj (C.map λn:Nat=>(n:Int));simp[PyData.depth];omega,?_⟩;rw[show(!([.list (d9 (A.map λn:Nat=>(n:Int))),.list (d9 (B.map λn:Nat=>(n:Int)))]:List PyData).any λy=>y.eqv (.list (d9 (C.map λn:Nat=>(n:Int)))))=false from ?_]
     ·refine eE.neg rfl ?_;left;refine⟨_,.inl (aX.of vH),_,.inl (aX.of qc3),_,bA (j:=0) rfl,?_⟩;left;refine⟨_,.inl (aX.of qc4),_,.inl (aX.of qc3),_,bA (j:=1) rfl,?_⟩;left;refine⟨_,.inl (aX.of htb'),eE.neg (qjM ?_) ?_⟩
      ·simp only[qja];have:=AB.2;split <;> omega
      ·left;exact st.trans s5
     ·rw[Bool.not_eq_false',qkz]
      rcases AB.1 with e|e
      ·refine⟨_,qjp,?_⟩;show PyData.eqvAll _ _=true;rw[wC,e];simp
      ·refine⟨_,qjf _ qjp,?_⟩;show PyData.eqvAll _ _=true;rw[wC,e];simp
  ·rintro σ H1 ⟨⟨o3,o4,o5,rfl⟩,s1⟩;left;exact q _ s1
theorem CK:∀xs:List Int,keysOf (xs.map V.int)=xs.map Sum.inl
 |[]=>rfl
 |x::xs=>by
  show Sum.inl x::keysOf (xs.map V.int)=_;rw[CK xs];rfl
theorem qc5{xs:List Int}(h:xs.Nodup):(CW (λi=>(keysOf (xs.map V.int))[i]?.getD (Sum.inl 0)) (xs.map V.int).length).length=xs.length:=by
 rw[CK,qja];refine(Mr _ xs.length λi j hi hj e=>?_).1;simp[hi,hj] at e;exact(List.getElem_inj h).mp e
theorem Oc{xs c:QAH}(nd:xs.Nodup)(h:c.Sublist xs):(xs.filter λy=>decide (y∈c))=c:=by
 induction h with
 |slnil=>rfl
 |cons a h ih=>
  rename_i l1 l2;have ha:a∉l1:=λz=>(qj0.mp nd).1 (h.subset z);rw[qkf (by simpa using ha)];exact ih (qj0.mp nd).2
 |cons_cons a h ih=>
  rename_i l1 l2;have ha:=(qj0.mp nd).1;rw[qke (by simp)];congr 1;have e:(l2.filter λy=>decide (y∈a::l1))=l2.filter λy=>decide (y∈l1):=qls λy hy=>by
   have:y≠a:=λz=>ha (z▸hy);simp[this]
  rw[e];exact ih (qj0.mp nd).2
theorem yF{ds:List T4}(h12:ds.length<=12):∀cs:List (QAH),(cs.flatMap λc=>dY c (jU ds)).length<=cs.length * 12
 |[]=>by simp
 |c::cs=>by
  have ih:=yF h12 cs;rw[List.flatMap_cons,qjF,qjt];have:=lX (lY c) (jU ds) 0;have e:(jU ds).length=ds.length:=by simp[jU]
  unfold dY at ih⊢;omega
def Ln:Sp:=λvs H Q _=>∃(pt l lo:Addr)(ys:QAH)(tv lv:List V)(ds:List T4)(cs:List (QAH)),vs=[.ref pt,.ref l,.ref lo]/\H pt=some (.lst (ys.map V.str))/\Ls ys/\H l=some (.lst tv)/\Ob H tv ds/\ds.length<=12/\(∀d∈ds,d.2.1<2)/\
 H lo=some (.lst lv)/\eO H lv cs/\cs.length<=12/\(∀c∈cs,c.Sublist ys/\0<c.length/\c.length<ys.length/\∀d∈ds,¬jG (λx=>x∈c) d)/\(cs.flatMap λc=>dY c (jU ds)).Nodup/\
 ∀H',Same H H'->Q (.bl true) H'
theorem Lp(T:Txt K mg a):bT P w K mg base iU 1 a.f9 a.ou ["_law_points", "_law_ties_here", "_law_lots"] Ln:=by
 exists T.vB.qg,j4
 ·obtain⟨pt,l,lo,ys,tv,lv,ds,cs,rfl,_⟩:=h;rfl
 ·obtain⟨pt,l,lo,ys,tv,lv,ds,cs,rfl,hpt,hX,hl,hT,h12,hd2,hlo,zy,hcs,hok,hnd,q⟩:=h;refine⟨_,(aA (bx (i:=3) j4.nd rfl (Or.inl rfl) (dX ao))
   (aA (h_ qjW rfl (PI.eqv (bI (K:=K) rfl (aG 2)) (bB _ _)) (aL (i:=4) j4.nd rfl (Or.inr rfl))
   (aA (cR (PW.pt (uz (eG (xT G6 G6 aF (aH (bY (K:=K) rfl) rfl T.nm.len qjo (aj (aG 4) ao)) (aH (bY (K:=K) rfl) rfl T.nm.len qjo (aj (aG 0) ao)))) (oJ (aV (qcy (K:=K) rfl hr.units) (aG 4) (cG rfl rfl (show aN (aB jB) _ ["_law_points", "_law_ties_here", "_law_lots", "_law_crossed", "_law_lot", "_law_own"] ["_law_name"] [4] ["_law_name", "_law_lot"] from by rfl') rfl (PI.eqv (bI (K:=K) rfl (aG 0)) (bB _ _)) (λC s H fp pn=>(aL (i:=0) (show(["_law_name", "_law_lot"]:QAH).Nodup by symm) rfl (Or.inl rfl))) (λC s H fp pn=>(gA (aV (xU (K:=K) rfl) (aG 0) (aG 1) rfl))) (λC s H fp pn=>(aG 0))) (bO _))))) (aC (aY pH)) bF)
   (aA (jt (i:=5) j4.nd rfl rfl rfl rfl (show aN (aB jB) _ ["_law_points", "_law_ties_here", "_law_lots", "_law_crossed", "_law_lot", "_law_own"] ["_law_k", "_law_tie"] [4] ["_law_k", "_law_tie", "_law_lot"] from by rfl') rfl (PI.eqv (tQ (K:=K) rfl rfl T.Lr.enumerate (aj (aG 1) ao)) (lH _ _)) (λC s H fp pn=>(PG.eqv (fL (K:=K) (n:=2) rfl rfl (jF.eqv (bC (aL (i:=0) (show(["_law_k", "_law_tie", "_law_lot"]:QAH).Nodup by symm) rfl (Or.inl rfl)) (jF.eqv (bC (aL (i:=1) (show(["_law_k", "_law_tie", "_law_lot"]:QAH).Nodup by symm) rfl (Or.inl rfl)) (jF.mono fK iY)) (bD _ _))) (bD _ _))) (fM _ _ _))) (λC s H fp pn=>(gA (aV rQ (gk (xU (K:=K) rfl) (bW (cg (K:=K) rfl) (bW (cg (K:=K) rfl) (aG 1) aF (λ_ _=>rfl)) aF (λ_ _=>rfl)) (aG 2) rfl) (gk (xU (K:=K) rfl) (bW (cg (K:=K) rfl) (bW (cg (K:=K) rfl) (aG 1) aF (λ_ _=>rfl)) aF (λ_ _=>rfl)) (aG 2) rfl) (bO _)))) (λC s H fp pn=>(aG 0)))
   (aA (cR (dG (aH (tW rfl) rfl T.Lr.any tM (aj (cG rfl rfl (show aN (aB jB) _ ["_law_points", "_law_ties_here", "_law_lots", "_law_crossed", "_law_lot", "_law_own"] ["_law_k"] [4,1] ["_law_k", "_law_lot", "_law_ties_here"] from by rfl') rfl (PI.eqv (bI (K:=K) rfl (aG 5)) (bB _ _)) (λC s H fp pn=>(aL (i:=0) (show(["_law_k", "_law_lot", "_law_ties_here"]:QAH).Nodup by symm) rfl (Or.inl rfl))) (λC s H fp pn=>dM) (λC s H fp pn=>(gk (xU (K:=K) rfl) (bW (cg (K:=K) rfl) (bW (cg (K:=K) rfl) (bW (cg (K:=K) rfl) (aG 2) (aG 0) (λ_ _=>rfl)) aF (λ_ _=>rfl)) (cB nu aF (bW (cg (K:=K) rfl) (bW (cg (K:=K) rfl) (aG 2) (aG 0) (λ_ _=>rfl)) aF (λ_ _=>rfl))) (λ_ _=>rfl)) (aG 1) rfl))) ao))) (aC (aY pH)) bF)
   (aC (bx (i:=3) j4.nd rfl (Or.inl rfl) (cB qe (aG 3) (aG 5))))))))
   (aC (aY (gk kE (aH Em rfl T.nm.len qjo (aj (iH (El rfl) rfl T.nm.set Ej (aj (aG 3) ao)) ao)) (aH (bY (K:=K) rfl) rfl T.nm.len qjo (aj (aG 3) ao)) (bO _)))))),?_⟩
  have qcZ:400<=sizeLine:=by decide
  have tl:=hT.1;left;refine λX hX0=>⟨⟨_,aX.of (cH hlo hX0)⟩,frL lv (λi σ H'=>∃(x:Addr),(∃o4 o5,σ=[some (.ref pt),some (.ref l),some (.ref lo),some (.ref x),o4,o5])/\H' x=some (.lst (((cs.take i).flatMap λc=>dY c (jU ds)).map λn:Nat=>V.int n))/\Same H H') ⟨X,⟨_,_,rfl⟩,ak,aq hX0⟩ (λi σ H' _ h=>by
   obtain⟨_,_,_,z⟩:=h;exact aX.of (z _ _ hlo)) ?_ ?_⟩
  ·rintro i v σ H1 hi ⟨x,⟨o4,o5,rfl⟩,hx,s1⟩;obtain⟨c,hc,t,rfl,ht⟩:=aR.at zy hi;obtain⟨k1,k2,k3,k4⟩:=hok c (qi9 hc);have cl:c.length<=9:=by have:=hX.len;omega
   left;refine⟨_,.inl (aX.of (s1 _ _ ht)),eE.pos (qj2 (by rw[qja];omega)) ?_⟩;left;refine⟨_,.inl (aX.of (s1 _ _ hpt)),?_⟩;rw[show decide (c.length<(ys.map V.str).length)=true from qj2 (by rw[qja];exact k3)];refine eE.neg rfl ?_;left;have ht1:=s1 _ _ ht;have qeT:=s1 _ _ hpt;have hl1:=s1 _ _ hl;refine⟨⟨_,aX.of qeT⟩,λD hD=>Iv (ys.map V.str) (λj σ H'=>(∃o,σ=[o,some (.ref t)])/\H' D=some (.lst (((ys.take j).filter λy=>decide (y∈c)).map V.str))/\Same H1 H') ⟨⟨_,rfl⟩,ak,aq hD⟩ (λj σ H' _ h=>aX.of (h.2.2 _ _ qeT)) ?_ ?_⟩
   ·rintro j y σ H2 hj ⟨⟨o,rfl⟩,hD2,s2⟩;rw[qje,qju] at hj;obtain⟨y,hy,rfl⟩:=hj;have fl:=qjJ (λy=>decide (y∈c)) (ys.take j);rw[qji] at fl;have yl:=hX.len.2;rw[take_one hy,qjV];left;refine⟨_,.inl (aX.of (s2 _ _ ht1)),rfl,λz hz=>qjC.mp (dI _) z hz,?_⟩;rw[cD];refine eE.of (λh=>?_) (λh=>?_)
    ·left;refine⟨_,hD2,by rw[qja];omega,?_,aU s2 hD⟩;rw[ak,qke (by exact h),qj6];rfl
    ·left;refine⟨?_,s2⟩;rw[qkf (by rw[h];simp),qj6,qk_,qjD];exact hD2
   ·rintro σ H2 ⟨⟨o,rfl⟩,hD2,s2⟩;rw[qja,qjk,Oc hX.nd k1] at hD2;have S2:=s1.trans s2;have R5:=S2 _ _ ht;have hl2:=S2 _ _ hl;have hcc:PyData.canLay0 (.list (jm c))=true:=by
     have:=Jx c λx hx=>Zh (hX.nm x (k1.mem hx));simp[PyData.canLay0,this]
    left;refine⟨.list (jm c),⟨t,_,rfl,aX.of R5,GR _⟩,.list (jm c),⟨D,_,rfl,aX.of hD2,GR _⟩,hcc,hcc,by have:=Jy c;simp[PyData.depth];omega,false,by simp[PyData.eqv,JF],eE.neg rfl ?_⟩;left;refine⟨⟨_,aX.of hl2⟩,λD3 rB=>cmE tv (λq σ H'=>(∃o1 o2,σ=[o1,o2,some (.ref t)])/\H' D3=some (.lst ((jl (iV c) ((jU ds).take q) 0).map λn:Nat=>V.int n))/\Same H2 H') ⟨⟨_,_,rfl⟩,ak,aq rB⟩ (λq σ H' _ h=>aX.of (h.2.2 _ _ hl2)) ?_ ?_⟩
    ·rintro q v tt σ H4 hq htt ⟨⟨o1,o2,rfl⟩,iQ,s4⟩;obtain⟨d,hd,t4,e4,rfl,h4,h4'⟩:=aR.at hT hq;have ql:q<tv.length:=(qi5.mp hq).1;have S4:=S2.trans s4;have h5:=cH (u:=HO.tup [.int q,.ref t4]) (S4 _ _ h4) htt;have h6:=cH (u:=HO.tup [.int q,.ref t4]) (S4 _ _ h4') htt;have ht5:=cH (u:=HO.tup [.int q,.ref t4]) (S4 _ _ ht) htt;have hp:(jU ds)[q]? = some d.1:=by unfold jU;rw[qje,hd];rfl
     have fl:=lX (lY c) ((jU ds).take q) 0;rw[qji] at fl;rw[xO _ hp];left;have Dd:Same H4 (upd H4 tt (.tup [.int q,.ref t4])):=aq htt;have e5:upd H4 tt (.tup [.int q,.ref t4]) tt=some (.tup [.int q,.ref t4]):=ak;generalize upd H4 tt (.tup [.int q,.ref t4])=H5 at h5 h6 ht5 Dd e5⊢;refine⟨_,dg.of e5,rfl,?_⟩;left;refine⟨_,.inr (dg.of h5),_,bA (j:=0) rfl,_,.inr (dg.of h6),_,bA (j:=0) rfl,_,.inl (aX.of ht5),rfl,λz hz=>qjC.mp (dI _) z hz,?_⟩;refine⟨_,.inr (dg.of h5),_,bA (j:=0) rfl,?_⟩;left;refine⟨_,.inr (dg.of h6),_,bA (j:=1) rfl,_,.inl (aX.of ht5),rfl,λz hz=>qjC.mp (dI _) z hz,!decide (d.1.1∈c↔d.1.2∈c),?_,?_⟩
     ·rw[cD,cD,Bool.not_not,qk1,qk1]
     have vH:=Dd _ _ iQ;have hq2:(jU ds).length=ds.length:=by simp[jU]
     have crf:iV c d.1 q=if (d.1.1∈c↔d.1.2∈c) then [] else [q]:=rfl
     rw[crf];refine eE.of (λh=>?_) (λh=>?_)
     ·have hn:¬(d.1.1∈c↔d.1.2∈c):=by simpa using h
      rw[if_neg hn];left;refine⟨_,vH,by rw[qja];omega,?_,aU (s4.trans Dd) rB⟩;rw[ak]
     ·have hn:(d.1.1∈c↔d.1.2∈c):=by simpa using h
      rw[if_pos hn];left;exact⟨by simpa using vH,s4.trans Dd⟩
    ·rintro σ H4 ⟨⟨o1,o2,rfl⟩,iQ,s4⟩;rw[tl,show ds.length=(jU ds).length by simp[jU],qjk] at iQ;obtain⟨O,hO⟩:∃O,O=dY c (jU ds):=⟨_,rfl⟩;have iQ:H4 D3=some (.lst (O.map λn:Nat=>V.int n)):=by rw[hO];exact iQ
     have S4:=S2.trans s4;have ol:O.length<=12:=by
      rw[hO];have:=lX (lY c) (jU ds) 0;have e:(jU ds).length=ds.length:=by simp[jU]
      unfold dY;omega
     left;refine⟨⟨_,aX.of iQ⟩,λD5 vH=>Iv (O.map λn:Nat=>V.int n) (λq σ H'=>(∃o1,σ=[o1,some (.ref t),some (.ref l)])/\H' D5=some (.lst (((O.take q).map λ_=>false).map V.bl))/\Same H4 H') ⟨⟨_,rfl⟩,ak,aq vH⟩ (λq σ H' _ h=>aX.of (h.2.2 _ _ iQ)) ?_ ?_⟩
     ·rintro q v σ H5 hq ⟨⟨o1,rfl⟩,Qx,s5⟩;rw[qje,qju] at hq;obtain⟨k,hk,rfl⟩:=hq;have hkO:=qi9 hk;rw[hO] at hkO;obtain⟨d,hd,hx2⟩:=vJ.mp hkO;have hkl:=(qi5.mp hd).1;obtain⟨v,hv,t4,e4,rfl,h4,h4'⟩:∃v,tv[k]? = some v/\T4S H v d:=⟨_,qjh (by omega),hT.2 k _ d (qjh (by omega)) hd⟩;have S5:=S4.trans s5;have ql:q<O.length:=(qi5.mp hk).1;have hno:=k4 d (qi9 hd);have d2:=hd2 d (qi9 hd);obtain⟨g,hg1,hg2⟩:∃g:Str,Ef [V.str d.1.1,.str d.1.2] (1 - (d.2.1:Int))=some (.str g)/\¬g∈c:=by
       have d01:d.2.1=0\/d.2.1=1:=by omega
       unfold jG zq Dn at hno
       rcases d01 with e|e <;> rw[e] at hno⊢ <;> simp at hno
       ·exact⟨d.1.2,rfl,λz=>hx2 ⟨λ_=>z,λ_=>qjA λy=>hno y z⟩⟩
       ·exact⟨d.1.1,rfl,λz=>hx2 ⟨λ_=>qjA λy=>hno y z,λ_=>z⟩⟩
      left;refine⟨_,.inl (aX.of (S5 _ _ hl)),_,bA hv,?_⟩;left;refine⟨_,.inr (dg.of (S5 _ _ h4)),_,bA (j:=0) rfl,?_⟩;left;refine⟨_,.inl (aX.of (S5 _ _ hl)),_,bA hv,?_⟩;left;refine⟨_,.inr (dg.of (S5 _ _ h4)),_,bA (j:=1) rfl,?_⟩;left;refine⟨_,.inr (dg.of (S5 _ _ h4')),_,hg1,_,.inl (aX.of (S5 _ _ ht)),rfl,λz hz=>qjC.mp (dI _) z hz,?_⟩;rw[cD,qjM hg2];refine⟨_,Qx,by simp;omega,?_,aU s5 vH⟩;rw[ak,take_one hk];simp
     ·rintro σ H5 ⟨⟨o1,rfl⟩,Qx,s5⟩;rw[qja,qjk] at Qx;left;refine⟨_,Qx,_,gB _,?_⟩;rw[show(O.map λ_=>false).any id=false by rw[List.any_map];simp];refine eE.neg rfl ?_;left;have S5:=s2.trans (s4.trans s5);have il:i<=12:=by have:=(qi5.mp hc).1;omega
      have fl:=yF h12 (cs.take i);rw[qji] at fl;refine⟨_,S5 _ _ hx,_,s5 _ _ iQ,by simp only[qja];omega,λp6 Qw=>⟨?_,(s1.trans S5).trans (aq Qw)⟩⟩;rw[ak,take_one hc,List.flatMap_append,qjU,hO];simp
  ·rintro σ H1 ⟨x,⟨o4,o5,rfl⟩,hx,s1⟩;rw[zy.1,qjk] at hx;obtain⟨Z,hZ⟩:∃Z:List Int,Z=(cs.flatMap λc=>dY c (jU ds)).map λn:Nat=>(n:Int):=⟨_,rfl⟩;have hx':H1 x=some (.lst (Z.map V.int)):=by rw[hx,hZ,qkO];rfl
   have hZn:Z.Nodup:=by
    rw[hZ];exact List.pairwise_map.mpr (hnd.imp λh z=>h (by omega))
   have hZl:Z.length<=12 * 12:=by
    rw[hZ,qja];have:=yF h12 cs;omega
   left;have hb:(1000:Nat)<scanBound:=by decide
   refine⟨_,.inl (aX.of hx'),λz hz=>?_,by rw[qja];omega,λp hp=>⟨_,ak,_,.inl (aX.of (cH hx' hp)),?_⟩⟩
   ·obtain⟨n,_,rfl⟩:=qjv.mp hz;rfl
   ·rw[qc5 hZn];simp only[qja,decide_true];exact q _ (s1.trans (aq hp))
theorem pW.lst{H:Hp}{p:Addr}(h:pW H p):∃xs,H p=some (.lst xs):=by
 obtain⟨x,y,u,_⟩:=h;exact⟨_,u⟩
def w5(H H':Hp):Prop:=∀b o,(∀ps,o≠.xg ps)->H b=some o->H' b=some o
theorem w5.of{H H':Hp}(s:Same H H'):w5 H H':=λb o _ e=>s b o e
theorem qay{pos:Pos}{qual:Str}{Pt:Addr}{H H':Hp}(t:TabOk pos qual Pt H)(b:But Pt H H'):w5 H H':=λc o n e=>b c o (λz=>by
 obtain⟨ps,h⟩:=t.tb;rw[z,h] at e;cases e;exact n _ rfl) e
theorem w5.seq{K:W.Frag}{H H':Hp}{a:Addr}{xs:List V}(k:w5 H H')(h:aX K H a xs):aX K H' a xs:=by
 rcases h with(h|⟨o,h⟩)|h
 ·exact .inl (.inl (k _ _ (by simp) h))
 ·exact .inl (.inr ⟨o,k _ _ (by simp) h⟩)
 ·exact .inr h
theorem Im{pos:Pos}{qual:Str}{Pt p:Addr}{H H':Hp}(t:TabOk pos qual Pt H)(x:pW H p)(b:But p H H'):TabOk pos qual Pt H':=by
 obtain⟨xs,e⟩:=x.lst;exact t.but e b
theorem Tj{H:Hp}{r:Addr}{ns:List Int}(h:H r=some (.lst (ns.map V.int))):pF H (.list (ns.map PyData.int)) (.ref r):=by
 simp only[pF];exact⟨r,_,rfl,h,bQ.ints H ns⟩
theorem w5.of2{H H':Hp}(k:w5 H H'):bV H H':=λc xs e=>k _ _ (by simp) e
def Io(K:W.Frag)(Pt:Addr):Sp:=λvs H Q _=>∃(l:Addr)(ns:List Int),vs=[.ref l]/\aX K H l (ns.map V.int)/\ns.length<=63/\TabOk N5 N6 Pt H/\∀H',Q (.bl true) H'
theorem qc6(T:Txt K mg a){c Pt:Addr}(L:WR a.eY base mg c Pt):bT P w K mg base iU 17 a.yU a.Hz ["_law_script"] (Io K Pt):=by
 exists T.qa7.qg,qH
 ·obtain⟨l,ns,rfl,_⟩:=h;rfl
 ·obtain⟨sl,zs,rfl,hS,hlen,hT,q⟩:=h;refine⟨_,(aA (h_ qjW rfl (PI.eqv (lE rfl T.nm.range (aj (aH (Ak rfl) rfl T.nm.max boot_max (aj aF (aj (aH (Al rfl) rfl T.nm.min boot_min (aj aF (aj (aH (bY (K:=K) rfl) rfl T.nm.len qjo (aj (aG 0) ao)) ao))) ao))) ao)) (lG _)) (aL (i:=1) qH.nd rfl (Or.inl rfl))
   (aA (bx (i:=2) qH.nd rfl (Or.inl rfl) (PE.eqv (aM (qcK T) hr.d rfl T.qa6 T.Xh.kp T.qa5 .nil bh (aj (aG 0) (aj (aG 1) ao))) (aJ _ _ _)))
   (aA (bx (i:=3) qH.nd rfl (Or.inl rfl) (PE.eqv (aM (Xo T) hr.d rfl T.Qn T.HB.kp T.Qm .nil bh (aj (aG 2) (aj aF ao))) (aJ _ _ _)))
   (aA (bx (i:=4) qH.nd rfl (Or.inr rfl) (PE.eqv (aM (X8 T) hr.d rfl T.Qp T.HJ.kp T.Qo .nil bh (aj (aG 2) (aj (aG 3) ao))) (aJ _ _ _)))
   (aA (bx (i:=5) qH.nd rfl (Or.inl rfl) (PE.eqv (aM (Tg T) hr.d rfl T.Xj T.Nv.kp T.Xi .nil bh (aj (aG 2) (aj (aG 4) ao))) (aJ _ _ _)))
   (aA (bx (i:=6) qH.nd rfl (Or.inl rfl) (PE.eqv (aM (KH T) hr.d rfl T.HF T.zN.kp T.HD .nil bh (aj (aG 2) (aj (cG rfl rfl (show aN (aB q_) _ ["_law_script", "_law_k", "_law_pot_here", "_law_names_here", "_law_rings_here", "_law_ties_here", "_law_points", "_law_numbers", "_law_lots"] ["_law_name"] [4] ["_law_name", "_law_rings_here"] from by rfl') rfl (PI.eqv (bI (K:=K) rfl (aG 3)) (bB _ _)) (λC s H fp pn=>(aL (i:=0) (show(["_law_name", "_law_rings_here"]:QAH).Nodup by symm) rfl (Or.inr rfl))) (λC s H fp pn=>(gA (dG (aH (tW rfl) rfl T.Lr.any tM (aj (Ai (show aN (_) _ ["_law_name", "_law_rings_here"] ["_law_ring"] [0] ["_law_ring", "_law_name"] from by rfl') rfl (PI.eqv (bI (K:=K) rfl (aG 1)) (bB _ _)) (λC s H fp pn=>(aL (i:=0) (show(["_law_ring", "_law_name"]:QAH).Nodup by symm) rfl (Or.inl rfl))) (λC s H fp pn=>dM) (λC s H fp pn=>(gk (xU (K:=K) rfl) (aG 1) (aG 0) rfl))) ao))))) (λC s H fp pn=>(aG 0))) ao))) (aJ _ _ _)))
   (aA (Gb (PE.eqv (aM (S8 (L:=L) (K:=K) T) hr.d rfl T.Ks T.BK.kp T.Kr .nil qep (aj (PE.eqv (YQ T.qa9 (KD T) hr.d rfl T.qa8 T.Bq .nil bh (aj (aG 6) (aj (cG rfl rfl (show aN (aB q_) _ ["_law_script", "_law_k", "_law_pot_here", "_law_names_here", "_law_rings_here", "_law_ties_here", "_law_points", "_law_numbers", "_law_lots"] ["_law_tie"] [] ["_law_tie"] from by rfl') rfl (PI.eqv (bI (K:=K) rfl (aG 5)) (bB _ _)) (λC s H fp pn=>(aL (i:=0) (show(["_law_tie"]:QAH).Nodup by symm) rfl (Or.inl rfl))) (λC s H fp pn=>dM) (λC s H fp pn=>(bW (cg (K:=K) rfl) (aG 0) aF (λ_ _=>rfl)))) ao))) (Wq _ _ _ _)) (aj (cG rfl rfl (show aN (aB q_) _ ["_law_script", "_law_k", "_law_pot_here", "_law_names_here", "_law_rings_here", "_law_ties_here", "_law_points", "_law_numbers", "_law_lots"] ["_law_tie"] [] ["_law_tie"] from by rfl') rfl (PI.eqv (bI (K:=K) rfl (aG 5)) (bB _ _)) (λC s H fp pn=>(aL (i:=0) (show(["_law_tie"]:QAH).Nodup by symm) rfl (Or.inl rfl))) (λC s H fp pn=>dM) (λC s H fp pn=>(bW (cg (K:=K) rfl) (aG 0) aF (λ_ _=>rfl)))) ao))) (aJ _ _ _)) (PG.eqv (fL (K:=K) (n:=2) rfl rfl (jF.eqv (bC (aL (i:=7) qH.nd rfl (Or.inl rfl)) (jF.eqv (bC (aL (i:=8) qH.nd rfl (Or.inl rfl)) (jF.mono fK iY)) (bD _ _))) (bD _ _))) (fM _ _ _)))
   (aA (cR (PW.pt (uz (eG (dG (PE.eqv (aM (Lk T) hr.d rfl T.BP T.vA.kp T.BL .nil bh (aj (aG 5) (aj (aH (bY (K:=K) rfl) rfl T.nm.len qjo (aj (aG 4) ao)) (aj (aG 7) ao)))) (aJ _ _ _)))) (oJ (aV rQ (aH (bY (K:=K) rfl) rfl T.nm.len qjo (aj (aG 8) ao)) (aH (bY (K:=K) rfl) rfl T.nm.len qjo (aj (aG 7) ao)) (bO _))))) (aC (aY pH)) bF)
   (aC (cR (eG (dG (PE.eqv (aM (Lp T) hr.d rfl T.BX T.vB.kp T.BW .nil bh (aj (aG 6) (aj (aG 5) (aj (aG 8) ao)))) (aJ _ _ _)))) (aC (aY pH)) bF))))))))))
   (aC (aY pH))),?_⟩
  have s20:=qll Di;left;refine⟨_,.inl hS,?_⟩;simp only[qja];obtain⟨m,hm,hm6⟩:∃m:Nat,(if 1<if (zs.length:Int)<5 then (zs.length:Int) else 5 then if (zs.length:Int)<5 then (zs.length:Int) else 5 else 1)=m/\m<=5:=by
   by_cases h1:(zs.length:Int)<5
   ·rw[if_pos h1]
    by_cases h2:1<(zs.length:Int)
    ·exact⟨zs.length,by rw[if_pos h2],by omega⟩
    ·exact⟨1,by rw[if_neg h2];rfl,by decide⟩
   ·rw[if_neg h1];exact⟨5,rfl,by decide⟩
  simp only[hm];refine⟨by omega,by omega,frR (λi σ H'=>(∃o1 o2 o3 o4 o5 o6 o7 o8,σ=[some (.ref sl),o1,o2,o3,o4,o5,o6,o7,o8])/\w5 H H'/\TabOk N5 N6 Pt H') ⟨⟨_,_,_,_,_,_,_,_,rfl⟩,w5.of (Same.refl _),hT⟩ ?_ ?_⟩
  ·rintro i σ H1 hi ⟨⟨o1,o2,o3,o4,o5,o6,o7,o8,rfl⟩,k1,hT1⟩;left;refine⟨sl,zs,i,rfl,k1.seq hS,by simp at hi;omega,λp H2 hp0 hP2 hB2=>?_⟩;have s2:Same H1 H2:=λb o e=>hB2 b o (aW e hp0) e;have hT2:=hT1.same s2;left;refine⟨p,9,rfl,hP2,by decide,by decide,λnm xs H3 hn0 xY hX hxl pG hB3=>?_⟩;have np:nm≠p:=hP2.nl hn0;left;refine⟨p,nm,xs,rfl,pG,np,xY,hxl,hX,λrl lv rs m H4 hr0 KJ zy hung hm9 hrs qeU hsum Dr KN=>?_⟩;have rp:rl≠p:=pG.nl hr0;have hr2:∀R∈rs,2<=R.length:=λR hR=>(hung.ring hX.nd R hR).2;have hn4:=KN _ _ np xY;left;refine⟨p,rl,lv,rs,rfl,Dr,rp,KJ,zy,hr2,qeU,hsum,λtl tv ds L H5 ht0 ht5 hA5 hC qc7 hP5 Xp=>?_⟩;have tp:tl≠p:=Dr.nl ht0;have Z6:=Xp _ _ np hn4;have Qq:=Xp _ _ rp KJ;have qhZ:=CJ zy Dr Xp hr2;have rsl:=zy.1;have B5:But p H1 H5:=hB2.trans (hB3.trans (KN.trans Xp));have hT5:=Im (Im (Im hT2 hP2 hB3) pG KN) Dr Xp;left;refine⟨⟨_,aX.of Z6⟩,λD hD=>Iv (xs.map V.str) (λj σ H'=>(∃o,σ=[o,some (.ref rl)])/\H' D=some (.lst (((xs.take j).filter λx=>rs.any λR=>decide (x∈R)).map V.str))/\Same H5 H') ⟨⟨_,rfl⟩,ak,aq hD⟩ (λj σ H' _ h=>aX.of (h.2.2 _ _ Z6)) ?_ ?_⟩
   ·rintro j y σ H6 hj ⟨⟨o,rfl⟩,Qx,s6⟩;rw[qje,qju] at hj;obtain⟨y,hy,rfl⟩:=hj;have fl:=qjJ (λx=>rs.any λR=>decide (x∈R)) (xs.take j);rw[qji] at fl;rw[take_one hy,qjV];have hr6:=s6 _ _ Qq;have qh0:=qhZ.same s6;left;refine⟨⟨_,aX.of hr6⟩,λD7 X_=>Iv lv (λj σ H'=>(∃o,σ=[o,some (.str y)])/\H' D7=some (.lst (((rs.take j).map λR=>decide (y∈R)).map V.bl))/\Same H6 H') ⟨⟨_,rfl⟩,ak,aq X_⟩ (λj σ H' _ h=>aX.of (h.2.2 _ _ hr6)) ?_ ?_⟩
    ·rintro i2 v σ H7 hi2 ⟨⟨o,rfl⟩,hD8,s7⟩;obtain⟨R,hR,t,rfl,ht⟩:=aR.at qh0 hi2;have il:i2<rs.length:=(qi5.mp hR).1;left;refine⟨_,.inl (aX.of (s7 _ _ ht)),rfl,λz hz=>qjC.mp (dI _) z hz,?_⟩;rw[cD];refine⟨_,hD8,by simp;omega,?_,aU s7 X_⟩;rw[ak,take_one hR];simp
    ·rintro σ H7 ⟨⟨o,rfl⟩,hD8,s7⟩;rw[rsl,qjk] at hD8;have Yu:=s7 _ _ Qx;left;refine⟨_,hD8,_,gB _,?_⟩;rw[show(rs.map λR=>decide (y∈R)).any id=rs.any λR=>decide (y∈R) by rw[List.any_map];rfl];refine eE.of (λh=>?_) (λh=>?_)
     ·left;refine⟨_,Yu,by rw[qja];omega,?_,aU (s6.trans s7) hD⟩;rw[ak,qke (by exact h),qj6];rfl
     ·left;refine⟨?_,s6.trans s7⟩;rw[qkf (by rw[h];simp),qj6,qk_,qjD];exact Yu
   ·rintro σ H6 ⟨⟨o,rfl⟩,Qx,s6⟩;rw[qja,qjk] at Qx;obtain⟨Y,hY⟩:∃Y,Y=xs.filter λx=>rs.any λR=>decide (x∈R):=⟨_,rfl⟩;rw[<- hY] at Qx;have hYm:∀x,x∈Y↔x∈xs.take m:=λx=>by
     rw[hY,qjy,qkz];constructor
     ·rintro⟨_,R,h1,h2⟩;exact hung.mem R h1 x (qjG h2)
     ·intro h;obtain⟨R,h1,h2⟩:=hung.all hrs x h;exact⟨qlc h,R,h1,qj2 h2⟩
    have hYn:Y.Nodup:=by rw[hY];exact hX.nd.sublist qlh
    have hY9:Y.length<=9:=by
     rw[hY];have:=qjJ (λx=>rs.any λR=>decide (x∈R)) xs;omega
    have hP6:=hP5.keep s6;have Dp:D≠p:=hP5.nl hD;have tl6:=s6 _ _ ht5;have hA6:=hA5.keep (oH s6);have hr6:=s6 _ _ Qq;have hT6:=hT5.same s6;have B6:=B5.same s6;refine⟨p,D,_,rfl,hP6,Dp,Qx,by rw[qja];omega,λpt vs7 H7 qh1 qh2 hperm hP7 Yt=>?_⟩;obtain⟨ys,hyp,rfl⟩:=GD hperm Y rfl;have ptp:pt≠p:=hP6.nl qh1;have hT7:=Im hT6 hP6 Yt;have B7:=B6.trans Yt;have ht7:=Yt _ _ tp tl6;have hr7:=Yt _ _ rp hr6;have hA7:=hA6.keep (Il hP6 Yt);have hm1:=hung.pos;have hX2:Ls ys:=by
     have x0:xs[0]'(by omega)∈Y:=(hYm _).mpr (qi9 (show(xs.take m)[0]? = some _ by rw[qkN (by omega)];exact qjh (by omega)));exact⟨⟨by rw[hyp.length_eq];exact List.length_pos_of_mem x0,by rw[hyp.length_eq];exact hY9⟩,λx hx=>hX.nm x (qlc ((hYm x).mp (hyp.mem_iff.mp hx))),hyp.nodup_iff.mpr hYn⟩
    have jq:mY xs rs m ds L ys:=⟨hX.nd,hung,hC,hrs,qc7,hX2,λx=>hyp.mem_iff.trans (hYm x)⟩;have tvl:=hA7.1;have pl:(jU ds).length=ds.length:=by simp[jU]
    left;refine⟨⟨_,aX.of ht7⟩,λD8 hD8=>Iv tv (λj σ H'=>(∃o,σ=[o])/\(∃ev,H' D8=some (.lst ev)/\cu H' ev ((jU ds).take j))/\Same H7 H') ⟨⟨_,rfl⟩,⟨[],ak,⟨rfl,by simp⟩⟩,aq hD8⟩ (λj σ H' _ h=>aX.of (h.2.2 _ _ ht7)) ?_ ?_⟩
    ·rintro j v σ H8 hj ⟨⟨o,rfl⟩,⟨ev,Yu,hev⟩,s8⟩;obtain⟨d,hd,t4,e4,rfl,h4,h4'⟩:=aR.at hA7 hj;have hjl:j<tv.length:=(qi5.mp hj).1;have hp:(jU ds)[j]? = some d.1:=by unfold jU;rw[qje,hd];rfl
     have evl:=hev.1;rw[qji] at evl;left;refine⟨_,.inr (dg.of (s8 _ _ h4)),_,bA (j:=0) rfl,_,Yu,by omega,⟨_,ak,?_⟩,aU s8 hD8⟩;have kp:bV H8 (upd H8 D8 (.lst (ev++[.ref e4]))):=λc zs e=>Py e Yu (by intro z;cases z);rw[take_one hp];exact(hev.keep kp).snoc (kp _ _ (s8 _ _ h4'))
    ·rintro σ H8 ⟨⟨o,rfl⟩,⟨ev,Yu,hev⟩,s8⟩;rw[tvl,<- pl,qjk] at hev;have hT8:=hT7.same s8;have ht8:=s8 _ _ ht7;have hA8:=hA7.keep (oH s8);have qeV:=s8 _ _ qh2;left;intro o dx ho hdx hne;have so:Same H8 (upd (upd H8 dx (.own o)) o (.ins a.bN dx [])):=λb u e=>by
      rw[aD (aW e ho),aD (aW e hdx)];exact e
     have hpr:oF H8 ev (jU ds):=⟨hev.1,λi v e h1 h2=>by
      obtain⟨t,rfl,z⟩:=hev.2 i v e h1 h2;exact⟨t,rfl,.inr z⟩⟩
     refine⟨o,dx,pt,D8,ev,ys,jU ds,rfl,ak,.inl (so _ _ Yu),hpr.same so,.inl (so _ _ qeV),hX2,jq.ties,λH9 hW9 hB9=>⟨rfl,?_⟩⟩;have s9:Same H8 H9:=λb u e=>hB9 b u (aW e ho) (so b u e);have ht9:=s9 _ _ ht8;have hA9:=hA8.keep (oH s9);left;refine⟨⟨_,aX.of ht9⟩,λD10 qeW=>Iv tv (λj σ H'=>(∃o,σ=[o])/\H' D10=some (.lst (((FQ ds).take j).map V.int))/\Same H9 H') ⟨⟨_,rfl⟩,ak,aq qeW⟩ (λj σ H' _ h=>aX.of (h.2.2 _ _ ht9)) ?_ ?_⟩
     ·rintro j v σ H10 hj ⟨⟨o',rfl⟩,Tn,Yv⟩;obtain⟨d,hd,t4,e4,rfl,h4,h4'⟩:=aR.at hA9 hj;have hjl:j<tv.length:=(qi5.mp hj).1;have hp:(FQ ds)[j]? = some (d.2.1:Int):=by unfold FQ;rw[qje,hd];rfl
      left;refine⟨_,.inr (dg.of (Yv _ _ h4)),_,bA (j:=1) rfl,_,Tn,by simp;omega,?_,aU Yv qeW⟩;rw[ak,take_one hp];simp
     ·rintro σ H10 ⟨⟨o',rfl⟩,Tn,Yv⟩;have nl:(FQ ds).length=tv.length:=by rw[tvl];simp[FQ]
      rw[<- nl,qjk] at Tn;have qh3:=hW9.same Yv;have qeX:=(hT8.same s9).same Yv;have h01:∀n∈FQ ds,0<=n/\n<=1:=λn hn=>by
       obtain⟨d,hd,rfl⟩:=qjv.mp hn;have:=(jq.two d hd).1;omega
      have hpt:Fw (jU ds).length (.list ((FQ ds).map PyData.int))=true:=by
       rw[show(jU ds).length=(FQ ds).length by simp[jU,FQ]];exact K8 rfl rfl h01
      have hdl:pF H10 (.list ((FQ ds).map PyData.int)) (.ref D10):=Tj Tn;left;refine⟨o,.ref D10,_,ys,jU ds,rfl,qh3,hX2,jq.ties,hdl,by omega,qeX,λh=>?_,λ_ h=>?_,λ_ _ c r hc hr=>?_,λ_ _ _ k lot rest h=>?_,λ_ _ _ _ t ns e hin=>?_⟩
      ·rw[hpt] at h;cases h
      ·omega
      ·have:=jq.one;rw[hc] at this;cases r with
       |nil=>exact absurd rfl hr
       |cons a b=>simp at this
      ·rw[jq.bars] at h;cases h
      ·cases e;have ens:ns=FQ ds:=by
        have inj:∀{a b:List Int},a.map V.int=b.map V.int->a=b:=λ{a b} h=>List.map_inj_right (f:=V.int) (λx y z=>by cases z;rfl) |>.mp h
        rcases hin.2.1 with h|h
        ·rw[Tn] at h;have h:=qjI h;injection h with h;exact(inj h).symm
        ·rw[Tn] at h;cases h
       subst ens;refine⟨jq.hits,λzs mm ks ks' r q1 lw H12 hz h1 h2 hp hs hr qi2 hk1 hap qh4 qh5=>?_⟩;obtain⟨sd,sd2,hrow,qh6,cs,hcs,csl,cok,cnd⟩:=jq.told hz h1 h2 hp hs;rw[hcs] at hap;obtain⟨l2,ws,rfl,qi3,hl2,hN⟩:=hap;have k12:=qay qeX qh4;have Td:=k12 _ _ (by simp) (Yv _ _ ht9);have qeY:=(hA9.keep (oH Yv)).keep k12.of2;have qh7:=k12 _ _ (by simp) (Yv _ _ (s9 _ _ (s8 _ _ hr7)));have qeZ:=k12 _ _ (by simp) (Yv _ _ (s9 _ _ qeV));have kl:ks'.length<=12:=by
        rw[hrow];unfold rW;have:=qjJ (λi=>decide (FT ds i=sd (Cy ds i))) (List.range ds.length);rw[qkT] at this;omega
       have wl:=hN.1;have kpl:=hp.length_eq;rw[hrow] at hk1;left;refine⟨_,dg.of hr,rfl,?_⟩;left;refine⟨_,.inl (aX.of qh7),tl,q1,rs.length,tv,ds,sd,by rw[rsl],Td,qeY,qc7,qeU,hk1,sd2,qh6,λH13 s13=>?_⟩;refine eE.neg (d:=⟨0⟩) rfl ?_;left;refine⟨_,.inl (aX.of (s13 _ _ hl2)),_,.inl (aX.of (s13 _ _ hk1)),false,?_,eE.neg (d:=⟨0⟩) rfl ?_⟩
       ·rw[hrow] at kpl;rw[Bool.not_false,qkD,qja,wl,csl,kpl]
       left;refine⟨pt,tl,l2,ys,tv,ws,ds,cs,rfl,s13 _ _ qeZ,hX2,s13 _ _ Td,qeY.keep (oH s13),qc7,λd hd=>(jq.two d hd).1,s13 _ _ hl2,(⟨wl,λi v c h1 h2=>by
        obtain⟨t,e,_,h⟩:=hN.2 i v c h1 h2;exact⟨t,e,s13 _ _ h⟩⟩:eO H13 ws cs),by omega,cok,cnd,λH14 s14=>?_⟩
       refine eE.neg (d:=⟨0⟩) rfl ?_;left;refine⟨λb o n e=>?_,(qh5.same s13).same s14⟩;have e1:=k1 _ _ n e;exact s14 _ _ (s13 _ _ (k12 _ _ n (Yv _ _ (s9 _ _ (s8 _ _ (B7 b o (aW e1 hp0) e1))))))
  ·rintro σ H1 ⟨⟨o1,o2,o3,o4,o5,o6,o7,o8,rfl⟩,k1,hT1⟩;left;exact q _
end Xc
namespace L2
open PySem PySem.Spec PyProof.Rows
def pq(K:W.Frag)(x:Str)(f:Addr):Prop:=W.nsIn K mainGlobals x=some (some (.ref f))
theorem qe0{K:W.Frag}{C B:Addr}{cd:ClassData}(c:W.clsIn K C=some cd)(m:cd.mro = .ref C::.ref B::jY)(h:cd.hasDict=true) (t:W.typeIn K (.ref C)=some (.type "type")) (a:W.findIn K (.ref C) "__getattribute__" = some (some (.builtin "BaseException.__getattribute__")))
  (n:W.findIn K (.ref C) "__getattr__" = some none) (g:W.findIn K (.ref C) "__class__" = some (some (.builtin "object.__class__"))) (k:W.keepIn K (.ref C)=true):XC K C B:=⟨⟨_,c,m,h⟩,t,a,n,g,k⟩
end L2
namespace Xc
open PySem L2
theorem unc{α:Type}{n:Nat}(l:List α)(h:l.length=n+1):∃a r,l=a::r:=by
 cases l with
 |nil=>cases h
 |cons a r=>exact⟨a,r,rfl⟩
theorem jk{fd:FuncData}{ps:QAH}(h:∀v0,bindArgs fd {pos:=[v0]}=pure (ps.zip [v0])):∀us:QAE,us.length=1->bindArgs fd {pos:=us}=pure (ps.zip us):=by
 intro us hl;obtain⟨v0,us,rfl⟩:=unc us hl;replace hl:=Nat.succ.inj hl;obtain rfl:=qkR hl;exact h v0
theorem dF{fd:FuncData}{ps:QAH}(h:∀v0 v1,bindArgs fd {pos:=[v0,v1]}=pure (ps.zip [v0,v1])):∀us:QAE,us.length=2->bindArgs fd {pos:=us}=pure (ps.zip us):=by
 intro us hl;obtain⟨v0,us,rfl⟩:=unc us hl;replace hl:=Nat.succ.inj hl;obtain⟨v1,us,rfl⟩:=unc us hl;replace hl:=Nat.succ.inj hl;obtain rfl:=qkR hl;exact h v0 v1
theorem CN{fd:FuncData}{ps:QAH}(h:∀v0 v1 v2,bindArgs fd {pos:=[v0,v1,v2]}=pure (ps.zip [v0,v1,v2])):∀us:QAE,us.length=3->bindArgs fd {pos:=us}=pure (ps.zip us):=by
 intro us hl;obtain⟨v0,us,rfl⟩:=unc us hl;replace hl:=Nat.succ.inj hl;obtain⟨v1,us,rfl⟩:=unc us hl;replace hl:=Nat.succ.inj hl;obtain⟨v2,us,rfl⟩:=unc us hl;replace hl:=Nat.succ.inj hl;obtain rfl:=qkR hl;exact h v0 v1 v2
theorem all_mk{l:W.OpenLaw}{w:World}{K:W.Frag}{h:Heap}{mg:Str->Option Value}{fa bN aK bR dw bL bG cX dN cY fQ sy cM cN gC fV iI dO j5 fW eU cV eV eX bM cQ j6 eF fX fY iJ cZ bH j7 dU dW c7 bZ cO j8 yS sE nZ n6 n_ sG fZ f9 yU:Addr}(X:K.In h)(G:h.Ns mainGlobals mg) (hfa:mg "law" = some (.ref fa))
  {fd1 fd2 fd3 fd4 fd5 fd6 fd7 fd8 fd9 qe1 qe2 qe3 qe4 qe5 qe6 qe7 qe8 qe9 qe_ qfa qfb qfc qfd qfe qff qfg qfh qfi qfj qfk qfl qfm qfn qfo qfp qfq qfr qfs qft qfu:FuncData}
  {qh8 qfv qh9 qfw:Option Addr}{qh_ qia:Array (QAG)}{qib qfx qfy qfz qaz qfA qic qfB qfC qfD qc8 qfE:Value}{vK kJ mZ qU iG:Tok}
  {uQ:ClassData}{Tp Tq:Str}{Yc:Addr}{Tr Od:QAE}{Tt Tv:Bool}{Tw:QAH}{Oe:Option Bool}{Tz:Option Addr}{TF TJ TQ TV TX:QAG}{TY T3:Str}{Yd:Addr}{T5 Og:QAE}{T7 T8:Bool}{T9:QAH}{Oh:Option Bool}{T_:Option Addr}{Ua Ub Uc Ud Ue:QAG}
  (Oi:pq K "Web" bN)
  (pA:pq K "PointError" aK)
  (pB:pq K "NoPointing" bR)
  (vL:pq K "TooMuch" dw)
  (yG:pq K "Parted" bL)
  (yH:pq K "Barred" bG)
  (a1:pq K "steps_along" cX)
  (F1:dz K "steps_along" "steps_along" oO cX fd1)
  (a2:pq K "ways_along" dN)
  (F2:dz K "ways_along" "ways_along" qt dN fd2)
  (a3:pq K "found_along" cY)
  (F3:dz K "found_along" "found_along" jH cY fd3)
  (a4:pq K "clusters" fQ)
  (F4:dz K "clusters" "clusters" qu fQ fd4)
  (a5:pq K "bars" sy)
  (F5:dz K "bars" "bars" Hv sy fd5)
  (a6:W.findIn K (.ref bL) "__init__" = some (some (.ref cM))) (i6:W.isFn K (.ref cM)=true)
  (F6:dz K "__init__" "Parted.__init__" oR cM fd6)
  (a7:W.findIn K (.ref bG) "__init__" = some (some (.ref cN))) (i7:W.isFn K (.ref cN)=true)
  (F7:dz K "__init__" "Barred.__init__" oU cN fd7)
  (a8:pq K "is_list" gC)
  (F8:dz K "is_list" "is_list" yc gC fd8)
  (a9:pq K "is_whole" fV)
  (F9:dz K "is_whole" "is_whole" u9 fV fd9)
  (a10:pq K "is_name" iI)
  (F10:dz K "is_name" "is_name" tY iI qe1)
  (a11:pq K "are_points" dO)
  (F11:dz K "are_points" "are_points" lg dO qe2)
  (a12:pq K "is_tie" j5)
  (F12:dz K "is_tie" "is_tie" wJ j5 qe3)
  (a13:pq K "are_ties" fW)
  (F13:dz K "are_ties" "are_ties" qw fW qe4)
  (a14:W.findIn K (.ref bN) "__init__" = some (some (.ref eU))) (i14:W.isFn K (.ref eU)=true)
  (F14:dz K "__init__" "Web.__init__" qz eU qe5)
  (a15:W.findIn K (.ref bN) "points" = some (some (.ref cV))) (i15:W.isFn K (.ref cV)=true)
  (F15:dz K "points" "Web.points" qC cV qe6)
  (a16:W.findIn K (.ref bN) "ties" = some (some (.ref eV))) (i16:W.isFn K (.ref eV)=true)
  (F16:dz K "ties" "Web.ties" u_ eV qe7)
  (a17:W.findIn K (.ref bN) "many" = some (some (.ref eX))) (i17:W.isFn K (.ref eX)=true)
  (F17:dz K "many" "Web.many" vd eX qe8)
  (a18:pq K "sure_of_few_ties" bM)
  (F18:dz K "sure_of_few_ties" "sure_of_few_ties" iw bM qe9)
  (a19:pq K "sure_of_ears" cQ)
  (F19:dz K "sure_of_ears" "sure_of_ears" mF cQ qe_)
  (a20:pq K "lot_of" j6)
  (F20:dz K "lot_of" "lot_of" rY j6 qfa)
  (a21:pq K "all_parts" eF)
  (F21:dz K "all_parts" "all_parts" nC eF qfb)
  (a22:pq K "all_lots" fX)
  (F22:dz K "all_lots" "all_lots" vf fX qfc)
  (a23:pq K "crossing" fY)
  (F23:dz K "crossing" "crossing" qD fY qfd)
  (a24:pq K "is_lead" iJ)
  (F24:dz K "is_lead" "is_lead" yd iJ qfe)
  (a25:pq K "is_pointing" cZ)
  (F25:dz K "is_pointing" "is_pointing" jJ cZ qff)
  (a26:pq K "sure_of_pointing" bH)
  (F26:dz K "sure_of_pointing" "sure_of_pointing" iy bH qfg)
  (a27:pq K "arrows" j7)
  (F27:dz K "arrows" "arrows" Ax j7 qfh)
  (a28:pq K "steps_into" dU)
  (F28:dz K "steps_into" "steps_into" lq dU qfi)
  (a29:pq K "shut_cuts" dW)
  (l29:K.lookup dW=some ⟨qib,qh8,.func (W.fnOf "shut_cuts" "shut_cuts" (m8 cP) (gw cP) (aB cP) .none qfx qfy qfz qfv qaz qfA),qh_⟩) (c29:W.codeIn K qaz "shut_cuts" = true) (k29:W.keepIn K (.ref dW)=true)
  (a30:pq K "without_tie" c7)
  (F30:dz K "without_tie" "without_tie" jK c7 qfj)
  (a31:pq K "ties_in_each" bZ)
  (F31:dz K "ties_in_each" "ties_in_each" mG bZ qfk)
  (a32:pq K "lots_apart" cO)
  (F32:dz K "lots_apart" "lots_apart" lu cO qfl)
  (a33:pq K "fewest" j8)
  (F33:dz K "fewest" "fewest" Ay j8 qfm)
  (a34:pq K "_law_pot" yS)
  (F34:dz K "_law_pot" "_law_pot" Xd yS qfn)
  (a35:pq K "_law_take" sE)
  (F35:dz K "_law_take" "_law_take" Np sE qfo)
  (a36:pq K "_law_names" nZ)
  (F36:dz K "_law_names" "_law_names" zJ nZ qfp)
  (a37:pq K "_law_mixed" n6)
  (F37:dz K "_law_mixed" "_law_mixed" Hw n6 qfq)
  (a38:pq K "_law_rings" n_)
  (F38:dz K "_law_rings" "_law_rings" Hx n_ qfr)
  (a39:pq K "_law_ties" sG)
  (F39:dz K "_law_ties" "_law_ties" Nq sG qfs)
  (a40:pq K "_law_is_right" fZ)
  (F40:dz K "_law_is_right" "_law_is_right" mH fZ qft)
  (a41:pq K "_law_are_lots" f9)
  (F41:dz K "_law_are_lots" "_law_are_lots" jB f9 qfu)
  (a42:pq K "law" yU)
  (l42:K.lookup yU=some ⟨qic,qh9,.func (W.fnOf "law" "law" (m8 q_) (gw q_) (aB q_) .none qfB qfC qfD qfw qc8 qfE),qia⟩) (c42:W.codeIn K qc8 "law" = true) (k42:W.keepIn K (.ref yU)=true)
  (jC:W.nsIn K mainGlobals "LETTERS" = some (some (.str "abcdefghijklmnopqrstuvwxyz" vK)))
  (dB:W.nsIn K mainGlobals "MOST_LETTERS" = some (some (.int 4 kJ)))
  (dZ:W.nsIn K mainGlobals "MOST_POINTS" = some (some (.int 9 mZ)))
  (gb:W.nsIn K mainGlobals "MOST_TIES" = some (some (.int 20 qU)))
  (cC:W.nsIn K mainGlobals "MOST_TIES_TAKEN" = some (some (.int 12 iG)))
  (Oj:W.plainGet K bN Str.empty=true) (Ol:W.hasDictIn K bN=true) (Om:W.plainOver K bN=true) (Oo:W.findIn K (.ref bN) "__setattr__" = some (some (.builtin "object.__setattr__"))) (Oq:W.makesIn K bN=true) (Ot:W.keepIn K (.ref bN)=true)
  (CP:W.findIn K (.ref bN) "names" = some none)
  (CQ:W.findIn K (.ref bN) "pairs" = some none)
  (Ye:W.nsIn K mainGlobals "len" = some none)
  (Yg:W.nsIn K mainGlobals "max" = some none)
  (Yh:W.nsIn K mainGlobals "min" = some none)
  (Yi:W.nsIn K mainGlobals "abs" = some none)
  (CT:W.nsIn K mainGlobals "divmod" = some none)
  (Ip:W.nsIn K mainGlobals "range" = some none)
  (Yj:W.nsIn K mainGlobals "zip" = some none)
  (Ou:W.nsIn K mainGlobals "list" = some none)
  (Ir:W.nsIn K mainGlobals "tuple" = some none)
  (Yk:W.nsIn K mainGlobals "int" = some none)
  (Yl:W.nsIn K mainGlobals "str" = some none)
  (Ym:W.nsIn K mainGlobals "set" = some none)
  (Yn:W.nsIn K mainGlobals "all" = some none)
  (qW:W.nsIn K mainGlobals "isinstance" = some none)
  (tG:W.nsIn K mainGlobals "enumerate" = some none)
  (Yo:W.nsIn K mainGlobals "any" = some none)
  (Ov:W.nsIn K mainGlobals "dict" = some none)
  (CV:W.nsIn K mainGlobals "sorted" = some none)
  (Ow:W.nsIn K mainGlobals "repr" = some none)
  (Ox:W.nsIn K mainGlobals "bool" = some none)
  (Yp:W.nsIn K mainGlobals "sum" = some none)
  (jV:W.clsIn K aK=some uQ) (jW:uQ.mro=[.ref aK,.type "ValueError",.type "Exception",.type "BaseException",.type "object"]) (pC:W.typeIn K (.ref aK)=some (.type "type"))
  (eZ:W.excIn K aK jY "ValueError.__new__" = true)
  (gH:W.excIn K bR jY "ValueError.__new__" = true)
  (lO:W.excIn K dw jY "ValueError.__new__" = true)
  (pD:W.isClsIn K aK=true) (qc9:W.specialIn K (.ref aK) "__getattribute__" = some (some (.builtin "type.__getattribute__"))) (qc_:W.readsIn K aK (.type "type")=true) (qda:W.findCls K (.ref aK) (.type "type") "__init__" = some (.val (.builtin "ValueError.__init__")))
  (Kw:W.specialIn K (.builtin "object.__class__") "__get__" = some (some (.builtin "getset_descriptor.__get__"))) (Ky:W.takesIn K (.builtin "object.__class__")=some true)
  (Oz:Hs [aK,bR,dw,bL,bG]=true)
  (gY:XC K bR aK)
  (mU:XC K dw aK)
  (jD:XC K bL aK)
  (jE:XC K bG aK)
  (yI:K.lookup bL=some (excClassObj Tp Tq bL Yc Tr [.ref aK,.type "ValueError",.type "Exception",.type "BaseException",.type "object"] Tt Tw Od Tv Oe Tz TF TJ TQ TV TX "ValueError.__new__")) (yJ:W.findIn K (.ref bL) "__setattr__" = some (some (.builtin "object.__setattr__")))
  (fC:W.findIn K (.ref bL) "lot" = some none)
  (yK:K.lookup bG=some (excClassObj TY T3 bG Yd T5 [.ref aK,.type "ValueError",.type "Exception",.type "BaseException",.type "object"] T7 T9 Og T8 Oh T_ Ua Ub Uc Ud Ue "ValueError.__new__")) (yL:W.findIn K (.ref bG) "__setattr__" = some (some (.builtin "object.__setattr__")))
  (fD:W.findIn K (.ref bG) "tie" = some none)
  (fG:W.findIn K (.ref bG) "lot" = some none)
  (jj:W.nsIn K mainGlobals "ValueError" = some none)
  {cL PL:Addr} (cdl:qaz=Value.ref cL)
  : ∃fd:FuncData,(∀(s:Shared)(v:Value),BindsTo s fd ⟨[v],[]⟩ [("_law_script",v)])/\∀base:Heap,K.In base->base.Ns mainGlobals mg->W.CodeHd base cL PL->base.BuiltinsAt mg PL->bT l.prog w K mg base iU 17 fa fd ["_law_script"] (Io K PL):=by
 have e:=hfa.symm.trans (qjK X G a42);cases e;have b1:=F1.binds (ps:=["web", "fixed"]) λ_ _ _ _ _ _=>dF λ_ _=>rfl;have b2:=F2.binds (ps:=["start", "steps"]) λ_ _ _ _ _ _=>dF λ_ _=>rfl;have b3:=F3.binds (ps:=["web", "start", "steps"]) λ_ _ _ _ _ _=>CN λ_ _ _=>rfl;have b4:=F4.binds (ps:=["web"]) λ_ _ _ _ _ _=>jk λ_=>rfl;have b5:=F5.binds (ps:=["web"]) λ_ _ _ _ _ _=>jk λ_=>rfl;have b6:=F6.binds (ps:=["self", "lot"]) λ_ _ _ _ _ _=>dF λ_ _=>rfl;have b7:=F7.binds (ps:=["self", "tie", "lot"]) λ_ _ _ _ _ _=>CN λ_ _ _=>rfl;have b8:=F8.binds (ps:=["thing"]) λ_ _ _ _ _ _=>jk λ_=>rfl;have b9:=F9.binds (ps:=["thing"]) λ_ _ _ _ _ _=>jk λ_=>rfl;have b10:=F10.binds (ps:=["thing"]) λ_ _ _ _ _ _=>jk λ_=>rfl;have b11:=F11.binds (ps:=["thing"]) λ_ _ _ _ _ _=>jk λ_=>rfl;have b12:=F12.binds (ps:=["thing", "points"]) λ_ _ _ _ _ _=>dF λ_ _=>rfl;have b13:=F13.binds (ps:=["thing", "points"]) λ_ _ _ _ _ _=>dF λ_ _=>rfl;have b14:=F14.binds (ps:=["self", "points", "ties"]) λ_ _ _ _ _ _=>CN λ_ _ _=>rfl;have b15:=F15.binds (ps:=["self"]) λ_ _ _ _ _ _=>jk λ_=>rfl;have b16:=F16.binds (ps:=["self"]) λ_ _ _ _ _ _=>jk λ_=>rfl;have b17:=F17.binds (ps:=["self"]) λ_ _ _ _ _ _=>jk λ_=>rfl;have b18:=F18.binds (ps:=["web", "most"]) λ_ _ _ _ _ _=>dF λ_ _=>rfl;have b19:=F19.binds (ps:=["web"]) λ_ _ _ _ _ _=>jk λ_=>rfl;have b20:=F20.binds (ps:=["web", "points"]) λ_ _ _ _ _ _=>dF λ_ _=>rfl;have b21:=F21.binds (ps:=["points"]) λ_ _ _ _ _ _=>jk λ_=>rfl;have b22:=F22.binds (ps:=["web"]) λ_ _ _ _ _ _=>jk λ_=>rfl;have b23:=F23.binds (ps:=["web", "lot"]) λ_ _ _ _ _ _=>dF λ_ _=>rfl;have b24:=F24.binds (ps:=["thing"]) λ_ _ _ _ _ _=>jk λ_=>rfl;have b25:=F25.binds (ps:=["web", "thing"]) λ_ _ _ _ _ _=>dF λ_ _=>rfl;have b26:=F26.binds (ps:=["web", "thing"]) λ_ _ _ _ _ _=>dF λ_ _=>rfl;have b27:=F27.binds (ps:=["web", "pointing"]) λ_ _ _ _ _ _=>dF λ_ _=>rfl;have b28:=F28.binds (ps:=["steps", "lot"]) λ_ _ _ _ _ _=>dF λ_ _=>rfl;have F29:=Mh (st:=cP) l29 c29 k29;have b29:=F29.binds (ps:=["web", "pointing"]) λ_ _ _ _ _ _=>dF λ_ _=>rfl;have b30:=F30.binds (ps:=["cuts", "number"]) λ_ _ _ _ _ _=>dF λ_ _=>rfl;have b31:=F31.binds (ps:=["cuts", "most"]) λ_ _ _ _ _ _=>dF λ_ _=>rfl;have b32:=F32.binds (ps:=["cuts", "numbers"]) λ_ _ _ _ _ _=>dF λ_ _=>rfl;have b33:=F33.binds (ps:=["web", "pointing"]) λ_ _ _ _ _ _=>dF λ_ _=>rfl;have b34:=F34.binds (ps:=["_law_script", "_law_k"]) λ_ _ _ _ _ _=>dF λ_ _=>rfl;have b35:=F35.binds (ps:=["_law_pot_here", "_law_many"]) λ_ _ _ _ _ _=>dF λ_ _=>rfl;have b36:=F36.binds (ps:=["_law_pot_here", "_law_many"]) λ_ _ _ _ _ _=>dF λ_ _=>rfl;have b37:=F37.binds (ps:=["_law_pot_here", "_law_things"]) λ_ _ _ _ _ _=>dF λ_ _=>rfl;have b38:=F38.binds (ps:=["_law_pot_here", "_law_names_here"]) λ_ _ _ _ _ _=>dF λ_ _=>rfl;have b39:=F39.binds (ps:=["_law_pot_here", "_law_rings_here"]) λ_ _ _ _ _ _=>dF λ_ _=>rfl;have b40:=F40.binds (ps:=["_law_ties_here", "_law_many", "_law_numbers"]) λ_ _ _ _ _ _=>CN λ_ _ _=>rfl;have b41:=F41.binds (ps:=["_law_points", "_law_ties_here", "_law_lots"]) λ_ _ _ _ _ _=>CN λ_ _ _=>rfl;have F42:=Mh (st:=q_) l42 c42 k42;have b42:=F42.binds (ps:=["_law_script"]) λ_ _ _ _ _ _=>jk λ_=>rfl;have T:Txt K mg {cX:=cX,i_:=fd1,dN:=dN,jL:=fd2,cY:=cY,jc:=fd3,fQ:=fQ,nJ:=fd4,sy:=sy,zK:=fd5,cM:=cM,jd:=fd6,cN:=cN,je:=fd7,gC:=gC,mK:=fd8,fV:=fV,nM:=fd9,iI:=iI,qI:=qe1,dO:=dO,jM:=qe2,j5:=j5,tZ:=qe3,fW:=fW,nO:=qe4,eU:=eU,nQ:=qe5,cV:=cV,jN:=qe6,eV:=eV,nR:=qe7,eX:=eX,nU:=qe8,bM:=bM,d7:=qe9,cQ:=cQ,g_:=qe_,j6:=j6,t_:=qfa,eF:=eF,lB:=qfb,fX:=fX,nW:=qfc,fY:=fY,nY:=qfd,iJ:=iJ,qJ:=qfe,cZ:=cZ,jf:=qff,bH:=bH,cU:=qfg,j7:=j7,ud:=qfh,dU:=dU,jO:=qfi,dW:=dW,eY:=W.fnOf "shut_cuts" "shut_cuts" (m8 cP) (gw cP) (aB cP) .none qfx qfy qfz qfv qaz qfA,c7:=c7,jg:=qfj,bZ:=bZ,dJ:=qfk,cO:=cO,fB:=qfl,j8:=j8,uf:=qfm,yS:=yS,Hy:=qfn,sE:=sE,zL:=qfo,nZ:=nZ,wK:=qfp,n6:=n6,wL:=qfq,n_:=n_,wM:=qfr,sG:=sG,zM:=qfs,fZ:=fZ,oh:=qft,f9:=f9,ou:=qfu,yU:=fa,Hz:=W.fnOf "law" "law" (m8 q_) (gw q_) (aB q_) .none qfB qfC qfD qfw qc8 qfE,jC:=.str "abcdefghijklmnopqrstuvwxyz" vK,dB:=.int 4 kJ,dZ:=.int 9 mZ,gb:=.int 20 qU,cC:=.int 12 iG,bN:=bN,aK:=aK,bR:=bR,dw:=dw,bL:=bL,bG:=bG}:={gW:=F1,jP:=b1,jQ:=qjK X G a1,qK:=F2,wN:=b2,wO:=qjK X G a2,jR:=F3,oV:=b3,oW:=qjK X G a3,vg:=F4,Bg:=b4,Bh:=qjK X G a4,Nu:=F5,Xf:=b5,Xg:=qjK X G a5,uG:=F6,uH:=b6,uI:=F7,uJ:=b7,iK:=F8,lM:=b8,lN:=qjK X G a8,vh:=F9,Bj:=b9,Bk:=qjK X G a9,pR:=F10,ug:=b10,uh:=qjK X G a10,qL:=F11,wQ:=b11,wR:=qjK X G a11,Bl:=F12,Kh:=b12,Kl:=qjK X G a12,vm:=F13,Bm:=b13,Bo:=qjK X G a13,Bp:=F14,Bq:=b14,wU:=F15,gF:=b15,gG:=⟨a15,i15,F15.kp⟩,Br:=F16,qM:=b16,qQ:=⟨a16,i16,F16.kp⟩,Bs:=F17,vo:=b17,vC:=⟨a17,i17,F17.kp⟩,iz:=F18,mL:=b18,mO:=qjK X G a18,mQ:=F19,sH:=b19,sI:=qjK X G a19,Bt:=F20,Km:=b20,Ko:=qjK X G a20,sJ:=F21,yV:=b21,yW:=qjK X G a21,vp:=F22,Bu:=b22,Bv:=qjK X G a22,vq:=F23,Bw:=b23,Bx:=qjK X G a23,yg:=F24,Fl:=b24,Fo:=qjK X G a24,jT:=F25,oX:=b25,oY:=qjK X G a25,dD:=F26,iB:=b26,iC:=qjK X G a26,BJ:=F27,Kp:=b27,Kq:=qjK X G a27,qN:=F28,wV:=b28,wW:=qjK X G a28,sO:=F29,yX:=b29,yZ:=qjK X G a29,oZ:=F30,uK:=b30,uL:=qjK X G a30,gj:=F31,jh:=b31,ji:=qjK X G a31,lC:=F32,qO:=b32,qP:=qjK X G a32,BK:=F33,Kr:=b33,Ks:=qjK X G a33,Xh:=F34,qa5:=b34,qa6:=qjK X G a34,mR:=F35,o9:=b35,o_:=qjK X G a35,HB:=F36,Qm:=b36,Qn:=qjK X G a36,zN:=F37,HD:=b37,HF:=qjK X G a37,HJ:=F38,Qo:=b38,Qp:=qjK X G a38,Nv:=F39,Xi:=b39,Xj:=qjK X G a39,vA:=F40,BL:=b40,BP:=qjK X G a40,vB:=F41,BW:=b41,BX:=qjK X G a41,qa7:=F42,qeA:=b42,qeB:=qjK X G a42,Fp:=qjK X G jC,Fq:=⟨vK,rfl⟩,sS:=qjK X G dB,sU:=⟨kJ,rfl⟩,uM:=qjK X G dZ,uN:=⟨mZ,rfl⟩,za:=qjK X G gb,zc:=⟨qU,rfl⟩,oA:=qjK X G cC,oE:=⟨iG,rfl⟩,HN:=CP,zO:=CQ,qa8:=qjK X G Oi,kW:=⟨Oj,Ol,Om,Oo⟩,qa9:=⟨Oq,a14,i14,Ot⟩,nm:=⟨qjQ X G Ye,qjQ X G Yg,qjQ X G Yh,qjQ X G Yi,qjQ X G CT,qjQ X G Ip,qjQ X G Yj,qjQ X G Ou,qjQ X G Ir,qjQ X G Yk,qjQ X G Yl,qjQ X G Ym,qjQ X G Yn,qjQ X G qW⟩,Lr:=⟨qjQ X G tG,qjQ X G Yo,qjQ X G Ov,qjQ X G CV,qjQ X G Ow,qjQ X G Ox⟩,nm3:=⟨qjQ X G Yp⟩,qR:=qjK X G pA,wX:=qjK X G pB,Ft:=qjK X G vL,Ku:=qjK X G yG,Kv:=qjK X G yH,eZ:=eZ,gH:=gH,lO:=lO,ib:=pD,tb:=pC,ini:=⟨qc9,qc_,qda⟩,Kw:=Kw,Ky:=Ky,nd:=E_ Oz,gY:=gY,mU:=mU,jD:=jD,jE:=jE,yh:=⟨⟨_,_,_,_,_,_,_,_,_,_,_,_,_,_,_,yI⟩,eZ,⟨_,jV,jW⟩,a6,beq_iff_eq.mp i6,jD.kp⟩,Fv:=XC.set jD yJ,fC:=fC,yj:=⟨⟨_,_,_,_,_,_,_,_,_,_,_,_,_,_,_,yK⟩,eZ,⟨_,jV,jW⟩,a7,beq_iff_eq.mp i7,jE.kp⟩,yp:=XC.set jE yL,fD:=fD,fG:=fG,jj:=qjQ X G jj};exact⟨_,λs v=>.of_eq rfl,λbase _ _ hCL hBL=>qc6 T ⟨cdl,hCL,hBL⟩⟩
theorem walk{l:W.OpenLaw}{q:Program}{loose:QAH}{XP:(Str->Option Value)->Heap->Prop}{YP:World->Heap->Prop}{d dt:DefRec}{K:Params->W.Frag}{c Pt:Addr}(hn:l.most=some 63)(hdf:d.params.defaults=[])
  (hY:∀(w:World)(h:Heap),YP w h->(K w.params).In h) (hrec:(PyProof.Rows.recsOf q).find? (λe=>e.name == ("shut_cuts" : Str))=some dt) (htab:∀w:World,W.tabIn (K w.params) "shut_cuts" = some (c,Pt)) (hnt:∀w:World,W.noTabs (K w.params)=true)
  (F:∀(w:World)(mg:Str->Option Value)(fa:Addr)(h:Heap),(K w.params).In h->h.Ns mainGlobals mg->mg d.name=some (.ref fa)->
   ∃fd:FuncData,(∀(s:Shared)(u:Value),BindsTo s fd ⟨[u],[]⟩ [("_law_script",u)])/\∀base:Heap,(K w.params).In base->base.Ns mainGlobals mg->W.CodeHd base c Pt->base.BuiltinsAt mg Pt->bT l.prog w (K w.params) mg base iU 17 fa fd ["_law_script"] (Io (K w.params) Pt)) :
  W.WalkO q loose XP YP l.row.toRowW d [] (λf vs=>PySem.call f vs):=
 L2.WT (n:=63) (k:=17) (x:= "_law_script") (CX:=λ_=>iU) (sp:=λw=>Io (K w.params) Pt) hn (by decide) hdf ⟨rfl,by decide,by decide,rfl⟩ hY hrec htab hnt F (λ_ _ a ns hl hP hS=>⟨a,ns,rfl,hS,hl,.inl hP,λ_=>rfl⟩) λ_ _ _ _ _ z=>z
end Xc
end
set_option Elab.async false
set_option maxRecDepth 100000
set_option maxHeartbeats 4000000
open PySem PySem.W PyProof.Rows
namespace PySem.W.Fast
def tw2959563098637982874:=0
def tw17569805949436676404:=0
def tw9460663075295610704:=0
def tw6010356475573446265:=0
def tw12505221513255529822:=0
def tw7729727069882560894:=0
def tw13865522492256144008:=0
def tw3023196927563110063:=0
def tw12720614547899683182:=0
def tw16489243447062057683:=0
def tw15142853970921472474:=0
def tw4063296379017249461:=0
def tw17737341318421855093:=0
def tw13120784050906537809:=0
def tw1616663842220902952:=0
def tw1799049288021758484:=0
def tw3514902491061912104:=0
def tw6354893221879665417:=0
def tw3207875585258932534:=0
def tw12169301414445255441:=0
def tw16944347587416268539:=0
def tw7075273182566620062:=0
def tw6820243414266685121:=0
def tw16720315660289198283:=0
def tw16510389340118855964:=0
def tw13727862778431153295:=0
def tw9609445010812873793:=0
def tw10082671150799071756:=0
def tw7917488462408791991:=0
def tw10129027056690728842:=0
def tw9908450467866765987:=0
def tw14832167882211355016:=0
def tw5553736301276461407:=0
def tw12589290299889549102:=0
def tw12340250905534378925:=0
def tw9471220747572755184:=0
def tw15849816944669622703:=0
def tw18160200193852865442:=0
def tw12865410288285781323:=0
def tw1034782260520352751:=0
def tw15720054804332562426:=0
def tw629120548330755512:=0
def tw8423615886002145830:=0
def tw6452662371473535680:=0
def tw7190023713791787136:=0
def tw3765214519900417323:=0
def tw3601371026341726583:=0
def tw4184612019908022575:=0
def tw8493523416379988401:=0
def tw18375177313668817889:=0
def tw504727652571727361:=0
def tw5570976380737425702:=0
def tw4984772748647498550:=0
def tw14819445014601870537:=0
def tw1900114165853411131:=0
def tw15835142174300902300:=0
def tw3386198566029442239:=0
def tw2591954767734305553:=0
def tw6498052055949886257:=0
def tw7757003465451421408:=0
end PySem.W.Fast
set_option maxRecDepth 100000 in
set_option maxHeartbeats 0 in
theorem PySem.Challenge.cw_pointways_k53_rings_hung_together_holds : PySem.Challenge.rw_pointways_k53_rings_hung_together.Holds := by
  w_on;o_law;k_head;(case hw=>w_witness2)
  k_fill
  refine' Xc.walk (l:=PySem.Challenge.rw_pointways_k53_rings_hung_together) rfl rfl (fun w h Y=>W.km_in_of Y) ?qid ?qie ?qif ?F
  case qid=>rfl
  case qie=>
    intro w;refine' L2.WW ?b1 ?b2 ?b3 ?b4 ?b5
    (case b1=>k_is)
    (case b2=>k_is)
    (case b3=>rfl)
    (case b4=>k_is)
    (case b5=>rfl)
  case qif=>intro w;kernel_rfl
  case F=>
    intro w mg fa h KX G hmg;refine' Xc.all_mk KX G hmg ?Oi ?pA ?pB ?vL ?yG ?yH ?a1 ?F1 ?a2 ?F2 ?a3 ?F3 ?a4 ?F4 ?a5 ?F5 ?a6 ?i6 ?F6 ?a7 ?i7 ?F7 ?a8 ?F8 ?a9 ?F9 ?a10 ?F10 ?a11 ?F11 ?a12 ?F12 ?a13 ?F13 ?a14 ?i14 ?F14 ?a15 ?i15 ?F15 ?a16 ?i16 ?F16 ?a17 ?i17 ?F17 ?a18 ?F18 ?a19 ?F19 ?a20 ?F20 ?a21 ?F21 ?a22 ?F22 ?a23 ?F23 ?a24 ?F24 ?a25 ?F25 ?a26 ?F26 ?a27 ?F27 ?a28 ?F28 ?a29 ?l29 ?c29 ?k29 ?a30 ?F30 ?a31 ?F31 ?a32 ?F32 ?a33 ?F33 ?a34 ?F34 ?a35 ?F35 ?a36 ?F36 ?a37 ?F37 ?a38 ?F38 ?a39 ?F39 ?a40 ?F40 ?a41 ?F41 ?a42 ?l42 ?c42 ?k42 ?jC ?dB ?dZ ?gb ?cC ?Oj ?Ol ?Om ?Oo ?Oq ?Ot ?CP ?CQ ?Ye ?Yg ?Yh ?Yi ?CT ?Ip ?Yj ?Ou ?Ir ?Yk ?Yl ?Ym ?Yn ?qW ?tG ?Yo ?Ov ?CV ?Ow ?Ox ?Yp ?jV ?jW ?pC ?eZ ?gH ?lO ?pD ?qc9 ?qc_ ?qda ?Kw ?Ky ?Oz ?gY ?mU ?jD ?jE ?yI ?yJ ?fC ?yK ?yL ?fD ?fG ?jj ?cdl
    case Oi | pA | pB | vL | yG | yH | a1 | a2 | a3 | a4 | a5 | a8 | a9 | a10 | a11 | a12 | a13 | a18 | a19 | a20 | a21 | a22 | a23 | a24 | a25 | a26 | a27 | a28 | a29 | a30 | a31 | a32 | a33 | a34 | a35 | a36 | a37 | a38 | a39 | a40 | a41 | a42=>unfold L2.pq;k_is
    case a6 | i6 | a7 | i7 | a14 | i14 | a15 | i15 | a16 | i16 | a17 | i17 | l29 | c29 | k29 | l42 | c42 | k42 | jC | dB | dZ | gb | cC | Oj | Ol | Om | Oo | Oq | Ot | CP | CQ | Ye | Yg | Yh | Yi | CT | Ip | Yj | Ou | Ir | Yk | Yl | Ym | Yn | qW | tG | Yo | Ov | CV | Ow | Ox | Yp | jV | pC | pD | qc9 | qc_ | qda | Kw | Ky | yI | yJ | fC | yK | yL | fD | fG | jj=>k_is
    case jW | cdl=>rfl
    case F1 | F2 | F3 | F4 | F5 | F6 | F7 | F8 | F9 | F10 | F11 | F12 | F13 | F14 | F15 | F16 | F17 | F18 | F19 | F20 | F21 | F22 | F23 | F24 | F25 | F26 | F27 | F28 | F30 | F31 | F32 | F33 | F34 | F35 | F36 | F37 | F38 | F39 | F40 | F41=>refine' L2.Mh ?l ?c ?k;(case l=>k_is);(case c=>k_is);(case k=>k_is)
    case eZ | gH | lO=>k_exc
    case Oz=>decide+kernel
    case gY | mU | jD | jE=>refine' L2.qe0 ?c ?m ?h ?t ?a ?n ?g ?k;(case c=>k_is);(case m=>rfl);(case h=>rfl);(case t=>k_is);(case a=>k_is);(case n=>k_is);(case g=>k_is);(case k=>k_is)


