import PyProof.Rows.All
import Wide.All
import OpenK.AllK
import Wide.FinOn
import Lean
import PyProof.EqAt
import PyProof.EqKinds
import PyProof.TupleCall
import PyProof.NeData
import PyProof.AttrMissHeap
import PyProof.FactsAll.enumerate_1
import KE.KDictOf
import PyProof.EnumMake
import PyProof.Rows.SumAny
import PyProof.Rows.StrJoin2
import PyProof.Rows.CountFlat
import PyProof.Rows.FoldWordsD
import PyProof.Rows.SeqMore2
import PyProof.Rows.MinMaxN
import PyProof.Rows.StrInSeq3
import PyProof.Rows.ReprR
import PyProof.StrLawsRepr
import PyProof.StrOps2
import PyProof.Rows.SeqMore
import PyProof.DictItems
import KE.KPairComp
import PySem.Challenge.RW_pointways_k42_whole_forced_ties
set_option genSizeOfSpec false
noncomputable section
set_option Elab.async false
set_option linter.all false
set_option maxRecDepth 100000
namespace L2
open PySem PySem.Spec PyProof.Rows
abbrev Key:=Sum Int Str
def sX:Key→Value→Bool
  | .inl k,v=>Value.isInt k v
  | .inr x,v=>Value.isStrOf x v
def qk4 (w:World):Key→Int
  | .inl k=>hashInt k
  | .inr x=>hashStr w x
theorem cX:∀{k:Key} {v:Value},sX k v=true→(∃i t,k=Sum.inl i∧v=Value.int i t)∨(∃x t,k=Sum.inr x∧v=Value.str x t)
  | .inl i,v,h=>by
    obtain⟨t,e⟩:=Value.isInt_shape (k:=i) (v:=v) h;exact .inl ⟨i,t,rfl,e⟩
  | .inr x,v,h=>by
    obtain⟨t,e⟩:=Value.isStrOf_shape (x:=x) (v:=v) h;exact .inr ⟨x,t,rfl,e⟩
theorem Gh (i:Int) (t:Tok):sX (.inl i) (.int i t)=true:=by simp[sX,Value.isInt]
theorem Gi (x:Str) (t:Tok):sX (.inr x) (.str x t)=true:=by simp[sX,Value.isStrOf]
theorem qb9 (a b:Int):decide ((Sum.inl a:Key)=Sum.inl b)=(a == b):=by
  by_cases e:a=b
  ·subst e;simp
  ·have h:¬(Sum.inl a:Key)=Sum.inl b:=fun q=>e (Sum.inl.inj q);rw[decide_eq_false h];exact(beq_eq_false_iff_ne.mpr e).symm
theorem qb_ (a b:Str):decide ((Sum.inr a:Key)=Sum.inr b)=decide (a=b):=by
  by_cases e:a=b
  ·subst e;simp
  ·have h:¬(Sum.inr a:Key)=Sum.inr b:=fun q=>e (Sum.inr.inj q);rw[decide_eq_false h,decide_eq_false e]
theorem qca (a:Int) (b:Str):decide ((Sum.inl a:Key)=Sum.inr b)=false:=decide_eq_false (fun q=>nomatch q)
theorem qcb (a:Str) (b:Int):decide ((Sum.inr a:Key)=Sum.inl b)=false:=decide_eq_false (fun q=>nomatch q)
def bF (prog:Program) (w:World):PySem.KeyKind prog w Key where
  is:=sX
  hash:=qk4 w
  inj:=fun v a b ha hb=>by
    rcases cX ha with⟨i,t,rfl,rfl⟩ | ⟨x,t,rfl,rfl⟩
    · rcases cX hb with⟨j,u,rfl,e⟩ | ⟨y,u,rfl,e⟩
      ·injection e with e1 _;rw[e1]
      ·exact nomatch e
    · rcases cX hb with⟨j,u,rfl,e⟩ | ⟨y,u,rfl,e⟩
      ·exact nomatch e
      ·injection e with e1 _;rw[e1]
  byValue:=fun k v h=>by
    rcases cX h with⟨i,t,rfl,rfl⟩ | ⟨x,t,rfl,rfl⟩ <;> rfl
  pyHash:=fun hv h=>by
    rcases cX hv with⟨i,t,rfl,rfl⟩ | ⟨x,t,rfl,rfl⟩
    ·exact wpAny_pyHash_int h
    ·exact wpAny_pyHash_str h
  eqBool:=fun hu hv h=>by
    rcases cX hu with⟨i,t,rfl,rfl⟩ | ⟨x,t,rfl,rfl⟩
    · rcases cX hv with⟨j,u,rfl,rfl⟩ | ⟨y,u,rfl,rfl⟩
      ·rw[qb9] at h;exact wpAny_eqBool_int h
      ·rw[qca] at h;exact SeqAt.EqAt.int_str i t y u _ _ _ _ h
    · rcases cX hv with⟨j,u,rfl,rfl⟩ | ⟨y,u,rfl,rfl⟩
      ·rw[qcb] at h;exact SeqAt.EqAt.str_int x t j u _ _ _ _ h
      ·rw[qb_] at h;exact wpAny_eqBool_str h
  «strs»:=fun k x t v h=>by
    rcases cX h with⟨i,u,rfl,e⟩ | ⟨y,u,rfl,e⟩
    ·exact nomatch e
    ·injection e with e1 _;subst e1;cases v <;> rfl
theorem Nq (prog:Program) (w:World) (k:Key) (v:Value):(bF prog w).is k v=sX k v:=rfl
theorem z_ (prog:Program) (w:World) (i:Int) (t:Tok):(bF prog w).is (.inl i) (.int i t)=true:=Gh i t
theorem J4 (prog:Program) (w:World) (x:Str) (t:Tok):(bF prog w).is (.inr x) (.str x t)=true:=Gi x t
inductive V where
  | non | bl (b:Bool) | int (i:Int) | str (x:Str) | Vi (b:Array UInt8) | flt (b:UInt64) | ref (a:Addr) | ty (n:String)
  deriving DecidableEq
def RelV:V→Value→Prop
  | .non,u=>u=Value.none
  | .bl b,u=>u=Value.bool b
  | .int i,u=>∃t,u=Value.int i t
  | .str x,u=>∃t,u=Value.str x t
  | .Vi b,u=>∃t,u=Value.bytes b t
  | .flt b,u=>∃t,u=Value.float b t
  | .ref a,u=>u=Value.ref a
  | .ty n,u=>u=Value.type n
abbrev Vals:List V→List Value→Prop:=Paired RelV
theorem Vals.length {xs:List V} {us:List Value} (r:Vals xs us):xs.length=us.length:=Paired.length r
theorem Vals.get:∀{xs:List V} {us:List Value} {i:Nat} {x:V},Vals xs us→xs[i]? = some x→∃u,us[i]? = some u∧RelV x u
  | _,_,_,_,.nil,e=>by simp at e
  | _,_,0,_,.cons r _,e=>by simp at e;subst e;exact⟨_,rfl,r⟩
  | _,_,i+1,x,.cons _ t,e=>by
    obtain⟨u,h1,h2⟩:=Vals.get (i:=i) (x:=x) t (by simpa using e);exact⟨u,by simpa using h1,h2⟩
theorem Vals.set {x:V} {u:Value} (r:RelV x u):∀{xs:List V} {us:List Value} (i:Nat),Vals xs us→Vals (xs.set i x) (us.set i u)
  | _,_,_,.nil=>.nil
  | _,_,0,.cons _ t=>.cons r t
  | _,_,i+1,.cons q t=>.cons q (Vals.set r i t)
theorem Vals.append:∀{xs ys:List V} {us ws:List Value},Vals xs us→Vals ys ws→Vals (xs++ys) (us++ws)
  | _,_,_,_,.nil,s=>s
  | _,_,_,_,.cons r t,s=>.cons r (Vals.append t s)
theorem Vals.take:∀{xs:List V} {us:List Value} (n:Nat),Vals xs us→Vals (xs.take n) (us.take n)
  | _,_,0,_=>.nil
  | _,_,_+1,.nil=>.nil
  | _,_,n+1,.cons r t=>.cons r (Vals.take n t)
theorem Vals.drop:∀{xs:List V} {us:List Value} (n:Nat),Vals xs us→Vals (xs.drop n) (us.drop n)
  | _,_,0,r=>r
  | _,_,_+1,.nil=>.nil
  | _,_,n+1,.cons _ t=>Vals.drop n t
def mQ:Option V→Option Value→Prop
  | some v,some u=>RelV v u
  | none,none=>True
  | _,_=>False
def KV {κ:Type}:List (κ×V)→List (κ×Value)→Prop:=Paired fun(p:κ×V) (q:κ×Value)=>p.1=q.1∧RelV p.2 q.2
def kV:Key→V
  | .inl i=>.int i
  | .inr x=>.str x
inductive HO where
  | lst (xs:List V)
  | tup (xs:List V)
  | dK (kvs:List (Key×V)) | dT (kvs:List (List Key×V))
  | set (S:Int→Bool) (n:Nat)
  | ins (C dx:Addr) (fs:List (Str×V))
  | own (x:Addr)
  | xd (fs:List (Str×V))
  | met (f x:Addr)
  | rng (lo hi:Int)
  | gw (o:Obj) (u:HO)
  | tbl (ps:Array Value)
  | ext (φ:Heap→Prop)
abbrev Hp:=Addr→Option HO
def upd (H:Hp) (a:Addr) (o:HO):Hp:=fun b=>if b=a then some o else H b
theorem ak {H:Hp} {a:Addr} {o:HO}:upd H a o a=some o:=by unfold upd;rw[if_pos rfl]
theorem aC {H:Hp} {a b:Addr} {o:HO} (h:b≠a):upd H a o b=H b:=by unfold upd;rw[if_neg h]
theorem Cw {H:Hp} {a b:Addr} {o u:HO} (h:H a=some o) (h':H b=some u) (d:o≠u):a≠b:=by
  intro e;subst e;rw[h] at h';exact d (Option.some.inj h')
theorem aP {H:Hp} {a b:Addr} {o:HO} (h:H a=some o) (h':H b=none):a≠b:=by
  intro e;subst e;rw[h] at h';cases h'
section
variable (P:Program) (w:World)
def b_ (H:Hp) (h:Heap) (a:Addr):HO→Prop
  | .lst xs=>xs.length≤sizeLine∧∃(its:List Value) (n:Nat),Vals xs its∧h.get? a=some {cls:=.type "list",data:=.seq its.toArray n}
  | .tup xs=>xs.length≤sizeLine∧∃its:List Value,Vals xs its∧IsTup h a its.toArray
  | .dK kvs=>kvs.length≤sizeLine∧(a == sysModules)=false∧∃vs,KV kvs vs∧h.DictOf (bF P w) a vs
  | .dT kvs=>kvs.length≤sizeLine∧(a == sysModules)=false∧∃xs:List (List Key×Addr×Value),
      Paired (fun(p:List Key×V) (q:List Key×Addr×Value)=>p.1=q.1∧H q.2.1=some (.tup (p.1.map kV))∧RelV p.2 q.2.2) kvs xs∧
      ∃o es ep,h.get? a=some o∧o.ExactDict∧o.data = .dict es ep∧es.toList=xs.map (entryOfKey (tupleKind (bF P w)))∧(xs.map (·.1)).Nodup
  | .set S n=>h.SetOf (intKind P w) a S n
  | .ins C dx fs=>H dx=some (.own a)∧fs.length≤1000∧dx≠a∧h.get? a=some (W.instObj C dx)∧
      ∃mA,h.Ns1 dx mA∧(∀f,mQ (fs.lookup f) (mA f))∧PySem.Within mA (fs.map (·.1))
  | .own _=>∃o,h.get? a=some o
  | .xd fs=>∃mA,h.Ns1 a mA∧∀f,mQ (fs.lookup f) (mA f)
  | .rng lo hi=>∃t u v,h.get? a=some {cls:=.type "range",data:=.fields #[.int lo t,.int hi u,.int 1 v]}
  | .gw o u=>h.get? a=some o∧b_ H h a u
  | .tbl ps=>h.get? a=some {cls:=.none,data:=.fields ps}
  | .met f x=>h.get? a=some (W.methodObj (.ref f) (.ref x))
  | .ext φ=>φ h∧(∃o,h.get? a=some o)∧∀h1 h2:Heap,φ h1→(∀o,h1.get? a=some o→h2.get? a=some o)→φ h2
def sY (H:Hp) (h:Heap):Prop:=∀a o,H a=some o→b_ P w H h a o
end
section
variable {P:Program} {w:World} {H H':Hp} {h h':Heap} {a:Addr} {o:HO}
theorem b_.lt (x:b_ P w H h a o):a<h.objs.size:=by
  cases o with
  | lst xs=>obtain⟨_,_,_,_,e⟩:=x;exact Heap.lt_size e
  | tup xs=>obtain⟨_,_,_,p⟩:=x;exact p.lt
  | dK kvs=>obtain⟨_,_,_,_,o,_,_,e,_⟩:=x;exact Heap.lt_size e
  | dT kvs=>obtain⟨_,_,_,_,o,_,_,e,_⟩:=x;exact Heap.lt_size e
  | set S n=>obtain⟨o,_,_,_,e,_⟩:=x;exact Heap.lt_size e
  | ins C dx fs=>obtain⟨_,_,_,e,_⟩:=x;exact Heap.lt_size e
  | own y=>obtain⟨_,e⟩:=x;exact Heap.lt_size e
  | xd fs=>obtain⟨_,⟨_,_,_,e,_⟩,_⟩:=x;exact Heap.lt_size e
  | rng lo hi=>obtain⟨_,_,_,e⟩:=x;exact Heap.lt_size e
  | gw ob u=>obtain⟨e,_⟩:=x;exact Heap.lt_size e
  | tbl ps=>exact Heap.lt_size (show h.get? a=some _ from x)
  | met f y=>exact Heap.lt_size (show h.get? a=some _ from x)
  | ext φ=>obtain⟨_,⟨_,e⟩,_⟩:=x;exact Heap.lt_size e
theorem Paired.qcc {α β:Type} {F G:α→β→Prop}:∀{l₁:List α} {l₂:List β},Paired F l₁ l₂→(∀a b,F a b→G a b)→Paired G l₁ l₂
  | _,_,.nil,_=>.nil
  | _,_,.cons r t,f=>.cons (f _ _ r) (Paired.qcc t f)
theorem b_.stay (x:b_ P w H h a o) (k:∀b u,(b=a∨H b=some (.own a))→h.get? b=some u→h'.get? b=some u)
    (ho:∀b,H b=some (.own a)→H' b=some (.own a)) (ht:∀b xs,H b=some (.tup xs)→H' b=some (.tup xs)):b_ P w H' h' a o:=by
  induction o with
  | lst xs=>obtain⟨z,its,n,r,e⟩:=x;exact⟨z,its,n,r,k _ _ (.inl rfl) e⟩
  | tup xs=>obtain⟨z,its,r,ob,e,c⟩:=x;exact⟨z,its,r,ob,k _ _ (.inl rfl) e,c⟩
  | dK kvs=>obtain⟨z,y,vs,r,ob,es,ep,e,c⟩:=x;exact⟨z,y,vs,r,ob,es,ep,k _ _ (.inl rfl) e,c⟩
  | dT kvs=>
    obtain⟨z,y,xs,r,ob,es,ep,e,c⟩:=x;exact⟨z,y,xs,Paired.qcc r fun p q z=>⟨z.1,ht _ _ z.2.1,z.2.2⟩,ob,es,ep,k _ _ (.inl rfl) e,c⟩
  | set S n=>obtain⟨ob,es,ep,t,e,c⟩:=x;exact⟨ob,es,ep,t,k _ _ (.inl rfl) e,c⟩
  | ins C dx fs=>
    obtain⟨d,z,ne,e,mA,⟨od,es,ep,e2,c⟩,r⟩:=x;exact⟨ho _ d,z,ne,k _ _ (.inl rfl) e,mA,⟨od,es,ep,k _ _ (.inr d) e2,c⟩,r⟩
  | own y=>obtain⟨ob,e⟩:=x;exact⟨ob,k _ _ (.inl rfl) e⟩
  | xd fs=>obtain⟨mA,⟨od,es,ep,e,c⟩,r⟩:=x;exact⟨mA,⟨od,es,ep,k _ _ (.inl rfl) e,c⟩,r⟩
  | rng lo hi=>obtain⟨t,u,v,e⟩:=x;exact⟨t,u,v,k _ _ (.inl rfl) e⟩
  | gw ob u ih=>obtain⟨e,q⟩:=x;exact⟨k _ _ (.inl rfl) e,ih q⟩
  | tbl ps=>
    have e:h.get? a=some {cls:=.none,data:=.fields ps}:=x;show h'.get? a=some {cls:=.none,data:=.fields ps};exact k a _ (.inl rfl) e
  | met f y=>
    have e:h.get? a=some (W.methodObj (.ref f) (.ref y)):=x;show h'.get? a=some (W.methodObj (.ref f) (.ref y));exact k a _ (.inl rfl) e
  | ext φ=>obtain⟨p,⟨o,e⟩,st⟩:=x;exact⟨st _ _ p fun o q=>k _ _ (.inl rfl) q,⟨o,k _ _ (.inl rfl) e⟩,st⟩
theorem sY.lt (x:sY P w H h) (e:H a=some o):a<h.objs.size:=(x a o e).lt
theorem sY.fresh (x:sY P w H h) (e:h.objs.size≤a):H a=none:=by
  cases q:H a with
  | none=>rfl
  | some u=>exact absurd (Nat.lt_of_lt_of_le (x.lt q) e) (Nat.lt_irrefl _)
theorem sY.kept (x:sY P w H h) (k:∀b u,h.get? b=some u→h'.get? b=some u):sY P w H h':=fun a o e=>
  (x a o e).stay (fun b u _ q=>k b u q) (fun _ q=>q) fun _ _ q=>q
theorem sY.laid (x:sY P w H h) (k:∀b u,h.get? b=some u→h'.get? b=some u) (hp:h.objs.size≤a) (new:b_ P w (upd H a o) h' a o):sY P w (upd H a o) h':=fun b u e=>by
  have hn:=x.fresh hp
  by_cases hb:b=a
  ·subst hb;rw[ak] at e;cases e;exact new
  ·rw[aC hb] at e;exact(x b u e).stay (fun c v _ q=>k c v q) (fun c q=>by rw[aC (aP q hn)];exact q) fun c xs q=>by rw[aC (aP q hn)];exact q
end
def Rd (H:Hp) (a:Addr) (u:HO):Prop:=H a=some u∨∃o,H a=some (.gw o u)
theorem Rd.ok {P:Program} {w:World} {H:Hp} {h:Heap} {a:Addr} {u:HO} (r:Rd H a u) (x:sY P w H h):b_ P w H h a u:=by
  rcases r with r | ⟨o,r⟩
  ·exact x a u r
  ·obtain⟨_,q⟩:=x a _ r;exact q
def Mut:Option HO→Prop
  | some (.lst _)=>True
  | some (.dK _)=>True
  | some (.dT _)=>True
  | some (.set _ _)=>True
  | some (.ins _ _ _)=>True
  | some (.ext _)=>True
  | _=>False
section
variable {P:Program} {w:World} {H:Hp} {h h':Heap} {x e:Addr} {o':HO}
theorem sY.write (ok:sY P w H h) (mu:Mut (H x)) (he:e=x∨H e=some (.own x)) (k:∀b u,b≠e→h.get? b=some u→h'.get? b=some u) (heo:∃u,h'.get? e=some u)
    (new:b_ P w (upd H x o') h' x o'):sY P w (upd H x o') h':=fun b u q=>by
  have qe_:∀c y,H c=some (.own y)→c≠x:=fun c y r z=>by subst z;rw[r] at mu;exact mu
  have qk5:∀c xs,H c=some (.tup xs)→c≠x:=fun c xs r z=>by subst z;rw[r] at mu;exact mu
  by_cases hb:b=x
  ·subst hb;rw[ak] at q;cases q;exact new
  · rw[aC hb] at q
    by_cases hbe:b=e
    · have q':H b=some (.own x):=by
        rcases he with z | z
        ·exact absurd (hbe.trans z) hb
        ·rw[hbe];exact z
      rw[q] at q';cases q';obtain⟨v,hv⟩:=heo;exact⟨v,by rw[hbe];exact hv⟩
    · refine(ok b u q).stay (fun c v hc r=>k c v ?_ r) (fun c r=>by rw[aC (qe_ c b r)];exact r) fun c xs r=>by rw[aC (qk5 c xs r)];exact r
      rcases hc with rfl | hc
      ·exact hbe
      · rintro rfl
        rcases he with z | z
        ·exact qe_ c b hc z
        ·rw[hc] at z;cases z;exact hb rfl
end
structure Un (fs ex:List Addr) (H H':Hp) (h h':Heap):Prop where
  keep:∀b o,h.get? b=some o→H b=none→b∉fs→b∉ex→h'.get? b=some o
  slot:∀b o,h.get? b=some o→H b=none→b∈fs→b∉ex→∃sl,h'.get? b=some {o with slots:=sl}
  free:∀b o,h.get? b=some o→H b=none→b∉ex→H' b=none
  there:∀b o,h.get? b=some o→b∉ex→∃o',h'.get? b=some o'
  tups:∀b xs,H b=some (.tup xs)→H' b=some (.tup xs)
  oR:∀b o u,H b=some (.gw o u)→H' b=some (.gw o u)
  qm:∀b ps,H b=some (.tbl ps)→∃more,H' b=some (.tbl (ps++more))
section
variable {fs fs' ex ex':List Addr} {H H1 H2:Hp} {h h1 h2 h':Heap} {a x e:Addr} {o:HO}
theorem Un.any (u:Un fs ex H H1 h h1) {b:Addr} {ob:Obj} (q:h.get? b=some ob) (n:H b=none) (hx:b∉ex):∃sl,h1.get? b=some {ob with slots:=sl}:=by
  by_cases hb:b∈fs
  ·exact u.slot b ob q n hb hx
  ·exact⟨ob.slots,u.keep b ob q n hb hx⟩
theorem Un.kept (k:∀b u,h.get? b=some u→h'.get? b=some u):Un fs ex H H h h':=
  ⟨fun b ob q _ _ _=>k b ob q,fun b ob q _ _ _=>⟨ob.slots,k b ob q⟩,fun _ _ _ n _=>n,fun b ob q _=>⟨ob,k b ob q⟩,fun _ _ q=>q,fun _ _ _ q=>q,fun _ ps q=>⟨#[],by rw[q];simp⟩⟩
theorem Un.refl:Un fs ex H H h h:=Un.kept fun _ _ q=>q
theorem Un.laid (k:∀b u,h.get? b=some u→h'.get? b=some u) (hp:h.objs.size≤a) (hn:H a=none):Un fs ex H (upd H a o) h h' where
  keep:=fun b u q _ _ _=>k b u q
  slot:=fun b u q _ _ _=>⟨u.slots,k b u q⟩
  free:=fun b u q n _=>by rw[aC (Nat.ne_of_lt (Nat.lt_of_lt_of_le (Heap.lt_size q) hp))];exact n
  there:=fun b u q _=>⟨u,k b u q⟩
  tups:=fun b xs q=>by rw[aC (aP q hn)];exact q
  oR:=fun b u xs q=>by rw[aC (aP q hn)];exact q
  qm:=fun b ps q=>⟨#[],by rw[aC (aP q hn),q];simp⟩
theorem Un.write (mu:Mut (H x)) (he:e=x∨H e=some (.own x)) (k:∀b u,b≠e→h.get? b=some u→h'.get? b=some u) (heo:∃u,h'.get? e=some u):Un fs ex H (upd H x o) h h':=by
  have hx:∀b,H b=none→b≠x:=fun b n z=>by subst z;rw[n] at mu;exact mu
  have hb:∀b,H b=none→b≠e:=fun b n z=>by
    subst z
    rcases he with r | r
    ·exact hx b n r
    ·rw[n] at r;cases r
  have hm:∀b u,H b=some u→¬Mut (some u)→b≠x:=fun b u q nm z=>by subst z;rw[q] at mu;exact nm mu
  refine⟨fun b u q n _ _=>k b u (hb b n) q,fun b u q n _ _=>⟨u.slots,k b u (hb b n) q⟩,fun b u q n _=>by rw[aC (hx b n)];exact n,fun b u q _=>?_,
    fun b xs q=>by rw[aC (hm b _ q fun z=>z)];exact q,fun b u xs q=>by rw[aC (hm b _ q fun z=>z)];exact q,fun b ps q=>⟨#[],by rw[aC (hm b _ q fun z=>z),q];simp⟩⟩
  by_cases hbe:b=e
  ·subst hbe;exact heo
  ·exact⟨u,k b u hbe q⟩
end
def trk (h:Heap) (H:Hp):List Addr:=(List.range h.objs.size).filter fun a=>(H a).isSome
def Hv (h:Heap) (H:Hp):Heap:=W.hideAll h (trk h H)
theorem RN (h:Heap) (H:Hp):(Hv h H).objs.size=h.objs.size:=W.hideAll_size _ _
theorem Vt {h:Heap} {H:Hp} {b:Addr} {o:Obj} (e:h.get? b=some o) (n:H b=none):(Hv h H).get? b=some o:=
  W.hideAll_get _ e fun hm=>by
    have q:(H b).isSome=true:=(List.mem_filter.mp hm).2;rw[n] at q;simp at q
theorem Zw {h:Heap} {H:Hp} {b:Addr} {o:Obj} (e:(Hv h H).get? b=some o):h.get? b=some o∧H b=none:=by
  have e':h.get? b=some o:=W.of_hideAll (trk h H) e;refine⟨e',?_⟩;cases q:H b with
  | none=>rfl
  | some x=>
    have hm:b∈trk h H:=List.mem_filter.mpr ⟨List.mem_range.mpr (Heap.lt_size e'),by simp[q]⟩;have z:(Hv h H).get? b=none:=W.hideAll_none (trk h H) hm;rw[z] at e;cases e
def Bh (g h:Heap) (L:Addr):List (Addr×Obj):=(List.range h.objs.size).filterMap fun a=>if a=L∨(g.get? a).isSome=true then none else (h.get? a).map fun o=>(a,o)
theorem J_ {g h:Heap} {L a:Addr} {o:Obj} (h1:a≠L) (h2:g.get? a=none) (h3:h.get? a=some o):(a,o)∈Bh g h L:=
  List.mem_filterMap.mpr ⟨a,List.mem_range.mpr (Heap.lt_size h3),by simp[h1,h2,h3]⟩
theorem Cy {g h:Heap} {L:Addr} {p:Addr×Obj} (hp:p∈Bh g h L):p.1≠L∧g.get? p.1=none∧h.get? p.1=some p.2:=by
  obtain⟨b,_,e⟩:=List.mem_filterMap.mp hp;split at e
  ·cases e
  · rename_i hn;cases q:h.get? b with
    | none=>rw[q] at e;simp at e
    | some u=>
      rw[q] at e;simp only[Option.map_some,Option.some.injEq] at e;subst e;refine⟨fun z=>hn (.inl z),?_,q⟩;show g.get? b=none;cases r:g.get? b with
      | none=>rfl
      | some v=>exact(hn (.inr (by simp[r]))).elim
def rest (g h:Heap) (L d:Addr):List (Addr×Obj):=(Bh g h L).filter fun p=>decide (p.1≠d)
theorem Zx {g h:Heap} {L d:Addr}:∀p∈rest g h L d,p.1≠d:=fun p hp=>of_decide_eq_true (List.mem_filter.mp hp).2
theorem Vu {g h:Heap} {L d a:Addr} {o:Obj} (h1:a≠L) (h2:g.get? a=none) (h3:h.get? a=some o) (h4:a≠d):(a,o)∈rest g h L d:=
  List.mem_filter.mpr ⟨J_ h1 h2 h3,decide_eq_true h4⟩
theorem Vv {g h:Heap} {L:Addr}:News g L h (Bh g h L):=fun p hp=>let ⟨a,b,c⟩:=Cy hp;⟨c,a,b⟩
theorem news_at {g h:Heap} {L d:Addr} {o:Obj} (h1:d≠L) (h2:g.get? d=none) (h3:h.get? d=some o):News g L h ((d,o)::rest g h L d):=fun p hp=>by
  rcases List.mem_cons.mp hp with rfl | hp
  ·exact⟨h3,h1,h2⟩
  ·exact Vv p (List.mem_filter.mp hp).1
theorem Hw {g h h':Heap} {L d:Addr} {m:Str→Option Value} (k:∀b o,g.get? b=some o→h.get? b=some o) (F:Fr g L h' m) (N:News g L h' (rest g h L d)) :
    ∀b o,b≠L→b≠d→h.get? b=some o→h'.get? b=some o:=fun b o h1 h2 e=>by
  cases q:g.get? b with
  | some u=>
    have:=k b u q;rw[e] at this;cases this;exact F.keep b _ q
  | none=>exact(N (b,o) (Vu h1 q e h2)).1
structure Mod (K:W.Frag) (mg:Str→Option Value) (base:Heap):Prop where
  M9:K.In base
  glob:base.Ns mainGlobals mg
  blt:∃mb,base.Ns builtinsNs mb∧∀x:Str,x≠ "__name__" →mb x=bootBuiltins x
  nolimit:base.NoLimit
set_option genInjectivity false in
structure Cx where
  prog:Program
  w:World
  K:W.Frag
  mg:Str→Option Value
  base:Heap
  A:Around
  N:List Str
  s₀:Shared
  H₀:Hp
  env:Env
  outer:List Env
  stack:List Env
  ex:List Addr
  fn:Str→Bool
  calm:Bool
  pn:List (Addr×Obj)
  xe:Value→Shared→Prop
def frs (l:List Env):List Addr:=l.filterMap (·.frame)
abbrev Cx.fs (X:Cx):List Addr:=frs X.outer
def Vis (sc:Scope) (x:Str):Prop:=sc.names.lookup x=some .local∨sc.names.lookup x=some .cell∨sc.names.lookup x=some .free
def Loc (sc:Scope) (x:Str):Prop:=sc.names.lookup x=some .local∨sc.names.lookup x=some .cell
def Look (env:Env) (h:Heap) (m:Str→Option Value) (x:Str) (u:Value):Prop:=
  (env.kindOf x=some .local∧m x=some u)∨((env.kindOf x=some .cell∨env.kindOf x=some .free)∧∃c,env.cells.lookup x=some c∧h.IsCell c (some u))
structure Cx.Ok (X:Cx):Prop where
  mod:Mod X.K X.mg X.base
  kind:X.env.scope.kind = .function
  glob:X.env.globals=mainGlobals
  blt:X.env.builtins=builtinsNs
  above:X.s₀.heap.objs.size≤X.env.locals
  inj:∀x y c,X.env.cells.lookup x=some c→X.env.cells.lookup y=some c→x=y
  has:∀x,(X.env.kindOf x=some .cell∨X.env.kindOf x=some .free)→∃c,X.env.cells.lookup x=some c
  cab:∀x c,X.fn x=true→X.env.cells.lookup x=some c→X.s₀.heap.objs.size≤c
  hd:X.calm=true→X.A.handled=none
  frames:X.A.frames=some X.stack
  stk:X.stack=X.outer∨(X.stack=X.env::X.outer∧X.env.frame=some X.env.locals)
  exf:∀b∈X.ex,b≠X.env.locals∧∀x c,X.env.cells.lookup x=some c→c≠b
  bs:∀b o,X.base.get? b=some o→X.s₀.heap.get? b=some o∧X.H₀ b=none
  RP:X.base.objs.size≤X.s₀.heap.objs.size
  Ka:∀b o,X.base.get? b=some o→b∉X.ex
  Kc:∀b∈X.ex,b∉X.fs
  vN:X.s₀.heap.FunFrames X.base X.outer
  Zn:∀b∈X.fs,X.H₀ b=none
structure Inv (X:Cx) (p_:List (Addr×Obj)) (σ:List (Option V)) (H:Hp) (s:Shared):Prop where
  ok:X.Ok
  os:s.os=X.s₀.os
  bare:AllBare s.gens
  base:Un X.fs X.ex X.H₀ H X.s₀.heap s.heap
  loc:∃m,s.heap.Ns X.env.locals m∧∀(i:Nat) (x:Str) (v:V),X.N[i]? = some x→σ[i]? = some (some v)→Vis X.env.scope x→∃u,RelV v u∧Look X.env s.heap m x u
  cell:∀x c,X.env.cells.lookup x=some c→∃v,s.heap.IsCell c v
  free:H X.env.locals=none
  iT:∀x c,X.env.cells.lookup x=some c→H c=none
  pin:∀p∈X.pn++p_,s.heap.get? p.1=some p.2∧H p.1=none∧p.1≠X.env.locals∧p.1∉X.fs∧∀v,p.2.data≠.cell v
  hok:sY X.prog X.w H s.heap
  len:σ.length=X.N.length
section
variable {X:Cx} {p_:List (Addr×Obj)} {σ:List (Option V)} {H H':Hp} {s:Shared} {h':Heap}
theorem Cx.Ok.qk6 (ok:X.Ok) {b:Addr} {o:Obj} (e:X.base.get? b=some o):b∉X.fs:=fun hb=>by
  have:=(ok.vN.mem hb).1;rw[e] at this;cases this
theorem Inv.bs (I:Inv X p_ σ H s):∀b o,X.base.get? b=some o→s.heap.get? b=some o∧H b=none:=fun b o e=>
  ⟨I.base.keep b o (I.ok.bs b o e).1 (I.ok.bs b o e).2 (I.ok.qk6 e) (I.ok.Ka b o e),I.base.free b o (I.ok.bs b o e).1 (I.ok.bs b o e).2 (I.ok.Ka b o e)⟩
theorem Inv.bk (I:Inv X p_ σ H s):∀b o,X.base.get? b=some o→s.heap.get? b=some o:=fun b o e=>(I.bs b o e).1
theorem Inv.mod (I:Inv X p_ σ H s):Mod X.K X.mg X.base:=I.ok.mod
theorem Inv.oO (I:Inv X p_ σ H s):X.K.In s.heap:=I.ok.mod.M9.keeps I.bk
theorem Inv.fr (I:Inv X p_ σ H s):∃m,Fr X.base X.env.locals s.heap m:=
  let ⟨m,hn,_⟩:=I.loc
  ⟨m,hn,I.bk,Nat.le_trans I.ok.RP I.ok.above⟩
theorem Inv.lt (I:Inv X p_ σ H s):X.env.locals<s.heap.objs.size:=let ⟨_,hn,_⟩:=I.loc;hn.lt
theorem Inv.sz (I:Inv X p_ σ H s):X.s₀.heap.objs.size≤s.heap.objs.size:=Nat.le_trans I.ok.above (Nat.le_of_lt I.lt)
theorem Inv.qk7 (I:Inv X p_ σ H s) {a:Addr} (h:s.heap.objs.size≤a):a∉X.fs:=fun hb=>by
  obtain⟨_,o,ho,_⟩:=I.ok.vN.mem hb;exact absurd (Nat.lt_of_lt_of_le (Heap.lt_size ho) (Nat.le_trans I.sz h)) (Nat.lt_irrefl _)
theorem Inv.Zy (I:Inv X p_ σ H s):∀x c,X.env.cells.lookup x=some c→c≠X.env.locals:=fun x c e z=>by
  obtain⟨v,o,ho,hd⟩:=I.cell x c e;obtain⟨m,⟨o',es,ep,ho',hd',_⟩,_⟩:=I.loc;rw[z,ho'] at ho;cases ho;rw[hd'] at hd;cases hd
theorem Inv.vN (I:Inv X p_ σ H s):s.heap.FunFrames X.base X.outer:=by
  have all:∀(l:List Env),(∀b∈frs l,b∈X.fs)→X.s₀.heap.FunFrames X.base l→s.heap.FunFrames X.base l:=by
    intro l
    induction l with
    | nil=>intro _ _;trivial
    | cons env r ih=>
      intro hs hl;obtain⟨hk,⟨L,o,hf,hn,ho,hd⟩,hr⟩:=hl;have hL:L∈X.fs:=hs L (by unfold frs;rw[List.filterMap_cons,hf];exact List.mem_cons_self);obtain⟨sl,e⟩:=I.base.slot L o ho (I.ok.Zn L hL) hL fun z=>I.ok.Kc L z hL;exact⟨hk,⟨L,_,hf,hn,e,hd⟩,ih (fun b hb=>hs b (by unfold frs;rw[List.filterMap_cons,hf];exact List.mem_cons_of_mem _ hb)) hr⟩
  exact all X.outer (fun _ hb=>hb) I.ok.vN
theorem Inv.stack (I:Inv X p_ σ H s):s.heap.FunFrames X.base X.stack:=by
  rcases I.ok.stk with e | ⟨e,hf⟩
  ·rw[e];exact I.vN
  ·rw[e];obtain⟨m,hn,_⟩:=I.loc;refine .cons (by rw[I.ok.kind];decide) hf hn ?_ I.vN;exact Heap.get?_none_of_le (Nat.le_trans I.ok.RP I.ok.above)
theorem Inv.wk (I:Inv X p_ σ H s):∀b∈frs X.stack,b∈X.env.locals::X.fs:=fun b hb=>by
  rcases I.ok.stk with e | ⟨e,hf⟩
  ·rw[e] at hb;exact List.mem_cons_of_mem _ hb
  ·rw[e] at hb;unfold frs at hb;rw[List.filterMap_cons,hf] at hb;exact hb
theorem Inv.Bj (I:Inv X p_ σ H s):∀b∈frs X.stack,H b=none:=fun b hb=>by
  rcases List.mem_cons.mp (I.wk b hb) with e | hb
  ·rw[e];exact I.free
  ·obtain⟨_,o,ho,_⟩:=I.ok.vN.mem hb;exact I.base.free b o ho (I.ok.Zn b hb) fun z=>I.ok.Kc b z hb
theorem Inv.step {g':Array GenState} {t':Nat} {d':Drawn} {ch:List Addr} (I:Inv X p_ σ H s)
    (hch:∀b∈ch,(b∈X.ex∨X.s₀.heap.objs.size≤b)∧b≠X.env.locals∧(∀x c,X.env.cells.lookup x=some c→c≠b)∧∀p∈X.pn++p_,p.1≠b)
    (keep:∀b o,b≠X.env.locals→b∉X.fs→b∉ch→s.heap.get? b=some o→H b=none→h'.get? b=some o)
    (slot:∀b o,b≠X.env.locals→b∈X.fs→b∉ch→s.heap.get? b=some o→H b=none→∃sl,h'.get? b=some {o with slots:=sl}) (free:∀b o,b∉ch→s.heap.get? b=some o→H b=none→H' b=none)
    (there:∀b o,b∉ch→s.heap.get? b=some o→∃o',h'.get? b=some o')
    (tups:∀b xs,H b=some (.tup xs)→H' b=some (.tup xs)) (oR:∀b o u,H b=some (.gw o u)→H' b=some (.gw o u)) (qm:∀b ps,H b=some (.tbl ps)→∃more,H' b=some (.tbl (ps++more)))
    (ns:∀m,s.heap.Ns X.env.locals m→h'.Ns X.env.locals m) (hok:sY X.prog X.w H' h') (hg:AllBare g') :
    Inv X p_ σ H' {s with heap:=h',gens:=g',drawn:=d',toks:=t'}:=by
  have neL:∀b o,X.s₀.heap.get? b=some o→b≠X.env.locals:=fun b o e=>Nat.ne_of_lt (Nat.lt_of_lt_of_le (Heap.lt_size e) I.ok.above);have neC:∀b o,X.s₀.heap.get? b=some o→b∉X.ex→b∉ch:=fun b o e hx hb=>by
    rcases(hch b hb).1 with z | z
    ·exact hx z
    ·exact absurd (Nat.lt_of_lt_of_le (Heap.lt_size e) z) (Nat.lt_irrefl _)
  have cellK:∀x c,X.env.cells.lookup x=some c→∀v,s.heap.IsCell c v→h'.IsCell c v:=fun x c e v ⟨o,ho,hd⟩=>by
    have nch:c∉ch:=fun z=>(hch c z).2.2.1 x c e rfl
    by_cases hc:c∈X.fs
    ·obtain⟨sl,q⟩:=slot c o (I.Zy x c e) hc nch ho (I.iT x c e);exact⟨_,q,hd⟩
    ·exact⟨o,keep c o (I.Zy x c e) hc nch ho (I.iT x c e),hd⟩
  refine⟨I.ok,I.os,hg,⟨fun b o e n hb hx=>?_,fun b o e n hb hx=>?_,fun b o e n hx=>?_,fun b o e hx=>?_,fun b xs e=>tups b xs (I.base.tups b xs e),fun b o xs e=>oR b o xs (I.base.oR b o xs e),fun b ps e=>?_⟩,?_,fun x c e=>?_,?_,fun x c e=>?_,fun p hp=>?_,hok,I.len⟩
  ·exact keep b o (neL b o e) hb (neC b o e hx) (I.base.keep b o e n hb hx) (I.base.free b o e n hx)
  ·obtain⟨sl,e1⟩:=I.base.slot b o e n hb hx;obtain⟨sl',e2⟩:=slot b _ (neL b o e) hb (neC b o e hx) e1 (I.base.free b o e n hx);exact⟨sl',e2⟩
  ·obtain⟨o',e1⟩:=I.base.there b o e hx;exact free b o' (neC b o e hx) e1 (I.base.free b o e n hx)
  ·obtain⟨o',e1⟩:=I.base.there b o e hx;exact there b o' (neC b o e hx) e1
  ·obtain⟨m1,e1⟩:=I.base.qm b ps e;obtain⟨m2,e2⟩:=qm b _ e1;exact⟨m1++m2,by rw[e2,Array.append_assoc]⟩
  · obtain⟨m,hn,hl⟩:=I.loc;refine⟨m,ns m hn,fun i x v e1 e2 e3=>?_⟩;obtain⟨u,r,l⟩:=hl i x v e1 e2 e3;refine⟨u,r,?_⟩
    rcases l with l | ⟨k,c,e,z⟩
    ·exact .inl l
    ·exact .inr ⟨k,c,e,cellK x c e _ z⟩
  ·obtain⟨v,z⟩:=I.cell x c e;exact⟨v,cellK x c e v z⟩
  ·obtain⟨m,⟨o,_,_,ho,_⟩,_⟩:=I.loc;exact free _ o (fun z=>(hch _ z).2.1 rfl) ho I.free
  ·obtain⟨v,o,ho,hd⟩:=I.cell x c e;exact free c o (fun z=>(hch c z).2.2.1 x c e rfl) ho (I.iT x c e)
  ·obtain⟨e,n,ne,nf,d⟩:=I.pin p hp;have nch:p.1∉ch:=fun z=>(hch p.1 z).2.2.2 p hp rfl;exact⟨keep p.1 p.2 ne nf nch e n,free p.1 p.2 nch e n,ne,nf,d⟩
theorem Inv.un {t':Nat} (I:Inv X p_ σ H s) (u:Un X.fs [] H H' s.heap h') (hok:sY X.prog X.w H' h'):Inv X p_ σ H' {s with heap:=h',toks:=t'}:=by
  obtain⟨m,⟨o,es,ep,ho,r⟩,_⟩:=id I.loc;obtain⟨sl,hL⟩:=u.any ho I.free (by simp);exact I.step (g':=s.gens) (d':=s.drawn) (ch:=[]) (fun _ z=>nomatch z) (fun b o _ hb _ e n=>u.keep b o e n hb (by simp)) (fun b o _ hb _ e n=>u.slot b o e n hb (by simp)) (fun b o _ e n=>u.free b o e n (by simp)) (fun b o _ e=>u.there b o e (by simp)) u.tups u.oR u.qm (fun m' hm=>by
    obtain⟨o',es',ep',ho',r'⟩:=hm;rw[ho] at ho';cases ho';exact⟨_,es',ep',hL,r'⟩) hok I.bare
theorem Inv.call {g':Array GenState} {t':Nat} {d':Drawn} {ch:List Addr} (I:Inv X p_ σ H s) (u:Un (frs X.stack) ch H H' s.heap h') (hok:sY X.prog X.w H' h') (hg:AllBare g')
    (hch:∀b∈ch,(b∈X.ex∨X.s₀.heap.objs.size≤b)∧b≠X.env.locals∧(∀x c,X.env.cells.lookup x=some c→c≠b)∧∀p∈X.pn++p_,p.1≠b) :
    Inv X p_ σ H' {s with heap:=h',gens:=g',drawn:=d',toks:=t'}:=by
  obtain⟨m,⟨o,es,ep,ho,r⟩,_⟩:=id I.loc;obtain⟨sl,hL⟩:=u.any ho I.free fun z=>(hch _ z).2.1 rfl;exact I.step (ch:=ch) hch (fun b o hL hb hc e n=>u.keep b o e n (fun z=>(List.mem_cons.mp (I.wk b z)).elim hL hb) hc) (fun b o _ _ hc e n=>u.any e n hc) (fun b o hc e n=>u.free b o e n hc) (fun b o hc e=>u.there b o e hc) u.tups u.oR u.qm (fun m' hm=>by
    obtain⟨o',es',ep',ho',r'⟩:=hm;rw[ho] at ho';cases ho';exact⟨_,es',ep',hL,r'⟩) hok hg
theorem Inv.turned {t':Nat} {it:Addr} (I:Inv X p_ σ H s) (k:∀b o,b≠it→s.heap.get? b=some o→h'.get? b=some o) (hn:H it=none) (hL:it≠X.env.locals)
    (h1:it∈X.ex∨X.s₀.heap.objs.size≤it) (h2:∀x c,X.env.cells.lookup x=some c→c≠it) (h3:∀p∈X.pn++p_,p.1≠it):Inv X p_ σ H {s with heap:=h',toks:=t'}:=by
  have nit:∀b u,H b=some u→b≠it:=fun b u e z=>by rw[z,hn] at e;cases e
  refine I.step (g':=s.gens) (d':=s.drawn) (ch:=[it]) (fun b hb=>?_) (fun b o _ _ hc e _=>k b o (fun z=>hc (by simp[z])) e) (fun b o _ _ hc e _=>⟨o.slots,k b o (fun z=>hc (by simp[z])) e⟩) (fun _ _ _ _ n=>n)
    (fun b o hc e=>⟨o,k b o (fun z=>hc (by simp[z])) e⟩) (fun _ _ e=>e) (fun _ _ _ e=>e) (fun b ps e=>⟨#[],by rw[e];simp⟩) (fun m hm=>?_) (fun b u e=>?_) I.bare
  · have e:b=it:=by simpa using hb
    subst e;exact⟨h1,hL,h2,h3⟩
  ·obtain⟨o,es,ep,ho,r⟩:=hm;exact⟨o,es,ep,k _ o (Ne.symm hL) ho,r⟩
  · refine(I.hok b u e).stay (fun c v hc q=>k c v ?_ q) (fun _ q=>q) fun _ _ q=>q
    rcases hc with z | z
    ·rw[z];exact nit b u e
    ·exact nit c _ z
theorem Inv.tok (I:Inv X p_ σ H s) (t:Nat):Inv X p_ σ H {s with toks:=t}:=I.un (h':=s.heap) (t':=t) Un.refl I.hok
theorem Inv.kept {t':Nat} (I:Inv X p_ σ H s) (k:∀b u,s.heap.get? b=some u→h'.get? b=some u):Inv X p_ σ H {s with heap:=h',toks:=t'}:=I.un (Un.kept k) (I.hok.kept k)
theorem Inv.laid {a:Addr} {o:HO} {t':Nat} (I:Inv X p_ σ H s) (k:∀b u,s.heap.get? b=some u→h'.get? b=some u) (hp:s.heap.objs.size≤a) (new:b_ X.prog X.w (upd H a o) h' a o) :
    Inv X p_ σ (upd H a o) {s with heap:=h',toks:=t'}:=I.un (Un.laid k hp (I.hok.fresh hp)) (I.hok.laid k hp new)
theorem Inv.write {x e:Addr} {o:HO} {t':Nat} (I:Inv X p_ σ H s) (mu:Mut (H x)) (he:e=x∨H e=some (.own x)) (k:∀b u,b≠e→s.heap.get? b=some u→h'.get? b=some u) (heo:∃u,h'.get? e=some u)
    (new:b_ X.prog X.w (upd H x o) h' x o):Inv X p_ σ (upd H x o) {s with heap:=h',toks:=t'}:=I.un (Un.write mu he k heo) (I.hok.write mu he k heo new)
theorem Inv.Qt {tO:List (Addr×Obj)} (I:Inv X p_ σ H s) (h:∀p∈tO,s.heap.get? p.1=some p.2∧H p.1=none∧p.1≠X.env.locals∧p.1∉X.fs∧∀v,p.2.data≠.cell v):Inv X tO σ H s:=
  ⟨I.ok,I.os,I.bare,I.base,I.loc,I.cell,I.free,I.iT,fun p hp=>(List.mem_append.mp hp).elim (fun z=>I.pin p (List.mem_append_left _ z)) (h p),I.hok,I.len⟩
theorem Cz {N:List Str} (hN:N.Nodup) {i j:Nat} {x:Str} (a:N[i]? = some x) (b:N[j]? = some x):i=j:=by
  obtain⟨h1,e1⟩:=List.getElem?_eq_some_iff.mp a;obtain⟨h2,e2⟩:=List.getElem?_eq_some_iff.mp b;exact(List.getElem_inj hN).mp (e1.trans e2.symm)
theorem uU {M:Model} {A:Around} {E:Value→Shared→Prop} {i:Nat} {x:Str} {v:V} {u:Value} {Q:Unit→Shared→Prop} (I:Inv X p_ σ H s) (hN:X.N.Nodup) (hi:X.N[i]? = some x) (hx:Loc X.env.scope x) (r:RelV v u)
    (h:∀s',Inv X p_ (σ.set i (some v)) H s'→(∃a,Heap.SameBut a s.heap s'.heap∧(a=X.env.locals∨X.env.cells.lookup x=some a))→Q () s') (hf:X.fn x=true∨X.env.scope.names.lookup x=some .local:=by first | exact .inl rfl | exact .inr rfl | assumption):wpAny M A (storeName X.env x u) Q E s:=by
  obtain⟨m,hn,hl⟩:=id I.loc;have hcls:(X.env.scope.kind == .class || (X.env.scope.kind == .module && X.env.locals != X.env.globals))=false:=by rw[I.ok.kind];rfl
  have hiσ:i<σ.length:=by rw[I.len];exact(List.getElem?_eq_some_iff.mp hi).1
  have Zy:=I.Zy;have tracked:∀{a:Addr} {h':Heap},(∃o,s.heap.get? a=some o∧H a=none)→Heap.SameBut a s.heap h'→sY X.prog X.w H h':=fun {a h'} ha hs b ob e=>by
    obtain⟨_,_,hfree⟩:=ha;refine(I.hok b ob e).stay (fun c w' hc q=>(hs.2 c ?_).trans q) (fun _ q=>q) fun _ _ q=>q;rintro rfl
    rcases hc with rfl | hc
    ·rw[hfree] at e;cases e
    ·rw[hfree] at hc;cases hc
  rcases hx with hk | hk
  · refine wpAny_storeName_local hk hn (fun h' hn' hs=>?_) hcls;obtain⟨oL,_,_,hoL,_⟩:=id hn;refine h _ ⟨I.ok,I.os,I.bare,⟨fun b o e n hb hx=>?_,fun b o e n hb hx=>?_,I.base.free,fun b o e hx=>?_,I.base.tups,I.base.oR,I.base.qm⟩,⟨_,hn',fun j y v' e1 e2 e3=>?_⟩,fun y c e=>?_,I.free,I.iT,fun p hp=>?_,tracked ⟨oL,hoL,I.free⟩ hs,by simpa using I.len⟩ ⟨_,hs,.inl rfl⟩
    ·exact(hs.2 b (Nat.ne_of_lt (Nat.lt_of_lt_of_le (Heap.lt_size e) I.ok.above))).trans (I.base.keep b o e n hb hx)
    ·obtain⟨sl,e1⟩:=I.base.slot b o e n hb hx;exact⟨sl,(hs.2 b (Nat.ne_of_lt (Nat.lt_of_lt_of_le (Heap.lt_size e) I.ok.above))).trans e1⟩
    ·obtain⟨o',e1⟩:=I.base.there b o e hx;exact⟨o',(hs.2 b (Nat.ne_of_lt (Nat.lt_of_lt_of_le (Heap.lt_size e) I.ok.above))).trans e1⟩
    · by_cases hj:j=i
      ·subst hj;rw[hi] at e1;cases e1;rw[List.getElem?_set_self hiσ] at e2;cases e2;exact⟨u,r,.inl ⟨hk,by simp⟩⟩
      · rw[List.getElem?_set_ne (Ne.symm hj)] at e2;obtain⟨u',r',q⟩:=hl j y v' e1 e2 e3;refine⟨u',r',?_⟩
        rcases q with⟨k,e⟩ | ⟨k,c,e,z⟩
        ·refine .inl ⟨k,?_⟩;have:y≠x:=fun e=>hj (Cz hN e1 (e▸hi));simp[this,e]
        ·exact .inr ⟨k,c,e,z.sameBut hs (Zy y c e)⟩
    ·obtain⟨w',z⟩:=I.cell y c e;exact⟨w',z.sameBut hs (Zy y c e)⟩
    ·obtain⟨e,n,ne,nf,d⟩:=I.pin p hp;exact⟨(hs.2 p.1 ne).trans e,n,ne,nf,d⟩
  · have hfn:X.fn x=true:=by
      rcases hf with z | z
      ·exact z
      ·rw[z] at hk;cases hk
    obtain⟨c,hc⟩:=I.ok.has x (.inl hk);obtain⟨w',z⟩:=I.cell x c hc;refine wpAny_storeName_cell I.ok.kind hk hc z (fun h' hc' hs=>?_);obtain⟨oc,hoc,qk8⟩:=id z;refine h {s with heap:=h'} ⟨I.ok,I.os,I.bare,⟨fun b o e n hb hx=>?_,fun b o e n hb hx=>?_,I.base.free,fun b o e hx=>?_,I.base.tups,I.base.oR,I.base.qm⟩,⟨m,hn.sameBut hs (Ne.symm (Zy x c hc)),fun j y v' e1 e2 e3=>?_⟩,fun y c' e=>?_,I.free,I.iT,fun p hp=>?_,tracked ⟨oc,hoc,I.iT x c hc⟩ hs,by simpa using I.len⟩ ⟨c,hs,.inr hc⟩
    ·exact(hs.2 b (Nat.ne_of_lt (Nat.lt_of_lt_of_le (Heap.lt_size e) (I.ok.cab x c hfn hc)))).trans (I.base.keep b o e n hb hx)
    ·obtain⟨sl,e1⟩:=I.base.slot b o e n hb hx;exact⟨sl,(hs.2 b (Nat.ne_of_lt (Nat.lt_of_lt_of_le (Heap.lt_size e) (I.ok.cab x c hfn hc)))).trans e1⟩
    ·obtain⟨o',e1⟩:=I.base.there b o e hx;exact⟨o',(hs.2 b (Nat.ne_of_lt (Nat.lt_of_lt_of_le (Heap.lt_size e) (I.ok.cab x c hfn hc)))).trans e1⟩
    · by_cases hj:j=i
      ·subst hj;rw[hi] at e1;cases e1;rw[List.getElem?_set_self hiσ] at e2;cases e2;exact⟨u,r,.inr ⟨.inl hk,c,hc,hc'⟩⟩
      · rw[List.getElem?_set_ne (Ne.symm hj)] at e2;obtain⟨u',r',q⟩:=hl j y v' e1 e2 e3;refine⟨u',r',?_⟩
        rcases q with q | ⟨k,c',e,z'⟩
        ·exact .inl q
        ·refine .inr ⟨k,c',e,z'.sameBut hs ?_⟩;rintro rfl;exact hj (Cz hN e1 (I.ok.inj _ _ _ e hc▸hi))
    · by_cases hcc:c'=c
      ·subst hcc;exact⟨_,hc'⟩
      ·obtain⟨w2,z2⟩:=I.cell y c' e;exact⟨w2,z2.sameBut hs hcc⟩
    ·obtain⟨e,n,ne,nf,d⟩:=I.pin p hp;refine⟨(hs.2 p.1 ?_).trans e,n,ne,nf,d⟩;intro q;rw[q,hoc] at e;have q':oc=p.2:=Option.some.inj e;exact d w' (by rw[← q'];exact qk8)
theorem CG {M:Model} {A:Around} {E:Value→Shared→Prop} {i:Nat} {x:Str} {v:V} {u:Value} {Q:Unit→Shared→Prop} (I:Inv X p_ σ H s) (hN:X.N.Nodup) (hi:X.N[i]? = some x) (hx:Loc X.env.scope x) (r:RelV v u)
    (h:∀s',Inv X p_ (σ.set i (some v)) H s'→Q () s') (hf:X.fn x=true∨X.env.scope.names.lookup x=some .local:=by first | exact .inl rfl | exact .inr rfl | assumption):wpAny M A (storeName X.env x u) Q E s:=
  uU I hN hi hx r (fun s' I' _=>h s' I') hf
theorem Inv.call' {s':Shared} {ch:List Addr} (I:Inv X p_ σ H s) (ho:s'.os=s.os) (u:Un (frs X.stack) ch H H' s.heap s'.heap) (hok:sY X.prog X.w H' s'.heap) (hg:AllBare s'.gens)
    (hch:∀b∈ch,(b∈X.ex∨X.s₀.heap.objs.size≤b)∧b≠X.env.locals∧(∀x c,X.env.cells.lookup x=some c→c≠b)∧∀p∈X.pn++p_,p.1≠b):Inv X p_ σ H' s':=by
  obtain⟨h',g',d',t',o'⟩:=s';have e:o'=s.os:=ho;subst e;exact I.call (g':=g') (t':=t') (d':=d') u hok hg hch
end
abbrev XK:=Value→Option Addr→Hp→Prop
abbrev St:=List (Option V)
abbrev VK:=V→Hp→Prop
abbrev TE:=St→Hp→VK→Prop
abbrev TT:=St→Hp→(Bool→Hp→Prop)→Prop
abbrev TA:=St→Hp→(List V→Hp→Prop)→Prop
structure Ends where
  nx:St→Hp→Prop
  rt:VK
  bk:St→Hp→Prop:=fun _ _=>False
  ct:St→Hp→Prop:=fun _ _=>False
abbrev TS:=Ends→St→Hp→Prop
def EP (X:Cx) (p_:List (Addr×Obj)) (σ:St) (Q:VK) (u:Value) (s':Shared):Prop:=∃v H',Inv X p_ σ H' s'∧RelV v u∧Q v H'
def TP (X:Cx) (p_:List (Addr×Obj)) (σ:St) (Q:Bool→Hp→Prop) (b:Bool) (s':Shared):Prop:=∃H',Inv X p_ σ H' s'∧Q b H'
def AP (X:Cx) (p_:List (Addr×Obj)) (σ:St) (Q:List V→Hp→Prop) (us:List Value) (s':Shared):Prop:=∃vs H',Inv X p_ σ H' s'∧Vals vs us∧Q vs H'
def SP (X:Cx) (p_:List (Addr×Obj)) (D:Ends) (f:Flow) (s':Shared):Prop:=
  match f with
  | .next=>∃σ' H',Inv X p_ σ' H' s'∧D.nx σ' H'
  | .brk=>∃σ' H',Inv X p_ σ' H' s'∧D.bk σ' H'
  | .cont=>∃σ' H',Inv X p_ σ' H' s'∧D.ct σ' H'
  | .ret u=>∃v σ' H',Inv X p_ σ' H' s'∧RelV v u∧D.rt v H'
def PE (X:Cx) (e:Expr) (t:TE):Prop:=
  ∀(p_:List (Addr×Obj)) (s:Shared) (σ:St) (H:Hp) (Q:VK),Inv X p_ σ H s→t σ H Q→wpAny (model X.prog X.w) X.A (eval e X.env) (EP X p_ σ Q) X.xe s
def PT (X:Cx) (e:Expr) (t:TT):Prop:=
  ∀(p_:List (Addr×Obj)) (s:Shared) (σ:St) (H:Hp) (Q:Bool→Hp→Prop),Inv X p_ σ H s→t σ H Q→wpAny (model X.prog X.w) X.A (isTrue e X.env (eval e X.env)) (TP X p_ σ Q) X.xe s
def PW (X:Cx) (e:Expr) (t:TT):Prop:=
  ∀(whole:Sem Value) (p_:List (Addr×Obj)) (s:Shared) (σ:St) (H:Hp) (Q:Bool→Hp→Prop),Inv X p_ σ H s→t σ H Q→wpAny (model X.prog X.w) X.A (isTrue e X.env whole) (TP X p_ σ Q) X.xe s
theorem PW.pt {X:Cx} {e:Expr} {t:TT} (h:PW X e t):PT X e t:=h _
def PA (X:Cx) (es:List Expr) (t:TA):Prop:=
  ∀(pos:Pos) (p_:List (Addr×Obj)) (s:Shared) (σ:St) (H:Hp) (Q:List V→Hp→Prop),Inv X p_ σ H s→t σ H Q→wpAny (model X.prog X.w) X.A (spliced (backTo pos (starEach es X.env))) (AP X p_ σ Q) X.xe s
def PS (X:Cx) (st:Stmt) (t:TS):Prop:=
  ∀(p_:List (Addr×Obj)) (s:Shared) (σ:St) (H:Hp) (D:Ends),Inv X p_ σ H s→t D σ H→wpAny (model X.prog X.w) X.A (exec st X.env) (SP X p_ D) X.xe s
def Bk (X:Cx) (st:List Stmt) (t:TS):Prop:=
  ∀(p_:List (Addr×Obj)) (s:Shared) (σ:St) (H:Hp) (D:Ends),Inv X p_ σ H s→t D σ H→wpAny (model X.prog X.w) X.A (execs st X.env) (SP X p_ D) X.xe s
theorem cY {α:Type} {t:Sem α} {Q Q':α→Shared→Prop} {M:Model} {A:Around} {E:Value→Shared→Prop} {s:Shared} (h:wpAny M A t Q E s) (hQ:∀a s,Q a s→Q' a s):wpAny M A t Q' E s:=wpAny_mono h hQ fun _ _ x=>x
section
variable {X:Cx}
def qcd (i:Nat):TE:=fun σ H Q=>∃v,σ[i]? = some (some v)∧Q v H
def tC (v:V):TE:=fun _ H Q=>Q v H
theorem qce {i:Nat} {x:Str} {pos:Pos} (hN:X.N[i]? = some x) (hv:Vis X.env.scope x) (hd:(x == ("__debug__" : Str))=false:=by decide) (hcd:(x == ("__classdict__" : Str))=false:=by decide):PE X (.Name x pos) (qcd i):=by
  intro p_ s σ H Q I h;obtain⟨v,e,h⟩:=h;obtain⟨m,hn,hl⟩:=I.loc;obtain⟨u,r,l⟩:=hl i x v hN e hv;have fin:EP X p_ σ Q u s:=⟨v,H,I,r,h⟩
  rcases l with⟨hk,hm⟩ | ⟨hk,c,hc,hcell⟩
  ·exact wpAny_Name (wpAny_loadName_local I.ok.kind hk hn hm fin) hd
  · rcases hk with hk | hk
    ·exact wpAny_Name (wpAny_loadName_cell I.ok.kind hk hc hcell fin) hd
    ·exact wpAny_Name (wpAny_loadName_free I.ok.kind hk hc hcell fin hcd) hd
theorem aK {i j pos}:PE X (.Constant (.int i) j pos) (tC (.int i)):=fun _ _ _ H _ I h=>wpAny_Constant_int ⟨.int i,H,I.tok _,⟨_,rfl⟩,h⟩
theorem jT {b j pos}:PE X (.Constant (.bool b) j pos) (tC (.bl b)):=fun _ _ _ H _ I h=>Constant_bool ⟨.bl b,H,I,rfl,h⟩
theorem Hx {j pos}:PE X (.Constant .none j pos) (tC .non):=fun _ _ _ H _ I h=>Constant_none ⟨.non,H,I,rfl,h⟩
theorem mR {x j pos}:PE X (.Constant (.str x) j pos) (tC (.str x)):=fun _ _ _ H _ I h=>Calls.Constant_str ⟨.str x,H,I.tok _,⟨_,rfl⟩,h⟩
def Gl (X:Cx) (x:Str):Prop:=X.env.kindOf x=some .globalImplicit
theorem jH {E:Value→Shared→Prop} {p_:List (Addr×Obj)} {s:Shared} {σ:St} {H:Hp} {x:Str} {u:Value} {pos:Pos} {Q:Value→Shared→Prop} (I:Inv X p_ σ H s) (hg:Gl X x) (hm:X.mg x=some u) (h:Q u s)
    (hd:(x == ("__debug__" : Str))=false:=by decide):wpAny (model X.prog X.w) X.A (eval (.Name x pos) X.env) Q E s:=
  Calls.Name_function_global I.ok.kind hg (Calls.loadGlobal_global (by rw[I.ok.glob];exact I.mod.glob.keeps I.bk) hm h) hd
theorem qQ {E:Value→Shared→Prop} {p_:List (Addr×Obj)} {s:Shared} {σ:St} {H:Hp} {x:Str} {u:Value} {pos:Pos} {Q:Value→Shared→Prop} (I:Inv X p_ σ H s) (hg:Gl X x) (hm:X.mg x=none) (hv:bootBuiltins x=some u) (h:Q u s)
    (hn:x≠ "__name__" :=by decide) (hd:(x == ("__debug__" : Str))=false:=by decide):wpAny (model X.prog X.w) X.A (eval (.Name x pos) X.env) Q E s:=by
  obtain⟨mb,h1,h2⟩:=I.mod.blt;exact Calls.Name_function_global I.ok.kind hg (Calls.loadGlobal_builtin (by rw[I.ok.glob];exact I.mod.glob.keeps I.bk) hm (by rw[I.ok.blt];exact h1.keeps I.bk) ((h2 x hn).trans hv) h) hd
theorem Bl {x:Str} {v:V} {u:Value} {pos:Pos} (hg:Gl X x) (hm:X.mg x=some u) (r:RelV v u) (hd:(x == ("__debug__" : Str))=false:=by decide):PE X (.Name x pos) (tC v):=
  fun _ _ _ H _ I h=>jH I hg hm ⟨v,H,I,r,h⟩ hd
theorem jk {x:Str} {v:V} {u:Value} {pos:Pos} (hg:Gl X x) (hm:X.mg x=none) (hv:bootBuiltins x=some u) (r:RelV v u) (hn:x≠ "__name__" :=by decide) (hd:(x == ("__debug__" : Str))=false:=by decide):PE X (.Name x pos) (tC v):=
  fun _ _ _ H _ I h=>qQ I hg hm hv ⟨v,H,I,r,h⟩ hn hd
variable {a b:Expr} {ta tb:TE} {pos:Pos}
def PC (X:Cx) (op:CmpOp) (a b:Expr) (t:TE):Prop:=
  ∀(p_:List (Addr×Obj)) (s:Shared) (σ:St) (H:Hp) (Q:VK),Inv X p_ σ H s→t σ H Q→
    wpAny (model X.prog X.w) X.A (eval a X.env) (fun v s₁=>wpAny (model X.prog X.w) X.A (eval b X.env) (fun u s₂=>wpAny (model X.prog X.w) X.A (compareOp op v u) (EP X p_ σ Q) X.xe s₂) X.xe s₁) X.xe s
theorem Kd (b:Expr) {op:CmpOp} (h:op≠.In) (h2:op≠.NotIn):behindInMarks op b=false:=by
  have e1:(op == CmpOp.In)=false:=by cases op <;> first | rfl | exact absurd rfl h
  have e2:(op == CmpOp.NotIn)=false:=by cases op <;> first | rfl | exact absurd rfl h2
  cases b <;> simp[behindInMarks,e1,e2]
def tB (t:TE):TT:=fun σ H Q=>t σ H fun x H1=>∃c,x = .bl c∧Q c H1
theorem qcf {op:CmpOp} {t:TE} (h:PC X op a b t) (h1:behindInMarks op b=false:=by first | exact Kd _ (by decide) (by decide) | rfl):PT X (.Compare a [op] [b] pos) (tB t):=by
  intro p_ s σ H Q I hw;refine wpAny_isTrue_Compare1 (cY (h p_ s σ H _ I hw) fun v s1 h1=>cY h1 fun u s2 h2=>cY h2 fun c s3 zz=>?_) h1;obtain⟨x,H1,I1,r1,q1⟩:=zz;obtain⟨d,rfl,q⟩:=q1;cases r1;exact wpAny_truthy_bool ⟨H1,I1,q⟩
theorem qcg {e:Expr} {t:TE} (h:PE X e t) (he:∀whole,isTrue e X.env whole=(do let v ← whole;standAt e.pos;holding [v] (truthy v)):=by intro _;rfl):PT X e (tB t):=by
  intro p_ s σ H Q I hw;refine isTrue_plain (cY (h p_ s σ H _ I hw) fun v s1 zz=>?_) (he _);obtain⟨x,H1,I1,r1,q1⟩:=zz;obtain⟨d,rfl,q⟩:=q1;cases r1;exact wpAny_truthy_bool ⟨H1,I1,q⟩
variable {tA tB':TT} {rest:List Expr}
def qfa (t u:TT):TT:=fun σ H Q=>t σ H fun c H1=>if c=true then u σ H1 Q else Q false H1
def tOr (t u:TT):TT:=fun σ H Q=>t σ H fun c H1=>if c=true then Q true H1 else u σ H1 Q
def qfb (t:TT):TT:=fun σ H Q=>t σ H fun c H1=>Q (!c) H1
theorem Bm (ha:PT X a tA):PW X (.BoolOp .And [a] pos) tA:=by
  intro wh p_ s σ H Q I h;refine isTrue_and (cY (ha p_ s σ H Q I h) fun c s1 e=>?_);cases c with
  | true=>exact isTrue_and_nil e
  | false=>exact e
theorem nY (ha:PT X a tA):PW X (.BoolOp .Or [a] pos) tA:=by
  intro wh p_ s σ H Q I h;refine isTrue_or (cY (ha p_ s σ H Q I h) fun c s1 e=>?_);cases c with
  | false=>exact isTrue_or_nil e
  | true=>exact e
theorem zq (ha:PT X a tA) (hb:PW X (.BoolOp .And (b::rest) pos) tB'):PW X (.BoolOp .And (a::b::rest) pos) (qfa tA tB'):=by
  intro wh p_ s σ H Q I h;refine isTrue_and (cY (ha p_ s σ H _ I h) fun c s1 zz=>?_);obtain⟨H1,I1,q1⟩:=zz;cases c with
  | true=>exact hb wh p_ s1 σ H1 Q I1 q1
  | false=>exact⟨H1,I1,q1⟩
theorem qp (ha:PT X a tA) (hb:PW X (.BoolOp .Or (b::rest) pos) tB'):PW X (.BoolOp .Or (a::b::rest) pos) (tOr tA tB'):=by
  intro wh p_ s σ H Q I h;refine isTrue_or (cY (ha p_ s σ H _ I h) fun c s1 zz=>?_);obtain⟨H1,I1,q1⟩:=zz;cases c with
  | true=>exact⟨H1,I1,q1⟩
  | false=>exact hb wh p_ s1 σ H1 Q I1 q1
theorem dN (ha:PT X a tA):PT X (.UnaryOp .Not a pos) (qfb tA):=by
  intro p_ s σ H Q I h;exact isTrue_not (ha p_ s σ H (fun c H1=>Q (!c) H1) I h)
def Vw (ta tb:TE):TE:=fun σ H Q=>ta σ H fun x H1=>∃c,x = .bl c∧if c=true then tb σ H1 Q else Q (.bl false) H1
def Vx (ta:TE):TE:=fun σ H Q=>ta σ H fun x H1=>∃c,x = .bl c∧Q (.bl (!c)) H1
theorem nZ {op} {t:TE} (h:PE X a t):PE X (.BoolOp op [a] pos) t:=fun p_ s σ H Q I hw=>BoolOp_one (h p_ s σ H Q I hw)
theorem qch (ha:PE X a ta) (hb:PE X (.BoolOp .And (b::rest) pos) tb):PE X (.BoolOp .And (a::b::rest) pos) (Vw ta tb):=by
  intro p_ s σ H Q I h;refine BoolOp_and (cY (ha p_ s σ H _ I h) fun v s1 zz=>?_);obtain⟨x,H1,I1,r1,q1⟩:=zz;obtain⟨c,rfl,q1⟩:=q1;cases r1;refine wpAny_truthy_bool ?_;cases c with
  | true=>exact hb p_ s1 σ H1 Q I1 q1
  | false=>exact⟨.bl false,H1,I1,rfl,q1⟩
theorem qci (ha:PE X a ta):PE X (.UnaryOp .Not a pos) (Vx ta):=by
  intro p_ s σ H Q I h;refine UnaryOp_ (cY (ha p_ s σ H _ I h) fun v s1 zz=>?_);obtain⟨x,H1,I1,r1,q1⟩:=zz;obtain⟨c,rfl,q1⟩:=q1;cases r1;exact not_of (wpAny_truthy_bool ⟨.bl (!c),H1,I1,rfl,q1⟩)
def tIf (t:TT) (ta tb:TE):TE:=fun σ H Q=>t σ H fun c H1=>if c=true then ta σ H1 Q else tb σ H1 Q
theorem Ke {c:Expr} (hc:PT X c tA) (ha:PE X a ta) (hb:PE X b tb):PE X (.IfExp c a b pos) (tIf tA ta tb):=by
  intro p_ s σ H Q I h;refine wpAny_IfExp (cY (hc p_ s σ H _ I h) fun d s1 zz=>?_);obtain⟨H1,I1,q1⟩:=zz;cases d with
  | true=>exact ha p_ s1 σ H1 Q I1 q1
  | false=>exact hb p_ s1 σ H1 Q I1 q1
end
def bw (K:W.Frag) (H:Hp) (a:Addr) (xs:List V):Prop:=
  Rd H a (.lst xs)∨
    ∃(o:Obj) (its:Array Value) (n:Nat),K.lookup a=some o∧o.cls = .type "list" ∧o.dict=none∧o.data = .seq its n∧its.size≤sizeLine∧Vals xs its.toList
def dW (K:W.Frag) (H:Hp) (a:Addr) (xs:List V):Prop:=
  Rd H a (.tup xs)∨
    ∃(o:Obj) (its:Array Value) (n:Nat),K.lookup a=some o∧o.cls = .type "tuple" ∧o.data = .seq its n∧its.size≤sizeLine∧Vals xs its.toList
def qk9:Value→Option V
  | .none=>some .non
  | .bool b=>some (.bl b)
  | .int i _=>some (.int i)
  | .str x _=>some (.str x)
  | .bytes b _=>some (.Vi b)
  | .float b _=>some (.flt b)
  | .ref a=>some (.ref a)
  | .type n=>some (.ty n)
  | _=>none
theorem RelV.abs {x:V} {u:Value} (r:RelV x u):qk9 u=some x:=by
  cases x with
  | non=>cases r;rfl
  | bl _=>cases r;rfl
  | int _=>obtain⟨t,rfl⟩:=r;rfl
  | str _=>obtain⟨t,rfl⟩:=r;rfl
  | Vi _=>obtain⟨t,rfl⟩:=r;rfl
  | flt _=>obtain⟨t,rfl⟩:=r;rfl
  | ref _=>cases r;rfl
  | ty _=>cases r;rfl
theorem RelV.inj {x y:V} {u:Value} (r:RelV x u) (q:RelV y u):x=y:=Option.some.inj (r.abs.symm.trans q.abs)
theorem Vals.inj:∀{xs ys:List V} {us:List Value},Vals xs us→Vals ys us→xs=ys
  | _,_,_,.nil,.nil=>rfl
  | _,_,_,.cons r t,.cons r' t'=>by rw[r.inj r',Vals.inj t t']
section
variable {X:Cx} {p_:List (Addr×Obj)} {σ:St} {H:Hp} {s:Shared} {a:Addr} {xs ys:List V}
theorem bw.of {K:W.Frag} (h:H a=some (.lst xs)):bw K H a xs:=.inl (.inl h)
theorem dW.of {K:W.Frag} (h:H a=some (.tup xs)):dW K H a xs:=.inl (.inl h)
theorem Inv.list (I:Inv X p_ σ H s) (h:bw X.K H a xs):∃its:List Value,Vals xs its∧PlainL s.heap a its.toArray∧xs.length≤sizeLine:=by
  rcases h with h | ⟨o,its,n,hk,hc,hd,hs,hz,r⟩
  ·obtain⟨z,its,n,r,e⟩:=h.ok I.hok;exact⟨its,r,⟨_,n,e,rfl,rfl,rfl⟩,z⟩
  ·refine⟨its.toList,r,⟨o,n,I.oO a o hk,hc,hd,by simpa using hs⟩,?_⟩;have e:=r.length;simp only[Array.length_toList] at e;omega
theorem Inv.tuple (I:Inv X p_ σ H s) (h:dW X.K H a xs):∃its:List Value,Vals xs its∧IsTup s.heap a its.toArray∧xs.length≤sizeLine:=by
  rcases h with h | ⟨o,its,n,hk,hc,hs,hz,r⟩
  ·obtain⟨z,its,r,p⟩:=h.ok I.hok;exact⟨its,r,p,z⟩
  ·refine⟨its.toList,r,⟨o,I.oO a o hk,hc,n,by simpa using hs⟩,?_⟩;have e:=r.length;simp only[Array.length_toList] at e;omega
theorem Inv.xr (I:Inv X p_ σ H s) (h:bw X.K H a xs) (h':bw X.K H a ys):xs=ys:=by
  obtain⟨its,r,⟨o,n,e,_,_,d⟩,_⟩:=I.list h;obtain⟨its',r',⟨o',n',e',_,_,d'⟩,_⟩:=I.list h';rw[e] at e';cases e';rw[d] at d';injection d' with d1 _;have:its=its':=by simpa using congrArg Array.toList d1
  subst this;exact r.inj r'
theorem Inv.RQ (I:Inv X p_ σ H s) (h:dW X.K H a xs) (h':dW X.K H a ys):xs=ys:=by
  obtain⟨its,r,⟨o,e,_,n,d⟩,_⟩:=I.tuple h;obtain⟨its',r',⟨o',e',_,n',d'⟩,_⟩:=I.tuple h';rw[e] at e';cases e';rw[d] at d';injection d' with d1 _;have:its=its':=by simpa using congrArg Array.toList d1
  subst this;exact r.inj r'
end
abbrev Cx.wish (X:Cx) (E:Value→Shared→Prop):Cx:={X with xe:=E}
abbrev Cx.Vj (X:Cx):Cx:=X.wish fun _ _=>False
theorem Cx.Ok.wish {X:Cx} (ok:X.Ok) (E:Value→Shared→Prop):(X.wish E).Ok:=
  ⟨ok.mod,ok.kind,ok.glob,ok.blt,ok.above,ok.inj,ok.has,ok.cab,ok.hd,ok.frames,ok.stk,ok.exf,ok.bs,ok.RP,ok.Ka,ok.Kc,ok.vN,ok.Zn⟩
theorem Cx.Ok.tQ {X:Cx} {E:Value→Shared→Prop} (ok:(X.wish E).Ok):X.Ok:=
  ⟨ok.mod,ok.kind,ok.glob,ok.blt,ok.above,ok.inj,ok.has,ok.cab,ok.hd,ok.frames,ok.stk,ok.exf,ok.bs,ok.RP,ok.Ka,ok.Kc,ok.vN,ok.Zn⟩
section
variable {X:Cx} {p_:List (Addr×Obj)} {σ:St} {H:Hp} {s:Shared} {E:Value→Shared→Prop}
theorem Inv.wish (I:Inv X p_ σ H s) (E:Value→Shared→Prop):Inv (X.wish E) p_ σ H s:=⟨I.ok.wish E,I.os,I.bare,I.base,I.loc,I.cell,I.free,I.iT,I.pin,I.hok,I.len⟩
theorem Inv.tQ (I:Inv (X.wish E) p_ σ H s):Inv X p_ σ H s:=⟨I.ok.tQ,I.os,I.bare,I.base,I.loc,I.cell,I.free,I.iT,I.pin,I.hok,I.len⟩
theorem SP.tQ {D:Ends} {f:Flow} {s':Shared} (h:SP (X.wish E) p_ D f s'):SP X p_ D f s':=by
  cases f with
  | next=>obtain⟨σ',H',I,q⟩:=h;exact⟨σ',H',I.tQ,q⟩
  | brk=>obtain⟨σ',H',I,q⟩:=h;exact⟨σ',H',I.tQ,q⟩
  | cont=>obtain⟨σ',H',I,q⟩:=h;exact⟨σ',H',I.tQ,q⟩
  | ret u=>obtain⟨v,σ',H',I,r,q⟩:=h;exact⟨v,σ',H',I.tQ,r,q⟩
theorem Bk.Vj {st:List Stmt} {t:TS} (h:Bk X.Vj st t):Bk X st t:=fun p_ s σ H D I hw=>
  wpAny_mono (h p_ s σ H D (I.wish _) hw) (fun _ _ q=>q.tQ) fun _ _ z=>False.elim z
end
section
variable {X:Cx} {st:Stmt} {rest:List Stmt} {t u:TS} {e:Expr} {te:TE} {pos:Pos}
def qbs:TS:=fun D σ H=>D.nx σ H
def qfc (t u:TS):TS:=fun D σ H=>t {D with nx:=u D} σ H
theorem bG:Bk X [] qbs:=fun _ _ σ H _ I h=>wpAny_execs_nil ⟨σ,H,I,h⟩
theorem aB (h1:PS X st t) (h2:Bk X rest u):Bk X (st::rest) (qfc t u):=by
  intro p_ s σ H D I h;refine wpAny_execs_cons (cY (h1 p_ s σ H {D with nx:=u D} I h) fun f s1 q=>?_);cases f with
  | next=>
    obtain⟨σ',H',I',q⟩:=q;exact h2 p_ s1 σ' H' D I' q
  | ret v=>exact q
  | brk=>exact q
  | cont=>exact q
theorem aF (h1:PS X st t):Bk X [st] t:=by
  intro p_ s σ H D I h;refine wpAny_execs_cons (cY (h1 p_ s σ H D I h) fun f s1 q=>?_);cases f with
  | next=>exact wpAny_execs_nil q
  | ret v=>exact q
  | brk=>exact q
  | cont=>exact q
theorem Inv.quiet {p_:List (Addr×Obj)} {σ:St} {H:Hp} {s:Shared} (I:Inv X p_ σ H s):interactive X.env=false:=by simp[interactive,I.ok.kind]
def qbt (te:TE):TS:=fun D σ H=>te σ H fun _ H1=>D.nx σ H1
theorem dZ (he:PE X e te) (hs:swapsWith e none pos.line X.env=pure false:=by rfl):PS X (.Expr e pos) (qbt te):=by
  intro p_ s σ H D I h;refine wpAny_Expr_any (cY (he p_ s σ H _ I h) fun v s1 zz=>?_) I.quiet hs;obtain⟨x,H1,I1,r1,q1⟩:=zz;exact⟨σ,H1,I1,q1⟩
def qfd (te:TE):TS:=fun D σ H=>te σ H D.rt
theorem aY (he:PE X e te):PS X (.Return (some e) pos) (qfd te):=by
  intro p_ s σ H D I h;refine wpAny_Return_some (cY (he p_ s σ H _ I h) fun v s1 zz=>?_);obtain⟨x,H1,I1,r1,q1⟩:=zz;exact⟨x,σ,H1,I1,r1,q1⟩
def qfe (c:TT) (t u:TS):TS:=fun D σ H=>c σ H fun b H1=>if b=true then t D σ H1 else u D σ H1
theorem cR {c:Expr} {a b:List Stmt} {tc:TT} (hc:PT X c tc) (ha:Bk X a t) (hb:Bk X b u):PS X (.If c a b pos) (qfe tc t u):=by
  intro p_ s σ H D I h;refine wpAny_If (cY (hc p_ s σ H _ I h) fun d s1 zz=>?_);obtain⟨H1,I1,q1⟩:=zz;cases d with
  | true=>exact ha p_ s1 σ H1 D I1 q1
  | false=>exact hb p_ s1 σ H1 D I1 q1
def Vy:TS:=fun _ _ _=>False
theorem xu:PS X st Vy:=fun _ _ _ _ _ _ h=>h.elim
end
abbrev TG:=V→St→Hp→(St→Hp→Prop)→Prop
abbrev J2:=List V→St→Hp→(St→Hp→Prop)→Prop
def PG (X:Cx) (target:Expr) (t:TG):Prop:=
  ∀(p_:List (Addr×Obj)) (s:Shared) (σ:St) (H:Hp) (v:V) (u:Value) (Q:St→Hp→Prop),Inv X p_ σ H s→RelV v u→t v σ H Q→
    wpAny (model X.prog X.w) X.A (assign target X.env u) (fun _ s'=>∃σ' H',Inv X p_ σ' H' s'∧Q σ' H') X.xe s
def jC (X:Cx) (ts:List Expr) (t:J2):Prop:=
  ∀(p_:List (Addr×Obj)) (s:Shared) (σ:St) (H:Hp) (vs:List V) (us:List Value) (Q:St→Hp→Prop),Inv X p_ σ H s→Vals vs us→t vs σ H Q→
    wpAny (model X.prog X.w) X.A (assignInOrder ((assignEach ts X.env).map (·.2)) us) (fun _ s'=>∃σ' H',Inv X p_ σ' H' s'∧Q σ' H') X.xe s
abbrev RV:=V→V→V→Hp→(Hp→Prop)→Prop
def RW (X:Cx) (t:RV):Prop:=
  ∀(p_:List (Addr×Obj)) (s:Shared) (σ:St) (H:Hp) (o i v:V) (ov iv u:Value) (Q:Hp→Prop),Inv X p_ σ H s→RelV o ov→RelV i iv→RelV v u→t o i v H Q→
    wpAny (model X.prog X.w) X.A (setItem ov iv u) (fun _ s'=>∃H',Inv X p_ σ H' s'∧Q H') X.xe s
abbrev Zz:=V→V→Hp→VK→Prop
def PIp (X:Cx) (op:Operator) (t:Zz):Prop:=
  ∀(p_:List (Addr×Obj)) (s:Shared) (σ:St) (H:Hp) (x y:V) (v u:Value) (Q:VK),Inv X p_ σ H s→RelV x v→RelV y u→t x y H Q→
    wpAny (model X.prog X.w) X.A (inplaceOp op v u) (EP X p_ σ Q) X.xe s
section
variable {X:Cx} {pos:Pos}
def Qu (i:Nat):TG:=fun v σ H Q=>Q (σ.set i (some v)) H
theorem aR {i:Nat} {x:Str} (hN:X.N.Nodup) (hi:X.N[i]? = some x) (hx:Loc X.env.scope x) (hf:X.fn x=true∨X.env.scope.names.lookup x=some .local:=by first | exact .inl rfl | exact .inr rfl | assumption):PG X (.Name x pos) (Qu i):=by
  intro p_ s σ H v u Q I r h;exact wpAny_assign_Name (CG I hN hi hx r (fun s' I'=>⟨_,H,I',h⟩) hf)
def qcj:J2:=fun vs σ H Q=>vs=[]∧Q σ H
def Vz (t:TG) (u:J2):J2:=fun vs σ H Q=>∃v r,vs=v::r∧t v σ H fun σ' H'=>u r σ' H' Q
theorem fH:jC X [] qcj:=by
  intro p_ s σ H vs us Q I r h;obtain⟨e,h⟩:=h;subst e;cases r;exact assignInOrder_nil ⟨σ,H,I,h⟩
theorem bx {e:Expr} {es:List Expr} {t:TG} {u:J2} (h1:PG X e t) (h2:jC X es u)
    (hs:(assignEach (e::es) X.env).map (·.2)=assign e X.env::(assignEach es X.env).map (·.2):=by rfl):jC X (e::es) (Vz t u):=by
  intro p_ s σ H vs us Q I r h;obtain⟨v,vr,e1,h⟩:=h;subst e1;cases r with
  | cons r rr=>
    rw[hs];refine assignInOrder_cons (cY (h1 p_ s σ H _ _ _ I r h) fun _ s1 zz=>?_);obtain⟨σ1,H1,I1,q1⟩:=zz;exact h2 p_ s1 σ1 H1 _ _ Q I1 rr q1
def ZC (K:W.Frag) (n:Nat) (t:J2):TG:=fun v σ H Q=>∃a xs,v = .ref a∧dW K H a xs∧xs.length=n∧t xs σ H Q
theorem qck {es:List Expr} {k:Nat} {t:J2} {n:Nat} (hc:X.calm=true) (h:jC X es t)
    (hn:(assignEach es X.env).length=n:=by rfl) (hst:(assignEach es X.env).findIdx? (·.1)=none:=by rfl):PG X (.Tuple es k pos) (ZC X.K n t):=by
  intro p_ s σ H v u Q I r hw;obtain⟨a,xs,e1,hq,hl,hw⟩:=hw;subst e1;cases r;obtain⟨its,rv,ht,hz⟩:=I.tuple hq;refine assign_Tuple_tuple (I.ok.hd hc) ht (by simp[hn,← hl,rv.length]) hst fun h' hx=>?_;have I1:Inv X p_ σ H {s with heap:=h'}:=I.kept (t':=s.toks) fun b o e=>hx b o (Nat.ne_of_lt (Heap.lt_size e)) e;exact h p_ _ σ H xs _ Q I1 (by simpa using rv) hw
def qff (to ti:TE) (t:RV):TG:=fun v σ H Q=>to σ H fun o H1=>ti σ H1 fun i H2=>t o i v H2 fun H3=>Q σ H3
theorem VB {o i:Expr} {to ti:TE} {t:RV} (ho:PE X o to) (hi:PE X i ti) (hs:RW X t)
    (ha:∀v,assign (.Subscript o i pos) X.env v=(do
      let ov ← holding [v] (eval o X.env)
      let iv ← holding [v,ov] (eval i X.env)
      standAt pos
      holding [v,ov,iv] (setItem ov iv v)
      release [v,ov,iv] []):=by intro _;rfl):PG X (.Subscript o i pos) (qff to ti t):=by
  intro p_ s σ H v u Q I r h;rw[ha];refine wpAny_bind (wpAny_holding (cY (ho p_ s σ H _ I h) fun ov s1 zz=>?_));obtain⟨x,H1,I1,r1,q1⟩:=zz;refine wpAny_bind (wpAny_holding (cY (hi p_ s1 σ H1 _ I1 q1) fun iv s2 zz=>?_));obtain⟨y,H2,I2,r2,q2⟩:=zz;refine wpAny_bind (wpAny_standAt (wpAny_bind (wpAny_holding (cY (hs p_ s2 σ H2 x y v ov iv u _ I2 r1 r2 r q2) fun _ s3 zz=>?_))));obtain⟨H3,I3,q3⟩:=zz;exact wpAny_release ⟨σ,H3,I3,q3⟩
def ZD (te:TE) (g:TG):TS:=fun D σ H=>te σ H fun x H1=>g x σ H1 D.nx
theorem wu {tg e:Expr} {te:TE} {g:TG} (he:PE X e te) (hg:PG X tg g) (hs:swapsWithSole [tg] e pos.line X.env=pure false:=by rfl) (hw:swappedStores [tg] e X.env=pure none:=by rfl)
    (h1:(assignEach [tg] X.env).map (·.2)=[assign tg X.env]:=by rfl):PS X (.Assign [tg] e pos) (ZD te g):=by
  intro p_ s σ H D I h;refine wpAny_Assign_stores (cY (he p_ s σ H _ I h) fun v s1 zz=>?_) hs hw;obtain⟨x,H1,I1,r1,q1⟩:=zz;rw[h1];exact cY (hg p_ s1 σ H1 x v _ I1 r1 q1) fun _ s2 q=>q
theorem bC {i:Nat} {x:Str} {e:Expr} {te:TE} {pos':Pos} (hN:X.N.Nodup) (hi:X.N[i]? = some x) (hx:Loc X.env.scope x) (he:PE X e te) (hs:swapsWith e (some (.Name x pos')) pos.line X.env=pure false:=by rfl) (hf:X.fn x=true∨X.env.scope.names.lookup x=some .local:=by first | exact .inl rfl | exact .inr rfl | assumption) :
    PS X (.Assign [.Name x pos'] e pos) (ZD te (Qu i)):=by
  intro p_ s σ H D I h;refine wpAny_Assign_Name (cY (he p_ s σ H _ I h) fun v s1 zz=>?_) hs;obtain⟨y,H1,I1,r1,q1⟩:=zz;exact CG I1 hN hi hx r1 (fun s2 I2=>⟨_,H1,I2,q1⟩) hf
def qcl (i:Nat) (te:TE) (ti:Zz):TS:=fun D σ H=>∃x,σ[i]? = some (some x)∧te σ H fun y H1=>ti x y H1 fun z H2=>D.nx (σ.set i (some z)) H2
theorem qcm {i:Nat} {x:Str} {e:Expr} {te:TE} {op:Operator} {ti:Zz} {pos':Pos} (hN:X.N.Nodup) (hi:X.N[i]? = some x) (hx:Loc X.env.scope x) (he:PE X e te) (ho:PIp X op ti) (hf:X.fn x=true∨X.env.scope.names.lookup x=some .local:=by first | exact .inl rfl | exact .inr rfl | assumption) :
    PS X (.AugAssign (.Name x pos') op e pos) (qcl i te ti):=by
  intro p_ s σ H D I h;obtain⟨v,e1,h⟩:=h;obtain⟨m,hn,hl⟩:=I.loc;have vis:Vis X.env.scope x:=by rcases hx with k | k;exact .inl k;exact .inr (.inl k)
  obtain⟨u,r,l⟩:=hl i x v hi e1 vis;refine wpAny_AugAssign_Name ?_;have go:wpAny (model X.prog X.w) X.A (eval e X.env) (fun w s₂=>wpAny (model X.prog X.w) X.A (inplaceOp op u w) (fun r s₃=>wpAny (model X.prog X.w) X.A (storeName X.env x r) (fun _=>SP X p_ D .next) X.xe s₃) X.xe s₂) X.xe s:=by
    refine cY (he p_ s σ H _ I h) fun w s1 zz=>?_;obtain⟨y,H1,I1,r1,q1⟩:=zz;refine cY (ho p_ s1 σ H1 v y u w _ I1 r r1 q1) fun z s2 zz=>?_;obtain⟨zv,H2,I2,r2,q2⟩:=zz;exact CG I2 hN hi hx r2 (fun s3 I3=>⟨_,H2,I3,q2⟩) hf
  rcases l with⟨hk,hm⟩ | ⟨hk,c,hc,hcell⟩
  ·exact wpAny_loadName_local I.ok.kind hk hn hm go
  · rcases hk with hk | hk
    ·exact wpAny_loadName_cell I.ok.kind hk hc hcell go
    · rcases hx with k | k
      ·have:X.env.scope.names.lookup x=some .free:=hk;rw[k] at this;cases this
      ·have:X.env.scope.names.lookup x=some .free:=hk;rw[k] at this;cases this
def ipI (f:Int→Int→Int):Zz:=fun x y H Q=>∃i j,x = .int i∧y = .int j∧Q (.int (f i j)) H
theorem qcn:PIp X .Add (ipI fun i j=>i+j):=by
  intro p_ s σ H x y v u Q I r1 r2 h;obtain⟨i,j,e1,e2,q⟩:=h;subst e1;subst e2;obtain⟨t,rfl⟩:=r1;obtain⟨t',rfl⟩:=r2;exact iadd_int ⟨.int _,H,I.tok _,⟨_,rfl⟩,q⟩
end
section
variable {X:Cx} {pos:Pos}
def Hy (c:TT) (tb:TS):TS:=fun D σ H=>∃ql:Nat→St→Hp→Prop,(∃m,ql m σ H)∧∀m σ H,ql m σ H→
  c σ H fun b H1=>if b=true then ∃N:St→Hp→Prop,(∀σ' H',N σ' H'→∃m',m'<m∧ql m' σ' H')∧tb {D with nx:=N,ct:=N,bk:=D.nx} σ H1 else D.nx σ H1
theorem VD {c:Expr} {body:List Stmt} {tc:TT} {tb:TS} (hp:PassesOwn (model X.prog X.w) X.A X.env X.xe) (hc:PT X c tc) (hb:Bk X body tb):PS X (.While c body [] pos) (Hy tc tb):=by
  intro p_ s σ H D I h;obtain⟨ql,⟨m0,w0⟩,turn⟩:=h;refine wpAny_While (codeAny_whileLoop (fun n s'=>∃σ' H',Inv X p_ σ' H' s'∧ql n σ' H') ?_ m0 ⟨σ,H,I,w0⟩);rintro n s1 ⟨σ1,H1,I1,w1⟩;refine wpAny_passesOwn hp (cY (hc p_ s1 σ1 H1 _ I1 (turn n σ1 H1 w1)) fun b s2 zz=>?_);obtain⟨H2,I2,q2⟩:=zz;cases b with
  | true=>
    obtain⟨N,hN,q2⟩:=q2;rw[if_pos rfl];refine wpAny_passesOwn hp (cY (hb p_ s2 σ1 H2 _ I2 q2) fun f s3 q3=>?_);cases f with
    | next=>
      obtain⟨σ3,H3,I3,n3⟩:=q3;obtain⟨m',hm,w3⟩:=hN σ3 H3 n3;exact⟨m',hm,σ3,H3,I3,w3⟩
    | cont=>
      obtain⟨σ3,H3,I3,n3⟩:=q3;obtain⟨m',hm,w3⟩:=hN σ3 H3 n3;exact⟨m',hm,σ3,H3,I3,w3⟩
    | brk=>exact q3
    | ret v=>exact q3
  | false=>
    rw[if_neg Bool.false_ne_true];exact wpAny_execs_nil ⟨σ1,H2,I2,q2⟩
end
structure It where
  go:Nat→Hp→Prop
  ZF:Nat→Hp→V→Hp→Prop
  stop:Nat→Hp→Prop
def vO (X:Cx) (p_:List (Addr×Obj)) (H:Hp) (b:Addr):Prop:=
  H b=none∧b≠X.env.locals∧b∉X.fs∧(b∈X.ex∨X.s₀.heap.objs.size≤b)∧(∀x c,X.env.cells.lookup x=some c→c≠b)∧∀p∈X.pn++p_,p.1≠b
theorem Inv.A_ {X:Cx} {p_:List (Addr×Obj)} {σ:St} {H H':Hp} {s:Shared} {b:Addr} (I:Inv X p_ σ H s) (hb:s.heap.objs.size≤b) (hn:H' b=none):vO X p_ H' b:=by
  refine⟨hn,Nat.ne_of_gt (Nat.lt_of_lt_of_le I.lt hb),I.qk7 hb,.inr (Nat.le_trans I.sz hb),fun x c e z=>?_,fun p hp z=>?_⟩
  ·obtain⟨v,q⟩:=I.cell x c e;exact absurd (Nat.lt_of_lt_of_le q.lt (by rw[z];exact hb)) (Nat.lt_irrefl _)
  ·exact absurd (Nat.lt_of_lt_of_le (Heap.lt_size (I.pin p hp).1) (by rw[z];exact hb)) (Nat.lt_irrefl _)
structure Turn (P:Program) (w:World) (K:W.Frag) (tg:Expr) (J:It) (fp:List Addr) (it:Addr) (tn:Nat→Heap→Prop):Prop where
  mem:it∈fp
  obj:∀i h,tn i h→∀b∈fp,∃o,h.get? b=some o∧∀v,o.data≠.cell v
  keep:∀i h h',tn i h→(∀b∈fp,∀o,h.get? b=some o→h'.get? b=some o)→tn i h'
  item:∀(X:Cx),X.prog=P→X.w=w→X.K=K→X.calm=true→∀(i:Nat) (p_:List (Addr×Obj)) (s:Shared) (σ:St) (H:Hp) (E:Value→Shared→Prop),Inv X p_ σ H s→(∀b∈fp,vO X p_ H b)→tn i s.heap→J.go i H→
    wpAny (model P w) X.A (pyNext (.ref it)) (fun r s1=>∃u,r=some u∧
      wpAny (model P w) X.A (letOwnedTupleGo tg (.ref it) u) (fun _ s2=>∃x H',Inv X p_ σ H' s2∧RelV x u∧J.ZF i H x H'∧tn (i+1) s2.heap∧∀b∈fp,H' b=none) E s1) E s
  done:∀(X:Cx),X.prog=P→X.w=w→X.K=K→X.calm=true→∀(i:Nat) (p_:List (Addr×Obj)) (s:Shared) (σ:St) (H:Hp) (E:Value→Shared→Prop),Inv X p_ σ H s→(∀b∈fp,vO X p_ H b)→tn i s.heap→J.stop i H→
    wpAny (model P w) X.A (pyNext (.ref it)) (fun r s1=>r=none∧Inv X p_ σ H s1) E s
  self:∀(A:Around) (i:Nat) (s:Shared) (Q:Value→Shared→Prop) (E:Value→Shared→Prop),tn i s.heap→Q (.ref it) s→wpAny (model P w) A (pyIter (.ref it)) Q E s
abbrev TI:=St→Hp→(It→Hp→Prop)→Prop
def PIE (X:Cx) (p_:List (Addr×Obj)) (σ:St) (tg:Expr) (R:It→Hp→Prop) (itv:Value) (s2:Shared):Prop:=
  ∃(it:Addr) (fp:List Addr) (tn:Nat→Heap→Prop) (J:It) (H':Hp),itv = .ref it∧Inv X p_ σ H' s2∧Turn X.prog X.w X.K tg J fp it tn∧tn 0 s2.heap∧(∀b∈fp,vO X p_ H' b)∧R J H'
def PI (X:Cx) (tg iter:Expr) (wi:TI):Prop:=
  ∀(p_:List (Addr×Obj)) (s:Shared) (σ:St) (H:Hp) (R:It→Hp→Prop),Inv X p_ σ H s→wi σ H R→
    wpAny (model X.prog X.w) X.A (eval iter X.env) (fun v s1=>wpAny (model X.prog X.w) X.A (pyIter v) (PIE X p_ σ tg R) X.xe s1) X.xe s
theorem VF {M:Model} {A:Around} {E:Value→Shared→Prop} {s:Shared} {tg:Expr} {it:Addr} {u:Value} {o:Obj} {n:String} {vs:Array Value} {Q:Unit→Shared→Prop} (ho:s.heap.get? it=some o) (hc:o.cls = .type n) (hd:o.data = .fields vs)
    (hn : ["enumerate", "zip", "dict_itemiterator", "dict_reverseitemiterator", "odict_iterator", "itertools.zip_longest", "itertools.pairwise"].contains n=false) (hQ:Q () s):wpAny M A (letOwnedTupleGo tg (.ref it) u) Q E s:=by
  unfold letOwnedTupleGo;cases tg <;> first
    | exact wpAny_pure hQ
    | (cases u <;> first
        | exact wpAny_pure hQ
        | (refine wpAny_bind (wpAny_load ho ?_)
           rw[hc,hd];show wpAny M A (if (["enumerate", "zip", "dict_itemiterator", "dict_reverseitemiterator", "odict_iterator", "itertools.zip_longest", "itertools.pairwise"].contains n && vs[0]? == some (rawInt _))=true then _ else _) Q E s
           rw[if_neg (by intro h;rw[hn,Bool.false_and] at h;cases h)];exact wpAny_pure hQ))
def Vk (K:W.Frag) (a:Addr):It:=
  ⟨fun i H=>∃xs x,bw K H a xs∧xs[i]? = some x,fun i H x H'=>H'=H∧∀xs,bw K H a xs→xs[i]? = some x,fun i H=>∃xs,bw K H a xs∧xs.length≤i⟩
def ZG (K:W.Frag) (a:Addr):It:=
  ⟨fun i H=>∃xs x,dW K H a xs∧xs[i]? = some x,fun i H x H'=>H'=H∧∀xs,dW K H a xs→xs[i]? = some x,fun i H=>∃xs,dW K H a xs∧xs.length≤i⟩
def M_ (lo:Int) (n:Nat):It:=⟨fun i _=>i<n,fun i H x H'=>H'=H∧x = .int (lo+i),fun i _=>n≤i⟩
theorem Gj {P:Program} {w:World} {K:W.Frag} {tg:Expr} (a it:Addr):Turn P w K tg (Vk K a) [it] it (fun i h=>h.IsListIter it a i) where
  mem:=by simp
  obj:=fun i h st b hb=>by
    have e:b=it:=by simpa using hb
    subst e;obtain⟨o,e,c,d⟩:=st;exact⟨o,e,fun v z=>by rw[d] at z;cases z⟩
  keep:=fun i h h' st k=>st.at fun o e=>k it (by simp) o e
  item:=by
    intro X hP hw hK hc i p_ s σ H E I hf st hg;subst hP hw hK;obtain⟨xs,x,hq,hx⟩:=hg;obtain⟨its,rv,p,hz⟩:=I.list hq;obtain⟨u,hu,ru⟩:=rv.get hx;obtain⟨f0,f1,f2,f3,f4,f5⟩:=hf it (by simp);refine wpAny_pyNext_list_item st p.isList (x:=u) (by simpa using hu) fun h' st' sb=>?_;have I1:Inv X p_ σ H {s with heap:=h'}:=I.turned (t':=s.toks) (fun b o hb e=>(sb.2 b hb).trans e) f0 f1 f3 f4 f5;obtain⟨o,e,c,d⟩:=id st';exact⟨u,rfl,VF (s:={s with heap:=h'}) e c d (by decide) ⟨x,H,I1,ru,⟨rfl,fun ys hy=>by rw[I.xr hy hq];exact hx⟩,st',fun b hb=>(hf b hb).1⟩⟩
  done:=by
    intro X hP hw hK hc i p_ s σ H E I hf st hg;subst hP hw hK;obtain⟨xs,hq,hx⟩:=hg;obtain⟨its,rv,p,hz⟩:=I.list hq;obtain⟨f0,f1,f2,f3,f4,f5⟩:=hf it (by simp);have hl:=rv.length;exact wpAny_pyNext_list_end (I.ok.hd hc) st p.isList (by simp;omega) fun h' eb=>⟨rfl,I.turned (t':=s.toks) (fun b o hb e=>eb b o hb e) f0 f1 f3 f4 f5⟩
  self:=fun _ _ _ _ _ st h=>wpAny_pyIter_listiter st h
theorem CJ {P:Program} {w:World} {K:W.Frag} {tg:Expr} (a it:Addr):Turn P w K tg (ZG K a) [it] it (fun i h=>h.IsTupleIter it a i) where
  mem:=by simp
  obj:=fun i h st b hb=>by
    have e:b=it:=by simpa using hb
    subst e;obtain⟨o,e,c,d⟩:=st;exact⟨o,e,fun v z=>by rw[d] at z;cases z⟩
  keep:=fun i h h' st k=>st.at fun o e=>k it (by simp) o e
  item:=by
    intro X hP hw hK hc i p_ s σ H E I hf st hg;subst hP hw hK;obtain⟨xs,x,hq,hx⟩:=hg;obtain⟨its,rv,p,hz⟩:=I.tuple hq;obtain⟨u,hu,ru⟩:=rv.get hx;obtain⟨f0,f1,f2,f3,f4,f5⟩:=hf it (by simp);refine wpAny_pyNext_tuple_item st (show s.heap.IsTuple a its.toArray from p) (x:=u) (by simpa using hu) fun h' st' sb=>?_;have I1:Inv X p_ σ H {s with heap:=h'}:=I.turned (t':=s.toks) (fun b o hb e=>(sb.2 b hb).trans e) f0 f1 f3 f4 f5;obtain⟨o,e,c,d⟩:=id st';exact⟨u,rfl,VF (s:={s with heap:=h'}) e c d (by decide) ⟨x,H,I1,ru,⟨rfl,fun ys hy=>by rw[I.RQ hy hq];exact hx⟩,st',fun b hb=>(hf b hb).1⟩⟩
  done:=by
    intro X hP hw hK hc i p_ s σ H E I hf st hg;subst hP hw hK;obtain⟨xs,hq,hx⟩:=hg;obtain⟨its,rv,p,hz⟩:=I.tuple hq;obtain⟨f0,f1,f2,f3,f4,f5⟩:=hf it (by simp);have hl:=rv.length;exact wpAny_pyNext_tuple_end (I.ok.hd hc) st (show s.heap.IsTuple a its.toArray from p) (by simp;omega) fun h' eb=>⟨rfl,I.turned (t':=s.toks) (fun b o hb e=>eb b o hb e) f0 f1 f3 f4 f5⟩
  self:=fun _ _ _ _ _ st h=>wpAny_pyIter_tupleiter st h
theorem Nr {P:Program} {w:World} {K:W.Frag} {tg:Expr} (it:Addr) (lo:Int) (n:Nat):Turn P w K tg (M_ lo n) [it] it (fun i h=>IsRangeIter h it (lo+(i:Nat) * 1) ((n:Int) - (i:Nat)) 1) where
  mem:=by simp
  obj:=fun i h st b hb=>by
    have e:b=it:=by simpa using hb
    subst e;exact⟨_,st,fun v z=>by
      have z':Data.fields _=Data.cell v:=z;cases z'⟩
  keep:=fun i h h' st k=>k it (by simp) _ st
  item:=by
    intro X hP hw hK hc i p_ s σ H E I hf st hg;subst hP hw hK;obtain⟨f0,f1,f2,f3,f4,f5⟩:=hf it (by simp);have ql:=Walks.range (prog:=X.prog) (w:=X.w) (I.ok.hd hc) it lo 1 n;refine ql.item i s _ _ hg st fun v h' tk hv st' kk=>?_;obtain⟨t,rfl⟩:=hv;have I1:Inv X p_ σ H {s with heap:=h',toks:=tk}:=I.turned (fun b o hb e=>kk b o (by simpa using hb) e) f0 f1 f3 f4 f5;refine⟨_,rfl,VF (s:={s with heap:=h',toks:=tk}) (n:= "range_iterator") st' rfl rfl (by decide) ⟨.int (lo+i),H,I1,⟨t,?_⟩,⟨rfl,rfl⟩,st',fun b hb=>(hf b hb).1⟩⟩;rw[Int.mul_one]
  done:=by
    intro X hP hw hK hc i p_ s σ H E I hf st hg;subst hP hw hK;obtain⟨f0,f1,f2,f3,f4,f5⟩:=hf it (by simp);exact wpAny_pyNext_range_end (I.ok.hd hc) st (by have:n≤i:=hg;omega) fun h' eb=>⟨rfl,I.turned (t':=s.toks) (fun b o hb e=>eb b o hb e) f0 f1 f3 f4 f5⟩
  self:=fun _ _ _ _ _ st h=>wpAny_pyIter_rangeiter st h
section
variable {X:Cx} {tg:Expr}
def Qv (K:W.Frag) (tl:TE):TI:=fun σ H R=>tl σ H fun x H1=>∃a,x = .ref a∧(∃xs,bw K H1 a xs)∧R (Vk K a) H1
def qco (K:W.Frag) (tl:TE):TI:=fun σ H R=>tl σ H fun x H1=>∃a,x = .ref a∧(∃xs,dW K H1 a xs)∧R (ZG K a) H1
theorem ZJ {l:Expr} {tl:TE} (hl:PE X l tl):PI X tg l (Qv X.K tl):=by
  intro p_ s σ H R I h;refine cY (hl p_ s σ H _ I h) fun v s1 zz=>?_;obtain⟨x,H1,I1,r1,q1⟩:=zz;obtain⟨a,e,⟨xs,hq⟩,q⟩:=q1;subst e;cases r1;obtain⟨its,rv,p,hz⟩:=I1.list hq;refine wpAny_pyIter_list p.isList ?_;refine⟨s1.heap.objs.size,[s1.heap.objs.size],_,_,H1,rfl,I1.kept (t':=s1.toks) fun b o e=>Heap.get?_push_of_some _ e,Gj a _,⟨_,Heap.get?_push_size _ rfl,rfl,rfl⟩,fun b hb=>?_,q⟩;have e:b=s1.heap.objs.size:=by simpa using hb
  subst e;exact I1.A_ (Nat.le_refl _) (I1.hok.fresh (Nat.le_refl _))
theorem qcp {l:Expr} {tl:TE} (hl:PE X l tl):PI X tg l (qco X.K tl):=by
  intro p_ s σ H R I h;refine cY (hl p_ s σ H _ I h) fun v s1 zz=>?_;obtain⟨x,H1,I1,r1,q1⟩:=zz;obtain⟨a,e,⟨xs,hq⟩,q⟩:=q1;subst e;cases r1;obtain⟨its,rv,p,hz⟩:=I1.tuple hq;refine wpAny_pyIter_tuple (show s1.heap.IsTuple a its.toArray from p) ?_;refine⟨s1.heap.objs.size,[s1.heap.objs.size],_,_,H1,rfl,I1.kept (t':=s1.toks) fun b o e=>Heap.get?_push_of_some _ e,CJ a _,⟨_,Heap.get?_push_size _ rfl,rfl,rfl⟩,fun b hb=>?_,q⟩;have e:b=s1.heap.objs.size:=by simpa using hb
  subst e;exact I1.A_ (Nat.le_refl _) (I1.hok.fresh (Nat.le_refl _))
theorem Kf {p_:List (Addr×Obj)} {σ:St} {H:Hp} {s:Shared} {R:It→Hp→Prop} {E:Value→Shared→Prop} {lo hi:Int} {t u v:Tok} {tk:Nat} (I:Inv X p_ σ H s) (h1 : -(2 ^ 62)≤lo) (h2:lo<2 ^ 62) (h3 : -(2 ^ 62)≤hi) (h4:hi<2 ^ 62)
    (q:R (M_ lo (hi - lo).toNat) H):wpAny (model X.prog X.w) X.A (pyIter (.ref s.heap.objs.size)) (PIE X p_ σ tg R) E {s with heap:=s.heap.push {cls:=.type "range",data:=.fields #[.int lo t,.int hi u,.int 1 v]},toks:=tk}:=by
  refine wpAny_pyIter_range (IsRange.new ..) (small_one h1 h2 h3 h4) ?_;have I1:Inv X p_ σ H {s with heap:=s.heap.push {cls:=.type "range",data:=.fields #[.int lo t,.int hi u,.int 1 v]},toks:=tk}:=I.kept fun b o e=>Heap.get?_push_of_some _ e;refine⟨(s.heap.push {cls:=.type "range",data:=.fields #[.int lo t,.int hi u,.int 1 v]}).objs.size,[(s.heap.push {cls:=.type "range",data:=.fields #[.int lo t,.int hi u,.int 1 v]}).objs.size],_,_,H,rfl,
    I1.kept (t':=tk) fun b o e=>Heap.get?_push_of_some _ e,Nr _ lo (hi - lo).toNat,?_,fun b hb=>?_,q⟩
  · have e1:lo+((0:Nat):Int) * 1=lo:=by simp
    have e2:(((hi - lo).toNat:Nat):Int) - ((0:Nat):Int)=Builtin.Range.rangeSize lo hi 1:=by rw[rangeSize_one];split <;> omega
    show IsRangeIter _ _ (lo+((0:Nat):Int) * 1) ((((hi - lo).toNat:Nat):Int) - ((0:Nat):Int)) 1;rw[e1,e2];exact Heap.get?_push_size _ rfl
  · have e:b=(s.heap.push {cls:=.type "range",data:=.fields #[.int lo t,.int hi u,.int 1 v]}).objs.size:=by simpa using hb
    subst e;exact I1.A_ (Nat.le_refl _) (I1.hok.fresh (Nat.le_refl _))
def VG (ta:TA):TI:=fun σ H R=>ta σ H fun vs H1=>∃j:Int,vs=[.int j]∧-(2 ^ 62)≤j∧j<2 ^ 62∧R (M_ 0 j.toNat) H1
def VH (ta:TA):TI:=fun σ H R=>ta σ H fun vs H1=>∃i j:Int,vs=[.int i,.int j]∧(-(2 ^ 62)≤i∧i<2 ^ 62∧-(2 ^ 62)≤j∧j<2 ^ 62)∧R (M_ i (j - i).toNat) H1
theorem iB {a:Expr} {ta:TA} {p pos:Pos} (hg:Gl X "range") (hm:X.mg "range" = none) (ha:PA X [a] ta) (hs:starEach [a] X.env=[(false,eval a X.env)]:=by rfl):PI X tg (.Call (.Name "range" p) [a] [] pos) (VG ta):=by
  intro p_ s σ H R I h;refine Call_ (qQ I hg hm boot_range (PyProof.Rows.callWith_type1 (cY (ha pos p_ s σ H _ I h) fun us s1 zz=>?_) hs rfl));obtain⟨vs,H1,I1,r1,q1⟩:=zz;obtain⟨j,e,q1,q2,q⟩:=q1;subst e;cases r1 with
  | cons r rr=>
    cases rr;obtain⟨t,rfl⟩:=r;exact call_range_1 (Kf I1 (by omega) (by omega) q1 q2 (by simpa using q))
theorem RX {a b:Expr} {ta:TA} {p pos:Pos} (hg:Gl X "range") (hm:X.mg "range" = none) (ha:PA X [a,b] ta) (hs:starEach [a,b] X.env=[(false,eval a X.env),(false,eval b X.env)]:=by rfl) (hs2:starEach [b] X.env=[(false,eval b X.env)]:=by rfl) :
    PI X tg (.Call (.Name "range" p) [a,b] [] pos) (VH ta):=by
  intro p_ s σ H R I h;refine Call_ (qQ I hg hm boot_range (PyProof.Rows.callWith_type1 (cY (ha pos p_ s σ H _ I h) fun us s1 zz=>?_) (by rw[hs,hs2]) (by rw[hs2];rfl)));obtain⟨vs,H1,I1,r1,q1⟩:=zz;obtain⟨i,j,e,⟨q1,q2,q3,q4⟩,q⟩:=q1;subst e;cases r1 with
  | cons r rr=>
    cases rr with
    | cons r' rr=>
      cases rr;obtain⟨t,rfl⟩:=r;obtain⟨t',rfl⟩:=r';exact call_range_2 (Kf I1 q1 q2 q3 q4 q)
def qfg (wi:TI) (g:TG) (tb:TS):TS:=fun D σ H=>wi σ H fun J H1=>∃ql:Nat→Nat→St→Hp→Prop,(∃m,ql 0 m σ H1)∧∀i m σ H,ql i m σ H→
  (J.stop i H∧D.nx σ H)∨(J.go i H∧∃N:St→Hp→Prop,(∀σ' H',N σ' H'→∃m',m'<m∧ql (i+1) m' σ' H')∧∀x H',J.ZF i H x H'→g x σ H' fun σ2 H2=>tb {D with nx:=N,ct:=N,bk:=D.nx} σ2 H2)
def CK (fp:List Addr) (h:Heap):List (Addr×Obj):=fp.filterMap fun b=>(h.get? b).map fun o=>(b,o)
theorem qR {fp:List Addr} {h:Heap} {b:Addr} {o:Obj} (hb:b∈fp) (e:h.get? b=some o):(b,o)∈CK fp h:=List.mem_filterMap.mpr ⟨b,hb,by rw[e];rfl⟩
theorem RZ {fp:List Addr} {h:Heap} {p:Addr×Obj} (hp:p∈CK fp h):p.1∈fp∧h.get? p.1=some p.2:=by
  obtain⟨b,hb,e⟩:=List.mem_filterMap.mp hp;cases q:h.get? b with
  | none=>rw[q] at e;cases e
  | some o=>
    rw[q] at e;have e':(b,o)=p:=Option.some.inj e;subst e';exact⟨hb,q⟩
theorem Inv.pinned {p_:List (Addr×Obj)} {σ:St} {H:Hp} {s:Shared} {fp:List Addr} (I:Inv X p_ σ H s) (hf:∀b∈fp,vO X p_ H b) (ho:∀b∈fp,∃o,s.heap.get? b=some o∧∀v,o.data≠.cell v):Inv X (p_++CK fp s.heap) σ H s:=
  I.Qt fun p hp=>(List.mem_append.mp hp).elim (fun z=>I.pin p (List.mem_append_right _ z)) fun z=>by
    obtain⟨hb,e⟩:=RZ z;obtain⟨f0,f1,f2,_⟩:=hf p.1 hb;obtain⟨o,e',d⟩:=ho p.1 hb;rw[e] at e';cases e';exact⟨e,f0,f1,f2,d⟩
theorem Inv.xG {p_ pl:List (Addr×Obj)} {σ:St} {H:Hp} {s:Shared} (I:Inv X (p_++pl) σ H s):Inv X p_ σ H s:=I.Qt fun p hp=>I.pin p (List.mem_append_right _ (List.mem_append_left _ hp))
theorem iI {iter:Expr} {body:List Stmt} {wi:TI} {g:TG} {tb:TS} {pos:Pos} (hp:PassesOwn (model X.prog X.w) X.A X.env X.xe) (hc:X.calm=true) (hi:PI X tg iter wi) (hg:PG X tg g) (hb:Bk X body tb)
    (hs:∀x,foldedSetIterable iter X.env x=pure x:=by intro _;rfl):PS X (.For tg iter body [] pos) (qfg wi g tb):=by
  intro p_ s σ H D I h;refine wpAny_For (cY (hi p_ s σ H _ I h) fun v s1 h1=>cY h1 fun itv s2 h2=>?_) hs;obtain⟨it,fp,tn,J,H2,e,I2,T,st2,f2,ql,⟨m0,w0⟩,turn⟩:=h2;subst e;have stat:∀{H':Hp},(∀b∈fp,H' b=none)→∀b∈fp,vO X p_ H' b:=fun hn b hb=>⟨hn b hb,(f2 b hb).2⟩;refine codeAny_forLoop_any (fun n s'=>∃i σ' H',Inv X p_ σ' H' s'∧tn i s'.heap∧(∀b∈fp,H' b=none)∧ql i n σ' H') ?_ m0 ⟨0,σ,H2,I2,st2,fun b hb=>(f2 b hb).1,w0⟩;rintro n s3 ⟨i,σ3,H3,I3,st3,fr3,w3⟩
  rcases turn i n σ3 H3 w3 with⟨stop,qn⟩ | ⟨go,N,hN,step⟩
  ·refine wpAny_passesOwn hp (cY (T.done X rfl rfl rfl hc i p_ s3 σ3 H3 X.xe I3 (stat fr3) st3 stop) fun r s4 zz=>?_);obtain⟨hr,I4⟩:=zz;subst hr;exact wpAny_execs_nil ⟨σ3,H3,I4,qn⟩
  · refine wpAny_passesOwn hp (cY (T.item X rfl rfl rfl hc i p_ s3 σ3 H3 X.xe I3 (stat fr3) st3 go) fun r s4 zz=>?_);obtain⟨u,hr,h4⟩:=zz;subst hr;refine wpAny_passesOwn hp (cY h4 fun _ s5 zz=>?_);obtain⟨x,H5,I5,r5,y5,st5,fr5⟩:=zz;have I5':=I5.pinned (stat fr5) (T.obj _ _ st5);refine wpAny_passesOwn hp (cY (hg _ s5 σ3 H5 x u _ I5' r5 (step x H5 y5)) fun _ s6 zz=>?_);obtain⟨σ6,H6,I6,q6⟩:=zz;refine wpAny_passesOwn hp (cY (hb _ s6 σ6 H6 _ I6 q6) fun f s7 q7=>?_);have again:∀{σ7:St} {H7:Hp},Inv X (p_++CK fp s5.heap) σ7 H7 s7→N σ7 H7→∃m,m<n∧∃i σ' H',Inv X p_ σ' H' s7∧tn i s7.heap∧(∀b∈fp,H' b=none)∧ql i m σ' H':=fun {σ7 H7} I7 n7=>by
      obtain⟨m',hm,w7⟩:=hN σ7 H7 n7;refine⟨m',hm,i+1,σ7,H7,I7.xG,T.keep _ _ _ st5 fun b hb o e=>(I7.pin (b,o) (List.mem_append_right _ (List.mem_append_right _ (qR hb e)))).1,fun b hb=>?_,w7⟩;obtain⟨o,e,d⟩:=T.obj _ _ st5 b hb;exact(I7.pin (b,o) (List.mem_append_right _ (List.mem_append_right _ (qR hb e)))).2.1
    cases f with
    | next=>obtain⟨σ7,H7,I7,n7⟩:=q7;exact again I7 n7
    | cont=>obtain⟨σ7,H7,I7,n7⟩:=q7;exact again I7 n7
    | brk=>obtain⟨σ7,H7,I7,q7⟩:=q7;exact⟨σ7,H7,I7.xG,q7⟩
    | ret v=>obtain⟨x7,σ7,H7,I7,r7,q7⟩:=q7;exact⟨x7,σ7,H7,I7.xG,r7,q7⟩
end
theorem VJ {K:W.Frag} {a:Addr} {xs:List V} {g:TG} {tb:TS} {D:Ends} {σ:St} {H:Hp} (Pv:Nat→St→Hp→Prop) (h0:Pv 0 σ H) (hl:∀i σ H,i≤xs.length→Pv i σ H→bw K H a xs)
    (hs:∀i x σ H,xs[i]? = some x→Pv i σ H→g x σ H fun σ2 H2=>tb {D with nx:=Pv (i+1),ct:=Pv (i+1),bk:=D.nx} σ2 H2) (hd:∀σ H,Pv xs.length σ H→D.nx σ H) :
    ∃ql:Nat→Nat→St→Hp→Prop,(∃m,ql 0 m σ H)∧∀i m σ H,ql i m σ H→
      ((Vk K a).stop i H∧D.nx σ H)∨((Vk K a).go i H∧∃N:St→Hp→Prop,(∀σ' H',N σ' H'→∃m',m'<m∧ql (i+1) m' σ' H')∧∀x H',(Vk K a).ZF i H x H'→g x σ H' fun σ2 H2=>tb {D with nx:=N,ct:=N,bk:=D.nx} σ2 H2):=by
  refine⟨fun i m σ H=>m=xs.length - i∧i≤xs.length∧Pv i σ H,⟨xs.length,by simp,Nat.zero_le _,h0⟩,?_⟩;rintro i m σ H ⟨rfl,hi,p⟩;have q:=hl i σ H hi p
  by_cases hlt:i<xs.length
  ·refine .inr ⟨⟨xs,xs[i],q,by simp[hlt]⟩,Pv (i+1),fun σ' H' p'=>⟨xs.length - (i+1),by omega,rfl,hlt,p'⟩,fun x H' y=>?_⟩;obtain⟨e,y⟩:=y;subst e;exact hs i x σ _ (y xs q) p
  · have e:i=xs.length:=by omega
    subst e;exact .inl ⟨⟨xs,q,Nat.le_refl _⟩,hd σ H p⟩
theorem ZK {K:W.Frag} {a:Addr} {xs:List V} {g:TG} {tb:TS} {D:Ends} {σ:St} {H:Hp} (Pv:Nat→St→Hp→Prop) (h0:Pv 0 σ H) (hl:∀i σ H,i≤xs.length→Pv i σ H→dW K H a xs)
    (hs:∀i x σ H,xs[i]? = some x→Pv i σ H→g x σ H fun σ2 H2=>tb {D with nx:=Pv (i+1),ct:=Pv (i+1),bk:=D.nx} σ2 H2) (hd:∀σ H,Pv xs.length σ H→D.nx σ H) :
    ∃ql:Nat→Nat→St→Hp→Prop,(∃m,ql 0 m σ H)∧∀i m σ H,ql i m σ H→
      ((ZG K a).stop i H∧D.nx σ H)∨((ZG K a).go i H∧∃N:St→Hp→Prop,(∀σ' H',N σ' H'→∃m',m'<m∧ql (i+1) m' σ' H')∧∀x H',(ZG K a).ZF i H x H'→g x σ H' fun σ2 H2=>tb {D with nx:=N,ct:=N,bk:=D.nx} σ2 H2):=by
  refine⟨fun i m σ H=>m=xs.length - i∧i≤xs.length∧Pv i σ H,⟨xs.length,by simp,Nat.zero_le _,h0⟩,?_⟩;rintro i m σ H ⟨rfl,hi,p⟩;have q:=hl i σ H hi p
  by_cases hlt:i<xs.length
  ·refine .inr ⟨⟨xs,xs[i],q,by simp[hlt]⟩,Pv (i+1),fun σ' H' p'=>⟨xs.length - (i+1),by omega,rfl,hlt,p'⟩,fun x H' y=>?_⟩;obtain⟨e,y⟩:=y;subst e;exact hs i x σ _ (y xs q) p
  · have e:i=xs.length:=by omega
    subst e;exact .inl ⟨⟨xs,q,Nat.le_refl _⟩,hd σ H p⟩
theorem R0 {lo:Int} {n:Nat} {g:TG} {tb:TS} {D:Ends} {σ:St} {H:Hp} (Pv:Nat→St→Hp→Prop) (h0:Pv 0 σ H)
    (hs:∀i σ H,i<n→Pv i σ H→g (.int (lo+i)) σ H fun σ2 H2=>tb {D with nx:=Pv (i+1),ct:=Pv (i+1),bk:=D.nx} σ2 H2) (hd:∀σ H,Pv n σ H→D.nx σ H) :
    ∃ql:Nat→Nat→St→Hp→Prop,(∃m,ql 0 m σ H)∧∀i m σ H,ql i m σ H→
      ((M_ lo n).stop i H∧D.nx σ H)∨((M_ lo n).go i H∧∃N:St→Hp→Prop,(∀σ' H',N σ' H'→∃m',m'<m∧ql (i+1) m' σ' H')∧∀x H',(M_ lo n).ZF i H x H'→g x σ H' fun σ2 H2=>tb {D with nx:=N,ct:=N,bk:=D.nx} σ2 H2):=by
  refine⟨fun i m σ H=>m=n - i∧i≤n∧Pv i σ H,⟨n,by simp,Nat.zero_le _,h0⟩,?_⟩;rintro i m σ H ⟨rfl,hi,p⟩
  by_cases hlt:i<n
  ·refine .inr ⟨hlt,Pv (i+1),fun σ' H' p'=>⟨n - (i+1),by omega,rfl,hlt,p'⟩,fun x H' y=>?_⟩;obtain⟨e,y⟩:=y;subst e y;exact hs i σ _ hlt p
  · have e:i=n:=by omega
    subst e;exact .inl ⟨Nat.le_refl _,hd σ H p⟩
theorem VL {c:TT} {tb:TS} {D:Ends} {σ:St} {H:Hp} (Pv:St→Hp→Prop) (μ:St→Hp→Nat) (h0:Pv σ H)
    (hs:∀σ H,Pv σ H→c σ H fun b H1=>if b=true then tb {D with nx:=fun σ' H'=>Pv σ' H'∧μ σ' H'<μ σ H,ct:=fun σ' H'=>Pv σ' H'∧μ σ' H'<μ σ H,bk:=D.nx} σ H1 else D.nx σ H1)
    (mono:∀σ H Q Q',(∀b H1,Q b H1→Q' b H1)→c σ H Q→c σ H Q'):Hy c tb D σ H:=by
  refine⟨fun m σ H=>m=μ σ H∧Pv σ H,⟨_,rfl,h0⟩,?_⟩;rintro m σ H ⟨rfl,p⟩;refine mono σ H _ _ (fun b H1 q=>?_) (hs σ H p);cases b with
  | true=>exact⟨_,fun σ' H' ⟨p',l⟩=>⟨_,l,rfl,p'⟩,q⟩
  | false=>exact q
abbrev R2:=V→V→Hp→VK→Prop
def jj (X:Cx) (f:Value→Value→Sem Value) (r:R2):Prop:=
  ∀(p_:List (Addr×Obj)) (s:Shared) (σ:St) (H:Hp) (x y:V) (v u:Value) (Q:VK),Inv X p_ σ H s→RelV x v→RelV y u→r x y H Q→
    wpAny (model X.prog X.w) X.A (f v u) (EP X p_ σ Q) X.xe s
def cF (X:Cx) (f:Value) (r:List V→Hp→VK→Prop):Prop:=
  ∀(p_:List (Addr×Obj)) (s:Shared) (σ:St) (H:Hp) (xs:List V) (us:List Value) (Q:VK),Inv X p_ σ H s→Vals xs us→r xs H Q→
    wpAny (model X.prog X.w) X.A (call f us) (EP X p_ σ Q) X.xe s
def tOp (r:R2) (ta tb:TE):TE:=fun σ H Q=>ta σ H fun x H1=>tb σ H1 fun y H2=>r x y H2 Q
def rI (C:Int→Int→Prop) (g:Int→Int→V):R2:=fun x y H Q=>∃i j,x = .int i∧y = .int j∧C i j∧Q (g i j) H
def rI0 (g:Int→Int→V):R2:=fun x y H Q=>∃i j,x = .int i∧y = .int j∧Q (g i j) H
section
variable {X:Cx} {a b c:Expr} {ta tb tc:TE} {pos:Pos}
theorem qcq (ha:PE X a ta) (hb:PE X b tb) {p_:List (Addr×Obj)} {s:Shared} {σ:St} {H:Hp} {R:V→V→Hp→Prop} (I:Inv X p_ σ H s)
    (h:ta σ H fun x H1=>tb σ H1 fun y H2=>R x y H2) {Q:Value→Shared→Prop} {f:Value→Value→Sem Value}
    (hf:∀v u s2 x y H2,Inv X p_ σ H2 s2→RelV x v→RelV y u→R x y H2→wpAny (model X.prog X.w) X.A (f v u) Q X.xe s2) :
    wpAny (model X.prog X.w) X.A (eval a X.env) (fun v s₁=>wpAny (model X.prog X.w) X.A (eval b X.env) (fun u s₂=>wpAny (model X.prog X.w) X.A (f v u) Q X.xe s₂) X.xe s₁) X.xe s:=by
  refine cY (ha p_ s σ H _ I h) fun v s1 zz=>?_;obtain⟨x,H1,I1,r1,q1⟩:=zz;refine cY (hb p_ s1 σ H1 _ I1 q1) fun u s2 zz=>?_;obtain⟨y,H2,I2,r2,q2⟩:=zz;exact hf v u s2 x y H2 I2 r1 r2 q2
theorem cT {op:Operator} {r:R2} (ho:jj X (binaryOp op) r) (ha:PE X a ta) (hb:PE X b tb):PE X (.BinOp a op b pos) (tOp r ta tb):=by
  intro p_ s σ H Q I h;exact wpAny_BinOp (qcq ha hb I h fun v u s2 x y H2 I2 rx ry q=>ho p_ s2 σ H2 x y v u Q I2 rx ry q)
theorem opI {f:Value→Value→Sem Value} {C:Int→Int→Prop} {g:Int→Int→Int}
    (rule:∀(i j:Int) (t u:Tok) (s:Shared) (Q:Value→Shared→Prop) (E:Value→Shared→Prop),C i j→Q (.int (g i j) s.toks) {s with toks:=s.toks+1}→wpAny (model X.prog X.w) X.A (f (.int i t) (.int j u)) Q E s) :
    jj X f (rI C fun i j=>.int (g i j)):=by
  intro p_ s σ H x y v u Q I rx ry h;obtain⟨i,j,rfl,rfl,hc,q⟩:=h;obtain⟨t,rfl⟩:=rx;obtain⟨t',rfl⟩:=ry;exact rule i j t t' s _ _ hc ⟨.int (g i j),H,I.tok _,⟨_,rfl⟩,q⟩
theorem qfh {f:Value→Value→Sem Value} {g:Int→Int→Int}
    (rule:∀(i j:Int) (t u:Tok) (s:Shared) (Q:Value→Shared→Prop) (E:Value→Shared→Prop),Q (.int (g i j) s.toks) {s with toks:=s.toks+1}→wpAny (model X.prog X.w) X.A (f (.int i t) (.int j u)) Q E s) :
    jj X f (rI0 fun i j=>.int (g i j)):=by
  intro p_ s σ H x y v u Q I rx ry h;obtain⟨i,j,rfl,rfl,q⟩:=h;obtain⟨t,rfl⟩:=rx;obtain⟨t',rfl⟩:=ry;exact rule i j t t' s _ _ ⟨.int (g i j),H,I.tok _,⟨_,rfl⟩,q⟩
theorem qcr {f:Value→Value→Sem Value} {g:Int→Int→Bool}
    (rule:∀(i j:Int) (t u:Tok) (s:Shared) (Q:Value→Shared→Prop) (E:Value→Shared→Prop),Q (.bool (g i j)) s→wpAny (model X.prog X.w) X.A (f (.int i t) (.int j u)) Q E s) :
    jj X f (rI0 fun i j=>.bl (g i j)):=by
  intro p_ s σ H x y v u Q I rx ry h;obtain⟨i,j,rfl,rfl,q⟩:=h;obtain⟨t,rfl⟩:=rx;obtain⟨t',rfl⟩:=ry;exact rule i j t t' s _ _ ⟨.bl (g i j),H,I,rfl,q⟩
@[simp] def R3 (i j:Int):Prop:=0<j∧j<1073741824
@[simp] def qfi (i j:Int):Prop:=0≤j∧j≤1000000∧i.natAbs<2 ^ 64
@[simp] def ZL (i j:Int):Prop:=(-(2 ^ 64)<i∧i<2 ^ 64)∨(-(2 ^ 64)<j∧j<2 ^ 64)
theorem ZL.ok {i j:Int} (h:ZL i j):IntMulOk i j:=by
  rcases h with⟨h1,h2⟩ | ⟨h1,h2⟩
  ·exact .of_left (intBits_le_64 h1 h2)
  ·exact .of_right (intBits_le_64 h1 h2)
theorem qcs:jj X (binaryOp .Add) (rI0 fun i j=>.int (i+j)):=qfh fun _ _ _ _ _ _ _ q=>add_int q
theorem qct:jj X (binaryOp .Sub) (rI0 fun i j=>.int (i - j)):=qfh fun _ _ _ _ _ _ _ q=>sub_int q
theorem qcu:jj X (binaryOp .Mult) (rI ZL fun i j=>.int (i * j)):=opI fun _ _ _ _ _ _ _ hc q=>mul_int q hc.ok
theorem ZM:jj X (binaryOp .FloorDiv) (rI R3 fun i j=>.int (i / j)):=opI fun i j _ _ _ _ _ hc q=>by
  have h1:(0:Int)<j:=hc.1;have h2:j<1073741824:=hc.2;exact floordiv_int (by omega) (by rw[Int.fdiv_eq_ediv_of_nonneg i (by omega)];exact q) (.inl (PyProof.noPylong_small (by omega)))
theorem qcv:jj X (binaryOp .Mod) (rI (fun _ j=>0<j) fun i j=>.int (i % j)):=opI fun i j _ _ _ _ _ hc q=>by
  have h1:(0:Int)<j:=hc;exact mod_int' (by omega) (by rw[Int.fmod_eq_emod_of_nonneg i (by omega)];exact q)
theorem qcw:jj X (binaryOp .Pow) (rI qfi fun i j=>.int (i ^ j.toNat)):=opI fun _ _ _ _ _ _ _ hc q=>pow_int_small hc.1 hc.2.1 hc.2.2 q
end
def Bb:V→V→Bool
  | .non,.non=>true | .non,.int _=>true | .int _,.non=>true | .non,.bl _=>true | .bl _,.non=>true | .non,.str _=>true | .str _,.non=>true
  | .int _,.int _=>true | .bl _,.bl _=>true | .str _,.str _=>true | .Vi _,.Vi _=>true
  | .int _,.str _=>true | .str _,.int _=>true | .bl _,.str _=>true | .str _,.bl _=>true
  | _,_=>false
def rEq:R2:=fun x y H Q=>Bb x y=true∧Q (.bl (decide (x=y))) H
def rNe:R2:=fun x y H Q=>Bb x y=true∧Q (.bl (!decide (x=y))) H
theorem Qw {i j:Int}:decide (V.int i=V.int j)=(i == j):=by
  rw[Bool.eq_iff_iff];simp
theorem VN {i j:Bool}:decide (V.bl i=V.bl j)=(i == j):=by
  rw[Bool.eq_iff_iff];simp
theorem Qx {i j:Str}:decide (V.str i=V.str j)=(i == j):=by
  rw[Bool.eq_iff_iff];simp
theorem Qy {i j:Array UInt8}:decide (V.Vi i=V.Vi j)=(i.toList == j.toList):=by
  rw[Bool.eq_iff_iff];cases i;cases j;simp
section
variable {X:Cx} {a b c:Expr} {ta tb tc:TE} {pos:Pos}
theorem cA {p_:List (Addr×Obj)} {σ:St} {H:Hp} {s:Shared} {Q:VK} {k k':Bool} (I:Inv X p_ σ H s) (q:Q (.bl k) H) (e:k=k'):EP X p_ σ Q (.bool k') s:=by
  subst e;exact⟨.bl k,H,I,rfl,q⟩
theorem qfj:jj X (compareOp .Eq) rEq:=by
  intro p_ s σ H x y v u Q I rx ry h;obtain⟨hs,q⟩:=h;cases x with
  | non=>
    cases rx;cases y with
    | non=>cases ry;exact PySem.EqNone.eq_none_none (cA I q (by simp))
    | bl j=>cases ry;exact PySem.EqNone.eq_none_bool (cA I q (by simp))
    | int j=>obtain⟨t',rfl⟩:=ry;exact PySem.EqNone.eq_none_int (cA I q (by simp))
    | str j=>obtain⟨t',rfl⟩:=ry;exact PySem.EqNone.eq_none_str (cA I q (by simp))
    | _=>exact absurd (show false=true from hs) Bool.false_ne_true
  | bl i=>
    cases rx;cases y with
    | non=>cases ry;exact PySem.EqNone.eq_bool_none (cA I q (by simp))
    | bl j=>cases ry;exact eq_bool (cA I q VN)
    | str j=>obtain⟨t',rfl⟩:=ry;exact PySem.EqMixed.eq_bool_str (cA I q (by simp))
    | _=>exact absurd (show false=true from hs) Bool.false_ne_true
  | int i=>
    obtain⟨t,rfl⟩:=rx;cases y with
    | non=>cases ry;exact PySem.EqNone.eq_int_none (cA I q (by simp))
    | int j=>obtain⟨t',rfl⟩:=ry;exact eq_int (cA I q Qw)
    | str j=>obtain⟨t',rfl⟩:=ry;exact PySem.EqMixed.eq_int_str (cA I q (by simp))
    | _=>exact absurd (show false=true from hs) Bool.false_ne_true
  | str i=>
    obtain⟨t,rfl⟩:=rx;cases y with
    | non=>cases ry;exact PySem.EqNone.eq_str_none (cA I q (by simp))
    | bl j=>cases ry;exact PySem.EqMixed.eq_str_bool (cA I q (by simp))
    | int j=>obtain⟨t',rfl⟩:=ry;exact PySem.EqMixed.eq_str_int (cA I q (by simp))
    | str j=>obtain⟨t',rfl⟩:=ry;exact eq_str (cA I q Qx)
    | _=>exact absurd (show false=true from hs) Bool.false_ne_true
  | Vi i=>
    obtain⟨t,rfl⟩:=rx;cases y with
    | Vi j=>obtain⟨t',rfl⟩:=ry;exact W.eq_bytes (cA I q Qy)
    | _=>exact absurd (show false=true from hs) Bool.false_ne_true
  | _=>cases y <;> exact absurd (show false=true from hs) Bool.false_ne_true
theorem qfk:jj X (compareOp .NotEq) rNe:=by
  intro p_ s σ H x y v u Q I rx ry h;obtain⟨hs,q⟩:=h;cases x with
  | non=>
    cases rx;cases y with
    | non=>cases ry;exact PySem.EqNone.ne_none_none (cA I q (by simp))
    | bl j=>cases ry;exact PySem.EqNone.ne_none_bool (cA I q (by simp))
    | int j=>obtain⟨t',rfl⟩:=ry;exact PySem.EqNone.ne_none_int (cA I q (by simp))
    | str j=>obtain⟨t',rfl⟩:=ry;exact PySem.EqNone.ne_none_str (cA I q (by simp))
    | _=>exact absurd (show false=true from hs) Bool.false_ne_true
  | bl i=>
    cases rx;cases y with
    | non=>cases ry;exact PySem.EqNone.ne_bool_none (cA I q (by simp))
    | bl j=>cases ry;exact ne_bool (cA I q (congrArg not VN))
    | str j=>obtain⟨t',rfl⟩:=ry;exact PySem.EqMixed.ne_bool_str (cA I q (by simp))
    | _=>exact absurd (show false=true from hs) Bool.false_ne_true
  | int i=>
    obtain⟨t,rfl⟩:=rx;cases y with
    | non=>cases ry;exact PySem.EqNone.ne_int_none (cA I q (by simp))
    | int j=>obtain⟨t',rfl⟩:=ry;exact ne_int (cA I q (congrArg not Qw))
    | str j=>obtain⟨t',rfl⟩:=ry;exact PySem.EqMixed.ne_int_str (cA I q (by simp))
    | _=>exact absurd (show false=true from hs) Bool.false_ne_true
  | str i=>
    obtain⟨t,rfl⟩:=rx;cases y with
    | non=>cases ry;exact PySem.EqNone.ne_str_none (cA I q (by simp))
    | bl j=>cases ry;exact PySem.EqMixed.ne_str_bool (cA I q (by simp))
    | int j=>obtain⟨t',rfl⟩:=ry;exact PySem.EqMixed.ne_str_int (cA I q (by simp))
    | str j=>obtain⟨t',rfl⟩:=ry;exact ne_str (cA I q (congrArg not Qx))
    | _=>exact absurd (show false=true from hs) Bool.false_ne_true
  | Vi i=>
    obtain⟨t,rfl⟩:=rx;cases y with
    | Vi j=>obtain⟨t',rfl⟩:=ry;exact W.ne_bytes (cA I q (congrArg not Qy))
    | _=>exact absurd (show false=true from hs) Bool.false_ne_true
  | _=>cases y <;> exact absurd (show false=true from hs) Bool.false_ne_true
theorem qfl:jj X (compareOp .Lt) (rI0 fun i j=>.bl (decide (i<j))):=qcr fun _ _ _ _ _ _ _ q=>lt_int q
theorem qfm:jj X (compareOp .LtE) (rI0 fun i j=>.bl (decide (i≤j))):=qcr fun _ _ _ _ _ _ _ q=>le_int q
theorem qfn:jj X (compareOp .Gt) (rI0 fun i j=>.bl (decide (j<i))):=qcr fun _ _ _ _ _ _ _ q=>gt_int q
theorem R4:jj X (compareOp .In) (fun x y H Q=>∃i j,x = .str i∧y = .str j∧Q (.bl (!(Builtin.Str.occurrences j i 0 j.length 1).isEmpty)) H):=by
  intro p_ s σ H x y v u Q I rx ry h;obtain⟨i,j,rfl,rfl,q⟩:=h;obtain⟨t,rfl⟩:=rx;obtain⟨t',rfl⟩:=ry;exact in_str (cA I q rfl)
theorem qcx:jj X (compareOp .Is) (fun x y H Q=>y = .non∧Q (.bl (decide (x = .non))) H):=by
  intro p_ s σ H x y v u Q I rx ry h;obtain⟨rfl,q⟩:=h;cases ry;refine is_none_gen (cA I q ?_);cases x <;> first
    | (cases rx;rfl)
    | (obtain⟨t,rfl⟩:=rx;rfl)
theorem Qz:jj X (compareOp .IsNot) (fun x y H Q=>y = .non∧Q (.bl (!decide (x = .non))) H):=by
  intro p_ s σ H x y v u Q I rx ry h;obtain⟨rfl,q⟩:=h;cases ry;refine isnot_none_gen (cA I q ?_);cases x <;> first
    | (cases rx;rfl)
    | (obtain⟨t,rfl⟩:=rx;rfl)
theorem jj.or {f:Value→Value→Sem Value} {r r':R2} (h:jj X f r) (h':jj X f r'):jj X f (fun x y H Q=>r x y H Q∨r' x y H Q):=by
  intro p_ s σ H x y v u Q I rx ry q
  rcases q with q | q
  ·exact h p_ s σ H x y v u Q I rx ry q
  ·exact h' p_ s σ H x y v u Q I rx ry q
theorem bY (b:Expr) {op:CmpOp} (h:op≠.In:=by decide) (h2:op≠.NotIn:=by decide):behindInMarks op b=false:=by
  have e1:(op == CmpOp.In)=false:=by cases op <;> first | rfl | exact absurd rfl h
  have e2:(op == CmpOp.NotIn)=false:=by cases op <;> first | rfl | exact absurd rfl h2
  cases b <;> simp[behindInMarks,e1,e2]
theorem gO {op:CmpOp} {r:R2} (ho:jj X (compareOp op) r) (ha:PE X a ta) (hb:PE X b tb) (hm:behindInMarks op b=false):PE X (.Compare a [op] [b] pos) (tOp r ta tb):=by
  intro p_ s σ H Q I h;exact wpAny_Compare1 (qcq ha hb I h fun v u s2 x y H2 I2 rx ry q=>ho p_ s2 σ H2 x y v u Q I2 rx ry q) hm
def QB (t:TE):TT:=fun σ H Q=>t σ H fun x H'=>∃k,x = .bl k∧Q k H'
theorem ZP {op:CmpOp} {r:R2} (ho:jj X (compareOp op) r) (ha:PE X a ta) (hb:PE X b tb) (hm:behindInMarks op b=false):PT X (.Compare a [op] [b] pos) (QB (tOp r ta tb)):=by
  intro p_ s σ H Q I h;refine wpAny_isTrue_Compare1 (cY (ha p_ s σ H _ I h) fun v s1 ⟨x,H1,I1,r1,q1⟩=>cY (hb p_ s1 σ H1 _ I1 q1) fun u s2 ⟨y,H2,I2,r2,q2⟩=>
    cY (ho p_ s2 σ H2 x y v u _ I2 r1 r2 q2) fun c s3 ⟨z,H3,I3,r3,k,e,q3⟩=>?_) hm
  subst e;cases r3;exact wpAny_truthy_bool ⟨H3,I3,q3⟩
def Hz (r r':R2) (ta tb tc:TE):TE:=fun σ H Q=>ta σ H fun x H1=>tb σ H1 fun y H2=>r x y H2 fun z H3=>∃k,z = .bl k∧
  (if k=true then tc σ H3 fun w' H4=>r' y w' H4 Q else Q (.bl false) H3)
theorem VP {op op':CmpOp} {r r':R2} (ho:jj X (compareOp op) r) (ho':jj X (compareOp op') r') (ha:PE X a ta) (hb:PE X b tb) (hc:PE X c tc)
    (hm:lastMarks [op,op'] [b,c]=false:=by with_unfolding_all rfl):PE X (.Compare a [op,op'] [b,c] pos) (Hz r r' ta tb tc):=by
  intro p_ s σ H Q I h;refine Compare_chain (cY (ha p_ s σ H _ I h) fun v s1 ⟨x,H1,I1,r1,q1⟩=>chain_link (cY (hb p_ s1 σ H1 _ I1 q1) fun u s2 ⟨y,H2,I2,r2,q2⟩=>
    cY (ho p_ s2 σ H2 x y v u _ I2 r1 r2 q2) fun d s3 ⟨z,H3,I3,r3,k,e,q3⟩=>?_)) hm
  subst e;cases r3;refine wpAny_truthy_bool ?_;cases k with
  | false=>exact ite_ff ⟨.bl false,H3,I3,rfl,q3⟩
  | true=>exact ite_tt (chain_last (cY (hc p_ s3 σ H3 _ I3 q3) fun w' s4 ⟨z',H4,I4,r4,q4⟩=>ho' p_ s4 σ H4 y z' u w' Q I4 r2 r4 q4))
theorem VR {op op':CmpOp} {r r':R2} (ho:jj X (compareOp op) r) (ho':jj X (compareOp op') r') (ha:PE X a ta) (hb:PE X b tb) (hc:PE X c tc)
    (hm:lastMarks [op,op'] [b,c]=false:=by with_unfolding_all rfl):PT X (.Compare a [op,op'] [b,c] pos) (QB (Hz r r' ta tb tc)):=by
  intro p_ s σ H Q I h;refine isTrue_chain (cY (ha p_ s σ H _ I h) fun v s1 ⟨x,H1,I1,r1,q1⟩=>test_link (cY (hb p_ s1 σ H1 _ I1 q1) fun u s2 ⟨y,H2,I2,r2,q2⟩=>
    cY (ho p_ s2 σ H2 x y v u _ I2 r1 r2 q2) fun d s3 ⟨z,H3,I3,r3,k,e,q3⟩=>?_)) hm
  subst e;cases r3;refine wpAny_truthy_bool ?_;cases k with
  | false=>
    obtain⟨k',e',q'⟩:=q3;cases e';exact ite_ff ⟨H3,I3,q'⟩
  | true=>
    refine ite_tt (test_last (cY (hc p_ s3 σ H3 _ I3 q3) fun w' s4 ⟨z',H4,I4,r4,q4⟩=>cY (ho' p_ s4 σ H4 y z' u w' _ I4 r2 r4 q4) fun d' s5 ⟨z2,H5,I5,r5,k2,e2,q5⟩=>?_));subst e2;cases r5;exact wpAny_truthy_bool ⟨H5,I5,q5⟩
theorem wz:(sizeLine:Nat)<2 ^ 63:=by rw[sizeLine_eq];decide
theorem Nt:jj X (binaryOp .Add) (fun x y H Q=>∃i j,x = .str i∧y = .str j∧i.length+j.length≤sizeLine∧Q (.str (i++j)) H):=by
  intro p_ s σ H x y v u Q I rx ry h;obtain⟨i,j,rfl,rfl,hz,q⟩:=h;obtain⟨t,rfl⟩:=rx;obtain⟨t',rfl⟩:=ry;exact add_str (fun t' tk=>⟨.str (i++j),H,I.tok _,⟨_,rfl⟩,q⟩) hz
theorem vals1 {x:V} {us:List Value} (r:Vals [x] us):∃u,us=[u]∧RelV x u:=by
  cases r with
  | cons r1 r2=>cases r2;exact⟨_,rfl,r1⟩
theorem vals2 {x y:V} {us:List Value} (r:Vals [x,y] us):∃u w',us=[u,w']∧RelV x u∧RelV y w':=by
  cases r with
  | cons r1 r2=>
    cases r2 with
    | cons r3 r4=>cases r4;exact⟨_,_,rfl,r1,r3⟩
theorem V0:cF X (.builtin "abs") (fun xs H Q=>∃i,xs=[.int i]∧Q (.int (if i<0 then -i else i)) H):=by
  intro p_ s σ H xs us Q I r h;obtain⟨i,rfl,q⟩:=h;obtain⟨u,rfl,t,rfl⟩:=vals1 r;exact call_abs_int fun u tk=>⟨.int (if i<0 then -i else i),H,I.tok _,⟨_,rfl⟩,q⟩
theorem R5 (hc:X.calm=true):cF X (.builtin "max") (fun xs H Q=>∃i j,xs=[.int i,.int j]∧Q (.int (if j > i then j else i)) H):=by
  intro p_ s σ H xs us Q I r h;obtain⟨i,j,rfl,q⟩:=h;obtain⟨u,w',rfl,⟨t,rfl⟩,⟨t',rfl⟩⟩:=vals2 r;refine max_two_ints (I.ok.hd hc) fun h' tk k=>⟨_,H,I.kept k,?_,q⟩
  by_cases hj:j > i
  ·rw[if_pos hj,if_pos hj];exact⟨_,rfl⟩
  ·rw[if_neg hj,if_neg hj];exact⟨_,rfl⟩
theorem R6 (hc:X.calm=true):cF X (.builtin "min") (fun xs H Q=>∃i j,xs=[.int i,.int j]∧Q (.int (if j<i then j else i)) H):=by
  intro p_ s σ H xs us Q I r h;obtain⟨i,j,rfl,q⟩:=h;obtain⟨u,w',rfl,⟨t,rfl⟩,⟨t',rfl⟩⟩:=vals2 r;refine min_two_ints (I.ok.hd hc) fun h' tk k=>⟨_,H,I.kept k,?_,q⟩
  by_cases hj:j<i
  ·rw[if_pos hj,if_pos hj];exact⟨_,rfl⟩
  ·rw[if_neg hj,if_neg hj];exact⟨_,rfl⟩
theorem R7:cF X (.type "int") (fun xs H Q=>(∃i,xs=[.int i]∧Q (.int i) H)∨∃k,xs=[.bl k]∧Q (.int (if k then 1 else 0)) H):=by
  intro p_ s σ H xs us Q I r h
  rcases h with⟨i,rfl,q⟩ | ⟨k,rfl,q⟩
  ·obtain⟨u,rfl,t,rfl⟩:=vals1 r;exact call_int_int ⟨.int i,H,I,⟨_,rfl⟩,q⟩
  ·obtain⟨u,rfl,r1⟩:=vals1 r;cases r1;exact call_int_bool ⟨.int (if k then 1 else 0),H,I.tok _,⟨_,rfl⟩,q⟩
theorem Kg:cF X (.builtin "divmod") (fun xs H Q=>∃i j,xs=[.int i,.int j]∧R3 i j∧∀p,H p=none→Q (.ref p) (upd H p (.tup [.int (i / j),.int (i % j)]))):=by
  intro p_ s σ H xs us Q I r h;obtain⟨i,j,rfl,⟨h1,h2⟩,q⟩:=h;obtain⟨u,w',rfl,⟨t,rfl⟩,⟨t',rfl⟩⟩:=vals2 r;refine divmod_int (by omega) ?_ (.inl (PyProof.noPylong_small (by omega)));rw[Int.fdiv_eq_ediv_of_nonneg i (by omega),Int.fmod_eq_emod_of_nonneg i (by omega)];have hn:H s.heap.objs.size=none:=I.hok.fresh (Nat.le_refl _);refine⟨.ref s.heap.objs.size,_,?_,rfl,q _ hn⟩;refine I.laid (fun b o e=>Heap.get?_push_of_some _ e) (Nat.le_refl _) ⟨by simp only[List.length_cons,List.length_nil];rw[sizeLine_eq];decide,[.int (i / j) s.toks,.int (i % j) (s.toks+1)],.cons ⟨_,rfl⟩ (.cons ⟨_,rfl⟩ .nil),?_⟩;exact⟨_,Heap.get?_push_size s.heap rfl,rfl,0,rfl⟩
end
structure Nu (h:Heap) (x dx C:Addr) (mA:Str→Option Value):Prop where
  obj:h.get? x=some (W.instObj C dx)
  ns:h.Ns1 dx mA
  ne:dx≠x
theorem Gk {h:Heap} {dx:Addr} {mA:Str→Option Value} (n:h.Ns1 dx mA):∃od,h.get? dx=some od∧∀name,W.lookIn name od=some (mA name):=by
  obtain⟨o,es,ep,ho,hd,hk,_,hm⟩:=n;refine⟨o,ho,fun name=>?_⟩;have e:=hm name;unfold nsFind findBy at e;rw[← Array.find?_toList] at e;unfold W.lookIn;rw[hd];dsimp only;split
  ·rename_i y q;rw[q] at e;exact congrArg some e
  · rename_i q;rw[q] at e;have a:es.toList.any (·.refKey)=false:=by
      rw[List.any_eq_false];intro y hy;obtain⟨z,t,hkey⟩:=hk y (Array.mem_toList_iff.mp hy);simp[DictEntry.refKey,hkey]
    have a':¬es.toList.any (·.refKey)=true:=by rw[a];exact Bool.false_ne_true
    rw[if_neg a'];exact congrArg some e
theorem Nu.look {h:Heap} {x dx C:Addr} {mA:Str→Option Value} (I:Nu h x dx C mA):∃od,W.InstAt h x (W.instObj C dx) C (some od)∧∀name,W.lookIn name od=some (mA name):=
  let ⟨od,ho,hl⟩:=Gk I.ns
  ⟨od,⟨I.obj,rfl,rfl,ho⟩,hl⟩
section
variable {prog:Program} {w:World} {A:Around} {E:Value→Shared→Prop} {s:Shared} {K:W.Frag} {x dx C f:Addr} {mA:Str→Option Value} {name:Str} {v:Value}
theorem get_map {expr:Bool} {Q:Value→Shared→Prop} (X:K.In s.heap) (I:Nu s.heap x dx C mA) (hg:W.plainGet K C name=true) (hh:W.hasDictIn K C=true)
    (ha:W.findIn K (.ref C) name=some none) (hv:mA name=some v) (hv':W.handedIn v=true) (h:Q v {s with toks:=s.toks+1}) :
    wpAny (model prog w) A (getAttr (.ref x) name expr) Q E s:=by
  obtain⟨od,J,hl⟩:=I.look;exact W.get_value X J (W.plainGet_of hg).1 (W.findObj_own hh ha rfl (by rw[hl,hv])) hv' h
theorem V1 {pl:Sem Bool} {Q:Value×List Value→Shared→Prop} (X:K.In s.heap) (I:Nu s.heap x dx C mA) (hg:W.plainGet K C name=true)
    (hf:W.findIn K (.ref C) name=some (some (.ref f))) (ht:W.isFn K (.ref f)=true) (hv:mA name=none) (h:Q (.ref f,[.ref x]) s) :
    wpAny (model prog w) A (getMethod (.ref x) name pl) Q E s:=by
  obtain⟨od,J,hl⟩:=I.look;exact W.method_fn X J (W.plainGet_of hg).1 (W.plainGet_of hg).2 hf (beq_iff_eq.mp ht) (by show(W.lookIn name od).map (·.isSome)=some false;rw[hl,hv];rfl) h
theorem ZQ {ns:List Str} {Q:Unit→Shared→Prop} (X:K.In s.heap) (I:Nu s.heap x dx C mA)
    (hs:W.findIn K (.ref C) "__setattr__" = some (some (.builtin "object.__setattr__"))) (hp:W.plainOver K C=true) (ht:W.takerIn K C name=some none) (hh:W.hasDictIn K C=true)
    (hw:PySem.Within mA ns) (hsz:ns.length≤sizeLine)
    (h:∀h',Nu h' x dx C (fun y=>if y=name then some v else mA y)→Heap.SameBut dx s.heap h'→Q () {s with heap:=h',toks:=s.toks+2}) :
    wpAny (model prog w) A (setAttr (.ref x) name v) Q E s:=by
  obtain⟨od,J,hl⟩:=I.look;refine W.set_plain X J hs (W.osa_open (s:={s with toks:=s.toks+1}) (r:=none) X J hp ht fun b=>?_);obtain⟨cd,hc,hd'⟩:=W.any_some hh;have hx:s.heap.get? x=some ⟨.ref C,some dx,.plain,#[]⟩:=I.obj;refine wpAny_bind (wpAny_pure (wpAny_bind (wpAny_bind (wpAny_loadPart hx (wpAny_bind (W.Looks.here (s:={s with toks:=s.toks+1}) (W.looks_clsIn X hc) ?_))))));rw[hd'];refine wpAny_pure (a:=some dx) (wpAny_bind (wpAny_pure (wpAny_bind ?_)));refine wpAny_nsSet1 (s:={s with toks:=s.toks+1}) I.ns fun h' hn2 hs2=>?_;obtain⟨oD,esD,epD,hoD,hdD,hcD⟩:=hn2.count (PySem.Within.cons name v hw);refine wpAny_bind (wpAny_lookBehind hoD (by rw[hdD];exact pastItsLine_dict (Nat.le_trans hcD (by rw[List.length_cons];omega))) ?_);exact wpAny_pure (h _ ⟨(hs2.2 _ (Ne.symm I.ne)).trans I.obj,hn2,I.ne⟩ hs2)
theorem V2 {R:Result→Shared→Prop} {vs:List Value} {kw:List (Str×Value)} (X:K.In s.heap) (hm:W.makesIn K C=true)
    (hi:W.findIn K (.ref C) "__init__" = some (some (.ref f))) (hf:W.typeIn K (.ref f)=some (.type "function"))
    (h:codeAny (model prog w) (A.under (.builtin "type.__call__" ⟨.ref C::vs,kw⟩)) (.call (.ref f) ⟨.ref (s.heap.objs.size+1)::vs,kw⟩) (W.InitBack (s.heap.objs.size+1) R)
      {s with heap:=(s.heap.push W.emptyDict).push (W.instObj C s.heap.objs.size)}) :
    codeAny (model prog w) A (.call (.ref C) ⟨vs,kw⟩) R s:=by
  obtain⟨hh,g,d,t,os⟩:=s;exact W.make_core (W.makes_of X hm) (W.looks_findIn X hi) (fun self=>W.bind_fn X self hf) (.inl rfl) h
end
def lF (f:Str) (v:V):List (Str×V)→List (Str×V)
  | []=>[(f,v)]
  | (g,x)::r=>if g=f then (g,v)::r else (g,x)::lF f v r
theorem oV (f g:Str) (v:V):∀fs:List (Str×V),(lF f v fs).lookup g=if g=f then some v else fs.lookup g
  | []=>by
    show List.lookup g [(f,v)]=_
    by_cases h:g=f
    ·have hb:(g == f)=true:=beq_iff_eq.mpr h;simp only[List.lookup,hb,if_pos h]
    ·have hb:(g == f)=false:=beq_eq_false_iff_ne.mpr h;simp only[List.lookup,hb,if_neg h]
  | (k,x)::r=>by
    have ih:=oV f g v r;rw[show lF f v ((k,x)::r)=(if k=f then (k,v)::r else (k,x)::lF f v r) from rfl]
    by_cases hk:k=f
    · rw[if_pos hk]
      by_cases h:g=k
      ·have hb:(g == k)=true:=beq_iff_eq.mpr h;simp only[List.lookup,hb,if_pos (h.trans hk)]
      ·have hb:(g == k)=false:=beq_eq_false_iff_ne.mpr h;simp only[List.lookup,hb,if_neg (fun e:g=f=>h (e.trans hk.symm))]
    · rw[if_neg hk]
      by_cases h:g=k
      ·have hb:(g == k)=true:=beq_iff_eq.mpr h;simp only[List.lookup,hb,if_neg (fun e:g=f=>hk (h.symm.trans e))]
      ·have hb:(g == k)=false:=beq_eq_false_iff_ne.mpr h;simp only[List.lookup,hb];exact ih
theorem qt (f:Str) (v:V):∀fs:List (Str×V),f∈(lF f v fs).map (·.1)∧∀g,g∈fs.map (·.1)→g∈(lF f v fs).map (·.1)
  | []=>⟨by simp[lF],fun g h=>by simp at h⟩
  | (k,x)::r=>by
    obtain⟨i1,i2⟩:=qt f v r;rw[show lF f v ((k,x)::r)=(if k=f then (k,v)::r else (k,x)::lF f v r) from rfl]
    by_cases hk:k=f
    ·rw[if_pos hk];subst hk;exact⟨by simp,fun g h=>by simpa using h⟩
    · rw[if_neg hk];refine⟨?_,fun g h=>?_⟩
      ·rw[List.map_cons];exact List.mem_cons_of_mem _ i1
      · rw[List.map_cons] at h ⊢
        rcases List.mem_cons.mp h with e | e
        ·exact List.mem_cons.mpr (.inl e)
        ·exact List.mem_cons_of_mem _ (i2 g e)
theorem tU (f:Str) (v:V):∀fs:List (Str×V),(lF f v fs).length≤fs.length+1
  | []=>by simp[lF]
  | (k,x)::r=>by
    have ih:=tU f v r;rw[show lF f v ((k,x)::r)=(if k=f then (k,v)::r else (k,x)::lF f v r) from rfl]
    by_cases hk:k=f
    ·rw[if_pos hk,List.length_cons,List.length_cons];omega
    ·rw[if_neg hk,List.length_cons,List.length_cons];omega
theorem mQ.some_of {v:V} {o:Option Value} (r:mQ (some v) o):∃u,o=some u∧RelV v u:=by
  cases o with
  | none=>exact(show False from r).elim
  | some u=>exact⟨u,rfl,r⟩
theorem mQ.none_of {o:Option Value} (r:mQ none o):o=none:=by
  cases o with
  | none=>rfl
  | some u=>exact(show False from r).elim
theorem Gm {v:V} {u:Value} (r:RelV v u):W.handedIn u=true:=by
  cases v with
  | non=>cases (show u=Value.none from r);rfl
  | bl b=>cases (show u=Value.bool b from r);rfl
  | int i=>obtain⟨t,e⟩:=(show ∃t,u=Value.int i t from r);cases e;rfl
  | str x=>obtain⟨t,e⟩:=(show ∃t,u=Value.str x t from r);cases e;rfl
  | Vi b=>obtain⟨t,e⟩:=(show ∃t,u=Value.bytes b t from r);cases e;rfl
  | flt b=>obtain⟨t,e⟩:=(show ∃t,u=Value.float b t from r);cases e;rfl
  | ref a=>cases (show u=Value.ref a from r);rfl
  | ty n=>cases (show u=Value.type n from r);rfl
section
variable {P:Program} {w:World} {H H':Hp} {h h':Heap} {a C dx:Addr} {fs fs':List (Str×V)}
theorem xH (hok:sY P w H h) (e:H a=some (.ins C dx fs)):∃mA,Nu h a dx C mA∧(∀f,mQ (fs.lookup f) (mA f))∧PySem.Within mA (fs.map (·.1))∧fs.length≤1000∧H dx=some (.own a):=by
  obtain⟨d,z,ne,ob,mA,n,r,q⟩:=(show b_ P w H h a (.ins C dx fs) from hok a _ e);exact⟨mA,⟨ob,n,ne⟩,r,q,z,d⟩
end
structure Cls (K:W.Frag) (C:Addr):Prop where
  pg:W.plainGet K C Str.empty=true
  hd:W.hasDictIn K C=true
  po:W.plainOver K C=true
  sa:W.findIn K (.ref C) "__setattr__" = some (some (.builtin "object.__setattr__"))
theorem Cls.get {K:W.Frag} {C:Addr} (c:Cls K C) (f:Str):W.plainGet K C f=true:=c.pg
def mU (K:W.Frag) (C:Addr) (f:Str):Prop:=W.findIn K (.ref C) f=some none
theorem mU.taker {K:W.Frag} {C:Addr} {f:Str} (n:mU K C f):W.takerIn K C f=some none:=by
  unfold W.takerIn;rw[show W.findIn K (.ref C) f=some none from n];rfl
structure Meth (K:W.Frag) (C:Addr) (m:Str) (f:Addr):Prop where
  at_:W.findIn K (.ref C) m=some (some (.ref f))
  fn:W.isFn K (.ref f)=true
  kp:W.keepIn K (.ref f)=true
section
variable {X:Cx} {p_:List (Addr×Obj)} {σ:St} {H:Hp} {s:Shared} {a C dx:Addr} {fs:List (Str×V)} {f:Str} {v:V} {A:Around} {E:Value→Shared→Prop}
theorem Nv {b:Bool} {Q:Value→Shared→Prop} (I:Inv X p_ σ H s) (e:H a=some (.ins C dx fs)) (c:Cls X.K C) (n:mU X.K C f) (l:fs.lookup f=some v)
    (h:∀u s',Inv X p_ σ H s'→RelV v u→Q u s'):wpAny (model X.prog X.w) A (getAttr (.ref a) f b) Q E s:=by
  obtain⟨mA,O,r,_,_,_⟩:=xH I.hok e;obtain⟨u,hu,ru⟩:=mQ.some_of (v:=v) (o:=mA f) (by rw[← l];exact r f);exact get_map I.oO O (c.get f) c.hd n hu (Gm ru) (h u _ (I.tok _) ru)
theorem Nx {m:Str} {g:Addr} {pl:Sem Bool} {Q:Value×List Value→Shared→Prop} (I:Inv X p_ σ H s) (e:H a=some (.ins C dx fs)) (c:Cls X.K C) (k:Meth X.K C m g) (l:fs.lookup m=none)
    (h:Q (.ref g,[.ref a]) s):wpAny (model X.prog X.w) A (getMethod (.ref a) m pl) Q E s:=by
  obtain⟨mA,O,r,_,_,_⟩:=xH I.hok e;have hn:mA m=none:=mQ.none_of (by rw[← l];exact r m);exact V1 I.oO O (c.get m) k.at_ k.fn hn h
theorem Ny {y:V} {u:Value} {Q:Unit→Shared→Prop} (I:Inv X p_ σ H s) (e:H a=some (.ins C dx fs)) (c:Cls X.K C) (n:mU X.K C f) (hl:fs.length<1000) (ry:RelV y u)
    (h:∀s',Inv X p_ σ (upd H a (.ins C dx (lF f y fs))) s'→Q () s'):wpAny (model X.prog X.w) A (setAttr (.ref a) f u) Q E s:=by
  obtain⟨mA,O,r,wi,_,ho⟩:=xH I.hok e;have hz:(fs.map (·.1)).length≤sizeLine:=by rw[List.length_map,sizeLine_eq];omega
  refine ZQ I.oO O c.sa c.po n.taker c.hd wi hz fun h' O' sb=>h _ ?_;have hd:∃o,h'.get? dx=some o:=let ⟨o,_,_,e',_⟩:=O'.ns;⟨o,e'⟩;refine I.write (x:=a) (e:=dx) (by rw[e];exact True.intro) (.inr ho) (fun b q hb z=>(sb.2 b hb).trans z) hd ?_;refine⟨by rw[aC O.ne];exact ho,?_,O.ne,O'.obj,_,O'.ns,fun g=>?_,fun g hg=>?_⟩
  ·have:=tU f y fs;omega
  · show mQ ((lF f y fs).lookup g) (if g=f then some u else mA g)
    rw[oV]
    by_cases q:g=f
    ·rw[if_pos q,if_pos q];exact ry
    ·rw[if_neg q,if_neg q];exact r g
  · by_cases q:g=f
    ·rw[q];exact(qt f y fs).1
    · refine(qt f y fs).2 g (wi g fun z=>hg ?_);show(if g=f then some u else mA g)=none
      rw[if_neg q];exact z
theorem Inv.made (I:Inv X p_ σ H s):Inv X p_ σ (upd (upd H s.heap.objs.size (.own (s.heap.objs.size+1))) (s.heap.objs.size+1) (.ins C s.heap.objs.size []))
    {s with heap:=(s.heap.push W.emptyDict).push (W.instObj C s.heap.objs.size)}:=by
  have e1:(s.heap.push W.emptyDict).get? s.heap.objs.size=some W.emptyDict:=Heap.get?_push_size s.heap rfl;have e2:((s.heap.push W.emptyDict).push (W.instObj C s.heap.objs.size)).get? (s.heap.objs.size+1)=some (W.instObj C s.heap.objs.size):=by
    have:=Heap.get?_push_size (s.heap.push W.emptyDict) (o:=W.instObj C s.heap.objs.size) rfl
    rwa [Heap.size_push] at this
  have e3:(s.heap.push W.emptyDict).Ns s.heap.objs.size (fun _=>none):=⟨W.emptyDict,#[],_,e1,rfl,(fun e he=>absurd he (by simp)),fun _=>rfl⟩;have I1:=I.laid (a:=s.heap.objs.size) (o:=.own (s.heap.objs.size+1)) (h':=s.heap.push W.emptyDict) (t':=s.toks) (fun b u q=>Heap.get?_push_of_some _ q) (Nat.le_refl _) ⟨_,e1⟩;refine I1.laid (a:=s.heap.objs.size+1) (o:=.ins C s.heap.objs.size []) (t':=s.toks) (fun b u q=>Heap.get?_push_of_some _ q) (Nat.le_of_eq (Heap.size_push _ _)) ?_;have ne:s.heap.objs.size≠s.heap.objs.size+1:=Nat.ne_of_lt (Nat.lt_succ_self _);refine⟨by rw[aC ne,ak],Nat.zero_le _,ne,e2,fun _=>none,(Heap.Ns1.of_empty e3).at fun o q=>Heap.get?_push_of_some _ q,fun _=>True.intro,fun y hy=>absurd rfl hy⟩
theorem QC {prog:Program} {w:World} {env:Env} {e:Expr} {f:Str} {pos:Pos} {s:Shared} {Q:Value→Shared→Prop} (hb:attributeBase e f env (eval e env)=eval e env)
    (h:wpAny (model prog w) A (eval e env) (fun o s₁=>wpAny (model prog w) A (getAttr o f true) Q E s₁) E s):wpAny (model prog w) A (eval (.Attribute e f pos) env) Q E s:=
  Attribute_any_ h (by rw[arm_eval_Attribute,hb])
end
def ZR (K:W.Frag) (ta:TE) (f:Str):TE:=fun σ H Q=>ta σ H fun x H1=>∃a C dx fs v,x = .ref a∧H1 a=some (.ins C dx fs)∧Cls K C∧mU K C f∧fs.lookup f=some v∧Q v H1
def qcy (K:W.Frag) (ta tv:TE) (f:Str):TS:=fun D σ H=>tv σ H fun y H1=>ta σ H1 fun x H2=>∃a C dx fs,x = .ref a∧H2 a=some (.ins C dx fs)∧Cls K C∧mU K C f∧fs.length<1000∧
  D.nx σ (upd H2 a (.ins C dx (lF f y fs)))
section
variable {X:Cx} {o e value:Expr} {f:Str} {pos pos' tpos:Pos} {ta tv:TE}
theorem qcz (he:PE X e ta) (hb:attributeBase e f X.env (eval e X.env)=eval e X.env):PE X (.Attribute e f pos) (ZR X.K ta f):=by
  intro p_ s σ H Q I h;refine QC hb (cY (he p_ s σ H _ I h) fun u s1 zz=>?_);obtain⟨x,H1,I1,rx,a,C,dx,fs,v,ex,ea,c,n,l,q⟩:=zz;subst ex;obtain rfl:u=Value.ref a:=rx;exact Nv I1 ea c n l fun u' s2 I2 ru=>⟨v,H1,I2,ru,q⟩
theorem qcA (ha:PE X o ta) (hv:PE X value tv) (hs:swapsWith value (some (.Attribute o f pos')) pos.line X.env=pure false):PS X (.Assign [.Attribute o f pos'] value pos) (qcy X.K ta tv f):=by
  intro p_ s σ H D I h;refine plainObj_wpAny_Assign_Attribute (cY (hv p_ s σ H _ I h) fun u s1 ⟨y,H1,I1,ry,q⟩=>cY (ha p_ s1 σ H1 _ I1 q) fun ov s2 ⟨x,H2,I2,rx,a,C,dx,fs,ex,ea,c,n,l,q2⟩=>?_) hs;subst ex;obtain rfl:ov=Value.ref a:=rx;exact Ny I2 ea c n l ry fun s3 I3=>⟨σ,_,I3,q2⟩
end
section
variable {X:Cx} {p_:List (Addr×Obj)} {σ:St} {H:Hp} {s:Shared} {A:Around} {E:Value→Shared→Prop} {Q:Value→Shared→Prop} {c:Value} {b:Bool}
inductive m_ (K:W.Frag) (H:Hp):V→Value→Prop where
  | non:m_ K H .non (.type "NoneType")
  | bl (x:Bool):m_ K H (.bl x) (.type "bool")
  | int (i:Int):m_ K H (.int i) (.type "int")
  | str (x:Str):m_ K H (.str x) (.type "str")
  | flt (x:UInt64):m_ K H (.flt x) (.type "float")
  | lst {a:Addr} {xs:List V} (e:H a=some (.lst xs)):m_ K H (.ref a) (.type "list")
  | gw {a:Addr} {o:Obj} {xs:List V} (e:H a=some (.gw o (.lst xs))):m_ K H (.ref a) (.type "list")
  | tup {a:Addr} {xs:List V} (e:H a=some (.tup xs)):m_ K H (.ref a) (.type "tuple")
  | dK {a:Addr} {kvs:List (Key×V)} (e:H a=some (.dK kvs)):m_ K H (.ref a) (.type "dict")
  | dT {a:Addr} {kvs:List (List Key×V)} (e:H a=some (.dT kvs)):m_ K H (.ref a) (.type "dict")
  | ins {a C dx:Addr} {fs:List (Str×V)} (e:H a=some (.ins C dx fs)) (cl:Cls K C) (ha:W.findIn K (.ref C) "__class__" = some (some (.builtin "object.__class__")))
      (hn:W.specialIn K (.builtin "object.__class__") "__get__" = some (some (.builtin "getset_descriptor.__get__"))) (htk:W.takesIn K (.builtin "object.__class__")=some true)
      (hm:W.mroIn K C (.type "object")=some true):m_ K H (.ref a) (.ref C)
theorem R8 {x:V} {u t:Value} (I:Inv X p_ σ H s) (rx:RelV x u) (ty:m_ X.K H x t) (e:W.kitOne X.K t c=some b) (h:∀tk,Q (.bool b) {s with toks:=tk}) :
    wpAny (model X.prog X.w) A (call (.builtin "isinstance") [u,c]) Q E s:=by
  cases ty with
  | non=>cases (show u=Value.none from rx);exact W.kia_one W.kitx_none I.oO True.intro e (fun z=>nomatch z) h
  | bl y=>cases (show u=Value.bool y from rx);exact W.kia_one W.kitx_bool I.oO True.intro e (fun z=>nomatch z) h
  | int i=>obtain⟨t,q⟩:=(show ∃t,u=Value.int i t from rx);cases q;exact W.kia_one W.kitx_int I.oO True.intro e (fun z=>nomatch z) h
  | str y=>obtain⟨t,q⟩:=(show ∃t,u=Value.str y t from rx);cases q;exact W.kia_one W.kitx_str I.oO True.intro e (fun z=>nomatch z) h
  | flt y=>obtain⟨t,q⟩:=(show ∃t,u=Value.float y t from rx);cases q;exact W.kia_one W.kitx_float I.oO True.intro e (fun z=>nomatch z) h
  | @lst a xs ea=>
    cases (show u=Value.ref a from rx);obtain⟨_,_,n,_,h1⟩:=(show b_ X.prog X.w H s.heap a (.lst xs) from I.hok a _ ea);exact W.kia_one W.kitx_list I.oO ⟨_,h1,rfl⟩ e (fun z=>nomatch z) h
  | @gw a ob xs ea=>
    cases (show u=Value.ref a from rx);obtain⟨_,_,_,n,_,h1⟩:=(show b_ X.prog X.w H s.heap a (.gw ob (.lst xs)) from I.hok a _ ea);exact W.kia_one W.kitx_list I.oO ⟨_,h1,rfl⟩ e (fun z=>nomatch z) h
  | @tup a xs ea=>
    cases (show u=Value.ref a from rx);obtain⟨_,_,_,p⟩:=(show b_ X.prog X.w H s.heap a (.tup xs) from I.hok a _ ea);obtain⟨o,h1,h2,_⟩:=p;exact W.kia_one W.kitx_tuple I.oO ⟨o,h1,h2⟩ e (fun z=>nomatch z) h
  | @dK a kvs ea=>
    cases (show u=Value.ref a from rx);obtain⟨_,_,vs,_,p⟩:=(show b_ X.prog X.w H s.heap a (.dK kvs) from I.hok a _ ea);obtain⟨o,es,ep,h1,h2,_⟩:=p;exact W.kia_one W.kitx_dict I.oO ⟨o,h1,h2.1⟩ e (fun z=>nomatch z) h
  | @dT a kvs ea=>
    cases (show u=Value.ref a from rx);obtain⟨_,_,xs,_,o,es,ep,h1,h2,_⟩:=(show b_ X.prog X.w H s.heap a (.dT kvs) from I.hok a _ ea);exact W.kia_one W.kitx_dict I.oO ⟨o,h1,h2.1⟩ e (fun z=>nomatch z) h
  | @ins a C dx fs ea cl ha hn htk hm=>
    cases (show u=Value.ref a from rx);obtain⟨mA,O,_⟩:=xH I.hok ea;obtain⟨od,J,_⟩:=O.look;exact W.kia_one (W.kitx_own (cl.get _) cl.hd ha hn htk hm) I.oO J e (fun z=>nomatch z) h
end
structure j4 (k:Nat) (A:Around):Prop where
  hd:A.handled=none
  dp:A.depth+3 * k+5<recursionLimit
  un:A.units+16 * k+200<cLine
  gd:A.guards=some []
theorem j4.mono {j k:Nat} {A:Around} (r:j4 k A) (h:j≤k):j4 j A:=⟨r.hd,by have:=r.dp;omega,by have:=r.un;omega,r.gd⟩
theorem j4.deeper {k:Nat} {A:Around} (r:j4 (k+1) A) (env:Env):j4 k (A.deeper env):=
  ⟨r.hd,by have:=r.dp;show A.depth+1+3 * k+5<_;omega,by have:=r.un;show A.units+3+16 * k+200<_;omega,r.gd⟩
theorem Nz {A:Around} {C:Addr} {us:List Value} {kw:List (Str×Value)}:(A.under (.builtin "type.__call__" ⟨.ref C::us,kw⟩)).depth=A.depth+1:=by
  first | rfl | simp[Around.under,Code.weight,Code.isCreation,Code.isGuard,Code.isCaller,Code.frames,Code.isFrame,guardIds]
theorem NK {A:Around} {C:Addr} {us:List Value} {kw:List (Str×Value)}:(A.under (.builtin "type.__call__" ⟨.ref C::us,kw⟩)).units=A.units+1:=by
  first | rfl | simp[Around.under,Code.cUnits,Code.frames,Code.isFrame]
theorem Kh {A:Around} {C:Addr} {us:List Value} {kw:List (Str×Value)}:(A.under (.builtin "type.__call__" ⟨.ref C::us,kw⟩)).guards=A.guards:=by
  first | rfl | simp[Around.under,Code.isGuard,guardIds]
theorem j4.make {k:Nat} {A:Around} (r:j4 (k+1) A) (C:Addr) (us:List Value) (kw:List (Str×Value)):j4 k (A.under (.builtin "type.__call__" ⟨.ref C::us,kw⟩)):=
  ⟨r.hd,by have:=r.dp;rw[Nz];omega,by have:=r.un;rw[NK];omega,by rw[Kh];exact r.gd⟩
theorem j4.depth {k:Nat} {A:Around} (r:j4 k A):A.depth<recursionLimit:=by have:=r.dp;omega
theorem j4.units {k:Nat} {A:Around} (r:j4 k A):A.units+64<cLine:=by have:=r.un;omega
def V3:TA:=fun _ H Q=>Q [] H
def QD (ta:TE) (tr:TA):TA:=fun σ H Q=>ta σ H fun x H1=>tr σ H1 fun xs H2=>Q (x::xs) H2
section
variable {X:Cx} {e:Expr} {es:List Expr} {te:TE} {t:TA} {pos:Pos}
theorem aq:PA X [] V3:=fun _ _ _ _ H Q I h=>Calls.spliced_nil ⟨[],H,I,.nil,h⟩
theorem aj (ha:PE X e te) (hr:PA X es t) (hs:starEach (e::es) X.env=(false,eval e X.env)::starEach es X.env:=by rfl):PA X (e::es) (QD te t):=by
  intro pos p_ s σ H Q I h;rw[hs];show wpAny _ _ (spliced ((false,eval e X.env)::backTo pos (starEach es X.env))) _ _ s;refine Calls.spliced_cons (cY (ha p_ s σ H _ I h) fun u s1 zz=>?_);obtain⟨x,H1,I1,r1,q1⟩:=zz;refine cY (hr pos p_ s1 σ H1 _ I1 q1) fun us s2 zz=>?_;obtain⟨xs,H2,I2,r2,q2⟩:=zz;exact⟨x::xs,H2,I2,.cons r1 r2,q2⟩
def qfo (t:TA):TE:=fun σ H Q=>t σ H fun xs H1=>xs.length≤sizeLine∧∀p,H1 p=none→Q (.ref p) (upd H1 p (.tup xs))
def qfp (t:TA):TE:=fun σ H Q=>t σ H fun xs H1=>xs.length≤sizeLine∧∀p,H1 p=none→Q (.ref p) (upd H1 p (.lst xs))
theorem fU {x1} (h:PA X es t):PE X (.Tuple es x1 pos) (qfo t):=by
  intro p_ s σ H Q I hq;refine wpAny_Tuple_spliced (cY (h pos p_ s σ H _ I hq) fun us s1 zz=>?_);obtain⟨xs,H1,I1,r,z,q⟩:=zz;refine⟨by rw[← r.length];exact z,?_⟩;have hf:H1 s1.heap.objs.size=none:=I1.hok.fresh (Nat.le_refl _);refine⟨.ref s1.heap.objs.size,upd H1 s1.heap.objs.size (.tup xs),I1.laid (t':=s1.toks) (fun b u e=>Heap.get?_push_of_some _ e) (Nat.le_refl _) ?_,rfl,q _ hf⟩;exact⟨z,us,r,⟨_,Heap.get?_push_size _ rfl,rfl,_,rfl⟩⟩
theorem jP (h:PA X es t):PE X (.List es pos) (qfp t):=by
  intro p_ s σ H Q I hq;refine wpAny_List_spliced (cY (h pos p_ s σ H _ I hq) fun us s1 zz=>?_);obtain⟨xs,H1,I1,r,z,q⟩:=zz;refine⟨by rw[← r.length];exact z,?_⟩;have hf:H1 s1.heap.objs.size=none:=I1.hok.fresh (Nat.le_refl _);refine⟨.ref s1.heap.objs.size,upd H1 s1.heap.objs.size (.lst xs),I1.laid (t':=s1.toks) (fun b u e=>Heap.get?_push_of_some _ e) (Nat.le_refl _) ?_,rfl,q _ hf⟩;exact⟨z,us,0,r,Heap.get?_push_size _ rfl⟩
end
abbrev Sp:=List V→Hp→VK→XK→Prop
abbrev Vl:=List Env→Hp→Shared→XK→Value→Shared→Prop
structure NP (P:Program) (w:World) (K:W.Frag) (mg:Str→Option Value) (base:Heap) (A:Around) (outer:List Env) (s:Shared) (H:Hp):Prop where
  frames:A.frames=some outer
  mod:Mod K mg base
  bs:∀b o,base.get? b=some o→s.heap.get? b=some o∧H b=none
  RP:base.objs.size≤s.heap.objs.size
  vN:s.heap.FunFrames base outer
  Zn:∀b∈frs outer,H b=none
  hok:sY P w H s.heap
  bare:AllBare s.gens
def CE (outer:List Env) (P:Program) (w:World) (H:Hp) (s:Shared) (Q:VK) (u:Value) (s':Shared):Prop:=
  ∃v H',s'.os=s.os∧AllBare s'.gens∧Un (frs outer) [] H H' s.heap s'.heap∧sY P w H' s'.heap∧RelV v u∧Q v H'
def CR (CX:Vl) (outer:List Env) (P:Program) (w:World) (H:Hp) (s:Shared) (Q:VK) (E:XK) (r:Result) (s':Shared):Prop:=
  match r with
  | .ok (.ret u)=>CE outer P w H s Q u s'
  | .ok _=>False
  | .error e=>CX outer H s E e s'
structure cg (P:Program) (w:World) (K:W.Frag) (mg:Str→Option Value) (base:Heap) (CX:Vl) (k:Nat) (f:Addr) (fd:FuncData) (ps:List Str) (sp:Sp):Prop where
  len:∀vs H Q E,sp vs H Q E→vs.length=ps.length
  run:∀(A:Around) (outer:List Env) (s:Shared) (H:Hp) (args:Args) (us:List Value) (vs:List V) (Q:VK) (E:XK),j4 k A→NP P w K mg base A outer s H→BindsTo s fd args (ps.zip us)→Vals vs us→sp vs H Q E→
    codeAny (model P w) A (.call (.ref f) args) (CR CX outer P w H s Q E) s
theorem cg.imp {P:Program} {w:World} {K:W.Frag} {mg:Str→Option Value} {base:Heap} {CX:Vl} {k:Nat} {f:Addr} {fd:FuncData} {ps:List Str} {sp sp':Sp} (F:cg P w K mg base CX k f fd ps sp)
    (h:∀vs H Q E,sp' vs H Q E→sp vs H Q E):cg P w K mg base CX k f fd ps sp':=
  ⟨fun vs H Q E q=>F.len vs H Q E (h _ _ _ _ q),fun A outer s H args us vs Q E hr he hb hv hs=>F.run A outer s H args us vs Q E hr he hb hv (h _ _ _ _ hs)⟩
theorem NP.make {P:Program} {w:World} {K:W.Frag} {mg:Str→Option Value} {base:Heap} {A:Around} {outer:List Env} {s:Shared} {H:Hp} (e:NP P w K mg base A outer s H) (C:Addr) (us:List Value) (kw:List (Str×Value)) :
    NP P w K mg base (A.under (.builtin "type.__call__" ⟨.ref C::us,kw⟩)) outer s H:=⟨by first | exact e.frames | (simpa [Around.under,Code.envs,Code.isFrame,pushEnvs] using e.frames),e.mod,e.bs,e.RP,e.vN,e.Zn,e.hok,e.bare⟩
section
variable {X:Cx} {p_:List (Addr×Obj)} {σ:St} {H:Hp} {s s':Shared}
theorem Inv.env0 (I:Inv X p_ σ H s):NP X.prog X.w X.K X.mg X.base X.A X.stack s H:=
  ⟨I.ok.frames,I.ok.mod,I.bs,Nat.le_trans I.ok.RP I.sz,I.stack,I.Bj,I.hok,I.bare⟩
theorem Inv.after {Q:VK} {u:Value} (I:Inv X p_ σ H s) (h:CE X.stack X.prog X.w H s Q u s'):EP X p_ σ Q u s':=by
  obtain⟨v,H',os,bare,un,hok,r,q⟩:=h;obtain⟨hh,g,d,t,os'⟩:=s';obtain rfl:os'=s.os:=os;exact⟨v,H',I.call (h':=hh) (g':=g) (d':=d) (t':=t) (ch:=[]) un hok bare (fun b z=>absurd z (by simp)),r,q⟩
end
def V4 (sp:Sp) (zp:List V) (E:XK) (t:TA):TE:=fun σ H Q=>t σ H fun vs H1=>sp (vs++zp) H1 Q E
def V5 (C:Addr) (m:Str) (sp:Sp) (zp:List V) (E:XK) (ta:TE) (t:TA):TE:=fun σ H Q=>ta σ H fun x H1=>∃a dx fs,x = .ref a∧H1 a=some (.ins C dx fs)∧fs.lookup m=none∧
  t σ H1 fun vs H2=>sp (x::(vs++zp)) H2 Q E
def V6 (C:Addr) (sp:Sp) (zp:List V) (E:XK) (t:TA):TE:=fun σ H Q=>t σ H fun vs H1=>∀x dx,H1 x=none→H1 dx=none→dx≠x→
  sp (.ref x::(vs++zp)) (upd (upd H1 dx (.own x)) x (.ins C dx [])) (fun v H2=>v = .non∧Q (.ref x) H2) E
def Binds (K:W.Frag) (fd:FuncData) (ps:List Str) (ds:List Value):Prop:=
  ∀(s:Shared) (us:List Value),K.In s.heap→(us++ds).length=ps.length→BindsTo s fd ⟨us,[]⟩ (ps.zip (us++ds))
theorem Binds.all {K:W.Frag} {fd:FuncData} {ps:List Str} (h:∀us:List Value,us.length=ps.length→bindArgs fd ⟨us,[]⟩=pure (ps.zip us)):Binds K fd ps []:=fun s us _ hl=>by
  rw[List.append_nil] at hl ⊢;exact .of_eq (h us hl)
def Passes (CX:Vl) (X:Cx) (E:XK):Prop:=∀(p_:List (Addr×Obj)) (σ:St) (H:Hp) (s:Shared) (e:Value) (s':Shared),Inv X p_ σ H s→CX X.stack H s E e s'→X.xe e s'
section
variable {X:Cx} {CX:Vl} {k:Nat} {f C:Addr} {fd:FuncData} {ps:List Str} {sp:Sp} {zp:List V} {ds:List Value} {E:XK} {x m:Str} {p pos apos:Pos} {e o:Expr} {es:List Expr} {ta:TE} {t:TA}
theorem V7 {p_:List (Addr×Obj)} {σ:St} {H:Hp} {s:Shared} {Q:VK} {us:List Value} {vs:List V} (F:cg X.prog X.w X.K X.mg X.base CX k f fd ps sp) (hr:j4 k X.A) (hb:Binds X.K fd ps ds) (hd:Vals zp ds) (hx:Passes CX X E)
    (I:Inv X p_ σ H s) (r:Vals vs us) (h:sp (vs++zp) H Q E):wpAny (model X.prog X.w) X.A (call (.ref f) us) (EP X p_ σ Q) X.xe s:=by
  have r2:Vals (vs++zp) (us++ds):=r.append hd;have hl:(us++ds).length=ps.length:=by rw[← r2.length];exact F.len _ _ _ _ h
  refine wpAny_call (codeAny_mono (F.run X.A X.stack s H ⟨us,[]⟩ (us++ds) (vs++zp) Q E hr I.env0 (hb s us I.oO hl) r2 h) fun r s' hq=>?_);cases r with
  | error e=>exact hx p_ σ H s e s' I hq
  | ok fl=>
    cases fl with
    | ret u=>exact I.after hq
    | next=>exact False.elim hq
    | brk=>exact False.elim hq
    | cont=>exact False.elim hq
theorem aN (F:cg X.prog X.w X.K X.mg X.base CX k f fd ps sp) (hr:j4 k X.A) (hg:Gl X x) (hm:X.mg x=some (.ref f)) (hk:W.keepIn X.K (.ref f)=true) (hb:Binds X.K fd ps ds) (hd:Vals zp ds) (hx:Passes CX X E)
    (ha:PA X (e::es) t) (hdb:(x == ("__debug__" : Str))=false:=by decide) (he:starEach (e::es) X.env=(false,eval e X.env)::starEach es X.env:=by rfl) (hpl:(backTo pos (starEach es X.env)).any (·.1)=false:=by rfl) :
    PE X (.Call (.Name x p) (e::es) [] pos) (V4 sp zp E t):=by
  intro p_ s σ H Q I h;refine wpAny_Call_Name_kw (jH I hg hm ?_ hdb);refine W.callWith_K (h₀:=X.base) I.ok.mod.M9 hk (cY (ha pos p_ s σ H _ I h) fun us s1 zz=>?_) he hpl;obtain⟨vs,H1,I1,r,q⟩:=zz;refine⟨I1.oO,?_⟩;exact V7 F hr hb hd hx I1 r q
theorem n6 {pl:Sem Bool} (he:PE X o ta) (c:Cls X.K C) (hm:Meth X.K C m f) (F:cg X.prog X.w X.K X.mg X.base CX k f fd ps sp) (hr:j4 k X.A) (hb:Binds X.K fd ps ds) (hd:Vals zp ds) (hx:Passes CX X E)
    (ht:eval (.Call (.Attribute o m apos) [] [] pos) X.env=(do
      let ov ← eval o X.env
      standAt apos.atName
      let (f,first) ← holding [ov] (getMethod ov m pl)
      callWith pos f first (backTo pos (starEach [] X.env)) (backToKw pos (keywordEach [] X.env))):=by rfl) :
    PE X (.Call (.Attribute o m apos) [] [] pos) (V5 C m sp zp E ta V3):=by
  intro p_ s σ H Q I h;refine W.methodCall_KW (pl:=pl) (cY (he p_ s σ H _ I h) fun u s1 zz=>?_) ht;obtain⟨x,H1,I1,rx,a,dx,fs,ex,ea,l,q⟩:=zz;subst ex;obtain rfl:u=Value.ref a:=rx;refine Nx I1 ea c hm l ?_;exact W.callWith_K0 (first:=[.ref a]) I1.oO hm.kp (V7 (us:=[.ref a]) (vs:=[.ref a]) F hr hb hd hx I1 (.cons rfl .nil) q)
structure Mk (K:W.Frag) (C f:Addr):Prop where
  makes:W.makesIn K C=true
  init:W.findIn K (.ref C) "__init__" = some (some (.ref f))
  fn:W.isFn K (.ref f)=true
  kp:W.keepIn K (.ref C)=true
theorem V8 {p_:List (Addr×Obj)} {σ:St} {H:Hp} {s:Shared} {Q:VK} {us:List Value} {vs:List V} (M:Mk X.K C f) (F:cg X.prog X.w X.K X.mg X.base CX k f fd ps sp) (hr:j4 (k+1) X.A) (hb:Binds X.K fd ps ds) (hd:Vals zp ds)
    (hx:Passes CX X E) (I:Inv X p_ σ H s) (r:Vals vs us)
    (h:∀x dx,H x=none→H dx=none→dx≠x→sp (.ref x::(vs++zp)) (upd (upd H dx (.own x)) x (.ins C dx [])) (fun v H2=>v = .non∧Q (.ref x) H2) E) :
    wpAny (model X.prog X.w) X.A (call (.ref C) us) (EP X p_ σ Q) X.xe s:=by
  have hq:=h (s.heap.objs.size+1) s.heap.objs.size (I.hok.fresh (Nat.le_succ _)) (I.hok.fresh (Nat.le_refl _)) (Nat.ne_of_lt (Nat.lt_succ_self _));have I2:=Inv.made (C:=C) I;have r2:Vals (V.ref (s.heap.objs.size+1)::(vs++zp)) (Value.ref (s.heap.objs.size+1)::(us++ds)):=.cons rfl (r.append hd);have hl:(Value.ref (s.heap.objs.size+1)::us++ds).length=ps.length:=by
    have e:=r2.length;rw[F.len _ _ _ _ hq] at e;exact e.symm
  refine wpAny_call (V2 (f:=f) I.oO M.makes M.init (beq_iff_eq.mp M.fn) (codeAny_mono (F.run _ X.stack _ _ ⟨Value.ref (s.heap.objs.size+1)::us,[]⟩ (Value.ref (s.heap.objs.size+1)::(us++ds)) _ _ E (hr.make C us [])
    (I2.env0.make C us []) (hb _ (Value.ref (s.heap.objs.size+1)::us) I2.oO hl) r2 hq) fun r s' hq'=>?_))
  cases r with
  | error e=>exact hx p_ σ _ _ e s' I2 hq'
  | ok fl=>
    cases fl with
    | ret u=>
      obtain⟨v,H',I3,rv,ev,q3⟩:=I2.after hq';subst ev;exact⟨rv,⟨V.ref (s.heap.objs.size+1),H',I3,rfl,q3⟩⟩
    | next=>exact False.elim hq'
    | brk=>exact False.elim hq'
    | cont=>exact False.elim hq'
theorem HB (M:Mk X.K C f) (F:cg X.prog X.w X.K X.mg X.base CX k f fd ps sp) (hr:j4 (k+1) X.A) (hg:Gl X x) (hm:X.mg x=some (.ref C)) (hb:Binds X.K fd ps ds) (hd:Vals zp ds) (hx:Passes CX X E)
    (ha:PA X (e::es) t) (hdb:(x == ("__debug__" : Str))=false:=by decide) (he:starEach (e::es) X.env=(false,eval e X.env)::starEach es X.env:=by rfl) (hpl:(backTo pos (starEach es X.env)).any (·.1)=false:=by rfl) :
    PE X (.Call (.Name x p) (e::es) [] pos) (V6 C sp zp E t):=by
  intro p_ s σ H Q I h;refine wpAny_Call_Name_kw (jH I hg hm ?_ hdb);refine W.callWith_K (h₀:=X.base) I.ok.mod.M9 M.kp (cY (ha pos p_ s σ H _ I h) fun us s1 zz=>?_) he hpl;obtain⟨vs,H1,I1,r,q⟩:=zz;refine⟨I1.oO,?_⟩;exact V8 M F hr hb hd hx I1 r q
end
structure aX (N P:List Str) (sc:Scope):Prop where
  kind:sc.kind = .function
  co:sc.isCoroutine=false
  gen:sc.isGenerator=false
  nd:N.Nodup
  pre:N.take P.length=P
  par:∀x∈P,sc.names.lookup x=some .local∨sc.names.lookup x=some .cell
  qcB:∀y∈sc.names,y.2≠.free
theorem Gn {kindOf:Str→Option NameKind} {x:Str}:∀{binds:List (Str×Value)} {m:Str→Option Value},(∀v,(x,v)∉binds)→bindL kindOf binds m x=m x
  | [],_,_=>rfl
  | (n,v)::r,m,h=>by
    unfold bindL;rw[Gn fun w hw=>h w (List.mem_cons_of_mem _ hw)];split
    · have:x≠n:=by rintro rfl;exact h v List.mem_cons_self
      simp[this]
    ·rfl
theorem Gp {kindOf:Str→Option NameKind} {x:Str}:∀{binds:List (Str×Value)} {m:Str→Option Value},(∀v,(x,v)∉binds)→bindC kindOf binds m x=m x
  | [],_,_=>rfl
  | (n,v)::r,m,h=>by
    unfold bindC;rw[Gp fun w hw=>h w (List.mem_cons_of_mem _ hw)];split
    ·rfl
    · have:x≠n:=by rintro rfl;exact h v List.mem_cons_self
      simp[this]
theorem Gq {kindOf:Str→Option NameKind} {x:Str} {v:Value}:∀{P:List Str} {vs:List Value} {i:Nat} {m:Str→Option Value},P.Nodup→P[i]? = some x→vs[i]? = some v→kindOf x=some .local→
    bindL kindOf (P.zip vs) m x=some v
  | [],_,_,_,_,h,_,_=>by simp at h
  | _::_,[],_,_,_,_,h,_=>by simp at h
  | p::P,w::vs,0,m,nd,h1,h2,hk=>by
    simp at h1 h2;subst h1;subst h2;show bindL kindOf ((p,w)::P.zip vs) m p=_;unfold bindL;rw[Gn fun v hv=>(List.nodup_cons.mp nd).1 (List.of_mem_zip hv).1,if_pos hk];simp
  | p::P,w::vs,i+1,m,nd,h1,h2,hk=>by
    show bindL kindOf ((p,w)::P.zip vs) m x=_;unfold bindL;exact Gq (i:=i) (List.nodup_cons.mp nd).2 (by simpa using h1) (by simpa using h2) hk
theorem Gs {kindOf:Str→Option NameKind} {x:Str} {v:Value}:∀{P:List Str} {vs:List Value} {i:Nat} {m:Str→Option Value},P.Nodup→P[i]? = some x→vs[i]? = some v→kindOf x≠some .local→
    bindC kindOf (P.zip vs) m x=some v
  | [],_,_,_,_,h,_,_=>by simp at h
  | _::_,[],_,_,_,_,h,_=>by simp at h
  | p::P,w::vs,0,m,nd,h1,h2,hk=>by
    simp at h1 h2;subst h1;subst h2;show bindC kindOf ((p,w)::P.zip vs) m p=_;unfold bindC;rw[Gp fun v hv=>(List.nodup_cons.mp nd).1 (List.of_mem_zip hv).1,if_neg hk];simp
  | p::P,w::vs,i+1,m,nd,h1,h2,hk=>by
    show bindC kindOf ((p,w)::P.zip vs) m x=_;unfold bindC;exact Gs (i:=i) (List.nodup_cons.mp nd).2 (by simpa using h1) (by simpa using h2) hk
def start (N:List Str) (vs:List V):St:=vs.map some++List.replicate (N.length - vs.length) none
def au (CX:Vl) (P:Program) (w:World) (K:W.Frag) (mg:Str→Option Value) (base:Heap) (N:List Str) (qual:Str) (scope:Scope) (f:Addr) (cd:Value) (A:Around) (outer:List Env) (s:Shared) (H:Hp) (E:XK):Cx where
  prog:=P
  w:=w
  K:=K
  mg:=mg
  base:=base
  A:=A.deeper (envOfC qual scope s.heap.objs.size f cd)
  N:=N
  s₀:=s
  H₀:=H
  env:=envOfC qual scope s.heap.objs.size f cd
  outer:=outer
  stack:=envOfC qual scope s.heap.objs.size f cd::outer
  ex:=[]
  calm:=true
  fn:=fun _=>true
  pn:=[]
  xe:=fun e s'=>wpAny (model P w) (A.deeper (envOfC qual scope s.heap.objs.size f cd)) (leaving (envOfC qual scope s.heap.objs.size f cd) e) (fun _ s''=>CX outer H s E e s'') (fun e' s''=>CX outer H s E e' s'') s'
theorem Kl {sc:Scope} {n:Nat} {x:Str} (h:sc.names.lookup x=some .cell):∃c,(cellsFrom n sc.names []).lookup x=some c:=by
  have q:=W.cellsFrom_some sc.names n [] (.inl h);exact Option.isSome_iff_exists.mp q
theorem R9 {CX:Vl} {P:Program} {w:World} {K:W.Frag} {mg:Str→Option Value} {base:Heap} {N ps:List Str} {qual:Str} {scope:Scope} {f:Addr} {cd:Value} {A:Around} {outer:List Env} {s s1:Shared} {H:Hp} {E:XK} {us:List Value} {vs:List V}
    (S:aX N ps scope) (hd:A.handled=none) (e0:NP P w K mg base A outer s H) (hl:vs.length=ps.length) (r:Vals vs us)
    (x:InCallC s s.heap.objs.size (bindL (envOfC qual scope s.heap.objs.size f cd).kindOf (ps.zip us) fun _=>none) (cellsFrom (s.heap.objs.size+1) scope.names []) (bindC (envOfC qual scope s.heap.objs.size f cd).kindOf (ps.zip us) fun _=>none) s1) :
    Inv (au CX P w K mg base N qual scope f cd A outer s H E) [] (start N vs) H s1:=by
  have hpl:ps.length≤N.length:=by have:=congrArg List.length S.pre;rw[List.length_take] at this;omega
  obtain⟨h1,tk,rfl,hk⟩:=x.done;have noA:∀b:Addr,b∉(au CX P w K mg base N qual scope f cd A outer s H E).ex:=fun b z=>absurd (show b∈([]:List Addr) from z) (by simp);refine⟨⟨e0.mod,S.kind,rfl,rfl,Nat.le_refl _,fun y z c h1 h2=>?_,fun y hy=>?_,fun y c _ h=>?_,fun _=>hd,Around.frames_deeper e0.frames,.inr ⟨rfl,rfl⟩,fun b z=>absurd z (noA b),e0.bs,e0.RP,fun b _ _=>noA b,fun b z=>absurd z (noA b),e0.vN,e0.Zn⟩,
    rfl,e0.bare,Un.kept hk,⟨_,x.toInCall.ns,fun i y v h1 h2 h3=>?_⟩,fun y c h=>⟨_,x.cell y c h⟩,e0.hok.fresh (Nat.le_refl _),fun y c h=>?_,fun p hp=>absurd (show p∈([]:List (Addr×Obj)) from hp) (by simp),e0.hok.kept hk,?_⟩
  ·exact name_of_addr x.apart (PySem.mem_of_lookup h1) (PySem.mem_of_lookup h2)
  · have hy:scope.names.lookup y=some .cell∨scope.names.lookup y=some .free:=hy
    rcases hy with hy | hy
    ·exact Kl hy
    ·exact absurd rfl (S.qcB _ (PySem.mem_of_lookup hy))
  ·exact Nat.le_of_lt (x.above y c (PySem.mem_of_lookup h))
  · have hi:i<vs.length:=by
      unfold start at h2
      by_cases hi:i<vs.length
      ·exact hi
      ·rw[List.getElem?_append_right (by simpa using hi)] at h2;rw[List.getElem?_replicate] at h2;split at h2 <;> cases h2
    have ha:vs[i]? = some v:=by
      unfold start at h2;rw[List.getElem?_append_left (by simpa using hi),List.getElem?_map] at h2;cases e:vs[i]? with
      | none=>rw[e] at h2;cases h2
      | some a=>rw[e] at h2;cases h2;rfl
    obtain⟨u,hu,rv⟩:=r.get ha;have hp:ps[i]? = some y:=by
      rw[← S.pre,List.getElem?_take_of_lt (by omega)];exact h1
    have ndP:ps.Nodup:=by rw[← S.pre];exact S.nd.sublist (List.take_sublist _ _)
    refine⟨u,rv,?_⟩
    rcases S.par y (List.mem_of_getElem? hp) with k | k
    ·exact .inl ⟨k,Gq ndP hp hu k⟩
    ·obtain⟨c,e⟩:=Kl (n:=s.heap.objs.size+1) k;refine .inr ⟨.inl k,c,e,?_⟩;have q:=x.cell y c e;rw[Gs ndP hp hu (by show scope.names.lookup y≠_;rw[k];decide)] at q;exact q
  ·exact e0.hok.fresh (Nat.le_of_lt (x.above y c (PySem.mem_of_lookup h)))
  ·unfold start;show _=N.length;rw[List.length_append,List.length_map,List.length_replicate];omega
theorem qbu {CX:Vl} {P:Program} {w:World} {K:W.Frag} {mg:Str→Option Value} {base:Heap} {k:Nat} {f:Addr} {name qual:Str} {params:Arguments} {body:List Stmt} {scope:Scope} {dV kV doc pm cdv ct oc:Value} {an od:Option Addr}
    {osl:Array (Option Value)} {N ps:List Str} {sp:Sp} (lk:K.lookup f=some ⟨oc,od,.func (W.fnOf name qual params body scope dV kV doc pm an cdv ct),osl⟩) (hcd:W.codeIn K cdv qual=true) (S:aX N ps scope)
    (len:∀vs H Q E,sp vs H Q E→vs.length=ps.length)
    (hbody:∀(A:Around) (outer:List Env) (s:Shared) (H:Hp) (vs:List V) (Q:VK) (E:XK),j4 k (A.deeper (envOfC qual scope s.heap.objs.size f cdv))→sp vs H Q E→
      ∃t,Bk (au CX P w K mg base N qual scope f cdv A outer s H E) body t∧t {nx:=fun _ H'=>Q .non H',rt:=Q} (start N vs) H) :
    cg P w K mg base CX (k+1) f (W.fnOf name qual params body scope dV kV doc pm an cdv ct) ps sp:=by
  refine⟨len,fun A outer s H args us vs Q E hr e0 hb r hsp=>?_⟩;have hl:=len _ _ _ _ hsp;have KX:K.In s.heap:=e0.mod.M9.keeps fun b o e=>(e0.bs b o e).1;have lim:s.heap.NoLimit:=e0.mod.nolimit.keeps fun b o e=>(e0.bs b o e).1;have hkind:∀y∈ps.zip us,scope.names.lookup y.1=some .local∨(scope.names.lookup y.1=some .cell∧((cellsFrom (s.heap.objs.size+1) scope.names []).lookup y.1).isSome=true):=fun⟨n,v⟩ hy=>by
    rcases S.par n (List.of_mem_zip hy).1 with q | q
    ·exact .inl q
    ·exact .inr ⟨q,W.cellsFrom_some _ _ _ (.inl q)⟩
  refine codeAny_call_function hr.depth (KX _ _ lk) rfl S.co S.gen rfl (W.codeRec_of KX hcd) (hb _ _ _ _ ?_);refine wpAny_newFunctionEnv_cells S.kind hkind fun env he s1 x=>?_;subst he;refine⟨lim.keeps x.toInCall.keep,codeAny_func ?_⟩;obtain⟨t,ht,hq⟩:=hbody A outer s H vs Q E (hr.deeper _) hsp;have I:Inv (au CX P w K mg base N qual scope f cdv A outer s H E) [] (start N vs) H s1:=R9 S hr.hd e0 hl r x;refine wpAny_mono (ht [] s1 (start N vs) H _ I hq) (fun fl s' hs=>?_) fun e s' hs=>hs;have fin:∀{σ':St} {H':Hp} {v:V} {u:Value},Inv (au CX P w K mg base N qual scope f cdv A outer s H E) [] σ' H' s'→RelV v u→Q v H'→CE outer P w H s Q u s':=
    fun {σ' H' v u} J rv q=>⟨v,H',J.os,J.bare,J.base,J.hok,rv,q⟩
  cases fl with
  | ret u=>
    obtain⟨v,σ',H',J,rv,q⟩:=hs;exact fin J rv q
  | next=>
    obtain⟨σ',H',J,q⟩:=hs;exact fin (v:=V.non) (u:=Value.none) J rfl q
  | brk=>
    obtain⟨_,_,_,q⟩:=hs;exact False.elim q
  | cont=>
    obtain⟨_,_,_,q⟩:=hs;exact False.elim q
section
variable {X:Cx} {x:Str} {p pos:Pos} {e:Expr} {es:List Expr} {t:TA} {id T:String} {r:List V→Hp→VK→Prop}
def tCB (r:List V→Hp→VK→Prop) (t:TA):TE:=fun σ H Q=>t σ H fun vs H1=>r vs H1 Q
theorem aO (hc:cF X (.builtin id) r) (hg:Gl X x) (hm:X.mg x=none) (hv:bootBuiltins x=some (.builtin id)) (ha:PA X (e::es) t) (hn:x≠ "__name__" :=by decide) (hdb:(x == ("__debug__" : Str))=false:=by decide)
    (he:starEach (e::es) X.env=(false,eval e X.env)::starEach es X.env:=by rfl) (hpl:(backTo pos (starEach es X.env)).any (·.1)=false:=by rfl):PE X (.Call (.Name x p) (e::es) [] pos) (tCB r t):=by
  intro p_ s σ H Q I h;refine wpAny_Call_Name_kw (qQ I hg hm hv ?_ hn hdb);refine PyProof.Rows.callWith_builtin1 (cY (ha pos p_ s σ H _ I h) fun us s1 zz=>?_) he hpl;obtain⟨vs,H1,I1,r1,q1⟩:=zz;exact hc p_ s1 σ H1 vs us Q I1 r1 q1
theorem fj (hc:cF X (.type T) r) (hg:Gl X x) (hm:X.mg x=none) (hv:bootBuiltins x=some (.type T)) (ha:PA X (e::es) t) (hn:x≠ "__name__" :=by decide) (hdb:(x == ("__debug__" : Str))=false:=by decide)
    (he:starEach (e::es) X.env=(false,eval e X.env)::starEach es X.env:=by rfl) (hpl:(backTo pos (starEach es X.env)).any (·.1)=false:=by rfl):PE X (.Call (.Name x p) (e::es) [] pos) (tCB r t):=by
  intro p_ s σ H Q I h;refine wpAny_Call_Name_kw (qQ I hg hm hv ?_ hn hdb);refine PyProof.Rows.callWith_type1 (cY (ha pos p_ s σ H _ I h) fun us s1 zz=>?_) he hpl;obtain⟨vs,H1,I1,r1,q1⟩:=zz;exact hc p_ s1 σ H1 vs us Q I1 r1 q1
end
end L2
namespace HT
open PySem PyProof.Rows
section
variable {prog:Program} {w:World} {A:Around} {E:Value→Shared→Prop} {s:Shared}
def HD (n d:Nat):Option Int→Nat
  | none=>d
  | some v=>if v<0 then (v+(n:Int)).toNat else min v.toNat n
end
end HT
namespace L2
open PySem PySem.Spec PyProof.Rows
abbrev TO:=St→Hp→(Option Int→Hp→Prop)→Prop
def PO (X:Cx) (e:Option Expr) (t:TO):Prop:=
  ∀(p_:List (Addr×Obj)) (s:Shared) (σ:St) (H:Hp) (Q:Option Int→Hp→Prop),Inv X p_ σ H s→t σ H Q→
    wpAny (model X.prog X.w) X.A (evalPart e X.env) (fun u s'=>∃o H',Inv X p_ σ H' s'∧IsPart u o∧Q o H') X.xe s
def QF:TO:=fun _ H Q=>Q none H
def V9 (t:TE):TO:=fun σ H Q=>t σ H fun x H1=>∃i,x = .int i∧Q (some i) H1
section
variable {X:Cx} {e:Expr} {te:TE} {lo hi:Option Expr} {tl th:TO} {pos p2:Pos}
theorem Bo:PO X none QF:=by
  intro p_ s σ H Q I h;rw[evalPart_none];exact wpAny_pure ⟨none,H,I,.none,h⟩
theorem Bp (h:PE X e te):PO X (some e) (V9 te):=by
  intro p_ s σ H Q I hw;rw[evalPart_some];refine cY (h p_ s σ H _ I hw) fun u s1 zz=>?_;obtain⟨x,H1,I1,r1,q1⟩:=zz;obtain⟨i,rfl,q⟩:=q1;obtain⟨t,rfl⟩:=r1;exact⟨some i,H1,I1,.int i t,q⟩
def SlR (X:Cx) (r:V→Option Int→Option Int→Hp→VK→Prop):Prop:=
  ∀(p_:List (Addr×Obj)) (s:Shared) (σ:St) (H:Hp) (x:V) (v vl vu:Value) (lo hi:Option Int) (sl:Addr) (Q:VK),Inv X p_ σ H s→RelV x v→s.heap.IsSliceOf sl vl vu .none→IsPart vl lo→IsPart vu hi→r x lo hi H Q→
    ∃T id,typeLookup (.type T) "__getitem__" = pure (some (.builtin id))∧s.TypeIs v T∧wpAny (model X.prog X.w) X.A (getItem v (.ref sl)) (EP X p_ σ Q) X.xe s
def tSl (r:V→Option Int→Option Int→Hp→VK→Prop) (te:TE) (tl th:TO):TE:=fun σ H Q=>te σ H fun x H1=>tl σ H1 fun l H2=>th σ H2 fun u H3=>r x l u H3 Q
theorem xJ {r:V→Option Int→Option Int→Hp→VK→Prop} (hr:SlR X r) (he:PE X e te) (hl:PO X lo tl) (hu:PO X hi th):PE X (.Subscript e (.Slice lo hi none p2) pos) (tSl r te tl th):=by
  intro p_ s σ H Q I h;refine Subscript_ (cY (he p_ s σ H _ I h) fun v s1 zz=>?_);obtain⟨x,H1,I1,r1,q1⟩:=zz;refine wpAny_Slice (cY (hl p_ s1 σ H1 _ I1 q1) fun vl s2 ⟨l,H2,I2,pl,q2⟩=>cY (hu p_ s2 σ H2 _ I2 q2) fun vu s3 ⟨u,H3,I3,pu,q3⟩=>?_);rw[evalPart_none];refine wpAny_pure ?_;have I4:Inv X p_ σ H3 {s3 with heap:=s3.heap.push {cls:=.type "slice",data:=.fields #[vl,vu,.none]}}:=I3.kept (t':=s3.toks) fun b ob q=>Heap.get?_push_of_some _ q;obtain⟨T,id,hT,ht,hg⟩:=hr p_ {s3 with heap:=s3.heap.push {cls:=.type "slice",data:=.fields #[vl,vu,.none]}} σ H3 x v vl vu l u s3.heap.objs.size Q I4 r1 (Heap.IsSliceOf.new ..) pl pu q3;show wpAny (model X.prog X.w) X.A (subscriptTail e (.Slice lo hi none p2) v (.ref s3.heap.objs.size)) (EP X p_ σ Q) X.xe {s3 with heap:=s3.heap.push {cls:=.type "slice",data:=.fields #[vl,vu,.none]}};exact tail_any (ops:=[.ref s3.heap.objs.size,v]) ht hT hg (by with_unfolding_all rfl)
def CN (xs:List V) (lo hi:Option Int):List V:=(xs.drop (HT.HD xs.length 0 lo)).take (HT.HD xs.length xs.length hi - HT.HD xs.length 0 lo)
theorem Km (xs:List V) (lo hi:Option Int):(CN xs lo hi).length≤xs.length:=by
  unfold CN;rw[List.length_take,List.length_drop];omega
end
def V_ (n:Nat) (i:Int):Option Nat:=if 0≤i then (if i<n then some i.toNat else none) else if -(n:Int)≤i then some (i+n).toNat else none
def Aa {α:Type} (xs:List α) (i:Int):Option α:=(V_ xs.length i).bind fun j=>xs[j]?
theorem QG {n:Nat} {i:Int} {j:Nat} (h:V_ n i=some j):seqIndex? i n=some j∧j<n∧-(n:Int)≤i∧i<n:=by
  unfold V_ at h
  by_cases h0:0≤i
  · rw[if_pos h0] at h
    by_cases h1:i<n
    ·rw[if_pos h1] at h;have e:i.toNat=j:=Option.some.inj h;exact⟨by rw[seqIndex_of h0 h1,e],by omega,by omega,h1⟩
    ·rw[if_neg h1] at h;cases h
  · rw[if_neg h0] at h
    by_cases h1 : -(n:Int)≤i
    ·rw[if_pos h1] at h;have e:(i+n).toNat=j:=Option.some.inj h;exact⟨by rw[seqIndex_neg (by omega) h1,e],by omega,h1,by omega⟩
    ·rw[if_neg h1] at h;cases h
theorem HF {α:Type} {xs:List α} {i:Int} {v:α} (h:Aa xs i=some v):∃j,seqIndex? i xs.length=some j∧xs[j]? = some v∧j<xs.length∧-(xs.length:Int)≤i∧i<xs.length:=by
  unfold Aa at h;cases e:V_ xs.length i with
  | none=>rw[e] at h;cases h
  | some j=>
    rw[e] at h;obtain⟨h1,h2,h3,h4⟩:=QG e;exact⟨j,h1,h,h2,h3,h4⟩
theorem aU {α:Type} {xs:List α} {j:Nat} {v:α} (h:xs[j]? = some v):Aa xs (j:Int)=some v:=by
  have hj:j<xs.length:=(List.getElem?_eq_some_iff.mp h).1;have e:V_ xs.length (j:Int)=some j:=by
    unfold V_;rw[if_pos (by omega),if_pos (by omega)];simp
  unfold Aa;rw[e];exact h
def ZS (b:Expr):Prop:=∀o i,subscripted b false o i=operate [o,i] (getItem o i)
def Wa (X:Cx) (r:R2):Prop:=
  ∀(value slice:Expr) (p_:List (Addr×Obj)) (s:Shared) (σ:St) (H:Hp) (x y:V) (v u:Value) (Q:VK),Inv X p_ σ H s→RelV x v→RelV y u→r x y H Q→
    subscripted slice false v u=operate [v,u] (getItem v u)→wpAny (model X.prog X.w) X.A (subscriptTail value slice v u) (EP X p_ σ Q) X.xe s
def Nb (X:Cx) (id:String) (r:V→List V→Hp→VK→Prop):Prop:=
  ∀(p_:List (Addr×Obj)) (s:Shared) (σ:St) (H:Hp) (x:V) (xs:List V) (v:Value) (us:List Value) (Q:VK),Inv X p_ σ H s→RelV x v→Vals xs us→r x xs H Q→
    wpAny (model X.prog X.w) X.A (call (.builtin id) (v::us)) (EP X p_ σ Q) X.xe s
section
variable {X:Cx} {a b:Expr} {ta tb:TE} {pos:Pos}
theorem bL {r:R2} (hr:Wa X r) (ha:PE X a ta) (hb:PE X b tb) (hs:ZS b):PE X (.Subscript a b pos) (tOp r ta tb):=by
  intro p_ s σ H Q I h;exact Subscript_ (qcq ha hb I h fun v u s2 x y H2 I2 rx ry q=>hr a b p_ s2 σ H2 x y v u Q I2 rx ry q (hs _ _))
def qk_ (K:W.Frag):R2:=fun x y H Q=>∃p xs i v,x = .ref p∧y = .int i∧bw K H p xs∧Aa xs i=some v∧Q v H
def qla (K:W.Frag):R2:=fun x y H Q=>∃p xs i v,x = .ref p∧y = .int i∧dW K H p xs∧Aa xs i=some v∧Q v H
def qfq:R2:=fun x y H Q=>∃z i c,x = .str z∧y = .int i∧z.length≤sizeLine∧Aa z.cps.toList i=some c∧Q (.str ⟨#[c]⟩) H
theorem ZV:Wa X (qk_ X.K):=by
  intro value slice p_ s σ H x y v u Q I rx ry h hs;obtain⟨p,xs,i,z,rfl,rfl,hq,he,q⟩:=h;cases rx;obtain⟨t,rfl⟩:=ry;obtain⟨its,r,pl,hz⟩:=I.list hq;obtain⟨j,h1,h2,h3,h4,h5⟩:=HF he;obtain⟨w,ew,R_⟩:=r.get h2;have hl:=r.length;have hn:=wz;have fin:EP X p_ σ Q w s:=⟨z,H,I,R_,q⟩
  by_cases h0:0≤i
  · have hj:i.toNat=j:=by
      rw[seqIndex_of h0 h5] at h1;exact Option.some.inj h1
    exact item_listR pl.isList h0 (by omega) (by rw[hj];simpa using ew) fin hs
  · have hj:(i+(its.toArray.size:Int)).toNat=j:=by
      rw[seqIndex_neg (by omega) h4] at h1;rw[List.size_toArray,← hl];exact Option.some.inj h1
    exact subscriptTail_builtinR (x:=w) pl.isList.typeIs slot_list_getitem.lookup
      (wpAny_getItem_list_neg (Q:=fun r s'=>r=w∧EP X p_ σ Q r s') pl.isList (by omega) (by rw[List.size_toArray] <;> omega) (by omega) (by rw[hj];simpa using ew) ⟨rfl,fin⟩) hs
theorem qcC:Wa X (qla X.K):=by
  intro value slice p_ s σ H x y v u Q I rx ry h hs;obtain⟨p,xs,i,z,rfl,rfl,hq,he,q⟩:=h;cases rx;obtain⟨t,rfl⟩:=ry;obtain⟨its,r,pl,hz⟩:=I.tuple hq;obtain⟨j,h1,h2,h3,h4,h5⟩:=HF he;obtain⟨w,ew,R_⟩:=r.get h2;have hl:=r.length;have hn:=wz;have fin:EP X p_ σ Q w s:=⟨z,H,I,R_,q⟩;exact subscriptTail_builtinR (x:=w) pl.typeIs slot_tuple_getitem.lookup
    (getItem_tuple (j:=j) (Q:=fun r s'=>r=w∧EP X p_ σ Q r s') pl (by omega) (by omega) (by rw[List.size_toArray,← hl];exact h1) (by simpa using ew) ⟨rfl,fin⟩) hs
theorem qcD:Wa X qfq:=by
  intro value slice p_ s σ H x y v u Q I rx ry h hs;obtain⟨z,i,c,rfl,rfl,hz,he,q⟩:=h;obtain⟨t,rfl⟩:=rx;obtain⟨t',rfl⟩:=ry;obtain⟨j,h1,h2,h3,h4,h5⟩:=HF he;have hl:z.cps.toList.length=z.length:=by simp[Str.length]
  rw[hl] at h1 h4 h5;have hn:=wz;exact tail_any (typeIs_str s z t) slot_str_getitem.lookup (getItem_str (c:=c) (by
    have e1:decide (i < -(2 ^ 63:Int))=false:=decide_eq_false (by omega);have e2:decide (i≥2 ^ 63)=false:=decide_eq_false (by omega);rw[e1,e2,Bool.or_false]) (by rw[h1];simpa using h2) ⟨.str ⟨#[c]⟩,H,I.tok _,⟨_,rfl⟩,q⟩) hs
theorem NQ (its:List Value) (n j:Nat) (u:Value):Obj.mapSeq (·.setIfInBounds j u) {cls:=.type "list",data:=.seq its.toArray n}={cls:=.type "list",data:=.seq (its.set j u).toArray n}:=by
  simp[Obj.mapSeq]
theorem Inv.lst {p_:List (Addr×Obj)} {σ:St} {H:Hp} {s:Shared} {p:Addr} {xs:List V} (I:Inv X p_ σ H s) (h:H p=some (.lst xs)) :
    ∃(its:List Value) (n:Nat),Vals xs its∧s.heap.get? p=some {cls:=.type "list",data:=.seq its.toArray n}∧xs.length≤sizeLine:=by
  obtain⟨z,its,n,r,e⟩:=I.hok p _ h;exact⟨its,n,r,e,z⟩
theorem Inv.qcE {p_:List (Addr×Obj)} {σ:St} {H:Hp} {s:Shared} {p:Addr} {xs ys:List V} {its its':List Value} {n n':Nat} {f:Obj→Obj} (I:Inv X p_ σ H s) (h:H p=some (.lst xs))
    (ho:s.heap.get? p=some {cls:=.type "list",data:=.seq its.toArray n}) (hf:f {cls:=.type "list",data:=.seq its.toArray n}={cls:=.type "list",data:=.seq its'.toArray n'}) (r:Vals ys its') (hz:ys.length≤sizeLine) (t:Nat) :
    Inv X p_ σ (upd H p (.lst ys)) {s with heap:=s.heap.update p f,toks:=t}:=by
  have e:(s.heap.update p f).get? p=some {cls:=.type "list",data:=.seq its'.toArray n'}:=by
    rw[Heap.get?_update_self f ho (by rw[hf] <;> rfl),hf]
  refine I.write (x:=p) (e:=p) (by rw[h];trivial) (.inl rfl) (fun b u hb q=>(Heap.get?_update_other _ _ (Ne.symm hb)).trans q) ⟨_,e⟩ ?_;exact⟨hz,its',n',r,e⟩
def qbw:V→V→V→Hp→(Hp→Prop)→Prop:=fun o i v H Q=>∃p xs k j,o = .ref p∧i = .int k∧H p=some (.lst xs)∧V_ xs.length k=some j∧Q (upd H p (.lst (xs.set j v)))
theorem set_list:RW X qbw:=by
  intro p_ s σ H o i v ov iv u Q I ro ri rv h;obtain⟨p,xs,k,j,rfl,rfl,hp,hj,q⟩:=h;cases ro;obtain⟨t,rfl⟩:=ri;obtain⟨its,n,r,ho,hz⟩:=I.lst hp;obtain⟨h1,h2,h3,h4⟩:=QG hj;have hl:=r.length;have hn:=wz;have I':Inv X p_ σ (upd H p (.lst (xs.set j v))) {s with heap:=s.heap.update p (Obj.mapSeq (·.setIfInBounds j u))}:=
    I.qcE hp ho (NQ its n j u) (r.set rv j) (by rw[List.length_set];exact hz) s.toks
  by_cases h0:0≤k
  · have hk:k.toNat=j:=by
      rw[seqIndex_of h0 h4] at h1;exact Option.some.inj h1
    exact W.ki_setAt ho h0 (by omega) (by rw[List.size_toArray,← hl];exact h4) (by rw[hk];exact⟨_,I',q⟩)
  · have hk:(k+(its.toArray.size:Int)).toNat=j:=by
      rw[seqIndex_neg (by omega) h3] at h1;rw[List.size_toArray,← hl];exact Option.some.inj h1
    exact W.ki_setBack ho (by omega) (by rw[List.size_toArray,← hl];exact h3) (by omega) (by rw[hk];exact⟨_,I',q⟩)
theorem HJ (lo hi:Option Int) (n:Nat):(sliceBounds lo hi none n).1=((HT.HD n 0 lo:Nat):Int)∧(sliceBounds lo hi none n).2.1=((HT.HD n n hi:Nat):Int)∧(sliceBounds lo hi none n).2.2=1:=by
  refine⟨?_,?_,rfl⟩
  · cases lo with
    | none=>simp[sliceBounds,HT.HD]
    | some i=>
      simp only[sliceBounds,HT.HD,Option.getD_none,show(1:Int) > 0 by decide,if_true]
      by_cases h:i<0
      ·simp only[h,if_true] <;> omega
      ·simp only[h,if_false] <;> omega
  · cases hi with
    | none=>simp[sliceBounds,HT.HD]
    | some i=>
      simp only[sliceBounds,HT.HD,Option.getD_none,show(1:Int) > 0 by decide,if_true]
      by_cases h:i<0
      ·simp only[h,if_true] <;> omega
      ·simp only[h,if_false] <;> omega
theorem Fw (its:List Value) (lo hi:Option Int):slicePick its.toArray lo hi none=((its.drop (HT.HD its.length 0 lo)).take (HT.HD its.length its.length hi - HT.HD its.length 0 lo)).toArray:=by
  obtain⟨h1,h2,h3⟩:=HJ lo hi its.toArray.size;unfold slicePick;rw[h1,h2,h3];simp only[sliceRange_one,pick_run,List.size_toArray] <;> rfl
def ZW (K:W.Frag):V→Option Int→Option Int→Hp→VK→Prop:=fun x lo hi H Q=>∃a xs,x = .ref a∧bw K H a xs∧∀p,H p=none→Q (.ref p) (upd H p (.lst (CN xs lo hi)))
theorem ZX:SlR X (ZW X.K):=by
  intro p_ s σ H x v vl vu lo hi sl Q I rx hs pl pu h;obtain⟨a,xs,rfl,hx,q⟩:=h;cases rx;obtain⟨its,r,ht,hz⟩:=I.list hx;have hlen:=r.length;refine⟨"list",_,slot_list_getitem.lookup,ht.isList.typeIs,?_⟩;refine wpAny_getItem_list_slice ht.isList hs pl pu .none (by simp) ?_ (by rw[List.size_toArray] <;> omega);rw[Fw,← hlen];refine⟨.ref s.heap.objs.size,_,I.laid (t':=s.toks) (o:=.lst (CN xs lo hi)) (fun b ob q=>Heap.get?_push_of_some _ q) (Nat.le_refl _) ?_,rfl,q _ (I.hok.fresh (Nat.le_refl _))⟩;exact⟨Nat.le_trans (Km xs lo hi) hz,_,0,(r.drop (HT.HD xs.length 0 lo)).take (HT.HD xs.length xs.length hi - HT.HD xs.length 0 lo),Heap.get?_push_size _ rfl⟩
def j6:V→Bool
  | .non=>true
  | .bl _=>true
  | .int _=>true
  | .str _=>true
  | _=>false
def Sd:V→V→Bool
  | .non,.non=>true
  | .bl a,.bl b=>a == b
  | .bl a,.int b=>(if a then 1 else 0) == b
  | .int a,.bl b=>a == (if b then 1 else 0)
  | .int a,.int b=>a == b
  | .str a,.str b=>a == b
  | _,_=>false
theorem qcF {A:Around} {s:Shared} {y x:V} {u v:Value} (ry:RelV y u) (rx:RelV x v) (fy:j6 y=true) (fx:j6 x=true):SeqAt.EqAt A s u v (Sd y x):=by
  cases y with
  | non=>
    cases ry;cases x with
    | non=>cases rx;exact SeqAt.EqAt.same _
    | bl b=>cases rx;exact SeqAt.EqAt.none_bool b
    | int b=>obtain⟨t,rfl⟩:=rx;exact SeqAt.EqAt.none_int b t
    | str b=>obtain⟨t,rfl⟩:=rx;exact SeqAt.EqAt.none_str b t
    | _=>exact absurd (show false=true from fx) Bool.false_ne_true
  | bl a=>
    cases ry;cases x with
    | non=>cases rx;exact SeqAt.EqAt.bool_none a
    | bl b=>cases rx;exact SeqAt.EqAt.bool_bool a b
    | int b=>obtain⟨t,rfl⟩:=rx;exact SeqAt.EqAt.bool_int a b t
    | str b=>obtain⟨t,rfl⟩:=rx;exact SeqAt.EqAt.bool_str a b t
    | _=>exact absurd (show false=true from fx) Bool.false_ne_true
  | int a=>
    obtain⟨t',rfl⟩:=ry;cases x with
    | non=>cases rx;exact SeqAt.EqAt.int_none a t'
    | bl b=>cases rx;exact SeqAt.EqAt.int_bool a t' b
    | int b=>obtain⟨t,rfl⟩:=rx;exact SeqAt.EqAt.int_int a t' b t
    | str b=>obtain⟨t,rfl⟩:=rx;exact SeqAt.EqAt.int_str a t' b t
    | _=>exact absurd (show false=true from fx) Bool.false_ne_true
  | str a=>
    obtain⟨t',rfl⟩:=ry;cases x with
    | non=>cases rx;exact SeqAt.EqAt.str_none a t'
    | bl b=>cases rx;exact SeqAt.EqAt.str_bool a t' b
    | int b=>obtain⟨t,rfl⟩:=rx;exact SeqAt.EqAt.str_int a t' b t
    | str b=>obtain⟨t,rfl⟩:=rx;exact SeqAt.EqAt.str_str a t' b t
    | _=>exact absurd (show false=true from fx) Bool.false_ne_true
  | _=>exact absurd (show false=true from fy) Bool.false_ne_true
def NT (x:V) (u:Value):Bool:=match u with
  | .none=>Sd .non x
  | .bool b=>Sd (.bl b) x
  | .int i _=>Sd (.int i) x
  | .str z _=>Sd (.str z) x
  | _=>false
theorem Wb {x y:V} {u:Value} (r:RelV y u) (f:j6 y=true):NT x u=Sd y x:=by
  cases y with
  | non=>cases r;rfl
  | bl b=>cases r;rfl
  | int i=>obtain⟨t,rfl⟩:=r;rfl
  | str z=>obtain⟨t,rfl⟩:=r;rfl
  | _=>exact absurd (show false=true from f) Bool.false_ne_true
theorem xK {x:V}:∀{xs:List V} {us:List Value},Vals xs us→xs.all j6=true→us.any (NT x)=xs.any fun y=>Sd y x
  | _,_,.nil,_=>rfl
  | y::xs,u::us,.cons r t,f=>by
    rw[List.all_cons,Bool.and_eq_true] at f;rw[List.any_cons,List.any_cons,Wb r f.1,xK t f.2]
theorem tV {A:Around} {s:Shared} {x:V} {v:Value} (rx:RelV x v) (fx:j6 x=true):∀{xs:List V} {us:List Value},Vals xs us→xs.all j6=true→∀u∈us,SeqAt.EqAt A s u v (NT x u)
  | _,_,.nil,_=>fun u hu=>by cases hu
  | y::xs,u::us,.cons r t,f=>fun u' hu=>by
    rw[List.all_cons,Bool.and_eq_true] at f
    rcases List.mem_cons.mp hu with rfl | hu
    ·rw[Wb r f.1];exact qcF r rx f.1 fx
    ·exact tV rx fx t f.2 u' hu
def inV (x:V) (xs:List V):Bool:=xs.any fun y=>Sd y x
def rIn (K:W.Frag) (neg:Bool):R2:=fun x y H Q=>∃p xs,y = .ref p∧(bw K H p xs∨dW K H p xs)∧j6 x=true∧xs.all j6=true∧Q (.bl (if neg then !inV x xs else inV x xs)) H
theorem Sg:jj X (compareOp .In) (rIn X.K false):=by
  intro p_ s σ H x y v u Q I rx ry h;obtain⟨p,xs,rfl,hq,fx,fs,q⟩:=h;cases ry
  rcases hq with hq | hq
  ·obtain⟨its,r,pl,hz⟩:=I.list hq;refine SeqAt.in_listAt (NT x) pl.isList (fun w hw=>tV rx fx r fs w (by simpa using hw)) ⟨.bl _,H,I,rfl,?_⟩;rw[show its.toArray.any (NT x)=its.any (NT x) by simp,xK r fs];exact q
  ·obtain⟨its,r,pl,hz⟩:=I.tuple hq;refine SeqAt.in_tupleAt (NT x) pl (fun w hw=>tV rx fx r fs w (by simpa using hw)) ⟨.bl _,H,I,rfl,?_⟩;rw[show its.toArray.any (NT x)=its.any (NT x) by simp,xK r fs];exact q
theorem HN:jj X (compareOp .NotIn) (rIn X.K true):=by
  intro p_ s σ H x y v u Q I rx ry h;obtain⟨p,xs,rfl,hq,fx,fs,q⟩:=h;cases ry
  rcases hq with hq | hq
  ·obtain⟨its,r,pl,hz⟩:=I.list hq;refine SeqAt.notIn_listAt (NT x) pl.isList (fun w hw=>tV rx fx r fs w (by simpa using hw)) ⟨.bl _,H,I,rfl,?_⟩;rw[show its.toArray.any (NT x)=its.any (NT x) by simp,xK r fs];exact q
  ·obtain⟨its,r,pl,hz⟩:=I.tuple hq;refine SeqAt.notIn_tupleAt (NT x) pl (fun w hw=>tV rx fx r fs w (by simpa using hw)) ⟨.bl _,H,I,rfl,?_⟩;rw[show its.toArray.any (NT x)=its.any (NT x) by simp,xK r fs];exact q
theorem HS:jj X (compareOp .NotIn) (fun x y H Q=>∃i j,x = .str i∧y = .str j∧Q (.bl (!(!(Builtin.Str.occurrences j i 0 j.length 1).isEmpty))) H):=by
  intro p_ s σ H x y v u Q I rx ry h;obtain⟨i,j,rfl,rfl,q⟩:=h;obtain⟨t,rfl⟩:=rx;obtain⟨t',rfl⟩:=ry;exact notIn_str ⟨.bl _,H,I,rfl,q⟩
theorem HW:cF X (.builtin "len") (fun xs H Q=>∃p ys,xs=[.ref p]∧(bw X.K H p ys∨dW X.K H p ys)∧Q (.int ys.length) H):=by
  intro p_ s σ H xs us Q I r h;obtain⟨p,ys,rfl,hq,q⟩:=h;obtain⟨u,rfl,rx⟩:=vals1 r;cases rx;have hn:=wz
  rcases hq with hq | hq
  ·obtain⟨its,r',pl,hz⟩:=I.list hq;have hlen:=r'.length;exact Calls.call_len_list pl.isList (by simp only[List.size_toArray] <;> omega) ⟨.int ys.length,H,I.tok _,⟨s.toks+1,by rw[List.size_toArray,hlen]⟩,q⟩
  ·obtain⟨its,r',pl,hz⟩:=I.tuple hq;have hlen:=r'.length;exact len_tuple pl (by simp only[List.size_toArray] <;> omega) ⟨.int ys.length,H,I.tok _,⟨s.toks+1,by rw[List.size_toArray,hlen]⟩,q⟩
theorem HX:cF X (.builtin "len") (fun xs H Q=>∃z,xs=[.str z]∧z.length≤sizeLine∧Q (.int z.length) H):=by
  intro p_ s σ H xs us Q I r h;obtain⟨z,rfl,hz,q⟩:=h;obtain⟨u,rfl,t,rfl⟩:=vals1 r;have hn:=wz;exact len_str (by omega) ⟨.int z.length,H,I.tok _,⟨_,rfl⟩,q⟩
theorem HY:cF X (.type "list") (fun xs H Q=>∃p ys,xs=[.ref p]∧(bw X.K H p ys∨dW X.K H p ys)∧∀l,H l=none→Q (.ref l) (upd H l (.lst ys))):=by
  intro p_ s σ H xs us Q I r h;obtain⟨p,ys,rfl,hq,q⟩:=h;obtain⟨u,rfl,rx⟩:=vals1 r;cases rx;have fin:∀(its:List Value),Vals ys its→ys.length≤sizeLine→∀(h':Heap) (c':Nat),(∀b o',s.heap.get? b=some o'→h'.get? b=some o')→
      h'.get? s.heap.objs.size=some {cls:=.type "list",dict:=none,data:=.seq its.toArray c',slots:=#[]}→EP X p_ σ Q (.ref s.heap.objs.size) {s with heap:=h'}:=fun its r' hz h' c' kp e=>
    ⟨.ref s.heap.objs.size,_,I.laid (t':=s.toks) kp (Nat.le_refl _) (show b_ X.prog X.w _ h' _ (.lst ys) from⟨hz,its,c',r',e⟩),rfl,q _ (I.hok.fresh (Nat.le_refl _))⟩
  rcases hq with hq | hq
  ·obtain⟨its,r',pl,hz⟩:=I.list hq;have hlen:=r'.length;obtain⟨o,ho,hc,n,hd⟩:=pl.isList;exact call_list_seq p (.inl rfl) ho hc hd (fun h' c' kp e=>fin its r' hz h' c' kp e) (by simp only[List.size_toArray] <;> omega)
  ·obtain⟨its,r',pl,hz⟩:=I.tuple hq;have hlen:=r'.length;obtain⟨o,ho,hc,n,hd⟩:=pl;exact call_list_seq p (.inr rfl) ho hc hd (fun h' c' kp e=>fin its r' hz h' c' kp e) (by simp only[List.size_toArray] <;> omega)
theorem Fx:cF X (.type "tuple") (fun xs H Q=>∃p ys,xs=[.ref p]∧((bw X.K H p ys∧∀l,H l=none→Q (.ref l) (upd H l (.tup ys)))∨(dW X.K H p ys∧Q (.ref p) H))):=by
  intro p_ s σ H xs us Q I r h;obtain⟨p,ys,rfl,h⟩:=h;obtain⟨u,rfl,rx⟩:=vals1 r;cases rx
  rcases h with⟨hq,q⟩ | ⟨hq,q⟩
  · obtain⟨its,r',pl,hz⟩:=I.list hq;have hlen:=r'.length;refine call_tuple_list pl.isList (fun h' kp=>?_) (by simp only[List.size_toArray] <;> omega);have I1:Inv X p_ σ H {s with heap:=h'}:=I.kept (t':=s.toks) kp;have I2:Inv X p_ σ (upd H h'.objs.size (.tup ys)) {s with heap:=h'.push {cls:=.type "tuple",data:=.seq its.toArray}}:=
      I1.laid (t':=s.toks) (fun b o e=>Heap.get?_push_of_some _ e) (Nat.le_refl _) (show b_ X.prog X.w _ _ _ (.tup ys) from⟨hz,its,r',IsTup.new _ _⟩)
    exact⟨.ref h'.objs.size,_,I2,rfl,q _ (I1.hok.fresh (Nat.le_refl _))⟩
  ·obtain⟨its,r',pl,hz⟩:=I.tuple hq;exact call_tuple_same pl ⟨.ref p,H,I,rfl,q⟩
def Ss (K:W.Frag) (T:String) (x:V) (H:Hp):Prop:=match x with
  | .str _=>T = "str"
  | .int _=>T = "int"
  | .ref p=>(T = "list" ∧∃xs,bw K H p xs)∨(T = "tuple" ∧∃o,K.lookup p=some o∧o.cls = .type "tuple" ∧o.dict=none)∨
      (T = "dict" ∧((∃kvs,H p=some (.dK kvs))∨∃kvs,H p=some (.dT kvs)))∨(T = "set" ∧∃S n,H p=some (.set S n))
  | _=>False
theorem Wc {p_:List (Addr×Obj)} {σ:St} {H:Hp} {s:Shared} {T:String} {x:V} {v:Value} (I:Inv X p_ σ H s) (r:RelV x v) (ty:Ss X.K T x H) :
    s.TypeIs v T∧∀a,v = .ref a→∃ob,s.heap.get? a=some ob∧ob.dict=none:=by
  cases x with
  | str z=>
    obtain⟨t,rfl⟩:=r;cases (show T = "str" from ty);exact⟨typeIs_str s z t,fun _ e=>nomatch e⟩
  | int i=>
    obtain⟨t,rfl⟩:=r;cases (show T = "int" from ty);exact⟨typeIs_int s i t,fun _ e=>nomatch e⟩
  | ref p=>
    cases r
    rcases ty with⟨rfl,xs,hq⟩ | ⟨rfl,o,hk,hc,hd⟩ | ⟨rfl,hk⟩ | ⟨rfl,S,n,hk⟩
    ·obtain⟨its,_,pl,_⟩:=I.list hq;refine⟨pl.isList.typeIs,fun a e=>?_⟩;cases e;obtain⟨o,n,e,c,hd,_⟩:=pl;exact⟨o,e,hd⟩
    ·refine⟨⟨o,I.oO p o hk,hc⟩,fun a e=>?_⟩;cases e;exact⟨o,I.oO _ o hk,hd⟩
    · have z:∃o,s.heap.get? p=some o∧o.ExactDict:=by
        rcases hk with⟨kvs,hk⟩ | ⟨kvs,hk⟩
        ·obtain⟨_,_,_,_,o,_,_,e,ex,_⟩:=I.hok p _ hk;exact⟨o,e,ex⟩
        ·obtain⟨_,_,_,_,o,_,_,e,ex,_⟩:=I.hok p _ hk;exact⟨o,e,ex⟩
      obtain⟨o,e,ex⟩:=z;refine⟨⟨o,e,ex.1⟩,fun a e2=>?_⟩;cases e2;exact⟨o,e,ex.2.1⟩
    ·obtain⟨o,_,_,_,e,ex,_⟩:=I.hok p _ hk;refine⟨⟨o,e,ex.1⟩,fun a e2=>?_⟩;cases e2;exact⟨o,e,ex.2.1⟩
  | _=>exact False.elim ty
def qcG (K:W.Frag) (T:String) (r:V→List V→Hp→VK→Prop) (to:TE):TE:=fun σ H Q=>to σ H fun x H1=>Ss K T x H1∧r x [] H1 Q
def tBM (K:W.Frag) (T:String) (r:V→List V→Hp→VK→Prop) (to:TE) (t:TA):TE:=fun σ H Q=>to σ H fun x H1=>Ss K T x H1∧t σ H1 fun xs H2=>r x xs H2 Q
variable {o e:Expr} {es:List Expr} {to:TE} {t:TA} {name:Str} {apos cpos:Pos} {T id:String} {r:V→List V→Hp→VK→Prop}
theorem qcH (pa:PlainAttrs T) (slot:Slot T name id) (hty:typeOf (.builtin id)=pure (.type "method_descriptor")) (hm:Nb X id r) (ho:PE X o to)
    (hbase:attributeBase o name X.env (eval o X.env)=eval o X.env:=by rfl) (hline:(apos.endLine == cpos.line)=true:=by rfl):PE X (.Call (.Attribute o name apos) [] [] cpos) (qcG X.K T r to):=by
  intro p_ s σ H Q I h;refine wpAny_Call_method0_late hbase hline (cY (ho p_ s σ H _ I h) fun v s1 zz=>?_);obtain⟨x,H1,I1,r1,ty,q1⟩:=zz;obtain⟨h1,h2⟩:=Wc I1 r1 ty;exact⟨T,id,pa,slot,hty,h1,h2,Calls.callWith_builtin rfl (PySem.evalArgs_none (hm p_ s1 σ H1 x [] v [] Q I1 r1 .nil q1))⟩
theorem qfr (pa:PlainAttrs T) (slot:Slot T name id) (hty:typeOf (.builtin id)=pure (.type "method_descriptor")) (hm:Nb X id r) (ho:PE X o to) (ha:PA X (e::es) t)
    (hbase:attributeBase o name X.env (eval o X.env)=eval o X.env:=by rfl)
    (hfew:((backTo cpos (starEach (e::es) X.env)).all (fun x=>!x.1) && (backToKw cpos (keywordEach [] X.env)).all (fun x=>x.1.isSome)
      && decide ((e::es).length+([]:List Keyword).length+(if ([]:List Keyword).isEmpty then 0 else 1)<30))=true:=by rfl)
    (hline:(apos.endLine == cpos.line)=true:=by rfl) (hs:starEach (e::es) X.env=(false,eval e X.env)::starEach es X.env:=by rfl) (hplain:(backTo cpos (starEach es X.env)).any (·.1)=false:=by rfl) :
    PE X (.Call (.Attribute o name apos) (e::es) [] cpos) (tBM X.K T r to t):=by
  intro p_ s σ H Q I h;refine wpAny_Call_method_late hbase hfew hline rfl (cY (ho p_ s σ H _ I h) fun v s1 zz=>?_);obtain⟨x,H1,I1,r1,ty,q1⟩:=zz;obtain⟨h1,h2⟩:=Wc I1 r1 ty;refine⟨T,id,pa,slot,hty,h1,h2,?_⟩;have hA:=ha cpos p_ s1 σ H1 _ I1 q1;rw[hs] at hA ⊢;refine Calls.callWith_builtin (by show(false || (backTo cpos (starEach es X.env)).any (·.1))=false;rw[hplain] <;> rfl) (Calls.evalArgs_plain ?_)
  refine cY hA fun us s2 zz=>?_;obtain⟨vs,H2,I2,r2,q2⟩:=zz;exact hm p_ s2 σ H2 x vs v us Q I2 r1 r2 q2
end
def MtM (X:Cx) (id:String) (r:V→List V→Hp→VK→Prop):Prop:=
  ∀(p_:List (Addr×Obj)) (s:Shared) (σ:St) (H:Hp) (x:V) (xs:List V) (v:Value) (us:List Value) (Q:VK),Inv X p_ σ H s→RelV x v→Vals xs us→r x xs H Q→
    wpAny (model X.prog X.w) X.A (call (.builtin id) (v::us)) (EP X p_ σ Q) X.xe s
theorem Vals.one {x:V} {us:List Value} (h:Vals [x] us):∃u,us=[u]∧RelV x u:=vals1 h
theorem Vals.two {x y:V} {us:List Value} (h:Vals [x,y] us):∃u v,us=[u,v]∧RelV x u∧RelV y v:=vals2 h
theorem Vals.zero:∀{us:List Value},Vals [] us→us=[]
  | _,.nil=>rfl
theorem Vals.rep {xs:List V} {us:List Value} (h:Vals xs us):∀k:Nat,Vals (List.replicate k xs).flatten (List.replicate k us).flatten
  | 0=>.nil
  | k+1=>by
    rw[List.replicate_succ,List.replicate_succ,List.flatten_cons,List.flatten_cons];exact Vals.append h (Vals.rep h k)
theorem foldl_rep (its:List Value):∀(k:Nat) (acc:List Value),
    List.foldl (fun x1 x2=>x1++x2) acc.toArray (List.replicate k its.toArray)=(acc++(List.replicate k its).flatten).toArray
  | 0,acc=>by simp
  | k+1,acc=>by
    have e:acc.toArray++its.toArray=(acc++its).toArray:=by simp
    have e2:(acc++its)++(List.replicate k its).flatten=acc++(List.replicate (k+1) its).flatten:=by
      rw[List.replicate_succ,List.flatten_cons,List.append_assoc]
    rw[← e2,← foldl_rep its k (acc++its),← e,List.replicate_succ,List.foldl_cons]
section
variable {X:Cx} {p_:List (Addr×Obj)} {σ:St} {H:Hp} {s:Shared} {l b:Addr} {xs ys zs:List V}
theorem Inv.qcI {its its':List Value} {n:Nat} {f:Array Value→Array Value} {t':Nat} (I:Inv X p_ σ H s) (hH:H l=some (.lst xs))
    (e:s.heap.get? l=some {cls:=.type "list",data:=.seq its.toArray n}) (hf:f its.toArray=its'.toArray) (hv:Vals ys its') (hz:ys.length≤sizeLine) :
    Inv X p_ σ (upd H l (.lst ys)) {s with heap:=s.heap.update l (Obj.mapSeq f),toks:=t'}:=by
  have q:=PySem.IsL.update e f;rw[hf] at q;refine I.write (x:=l) (e:=l) (by rw[hH];exact trivial) (.inl rfl) (fun b' u hb hu=>(Heap.get?_update_other s.heap (Obj.mapSeq f) (Ne.symm hb)).trans hu) ⟨_,q⟩ ?_;exact⟨hz,its',_,hv,q⟩
theorem Inv.Z0 {its:List Value} {t':Nat} (I:Inv X p_ σ H s) (hv:Vals ys its) (hz:ys.length≤sizeLine) :
    Inv X p_ σ (upd H s.heap.objs.size (.lst ys)) {s with heap:=s.heap.push {cls:=.type "list",data:=.seq its.toArray},toks:=t'}:=
  I.laid (fun _ _ q=>Heap.get?_push_of_some _ q) (Nat.le_refl _) ⟨hz,its,0,hv,Heap.get?_push_size _ rfl⟩
theorem Inv.fresh (I:Inv X p_ σ H s):H s.heap.objs.size=none:=I.hok.fresh (Nat.le_refl _)
theorem Inv.Ko (I:Inv X p_ σ H s) (hH:H l=some (.lst xs)):xs.length≤sizeLine∧∃(its:List Value) (n:Nat),Vals xs its∧xs.length=its.length∧s.heap.get? l=some {cls:=.type "list",data:=.seq its.toArray n}:=by
  obtain⟨z,its,n,r,e⟩:=I.hok l _ hH;exact⟨z,its,n,r,r.length,e⟩
theorem Wd {n:Nat} (h:n≤sizeLine):Builtin.List.listTooLong n=false:=by
  unfold Builtin.List.listTooLong;exact decide_eq_false (by omega)
end
section
variable {X:Cx}
def H_:V→List V→Hp→VK→Prop:=fun x vs H Q=>∃l xs y,x = .ref l∧vs=[y]∧H l=some (.lst xs)∧xs.length<sizeLine∧Q .non (upd H l (.lst (xs++[y])))
theorem Gu:MtM X "list.append" H_:=by
  intro p_ s σ H x vs v us Q I rx rv h;obtain⟨l,xs,y,rfl,rfl,hH,hz,q⟩:=h;cases rx;obtain⟨u,rfl,ru⟩:=rv.one;obtain⟨z,its,n,r,hl,e⟩:=I.Ko hH;refine call_meets F.slot_list_append ⟨_,e,rfl⟩ F.entry_list_append (F.args_list_append_2 _ _) (PySem.list_append l its.toArray n u (by rw[List.size_toArray];omega)) ⟨e,?_⟩;refine⟨.non,_,I.qcI (its':=its++[u]) hH e (by simp) (r.append (.cons ru .nil)) ?_,rfl,q⟩;rw[List.length_append,List.length_singleton];omega
def NZ:V→List V→Hp→VK→Prop:=fun x vs H Q=>∃l xs,x = .ref l∧vs=[]∧H l=some (.lst xs)∧Q .non (upd H l (.lst []))
theorem Wf:MtM X "list.clear" NZ:=by
  intro p_ s σ H x vs v us Q I rx rv h;obtain⟨l,xs,rfl,rfl,hH,q⟩:=h;cases rx;have hus:=rv.zero;subst hus;obtain⟨z,its,n,r,hl,e⟩:=I.Ko hH;refine call_meets F.slot_list_clear ⟨_,e,rfl⟩ F.entry_list_clear (F.args_list_clear_1 _) (AutoSeq1.list_clear_list_0 l its.toArray n (by rw[List.size_toArray];omega)) ⟨e,?_⟩;exact⟨.non,_,I.qcI (its':=[]) (ys:=[]) hH e rfl .nil (Nat.zero_le _),rfl,q⟩
def qfs:R2:=fun x y H Q=>∃l b xs zs,x = .ref l∧y = .ref b∧H l=some (.lst xs)∧H b=some (.lst zs)∧xs.length+zs.length≤sizeLine∧∀p,H p=none→Q (.ref p) (upd H p (.lst (xs++zs)))
theorem qcJ:jj X (binaryOp .Add) qfs:=by
  intro p_ s σ H x y v u Q I rx ry h;obtain⟨l,b,xs,zs,rfl,rfl,hH,hB,hz,q⟩:=h;cases rx;cases ry;obtain⟨z,its,n,r,hl,e⟩:=I.Ko hH;obtain⟨z2,its2,n2,r2,hl2,e2⟩:=I.Ko hB;refine PySem.P.add_list e e2 ?_ (by rw[List.size_toArray,List.size_toArray];omega);have ea:its.toArray++its2.toArray=(its++its2).toArray:=by simp
  rw[ea];exact⟨.ref _,_,I.Z0 (t':=s.toks) (r.append r2) (by rw[List.length_append];omega),rfl,q _ I.fresh⟩
def qlb:R2:=fun x y H Q=>∃l k xs,x = .ref l∧y = .int k∧H l=some (.lst xs)∧-(2 ^ 63)≤k∧k<2 ^ 63∧xs.length * k.toNat≤sizeLine∧
  ∀p,H p=none→Q (.ref p) (upd H p (.lst (List.replicate k.toNat xs).flatten))
theorem len_rep {α:Type} (xs:List α) (k:Nat):(List.replicate k xs).flatten.length=k * xs.length:=by
  induction k with
  | zero=>simp
  | succ k ih=>rw[List.replicate_succ,List.flatten_cons,List.length_append,ih,Nat.succ_mul,Nat.add_comm]
theorem qcK:jj X (binaryOp .Mult) qlb:=by
  intro p_ s σ H x y v u Q I rx ry h;obtain⟨l,k,xs,rfl,rfl,hH,h1,h2,hz,q⟩:=h;cases rx;obtain⟨t,rfl⟩:=ry;obtain⟨z,its,n,r,hl,e⟩:=I.Ko hH;have hlen:its.toArray.size * k.toNat≤sizeLine:=by rw[List.size_toArray,← hl];exact hz
  have hcap:¬its.toArray.size * k.toNat > (2 ^ 63 - 1) / 8:=by
    have:(sizeLine:Nat)≤(2 ^ 63 - 1) / 8:=by decide
    omega
  have hfit:¬(!Builtin.List.listFitsIndex k)=true:=by
    rw[fitsIndex_both h1 h2];exact Bool.false_ne_true
  have qft:¬Builtin.List.listTooLong (its.toArray.size * k.toNat)=true:=by
    rw[Wd hlen];exact Bool.false_ne_true
  have hnew:List.foldl (fun x1 x2=>x1++x2) #[] (List.replicate (if its.toArray.isEmpty=true then 0 else k.toNat) its.toArray)=(List.replicate k.toNat its).flatten.toArray:=by
    have f0:∀m:Nat,List.foldl (fun x1 x2=>x1++x2) #[] (List.replicate m its.toArray)=(List.replicate m its).flatten.toArray:=fun m=>by
      have:=foldl_rep its m [];rw[List.nil_append] at this;exact this
    rw[f0];cases its with
    | nil=>simp
    | cons a r'=>rw[if_neg (by simp)]
  refine wpAny_binaryOp_repeat_ref (T:= "list") (U:= "int") (by decide) ⟨_,e,rfl⟩ (fun s'=>typeIs_int s' k t) noFill_list_mul F.fills_int_mul F.slot_int_rmul repeat_list F.slot_int_index.lookup
    (call_meets F.slot_int_rmul (typeIs_int s k t) F.entry_int_rmul (F.args_int_rmul_2 _ _) (int___rmul___int_list k t l its.toArray n)
      ⟨e,rfl,⟨_,e,rfl⟩,call_meets F.slot_list_mul ⟨_,e,rfl⟩ F.entry_list_mul (F.args_list_mul_2 _ _) (AutoListH.list___mul___list_int_3 l its.toArray n k t hfit hcap qft) ⟨e,?_⟩⟩)
  rw[hnew];exact⟨.ref _,_,I.Z0 (t':=s.toks) (r.rep k.toNat) (by rw[len_rep,Nat.mul_comm];exact hz),rfl,q _ I.fresh⟩
end
end L2
namespace Att
open PySem PySem.W PySem.Calls PyProof.Rows
theorem Bc {P:Params} {h:Heap}:∀(ns:List Int) (vs:List Value),WellAll P h vs (ns.map WData.int)→IntsAre vs ns:=by
  intro ns
  induction ns with
  | nil=>
    intro vs w;rw[List.map_nil] at w;cases w;exact .nil
  | cons n ns ih=>
    intro vs w;rw[List.map_cons] at w;cases w with
    | cons a b=>
      cases a;exact .cons _ _ (ih _ b)
theorem Sv {l:OpenLaw} {n:Nat} (hn:l.most=some n) {P:Params} {h:Heap} {args:List WData} {vals:List Value}
    (hpre:l.row.toRowW.claim.pre args=true) (hwl:WellAll P h vals args) :
    ∃a vs ns,vals=[Value.ref a]∧args=[WData.list (ns.map WData.int)]∧h.get? a=some {cls:=.type "list",data:=.seq vs.toArray}∧IntsAre vs ns∧ns.length≤n:=by
  have hsh:WShape.hasAll [] args [.list .int]=true:=(pre_splitW hpre).1;have hc:l.pre.holds [] {args:=args}=true:=(pre_splitW hpre).2;obtain⟨d,r,rfl,h1,h2⟩:=hasAllW_cons hsh;obtain rfl:=hasAllW_nil h2;obtain⟨xs,rfl,h3⟩:=hasW_list h1;obtain⟨ns,rfl⟩:=items_int h3;have hlen:ns.length≤n:=by
    unfold OpenLaw.pre at hc;have h4:(WTm.not (.lt (.lit (.int (n:Int))) (.len (.arg 0)))).holds [] {args:=[.list (ns.map .int)]}=true:=by
      have h4:=(holds_andW hc).1;rw[hn] at h4;exact h4
    have h5:=condW_of h4 (w_not (w_lt w_lit (w_len_list (w_arg rfl))));rw[List.length_map] at h5;refine Nat.le_of_not_lt fun q=>?_;have q':(n:Int)<((ns.length:Nat):Int):=by omega
    first
      | (rw[decide_eq_true q'] at h5;exact absurd h5 (by decide))
      | (simp at h5;omega)
  cases hwl with
  | cons w1 w2=>
    cases w2;cases w1 with
    | list ho hall=>exact⟨_,_,ns,rfl,rfl,ho,Bc ns _ hall,hlen⟩
theorem Sw (l:OpenLaw) (args:List WData):l.row.toRowW.claim.post args (.bool true) args=true:=
  postW_of (r:=l.row.toRowW) (X:=(true == true))
    (show WShape.has [] (.bool true) .bool=true by first | rfl | decide | simp[WShape.has,WShape.arms,WShape.armsAll])
    (show(WTm.eq .res (.lit (.bool true))).value [] {args:=args,res:=some (.bool true),after:=args}=some (.bool (true == true)) from w_eq_bool (w_res rfl) w_lit) rfl
theorem Kp {l:OpenLaw} {n:Nat} {q:Program} {loose:List Str} {XP:(Str→Option Value)→Heap→Prop} {YP:World→Heap→Prop} {d:DefRec}
    (hn:l.most=some n) (hdf:d.params.defaults=[])
    (call:∀(w:World) (s₀ s₁:Shared) (mg mb:Str→Option Value) (fa:Addr) (o:Obj) (pm cd doc:Value) (a:Addr) (vs:List Value) (ns:List Int),
      Ground q loose [] XP w s₀ mg mb s₁.heap→YP w s₁.heap→
      s₁.heap.get? fa=some o→o.data = .func (docDef d.name d.params d.body d.scope pm cd doc)→s₁.heap.CodeRec cd d.name→mg d.name=some (.ref fa)→
      s₁.heap.get? a=some {cls:=.type "list",data:=.seq vs.toArray}→IntsAre vs ns→ns.length≤n→s₁.gens = #[]→
      codeAny (model l.prog w) callerA (.call (.ref fa) ⟨[.ref a],[]⟩) (fun r s'=>r = .ok (.ret (.bool true))∧OldK s₁.heap s'.heap∧s'.os=s₁.os∧AllBare s'.gens) s₁) :
    WalkO q loose XP YP l.row.toRowW d [] (fun f vs=>PySem.call f vs):=by
  intro w s₀ s₁ mg mb G Y fa o pm cd doc dV kV ho hd hcd hD hmg hg args vals as hpre hlay hrd hwl hlo;obtain rfl:dV = .none:=Dflts.none hD hdf;obtain rfl:kV = .none:=Dflts.noKw hD;obtain⟨a,vs,ns,rfl,rfl,hobj,hints,hlen⟩:=Sv hn hpre hwl;refine enter_call (codeAny_mono (call w s₀ s₁ mg mb fa o pm cd doc a vs ns G Y ho (fd_plain hd) hcd hmg hobj hints hlen hg) fun r s' hq=>?_);obtain⟨rfl,h2,h3,h4⟩:=hq;exact⟨.inl ⟨.bool true,.bool true,[],rfl,fun _=>rfl,.bool true,Sw l _,fun _=>⟨List.Pairwise.nil,fun _ hm=>(nomatch hm)⟩⟩,h2,h3,h4⟩
end Att
namespace L2
open PySem PySem.Spec PyProof.Rows
theorem Gv:∀{vs:List Value} {ns:List Int},IntsAre vs ns→Vals (ns.map V.int) vs
  | _,_,.nil=>.nil
  | _,_,.cons n t h=>.cons ⟨t,rfl⟩ (Gv h)
def Only (H:Hp):Prop:=∀b,H b=none∨∃o xs,H b=some (.gw o (.lst xs))
theorem Wg {P:Program} {w:World} {K:W.Frag} {mg mb:Str→Option Value} {CX:Vl} {k:Nat} {fa a:Addr} {fd:FuncData} {x:Str} {sp:Sp} {s₁:Shared} {vs:List Value} {ns:List Int}
    (KX:K.In s₁.heap) (hns:s₁.heap.Ns mainGlobals mg) (hb:s₁.heap.Ns builtinsNs mb) (hbb:∀x:Str,x≠ "__name__" →mb x=bootBuiltins x) (hlim:s₁.heap.NoLimit) (hg:s₁.gens = #[])
    (ha:s₁.heap.get? a=some {cls:=.type "list",data:=.seq vs.toArray}) (hi:IntsAre vs ns) (hl:ns.length≤sizeLine) (hr:j4 k callerA)
    (F:∀base:Heap,K.In base→base.Ns mainGlobals mg→cg P w K mg base CX k fa fd [x] sp) (hbind:∀(s:Shared) (u:Value),BindsTo s fd ⟨[u],[]⟩ [(x,u)])
    (hsp:∀H:Hp,Only H→bw K H a (ns.map V.int)→sp [.ref a] H (fun v _=>v = .bl true) fun _ _ _=>False)
    (hCX:∀H e s',CX [] H s₁ (fun _ _ _=>False) e s'→False) :
    codeAny (model P w) callerA (.call (.ref fa) ⟨[.ref a],[]⟩) (fun r s'=>r = .ok (.ret (.bool true))∧OldK s₁.heap s'.heap∧s'.os=s₁.os∧AllBare s'.gens) s₁:=by
  have rv:=Gv hi;have lenV:=hi.length;have core:∀H:Hp,Only H→bw K H a (ns.map V.int)→sY P w H s₁.heap→(∀b,H b≠none→b=a)→(H a≠none→K.lookup a=none)→
      codeAny (model P w) callerA (.call (.ref fa) ⟨[.ref a],[]⟩) (fun r s'=>r = .ok (.ret (.bool true))∧OldK s₁.heap s'.heap∧s'.os=s₁.os∧AllBare s'.gens) s₁:=by
    intro H hO hS hok hA hK;have QH:∀{b:Addr} {o:Obj},s₁.heap.get? b=some o→H b=none→(Hv s₁.heap H).get? b=some o:=fun e n=>Vt e n;have noA:∀{b:Addr} {o:Obj} {es:Array DictEntry} {ep:Nat},s₁.heap.get? b=some o→o.data = .dict es ep→H b=none:=fun {b o es ep} e d=>by
      cases q:H b with
      | none=>rfl
      | some u=>
        have e':b=a:=hA b (by rw[q];simp);subst e';rw[ha] at e;cases e;have d':Data.seq vs.toArray _=Data.dict es ep:=d;cases d'
    have nsK:∀{b:Addr} {m:Str→Option Value},s₁.heap.Ns b m→(Hv s₁.heap H).Ns b m:=fun {b m} ⟨o,es,ep,e,d,r⟩=>⟨o,es,ep,QH e (noA e d),d,r⟩;have hKb:K.In (Hv s₁.heap H):=fun b o e=>QH (KX b o e) (by
      cases q:H b with
      | none=>rfl
      | some u=>
        have e':b=a:=hA b (by rw[q];simp);subst e';rw[hK (by rw[q];simp)] at e;cases e)
    have hM:Mod K mg (Hv s₁.heap H):=⟨hKb,nsK hns,⟨mb,nsK hb,hbb⟩,let ⟨mc,h1,h2⟩:=hlim;⟨mc,nsK h1,h2⟩⟩;have e0:NP P w K mg (Hv s₁.heap H) callerA [] s₁ H:=⟨rfl,hM,fun b o e=>Zw e,Nat.le_of_eq (RN _ _),trivial,fun b hb=>absurd (show b∈([]:List Addr) from hb) (by simp),hok,.of_eq hg⟩;refine codeAny_mono ((F _ hKb (nsK hns)).run callerA [] s₁ H ⟨[.ref a],[]⟩ [.ref a] [.ref a] _ _ hr e0 (hbind s₁ (.ref a)) (.cons rfl .nil) (hsp H hO hS)) fun r s' h=>?_;cases r with
    | error e=>exact(hCX H e s' h).elim
    | ok fl=>
      cases fl with
      | next=>exact False.elim h
      | brk=>exact False.elim h
      | cont=>exact False.elim h
      | ret u=>
        obtain⟨v,H',os,bare,un,hok',r',q⟩:=h;have q':v = .bl true:=q;subst q';obtain rfl:u=Value.bool true:=r';refine⟨rfl,OldK.of_keep fun b o e=>?_,os,bare⟩;cases q:H b with
        | none=>exact un.keep b o e q (by intro z;exact absurd (show b∈([]:List Addr) from z) (by simp)) (by simp)
        | some u=>
          rcases hO b with z | ⟨ob,xs,z⟩
          ·rw[q] at z;cases z
          ·have z2:=un.oR b ob _ z;obtain⟨e1,_⟩:=hok b _ z;obtain⟨e2,_⟩:=hok' b _ z2;rw[e] at e1;cases e1;exact e2
  cases hk:K.lookup a with
  | some o=>
    have e:=KX a o hk;rw[ha] at e;cases e;refine core (fun _=>none) (fun _=>.inl rfl) (.inr ⟨_,vs.toArray,_,hk,rfl,rfl,rfl,by rw[List.size_toArray,lenV];exact hl,by simpa using rv⟩) (fun b u z=>by have z':(none:Option HO)=some u:=z;cases z') (fun b z=>absurd rfl z) fun z=>absurd rfl z
  | none=>
    refine core (fun b=>if b=a then some (.gw {cls:=.type "list",data:=.seq vs.toArray} (.lst (ns.map V.int))) else none) (fun b=>?_) (.inl (.inr ⟨{cls:=.type "list",data:=.seq vs.toArray},if_pos rfl⟩)) (fun b u z=>?_) (fun b z=>?_) fun _=>hk
    · by_cases hb:b=a
      ·exact .inr ⟨_,_,if_pos hb⟩
      ·exact .inl (if_neg hb)
    · by_cases hb:b=a
      ·have z':=(if_pos hb).symm.trans z;cases z';subst hb;exact⟨ha,by rw[List.length_map];exact hl,vs,_,rv,ha⟩
      ·have z':=(if_neg hb).symm.trans z;cases z'
    · by_cases hb:b=a
      ·exact hb
      ·exact absurd (if_neg hb) z
theorem Z1 {l:W.OpenLaw} {n k:Nat} {q:Program} {loose:List Str} {XP:(Str→Option Value)→Heap→Prop} {YP:World→Heap→Prop} {d:DefRec} {K:Params→W.Frag} {CX:World→Vl} {sp:World→Sp} {x:Str}
    (hn:l.most=some n) (hn2:n≤sizeLine) (hdf:d.params.defaults=[]) (hr:j4 k callerA)
    (hY:∀(w:World) (h:Heap),YP w h→(K w.params).In h)
    (F:∀(w:World) (mg:Str→Option Value) (fa:Addr) (h:Heap),(K w.params).In h→h.Ns mainGlobals mg→mg d.name=some (.ref fa)→
      ∃fd:FuncData,(∀(s:Shared) (u:Value),BindsTo s fd ⟨[u],[]⟩ [(x,u)])∧
        ∀base:Heap,(K w.params).In base→base.Ns mainGlobals mg→cg l.prog w (K w.params) mg base (CX w) k fa fd [x] (sp w))
    (hsp:∀(w:World) (H:Hp) (a:Addr) (ns:List Int),ns.length≤n→Only H→bw (K w.params) H a (ns.map V.int)→sp w [.ref a] H (fun v _=>v = .bl true) fun _ _ _=>False)
    (hCX:∀(w:World) (H:Hp) (s:Shared) (e:Value) (s':Shared),CX w [] H s (fun _ _ _=>False) e s'→False) :
    W.WalkO q loose XP YP l.row.toRowW d [] (fun f vs=>PySem.call f vs):=by
  refine Att.Kp hn hdf fun w s₀ s₁ mg mb fa o pm cd doc a vs ns G Y ho hd hcd hmg hobj hints hlen hg=>?_;have KX:=hY w _ Y;obtain⟨fd,hb,hF⟩:=F w mg fa _ KX G.T.g hmg;exact Wg KX G.T.g G.T.b G.T.builtins G.T.nolimit hg hobj hints (Nat.le_trans hlen hn2) hr hF hb (fun H hO hS=>hsp w H a ns hlen hO hS) fun H e s'=>hCX w H s₁ e s'
def inClass (s:Stmt) (j:Nat):Stmt:=match s with
  | .ClassDef _ _ _ body _ _ _ _ _ _ _=>body.getD j (.Pass ⟨0,0,0,0⟩)
  | _=>.Pass ⟨0,0,0,0⟩
def aJ (s:Stmt):Arguments:=match s with
  | .FunctionDef _ a _ _ _ _ _ _ _ _=>a
  | _=>{posonlyargs:=[],args:=[],vararg:=none,kwonlyargs:=[],kw_defaults:=[],kwarg:=none,defaults:=[]}
def aH (s:Stmt):List Stmt:=match s with
  | .FunctionDef _ _ b _ _ _ _ _ _ _=>b
  | _=>[]
def ao (s:Stmt):Scope:=match s with
  | .FunctionDef _ _ _ _ _ _ sc _ _ _=>sc
  | _=>{kind:=.function,names:=[],isGenerator:=false,isCoroutine:=false}
abbrev lC:Vl:=fun _ _ _ _ _ _=>False
abbrev E0:XK:=fun _ _ _=>False
theorem aV {X:Cx}:Passes lC X E0:=fun _ _ _ _ _ _ _ h=>h.elim
structure j7 (K:W.Frag) (x qual:Str) (st:Stmt) (f:Addr) (fd:FuncData):Prop where
  ex:∃(oc:Value) (od:Option Addr) (kV doc pm:Value) (an:Option Addr) (cdv ct:Value) (osl:Array (Option Value)),
    fd=W.fnOf x qual (aJ st) (aH st) (ao st) .none kV doc pm an cdv ct∧K.lookup f=some ⟨oc,od,.func fd,osl⟩∧W.codeIn K cdv qual=true
  kp:W.keepIn K (.ref f)=true
section
variable {P:Program} {w:World} {K:W.Frag} {mg:Str→Option Value} {base:Heap}
theorem j7.ok {x qual:Str} {st:Stmt} {f:Addr} {fd:FuncData} {N ps:List Str} {k:Nat} {sp:Sp} (F:j7 K x qual st f fd) (S:aX N ps (ao st)) (len:∀vs H Q E,sp vs H Q E→vs.length=ps.length)
    (hbody:∀(cdv:Value) (A:Around) (outer:List Env) (s:Shared) (H:Hp) (vs:List V) (Q:VK) (E:XK),j4 k (A.deeper (envOfC qual (ao st) s.heap.objs.size f cdv))→sp vs H Q E→
      ∃t,Bk (au lC P w K mg base N qual (ao st) f cdv A outer s H E).Vj (aH st) t∧t {nx:=fun _ H'=>Q .non H',rt:=Q} (start N vs) H):cg P w K mg base lC (k+1) f fd ps sp:=by
  obtain⟨oc,od,kV,doc,pm,an,cdv,ct,osl,rfl,lk,hcd⟩:=F.ex;refine qbu lk hcd S len fun A outer s H vs Q E hr hsp=>?_;obtain⟨t,h,q⟩:=hbody cdv A outer s H vs Q E hr hsp;exact⟨t,h.Vj,q⟩
theorem j7.binds {x qual:Str} {st:Stmt} {f:Addr} {fd:FuncData} {ps:List Str} (F:j7 K x qual st f fd)
    (h:∀(kV doc pm:Value) (an:Option Addr) (cdv ct:Value) (us:List Value),us.length=ps.length→bindArgs (W.fnOf x qual (aJ st) (aH st) (ao st) .none kV doc pm an cdv ct) ⟨us,[]⟩=pure (ps.zip us)):Binds K fd ps []:=by
  obtain⟨oc,od,kV,doc,pm,an,cdv,ct,osl,rfl,lk,hcd⟩:=F.ex;exact .all (h kV doc pm an cdv ct)
theorem bI {x qual:Str} {st:Stmt} {f:Addr} {oc:Value} {od an:Option Addr} {osl:Array (Option Value)} {kV doc pm cdv ct:Value} (l:K.lookup f=some ⟨oc,od,.func (W.fnOf x qual (aJ st) (aH st) (ao st) .none kV doc pm an cdv ct),osl⟩)
    (c:W.codeIn K cdv qual=true) (k:W.keepIn K (.ref f)=true):j7 K x qual st f (W.fnOf x qual (aJ st) (aH st) (ao st) .none kV doc pm an cdv ct):=⟨⟨oc,od,kV,doc,pm,an,cdv,ct,osl,rfl,l,c⟩,k⟩
end
theorem j8 {A:Around} {k:Nat} (hr:j4 k A):A.units+1<cLine:=Nat.lt_of_le_of_lt (Nat.add_le_add_left (by decide:1≤64) _) hr.units
def Same (H H':Hp):Prop:=∀b o,H b=some o→H' b=some o
theorem Same.refl (H:Hp):Same H H:=fun _ _ h=>h
theorem Same.trans {H H1 H2:Hp} (a:Same H H1) (b:Same H1 H2):Same H H2:=fun c o h=>b c o (a c o h)
theorem Same.seq {K:W.Frag} {H H':Hp} {a:Addr} {xs:List V} (e:Same H H') (h:bw K H a xs):bw K H' a xs:=by
  rcases h with(h | ⟨o,h⟩) | h
  ·exact .inl (.inl (e _ _ h))
  ·exact .inl (.inr ⟨o,e _ _ h⟩)
  ·exact .inr h
def pL (env:Env) (cs:List (Str×Addr)) (p:Str×NameKind):List (Str×Addr):=if p.2 == .free then (p.1,(env.cells.lookup p.1).getD 0)::cs else cs
def Kq (env:Env) (names:List (Str×NameKind)):List (Str×Addr):=names.foldl (pL env) []
theorem Ab {α β:Type} (f:α→β→Sem (ForInStep β)) (g:β→α→β):∀(l:List α) (b:β),(∀x∈l,∀b,f x b=pure (.yield (g b x)))→forIn l b f=pure (l.foldl g b)
  | [],_,_=>rfl
  | x::l,b,h=>by
    rw[List.forIn_cons,h x List.mem_cons_self,pure_bind];exact Ab f g l (g b x) fun y hy=>h y (List.mem_cons_of_mem _ hy)
theorem sZ {sc:Scope} {env:Env} (h:∀x,(x,NameKind.free)∈sc.names→∃c,env.cells.lookup x=some c):closureFor sc env=pure (Kq env sc.names):=by
  simp only[closureFor];rw[Ab _ (pL env) sc.names [] (fun p hp cs=>by
    obtain⟨n,k⟩:=p;cases k with
    | free=>
      obtain⟨c,hc⟩:=h n hp;simp only[pL,cellOf,hc,beq_self_eq_true,if_true,Option.getD_some,pure_bind]
    | _=>simp only[pL];rfl)]
  rfl
theorem xM {env:Env}:∀(names:List (Str×NameKind)) (acc:List (Str×Addr)) (x:Str) (c:Addr),(∀x,(x,NameKind.free)∈names→∃c,env.cells.lookup x=some c)→(∀x c,(x,c)∈acc→env.cells.lookup x=some c)→
    (x,c)∈names.foldl (pL env) acc→env.cells.lookup x=some c
  | [],_,x,c,_,h,m=>h x c m
  | (n,k)::r,acc,x,c,hf,h,m=>by
    refine xM r (pL env acc (n,k)) x c (fun y hy=>hf y (List.mem_cons_of_mem _ hy)) (fun y d hy=>?_) m;unfold pL at hy;split at hy
    · rename_i hk;have hk':k = .free:=by simpa using hk
      subst hk';obtain⟨e,he⟩:=hf n List.mem_cons_self
      rcases List.mem_cons.mp hy with z | z
      ·cases z;show env.cells.lookup n=some _;rw[he];rfl
      ·exact h y d z
    ·exact h y d hy
theorem zu {env:Env} {x:Str}:∀(names:List (Str×NameKind)) (acc:List (Str×Addr)),((x,NameKind.free)∈names∨(acc.lookup x).isSome=true)→((names.foldl (pL env) acc).lookup x).isSome=true
  | [],_,h=>h.elim (fun z=>nomatch z) id
  | (n,k)::r,acc,h=>by
    refine zu r (pL env acc (n,k)) ?_
    by_cases hm:(x,NameKind.free)∈r
    ·exact .inl hm
    · refine .inr ?_;unfold pL
      rcases h with h | h
      · rcases List.mem_cons.mp h with z | z
        ·cases z;simp[List.lookup_cons]
        ·exact absurd z hm
      · split
        ·simp only[List.lookup_cons];cases x == n <;> simp[h]
        ·exact h
def CP (env:Env) (sc:Scope) (C:Addr):List (Str×Addr):=cellsFrom (C+1) sc.names (Kq env sc.names)
theorem jD {x:Str}:∀(names:List (Str×NameKind)) (n:Nat) (acc:List (Str×Addr)),(x,NameKind.cell)∈names∨(acc.lookup x).isSome=true→((cellsFrom n names acc).lookup x).isSome=true
  | [],_,_,h=>h.elim (fun z=>nomatch z) id
  | (y,k)::r,n,acc,h=>by
    unfold cellsFrom;split
    · refine jD r (n+1) ((y,n)::acc) ?_
      by_cases hm:(x,NameKind.cell)∈r
      ·exact .inl hm
      · refine .inr ?_
        rcases h with h | h
        · rcases List.mem_cons.mp h with z | z
          ·cases z;simp[List.lookup_cons]
          ·exact absurd z hm
        ·simp only[List.lookup_cons];cases x == y <;> simp[h]
    · rename_i hk;refine jD r n acc ?_
      rcases h with h | h
      · rcases List.mem_cons.mp h with z | z
        ·cases z;exact absurd rfl hk
        ·exact .inl z
      ·exact .inr h
theorem N5:∀(names:List (Str×NameKind)) (h:Heap) (acc:List (Str×Addr)) (x:Str) (c:Addr),(x,c)∈cellsFrom h.objs.size names acc→(x,c)∈acc∨(h.objs.size≤c∧(pushCells h names).IsCell c none)
  | [],_,_,_,_,m=>.inl m
  | (n,k)::r,h,acc,x,c,m=>by
    unfold cellsFrom at m;unfold pushCells;split at m
    · rename_i hk;rw[if_pos hk];have m':(x,c)∈cellsFrom (h.push {cls:=.type "cell",data:=.cell none}).objs.size r ((n,h.objs.size)::acc):=by rw[Heap.size_push];exact m
      rcases N5 r (h.push {cls:=.type "cell",data:=.cell none}) _ x c m' with z | ⟨z1,z2⟩
      · rcases List.mem_cons.mp z with e | e
        ·cases e;exact .inr ⟨Nat.le_refl _,⟨_,pushCells_keeps _ _ _ _ (Heap.get?_push_size _ rfl),rfl⟩⟩
        ·exact .inl e
      ·rw[Heap.size_push] at z1;exact .inr ⟨by omega,z2⟩
    ·rename_i hk;rw[if_neg hk];exact N5 r h acc x c m
theorem N6 {n0:Nat} {x:Str}:∀(names:List (Str×NameKind)) (n:Nat) (acc:List (Str×Addr)) (c:Addr),((x,NameKind.cell)∈names∨∀d,acc.lookup x=some d→n0≤d)→n0≤n→(cellsFrom n names acc).lookup x=some c→n0≤c
  | [],_,_,c,h,_,e=>h.elim (fun z=>nomatch z) fun z=>z c e
  | (y,k)::r,n,acc,c,h,hn,e=>by
    unfold cellsFrom at e;split at e
    · refine N6 r (n+1) ((y,n)::acc) c ?_ (by omega) e
      by_cases hm:(x,NameKind.cell)∈r
      ·exact .inl hm
      · refine .inr fun d hd=>?_
        by_cases hxy:x=y
        · subst hxy;have hnd:n=d:=by simpa [List.lookup_cons] using hd
          rw[← hnd];exact hn
        · have hb:(x == y)=false:=by simpa using hxy
          simp only[List.lookup_cons,hb] at hd
          rcases h with h | h
          · rcases List.mem_cons.mp h with z | z
            ·cases z;exact absurd rfl hxy
            ·exact absurd z hm
          ·exact h d hd
    · rename_i hk;refine N6 r n acc c ?_ hn e
      rcases h with h | h
      · rcases List.mem_cons.mp h with z | z
        ·cases z;exact absurd rfl hk
        ·exact .inl z
      ·exact .inr h
theorem N7:∀(names:List (Str×NameKind)) (n:Nat) (acc:List (Str×Addr)),(∀y d,(y,d)∈acc→d<n)→(∀y z d,(y,d)∈acc→(z,d)∈acc→y=z)→
    ∀y z d,(y,d)∈cellsFrom n names acc→(z,d)∈cellsFrom n names acc→y=z
  | [],_,_,_,h=>h
  | (x,k)::r,n,acc,hl,h=>by
    unfold cellsFrom;split
    · refine N7 r (n+1) ((x,n)::acc) (fun y d hm=>?_) fun y z d h1 h2=>?_
      · rcases List.mem_cons.mp hm with e | e
        ·cases e;exact Nat.lt_succ_self _
        ·exact Nat.lt_succ_of_lt (hl y d e)
      · rcases List.mem_cons.mp h1 with e1 | e1 <;> rcases List.mem_cons.mp h2 with e2 | e2
        ·cases e1;cases e2;rfl
        ·cases e1;exact absurd (hl z n e2) (Nat.lt_irrefl _)
        ·cases e2;exact absurd (hl y n e1) (Nat.lt_irrefl _)
        ·exact h y z d e1 e2
    ·exact N7 r n acc hl h
abbrev Z2:Value→Shared→Prop:=fun _ _=>False
theorem Kr {prog:Program} {w:World} {A:Around} {R:Result→Shared→Prop} {s:Shared} {elt target iter:Expr} {ifs:List Expr} {scope:Scope} {pos:Pos} {it acc:Value} {env:Env} (I:Nat→Shared→Prop)
    (turn:∀n s,I n s→wpAny (model prog w) A (pyNext it) (fun r s₁=>match r with
      | none=>R (.ok .next) s₁
      | some v=>wpAny (model prog w) A (letOwnedTupleGo target it v) (fun _ s₂=>wpAny (model prog w) A (assign target env v) (fun _ s₃=>
          wpAny (model prog w) A (forIn ifs true fun c r=>if r=true then do let ok ← isTrue c env (eval c env);pure (ForInStep.yield ok) else pure (ForInStep.yield r)) (fun ok s₄=>
            if ok=true then wpAny (model prog w) A (eval elt env) (fun x s₅=>
              wpAny (model prog w) A (call (.builtin "list.append") [acc,x]) (fun _ s₆=>∃m,m<n∧I m s₆) Z2 s₅) Z2 s₄
            else ∃m,m<n∧I m s₄) Z2 s₃) Z2 s₂) Z2 s₁) Z2 s)
    (n:Nat) (h:I n s):codeAny (model prog w) A (.compLoop (.ListComp elt [⟨target,iter,ifs,0⟩] scope pos) 0 it acc env) R s:=by
  refine codeAny_loop rfl I (fun n s hI=>?_) n h;show wpAny _ A ((compTurn (.ListComp elt [⟨target,iter,ifs,0⟩] scope pos) 0 it acc env).onRaise (fun x=>do noteFrame x env;theTreesLotGoes x)) _ _ s
  refine wpAny_noted ?_;rw[compTurn_list];refine wpAny_bind (wpAny_standAt (wpAny_bind (wpAny_mono (turn n s hI) (fun r s₁ h₁=>?_) fun _ _ h'=>h'.elim)));cases r with
  | none=>exact wpAny_pure h₁
  | some v=>
    refine wpAny_bind (wpAny_mono h₁ (fun _ s₂ h₂=>?_) fun _ _ h'=>h'.elim);refine wpAny_bind (wpAny_mono h₂ (fun _ s₃ h₃=>wpAny_bind (wpAny_mono h₃ (fun ok s₄ h₄=>?_) fun _ _ h'=>h'.elim)) fun _ _ h'=>h'.elim);cases ok with
    | false=>exact wpAny_pure ⟨rfl,h₄⟩
    | true=>
      exact wpAny_bind (wpAny_bind (wpAny_mono h₄ (fun x s₅ h₅=>wpAny_bind (wpAny_mono h₅ (fun _ s₆ h₆=>wpAny_pure (wpAny_pure ⟨rfl,h₆⟩)) fun _ _ h'=>h'.elim)) fun _ _ h'=>h'.elim))
def gP (X:Cx) (sc:Scope) (N:List Str) (C:Addr) (s:Shared) (H:Hp) (fp:List Addr) (pn:List (Addr×Obj)):Cx:=
  {X with env:=compEnvC sc (CP X.env sc C) C X.env,N:=N,s₀:=s,H₀:=H,outer:=X.stack,ex:=fp,fn:=fun x=>sc.names.any fun p=>p.1 == x && p.2 == .cell,pn:=pn,xe:=Z2}
theorem tW {sc:Scope} {env:Env} (x:Str):(relabel sc env).names.lookup x=(sc.names.lookup x).map fun k=>if (k == NameKind.free && env.scope.kind == .function && env.kindOf x == some .cell)=true then NameKind.cell else k:=by
  unfold relabel;show List.lookup x (sc.names.map _)=_
  induction sc.names with
  | nil=>rfl
  | cons p r ih=>
    obtain⟨n,k⟩:=p;rw[List.map_cons];have e1:(if (k == NameKind.free && env.scope.kind == .function && env.kindOf n == some .cell)=true then (n,NameKind.cell) else (n,k))=(n,if (k == NameKind.free && env.scope.kind == .function && env.kindOf n == some .cell)=true then NameKind.cell else k):=by split <;> rfl
    show List.lookup x ((if (k == NameKind.free && env.scope.kind == .function && env.kindOf n == some .cell)=true then (n,NameKind.cell) else (n,k))::_)=_
    rw[e1]
    by_cases hx:x=n
    ·subst hx;simp only[List.lookup_cons,beq_self_eq_true,Option.map_some]
    · have hb:(x == n)=false:=by simpa using hx
      simp only[List.lookup_cons,hb];exact ih
structure aZ (ps sc:Scope) (pN own:List Str) (caps:List Nat) (N:List Str):Prop where
  kind:sc.kind = .function
  uniq:∀p∈sc.names,sc.names.lookup p.1=some p.2
  nd:N.Nodup
  names:N=own++caps.map fun j=>pN.getD j ""
  free:∀p∈sc.names,p.2 = .free→ps.names.lookup p.1=some .cell∨ps.names.lookup p.1=some .free
  qlc:∀j∈caps,j<pN.length∧sc.names.lookup (pN.getD j "")=some .free
def stC (own:List Str) (caps:List Nat) (σ:St):St:=own.map (fun _=>none)++caps.map fun j=>(σ[j]?).getD none
section
variable {X:Cx} {p_:List (Addr×Obj)} {σ:St} {H:Hp} {s:Shared} {ps sc:Scope} {own pN:List Str} {caps:List Nat} {N:List Str} {fp:List Addr}
theorem aZ.cells (S:aZ ps sc pN own caps N) (hps:X.env.scope=ps) (ok:X.Ok):∀x,(x,NameKind.free)∈sc.names→∃c,X.env.cells.lookup x=some c:=fun x hx=>by
  refine ok.has x ?_;show X.env.scope.names.lookup x=_∨X.env.scope.names.lookup x=_;rw[hps];exact S.free (x,.free) hx rfl
theorem CQ (hfr:∀x,(x,NameKind.free)∈sc.names→∃c,X.env.cells.lookup x=some c) {C:Addr} {x:Str} {c:Addr} {h:Heap} (hC:C+1=h.objs.size) (m:(x,c)∈CP X.env sc C):X.env.cells.lookup x=some c∨(h.objs.size≤c∧(pushCells h sc.names).IsCell c none):=by
  unfold CP at m;rw[hC] at m
  rcases N5 sc.names h _ x c m with z | z
  ·exact .inl (xM sc.names [] x c hfr (fun _ _ z=>nomatch z) z)
  ·exact .inr z
theorem QJ (I:Inv X p_ σ H s) (hps:X.env.scope=ps) (S:aZ ps sc pN own caps N) (hf:∀b∈fp,vO X p_ H b) (ho:∀b∈fp,∃o,s.heap.get? b=some o∧∀v,o.data≠.cell v) :
    (gP X sc N s.heap.objs.size s H fp (X.pn++p_)).Ok where
  mod:=I.ok.mod
  kind:=S.kind
  glob:=I.ok.glob
  blt:=I.ok.blt
  above:=Nat.le_refl _
  inj:=fun x y c h1 h2=>by
    have cl:∀y d,(y,d)∈Kq X.env sc.names→X.env.cells.lookup y=some d:=fun y d m=>xM sc.names [] y d (S.cells hps I.ok) (fun _ _ z=>nomatch z) m;refine N7 sc.names (s.heap.objs.size+1) (Kq X.env sc.names) (fun y d m=>?_) (fun y z d m1 m2=>I.ok.inj y z d (cl y d m1) (cl z d m2)) x y c (PySem.mem_of_lookup h1) (PySem.mem_of_lookup h2);obtain⟨v,q⟩:=I.cell y d (cl y d m);exact Nat.lt_succ_of_lt q.lt
  has:=fun x hx=>by
    have hx1:(relabel sc X.env).names.lookup x=some .cell∨(relabel sc X.env).names.lookup x=some .free:=hx;have hx':(x,NameKind.cell)∈sc.names∨(x,NameKind.free)∈sc.names:=by
      rw[tW] at hx1;cases e:sc.names.lookup x with
      | none=>rw[e] at hx1;simp at hx1
      | some k=>
        rw[e] at hx1;have hm:=PySem.mem_of_lookup e;cases k with
        | free=>exact .inr hm
        | cell=>exact .inl hm
        | _=>simp at hx1
    have q:((cellsFrom (s.heap.objs.size+1) sc.names (Kq X.env sc.names)).lookup x).isSome=true:=by
      rcases hx' with z | z
      ·exact jD sc.names _ _ (.inl z)
      ·exact jD sc.names _ _ (.inr (zu sc.names [] (.inl z)))
    exact Option.isSome_iff_exists.mp q
  cab:=fun x c hx h=>by
    have hx':(x,NameKind.cell)∈sc.names:=by
      have hx:(sc.names.any fun p=>p.1 == x && p.2 == .cell)=true:=hx;obtain⟨⟨a,b⟩,hm,he⟩:=List.any_eq_true.mp hx;simp at he;obtain⟨rfl,rfl⟩:=he;exact hm
    exact N6 (n0:=s.heap.objs.size) sc.names (s.heap.objs.size+1) (Kq X.env sc.names) c (.inl hx') (Nat.le_succ _) h
  hd:=I.ok.hd
  frames:=I.ok.frames
  stk:=.inl rfl
  exf:=fun b hb=>by
    obtain⟨o,e,_⟩:=ho b hb;refine⟨Nat.ne_of_lt (Heap.lt_size e),fun x c h z=>?_⟩;subst z
    rcases CQ (S.cells hps I.ok) (h:=s.heap.push {cls:=.type "dict",data:=.dict #[]}) (by rw[Heap.size_push]) (PySem.mem_of_lookup h) with q | ⟨q,_⟩
    ·exact(hf c hb).2.2.2.2.1 x c q rfl
    ·rw[Heap.size_push] at q;exact absurd (Nat.lt_of_lt_of_le (Nat.lt_of_lt_of_le (Heap.lt_size e) (Nat.le_succ _)) q) (Nat.lt_irrefl _)
  bs:=I.bs
  RP:=Nat.le_trans I.ok.RP I.sz
  Ka:=fun b o e hb=>by
    rcases(hf b hb).2.2.2.1 with z | z
    ·exact I.ok.Ka b o e z
    ·exact absurd (Nat.lt_of_lt_of_le (Heap.lt_size e) (Nat.le_trans I.ok.RP z)) (Nat.lt_irrefl _)
  Kc:=fun b hb z=>by
    rcases List.mem_cons.mp (I.wk b z) with q | q
    ·exact(hf b hb).2.1 q
    ·exact(hf b hb).2.2.1 q
  vN:=I.stack
  Zn:=I.Bj
def blockAt (sc:Scope) (s:Shared):Shared:={s with heap:=pushCells (s.heap.push {cls:=.type "dict",data:=.dict #[]}) sc.names}
theorem Wh (I:Inv X p_ σ H s) (hps:X.env.scope=ps) (hpN:X.N=pN) (S:aZ ps sc pN own caps N) (hf:∀b∈fp,vO X p_ H b) (ho:∀b∈fp,∃o,s.heap.get? b=some o∧∀v,o.data≠.cell v) :
    Inv (gP X sc N s.heap.objs.size s H fp (X.pn++p_)) [] (stC own caps σ) H (blockAt sc s):=by
  have hk:∀b o,s.heap.get? b=some o→(blockAt sc s).heap.get? b=some o:=fun b o e=>pushCells_keeps _ _ b o (Heap.get?_push_of_some _ e);have hns:(blockAt sc s).heap.Ns s.heap.objs.size fun _=>none:=(Heap.Ns.new s.heap (.type "dict")).keeps (pushCells_keeps _ _);have hcl:∀x c,(CP X.env sc s.heap.objs.size).lookup x=some c→X.env.cells.lookup x=some c∨(s.heap.objs.size+1≤c∧(blockAt sc s).heap.IsCell c none):=fun x c e=>by
    rcases CQ (S.cells hps I.ok) (h:=s.heap.push {cls:=.type "dict",data:=.dict #[]}) (by rw[Heap.size_push]) (PySem.mem_of_lookup e) with q | ⟨q,r⟩
    ·exact .inl q
    ·rw[Heap.size_push] at q;exact .inr ⟨q,r⟩
  refine⟨QJ I hps S hf ho,rfl,I.bare,Un.kept hk,⟨_,hns,fun i x v e1 e2 e3=>?_⟩,fun x c e=>?_,I.hok.fresh (Nat.le_refl _),fun x c e=>?_,fun p hp=>?_,I.hok.kept hk,?_⟩
  · have e1':N[i]? = some x:=e1;rw[S.names] at e1';unfold stC at e2
    by_cases hi:i<own.length
    · rw[List.getElem?_append_left (by simpa using hi),List.getElem?_map] at e2;cases q:own[i]? with
      | none=>rw[q] at e2;cases e2
      | some y=>rw[q] at e2;cases e2
    · rw[List.getElem?_append_right (by omega),List.getElem?_map] at e1';rw[List.getElem?_append_right (by simp;omega),List.getElem?_map] at e2;simp only[List.length_map] at e2;cases q:caps[i - own.length]? with
      | none=>rw[q] at e2;cases e2
      | some j=>
        rw[q] at e1' e2;have qfu:pN.getD j "" = x:=Option.some.inj e1';have e2':(σ[j]?).getD none=some v:=Option.some.inj e2;have hj:σ[j]? = some (some v):=by
          cases z:σ[j]? with
          | none=>rw[z] at e2';cases e2'
          | some o=>rw[z] at e2';exact congrArg some e2'
        obtain⟨hlt,hfree⟩:=S.qlc j (List.mem_of_getElem? q);rw[qfu] at hfree;have hNj:X.N[j]? = some x:=by
          rw[hpN,← qfu];simp[List.getD,List.getElem?_eq_getElem hlt]
        have qfv:=S.free (x,.free) (PySem.mem_of_lookup hfree) rfl;have vis:Vis X.env.scope x:=by rw[hps];exact .inr qfv
        obtain⟨m,hn,hl⟩:=I.loc;obtain⟨u,r,l⟩:=hl j x v hNj hj vis;refine⟨u,r,.inr ?_⟩;have hkind:(relabel sc X.env).names.lookup x=some .cell∨(relabel sc X.env).names.lookup x=some .free:=by
          rw[tW,hfree];show some (if _ then _ else _)=_∨some (if _ then _ else _)=_
          split
          ·exact .inl rfl
          ·exact .inr rfl
        refine⟨hkind,?_⟩;have hcell:X.env.kindOf x=some .cell∨X.env.kindOf x=some .free:=by
          show X.env.scope.names.lookup x=_∨X.env.scope.names.lookup x=_;rw[hps];exact qfv
        rcases l with⟨hloc,_⟩ | ⟨_,c,hc,hcv⟩
        ·rcases hcell with z | z <;> (rw[hloc] at z;cases z)
        · have q2:((CP X.env sc s.heap.objs.size).lookup x).isSome=true:=jD sc.names _ _ (.inr (zu sc.names [] (.inl (PySem.mem_of_lookup hfree))));obtain⟨d,hd⟩:=Option.isSome_iff_exists.mp q2;refine⟨d,hd,?_⟩
          rcases hcl x d hd with z | ⟨z,_⟩
          ·rw[hc] at z;cases z;exact hcv.keeps hk
          ·
            exfalso;have hnc:(x,NameKind.cell)∉sc.names:=fun hm=>by
              have:=S.uniq _ hm;rw[hfree] at this;cases this
            have hmem:=PySem.mem_of_lookup hd;have qld:∀(names:List (Str×NameKind)) (n:Nat) (acc:List (Str×Addr)),(x,NameKind.cell)∉names→(cellsFrom n names acc).lookup x=acc.lookup x:=by
              intro names
              induction names with
              | nil=>intro _ _ _;rfl
              | cons p r ih=>
                intro n acc hm;obtain⟨y,k⟩:=p;unfold cellsFrom;split
                · rename_i hkk;have hkk':k = .cell:=by simpa using hkk
                  subst hkk';rw[ih _ _ fun z=>hm (List.mem_cons_of_mem _ z)];have hxy:(x == y)=false:=by
                    cases hb:x == y with
                    | false=>rfl
                    | true=>exact absurd (by rw[beq_iff_eq.mp hb];exact List.mem_cons_self) hm
                  simp only[List.lookup_cons,hxy]
                ·exact ih _ _ fun z=>hm (List.mem_cons_of_mem _ z)
            have e5:(Kq X.env sc.names).lookup x=some d:=(qld sc.names _ _ hnc).symm.trans hd;have e6:=xM sc.names [] x d (S.cells hps I.ok) (fun _ _ z=>nomatch z) (PySem.mem_of_lookup e5);rw[hc] at e6;cases e6;exact absurd (Nat.lt_of_lt_of_le (Nat.lt_of_lt_of_le hcv.lt (Nat.le_succ _)) z) (Nat.lt_irrefl _)
  · rcases hcl x c e with z | ⟨_,z⟩
    ·obtain⟨v,q⟩:=I.cell x c z;exact⟨v,q.keeps hk⟩
    ·exact⟨_,z⟩
  · rcases hcl x c e with z | ⟨z,_⟩
    ·exact I.iT x c z
    ·exact I.hok.fresh (by omega)
  · rw[List.append_nil] at hp;obtain⟨e,n,ne,nf,d⟩:=I.pin p hp;refine⟨hk _ _ e,n,Nat.ne_of_lt (Heap.lt_size e),fun z=>?_,d⟩
    rcases List.mem_cons.mp (I.wk p.1 z) with q | q
    ·exact ne q
    ·exact nf q
  ·show(stC own caps σ).length=N.length;rw[S.names];simp[stC]
theorem Sx (I:Inv X p_ σ H s) (hf:∀b∈fp,vO X p_ H b) {C:Addr} {pn:List (Addr×Obj)} {tO:List (Addr×Obj)} {σ':St} {H':Hp} {s':Shared} (I':Inv (gP X sc N C s H fp pn) tO σ' H' s'):Inv X p_ σ H' s':=
  I.call' (ch:=fp) I'.os I'.base I'.hok I'.bare fun b hb=>⟨(hf b hb).2.2.2.1,(hf b hb).2.1,(hf b hb).2.2.2.2.1,(hf b hb).2.2.2.2.2⟩
end
def PTs (X:Cx) (ifs:List Expr) (t:TT):Prop:=
  ∀(p_:List (Addr×Obj)) (s:Shared) (σ:St) (H:Hp) (Q:Bool→Hp→Prop),Inv X p_ σ H s→t σ H Q→
    wpAny (model X.prog X.w) X.A (forIn ifs true fun c r=>if r=true then do let ok ← isTrue c X.env (eval c X.env);pure (ForInStep.yield ok) else pure (ForInStep.yield r)) (TP X p_ σ Q) X.xe s
def qfw:TT:=fun _ H Q=>Q true H
theorem dX {X:Cx}:PTs X [] qfw:=fun _ _ _ H _ I h=>wpAny_tests_nil ⟨H,I,h⟩
theorem qT {X:Cx} {c:Expr} {t:TT} (h:PT X c t):PTs X [c] t:=fun p_ s σ H Q I hw=>wpAny_tests_one (h p_ s σ H Q I hw)
def ni (own:List Str) (caps:List Nat) (J:It) (g:TG) (tt:TT) (te:TE) (D:Addr) (σ:St) (H:Hp) (Q:Hp→Prop):Prop:=
  ∃ql:Nat→Nat→St→Hp→Prop,(∃m,ql 0 m (stC own caps σ) H)∧∀i m σ' H',ql i m σ' H'→
    (J.stop i H'∧Q H')∨(J.go i H'∧∃N:St→Hp→Prop,(∀σ2 H2,N σ2 H2→∃m',m'<m∧ql (i+1) m' σ2 H2)∧∀x H2,J.ZF i H' x H2→g x σ' H2 fun σ2 H3=>tt σ2 H3 fun b H4=>
      if b=true then te σ2 H4 fun y H5=>∃ys,H5 D=some (.lst ys)∧ys.length<sizeLine∧N σ2 (upd H5 D (.lst (ys++[y]))) else N σ2 H4)
def Wi (own:List Str) (caps:List Nat) (wi:TI) (g:TG) (tt:TT) (te:TE):TE:=fun σ H Q=>wi σ H fun J H1=>∀D,H1 D=none→ni own caps J g tt te D σ (upd H1 D (.lst [])) (Q (.ref D))
theorem Ia {M:Model} {A:Around} {E:Value→Shared→Prop} {s:Shared} {sc:Scope} {g:Addr} {cl:List (Str×Addr)} {qual:Str} {env:Env} {Q:Env→Shared→Prop}
    (h:Q (newEnv sc s.heap.objs.size g (cellsFrom (s.heap.objs.size+1) sc.names cl) qual none .none (some env) builtinsNs) (blockAt sc s)):wpAny M A (newFunctionEnv sc g cl [] qual none .none (some env)) Q E s:=by
  simp only[newFunctionEnv,Option.isSome_some,if_true];refine wpAny_bind (wpAny_alloc ?_);refine wpAny_bind (wpAny_layCells _ (fun name kind cells=>by cases hkc:kind == NameKind.cell <;> simp[hkc]) _ _ _ _ ?_);rw[show({s with heap:=s.heap.push {cls:=.type "dict",data:=.dict #[]}}:Shared).heap.objs.size=s.heap.objs.size+1 from Heap.size_push ..];rw[List.forIn_nil];exact wpAny_bind (wpAny_pure (wpAny_pure h))
def Ks (X:Cx) (p_:List (Addr×Obj)) (σ:St) (Q:Hp→Prop) (C:Addr) (r:Result) (s':Shared):Prop:=
  ∃H',r = .ok .next∧Inv X p_ σ H' s'∧(∃m,s'.heap.Ns C m)∧vO X p_ H' C∧Q H'
section
variable {X:Cx} {ps sc:Scope} {own pN:List Str} {caps:List Nat} {N:List Str}
theorem CT {p_:List (Addr×Obj)} {σ:St} {H:Hp} {s:Shared} {E:Value→Shared→Prop} {elt tg iter:Expr} {ifs:List Expr} {pos:Pos} {J:It} {fp:List Addr} {it D:Addr} {tn:Nat→Heap→Prop} {g:TG} {tt:TT} {te:TE} {Q:Hp→Prop}
    (I:Inv X p_ σ H s) (hps:X.env.scope=ps) (hpN:X.N=pN) (S:aZ ps sc pN own caps N) (T:Turn X.prog X.w X.K tg J fp it tn) (st:tn 0 s.heap) (hf:∀b∈fp,vO X p_ H b) (hc:X.calm=true)
    (hg:∀C s H fp pn,PG (gP X sc N C s H fp pn) tg g) (ht:∀C s H fp pn,PTs (gP X sc N C s H fp pn) ifs tt) (he:∀C s H fp pn,PE (gP X sc N C s H fp pn) elt te)
    (h:ni own caps J g tt te D σ H Q) :
    wpAny (model X.prog X.w) X.A (newFunctionEnv sc X.env.globals (Kq X.env sc.names) [] X.env.qual none .none (some X.env)) (fun cenv s4=>
      codeAny (model X.prog X.w) X.A (.compStart (.ListComp elt [⟨tg,iter,ifs,0⟩] sc pos) 0 (.ref it) (.ref D) {cenv with scope:=relabel sc X.env}) (Ks X p_ σ Q cenv.locals) s4) E s:=by
  obtain⟨ql,⟨m0,w0⟩,turn⟩:=h;refine Ia ?_;have ho:=T.obj 0 _ st;have I0:=Wh I hps hpN S hf ho;have ok':=QJ I hps S hf ho;have hk:∀b o,s.heap.get? b=some o→(blockAt sc s).heap.get? b=some o:=fun b o e=>pushCells_keeps _ _ b o (Heap.get?_push_of_some _ e);have st0:tn 0 (blockAt sc s).heap:=T.keep 0 _ _ st fun b _ o e=>hk b o e;have stat:∀{H':Hp},(∀b∈fp,H' b=none)→∀b∈fp,vO (gP X sc N s.heap.objs.size s H fp (X.pn++p_)) [] H' b:=fun hn b hb=>
    ⟨hn b hb,(ok'.exf b hb).1,ok'.Kc b hb,.inl hb,(ok'.exf b hb).2,fun p hp=>(hf b hb).2.2.2.2.2 p (by rw[List.append_nil] at hp;exact hp)⟩
  have loop:codeAny (model X.prog X.w) X.A (.compLoop (.ListComp elt [⟨tg,iter,ifs,0⟩] sc pos) 0 (.ref it) (.ref D) (gP X sc N s.heap.objs.size s H fp (X.pn++p_)).env) (Ks X p_ σ Q s.heap.objs.size) (blockAt sc s):=by
    refine Kr (fun n s'=>∃i σ' H',Inv (gP X sc N s.heap.objs.size s H fp (X.pn++p_)) [] σ' H' s'∧tn i s'.heap∧(∀b∈fp,H' b=none)∧ql i n σ' H') ?_ m0 ⟨0,_,H,I0,st0,fun b hb=>(hf b hb).1,w0⟩;rintro n s3 ⟨i,σ3,H3,I3,st3,fr3,w3⟩
    rcases turn i n σ3 H3 w3 with⟨stop,qn⟩ | ⟨go,N',hN,step⟩
    ·refine cY (T.done (gP X sc N s.heap.objs.size s H fp (X.pn++p_)) rfl rfl rfl hc i [] s3 σ3 H3 Z2 I3 (stat fr3) st3 stop) fun r s4 zz=>?_;obtain⟨hr,I4⟩:=zz;subst hr;obtain⟨m,hn,_⟩:=I4.loc;exact⟨H3,rfl,Sx I hf I4,⟨m,hn⟩,I.A_ (Nat.le_refl _) I4.free,qn⟩
    · refine cY (T.item (gP X sc N s.heap.objs.size s H fp (X.pn++p_)) rfl rfl rfl hc i [] s3 σ3 H3 Z2 I3 (stat fr3) st3 go) fun r s4 zz=>?_;obtain⟨u,hr,h4⟩:=zz;subst hr;refine cY h4 fun _ s5 zz=>?_;obtain⟨x,H5,I5,r5,y5,st5,fr5⟩:=zz;have I5':=I5.pinned (stat fr5) (T.obj _ _ st5);refine cY (hg _ _ _ _ _ _ s5 σ3 H5 x u _ I5' r5 (step x H5 y5)) fun _ s6 zz=>?_;obtain⟨σ6,H6,I6,q6⟩:=zz;refine cY (ht _ _ _ _ _ _ s6 σ6 H6 _ I6 q6) fun b s7 zz=>?_;obtain⟨H7,I7,q7⟩:=zz;have again:∀{σ8:St} {H8:Hp} {s8:Shared},Inv (gP X sc N s.heap.objs.size s H fp (X.pn++p_)) ([]++CK fp s5.heap) σ8 H8 s8→N' σ8 H8→
          ∃m,m<n∧∃i σ' H',Inv (gP X sc N s.heap.objs.size s H fp (X.pn++p_)) [] σ' H' s8∧tn i s8.heap∧(∀b∈fp,H' b=none)∧ql i m σ' H':=fun {σ8 H8 s8} I8 n8=>by
        obtain⟨m',hm,w8⟩:=hN σ8 H8 n8;refine⟨m',hm,i+1,σ8,H8,I8.xG,T.keep _ _ _ st5 fun b hb o e=>(I8.pin (b,o) (List.mem_append_right _ (List.mem_append_right _ (qR hb e)))).1,fun b hb=>?_,w8⟩;obtain⟨o,e,d⟩:=T.obj _ _ st5 b hb;exact(I8.pin (b,o) (List.mem_append_right _ (List.mem_append_right _ (qR hb e)))).2.1
      cases b with
      | false=>
        rw[if_neg Bool.false_ne_true] at q7 ⊢;exact again I7 q7
      | true=>
        rw[if_pos rfl] at q7 ⊢;refine cY (he _ _ _ _ _ _ s7 σ6 H7 _ I7 q7) fun v s8 zz=>?_;obtain⟨y,H8,I8,r8,ys,hD,hz,n8⟩:=zz;refine cY (Gu (X:=gP X sc N s.heap.objs.size s H fp (X.pn++p_)) _ s8 σ6 H8 (.ref D) [y] (.ref D) [v] (fun _ H9=>N' σ6 H9) I8 rfl (.cons r8 .nil) ⟨D,ys,y,rfl,rfl,hD,hz,n8⟩) fun _ s9 zz=>?_;obtain⟨_,H9,I9,_,n9⟩:=zz;exact again I9 n9
  exact codeAny_compStart_list loop (T.self X.A 0 _ _ _ st0 loop)
variable {elt tg iter:Expr} {ifs:List Expr} {pos:Pos} {wi:TI} {g:TG} {tt:TT} {te:TE}
theorem aZ.locs (S:aZ ps sc pN own caps N):∀x∈sc.names,x.2 = .local→sc.names.lookup x.1=some .local:=fun x hx e=>by rw[← e];exact S.uniq x hx
theorem dY (hps:X.env.scope=ps) (hpN:X.N=pN) (S:aZ ps sc pN own caps N) (hc:X.calm=true) (hi:PI X tg iter wi)
    (hg:∀C s H fp pn,PG (gP X sc N C s H fp pn) tg g) (ht:∀C s H fp pn,PTs (gP X sc N C s H fp pn) ifs tt) (he:∀C s H fp pn,PE (gP X sc N C s H fp pn) elt te)
    (hs:∀x,foldedSetIterable iter X.env x=pure x:=by intro _;rfl):PE X (.ListComp elt [⟨tg,iter,ifs,0⟩] sc pos) (Wi own caps wi g tt te):=by
  intro p_ s σ H Q I h;rw[eval_ListComp];refine wpAny_comprehension_free (use:=none) rfl hs (sZ (S.cells hps I.ok)) S.kind S.locs (cY (hi p_ s σ H _ I h) fun v s1 h1=>cY h1 fun itv s2 h2=>?_);obtain⟨it,fp,tn,J,H2,e,I2,T,st2,f2,q⟩:=h2;subst e;have fr:H2 s2.heap.objs.size=none:=I2.fresh;refine wpAny_newObj_type ?_;have I3:Inv X p_ σ (upd H2 s2.heap.objs.size (.lst [])) {s2 with heap:=s2.heap.push {cls:=.type "list",data:=.seq ([]:List Value).toArray},toks:=s2.toks}:=I2.Z0 (its:=[]) (ys:=[]) .nil (Nat.zero_le _);have f3:∀b∈fp,vO X p_ (upd H2 s2.heap.objs.size (.lst [])) b:=fun b hb=>by
    obtain⟨o,e,_⟩:=T.obj 0 _ st2 b hb;exact⟨by rw[aC (Nat.ne_of_lt (Heap.lt_size e))];exact(f2 b hb).1,(f2 b hb).2⟩
  refine cY (CT (iter:=iter) (pos:=pos) I3 hps hpN S T (T.keep 0 _ _ st2 fun b _ o e=>Heap.get?_push_of_some _ e) f3 hc hg ht he (q _ fr)) fun cenv s4 h4=>?_;refine codeAny_mono h4 fun r s5 ⟨H5,hr,I5,⟨m,hn⟩,f5,q5⟩=>?_;subst hr;refine⟨m,hn,fun h' hs'=>?_⟩;have I6:Inv X p_ σ H5 {s5 with heap:=h',toks:=s5.toks}:=I5.turned (it:=cenv.locals) (fun b o hb e=>(hs'.2 b hb).trans e) f5.1 f5.2.1 f5.2.2.2.1 f5.2.2.2.2.1 f5.2.2.2.2.2;exact⟨.ref s2.heap.objs.size,H5,I6,rfl,q5⟩
theorem jQ {i:Nat} {y:Str} {py spos:Pos} (hN:X.N.Nodup) (hy:X.N[i]? = some y) (hl:X.env.scope.names.lookup y=some .local) (hps:X.env.scope=ps) (hpN:X.N=pN) (S:aZ ps sc pN own caps N) (hc:X.calm=true) (hi:PI X tg iter wi)
    (hg:∀C s H fp pn,PG (gP X sc N C s H fp pn) tg g) (ht:∀C s H fp pn,PTs (gP X sc N C s H fp pn) ifs tt) (he:∀C s H fp pn,PE (gP X sc N C s H fp pn) elt te)
    (hsw:swapsWith (.ListComp elt [⟨tg,iter,ifs,0⟩] sc pos) (some (.Name y py)) spos.line X.env=pure true:=by rfl)
    (hs:∀x,foldedSetIterable iter X.env x=pure x:=by intro _;rfl):PS X (.Assign [.Name y py] (.ListComp elt [⟨tg,iter,ifs,0⟩] sc pos) spos) (ZD (Wi own caps wi g tt te) (Qu i)):=by
  intro p_ s σ H D0 I h;rw[exec_Assign_Name_used _ _ _ _ hsw];refine wpAny_bind (wpAny_standAt (wpAny_bind ?_));show wpAny _ X.A (do let _ ← comprehension (.ListComp elt [⟨tg,iter,ifs,0⟩] sc pos) sc X.env _ (newList []) false (eval iter X.env) (some (assign (.Name y py) X.env))) _ _ s
  refine wpAny_bind (wpAny_mono (wpAny_comprehension_free (use:=some (assign (.Name y py) X.env)) (Q:=fun _ s'=>SP X p_ D0 .next s') rfl hs (sZ (S.cells hps I.ok)) S.kind S.locs
    (cY (hi p_ s σ H _ I h) fun v s1 h1=>cY h1 fun itv s2 h2=>?_)) (fun _ s' hq=>wpAny_pure (wpAny_pure hq)) fun _ _ e=>e)
  obtain⟨it,fp,tn,J,H2,e,I2,T,st2,f2,q⟩:=h2;subst e;have fr:H2 s2.heap.objs.size=none:=I2.fresh;refine wpAny_newObj_type ?_;have I3:Inv X p_ σ (upd H2 s2.heap.objs.size (.lst [])) {s2 with heap:=s2.heap.push {cls:=.type "list",data:=.seq ([]:List Value).toArray},toks:=s2.toks}:=I2.Z0 (its:=[]) (ys:=[]) .nil (Nat.zero_le _);have f3:∀b∈fp,vO X p_ (upd H2 s2.heap.objs.size (.lst [])) b:=fun b hb=>by
    obtain⟨o,e,_⟩:=T.obj 0 _ st2 b hb;exact⟨by rw[aC (Nat.ne_of_lt (Heap.lt_size e))];exact(f2 b hb).1,(f2 b hb).2⟩
  refine cY (CT (iter:=iter) (pos:=pos) I3 hps hpN S T (T.keep 0 _ _ st2 fun b _ o e=>Heap.get?_push_of_some _ e) f3 hc hg ht he (q _ fr)) fun cenv s4 h4=>?_;refine codeAny_mono h4 fun r s5 ⟨H5,hr,I5,⟨m,hn⟩,f5,q5⟩=>?_;subst hr;show wpAny _ X.A (assign (.Name y py) X.env (.ref s2.heap.objs.size)) _ _ _;refine wpAny_assign_Name (uU I5 hN hy (.inl hl) (v:=.ref s2.heap.objs.size) rfl (fun s6 I6 hsb=>?_) (.inr hl));obtain⟨a,sb,ha⟩:=hsb;have hne:cenv.locals≠a:=by
    rcases ha with z | z
    ·rw[z];exact f5.2.1
    ·exact fun e=>f5.2.2.2.2.1 y a z e.symm
  refine⟨m,hn.sameBut sb hne,fun h' hs'=>?_⟩;have I7:Inv X p_ (σ.set i (some (.ref s2.heap.objs.size))) H5 {s6 with heap:=h',toks:=s6.toks}:=I6.turned (it:=cenv.locals) (fun b o hb e=>(hs'.2 b hb).trans e) f5.1 f5.2.1 f5.2.2.2.1 f5.2.2.2.2.1 f5.2.2.2.2.2;exact⟨_,H5,I7,q5⟩
end
section
variable {X:Cx} {p_:List (Addr×Obj)} {σ:St} {H:Hp} {s:Shared} {h':Heap}
theorem Inv.uV {t':Nat} {ch:List Addr} (I:Inv X p_ σ H s) (k:∀b o,b∉ch→s.heap.get? b=some o→h'.get? b=some o) (hf:∀b∈ch,vO X p_ H b):Inv X p_ σ H {s with heap:=h',toks:=t'}:=by
  refine I.step (g':=s.gens) (d':=s.drawn) (ch:=ch) (fun b hb=>⟨(hf b hb).2.2.2.1,(hf b hb).2.1,(hf b hb).2.2.2.2.1,(hf b hb).2.2.2.2.2⟩) (fun b o _ _ hc e _=>k b o hc e) (fun b o _ _ hc e _=>⟨o.slots,k b o hc e⟩) (fun _ _ _ _ n=>n)
    (fun b o hc e=>⟨o,k b o hc e⟩) (fun _ _ e=>e) (fun _ _ _ e=>e) (fun b ps e=>⟨#[],by rw[e];simp⟩) (fun m hm=>?_) (fun b u e=>?_) I.bare
  ·obtain⟨o,es,ep,ho,r⟩:=hm;exact⟨o,es,ep,k _ o (fun z=>(hf _ z).2.1 rfl) ho,r⟩
  · refine(I.hok b u e).stay (fun c v hc q=>k c v (fun z=>?_) q) (fun _ q=>q) fun _ _ q=>q;have hn:=(hf c z).1
    rcases hc with y | y
    ·rw[y,e] at hn;cases hn
    ·rw[y] at hn;cases hn
end
def Its (x:Str):It:=⟨fun i _=>i<x.cps.size,fun i H v H'=>H'=H∧∃c,x.cps[i]? = some c∧v = .str ⟨#[c]⟩,fun i _=>x.cps.size≤i⟩
theorem Wj {P:Program} {w:World} {K:W.Frag} {tg:Expr} (x:Str) (t:Tok) (it:Addr):Turn P w K tg (Its x) [it] it (fun i h=>h.IsStrIter it (strIterType x) x t i) where
  mem:=by simp
  obj:=fun i h st b hb=>by
    have e:b=it:=by simpa using hb
    subst e;obtain⟨o,e,c,d⟩:=st;exact⟨o,e,fun v z=>by rw[d] at z;cases z⟩
  keep:=fun i h h' st k=>by
    obtain⟨o,e,c,d⟩:=st;exact⟨o,k it (by simp) o e,c,d⟩
  item:=by
    intro X hP hw hK hc i p_ s σ H E I hf st hg;subst hP hw hK;obtain⟨f0,f1,f2,f3,f4,f5⟩:=hf it (by simp);have hx:x.cps[i]? = some (x.cps[i]'hg):=Array.getElem?_eq_getElem hg;have fin:∀h',h'.IsStrIter it (strIterType x) x t (i+1)→Heap.SameBut it s.heap h'→∃u,(some (Value.str ⟨#[x.cps[i]'hg]⟩ s.toks))=some u∧
        wpAny (model X.prog X.w) X.A (letOwnedTupleGo tg (.ref it) u) (fun _ s2=>∃y H',Inv X p_ σ H' s2∧RelV y u∧(Its x).ZF i H y H'∧s2.heap.IsStrIter it (strIterType x) x t (i+1)∧∀b∈[it],H' b=none) E {s with heap:=h',toks:=s.toks+1}:=fun h' st' sb=>by
      have I1:Inv X p_ σ H {s with heap:=h',toks:=s.toks+1}:=I.turned (fun b o hb e=>(sb.2 b hb).trans e) f0 f1 f3 f4 f5;refine⟨_,rfl,?_⟩;have res:∃y H',Inv X p_ σ H' {s with heap:=h',toks:=s.toks+1}∧RelV y (Value.str ⟨#[x.cps[i]'hg]⟩ s.toks)∧(Its x).ZF i H y H'∧h'.IsStrIter it (strIterType x) x t (i+1)∧∀b∈[it],H' b=none:=
        ⟨.str ⟨#[x.cps[i]'hg]⟩,H,I1,⟨_,rfl⟩,⟨rfl,_,hx,rfl⟩,st',fun b hb=>(hf b hb).1⟩
      unfold letOwnedTupleGo;cases tg <;> exact wpAny_pure res
    by_cases ha:x.cps.all (· < 128)=true
    · have ey:strIterType x = "str_ascii_iterator" :=by unfold strIterType;rw[if_pos ha]
      rw[ey] at st;exact wpAny_pyNext_ascii_item st hx fun h' st' sb=>fin h' (by rw[ey];exact st') sb
    · have ey:strIterType x = "str_iterator" :=by unfold strIterType;rw[if_neg ha]
      rw[ey] at st;exact wpAny_pyNext_wide_item st hx fun h' st' sb=>fin h' (by rw[ey];exact st') sb
  done:=by
    intro X hP hw hK hc i p_ s σ H E I hf st hg;subst hP hw hK;obtain⟨f0,f1,f2,f3,f4,f5⟩:=hf it (by simp);have hx:x.cps[i]? = none:=Array.getElem?_eq_none hg
    by_cases ha:x.cps.all (· < 128)=true
    · have ey:strIterType x = "str_ascii_iterator" :=by unfold strIterType;rw[if_pos ha]
      rw[ey] at st;exact wpAny_pyNext_ascii_end (I.ok.hd hc) st hx fun h' eb=>⟨rfl,I.turned (t':=s.toks) (fun b o hb e=>eb b o hb e) f0 f1 f3 f4 f5⟩
    · have ey:strIterType x = "str_iterator" :=by unfold strIterType;rw[if_neg ha]
      rw[ey] at st;exact wpAny_pyNext_wide_end (I.ok.hd hc) st hx fun h' eb=>⟨rfl,I.turned (t':=s.toks) (fun b o hb e=>eb b o hb e) f0 f1 f3 f4 f5⟩
  self:=fun A i s Q E st h=>by
    by_cases ha:x.cps.all (· < 128)=true
    · have ey:strIterType x = "str_ascii_iterator" :=by unfold strIterType;rw[if_pos ha]
      rw[ey] at st;exact wpAny_pyIter_striter_ascii st h
    · have ey:strIterType x = "str_iterator" :=by unfold strIterType;rw[if_neg ha]
      rw[ey] at st;exact wpAny_pyIter_striter_wide st h
section
variable {X:Cx} {tg:Expr}
def qcL (tl:TE):TI:=fun σ H R=>tl σ H fun x H1=>∃z,x = .str z∧R (Its z) H1
theorem qcM {l:Expr} {tl:TE} (hl:PE X l tl):PI X tg l (qcL tl):=by
  intro p_ s σ H R I h;refine cY (hl p_ s σ H _ I h) fun v s1 zz=>?_;obtain⟨x,H1,I1,r1,q1⟩:=zz;obtain⟨z,e,q⟩:=q1;subst e;obtain⟨t,rfl⟩:=r1;refine wpAny_pyIter_strU ?_;refine⟨s1.heap.objs.size,[s1.heap.objs.size],_,_,H1,rfl,I1.kept (t':=s1.toks) fun b o e=>Heap.get?_push_of_some _ e,Wj z t _,⟨_,Heap.get?_push_size _ rfl,rfl,rfl⟩,fun b hb=>?_,q⟩;have e:b=s1.heap.objs.size:=by simpa using hb
  subst e;exact I1.A_ (Nat.le_refl _) (I1.hok.fresh (Nat.le_refl _))
end
def Itz (K:W.Frag) (a b:Addr):It:=
  ⟨fun i H=>∃xs ys x y,bw K H a xs∧bw K H b ys∧xs[i]? = some x∧ys[i]? = some y,
   fun i H v H'=>∃t x y,v = .ref t∧H t=none∧H'=upd H t (.tup [x,y])∧(∀xs,bw K H a xs→xs[i]? = some x)∧∀ys,bw K H b ys→ys[i]? = some y,
   fun i H=>∃xs ys,bw K H a xs∧bw K H b ys∧(xs.length≤i∨ys.length≤i)⟩
structure qfx (z TI TO i1 i2 a b:Addr) (i:Nat) (h:Heap):Prop where
  hz:IsZip h z TI TO .none
  hI:IsPair h TI (.ref i1) (.ref i2)
  hO:∃p q,IsPair h TO p q
  h1:h.IsListIter i1 a i
  h2:h.IsListIter i2 b i
theorem eO {h:Heap} {a b:Addr} {o u:Obj} {T U:String} (ha:h.get? a=some o) (hb:h.get? b=some u) (ca:o.cls = .type T) (cb:u.cls = .type U) (hne:T≠U):a≠b:=fun e=>by
  subst e;rw[ha] at hb;cases hb;rw[ca] at cb;injection cb with e2;exact hne e2
theorem Wk {P:Program} {w:World} {K:W.Frag} {es:List Expr} {k:Nat} {pos:Pos} {z TI TO i1 i2 a b:Addr} (n12:i1≠i2) (nT:TI≠TO) :
    Turn P w K (.Tuple es k pos) (Itz K a b) [z,TI,TO,i1,i2] z (qfx z TI TO i1 i2 a b) where
  mem:=by simp
  obj:=fun i h st c hc=>by
    simp only[List.mem_cons,List.not_mem_nil,or_false] at hc
    rcases hc with rfl | rfl | rfl | rfl | rfl
    ·exact⟨_,st.hz,fun v e=>nomatch e⟩
    ·exact⟨_,st.hI,fun v e=>nomatch e⟩
    ·obtain⟨p,q,e⟩:=st.hO;exact⟨_,e,fun v e=>nomatch e⟩
    ·obtain⟨o,e,_,d⟩:=st.h1;exact⟨o,e,fun v y=>by rw[d] at y;cases y⟩
    ·obtain⟨o,e,_,d⟩:=st.h2;exact⟨o,e,fun v y=>by rw[d] at y;cases y⟩
  keep:=fun i h h' st kk=>by
    obtain⟨p,q,e⟩:=st.hO;exact⟨kk z (by simp) _ st.hz,kk TI (by simp) _ st.hI,⟨p,q,kk TO (by simp) _ e⟩,st.h1.at fun o e=>kk i1 (by simp) o e,st.h2.at fun o e=>kk i2 (by simp) o e⟩
  item:=by
    intro X hP hw hK hc i p_ s σ H E I hf st hg;subst hP hw hK;obtain⟨xs,ys,x,y,qa,qb,hx,hy⟩:=hg;obtain⟨its,rv,pl,hz1⟩:=I.list qa;obtain⟨its',rv',pl',hz2⟩:=I.list qb;obtain⟨u,hu,ru⟩:=rv.get hx;obtain⟨u',hu',ru'⟩:=rv'.get hy;obtain⟨p,q,hTO⟩:=st.hO;obtain⟨oa,ea,ca,_⟩:=id pl.isList;obtain⟨ob,eb,cb,_⟩:=id pl'.isList;obtain⟨o1,e1,c1,_⟩:=id st.h1;obtain⟨o2,e2,c2,_⟩:=id st.h2;have D:ZipApart z TI TO i1 i2 a b:=
      ⟨eO st.hI st.hz rfl rfl (by decide),eO hTO st.hz rfl rfl (by decide),eO e1 st.hz c1 rfl (by decide),eO e2 st.hz c2 rfl (by decide),nT,eO st.hI e1 rfl c1 (by decide),eO st.hI e2 rfl c2 (by decide),
        eO hTO e1 rfl c1 (by decide),eO hTO e2 rfl c2 (by decide),n12,eO ea st.hz ca rfl (by decide),eO ea hTO ca rfl (by decide),eO ea e1 ca c1 (by decide),eO ea e2 ca c2 (by decide),
        eO eb st.hz cb rfl (by decide),eO eb hTO cb rfl (by decide),eO eb e1 cb c1 (by decide),eO eb e2 cb c2 (by decide)⟩
    refine wpAny_pyNext_zip_item D st.hz st.hI hTO st.h1 st.h2 pl.isList pl'.isList (x:=u) (y:=u') (by simpa using hu) (by simpa using hu') fun h' a1 a2 a3 a4 a5 a6 kk=>?_;refine⟨_,rfl,wpAny_letOwnedTupleGo_zip a1 fun h2 b1 sb=>?_⟩;have lt:∀{c o},s.heap.get? c=some o→s.heap.objs.size≠c:=fun e=>Nat.ne_of_gt (Heap.lt_size e);have hn:H s.heap.objs.size=none:=I.hok.fresh (Nat.le_refl _);have kk2:∀c o,c∉[z,TI,TO,i1,i2]→s.heap.get? c=some o→h2.get? c=some o:=fun c o hc e=>by
      simp only[List.mem_cons,List.not_mem_nil,or_false,not_or] at hc;exact(sb.2 c hc.1).trans (kk c o hc.1 hc.2.2.1 hc.2.2.2.1 hc.2.2.2.2 e)
    have I1:Inv X p_ σ H {s with heap:=h2,toks:=s.toks}:=I.uV kk2 hf;have CV:IsPair h2 s.heap.objs.size u u':=sb.extBut _ _ (lt st.hz) a5;have I2:Inv X p_ σ (upd H s.heap.objs.size (.tup [x,y])) {s with heap:=h2,toks:=s.toks}:=by
      have hfr:H s.heap.objs.size=none:=hn;refine⟨I1.ok,I1.os,I1.bare,⟨I1.base.keep,I1.base.slot,fun c o e n hx=>?_,I1.base.there,fun c zs e=>?_,fun c o v e=>?_,fun c qs e=>?_⟩,I1.loc,I1.cell,?_,fun v c e=>?_,fun v hv=>?_,?_,I1.len⟩
      · rw[aC (fun e'=>?_)]
        ·exact I1.base.free c o e n hx
        ·exact absurd (Nat.lt_of_lt_of_le (Heap.lt_size e) I.sz) (by rw[e'];exact Nat.lt_irrefl _)
      ·have e':=I1.base.tups c zs e;rw[aC (aP e' hfr)];exact e'
      ·have e':=I1.base.oR c o v e;rw[aC (aP e' hfr)];exact e'
      ·obtain⟨m,e'⟩:=I1.base.qm c qs e;exact⟨m,by rw[aC (aP e' hfr)];exact e'⟩
      ·rw[aC (Nat.ne_of_lt I.lt)];exact I1.free
      ·obtain⟨w',qc⟩:=I.cell v c e;rw[aC (Nat.ne_of_lt qc.lt)];exact I1.iT v c e
      ·obtain⟨f1,f2,f3⟩:=I1.pin v hv;refine⟨f1,?_,f3⟩;rw[aC (Nat.ne_of_lt (Heap.lt_size (I.pin v hv).1))];exact f2
      · intro c v e
        by_cases hcs:c=s.heap.objs.size
        ·subst hcs;rw[ak] at e;cases e;exact⟨by show 2≤sizeLine;rw[sizeLine_eq];decide,[u,u'],.cons ru (.cons ru' .nil),⟨_,CV,rfl,0,rfl⟩⟩
        · rw[aC hcs] at e;refine(I1.hok c v e).stay (fun _ _ _ qq=>qq) (fun d qd=>?_) fun d zs qd=>?_
          ·rw[aC (aP qd hfr)];exact qd
          ·rw[aC (aP qd hfr)];exact qd
    refine⟨.ref s.heap.objs.size,_,I2,rfl,⟨s.heap.objs.size,x,y,rfl,hn,rfl,fun xs' q'=>by rw[I.xr q' qa];exact hx,fun ys' q'=>by rw[I.xr q' qb];exact hy⟩,?_,fun c hcm=>?_⟩
    ·exact⟨b1,sb.extBut _ _ D.TIz (kk _ _ D.TIz D.TITO D.TIi1 D.TIi2 st.hI),⟨_,_,sb.extBut _ _ D.TOz a2⟩,a3.extBut sb.extBut D.i1z,a4.extBut sb.extBut D.i2z⟩
    · have hne:c≠s.heap.objs.size:=by
        simp only[List.mem_cons,List.not_mem_nil,or_false] at hcm
        rcases hcm with rfl | rfl | rfl | rfl | rfl
        ·exact(lt st.hz).symm
        ·exact(lt st.hI).symm
        ·exact(lt hTO).symm
        ·exact(lt e1).symm
        ·exact(lt e2).symm
      rw[aC hne];exact(hf c hcm).1
  done:=by
    intro X hP hw hK hc i p_ s σ H E I hf st hg;subst hP hw hK;obtain⟨xs,ys,qa,qb,hl⟩:=hg;obtain⟨its,rv,pl,hz1⟩:=I.list qa;obtain⟨its',rv',pl',hz2⟩:=I.list qb;obtain⟨p,q,hTO⟩:=st.hO;obtain⟨oa,ea,ca,_⟩:=id pl.isList;obtain⟨ob,eb,cb,_⟩:=id pl'.isList;obtain⟨o1,e1,c1,_⟩:=id st.h1;obtain⟨o2,e2,c2,_⟩:=id st.h2;have D:ZipApart z TI TO i1 i2 a b:=
      ⟨eO st.hI st.hz rfl rfl (by decide),eO hTO st.hz rfl rfl (by decide),eO e1 st.hz c1 rfl (by decide),eO e2 st.hz c2 rfl (by decide),nT,eO st.hI e1 rfl c1 (by decide),eO st.hI e2 rfl c2 (by decide),
        eO hTO e1 rfl c1 (by decide),eO hTO e2 rfl c2 (by decide),n12,eO ea st.hz ca rfl (by decide),eO ea hTO ca rfl (by decide),eO ea e1 ca c1 (by decide),eO ea e2 ca c2 (by decide),
        eO eb st.hz cb rfl (by decide),eO eb hTO cb rfl (by decide),eO eb e1 cb c1 (by decide),eO eb e2 cb c2 (by decide)⟩
    have l1:=rv.length;have l2:=rv'.length;refine wpAny_pyNext_zip_end (I.ok.hd hc) D st.hz st.hI hTO st.h1 st.h2 pl.isList pl'.isList ?_ fun h' kk=>⟨rfl,I.uV (t':=s.toks) (fun c o hcm e=>?_) hf⟩
    · rcases hl with hl | hl
      ·exact .inl (by simp;omega)
      ·exact .inr (by simp;omega)
    ·simp only[List.mem_cons,List.not_mem_nil,or_false,not_or] at hcm;exact kk c o hcm.1 hcm.2.2.1 hcm.2.2.2.1 hcm.2.2.2.2 e
  self:=fun _ _ _ _ _ st h=>wpAny_pyIter_zip st.hz h
section
variable {X:Cx}
def Z4 (K:W.Frag) (t:TA):TI:=fun σ H R=>t σ H fun vs H1=>∃a b xs ys,vs=[.ref a,.ref b]∧bw K H1 a xs∧bw K H1 b ys∧R (Itz K a b) H1
theorem boot_zip:bootBuiltins "zip" = some (.type "zip"):=by decide+kernel
theorem qcN {es:List Expr} {k:Nat} {pos':Pos} {a b:Expr} {ta:TA} {p pos:Pos} (hg:Gl X "zip") (hm:X.mg "zip" = none) (ha:PA X [a,b] ta)
    (hs:starEach [a,b] X.env=[(false,eval a X.env),(false,eval b X.env)]:=by rfl) (hs2:starEach [b] X.env=[(false,eval b X.env)]:=by rfl) :
    PI X (.Tuple es k pos') (.Call (.Name "zip" p) [a,b] [] pos) (Z4 X.K ta):=by
  intro p_ s σ H R I h;refine Call_ (qQ I hg hm boot_zip (PyProof.Rows.callWith_type1 (cY (ha pos p_ s σ H _ I h) fun us s1 zz=>?_) (by rw[hs,hs2]) (by rw[hs2];rfl)));obtain⟨vs,H1,I1,r1,q1⟩:=zz;obtain⟨l1,l2,xs,ys,e,qa,qb,q⟩:=q1;subst e;obtain⟨u,v,rfl,r,r'⟩:=r1.two;obtain rfl:u=Value.ref l1:=r;obtain rfl:v=Value.ref l2:=r';obtain⟨its,rv,pl,hz1⟩:=I1.list qa;obtain⟨its',rv',pl',hz2⟩:=I1.list qb;refine call_zip_2 pl.isList pl'.isList fun h' b1 b2 b3 b4 b5 b6 kk=>?_;refine wpAny_pyIter_zip (s:={s1 with heap:=h'}) b1 ?_;have I2:Inv X p_ σ H1 {s1 with heap:=h'}:=I1.kept (t':=s1.toks) kk;refine⟨s1.heap.objs.size+4,[s1.heap.objs.size+4,s1.heap.objs.size+2,s1.heap.objs.size+3,s1.heap.objs.size,s1.heap.objs.size+1],_,_,H1,rfl,I2,Wk (Nat.ne_of_lt (Nat.lt_succ_self _)) (Nat.ne_of_lt (Nat.lt_succ_self (s1.heap.objs.size+2))),⟨b1,b2,⟨_,_,b3⟩,b4,b5⟩,fun c hc=>?_,q⟩;have hle:s1.heap.objs.size≤c:=by
    simp only[List.mem_cons,List.not_mem_nil,or_false] at hc
    rcases hc with rfl | rfl | rfl | rfl | rfl <;> first | exact Nat.le_add_right _ _ | exact Nat.le_refl _
  exact I1.A_ hle (I1.hok.fresh hle)
end
section
variable {X:Cx} {p_:List (Addr×Obj)} {σ:St} {H:Hp} {s:Shared}
theorem m_.kit {x:V} {u t:Value} (I:Inv X p_ σ H s) (rx:RelV x u) (ty:m_ X.K H x t):∃Φ,W.KitX X.K u t Φ∧Φ s.heap∧u≠.builtin "__main__.__loader__#opaque" :=by
  cases ty with
  | non=>cases (show u=Value.none from rx);exact⟨_,W.kitx_none,True.intro,fun z=>nomatch z⟩
  | bl y=>cases (show u=Value.bool y from rx);exact⟨_,W.kitx_bool,True.intro,fun z=>nomatch z⟩
  | int i=>obtain⟨t,q⟩:=(show ∃t,u=Value.int i t from rx);cases q;exact⟨_,W.kitx_int,True.intro,fun z=>nomatch z⟩
  | str y=>obtain⟨t,q⟩:=(show ∃t,u=Value.str y t from rx);cases q;exact⟨_,W.kitx_str,True.intro,fun z=>nomatch z⟩
  | flt y=>obtain⟨t,q⟩:=(show ∃t,u=Value.float y t from rx);cases q;exact⟨_,W.kitx_float,True.intro,fun z=>nomatch z⟩
  | @lst a xs ea=>
    cases (show u=Value.ref a from rx);obtain⟨_,_,n,_,h1⟩:=(show b_ X.prog X.w H s.heap a (.lst xs) from I.hok a _ ea);exact⟨_,W.kitx_list,⟨_,h1,rfl⟩,fun z=>nomatch z⟩
  | @gw a ob xs ea=>
    cases (show u=Value.ref a from rx);obtain⟨_,_,_,n,_,h1⟩:=(show b_ X.prog X.w H s.heap a (.gw ob (.lst xs)) from I.hok a _ ea);exact⟨_,W.kitx_list,⟨_,h1,rfl⟩,fun z=>nomatch z⟩
  | @tup a xs ea=>
    cases (show u=Value.ref a from rx);obtain⟨_,_,_,p⟩:=(show b_ X.prog X.w H s.heap a (.tup xs) from I.hok a _ ea);obtain⟨o,h1,h2,_⟩:=p;exact⟨_,W.kitx_tuple,⟨o,h1,h2⟩,fun z=>nomatch z⟩
  | @dK a kvs ea=>
    cases (show u=Value.ref a from rx);obtain⟨_,_,vs,_,p⟩:=(show b_ X.prog X.w H s.heap a (.dK kvs) from I.hok a _ ea);obtain⟨o,es,ep,h1,h2,_⟩:=p;exact⟨_,W.kitx_dict,⟨o,h1,h2.1⟩,fun z=>nomatch z⟩
  | @dT a kvs ea=>
    cases (show u=Value.ref a from rx);obtain⟨_,_,xs,_,o,es,ep,h1,h2,_⟩:=(show b_ X.prog X.w H s.heap a (.dT kvs) from I.hok a _ ea);exact⟨_,W.kitx_dict,⟨o,h1,h2.1⟩,fun z=>nomatch z⟩
  | @ins a C dx fs ea cl ha hn htk hm=>
    cases (show u=Value.ref a from rx);obtain⟨mA,O,_⟩:=xH I.hok ea;obtain⟨od,J,_⟩:=O.look;exact⟨_,W.kitx_own (cl.get _) cl.hd ha hn htk hm,J,fun z=>nomatch z⟩
theorem Sy:cF X (.builtin "isinstance") (fun xs H Q=>∃x n t b,xs=[x,.ty n]∧m_ X.K H x t∧W.kitOne X.K t (.type n)=some b∧Q (.bl b) H):=by
  intro p_ s σ H xs us Q I r h;obtain⟨x,n,t,b,rfl,ty,e,q⟩:=h;obtain⟨u,v,rfl,rx,rc⟩:=r.two;obtain rfl:v=Value.type n:=rc;exact R8 I rx ty e fun tk=>⟨.bl b,H,I.tok tk,rfl,q⟩
theorem SJ:cF X (.builtin "isinstance") (fun xs H Q=>∃x p m n t b,xs=[x,.ref p]∧H p=some (.tup [.ty m,.ty n])∧m_ X.K H x t∧W.kitAny X.K t [.type m,.type n]=some b∧Q (.bl b) H):=by
  intro p_ s σ H xs us Q I r h;obtain⟨x,p,m,n,t,b,rfl,hp,ty,e,q⟩:=h;obtain⟨u,v,rfl,rx,rc⟩:=r.two;obtain rfl:v=Value.ref p:=rc;obtain⟨Φ,Z,hΦ,hne⟩:=ty.kit I rx;obtain⟨_,its,rv,o,e1,e2,k,e3⟩:=(show b_ X.prog X.w H s.heap p (.tup [.ty m,.ty n]) from I.hok p _ hp);obtain⟨u1,u2,rfl,r1,r2⟩:=rv.two;obtain rfl:u1=Value.type m:=r1;obtain rfl:u2=Value.type n:=r2;obtain⟨c,dd,dt,sl⟩:=o;replace e2:c = .type "tuple" :=e2;replace e3:dt = .seq [Value.type m,Value.type n].toArray k:=e3;subst e2 e3;exact W.kia_tup Z I.oO hΦ e1 e hne fun tk=>⟨.bl b,H,I.tok tk,rfl,q⟩
theorem boot_isinstance:bootBuiltins "isinstance" = some (.builtin "isinstance"):=by decide+kernel
theorem boot_str:bootBuiltins "str" = some (.type "str"):=by decide+kernel
theorem boot_list:bootBuiltins "list" = some (.type "list"):=by decide+kernel
theorem boot_tuple:bootBuiltins "tuple" = some (.type "tuple"):=by decide+kernel
theorem Gw:bootBuiltins "int" = some (.type "int"):=by decide+kernel
theorem qU:bootBuiltins "bool" = some (.type "bool"):=by decide+kernel
theorem lG:bootBuiltins "dict" = some (.type "dict"):=by decide+kernel
theorem SM:bootBuiltins "set" = some (.type "set"):=by decide+kernel
end
mutual
def Is (K:W.Frag) (H:Hp):PyData→V→Prop
  | .none,v=>v = .non
  | .bool b,v=>v = .bl b
  | .int i,v=>v = .int i
  | .str x,v=>v = .str x
  | .list ds,v=>∃a xs,v = .ref a∧bw K H a xs∧tu K H ds xs
  | .tuple ds,v=>∃a xs,v = .ref a∧dW K H a xs∧tu K H ds xs
  | .dict _,_=>False
def tu (K:W.Frag) (H:Hp):List PyData→List V→Prop
  | [],vs=>vs=[]
  | d::ds,vs=>∃v r,vs=v::r∧Is K H d v∧tu K H ds r
end
section
variable {X:Cx} {p_:List (Addr×Obj)} {σ:St} {H:Hp} {s:Shared}
mutual
theorem Is.reads (I:Inv X p_ σ H s):∀(d:PyData) (v:V) (u:Value),Is X.K H d v→RelV v u→∃as,Reads s.heap u d as
  | .none,v,u,h,r=>by
    simp only[Is] at h;subst h;cases r;exact⟨_,.none⟩
  | .bool b,v,u,h,r=>by
    simp only[Is] at h;subst h;cases r;exact⟨_,.bool b⟩
  | .int i,v,u,h,r=>by
    simp only[Is] at h;subst h;obtain⟨t,rfl⟩:=r;exact⟨_,.int i t⟩
  | .str x,v,u,h,r=>by
    simp only[Is] at h;subst h;obtain⟨t,rfl⟩:=r;exact⟨_,.str x t⟩
  | .list ds,v,u,h,r=>by
    simp only[Is] at h;obtain⟨a,xs,rfl,hq,hs⟩:=h;cases r;obtain⟨its,rv,pl,hz⟩:=I.list hq;obtain⟨o,e,c,n,dt⟩:=pl.isList;obtain⟨as,ra⟩:=tu.reads I ds xs its hs rv;exact⟨_,.list e c dt (by simpa using ra)⟩
  | .tuple ds,v,u,h,r=>by
    simp only[Is] at h;obtain⟨a,xs,rfl,hq,hs⟩:=h;cases r;obtain⟨its,rv,pl,hz⟩:=I.tuple hq;obtain⟨o,e,c,n,dt⟩:=pl;obtain⟨as,ra⟩:=tu.reads I ds xs its hs rv;exact⟨_,.tuple e c dt (by simpa using ra)⟩
  | .dict _,v,u,h,r=>by
    simp only[Is] at h
theorem tu.reads (I:Inv X p_ σ H s):∀(ds:List PyData) (vs:List V) (us:List Value),tu X.K H ds vs→Vals vs us→∃as,ReadsAll s.heap us ds as
  | [],vs,us,h,r=>by
    simp only[tu] at h;subst h;cases r;exact⟨_,.nil⟩
  | d::ds,vs,us,h,r=>by
    simp only[tu] at h;obtain⟨v,vr,rfl,h1,h2⟩:=h;cases r with
    | cons r1 r2=>
      obtain⟨as,ra⟩:=Is.reads I d v _ h1 r1;obtain⟨bs,rb⟩:=tu.reads I ds vr _ h2 r2;exact⟨_,.cons ra rb⟩
end
theorem qcO:jj X (compareOp .Eq) (fun x y H Q=>∃d e,Is X.K H d x∧Is X.K H e y∧d.canLay0=true∧e.canLay0=true∧X.A.units+min d.depth e.depth<cLine∧Q (.bl (PyData.eqv d e)) H):=by
  intro p_ s σ H x y v u Q I rx ry h;obtain⟨d,e,hx,hy,h1,h2,hu,q⟩:=h;obtain⟨as,ra⟩:=hx.reads I d x v rx;obtain⟨bs,rb⟩:=hy.reads I e y u ry;exact SeqAt.compareEq_reads ra rb h1 h2 hu ⟨.bl _,H,I,rfl,q⟩
theorem qcP:jj X (compareOp .NotEq) (fun x y H Q=>∃d e,Is X.K H d x∧Is X.K H e y∧d.canLay0=true∧e.canLay0=true∧X.A.units+min d.depth e.depth<cLine∧Q (.bl (!PyData.eqv d e)) H):=by
  intro p_ s σ H x y v u Q I rx ry h;obtain⟨d,e,hx,hy,h1,h2,hu,q⟩:=h;obtain⟨as,ra⟩:=hx.reads I d x v rx;obtain⟨bs,rb⟩:=hy.reads I e y u ry;exact SeqAt.compareNe_reads ra rb h1 h2 hu ⟨.bl _,H,I,rfl,q⟩
end
section
variable {X:Cx}
def Ib:V→List V→Hp→VK→Prop:=fun x vs H Q=>∃l xs i y,x = .ref l∧vs=[.int i,y]∧H l=some (.lst xs)∧0≤i∧i≤xs.length∧xs.length<sizeLine∧Q .non (upd H l (.lst (xs.take i.toNat++y::xs.drop i.toNat)))
theorem Vals.ins {y:V} {u:Value} (ru:RelV y u):∀{xs:List V} {us:List Value} (i:Nat),Vals xs us→Vals (xs.take i++y::xs.drop i) (us.take i++u::us.drop i):=fun i r=>(r.take i).append (.cons ru (r.drop i))
theorem SN:MtM X "list.insert" Ib:=by
  intro p_ s σ H x vs v us Q I rx rv h;obtain⟨l,xs,i,y,rfl,rfl,hH,h0,hi,hz,q⟩:=h;cases rx;obtain⟨u1,u,rfl,⟨t,rfl⟩,ru⟩:=rv.two;obtain⟨z,its,n,r,hl,e⟩:=I.Ko hH;have hn:=wz;have hfit:¬(!Builtin.List.listFitsIndex i)=true:=by
    unfold Builtin.List.listFitsIndex;simp;omega
  refine call_meets F.slot_list_insert ⟨_,e,rfl⟩ F.entry_list_insert (F.args_list_insert_3 _ _ _) (PySem.AutoListH.list_insert_list_int_val_1 l its.toArray n i t u hfit (by rw[List.size_toArray];omega)) ⟨e,?_⟩;refine⟨.non,_,I.qcI (its':=its.take i.toNat++u::its.drop i.toNat) hH e ?_ (r.ins ru i.toNat) ?_,rfl,q⟩
  · have hm:min i.toNat its.length=i.toNat:=by omega
    simp only[List.size_toArray];rw[if_neg (by omega),hm];apply Array.toList_inj.mp;simp;exact List.take_of_length_le (by simp)
  ·simp;omega
end
section
variable {X:Cx}
def oW:List V→List Bool→Prop
  | [],bs=>bs=[]
  | x::xs,bs=>∃b r,bs=b::r∧x = .bl b∧oW xs r
theorem oW.get:∀{xs:List V} {bs:List Bool} {its:List Value},oW xs bs→Vals xs its→xs.length=bs.length∧∀(i:Nat) (v:Value),its[i]? = some v→v = .bool (bs.getD i false)
  | [],bs,its,h,r=>by
    cases h;cases r;exact⟨rfl,fun i v e=>by simp at e⟩
  | x::xs,bs,its,h,r=>by
    obtain⟨b,br,rfl,rfl,h⟩:=h;cases r with
    | cons r1 r2=>
      obtain⟨h1,h2⟩:=oW.get h r2;refine⟨by simp[h1],fun i v e=>?_⟩;cases i with
      | zero=>
        simp at e;subst e;exact r1
      | succ i=>
        simp at e;simpa using h2 i v e
theorem range_all (bs:List Bool):(List.range bs.length).all (fun i=>bs.getD i false)=bs.all id:=by
  rw[Bool.eq_iff_iff,List.all_eq_true,List.all_eq_true];constructor
  ·intro h b hb;obtain⟨i,hi,rfl⟩:=List.mem_iff_getElem.mp hb;have:=h i (List.mem_range.mpr hi);simpa [List.getD,hi] using this
  ·intro h i hi;have hi':=List.mem_range.mp hi;have:=h bs[i] (List.getElem_mem hi');simpa [List.getD,hi'] using this
theorem SQ (hc:X.calm=true):cF X (.builtin "all") (fun xs H Q=>∃a ys bs,xs=[.ref a]∧H a=some (.lst ys)∧oW ys bs∧Q (.bl (bs.all id)) H):=by
  intro p_ s σ H xs us Q I r h;obtain⟨a,ys,bs,rfl,ha,hb,q⟩:=h;obtain⟨u,rfl,ru⟩:=r.one;obtain rfl:u=Value.ref a:=ru;obtain⟨z,its,n,rv,hl,e⟩:=I.Ko ha;obtain⟨h1,h2⟩:=hb.get rv;have hL:s.heap.IsList a its.toArray:=⟨_,e,rfl,n,rfl⟩;refine call_all_walk ?_;refine wpAny_pyIter_list hL ?_;have hne:a≠s.heap.objs.size:=Nat.ne_of_lt (Heap.lt_size e);have hL2:(s.heap.push {cls:=.type "list_iterator",data:=.fields #[.ref a,.int 0 0]}).IsList a its.toArray:=⟨_,Heap.get?_push_of_some _ e,rfl,n,rfl⟩;refine⟨s.heap.objs.size,_,_,_,_,_,fun i=>bs.getD i false,rfl,Walks.list (by exact I.ok.hd hc) s.heap.objs.size a hne its.toArray,⟨⟨_,Heap.get?_push_size _ rfl,rfl,rfl⟩,hL2⟩,fun i v s' Q' E' hP hQ=>?_,fun h' tk kk=>?_⟩
  ·obtain rfl:=h2 i v (by simpa using hP);exact wpAny_truthy_bool hQ
  · have e2:(List.range its.toArray.size).all (fun i=>bs.getD i false)=bs.all id:=by
      rw[List.size_toArray,← hl,h1];exact range_all bs
    rw[e2];refine⟨.bl _,H,?_,rfl,q⟩;exact I.kept (h':=h') (t':=tk) fun b o eb=>kk b o (by simp;exact Nat.ne_of_lt (Heap.lt_size eb)) (Heap.get?_push_of_some _ eb)
end
def Ie (l:List Key) (k:Key):Bool:=l.any fun x=>decide (x=k)
theorem Wm {l:List Key} {k:Key}:Ie l k=true↔k∈l:=by
  unfold Ie;rw[List.any_eq_true];constructor
  ·rintro⟨x,hx,e⟩;have e':=of_decide_eq_true e;subst e';exact hx
  ·intro h;exact⟨k,h,decide_eq_true rfl⟩
theorem Wn (l:List Key) (x k:Key):Ie (l++[x]) k=(Ie l k || decide (k=x)):=by
  unfold Ie;rw[List.any_append];simp only[List.any_cons,List.any_nil,Bool.or_false];congr 1;exact decide_eq_decide.mpr ⟨fun e=>e.symm,fun e=>e.symm⟩
def zx (acc:List Key) (k:Key):List Key:=if Ie acc k=true then acc else acc++[k]
def Fy (val:Nat→Key) (i:Nat):List Key:=((List.range i).map val).foldl zx []
theorem xO (val:Nat→Key) (i:Nat):Fy val (i+1)=zx (Fy val i) (val i):=by
  unfold Fy;rw[List.range_succ,List.map_append,List.foldl_append];rfl
theorem Wo (val:Nat→Key):∀i,(Fy val i).length≤i
  | 0=>Nat.le_refl _
  | i+1=>by
    rw[xO];have ih:=Wo val i;unfold zx;split
    ·omega
    ·rw[List.length_append,List.length_singleton];omega
theorem Wq (val:Nat→Key):∀n,(∀i j,i<n→j<n→val i=val j→i=j)→(Fy val n).length=n∧∀k,k∈Fy val n→∃i,i<n∧val i=k
  | 0,_=>⟨rfl,fun k h=>by simp[Fy] at h⟩
  | n+1,h=>by
    obtain⟨h1,h2⟩:=Wq val n fun i j hi hj=>h i j (by omega) (by omega);have hnot:¬Ie (Fy val n) (val n)=true:=fun hm=>by
      obtain⟨i,hi,e⟩:=h2 _ (Wm.mp hm);have:=h i n (by omega) (by omega) e;omega
    rw[xO];unfold zx;rw[if_neg hnot];refine⟨by simp[h1],fun k hk=>?_⟩
    rcases List.mem_append.mp hk with z | z
    ·obtain⟨i,hi,e⟩:=h2 k z;exact⟨i,by omega,e⟩
    ·exact⟨n,by omega,(List.mem_singleton.mp z).symm⟩
theorem Z5 {k:Key} {v:Value} (h:sX k v=true):v.scannable=true:=by
  rcases cX h with⟨i,t,rfl,rfl⟩ | ⟨x,t,rfl,rfl⟩ <;> rfl
theorem Ku {P:Program} {w:World} {h:Heap} {a:Addr} {S S':Key→Bool} {n n':Nat} (x:h.SetOf (bF P w) a S n) (e:∀k,S k=S' k) (en:n=n'):h.SetOf (bF P w) a S' n':=by
  have:S=S':=funext e;subst this;subst en;exact x
abbrev oX (P:Program) (w:World) (h:Heap) (a:Addr) (l:List Key):Prop:=h.SetOf (bF P w) a (Ie l) l.length
theorem oX.at {P:Program} {w:World} {h h':Heap} {a:Addr} {l:List Key} (x:oX P w h a l) (k:∀o,h.get? a=some o→h'.get? a=some o):oX P w h' a l:=by
  obtain⟨o,es,ep,t,e,r⟩:=x;exact⟨o,es,ep,t,k o e,r⟩
theorem Gx {P:Program} {w:World} {h:Heap} {a:Addr} {led:Bool} (e:h.get? a=some {cls:=.type "set",dict:=none,data:=.set #[] 0 (.fresh 0 0 led)}):oX P w h a []:=
  ⟨_,#[],0,.fresh 0 0 led,e,⟨rfl,rfl,rfl⟩,rfl,(fun x hx=>by simp at hx),(fun k=>by simp[Ie]),(by unfold scanBound;decide),(by cases led <;> rfl),rfl⟩
section
variable {P:Program} {w:World} {A:Around} {R:Result→Shared→Prop} {I:Addr} {fp wr:List Addr} {n:Nat} {PP:Nat→Value→Prop} {St:Nat→Heap→Prop}
theorem Kv (ql:Walks P w A.in1 I fp wr n PP St) (S:Addr) (hSf:S∉fp) (val:Nat→Key) (hval:∀i v,PP i v→sX (val i) v=true) (hb:n+1<scanBound) :
    ∀(k i:Nat) (s:Shared),n - i=k→i≤n→St i s.heap→oX P w s.heap S (Fy val i)→
      (∀h' tk,(∀b o,b≠S→b∉wr→s.heap.get? b=some o→h'.get? b=some o)→oX P w h' S (Fy val n)→R (.ok (.ret .none)) {s with heap:=h',toks:=tk})→
      codeAny (model P w) A (.builtin "set.update.loop" ⟨[.ref S,.ref I],[]⟩) R s:=by
  have hSw:S∉wr:=fun h=>hSf (ql.sub _ h);intro k
  induction k with
  | zero=>
    intro i s hk hi hst hS hR;obtain rfl:i=n:=by omega
    refine codeAny_builtin PyProof.Rows.F.entry_set_update_loop ?_;rw[Around.under_plainId PyProof.Rows.F.plain_set_update_loop _];show wpAny _ A.in1 (pyNext (.ref I) >>= _) _ _ s;refine wpAny_bind (ql.done s _ _ hst fun h' tk hm=>?_);exact wpAny_pure (hR h' tk (fun b o _ hb e=>hm b o hb e) (hS.at fun o e=>hm S o hSw e))
  | succ k ih=>
    intro i s hk hi hst hS hR;have hlt:i<n:=by omega
    refine codeAny_builtin PyProof.Rows.F.entry_set_update_loop ?_;rw[Around.under_plainId PyProof.Rows.F.plain_set_update_loop _];show wpAny _ A.in1 (pyNext (.ref I) >>= _) _ _ s;refine wpAny_bind (ql.item i s _ _ hlt hst fun v h' tk hP hst' hm=>?_);have hkey:(bF P w).is (val i) v=true:=hval i v hP;have hS':oX P w h' S (Fy val i):=hS.at fun o e=>hm S o hSw e;show wpAny _ A.in1 (holding [v] (setAdd S v) >>= _) _ _ _;refine wpAny_bind (wpAny_holding ?_);unfold setAdd;refine wpAny_holding (wpAny_bind ((bF P w).pyHash (k:=val i) hkey ?_));have hroom:(Fy val i).length+1<scanBound:=by have:=Wo val i;omega
    refine wpAny_setAddHashed_of (knd:=bF P w) (s:={s with heap:=h',toks:=tk+1}) hkey (Z5 (hval i v hP)) hS' hroom fun h2 hsb hS2=>?_;have hSi:oX P w h2 S (Fy val (i+1)):=by
      refine Ku hS2 (fun k'=>?_) ?_
      · rw[xO];unfold zx;split
        · rename_i hm1
          by_cases e:k'=val i
          ·rw[e,hm1];rfl
          ·rw[decide_eq_false e,Bool.or_false]
        ·exact(Wn _ _ _).symm
      · rw[xO];unfold zx;split
        ·rfl
        ·rw[List.length_append,List.length_singleton]
    refine wpAny_pure ⟨plainId_quiet PyProof.Rows.F.plain_set_update_loop _,ih (i+1) _ (by omega) hlt (ql.frame _ h' _ hst' fun b hb o e=>?_) hSi fun h3 tk3 hm3 hS3=>?_⟩
    ·exact(hsb.2 b (fun z:b=S=>hSf (by rw[← z];exact hb))).trans e
    ·refine hR h3 tk3 (fun b o hbS hbw e=>hm3 b o hbS hbw ?_) hS3;exact(hsb.2 b hbS).trans (hm b o hbw e)
end
theorem Fz:isSubtype (.type "list") (.type "set")=pure false:=by rw[isSubtype_type];kernel_rfl
theorem zy:isSubtype (.type "list") (.type "frozenset")=pure false:=by rw[isSubtype_type];kernel_rfl
set_option maxHeartbeats 4000000 in
theorem Kw {P:Program} {w:World} {A:Around} {E:Value→Shared→Prop} {s:Shared} {l:Addr} {its:Array Value} {val:Nat→Key} {Q:Value→Shared→Prop}
    (hh:A.handled=none) (hl:s.heap.IsList l its) (hval:∀i v,its[i]? = some v→sX (val i) v=true) (hb:its.size+1<scanBound)
    (h:∀(g:Heap) (tk:Nat),oX P w g s.heap.objs.size (Fy val its.size)→(∀b o,s.heap.get? b=some o→g.get? b=some o)→Q (.ref s.heap.objs.size) {s with heap:=g,toks:=tk}) :
    wpAny (model P w) A (call (.type "set") [.ref l]) Q E s:=by
  obtain⟨c,tl,hmro⟩:=PySem.F.called_set.mro;have q1:=PySem.F.called_set.made;have q2:=PySem.F.called_set.sub;refine wpAny_call (codeAny_of_tree ?_);show wpAny _ _ (callAny (.type "set") _) _ _ s;refine wpAny_pure ⟨Code.quiet_builtin _ (by decide+kernel),codeAny_builtin PySem.F.entry_type_call ?_⟩;rw[Around.under_plain (weight_type_call_type "set" [.ref l] []) rfl];have q3:=PySem.F.called_set.notType;have q4:=PySem.F.called_set.canCreate;have q5:=PySem.F.typeCall_set_1 (.ref l)
  repeat (any_goals (first | assumption | wp_step))
  refine codeAny_mono (code_set_new_1 (.ref l) (E:=E) (Q₁:=fun ob s1=>∃led:Bool,ob = .ref s.heap.objs.size∧s1={s with heap:=s.heap.push {cls:=.type "set",dict:=none,data:=.set #[] 0 (.fresh 0 0 led)}}) fun led=>⟨led,rfl,rfl⟩) fun r s1 hr=>?_;cases r with
  | error e=>exact hr
  | ok fl=>
    cases fl with
    | ret ob=>
      obtain⟨led,rfl,rfl⟩:=hr;have new:(s.heap.push {cls:=.type "set",dict:=none,data:=.set #[] 0 (.fresh 0 0 led)}).get? s.heap.objs.size=some {cls:=.type "set",dict:=none,data:=.set #[] 0 (.fresh 0 0 led)}:=Heap.get?_push_size _ rfl;have ty:Shared.TypeIs {s with heap:=s.heap.push {cls:=.type "set",dict:=none,data:=.set #[] 0 (.fresh 0 0 led)}} (.ref s.heap.objs.size) "set" :=⟨_,new,rfl⟩;have q6:=PySem.F.called_set.init.lookup;have q7:=PySem.F.called_set.init.bind (.ref s.heap.objs.size)
      repeat (any_goals (first | assumption | wp_step))
      refine codeAny_mono (codeAny_call_builtin (R:=wants (fun r s2=>r = .none∧∃g tk,s2={s with heap:=g,toks:=tk}∧oX P w g s.heap.objs.size (Fy val its.size)∧(∀b o,s.heap.get? b=some o→g.get? b=some o)) E)
        PySem.F.called_set.init.plain PySem.F.entry_set_init (check_set_init_1 ty ?_)) fun r2 s2 hr2=>?_
      · obtain⟨ol,ho,hcl,nl,hdl⟩:=hl;obtain⟨oc,od,odt,osl⟩:=ol;simp only at hcl hdl;subst hcl;subst hdl;have ho2:(s.heap.push {cls:=.type "set",dict:=none,data:=.set #[] 0 (.fresh 0 0 led)}).get? l=some {cls:=.type "list",dict:=od,data:=.seq its nl,slots:=osl}:=Heap.get?_push_of_some _ ho;have q8:=Fz;have q9:=zy;have q10:(Value.type "list" == Value.type "dict")=false:=by decide
        have hl1:(s.heap.push {cls:=.type "set",dict:=none,data:=.set #[] 0 (.fresh 0 0 led)}).IsList l its:=⟨_,ho2,rfl,nl,rfl⟩;unfold Builtin.«set.__init__» noKeywords Builtin.Frozenset.updateFrom;generalize hPI:pyIter=PI
        wp_walk
        subst hPI;refine wpAny_pyIter_list hl1 ?_;refine wpAny_bind (wpAny_runValue ?_);have Z6:l<s.heap.objs.size:=Heap.lt_size ho;have hh3:A.in1.in1.in1.handled=none:=by simp[hh]
        have ne1:l≠(s.heap.push {cls:=.type "set",dict:=none,data:=.set #[] 0 (.fresh 0 0 led)}).objs.size:=by
          rw[Heap.size_push];exact Nat.ne_of_lt (Nat.lt_succ_of_lt Z6)
        have nf:s.heap.objs.size∉[(s.heap.push {cls:=.type "set",dict:=none,data:=.set #[] 0 (.fresh 0 0 led)}).objs.size,l]:=by
          rw[Heap.size_push];simp only[List.mem_cons,List.mem_singleton,List.not_mem_nil,or_false,not_or];exact⟨Nat.ne_of_lt (Nat.lt_succ_self _),Nat.ne_of_gt Z6⟩
        refine Kv (Walks.list hh3 _ l ne1 its) s.heap.objs.size nf val hval hb (its.size - 0) 0 _ (by omega) (Nat.zero_le _) ⟨⟨_,Heap.get?_push_size _ rfl,rfl,rfl⟩,hl1.push _⟩ ?hS0 ?hR
        case hS0=>
          have hget:((s.heap.push {cls:=.type "set",dict:=none,data:=.set #[] 0 (.fresh 0 0 led)}).push {cls:=.type "list_iterator",data:=.fields #[.ref l,.int 0 0]}).get? s.heap.objs.size
              = some {cls:=.type "set",dict:=none,data:=.set #[] 0 (.fresh 0 0 led)}:=Heap.get?_push_of_some _ new
          exact Gx hget
        case hR=>
          intro g tk hm hS;show wpAny _ _ _ _ _ _;refine wpAny_pure ?_;show wpAny _ _ (ret Value.none) _ _ _;refine wpAny_pure ⟨rfl,g,tk,rfl,hS,fun b o e=>?_⟩;have lb:b<s.heap.objs.size:=Heap.lt_size e;refine hm b o (Nat.ne_of_lt lb) ?_ (Heap.get?_push_of_some _ (Heap.get?_push_of_some _ e));simp only[List.mem_cons,List.not_mem_nil,or_false];rw[Heap.size_push];exact Nat.ne_of_lt (Nat.lt_succ_of_lt lb)
      · cases r2 with
        | error e=>exact hr2
        | ok fl2=>
          cases fl2 with
          | ret r=>
            obtain⟨rfl,g,tk,rfl,hS,hk⟩:=hr2
            repeat (any_goals (first | assumption | wp_step))
            exact h _ _ hS hk
          | _=>exact hr2.elim
    | _=>exact hr.elim
theorem CW:isSubtype (.type "tuple") (.type "set")=pure false:=by rw[isSubtype_type];kernel_rfl
theorem xP:isSubtype (.type "tuple") (.type "frozenset")=pure false:=by rw[isSubtype_type];kernel_rfl
set_option maxHeartbeats 4000000 in
theorem Ig {P:Program} {w:World} {A:Around} {E:Value→Shared→Prop} {s:Shared} {l:Addr} {its:Array Value} {val:Nat→Key} {Q:Value→Shared→Prop}
    (hh:A.handled=none) (hl:s.heap.IsTuple l its) (hval:∀i v,its[i]? = some v→sX (val i) v=true) (hb:its.size+1<scanBound)
    (h:∀(g:Heap) (tk:Nat),oX P w g s.heap.objs.size (Fy val its.size)→(∀b o,s.heap.get? b=some o→g.get? b=some o)→Q (.ref s.heap.objs.size) {s with heap:=g,toks:=tk}) :
    wpAny (model P w) A (call (.type "set") [.ref l]) Q E s:=by
  obtain⟨c,tl,hmro⟩:=PySem.F.called_set.mro;have q1:=PySem.F.called_set.made;have q2:=PySem.F.called_set.sub;refine wpAny_call (codeAny_of_tree ?_);show wpAny _ _ (callAny (.type "set") _) _ _ s;refine wpAny_pure ⟨Code.quiet_builtin _ (by decide+kernel),codeAny_builtin PySem.F.entry_type_call ?_⟩;rw[Around.under_plain (weight_type_call_type "set" [.ref l] []) rfl];have q3:=PySem.F.called_set.notType;have q4:=PySem.F.called_set.canCreate;have q5:=PySem.F.typeCall_set_1 (.ref l)
  repeat (any_goals (first | assumption | wp_step))
  refine codeAny_mono (code_set_new_1 (.ref l) (E:=E) (Q₁:=fun ob s1=>∃led:Bool,ob = .ref s.heap.objs.size∧s1={s with heap:=s.heap.push {cls:=.type "set",dict:=none,data:=.set #[] 0 (.fresh 0 0 led)}}) fun led=>⟨led,rfl,rfl⟩) fun r s1 hr=>?_;cases r with
  | error e=>exact hr
  | ok fl=>
    cases fl with
    | ret ob=>
      obtain⟨led,rfl,rfl⟩:=hr;have new:(s.heap.push {cls:=.type "set",dict:=none,data:=.set #[] 0 (.fresh 0 0 led)}).get? s.heap.objs.size=some {cls:=.type "set",dict:=none,data:=.set #[] 0 (.fresh 0 0 led)}:=Heap.get?_push_size _ rfl;have ty:Shared.TypeIs {s with heap:=s.heap.push {cls:=.type "set",dict:=none,data:=.set #[] 0 (.fresh 0 0 led)}} (.ref s.heap.objs.size) "set" :=⟨_,new,rfl⟩;have q6:=PySem.F.called_set.init.lookup;have q7:=PySem.F.called_set.init.bind (.ref s.heap.objs.size)
      repeat (any_goals (first | assumption | wp_step))
      refine codeAny_mono (codeAny_call_builtin (R:=wants (fun r s2=>r = .none∧∃g tk,s2={s with heap:=g,toks:=tk}∧oX P w g s.heap.objs.size (Fy val its.size)∧(∀b o,s.heap.get? b=some o→g.get? b=some o)) E)
        PySem.F.called_set.init.plain PySem.F.entry_set_init (check_set_init_1 ty ?_)) fun r2 s2 hr2=>?_
      · obtain⟨ol,ho,hcl,nl,hdl⟩:=hl;obtain⟨oc,od,odt,osl⟩:=ol;simp only at hcl hdl;subst hcl;subst hdl;have ho2:(s.heap.push {cls:=.type "set",dict:=none,data:=.set #[] 0 (.fresh 0 0 led)}).get? l=some {cls:=.type "tuple",dict:=od,data:=.seq its nl,slots:=osl}:=Heap.get?_push_of_some _ ho;have q8:=CW;have q9:=xP;have q10:(Value.type "tuple" == Value.type "dict")=false:=by decide
        have hl1:(s.heap.push {cls:=.type "set",dict:=none,data:=.set #[] 0 (.fresh 0 0 led)}).IsTuple l its:=⟨_,ho2,rfl,nl,rfl⟩;unfold Builtin.«set.__init__» noKeywords Builtin.Frozenset.updateFrom;generalize hPI:pyIter=PI
        wp_walk
        subst hPI;refine wpAny_pyIter_tuple hl1 ?_;refine wpAny_bind (wpAny_runValue ?_);have Z6:l<s.heap.objs.size:=Heap.lt_size ho;have hh3:A.in1.in1.in1.handled=none:=by simp[hh]
        have ne1:l≠(s.heap.push {cls:=.type "set",dict:=none,data:=.set #[] 0 (.fresh 0 0 led)}).objs.size:=by
          rw[Heap.size_push];exact Nat.ne_of_lt (Nat.lt_succ_of_lt Z6)
        have nf:s.heap.objs.size∉[(s.heap.push {cls:=.type "set",dict:=none,data:=.set #[] 0 (.fresh 0 0 led)}).objs.size,l]:=by
          rw[Heap.size_push];simp only[List.mem_cons,List.mem_singleton,List.not_mem_nil,or_false,not_or];exact⟨Nat.ne_of_lt (Nat.lt_succ_self _),Nat.ne_of_gt Z6⟩
        refine Kv (Walks.tuple hh3 _ l ne1 its) s.heap.objs.size nf val hval hb (its.size - 0) 0 _ (by omega) (Nat.zero_le _) ⟨⟨_,Heap.get?_push_size _ rfl,rfl,rfl⟩,⟨_,Heap.get?_push_of_some _ ho2,rfl,nl,rfl⟩⟩ ?hS0 ?hR
        case hS0=>
          have hget:((s.heap.push {cls:=.type "set",dict:=none,data:=.set #[] 0 (.fresh 0 0 led)}).push {cls:=.type "tuple_iterator",data:=.fields #[.ref l,.int 0 0]}).get? s.heap.objs.size
              = some {cls:=.type "set",dict:=none,data:=.set #[] 0 (.fresh 0 0 led)}:=Heap.get?_push_of_some _ new
          exact Gx hget
        case hR=>
          intro g tk hm hS;show wpAny _ _ _ _ _ _;refine wpAny_pure ?_;show wpAny _ _ (ret Value.none) _ _ _;refine wpAny_pure ⟨rfl,g,tk,rfl,hS,fun b o e=>?_⟩;have lb:b<s.heap.objs.size:=Heap.lt_size e;refine hm b o (Nat.ne_of_lt lb) ?_ (Heap.get?_push_of_some _ (Heap.get?_push_of_some _ e));simp only[List.mem_cons,List.not_mem_nil,or_false];rw[Heap.size_push];exact Nat.ne_of_lt (Nat.lt_succ_of_lt lb)
      · cases r2 with
        | error e=>exact hr2
        | ok fl2=>
          cases fl2 with
          | ret r=>
            obtain⟨rfl,g,tk,rfl,hS,hk⟩:=hr2
            repeat (any_goals (first | assumption | wp_step))
            exact h _ _ hS hk
          | _=>exact hr2.elim
    | _=>exact hr.elim
def Z7 (P:Program) (w:World) (a:Addr) (l:List Key):HO:=.ext fun h=>oX P w h a l
section
variable {X:Cx}
def keysOf:List V→List Key
  | []=>[]
  | .int i::r=>.inl i::keysOf r
  | .str x::r=>.inr x::keysOf r
  | _::r=>keysOf r
def isKey:V→Bool
  | .int _=>true
  | .str _=>true
  | _=>false
theorem Ih:∀{xs:List V} {its:List Value},xs.all isKey=true→Vals xs its→(keysOf xs).length=its.length∧∀(i:Nat) (v:Value),its[i]? = some v→sX ((keysOf xs).getD i (.inl 0)) v=true
  | [],_,_,.nil=>⟨rfl,fun i v e=>by simp at e⟩
  | x::xs,u::us,h,.cons r1 r2=>by
    rw[List.all_cons,Bool.and_eq_true] at h;obtain⟨h1,h2⟩:=Ih h.2 r2;cases x with
    | int i=>
      obtain⟨t,rfl⟩:=r1;refine⟨by simp[keysOf,h1],fun j v e=>?_⟩;cases j with
      | zero=>simp at e;subst e;exact Gh i t
      | succ j=>simp at e;simpa [keysOf] using h2 j v e
    | str z=>
      obtain⟨t,rfl⟩:=r1;refine⟨by simp[keysOf,h1],fun j v e=>?_⟩;cases j with
      | zero=>simp at e;subst e;exact Gi z t
      | succ j=>simp at e;simpa [keysOf] using h2 j v e
    | _=>exact absurd (show false=true from h.1) Bool.false_ne_true
theorem SX (hc:X.calm=true):cF X (.type "set") (fun xs H Q=>∃a ys,xs=[.ref a]∧(bw X.K H a ys∨dW X.K H a ys)∧ys.all isKey=true∧ys.length+1<scanBound∧
    ∀p,H p=none→Q (.ref p) (upd H p (Z7 X.prog X.w p (Fy (fun i=>(keysOf ys).getD i (.inl 0)) ys.length)))):=by
  intro p_ s σ H xs us Q I r h;obtain⟨a,ys,rfl,hq,hk,hb,q⟩:=h;obtain⟨u,rfl,ru⟩:=r.one;obtain rfl:u=Value.ref a:=ru;have fin:∀(g:Heap) (tk:Nat),oX X.prog X.w g s.heap.objs.size (Fy (fun i=>(keysOf ys).getD i (.inl 0)) ys.length)→(∀b o,s.heap.get? b=some o→g.get? b=some o)→EP X p_ σ Q (.ref s.heap.objs.size) {s with heap:=g,toks:=tk}:=fun g tk hS kk=>by
    have hn:H s.heap.objs.size=none:=I.hok.fresh (Nat.le_refl _);refine⟨.ref s.heap.objs.size,_,I.laid (o:=Z7 X.prog X.w s.heap.objs.size (Fy (fun i=>(keysOf ys).getD i (.inl 0)) ys.length)) (fun b o e=>kk b o e) (Nat.le_refl _) ⟨hS,?_,fun h1 h2 p k=>p.at k⟩,rfl,q _ hn⟩;obtain⟨o,_,_,_,e,_⟩:=hS;exact⟨o,e⟩
  rcases hq with hq | hq
  · obtain⟨its,rv,pl,hz⟩:=I.list hq;obtain⟨h1,h2⟩:=Ih hk rv;have hl:=rv.length;refine Kw (val:=fun i=>(keysOf ys).getD i (.inl 0)) (I.ok.hd hc) pl.isList (fun i v e=>h2 i v (by simpa using e)) (by rw[List.size_toArray];omega) fun g tk hS kk=>fin g tk ?_ kk;have ez:its.toArray.size=ys.length:=by rw[List.size_toArray,hl]
    rw[ez] at hS;exact hS
  · obtain⟨its,rv,pl,hz⟩:=I.tuple hq;obtain⟨h1,h2⟩:=Ih hk rv;have hl:=rv.length;refine Ig (val:=fun i=>(keysOf ys).getD i (.inl 0)) (I.ok.hd hc) (show s.heap.IsTuple a its.toArray from pl) (fun i v e=>h2 i v (by simpa using e)) (by rw[List.size_toArray];omega) fun g tk hS kk=>fin g tk ?_ kk;have ez:its.toArray.size=ys.length:=by rw[List.size_toArray,hl]
    rw[ez] at hS;exact hS
theorem S9:cF X (.builtin "len") (fun xs H Q=>∃a l,xs=[.ref a]∧H a=some (Z7 X.prog X.w a l)∧Q (.int l.length) H):=by
  intro p_ s σ H xs us Q I r h;obtain⟨a,l,rfl,ha,q⟩:=h;obtain⟨u,rfl,ru⟩:=r.one;obtain rfl:u=Value.ref a:=ru;obtain⟨⟨o,es,ep,t,e,ex,hd,_,_,hsz,hf,hn⟩,_⟩:=(show b_ X.prog X.w H s.heap a (Z7 X.prog X.w a l) from I.hok a _ ha);refine call_len_set e ex hd hf (by unfold scanBound at hsz;omega) ⟨.int l.length,H,I.tok _,⟨_,by rw[hn]⟩,q⟩
end
section
variable {X:Cx}
def qfy:R2:=fun x y H Q=>∃i j,x = .str i∧y = .str j∧i.length+j.length≤sizeLine∧Q (.str (i++j)) H
def qle:R2:=fun x y H Q=>∃i j,x = .str i∧y = .str j∧Q (.bl (!(Builtin.Str.occurrences j i 0 j.length 1).isEmpty)) H
def Z8:R2:=fun x y H Q=>∃i j,x = .str i∧y = .str j∧Q (.bl (!(!(Builtin.Str.occurrences j i 0 j.length 1).isEmpty))) H
def Z9 (K:W.Frag):R2:=fun x y H Q=>rIn K false x y H Q∨qle x y H Q
def Ii (K:W.Frag):R2:=fun x y H Q=>rIn K true x y H Q∨Z8 x y H Q
theorem qcQ:jj X (compareOp .In) (Z9 X.K):=Sg.or R4
theorem S_:jj X (compareOp .NotIn) (Ii X.K):=HN.or HS
def qcR (K:W.Frag):R2:=fun x y H Q=>∃p xs i v,x = .ref p∧y = .int i∧(bw K H p xs∨dW K H p xs)∧Aa xs i=some v∧Q v H
theorem ixQ:Wa X (qcR X.K):=by
  intro value slice p_ s σ H x y v u Q I rx ry h hs;obtain⟨p,xs,i,z,e1,e2,hq | hq,e3,q⟩:=h
  ·exact ZV value slice p_ s σ H x y v u Q I rx ry ⟨p,xs,i,z,e1,e2,hq,e3,q⟩ hs
  ·exact qcC value slice p_ s σ H x y v u Q I rx ry ⟨p,xs,i,z,e1,e2,hq,e3,q⟩ hs
def qbx (K:W.Frag):List V→Hp→VK→Prop:=fun xs H Q=>∃p ys,xs=[.ref p]∧(bw K H p ys∨dW K H p ys)∧Q (.int ys.length) H
def qby:List V→Hp→VK→Prop:=fun xs H Q=>∃z,xs=[.str z]∧z.length≤sizeLine∧Q (.int z.length) H
variable {K:W.Frag}
theorem qlf (hK:X.K=K):Wa X (qcR K):=by subst hK;exact ixQ
theorem inK (hK:X.K=K):jj X (compareOp .In) (Z9 K):=by subst hK;exact qcQ
theorem qcS (hK:X.K=K):jj X (compareOp .NotIn) (Ii K):=by subst hK;exact S_
theorem qfz (hK:X.K=K):cF X (.builtin "len") (qbx K):=by subst hK;exact HW
theorem qfA:cF X (.builtin "len") qby:=HX
def QK (K:W.Frag):List V→Hp→VK→Prop:=fun xs H Q=>∃p ys,xs=[.ref p]∧(bw K H p ys∨dW K H p ys)∧∀l,H l=none→Q (.ref l) (upd H l (.lst ys))
theorem Z_ (hK:X.K=K):cF X (.type "list") (QK K):=by subst hK;exact HY
def qbz (K:W.Frag):List V→Hp→VK→Prop:=fun xs H Q=>∃x n t b,xs=[x,.ty n]∧m_ K H x t∧W.kitOne K t (.type n)=some b∧Q (.bl b) H
theorem qfB (hK:X.K=K):cF X (.builtin "isinstance") (qbz K):=by subst hK;exact Sy
def qbA (K:W.Frag):List V→Hp→VK→Prop:=fun xs H Q=>∃x p m n t b,xs=[x,.ref p]∧H p=some (.tup [.ty m,.ty n])∧m_ K H x t∧W.kitAny K t [.type m,.type n]=some b∧Q (.bl b) H
theorem qfC (hK:X.K=K):cF X (.builtin "isinstance") (qbA K):=by subst hK;exact SJ
theorem fJ (hK:X.K=K) {es:List Expr} {k:Nat} {pos:Pos} {t:J2} {n:Nat} (hc:X.calm=true) (h:jC X es t)
    (hn:(assignEach es X.env).length=n:=by rfl) (hst:(assignEach es X.env).findIdx? (·.1)=none:=by rfl):PG X (.Tuple es k pos) (ZC K n t):=by subst hK;exact qck hc h hn hst
theorem dO (hK:X.K=K) {tg l:Expr} {tl:TE} (hl:PE X l tl):PI X tg l (Qv K tl):=by subst hK;exact ZJ hl
theorem QL (hK:X.K=K) {tg l:Expr} {tl:TE} (hl:PE X l tl):PI X tg l (qco K tl):=by subst hK;exact qcp hl
theorem Ij (hK:X.K=K) {e:Expr} {ta:TE} {f:Str} {pos:Pos} (he:PE X e ta) (hb:attributeBase e f X.env (eval e X.env)=eval e X.env):PE X (.Attribute e f pos) (ZR K ta f):=by subst hK;exact qcz he hb
theorem pO (hK:X.K=K) {o e:Expr} {es:List Expr} {to:TE} {t:TA} {name:Str} {apos cpos:Pos} {T id:String} {r:V→List V→Hp→VK→Prop} (pa:PlainAttrs T) (slot:Slot T name id) (hty:typeOf (.builtin id)=pure (.type "method_descriptor")) (hm:Nb X id r) (ho:PE X o to) (ha:PA X (e::es) t)
    (hbase:attributeBase o name X.env (eval o X.env)=eval o X.env:=by rfl)
    (hfew:((backTo cpos (starEach (e::es) X.env)).all (fun x=>!x.1) && (backToKw cpos (keywordEach [] X.env)).all (fun x=>x.1.isSome)
      && decide ((e::es).length+([]:List Keyword).length+(if ([]:List Keyword).isEmpty then 0 else 1)<30))=true:=by rfl)
    (hline:(apos.endLine == cpos.line)=true:=by rfl) (hs:starEach (e::es) X.env=(false,eval e X.env)::starEach es X.env:=by rfl) (hplain:(backTo cpos (starEach es X.env)).any (·.1)=false:=by rfl) :
    PE X (.Call (.Attribute o name apos) (e::es) [] cpos) (tBM K T r to t):=by subst hK;exact qfr pa slot hty hm ho ha hbase hfew hline hs hplain
theorem jU:bootBuiltins "all" = some (.builtin "all"):=by decide+kernel
theorem Tc:bootBuiltins "any" = some (.builtin "any"):=by decide+kernel
theorem boot_max:bootBuiltins "max" = some (.builtin "max"):=by decide+kernel
theorem boot_min:bootBuiltins "min" = some (.builtin "min"):=by decide+kernel
theorem boot_abs:bootBuiltins "abs" = some (.builtin "abs"):=by decide+kernel
theorem boot_divmod:bootBuiltins "divmod" = some (.builtin "divmod"):=by decide+kernel
end
structure Nm (mg:Str→Option Value):Prop where
  len:mg "len" = none
  max:mg "max" = none
  min:mg "min" = none
  abs:mg "abs" = none
  divmod:mg "divmod" = none
  range:mg "range" = none
  zip:mg "zip" = none
  list:mg "list" = none
  tuple:mg "tuple" = none
  int:mg "int" = none
  str:mg "str" = none
  set:mg "set" = none
  all:mg "all" = none
  isinstance:mg "isinstance" = none
section
variable {K:W.Frag} {own:List Str} {caps:List Nat} {g:TG} {tt:TT} {te:TE} {D:Addr} {σ:St} {H:Hp} {Q:Hp→Prop}
abbrev Gy (g:TG) (tt:TT) (te:TE) (D:Addr) (N:St→Hp→Prop) (x:V) (σ:St) (H:Hp):Prop:=
  g x σ H fun σ2 H3=>tt σ2 H3 fun b H4=>if b=true then te σ2 H4 fun y H5=>∃ys,H5 D=some (.lst ys)∧ys.length<sizeLine∧N σ2 (upd H5 D (.lst (ys++[y]))) else N σ2 H4
theorem Gz {l:Addr} {xs:List V} (Pv:Nat→St→Hp→Prop) (h0:Pv 0 (stC own caps σ) H) (hl:∀i σ H,i≤xs.length→Pv i σ H→bw K H l xs)
    (hs:∀i x σ H,xs[i]? = some x→Pv i σ H→Gy g tt te D (Pv (i+1)) x σ H) (hd:∀σ H,Pv xs.length σ H→Q H):ni own caps (Vk K l) g tt te D σ H Q:=by
  refine⟨fun i m σ H=>m=xs.length - i∧i≤xs.length∧Pv i σ H,⟨xs.length,by simp,Nat.zero_le _,h0⟩,?_⟩;rintro i m σ H ⟨rfl,hi,p⟩;have q:=hl i σ H hi p
  by_cases hlt:i<xs.length
  ·refine .inr ⟨⟨xs,xs[i],q,by simp[hlt]⟩,Pv (i+1),fun σ' H' p'=>⟨xs.length - (i+1),by omega,rfl,hlt,p'⟩,fun x H' y=>?_⟩;obtain⟨e,y⟩:=y;subst e;exact hs i x σ _ (y xs q) p
  · have e:i=xs.length:=by omega
    subst e;exact .inl ⟨⟨xs,q,Nat.le_refl _⟩,hd σ H p⟩
theorem Wr {l:Addr} {xs:List V} (Pv:Nat→St→Hp→Prop) (h0:Pv 0 (stC own caps σ) H) (hl:∀i σ H,i≤xs.length→Pv i σ H→dW K H l xs)
    (hs:∀i x σ H,xs[i]? = some x→Pv i σ H→Gy g tt te D (Pv (i+1)) x σ H) (hd:∀σ H,Pv xs.length σ H→Q H):ni own caps (ZG K l) g tt te D σ H Q:=by
  refine⟨fun i m σ H=>m=xs.length - i∧i≤xs.length∧Pv i σ H,⟨xs.length,by simp,Nat.zero_le _,h0⟩,?_⟩;rintro i m σ H ⟨rfl,hi,p⟩;have q:=hl i σ H hi p
  by_cases hlt:i<xs.length
  ·refine .inr ⟨⟨xs,xs[i],q,by simp[hlt]⟩,Pv (i+1),fun σ' H' p'=>⟨xs.length - (i+1),by omega,rfl,hlt,p'⟩,fun x H' y=>?_⟩;obtain⟨e,y⟩:=y;subst e;exact hs i x σ _ (y xs q) p
  · have e:i=xs.length:=by omega
    subst e;exact .inl ⟨⟨xs,q,Nat.le_refl _⟩,hd σ H p⟩
theorem N8 {lo:Int} {n:Nat} (Pv:Nat→St→Hp→Prop) (h0:Pv 0 (stC own caps σ) H)
    (hs:∀i σ H,i<n→Pv i σ H→Gy g tt te D (Pv (i+1)) (.int (lo+i)) σ H) (hd:∀σ H,Pv n σ H→Q H):ni own caps (M_ lo n) g tt te D σ H Q:=by
  refine⟨fun i m σ H=>m=n - i∧i≤n∧Pv i σ H,⟨n,by simp,Nat.zero_le _,h0⟩,?_⟩;rintro i m σ H ⟨rfl,hi,p⟩
  by_cases hlt:i<n
  ·refine .inr ⟨hlt,Pv (i+1),fun σ' H' p'=>⟨n - (i+1),by omega,rfl,hlt,p'⟩,fun x H' y=>?_⟩;obtain⟨e,y⟩:=y;subst e y;exact hs i σ _ hlt p
  · have e:i=n:=by omega
    subst e;exact .inl ⟨Nat.le_refl _,hd σ H p⟩
theorem Ws {z:Str} (Pv:Nat→St→Hp→Prop) (h0:Pv 0 (stC own caps σ) H)
    (hs:∀i c σ H,z.cps[i]? = some c→Pv i σ H→Gy g tt te D (Pv (i+1)) (.str ⟨#[c]⟩) σ H) (hd:∀σ H,Pv z.cps.size σ H→Q H):ni own caps (Its z) g tt te D σ H Q:=by
  refine⟨fun i m σ H=>m=z.cps.size - i∧i≤z.cps.size∧Pv i σ H,⟨z.cps.size,by simp,Nat.zero_le _,h0⟩,?_⟩;rintro i m σ H ⟨rfl,hi,p⟩
  by_cases hlt:i<z.cps.size
  ·refine .inr ⟨hlt,Pv (i+1),fun σ' H' p'=>⟨z.cps.size - (i+1),by omega,rfl,hlt,p'⟩,fun x H' y=>?_⟩;obtain⟨e,c,hc,rfl⟩:=y;subst e;exact hs i c σ _ hc p
  · have e:i=z.cps.size:=by omega
    subst e;exact .inl ⟨Nat.le_refl _,hd σ H p⟩
theorem Wt {l1 l2:Addr} {xs ys:List V} (Pv:Nat→St→Hp→Prop) (h0:Pv 0 (stC own caps σ) H) (he:xs.length=ys.length) (hl:∀i σ H,i≤xs.length→Pv i σ H→bw K H l1 xs∧bw K H l2 ys)
    (hs:∀i x y t σ H,xs[i]? = some x→ys[i]? = some y→H t=none→Pv i σ H→Gy g tt te D (Pv (i+1)) (.ref t) σ (upd H t (.tup [x,y]))) (hd:∀σ H,Pv xs.length σ H→Q H):ni own caps (Itz K l1 l2) g tt te D σ H Q:=by
  refine⟨fun i m σ H=>m=xs.length - i∧i≤xs.length∧Pv i σ H,⟨xs.length,by simp,Nat.zero_le _,h0⟩,?_⟩;rintro i m σ H ⟨rfl,hi,p⟩;obtain⟨q1,q2⟩:=hl i σ H hi p
  by_cases hlt:i<xs.length
  · have hlt2:i<ys.length:=by omega
    refine .inr ⟨⟨xs,ys,xs[i],ys[i],q1,q2,by simp[hlt],by simp[hlt2]⟩,Pv (i+1),fun σ' H' p'=>⟨xs.length - (i+1),by omega,rfl,hlt,p'⟩,fun x H' y=>?_⟩;obtain⟨t,u,v,rfl,ht,rfl,e1,e2⟩:=y;exact hs i u v t σ H (e1 xs q1) (e2 ys q2) ht p
  · have e:i=xs.length:=by omega
    subst e;exact .inl ⟨⟨xs,ys,q1,q2,.inl (Nat.le_refl _)⟩,hd σ H p⟩
end
def SqB (b:Bool) (K:W.Frag) (H:Hp) (p:Addr) (xs:List V):Prop:=match b with | true=>bw K H p xs | false=>dW K H p xs
def Itq (b:Bool) (K:W.Frag) (p:Addr):It:=match b with | true=>Vk K p | false=>ZG K p
def qcT (K:W.Frag) (tl:TE):TI:=fun σ H R=>tl σ H fun x H1=>∃b p,x = .ref p∧(∃xs,SqB b K H1 p xs)∧R (Itq b K p) H1
theorem Bq {X:Cx} {K:W.Frag} (hK:X.K=K) {tg l:Expr} {tl:TE} (hl:PE X l tl):PI X tg l (qcT K tl):=by
  intro p_ s σ H R I h;refine cY (hl p_ s σ H _ I h) fun v s1 zz=>?_;obtain⟨x,H1,I1,r1,q1⟩:=zz;obtain⟨b,p,e,hq,q⟩:=q1;subst e;subst hK;cases b with
  | true=>
    cases r1;obtain⟨xs,hq⟩:=hq;obtain⟨its,rv,pl,hz⟩:=I1.list hq;refine wpAny_pyIter_list pl.isList ?_;refine⟨s1.heap.objs.size,[s1.heap.objs.size],_,_,H1,rfl,I1.kept (t':=s1.toks) fun b o e=>Heap.get?_push_of_some _ e,Gj p _,⟨_,Heap.get?_push_size _ rfl,rfl,rfl⟩,fun b hb=>?_,q⟩;have e:b=s1.heap.objs.size:=by simpa using hb
    subst e;exact I1.A_ (Nat.le_refl _) (I1.hok.fresh (Nat.le_refl _))
  | false=>
    cases r1;obtain⟨xs,hq⟩:=hq;obtain⟨its,rv,pl,hz⟩:=I1.tuple hq;refine wpAny_pyIter_tuple (show s1.heap.IsTuple p its.toArray from pl) ?_;refine⟨s1.heap.objs.size,[s1.heap.objs.size],_,_,H1,rfl,I1.kept (t':=s1.toks) fun b o e=>Heap.get?_push_of_some _ e,CJ p _,⟨_,Heap.get?_push_size _ rfl,rfl,rfl⟩,fun b hb=>?_,q⟩;have e:b=s1.heap.objs.size:=by simpa using hb
    subst e;exact I1.A_ (Nat.le_refl _) (I1.hok.fresh (Nat.le_refl _))
section
variable {K:W.Frag} {own:List Str} {caps:List Nat} {g:TG} {tt:TT} {te:TE} {D:Addr} {σ:St} {H:Hp} {Q:Hp→Prop}
theorem Wu {b:Bool} {l:Addr} {xs:List V} (Pv:Nat→St→Hp→Prop) (h0:Pv 0 (stC own caps σ) H) (hl:∀i σ H,i≤xs.length→Pv i σ H→SqB b K H l xs)
    (hs:∀i x σ H,xs[i]? = some x→Pv i σ H→Gy g tt te D (Pv (i+1)) x σ H) (hd:∀σ H,Pv xs.length σ H→Q H):ni own caps (Itq b K l) g tt te D σ H Q:=by
  cases b with
  | true=>exact Gz Pv h0 hl hs hd
  | false=>exact Wr Pv h0 hl hs hd
end
theorem aA {H:Hp} {p:Addr} {o:HO} (h:H p=none):Same H (upd H p o):=fun b u e=>by rw[aC (aP e h)];exact e
theorem aW {H H':Hp} {p:Addr} {o:HO} (s:Same H H') (h:H p=none):Same H (upd H' p o):=fun b u e=>by rw[aC (aP e h)];exact s b u e
def Sq (H:Hp) (p:Addr) (xs:List V):Prop:=H p=some (.lst xs)∨H p=some (.tup xs)
theorem Sq.q {K:W.Frag} {H:Hp} {p:Addr} {xs:List V} (h:Sq H p xs):bw K H p xs∨dW K H p xs:=h.elim (fun e=>.inl (bw.of e)) fun e=>.inr (dW.of e)
theorem Sq.b {H:Hp} {p:Addr} {xs:List V} (h:Sq H p xs):∃b,∀K H',Same H H'→SqB b K H' p xs:=h.elim (fun e=>⟨true,fun _ _ s=>bw.of (s _ _ e)⟩) fun e=>⟨false,fun _ _ s=>dW.of (s _ _ e)⟩
theorem Sq.same {H H':Hp} {p:Addr} {xs:List V} (h:Sq H p xs) (s:Same H H'):Sq H' p xs:=h.elim (fun e=>.inl (s _ _ e)) fun e=>.inr (s _ _ e)
theorem Sq.ty {K:W.Frag} {H:Hp} {p:Addr} {xs:List V} (h:Sq H p xs):m_ K H (.ref p) (.type "list")∨m_ K H (.ref p) (.type "tuple"):=h.elim (fun e=>.inl (.lst e)) fun e=>.inr (.tup e)
theorem GC {α:Type} (f:α→Bool):∀l:List α,oW (l.map fun c=>.bl (f c)) (l.map f)
  | []=>rfl
  | c::l=>⟨f c,l.map f,rfl,rfl,GC f l⟩
theorem N_ {α:Type} (f:α→Bool) (l:List α):(l.map f).all id=l.all f:=by
  rw[List.all_map];rfl
theorem take_one {α:Type} {l:List α} {i:Nat} {x:α} (h:l[i]? = some x):l.take (i+1)=l.take i++[x]:=by
  rw[List.take_succ,h];rfl
def QM:List V→Hp→VK→Prop:=fun xs H Q=>∃p ys,xs=[.ref p]∧Sq H p ys∧∀l H',H' l=some (.tup ys)→Same H H'→Q (.ref l) H'
theorem Wv {X:Cx}:cF X (.type "tuple") QM:=by
  intro p_ s σ H xs us Q I r h;obtain⟨p,ys,rfl,hq,q⟩:=h;refine Fx p_ s σ H _ us Q I r ⟨p,ys,rfl,?_⟩
  rcases hq with e | e
  ·exact .inl ⟨bw.of e,fun l hl=>q l _ ak (aA hl)⟩
  ·exact .inr ⟨dW.of e,q p H e (Same.refl H)⟩
def qcU (J:It) (g:TG) (tb:TS):TS:=fun D σ H=>∃ql:Nat→Nat→St→Hp→Prop,(∃m,ql 0 m σ H)∧∀i m σ H,ql i m σ H→
      (J.stop i H∧D.nx σ H)∨(J.go i H∧∃N:St→Hp→Prop,(∀σ' H',N σ' H'→∃m',m'<m∧ql (i+1) m' σ' H')∧∀x H',J.ZF i H x H'→g x σ H' fun σ2 H2=>tb {D with nx:=N,ct:=N,bk:=D.nx} σ2 H2)
theorem bM {H:Hp} {b p:Addr} {o u:HO} (h:H b=some o) (n:H p=none):upd H p u b=some o:=by rw[aC (aP h n)];exact h
theorem qW {H:Hp} {b p:Addr} {o o' u:HO} (h:H b=some o) (n:H p=some o') (d:o≠o'):upd H p u b=some o:=by
  rw[aC (fun e=>d (by subst e;rw[h] at n;exact Option.some.inj n))];exact h
theorem bV {H H':Hp} {b:Addr} (s:Same H H') (h:H' b=none):H b=none:=by
  cases e:H b with
  | none=>rfl
  | some o=>rw[s b o e] at h;cases h
def But (p:Addr) (H H':Hp):Prop:=∀b o,b≠p→H b=some o→H' b=some o
theorem But.refl (p:Addr) (H:Hp):But p H H:=fun _ _ _ e=>e
theorem But.trans {p:Addr} {H H1 H2:Hp} (x:But p H H1) (y:But p H1 H2):But p H H2:=fun b o hb e=>y b o hb (x b o hb e)
theorem But.new {p q:Addr} {H H':Hp} {u:HO} (x:But p H H') (h:H q=none):But p H (upd H' q u):=fun b o hb e=>by
  rw[aC (aP e h)];exact x b o hb e
theorem But.same {p:Addr} {H H1 H2:Hp} (x:But p H H1) (y:Same H1 H2):But p H H2:=fun b o hb e=>y b o (x b o hb e)
theorem But.none {p b:Addr} {H H':Hp} {u:HO} (x:But p H H') (hp:H' p=some u) (h:H' b = .none):H b = .none:=by
  cases e:H b with
  | none=>rfl
  | some o=>
    have hb:b≠p:=fun z=>by subst z;rw[hp] at h;cases h
    rw[x b o hb e] at h;cases h
theorem QS {α:Type} {xs:List α} {i:Int} (h0:0≤i) (h1:i<xs.length):∃v,xs[i.toNat]? = some v∧Aa xs i=some v:=by
  obtain⟨j,rfl⟩:∃j:Nat,i=j:=⟨i.toNat,by omega⟩;have hj:j<xs.length:=by omega
  exact⟨xs[j],by simp[hj],aU (by simp[hj])⟩
theorem qcV {d e n:Int} (h0:0≤d) (h1:d<n) (h2:0≤e) (h3:e<n - 1):0≤(d+1+e) % n∧(d+1+e) % n<n∧(d+1+e) % n≠d:=by
  refine⟨Int.emod_nonneg _ (by omega),Int.emod_lt_of_pos _ (by omega),?_⟩
  by_cases h:d+1+e<n
  ·rw[Int.emod_eq_of_lt (by omega) h];omega
  · have z:d+1+e=(d+1+e - n)+n * 1:=by omega
    rw[z,Int.add_mul_emod_self_left,Int.emod_eq_of_lt (by omega) (by omega)];omega
theorem tX {xs:List Str} {i:Nat} {x:V} (h:(xs.map V.str)[i]? = some x):∃z,xs[i]? = some z∧x = .str z:=by
  rw[List.getElem?_map] at h;cases e:xs[i]? with
  | none=>rw[e] at h;cases h
  | some z=>rw[e] at h;exact⟨z,rfl,(Option.some.inj h).symm⟩
theorem xQ {α:Type} {xs:List α} (h:xs.Nodup) {i j:Nat} {x:α} (hi:xs[i]? = some x) (hj:xs[j]? = some x):i=j:=by
  obtain⟨h1,e1⟩:=List.getElem?_eq_some_iff.mp hi;obtain⟨h2,e2⟩:=List.getElem?_eq_some_iff.mp hj;exact(List.getElem_inj h).mp (e1.trans e2.symm)
def Zo (c:Nat):Bool:=!(Builtin.Str.occurrences ("abcdefghijklmnopqrstuvwxyz" : Str) ⟨#[c]⟩ 0 ("abcdefghijklmnopqrstuvwxyz" : Str).length 1).isEmpty
def nameB (x:Str):Bool:=decide (1≤x.length) && decide (x.length≤4) && x.cps.toList.all Zo
theorem Ww:∀n<26,Zo (97+n)=true:=by decide+kernel
theorem Oa:∀n:Nat,n<26→Aa (Str.ofString "abcdefghijklmnopqrstuvwxyz").cps.toList (n:Int)=some (97+n):=by decide+kernel
theorem Ac:(Str.ofString "abcdefghijklmnopqrstuvwxyz").length≤sizeLine:=by decide+kernel
theorem tY {i:Int} (h0:0≤i) (h1:i<26):∃n:Nat,i=n∧n<26∧Aa (Str.ofString "abcdefghijklmnopqrstuvwxyz").cps.toList i=some (97+n):=
  ⟨i.toNat,by omega,by omega,by
    obtain⟨n,rfl⟩:∃n:Nat,i=n:=⟨i.toNat,by omega⟩;exact Oa n (by omega)⟩
structure qX (c:Nat) (k:Nat) (x:Str):Prop where
  len:x.length=k
  fst:x.cps[0]? = some c
  all:x.cps.toList.all Zo=true
theorem qX.one {n:Nat} (h:n<26):qX (97+n) 1 ⟨#[97+n]⟩:=⟨rfl,rfl,by simp[Ww n h]⟩
theorem qX.name {c k:Nat} {x:Str} (h:qX c k x) (h1:1≤k) (h4:k≤4):nameB x=true:=by
  unfold nameB;rw[h.len,h.all];simp;omega
section
variable {κ:Type} [DecidableEq κ]
def jZ (kvs:List (κ×V)) (k:κ):Option V:=(kvs.find? fun kv=>decide (kv.1=k)).map (·.2)
def putK (kvs:List (κ×V)) (k:κ) (v:V):List (κ×V):=
  if (kvs.any fun kv=>decide (kv.1=k))=true then kvs.map (fun kv=>if kv.1=k then (kv.1,v) else kv) else kvs++[(k,v)]
theorem CZ {p:κ×V} {r:List (κ×V)} {k:κ} (e:p.1=k):jZ (p::r) k=some p.2:=by simp[jZ,List.find?_cons,e]
theorem C_ {p:κ×V} {r:List (κ×V)} {k:κ} (e:¬p.1=k):jZ (p::r) k=jZ r k:=by simp[jZ,List.find?_cons,e]
theorem Dc (k:κ):∀kvs:List (κ×V),(kvs.any fun kv=>decide (kv.1=k))=(jZ kvs k).isSome
  | []=>rfl
  | p::r=>by
    rw[List.any_cons]
    by_cases e:p.1=k
    ·simp only[CZ e,decide_eq_true e,Bool.true_or,Option.isSome_some]
    ·rw[C_ e,decide_eq_false e,Bool.false_or];exact Dc k r
theorem tZ (kvs:List (κ×V)) (k:κ) (v:V):(putK kvs k v).length≤kvs.length+1:=by
  unfold putK;split
  ·rw[List.length_map];omega
  ·rw[List.length_append,List.length_cons,List.length_nil];omega
theorem qu {kvs:List (κ×V)} {k:κ} (v:V) (h:jZ kvs k=none):putK kvs k v=kvs++[(k,v)]:=by
  unfold putK;rw[Dc,h];exact if_neg (by decide)
theorem mQ.qw {o:Option V} {u:Option Value} (r:mQ o u):o.isSome=u.isSome:=by
  cases o with
  | none=>cases u with
    | none=>rfl
    | some _=>exact(show False from r).elim
  | some _=>cases u with
    | none=>exact(show False from r).elim
    | some _=>rfl
theorem mQ.getD {o:Option V} {u:Option Value} {d:V} {d':Value} (r:mQ o u) (rd:RelV d d'):RelV (o.getD d) (u.getD d'):=by
  cases o with
  | none=>cases u with
    | none=>exact rd
    | some _=>exact(show False from r).elim
  | some _=>cases u with
    | none=>exact(show False from r).elim
    | some _=>exact r
theorem KV.val {kvs:List (κ×V)} {vs:List (κ×Value)} (r:KV kvs vs) (k:κ):mQ (jZ kvs k) (valueAt vs k):=by
  unfold KV at r
  induction r with
  | nil=>exact True.intro
  | @cons p q ps qs h t ih=>
    obtain⟨h1,h2⟩:=h
    by_cases e:p.1=k
    · have e':q.1=k:=h1.symm.trans e;have b:valueAt (q::qs) k=some q.2:=by simp[valueAt,List.find?_cons,e']
      rw[CZ e,b];exact h2
    · have e':¬q.1=k:=fun z=>e (h1.trans z);have b:valueAt (q::qs) k=valueAt qs k:=by simp[valueAt,List.find?_cons,e']
      rw[C_ e,b];exact ih
theorem KV.any {kvs:List (κ×V)} {vs:List (κ×Value)} (r:KV kvs vs) (k:κ):(kvs.any fun kv=>decide (kv.1=k))=vs.any fun kv=>decide (kv.1=k):=by
  unfold KV at r
  induction r with
  | nil=>rfl
  | cons h t ih=>rw[List.any_cons,List.any_cons,ih,h.1]
theorem KV.repl {kvs:List (κ×V)} {vs:List (κ×Value)} (r:KV kvs vs) (k:κ) {y:V} {u:Value} (ry:RelV y u) :
    KV (kvs.map fun kv=>if kv.1=k then (kv.1,y) else kv) (vs.map fun kv=>if kv.1=k then (kv.1,u) else kv):=by
  unfold KV at r ⊢
  induction r with
  | nil=>exact .nil
  | @cons p q ps qs h t ih=>
    rw[List.map_cons,List.map_cons];refine .cons ?_ ih;obtain⟨h1,h2⟩:=h
    by_cases e:p.1=k
    ·rw[if_pos e,if_pos (h1.symm.trans e)];exact⟨h1,ry⟩
    ·rw[if_neg e,if_neg (fun z=>e (h1.trans z))];exact⟨h1,h2⟩
theorem KV.put {kvs:List (κ×V)} {vs:List (κ×Value)} (r:KV kvs vs) (k:κ) {y:V} {u:Value} (ry:RelV y u):KV (putK kvs k y) (stored vs k u):=by
  unfold putK stored;rw[r.any k]
  by_cases e:(vs.any fun kv=>decide (kv.1=k))=true
  ·rw[if_pos e,if_pos e];exact r.repl k ry
  ·rw[if_neg e,if_neg e];exact Paired.snoc r ⟨rfl,ry⟩
theorem KV.length {kvs:List (κ×V)} {vs:List (κ×Value)} (r:KV kvs vs):kvs.length=vs.length:=Paired.length r
end
theorem Dd {P:Program} {w:World} {k:Key} {u:Value} (r:RelV (kV k) u):(bF P w).is k u=true:=by
  cases k with
  | inl i=>obtain⟨t,e⟩:=(show ∃t,u=Value.int i t from r);subst e;exact z_ P w i t
  | inr x=>obtain⟨t,e⟩:=(show ∃t,u=Value.str x t from r);subst e;exact J4 P w x t
theorem GD {P:Program} {w:World}:∀{ks:List Key} {us:List Value},Vals (ks.map kV) us→ItemsAre (bF P w) ks us
  | [],_,r=>by rw[List.map_nil] at r;cases r;exact .nil
  | k::ks,_,r=>by
    rw[List.map_cons] at r;cases r with
    | cons h t=>exact .cons (Dd h) (GD t)
abbrev KT (H:Hp):List (List Key×V)→List (List Key×Addr×Value)→Prop:=Paired fun p q=>p.1=q.1∧H q.2.1=some (.tup (p.1.map kV))∧RelV p.2 q.2.2
theorem KT.val {H:Hp} {kvs:List (List Key×V)} {xs:List (List Key×Addr×Value)} (r:KT H kvs xs) (k:List Key):mQ (jZ kvs k) ((atKey xs k).map (·.2)):=by
  induction r with
  | nil=>exact True.intro
  | @cons p q ps qs h t ih=>
    obtain⟨h1,_,h2⟩:=h
    by_cases e:p.1=k
    · have e':q.1=k:=h1.symm.trans e;have b:atKey (q::qs) k=some q.2:=by simp[atKey,List.find?_cons,e']
      rw[CZ e,b];exact h2
    · have e':¬q.1=k:=fun z=>e (h1.trans z);have b:atKey (q::qs) k=atKey qs k:=by simp[atKey,List.find?_cons,e']
      rw[C_ e,b];exact ih
theorem KT.repl {H:Hp} {kvs:List (List Key×V)} {xs:List (List Key×Addr×Value)} (r:KT H kvs xs) (k:List Key) {y:V} {u:Value} (ry:RelV y u) :
    KT H (kvs.map fun kv=>if kv.1=k then (kv.1,y) else kv) (xs.map (putAt k u)):=by
  induction r with
  | nil=>exact .nil
  | @cons p q ps qs h t ih=>
    rw[List.map_cons,List.map_cons];refine .cons ?_ ih;obtain⟨h1,h2,h3⟩:=h;unfold putAt
    by_cases e:p.1=k
    ·rw[if_pos e,if_pos (h1.symm.trans e)];exact⟨h1,h2,ry⟩
    ·rw[if_neg e,if_neg (fun z=>e (h1.trans z))];exact⟨h1,h2,h3⟩
theorem KT.put {H:Hp} {kvs:List (List Key×V)} {xs:List (List Key×Addr×Value)} (r:KT H kvs xs) (k:List Key) {b:Addr} {y:V} {u:Value} (hb:H b=some (.tup (k.map kV))) (ry:RelV y u) :
    KT H (putK kvs k y) (storedH xs k b u):=by
  have e:(kvs.any fun kv=>decide (kv.1=k))=(atKey xs k).isSome:=by
    rw[Dc,(r.val k).qw,Option.isSome_map]
  unfold putK storedH;rw[e]
  by_cases q:(atKey xs k).isSome=true
  ·rw[if_pos q,if_pos q];exact r.repl k ry
  ·rw[if_neg q,if_neg q];exact Paired.snoc r ⟨rfl,hb,ry⟩
theorem KT.keeps {H H':Hp} {kvs:List (List Key×V)} {xs:List (List Key×Addr×Value)} (r:KT H kvs xs) (ht:∀b ys,H b=some (.tup ys)→H' b=some (.tup ys)):KT H' kvs xs:=
  Paired.qcc r fun _ _ z=>⟨z.1,ht _ _ z.2.1,z.2.2⟩
section
variable {P:Program} {w:World} {H:Hp} {h:Heap} {a:Addr}
theorem qbB {u:HO} (ok:sY P w H h) (e:Rd H a u):b_ P w H h a u:=e.ok ok
theorem qx {kvs:List (Key×V)} (ok:sY P w H h) (e:Rd H a (.dK kvs)):kvs.length≤sizeLine∧(a == sysModules)=false∧∃vs,KV kvs vs∧h.DictOf (bF P w) a vs:=
  show b_ P w H h a (.dK kvs) from qbB ok e
theorem QT {kvs:List (Key×V)} (ok:sY P w H h) (e:H a=some (.dK kvs)):kvs.length≤sizeLine∧(a == sysModules)=false∧∃vs,KV kvs vs∧h.DictOf (bF P w) a vs:=qx ok (.inl e)
theorem zA {ks:List Key} (ok:sY P w H h) (e:H a=some (.tup (ks.map kV))):(tupleKind (bF P w)).is h ks a:=by
  obtain⟨_,its,r,o,h1,h2,n,h3⟩:=(show b_ P w H h a (.tup (ks.map kV)) from ok a _ e);exact⟨o,its.toArray,n,h1,h2,h3,by simpa using GD r⟩
theorem Df {kvs:List (List Key×V)} (ok:sY P w H h) (e:Rd H a (.dT kvs)):kvs.length≤sizeLine∧(a == sysModules)=false∧
    ∃xs,KT H kvs xs∧h.DictOfH (tupleKind (bF P w)) a xs:=by
  obtain⟨z,y,xs,r,o,es,ep,h1,h2,h3,h4,h5⟩:=(show b_ P w H h a (.dT kvs) from qbB ok e);refine⟨z,y,xs,r,o,es,ep,h1,h2,h3,h4,fun x hx=>?_,h5⟩;have all:∀{l:List (List Key×V)} {m:List (List Key×Addr×Value)},KT H l m→∀x∈m,(tupleKind (bF P w)).is h x.1 x.2.1:=by
    intro l m q
    induction q with
    | nil=>intro x hx;exact nomatch hx
    | @cons p q ps qs hq t ih=>
      intro x hx
      rcases List.mem_cons.mp hx with e | hx
      ·subst e;exact zA ok (by rw[← hq.1];exact hq.2.1)
      ·exact ih x hx
  exact all r x hx
theorem qfD {kvs:List (List Key×V)} (ok:sY P w H h) (e:H a=some (.dT kvs)):kvs.length≤sizeLine∧(a == sysModules)=false∧
    ∃xs,KT H kvs xs∧h.DictOfH (tupleKind (bF P w)) a xs:=Df ok (.inl e)
end
def iz (H:Hp) (a:Addr) (y:V) (r:Option V):Prop:=
  (∃kvs k,Rd H a (.dK kvs)∧y=kV k∧r=jZ kvs k)∨∃kvs k b,Rd H a (.dT kvs)∧y = .ref b∧H b=some (.tup (k.map kV))∧r=jZ kvs k
def FJ (H:Hp) (a:Addr) (y v:V) (H':Hp):Prop:=
  (∃kvs k,H a=some (.dK kvs)∧y=kV k∧kvs.length<sizeLine∧H'=upd H a (.dK (putK kvs k v)))∨
  ∃kvs k b,H a=some (.dT kvs)∧y = .ref b∧H b=some (.tup (k.map kV))∧kvs.length<sizeLine∧H'=upd H a (.dT (putK kvs k v))
theorem iz.k {H:Hp} {a:Addr} {kvs:List (Key×V)} {k:Key} (e:H a=some (.dK kvs)):iz H a (kV k) (jZ kvs k):=.inl ⟨kvs,k,.inl e,rfl,rfl⟩
theorem FJ.k {H:Hp} {a:Addr} {kvs:List (Key×V)} {k:Key} {v:V} (e:H a=some (.dK kvs)) (hl:kvs.length<sizeLine):FJ H a (kV k) v (upd H a (.dK (putK kvs k v))):=.inl ⟨kvs,k,e,rfl,hl,rfl⟩
section
variable {X:Cx} {p_:List (Addr×Obj)} {σ:St} {H:Hp} {s:Shared} {a:Addr} {y v:V} {u r:Value} {o:Option V} {A:Around} {E:Value→Shared→Prop}
theorem Inv.big (I:Inv X p_ σ H s):sysModules<s.heap.objs.size:=by
  have h:mainGlobals<s.heap.objs.size:=(I.mod.glob.keeps I.bk).lt;exact Nat.lt_trans (by decide) h
theorem Td {Q:Value→Shared→Prop} (hu:A.units+1<cLine) (I:Inv X p_ σ H s) (g:iz H a y (some v)) (ry:RelV y u) (h:∀w' s',Inv X p_ σ H s'→RelV v w'→Q w' s') :
    wpAny (model X.prog X.w) A (getItem (.ref a) u) Q E s:=by
  rcases g with⟨kvs,k,e,ey,l⟩ | ⟨kvs,k,b,e,ey,eb,l⟩
  ·subst ey;obtain⟨z,hd,vs,rel,dd⟩:=qx I.hok e;obtain⟨w',hw,R_⟩:=mQ.some_of (v:=v) (o:=valueAt vs k) (by rw[l];exact rel.val k);exact wpAny_getItem_of (Dd ry) dd.mapOf hw (h w' _ (I.tok _) R_)
  · subst ey;cases (show u=Value.ref b from ry);obtain⟨z,hd,xs,rel,dd⟩:=Df I.hok e;obtain⟨w',hw,R_⟩:=mQ.some_of (v:=v) (o:=(atKey xs k).map (·.2)) (by rw[l];exact rel.val k);obtain⟨p,hp,hp2⟩:=Option.map_eq_some_iff.mp hw;refine wpAny_getItem_heap (tupleKind_room_in1 hu) (zA I.hok eb) dd hp ?_;rw[hp2];exact h w' _ (I.tok _) R_
theorem qlg {Q:Value→Shared→Prop} (hu:A.units+1<cLine) (I:Inv X p_ σ H s) (g:iz H a y o) (ry:RelV y u) (h:∀s',Inv X p_ σ H s'→Q (.bool o.isSome) s') :
    wpAny (model X.prog X.w) A (compareOp .In u (.ref a)) Q E s:=by
  rcases g with⟨kvs,k,e,ey,l⟩ | ⟨kvs,k,b,e,ey,eb,l⟩
  ·subst ey;obtain⟨z,hd,vs,rel,dd⟩:=qx I.hok e;refine wpAny_in_of (Dd ry) hd dd.mapOf ?_;rw[← (rel.val k).qw,← l];exact h _ (I.tok _)
  ·subst ey;cases (show u=Value.ref b from ry);obtain⟨z,hd,xs,rel,dd⟩:=Df I.hok e;refine wpAny_in_heap (tupleKind_room_in1 hu) (zA I.hok eb) hd dd ?_;have q:=(rel.val k).qw;rw[Option.isSome_map] at q;rw[← q,← l];exact h _ (I.tok _)
theorem qaa {Q:Value→Shared→Prop} (hu:A.units+1<cLine) (I:Inv X p_ σ H s) (g:iz H a y o) (ry:RelV y u) (h:∀s',Inv X p_ σ H s'→Q (.bool (!o.isSome)) s') :
    wpAny (model X.prog X.w) A (compareOp .NotIn u (.ref a)) Q E s:=by
  rcases g with⟨kvs,k,e,ey,l⟩ | ⟨kvs,k,b,e,ey,eb,l⟩
  ·subst ey;obtain⟨z,hd,vs,rel,dd⟩:=qx I.hok e;refine wpAny_notIn_of (Dd ry) hd dd.mapOf ?_;rw[← (rel.val k).qw,← l];exact h _ (I.tok _)
  ·subst ey;cases (show u=Value.ref b from ry);obtain⟨z,hd,xs,rel,dd⟩:=Df I.hok e;refine wpAny_notIn_heap (tupleKind_room_in1 hu) (zA I.hok eb) hd dd ?_;have q:=(rel.val k).qw;rw[Option.isSome_map] at q;rw[← q,← l];exact h _ (I.tok _)
theorem Ik {h':Heap} {t':Nat} {ob:HO} (I:Inv X p_ σ H s) (mu:Mut (H a)) (hs:Heap.SameBut a s.heap h') (he:∃q,h'.get? a=some q) (new:b_ X.prog X.w (upd H a ob) h' a ob) :
    Inv X p_ σ (upd H a ob) {s with heap:=h',toks:=t'}:=
  I.write (x:=a) (e:=a) mu (.inl rfl) (fun b q hb z=>(hs.2 b hb).trans z) he new
theorem Ob {P:Program} {w:World} {H':Hp} {h':Heap} {kvs:List (Key×V)} {vs:List (Key×Value)} (z:kvs.length≤sizeLine) (hd:(a == sysModules)=false) (rel:KV kvs vs) (dd:h'.DictOf (bF P w) a vs) :
    b_ P w H' h' a (.dK kvs):=⟨z,hd,vs,rel,dd⟩
theorem Tf {H':Hp} {Q:Unit→Shared→Prop} (hu:A.units+1<cLine) (I:Inv X p_ σ H s) (g:FJ H a y v H') (ry:RelV y u) (rv:RelV v r) (h:∀s',Inv X p_ σ H' s'→Q () s') :
    wpAny (model X.prog X.w) A (setItem (.ref a) u r) Q E s:=by
  rcases g with⟨kvs,k,e,ey,l,eH⟩ | ⟨kvs,k,b,e,ey,eb,l,eH⟩
  · subst ey eH;obtain⟨z,hd,vs,rel,dd⟩:=QT I.hok e;have hz:vs.length≤sizeLine:=by rw[← rel.length];exact z
    have hl:(putK kvs k v).length≤sizeLine:=by have:=tZ kvs k v;omega
    refine wpAny_setItem_pairs (hsz:=hz) (Dd ry) dd fun h' Wx hs=>h _ ?_;have he:∃q,h'.get? a=some q:=let ⟨q,_,_,hq,_⟩:=Wx;⟨q,hq⟩;exact Ik I (by rw[e];exact True.intro) hs he (Ob hl hd (rel.put k rv) Wx)
  · subst ey eH;cases (show u=Value.ref b from ry);obtain⟨z,hd,xs,rel,dd⟩:=qfD I.hok e;have hz:xs.length≤sizeLine:=by rw[← Paired.length rel];exact z
    have hl:(putK kvs k v).length≤sizeLine:=by have:=tZ kvs k v;omega
    refine wpAny_setItem_heap (hsz:=hz) (tupleKind_room_in1 hu) (zA I.hok eb) dd fun h' Wx hs=>h _ ?_;obtain⟨q,es,ep,hq,h2,h3,h4,_,h5⟩:=Wx;refine Ik I (by rw[e];exact True.intro) hs ⟨q,hq⟩ ⟨hl,hd,_,(rel.put k eb rv).keeps fun c ys ec=>?_,q,es,ep,hq,h2,h3,h4,h5⟩;rw[aC (Cw ec e (fun z=>nomatch z))];exact ec
end
def qfE (i:Expr):Prop:=∀ov iv,subscripted i false ov iv=operate [ov,iv] (getItem ov iv)
theorem qab {prog:Program} {w:World} {A:Around} {E:Value→Shared→Prop} {s:Shared} {env:Env} {value slice:Expr} {pos:Pos} {T id:String} {Q:Value→Shared→Prop}
    (hl:typeLookup (.type T) "__getitem__" = pure (some (.builtin id))) (hs:qfE slice)
    (h:wpAny (model prog w) A (eval value env) (fun o s₁=>wpAny (model prog w) A (eval slice env) (fun i s₂=>s₂.TypeIs o T∧wpAny (model prog w) A (getItem o i) Q E s₂) E s₁) E s) :
    wpAny (model prog w) A (eval (.Subscript value slice pos) env) Q E s:=by
  refine Subscript_ (wpAny_mono h (fun o s₁ h₁=>wpAny_mono h₁ (fun i s₂ h₂=>?_) fun _ _ x=>x) fun _ _ x=>x);obtain⟨hT,h₂⟩:=h₂;unfold subscriptTail;refine wpAny_bind ?_;rw[getitemInPython_of_ne hT.not_modules];refine wpAny_bind (wpAny_specialOf hT hl ?_);have fin:wpAny (model prog w) A (subscripted slice false o i) (fun r s₃=>wpAny (model prog w) A (letTemporaryGo value o r >>= fun _=>pure r) Q E s₃) E s₂:=by
    rw[hs o i];exact wpAny_operating (wpAny_mono h₂ (fun r s₃ h₃=>wpAny_bind (wpAny_letTemporaryGo (wpAny_pure h₃))) fun _ _ x=>x)
  first
    | exact wpAny_pure (wpAny_bind fin)
    | exact wpAny_bind (wpAny_pure (wpAny_bind fin))
    | exact wpAny_bind fin
theorem Ky {X:Cx} {p_:List (Addr×Obj)} {σ:St} {H:Hp} {s:Shared} {a:Addr} {y:V} {o:Option V} (I:Inv X p_ σ H s) (g:iz H a y o):s.TypeIs (.ref a) "dict" :=by
  rcases g with⟨kvs,k,e,_,_⟩ | ⟨kvs,k,b,e,_,_,_⟩
  ·obtain⟨_,_,vs,_,dd⟩:=qx I.hok e;exact dd.typeIs
  ·obtain⟨_,_,xs,_,dd⟩:=Df I.hok e;exact dd.typeIs
def Wy (td ty:TE):TE:=fun σ H Q=>td σ H fun x H1=>ty σ H1 fun y H2=>∃a v,x = .ref a∧iz H2 a y (some v)∧Q v H2
def qcW (ty td:TE):TE:=fun σ H Q=>ty σ H fun y H1=>td σ H1 fun x H2=>∃a o,x = .ref a∧iz H2 a y o∧Q (.bl o.isSome) H2
def Il (ty td:TE):TE:=fun σ H Q=>ty σ H fun y H1=>td σ H1 fun x H2=>∃a o,x = .ref a∧iz H2 a y o∧Q (.bl (!o.isSome)) H2
def Wz (td ty tv:TE):TS:=fun D σ H=>tv σ H fun v H1=>td σ H1 fun x H2=>ty σ H2 fun y H3=>∃a H4,x = .ref a∧FJ H3 a y v H4∧D.nx σ H4
section
variable {X:Cx} {o i e value:Expr} {pos pos' tpos:Pos} {td ty tv:TE}
theorem qY (hu:X.A.units+1<cLine) (ho:PE X o td) (hi:PE X i ty) (hs:qfE i):PE X (.Subscript o i pos) (Wy td ty):=by
  intro p_ s σ H Q I h;refine qab PySem.F.slot_dict_getitem.lookup hs (cY (ho p_ s σ H _ I h) fun u s1 ⟨x,H1,I1,rx,q1⟩=>cY (hi p_ s1 σ H1 _ I1 q1) fun iv s2 ⟨y,H2,I2,ry,a,v,ex,g,q2⟩=>?_);subst ex;obtain rfl:u=Value.ref a:=rx;exact⟨Ky I2 g,Td hu I2 g ry fun w' s3 I3 R_=>⟨v,H2,I3,R_,q2⟩⟩
theorem qcX (hu:X.A.units+1<cLine) (hi:PE X i ty) (ho:PE X o td):PC X .In i o (qcW ty td):=by
  intro p_ s σ H Q I h;refine cY (hi p_ s σ H _ I h) fun iv s1 ⟨y,H1,I1,ry,q1⟩=>cY (ho p_ s1 σ H1 _ I1 q1) fun u s2 ⟨x,H2,I2,rx,a,ov,ex,g,q2⟩=>?_;subst ex;obtain rfl:u=Value.ref a:=rx;exact qlg hu I2 g ry fun s3 I3=>⟨.bl ov.isSome,H2,I3,rfl,q2⟩
theorem GF (hu:X.A.units+1<cLine) (hi:PE X i ty) (ho:PE X o td):PC X .NotIn i o (Il ty td):=by
  intro p_ s σ H Q I h;refine cY (hi p_ s σ H _ I h) fun iv s1 ⟨y,H1,I1,ry,q1⟩=>cY (ho p_ s1 σ H1 _ I1 q1) fun u s2 ⟨x,H2,I2,rx,a,ov,ex,g,q2⟩=>?_;subst ex;obtain rfl:u=Value.ref a:=rx;exact qaa hu I2 g ry fun s3 I3=>⟨.bl (!ov.isSome),H2,I3,rfl,q2⟩
theorem uW (hu:X.A.units+1<cLine) (ho:PE X o td) (hi:PE X i ty) (hv:PE X value tv) (hs:swapsWith value (some (.Subscript o i pos')) pos.line X.env=pure false) :
    PS X (.Assign [.Subscript o i pos'] value pos) (Wz td ty tv):=by
  intro p_ s σ H D I h;refine wpAny_Assign_Subscript (cY (hv p_ s σ H _ I h) fun r s1 ⟨v,H1,I1,rv,q1⟩=>cY (ho p_ s1 σ H1 _ I1 q1) fun u s2 ⟨x,H2,I2,rx,q2⟩=>cY (hi p_ s2 σ H2 _ I2 q2) fun iv s3 ⟨y,H3,I3,ry,a,H4,ex,g,q3⟩=>?_) hs;subst ex;obtain rfl:u=Value.ref a:=rx;exact Tf hu I3 g ry rv fun s4 I4=>⟨σ,H4,I4,q3⟩
end
theorem Kz {P:Program} {w:World} {H:Hp} (h:Heap) (hb:sysModules<h.objs.size):b_ P w H (h.push {cls:=.type "dict",data:=.dict #[]}) h.objs.size (.dK []):=
  ⟨Nat.zero_le _,beq_eq_false_iff_ne.mpr (Ne.symm (Nat.ne_of_lt hb)),[],.nil,Heap.DictOf.new h⟩
def WD:TE:=fun _ H Q=>∀p,H p=none→Q (.ref p) (upd H p (.dK []))
section
variable {X:Cx} {pos:Pos}
theorem xR:PE X (.Dict [] [] pos) WD:=fun p_ s σ H Q I h=>
  wpAny_Dict_empty ⟨.ref s.heap.objs.size,_,I.laid (a:=s.heap.objs.size) (o:=.dK []) (t':=s.toks) (fun _ _ q=>Heap.get?_push_of_some _ q) (Nat.le_refl _) (Kz s.heap I.big),rfl,h _ (I.hok.fresh (Nat.le_refl _))⟩
end
def wA:List (TE×TE)→St→Hp→(List (V×V)→Hp→Prop)→Prop
  | [],_,H,Q=>Q [] H
  | (tk,tv)::r,σ,H,Q=>tk σ H fun x H1=>tv σ H1 fun y H2=>wA r σ H2 fun ps H3=>Q ((x,y)::ps) H3
abbrev VV:List (V×V)→List (Value×Value)→Prop:=Paired fun p q=>RelV p.1 q.1∧RelV p.2 q.2
def PPs (X:Cx) (pos:Pos) (keys:List (Option Expr)) (values:List Expr) (Vm:List (TE×TE)):Prop:=
  ∀(p_:List (Addr×Obj)) (s:Shared) (σ:St) (H:Hp) (Q:List (V×V)→Hp→Prop),Inv X p_ σ H s→wA Vm σ H Q→
    wpAny (model X.prog X.w) X.A (evalPairs (pairTrees keys values X.env pos)) (fun vs s'=>∃ps H',Inv X p_ σ H' s'∧VV ps vs∧Q ps H') X.xe s
theorem QV {X:Cx} {pos:Pos}:PPs X pos [] [] []:=fun p_ s σ H Q I h=>pairTrees_nil_walk ⟨[],H,I,.nil,h⟩
theorem KC {X:Cx} {pos:Pos} {k v:Expr} {ks:List (Option Expr)} {vs:List Expr} {tk tv:TE} {Vm:List (TE×TE)} (hk:PE X k tk) (hv:PE X v tv) (hr:PPs X pos ks vs Vm) :
    PPs X pos (some k::ks) (v::vs) ((tk,tv)::Vm):=fun p_ s σ H Q I h=>
  pairTrees_cons_walk (cY (hk p_ s σ H _ I h) fun u s1 ⟨x,H1,I1,rx,q1⟩=>cY (hv p_ s1 σ H1 _ I1 q1) fun w2 s2 ⟨y,H2,I2,ry,q2⟩=>
    cY (hr p_ s2 σ H2 _ I2 q2) fun ws s3 ⟨ps,H3,I3,rel,q3⟩=>⟨(x,y)::ps,H3,I3,.cons ⟨rx,ry⟩ rel,q3⟩)
def t_ (kvs more:List (Key×V)):List (Key×V):=more.foldl (fun acc kv=>putK acc kv.1 kv.2) kvs
theorem KV.merge:∀{more:List (Key×V)} {rs:List (Key×Value)} {kvs:List (Key×V)} {vs:List (Key×Value)},KV more rs→KV kvs vs→KV (t_ kvs more) (merged vs rs):=by
  intro more rs kvs vs r;unfold KV at r
  induction r generalizing kvs vs with
  | nil=>intro q;exact q
  | @cons p q ps qs h t ih=>
    intro r0;have e:KV (putK kvs p.1 p.2) (stored vs q.1 q.2):=by
      have:=r0.put p.1 h.2;rw[← h.1];exact this
    exact ih e
theorem vP:∀(more kvs:List (Key×V)),(t_ kvs more).length≤kvs.length+more.length
  | [],kvs=>by show kvs.length≤kvs.length+0;omega
  | p::r,kvs=>by
    have h1:=vP r (putK kvs p.1 p.2);have h2:=tZ kvs p.1 p.2;show(t_ (putK kvs p.1 p.2) r).length≤_;rw[List.length_cons];omega
theorem Dg {P:Program} {w:World}:∀{kvs:List (Key×V)} {ws:List (Value×Value)},VV (kvs.map fun kv=>(kV kv.1,kv.2)) ws→∃rs,Carries (bF P w) ws rs∧KV kvs rs
  | [],_,r=>by rw[List.map_nil] at r;cases r;exact⟨[],True.intro,.nil⟩
  | p::kvs,_,r=>by
    rw[List.map_cons] at r;cases r with
    | @cons a b as bs h t=>
      obtain⟨rs,c,q⟩:=Dg (P:=P) (w:=w) t;obtain⟨b1,b2⟩:=b;exact⟨(p.1,b2)::rs,⟨Dd h.1,rfl,c⟩,.cons ⟨rfl,h.2⟩ q⟩
def qbC (Vm:List (TE×TE)):TE:=fun σ H Q=>∀p,H p=none→wA Vm σ (upd H p (.dK [])) fun ps H2=>H2 p=some (.dK [])∧∃kvs:List (Key×V),ps=kvs.map (fun kv=>(kV kv.1,kv.2))∧kvs.length≤15∧Q (.ref p) (upd H2 p (.dK (t_ [] kvs)))
theorem QW {X:Cx} {pos:Pos} {keys:List (Option Expr)} {values:List Expr} {Vm:List (TE×TE)} (h:PPs X pos keys values Vm) (hall:keys.all (·.isSome)=true) (hl:keys.length=values.length) (h0:keys≠[])
    (h15:keys.length≤15):PE X (.Dict keys values pos) (qbC Vm):=by
  intro p_ s σ H Q I q;have hn:=I.hok.fresh (Nat.le_refl s.heap.objs.size);have I1:=I.laid (a:=s.heap.objs.size) (o:=.dK []) (h':=s.heap.push {cls:=.type "dict",data:=.dict #[]}) (t':=s.toks) (fun _ _ q=>Heap.get?_push_of_some _ q) (Nat.le_refl _) (Kz s.heap I.big);refine wpAny_Dict_walk (knd:=bF X.prog X.w) hall hl h0 h15 (cY (h p_ _ σ _ _ I1 (q _ hn)) fun ws s2 zz=>?_);obtain⟨ps,H2,I2,rel,e,kvs,ep,lk,q2⟩:=zz;subst ep;obtain⟨rs,c,rk⟩:=Dg (P:=X.prog) (w:=X.w) rel;obtain⟨z,hd,vs0,r0,dd⟩:=QT I2.hok e;cases r0;refine⟨rs,c,dd,fun h' Wx hs=>⟨.ref s.heap.objs.size,_,?_,rfl,q2⟩⟩;have hz:(t_ [] kvs).length≤sizeLine:=by
    have h1:=vP kvs [];rw[List.length_nil] at h1;rw[sizeLine_eq];omega
  have he:∃q,h'.get? s.heap.objs.size=some q:=let ⟨q,_,_,hq,_⟩:=Wx;⟨q,hq⟩;exact Ik I2 (by rw[e];exact True.intro) hs he (Ob hz hd (rk.merge .nil) Wx)
structure M2 (X:Cx) (o:Expr) (m:Str) (apos:Pos) (e f:Expr) (cpos:Pos):Prop where
  base:attributeBase o m X.env (eval o X.env)=eval o X.env
  few:((backTo cpos (starEach [e,f] X.env)).all (fun x=>!x.1) && (backToKw cpos (keywordEach [] X.env)).all (fun x=>x.1.isSome)
    && decide (([e,f]:List Expr).length+([]:List Keyword).length+(if ([]:List Keyword).isEmpty then 0 else 1)<30))=true
  line:(apos.endLine == cpos.line)=true
  trees:backTo cpos (starEach [e,f] X.env)=[(false,eval e X.env),(false,eval f X.env)]
def IsD (H:Hp) (a:Addr):Prop:=(∃kvs,Rd H a (.dK kvs))∨∃kvs,Rd H a (.dT kvs)
theorem WK {X:Cx} {p_:List (Addr×Obj)} {σ:St} {H:Hp} {s:Shared} {a:Addr} (I:Inv X p_ σ H s) (d:IsD H a) :
    s.TypeIs (.ref a) "dict" ∧(∀b,Value.ref a = .ref b→∃ob,s.heap.get? b=some ob∧ob.dict=none)∧(a == sysModules)=false:=by
  rcases d with⟨kvs,e⟩ | ⟨kvs,e⟩
  ·obtain⟨_,hd,vs,_,dd⟩:=qx I.hok e;refine⟨dd.typeIs,fun b q=>?_,hd⟩;cases q;obtain⟨ob,_,_,h1,h2,_⟩:=dd;exact⟨ob,h1,h2.2.1⟩
  ·obtain⟨_,hd,xs,_,dd⟩:=Df I.hok e;refine⟨dd.typeIs,fun b q=>?_,hd⟩;cases q;obtain⟨ob,_,_,h1,h2,_⟩:=dd;exact⟨ob,h1,h2.2.1⟩
section
variable {X:Cx} {p_:List (Addr×Obj)} {σ:St} {H:Hp} {s:Shared} {a:Addr} {y d:V} {u r:Value} {o:Option V} {A:Around} {E:Value→Shared→Prop}
theorem qcY {Q:Value→Shared→Prop} (hu:A.units+1<cLine) (I:Inv X p_ σ H s) (g:iz H a y o) (ry:RelV y u) (rd:RelV d r) (h:∀w' s',Inv X p_ σ H s'→RelV (o.getD d) w'→Q w' s') :
    wpAny (model X.prog X.w) A (call (.builtin "dict.get") [.ref a,u,r]) Q E s:=by
  rcases g with⟨kvs,k,e,ey,l⟩ | ⟨kvs,k,b,e,ey,eb,l⟩
  ·subst ey;obtain⟨z,hd,vs,rel,dd⟩:=qx I.hok e;refine call_meetsIn PySem.F.slot_dict_get dd.typeIs PySem.F.entry_dict_get (PySem.F.args_dict_get_3 _ _ _) (meets_dict_get_default (bF X.prog X.w) a (Dd ry) hd r) ⟨_,dd.mapOf,h _ _ (I.tok _) ?_⟩;rw[l];exact(rel.val k).getD rd
  ·subst ey;cases (show u=Value.ref b from ry);obtain⟨z,hd,xs,rel,dd⟩:=Df I.hok e;refine call_meetsIn PySem.F.slot_dict_get dd.typeIs PySem.F.entry_dict_get (PySem.F.args_dict_get_3 _ _ _) (meetsH_dict_get_default (tupleKind (bF X.prog X.w)) a b hd r) ⟨tupleKind_room_in1 hu,k,xs,zA I.hok eb,dd,h _ _ (I.tok _) ?_⟩;rw[l];exact(rel.val k).getD rd
end
def Oc (td ty tx:TE):TE:=fun σ H Q=>td σ H fun x H1=>∃a,x = .ref a∧IsD H1 a∧ty σ H1 fun y H2=>tx σ H2 fun z H3=>∃o,iz H3 a y o∧Q (o.getD z) H3
section
variable {X:Cx} {o e f:Expr} {apos cpos:Pos} {td ty tx:TE}
theorem Dh (hu:X.A.units+1<cLine) (ho:PE X o td) (he:PE X e ty) (hf:PE X f tx) (m:M2 X o "get" apos e f cpos):PE X (.Call (.Attribute o "get" apos) [e,f] [] cpos) (Oc td ty tx):=by
  intro p_ s σ H Q I h;refine wpAny_Call_method m.base m.few m.line PySem.F.plainAttrs_dict PySem.F.slot_dict_get PySem.F.type_dict_get (cY (ho p_ s σ H _ I h) fun u s1 zz=>?_);obtain⟨x,H1,I1,rx,a,ex,d,q1⟩:=zz;subst ex;obtain rfl:u=Value.ref a:=rx;obtain⟨t1,t2,_⟩:=WK I1 d;refine⟨t1,t2,?_⟩;rw[m.trees];refine Calls.callWith_builtin rfl (Calls.evalArgs_plain (Calls.spliced_cons (cY (he p_ s1 σ H1 _ I1 q1) fun iv s2 ⟨y,H2,I2,ry,q2⟩=>
    Calls.spliced_cons (cY (hf p_ s2 σ H2 _ I2 q2) fun fv s3 ⟨z,H3,I3,rz,ov,g,q3⟩=>Calls.spliced_nil ?_))))
  exact qcY hu I3 g ry rz fun w' s4 I4 R_=>⟨_,H3,I4,R_,q3⟩
end
section
variable {X:Cx} {p_:List (Addr×Obj)} {σ:St} {H:Hp} {s:Shared} {a:Addr} {kvs:List (Key×V)} {A:Around} {E:Value→Shared→Prop}
theorem WL {Q:Value→Shared→Prop} (I:Inv X p_ σ H s) (e:Rd H a (.dK kvs)) (h:∀p s',H p=none→Inv X p_ σ (upd H p (.dK kvs)) s'→Q (.ref p) s'):wpAny (model X.prog X.w) A (call (.type "dict") [.ref a]) Q E s:=by
  obtain⟨z,hd,vs,rel,dd⟩:=qx I.hok e;refine kt_call_dict hd dd (by rw[← rel.length];exact z) fun h' Wx hs=>?_;refine h _ _ (I.hok.fresh (Nat.le_refl _)) (I.laid (a:=s.heap.objs.size) (o:=.dK kvs) (t':=s.toks) (fun b q hq=>?_) (Nat.le_refl _) (Ob z (beq_eq_false_iff_ne.mpr (Ne.symm (Nat.ne_of_lt I.big))) rel Wx));exact(hs.2 b (Nat.ne_of_lt (Heap.lt_size hq))).trans (Heap.get?_push_of_some _ hq)
end
structure Nm2 (mg:Str→Option Value):Prop where
  enumerate:mg "enumerate" = none
  any:mg "any" = none
  dict:mg "dict" = none
  sorted:mg "sorted" = none
  repr:mg "repr" = none
  bool:mg "bool" = none
theorem Inv.QX {X:Cx} {p_:List (Addr×Obj)} {σ:St} {H:Hp} {s:Shared} {h2:Heap} {t':Nat} {x y:V} {u u':Value} (I:Inv X p_ σ H s) (I1:Inv X p_ σ H {s with heap:=h2,toks:=t'}) (ru:RelV x u) (ru':RelV y u')
    (CV:h2.get? s.heap.objs.size=some {cls:=.type "tuple",data:=.seq #[u,u']}):Inv X p_ σ (upd H s.heap.objs.size (.tup [x,y])) {s with heap:=h2,toks:=t'}:=by
  have hfr:H s.heap.objs.size=none:=I.hok.fresh (Nat.le_refl _);refine⟨I1.ok,I1.os,I1.bare,⟨I1.base.keep,I1.base.slot,fun c o e n hx=>?_,I1.base.there,fun c zs e=>?_,fun c o v e=>?_,fun c qs e=>?_⟩,I1.loc,I1.cell,?_,fun v c e=>?_,fun v hv=>?_,?_,I1.len⟩
  · rw[aC (fun e'=>?_)]
    ·exact I1.base.free c o e n hx
    ·exact absurd (Nat.lt_of_lt_of_le (Heap.lt_size e) I.sz) (by rw[e'];exact Nat.lt_irrefl _)
  ·have e':=I1.base.tups c zs e;rw[aC (aP e' hfr)];exact e'
  ·have e':=I1.base.oR c o v e;rw[aC (aP e' hfr)];exact e'
  ·obtain⟨m,e'⟩:=I1.base.qm c qs e;exact⟨m,by rw[aC (aP e' hfr)];exact e'⟩
  ·rw[aC (Nat.ne_of_lt I.lt)];exact I1.free
  ·obtain⟨w',qc⟩:=I.cell v c e;rw[aC (Nat.ne_of_lt qc.lt)];exact I1.iT v c e
  ·obtain⟨f1,f2,f3⟩:=I1.pin v hv;refine⟨f1,?_,f3⟩;rw[aC (Nat.ne_of_lt (Heap.lt_size (I.pin v hv).1))];exact f2
  · intro c v e
    by_cases hcs:c=s.heap.objs.size
    ·subst hcs;rw[ak] at e;cases e;exact⟨by show 2≤sizeLine;rw[sizeLine_eq];decide,[u,u'],.cons ru (.cons ru' .nil),⟨_,CV,rfl,0,rfl⟩⟩
    · rw[aC hcs] at e;refine(I1.hok c v e).stay (fun _ _ _ qq=>qq) (fun d qd=>?_) fun d zs qd=>?_
      ·rw[aC (aP qd hfr)];exact qd
      ·rw[aC (aP qd hfr)];exact qd
def Ite (K:W.Frag) (a:Addr):It:=
  ⟨fun i H=>∃xs x,bw K H a xs∧xs[i]? = some x,
   fun i H v H'=>∃t x,v = .ref t∧H t=none∧H'=upd H t (.tup [.int i,x])∧∀xs,bw K H a xs→xs[i]? = some x,
   fun i H=>∃xs,bw K H a xs∧xs.length≤i⟩
structure qcZ (e it a:Addr) (i:Nat) (h:Heap):Prop where
  he:∃old,IsEnum h e it i old
  hi:h.IsListIter it a i
theorem Tg {P:Program} {w:World} {K:W.Frag} {es:List Expr} {k:Nat} {pos:Pos} {e it a:Addr} (nei:e≠it) :
    Turn P w K (.Tuple es k pos) (Ite K a) [e,it] e (qcZ e it a) where
  mem:=by simp
  obj:=fun i h st c hc=>by
    simp only[List.mem_cons,List.not_mem_nil,or_false] at hc
    rcases hc with rfl | rfl
    ·obtain⟨old,q⟩:=st.he;exact⟨_,q,fun v e=>nomatch e⟩
    ·obtain⟨o,e,_,d⟩:=st.hi;exact⟨o,e,fun v y=>by rw[d] at y;cases y⟩
  keep:=fun i h h' st kk=>by
    obtain⟨old,q⟩:=st.he;exact⟨⟨old,kk e (by simp) _ q⟩,st.hi.at fun o z=>kk it (by simp) o z⟩
  item:=by
    intro X hP hw hK hc i p_ s σ H E I hf st hg;subst hP hw hK;obtain⟨xs,x,qa,hx⟩:=hg;obtain⟨its,rv,pl,hz1⟩:=I.list qa;obtain⟨u,hu,ru⟩:=rv.get hx;obtain⟨old,hE⟩:=st.he;obtain⟨o1,e1,c1,_⟩:=id st.hi;refine wpAny_pyNext_enum_item hE st.hi pl.isList (x:=u) (by simpa using hu) nei fun h' a1 a2 a3 a4 kk=>?_;refine⟨_,rfl,wpAny_letOwnedTupleGo_enum a1 fun h2 b1 sb=>?_⟩;have lt:∀{c o},s.heap.get? c=some o→s.heap.objs.size≠c:=fun e=>Nat.ne_of_gt (Heap.lt_size e);have hn:H s.heap.objs.size=none:=I.hok.fresh (Nat.le_refl _);have kk2:∀c o,c∉[e,it]→s.heap.get? c=some o→h2.get? c=some o:=fun c o hc z=>by
      simp only[List.mem_cons,List.not_mem_nil,or_false,not_or] at hc;exact(sb.2 c hc.1).trans (kk c o hc.1 hc.2 z)
    have I1:Inv X p_ σ H {s with heap:=h2,toks:=s.toks+1}:=I.uV kk2 hf;have CV:=sb.extBut _ _ (lt hE) a3;have I2:Inv X p_ σ (upd H s.heap.objs.size (.tup [.int i,x])) {s with heap:=h2,toks:=s.toks+1}:=I.QX I1 ⟨_,rfl⟩ ru CV;refine⟨.ref s.heap.objs.size,_,I2,rfl,⟨s.heap.objs.size,x,rfl,hn,rfl,fun xs' q'=>by rw[I.xr q' qa];exact hx⟩,?_,fun c hcm=>?_⟩
    ·exact⟨⟨_,b1⟩,a2.extBut sb.extBut nei.symm⟩
    · have hne:c≠s.heap.objs.size:=by
        simp only[List.mem_cons,List.not_mem_nil,or_false] at hcm
        rcases hcm with rfl | rfl
        ·exact(lt hE).symm
        ·exact(lt e1).symm
      rw[aC hne];exact(hf c hcm).1
  done:=by
    intro X hP hw hK hc i p_ s σ H E I hf st hg;subst hP hw hK;obtain⟨xs,qa,hl⟩:=hg;obtain⟨its,rv,pl,hz1⟩:=I.list qa;obtain⟨old,hE⟩:=st.he;have l1:=rv.length;refine wpAny_pyNext_enum_end (I.ok.hd hc) hE st.hi pl.isList (by simp;omega) fun h' kk=>⟨rfl,I.uV (t':=s.toks) (fun c o hcm z=>?_) hf⟩;simp only[List.mem_cons,List.not_mem_nil,or_false,not_or] at hcm;exact kk c o hcm.2 z
  self:=fun _ _ _ _ _ st h=>by
    obtain⟨old,q⟩:=st.he;exact wpAny_pyIter_enum q h
section
variable {X:Cx} {K:W.Frag}
def WM (K:W.Frag) (t:TA):TI:=fun σ H R=>t σ H fun vs H1=>∃a xs,vs=[.ref a]∧bw K H1 a xs∧R (Ite K a) H1
theorem Ti:bootBuiltins "enumerate" = some (.type "enumerate"):=by decide+kernel
theorem Im (hK:X.K=K) {es:List Expr} {k:Nat} {pos':Pos} {a:Expr} {ta:TA} {p pos:Pos} (hg:Gl X "enumerate") (hm:X.mg "enumerate" = none) (ha:PA X [a] ta)
    (hs:starEach [a] X.env=[(false,eval a X.env)]:=by rfl) :
    PI X (.Tuple es k pos') (.Call (.Name "enumerate" p) [a] [] pos) (WM K ta):=by
  subst hK;intro p_ s σ H R I h;refine Call_ (qQ I hg hm Ti (PyProof.Rows.callWith_type1 (cY (ha pos p_ s σ H _ I h) fun us s1 zz=>?_) (by rw[hs];rfl) (by rfl)));obtain⟨vs,H1,I1,r1,q1⟩:=zz;obtain⟨l1,xs,e,qa,q⟩:=q1;subst e;obtain⟨u,rfl,r⟩:=vals1 r1;obtain rfl:u=Value.ref l1:=r;obtain⟨its,rv,pl,hz1⟩:=I1.list qa;refine call_enumerate_list pl.isList fun h' b1 b2 b3 kk=>?_;refine wpAny_pyIter_enum (s:={s1 with heap:=h'}) b1 ?_;have I2:Inv X p_ σ H1 {s1 with heap:=h'}:=I1.kept (t':=s1.toks) kk;refine⟨s1.heap.objs.size+1,[s1.heap.objs.size+1,s1.heap.objs.size],_,_,H1,rfl,I2,Tg (Nat.succ_ne_self _),⟨⟨_,b1⟩,b2⟩,fun c hc=>?_,q⟩;have hle:s1.heap.objs.size≤c:=by
    simp only[List.mem_cons,List.not_mem_nil,or_false] at hc
    rcases hc with rfl | rfl <;> first | exact Nat.le_add_right _ _ | exact Nat.le_refl _
  exact I1.A_ hle (I1.hok.fresh hle)
end
section
variable {X:Cx} {K:W.Frag} {tg:Expr}
theorem QZ (hK:X.K=K) {es:List Expr} {k:Nat} {pos':Pos} {a b:Expr} {ta:TA} {p pos:Pos} (hg:Gl X "zip") (hm:X.mg "zip" = none) (ha:PA X [a,b] ta)
    (hs:starEach [a,b] X.env=[(false,eval a X.env),(false,eval b X.env)]:=by rfl) (hs2:starEach [b] X.env=[(false,eval b X.env)]:=by rfl) :
    PI X (.Tuple es k pos') (.Call (.Name "zip" p) [a,b] [] pos) (Z4 K ta):=by subst hK;exact qcN hg hm ha hs hs2
theorem Io (hK:X.K=K) {o:Expr} {to:TE} {name:Str} {apos cpos:Pos} {T id:String} {r:V→List V→Hp→VK→Prop} (pa:PlainAttrs T) (slot:Slot T name id) (hty:typeOf (.builtin id)=pure (.type "method_descriptor")) (hm:Nb X id r) (ho:PE X o to)
    (hbase:attributeBase o name X.env (eval o X.env)=eval o X.env:=by rfl) (hline:(apos.endLine == cpos.line)=true:=by rfl):PE X (.Call (.Attribute o name apos) [] [] cpos) (qcG K T r to):=by subst hK;exact qcH pa slot hty hm ho hbase hline
theorem Q0 (hK:X.K=K) {o value:Expr} {ta tv:TE} {f:Str} {pos pos':Pos} (ha:PE X o ta) (hv:PE X value tv) (hs:swapsWith value (some (.Attribute o f pos')) pos.line X.env=pure false):PS X (.Assign [.Attribute o f pos'] value pos) (qcy K ta tv f):=by subst hK;exact qcA ha hv hs
end
@[simp ↓] theorem qlh (i:Nat) σ H Q:qcd i σ H Q=(∃v,σ[i]? = some (some v)∧Q v H):=rfl
@[simp ↓] theorem qpc (v:V) z0 H Q:tC v z0 H Q=(Q v H):=rfl
@[simp ↓] theorem qpd (t:TE) σ H Q:tB t σ H Q=(t σ H fun x H1=>∃c,x = .bl c∧Q c H1):=rfl
@[simp ↓] theorem qli (t:TT) σ H Q:qfb t σ H Q=(t σ H fun c H1=>Q (!c) H1):=rfl
@[simp ↓] theorem qj1 (ta:TE) σ H Q:Vx ta σ H Q=(ta σ H fun x H1=>∃c,x = .bl c∧Q (.bl (!c)) H1):=rfl
@[simp ↓] theorem qj2 D σ H:qbs  D σ H=(D.nx σ H):=rfl
@[simp ↓] theorem qlj (t u:TS) D σ H:qfc t u D σ H=(t {D with nx:=u D} σ H):=rfl
@[simp ↓] theorem qj3 (te:TE) D σ H:qbt te D σ H=(te σ H fun _ H1=>D.nx σ H1):=rfl
@[simp ↓] theorem qlk (te:TE) D σ H:qfd te D σ H=(te σ H D.rt):=rfl
@[simp ↓] theorem qfF z0 z1 z2:Vy  z0 z1 z2=(False):=rfl
@[simp ↓] theorem qj4 (i:Nat) v σ H Q:Qu i v σ H Q=(Q (σ.set i (some v)) H):=rfl
@[simp ↓] theorem qll vs σ H Q:qcj  vs σ H Q=(vs=[]∧Q σ H):=rfl
@[simp ↓] theorem qj5 (t:TG) (u:J2) vs σ H Q:Vz t u vs σ H Q=(∃v r,vs=v::r∧t v σ H fun σ' H'=>u r σ' H' Q):=rfl
@[simp ↓] theorem qlm (K:W.Frag) (n:Nat) (t:J2) v σ H Q:ZC K n t v σ H Q=(∃a xs,v = .ref a∧dW K H a xs∧xs.length=n∧t xs σ H Q):=rfl
@[simp ↓] theorem qln (to ti:TE) (t:RV) v σ H Q:qff to ti t v σ H Q=(to σ H fun o H1=>ti σ H1 fun i H2=>t o i v H2 fun H3=>Q σ H3):=rfl
@[simp ↓] theorem qlo (te:TE) (g:TG) D σ H:ZD te g D σ H=(te σ H fun x H1=>g x σ H1 D.nx):=rfl
@[simp ↓] theorem qlp (i:Nat) (te:TE) (ti:Zz) D σ H:qcl i te ti D σ H=(∃x,σ[i]? = some (some x)∧te σ H fun y H1=>ti x y H1 fun z H2=>D.nx (σ.set i (some z)) H2):=rfl
@[simp ↓] theorem qoI (f:Int→Int→Int) x y H Q:ipI f x y H Q=(∃i j,x = .int i∧y = .int j∧Q (.int (f i j)) H):=rfl
@[simp ↓] theorem qj6 (K:W.Frag) (tl:TE) σ H R:Qv K tl σ H R=(tl σ H fun x H1=>∃a,x = .ref a∧(∃xs,bw K H1 a xs)∧R (Vk K a) H1):=rfl
@[simp ↓] theorem qlq (K:W.Frag) (tl:TE) σ H R:qco K tl σ H R=(tl σ H fun x H1=>∃a,x = .ref a∧(∃xs,dW K H1 a xs)∧R (ZG K a) H1):=rfl
@[simp ↓] theorem qj7 (ta:TA) σ H R:VG ta σ H R=(ta σ H fun vs H1=>∃j:Int,vs=[.int j]∧-(2 ^ 62)≤j∧j<2 ^ 62∧R (M_ 0 j.toNat) H1):=rfl
@[simp ↓] theorem qj8 (ta:TA) σ H R:VH ta σ H R=(ta σ H fun vs H1=>∃i j:Int,vs=[.int i,.int j]∧(-(2 ^ 62)≤i∧i<2 ^ 62∧-(2 ^ 62)≤j∧j<2 ^ 62)∧R (M_ i (j - i).toNat) H1):=rfl
@[simp ↓] theorem qoJ (r:R2) (ta tb:TE) σ H Q:tOp r ta tb σ H Q=(ta σ H fun x H1=>tb σ H1 fun y H2=>r x y H2 Q):=rfl
@[simp ↓] theorem qj9 (t:TE) σ H Q:QB t σ H Q=(t σ H fun x H'=>∃k,x = .bl k∧Q k H'):=rfl
@[simp ↓] theorem qlr (K:W.Frag) (ta:TE) (f:Str) σ H Q:ZR K ta f σ H Q=(ta σ H fun x H1=>∃a C dx fs v,x = .ref a∧H1 a=some (.ins C dx fs)∧Cls K C∧mU K C f∧fs.lookup f=some v∧Q v H1):=rfl
@[simp ↓] theorem qls (K:W.Frag) (ta tv:TE) (f:Str) D σ H:qcy K ta tv f D σ H=(tv σ H fun y H1=>ta σ H1 fun x H2=>∃a C dx fs,x = .ref a∧H2 a=some (.ins C dx fs)∧Cls K C∧mU K C f∧fs.length<1000∧D.nx σ (upd H2 a (.ins C dx (lF f y fs)))):=rfl
@[simp ↓] theorem qlt z0 H Q:V3  z0 H Q=(Q [] H):=rfl
@[simp ↓] theorem qj_ (ta:TE) (tr:TA) σ H Q:QD ta tr σ H Q=(ta σ H fun x H1=>tr σ H1 fun xs H2=>Q (x::xs) H2):=rfl
@[simp ↓] theorem qlu (t:TA) σ H Q:qfo t σ H Q=(t σ H fun xs H1=>xs.length≤sizeLine∧∀p,H1 p=none→Q (.ref p) (upd H1 p (.tup xs))):=rfl
@[simp ↓] theorem qlv (t:TA) σ H Q:qfp t σ H Q=(t σ H fun xs H1=>xs.length≤sizeLine∧∀p,H1 p=none→Q (.ref p) (upd H1 p (.lst xs))):=rfl
@[simp ↓] theorem qoK (r:List V→Hp→VK→Prop) (t:TA) σ H Q:tCB r t σ H Q=(t σ H fun vs H1=>r vs H1 Q):=rfl
@[simp ↓] theorem qeZ z0 H Q:QF  z0 H Q=(Q none H):=rfl
@[simp ↓] theorem qka (t:TE) σ H Q:V9 t σ H Q=(t σ H fun x H1=>∃i,x = .int i∧Q (some i) H1):=rfl
@[simp ↓] theorem qoL (r:V→Option Int→Option Int→Hp→VK→Prop) (te:TE) (tl th:TO) σ H Q:tSl r te tl th σ H Q=(te σ H fun x H1=>tl σ H1 fun l H2=>th σ H2 fun u H3=>r x l u H3 Q):=rfl
@[simp ↓] theorem qlw (K:W.Frag) (T:String) (r:V→List V→Hp→VK→Prop) (to:TE) σ H Q:qcG K T r to σ H Q=(to σ H fun x H1=>Ss K T x H1∧r x [] H1 Q):=rfl
@[simp ↓] theorem qoM (K:W.Frag) (T:String) (r:V→List V→Hp→VK→Prop) (to:TE) (t:TA) σ H Q:tBM K T r to t σ H Q=(to σ H fun x H1=>Ss K T x H1∧t σ H1 fun xs H2=>r x xs H2 Q):=rfl
@[simp ↓] theorem qlx z0 H Q:qfw  z0 H Q=(Q true H):=rfl
@[simp ↓] theorem qly (tl:TE) σ H R:qcL tl σ H R=(tl σ H fun x H1=>∃z,x = .str z∧R (Its z) H1):=rfl
@[simp ↓] theorem qlz (K:W.Frag) (t:TA) σ H R:Z4 K t σ H R=(t σ H fun vs H1=>∃a b xs ys,vs=[.ref a,.ref b]∧bw K H1 a xs∧bw K H1 b ys∧R (Itz K a b) H1):=rfl
@[simp ↓] theorem qlA (K:W.Frag) (tl:TE) σ H R:qcT K tl σ H R=(tl σ H fun x H1=>∃b p,x = .ref p∧(∃xs,SqB b K H1 p xs)∧R (Itq b K p) H1):=rfl
structure qlB (Q:VK) where
  n:Nat
structure Tj (g:TG) (tb:TS) (D:Ends) where
  n:Nat
structure qfG (c:TT) (tb:TS) (D:Ends) where
  n:Nat
structure qac (g:TG) (tt:TT) (te:TE) (Q:Hp→Prop) where
  n:Nat
structure Od (A B:Prop) where
  n:Nat
def Tn (sp:Sp) (vs:List V) (H:Hp) (Q:VK) (d:qlB Q) (E:XK):Prop:=sp vs H Q E
def tFr (J:It) (g:TG) (tb:TS) (D:Ends) (d:Tj g tb D) (σ:St) (H:Hp):Prop:=qcU J g tb D σ H
def tWh (c:TT) (tb:TS) (D:Ends) (d:qfG c tb D) (σ:St) (H:Hp):Prop:=Hy c tb D σ H
def tCm (own:List Str) (caps:List Nat) (J:It) (g:TG) (tt:TT) (te:TE) (Q:Hp→Prop) (d:qac g tt te Q) (D:Addr) (σ:St) (H:Hp):Prop:=ni own caps J g tt te D σ H Q
def gM (b:Bool) (A B:Prop) (d:Od A B):Prop:=if b=true then A else B
@[simp] theorem qoN (A B:Prop) (d:Od A B):gM true A B d=A:=rfl
@[simp] theorem qoO (A B:Prop) (d:Od A B):gM false A B d=B:=rfl
theorem gM.of {b:Bool} {A B:Prop} {d:Od A B} (h1:b=true→A) (h2:b=false→B):gM b A B d:=by
  cases b with
  | true=>exact h1 rfl
  | false=>exact h2 rfl
theorem gM.pos {b:Bool} {A B:Prop} {d:Od A B} (h:b=true) (h1:A):gM b A B d:=by subst h;exact h1
theorem gM.neg {b:Bool} {A B:Prop} {d:Od A B} (h:b=false) (h1:B):gM b A B d:=by subst h;exact h1
@[simp ↓] theorem qkb (sp:Sp) (zp:List V) (E:XK) (t:TA) (σ:St) (H:Hp) (Q:VK):V4 sp zp E t σ H Q=t σ H fun vs H1=>Tn sp (vs++zp) H1 Q ⟨0⟩ E:=rfl
@[simp ↓] theorem qkc (C:Addr) (m:Str) (sp:Sp) (zp:List V) (E:XK) (ta:TE) (t:TA) (σ:St) (H:Hp) (Q:VK):V5 C m sp zp E ta t σ H Q=ta σ H fun x H1=>∃a dx fs,x = .ref a∧H1 a=some (.ins C dx fs)∧fs.lookup m=none∧t σ H1 fun vs H2=>Tn sp (x::(vs++zp)) H2 Q ⟨0⟩ E:=rfl
@[simp ↓] theorem qkd (C:Addr) (sp:Sp) (zp:List V) (E:XK) (t:TA) (σ:St) (H:Hp) (Q:VK):V6 C sp zp E t σ H Q=t σ H fun vs H1=>∀x dx,H1 x=none→H1 dx=none→dx≠x→
  Tn sp (.ref x::(vs++zp)) (upd (upd H1 dx (.own x)) x (.ins C dx [])) (fun v H2=>v = .non∧Q (.ref x) H2) ⟨0⟩ E:=rfl
@[simp ↓] theorem qlC (wi:TI) (g:TG) (tb:TS) (D:Ends) (σ:St) (H:Hp):qfg wi g tb D σ H=wi σ H fun J H1=>tFr J g tb D ⟨0⟩ σ H1:=rfl
@[simp ↓] theorem qfH (c:TT) (tb:TS) (D:Ends) (σ:St) (H:Hp):Hy c tb D σ H=tWh c tb D ⟨0⟩ σ H:=rfl
@[simp ↓] theorem qke (own:List Str) (caps:List Nat) (wi:TI) (g:TG) (tt:TT) (te:TE) (σ:St) (H:Hp) (Q:VK):Wi own caps wi g tt te σ H Q=wi σ H fun J H1=>∀D,H1 D=none→tCm own caps J g tt te (Q (.ref D)) ⟨0⟩ D σ (upd H1 D (.lst [])):=rfl
@[simp ↓] theorem qlD (c:TT) (t u:TS) (D:Ends) (σ:St) (H:Hp):qfe c t u D σ H=c σ H fun b H1=>gM b (t D σ H1) (u D σ H1) ⟨0⟩:=rfl
@[simp ↓] theorem qoP (c:TT) (t u:TE) (σ:St) (H:Hp) (Q:VK):tIf c t u σ H Q=c σ H fun b H1=>gM b (t σ H1 Q) (u σ H1 Q) ⟨0⟩:=rfl
@[simp ↓] theorem qlE (t u:TT) (σ:St) (H:Hp) (Q:Bool→Hp→Prop):qfa t u σ H Q=t σ H fun c H1=>gM c (u σ H1 Q) (Q false H1) ⟨0⟩:=rfl
@[simp ↓] theorem qoQ (t u:TT) (σ:St) (H:Hp) (Q:Bool→Hp→Prop):tOr t u σ H Q=t σ H fun c H1=>gM c (Q true H1) (u σ H1 Q) ⟨0⟩:=rfl
@[simp ↓] theorem qkf (ta tb:TE) (σ:St) (H:Hp) (Q:VK):Vw ta tb σ H Q=ta σ H fun x H1=>∃c,x = .bl c∧gM c (tb σ H1 Q) (Q (.bl false) H1) ⟨0⟩:=rfl
@[simp ↓] theorem qfI (r r':R2) (ta tb tc:TE) (σ:St) (H:Hp) (Q:VK):Hz r r' ta tb tc σ H Q=ta σ H fun x H1=>tb σ H1 fun y H2=>r x y H2 fun z H3=>∃k,z = .bl k∧gM k (tc σ H3 fun z H4=>r' y z H4 Q) (Q (.bl false) H3) ⟨0⟩:=rfl
def Ad (g:TG) (tt:TT) (te:TE) (D:Addr) (N:St→Hp→Prop) (x:V) (σ:St) (H:Hp):Prop:=
  g x σ H fun σ2 H3=>tt σ2 H3 fun b H4=>gM b (te σ2 H4 fun y H5=>∃ys,H5 D=some (.lst ys)∧ys.length<sizeLine∧N σ2 (upd H5 D (.lst (ys++[y])))) (N σ2 H4) ⟨0⟩
@[simp ↓] theorem qkg (g:TG) (tt:TT) (te:TE) (D:Addr) (N:St→Hp→Prop) (x:V) (σ:St) (H:Hp):Ad g tt te D N x σ H =
  (g x σ H fun σ2 H3=>tt σ2 H3 fun b H4=>gM b (te σ2 H4 fun y H5=>∃ys,H5 D=some (.lst ys)∧ys.length<sizeLine∧N σ2 (upd H5 D (.lst (ys++[y])))) (N σ2 H4) ⟨0⟩):=rfl
@[simp ↓] theorem qlF {α:Type} (a b:α) (R:α→α→Prop):(∃v w,[a,b]=[v,w]∧R v w)=R a b:=by
  refine propext ⟨?_,fun h=>⟨a,b,rfl,h⟩⟩;rintro⟨_,_,e,h⟩;cases e;exact h
@[simp] theorem qkh {α β:Type} (a:α) (b:β) (R:α→β→Prop):(∃v w,(a=v∧b=w)∧R v w)=R a b:=by
  refine propext ⟨?_,fun h=>⟨a,b,⟨rfl,rfl⟩,h⟩⟩;rintro⟨_,_,⟨rfl,rfl⟩,h⟩;exact h
@[simp] theorem sz0:(0≤sizeLine)=True:=eq_true (by decide)
@[simp] theorem sz1:(1≤sizeLine)=True:=eq_true (by decide)
@[simp] theorem sz2:(2≤sizeLine)=True:=eq_true (by decide)
@[simp] theorem sz3:(3≤sizeLine)=True:=eq_true (by decide)
@[simp] theorem sz4:(4≤sizeLine)=True:=eq_true (by decide)
@[simp] theorem sz5:(5≤sizeLine)=True:=eq_true (by decide)
@[simp] theorem sz6:(6≤sizeLine)=True:=eq_true (by decide)
@[simp] theorem sz7:(7≤sizeLine)=True:=eq_true (by decide)
@[simp] theorem sz8:(8≤sizeLine)=True:=eq_true (by decide)
@[simp] theorem sz9:(9≤sizeLine)=True:=eq_true (by decide)
@[simp] theorem qpe:(10≤sizeLine)=True:=eq_true (by decide)
@[simp] theorem qpf:(11≤sizeLine)=True:=eq_true (by decide)
@[simp] theorem qpg:(12≤sizeLine)=True:=eq_true (by decide)
@[simp] theorem qph:(13≤sizeLine)=True:=eq_true (by decide)
@[simp] theorem qpi:(14≤sizeLine)=True:=eq_true (by decide)
@[simp] theorem qpj:(15≤sizeLine)=True:=eq_true (by decide)
@[simp] theorem qpk:(16≤sizeLine)=True:=eq_true (by decide)
@[simp] theorem qpl:(17≤sizeLine)=True:=eq_true (by decide)
@[simp] theorem qpm:(18≤sizeLine)=True:=eq_true (by decide)
@[simp] theorem qpn:(19≤sizeLine)=True:=eq_true (by decide)
@[simp] theorem Ip:(20≤sizeLine)=True:=eq_true (by decide)
@[simp] theorem qki (i j:Int):Bb (.int i) (.int j)=true:=rfl
@[simp] theorem qkj (i j:Str):Bb (.str i) (.str j)=true:=rfl
@[simp] theorem qkk (i j:Bool):Bb (.bl i) (.bl j)=true:=rfl
@[simp] theorem qkl (i:Int) (j:Str):Bb (.int i) (.str j)=true:=rfl
@[simp] theorem qkm (i:Int) (j:Str):Bb (.str j) (.int i)=true:=rfl
@[simp] theorem qfJ (K:W.Frag) (p:Addr) (H:Hp):Ss K "list" (.ref p) H=(∃xs,bw K H p xs):=by simp[Ss]
@[simp] theorem qkn (K:W.Frag) (p:Str) (H:Hp):Ss K "str" (.str p) H=True:=by simp[Ss]
section
variable {K:W.Frag} {l:Addr} {xs:List V} {g:TG} {tb:TS} {D:Ends} {d:Tj g tb D} {σ:St} {H:Hp}
theorem frL (xs:List V) (Pv:Nat→St→Hp→Prop) (h0:Pv 0 σ H) (hl:∀i σ H,i≤xs.length→Pv i σ H→bw K H l xs)
    (hs:∀i x σ H,xs[i]? = some x→Pv i σ H→g x σ H fun σ2 H2=>tb {D with nx:=Pv (i+1),ct:=Pv (i+1),bk:=D.nx} σ2 H2) (hd:∀σ H,Pv xs.length σ H→D.nx σ H):tFr (Vk K l) g tb D d σ H:=VJ Pv h0 hl hs hd
theorem frT (xs:List V) (Pv:Nat→St→Hp→Prop) (h0:Pv 0 σ H) (hl:∀i σ H,i≤xs.length→Pv i σ H→dW K H l xs)
    (hs:∀i x σ H,xs[i]? = some x→Pv i σ H→g x σ H fun σ2 H2=>tb {D with nx:=Pv (i+1),ct:=Pv (i+1),bk:=D.nx} σ2 H2) (hd:∀σ H,Pv xs.length σ H→D.nx σ H):tFr (ZG K l) g tb D d σ H:=ZK Pv h0 hl hs hd
theorem frR {lo:Int} {n:Nat} (Pv:Nat→St→Hp→Prop) (h0:Pv 0 σ H)
    (hs:∀i σ H,i<n→Pv i σ H→g (.int (lo+i)) σ H fun σ2 H2=>tb {D with nx:=Pv (i+1),ct:=Pv (i+1),bk:=D.nx} σ2 H2) (hd:∀σ H,Pv n σ H→D.nx σ H):tFr (M_ lo n) g tb D d σ H:=R0 Pv h0 hs hd
end
section
variable {K:W.Frag} {own:List Str} {caps:List Nat} {g:TG} {tt:TT} {te:TE} {D l l1 l2:Addr} {σ:St} {H:Hp} {Q:Hp→Prop} {d:qac g tt te Q}
theorem Zq (xs:List V) (Pv:Nat→St→Hp→Prop) (h0:Pv 0 (stC own caps σ) H) (hl:∀i σ H,i≤xs.length→Pv i σ H→bw K H l xs)
    (hs:∀i x σ H,xs[i]? = some x→Pv i σ H→Ad g tt te D (Pv (i+1)) x σ H) (hd:∀σ H,Pv xs.length σ H→Q H):tCm own caps (Vk K l) g tt te Q d D σ H:=Gz Pv h0 hl hs hd
theorem cmQ {b:Bool} (xs:List V) (Pv:Nat→St→Hp→Prop) (h0:Pv 0 (stC own caps σ) H) (hl:∀i σ H,i≤xs.length→Pv i σ H→SqB b K H l xs)
    (hs:∀i x σ H,xs[i]? = some x→Pv i σ H→Ad g tt te D (Pv (i+1)) x σ H) (hd:∀σ H,Pv xs.length σ H→Q H):tCm own caps (Itq b K l) g tt te Q d D σ H:=Wu Pv h0 hl hs hd
theorem cmR {lo:Int} {n:Nat} (Pv:Nat→St→Hp→Prop) (h0:Pv 0 (stC own caps σ) H)
    (hs:∀i σ H,i<n→Pv i σ H→Ad g tt te D (Pv (i+1)) (.int (lo+i)) σ H) (hd:∀σ H,Pv n σ H→Q H):tCm own caps (M_ lo n) g tt te Q d D σ H:=N8 Pv h0 hs hd
theorem cmS {z:Str} (Pv:Nat→St→Hp→Prop) (h0:Pv 0 (stC own caps σ) H)
    (hs:∀i c σ H,z.cps[i]? = some c→Pv i σ H→Ad g tt te D (Pv (i+1)) (.str ⟨#[c]⟩) σ H) (hd:∀σ H,Pv z.cps.size σ H→Q H):tCm own caps (Its z) g tt te Q d D σ H:=Ws Pv h0 hs hd
theorem cmZ (xs ys:List V) (Pv:Nat→St→Hp→Prop) (h0:Pv 0 (stC own caps σ) H) (he:xs.length=ys.length) (hl:∀i σ H,i≤xs.length→Pv i σ H→bw K H l1 xs∧bw K H l2 ys)
    (hs:∀i x y t σ H,xs[i]? = some x→ys[i]? = some y→H t=none→Pv i σ H→Ad g tt te D (Pv (i+1)) (.ref t) σ (upd H t (.tup [x,y]))) (hd:∀σ H,Pv xs.length σ H→Q H):tCm own caps (Itz K l1 l2) g tt te Q d D σ H:=Wt Pv h0 he hl hs hd
end
theorem Di {c:Bool} {t u:TS} {D:Ends} {σ:St} {H:Hp} {d:Od (t D σ H) (u D σ H)} (R:St→Hp→Prop) (hc:∀σ H,R σ H→D.nx σ H)
    (h:∀N:St→Hp→Prop,(∀σ H,R σ H→N σ H)→gM c (t {D with nx:=N} σ H) (u {D with nx:=N} σ H) ⟨0⟩):gM c (t D σ H) (u D σ H) d:=h D.nx hc
theorem xT {α β:Type} {f:α→β} {ys zs:List β} (h:ys.Perm zs):∀l:List α,zs=l.map f→∃l':List α,l'.Perm l∧ys=l'.map f:=by
  induction h with
  | nil=>
    intro l e;cases l with
    | nil=>exact⟨[],.nil,rfl⟩
    | cons a l=>cases e
  | cons x _ ih=>
    intro l e;cases l with
    | nil=>cases e
    | cons a l=>
      simp only[List.map_cons,List.cons.injEq] at e;obtain⟨l',p,e'⟩:=ih l e.2;exact⟨a::l',p.cons a,by rw[e',e.1,List.map_cons]⟩
  | swap x y _=>
    intro l e
    match l,e with
    | a::b::l,e=>
      simp only[List.map_cons,List.cons.injEq] at e;exact⟨b::a::l,.swap ..,by rw[e.1,e.2.1,e.2.2];rfl⟩
  | trans _ _ ih1 ih2=>
    intro l e;obtain⟨l',p,e'⟩:=ih2 l e;obtain⟨l2,p2,e2⟩:=ih1 l' e';exact⟨l2,p2.trans p,e2⟩
theorem WQ {α:Type} {xs:List α} {k:Nat} (h2:2≤xs.length) (hk:k<xs.length):∃j x,j≠k∧xs[j]? = some x∧Aa xs ((k:Int) - 1)=some x:=by
  cases k with
  | zero=>
    have hj:xs.length - 1<xs.length:=by omega
    refine⟨xs.length - 1,xs[xs.length - 1],by omega,by simp[hj],?_⟩;unfold Aa V_;rw[if_neg (by omega),if_pos (by omega)];have e:(((0:Nat):Int) - 1+xs.length).toNat=xs.length - 1:=by omega
    show xs[(((0:Nat):Int) - 1+xs.length).toNat]? = _;rw[e];simp[hj]
  | succ k=>
    have hj:k<xs.length:=by omega
    have e:((k+1:Nat):Int) - 1=(k:Int):=by omega
    rw[e];exact⟨k,xs[k],by omega,by simp[hj],aU (by simp[hj])⟩
end L2
namespace L2
open PySem
theorem FN (K:W.Frag):W.kitOne K (.type "list") (.type "list")=some true:=by simp[W.kitOne]
theorem Bd (K:W.Frag):W.kitOne K (.type "tuple") (.type "tuple")=some true:=by simp[W.kitOne]
theorem Ae (K:W.Frag):W.kitOne K (.type "str") (.type "str")=some true:=by simp[W.kitOne]
theorem KD (K:W.Frag):W.kitOne K (.type "int") (.type "int")=some true:=by simp[W.kitOne]
theorem nj (K:W.Frag):W.kitOne K (.type "int") (.type "bool")=some false:=by simp[W.kitOne];rfl
theorem vQ (K:W.Frag):W.kitOne K (.type "dict") (.type "dict")=some true:=by simp[W.kitOne]
end L2
namespace L2
open PySem PySem.Spec PyProof.Rows
section
variable {X:Cx} {K:W.Frag}
def qfK (K:W.Frag):R2:=fun x y H Q=>∃d e,Is K H d x∧Is K H e y∧d.canLay0=true∧e.canLay0=true∧d.depth≤64∧Q (.bl (PyData.eqv d e)) H
def qfL (K:W.Frag):R2:=fun x y H Q=>∃d e,Is K H d x∧Is K H e y∧d.canLay0=true∧e.canLay0=true∧d.depth≤64∧Q (.bl (!PyData.eqv d e)) H
theorem qc0 (hK:X.K=K) (hu:X.A.units+64<cLine):jj X (compareOp .Eq) (qfK K):=by
  subst hK;intro p_ s σ H x y v u Q I rx ry h;obtain⟨d,e,h1,h2,h3,h4,h5,q⟩:=h;exact qcO p_ s σ H x y v u Q I rx ry ⟨d,e,h1,h2,h3,h4,by omega,q⟩
theorem qc1 (hK:X.K=K) (hu:X.A.units+64<cLine):jj X (compareOp .NotEq) (qfL K):=by
  subst hK;intro p_ s σ H x y v u Q I rx ry h;obtain⟨d,e,h1,h2,h3,h4,h5,q⟩:=h;exact qcP p_ s σ H x y v u Q I rx ry ⟨d,e,h1,h2,h3,h4,by omega,q⟩
end
def iV (xs:List Str):List PyData:=xs.map PyData.str
theorem Br {K:W.Frag} {H:Hp}:∀xs:List Str,tu K H (iV xs) (xs.map V.str)
  | []=>rfl
  | x::xs=>⟨_,_,rfl,rfl,Br xs⟩
theorem qad (c:Nat):Zo c=decide (c∈("abcdefghijklmnopqrstuvwxyz" : Str).cps.toList):=PySem.StrLaws.found_one _ c
theorem qc2 {c:Nat} (h:Zo c=true):c<128:=by
  rw[qad] at h;have h':=of_decide_eq_true h;have key:∀x∈("abcdefghijklmnopqrstuvwxyz" : Str).cps.toList,x<128:=by decide+kernel
  exact key c h'
theorem Q5 {x:Str} (h:nameB x=true):PyData.strOk x=true:=by
  unfold nameB at h;simp only[Bool.and_eq_true] at h;have h2:=h.2;unfold PyData.strOk;rw[← Array.all_toList];rw[List.all_eq_true] at h2 ⊢;intro c hc;have:=qc2 (h2 c hc);exact decide_eq_true (by omega)
theorem Dj:∀xs:List Str,(∀x∈xs,PyData.strOk x=true)→PyData.canLayAll0 (iV xs)=true
  | [],_=>by simp[iV,PyData.canLayAll0]
  | x::xs,h=>by
    have:=Dj xs fun y hy=>h y (List.mem_cons_of_mem _ hy);simp[iV] at this;simp[iV,PyData.canLayAll0,PyData.canLay0,this,h x List.mem_cons_self]
theorem Dk:∀xs:List Str,PyData.depthAll (iV xs)≤1
  | []=>by simp[iV,PyData.depthAll]
  | x::xs=>by
    have:=Dk xs;simp[iV] at this;simp[iV,PyData.depthAll,PyData.depth,this]
@[simp ↓] theorem qko (td ty:TE) (σ:St) (H:Hp) (Q:VK):Wy td ty σ H Q=(td σ H fun x H1=>ty σ H1 fun y H2=>∃a v,x = .ref a∧iz H2 a y (some v)∧Q v H2):=rfl
@[simp ↓] theorem qlG (ty td:TE) (σ:St) (H:Hp) (Q:VK):qcW ty td σ H Q=(ty σ H fun y H1=>td σ H1 fun x H2=>∃a o,x = .ref a∧iz H2 a y o∧Q (.bl o.isSome) H2):=rfl
@[simp ↓] theorem qe0 (ty td:TE) (σ:St) (H:Hp) (Q:VK):Il ty td σ H Q=(ty σ H fun y H1=>td σ H1 fun x H2=>∃a o,x = .ref a∧iz H2 a y o∧Q (.bl (!o.isSome)) H2):=rfl
@[simp ↓] theorem qkp (td ty tv:TE) (D:Ends) (σ:St) (H:Hp):Wz td ty tv D σ H=(tv σ H fun v H1=>td σ H1 fun x H2=>ty σ H2 fun y H3=>∃a H4,x = .ref a∧FJ H3 a y v H4∧D.nx σ H4):=rfl
@[simp ↓] theorem qfM (σ:St) (H:Hp) (Q:VK):WD σ H Q=(∀p,H p=none→Q (.ref p) (upd H p (.dK []))):=rfl
@[simp ↓] theorem qkq (Vm:List (TE×TE)) (σ:St) (H:Hp) (Q:VK):qbC Vm σ H Q=(∀p,H p=none→wA Vm σ (upd H p (.dK [])) fun ps H2=>H2 p=some (.dK [])∧∃kvs:List (Key×V),ps=kvs.map (fun kv=>(kV kv.1,kv.2))∧kvs.length≤15∧Q (.ref p) (upd H2 p (.dK (t_ [] kvs)))):=rfl
@[simp ↓] theorem qfN (σ:St) (H:Hp) (Q:List (V×V)→Hp→Prop):wA [] σ H Q=Q [] H:=rfl
@[simp ↓] theorem qfO (tk tv:TE) (r:List (TE×TE)) (σ:St) (H:Hp) (Q:List (V×V)→Hp→Prop):wA ((tk,tv)::r) σ H Q=(tk σ H fun x H1=>tv σ H1 fun y H2=>wA r σ H2 fun ps H3=>Q ((x,y)::ps) H3):=rfl
@[simp ↓] theorem qfP (td ty tx:TE) (σ:St) (H:Hp) (Q:VK):Oc td ty tx σ H Q=(td σ H fun x H1=>∃a,x = .ref a∧IsD H1 a∧ty σ H1 fun y H2=>tx σ H2 fun z H3=>∃o,iz H3 a y o∧Q (o.getD z) H3):=rfl
@[simp ↓] theorem qkr (K:W.Frag) (t:TA) (σ:St) (H:Hp) (R:It→Hp→Prop):WM K t σ H R=(t σ H fun vs H1=>∃a xs,vs=[.ref a]∧bw K H1 a xs∧R (Ite K a) H1):=rfl
theorem qfQ {H:Hp} {a:Addr} {kvs:List (Key×V)} (i:Int) (e:H a=some (.dK kvs)):iz H a (.int i) (jZ kvs (Sum.inl i)):=iz.k (k:=Sum.inl i) e
theorem qc3 {H:Hp} {a:Addr} {kvs:List (Key×V)} (x:Str) (e:H a=some (.dK kvs)):iz H a (.str x) (jZ kvs (Sum.inr x)):=iz.k (k:=Sum.inr x) e
theorem qlH {H:Hp} {a:Addr} {kvs:List (Key×V)} {v:V} (x:Str) (e:H a=some (.dK kvs)) (hl:kvs.length<sizeLine):FJ H a (.str x) v (upd H a (.dK (putK kvs (Sum.inr x) v))):=FJ.k (k:=Sum.inr x) e hl
theorem isD {H:Hp} {a:Addr} {kvs:List (Key×V)} (e:H a=some (.dK kvs)):IsD H a:=.inl ⟨kvs,.inl e⟩
theorem range_any (bs:List Bool):(List.range bs.length).any (fun i=>bs.getD i false)=bs.any id:=by
  rw[Bool.eq_iff_iff,List.any_eq_true,List.any_eq_true];constructor
  ·rintro⟨i,hi,h⟩;have hi':=List.mem_range.mp hi;refine⟨bs[i],List.getElem_mem hi',?_⟩;simpa [List.getD,hi'] using h
  ·rintro⟨b,hb,h⟩;obtain⟨i,hi,rfl⟩:=List.mem_iff_getElem.mp hb;exact⟨i,List.mem_range.mpr hi,by simpa [List.getD,hi] using h⟩
section
variable {X:Cx} {K:W.Frag}
def qbD:List V→Hp→VK→Prop:=fun xs H Q=>∃a ys bs,xs=[.ref a]∧H a=some (.lst ys)∧oW ys bs∧Q (.bl (bs.any id)) H
theorem Tp (hc:X.calm=true):cF X (.builtin "any") qbD:=by
  intro p_ s σ H xs us Q I r h;obtain⟨a,ys,bs,rfl,ha,hb,q⟩:=h;obtain⟨u,rfl,ru⟩:=r.one;obtain rfl:u=Value.ref a:=ru;obtain⟨z,its,n,rv,hl,e⟩:=I.Ko ha;obtain⟨h1,h2⟩:=hb.get rv;have hL:s.heap.IsList a its.toArray:=⟨_,e,rfl,n,rfl⟩;refine call_any_walk ?_;refine wpAny_pyIter_list hL ?_;have hne:a≠s.heap.objs.size:=Nat.ne_of_lt (Heap.lt_size e);have hL2:(s.heap.push {cls:=.type "list_iterator",data:=.fields #[.ref a,.int 0 0]}).IsList a its.toArray:=⟨_,Heap.get?_push_of_some _ e,rfl,n,rfl⟩;refine⟨s.heap.objs.size,_,_,_,_,_,fun i=>bs.getD i false,rfl,Walks.list (by exact I.ok.hd hc) s.heap.objs.size a hne its.toArray,⟨⟨_,Heap.get?_push_size _ rfl,rfl,rfl⟩,hL2⟩,fun i v s' Q' E' hP hQ=>?_,fun h' tk kk=>?_⟩
  ·obtain rfl:=h2 i v (by simpa using hP);exact wpAny_truthy_bool hQ
  · have e2:(List.range its.toArray.size).any (fun i=>bs.getD i false)=bs.any id:=by
      rw[List.size_toArray,← hl,h1];exact range_any bs
    rw[e2];refine⟨.bl _,H,?_,rfl,q⟩;exact I.kept (h':=h') (t':=tk) fun b o eb=>kk b o (by simp;exact Nat.ne_of_lt (Heap.lt_size eb)) (Heap.get?_push_of_some _ eb)
end
section
variable {K:W.Frag} {l:Addr} {g:TG} {tb:TS} {D:Ends} {d:Tj g tb D} {σ:St} {H:Hp}
theorem frE (xs:List V) (Pv:Nat→St→Hp→Prop) (h0:Pv 0 σ H) (hl:∀i σ H,i≤xs.length→Pv i σ H→bw K H l xs)
    (hs:∀i x t σ H,xs[i]? = some x→H t=none→Pv i σ H→g (.ref t) σ (upd H t (.tup [.int i,x])) fun σ2 H2=>tb {D with nx:=Pv (i+1),ct:=Pv (i+1),bk:=D.nx} σ2 H2) (hd:∀σ H,Pv xs.length σ H→D.nx σ H):tFr (Ite K l) g tb D d σ H:=by
  refine⟨fun i m σ H=>m=xs.length - i∧i≤xs.length∧Pv i σ H,⟨xs.length,by simp,Nat.zero_le _,h0⟩,?_⟩;rintro i m σ H ⟨rfl,hi,p⟩;have q:=hl i σ H hi p
  by_cases hlt:i<xs.length
  ·refine .inr ⟨⟨xs,xs[i],q,by simp[hlt]⟩,Pv (i+1),fun σ' H' p'=>⟨xs.length - (i+1),by omega,rfl,hlt,p'⟩,fun x H' y=>?_⟩;obtain⟨t,u,rfl,ht,rfl,e⟩:=y;exact hs i u t σ H (e xs q) ht p
  · have e:i=xs.length:=by omega
    subst e;exact .inl ⟨⟨xs,q,Nat.le_refl _⟩,hd σ H p⟩
end
section
variable {K:W.Frag} {own:List Str} {caps:List Nat} {g:TG} {tt:TT} {te:TE} {D l:Addr} {σ:St} {H:Hp} {Q:Hp→Prop} {d:qac g tt te Q}
theorem cmE (xs:List V) (Pv:Nat→St→Hp→Prop) (h0:Pv 0 (stC own caps σ) H) (hl:∀i σ H,i≤xs.length→Pv i σ H→bw K H l xs)
    (hs:∀i x t σ H,xs[i]? = some x→H t=none→Pv i σ H→Ad g tt te D (Pv (i+1)) (.ref t) σ (upd H t (.tup [.int i,x]))) (hd:∀σ H,Pv xs.length σ H→Q H):tCm own caps (Ite K l) g tt te Q d D σ H:=by
  refine⟨fun i m σ H=>m=xs.length - i∧i≤xs.length∧Pv i σ H,⟨xs.length,by simp,Nat.zero_le _,h0⟩,?_⟩;rintro i m σ H ⟨rfl,hi,p⟩;have q:=hl i σ H hi p
  by_cases hlt:i<xs.length
  ·refine .inr ⟨⟨xs,xs[i],q,by simp[hlt]⟩,Pv (i+1),fun σ' H' p'=>⟨xs.length - (i+1),by omega,rfl,hlt,p'⟩,fun x H' y=>?_⟩;obtain⟨t,u,rfl,ht,rfl,e⟩:=y;exact hs i u t σ H (e xs q) ht p
  · have e:i=xs.length:=by omega
    subst e;exact .inl ⟨⟨xs,q,Nat.le_refl _⟩,hd σ H p⟩
end
section
variable {c:TT} {tb:TS} {D:Ends} {d:qfG c tb D} {σ:St} {H:Hp}
theorem whB (Pv:St→Hp→Prop) (μ:St→Hp→Nat) (h0:Pv σ H)
    (hs:∀σ H,Pv σ H→c σ H fun b H1=>gM b (tb {D with nx:=fun σ' H'=>Pv σ' H'∧μ σ' H'<μ σ H,ct:=fun σ' H'=>Pv σ' H'∧μ σ' H'<μ σ H,bk:=D.nx} σ H1) (D.nx σ H1) ⟨0⟩)
    (mono:∀σ H Q Q',(∀b H1,Q b H1→Q' b H1)→c σ H Q→c σ H Q'):tWh c tb D d σ H:=VL Pv μ h0 hs mono
end
end L2
namespace L2
open PySem
inductive RT {α:Type} (R:α→α→Prop):α→α→Prop where
  | refl (a:α):RT R a a
  | tail {a b c:α}:RT R a b→R b c→RT R a c
theorem RT.one {α:Type} {R:α→α→Prop} {a b:α} (h:R a b):RT R a b:=.tail (.refl a) h
theorem RT.trans {α:Type} {R:α→α→Prop} {a b c:α} (h:RT R a b) (h2:RT R b c):RT R a c:=by
  induction h2 with
  | refl=>exact h
  | tail _ r ih=>exact .tail ih r
theorem RT.mono {α:Type} {R S:α→α→Prop} (h:∀a b,R a b→S a b) {a b:α} (r:RT R a b):RT S a b:=by
  induction r with
  | refl=>exact .refl _
  | tail _ q ih=>exact .tail ih (h _ _ q)
theorem RT.symm {α:Type} {R:α→α→Prop} (h:∀a b,R a b→R b a) {a b:α} (r:RT R a b):RT R b a:=by
  induction r with
  | refl=>exact .refl _
  | tail _ q ih=>exact(RT.one (h _ _ q)).trans ih
theorem RT.closed {α:Type} {R:α→α→Prop} {P:α→Prop} (hc:∀a b,R a b→P a→P b) {a b:α} (ha:P a) (r:RT R a b):P b:=by
  induction r with
  | refl=>exact ha
  | tail _ q ih=>exact hc _ _ q ih
abbrev jl:=Nat×Str×Str
def fC (S:List jl) (a b:Str):Prop:=∃n,(n,a,b)∈S
def j9 (fx:Nat→Option Int) (e:Str×Str) (k:Nat):List jl:=
  (if (fx k).getD 0=0 then [(k,e.1,e.2)] else [])++(if (fx k).getD 1=1 then [(k,e.2,e.1)] else [])
def aD (fx:Nat→Option Int):List (Str×Str)→Nat→List jl
  | [],_=>[]
  | e::r,k=>j9 fx e k++aD fx r (k+1)
theorem n_ (fx:Nat→Option Int):∀(l m:List (Str×Str)) (k:Nat),aD fx (l++m) k=aD fx l k++aD fx m (k+l.length)
  | [],m,k=>by simp[aD]
  | e::l,m,k=>by
    simp only[List.cons_append,aD,n_ fx l m (k+1),List.append_assoc,List.length_cons];rw[show k+1+l.length=k+(l.length+1) by omega]
theorem qZ (fx:Nat→Option Int) {ps:List (Str×Str)} {i:Nat} {e:Str×Str} (h:ps[i]? = some e):aD fx (ps.take (i+1)) 0=aD fx (ps.take i) 0++j9 fx e i:=by
  have hi:i<ps.length:=(List.getElem?_eq_some_iff.mp h).1;rw[take_one h,n_,List.length_take,Nat.min_eq_left (Nat.le_of_lt hi),Nat.zero_add];simp[aD]
theorem lH {fx:Nat→Option Int} {e:Str×Str} {k:Nat} {s:jl}:s∈j9 fx e k↔s.1=k∧(((fx k).getD 0=0∧s.2.1=e.1∧s.2.2=e.2)∨((fx k).getD 1=1∧s.2.1=e.2∧s.2.2=e.1)):=by
  obtain⟨n,a,b⟩:=s;unfold j9;rw[List.mem_append];constructor
  · rintro(h | h)
    · split at h
      ·rename_i h0;simp at h;exact⟨h.1,.inl ⟨h0,h.2.1,h.2.2⟩⟩
      ·simp at h
    · split at h
      ·rename_i h0;simp at h;exact⟨h.1,.inr ⟨h0,h.2.1,h.2.2⟩⟩
      ·simp at h
  · rintro⟨rfl,⟨h0,rfl,rfl⟩ | ⟨h0,rfl,rfl⟩⟩
    ·exact .inl (by rw[if_pos h0];simp)
    ·exact .inr (by rw[if_pos h0];simp)
theorem jV {fx:Nat→Option Int}:∀{ps:List (Str×Str)} {k:Nat} {s:jl},s∈aD fx ps k↔∃j e,ps[j]? = some e∧s∈j9 fx e (k+j)
  | [],k,s=>by simp[aD]
  | e::r,k,s=>by
    simp only[aD,List.mem_append,jV (ps:=r)];constructor
    · rintro(h | ⟨j,e',h1,h2⟩)
      ·exact⟨0,e,rfl,h⟩
      ·exact⟨j+1,e',by simpa using h1,by rw[show k+(j+1)=k+1+j by omega];exact h2⟩
    · rintro⟨j,e',h1,h2⟩;cases j with
      | zero=>simp at h1;subst h1;exact .inl h2
      | succ j=>exact .inr ⟨j,e',by simpa using h1,by rw[show k+1+j=k+(j+1) by omega];exact h2⟩
def iW (P:Nat→Prop) (ps:List (Str×Str)) (a b:Str):Prop:=∃k,P k∧(ps[k]? = some (a,b)∨ps[k]? = some (b,a))
theorem iW.symm {P:Nat→Prop} {ps:List (Str×Str)} {a b:Str} (h:iW P ps a b):iW P ps b a:=by
  obtain⟨k,hk,h⟩:=h;exact⟨k,hk,h.symm⟩
theorem Dl {P:Nat→Prop} [DecidablePred P] {ps:List (Str×Str)} {a b:Str}:fC ((aD (fun _=>none) ps 0).filter fun s=>decide (P s.1)) a b↔iW P ps a b:=by
  unfold fC iW;constructor
  · rintro⟨n,h⟩;obtain⟨h,hP⟩:=List.mem_filter.mp h;obtain⟨j,e,h1,h2⟩:=jV.mp h;rw[Nat.zero_add] at h2;obtain⟨rfl,h3⟩:=lH.mp h2;refine⟨_,of_decide_eq_true hP,?_⟩
    rcases h3 with⟨_,h3,h4⟩ | ⟨_,h3,h4⟩
    ·simp only at h3 h4;subst h3 h4;exact .inl h1
    ·simp only at h3 h4;subst h3 h4;exact .inr h1
  · rintro⟨k,hP,h⟩;refine⟨k,List.mem_filter.mpr ⟨jV.mpr ?_,decide_eq_true hP⟩⟩
    rcases h with h | h
    ·exact⟨k,_,h,by rw[Nat.zero_add];exact lH.mpr ⟨rfl,.inl ⟨rfl,rfl,rfl⟩⟩⟩
    ·exact⟨k,_,h,by rw[Nat.zero_add];exact lH.mpr ⟨rfl,.inr ⟨rfl,rfl,rfl⟩⟩⟩
end L2
namespace L2
open PySem PySem.Spec PyProof.Rows
def iU {β:Type} (R:Hp→V→β→Prop) (H:Hp) (vs:List V) (bs:List β):Prop:=vs.length=bs.length∧∀(i:Nat) v b,vs[i]? = some v→bs[i]? = some b→R H v b
section
variable {β:Type} {R:Hp→V→β→Prop} {H H':Hp} {vs:List V} {bs:List β}
theorem iU.nil:iU R H [] []:=⟨rfl,fun i v b h=>by simp at h⟩
theorem iU.keep (h:iU R H vs bs) (k:∀v b,R H v b→R H' v b):iU R H' vs bs:=⟨h.1,fun i v b h1 h2=>k v b (h.2 i v b h1 h2)⟩
theorem iU.at (h:iU R H vs bs) {i:Nat} {v:V} (hv:vs[i]? = some v):∃b,bs[i]? = some b∧R H v b:=by
  have hi:i<bs.length:=by rw[← h.1];exact(List.getElem?_eq_some_iff.mp hv).1
  exact⟨bs[i],by simp[hi],h.2 i v _ hv (by simp[hi])⟩
theorem iU.snoc {v:V} {b:β} (h:iU R H vs bs) (hv:R H v b):iU R H (vs++[v]) (bs++[b]):=by
  refine⟨by simp[h.1],fun i u d h1 h2=>?_⟩
  by_cases hi:i<vs.length
  ·rw[List.getElem?_append_left hi] at h1;rw[List.getElem?_append_left (by rw[← h.1];exact hi)] at h2;exact h.2 i u d h1 h2
  · rw[List.getElem?_append_right (by omega)] at h1;rw[List.getElem?_append_right (by rw[← h.1];omega),← h.1] at h2;cases hk:i - vs.length with
    | zero=>
      rw[hk] at h1 h2;cases h1;cases h2;exact hv
    | succ j=>
      rw[hk] at h1;simp at h1
end
def KH (H:Hp) (v:V) (s:jl):Prop:=∃t,v = .ref t∧H t=some (.tup [.int s.1,.str s.2.1,.str s.2.2])
abbrev fK:=iU KH
def cI (H H':Hp):Prop:=∀b xs,H b=some (.tup xs)→H' b=some (.tup xs)
theorem cI.of {H H':Hp} (s:Same H H'):cI H H':=fun b xs e=>s b _ e
theorem cI.set {H:Hp} {p:Addr} {o u:HO} (h:H p=some o) (hn:∀xs,o≠.tup xs):cI H (upd H p u):=fun b xs e=>by
  rw[aC (fun z=>by subst z;rw[h] at e;exact hn xs (Option.some.inj e))];exact e
theorem KH.keep {H H':Hp} (k:cI H H'):∀v s,KH H v s→KH H' v s:=fun v s ⟨t,e,h⟩=>⟨t,e,k _ _ h⟩
theorem fK.keep {H H':Hp} {vs:List V} {S:List jl} (h:fK H vs S) (k:cI H H'):fK H' vs S:=iU.keep h (KH.keep k)
def KJ (H:Hp) (d:Addr) (fx:Nat→Option Int):Prop:=∃kvs,H d=some (.dK kvs)∧∀k:Nat,jZ kvs (Sum.inl (k:Int))=(fx k).map V.int
theorem WR {H:Hp} {d:Addr} (h:H d=some (.dK [])):KJ H d (fun _=>none):=⟨[],h,fun _=>rfl⟩
theorem KN (o:Option Int) (x:Int):(o.map V.int).getD (.int x) = .int (o.getD x):=by cases o <;> rfl
end L2
namespace L2
open PySem
inductive Af (S:List jl) (a:Str):List Nat→List Str→Str→Prop where
  | nil:Af S a [] [a] a
  | snoc {w:List Nat} {vs:List Str} {b c:Str} {n:Nat}:Af S a w vs b→(n,b,c)∈S→Af S a (w++[n]) (vs++[c]) c
theorem Af.reach {S:List jl} {a:Str} {w:List Nat} {vs:List Str} {b:Str} (h:Af S a w vs b):RT (fC S) a b:=by
  induction h with
  | nil=>exact .refl _
  | snoc _ q ih=>exact .tail ih ⟨_,q⟩
inductive Walk (S:List jl) (a:Str):Nat→Str→Prop where
  | nil:Walk S a 0 a
  | snoc {k:Nat} {b c:Str} {n:Nat}:Walk S a k b→(n,b,c)∈S→Walk S a (k+1) c
theorem Walk.of {S:List jl} {a b:Str} (h:RT (fC S) a b):∃k,Walk S a k b:=by
  induction h with
  | refl=>exact⟨0,.nil⟩
  | tail _ q ih=>
    obtain⟨k,hk⟩:=ih;obtain⟨n,hn⟩:=q;exact⟨k+1,.snoc hk hn⟩
abbrev BR:=List (Str×List Nat)
structure Nf (S:List jl) (a:Str) (at_:Nat) (R:BR):Prop where
  st:R[0]? = some (a,[])
  nd:(R.map (·.1)).Nodup
  pth:∀y w,(y,w)∈R→∃vs,Af S a w vs y∧vs.Nodup∧∀v∈vs,v∈R.map (·.1)
  cl:∀(i:Nat) y w,i<at_→R[i]? = some (y,w)→∀n c,(n,y,c)∈S→∃w',(c,w')∈R∧w'.length≤w.length+1
  mono:∀(i j:Nat) y w z u,i≤j→R[i]? = some (y,w)→R[j]? = some (z,u)→w.length≤u.length
  bd:∀(y:Str) (w:List Nat) z u,R[at_]? = some (y,w)→(z,u)∈R→u.length≤w.length+1
structure mV (S T:List jl) (a:Str) (at_:Nat) (h:Str) (wh:List Nat) (R:BR):Prop where
  bf:Nf S a at_ R
  hr:R[at_]? = some (h,wh)
  md:∀n c,(n,h,c)∈T→∃w',(c,w')∈R∧w'.length≤wh.length+1
theorem Nf.begin (S:List jl) (a:Str):Nf S a 0 [(a,[])]:=by
  refine⟨rfl,by simp,?_,by intro i y w h;omega,?_,?_⟩
  ·intro y w h;simp at h;obtain⟨rfl,rfl⟩:=h;exact⟨[y],.nil,by simp,by simp⟩
  · intro i j y w z u hij h1 h2;have hi:i=0:=by have:=(List.getElem?_eq_some_iff.mp h1).1;simp at this;omega
    have hj:j=0:=by have:=(List.getElem?_eq_some_iff.mp h2).1;simp at this;omega
    subst hi hj;rw[h1] at h2;cases h2;exact Nat.le_refl _
  ·intro y w z u h1 h2;simp at h1 h2;rw[h2.2,← h1.2];simp
theorem mV.enter {S:List jl} {a:Str} {at_:Nat} {h:Str} {wh:List Nat} {R:BR} (b:Nf S a at_ R) (hr:R[at_]? = some (h,wh)):mV S [] a at_ h wh R:=⟨b,hr,by simp⟩
theorem mV.skip {S T:List jl} {a:Str} {at_:Nat} {h:Str} {wh:List Nat} {R:BR} (b:mV S T a at_ h wh R) {s:jl} (hs:s.2.1=h→s.2.2∈R.map (·.1)):mV S (T++[s]) a at_ h wh R:=by
  refine⟨b.bf,b.hr,fun n c hm=>?_⟩
  rcases List.mem_append.mp hm with q | q
  ·exact b.md n c q
  ·simp at q;subst q;obtain⟨⟨c',w'⟩,hw,e⟩:=List.mem_map.mp (hs rfl);simp only at e;subst e;exact⟨w',hw,b.bf.bd _ _ _ _ b.hr hw⟩
theorem mV.add {S T:List jl} {a:Str} {at_:Nat} {h:Str} {wh:List Nat} {R:BR} (b:mV S T a at_ h wh R) {n:Nat} {c:Str} (hS:(n,h,c)∈S) (hc:¬c∈R.map (·.1)):mV S (T++[(n,h,c)]) a at_ h wh (R++[(c,wh++[n])]):=by
  obtain⟨⟨st,nd,pth,cl,mono,bd⟩,hr,md⟩:=b;have hat:at_<R.length:=(List.getElem?_eq_some_iff.mp hr).1;have ml:∀{i:Nat} {x},i<R.length→(R++[(c,wh++[n])])[i]? = some x→R[i]? = some x:=fun hi e=>by rwa [List.getElem?_append_left hi] at e
  have last:∀{i:Nat} {x},¬i<R.length→(R++[(c,wh++[n])])[i]? = some x→x=(c,wh++[n]):=fun hi e=>by
    rw[List.getElem?_append_right (by omega)] at e;cases hk:_ - R.length with
    | zero=>rw[hk] at e;simp at e;exact e.symm
    | succ k=>rw[hk] at e;simp at e
  refine⟨⟨?_,?_,?_,?_,?_,?_⟩,?_,?_⟩
  ·rw[List.getElem?_append_left (by omega)];exact st
  ·rw[List.map_append,List.nodup_append];refine⟨nd,by simp,?_⟩;intro x hx y hy e;simp at hy;subst hy;exact hc (e▸hx)
  · intro y w hy
    rcases List.mem_append.mp hy with q | q
    ·obtain⟨vs,h1,h2,h3⟩:=pth y w q;exact⟨vs,h1,h2,fun v hv=>by rw[List.map_append];exact List.mem_append_left _ (h3 v hv)⟩
    · simp at q;obtain⟨rfl,rfl⟩:=q;obtain⟨vs,h1,h2,h3⟩:=pth h wh (List.mem_of_getElem? hr);refine⟨vs++[y],.snoc h1 hS,?_,?_⟩
      ·rw[List.nodup_append];refine⟨h2,by simp,?_⟩;intro x hx z hz e;simp at hz;subst hz;exact hc (e▸h3 x hx)
      · intro v hv;rw[List.map_append]
        rcases List.mem_append.mp hv with q | q
        ·exact List.mem_append_left _ (h3 v q)
        ·simp at q;subst q;simp
  ·intro i y w hi e m c' hm;obtain⟨w',q1,q2⟩:=cl i y w hi (ml (by omega) e) m c' hm;exact⟨w',List.mem_append_left _ q1,q2⟩
  · intro i j y w z u hij h1 h2
    by_cases hj:j<R.length
    ·exact mono i j y w z u hij (ml (by omega) h1) (ml hj h2)
    · have e2:=last hj h2;cases e2
      by_cases hi:i<R.length
      ·have:=bd h wh y w hr (List.mem_of_getElem? (ml hi h1));simp;exact this
      ·have e1:=last hi h1;cases e1;exact Nat.le_refl _
  · intro y w z u h1 h2;have h1':=ml hat h1;rw[hr] at h1';cases h1'
    rcases List.mem_append.mp h2 with q | q
    ·exact bd _ _ z u hr q
    ·simp at q;rw[q.2];simp
  ·rw[List.getElem?_append_left hat];exact hr
  · intro m c' hm
    rcases List.mem_append.mp hm with q | q
    ·obtain⟨w',q1,q2⟩:=md m c' q;exact⟨w',List.mem_append_left _ q1,q2⟩
    ·simp at q;obtain⟨rfl,rfl⟩:=q;exact⟨wh++[m],by simp,by simp⟩
theorem mV.leave {S:List jl} {a:Str} {at_:Nat} {h:Str} {wh:List Nat} {R:BR} (b:mV S S a at_ h wh R):Nf S a (at_+1) R:=by
  obtain⟨⟨st,nd,pth,cl,mono,bd⟩,hr,md⟩:=b;refine⟨st,nd,pth,?_,mono,?_⟩
  · intro i y w hi e n c hm
    by_cases hia:i=at_
    ·subst hia;rw[hr] at e;cases e;exact md n c hm
    ·exact cl i y w (by omega) e n c hm
  ·intro y w z u h1 h2;have q1:=bd h wh z u hr h2;have q2:=mono at_ (at_+1) h wh y w (by omega) hr h1;omega
theorem Nf.all {S:List jl} {a:Str} {R:BR} (b:Nf S a R.length R) {k:Nat} {y:Str} (h:Walk S a k y):∃w,(y,w)∈R∧w.length≤k:=by
  induction h with
  | nil=>exact⟨[],List.mem_of_getElem? b.st,Nat.le_refl _⟩
  | @snoc k b' c n _ q ih=>
    obtain⟨w,h1,h2⟩:=ih;obtain⟨i,hi⟩:=List.mem_iff_getElem?.mp h1;obtain⟨w',h3,h4⟩:=b.cl i b' w (List.getElem?_eq_some_iff.mp hi).1 hi n c q;exact⟨w',h3,by omega⟩
theorem Nf.iff {S:List jl} {a:Str} {R:BR} (b:Nf S a R.length R) (y:Str):y∈R.map (·.1)↔RT (fC S) a y:=by
  constructor
  ·intro h;obtain⟨⟨z,w⟩,h1,e⟩:=List.mem_map.mp h;simp only at e;subst e;obtain⟨vs,p,_⟩:=b.pth z w h1;exact p.reach
  ·intro h;obtain⟨k,hk⟩:=Walk.of h;obtain⟨w,h1,_⟩:=b.all hk;exact List.mem_map.mpr ⟨(y,w),h1,rfl⟩
theorem Nf.sub {S:List jl} {a:Str} {i:Nat} {R:BR} (b:Nf S a i R) {xs:List Str} (ha:a∈xs) (hS:∀s∈S,s.2.2∈xs):∀y∈R.map (·.1),y∈xs:=by
  intro y h;obtain⟨⟨z,w⟩,h1,e⟩:=List.mem_map.mp h;simp only at e;subst e;obtain⟨vs,p,_⟩:=b.pth z w h1;cases p with
  | nil=>exact ha
  | snoc _ q=>exact hS _ q
theorem iC {α:Type} [DecidableEq α]:∀{l xs:List α},l.Nodup→(∀y∈l,y∈xs)→l.length≤xs.length
  | [],_,_,_=>Nat.zero_le _
  | y::l,xs,hn,hs=>by
    obtain⟨h1,h2⟩:=List.nodup_cons.mp hn;have hy:y∈xs:=hs y List.mem_cons_self;have:=iC (l:=l) (xs:=xs.erase y) h2 fun z hz=>(List.mem_erase_of_ne (fun(e:z=y)=>h1 (e▸hz))).mpr (hs z (List.mem_cons_of_mem _ hz));rw[List.length_erase_of_mem hy] at this;have h0:0<xs.length:=List.length_pos_of_mem hy;simp only[List.length_cons];omega
theorem Af.len {S:List jl} {a:Str} {w:List Nat} {vs:List Str} {b:Str} (h:Af S a w vs b):vs.length=w.length+1:=by
  induction h with
  | nil=>rfl
  | snoc _ _ ih=>simp[ih]
theorem Nf.qlI {S:List jl} {a:Str} {i:Nat} {R:BR} (b:Nf S a i R) {y:Str} {w:List Nat} (h:(y,w)∈R):w.length<R.length:=by
  obtain⟨vs,p,nd,sub⟩:=b.pth y w h;have h1:=iC nd sub;have h2:=p.len;simp at h1;omega
def qlJ (H:Hp) (kv:Key×V) (yw:Str×List Nat):Prop:=kv.1=Sum.inr yw.1∧∃p,kv.2 = .ref p∧H p=some (.lst (yw.2.map fun n:Nat=>V.int n))
structure gQ (H:Hp) (kvs:List (Key×V)) (R:BR):Prop where
  len:kvs.length=R.length
  ok:∀(i:Nat) kv yw,kvs[i]? = some kv→R[i]? = some yw→qlJ H kv yw
theorem gQ.keep {H H':Hp} {kvs:List (Key×V)} {R:BR} (h:gQ H kvs R) (k:∀(p:Addr) (w:List Nat),H p=some (.lst (w.map fun n:Nat=>V.int n))→H' p=some (.lst (w.map fun n:Nat=>V.int n))):gQ H' kvs R:=
  ⟨h.len,fun i kv yw h1 h2=>by
    obtain⟨e,p,e2,q⟩:=h.ok i kv yw h1 h2;exact⟨e,p,e2,k _ _ q⟩⟩
theorem gQ.none {H:Hp} {kvs:List (Key×V)} {R:BR} (h:gQ H kvs R) {y:Str} (hy:¬y∈R.map (·.1)):jZ kvs (Sum.inr y)=Option.none:=by
  unfold jZ;rw[List.find?_eq_none.mpr]
  ·rfl
  · intro kv hk;obtain⟨i,hi⟩:=List.mem_iff_getElem?.mp hk;have hl:i<R.length:=by rw[← h.len];exact(List.getElem?_eq_some_iff.mp hi).1
    obtain⟨e,_⟩:=h.ok i kv R[i] hi (by simp[hl]);simp only[decide_eq_true_eq];intro z;rw[e] at z;cases z;exact hy (List.mem_map.mpr ⟨R[i],List.getElem_mem hl,rfl⟩)
theorem gQ.some {H:Hp} {kvs:List (Key×V)} {R:BR} (h:gQ H kvs R) (nd:(R.map (·.1)).Nodup) {y:Str} {w:List Nat} (hy:(y,w)∈R):∃p,jZ kvs (Sum.inr y)=Option.some (.ref p)∧H p=Option.some (.lst (w.map fun n:Nat=>V.int n)):=by
  obtain⟨i,hi⟩:=List.mem_iff_getElem?.mp hy;have hl:i<kvs.length:=by rw[h.len];exact(List.getElem?_eq_some_iff.mp hi).1
  have hk:kvs[i]? = Option.some kvs[i]:=by simp[hl]
  unfold jZ;have hf:∃kv,kvs.find? (fun kv=>decide (kv.1=Sum.inr y))=Option.some kv:=by
    cases e:kvs.find? (fun kv=>decide (kv.1=Sum.inr y)) with
    | some kv=>exact⟨kv,rfl⟩
    | none=>
      have:=List.find?_eq_none.mp e kvs[i] (List.getElem_mem hl);obtain⟨e1,_⟩:=h.ok i _ _ hk hi;simp[e1] at this
  obtain⟨kv,hkv⟩:=hf;rw[hkv];have hm:=List.mem_of_find?_eq_some hkv;have hp:=List.find?_some hkv;simp only[decide_eq_true_eq] at hp;obtain⟨j,hj⟩:=List.mem_iff_getElem?.mp hm;have hlj:j<R.length:=by rw[← h.len];exact(List.getElem?_eq_some_iff.mp hj).1
  obtain⟨e1,p,e2,e3⟩:=h.ok j kv R[j] hj (by simp[hlj]);rw[hp] at e1;have ey:R[j].1=y:=(Sum.inr.inj e1).symm;have ej:j=i:=xQ nd (x:=y) (by rw[List.getElem?_map,show R[j]? = Option.some R[j] by simp[hlj]];simp[ey]) (by rw[List.getElem?_map,hi];rfl);subst ej;have:R[j]=(y,w):=by
    have:=hi;simp[hlj] at this;exact this
  rw[this] at e3;exact⟨p,by simp[e2],e3⟩
theorem gQ.has {H:Hp} {kvs:List (Key×V)} {R:BR} (h:gQ H kvs R) (nd:(R.map (·.1)).Nodup) (y:Str):(jZ kvs (Sum.inr y)).isSome=decide (y∈R.map (·.1)):=by
  by_cases hy:y∈R.map (·.1)
  ·obtain⟨⟨z,w⟩,h1,e⟩:=List.mem_map.mp hy;simp only at e;subst e;obtain⟨p,e,_⟩:=h.some nd h1;rw[e,decide_eq_true hy];rfl
  ·rw[h.none hy,decide_eq_false hy];rfl
theorem gQ.qlK {H:Hp} {kvs:List (Key×V)} {R:BR} (h:gQ H kvs R) (nd:(R.map (·.1)).Nodup) (y:Str):(jZ kvs (Sum.inr y)).isNone = !decide (y∈R.map (·.1)):=by
  rw[← h.has nd y];cases jZ kvs (Sum.inr y) <;> rfl
theorem gQ.snoc {H:Hp} {kvs:List (Key×V)} {R:BR} {y:Str} {w:List Nat} {p:Addr} (h:gQ H kvs R) (hp:H p=Option.some (.lst (w.map fun n:Nat=>V.int n))):gQ H (kvs++[(Sum.inr y,.ref p)]) (R++[(y,w)]):=by
  refine⟨by simp[h.len],fun i kv yw h1 h2=>?_⟩
  by_cases hi:i<kvs.length
  ·rw[List.getElem?_append_left hi] at h1;rw[List.getElem?_append_left (by rw[← h.len];exact hi)] at h2;exact h.ok i kv yw h1 h2
  · rw[List.getElem?_append_right (by omega)] at h1;rw[List.getElem?_append_right (by rw[← h.len];omega),← h.len] at h2;cases hk:i - kvs.length with
    | zero=>
      rw[hk] at h1 h2;cases h1;cases h2;exact⟨rfl,p,rfl,hp⟩
    | succ j=>
      rw[hk] at h1;simp at h1
def qfR (i:Nat) (σ:St):Nat:=match σ[i]? with | some (some (V.int n))=>(10 - n).toNat | _=>0
theorem bN (x:Str) (xs:List Str):inV (.str x) (xs.map V.str)=decide (x∈xs):=by
  unfold inV;rw[List.any_map,Bool.eq_iff_iff,List.any_eq_true,decide_eq_true_eq];constructor
  ·rintro⟨y,hy,e⟩;simp[Sd] at e;exact e▸hy
  ·intro h;exact⟨x,h,by simp[Sd]⟩
theorem cu (xs:List Str):(xs.map V.str).all j6=true:=by
  rw[List.all_map,List.all_eq_true];intro x _;rfl
open Classical in
def mJ (S:List jl) (xs:List Str) (x:Str):List Str:=xs.filter fun y=>decide (RT (fC S) x y)
theorem oY {S:List jl} {xs:List Str} {x y:Str}:y∈mJ S xs x↔y∈xs∧RT (fC S) x y:=by
  unfold mJ;simp
theorem Ir {S:List jl} {xs:List Str} {x:Str}:(mJ S xs x).length≤xs.length:=List.length_filter_le _ _
theorem WT {S:List jl} {xs:List Str} {x y:Str} {i:Nat} (h:xs[i]? = some y) (b:Bool) (hb:b=true↔RT (fC S) x y):mJ S (xs.take (i+1)) x=mJ S (xs.take i) x++if b=true then [y] else []:=by
  unfold mJ;rw[take_one h,List.filter_append];congr 1
  by_cases hr:RT (fC S) x y
  ·rw[if_pos (hb.mpr hr)];simp[hr]
  ·rw[if_neg fun z=>hr (hb.mp z)];simp[hr]
end L2
namespace L2
open PySem PySem.Spec PyProof.Rows
@[simp] theorem qks (i:Int):Bb (.int i) .non=true:=rfl
@[simp] theorem qkt (i:Int):Bb .non (.int i)=true:=rfl
@[simp] theorem qku (i:Str):Bb (.str i) .non=true:=rfl
theorem Dm:∀a b:List Str,PyData.eqvAll (iV a) (iV b)=decide (a=b)
  | [],[]=>rfl
  | [],y::b=>by simp[iV,PyData.eqvAll]
  | x::a,[]=>by simp[iV,PyData.eqvAll]
  | x::a,y::b=>by
    show(PyData.eqv (.str x) (.str y) && PyData.eqvAll (iV a) (iV b))=_;rw[Dm a b,Bool.eq_iff_iff];simp[PyData.eqv]
end L2
namespace L2
open PySem
def jm {α β:Type} (f:α→Nat→List β):List α→Nat→List β
  | [],_=>[]
  | e::r,k=>f e k++jm f r (k+1)
theorem Ag {α β:Type} (f:α→Nat→List β):∀(l m:List α) (k:Nat),jm f (l++m) k=jm f l k++jm f m (k+l.length)
  | [],m,k=>by simp[jm]
  | e::l,m,k=>by
    simp only[List.cons_append,jm,Ag f l m (k+1),List.append_assoc,List.length_cons];rw[show k+1+l.length=k+(l.length+1) by omega]
theorem zB {α β:Type} (f:α→Nat→List β) {ps:List α} {i:Nat} {e:α} (h:ps[i]? = some e):jm f (ps.take (i+1)) 0=jm f (ps.take i) 0++f e i:=by
  have hi:i<ps.length:=(List.getElem?_eq_some_iff.mp h).1;rw[take_one h,Ag,List.length_take,Nat.min_eq_left (Nat.le_of_lt hi),Nat.zero_add];simp[jm]
theorem KQ {α β:Type} {f:α→Nat→List β}:∀{ps:List α} {k:Nat} {s:β},s∈jm f ps k↔∃j e,ps[j]? = some e∧s∈f e (k+j)
  | [],k,s=>by simp[jm]
  | e::r,k,s=>by
    simp only[jm,List.mem_append,KQ (ps:=r)];constructor
    · rintro(h | ⟨j,e',h1,h2⟩)
      ·exact⟨0,e,rfl,h⟩
      ·exact⟨j+1,e',by simpa using h1,by rw[show k+(j+1)=k+1+j by omega];exact h2⟩
    · rintro⟨j,e',h1,h2⟩;cases j with
      | zero=>simp at h1;subst h1;exact .inl h2
      | succ j=>exact .inr ⟨j,e',by simpa using h1,by rw[show k+1+j=k+(j+1) by omega];exact h2⟩
theorem xU {α β:Type} {f:α→Nat→List β} (hf:∀e k,(f e k).length≤1):∀(ps:List α) (k:Nat),(jm f ps k).length≤ps.length
  | [],_=>by simp[jm]
  | e::r,k=>by
    have h1:=xU hf r (k+1);have h2:=hf e k;simp only[jm,List.length_append,List.length_cons];omega
def Oe (k:Nat) (s:jl):Bool:=decide (s.1≠k)
def eU (ps:List (Str×Str)) (xs:List Str) (k:Nat) (b:Str):List Str:=mJ ((aD (fun _=>none) ps 0).filter (Oe k)) xs b
def oZ (ps:List (Str×Str)) (xs:List Str) (e:Str×Str) (k:Nat):List (Nat×List Str):=if e.1∈eU ps xs k e.2 then [] else [(k,eU ps xs k e.2)]
def iJ (ps:List (Str×Str)) (xs:List Str):List (Nat×List Str):=jm (oZ ps xs) ps 0
theorem Tq (ps:List (Str×Str)) (xs:List Str) (e:Str×Str) (k:Nat):(oZ ps xs e k).length≤1:=by
  unfold oZ;split <;> simp
theorem jW {ps:List (Str×Str)} {xs:List Str} {b y:Str} {k:Nat}:y∈eU ps xs k b↔y∈xs∧RT (iW (fun j=>j≠k) ps) b y:=by
  unfold eU;rw[oY];have:RT (fC ((aD (fun _=>none) ps 0).filter (Oe k))) b y↔RT (iW (fun j=>j≠k) ps) b y:=⟨RT.mono (S:=iW (fun j=>j≠k) ps) fun a b h=>Dl.mp h,RT.mono (R:=iW (fun j=>j≠k) ps) fun a b h=>Dl.mpr h⟩;rw[this]
theorem Ah {ps:List (Str×Str)} {xs:List Str} {e:Str×Str} {k:Nat} (hk:ps[k]? = some e) (hx:e.2∈xs) (hps:∀e∈ps,e.1∈xs∧e.2∈xs) (hb:¬e.1∈eU ps xs k e.2) {j:Nat} {d:Str×Str} (hj:ps[j]? = some d) :
    ((d.1∈eU ps xs k e.2)↔(d.2∈eU ps xs k e.2))↔j≠k:=by
  obtain⟨m1,m2⟩:=hps d (List.mem_of_getElem? hj);constructor
  ·intro h z;subst z;rw[hk] at hj;cases hj;exact hb (h.mpr (jW.mpr ⟨hx,.refl _⟩))
  ·intro h;rw[jW,jW];exact⟨fun⟨_,q⟩=>⟨m2,.tail q ⟨j,h,.inl hj⟩⟩,fun⟨_,q⟩=>⟨m1,.tail q ⟨j,h,.inr hj⟩⟩⟩
def jR (c:List Str) (e:Str×Str) (k:Nat):List Nat:=if (e.1∈c↔e.2∈c) then [] else [k]
def dh (c:List Str) (ps:List (Str×Str)):List Nat:=jm (jR c) ps 0
theorem Dq (c:List Str) (e:Str×Str) (k:Nat):(jR c e k).length≤1:=by
  unfold jR;split <;> simp
def zE (H:Hp) (v:V) (z:Addr×Nat×List Str):Prop:=∃t,v = .ref t∧H t=some (.tup [.int z.2.1,.ref z.1])∧H z.1=some (.lst (z.2.2.map V.str))
theorem zE.same {H H':Hp} {vs:List V} {zs:List (Addr×Nat×List Str)} (h:iU zE H vs zs) (k:Same H H'):iU zE H' vs zs:=iU.keep h fun v s ⟨t,e,q,r⟩=>⟨t,e,k _ _ q,k _ _ r⟩
theorem zE.there {H:Hp} {vs:List V} {zs:List (Addr×Nat×List Str)} (h:iU zE H vs zs):∀z∈zs,H z.1=some (.lst (z.2.2.map V.str)):=fun z hz=>by
  obtain⟨i,hi⟩:=List.mem_iff_getElem?.mp hz;have hl:i<vs.length:=by rw[h.1];exact(List.getElem?_eq_some_iff.mp hi).1
  obtain⟨t,_,_,r⟩:=h.2 i vs[i] z (by simp[hl]) hi;exact r
end L2
set_option maxHeartbeats 4000000
namespace L2
open PySem PySem.Spec PyProof.Rows
section
variable {prog:Program} {w:World} {A:Around} {E:Value→Shared→Prop} {s:Shared}
end
theorem xV:entryFor table "dict.update.loop" = some Builtin.«dict.update.loop»:=entryFor_of_fast (by kernel_rfl)
theorem nq:plainId "dict.update.loop" = true:=by decide+kernel
structure Nm3 (mg:Str→Option Value):Prop where
  sum:mg "sum" = none
theorem KR:∀{ys:List Str} {us:List Value},Vals (ys.map V.str) us→StrsAre us ys
  | [],_,r=>by rw[List.map_nil] at r;cases r;exact .nil
  | y::ys,_,r=>by
    rw[List.map_cons] at r;cases r with
    | cons h t=>
      obtain⟨k,rfl⟩:=h;exact .cons y k (KR t)
section
variable {X:Cx} {K:W.Frag}
def rJoin:V→List V→Hp→VK→Prop:=fun x xs H Q=>∃(sep:Str) (l:Addr) (ys:List Str),x = .str sep∧xs=[.ref l]∧H l=some (.lst (ys.map V.str))∧(ys.map (·.length)).sum+ys.length * sep.length≤16777216∧Q (.str (Txt.join sep ys)) H
theorem qae:Nb X "str.join" rJoin:=by
  intro p_ s σ H x xs v us Q I rx rs q;obtain⟨sep,l,ys,rfl,rfl,hl,hz,q⟩:=q;obtain⟨u,rfl,ru⟩:=rs.one;obtain rfl:u=Value.ref l:=ru;obtain⟨t,rfl⟩:=rx;obtain⟨its,rv,pl,hz1⟩:=I.list (bw.of hl);exact join_list pl.isList (by simpa using KR rv) hz fun t' k=>⟨.str _,H,I.tok _,⟨t',rfl⟩,q⟩
theorem qlL (hK:X.K=K):SlR X (ZW K):=by subst hK;exact ZX
@[simp ↓] theorem qkv (K:W.Frag) x lo hi H Q:ZW K x lo hi H Q=(∃a xs,x = .ref a∧bw K H a xs∧∀p,H p=none→Q (.ref p) (upd H p (.lst (CN xs lo hi)))):=rfl
theorem GJ:∀(xs:List Str) (a:Array Nat),(xs.foldl (fun acc p=>acc++(Str.ofString "").cps++p.cps) a).toList=a.toList++xs.flatMap (·.cps.toList)
  | [],a=>by simp
  | x::xs,a=>by
    rw[List.foldl_cons,GJ xs];rw[show(Str.ofString "").cps = #[] from rfl,Array.append_empty];simp
theorem Tr (ys:List Str):(Txt.join (Str.ofString "") ys).cps.toList=ys.flatMap (·.cps.toList):=by
  cases ys with
  | nil=>rfl
  | cons x xs=>
    show(List.foldl _ x.cps xs).toList=_;exact(GJ xs x.cps).trans (by simp)
theorem uc:∀(ys:List Str),(∀y∈ys,∃n,n<26∧y=⟨#[97+n]⟩)→(ys.flatMap (·.cps.toList)).length=ys.length∧(ys.flatMap (·.cps.toList)).all Zo=true∧(ys.map (·.length)).sum=ys.length
  | [],_=>by simp
  | y::ys,h=>by
    obtain⟨n,hn,rfl⟩:=h y (List.mem_cons_self ..);obtain⟨h1,h2,h3⟩:=uc ys fun z hz=>h z (List.mem_cons_of_mem _ hz);refine⟨by simp only[List.flatMap_cons,List.length_append,List.length_cons,h1];simp;omega,by rw[List.flatMap_cons,List.all_append,h2];simp[Ww n hn],?_⟩;rw[List.map_cons,List.sum_cons,h3,List.length_cons];show 1+_=_;omega
theorem qX.glue {c k:Nat} {x:Str} (h:qX c k x) (hk:0<k) {ys:List Str} (hy:∀y∈ys,∃n,n<26∧y=⟨#[97+n]⟩):qX c (k+ys.length) (x++Txt.join (Str.ofString "") ys):=by
  obtain⟨h1,h2,h3⟩:=h;obtain⟨y1,y2,_⟩:=uc ys hy;have e:=Tr ys;have hs:x.cps.size=k:=h1;refine⟨?_,?_,?_⟩
  ·show(x.cps++(Txt.join (Str.ofString "") ys).cps).size=_;rw[Array.size_append,hs,← Array.length_toList,e,y1]
  ·show(x.cps++(Txt.join (Str.ofString "") ys).cps)[0]? = _;rw[Array.getElem?_append_left (by omega)];exact h2
  ·show(x.cps++(Txt.join (Str.ofString "") ys).cps).toList.all Zo=true;rw[Array.toList_append,List.all_append,h3,e,y2];rfl
end
section
variable {K:W.Frag} {l1 l2:Addr} {g:TG} {tb:TS} {D:Ends} {d:Tj g tb D} {σ:St} {H:Hp}
theorem frZ (xs ys:List V) (Pv:Nat→St→Hp→Prop) (h0:Pv 0 σ H) (he:xs.length=ys.length) (hl:∀i σ H,i≤xs.length→Pv i σ H→bw K H l1 xs∧bw K H l2 ys)
    (hs:∀i x y t σ H,xs[i]? = some x→ys[i]? = some y→H t=none→Pv i σ H→g (.ref t) σ (upd H t (.tup [x,y])) fun σ2 H2=>tb {D with nx:=Pv (i+1),ct:=Pv (i+1),bk:=D.nx} σ2 H2) (hd:∀σ H,Pv xs.length σ H→D.nx σ H):tFr (Itz K l1 l2) g tb D d σ H:=by
  refine⟨fun i m σ H=>m=xs.length - i∧i≤xs.length∧Pv i σ H,⟨xs.length,by simp,Nat.zero_le _,h0⟩,?_⟩;rintro i m σ H ⟨rfl,hi,p⟩;obtain⟨q1,q2⟩:=hl i σ H hi p
  by_cases hlt:i<xs.length
  · have hlt2:i<ys.length:=by omega
    refine .inr ⟨⟨xs,ys,xs[i],ys[i],q1,q2,by simp[hlt],by simp[hlt2]⟩,Pv (i+1),fun σ' H' p'=>⟨xs.length - (i+1),by omega,rfl,hlt,p'⟩,fun x H' y=>?_⟩;obtain⟨t,u,v,rfl,ht,rfl,e1,e2⟩:=y;exact hs i u v t σ H (e1 xs q1) (e2 ys q2) ht p
  · have e:i=xs.length:=by omega
    subst e;exact .inl ⟨⟨xs,ys,q1,q2,.inl (Nat.le_refl _)⟩,hd σ H p⟩
end
def iY (ns:List Int):List PyData:=ns.map PyData.int
theorem xW {K:W.Frag} {H:Hp}:∀ns:List Int,tu K H (iY ns) (ns.map V.int)
  | []=>rfl
  | n::ns=>⟨_,_,rfl,rfl,xW ns⟩
theorem lay_ints:∀ns:List Int,PyData.canLayAll0 (iY ns)=true
  | []=>by simp[iY,PyData.canLayAll0]
  | x::xs=>by
    have:=lay_ints xs;simp[iY] at this;simp[iY,PyData.canLayAll0,PyData.canLay0,this]
theorem KY:∀xs:List Int,PyData.depthAll (iY xs)≤1
  | []=>by simp[iY,PyData.depthAll]
  | x::xs=>by
    have:=KY xs;simp[iY] at this;simp[iY,PyData.depthAll,PyData.depth,this]
theorem KZ:∀a b:List Int,PyData.eqvAll (iY a) (iY b)=decide (a=b)
  | [],[]=>rfl
  | [],y::b=>by simp[iY,PyData.eqvAll]
  | x::a,[]=>by simp[iY,PyData.eqvAll]
  | x::a,y::b=>by
    show(PyData.eqv (.int x) (.int y) && PyData.eqvAll (iY a) (iY b))=_;rw[KZ a b,Bool.eq_iff_iff];simp[PyData.eqv]
def K1 (n:Int) (e:Str×Str):Str:=if n=0 then e.2 else e.1
def isInt (x:V) (R:Int→Prop):Prop:=match x with | .int i=>R i | _=>False
def isStr (x:V) (R:Str→Prop):Prop:=match x with | .str i=>R i | _=>False
def ud (x:V) (R:Bool→Prop):Prop:=match x with | .bl i=>R i | _=>False
def isRef (x:V) (R:Addr→Prop):Prop:=match x with | .ref i=>R i | _=>False
def Tt (x:V) (R:String→Prop):Prop:=match x with | .ty n=>R n | _=>False
def Vn (xs:List V) (R:Prop):Prop:=match xs with | []=>R | _=>False
def ar1 (xs:List V) (R:V→Prop):Prop:=match xs with | [x]=>R x | _=>False
def ar2 (xs:List V) (R:V→V→Prop):Prop:=match xs with | [x,y]=>R x y | _=>False
def arH (xs:List V) (R:V→List V→Prop):Prop:=match xs with | x::r=>R x r | []=>False
def getSt:St→Nat→(V→Prop)→Prop
  | [],_,_=>False
  | o::_,0,R=>match o with | some v=>R v | none=>False
  | _::σ,n+1,R=>getSt σ n R
@[simp ↓] theorem qkw (i:Int) R:isInt (.int i) R=R i:=rfl
@[simp ↓] theorem qkx (i:Str) R:isStr (.str i) R=R i:=rfl
@[simp ↓] theorem qlM (i:Bool) R:ud (.bl i) R=R i:=rfl
@[simp ↓] theorem qky (i:Addr) R:isRef (.ref i) R=R i:=rfl
@[simp ↓] theorem qlN (i:String) R:Tt (.ty i) R=R i:=rfl
@[simp ↓] theorem qoR R:Vn [] R=R:=rfl
@[simp ↓] theorem qoS x R:ar1 [x] R=R x:=rfl
@[simp ↓] theorem qoT x y R:ar2 [x,y] R=R x y:=rfl
@[simp ↓] theorem qoU x r R:arH (x::r) R=R x r:=rfl
@[simp ↓] theorem qkz v σ R:getSt (some v::σ) 0 R=R v:=rfl
@[simp ↓] theorem qkA o σ n R:getSt (o::σ) (n+1) R=getSt σ n R:=rfl
theorem isInt.out {x:V} {R} (h:isInt x R):∃i,x = .int i∧R i:=by cases x <;> first | exact⟨_,rfl,h⟩ | exact h.elim
theorem isStr.out {x:V} {R} (h:isStr x R):∃i,x = .str i∧R i:=by cases x <;> first | exact⟨_,rfl,h⟩ | exact h.elim
theorem ud.out {x:V} {R} (h:ud x R):∃i,x = .bl i∧R i:=by cases x <;> first | exact⟨_,rfl,h⟩ | exact h.elim
theorem isRef.out {x:V} {R} (h:isRef x R):∃i,x = .ref i∧R i:=by cases x <;> first | exact⟨_,rfl,h⟩ | exact h.elim
theorem Tt.out {x:V} {R} (h:Tt x R):∃i,x = .ty i∧R i:=by cases x <;> first | exact⟨_,rfl,h⟩ | exact h.elim
theorem Vn.out {xs:List V} {R} (h:Vn xs R):xs=[]∧R:=by cases xs <;> first | exact⟨rfl,h⟩ | exact h.elim
theorem ar1.out {xs:List V} {R} (h:ar1 xs R):∃x,xs=[x]∧R x:=by
  match xs,h with
  | [x],h=>exact⟨x,rfl,h⟩
theorem ar2.out {xs:List V} {R} (h:ar2 xs R):∃x y,xs=[x,y]∧R x y:=by
  match xs,h with
  | [x,y],h=>exact⟨x,y,rfl,h⟩
theorem arH.out {xs:List V} {R} (h:arH xs R):∃x r,xs=x::r∧R x r:=by cases xs <;> first | exact⟨_,_,rfl,h⟩ | exact h.elim
theorem getSt.out:∀{σ:St} {i:Nat} {R},getSt σ i R→∃v,σ[i]? = some (some v)∧R v
  | [],_,_,h=>h.elim
  | some v::_,0,_,h=>⟨v,rfl,h⟩
  | none::_,0,_,h=>h.elim
  | _::σ,n+1,R,h=>by
    obtain⟨v,e,q⟩:=getSt.out (σ:=σ) (i:=n) h;exact⟨v,by simpa using e,q⟩
section
variable {X:Cx}
theorem PE.mono {e:Expr} {t t':TE} (o:PE X e t) (h:∀{σ H Q},t' σ H Q→t σ H Q):PE X e t':=fun p_ s σ H Q I q=>o p_ s σ H Q I (h q)
theorem PS.mono {e:Stmt} {t t':TS} (o:PS X e t) (h:∀{D σ H},t' D σ H→t D σ H):PS X e t':=fun p_ s σ H D I q=>o p_ s σ H D I (h q)
theorem jC.mono {e:List Expr} {t t':J2} (o:jC X e t) (h:∀{v σ H Q},t' v σ H Q→t v σ H Q):jC X e t':=fun p_ s σ H v u Q I r q=>o p_ s σ H v u Q I r (h q)
theorem jj.mono {f:Value→Value→Sem Value} {r r':R2} (o:jj X f r) (h:∀{x y H Q},r' x y H Q→r x y H Q):jj X f r':=fun p_ s σ H x y v u Q I rx ry q=>o p_ s σ H x y v u Q I rx ry (h q)
theorem cF.mono {f:Value} {r r':List V→Hp→VK→Prop} (o:cF X f r) (h:∀{x H Q},r' x H Q→r x H Q):cF X f r':=fun p_ s σ H x v Q I rx q=>o p_ s σ H x v Q I rx (h q)
theorem Nb.mono {f:String} {r r':V→List V→Hp→VK→Prop} (o:Nb X f r) (h:∀{x y H Q},r' x y H Q→r x y H Q):Nb X f r':=fun p_ s σ H x y v u Q I rx ry q=>o p_ s σ H x y v u Q I rx ry (h q)
theorem Wa.mono {r r':R2} (o:Wa X r) (h:∀{x y H Q},r' x y H Q→r x y H Q):Wa X r':=fun a b p_ s σ H x y v u Q I rx ry q z=>o a b p_ s σ H x y v u Q I rx ry (h q) z
theorem SlR.mono {r r':V→Option Int→Option Int→Hp→VK→Prop} (o:SlR X r) (h:∀{x lo hi H Q},r' x lo hi H Q→r x lo hi H Q):SlR X r':=fun p_ s σ H x v vl vu lo hi sl Q I rx z1 z2 z3 q=>o p_ s σ H x v vl vu lo hi sl Q I rx z1 z2 z3 (h q)
theorem PIp.mono {op:Operator} {r r':Zz} (o:PIp X op r) (h:∀{x y H Q},r' x y H Q→r x y H Q):PIp X op r':=fun p_ s σ H x y v u Q I rx ry q=>o p_ s σ H x y v u Q I rx ry (h q)
theorem RW.mono {r r':RV} (o:RW X r) (h:∀{x y z H Q},r' x y z H Q→r x y z H Q):RW X r':=fun p_ s σ H o' i v ov iv u Q I a b c q=>o p_ s σ H o' i v ov iv u Q I a b c (h q)
end
def fVar (i:Nat):TE:=fun σ H Q=>getSt σ i fun v=>Q v H
@[simp ↓] theorem qlO (i:Nat) σ H Q:fVar i σ H Q=getSt σ i (fun v=>Q v H):=rfl
theorem qc4 {i:Nat} {σ H Q} (h:fVar i σ H Q):qcd i σ H Q:=getSt.out h
def mW:List Str→List V→St
  | _::N,v::vs=>some v::mW N vs
  | _::N,[]=>none::mW N []
  | [],_=>[]
@[simp ↓] theorem qe1 n N v vs:mW (n::N) (v::vs)=some v::mW N vs:=rfl
@[simp ↓] theorem qe2 n N:mW (n::N) []=none::mW N []:=rfl
@[simp ↓] theorem qfS vs:mW [] vs=[]:=by cases vs <;> rfl
theorem uX:∀(N:List Str) (vs:List V),vs.length≤N.length→mW N vs=start N vs
  | [],[],_=>rfl
  | [],_::_,h=>by simp at h
  | n::N,[],_=>by
    rw[mW,uX N [] (by simp)];simp[start,List.replicate_succ]
  | n::N,v::vs,h=>by
    rw[mW,uX N vs (by simpa using h)];simp[start]
def fI0 (g:Int→Int→V):R2:=fun x y H Q=>isInt x fun i=>isInt y fun j=>Q (g i j) H
def fI (C:Int→Int→Prop) (g:Int→Int→V):R2:=fun x y H Q=>isInt x fun i=>isInt y fun j=>C i j∧Q (g i j) H
@[simp ↓] theorem qoV g x y H Q:fI0 g x y H Q=(isInt x fun i=>isInt y fun j=>Q (g i j) H):=rfl
@[simp ↓] theorem qpo C g x y H Q:fI C g x y H Q=(isInt x fun i=>isInt y fun j=>C i j∧Q (g i j) H):=rfl
theorem K3 {g:Int→Int→V} {x y H Q} (h:fI0 g x y H Q):rI0 g x y H Q:=by
  obtain⟨i,rfl,h1⟩:=isInt.out h;obtain⟨j,rfl,h2⟩:=isInt.out h1;exact⟨i,j,rfl,rfl,h2⟩
theorem qaf {C} {g:Int→Int→V} {x y H Q} (h:fI C g x y H Q):rI C g x y H Q:=by
  obtain⟨i,rfl,h1⟩:=isInt.out h;obtain⟨j,rfl,h2⟩:=isInt.out h1;exact⟨i,j,rfl,rfl,h2⟩
def fEq:R2:=fun x y H Q=>match x,y with
  | .int i,.int j=>Q (.bl (decide (i=j))) H
  | .str i,.str j=>Q (.bl (decide (i=j))) H
  | .bl i,.bl j=>Q (.bl (decide (i=j))) H
  | x,y=>Bb x y=true∧Q (.bl (decide (x=y))) H
def fNe:R2:=fun x y H Q=>match x,y with
  | .int i,.int j=>∃k,decide (i=j) = !k∧Q (.bl k) H
  | .str i,.str j=>∃k,decide (i=j) = !k∧Q (.bl k) H
  | .bl i,.bl j=>∃k,decide (i=j) = !k∧Q (.bl k) H
  | x,y=>Bb x y=true∧∃k,decide (x=y) = !k∧Q (.bl k) H
@[simp ↓] theorem qoW i j H Q:fEq (.int i) (.int j) H Q=Q (.bl (decide (i=j))) H:=rfl
@[simp ↓] theorem qoX i j H Q:fEq (.str i) (.str j) H Q=Q (.bl (decide (i=j))) H:=rfl
@[simp ↓] theorem qoY i j H Q:fEq (.bl i) (.bl j) H Q=Q (.bl (decide (i=j))) H:=rfl
@[simp ↓] theorem qoZ i j H Q:fNe (.int i) (.int j) H Q=∃k,decide (i=j) = !k∧Q (.bl k) H:=rfl
@[simp ↓] theorem qo0 i j H Q:fNe (.str i) (.str j) H Q=∃k,decide (i=j) = !k∧Q (.bl k) H:=rfl
@[simp ↓] theorem qo1 i j H Q:fNe (.bl i) (.bl j) H Q=∃k,decide (i=j) = !k∧Q (.bl k) H:=rfl
theorem zF {b:Bool} {R:Bool→Prop} (h:∃k,b = !k∧R k):R (!b):=by
  obtain⟨k,e,q⟩:=h;rw[e,Bool.not_not];exact q
theorem qfT {x y H Q} (h:fEq x y H Q):rEq x y H Q:=by
  unfold fEq at h;split at h
  ·exact⟨rfl,by simpa using h⟩
  ·exact⟨rfl,by simpa using h⟩
  ·exact⟨rfl,by simpa using h⟩
  ·exact h
theorem qfU {x y H Q} (h:fNe x y H Q):rNe x y H Q:=by
  unfold fNe at h;split at h
  ·exact⟨rfl,by simpa using zF (R:=fun k=>Q (.bl k) H) h⟩
  ·exact⟨rfl,by simpa using zF (R:=fun k=>Q (.bl k) H) h⟩
  ·exact⟨rfl,by simpa using zF (R:=fun k=>Q (.bl k) H) h⟩
  ·exact⟨h.1,zF (R:=fun k=>Q (.bl k) H) h.2⟩
def WW:R2:=fun x y H Q=>isStr x fun i=>isStr y fun j=>i.length+j.length≤sizeLine∧Q (.str (i++j)) H
@[simp ↓] theorem qkB x y H Q:WW x y H Q=(isStr x fun i=>isStr y fun j=>i.length+j.length≤sizeLine∧Q (.str (i++j)) H):=rfl
theorem qag {x y H Q} (h:WW x y H Q):qfy x y H Q:=by
  obtain⟨i,rfl,h1⟩:=isStr.out h;obtain⟨j,rfl,h2⟩:=isStr.out h1;exact⟨i,j,rfl,rfl,h2⟩
def qc5:R2:=fun x y H Q=>isRef x fun l=>isRef y fun b=>∃xs,H l=some (.lst xs)∧∃zs,H b=some (.lst zs)∧xs.length+zs.length≤sizeLine∧∀p,H p=none→Q (.ref p) (upd H p (.lst (xs++zs)))
@[simp ↓] theorem qlP x y H Q:qc5 x y H Q=(isRef x fun l=>isRef y fun b=>∃xs,H l=some (.lst xs)∧∃zs,H b=some (.lst zs)∧xs.length+zs.length≤sizeLine∧∀p,H p=none→Q (.ref p) (upd H p (.lst (xs++zs)))):=rfl
theorem qc6 {x y H Q} (h:qc5 x y H Q):qfs x y H Q:=by
  obtain⟨i,rfl,h0⟩:=isRef.out h;obtain⟨j,rfl,xs,h1,zs,h2,h3⟩:=isRef.out h0;exact⟨i,j,xs,zs,rfl,rfl,h1,h2,h3⟩
def qfV:R2:=fun x y H Q=>isRef x fun l=>isInt y fun k=>∃xs,H l=some (.lst xs)∧-(2 ^ 63)≤k∧k<2 ^ 63∧xs.length * k.toNat≤sizeLine∧∀p,H p=none→Q (.ref p) (upd H p (.lst (List.replicate k.toNat xs).flatten))
def xX (t:TE):TT:=fun σ H Q=>t σ H fun x H'=>ud x fun k=>Q k H'
@[simp ↓] theorem qkC (t:TE) σ H Q:xX t σ H Q=(t σ H fun x H'=>ud x fun k=>Q k H'):=rfl
def WX (ta:TE):TE:=fun σ H Q=>ta σ H fun x H1=>ud x fun c=>Q (.bl (!c)) H1
@[simp ↓] theorem qkD (ta:TE) σ H Q:WX ta σ H Q=(ta σ H fun x H1=>ud x fun c=>Q (.bl (!c)) H1):=rfl
def WY (ta tb:TE):TE:=fun σ H Q=>ta σ H fun x H1=>ud x fun c=>gM c (tb σ H1 Q) (Q (.bl false) H1) ⟨0⟩
@[simp ↓] theorem qkE (ta tb:TE) σ H Q:WY ta tb σ H Q=(ta σ H fun x H1=>ud x fun c=>gM c (tb σ H1 Q) (Q (.bl false) H1) ⟨0⟩):=rfl
def Iu (r r':R2) (ta tb tc:TE):TE:=fun σ H Q=>ta σ H fun x H1=>tb σ H1 fun y H2=>r x y H2 fun z H3=>ud z fun k=>gM k (tc σ H3 fun w' H4=>r' y w' H4 Q) (Q (.bl false) H3) ⟨0⟩
@[simp ↓] theorem qfW (r r':R2) (ta tb tc:TE) σ H Q:Iu r r' ta tb tc σ H Q=(ta σ H fun x H1=>tb σ H1 fun y H2=>r x y H2 fun z H3=>ud z fun k=>gM k (tc σ H3 fun w' H4=>r' y w' H4 Q) (Q (.bl false) H3) ⟨0⟩):=rfl
section
variable {X:Cx} {K:W.Frag} {a b c:Expr} {ta tb tc:TE} {tA:TT} {pos:Pos}
theorem aM (i:Nat) {x:Str} {pos:Pos} (hN:X.N[i]? = some x:=by rfl) (hv:Vis X.env.scope x:=by first | exact Or.inl rfl | exact Or.inr (Or.inl rfl) | exact Or.inr (Or.inr rfl)) (hd:(x == ("__debug__" : Str))=false:=by decide)
    (hcd:(x == ("__classdict__" : Str))=false:=by decide):PE X (.Name x pos) (fVar i):=(qce hN hv hd hcd).mono qc4
theorem jJ:jj X (binaryOp .Add) (fI0 fun i j=>.int (i+j)):=qcs.mono K3
theorem nu:jj X (binaryOp .Sub) (fI0 fun i j=>.int (i - j)):=qct.mono K3
theorem uf:jj X (compareOp .Lt) (fI0 fun i j=>.bl (decide (i<j))):=qfl.mono K3
theorem ug:jj X (compareOp .LtE) (fI0 fun i j=>.bl (decide (i≤j))):=qfm.mono K3
theorem Dr:jj X (compareOp .Gt) (fI0 fun i j=>.bl (decide (j<i))):=qfn.mono K3
theorem q_:jj X (compareOp .Eq) fEq:=qfj.mono qfT
theorem j_:jj X (compareOp .NotEq) fNe:=qfk.mono qfU
theorem K4:jj X (binaryOp .Add) WW:=Nt.mono qag
theorem xY:jj X (binaryOp .Add) qc5:=qcJ.mono qc6
theorem xZ (x:V) (R:Bool→Prop):ud x R=(∃k,x = .bl k∧R k):=propext ⟨ud.out,fun⟨k,e,q⟩=>by subst e;exact q⟩
theorem W0 (x:V) (R:Int→Prop):isInt x R=(∃k,x = .int k∧R k):=propext ⟨isInt.out,fun⟨k,e,q⟩=>by subst e;exact q⟩
theorem K5 (x:V) (R:Addr→Prop):isRef x R=(∃k,x = .ref k∧R k):=propext ⟨isRef.out,fun⟨k,e,q⟩=>by subst e;exact q⟩
theorem W2 (x:V) (R:Str→Prop):isStr x R=(∃k,x = .str k∧R k):=propext ⟨isStr.out,fun⟨k,e,q⟩=>by subst e;exact q⟩
theorem qc7 (x:List V) (R:V→List V→Prop):arH x R=(∃k j,x=k::j∧R k j):=propext ⟨arH.out,fun⟨k,j,e,q⟩=>by subst e;exact q⟩
theorem K6 (t:TE):xX t=QB t:=by
  funext σ H Q
  exact congrArg (t σ H) (funext fun x=>funext fun H'=>xZ _ _)
theorem qbE (t:TE):xX t=tB t:=by
  funext σ H Q
  exact congrArg (t σ H) (funext fun x=>funext fun H'=>xZ _ _)
theorem W3 (t:TE):WX t=Vx t:=by
  funext σ H Q
  exact congrArg (t σ H) (funext fun x=>funext fun H'=>xZ _ _)
theorem W4 (t u:TE):WY t u=Vw t u:=by
  funext σ H Q
  exact congrArg (t σ H) (funext fun x=>funext fun H'=>xZ _ _)
theorem GK (r r':R2) (ta tb tc:TE):Iu r r' ta tb tc=Hz r r' ta tb tc:=by
  funext σ H Q
  exact congrArg (ta σ H) (funext fun x=>funext fun H1=>congrArg (tb σ H1) (funext fun y=>funext fun H2=>congrArg (r x y H2) (funext fun z=>funext fun H3=>xZ _ _)))
theorem bA {op:CmpOp} {r:R2} (ho:jj X (compareOp op) r) (ha:PE X a ta) (hb:PE X b tb) (hm:behindInMarks op b=false):PT X (.Compare a [op] [b] pos) (xX (tOp r ta tb)):=K6 _▸ZP ho ha hb hm
theorem Iv {op:CmpOp} {t:TE} (h:PC X op a b t) (h1:behindInMarks op b=false:=by first | exact Kd _ (by decide) (by decide) | rfl):PT X (.Compare a [op] [b] pos) (xX t):=qbE _▸qcf h h1
theorem cD {e:Expr} {t:TE} (h:PE X e t) (he:∀whole,isTrue e X.env whole=(do let v ← whole;standAt e.pos;holding [v] (truthy v)):=by intro _;rfl):PT X e (xX t):=qbE _▸qcg h he
theorem zG {op op':CmpOp} {r r':R2} (ho:jj X (compareOp op) r) (ho':jj X (compareOp op') r') (ha:PE X a ta) (hb:PE X b tb) (hc:PE X c tc)
    (hm:lastMarks [op,op'] [b,c]=false:=by with_unfolding_all rfl):PE X (.Compare a [op,op'] [b,c] pos) (Iu r r' ta tb tc):=GK _ _ _ _ _▸VP ho ho' ha hb hc hm
theorem zH {op op':CmpOp} {r r':R2} (ho:jj X (compareOp op) r) (ho':jj X (compareOp op') r') (ha:PE X a ta) (hb:PE X b tb) (hc:PE X c tc)
    (hm:lastMarks [op,op'] [b,c]=false:=by with_unfolding_all rfl):PT X (.Compare a [op,op'] [b,c] pos) (xX (Iu r r' ta tb tc)):=by
  rw[K6,GK];exact VR ho ho' ha hb hc hm
theorem Bs (ha:PE X a ta):PE X (.UnaryOp .Not a pos) (WX ta):=W3 _▸qci ha
theorem jK {rest:List Expr} (ha:PE X a ta) (hb:PE X (.BoolOp .And (b::rest) pos) tb):PE X (.BoolOp .And (a::b::rest) pos) (WY ta tb):=W4 _ _▸qch ha hb
end
def qc8 (K:W.Frag):R2:=fun x y H Q=>isRef x fun p=>isInt y fun i=>∃xs,(bw K H p xs∨dW K H p xs)∧∃v,Aa xs i=some v∧Q v H
@[simp ↓] theorem qlQ (K:W.Frag) x y H Q:qc8 K x y H Q=(isRef x fun p=>isInt y fun i=>∃xs,(bw K H p xs∨dW K H p xs)∧∃v,Aa xs i=some v∧Q v H):=rfl
theorem qc9 {K:W.Frag} {x y H Q} (h:qc8 K x y H Q):qcR K x y H Q:=by
  obtain⟨p,rfl,h1⟩:=isRef.out h;obtain⟨i,rfl,xs,h2,v,h3,h4⟩:=isInt.out h1;exact⟨p,xs,i,v,rfl,rfl,h2,h3,h4⟩
def qc_  : R2:=fun x y H Q=>isStr x fun z=>isInt y fun i=>z.length≤sizeLine∧∃c,Aa z.cps.toList i=some c∧Q (.str ⟨#[c]⟩) H
@[simp ↓] theorem qlR  x y H Q:qc_ x y H Q=(isStr x fun z=>isInt y fun i=>z.length≤sizeLine∧∃c,Aa z.cps.toList i=some c∧Q (.str ⟨#[c]⟩) H):=rfl
theorem qda  {x y H Q} (h:qc_ x y H Q):qfq x y H Q:=by
  obtain⟨z,rfl,h1⟩:=isStr.out h;obtain⟨i,rfl,h2,c,h3,h4⟩:=isInt.out h1;exact⟨z,i,c,rfl,rfl,h2,h3,h4⟩
def K7 (K:W.Frag):List V→Hp→VK→Prop:=fun xs H Q=>ar1 xs fun x=>isRef x fun p=>∃ys,(bw K H p ys∨dW K H p ys)∧Q (.int ys.length) H
@[simp ↓] theorem qkF (K:W.Frag) xs H Q:K7 K xs H Q=(ar1 xs fun x=>isRef x fun p=>∃ys,(bw K H p ys∨dW K H p ys)∧Q (.int ys.length) H):=rfl
theorem qah {K:W.Frag} {xs H Q} (h:K7 K xs H Q):qbx K xs H Q:=by
  obtain⟨x,rfl,h1⟩:=ar1.out h;obtain⟨p,rfl,ys,h2,h3⟩:=isRef.out h1;exact⟨p,ys,rfl,h2,h3⟩
def W5  : List V→Hp→VK→Prop:=fun xs H Q=>ar1 xs fun x=>isStr x fun z=>z.length≤sizeLine∧Q (.int z.length) H
@[simp ↓] theorem qkG  xs H Q:W5 xs H Q=(ar1 xs fun x=>isStr x fun z=>z.length≤sizeLine∧Q (.int z.length) H):=rfl
theorem qai  {xs H Q} (h:W5 xs H Q):qby xs H Q:=by
  obtain⟨x,rfl,h1⟩:=ar1.out h;obtain⟨p,rfl,h2⟩:=isStr.out h1;exact⟨p,rfl,h2⟩
def Iw (K:W.Frag):List V→Hp→VK→Prop:=fun xs H Q=>ar1 xs fun x=>isRef x fun p=>∃ys,(bw K H p ys∨dW K H p ys)∧∀l,H l=none→Q (.ref l) (upd H l (.lst ys))
@[simp ↓] theorem qe3 (K:W.Frag) xs H Q:Iw K xs H Q=(ar1 xs fun x=>isRef x fun p=>∃ys,(bw K H p ys∨dW K H p ys)∧∀l,H l=none→Q (.ref l) (upd H l (.lst ys))):=rfl
theorem Tv {K:W.Frag} {xs H Q} (h:Iw K xs H Q):QK K xs H Q:=by
  obtain⟨x,rfl,h1⟩:=ar1.out h;obtain⟨p,rfl,ys,h2,h3⟩:=isRef.out h1;exact⟨p,ys,rfl,h2,h3⟩
def Iz  : List V→Hp→VK→Prop:=fun xs H Q=>ar1 xs fun x=>isRef x fun p=>∃ys,Sq H p ys∧∀l H',H' l=some (.tup ys)→Same H H'→Q (.ref l) H'
@[simp ↓] theorem qe4  xs H Q:Iz xs H Q=(ar1 xs fun x=>isRef x fun p=>∃ys,Sq H p ys∧∀l H',H' l=some (.tup ys)→Same H H'→Q (.ref l) H'):=rfl
theorem Tw  {xs H Q} (h:Iz xs H Q):QM xs H Q:=by
  obtain⟨x,rfl,h1⟩:=ar1.out h;obtain⟨p,rfl,ys,h2,h3⟩:=isRef.out h1;exact⟨p,ys,rfl,h2,h3⟩
def W6 (K:W.Frag):List V→Hp→VK→Prop:=fun xs H Q=>ar2 xs fun x y=>Tt y fun n=>∃t,m_ K H x t∧∃b,W.kitOne K t (.type n)=some b∧Q (.bl b) H
@[simp ↓] theorem qkH (K:W.Frag) xs H Q:W6 K xs H Q=(ar2 xs fun x y=>Tt y fun n=>∃t,m_ K H x t∧∃b,W.kitOne K t (.type n)=some b∧Q (.bl b) H):=rfl
theorem qaj {K:W.Frag} {xs H Q} (h:W6 K xs H Q):qbz K xs H Q:=by
  obtain⟨x,y,rfl,h1⟩:=ar2.out h;obtain⟨n,rfl,t,h2,b,h3,h4⟩:=Tt.out h1;exact⟨x,n,t,b,rfl,h2,h3,h4⟩
def W7 (K:W.Frag):List V→Hp→VK→Prop:=fun xs H Q=>ar2 xs fun x y=>isRef y fun p=>∃m n,H p=some (.tup [.ty m,.ty n])∧∃t,m_ K H x t∧∃b,W.kitAny K t [.type m,.type n]=some b∧Q (.bl b) H
@[simp ↓] theorem qkI (K:W.Frag) xs H Q:W7 K xs H Q=(ar2 xs fun x y=>isRef y fun p=>∃m n,H p=some (.tup [.ty m,.ty n])∧∃t,m_ K H x t∧∃b,W.kitAny K t [.type m,.type n]=some b∧Q (.bl b) H):=rfl
theorem qak {K:W.Frag} {xs H Q} (h:W7 K xs H Q):qbA K xs H Q:=by
  obtain⟨x,y,rfl,h1⟩:=ar2.out h;obtain⟨p,rfl,m,n,h0,t,h2,b,h3,h4⟩:=isRef.out h1;exact⟨x,p,m,n,t,b,rfl,h0,h2,h3,h4⟩
def fIn (K:W.Frag):R2:=fun x y H Q=>isRef y fun p=>∃xs,(bw K H p xs∨dW K H p xs)∧j6 x=true∧(∀z∈xs,j6 z=true)∧Q (.bl (inV x xs)) H
@[simp ↓] theorem qo2 (K:W.Frag) x y H Q:fIn K x y H Q=(isRef y fun p=>∃xs,(bw K H p xs∨dW K H p xs)∧j6 x=true∧(∀z∈xs,j6 z=true)∧Q (.bl (inV x xs)) H):=rfl
theorem qfX {K:W.Frag} {x y H Q} (h:fIn K x y H Q):Z9 K x y H Q:=by
  obtain⟨p,rfl,xs,h1,h2,h3,h4⟩:=isRef.out h;exact .inl ⟨p,xs,rfl,h1,h2,List.all_eq_true.mpr h3,h4⟩
def Og (K:W.Frag):R2:=fun x y H Q=>isRef y fun p=>∃xs,(bw K H p xs∨dW K H p xs)∧j6 x=true∧(∀z∈xs,j6 z=true)∧∃k,inV x xs = !k∧Q (.bl k) H
@[simp ↓] theorem qfY (K:W.Frag) x y H Q:Og K x y H Q=(isRef y fun p=>∃xs,(bw K H p xs∨dW K H p xs)∧j6 x=true∧(∀z∈xs,j6 z=true)∧∃k,inV x xs = !k∧Q (.bl k) H):=rfl
theorem W8 {K:W.Frag} {x y H Q} (h:Og K x y H Q):Ii K x y H Q:=by
  obtain⟨p,rfl,xs,h1,h2,h3,h4⟩:=isRef.out h;exact .inl ⟨p,xs,rfl,h1,h2,List.all_eq_true.mpr h3,zF (R:=fun k=>Q (.bl k) H) h4⟩
def qdb (K:W.Frag):R2:=fun x y H Q=>isStr x fun i=>isStr y fun j=>Q (.bl (!(Builtin.Str.occurrences j i 0 j.length 1).isEmpty)) H
@[simp ↓] theorem qlS (K:W.Frag) x y H Q:qdb K x y H Q=(isStr x fun i=>isStr y fun j=>Q (.bl (!(Builtin.Str.occurrences j i 0 j.length 1).isEmpty)) H):=rfl
theorem qdc {K:W.Frag} {x y H Q} (h:qdb K x y H Q):Z9 K x y H Q:=by
  obtain⟨i,rfl,h1⟩:=isStr.out h;obtain⟨j,rfl,h2⟩:=isStr.out h1;exact .inr ⟨i,j,rfl,rfl,h2⟩
def IK  : V→List V→Hp→VK→Prop:=fun x vs H Q=>isRef x fun l=>ar1 vs fun y=>∃xs,H l=some (.lst xs)∧xs.length<sizeLine∧Q .non (upd H l (.lst (xs++[y])))
@[simp ↓] theorem qe5  x vs H Q:IK x vs H Q=(isRef x fun l=>ar1 vs fun y=>∃xs,H l=some (.lst xs)∧xs.length<sizeLine∧Q .non (upd H l (.lst (xs++[y])))):=rfl
theorem Tz  {x vs H Q} (h:IK x vs H Q):H_ x vs H Q:=by
  obtain⟨l,rfl,h1⟩:=isRef.out h;obtain⟨y,rfl,xs,h2,h3⟩:=ar1.out h1;exact⟨l,xs,y,rfl,rfl,h2,h3⟩
def IV  : V→List V→Hp→VK→Prop:=fun x vs H Q=>isRef x fun l=>ar2 vs fun j y=>isInt j fun i=>∃xs,H l=some (.lst xs)∧0≤i∧i≤xs.length∧xs.length<sizeLine∧Q .non (upd H l (.lst (xs.take i.toNat++y::xs.drop i.toNat)))
@[simp ↓] theorem qe6  x vs H Q:IV x vs H Q=(isRef x fun l=>ar2 vs fun j y=>isInt j fun i=>∃xs,H l=some (.lst xs)∧0≤i∧i≤xs.length∧xs.length<sizeLine∧Q .non (upd H l (.lst (xs.take i.toNat++y::xs.drop i.toNat)))):=rfl
theorem TF  {x vs H Q} (h:IV x vs H Q):Ib x vs H Q:=by
  obtain⟨l,rfl,h1⟩:=isRef.out h;obtain⟨j,y,rfl,h2⟩:=ar2.out h1;obtain⟨i,rfl,xs,h3⟩:=isInt.out h2;exact⟨l,xs,i,y,rfl,rfl,h3⟩
def Oh  : V→List V→Hp→VK→Prop:=fun x vs H Q=>isRef x fun l=>Vn vs (∃xs,H l=some (.lst xs)∧Q .non (upd H l (.lst [])))
@[simp ↓] theorem qfZ  x vs H Q:Oh x vs H Q=(isRef x fun l=>Vn vs (∃xs,H l=some (.lst xs)∧Q .non (upd H l (.lst [])))):=rfl
theorem W9  {x vs H Q} (h:Oh x vs H Q):NZ x vs H Q:=by
  obtain⟨l,rfl,h1⟩:=isRef.out h;obtain⟨rfl,xs,h2⟩:=Vn.out h1;exact⟨l,xs,rfl,rfl,h2⟩
def W_  : V→List V→Hp→VK→Prop:=fun x vs H Q=>isStr x fun sep=>ar1 vs fun y=>isRef y fun l=>∃ys:List Str,H l=some (.lst (ys.map V.str))∧(ys.map (·.length)).sum+ys.length * sep.length≤16777216∧Q (.str (Txt.join sep ys)) H
@[simp ↓] theorem qkJ  x vs H Q:W_ x vs H Q=(isStr x fun sep=>ar1 vs fun y=>isRef y fun l=>∃ys:List Str,H l=some (.lst (ys.map V.str))∧(ys.map (·.length)).sum+ys.length * sep.length≤16777216∧Q (.str (Txt.join sep ys)) H):=rfl
theorem qal  {x vs H Q} (h:W_ x vs H Q):rJoin x vs H Q:=by
  obtain⟨sep,rfl,h1⟩:=isStr.out h;obtain⟨y,rfl,h2⟩:=ar1.out h1;obtain⟨l,rfl,ys,h3⟩:=isRef.out h2;exact⟨sep,l,ys,rfl,rfl,h3⟩
def qdd (K:W.Frag):R2:=fun x y H Q=>∃d,Is K H d x∧∃e,Is K H e y∧d.canLay0=true∧e.canLay0=true∧d.depth≤64∧∃k,PyData.eqv d e = !k∧Q (.bl k) H
@[simp ↓] theorem qlT (K:W.Frag) x y H Q:qdd K x y H Q=(∃d,Is K H d x∧∃e,Is K H e y∧d.canLay0=true∧e.canLay0=true∧d.depth≤64∧∃k,PyData.eqv d e = !k∧Q (.bl k) H):=rfl
theorem qde {K:W.Frag} {x y H Q} (h:qdd K x y H Q):qfL K x y H Q:=by
  obtain⟨d,h1,e,h2,h3,h4,h5,h6⟩:=h;exact⟨d,e,h1,h2,h3,h4,h5,zF (R:=fun k=>Q (.bl k) H) h6⟩
def qdf (K:W.Frag):R2:=fun x y H Q=>∃d,Is K H d x∧∃e,Is K H e y∧d.canLay0=true∧e.canLay0=true∧d.depth≤64∧Q (.bl (PyData.eqv d e)) H
@[simp ↓] theorem qlU (K:W.Frag) x y H Q:qdf K x y H Q=(∃d,Is K H d x∧∃e,Is K H e y∧d.canLay0=true∧e.canLay0=true∧d.depth≤64∧Q (.bl (PyData.eqv d e)) H):=rfl
theorem qdg {K:W.Frag} {x y H Q} (h:qdf K x y H Q):qfK K x y H Q:=by
  obtain⟨d,h1,e,h2,h3,h4,h5,h6⟩:=h;exact⟨d,e,h1,h2,h3,h4,h5,h6⟩
def qdh  : List V→Hp→VK→Prop:=fun xs H Q=>ar1 xs fun x=>isInt x fun i=>Q (.int (if i<0 then -i else i)) H
@[simp ↓] theorem qlV  xs H Q:qdh xs H Q=(ar1 xs fun x=>isInt x fun i=>Q (.int (if i<0 then -i else i)) H):=rfl
theorem qdi  {xs H Q} (h:qdh xs H Q):(fun xs H Q=>∃i,xs=[.int i]∧Q (.int (if i<0 then -i else i)) H:List V→Hp→VK→Prop) xs H Q:=by
  obtain⟨x,rfl,h1⟩:=ar1.out h;obtain⟨i,rfl,h2⟩:=isInt.out h1;exact⟨i,rfl,h2⟩
def Xa  : List V→Hp→VK→Prop:=fun xs H Q=>ar2 xs fun x y=>isInt x fun i=>isInt y fun j=>Q (.int (if j > i then j else i)) H
@[simp ↓] theorem qkK  xs H Q:Xa xs H Q=(ar2 xs fun x y=>isInt x fun i=>isInt y fun j=>Q (.int (if j > i then j else i)) H):=rfl
theorem qam  {xs H Q} (h:Xa xs H Q):(fun xs H Q=>∃i j,xs=[.int i,.int j]∧Q (.int (if j > i then j else i)) H:List V→Hp→VK→Prop) xs H Q:=by
  obtain⟨x,y,rfl,h1⟩:=ar2.out h;obtain⟨i,rfl,h2⟩:=isInt.out h1;obtain⟨j,rfl,h3⟩:=isInt.out h2;exact⟨i,j,rfl,h3⟩
def Xb  : List V→Hp→VK→Prop:=fun xs H Q=>ar2 xs fun x y=>isInt x fun i=>isInt y fun j=>Q (.int (if j<i then j else i)) H
@[simp ↓] theorem qkL  xs H Q:Xb xs H Q=(ar2 xs fun x y=>isInt x fun i=>isInt y fun j=>Q (.int (if j<i then j else i)) H):=rfl
theorem qan  {xs H Q} (h:Xb xs H Q):(fun xs H Q=>∃i j,xs=[.int i,.int j]∧Q (.int (if j<i then j else i)) H:List V→Hp→VK→Prop) xs H Q:=by
  obtain⟨x,y,rfl,h1⟩:=ar2.out h;obtain⟨i,rfl,h2⟩:=isInt.out h1;obtain⟨j,rfl,h3⟩:=isInt.out h2;exact⟨i,j,rfl,h3⟩
def IW  : List V→Hp→VK→Prop:=fun xs H Q=>ar2 xs fun x y=>isInt x fun i=>isInt y fun j=>R3 i j∧∀p,H p=none→Q (.ref p) (upd H p (.tup [.int (i / j),.int (i % j)]))
@[simp ↓] theorem qe7  xs H Q:IW xs H Q=(ar2 xs fun x y=>isInt x fun i=>isInt y fun j=>R3 i j∧∀p,H p=none→Q (.ref p) (upd H p (.tup [.int (i / j),.int (i % j)]))):=rfl
theorem TJ  {xs H Q} (h:IW xs H Q):(fun xs H Q=>∃i j,xs=[.int i,.int j]∧R3 i j∧∀p,H p=none→Q (.ref p) (upd H p (.tup [.int (i / j),.int (i % j)])):List V→Hp→VK→Prop) xs H Q:=by
  obtain⟨x,y,rfl,h1⟩:=ar2.out h;obtain⟨i,rfl,h2⟩:=isInt.out h1;obtain⟨j,rfl,h3⟩:=isInt.out h2;exact⟨i,j,rfl,h3⟩
def qdj  : List V→Hp→VK→Prop:=fun xs H Q=>ar1 xs fun x=>isRef x fun a=>∃ys,H a=some (.lst ys)∧∃bs,oW ys bs∧Q (.bl (bs.all id)) H
@[simp ↓] theorem qlW  xs H Q:qdj xs H Q=(ar1 xs fun x=>isRef x fun a=>∃ys,H a=some (.lst ys)∧∃bs,oW ys bs∧Q (.bl (bs.all id)) H):=rfl
theorem qdk  {xs H Q} (h:qdj xs H Q):(fun xs H Q=>∃a ys bs,xs=[.ref a]∧H a=some (.lst ys)∧oW ys bs∧Q (.bl (bs.all id)) H:List V→Hp→VK→Prop) xs H Q:=by
  obtain⟨x,rfl,h1⟩:=ar1.out h;obtain⟨a,rfl,ys,h2,bs,h3,h4⟩:=isRef.out h1;exact⟨a,ys,bs,rfl,h2,h3,h4⟩
def qdl  : List V→Hp→VK→Prop:=fun xs H Q=>ar1 xs fun x=>isRef x fun a=>∃ys,H a=some (.lst ys)∧∃bs,oW ys bs∧Q (.bl (bs.any id)) H
@[simp ↓] theorem qlX  xs H Q:qdl xs H Q=(ar1 xs fun x=>isRef x fun a=>∃ys,H a=some (.lst ys)∧∃bs,oW ys bs∧Q (.bl (bs.any id)) H):=rfl
theorem qdm  {xs H Q} (h:qdl xs H Q):qbD xs H Q:=by
  obtain⟨x,rfl,h1⟩:=ar1.out h;obtain⟨a,rfl,ys,h2,bs,h3,h4⟩:=isRef.out h1;exact⟨a,ys,bs,rfl,h2,h3,h4⟩
def Q6:List V→Hp→VK→Prop:=fun xs H Q=>ar1 xs fun x=>match x with | .int i=>Q (.int i) H | .bl k=>Q (.int (if k=true then 1 else 0)) H | _=>False
@[simp ↓] theorem qkM i H Q:Q6 [.int i] H Q=Q (.int i) H:=rfl
@[simp ↓] theorem qkN k H Q:Q6 [.bl k] H Q=Q (.int (if k=true then 1 else 0)) H:=rfl
theorem qao {xs H Q} (h:Q6 xs H Q):(fun xs H Q=>(∃i,xs=[.int i]∧Q (.int i) H)∨∃k,xs=[.bl k]∧Q (.int (if k then 1 else 0)) H:List V→Hp→VK→Prop) xs H Q:=by
  obtain⟨x,rfl,h1⟩:=ar1.out h;cases x with
  | int i=>exact .inl ⟨i,rfl,h1⟩
  | bl k=>exact .inr ⟨k,rfl,h1⟩
  | _=>exact h1.elim
def Xc:RV:=fun o i v H Q=>isRef o fun p=>isInt i fun k=>∃xs,H p=some (.lst xs)∧∃j,V_ xs.length k=some j∧Q (upd H p (.lst (xs.set j v)))
@[simp ↓] theorem qkO o i v H Q:Xc o i v H Q=(isRef o fun p=>isInt i fun k=>∃xs,H p=some (.lst xs)∧∃j,V_ xs.length k=some j∧Q (upd H p (.lst (xs.set j v)))):=rfl
theorem qap {o i v H Q} (h:Xc o i v H Q):qbw o i v H Q:=by
  obtain⟨p,rfl,h1⟩:=isRef.out h;obtain⟨k,rfl,xs,h2,j,h3,h4⟩:=isInt.out h1;exact⟨p,xs,k,j,rfl,rfl,h2,h3,h4⟩
def qdn (K:W.Frag):V→Option Int→Option Int→Hp→VK→Prop:=fun x lo hi H Q=>isRef x fun a=>∃xs,bw K H a xs∧∀p,H p=none→Q (.ref p) (upd H p (.lst (CN xs lo hi)))
@[simp ↓] theorem qlY (K:W.Frag) x lo hi H Q:qdn K x lo hi H Q=(isRef x fun a=>∃xs,bw K H a xs∧∀p,H p=none→Q (.ref p) (upd H p (.lst (CN xs lo hi)))):=rfl
theorem qdo {K:W.Frag} {x lo hi H Q} (h:qdn K x lo hi H Q):ZW K x lo hi H Q:=by
  obtain⟨a,rfl,xs,h1⟩:=isRef.out h;exact⟨a,xs,rfl,h1⟩
def qf0:J2:=fun vs σ H Q=>Vn vs (Q σ H)
def qbF (t:TG) (u:J2):J2:=fun vs σ H Q=>arH vs fun v r=>t v σ H fun σ' H'=>u r σ' H' Q
def qf1 (K:W.Frag) (n:Nat) (t:J2):TG:=fun v σ H Q=>isRef v fun a=>∃xs,dW K H a xs∧xs.length=n∧t xs σ H Q
@[simp ↓] theorem qlZ vs σ H Q:qf0 vs σ H Q=Vn vs (Q σ H):=rfl
@[simp ↓] theorem qkP t u vs σ H Q:qbF t u vs σ H Q=(arH vs fun v r=>t v σ H fun σ' H'=>u r σ' H' Q):=rfl
@[simp ↓] theorem ql0 K n t v σ H Q:qf1 K n t v σ H Q=(isRef v fun a=>∃xs,dW K H a xs∧xs.length=n∧t xs σ H Q):=rfl
theorem iK {vs σ H Q} (h:qf0 vs σ H Q):qcj vs σ H Q:=Vn.out h
theorem bB (t:TG) (u:J2):qbF t u=Vz t u:=by
  funext vs σ H Q
  exact qc7 _ _
theorem fL (K:W.Frag) (n:Nat) (t:J2):qf1 K n t=ZC K n t:=by
  funext v σ H Q
  refine propext ⟨fun h=>?_,fun⟨a,xs,e,h⟩=>by subst e;exact⟨xs,h⟩⟩;obtain⟨a,rfl,xs,h1⟩:=isRef.out h;exact⟨a,xs,rfl,h1⟩
def qdp (f:Int→Int→Int):Zz:=fun x y H Q=>isInt x fun i=>isInt y fun j=>Q (.int (f i j)) H
@[simp ↓] theorem ql1 f x y H Q:qdp f x y H Q=(isInt x fun i=>isInt y fun j=>Q (.int (f i j)) H):=rfl
theorem qdq {f:Int→Int→Int} {x y H Q} (h:qdp f x y H Q):ipI f x y H Q:=by
  obtain⟨i,rfl,h1⟩:=isInt.out h;obtain⟨j,rfl,h2⟩:=isInt.out h1;exact⟨i,j,rfl,rfl,h2⟩
def qf2 (i:Nat) (te:TE) (ti:Zz):TS:=fun D σ H=>getSt σ i fun x=>te σ H fun y H1=>ti x y H1 fun z H2=>D.nx (σ.set i (some z)) H2
@[simp ↓] theorem ql2 i te ti D σ H:qf2 i te ti D σ H=(getSt σ i fun x=>te σ H fun y H1=>ti x y H1 fun z H2=>D.nx (σ.set i (some z)) H2):=rfl
theorem qdr {i:Nat} {te:TE} {ti:Zz} {D σ H} (h:qf2 i te ti D σ H):qcl i te ti D σ H:=getSt.out h
def Xd (K:W.Frag) (tl:TE):TI:=fun σ H R=>tl σ H fun x H1=>isRef x fun a=>(∃xs,bw K H1 a xs)∧R (Vk K a) H1
def qbG (K:W.Frag) (tl:TE):TI:=fun σ H R=>tl σ H fun x H1=>isRef x fun p=>∃b,(∃xs,SqB b K H1 p xs)∧R (Itq b K p) H1
def qbH (tl:TE):TI:=fun σ H R=>tl σ H fun x H1=>isStr x fun z=>R (Its z) H1
def Xe (ta:TA):TI:=fun σ H R=>ta σ H fun vs H1=>ar1 vs fun v=>isInt v fun j=>-(2 ^ 62)≤j∧j<2 ^ 62∧R (M_ 0 j.toNat) H1
def Xf (ta:TA):TI:=fun σ H R=>ta σ H fun vs H1=>ar2 vs fun v w=>isInt v fun i=>isInt w fun j=>(-(2 ^ 62)≤i∧i<2 ^ 62∧-(2 ^ 62)≤j∧j<2 ^ 62)∧R (M_ i (j - i).toNat) H1
def qbI (K:W.Frag) (t:TA):TI:=fun σ H R=>t σ H fun vs H1=>ar2 vs fun x y=>isRef x fun a=>isRef y fun b=>(∃xs,bw K H1 a xs)∧(∃ys,bw K H1 b ys)∧R (Itz K a b) H1
def Xg (K:W.Frag) (t:TA):TI:=fun σ H R=>t σ H fun vs H1=>ar1 vs fun x=>isRef x fun a=>(∃xs,bw K H1 a xs)∧R (Ite K a) H1
@[simp ↓] theorem qf3 K tl σ H R:Xd K tl σ H R=(tl σ H fun x H1=>isRef x fun a=>(∃xs,bw K H1 a xs)∧R (Vk K a) H1):=rfl
@[simp ↓] theorem qkQ K tl σ H R:qbG K tl σ H R=(tl σ H fun x H1=>isRef x fun p=>∃b,(∃xs,SqB b K H1 p xs)∧R (Itq b K p) H1):=rfl
@[simp ↓] theorem qkR tl σ H R:qbH tl σ H R=(tl σ H fun x H1=>isStr x fun z=>R (Its z) H1):=rfl
@[simp ↓] theorem qf4 ta σ H R:Xe ta σ H R=(ta σ H fun vs H1=>ar1 vs fun v=>isInt v fun j=>-(2 ^ 62)≤j∧j<2 ^ 62∧R (M_ 0 j.toNat) H1):=rfl
@[simp ↓] theorem qf5 ta σ H R:Xf ta σ H R=(ta σ H fun vs H1=>ar2 vs fun v w=>isInt v fun i=>isInt w fun j=>(-(2 ^ 62)≤i∧i<2 ^ 62∧-(2 ^ 62)≤j∧j<2 ^ 62)∧R (M_ i (j - i).toNat) H1):=rfl
@[simp ↓] theorem qkS K t σ H R:qbI K t σ H R=(t σ H fun vs H1=>ar2 vs fun x y=>isRef x fun a=>isRef y fun b=>(∃xs,bw K H1 a xs)∧(∃ys,bw K H1 b ys)∧R (Itz K a b) H1):=rfl
@[simp ↓] theorem qf6 K t σ H R:Xg K t σ H R=(t σ H fun vs H1=>ar1 vs fun x=>isRef x fun a=>(∃xs,bw K H1 a xs)∧R (Ite K a) H1):=rfl
theorem cP (K:W.Frag) (tl:TE):Xd K tl=Qv K tl:=by
  funext σ H R
  exact congrArg (tl σ H) (funext fun x=>funext fun H1=>K5 _ _)
theorem yc (K:W.Frag) (tl:TE):qbG K tl=qcT K tl:=by
  funext σ H R
  refine congrArg (tl σ H) (funext fun x=>funext fun H1=>propext ⟨fun h=>?_,fun⟨b,p,e,h⟩=>by subst e;exact⟨b,h⟩⟩);obtain⟨p,rfl,b,h1⟩:=isRef.out h;exact⟨b,p,rfl,h1⟩
theorem Xh (tl:TE):qbH tl=qcL tl:=by
  funext σ H R
  exact congrArg (tl σ H) (funext fun x=>funext fun H1=>W2 _ _)
theorem iD (ta:TA):Xe ta=VG ta:=by
  funext σ H R
  refine congrArg (ta σ H) (funext fun x=>funext fun H1=>propext ⟨fun h=>?_,fun⟨b,e,h⟩=>by subst e;exact h⟩);obtain⟨v,rfl,h1⟩:=ar1.out h;obtain⟨i,rfl,h2⟩:=isInt.out h1;exact⟨i,rfl,h2⟩
theorem TQ (ta:TA):Xf ta=VH ta:=by
  funext σ H R
  refine congrArg (ta σ H) (funext fun x=>funext fun H1=>propext ⟨fun h=>?_,fun⟨b,c,e,h⟩=>by subst e;exact h⟩);obtain⟨v,w,rfl,h1⟩:=ar2.out h;obtain⟨i,rfl,h2⟩:=isInt.out h1;obtain⟨j,rfl,h3⟩:=isInt.out h2;exact⟨i,j,rfl,h3⟩
theorem K8 (K:W.Frag) (t:TA):qbI K t=Z4 K t:=by
  funext σ H R
  refine congrArg (t σ H) (funext fun x=>funext fun H1=>propext ⟨fun h=>?_,fun⟨a,b,xs,ys,e,h1,h2,h3⟩=>by subst e;exact⟨⟨xs,h1⟩,⟨ys,h2⟩,h3⟩⟩);obtain⟨v,w,rfl,h1⟩:=ar2.out h;obtain⟨i,rfl,h2⟩:=isRef.out h1;obtain⟨j,rfl,⟨xs,h3⟩,⟨ys,h4⟩,h5⟩:=isRef.out h2;exact⟨i,j,xs,ys,rfl,h3,h4,h5⟩
theorem zJ (K:W.Frag) (t:TA):Xg K t=WM K t:=by
  funext σ H R
  refine congrArg (t σ H) (funext fun x=>funext fun H1=>propext ⟨fun h=>?_,fun⟨a,xs,e,h1,h3⟩=>by subst e;exact⟨⟨xs,h1⟩,h3⟩⟩);obtain⟨v,rfl,h1⟩:=ar1.out h;obtain⟨i,rfl,⟨xs,h3⟩,h5⟩:=isRef.out h1;exact⟨i,xs,rfl,h3,h5⟩
def qbJ (sp:Sp) (E:XK) (t:TA):TE:=fun σ H Q=>t σ H fun vs H1=>Tn sp vs H1 Q ⟨0⟩ E
@[simp ↓] theorem qkT sp E t σ H Q:qbJ sp E t σ H Q=(t σ H fun vs H1=>Tn sp vs H1 Q ⟨0⟩ E):=rfl
theorem aG (sp:Sp) (E:XK) (t:TA):qbJ sp E t=V4 sp [] E t:=by
  funext σ H Q
  exact congrArg (t σ H) (funext fun vs=>funext fun H1=>by rw[List.append_nil];rfl)
def qbK (C:Addr) (m:Str) (sp:Sp) (E:XK) (ta:TE) (t:TA):TE:=fun σ H Q=>ta σ H fun x H1=>isRef x fun a=>∃dx fs,H1 a=some (.ins C dx fs)∧fs.lookup m=none∧t σ H1 fun vs H2=>Tn sp (.ref a::vs) H2 Q ⟨0⟩ E
@[simp ↓] theorem qkU C m sp E ta t σ H Q:qbK C m sp E ta t σ H Q=(ta σ H fun x H1=>isRef x fun a=>∃dx fs,H1 a=some (.ins C dx fs)∧fs.lookup m=none∧t σ H1 fun vs H2=>Tn sp (.ref a::vs) H2 Q ⟨0⟩ E):=rfl
theorem oh (C:Addr) (m:Str) (sp:Sp) (E:XK) (ta:TE) (t:TA):qbK C m sp E ta t=V5 C m sp [] E ta t:=by
  funext σ H Q
  refine congrArg (ta σ H) (funext fun x=>funext fun H1=>propext ⟨fun h=>?_,fun⟨a,dx,fs,e,h1,h2,h3⟩=>?_⟩)
  ·obtain⟨a,rfl,dx,fs,h1,h2,h3⟩:=isRef.out h;refine⟨a,dx,fs,rfl,h1,h2,?_⟩;simp only[List.append_nil];exact h3
  ·subst e;refine⟨dx,fs,h1,h2,?_⟩;simp only[List.append_nil] at h3;exact h3
def qbL (C:Addr) (sp:Sp) (E:XK) (t:TA):TE:=fun σ H Q=>t σ H fun vs H1=>∀x dx,H1 x=none→H1 dx=none→dx≠x→
  Tn sp (.ref x::vs) (upd (upd H1 dx (.own x)) x (.ins C dx [])) (fun v H2=>v = .non∧Q (.ref x) H2) ⟨0⟩ E
@[simp ↓] theorem qkV C sp E t σ H Q:qbL C sp E t σ H Q=(t σ H fun vs H1=>∀x dx,H1 x=none→H1 dx=none→dx≠x→
  Tn sp (.ref x::vs) (upd (upd H1 dx (.own x)) x (.ins C dx [])) (fun v H2=>v = .non∧Q (.ref x) H2) ⟨0⟩ E):=rfl
theorem Ds (C:Addr) (sp:Sp) (E:XK) (t:TA):qbL C sp E t=V6 C sp [] E t:=by
  funext σ H Q
  refine congrArg (t σ H) (funext fun vs=>funext fun H1=>?_);simp only[List.append_nil];rfl
def qf7 (K:W.Frag) (ta:TE) (f:Str):TE:=fun σ H Q=>ta σ H fun x H1=>isRef x fun a=>∃C dx fs,H1 a=some (.ins C dx fs)∧Cls K C∧mU K C f∧∃v,fs.lookup f=some v∧Q v H1
@[simp ↓] theorem ql3 K ta f σ H Q:qf7 K ta f σ H Q=(ta σ H fun x H1=>isRef x fun a=>∃C dx fs,H1 a=some (.ins C dx fs)∧Cls K C∧mU K C f∧∃v,fs.lookup f=some v∧Q v H1):=rfl
theorem I_ (K:W.Frag) (ta:TE) (f:Str):qf7 K ta f=ZR K ta f:=by
  funext σ H Q
  refine congrArg (ta σ H) (funext fun x=>funext fun H1=>propext ⟨fun h=>?_,fun⟨a,C,dx,fs,v,e,h1,h2,h3,h4⟩=>by subst e;exact⟨C,dx,fs,h1,h2,h3,v,h4⟩⟩);obtain⟨a,rfl,C,dx,fs,h1,h2,h3,v,h4⟩:=isRef.out h;exact⟨a,C,dx,fs,v,rfl,h1,h2,h3,h4⟩
def qbM (td ty:TE):TE:=fun σ H Q=>td σ H fun x H1=>ty σ H1 fun y H2=>isRef x fun a=>∃v,iz H2 a y (some v)∧Q v H2
def qf8 (ty td:TE):TE:=fun σ H Q=>ty σ H fun y H1=>td σ H1 fun x H2=>isRef x fun a=>∃o,iz H2 a y o∧Q (.bl o.isSome) H2
def Q7 (ty td:TE):TE:=fun σ H Q=>ty σ H fun y H1=>td σ H1 fun x H2=>isRef x fun a=>∃o,iz H2 a y o∧Q (.bl o.isNone) H2
def qbN (td ty tv:TE):TS:=fun D σ H=>tv σ H fun v H1=>td σ H1 fun x H2=>ty σ H2 fun y H3=>isRef x fun a=>∃H4,FJ H3 a y v H4∧D.nx σ H4
def Xi (td ty tx:TE):TE:=fun σ H Q=>td σ H fun x H1=>isRef x fun a=>IsD H1 a∧ty σ H1 fun y H2=>tx σ H2 fun z H3=>∃o,iz H3 a y o∧Q (o.getD z) H3
@[simp ↓] theorem qkW td ty σ H Q:qbM td ty σ H Q=(td σ H fun x H1=>ty σ H1 fun y H2=>isRef x fun a=>∃v,iz H2 a y (some v)∧Q v H2):=rfl
@[simp ↓] theorem ql4 ty td σ H Q:qf8 ty td σ H Q=(ty σ H fun y H1=>td σ H1 fun x H2=>isRef x fun a=>∃o,iz H2 a y o∧Q (.bl o.isSome) H2):=rfl
@[simp ↓] theorem qe8 ty td σ H Q:Q7 ty td σ H Q=(ty σ H fun y H1=>td σ H1 fun x H2=>isRef x fun a=>∃o,iz H2 a y o∧Q (.bl o.isNone) H2):=rfl
@[simp ↓] theorem qkX td ty tv D σ H:qbN td ty tv D σ H=(tv σ H fun v H1=>td σ H1 fun x H2=>ty σ H2 fun y H3=>isRef x fun a=>∃H4,FJ H3 a y v H4∧D.nx σ H4):=rfl
@[simp ↓] theorem qf9 td ty tx σ H Q:Xi td ty tx σ H Q=(td σ H fun x H1=>isRef x fun a=>IsD H1 a∧ty σ H1 fun y H2=>tx σ H2 fun z H3=>∃o,iz H3 a y o∧Q (o.getD z) H3):=rfl
theorem Ja {x:V} {β:Type} {R:Addr→β→Prop}:(isRef x fun a=>∃b,R a b)=(∃a b,x = .ref a∧R a b):=propext ⟨fun h=>by obtain⟨a,rfl,b,h1⟩:=isRef.out h;exact⟨a,b,rfl,h1⟩,fun⟨a,b,e,h⟩=>by subst e;exact⟨b,h⟩⟩
theorem ou (td ty:TE):qbM td ty=Wy td ty:=by
  funext σ H Q
  exact congrArg (td σ H) (funext fun x=>funext fun H1=>congrArg (ty σ H1) (funext fun y=>funext fun H2=>Ja))
theorem qaq (ty td:TE):qf8 ty td=qcW ty td:=by
  funext σ H Q
  exact congrArg (ty σ H) (funext fun x=>funext fun H1=>congrArg (td σ H1) (funext fun y=>funext fun H2=>Ja))
theorem Dt (ty td:TE):Q7 ty td=Il ty td:=by
  funext σ H Q
  refine congrArg (ty σ H) (funext fun x=>funext fun H1=>congrArg (td σ H1) (funext fun y=>funext fun H2=>?_));rw[Ja];simp only[Option.not_isSome]
theorem qy (td ty tv:TE):qbN td ty tv=Wz td ty tv:=by
  funext D σ H
  exact congrArg (tv σ H) (funext fun v=>funext fun H1=>congrArg (td σ H1) (funext fun x=>funext fun H2=>congrArg (ty σ H2) (funext fun y=>funext fun H3=>Ja)))
theorem zK (td ty tx:TE):Xi td ty tx=Oc td ty tx:=by
  funext σ H Q
  exact congrArg (td σ H) (funext fun x=>funext fun H1=>K5 _ _)
def qbO (t:TE):TO:=fun σ H Q=>t σ H fun x H1=>isInt x fun i=>Q (some i) H1
@[simp ↓] theorem qkY t σ H Q:qbO t σ H Q=(t σ H fun x H1=>isInt x fun i=>Q (some i) H1):=rfl
theorem yd (t:TE):qbO t=V9 t:=by
  funext σ H Q
  exact congrArg (t σ H) (funext fun x=>funext fun H1=>W0 _ _)
section
variable {X:Cx} {K:W.Frag}
theorem PE.eqv {e:Expr} {t t':TE} (o:PE X e t) (h:t'=t):PE X e t':=h▸o
theorem PC.eqv {op:CmpOp} {a b:Expr} {t t':TE} (o:PC X op a b t) (h:t'=t):PC X op a b t':=h▸o
theorem PS.eqv {e:Stmt} {t t':TS} (o:PS X e t) (h:t'=t):PS X e t':=h▸o
theorem PG.eqv {e:Expr} {t t':TG} (o:PG X e t) (h:t'=t):PG X e t':=h▸o
theorem jC.eqv {e:List Expr} {t t':J2} (o:jC X e t) (h:t'=t):jC X e t':=h▸o
theorem PI.eqv {tg e:Expr} {t t':TI} (o:PI X tg e t) (h:t'=t):PI X tg e t':=h▸o
theorem PO.eqv {e:Option Expr} {t t':TO} (o:PO X e t) (h:t'=t):PO X e t':=h▸o
theorem Bt:jj X (binaryOp .Mult) (fI ZL fun i j=>.int (i * j)):=qcu.mono qaf
theorem Xj:jj X (binaryOp .FloorDiv) (fI R3 fun i j=>.int (i / j)):=ZM.mono qaf
theorem uY:jj X (binaryOp .Mod) (fI (fun _ j=>0<j) fun i j=>.int (i % j)):=qcv.mono qaf
theorem qar:jj X (binaryOp .Pow) (fI qfi fun i j=>.int (i ^ j.toNat)):=qcw.mono qaf
theorem bO (hK:X.K=K):Wa X (qc8 K):=(qlf hK).mono qc9
theorem Q8:Wa X qc_:=qcD.mono qda
theorem Oi (hK:X.K=K):jj X (compareOp .In) (fIn K):=(inK hK).mono qfX
theorem ql5 (hK:X.K=K):jj X (compareOp .In) (qdb K):=(inK hK).mono qdc
theorem uZ (hK:X.K=K):jj X (compareOp .NotIn) (Og K):=(qcS hK).mono W8
theorem Xk (hK:X.K=K) (hu:X.A.units+64<cLine):jj X (compareOp .Eq) (qdf K):=(qc0 hK hu).mono qdg
theorem qds (hK:X.K=K) (hu:X.A.units+64<cLine):jj X (compareOp .NotEq) (qdd K):=(qc1 hK hu).mono qde
theorem cB (hK:X.K=K):cF X (.builtin "len") (K7 K):=(qfz hK).mono qah
theorem qdt:cF X (.builtin "len") W5:=qfA.mono qai
theorem uh (hK:X.K=K):cF X (.type "list") (Iw K):=(Z_ hK).mono Tv
theorem GP:cF X (.type "tuple") Iz:=Wv.mono Tw
theorem oA (hK:X.K=K):cF X (.builtin "isinstance") (W6 K):=(qfB hK).mono qaj
theorem qdu (hK:X.K=K):cF X (.builtin "isinstance") (W7 K):=(qfC hK).mono qak
theorem jX (hc:X.calm=true):cF X (.builtin "all") qdj:=(SQ hc).mono qdk
theorem TV (hc:X.calm=true):cF X (.builtin "any") qdl:=(Tp hc).mono qdm
theorem Oj:cF X (.type "int") Q6:=R7.mono qao
theorem GQ:cF X (.builtin "abs") qdh:=V0.mono qdi
theorem Du (hc:X.calm=true):cF X (.builtin "max") Xa:=(R5 hc).mono qam
theorem Ol (hc:X.calm=true):cF X (.builtin "min") Xb:=(R6 hc).mono qan
theorem Jb:cF X (.builtin "divmod") IW:=Kg.mono TJ
theorem iZ:Nb X "list.append" IK:=Nb.mono (r:=H_) Gu Tz
theorem Om:Nb X "list.insert" IV:=Nb.mono (r:=Ib) SN TF
theorem TX:Nb X "list.clear" Oh:=Nb.mono (r:=NZ) Wf W9
theorem Xl:Nb X "str.join" W_:=qae.mono qal
theorem Q9 (hK:X.K=K):SlR X (qdn K):=(qlL hK).mono qdo
theorem GR:RW X Xc:=set_list.mono qap
theorem qas:PIp X .Add (qdp fun i j=>i+j):=qcn.mono qdq
end
theorem getSt.imp {σ:St} {i:Nat} {R R':V→Prop} (f:∀v,R v→R' v):getSt σ i R→getSt σ i R':=by
  induction σ generalizing i with
  | nil=>exact fun h=>h.elim
  | cons o σ ih=>
    cases i with
    | zero=>cases o with
      | none=>exact fun h=>h.elim
      | some v=>exact f v
    | succ n=>exact ih
theorem isInt.imp {x:V} {R R':Int→Prop} (f:∀v,R v→R' v):isInt x R→isInt x R':=by cases x <;> first | exact f _ | exact fun h=>h.elim
theorem isRef.imp {x:V} {R R':Addr→Prop} (f:∀v,R v→R' v):isRef x R→isRef x R':=by cases x <;> first | exact f _ | exact fun h=>h.elim
theorem ud.imp {x:V} {R R':Bool→Prop} (f:∀v,R v→R' v):ud x R→ud x R':=by cases x <;> first | exact f _ | exact fun h=>h.elim
theorem K9 {K:W.Frag} {g:Int→Int→V} {i j:Nat}:∀(σ:St) (H:Hp) (Q Q':Bool→Hp→Prop),(∀(b:Bool) (H1:Hp),Q b H1→Q' b H1)→xX (tOp (fI0 g) (fVar i) (tCB (K7 K) (QD (fVar j) V3))) σ H Q→xX (tOp (fI0 g) (fVar i) (tCB (K7 K) (QD (fVar j) V3))) σ H Q':=
  fun _ _ _ _ f h=>getSt.imp (fun _ h=>getSt.imp (fun _ h=>isRef.imp (fun _ ⟨ys,h1,h2⟩=>⟨ys,h1,isInt.imp (fun _ h=>isInt.imp (fun _ h=>ud.imp (fun _ h=>f _ _ h) h) h) h2⟩) h) h) h
theorem j7.oU {P:Program} {w:World} {K:W.Frag} {mg:Str→Option Value} {base:Heap} {x qual:Str} {st:Stmt} {f:Addr} {fd:FuncData} {N ps:List Str} {k:Nat} {sp:Sp} (F:j7 K x qual st f fd) (S:aX N ps (ao st)) (len:∀vs H Q E,sp vs H Q E→vs.length=ps.length)
    (hbody:∀(cdv:Value) (A:Around) (outer:List Env) (s:Shared) (H:Hp) (vs:List V) (Q:VK) (E:XK),j4 k (A.deeper (envOfC qual (ao st) s.heap.objs.size f cdv))→sp vs H Q E→
      ∃t,Bk (au lC P w K mg base N qual (ao st) f cdv A outer s H E).Vj (aH st) t∧t {nx:=fun _ H'=>Q .non H',rt:=Q} (mW N vs) H):cg P w K mg base lC (k+1) f fd ps sp:=by
  refine F.ok S len fun cdv A outer s H vs Q E hr h=>?_;obtain⟨t,h1,h2⟩:=hbody cdv A outer s H vs Q E hr h;refine⟨t,h1,?_⟩;have hl:=len _ _ _ _ h;have hp:ps.length≤N.length:=by have:=congrArg List.length S.pre;rw[List.length_take] at this;omega
  rw[uX N vs (by omega)] at h2;exact h2
end L2
namespace L2
open PySem
def yg (T:List jl) (h:Str) (wh:List Nat) (R:BR):BR:=T.foldl (fun R s=>if s.2.1=h∧¬s.2.2∈R.map (·.1) then R++[(s.2.2,wh++[s.1])] else R) R
def zL (S:List jl) (a:Str):Nat→BR
  | 0=>[(a,[])]
  | n+1=>match (zL S a n)[n]? with
    | some x=>yg S x.1 x.2 (zL S a n)
    | none=>zL S a n
theorem Oo (T:List jl) (s:jl) (h:Str) (wh:List Nat) (R:BR):yg (T++[s]) h wh R=if s.2.1=h∧¬s.2.2∈(yg T h wh R).map (·.1) then yg T h wh R++[(s.2.2,wh++[s.1])] else yg T h wh R:=by
  unfold yg;rw[List.foldl_append];rfl
theorem TY {S:List jl} {a:Str} {n:Nat} {h:Str} {wh:List Nat} (e:(zL S a n)[n]? = some (h,wh)):zL S a (n+1)=yg S h wh (zL S a n):=by
  show(match (zL S a n)[n]? with | some x=>yg S x.1 x.2 (zL S a n) | none=>zL S a n)=_
  rw[e]
def ql6 (S:List jl) (a:Str) (R:BR):Prop:=zL S a R.length=R
def rm (H:Hp) (kvs:List (Key×V)):Prop:=∀kv∈kvs,∀p,kv.2 = .ref p→H p=none
theorem rm.snoc {H:Hp} {kvs:List (Key×V)} (h:rm H kvs) {k:Key} {p:Addr} (hp:H p=none):rm H (kvs++[(k,.ref p)]):=by
  intro kv hkv q hq
  rcases List.mem_append.mp hkv with z | z
  ·exact h kv z q hq
  ·simp at z;subst z;cases hq;exact hp
theorem Walk.in {S:List jl} {a y:Str} {k:Nat} (h:Walk S a k y) {xs:List Str} (ha:a∈xs) (hS:∀s∈S,s.2.2∈xs):y∈xs:=by
  cases h with
  | nil=>exact ha
  | snoc _ hs=>exact hS _ hs
def o9 (S:List jl) (f:List Str):Prop:=∀s∈S,s.2.1∈f→s.2.2∈f
structure Ng (S:List jl) (x:Str) (f:List Str):Prop where
  st:x∈f
  nd:f.Nodup
  rt:∀y∈f,RT (fC S) x y
theorem Ng.begin (S:List jl) (x:Str):Ng S x [x]:=⟨by simp,by simp,fun y hy=>by simp at hy;subst hy;exact .refl _⟩
theorem Ng.add {S:List jl} {x:Str} {f:List Str} (h:Ng S x f) {s:jl} (hs:s∈S) (h1:s.2.1∈f) (h2:¬s.2.2∈f):Ng S x (f++[s.2.2]):=by
  refine⟨List.mem_append_left _ h.st,?_,fun y hy=>?_⟩
  ·rw[List.nodup_append];exact⟨h.nd,by simp,fun a ha b hb=>by simp at hb;subst hb;exact fun z=>h2 (z▸ha)⟩
  · rcases List.mem_append.mp hy with z | z
    ·exact h.rt y z
    ·simp at z;subst z;exact .tail (h.rt _ h1) ⟨s.1,hs⟩
theorem Ng.closed {S:List jl} {x:Str} {f:List Str} (h:Ng S x f) (hc:o9 S f) (y:Str):y∈f↔RT (fC S) x y:=by
  refine⟨h.rt y,fun q=>?_⟩
  induction q with
  | refl=>exact h.st
  | tail _ q ih=>
    obtain⟨n,hn⟩:=q;exact hc _ hn ih
theorem Ng.len {S:List jl} {x:Str} {f xs:List Str} (h:Ng S x f) (hx:x∈xs) (hS:∀s∈S,s.2.2∈xs):f.length≤xs.length:=
  iC h.nd fun y hy=>by
    obtain⟨k,hk⟩:=Walk.of (h.rt y hy);exact hk.in hx hS
structure gV (S T:List jl) (x:Str) (f0 f:List Str):Prop where
  r0:f0.Nodup
  r:Ng S x f
  sub:∀y∈f0,y∈f
  le:f0.length≤f.length
  md:∀s∈T,s.2.1∈f0→s.2.2∈f
  cl:o9 S f0→f=f0
theorem gV.enter {S:List jl} {x:Str} {f:List Str} (h:Ng S x f):gV S [] x f f:=⟨h.nd,h,fun _ z=>z,Nat.le_refl _,by simp,fun _=>rfl⟩
theorem gV.skip {S T:List jl} {x:Str} {f0 f:List Str} (h:gV S T x f0 f) {s:jl} (hs:s.2.1∈f→s.2.2∈f):gV S (T++[s]) x f0 f:=by
  refine⟨h.r0,h.r,h.sub,h.le,fun s' hs'=>?_,h.cl⟩
  rcases List.mem_append.mp hs' with z | z
  ·exact h.md s' z
  ·simp at z;subst z;exact fun q=>hs (h.sub _ q)
theorem gV.add {S T:List jl} {x:Str} {f0 f:List Str} (h:gV S T x f0 f) {s:jl} (hS:s∈S) (h1:s.2.1∈f) (h2:¬s.2.2∈f):gV S (T++[s]) x f0 (f++[s.2.2]):=by
  refine⟨h.r0,h.r.add hS h1 h2,fun y hy=>List.mem_append_left _ (h.sub y hy),by have:=h.le;simp;omega,fun s' hs' q=>?_,fun hc=>?_⟩
  · rcases List.mem_append.mp hs' with z | z
    ·exact List.mem_append_left _ (h.md s' z q)
    ·simp at z;subst z;exact List.mem_append_right _ (by simp)
  ·have:=h.cl hc;subst this;exact absurd (hc s hS h1) h2
theorem gV.leave {S:List jl} {x:Str} {f0 f:List Str} {i:Nat} (h:gV S S x f0 f) (h0:o9 S f0∨i+1≤f0.length):Ng S x f∧(o9 S f∨i+1+1≤f.length):=by
  refine⟨h.r,?_⟩
  by_cases hc:o9 S f0
  ·rw[h.cl hc];exact .inl hc
  · rcases h0 with z | z
    ·exact absurd z hc
    · refine .inr ?_;obtain⟨s,hs⟩:∃s,s∈S∧s.2.1∈f0∧¬s.2.2∈f0:=by
        by_cases q:∃s,s∈S∧s.2.1∈f0∧¬s.2.2∈f0
        ·exact q
        · exact absurd (fun s hs h1=>by
            by_cases w:s.2.2∈f0
            ·exact w
            ·exact absurd ⟨s,hs,h1,w⟩ q) hc
      have hg:=h.md s hs.1 hs.2.1
      by_cases w:i+1+1≤f.length
      ·exact w
      ·
        exfalso;have hle:=h.le;have hl:f.length=f0.length:=by omega
        have nd0:(s.2.2::f0).Nodup:=List.nodup_cons.mpr ⟨hs.2.2,h.r0⟩;have:=iC nd0 (xs:=f) fun y hy=>by
          rcases List.mem_cons.mp hy with z | z
          ·rw[z];exact hg
          ·exact h.sub y z
        simp at this;omega
open Classical in
theorem Ng.mJ {S:List jl} {x:Str} {f xs:List Str} (h:Ng S x f) (hc:o9 S f) (nd:xs.Nodup) (hx:x∈xs) (hS:∀s∈S,s.2.2∈xs):f.length=(L2.mJ S xs x).length:=by
  have h1:f.length≤(L2.mJ S xs x).length:=iC h.nd fun y hy=>by
    rw[oY];have:=h.rt y hy;obtain⟨k,hk⟩:=Walk.of this;exact⟨hk.in hx hS,this⟩
  have h2:(L2.mJ S xs x).length≤f.length:=by
    have nd2:(L2.mJ S xs x).Nodup:=by
      unfold L2.mJ;exact nd.filter _
    exact iC nd2 fun y hy=>(h.closed hc y).mpr (oY.mp hy).2
  omega
def bK (S:List jl) (xs ys:List Str):Option Str:=ys.find? fun x=>decide ((L2.mJ S xs x).length<xs.length)
def restOf (S:List jl) (xs:List Str) (x:Str):List Str:=xs.filter fun y=>!decide (y∈L2.mJ S xs x)
theorem K_ {S:List jl} {xs:List Str} {i:Nat} {x:Str} (h0:bK S xs (xs.take i)=none) (hx:xs[i]? = some x) (h:(L2.mJ S xs x).length<xs.length):bK S xs xs=some x:=by
  have e:xs=xs.take i++x::xs.drop (i+1):=by
    have hi:=(List.getElem?_eq_some_iff.mp hx);obtain⟨h1,h2⟩:=hi;rw[← h2,List.getElem_cons_drop,List.take_append_drop]
  unfold bK at h0 ⊢;generalize hp:(fun x=>decide ((L2.mJ S xs x).length<xs.length))=p at h0 ⊢;have hpx:p x=true:=by rw[← hp];exact decide_eq_true h
  conv=>lhs;arg 2;rw[e]
  rw[List.find?_append,h0];simp[List.find?_cons,hpx]
theorem La {S:List jl} {xs:List Str} {i:Nat} {x:Str} (h0:bK S xs (xs.take i)=none) (hx:xs[i]? = some x) (h:¬(L2.mJ S xs x).length<xs.length):bK S xs (xs.take (i+1))=none:=by
  unfold bK at h0 ⊢;rw[List.take_add_one,hx,List.find?_append,h0];simp[List.find?_cons,h]
theorem Lb {S:List jl} {xs:List Str} (h:bK S xs xs=none):∀x∈xs,(L2.mJ S xs x).length=xs.length:=by
  intro x hx;unfold bK at h;have:=List.find?_eq_none.mp h x hx;have h2:=Ir (S:=S) (xs:=xs) (x:=x);simp at this;omega
theorem um {S:List jl} {xs:List Str} {x:Str} (h:bK S xs xs=some x):x∈xs∧(L2.mJ S xs x).length<xs.length:=by
  unfold bK at h;have h1:=List.mem_of_find?_eq_some h;have h2:=List.find?_some h;exact⟨h1,by simpa using h2⟩
theorem fD {S:List jl} {xs:List Str} {x y:Str}:y∈restOf S xs x↔y∈xs∧¬RT (fC S) x y:=by
  unfold restOf;rw[List.mem_filter,Bool.not_eq_true',decide_eq_false_iff_not,oY];constructor
  ·rintro⟨h1,h2⟩;exact⟨h1,fun z=>h2 ⟨h1,z⟩⟩
  ·rintro⟨h1,h2⟩;exact⟨h1,fun z=>h2 z.2⟩
theorem wB {S:List jl} {xs:List Str} {x:Str} (nd:xs.Nodup) (hx:x∈xs) (hl:(L2.mJ S xs x).length<xs.length):0<(restOf S xs x).length∧(restOf S xs x).length<xs.length∧xs.filter (fun y=>decide (y∈restOf S xs x))=restOf S xs x:=by
  have h1:(restOf S xs x).length<xs.length:=by
    have hn:¬x∈restOf S xs x:=fun z=>(fD.mp z).2 (.refl _);have hle:(restOf S xs x).length≤xs.length:=List.length_filter_le _ _
    by_cases q:(restOf S xs x).length=xs.length
    ·unfold restOf at q hn;have:=List.length_filter_eq_length_iff.mp q x hx;exact absurd (List.mem_filter.mpr ⟨hx,this⟩) hn
    ·omega
  have h2:0<(restOf S xs x).length:=by
    by_cases q:0<(restOf S xs x).length
    ·exact q
    · have q0:restOf S xs x=[]:=List.length_eq_zero_iff.mp (by omega);have hall:∀y∈xs,y∈L2.mJ S xs x:=fun y hy=>by
        rw[oY];refine⟨hy,?_⟩
        by_cases w:RT (fC S) x y
        ·exact w
        ·have:=fD.mpr ⟨hy,w⟩;rw[q0] at this;simp at this
      have:=iC nd hall;omega
  refine⟨h2,h1,?_⟩
  conv=>rhs;unfold restOf
  refine List.filter_congr fun y hy=>?_;rw[Bool.eq_iff_iff,decide_eq_true_iff,fD,Bool.not_eq_true',decide_eq_false_iff_not,oY];constructor
  ·rintro⟨_,h⟩ z;exact h z.2
  ·intro h;exact⟨hy,fun z=>h ⟨hy,z⟩⟩
end L2
namespace L2
open PySem
theorem ql7 {m:Nat} (h:1≤m):(0:Int)<m:=by omega
theorem zlt {m b:Nat} {c:Int} (h:m≤b) (hb:(b:Int)<c):(m:Int)<c:=by omega
theorem zlo {f:Int} (h:0≤f) : -4611686018427387904≤f:=by omega
theorem ql8 {f:Nat} : -4611686018427387904≤(f:Int):=by omega
theorem ztn {d:Int} {m b:Nat} (h0:0≤d) (h:d<m) (hb:m≤b):d.toNat+1≤b:=by omega
theorem ql9 {d:Int} (h:0≤d) (c:Int):c+d=max d 0+c:=by omega
theorem zsz {a b:Nat} (h:a<b) (hb:b≤20):a<sizeLine:=Nat.lt_of_lt_of_le h (Nat.le_trans hb (of_eq_true Ip))
theorem z01 {d:Int} (h:0≤d) (h2:d<2):d=0∨d=1:=by omega
theorem z2 {n:Nat} (h:(1:Int)<n):2≤n:=by omega
theorem zk1 {k t:Nat} (h:t≤k):(0:Int)<k - t+1:=by omega
theorem zk2 {k t:Nat} {c:Int} (h:k≤20) (hc:21<c):(k:Int) - t+1<c:=by omega
theorem zk3 {f:Int} {k t p:Nat} (h0:0≤f) (h:f<k - t+1) (e:t=p):p+f.toNat≤k+0:=by omega
theorem zk4 {t p f k i:Nat} (e:t=p) (h:p+f≤k+i) (hi:i<f) (hk:k≤20):t<sizeLine:=by
  have:=of_eq_true Ip;omega
theorem zk5 {p f k i:Nat} (h:p+f≤k+i) (hi:i<f) (hk:k≤20):p≤19:=by omega
theorem zk6 {p f k i:Nat} (h:p+f≤k+i):p+1+f≤k+(i+1):=by omega
theorem zk7 {p f k:Nat} (h:p+f≤k+f):p≤k:=Nat.le_of_add_le_add_right h
theorem ql_ {lo i n:Nat} (h:i<n - lo):lo+i<n:=by omega
theorem zpa (c:Int):0≤if 1000000000000000000<c then c - 1000000000000000000 else 0:=by split <;> omega
theorem zpb (c:Int) (k:Nat):0≤c % 2147483629+977 * (k:Int)+1:=by omega
theorem zpc (c:Int) {k:Nat} (h:k<100):c % 2147483629+977 * (k:Int)+1<4294967296:=by omega
theorem zs1 {s i t p:Nat} (h:s≤2 * i+1) (hi:i<t) (e:t=p) (hp:p≤20):s<sizeLine:=by
  have:60<sizeLine:=by decide
  omega
theorem zs2 {s i:Nat} (h:s≤2 * i+1):s+1≤2 * (i+1):=by omega
theorem zs3 {s t p:Nat} (h:s≤2 * t) (e:t=p) (hp:p≤20):s≤40:=by omega
end L2
namespace L2
open PySem PySem.Spec PyProof.Rows
mutual
def Dv (H:Hp):PyData→V→Prop
  | .none,v=>v = .non
  | .bool b,v=>v = .bl b
  | .int i,v=>v = .int i
  | .str x,v=>v = .str x
  | .list ds,v=>∃a xs,v = .ref a∧H a=some (.lst xs)∧iM H ds xs
  | .tuple ds,v=>∃a xs,v = .ref a∧H a=some (.tup xs)∧iM H ds xs
  | .dict kvs,v=>kvs=[]∧∃a,v = .ref a∧H a=some (.dK [])
def iM (H:Hp):List PyData→List V→Prop
  | [],vs=>vs=[]
  | d::ds,vs=>∃v r,vs=v::r∧Dv H d v∧iM H ds r
end
mutual
theorem Dv.same {H H':Hp} (s:Same H H'):∀(d:PyData) (v:V),Dv H d v→Dv H' d v
  | .none,v,h=>by simp only[Dv] at h ⊢;exact h
  | .bool b,v,h=>by simp only[Dv] at h ⊢;exact h
  | .int i,v,h=>by simp only[Dv] at h ⊢;exact h
  | .str x,v,h=>by simp only[Dv] at h ⊢;exact h
  | .list ds,v,h=>by
    simp only[Dv] at h ⊢;obtain⟨a,xs,e,h1,h2⟩:=h;exact⟨a,xs,e,s _ _ h1,iM.same s ds xs h2⟩
  | .tuple ds,v,h=>by
    simp only[Dv] at h ⊢;obtain⟨a,xs,e,h1,h2⟩:=h;exact⟨a,xs,e,s _ _ h1,iM.same s ds xs h2⟩
  | .dict kvs,v,h=>by
    simp only[Dv] at h ⊢;obtain⟨e0,a,e,h1⟩:=h;exact⟨e0,a,e,s _ _ h1⟩
theorem iM.same {H H':Hp} (s:Same H H'):∀(ds:List PyData) (vs:List V),iM H ds vs→iM H' ds vs
  | [],vs,h=>by simp only[iM] at h ⊢;exact h
  | d::ds,vs,h=>by
    simp only[iM] at h ⊢;obtain⟨v,r,e,h1,h2⟩:=h;exact⟨v,r,e,Dv.same s d v h1,iM.same s ds r h2⟩
end
def hid (p:Addr) (H:Hp):Hp:=fun b=>if b=p then none else H b
theorem wC {p b:Addr} {H:Hp} {o:HO} (h:b≠p) (e:H b=some o):hid p H b=some o:=by
  unfold hid;rw[if_neg h];exact e
section
variable {X:Cx} {p_:List (Addr×Obj)} {σ:St} {H:Hp} {s:Shared} {K:W.Frag}
theorem Oq {P:Program} {w:World} {h:Heap} {a:Addr} (ok:sY P w H h) (e:H a=some (.dK [])):Reads h (.ref a) (.dict []) [a]∧(a == sysModules)=false:=by
  obtain⟨_,hd,vs,kv,o,es,ep,h1,h2,h3,_,h5,_⟩:=QT ok e;refine⟨?_,hd⟩;have ev:vs=[]:=by cases kv;rfl
  subst ev;have el:es.toList=[]:=by
    generalize es.toList=l at h5;cases h5;rfl
  have:=Reads.dict (kvs:=[]) (as:=[]) (bs:=[]) h1 h2.1 h3 (by rw[el];exact .nil) (by rw[el];exact .nil);exact this
mutual
theorem Dv.reads (I:Inv X p_ σ H s):∀(d:PyData) (v:V) (u:Value),Dv H d v→RelV v u→∃as,Reads s.heap u d as
  | .none,v,u,h,r=>by
    simp only[Dv] at h;subst h;cases r;exact⟨_,.none⟩
  | .bool b,v,u,h,r=>by
    simp only[Dv] at h;subst h;cases r;exact⟨_,.bool b⟩
  | .int i,v,u,h,r=>by
    simp only[Dv] at h;subst h;obtain⟨t,rfl⟩:=r;exact⟨_,.int i t⟩
  | .str x,v,u,h,r=>by
    simp only[Dv] at h;subst h;obtain⟨t,rfl⟩:=r;exact⟨_,.str x t⟩
  | .list ds,v,u,h,r=>by
    simp only[Dv] at h;obtain⟨a,xs,rfl,hq,hs⟩:=h;cases r;obtain⟨its,rv,pl,hz⟩:=I.list (bw.of hq);obtain⟨o,e,c,n,dt⟩:=pl.isList;obtain⟨as,ra⟩:=iM.reads I ds xs its hs rv;exact⟨_,.list e c dt (by simpa using ra)⟩
  | .tuple ds,v,u,h,r=>by
    simp only[Dv] at h;obtain⟨a,xs,rfl,hq,hs⟩:=h;cases r;obtain⟨its,rv,pl,hz⟩:=I.tuple (dW.of hq);obtain⟨o,e,c,n,dt⟩:=pl;obtain⟨as,ra⟩:=iM.reads I ds xs its hs rv;exact⟨_,.tuple e c dt (by simpa using ra)⟩
  | .dict kvs,v,u,h,r=>by
    simp only[Dv] at h;obtain⟨rfl,a,rfl,h1⟩:=h;cases r;exact⟨_,(Oq I.hok h1).1⟩
theorem iM.reads (I:Inv X p_ σ H s):∀(ds:List PyData) (vs:List V) (us:List Value),iM H ds vs→Vals vs us→∃as,ReadsAll s.heap us ds as
  | [],vs,us,h,r=>by
    simp only[iM] at h;subst h;cases r;exact⟨_,.nil⟩
  | d::ds,vs,us,h,r=>by
    simp only[iM] at h;obtain⟨v,vr,rfl,h1,h2⟩:=h;cases r with
    | cons r1 r2=>
      obtain⟨as,ra⟩:=Dv.reads I d v _ h1 r1;obtain⟨bs,rb⟩:=iM.reads I ds vr _ h2 r2;exact⟨_,.cons ra rb⟩
end
def tLR (ta:TA):TE:=fun σ H Q=>ta σ H fun vs H1=>ar1 vs fun v=>isInt v fun n=>0≤n∧n≤1000∧∀p,H1 p=none→Q (.ref p) (upd H1 p (.lst ((List.range n.toNat).map fun i=>V.int (i:Nat))))
@[simp ↓] theorem qo3 ta σ H Q:tLR ta σ H Q=ta σ H fun vs H1=>ar1 vs fun v=>isInt v fun n=>0≤n∧n≤1000∧∀p,H1 p=none→Q (.ref p) (upd H1 p (.lst ((List.range n.toNat).map fun i=>V.int (i:Nat)))):=rfl
theorem Dw:∀(n lo:Nat) (l:List Value),l.length=n→(∀(j:Nat) v,l[j]? = some v→∃t,v = .int (((lo+j:Nat):Int)) t)→Vals ((List.range' lo n).map fun i=>V.int (i:Nat)) l
  | 0,lo,l,h,_=>by
    cases l with
    | nil=>exact .nil
    | cons _ _=>cases h
  | n+1,lo,l,h,q=>by
    cases l with
    | nil=>cases h
    | cons x r=>
      rw[List.range'_succ,List.map_cons];refine .cons ?_ (Dw n (lo+1) r (by simpa using h) fun j v e=>?_)
      ·obtain⟨t,rfl⟩:=q 0 x rfl;exact⟨t,rfl⟩
      ·obtain⟨t,rfl⟩:=q (j+1) v (by simpa using e);exact⟨t,by rw[show lo+(j+1)=lo+1+j by omega]⟩
theorem Jc (hc:X.calm=true) {a:Expr} {ta:TA} {p p2 pos pos2:Pos} (hg1:Gl X "list") (hm1:X.mg "list" = none) (hg2:Gl X "range") (hm2:X.mg "range" = none) (ha:PA X [a] ta)
    (hs:starEach [a] X.env=[(false,eval a X.env)]:=by rfl)
    (hs1:starEach [.Call (.Name "range" p2) [a] [] pos2] X.env=[(false,eval (.Call (.Name "range" p2) [a] [] pos2) X.env)]:=by rfl) :
    PE X (.Call (.Name "list" p) [.Call (.Name "range" p2) [a] [] pos2] [] pos) (tLR ta):=by
  intro p_ s σ H Q I h;refine wpAny_Call_Name_kw (qQ I hg1 hm1 boot_list ?_ (by decide) (by decide));refine PyProof.Rows.callWith_type1 ?_ (by rw[hs1];rfl) (by rfl);rw[hs1];show wpAny _ _ (spliced ((false,eval (.Call (.Name "range" p2) [a] [] pos2) X.env)::[])) _ _ s;refine Calls.spliced_cons ?_;refine wpAny_Call_Name_kw (qQ I hg2 hm2 boot_range ?_ (by decide) (by decide));refine PyProof.Rows.callWith_type1 (cY (ha pos2 p_ s σ H _ I h) fun us s1 z=>?_) (by rw[hs];rfl) (by rfl);obtain⟨vs,H1,I1,r1,q1⟩:=z;obtain⟨v,rfl,q2⟩:=ar1.out q1;obtain⟨n,rfl,h0,h1,q⟩:=isInt.out q2;obtain⟨u,rfl,r⟩:=vals1 r1;obtain⟨t,rfl⟩:=r;refine call_range_1 (Calls.spliced_nil ?_);have hsz:(1000:Nat)≤sizeLine:=by decide
  have en:Builtin.Range.rangeSize 0 n 1=(n.toNat:Int):=by
    rw[rangeSize_one];split <;> omega
  refine call_list_range (n:=n.toNat) (I1.ok.hd hc) (IsRange.new ..) (small_one (by decide) (by decide) (by omega) (by omega)) en (by omega) fun h' tk acc' c' hk hD hit=>?_;have hle:s1.heap.objs.size≤(s1.heap.push {cls:=.type "range",data:=.fields #[.int 0 s1.toks,.int n t,.int 1 (s1.toks+1)]}).objs.size:=by rw[Heap.size_push];exact Nat.le_succ _
  have hf:=I1.hok.fresh hle;refine⟨.ref _,_,I1.laid (t':=tk) (fun b o e=>hk b o (Heap.get?_push_of_some _ e)) hle ?_,rfl,q _ hf⟩;refine(show b_ _ _ _ _ _ (.lst _) from⟨by simp;omega,acc'.toList,c',?_,by simpa using hD⟩);rw[List.range_eq_range'];refine Dw _ 0 _ (by simpa using hit.1) fun j v e=>?_;obtain⟨t,rfl⟩:=hit.2 j v (by simpa using e);exact⟨t,by simp⟩
end
theorem Dy {f:Array Value→Array Value} {o:Obj}:(Obj.mapFields f o).dict=o.dict:=by
  obtain⟨c,d,dat,sl⟩:=o;cases dat <;> rfl
def Trc (base h:Heap) (e:Addr) (cls:Value×Option Addr) (fl:Value) (T:Addr):Prop:=
  ∃oe vs oT ts,h.get? e=some oe∧(oe.cls,oe.dict)=cls∧oe.data = .fields vs∧vs[2]? = some .none∧vs[1]? = some (.ref T)∧base.get? T=none∧T≠e∧h.get? T=some oT∧oT.data = .fields ts∧ts[3]? = some fl
structure Stn (base:Heap) (l:List Env) (e:Addr) (cls:Value×Option Addr) (fl:Value) (h h':Heap):Prop where
  stays:base.StaysIn h'
  frames:h'.FunFrames base l
  trc:∃T,Trc base h' e cls fl T
  slots:h.UpToSlots h'
section
variable {M:Model} {A:Around} {E:Value→Shared→Prop} {s:Shared} {base:Heap} {env:Env} {outer l:List Env} {L e:Addr} {Q:Unit→Shared→Prop}
theorem Q_ {oe:Obj} {vs:Array Value} {head:Value} {had:Bool} (fr:A.frames=some (env::outer)) (ff:s.heap.FunFrames base (env::outer)) (lf:env.frame=some L) (ee:s.heap.get? e=some oe)
    (st:base.StaysIn s.heap) (nb:base.get? e=none) (de:oe.data = .fields vs) (v2:vs[2]? = some .none) (hq:∀h',Stn base (env::outer) e (oe.cls,oe.dict) (rawInt L) s.heap h'→Q () {s with heap:=h'}) :
    wpAny M A (do let a ← frameOf env;let pl ← entryPlaceOf L had;let b ← EntryCells.newEntry head a .none (rawInt L) .none pl;setField (.ref e) 1 b) Q E s:=by
  have sz2:2<vs.size:=(Array.getElem?_eq_some_iff.mp v2).1;have ne:e∉frs (env::outer):=fun z=>by
    obtain⟨_,o,y,d⟩:=ff.mem z;rw[ee] at y;cases y;exact d vs de
  refine wpAny_bind (wpAny_frameOf_fun fr ff lf fun g1 x1=>?_);refine wpAny_bind (wpAny_entryPlaceOf fun pl okp=>?_);unfold EntryCells.newEntry newFields;refine wpAny_bind (wpAny_newObj_type ?_ (okp.sizeOk5 _ _ _ _ _));have e1:g1.get? e=some oe:=(x1.2.1 e ne).trans ee;have st1:base.StaysIn g1:=fun b o z=>(x1.2.1 b fun y=>by rw[(ff.mem y).1] at z;cases z).trans (st b o z);generalize hR:({cls:=.type "traceback",dict:=none,data:=.fields ([head,.ref L,.none,rawInt L,.none]++(if pl.isEmpty then List.replicate 6 Value.none else pl)).toArray}:Obj)=R
  have dR:∃ts,R.data = .fields ts∧ts[3]? = some (rawInt L)∧R.isFreed=false:=by
    subst hR;exact⟨_,rfl,by simp,rfl⟩
  obtain⟨ts,dR,tR,fR⟩:=dR;have e2:=Heap.get?_push_of_some (h:=g1) R e1;refine wpAny_setField e2 de (Nat.lt_of_succ_lt sz2) (hq _ ?_);have Te:g1.objs.size≠e:=Nat.ne_of_gt (Heap.lt_size e1);have keep:∀{b o},b≠e→g1.get? b=some o→((g1.push R).update e (Obj.mapFields (·.setIfInBounds 1 (Value.ref g1.objs.size)))).get? b=some o:=fun {b o} nb z=>by
    rw[Heap.get?_update_other _ _ (Ne.symm nb)];exact Heap.get?_push_of_some _ z
  have nr:∀{b o},s.heap.get? b=some o→(∀us,o.data≠.fields us)→b≠e:=fun {b o} z d y=>by
    rw[y,ee] at z;cases z;exact d vs de
  have d3:=Obj.data_mapFields de (·.setIfInBounds 1 (Value.ref g1.objs.size));refine⟨fun b o z=>keep (fun y=>by rw[y,nb] at z;cases z) (st1 b o z),ff.of_keeps fun b o z d=>?_,⟨g1.objs.size,?_⟩,fun b o z d=>?_⟩
  ·obtain⟨sl,y⟩:=x1.2.2 b o z;exact⟨_,keep (nr z d) y,rfl⟩
  · refine⟨_,_,R,ts,Heap.get?_update_self _ e2 (Obj.isFreed_of_fields d3),by rw[Obj.cls_mapFields,Dy],d3,?_,?_,st1.fresh,Te,?_,dR,tR⟩
    ·rw[Array.getElem?_setIfInBounds_ne (by decide)];exact v2
    ·simp[Nat.lt_of_succ_lt sz2]
    ·rw[Heap.get?_update_other _ _ (Ne.symm Te)];exact Heap.get?_push_size g1 fR
  ·obtain⟨sl,y⟩:=x1.2.2 b o z;exact⟨sl,keep (nr z d) y⟩
theorem Ot {oe:Obj} {vs:Array Value} (fr:A.frames=some (env::outer)) (ff:s.heap.FunFrames base (env::outer)) (lf:env.frame=some L) (ee:s.heap.get? e=some oe)
    (st:base.StaysIn s.heap) (nb:base.get? e=none) (de:oe.data = .fields vs) (v1:vs[1]? = some .none) (v2:vs[2]? = some .none) (hq:∀h',Stn base (env::outer) e (oe.cls,oe.dict) (rawInt L) s.heap h'→Q () {s with heap:=h'}) :
    wpAny M A (noteFrame (.ref e) env) Q E s:=by
  unfold noteFrame;simp only[lf];refine wpAny_bind (wpAny_field ee de v1 ?_);rw[if_neg (by decide)];exact Q_ fr ff lf ee st nb de v2 hq
theorem zM {cls:Value×Option Addr} {T:Addr} (fr:A.frames=some (env::outer)) (ff:s.heap.FunFrames base (env::outer)) (lf:env.frame=some L) (tr:Trc base s.heap e cls .none T)
    (st:base.StaysIn s.heap) (nb:base.get? e=none) (hq:∀h',Stn base (env::outer) e cls (rawInt L) s.heap h'→Q () {s with heap:=h'}) :
    wpAny M A (noteFrame (.ref e) env) Q E s:=by
  obtain⟨oe,vs,oT,ts,ee,rfl,de,v2,v1,nT,Te,eT,dT,t3⟩:=tr;unfold noteFrame;simp only[lf];refine wpAny_bind (wpAny_field ee de v1 ?_);rw[if_pos (by simp)];refine wpAny_bind (wpAny_field eT dT t3 ?_);rw[if_neg (by simp[rawInt])];refine wpAny_bind (wpAny_setField eT dT (Array.getElem?_eq_some_iff.mp t3).1 ?_);have oth:∀{b},b≠T→(s.heap.update T (Obj.mapFields (·.setIfInBounds 3 Value.none))).get? b=s.heap.get? b:=fun n=>Heap.get?_update_other _ _ (Ne.symm n);have nr:∀{b o},s.heap.get? b=some o→(∀us,o.data≠.fields us)→b≠T:=fun {b o} z d y=>by
    rw[y,eT] at z;cases z;exact d ts dT
  refine Q_ (s:={s with heap:=s.heap.update T (Obj.mapFields (·.setIfInBounds 3 Value.none))}) fr (ff.of_keeps fun b o z d=>⟨o,(oth (nr z d)).trans z,rfl⟩) lf ((oth (Ne.symm Te)).trans ee) (fun b o z=>(oth fun y=>by rw[y,nT] at z;cases z).trans (st b o z)) nb de v2 fun h' x=>hq h' ⟨x.stays,x.frames,x.trc,fun b o z d=>x.slots b o ((oth (nr z d)).trans z) d⟩
theorem uo {cls:Value×Option Addr} {fl:Value} {T:Addr} (ff:s.heap.FunFrames base l) (tr:Trc base s.heap e cls fl T) (st:base.StaysIn s.heap) (hq:∀h',Stn base l e cls .none s.heap h'→Q () {s with heap:=h'}) :
    wpAny M A (setFlight (.ref e) none) Q E s:=by
  obtain⟨oe,vs,oT,ts,ee,rfl,de,v2,v1,nT,Te,eT,dT,t3⟩:=tr;have z3:3<ts.size:=(Array.getElem?_eq_some_iff.mp t3).1;unfold setFlight;refine wpAny_bind (wpAny_field ee de v1 ?_);rw[if_pos (by simp)];refine wpAny_setField eT dT z3 (hq _ ?_);have oth:∀{b} (f:Obj→Obj),b≠T→(s.heap.update T f).get? b=s.heap.get? b:=fun f n=>Heap.get?_update_other _ _ (Ne.symm n);have nr:∀{b o},s.heap.get? b=some o→(∀us,o.data≠.fields us)→b≠T:=fun {b o} z d y=>by
    rw[y,eT] at z;cases z;exact d ts dT
  refine⟨fun b o z=>(oth _ fun y=>by rw[y,nT] at z;cases z).trans (st b o z),ff.of_keeps fun b o z d=>⟨o,(oth _ (nr z d)).trans z,rfl⟩,⟨T,oe,vs,_,_,(oth _ (Ne.symm Te)).trans ee,rfl,de,v2,v1,nT,Te,Heap.get?_update_self _ eT (Obj.isFreed_of_fields (Obj.data_mapFields dT _)),Obj.data_mapFields dT _,?_⟩,fun b o z d=>⟨o.slots,(oth _ (nr z d)).trans z⟩⟩;simp[z3]
theorem Ra {cls:Value×Option Addr} (note:∀Q':Unit→Shared→Prop,(∀h',Stn base (env::outer) e cls (rawInt L) s.heap h'→Q' () {s with heap:=h'})→wpAny M A (noteFrame (.ref e) env) Q' E s)
    (hq:∀h',Stn base (env::outer) e cls .none s.heap h'→Q () {s with heap:=h'}):wpAny M A (leaving env (.ref e)) Q E s:=by
  unfold leaving;refine wpAny_bind (note _ fun h1 x1=>?_);obtain⟨T,tr⟩:=x1.trc;exact uo (s:={s with heap:=h1}) x1.frames tr x1.stays fun h2 x2=>hq h2 ⟨x2.stays,x2.frames,x2.trc,x1.slots.trans x2.slots⟩
end
structure GX (h0 h:Heap) (H:Hp) (a C:Addr) (od:Option Addr):Prop where
  new:h0.get? a=none
  un:H a=none
  ob:∃oe vs,h.get? a=some oe∧(oe.cls,oe.dict)=(Value.ref C,od)∧oe.data = .fields vs∧vs[2]? = some .none∧(vs[1]? = some .none∨
    ∃T oT ts,vs[1]? = some (.ref T)∧T≠a∧h0.get? T=none∧H T=none∧h.get? T=some oT∧oT.data = .fields ts∧ts[3]? = some .none)
structure T7 (h0 h:Heap) (H:Hp) (a C:Addr) (od:Option Addr) (T:Addr):Prop where
  new:h0.get? a=none
  newT:h0.get? T=none
  un:H a=none
  unT:H T=none
  ob:∃oe vs oT ts,h.get? a=some oe∧(oe.cls,oe.dict)=(Value.ref C,od)∧oe.data = .fields vs∧vs[2]? = some .none∧vs[1]? = some (.ref T)∧T≠a∧h.get? T=some oT∧oT.data = .fields ts∧ts[3]? = some .none
theorem T7.in {h0 h:Heap} {H:Hp} {a C T:Addr} {od:Option Addr} (x:T7 h0 h H a C od T):GX h0 h H a C od:=by
  obtain⟨h1,h2,h3,h4,oe,vs,oT,ts,t1,t2,t3,t4,t5,t6,t7⟩:=x;exact⟨h1,h3,oe,vs,t1,t2,t3,t4,.inr ⟨T,oT,ts,t5,t6,h2,h4,t7⟩⟩
def T8 (P:Program) (w:World):Vl:=fun outer H s E e s'=>∃(a C:Addr) (od:Option Addr) (H':Hp),e = .ref a∧s'.os=s.os∧AllBare s'.gens∧Un (frs outer) [] H H' s.heap s'.heap∧sY P w H' s'.heap∧(∃T,T7 s.heap s'.heap H' a C od T)∧E (.ref C) od H'
theorem Xm {P:Program} {w:World} {H:Hp} {h:Heap} (x:sY P w H h) {b:Addr} (e:h.get? b=none):H b=none:=by
  cases q:H b with
  | none=>rfl
  | some u=>
    obtain⟨o,eo⟩:∃o,h.get? b=some o:=by
      have:=x b u q;cases u with
      | lst xs=>obtain⟨_,_,_,_,e⟩:=this;exact⟨_,e⟩
      | tup xs=>obtain⟨_,_,_,o,e,_⟩:=this;exact⟨_,e⟩
      | dK kvs=>obtain⟨_,_,_,_,o,_,_,e,_⟩:=this;exact⟨_,e⟩
      | dT kvs=>obtain⟨_,_,_,_,o,_,_,e,_⟩:=this;exact⟨_,e⟩
      | set S n=>obtain⟨o,_,_,_,e,_⟩:=this;exact⟨_,e⟩
      | ins C dx fs=>obtain⟨_,_,_,e,_⟩:=this;exact⟨_,e⟩
      | own y=>obtain⟨_,e⟩:=this;exact⟨_,e⟩
      | xd fs=>obtain⟨_,⟨_,_,_,e,_⟩,_⟩:=this;exact⟨_,e⟩
      | rng lo hi=>obtain⟨_,_,_,e⟩:=this;exact⟨_,e⟩
      | gw ob u=>obtain⟨e,_⟩:=this;exact⟨_,e⟩
      | tbl ps=>exact⟨_,(show h.get? b=some _ from this)⟩
      | met f y=>exact⟨_,(show h.get? b=some _ from this)⟩
      | ext φ=>obtain⟨_,⟨o,e⟩,_⟩:=this;exact⟨_,e⟩
    rw[e] at eo;cases eo
section
variable {X:Cx} {p_:List (Addr×Obj)} {σ:St} {H:Hp} {s:Shared}
theorem Inv.old (I:Inv X p_ σ H s) (hex:X.ex=[]) {b:Addr} (e:s.heap.get? b=none):X.s₀.heap.get? b=none:=by
  cases q:X.s₀.heap.get? b with
  | none=>rfl
  | some o=>
    obtain⟨o',eo⟩:=I.base.there b o q (by rw[hex];simp);rw[e] at eo;cases eo
theorem Rb (I:Inv X p_ σ H s) (hex:X.ex=[]) {a C:Addr} {od:Option Addr} {l:List Addr} (hl:∀b∈l,b∈frs X.stack∨(X.s₀.heap.get? b=none∧H b=none)) (ha:X.s₀.heap.get? a=none) (hH:H a=none) (hs:∀b∈frs X.stack,b∈l)
    {E:XK} (hE:E (.ref C) od H) {h':Heap} (x:Stn (W.hideAll s.heap l) X.stack a (.ref C,od) .none s.heap h'):T8 X.prog X.w X.outer X.H₀ X.s₀ E (.ref a) {s with heap:=h'}:=by
  obtain⟨k1,k2,⟨T,oe,vs,oT,ts,t1,t2,t3,t4,tt,t5,t6,t7,t8,t9⟩,k4⟩:=x;have nl:∀{b:Addr} {o:Obj},b∉l→s.heap.get? b=some o→h'.get? b=some o:=fun hb e=>k1 _ _ (W.hideAll_get _ e hb);have qf_:∀{b:Addr} {o:Obj},X.s₀.heap.get? b=some o→b∉X.fs→b∉l:=fun {b o} e hb hm=>by
    rcases hl b hm with z | ⟨z,_⟩
    · rcases List.mem_cons.mp (I.wk b z) with z | z
      ·rw[z] at e;exact absurd (Heap.lt_size e) (Nat.not_lt.mpr I.ok.above)
      ·exact hb z
    ·rw[z] at e;cases e
  have trL:∀{b:Addr} {u:HO},H b=some u→b∉l:=fun {b u} e hm=>by
    rcases hl b hm with z | ⟨_,z⟩
    ·rw[I.Bj b z] at e;cases e
    ·rw[z] at e;cases e
  have fsl:∀{b:Addr} {o:Obj},b∈X.fs→s.heap.get? b=some o→∃sl,h'.get? b=some {o with slots:=sl}:=fun {b o} hb e=>by
    obtain⟨_,o2,e2,hd⟩:=I.vN.mem hb;rw[e] at e2;cases e2;exact k4 b o e hd
  have Vj:∀b:Addr,b∉X.ex:=fun b=>by rw[hex];simp
  refine⟨a,C,od,H,rfl,I.os,I.bare,⟨fun b o e n hb _=>?_,fun b o e n hb _=>?_,fun b o e n _=>I.base.free b o e n (Vj b),fun b o e _=>?_,I.base.tups,I.base.oR,I.base.qm⟩,fun b u e=>?_,⟨T,ha,?_,hH,?_,oe,vs,oT,ts,t1,t2,t3,t4,tt,t6,t7,t8,t9⟩,hE⟩
  ·exact nl (qf_ e hb) (I.base.keep b o e n hb (Vj b))
  ·obtain⟨sl,e2⟩:=I.base.slot b o e n hb (Vj b);obtain⟨sl',e3⟩:=fsl hb e2;exact⟨sl',e3⟩
  · obtain⟨o',e2⟩:=I.base.there b o e (Vj b)
    by_cases hb:b∈X.fs
    ·obtain⟨sl,e3⟩:=fsl hb e2;exact⟨_,e3⟩
    ·exact⟨o',nl (qf_ e hb) e2⟩
  · refine(I.hok b u e).stay (fun c v hc q=>?_) (fun c q=>q) fun c xs q=>q
    rcases hc with rfl | hc
    ·exact nl (trL e) q
    ·exact nl (trL hc) q
  all_goals
    have hT:T∉frs X.stack:=fun hm=>by
      obtain⟨_,o2,e2,hd⟩:=k2.mem hm;rw[t7] at e2;cases e2;exact hd _ t8
    have cs:s.heap.get? T=none∨(X.s₀.heap.get? T=none∧H T=none):=by
      cases q:s.heap.get? T with
      | none=>exact .inl rfl
      | some o=>
        by_cases hm:T∈l
        ·exact .inr ((hl T hm).resolve_left hT)
        ·rw[W.hideAll_get _ q hm] at t5;cases t5
  ·exact cs.elim (fun z=>I.old hex z) fun z=>z.1
  ·exact cs.elim (fun z=>Xm I.hok z) fun z=>z.2
theorem Xn (I:Inv X p_ σ H s) (hst:X.stack=X.env::X.outer) (hfr:X.env.frame=some X.env.locals) (hex:X.ex=[]) {a C:Addr} {od:Option Addr} (x:GX X.s₀.heap s.heap H a C od) {E:XK} (hE:E (.ref C) od H) {E':Value→Shared→Prop} :
    wpAny (model X.prog X.w) X.A (leaving X.env (.ref a)) (fun _ s''=>T8 X.prog X.w X.outer X.H₀ X.s₀ E (.ref a) s'') E' s:=by
  obtain⟨new,un,oe,vs,he,hc,hd,h0,hT⟩:=x;have fr:=I.ok.frames;rw[hst] at fr;have qbP:∀l:List Addr,s.heap.FunFrames (W.hideAll s.heap (frs X.stack++l)) (X.env::X.outer):=fun l=>by
    rw[← hst];exact W.funFrames_hide I.stack fun env he b hb=>List.mem_append_left _ (List.mem_filterMap.mpr ⟨env,he,hb⟩)
  rcases hT with h1 | ⟨T,oT,ts,h1,h2,h3,h4,h5,h6,h7⟩
  · refine Ra (base:=W.hideAll s.heap (frs X.stack++[a])) (fun Q' q=>Ot fr (qbP _) hfr he (fun b o e=>W.of_hideAll _ e) (W.hideAll_none _ (by simp)) hd h1 h0 q) fun h' hL=>?_;rw[hc,← hst] at hL;refine Rb I hex (fun b hb=>?_) new un (fun b hb=>List.mem_append_left _ hb) hE hL
    rcases List.mem_append.mp hb with z | z
    ·exact .inl z
    ·rw[List.mem_singleton.mp z];exact .inr ⟨new,un⟩
  · refine Ra (base:=W.hideAll s.heap (frs X.stack++[a,T])) (cls:=(.ref C,od)) (fun Q' q=>zM fr (qbP _) hfr (T:=T) ⟨oe,vs,oT,ts,he,hc,hd,h0,h1,W.hideAll_none _ (by simp),h2,h5,h6,h7⟩ (fun b o e=>W.of_hideAll _ e) (W.hideAll_none _ (by simp)) q) fun h' hL=>?_;rw[← hst] at hL;refine Rb I hex (fun b hb=>?_) new un (fun b hb=>List.mem_append_left _ hb) hE hL
    rcases List.mem_append.mp hb with z | z
    ·exact .inl z
    · simp only[List.mem_cons,List.not_mem_nil,or_false] at z
      rcases z with rfl | rfl
      ·exact .inr ⟨new,un⟩
      ·exact .inr ⟨h3,h4⟩
theorem GX.back {h0 h1 h:Heap} {H:Hp} {a C:Addr} {od:Option Addr} (x:GX h1 h H a C od) (k:∀b,h1.get? b=none→h0.get? b=none):GX h0 h H a C od:=by
  obtain⟨new,un,oe,vs,he,hc,hd,h2,hT⟩:=x;refine⟨k _ new,un,oe,vs,he,hc,hd,h2,?_⟩
  rcases hT with h1 | ⟨T,oT,ts,h1,h2,h3,h4,h5⟩
  ·exact .inl h1
  ·exact .inr ⟨T,oT,ts,h1,h2,k _ h3,h4,h5⟩
def Lets (X:Cx) (E:XK):Prop:=∀(p_:List (Addr×Obj)) (σ:St) (H:Hp) (s:Shared) (a C:Addr) (od:Option Addr),Inv X p_ σ H s→GX X.s₀.heap s.heap H a C od→E (.ref C) od H→X.xe (.ref a) s
theorem Bu {P:Program} {w:World} {K:W.Frag} {mg:Str→Option Value} {base:Heap} {N:List Str} {qual:Str} {scope:Scope} {f:Addr} {cd:Value} {A:Around} {outer:List Env} {s:Shared} {H:Hp} {E:XK} :
    Lets (au (T8 P w) P w K mg base N qual scope f cd A outer s H E) E:=fun p_ σ H1 s1 a C od I x hE=>Xn I rfl rfl rfl x hE
theorem Lets.passes {X:Cx} {E:XK} (h:Lets X E) (hex:X.ex=[]):Passes (T8 X.prog X.w) X E:=fun p_ σ H s e s' I hx=>by
  obtain⟨a,C,od,H',rfl,ho,hg,un,hok,⟨T,ex⟩,hE⟩:=hx;have I':Inv X p_ σ H' s':=I.call' (ch:=[]) ho un hok hg fun b z=>(nomatch z);exact h p_ σ H' s' a C od I' (ex.in.back fun b e=>I.old hex e) hE
theorem qat {K:W.Frag} {h:Heap} {C:Addr} {bmB:List Value} {newId:String} (X:K.In h) (q:W.excIn K C bmB newId=true) :
    ∃bm N nm q bs hdct sn sub ab col dd k0 k1 k2 k3 k5 mN,h.get? C=some (excClassObj nm q C N bs bm hdct sn sub ab col dd k0 k1 k2 k3 k5 newId)∧h.Ns N mN∧mN "__init__" = none∧OwnTail h bmB bm∧∀v b,W.mroIn K C v=some b→(Value.ref C::bm).contains v=b:=by
  unfold W.excIn at q;split at q
  · rename_i dd cd sl ho;split at q
    · rename_i C' bm k0 k1 k2 k3 n k5 hm hs;simp only[Bool.and_eq_true,beq_iff_eq,Bool.not_eq_true'] at q;obtain⟨⟨⟨⟨⟨rfl,rfl⟩,hdel⟩,ht⟩,hok⟩,hni⟩:=q;obtain⟨nm,bs,mro,ns,qn,hd,sn,sub,ab,col,del⟩:=cd;dsimp only at hm hdel hok hni;subst hm hdel;obtain rfl:sl = #[k0,k1,k2,k3,some (.builtin n),k5]:=by
        obtain⟨l⟩:=sl;simp only at hs;rw[hs]
      exact⟨bm,ns,nm,qn,bs,hd,sn,sub,ab,col,dd,k0,k1,k2,k3,k5,_,X _ _ ho,.of_isNs (W.isNs_of_in X hok),W.nsMap_none_of_in X hok hni,W.tail_of_in X ht,fun v b e=>by
        unfold W.mroIn W.clsIn at e;rw[ho] at e;simpa using e⟩
    ·cases q
  ·cases q
abbrev m9:List Value:=[.type "ValueError",.type "Exception",.type "BaseException",.type "object"]
def Jd (K:W.Frag) (C:Addr):Prop:=W.excIn K C m9 "ValueError.__new__" = true
theorem j7.okE {P:Program} {w:World} {K:W.Frag} {mg:Str→Option Value} {base:Heap} {x qual:Str} {st:Stmt} {f:Addr} {fd:FuncData} {N ps:List Str} {k:Nat} {sp:Sp} (F:j7 K x qual st f fd) (S:aX N ps (ao st)) (len:∀vs H Q E,sp vs H Q E→vs.length=ps.length)
    (hbody:∀(cdv:Value) (A:Around) (outer:List Env) (s:Shared) (H:Hp) (vs:List V) (Q:VK) (E:XK),j4 k (A.deeper (envOfC qual (ao st) s.heap.objs.size f cdv))→sp vs H Q E→
      ∃t,Bk (au (T8 P w) P w K mg base N qual (ao st) f cdv A outer s H E) (aH st) t∧t {nx:=fun _ H'=>Q .non H',rt:=Q} (start N vs) H):cg P w K mg base (T8 P w) (k+1) f fd ps sp:=by
  obtain⟨oc,od,kV,doc,pm,an,cdv,ct,osl,rfl,lk,hcd⟩:=F.ex;exact qbu lk hcd S len fun A outer s H vs Q E hr hsp=>hbody cdv A outer s H vs Q E hr hsp
theorem Inv.gone {X:Cx} {p_:List (Addr×Obj)} {σ:St} {H:Hp} {s:Shared} {h':Heap} {t':Nat} {ch:List Addr} (I:Inv X p_ σ H s) (hex:X.ex=[])
    (hch:∀b∈ch,X.s₀.heap.get? b=none∧H b=none∧(∀vs o,s.heap.get? b=some o→o.data = .fields vs→True)∧(∃o vs,s.heap.get? b=some o∧o.data = .fields vs)∧∀p∈X.pn++p_,p.1≠b)
    (k1:∀b o,b∉frs X.stack→b∉ch→s.heap.get? b=some o→h'.get? b=some o) (k2:∀b o,s.heap.get? b=some o→(∀vs,o.data≠.fields vs)→∃sl,h'.get? b=some {o with slots:=sl}) :
    Inv X p_ σ H {s with heap:=h',toks:=t'}:=by
  have nf:∀{b o},s.heap.get? b=some o→(∀vs,o.data≠.fields vs)→b∉ch:=fun {b o} e hd hb=>by
    obtain⟨_,_,_,⟨o2,vs,e2,d2⟩,_⟩:=hch b hb;rw[e] at e2;cases e2;exact hd vs d2
  have fsl:∀{b:Addr} {o:Obj},b∈frs X.stack→s.heap.get? b=some o→∃sl,h'.get? b=some {o with slots:=sl}:=fun {b o} hb e=>by
    obtain⟨_,o2,e2,hd⟩:=I.stack.mem hb;rw[e] at e2;cases e2;exact k2 b o e hd
  have ex1:∀{b:Addr} {o:Obj},b∉ch→s.heap.get? b=some o→∃o',h'.get? b=some o':=fun {b o} hb e=>by
    by_cases hf:b∈frs X.stack
    ·obtain⟨sl,z⟩:=fsl hf e;exact⟨_,z⟩
    ·exact⟨o,k1 b o hf hb e⟩
  have old:∀{b:Addr} {o:Obj},X.s₀.heap.get? b=some o→b∉ch:=fun e hb=>by
    rw[(hch _ hb).1] at e;cases e
  have qma:∀{b:Addr} {o:Obj},X.s₀.heap.get? b=some o→b∉X.fs→b∉frs X.stack:=fun {b o} e hb hm=>by
    rcases List.mem_cons.mp (I.wk b hm) with z | z
    ·rw[z] at e;exact absurd (Heap.lt_size e) (Nat.not_lt.mpr I.ok.above)
    ·exact hb z
  have Vj:∀b:Addr,b∉X.ex:=fun b=>by rw[hex];simp
  have cells:∀{c:Addr} {v:Option Value},s.heap.IsCell c v→h'.IsCell c v:=fun {c v} ⟨o,e,d⟩=>by
    obtain⟨sl,z⟩:=k2 c o e (fun vs q=>by rw[d] at q;cases q);exact⟨_,z,d⟩
  have subs:∀{b:Addr},b∈X.fs→b∈frs X.stack:=fun {b} hb=>by
    rcases I.ok.stk with e | ⟨e,hf⟩
    ·rw[e];exact hb
    ·rw[e];show b∈List.filterMap _ (X.env::X.outer);rw[List.filterMap_cons,hf];exact List.mem_cons_of_mem _ hb
  refine⟨I.ok,I.os,I.bare,⟨fun b o e n hb hx=>?_,fun b o e n hb hx=>?_,I.base.free,fun b o e hx=>?_,I.base.tups,I.base.oR,I.base.qm⟩,?_,fun x c e=>?_,I.free,I.iT,fun p hp=>?_,fun b u e=>?_,I.len⟩
  ·exact k1 b o (qma e hb) (old e) (I.base.keep b o e n hb hx)
  ·obtain⟨sl,z⟩:=I.base.slot b o e n hb hx;obtain⟨sl',z'⟩:=fsl (subs hb) z;exact⟨sl',z'⟩
  ·obtain⟨o',z⟩:=I.base.there b o e hx;exact ex1 (old e) z
  · obtain⟨m,⟨o,es,ep,e,d,r⟩,q⟩:=I.loc;obtain⟨sl,z⟩:=k2 _ o e (fun vs y=>by rw[d] at y;cases y);refine⟨m,⟨_,es,ep,z,d,r⟩,fun i x v e1 e2 e3=>?_⟩;obtain⟨u,rv,l⟩:=q i x v e1 e2 e3;refine⟨u,rv,?_⟩
    rcases l with l | ⟨kd,c,ec,y⟩
    ·exact .inl l
    ·exact .inr ⟨kd,c,ec,cells y⟩
  ·obtain⟨v,z⟩:=I.cell x c e;exact⟨v,cells z⟩
  · obtain⟨e,n,ne,nfs,d⟩:=I.pin p hp;refine⟨k1 _ _ (fun hm=>?_) (fun hm=>(hch _ hm).2.2.2.2 p hp rfl) e,n,ne,nfs,d⟩
    rcases List.mem_cons.mp (I.wk _ hm) with z | z
    ·exact ne z
    ·exact nfs z
  · have no:∀{c:Addr} {u:HO},H c=some u→c∉frs X.stack∧c∉ch:=fun {c u} q=>⟨fun hm=>(by rw[I.Bj _ hm] at q;cases q),fun hm=>(by rw[(hch _ hm).2.1] at q;cases q)⟩;refine(I.hok b u e).stay (fun c v hc q=>?_) (fun c q=>q) fun c xs q=>q
    rcases hc with rfl | hc
    ·exact k1 _ _ (no e).1 (no e).2 q
    ·exact k1 _ _ (no hc).1 (no hc).2 q
end
end L2
namespace L2
open PySem PySem.Spec PySem.W PyProof.Rows
section
variable {prog:Program} {w:World} {A:Around} {E:Value→Shared→Prop} {K:W.Frag} {h:Heap} {g:Array GenState} {d:Drawn} {t:Nat} {os:OsState} {x C:Addr}
def wD (x C:Addr) (h:Heap):Prop:=∃ox vs,h.get? x=some ox∧ox.cls = .ref C∧ox.data = .fields vs∧vs[2]? = some .none
theorem wD.type {M:Model} (e:wD x C h):Looks M h (typeOf (.ref x)) (.ref C):=by
  obtain⟨ox,vs,h1,h2,_⟩:=e;exact h2▸(Looks.ld h1).andThen .now
end
end L2
namespace L2
open PySem PySem.Spec PyProof.Rows
def Cx.caught (X:Cx) (a:Addr):Cx:={X with A:=X.A.mark (some (.ref a)),calm:=false,xe:=fun _ _=>False}
def Cx.tried (X:Cx) (pn:List (Addr×Obj)) (xe:Value→Shared→Prop):Cx:={X with pn:=pn,xe:=xe}
section
variable {X:Cx} {p_:List (Addr×Obj)} {σ:St} {H:Hp} {s:Shared}
theorem Inv.caught (I:Inv X p_ σ H s) (a:Addr):Inv (X.caught a) p_ σ H s:=
  ⟨⟨I.ok.mod,I.ok.kind,I.ok.glob,I.ok.blt,I.ok.above,I.ok.inj,I.ok.has,I.ok.cab,fun z=>(nomatch z),I.ok.frames,I.ok.stk,I.ok.exf,I.ok.bs,I.ok.RP,I.ok.Ka,I.ok.Kc,I.ok.vN,I.ok.Zn⟩,I.os,I.bare,I.base,I.loc,I.cell,I.free,I.iT,I.pin,I.hok,I.len⟩
theorem Inv.uncaught {a:Addr} {s':Shared} (I:Inv X p_ σ H s) {σ':St} {H':Hp} (J:Inv (X.caught a) p_ σ' H' s'):Inv X p_ σ' H' s':=
  ⟨I.ok,J.os,J.bare,J.base,J.loc,J.cell,J.free,J.iT,J.pin,J.hok,J.len⟩
theorem Inv.tried (I:Inv X p_ σ H s) (xe:Value→Shared→Prop):Inv (X.tried (X.pn++p_) xe) [] σ H s:=
  ⟨⟨I.ok.mod,I.ok.kind,I.ok.glob,I.ok.blt,I.ok.above,I.ok.inj,I.ok.has,I.ok.cab,I.ok.hd,I.ok.frames,I.ok.stk,I.ok.exf,I.ok.bs,I.ok.RP,I.ok.Ka,I.ok.Kc,I.ok.vN,I.ok.Zn⟩,I.os,I.bare,I.base,I.loc,I.cell,I.free,I.iT,fun p hp=>I.pin p (by rw[List.append_nil] at hp;exact hp),I.hok,I.len⟩
theorem Inv.lW {xe:Value→Shared→Prop} {tO:List (Addr×Obj)} {s':Shared} (I:Inv X p_ σ H s) {σ':St} {H':Hp} (J:Inv (X.tried (X.pn++p_) xe) tO σ' H' s'):Inv X p_ σ' H' s':=
  ⟨I.ok,J.os,J.bare,J.base,J.loc,J.cell,J.free,J.iT,fun p hp=>J.pin p (List.mem_append_left _ hp),J.hok,J.len⟩
def Takes (X:Cx) (pn:List (Addr×Obj)) (xe:Value→Shared→Prop) (R:St→Addr→Option Addr→Hp→Prop):Prop:=
  ∀(p_:List (Addr×Obj)) (σ:St) (H:Hp) (s:Shared) (a C:Addr) (od:Option Addr) (T:Addr),Inv (X.tried pn xe) p_ σ H s→T7 X.s₀.heap s.heap H a C od T→(∀p∈pn,p.1≠a∧p.1≠T)→R σ C od H→xe (.ref a) s
def Xo (sp:Sp) (R:St→Addr→Option Addr→Hp→Prop) (t:TA):TE:=fun σ H Q=>t σ H fun vs H1=>Tn sp vs H1 Q ⟨0⟩ (fun v od H'=>∃C,v = .ref C∧R σ C od H')
@[simp ↓] theorem qga sp R t σ H Q:Xo sp R t σ H Q=t σ H fun vs H1=>Tn sp vs H1 Q ⟨0⟩ (fun v od H'=>∃C,v = .ref C∧R σ C od H'):=rfl
theorem Ld {k:Nat} {f:Addr} {fd:FuncData} {ps:List Str} {sp:Sp} {x:Str} {p pos:Pos} {e:Expr} {es:List Expr} {t:TA} {pn:List (Addr×Obj)} {xe:Value→Shared→Prop} {R:St→Addr→Option Addr→Hp→Prop}
    (hx:Takes X pn xe R) (hex:X.ex=[]) (F:cg X.prog X.w X.K X.mg X.base (T8 X.prog X.w) k f fd ps sp) (hr:j4 k X.A) (hg:Gl X x) (hm:X.mg x=some (.ref f)) (hk:W.keepIn X.K (.ref f)=true) (hb:Binds X.K fd ps [])
    (ha:PA (X.tried pn xe) (e::es) t) (hdb:(x == ("__debug__" : Str))=false:=by decide) (he:starEach (e::es) X.env=(false,eval e X.env)::starEach es X.env:=by rfl) (hpl:(backTo pos (starEach es X.env)).any (·.1)=false:=by rfl) :
    PE (X.tried pn xe) (.Call (.Name x p) (e::es) [] pos) (Xo sp R t):=by
  intro p_ s σ H Q I h;refine wpAny_Call_Name_kw (jH I hg hm ?_ hdb);refine W.callWith_K (h₀:=X.base) I.ok.mod.M9 hk (cY (ha pos p_ s σ H _ I h) fun us s1 zz=>?_) he hpl;obtain⟨vs,H1,I1,r,q⟩:=zz;refine⟨I1.oO,?_⟩;have hl:us.length=ps.length:=by rw[← r.length];exact F.len _ _ _ _ q
  have hbd:=hb s1 us I1.oO (by rw[List.append_nil];exact hl);rw[List.append_nil] at hbd;refine wpAny_call (codeAny_mono (F.run X.A X.stack s1 H1 ⟨us,[]⟩ us vs Q _ hr I1.env0 hbd r q) fun rr s' hq=>?_);cases rr with
  | error e=>
    obtain⟨a,C,od,H',rfl,ho,hgn,un,hok,⟨T,ex⟩,C',e2,hR⟩:=hq;cases e2;have I':Inv (X.tried pn xe) p_ σ H' s':=I1.call' (ch:=[]) ho un hok hgn fun b z=>(nomatch z);have old:∀b,s1.heap.get? b=none→X.s₀.heap.get? b=none:=fun b z=>I1.old hex z;refine hx p_ σ H' s' a C od T I' ⟨old _ ex.new,old _ ex.newT,ex.un,ex.unT,ex.ob⟩ (fun p hp=>?_) hR;have e1:=(I1.pin p (List.mem_append_left _ hp)).1;exact⟨fun z=>(by rw[z,ex.new] at e1;cases e1),fun z=>(by rw[z,ex.newT] at e1;cases e1)⟩
  | ok fl=>
    cases fl with
    | ret u=>exact I1.after hq
    | next=>exact False.elim hq
    | brk=>exact False.elim hq
    | cont=>exact False.elim hq
def wF (x C:Addr) (od:Option Addr) (h:Heap):Prop:=∃ox vs,h.get? x=some ox∧(ox.cls,ox.dict)=(Value.ref C,od)∧ox.data = .fields vs∧vs[2]? = some .none
theorem wF.at {x C:Addr} {od:Option Addr} {h:Heap} (e:wF x C od h):wD x C h:=by
  obtain⟨ox,vs,h1,h2,h3,h4⟩:=e;exact⟨ox,vs,h1,congrArg Prod.fst h2,h3,h4⟩
def yh (a C:Addr) (od:Option Addr):HO:=.ext fun h=>wF a C od h
def vR (K:W.Frag) (C:Addr):Prop:=∀h,K.In h→∃bm N nm q bs hdct sn sub ab col dd k0 k1 k2 k3 k5,h.get? C=some (excClassObj nm q C N bs bm hdct sn sub ab col dd k0 k1 k2 k3 k5 "ValueError.__new__")∧∀v b,W.mroIn K C v=some b→(Value.ref C::bm).contains v=b
theorem Inv.track {a C:Addr} {od:Option Addr} (I:Inv X p_ σ H s) (hex:X.ex=[]) (new:X.s₀.heap.get? a=none) (un:H a=none) (e:wF a C od s.heap) (hp:∀p∈X.pn++p_,p.1≠a):Inv X p_ σ (upd H a (yh a C od)) s:=by
  have nf:∀{b o},s.heap.get? b=some o→(∀vs,o.data≠.fields vs)→b≠a:=fun {b o} eb hd z=>by
    subst z;obtain⟨ox,vs,h1,_,h3,_⟩:=e;rw[eb] at h1;cases h1;exact hd vs h3
  have Vj:∀b:Addr,b∉X.ex:=fun b=>by rw[hex];simp
  have old:∀{b o},X.s₀.heap.get? b=some o→b≠a:=fun {b o} eb z=>by
    rw[z,new] at eb;cases eb
  have ne:∀{b:Addr} {u:HO},H b=some u→b≠a:=fun {b u} q z=>by
    rw[z,un] at q;cases q
  refine⟨I.ok,I.os,I.bare,⟨fun b o eb n hb hx=>I.base.keep b o eb n hb hx,I.base.slot,fun b o eb n hx=>?_,I.base.there,fun b xs q=>?_,fun b o u q=>?_,fun b ps q=>?_⟩,I.loc,I.cell,?_,fun x c q=>?_,fun p hpp=>?_,fun b u q=>?_,I.len⟩
  ·rw[aC (old eb)];exact I.base.free b o eb n hx
  ·have z:=I.base.tups b xs q;rw[aC (ne z)];exact z
  ·have z:=I.base.oR b o u q;rw[aC (ne z)];exact z
  ·obtain⟨m,z⟩:=I.base.qm b ps q;exact⟨m,by rw[aC (ne z)];exact z⟩
  ·obtain⟨m,⟨o,es,ep,eo,d,r⟩,_⟩:=I.loc;rw[aC (nf eo fun vs y=>by rw[d] at y;cases y)];exact I.free
  ·obtain⟨v,o,eo,d⟩:=I.cell x c q;rw[aC (nf eo fun vs y=>by rw[d] at y;cases y)];exact I.iT x c q
  ·obtain⟨f1,f2,f3⟩:=I.pin p hpp;refine⟨f1,?_,f3⟩;rw[aC (hp p hpp)];exact f2
  · by_cases hb:b=a
    ·subst hb;rw[ak] at q;cases q;obtain⟨ox,vs,h1,h2,h3,_⟩:=id e;exact⟨e,⟨ox,h1⟩,fun h1 h2 ⟨ox,vs,a1,a2,a3⟩ k=>⟨ox,vs,k _ a1,a2,a3⟩⟩
    · rw[aC hb] at q;refine(I.hok b u q).stay (fun c v _ z=>z) (fun c z=>?_) fun c xs z=>?_
      ·rw[aC (ne z)];exact z
      ·rw[aC (ne z)];exact z
theorem T9 {M:Model} {A:Around} {E:Value→Shared→Prop} {i:Nat} {n:Str} {v:V} {Q:Unit→Shared→Prop} (I:Inv X p_ σ H s) (hN:X.N.Nodup) (hi:X.N[i]? = some n) (hl:X.env.scope.names.lookup n=some .local) (hv:σ[i]? = some (some v))
    (h:∀s',Inv X p_ (σ.set i none) H s'→Q () s'):wpAny M A (unbindName X.env n) Q E s:=by
  obtain⟨m,hn,q⟩:=id I.loc;obtain⟨u,rv,l⟩:=q i n v hi hv (.inl hl);have hm:m n=some u:=by
    rcases l with⟨_,l⟩ | ⟨k,c,_⟩
    ·exact l
    · rcases k with k | k
      ·have:X.env.kindOf n=some .local:=hl;rw[k] at this;cases this
      ·have:X.env.kindOf n=some .local:=hl;rw[k] at this;cases this
  have hcls:(X.env.scope.kind == .class || (X.env.scope.kind == .module && X.env.locals != X.env.globals))=false:=by rw[I.ok.kind];rfl
  have hiσ:i<σ.length:=by rw[I.len];exact(List.getElem?_eq_some_iff.mp hi).1
  refine wpAny_unbindName_local hl hn hm hcls fun h' u' hn' hs=>?_;obtain⟨oL,_,_,hoL,_⟩:=id hn;have loc:∀b o,X.s₀.heap.get? b=some o→b≠X.env.locals:=fun b o e=>Nat.ne_of_lt (Nat.lt_of_lt_of_le (Heap.lt_size e) I.ok.above);refine h _ ⟨I.ok,I.os,I.bare,⟨fun b o e n hb hx=>?_,fun b o e n hb hx=>?_,I.base.free,fun b o e hx=>?_,I.base.tups,I.base.oR,I.base.qm⟩,⟨_,hn',fun j y v' e1 e2 e3=>?_⟩,fun y c e=>?_,I.free,I.iT,fun p hp=>?_,fun b ob e=>?_,by simpa using I.len⟩
  ·exact(hs.2 b (loc b o e)).trans (I.base.keep b o e n hb hx)
  ·obtain⟨sl,z⟩:=I.base.slot b o e n hb hx;exact⟨sl,(hs.2 b (loc b o e)).trans z⟩
  ·obtain⟨o',z⟩:=I.base.there b o e hx;exact⟨o',(hs.2 b (loc b o e)).trans z⟩
  · have hj:j≠i:=fun z=>by
      subst z;rw[List.getElem?_set_self hiσ] at e2;cases e2
    rw[List.getElem?_set_ne (Ne.symm hj)] at e2;obtain⟨u2,r2,l2⟩:=q j y v' e1 e2 e3;refine⟨u2,r2,?_⟩
    rcases l2 with⟨k,e⟩ | ⟨k,c,e,z⟩
    ·have:y≠n:=fun e=>hj (Cz hN e1 (e▸hi));exact .inl ⟨k,by simp[this,e]⟩
    ·exact .inr ⟨k,c,e,z.sameBut hs (I.Zy y c e)⟩
  ·obtain⟨w',z⟩:=I.cell y c e;exact⟨w',z.sameBut hs (I.Zy y c e)⟩
  ·obtain⟨e,n,ne,nf,d⟩:=I.pin p hp;exact⟨(hs.2 p.1 ne).trans e,n,ne,nf,d⟩
  · have no:∀{c:Addr} {u:HO},H c=some u→c≠X.env.locals:=fun {c u} q z=>by
      rw[z,I.free] at q;cases q
    refine(I.hok b ob e).stay (fun c w' hc q=>(hs.2 c ?_).trans q) (fun _ q=>q) fun _ _ q=>q
    rcases hc with rfl | hc
    ·exact no e
    ·exact no hc
end
section
variable {X:Cx} {p_:List (Addr×Obj)} {σ:St} {H:Hp} {s:Shared} {a:Addr}
end
theorem j7.qdv {P:Program} {w:World} {K:W.Frag} {mg:Str→Option Value} {base:Heap} {x qual:Str} {st:Stmt} {f:Addr} {fd:FuncData} {N ps:List Str} {k:Nat} {sp:Sp} (F:j7 K x qual st f fd) (S:aX N ps (ao st)) (len:∀vs H Q E,sp vs H Q E→vs.length=ps.length)
    (hbody:∀(cdv:Value) (A:Around) (outer:List Env) (s:Shared) (H:Hp) (vs:List V) (Q:VK) (E:XK),j4 k (A.deeper (envOfC qual (ao st) s.heap.objs.size f cdv))→sp vs H Q E→
      ∃t,Bk (au (T8 P w) P w K mg base N qual (ao st) f cdv A outer s H E) (aH st) t∧t {nx:=fun _ H'=>Q .non H',rt:=Q} (mW N vs) H):cg P w K mg base (T8 P w) (k+1) f fd ps sp:=by
  refine F.okE S len fun cdv A outer s H vs Q E hr h=>?_;obtain⟨t,h1,h2⟩:=hbody cdv A outer s H vs Q E hr h;refine⟨t,h1,?_⟩;have hl:=len _ _ _ _ h;have hp:ps.length≤N.length:=by have:=congrArg List.length S.pre;rw[List.length_take] at this;omega
  rw[uX N vs (by omega)] at h2;exact h2
theorem qgb {P:Program} {w:World} {X:Cx}:Passes (T8 P w) X E0:=fun _ _ _ _ _ _ _ h=>by
  obtain⟨_,_,_,_,_,_,_,_,_,_,z⟩:=h;exact z.elim
end L2
namespace L2
open PySem PySem.Spec PySem.W PyProof.Rows
section
variable {prog:Program} {w:World} {A:Around} {E:Value→Shared→Prop} {K:W.Frag} {h:Heap} {g:Array GenState} {d:Drawn} {t:Nat} {os:OsState}
variable {nm q:Str} {C N:Addr} {bs bm:List Value} {hdct:Bool} {sn:List Str} {sub:List Value} {ab:Bool} {col:Option Bool} {dd:Option Addr} {k0 k1 k2 k3 k5:Option Value}
theorem Je {rest:List Value} {f:Addr} {Q:PySem.Fin→Shared→Prop} (X:K.In h) (T:OwnTail h m9 bm) (hi:findIn K (.ref C) "__init__" = some (some (.ref f))) (hf:typeIn K (.ref f)=some (.type "function"))
    (hC:h.get? C=some (excClassObj nm q C N bs bm hdct sn sub ab col dd k0 k1 k2 k3 k5 "ValueError.__new__"))
    (hq:∀h' e,Heap.MadeExcOf h h' e (.ref C) rest→wpAny (model prog w) A (call (.ref f) (.ref e::rest)) (fun r s'=>r = .none∧Q (.done (.ret (.ref e))) s') E ⟨h',g,d,t,os⟩) (hz:rest.length≤sizeLine) :
    wpAny (model prog w) A (Builtin.«type.__call__» ⟨.ref C::rest,[]⟩) Q E ⟨h,g,d,t,os⟩:=by
  have F:=PySem.F.excBase_ValueError
  repeat (first | with_reducible refine wpAny_loadPart_at hC ?_ | with_reducible refine wpAny_madeBy_exc hC ?_ | wp_step)
  refine codeAny_call_builtin_code (Code.quiet_builtin _ F.quiet) (wpAny_check_new_subT F T hC (codeAny_exc_new_subT F T hC ?_ hz));show wpAny _ _ _ _ _ _;generalize hG:(h.push {cls:=.type "tuple",data:=.seq rest.toArray}).push {cls:=.ref C,data:=.fields #[.ref h.objs.size,.none,.none,.none,.bool false,.none]}=G;have kp:∀b o,h.get? b=some o→G.get? b=some o:=fun b o e=>by
    rw[← hG];exact Heap.get?_push_of_some _ (Heap.get?_push_of_some _ e)
  have hget:G.get? (h.objs.size+1)=some {cls:=.ref C,data:=.fields #[.ref h.objs.size,.none,.none,.none,.bool false,.none]}:=by
    rw[← hG]
    heap_get
  have hT:G.get? h.objs.size=some {cls:=.type "tuple",data:=.seq rest.toArray}:=by
    rw[← hG];exact Heap.get?_push_of_some _ (Heap.get?_push_at rfl rfl)
  have X1:K.In G:=fun b o e=>kp b o (X b o e);have Nh:=kp _ _ hC;have hcC:(Value.ref C::bm).contains (.ref C)=true:=by simp
  unfold isInstance
  repeat (first | with_reducible refine wpAny_loadPart_at hget ?_ | (with_reducible refine wpAny_isSubtype_exc Nh ?_;rw[hcC]) | wp_step)
  show wpAny _ _ (typeLookup (.ref C) _) _ _ _;refine(looks_findIn (M:=model prog w) X1 hi).at ?_;refine wpAny_holding (wpAny_bind ?_);unfold bindSpecial;refine wpAny_bind ((looks_typeIn (M:=model prog w) X1 hf).at ?_);rw[if_pos (by decide)];refine wpAny_pure (wpAny_bind (wpAny_mono (hq G (h.objs.size+1) ⟨kp,Heap.get?_none_of_le (Nat.le_succ _),h.objs.size,hget,Heap.get?_none_of_le (Nat.le_refl _),hT⟩) (fun r s' hr=>?_) fun _ _ x=>x));obtain⟨rfl,hQ⟩:=hr
  wp_walk
  exact hQ
theorem qau {rest:List Value} {f:Addr} {Q:Value→Shared→Prop} (X:K.In h) (T:OwnTail h m9 bm) (hi:findIn K (.ref C) "__init__" = some (some (.ref f))) (hf:typeIn K (.ref f)=some (.type "function"))
    (hC:h.get? C=some (excClassObj nm q C N bs bm hdct sn sub ab col dd k0 k1 k2 k3 k5 "ValueError.__new__"))
    (hq:∀h' e,Heap.MadeExcOf h h' e (.ref C) rest→wpAny (model prog w) (A.under (.builtin "type.__call__" ⟨.ref C::rest,[]⟩)) (call (.ref f) (.ref e::rest)) (fun r s'=>r = .none∧Q (.ref e) s') E ⟨h',g,d,t,os⟩) (hz:rest.length≤sizeLine) :
    wpAny (model prog w) A (call (.ref C) rest) Q E ⟨h,g,d,t,os⟩:=by
  have f1:=tc_lookup;have f2:=tc_bind (.ref C);have hT:(⟨h,g,d,t,os⟩:Shared).TypeIs (.ref C) "type" :=⟨_,hC,rfl⟩;refine wpAny_call (codeAny_of_tree ?_);show wpAny _ _ (callAny (.ref C) _) _ _ _
  repeat (any_goals (first | assumption | with_reducible refine wpAny_loadPart_at hC ?_ | wp_step))
  refine⟨rfl,codeAny_call_builtin_at (Code.quiet_builtin _ (by decide+kernel)) entry_typeCall (wpAny_check_type_call_sub hC (Je X T hi hf hC (fun h' e hm=>?_) hz))⟩;exact hq h' e hm
theorem qav {rest:List Value} {e t0:Addr} {oe:Obj} {vs:Array Value} {Q:Value→Shared→Prop} (T:OwnTail h m9 bm)
    (hC:h.get? C=some (excClassObj nm q C N bs bm hdct sn sub ab col dd k0 k1 k2 k3 k5 "ValueError.__new__")) (he:h.get? e=some oe) (hc:oe.cls = .ref C) (hd:oe.data = .fields vs) (h0:vs[0]? = some (.ref t0))
    (hq:∀h' t1,(∀b o,b≠e→h.get? b=some o→h'.get? b=some o)→h'.get? e=some {oe with data:=.fields (vs.setIfInBounds 0 (.ref t1))}→Q .none ⟨h',g,d,t,os⟩) (hz:rest.length≤sizeLine) :
    wpAny (model prog w) A (call (.builtin "ValueError.__init__") (.ref e::rest)) Q E ⟨h,g,d,t,os⟩:=by
  have F:=PySem.F.excBase_ValueError;refine wpAny_call (codeAny_call_builtin F.init.plain F.initEntry (wpAny_check_init_subT F T hC he hc ?_));have he1:(h.push {cls:=.type "tuple",data:=.seq rest.toArray}).get? e=some oe:=Heap.get?_push_of_some _ he;unfold Builtin.«BaseException.__init__» Builtin.BaseException.bexcPut
  repeat (first | with_reducible refine wpAny_field he1 hd h0 ?_ | with_reducible refine wpAny_setField he1 hd (Array.getElem?_eq_some_iff.mp h0).1 ?_ | wp_step)
  have d3:=Obj.data_mapFields hd (·.setIfInBounds 0 (Value.ref h.objs.size));refine hq _ h.objs.size (fun b o hb z=>?_) ?_
  ·rw[Heap.get?_update_other _ _ (Ne.symm hb)];exact Heap.get?_push_of_some _ z
  ·refine(Heap.get?_update_self _ he1 (Obj.isFreed_of_fields d3)).trans (congrArg some ?_);obtain⟨c,dct,dat,sl⟩:=oe;cases hd;rfl
def Jf (x C:Addr) (od:Option Addr) (h:Heap):Prop:=∃ox vs t0,h.get? x=some ox∧ox.cls = .ref C∧ox.data = .fields vs∧vs[0]? = some (.ref t0)∧vs[1]? = some .none∧vs[2]? = some .none∧ox.dict=od
theorem Jf.at {x C:Addr} {od:Option Addr} {h:Heap} (e:Jf x C od h):wD x C h:=by
  obtain⟨ox,vs,t0,h1,h2,h3,_,_,h5,_⟩:=e;exact⟨ox,vs,h1,h2,h3,h5⟩
structure Ou (K:W.Frag) (C:Addr):Prop where
  ga:findIn K (.ref C) "__getattribute__" = some (some (.builtin "BaseException.__getattribute__"))
  gn:findIn K (.ref C) "__getattr__" = some none
  mb:mroIn K C (.type "BaseException")=some true
  hd:hasDictIn K C=true
theorem Xp {M:Model} {x:Addr} {nameV:Value} {Q:Unit→Shared→Prop} (X:K.In h) (I:wD x C h) (hb:mroIn K C (.type "BaseException")=some true) (hq:Q () ⟨h,g,d,t,os⟩) :
    wpAny M A (checkBuiltinCall "BaseException.__getattribute__" ⟨[.ref x,nameV],[]⟩) Q E ⟨h,g,d,t,os⟩:=by
  have hk:builtinKind "BaseException.__getattribute__" = some .slot:=by decide+kernel
  have hs:splitId "BaseException.__getattribute__" = some ("BaseException", "__getattribute__"):=by decide+kernel
  have L0:=I.type (M:=M);have L1:=looks_mroIn (M:=M) X hb;have ha:=F.args_bexc_ga (.ref x) nameV;simp only[checkBuiltinCall,hk,hs];refine wpAny_bind ?_;unfold isInstance
  repeat (first | with_reducible refine L0.at ?_ | with_reducible refine L1.at ?_ | wp_step)
  exact hq
theorem qaw {x dx:Addr} {mA:Str→Option Value} (e:wF x C (some dx) h) (hn:h.Ns1 dx mA):∃ox od,W.InstAt h x ox C (some od)∧∀name,W.lookIn name od=some (mA name):=by
  obtain⟨ox,vs,h1,h26,h3,_⟩:=e;have h2:ox.cls = .ref C:=congrArg Prod.fst h26;have h6:ox.dict=some dx:=congrArg Prod.snd h26;obtain⟨od,ho,hl⟩:=Gk hn;refine⟨ox,od,⟨h1,h2,?_,?_⟩,hl⟩
  ·unfold W.notCls;rw[h3]
  ·rw[h6];exact ho
theorem qdw {x dx:Addr} {mA:Str→Option Value} {name:Str} {v:Value} {expr:Bool} {Q:Value→Shared→Prop} {s:Shared} (X:K.In s.heap) (e:wF x C (some dx) s.heap) (hn:s.heap.Ns1 dx mA) (G:Ou K C) (ha:findIn K (.ref C) name=some none)
    (hv:mA name=some v) (hv':handedIn v=true) (h:Q v {s with toks:=s.toks+1}):wpAny (model prog w) A (getAttr (.ref x) name expr) Q E s:=by
  obtain⟨ox,od,I,hl⟩:=qaw e hn;obtain⟨hp,g,d,t,os⟩:=s;dsimp only at X e hn h I;have hf:findObj K C (some od) name=some (.value v):=findObj_own G.hd ha rfl (by rw[hl,hv]);have L0:=I.type (M:=model prog w);have L1:=looks_findIn (M:=model prog w) X G.ga;have L2:=looks_findIn (M:=model prog w) X G.gn;have L3:=looks_find (M:=model prog w) X I hf;have f3:=(F.attrBase_ValueError.ga).bind (.ref x);have hx2:(Value.builtin "BaseException.__getattribute__" == Value.builtin "object.__getattribute__")=false:=by decide+kernel
  have hx1:(onTheHeap (Value.ref C) && Value.builtin "BaseException.__getattribute__" == Value.builtin "object.__getattribute__")=false:=by rw[hx2];rfl
  unfold getAttr getAttrBy
  repeat (any_goals (first | assumption | with_reducible refine L0.at ?_ | with_reducible refine L1.at ?_ | with_reducible refine L2.at ?_ | wp_step))
  rw[show(expr && onTheHeap (Value.builtin "BaseException.__getattribute__"))=false from Bool.and_false _,if_neg (by decide)];unfold boundAndCalled;rw[f3];refine wpAny_bind (wpAny_pure ?_);show wpAny _ _ (call (.builtin "BaseException.__getattribute__") [.ref x,.str name t]) _ _ _;refine wpAny_call (codeAny_call_builtin F.attrBase_ValueError.ga.plain F.entry_bexc_ga (Xp X e.at G.mb ?_))
  repeat (any_goals (first | assumption | with_reducible refine L0.at ?_ | with_reducible refine L3.at ?_ | wp_step))
  show wpAny _ _ (handedOut v) _ _ _;rw[handedOut_of hv'];exact wpAny_pure h
structure wG (K:W.Frag) (C PE:Addr):Prop where
  sa:findIn K (.ref C) "__setattr__" = some (some (.builtin "object.__setattr__"))
  mo:mroIn K C (.type "object")=some true
  cl:∃cd,clsIn K C=some cd∧cd.mro = .ref C::.ref PE::m9∧cd.hasDict=true
theorem qdx {x PE:Addr} {name:Str} {tk:Tok} {v:Value} {R:Result→Shared→Prop} (X:K.In h) (I:wD x C h) (S:wG K C PE) (ha:findIn K (.ref C) name=some none)
    (hq:wpAny (model prog w) A.in1 (Builtin.ObjectAttr.storeInOwnDict (.ref x) (.ref C) (.str name tk) name v false)
      (fun fin s'=>match fin with | .done f=>R (.ok f) s' | .again c'=>c'.quiet=true∧codeAny (model prog w) A c' R s') (fun e s'=>R (.error e) s') ⟨h,g,d,t,os⟩) :
    codeAny (model prog w) A (.call (.builtin "object.__setattr__") ⟨[.ref x,.str name tk,v],[]⟩) R ⟨h,g,d,t,os⟩:=by
  have SF:=PySem.F.store_object;obtain⟨cd,hc,hm,_⟩:=S.cl;have L0:=I.type (M:=model prog w);have sub:Looks (model prog w) h (isInstance (.ref x) (.type "object")) true:=L0.andThen (looks_mroIn X S.mo);refine codeAny_call_builtin SF.slot.plain SF.entry (@check_slot (model prog w) _ _ ⟨h,g,d,t,os⟩ "object.__setattr__" "object" "__setattr__" (.ref x) [.str name tk,v] [] _ SF.kind SF.split sub (SF.args (.ref x) (.str name tk) v) ?_);have Lm:Looks (model prog w) h (mroOf (.ref C)) cd.mro:=(looks_clsIn X hc).andThen .now;rw[osa_eq,refuse_eq];refine wpAny_bind (wpAny_bind (Looks.here (s:=⟨h,g,d,t,os⟩) L0 (wpAny_bind (Looks.here (s:=⟨h,g,d,t,os⟩) Lm ?_))));rw[hm,refuseLoop_ref,refuseLoop_ref,PySem.F.store_ValueError.passes];exact wpAny_pure (wpAny_bind (Looks.here (s:=⟨h,g,d,t,os⟩) L0 (wpAny_bind (Looks.here (s:=⟨h,g,d,t,os⟩) (looks_findIn X ha) (wpAny_bind (wpAny_pure hq))))))
theorem Xq {x PE:Addr} {name:Str} {v:Value} {Q:Unit→Shared→Prop} {s:Shared} (X:K.In s.heap) (I:wD x C s.heap) (S:wG K C PE) (ha:findIn K (.ref C) name=some none)
    (hq:∀A':Around,wpAny (model prog w) A' (Builtin.ObjectAttr.storeInOwnDict (.ref x) (.ref C) (.str name s.toks) name v false) (fun fin s'=>fin = .done (.ret .none)∧Q () s') (fun e s'=>False) {s with toks:=s.toks+1}) :
    wpAny (model prog w) A (setAttr (.ref x) name v) Q E s:=by
  have L0:=I.type (M:=model prog w);refine wpAny_bind (wpAny_mkText (wpAny_bind (wpAny_bind (wpAny_bind (L0 _ _ _ _ (fun _ _ e=>e) (looks_findIn X S.sa _ _ _ _ (fun _ _ e=>e) (wpAny_holding ?_)))))));rw[PySem.F.store_object.slot.bind];refine wpAny_bind (wpAny_pure (wpAny_bind (wpAny_call (codeAny_mono (qdx (A:=A) (tk:=s.toks) (v:=v) (R:=fun r s'=>match r with | .ok (.ret _)=>Q () s' | .ok _=>False | .error e=>False) X I S ha (wpAny_mono (hq _) (fun fin s' z=>?_) fun e s' z=>z)) fun r s' z=>?_))))
  ·obtain⟨rfl,z⟩:=z;exact z
  ·rcases r with e | (v | _ | _ | _) <;> first | exact z.elim | exact wpAny_pure (wpAny_pure z)
theorem qax {x dx:Addr} {ns:List Str} {mA:Str→Option Value} {name:Str} {tk:Tok} {v:Value} {Q:PySem.Fin→Shared→Prop} {cd:ClassData} (X:K.In h) (e:Jf x C (some dx) h) (hn:h.Ns1 dx mA) (hc:clsIn K C=some cd) (hd:cd.hasDict=true)
    (hw:PySem.Within mA ns) (hsz:ns.length≤sizeLine) (hq:∀h' t',h'.Ns1 dx (fun y=>if y=name then some v else mA y)→Heap.SameBut dx h h'→Q (.done (.ret .none)) ⟨h',g,d,t',os⟩) :
    wpAny (model prog w) A (Builtin.ObjectAttr.storeInOwnDict (.ref x) (.ref C) (.str name tk) name v false) Q E ⟨h,g,d,t,os⟩:=by
  obtain⟨ox,vs,t0,h1,h2,h3,_,_,_,h6⟩:=e;obtain⟨oc,odi,oda,osl⟩:=ox;cases h2;cases h3;cases h6;refine wpAny_bind (wpAny_pure (wpAny_bind (wpAny_bind (wpAny_loadPart h1 (wpAny_bind (Looks.here (s:=⟨h,g,d,t,os⟩) (looks_clsIn X hc) ?_))))));rw[hd];refine wpAny_pure (a:=some dx) (wpAny_bind (wpAny_pure (wpAny_bind ?_)));refine wpAny_nsSet1 (s:=⟨h,g,d,t,os⟩) hn fun h' hn2 hs2=>?_;obtain⟨oD,esD,epD,hoD,hdD,hcD⟩:=hn2.count (PySem.Within.cons name v hw);refine wpAny_bind (wpAny_lookBehind hoD (by rw[hdD];exact pastItsLine_dict (Nat.le_trans hcD (by rw[List.length_cons];omega))) ?_);exact wpAny_pure (hq _ _ hn2 hs2)
theorem qay {x:Addr} {name:Str} {tk:Tok} {v:Value} {Q:PySem.Fin→Shared→Prop} {cd:ClassData} (X:K.In h) (e:Jf x C none h) (hc:clsIn K C=some cd) (hd:cd.hasDict=true)
    (hq:∀h' t',h'.Ns1 h.objs.size (fun y=>if y=name then some v else none)→(∀b o,b≠x→h.get? b=some o→h'.get? b=some o)→Jf x C (some h.objs.size) h'→Q (.done (.ret .none)) ⟨h',g,d,t',os⟩) :
    wpAny (model prog w) A (Builtin.ObjectAttr.storeInOwnDict (.ref x) (.ref C) (.str name tk) name v false) Q E ⟨h,g,d,t,os⟩:=by
  obtain⟨ox,vs,t0,h1,h2,h3,h40,h41,h42,h6⟩:=e;obtain⟨oc,odi,oda,osl⟩:=ox;cases h2;cases h3;cases h6;refine wpAny_bind (wpAny_pure (wpAny_bind (wpAny_bind (wpAny_loadPart h1 (wpAny_bind (Looks.here (s:=⟨h,g,d,t,os⟩) (looks_clsIn X hc) ?_))))));rw[hd,if_neg (by decide)];show wpAny _ _ (if (!true || !typeHasDict (Value.ref C))=true then pure none else _) _ _ _
  rw[if_neg (by simp[typeHasDict])];have hxs:x≠h.objs.size:=Nat.ne_of_lt (Heap.lt_size h1);have h1':(h.push {cls:=.type "dict",data:=.dict #[]}).get? x=some ⟨.ref C,none,.fields vs,osl⟩:=Heap.get?_push_of_some _ h1;refine wpAny_bind (wpAny_alloc' ?_);refine wpAny_bind (wpAny_update' h1' ?_);refine wpAny_pure ?_;generalize hG:((h.push {cls:=.type "dict",data:=.dict #[]}).update x fun o=>{cls:=o.cls,dict:=some h.objs.size,data:=o.data,slots:=o.slots})=G;have g1:G.get? h.objs.size=some {cls:=.type "dict",data:=.dict #[]}:=by
    rw[← hG];exact(Heap.get?_update_ne _ _ _ _ hxs.symm).trans (Heap.get?_push_at rfl rfl)
  have g2:G.get? x=some ⟨.ref C,some h.objs.size,.fields vs,osl⟩:=by
    rw[← hG];exact Heap.get?_update_self _ h1' rfl
  have g3:∀b o,b≠x→h.get? b=some o→G.get? b=some o:=fun b o hb z=>by
    rw[← hG];exact(Heap.get?_update_ne _ _ _ _ hb).trans (Heap.get?_push_of_some _ z)
  have hnd:G.Ns h.objs.size (fun _=>none):=⟨_,#[],_,g1,rfl,fun e he=>absurd he (by simp),fun _=>rfl⟩;show wpAny _ _ (Builtin.ObjectAttr.storeInDict h.objs.size (.str name tk) name v) _ _ _;unfold Builtin.ObjectAttr.storeInDict Builtin.ObjectAttr.newKeyGuard;refine wpAny_bind (wpAny_pure (wpAny_bind (wpAny_nsSet1 (Heap.Ns1.of_empty hnd) fun h' hn' hs=>?_)));obtain⟨oD,esD,epD,hoD,hdD,hcD⟩:=hn'.count (Within.cons name v Within.nil);refine wpAny_bind (wpAny_lookBehind hoD (by rw[hdD];exact pastItsLine_dict (Nat.le_trans hcD (by rw[List.length_cons,List.length_nil,sizeLine_eq];omega))) ?_);exact wpAny_pure (hq _ _ hn' (fun b o hb z=>(hs.2 b (Nat.ne_of_lt (Heap.lt_size z))).trans (g3 b o hb z)) ⟨_,vs,t0,(hs.2 x hxs).trans g2,rfl,rfl,h40,h41,h42,rfl⟩)
end
end L2
namespace L2
open PySem PySem.Spec PyProof.Rows
def fu (x C:Addr) (od:Option Addr):HO:=.ext fun h=>Jf x C od h
def i_ (dx:Addr) (fs:List (Str×V)):HO:=.ext fun h=>fs.length≤1000∧∃mA,h.Ns1 dx mA∧(∀f,mQ (fs.lookup f) (mA f))∧PySem.Within mA (fs.map (·.1))
section
variable {P:Program} {w:World} {H:Hp} {h:Heap} {x C dx:Addr} {od:Option Addr} {fs:List (Str×V)}
theorem Jg (e:Jf x C od h):b_ P w H h x (fu x C od):=by
  obtain⟨ox,vs,t0,h1,h2⟩:=id e;exact⟨e,⟨ox,h1⟩,fun g1 g2 ⟨ox,vs,t0,a1,a2⟩ k=>⟨ox,vs,t0,k _ a1,a2⟩⟩
theorem Bv (ok:sY P w H h) (e:H x=some (fu x C od)):Jf x C od h:=((show b_ P w H h x (fu x C od) from ok _ _ e)).1
theorem Rf {mA:Str→Option Value} (hl:fs.length≤1000) (hn:h.Ns1 dx mA) (hr:∀f,mQ (fs.lookup f) (mA f)) (hw:PySem.Within mA (fs.map (·.1))):b_ P w H h dx (i_ dx fs):=by
  obtain⟨o,es,ep,h1,h2⟩:=id hn;exact⟨⟨hl,mA,hn,hr,hw⟩,⟨o,h1⟩,fun g1 g2 ⟨c,mB,⟨o,es,ep,a1,a2⟩,b⟩ k=>⟨c,mB,⟨o,es,ep,k _ a1,a2⟩,b⟩⟩
theorem Rg (ok:sY P w H h) (e:H dx=some (i_ dx fs)):fs.length≤1000∧∃mA,h.Ns1 dx mA∧(∀f,mQ (fs.lookup f) (mA f))∧PySem.Within mA (fs.map (·.1)):=((show b_ P w H h dx (i_ dx fs) from ok _ _ e)).1
theorem Xr {o:HO} (e:H x=some o):upd H x o=H:=funext fun b=>by
  by_cases hb:b=x
  ·subst hb;rw[ak,e]
  ·rw[aC hb]
end
section
variable {X:Cx} {p_:List (Addr×Obj)} {σ:St} {H:Hp} {s:Shared}
theorem Inv.qdy {a:Addr} {ob:HO} (I:Inv X p_ σ H s) (hex:X.ex=[]) (new:X.s₀.heap.get? a=none) (un:H a=none) (e:∃ox vs,s.heap.get? a=some ox∧ox.data = .fields vs) (ok:b_ X.prog X.w (upd H a ob) s.heap a ob) (hp:∀p∈X.pn++p_,p.1≠a):Inv X p_ σ (upd H a ob) s:=by
  have nf:∀{b o},s.heap.get? b=some o→(∀vs,o.data≠.fields vs)→b≠a:=fun {b o} eb hd z=>by
    subst z;obtain⟨ox,vs,h1,h3⟩:=e;rw[eb] at h1;cases h1;exact hd vs h3
  have old:∀{b o},X.s₀.heap.get? b=some o→b≠a:=fun {b o} eb z=>by
    rw[z,new] at eb;cases eb
  have ne:∀{b:Addr} {u:HO},H b=some u→b≠a:=fun {b u} q z=>by
    rw[z,un] at q;cases q
  refine⟨I.ok,I.os,I.bare,⟨fun b o eb n hb hx=>I.base.keep b o eb n hb hx,I.base.slot,fun b o eb n hx=>?_,I.base.there,fun b xs q=>?_,fun b o u q=>?_,fun b ps q=>?_⟩,I.loc,I.cell,?_,fun x c q=>?_,fun p hpp=>?_,fun b u q=>?_,I.len⟩
  ·rw[aC (old eb)];exact I.base.free b o eb n hx
  ·have z:=I.base.tups b xs q;rw[aC (ne z)];exact z
  ·have z:=I.base.oR b o u q;rw[aC (ne z)];exact z
  ·obtain⟨m,z⟩:=I.base.qm b ps q;exact⟨m,by rw[aC (ne z)];exact z⟩
  ·obtain⟨m,⟨o,es,ep,eo,d,r⟩,_⟩:=I.loc;rw[aC (nf eo fun vs y=>by rw[d] at y;cases y)];exact I.free
  ·obtain⟨v,o,eo,d⟩:=I.cell x c q;rw[aC (nf eo fun vs y=>by rw[d] at y;cases y)];exact I.iT x c q
  ·obtain⟨f1,f2,f3⟩:=I.pin p hpp;refine⟨f1,?_,f3⟩;rw[aC (hp p hpp)];exact f2
  · by_cases hb:b=a
    ·subst hb;rw[ak] at q;cases q;exact ok
    · rw[aC hb] at q;refine(I.hok b u q).stay (fun c v _ z=>z) (fun c z=>?_) fun c xs z=>?_
      ·rw[aC (ne z)];exact z
      ·rw[aC (ne z)];exact z
theorem Inv.qgc {e C:Addr} {args:List Value} {h':Heap} (I:Inv X p_ σ H s) (hex:X.ex=[]) (mk:Heap.MadeExcOf s.heap h' e (.ref C) args):H e=none∧Inv X p_ σ (upd H e (fu e C none)) {s with heap:=h'}:=by
  have un:=Xm I.hok mk.new;obtain⟨t0,ht,_⟩:=mk.there;have I2:Inv X p_ σ H {s with heap:=h',toks:=s.toks}:=I.kept mk.keeps;refine⟨un,I2.qdy hex (I.old hex mk.new) un ⟨_,_,ht,rfl⟩ (Jg ⟨_,_,t0,ht,rfl,rfl,rfl,rfl,rfl,rfl⟩) fun p hp z=>?_⟩;have e1:=(I.pin p hp).1;rw[z,mk.new] at e1;cases e1
end
structure XMk (K:W.Frag) (C B f:Addr):Prop where
  ob:∃nm q N bs hdct sn sub ab col dd k0 k1 k2 k3 k5,K.lookup C=some (excClassObj nm q C N bs (.ref B::m9) hdct sn sub ab col dd k0 k1 k2 k3 k5 "ValueError.__new__")
  pe:Jd K B
  pm:∃cd,W.clsIn K B=some cd∧cd.mro = .ref B::m9
  init:W.findIn K (.ref C) "__init__" = some (some (.ref f))
  fn:W.typeIn K (.ref f)=some (.type "function")
  kp:W.keepIn K (.ref C)=true
theorem XMk.tail {K:W.Frag} {C B f:Addr} {h:Heap} (M:XMk K C B f) (X:K.In h):OwnTail h m9 (.ref B::m9):=by
  obtain⟨bm,N,nm,qn,bs,hdct,sn,sub,ab,col,dd,k0,k1,k2,k3,k5,mN,hC0,hN0,hni,T0,_⟩:=qat X M.pe;obtain⟨cd,h1,h2⟩:=M.pm;have e:bm=m9:=by
    unfold W.clsIn at h1;split at h1
    ·rename_i c' d' cd' sl' ho;cases h1;have z:=X _ _ ho;rw[hC0] at z;cases z;simpa using h2
    ·cases h1
  subst e;exact .own hC0 hN0 hni .base
section
variable {X:Cx} {C B f:Addr} {x:Str} {np p pos apos:Pos} {e:Expr} {es:List Expr} {t:TA}
structure qgd (K:W.Frag) (B:Addr):Prop where
  sg:W.specialIn K (.ref B) "__getattribute__" = some (some (.builtin "type.__getattribute__"))
  rd:W.readsIn K B (.type "type")=true
  fc:W.findCls K (.ref B) (.type "type") "__init__" = some (.val (.builtin "ValueError.__init__"))
def qbQ (C:Addr) (t:TA):TE:=fun σ H Q=>t σ H fun vs H1=>ar2 vs fun v y=>isRef v fun a=>∃od,H1 a=some (fu a C od)∧Q .non H1
@[simp ↓] theorem qkZ C t σ H Q:qbQ C t σ H Q=t σ H fun vs H1=>ar2 vs fun v y=>isRef v fun a=>∃od,H1 a=some (fu a C od)∧Q .non H1:=rfl
theorem Rh {pl:Sem Bool} (M:XMk X.K C B f) (N:qgd X.K B) (hg:Gl X x) (hm:X.mg x=some (.ref B)) (ha:PA X (e::es) t) (hdb:(x == ("__debug__" : Str))=false:=by decide)
    (he:starEach (e::es) X.env=(false,eval e X.env)::starEach es X.env:=by rfl) (hpl:(backTo pos (starEach es X.env)).any (·.1)=false:=by rfl)
    (ht:eval (.Call (.Attribute (.Name x np) "__init__" apos) (e::es) [] pos) X.env=(do
      let ov ← eval (.Name x np) X.env
      standAt apos.atName
      let (f,first) ← holding [ov] (getMethod ov "__init__" pl)
      callWith pos f first (backTo pos (starEach (e::es) X.env)) (backToKw pos (keywordEach [] X.env))):=by rfl) :
    PE X (.Call (.Attribute (.Name x np) "__init__" apos) (e::es) [] pos) (qbQ C t):=by
  intro p_ s σ H Q I h;refine W.methodCall_KW (pl:=pl) (jH I hg hm ?_ hdb) ht;refine W.method_cls I.oO N.sg (W.cls_value I.oO N.rd N.fc rfl ?_);have I0:Inv X p_ σ H {s with toks:=s.toks+1}:=I.tok _;refine PyProof.Rows.callWith_builtin1 (cY (ha pos p_ _ σ H _ I0 h) fun us s1 zz=>?_) he hpl;obtain⟨vs,H1,I1,r,q⟩:=zz;obtain⟨v,y,rfl,q⟩:=ar2.out q;obtain⟨a,rfl,od,ea,q⟩:=isRef.out q;obtain⟨u1,u2,rfl,r1,r2⟩:=r.two;obtain rfl:u1=Value.ref a:=r1;obtain⟨nm,qn,N,bs,hdct,sn,sub,ab,col,dd,k0,k1,k2,k3,k5,hC⟩:=M.ob;have T:=M.tail I1.oO;have Nh:=I1.oO _ _ hC;obtain⟨ox,vs,t0,h1,h2,h3,h4,h5,h6,h7⟩:=Bv I1.hok ea;obtain⟨hh,g,d,tk,os⟩:=s1;refine qav T Nh h1 h2 h3 h4 (fun h' t1 keep he'=>?_) (by show 1≤sizeLine;decide);have sz:0<vs.size:=(Array.getElem?_eq_some_iff.mp h4).1;have new:Jf a C od h':=⟨_,vs.setIfInBounds 0 (.ref t1),t1,he',h2,rfl,by simp[sz],by rw[Array.getElem?_setIfInBounds_ne (by decide)];exact h5,by rw[Array.getElem?_setIfInBounds_ne (by decide)];exact h6,h7⟩;have I2:Inv X p_ σ (upd H1 a (fu a C od)) {(⟨hh,g,d,tk,os⟩:Shared) with heap:=h',toks:=tk}:=I1.write (x:=a) (e:=a) (by rw[ea];exact True.intro) (.inl rfl) keep ⟨_,he'⟩ (Jg new);rw[Xr ea] at I2;exact⟨.non,H1,I2,rfl,q⟩
end
section
variable {X:Cx} {C B:Addr} {o value:Expr} {f:Str} {pos pos':Pos} {ta tv:TE}
def sX0 (C:Addr) (ta tv:TE) (f:Str):TS:=fun D σ H=>tv σ H fun y H1=>ta σ H1 fun x H2=>isRef x fun a=>H2 a=some (fu a C none)∧∀dx,H2 dx=none→D.nx σ (upd (upd H2 dx (i_ dx [(f,y)])) a (fu a C (some dx)))
@[simp ↓] theorem qo4 C ta tv f D σ H:sX0 C ta tv f D σ H=tv σ H fun y H1=>ta σ H1 fun x H2=>isRef x fun a=>H2 a=some (fu a C none)∧∀dx,H2 dx=none→D.nx σ (upd (upd H2 dx (i_ dx [(f,y)])) a (fu a C (some dx))):=rfl
theorem qbR (S:wG X.K C B) (hn:W.findIn X.K (.ref C) f=some none) (ha:PE X o ta) (hv:PE X value tv) (hs:swapsWith value (some (.Attribute o f pos')) pos.line X.env=pure false):PS X (.Assign [.Attribute o f pos'] value pos) (sX0 C ta tv f):=by
  intro p_ s σ H D I h;refine plainObj_wpAny_Assign_Attribute (cY (hv p_ s σ H _ I h) fun u s1 z1=>?_) hs;obtain⟨y,H1,I1,ry,q⟩:=z1;refine cY (ha p_ s1 σ H1 _ I1 q) fun ov s2 z2=>?_;obtain⟨x,H2,I2,rx,q2⟩:=z2;obtain⟨a,rfl,ea,q2⟩:=isRef.out q2;obtain rfl:ov=Value.ref a:=rx;have E0:=Bv I2.hok ea;obtain⟨cd,hc,_,hd⟩:=S.cl;have M9:=I2.oO;refine Xq M9 E0.at S hn fun A'=>?_;obtain⟨hh,g,d,tk,os⟩:=s2;refine qay M9 E0 hc hd fun h' t' hns keep E1=>⟨rfl,?_⟩;have hf:H2 hh.objs.size=none:=I2.hok.fresh (Nat.le_refl _);obtain⟨oD,es,ep,eD,rest⟩:=id hns;obtain⟨ox,_,_,ex1,_⟩:=id E0;have axs:a≠hh.objs.size:=Nat.ne_of_lt (Heap.lt_size ex1);have nfr:oD.isFreed=false:=(Heap.get?_some_iff.mp eD).2;have hgD:(hh.push oD).get? hh.objs.size=some oD:=Heap.get?_push_size hh nfr;have hns':(hh.push oD).Ns1 hh.objs.size (fun y'=>if y'=f then some u else none):=⟨oD,es,ep,hgD,rest⟩
  have rel:∀f',mQ ([(f,y)].lookup f') (if f'=f then some u else none):=fun f'=>by
    have e:=oV f f' y [];rw[show[(f,y)].lookup f'=(lF f y []).lookup f' from rfl,e]
    by_cases z:f'=f
    ·rw[if_pos z,if_pos z];exact ry
    ·rw[if_neg z,if_neg z];exact True.intro
  have wi:PySem.Within (fun y'=>if y'=f then some u else none) ([(f,y)].map (·.1)):=Within.cons f u Within.nil
  have I3:Inv X p_ σ (upd H2 hh.objs.size (i_ hh.objs.size [(f,y)])) {(⟨hh,g,d,tk,os⟩:Shared) with heap:=hh.push oD,toks:=tk}:=I2.laid (fun b o z=>Heap.get?_push_of_some _ z) (Nat.le_refl _) (Rf (by show(1:Nat)≤1000;decide) hns' rel wi);have I4:Inv X p_ σ (upd (upd H2 hh.objs.size (i_ hh.objs.size [(f,y)])) a (fu a C (some hh.objs.size))) {(⟨hh.push oD,g,d,tk,os⟩:Shared) with heap:=h',toks:=t'}:=by
    refine I3.write (x:=a) (e:=a) (by rw[aC axs,ea];exact True.intro) (.inl rfl) (fun b o hb z=>?_) ?_ (Jg E1)
    · by_cases hbs:b=hh.objs.size
      ·subst hbs;rw[hgD] at z;cases z;exact eD
      ·rw[Heap.get?_push_ne _ _ _ hbs] at z;exact keep b o hb z
    ·obtain⟨ox',_,_,z,_⟩:=id E1;exact⟨_,z⟩
  exact⟨σ,_,I4,q2 _ hf⟩
def sX1 (C:Addr) (ta tv:TE) (f:Str):TS:=fun D σ H=>tv σ H fun y H1=>ta σ H1 fun x H2=>isRef x fun a=>∃dx fs,H2 a=some (fu a C (some dx))∧H2 dx=some (i_ dx fs)∧fs.length<1000∧D.nx σ (upd H2 dx (i_ dx (lF f y fs)))
@[simp ↓] theorem qo5 C ta tv f D σ H:sX1 C ta tv f D σ H=tv σ H fun y H1=>ta σ H1 fun x H2=>isRef x fun a=>∃dx fs,H2 a=some (fu a C (some dx))∧H2 dx=some (i_ dx fs)∧fs.length<1000∧D.nx σ (upd H2 dx (i_ dx (lF f y fs))):=rfl
theorem qge (S:wG X.K C B) (hn:W.findIn X.K (.ref C) f=some none) (ha:PE X o ta) (hv:PE X value tv) (hs:swapsWith value (some (.Attribute o f pos')) pos.line X.env=pure false):PS X (.Assign [.Attribute o f pos'] value pos) (sX1 C ta tv f):=by
  intro p_ s σ H D I h;refine plainObj_wpAny_Assign_Attribute (cY (hv p_ s σ H _ I h) fun u s1 z1=>?_) hs;obtain⟨y,H1,I1,ry,q⟩:=z1;refine cY (ha p_ s1 σ H1 _ I1 q) fun ov s2 z2=>?_;obtain⟨x,H2,I2,rx,q2⟩:=z2;obtain⟨a,rfl,dx,fs,ea,ed,hl,q2⟩:=isRef.out q2;obtain rfl:ov=Value.ref a:=rx;have E0:=Bv I2.hok ea;obtain⟨hl0,mA,hns,hr,hw⟩:=Rg I2.hok ed;obtain⟨cd,hc,_,hd⟩:=S.cl;have M9:=I2.oO;refine Xq M9 E0.at S hn fun A'=>?_;obtain⟨hh,g,d,tk,os⟩:=s2;refine qax M9 E0 hns hc hd hw (by rw[List.length_map,sizeLine_eq];omega) fun h' t' hns' sb=>⟨rfl,?_⟩;have he:∃o,h'.get? dx=some o:=let ⟨o,_,_,e',_⟩:=hns';⟨o,e'⟩;have I4:Inv X p_ σ (upd H2 dx (i_ dx (lF f y fs))) {(⟨hh,g,d,tk,os⟩:Shared) with heap:=h',toks:=t'}:=by
    refine I2.write (x:=dx) (e:=dx) (by rw[ed];exact True.intro) (.inl rfl) (fun b o hb z=>(sb.2 b hb).trans z) he (Rf ?_ hns' (fun g'=>?_) fun g' hg=>?_)
    ·have:=tU f y fs;omega
    · show mQ ((lF f y fs).lookup g') (if g'=f then some u else mA g')
      rw[oV]
      by_cases z:g'=f
      ·rw[if_pos z,if_pos z];exact ry
      ·rw[if_neg z,if_neg z];exact hr g'
    · by_cases z:g'=f
      ·rw[z];exact(qt f y fs).1
      · refine(qt f y fs).2 g' (hw g' fun y'=>hg ?_);show(if g'=f then some u else mA g')=none
        rw[if_neg z];exact y'
  exact⟨σ,_,I4,q2⟩
end
inductive Lf:V→PyData→Prop
  | non:Lf .non .none
  | bl (b):Lf (.bl b) (.bool b)
  | int (i):Lf (.int i) (.int i)
  | str (x):Lf (.str x) (.str x)
inductive Ri:List (Str×V)→List (PyData×PyData)→Prop
  | nil:Ri [] []
  | cons {x v d ks kvs}:Lf v d→Ri ks kvs→Ri ((x,v)::ks) ((.str x,d)::kvs)
section
variable {X:Cx} {p_:List (Addr×Obj)} {σ:St} {H:Hp} {s:Shared}
inductive Shw (H:Hp):PyData→V→Prop
  | thg {d v}:Dv H d v→d.hasDict=false→Shw H d v
  | dic {a ks kvs}:Ri ks kvs→H a=some (.dK (ks.map fun e=>((Sum.inr e.1:Key),e.2)))→Shw H (.dict kvs) (.ref a)
end
structure Sml (k n:Nat) (d:PyData):Prop where
  sh:d.showable=true
  dp:d.depth≤k
  ln:d.shown.length≤n
end L2
namespace L2
open PySem PySem.Spec
section
variable {σ:St} {H:Hp} {p:Addr}
variable {φ:PyData→Prop}
structure big (t:TE) (σ:St) (H:Hp) (Q:VK):Prop where
  out:t σ H Q
end
end L2
namespace L2
open PySem
end L2
namespace L2
open PySem PySem.Spec PyProof.Rows PySem.SeqAt
structure XC (K:W.Frag) (C B:Addr):Prop where
  cl:∃cd,W.clsIn K C=some cd∧cd.mro = .ref C::.ref B::m9∧cd.hasDict=true
  ty:W.typeIn K (.ref C)=some (.type "type")
  ga:W.findIn K (.ref C) "__getattribute__" = some (some (.builtin "BaseException.__getattribute__"))
  gn:W.findIn K (.ref C) "__getattr__" = some none
  gc:W.findIn K (.ref C) "__class__" = some (some (.builtin "object.__class__"))
  kp:W.keepIn K (.ref C)=true
section
variable {K:W.Frag} {C D B:Addr}
theorem XC.mro (c:XC K C B) (v:Value):W.mroIn K C v=some ((Value.ref C::Value.ref B::m9).contains v):=by
  obtain⟨cd,h1,h2,_⟩:=c.cl;unfold W.mroIn;rw[h1,Option.bind_some,h2];rfl
theorem XC.get (c:XC K C B):Ou K C:=by
  obtain⟨cd,h1,_,h3⟩:=c.cl;refine⟨c.ga,c.gn,by rw[c.mro];simp,?_⟩;unfold W.hasDictIn;rw[h1];exact h3
theorem XC.set (c:XC K C B) (sa:W.findIn K (.ref C) "__setattr__" = some (some (.builtin "object.__setattr__"))):wG K C B:=by
  obtain⟨cd,h1,h2,h3⟩:=c.cl;exact⟨sa,by rw[c.mro];simp,cd,h1,h2,h3⟩
end
def Jh:List Addr→Bool
  | []=>true
  | a::l=>!l.contains a && Jh l
theorem GZ:∀{l:List Addr},Jh l=true→l.Nodup
  | [],_=>List.Pairwise.nil
  | a::l,h=>by
    simp only[Jh,Bool.and_eq_true,Bool.not_eq_true',List.contains_eq_mem,decide_eq_false_iff_not] at h;exact List.nodup_cons.mpr ⟨h.1,GZ h.2⟩
def ar3 (vs:List V) (R:V→V→V→Prop):Prop:=match vs with
  | [u,v,w]=>R u v w
  | _=>False
@[simp ↓] theorem qo6 u v w R:ar3 [u,v,w] R=R u v w:=rfl
end L2
namespace L2
open PySem PySem.Spec PyProof.Rows
section
variable {M:Model} {A:Around} {E:Value→Shared→Prop} {s:Shared} {env:Env}
variable {nm q:Str} {C N:Addr} {bs bm:List Value} {hdct:Bool} {sn:List Str} {sub:List Value} {ab:Bool} {col:Option Bool} {dd:Option Addr} {k0 k1 k2 k3 k5:Option Value} {newId:String}
theorem qaz {x:Sem Value} {Q:Flow→Shared→Prop} (hh:A.handled=none)
    (h:wpAny M A x (fun v s1=>∃(a C:Addr) (oe:Obj) (vs:Array Value) (nm q:Str) (N:Addr) (bs bm:List Value) (hdct:Bool) (sn:List Str) (sub:List Value) (ab:Bool) (col:Option Bool) (dd:Option Addr) (k0 k1 k2 k3 k5:Option Value) (newId:String),v = .ref a∧bm.contains (.type "BaseException")=true∧
      s1.heap.get? C=some (excClassObj nm q C N bs bm hdct sn sub ab col dd k0 k1 k2 k3 k5 newId)∧s1.heap.get? a=some oe∧oe.cls = .ref C∧oe.data = .fields vs∧vs[1]? = some .none∧E (.ref a) s1) E s) :
    wpAny M A (raiseStmt env (some x) none) Q E s:=by
  unfold raiseStmt;refine wpAny_bind (wpAny_mono h (fun v s1 z=>?_) fun _ _ x=>x);obtain⟨a,C,oe,vs,nm,q,N,bs,bm,hdct,sn,sub,ab,col,dd,k0,k1,k2,k3,k5,newId,rfl,hb,hC,he,hc,hd,h1,hE⟩:=z;have hcB:(Value.ref C::bm).contains (.type "BaseException")=true:=by rw[List.contains_cons,hb,Bool.or_true]
  obtain⟨hp,g,d,tk,os⟩:=s1;obtain⟨oc,odd,oda,osl⟩:=oe;cases hc;cases hd
  repeat (first | with_reducible refine wpAny_loadPart_at he ?_ | with_reducible refine wpAny_loadPart_at hC ?_ | (with_reducible refine wpAny_isSubtype_exc hC ?_;rw[hcB]) | wp_step)
  rw[h1];refine wpAny_pure ?_;rw[if_neg (by decide)];exact wpAny_pure (wpAny_raiseNew_none hh hE)
end
section
variable {X:Cx} {p_:List (Addr×Obj)} {σ:St} {H:Hp} {s:Shared}
theorem Inv.qmb {a:Addr} {φ:Heap→Prop} (I:Inv X p_ σ H s) (ea:H a=some (.ext φ)):Inv X p_ σ (hid a H) s:=by
  have ne:∀{b:Addr} {u:HO},hid a H b=some u→b≠a∧H b=some u:=fun {b u} z=>by
    unfold hid at z;split at z
    ·cases z
    ·rename_i h;exact⟨h,z⟩
  have kp:∀{b:Addr} {u:HO},b≠a→H b=some u→hid a H b=some u:=fun h z=>wC h z;have nn:∀{b:Addr},H b=none→hid a H b=none:=fun {b} z=>by
    unfold hid;split
    ·rfl
    ·exact z
  refine⟨I.ok,I.os,I.bare,⟨I.base.keep,I.base.slot,fun b o eb n hx=>nn (I.base.free b o eb n hx),I.base.there,fun b xs q=>?_,fun b o u q=>?_,fun b ps q=>?_⟩,I.loc,I.cell,nn I.free,fun x c q=>nn (I.iT x c q),fun p hpp=>?_,fun b u q=>?_,I.len⟩
  ·have z:=I.base.tups b xs q;exact kp (fun y=>by rw[y,ea] at z;cases z) z
  ·have z:=I.base.oR b o u q;exact kp (fun y=>by rw[y,ea] at z;cases z) z
  ·obtain⟨m,z⟩:=I.base.qm b ps q;exact⟨m,kp (fun y=>by rw[y,ea] at z;cases z) z⟩
  ·obtain⟨f1,f2,f3⟩:=I.pin p hpp;exact⟨f1,nn f2,f3⟩
  · obtain⟨hb,q'⟩:=ne q;refine(I.hok b u q').stay (fun c v _ z=>z) (fun c z=>?_) fun c xs z=>?_
    ·exact kp (fun y=>by rw[y,ea] at z;cases z) z
    ·exact kp (fun y=>by rw[y,ea] at z;cases z) z
end
section
variable {X:Cx} {E:XK} {k:Nat} {C B f:Addr} {fd:FuncData} {ps:List Str} {sp:Sp} {x:Str} {np cpos pos:Pos} {e:Expr} {es:List Expr} {t:TA}
def Rj (C:Addr) (sp:Sp) (E:XK) (t:TA):TS:=fun _ σ H=>t σ H fun vs H1=>vs.length≤sizeLine∧∀a,H1 a=none→Tn sp (.ref a::vs) (upd H1 a (fu a C none)) (fun v H2=>v = .non∧∃od,H2 a=some (fu a C od)∧E (.ref C) od (hid a H2)) ⟨0⟩ E0
@[simp ↓] theorem qe9 C sp E t D σ H:Rj C sp E t D σ H=t σ H fun vs H1=>vs.length≤sizeLine∧∀a,H1 a=none→Tn sp (.ref a::vs) (upd H1 a (fu a C none)) (fun v H2=>v = .non∧∃od,H2 a=some (fu a C od)∧E (.ref C) od (hid a H2)) ⟨0⟩ E0:=rfl
theorem G6 (hL:Lets X E) (hex:X.ex=[]) (hc:X.calm=true) (M:XMk X.K C B f) (F:cg X.prog X.w X.K X.mg X.base lC k f fd ps sp) (hr:j4 (k+1) X.A) (hg:Gl X x) (hm:X.mg x=some (.ref C)) (hb:Binds X.K fd ps [])
    (ha:PA X (e::es) t) (hdb:(x == ("__debug__" : Str))=false:=by decide) (he:starEach (e::es) X.env=(false,eval e X.env)::starEach es X.env:=by rfl) (hpl:(backTo cpos (starEach es X.env)).any (·.1)=false:=by rfl) :
    PS X (.Raise (some (.Call (.Name x np) (e::es) [] cpos)) none pos) (Rj C sp E t):=by
  intro p_ s σ H D I h;show wpAny _ _ (do standAt pos;raiseStmt X.env (some (do let v ← eval (.Call (.Name x np) (e::es) [] cpos) X.env;standAt pos;pure v)) none) _ _ s
  refine wpAny_bind (wpAny_standAt (qaz (I.ok.hd hc) (wpAny_bind ?_)));refine wpAny_mono (Q:=fun v s1=>∃(a C:Addr) (oe:Obj) (vs:Array Value) (nm q:Str) (N:Addr) (bs bm:List Value) (hdct:Bool) (sn:List Str) (sub:List Value) (ab:Bool) (col:Option Bool) (dd:Option Addr) (k0 k1 k2 k3 k5:Option Value) (newId:String),v = .ref a∧bm.contains (.type "BaseException")=true∧
      s1.heap.get? C=some (excClassObj nm q C N bs bm hdct sn sub ab col dd k0 k1 k2 k3 k5 newId)∧s1.heap.get? a=some oe∧oe.cls = .ref C∧oe.data = .fields vs∧vs[1]? = some .none∧X.xe (.ref a) s1) ?_ (fun v s1 z=>wpAny_bind (wpAny_standAt (wpAny_pure z))) fun _ _ z=>z
  refine wpAny_Call_Name_kw (jH I hg hm ?_ hdb);refine W.callWith_K (h₀:=X.base) I.ok.mod.M9 M.kp (cY (ha cpos p_ s σ H _ I h) fun us s1 zz=>?_) he hpl;obtain⟨vs,H1,I1,r,hz,q⟩:=zz;refine⟨I1.oO,?_⟩;obtain⟨nm,qn,N,bs,hdct,sn,sub,ab,col,dd,k0,k1,k2,k3,k5,hC⟩:=M.ob;have T:=M.tail I1.oO;have Nh:=I1.oO _ _ hC;have M9:=I1.oO;obtain⟨hh,g,d,tk,os⟩:=s1;refine qau M9 T M.init M.fn Nh (fun h' a mk=>?_) (by show us.length≤_;rw[← r.length];exact hz);have new:X.s₀.heap.get? a=none:=I1.old hex mk.new;obtain⟨un,I2⟩:=I1.qgc hex mk;have hq:=q a un;have r2:Vals (V.ref a::vs) (Value.ref a::us):=.cons rfl r;have hl:(Value.ref a::us).length=ps.length:=by rw[← r2.length];exact F.len _ _ _ _ hq
  have hbd:=hb _ (Value.ref a::us) I2.oO (by rw[List.append_nil];exact hl);rw[List.append_nil] at hbd;refine wpAny_call (codeAny_mono (F.run _ X.stack _ _ ⟨Value.ref a::us,[]⟩ (Value.ref a::us) _ _ _ (hr.make C us []) (I2.env0.make C us []) hbd r2 hq) fun rr s' hq'=>?_);cases rr with
  | error z=>exact False.elim hq'
  | ok fl=>
    cases fl with
    | ret u=>
      obtain⟨v,H',I3,rv,ev,od,ea,hE⟩:=I2.after hq';subst ev;obtain⟨ox,ws,t0,g1,g2,g3,g4,g5,g6,g7⟩:=Bv I3.hok ea;refine⟨rv,a,C,ox,ws,nm,qn,N,bs,_,hdct,sn,sub,ab,col,dd,k0,k1,k2,k3,k5,_,rfl,?_,I3.oO _ _ hC,g1,g2,g3,g5,?_⟩
      ·simp[m9]
      ·refine hL p_ σ (hid a H') s' a C od (I3.qmb ea) ⟨new,?_,ox,ws,g1,by rw[g2,g7],g3,g6,.inl g5⟩ hE;unfold hid;rw[if_pos rfl]
    | next=>exact False.elim hq'
    | brk=>exact False.elim hq'
    | cont=>exact False.elim hq'
end
theorem vR.ofX {K:W.Frag} {C B f:Addr} (M:XMk K C B f) (c:XC K C B):vR K C:=fun h X=>by
  obtain⟨nm,qn,N,bs,hdct,sn,sub,ab,col,dd,k0,k1,k2,k3,k5,hC⟩:=M.ob;exact⟨_,N,nm,qn,bs,hdct,sn,sub,ab,col,dd,k0,k1,k2,k3,k5,X _ _ hC,fun v b e=>by rw[c.mro] at e;exact Option.some.inj e⟩
end L2
namespace L2
open PySem PySem.Spec PyProof.Rows
variable {X:Cx}
@[simp ↓] theorem qmc x y H Q:qfV x y H Q=(isRef x fun l=>isInt y fun k=>∃xs,H l=some (.lst xs)∧-(2 ^ 63)≤k∧k<2 ^ 63∧xs.length * k.toNat≤sizeLine∧∀p,H p=none→Q (.ref p) (upd H p (.lst (List.replicate k.toNat xs).flatten))):=rfl
theorem qaA:jj X (binaryOp .Mult) qfV:=by
  refine qcK.mono fun {x y H Q} h=>?_;obtain⟨l,rfl,h1⟩:=isRef.out h;obtain⟨k,rfl,xs,h2⟩:=isInt.out h1;exact⟨l,k,xs,rfl,rfl,h2⟩
def Xu:List V→Hp→VK→Prop:=fun xs H Q=>ar1 xs fun x=>isRef x fun a=>∃kvs,Rd H a (.dK kvs)∧∀p,H p=none→Q (.ref p) (upd H p (.dK kvs))
@[simp ↓] theorem qgf xs H Q:Xu xs H Q=(ar1 xs fun x=>isRef x fun a=>∃kvs,Rd H a (.dK kvs)∧∀p,H p=none→Q (.ref p) (upd H p (.dK kvs))):=rfl
theorem Ov:cF X (.type "dict") Xu:=by
  intro p_ s σ H xs us Q I rs q;obtain⟨v,rfl,q1⟩:=ar1.out q;obtain⟨a,rfl,kvs,hd,q2⟩:=isRef.out q1;obtain⟨u,rfl,ru⟩:=rs.one;obtain rfl:u=Value.ref a:=ru;exact WL I hd fun p s' hp I'=>⟨.ref p,_,I',rfl,q2 p hp⟩
end L2
namespace L2
open PySem PySem.Spec PyProof.Rows
section
variable {X:Cx} {p_ tO:List (Addr×Obj)} {σ σ':St} {H H':Hp} {s s':Shared} {a:Addr} {kvs:List (Key×V)} {o:Obj}
theorem Inv.freeze (I:Inv X p_ σ H s) (e:H a=some (.dK kvs)) (ho:s.heap.get? a=some o):Inv X p_ σ (upd H a (.gw o (.dK kvs))) s:=by
  have nn:∀b,H b=none→upd H a (.gw o (.dK kvs)) b=none:=fun b hb=>by rw[aC (fun z=>by rw[z,e] at hb;cases hb)];exact hb
  refine⟨I.ok,I.os,I.bare,⟨I.base.keep,I.base.slot,fun c q h1 h2 h3=>nn c (I.base.free c q h1 h2 h3),I.base.there,fun c zs h=>?_,fun c q v h=>?_,fun c qs h=>?_⟩,I.loc,I.cell,nn _ I.free,fun x c h=>nn c (I.iT x c h),fun p hp=>?_,?_,I.len⟩
  ·have h':=I.base.tups c zs h;rw[aC (fun z=>by rw[z,e] at h';cases h')];exact h'
  ·have h':=I.base.oR c q v h;rw[aC (fun z=>by rw[z,e] at h';cases h')];exact h'
  ·obtain⟨m,h'⟩:=I.base.qm c qs h;exact⟨m,by rw[aC (fun z=>by rw[z,e] at h';cases h')];exact h'⟩
  ·obtain⟨f1,f2,f3⟩:=I.pin p hp;exact⟨f1,nn _ f2,f3⟩
  · have st:∀c v,b_ X.prog X.w H s.heap c v→b_ X.prog X.w (upd H a (.gw o (.dK kvs))) s.heap c v:=fun c v x=>
      x.stay (fun _ _ _ q=>q) (fun b q=>by rw[aC (fun z=>by rw[z,e] at q;cases q)];exact q) fun b zs q=>by rw[aC (fun z=>by rw[z,e] at q;cases q)];exact q
    intro c v h
    by_cases hc:c=a
    ·subst hc;rw[ak] at h;cases h;exact⟨ho,st _ _ (I.hok _ _ e)⟩
    ·rw[aC hc] at h;exact st _ _ (I.hok _ _ h)
def fB (H H':Hp):Hp:=fun b=>match H' b,H b with
  | some (.gw o u),some (.gw _ _)=>some (.gw o u)
  | some (.gw o u),none=>some (.gw o u)
  | some (.gw _ u),some _=>some u
  | x,_=>x
theorem nW {b:Addr} (h:H' b=none):fB H H' b=none:=by unfold fB;rw[h]
theorem uq {b:Addr} {o o':Obj} {u u':HO} (h:H' b=some (.gw o u)) (h0:H b=some (.gw o' u')):fB H H' b=some (.gw o u):=by unfold fB;rw[h,h0]
theorem T_ {b:Addr} {o:Obj} {u:HO} (h:H' b=some (.gw o u)) (h0:H b=none):fB H H' b=some (.gw o u):=by unfold fB;rw[h,h0]
theorem Ji {b:Addr} {o:Obj} {u v:HO} (h:H' b=some (.gw o u)) (h0:H b=some v) (hv:∀o' u',v≠.gw o' u'):fB H H' b=some u:=by
  unfold fB;rw[h,h0];cases v <;> first | rfl | exact absurd rfl (hv _ _)
theorem fV {b:Addr} {v:HO} (h:H' b=some v) (hv:∀o u,v≠.gw o u):fB H H' b=some v:=by
  unfold fB;rw[h];cases v <;> first | rfl | exact absurd rfl (hv _ _)
theorem Rk {b:Addr} {v:HO} (h:fB H H' b=some v):H' b=some v∨∃o,H' b=some (.gw o v):=by
  cases q:H' b with
  | none=>rw[nW q] at h;cases h
  | some x=>
    by_cases hx:∃o u,x = .gw o u
    · obtain⟨o,u,rfl⟩:=hx;cases q0:H b with
      | none=>rw[T_ q q0] at h;exact .inl h
      | some y=>
        by_cases hy:∃o u,y = .gw o u
        ·obtain⟨o',u',rfl⟩:=hy;rw[uq q q0] at h;exact .inl h
        ·rw[Ji q q0 fun o' u' z=>hy ⟨o',u',z⟩] at h;cases h;exact .inr ⟨o,rfl⟩
    ·rw[fV q fun o u z=>hx ⟨o,u,z⟩] at h;exact .inl h
theorem Inv.fB (I:Inv X p_ σ H s) (J:Inv X tO σ' H' s'):Inv X tO σ' (fB H H') s':=by
  refine⟨J.ok,J.os,J.bare,⟨J.base.keep,J.base.slot,fun c q h1 h2 h3=>nW (J.base.free c q h1 h2 h3),J.base.there,fun c zs h=>fV (J.base.tups c zs h) (fun _ _ z=>nomatch z),fun c q v h=>uq (J.base.oR c q v h) (I.base.oR c q v h),fun c qs h=>?_⟩,
    J.loc,J.cell,nW J.free,fun x c h=>nW (J.iT x c h),fun p hp=>?_,fun c v h=>?_,J.len⟩
  ·obtain⟨m,h'⟩:=J.base.qm c qs h;exact⟨m,fV h' (fun _ _ z=>nomatch z)⟩
  ·obtain⟨f1,f2,f3⟩:=J.pin p hp;exact⟨f1,nW f2,f3⟩
  · have st:b_ X.prog X.w H' s'.heap c v→b_ X.prog X.w (L2.fB H H') s'.heap c v:=fun x=>
      x.stay (fun _ _ _ q=>q) (fun b q=>fV q (fun _ _ z=>nomatch z)) fun b zs q=>fV q (fun _ _ z=>nomatch z)
    rcases Rk h with h | ⟨o,h⟩
    ·exact st (J.hok _ _ h)
    ·obtain⟨_,x⟩:=J.hok _ _ h;exact st x
end
def Itd (a:Addr) (o:Obj) (kvs:List (Key×V)):It:=
  ⟨fun i H=>H a=some (.gw o (.dK kvs))∧i<kvs.length,
   fun i H v H'=>∃t k x,v = .ref t∧H t=none∧H'=upd H t (.tup [kV k,x])∧kvs[i]? = some (k,x),
   fun i H=>H a=some (.gw o (.dK kvs))∧kvs.length≤i⟩
theorem KV.get {κ:Type}:∀{kvs:List (κ×V)} {vs:List (κ×Value)},KV kvs vs→∀{i:Nat} {k:κ} {x:V},kvs[i]? = some (k,x)→∃u,vs[i]? = some (k,u)∧RelV x u
  | _,_,.nil,_,_,_,h=>by simp at h
  | _,_,.cons (b:=(_,u)) ⟨e,r⟩ _,0,_,_,h=>by
    simp only[List.getElem?_cons_zero,Option.some.injEq] at h;subst h;cases e;exact⟨u,rfl,r⟩
  | _,_,.cons _ t,i+1,_,_,h=>KV.get (κ:=κ) t (i:=i) (by simpa using h)
theorem KV.len {κ:Type}:∀{kvs:List (κ×V)} {vs:List (κ×Value)},KV kvs vs→vs.length=kvs.length
  | _,_,.nil=>rfl
  | _,_,.cons _ t=>congrArg (· + 1) (KV.len t)
theorem G7 {P:Program} {w:World} {k:Key} {u:Value} (h:(bF P w).is k u=true):RelV (kV k) u:=by
  rcases cX h with⟨i,t,rfl,rfl⟩ | ⟨x,t,rfl,rfl⟩
  ·exact⟨t,rfl⟩
  ·exact⟨t,rfl⟩
theorem Ow {P:Program} {w:World} {K:W.Frag} {es:List Expr} {k:Nat} {pos:Pos} {it a:Addr} {o:Obj} {kvs:List (Key×V)} {ep:Nat} {ds:Array _} (hep:o.data = .dict ds ep) :
    Turn P w K (.Tuple es k pos) (Itd a o kvs) [it] it (fun i h=>∃ok ov,IsItemIter h it a i kvs.length ep ok ov) where
  mem:=by simp
  obj:=fun i h st c hc=>by
    obtain⟨ok,ov,e⟩:=st;have e':c=it:=by simpa using hc
    subst e';exact⟨_,e,fun v z=>nomatch z⟩
  keep:=fun i h h' st kk=>by
    obtain⟨ok,ov,e⟩:=st;exact⟨ok,ov,kk it (by simp) _ e⟩
  item:=by
    intro X hP hw hK hc i p_ s σ H E I hf st hg;subst hP hw hK;obtain⟨hz,hi⟩:=hg;obtain⟨ok,ov,hit⟩:=st;obtain⟨hob,z,hd,vs,rel,o',es',ep',e',ex,dat,Ni,prs,Nj⟩:=I.hok _ _ hz;rw[hob] at e';cases e';rw[hep] at dat;cases dat;have hx:kvs[i]? = some kvs[i]:=List.getElem?_eq_getElem hi;obtain⟨u,hu,ru⟩:=rel.get (k:=kvs[i].1) (x:=kvs[i].2) hx;have dd:s.heap.DictAt (bF X.prog X.w) a vs ep:=⟨_,_,hob,ex,hep,Ni,prs,Nj⟩;have hl:=rel.len;rw[← hl] at hit;refine wpAny_pyNext_items_item hit dd hu fun key h' hkey out ht hsz kk=>?_;refine⟨_,rfl,wpAny_letOwnedTupleGo_items out fun h2 b1 sb=>?_⟩;have lt:s.heap.objs.size≠it:=Nat.ne_of_gt (Heap.lt_size hit);have hn:H s.heap.objs.size=none:=I.hok.fresh (Nat.le_refl _);have kk2:∀c o,c∉[it]→s.heap.get? c=some o→h2.get? c=some o:=fun c o hc z=>by
      have hc':c≠it:=by simpa using hc
      exact(sb.2 c hc').trans (kk c o hc' z)
    have I1:Inv X p_ σ H {s with heap:=h2,toks:=s.toks}:=I.uV kk2 hf;have CV:=sb.extBut _ _ lt ht;have I2:Inv X p_ σ (upd H s.heap.objs.size (.tup [kV kvs[i].1,kvs[i].2])) {s with heap:=h2,toks:=s.toks}:=I.QX I1 (G7 hkey) ru CV;refine⟨.ref s.heap.objs.size,_,I2,rfl,⟨s.heap.objs.size,_,_,rfl,hn,rfl,hx⟩,?_,fun c hcm=>?_⟩
    ·rw[hl] at b1;exact⟨_,_,b1⟩
    · have hne:c≠s.heap.objs.size:=by
        have e':c=it:=by simpa using hcm
        rw[e'];exact lt.symm
      rw[aC hne];exact(hf c hcm).1
  done:=by
    intro X hP hw hK hc i p_ s σ H E I hf st hg;subst hP hw hK;obtain⟨hz,hi⟩:=hg;obtain⟨ok,ov,hit⟩:=st;obtain⟨hob,z,hd,vs,rel,o',es',ep',e',ex,dat,Ni,prs,Nj⟩:=I.hok _ _ hz;rw[hob] at e';cases e';rw[hep] at dat;cases dat;have dd:s.heap.DictAt (bF X.prog X.w) a vs ep:=⟨_,_,hob,ex,hep,Ni,prs,Nj⟩;have hl:=rel.len;rw[← hl] at hit;refine wpAny_pyNext_items_end (I.ok.hd hc) hit dd (by simp;omega) fun h' kk=>⟨rfl,I.uV (t':=s.toks) (fun c o hcm z=>?_) hf⟩;exact kk c o (by simpa using hcm) z
  self:=fun A i s Q E st h=>by
    obtain⟨ok,ov,hit⟩:=st;exact W.kcp_self hit h
section
variable {X:Cx}
def qgg (td:TE):TI:=fun σ H R=>td σ H fun x H1=>∃a kvs,x = .ref a∧Rd H1 a (.dK kvs)∧∀o,(∀o' u,H1 a=some (.gw o' u)→o=o')→R (Itd a o kvs) (upd H1 a (.gw o (.dK kvs)))
theorem qaB {H:Hp} {a:Addr} {o:HO} (h:H a=some o):upd H a o=H:=by
  funext b
  by_cases e:b=a
  ·subst e;rw[ak,h]
  ·rw[aC e]
theorem Xv {es:List Expr} {k:Nat} {pos':Pos} {d:Expr} {td:TE} {apos cpos:Pos} (hd:PE X d td)
    (hbase:attributeBase d "items" X.env (eval d X.env)=eval d X.env:=by rfl) (hline:(apos.endLine == cpos.line)=true:=by rfl) :
    PI X (.Tuple es k pos') (.Call (.Attribute d "items" apos) [] [] cpos) (qgg td):=by
  intro p_ s σ H R I h;refine wpAny_Call_method0_late hbase hline (cY (hd p_ s σ H _ I h) fun v s1 zz=>?_);obtain⟨x,H1,I1,r1,a,kvs,ex,rd,q⟩:=zz;subst ex;obtain rfl:v=Value.ref a:=r1;obtain⟨t1,t2,t3⟩:=WK I1 (.inl ⟨kvs,rd⟩);refine⟨"dict", "dict.items",PySem.F.plainAttrs_dict,PySem.F.slot_dict_items,PySem.F.type_dict_items,t1,t2,Calls.callWith_builtin rfl (PySem.evalArgs_none ?_)⟩;obtain⟨z,hd',vs,rel,o,ds,ep,ho,ex,dat,Ni,prs,Nj⟩:=qx I1.hok rd;refine call_meetsIn PySem.F.slot_dict_items t1 PySem.F.entry_dict_items (PySem.F.args_dict_items_1 _) (meets_dict_items (bF X.prog X.w) a hd') ⟨⟨vs,o,ds,ep,ho,ex,dat,Ni,prs,Nj⟩,?_⟩;have I2:Inv X p_ σ (upd H1 a (.gw o (.dK kvs))) s1:=by
    rcases rd with e | ⟨o',e⟩
    ·exact I1.freeze e ho
    ·have ho':=(I1.hok _ _ e).1;rw[ho] at ho';cases ho';rw[qaB e];exact I1
  have hq:R (Itd a o kvs) (upd H1 a (.gw o (.dK kvs))):=q o fun o' u e=>by
    have ho':=(I1.hok _ _ e).1;rw[ho] at ho';cases ho';rfl
  have p1:=Heap.get?_push_of_some (h:=s1.heap) {cls:=.type "dict_items",data:=.fields #[.ref a]} ho;refine wpAny_pyIter_items (kvs:=vs) (knd:=bF X.prog X.w) (d:=a) (ep:=ep) ⟨_,Heap.get?_push_size _ rfl,rfl,rfl⟩ ⟨o,ds,p1,ex,dat,Ni,prs,Nj⟩ ?_;rw[rel.len];have hz:(s1.heap.push {cls:=.type "dict_items",data:=.fields #[.ref a]}).objs.size=s1.heap.objs.size+1:=Heap.size_push ..;have I3:=I2.kept (t':=s1.toks) (h':=(s1.heap.push {cls:=.type "dict_items",data:=.fields #[.ref a]}).push {cls:=.type "dict_itemiterator",data:=.fields #[.none,.bool false,.ref a,.int 0 0,.int kvs.length 0,.int ep 0,.none,.none]})
    fun b u e=>Heap.get?_push_of_some _ (Heap.get?_push_of_some _ e)
  refine⟨(s1.heap.push {cls:=.type "dict_items",data:=.fields #[.ref a]}).objs.size,[(s1.heap.push {cls:=.type "dict_items",data:=.fields #[.ref a]}).objs.size],_,_,_,rfl,I3,Ow (ep:=ep) (ds:=ds) dat,⟨.none,.none,Heap.get?_push_size _ rfl⟩,fun c hc=>?_,hq⟩;have hle:s1.heap.objs.size≤c:=by
    have e':=List.mem_singleton.mp hc;rw[e',hz];exact Nat.le_succ _
  exact I2.A_ hle (I2.hok.fresh hle)
end
def qbS (td:TE):TI:=fun σ H R=>td σ H fun x H1=>isRef x fun a=>∃kvs,Rd H1 a (.dK kvs)∧∀o,(∀o' u,H1 a=some (.gw o' u)→o=o')→R (Itd a o kvs) (upd H1 a (.gw o (.dK kvs)))
@[simp ↓] theorem qk0 td σ H R:qbS td σ H R=(td σ H fun x H1=>isRef x fun a=>∃kvs,Rd H1 a (.dK kvs)∧∀o,(∀o' u,H1 a=some (.gw o' u)→o=o')→R (Itd a o kvs) (upd H1 a (.gw o (.dK kvs)))):=rfl
theorem Xw (t:TE):qbS t=qgg t:=by
  funext σ H R
  refine congrArg (t σ H) (funext fun x=>funext fun H1=>propext ⟨fun h=>?_,fun⟨a,kvs,e,h1,h2⟩=>by subst e;exact⟨kvs,h1,h2⟩⟩);obtain⟨i,rfl,kvs,h1,h2⟩:=isRef.out h;exact⟨i,kvs,rfl,h1,h2⟩
section
variable {a:Addr} {o:Obj} {kvs:List (Key×V)} {g:TG} {tb:TS} {D:Ends} {d:Tj g tb D} {σ:St} {H:Hp}
theorem frD (Pv:Nat→St→Hp→Prop) (h0:Pv 0 σ H) (hl:∀i σ H,i≤kvs.length→Pv i σ H→H a=some (.gw o (.dK kvs)))
    (hs:∀i k x t σ H,kvs[i]? = some (k,x)→H t=none→Pv i σ H→g (.ref t) σ (upd H t (.tup [kV k,x])) fun σ2 H2=>tb {D with nx:=Pv (i+1),ct:=Pv (i+1),bk:=D.nx} σ2 H2) (hd:∀σ H,Pv kvs.length σ H→D.nx σ H):tFr (Itd a o kvs) g tb D d σ H:=by
  refine⟨fun i m σ H=>m=kvs.length - i∧i≤kvs.length∧Pv i σ H,⟨kvs.length,by simp,Nat.zero_le _,h0⟩,?_⟩;rintro i m σ H ⟨rfl,hi,p⟩;have q:=hl i σ H hi p
  by_cases hlt:i<kvs.length
  ·refine .inr ⟨⟨q,hlt⟩,Pv (i+1),fun σ' H' p'=>⟨kvs.length - (i+1),by omega,rfl,hlt,p'⟩,fun x H' y=>?_⟩;obtain⟨t,k,u,rfl,ht,rfl,e⟩:=y;exact hs i k u t σ H e ht p
  · have e:i=kvs.length:=by omega
    subst e;exact .inl ⟨⟨q,Nat.le_refl _⟩,hd σ H p⟩
end
section
variable {P:Program} {w:World} {H H':Hp} {h h':Heap}
theorem sY.fB (J:sY P w H' h'):sY P w (fB H H') h':=fun c v e=>by
  have st:b_ P w H' h' c v→b_ P w (L2.fB H H') h' c v:=fun x=>
    x.stay (fun _ _ _ q=>q) (fun b q=>fV q (fun _ _ z=>nomatch z)) fun b zs q=>fV q (fun _ _ z=>nomatch z)
  rcases Rk e with e | ⟨o,e⟩
  ·exact st (J _ _ e)
  ·obtain⟨_,x⟩:=J _ _ e;exact st x
theorem Un.fB {fs ex:List Addr} (u:Un fs ex H H' h h'):Un fs ex H (fB H H') h h':=
  ⟨u.keep,u.slot,fun c q h1 h2 h3=>nW (u.free c q h1 h2 h3),u.there,fun c zs e=>fV (u.tups c zs e) (fun _ _ z=>nomatch z),fun c q v e=>uq (u.oR c q v e) e,fun c qs e=>by
    obtain⟨m,e'⟩:=u.qm c qs e;exact⟨m,fV e' (fun _ _ z=>nomatch z)⟩⟩
def qdz (sp:Sp):Sp:=fun vs H Q E=>sp vs H (fun v H'=>Q v (fB H H')) fun C od H'=>E C od (fB H H')
theorem u0 {H H':Hp} (h:∀b u,H b=some u→H' b=some u∨((∀o v,u≠.gw o v)∧∃o,H' b=some (.gw o u))):Same H (fB H H'):=fun b u e=>by
  rcases h b u e with q | ⟨hu,o,q⟩
  · by_cases hx:∃o v,u = .gw o v
    ·obtain⟨o,v,rfl⟩:=hx;exact uq q e
    ·exact fV q fun o v z=>hx ⟨o,v,z⟩
  ·exact Ji q e hu
end
theorem Inv.qdA {X:Cx} {p_:List (Addr×Obj)} {σ:St} {H:Hp} {s:Shared} {a:Addr} {ob:HO} (I:Inv X p_ σ H s) (new:X.s₀.heap.objs.size≤a) (fp:vO X p_ H a) (ok:b_ X.prog X.w (upd H a ob) s.heap a ob):Inv X p_ σ (upd H a ob) s:=by
  obtain⟨un,f1,f2,f3,f4,f5⟩:=fp;have old:∀{b o},X.s₀.heap.get? b=some o→b≠a:=fun {b o} eb z=>by
    have:=Heap.lt_size eb;rw[z] at this;exact absurd (Nat.lt_of_lt_of_le this new) (Nat.lt_irrefl _)
  have ne:∀{b:Addr} {u:HO},H b=some u→b≠a:=fun {b u} q z=>by
    rw[z,un] at q;cases q
  refine⟨I.ok,I.os,I.bare,⟨fun b o eb n hb hx=>I.base.keep b o eb n hb hx,I.base.slot,fun b o eb n hx=>?_,I.base.there,fun b xs q=>?_,fun b o u q=>?_,fun b ps q=>?_⟩,I.loc,I.cell,?_,fun x c q=>?_,fun p hpp=>?_,fun b u q=>?_,I.len⟩
  ·rw[aC (old eb)];exact I.base.free b o eb n hx
  ·have z:=I.base.tups b xs q;rw[aC (ne z)];exact z
  ·have z:=I.base.oR b o u q;rw[aC (ne z)];exact z
  ·obtain⟨m,z⟩:=I.base.qm b ps q;exact⟨m,by rw[aC (ne z)];exact z⟩
  ·rw[aC f1.symm];exact I.free
  ·rw[aC (f4 x c q)];exact I.iT x c q
  ·obtain⟨g1,g2,g3⟩:=I.pin p hpp;refine⟨g1,?_,g3⟩;rw[aC (f5 p hpp)];exact g2
  · by_cases hb:b=a
    ·subst hb;rw[ak] at q;cases q;exact ok
    · rw[aC hb] at q;refine(I.hok b u q).stay (fun _ _ _ qq=>qq) (fun d qd=>?_) fun d zs qd=>?_
      ·rw[aC (ne qd)];exact qd
      ·rw[aC (ne qd)];exact qd
def arT (xs:List V) (R:V→V→V→Prop):Prop:=match xs with | [x,y,z]=>R x y z | _=>False
@[simp ↓] theorem qo7 x y z R:arT [x,y,z] R=R x y z:=rfl
section
variable {X:Cx} {C B:Addr} {o:Expr} {f:Str} {pos:Pos} {ta:TE}
theorem qaC {P:Program} {w:World} {H:Hp} {h:Heap} {x C:Addr} {od:Option Addr} (hok:∀b u,H b=some u→b_ P w H h b u) (e:H x=some (yh x C od)):wF x C od h:=(hok x _ e).1
def Xx (C:Addr) (ta:TE) (f:Str):TE:=fun σ H Q=>ta σ H fun x H1=>isRef x fun a=>∃dx fs,H1 a=some (yh a C (some dx))∧H1 dx=some (i_ dx fs)∧∃v,fs.lookup f=some v∧Q v H1
@[simp ↓] theorem qgh C ta f σ H Q:Xx C ta f σ H Q=ta σ H fun x H1=>isRef x fun a=>∃dx fs,H1 a=some (yh a C (some dx))∧H1 dx=some (i_ dx fs)∧∃v,fs.lookup f=some v∧Q v H1:=rfl
theorem Dz (G:Ou X.K C) (hn:W.findIn X.K (.ref C) f=some none) (he:PE X o ta) (hb:attributeBase o f X.env (eval o X.env)=eval o X.env):PE X (.Attribute o f pos) (Xx C ta f):=by
  intro p_ s σ H Q I h;refine QC hb (cY (he p_ s σ H _ I h) fun u s1 z1=>?_);obtain⟨x,H1,I1,rx,q⟩:=z1;obtain⟨a,rfl,dx,fs,ea,ed,v,hv,q⟩:=isRef.out q;obtain rfl:u=Value.ref a:=rx;obtain⟨hl0,mA,hns,hr,hw⟩:=Rg I1.hok ed;obtain⟨u',hu,ru⟩:=mQ.some_of (v:=v) (o:=mA f) (by rw[← hv];exact hr f);exact qdw I1.oO (qaC I1.hok ea) hns G hn hu (Gm ru) ⟨v,H1,I1.tok _,ru,q⟩
end
section
variable {M:Model} {A:Around} {E:Value→Shared→Prop} {h:Heap} {g:Array GenState} {d:Drawn} {t:Nat} {os:OsState}
variable {nm q:Str} {C N:Addr} {bs bm:List Value} {hdct:Bool} {sn:List Str} {sub:List Value} {ab:Bool} {col:Option Bool} {dd:Option Addr} {k0 k1 k2 k3 k5:Option Value} {newId:String}
variable {nm' q':Str} {D N':Addr} {bs' bm':List Value} {qgi:Bool} {sn':List Str} {sub':List Value} {ab':Bool} {col':Option Bool} {Wx:Option Addr} {j0 j1 j2 j3 j5:Option Value} {newId':String}
theorem lJ {e:Addr} {oe:Obj} {b:Bool} {Q:Bool→Shared→Prop} (hC:h.get? C=some (excClassObj nm q C N bs bm hdct sn sub ab col dd k0 k1 k2 k3 k5 newId))
    (hD:h.get? D=some (excClassObj nm' q' D N' bs' bm' qgi sn' sub' ab' col' Wx j0 j1 j2 j3 j5 newId')) (he:h.get? e=some oe) (hcls:oe.cls = .ref C) (hDB:(Value.ref D::bm').contains (.type "BaseException")=true) (hCD:(Value.ref C::bm).contains (.ref D)=b)
    (hq:Q b ⟨h,g,d,t,os⟩):wpAny M A (excMatches (.ref e) (.ref D)) Q E ⟨h,g,d,t,os⟩:=by
  have f:=tc_notTuple;unfold excMatches;cases b with
  | true=>
    repeat (first | (with_reducible refine wpAny_loadPart_at he ?_;rw[hcls]) | with_reducible refine wpAny_loadPart_at hD ?_ | (with_reducible refine wpAny_isSubtype_exc hD ?_;rw[hDB]) | (with_reducible refine wpAny_isSubtype_exc hC ?_;rw[hCD]) | wp_step)
    exact hq
  | false=>
    repeat (first | (with_reducible refine wpAny_loadPart_at he ?_;rw[hcls]) | with_reducible refine wpAny_loadPart_at hD ?_ | (with_reducible refine wpAny_isSubtype_exc hD ?_;rw[hDB]) | (with_reducible refine wpAny_isSubtype_exc hC ?_;rw[hCD]) | wp_step)
    exact hq
end
structure Clause (K:W.Frag) (D:Addr):Prop where
  ob:vR K D
  be:W.mroIn K D (.type "BaseException")=some true
theorem Clause.of {K:W.Frag} {C B f:Addr} (M:XMk K C B f) (c:XC K C B):Clause K C:=⟨vR.ofX M c,by rw[c.mro];simp⟩
def Xy (i:Nat) (ts:Addr→TS) (Dn:Ends) (σ1:St) (C:Addr) (od:Option Addr) (H1:Hp):Prop:=∀a,H1 a=none→
    ts a {nx:=fun σ2 H2=>Dn.nx (σ2.set i none) H2,rt:=Dn.rt,bk:=fun σ2 H2=>Dn.bk (σ2.set i none) H2,ct:=fun σ2 H2=>Dn.ct (σ2.set i none) H2} (σ1.set i (some (.ref a))) (upd H1 a (yh a C od))
def Le (i:Nat) (K:W.Frag) (D1 D2:Addr) (t1 t2:Addr→TS) (Dn:Ends):St→Addr→Option Addr→Hp→Prop:=fun σ1 C od H1=>vR K C∧
  ((W.mroIn K C (.ref D1)=some true∧Xy i t1 Dn σ1 C od H1)∨(W.mroIn K C (.ref D1)=some false∧W.mroIn K C (.ref D2)=some true∧Xy i t2 Dn σ1 C od H1))
def qbT (i:Nat) (K:W.Frag) (D1 D2:Addr) (t1 t2:Addr→TS) (tb:(St→Addr→Option Addr→Hp→Prop)→TS):TS:=fun Dn σ H=>tb (Le i K D1 D2 t1 t2 Dn) Dn σ H
@[simp ↓] theorem qk1 i K D1 D2 t1 t2 tb Dn σ H:qbT i K D1 D2 t1 t2 tb Dn σ H=tb (Le i K D1 D2 t1 t2 Dn) Dn σ H:=rfl
section
variable {X:Cx} {body su1 su2:List Stmt} {b1 b2:Stmt} {i:Nat} {n c1 c2:Str} {np1 np2 hp1 hp2 pos:Pos} {D1 D2:Addr} {t1 t2:Addr→TS} {tb:(St→Addr→Option Addr→Hp→Prop)→TS}
theorem qaD (hst:X.stack=X.env::X.outer) (hfr:X.env.frame=some X.env.locals) (hex:X.ex=[]) (hN:X.N.Nodup) (hi:X.N[i]? = some n) (hl:X.env.scope.names.lookup n=some .local)
    (hb:∀R pn xe,Takes X pn xe R→Bk (X.tried pn xe) body (tb R)) (hg1:Gl X c1) (hm1:X.mg c1=some (.ref D1)) (cl1:Clause X.K D1) (hg2:Gl X c2) (hm2:X.mg c2=some (.ref D2)) (cl2:Clause X.K D2)
    (hs1:∀a,Bk (X.caught a) (b1::su1) (t1 a)) (hs2:∀a,Bk (X.caught a) (b2::su2) (t2 a)) (Xz:(c1 == ("__debug__" : Str))=false:=by decide) (qdB:(c2 == ("__debug__" : Str))=false:=by decide) :
    PS X (.Try body [.ExceptHandler (some (.Name c1 np1)) (some n) (b1::su1) hp1,.ExceptHandler (some (.Name c2 np2)) (some n) (b2::su2) hp2] [] [] pos) (qbT i X.K D1 D2 t1 t2 tb):=by
  intro p_ s σ H Dn I h;have hiσ:∀{σ':St} {H':Hp} {s':Shared},Inv X p_ σ' H' s'→i<σ'.length:=fun J=>by rw[J.len];exact(List.getElem?_eq_some_iff.mp hi).1
  refine wpAny_Try_except (wpAny_mono (hb (Le i X.K D1 D2 t1 t2 Dn) (X.pn++p_) (fun e s1=>∃a C od T σ1 H1,e = .ref a∧Inv X p_ σ1 H1 s1∧T7 X.s₀.heap s1.heap H1 a C od T∧(∀p∈X.pn++p_,p.1≠a∧p.1≠T)∧Le i X.K D1 D2 t1 t2 Dn σ1 C od H1) ?_ [] s σ H Dn (I.tried _) h) (fun f s1 hf=>?_) fun e s1 hx=>?_)
  ·intro tO σ1 H1 s1 a C od T J ex hp hR;exact⟨a,C,od,T,σ1,H1,rfl,I.lW J,ex,hp,hR⟩
  · cases f with
    | next=>obtain⟨σ',H',J,q⟩:=hf;exact wpAny_execs_nil ⟨σ',H',I.lW J,q⟩
    | brk=>obtain⟨σ',H',J,q⟩:=hf;exact⟨σ',H',I.lW J,q⟩
    | cont=>obtain⟨σ',H',J,q⟩:=hf;exact⟨σ',H',I.lW J,q⟩
    | ret u=>obtain⟨v,σ',H',J,r,q⟩:=hf;exact⟨v,σ',H',I.lW J,r,q⟩
  · obtain⟨a,C,od,T,σ1,H1,rfl,J,ex,hp,clC,hR⟩:=hx;obtain⟨new,newT,un,unT,oe,vs,oT,tts,t1',t2',t3,t4,t5,t6,t7,t8,t9⟩:=ex;have fr:=J.ok.frames;rw[hst] at fr;have st0:(W.hideAll s1.heap (frs X.stack++[a,T])).StaysIn s1.heap:=fun b o e=>W.of_hideAll _ e;have na:(W.hideAll s1.heap (frs X.stack++[a,T])).get? a=none:=W.hideAll_none _ (by simp);have ff:s1.heap.FunFrames (W.hideAll s1.heap (frs X.stack++[a,T])) (X.env::X.outer):=by
      rw[← hst];exact W.funFrames_hide J.stack fun env he b hb=>List.mem_append_left _ (List.mem_filterMap.mpr ⟨env,he,hb⟩)
    have tr0:Trc (W.hideAll s1.heap (frs X.stack++[a,T])) s1.heap a (.ref C,od) .none T:=⟨oe,vs,oT,tts,t1',t2',t3,t4,t5,W.hideAll_none _ (by simp),t6,t7,t8,t9⟩;have gone:∀(h':Heap),(W.hideAll s1.heap (frs X.stack++[a,T])).StaysIn h'→s1.heap.UpToSlots h'→Inv X p_ σ1 H1 {s1 with heap:=h'}:=fun h' k1 k2=>by
      refine J.gone (t':=s1.toks) (ch:=[a,T]) hex (fun b hb=>?_) (fun b o hf hc e=>k1 b o (W.hideAll_get _ e (by rw[List.mem_append];exact fun z=>z.elim hf hc))) fun b o e hd=>k2 b o e hd;simp only[List.mem_cons,List.not_mem_nil,or_false] at hb
      rcases hb with rfl | rfl
      ·exact⟨new,un,fun _ _ _ _=>trivial,⟨oe,vs,t1',t3⟩,fun p q=>(hp p q).1⟩
      ·exact⟨newT,unT,fun _ _ _ _=>trivial,⟨oT,tts,t7,t8⟩,fun p q=>(hp p q).2⟩
    refine zM fr ff hfr tr0 st0 na fun h4 x4=>?_;obtain⟨T4,tr4⟩:=x4.trc;refine uo (s:={s1 with heap:=h4}) x4.frames tr4 x4.stays fun h5 x5=>?_;obtain⟨T5,tr5⟩:=x5.trc;have J5:=gone h5 x5.stays (x4.slots.trans x5.slots);obtain⟨oe5,vs5,oT5,ts5,u1,u2,u3,_⟩:=id tr5;obtain⟨bm,N,nm,q,bs,hdct,sn,sub,ab,col,dd,k0,k1,k2,k3,k5,hC,hmro⟩:=clC _ J5.oO;obtain⟨bm1,N1,nm1,q1,bs1,qgj,sn1,qmd,ab1,qme,dd1,j0,j1,j2,j3,j5,hD1,XD⟩:=cl1.ob _ J5.oO;obtain⟨bm2,N2,Jj,q2,bs2,qgk,sn2,qmf,ab2,qmg,dd2,i0,i1,i2,i3,i5,hD2,qdC⟩:=cl2.ob _ J5.oO;have run:∀{b₀:Stmt} {suite:List Stmt} {hpos:Pos} {ts:Addr→TS},(∀a,Bk (X.caught a) (b₀::suite) (ts a))→Xy i ts Dn σ1 C od H1→
        codeAny (model X.prog X.w) (X.A.mark (some (.ref a))) (.handlers (.ref a) [.ExceptHandler none (some n) (b₀::suite) hpos] X.env) (fun r s₂=>match r with
          | .ok f=>wpAny (model X.prog X.w) X.A (do bindName X.env n .none;unbindBehindTheSuite X.env n hpos) (fun _ s₃=>SP X p_ Dn f s₃) X.xe s₂
          | .error x=>cameBackBy (model X.prog X.w) X.A X.env X.xe x s₂) {s1 with heap:=h5}:=by
      intro b₀ suite hpos ts hsu hR;refine codeAny_handlers_suite_as ?_;refine uo (s:={s1 with heap:=h5}) x5.frames tr5 x5.stays fun h6 x6=>?_;have J6:=gone h6 x6.stays ((x4.slots.trans x5.slots).trans x6.slots);obtain⟨T6,oe6,vs6,oT6,ts6,v1,v2,v3,v4,_⟩:=x6.trc;have J7:=J6.track hex new un ⟨oe6,vs6,v1,v2,v3,v4⟩ fun p q=>(hp p q).1;refine uU J7 hN hi (.inl hl) (v:=.ref a) rfl (fun s8 J8 _=>?_) (.inr hl);refine wpAny_mono (hsu a p_ s8 _ _ _ (J8.caught a) (hR a un)) (fun f s9 hf=>?_) fun _ _ z=>False.elim z;show wpAny (model X.prog X.w) X.A (do bindName X.env n .none;unbindBehindTheSuite X.env n hpos) (fun _ s₃=>SP X p_ Dn f s₃) X.xe s9
      have go:∀{σ':St} {H':Hp} (Q':Shared→Prop),Inv X p_ σ' H' s9→(∀s',Inv X p_ (σ'.set i none) H' s'→Q' s')→wpAny (model X.prog X.w) X.A (do bindName X.env n .none;unbindBehindTheSuite X.env n hpos) (fun _ s₃=>Q' s₃) X.xe s9:=fun {σ' H'} Q' J9 hq=>by
        refine wpAny_bind ?_;unfold bindName;refine wpAny_bind (wpAny_holding (wpAny_point (wpAny_bind (uU J9 hN hi (.inl hl) (v:=.non) rfl (fun s10 J10 _=>wpAny_point ?_) (.inr hl)))));unfold unbindBehindTheSuite;refine wpAny_onRaise (T9 (v:=.non) J10 hN hi hl (List.getElem?_set_self (hiσ J9)) fun Vo J11=>?_);rw[List.set_set] at J11;exact hq Vo J11
      cases f with
      | next=>obtain⟨σ',H',J9,q⟩:=hf;exact go _ (I.uncaught J9) fun s' J'=>⟨_,H',J',q⟩
      | brk=>obtain⟨σ',H',J9,q⟩:=hf;exact go _ (I.uncaught J9) fun s' J'=>⟨_,H',J',q⟩
      | cont=>obtain⟨σ',H',J9,q⟩:=hf;exact go _ (I.uncaught J9) fun s' J'=>⟨_,H',J',q⟩
      | ret u=>obtain⟨v,σ',H',J9,r,q⟩:=hf;exact go _ (I.uncaught J9) fun s' J'=>⟨v,_,H',J',r,q⟩
    rcases hR with⟨hCD,hR⟩ | ⟨Nh,hCD,hR⟩
    ·refine wpAny_handleBy_cons (codeAny_handlers_test (jH (J5.caught a) hg1 hm1 ?_ Xz)) (by intro q;cases q);exact lJ hC hD1 u1 (congrArg Prod.fst u2) (XD _ _ cl1.be) (hmro _ _ hCD) (run hs1 hR)
    ·refine wpAny_handleBy_cons (codeAny_handlers_test (jH (J5.caught a) hg1 hm1 ?_ Xz)) (by intro q;cases q);refine lJ hC hD1 u1 (congrArg Prod.fst u2) (XD _ _ cl1.be) (hmro _ _ Nh) ?_;refine wpAny_handleBy_cons (codeAny_handlers_test (jH (J5.caught a) hg2 hm2 ?_ qdB)) (by intro q;cases q);exact lJ hC hD2 u1 (congrArg Prod.fst u2) (qdC _ _ cl2.be) (hmro _ _ hCD) (run hs2 hR)
end
def Itk (a:Addr) (o:Obj) (kvs:List (Key×V)):It:=
  ⟨fun i H=>H a=some (.gw o (.dK kvs))∧i<kvs.length,
   fun i H v H'=>∃k x,v=kV k∧H'=H∧kvs[i]? = some (k,x),
   fun i H=>H a=some (.gw o (.dK kvs))∧kvs.length≤i⟩
theorem Ua {P:Program} {w:World} {K:W.Frag} {tg:Expr} {it a:Addr} {o:Obj} {kvs:List (Key×V)} {ep:Nat} {ds:Array _} (hep:o.data = .dict ds ep) :
    Turn P w K tg (Itk a o kvs) [it] it (fun i h=>h.IsKeyIter it a i kvs.length ep) where
  mem:=by simp
  obj:=fun i h st c hc=>by
    have e':c=it:=by simpa using hc
    subst e';obtain⟨u,e,_,d⟩:=st;exact⟨_,e,fun v z=>by rw[d] at z;cases z⟩
  keep:=fun i h h' st kk=>st.at fun o e=>kk it (by simp) o e
  item:=by
    intro X hP hw hK hc i p_ s σ H E I hf st hg;subst hP hw hK;obtain⟨hz,hi⟩:=hg;obtain⟨hob,z,hd,vs,rel,o',es',ep',e',ex,dat,Ni,prs,Nj⟩:=I.hok _ _ hz;rw[hob] at e';cases e';rw[hep] at dat;cases dat;have hx:kvs[i]? = some kvs[i]:=List.getElem?_eq_getElem hi;obtain⟨u,hu,ru⟩:=rel.get (k:=kvs[i].1) (x:=kvs[i].2) hx;have dd:s.heap.DictAt (bF X.prog X.w) a vs ep:=⟨_,_,hob,ex,hep,Ni,prs,Nj⟩;have hl:=rel.len;rw[← hl] at st;obtain⟨f0,f1,f2,f3,f4,f5⟩:=hf it (by simp);refine wpAny_pyNext_dict_item st dd hu fun key h' hkey st' sb=>?_;have I1:Inv X p_ σ H {s with heap:=h'}:=I.turned (t':=s.toks) (fun b o hb e=>(sb.2 b hb).trans e) f0 f1 f3 f4 f5;refine⟨key,rfl,letGo_keyiter st' ⟨kV kvs[i].1,H,I1,G7 hkey,⟨_,_,rfl,rfl,hx⟩,?_,fun b hb=>?_⟩⟩
    ·rw[hl] at st';exact st'
    ·rw[List.mem_singleton] at hb;subst hb;exact f0
  done:=by
    intro X hP hw hK hc i p_ s σ H E I hf st hg;subst hP hw hK;obtain⟨hz,hi⟩:=hg;obtain⟨hob,z,hd,vs,rel,o',es',ep',e',ex,dat,Ni,prs,Nj⟩:=I.hok _ _ hz;rw[hob] at e';cases e';rw[hep] at dat;cases dat;have dd:s.heap.DictAt (bF X.prog X.w) a vs ep:=⟨_,_,hob,ex,hep,Ni,prs,Nj⟩;have hl:=rel.len;rw[← hl] at st;obtain⟨f0,f1,f2,f3,f4,f5⟩:=hf it (by simp);exact wpAny_pyNext_dict_end (I.ok.hd hc) st dd (by simp;omega) fun h' kk=>⟨rfl,I.turned (t':=s.toks) (fun b o hb e=>kk b o hb e) f0 f1 f3 f4 f5⟩
  self:=fun A i s Q E st h=>wpAny_pyIter_keyiter st h
section
variable {X:Cx}
def qbU (td:TE):TI:=fun σ H R=>td σ H fun x H1=>isRef x fun a=>∃kvs,Rd H1 a (.dK kvs)∧∀o,(∀o' u,H1 a=some (.gw o' u)→o=o')→R (Itk a o kvs) (upd H1 a (.gw o (.dK kvs)))
@[simp ↓] theorem qk2 td σ H R:qbU td σ H R=(td σ H fun x H1=>isRef x fun a=>∃kvs,Rd H1 a (.dK kvs)∧∀o,(∀o' u,H1 a=some (.gw o' u)→o=o')→R (Itk a o kvs) (upd H1 a (.gw o (.dK kvs)))):=rfl
theorem Bw {tg d:Expr} {td:TE} (hd:PE X d td):PI X tg d (qbU td):=by
  intro p_ s σ H R I h;refine cY (hd p_ s σ H _ I h) fun v s1 zz=>?_;obtain⟨x,H1,I1,r1,q1⟩:=zz;obtain⟨a,rfl,kvs,rd,q⟩:=isRef.out q1;obtain rfl:v=Value.ref a:=r1;obtain⟨z,hd',vs,rel,o,ds,ep,ho,ex,dat,Ni,prs,Nj⟩:=qx I1.hok rd;have I2:Inv X p_ σ (upd H1 a (.gw o (.dK kvs))) s1:=by
    rcases rd with e | ⟨o',e⟩
    ·exact I1.freeze e ho
    ·have ho':=(I1.hok _ _ e).1;rw[ho] at ho';cases ho';rw[Xr e];exact I1
  have hq:R (Itk a o kvs) (upd H1 a (.gw o (.dK kvs))):=q o fun o' u e=>by
    have ho':=(I1.hok _ _ e).1;rw[ho] at ho';cases ho';rfl
  refine wpAny_pyIter_dict (knd:=bF X.prog X.w) (kvs:=vs) (ep:=ep) hd' ⟨o,ds,ho,ex,dat,Ni,prs,Nj⟩ ?_;rw[rel.len];have I3:=I2.kept (t':=s1.toks) (h':=s1.heap.push {cls:=.type "dict_keyiterator",data:=.fields #[.ref a,.int 0 0,.int kvs.length 0,.int ep 0]}) fun b u e=>Heap.get?_push_of_some _ e;refine⟨s1.heap.objs.size,[s1.heap.objs.size],_,_,_,rfl,I3,Ua (ep:=ep) (ds:=ds) dat,⟨_,Heap.get?_push_size _ rfl,rfl,rfl⟩,fun c hc=>?_,hq⟩;have hle:s1.heap.objs.size≤c:=by
    have e':=List.mem_singleton.mp hc;rw[e'];exact Nat.le_refl _
  exact I2.A_ hle (I2.hok.fresh hle)
end
section
variable {a:Addr} {o:Obj} {kvs:List (Key×V)} {g:TG} {tb:TS} {D:Ends} {d:Tj g tb D} {σ:St} {H:Hp}
theorem frK (Pv:Nat→St→Hp→Prop) (h0:Pv 0 σ H) (hl:∀i σ H,i≤kvs.length→Pv i σ H→H a=some (.gw o (.dK kvs)))
    (hs:∀i k x σ H,kvs[i]? = some (k,x)→Pv i σ H→g (kV k) σ H fun σ2 H2=>tb {D with nx:=Pv (i+1),ct:=Pv (i+1),bk:=D.nx} σ2 H2) (hd:∀σ H,Pv kvs.length σ H→D.nx σ H):tFr (Itk a o kvs) g tb D d σ H:=by
  refine⟨fun i m σ H=>m=kvs.length - i∧i≤kvs.length∧Pv i σ H,⟨kvs.length,by simp,Nat.zero_le _,h0⟩,?_⟩;rintro i m σ H ⟨rfl,hi,p⟩;have q:=hl i σ H hi p
  by_cases hlt:i<kvs.length
  ·refine .inr ⟨⟨q,hlt⟩,Pv (i+1),fun σ' H' p'=>⟨kvs.length - (i+1),by omega,rfl,hlt,p'⟩,fun x H' y=>?_⟩;obtain⟨k,u,rfl,rfl,e⟩:=y;exact hs i k u σ _ e p
  · have e:i=kvs.length:=by omega
    subst e;exact .inl ⟨⟨q,Nat.le_refl _⟩,hd σ H p⟩
end
section
variable {own:List Str} {caps:List Nat} {g:TG} {tt:TT} {te:TE} {D a:Addr} {o:Obj} {kvs:List (Key×V)} {σ:St} {H:Hp} {Q:Hp→Prop}
theorem cmK {d:qac g tt te Q} (Pv:Nat→St→Hp→Prop) (h0:Pv 0 (stC own caps σ) H) (hl:∀i σ H,i≤kvs.length→Pv i σ H→H a=some (.gw o (.dK kvs)))
    (hs:∀i k x σ H,kvs[i]? = some (k,x)→Pv i σ H→Ad g tt te D (Pv (i+1)) (kV k) σ H) (hd:∀σ H,Pv kvs.length σ H→Q H):tCm own caps (Itk a o kvs) g tt te Q d D σ H:=by
  refine⟨fun i m σ H=>m=kvs.length - i∧i≤kvs.length∧Pv i σ H,⟨kvs.length,by simp,Nat.zero_le _,h0⟩,?_⟩;rintro i m σ H ⟨rfl,hi,p⟩;have q:=hl i σ H hi p
  by_cases hlt:i<kvs.length
  ·refine .inr ⟨⟨q,hlt⟩,Pv (i+1),fun σ' H' p'=>⟨kvs.length - (i+1),by omega,rfl,hlt,p'⟩,fun x H' y=>?_⟩;obtain⟨k,u,rfl,rfl,e⟩:=y;exact hs i k u σ _ e p
  · have e:i=kvs.length:=by omega
    subst e;exact .inl ⟨⟨q,Nat.le_refl _⟩,hd σ H p⟩
end
theorem cg.qgl {P:Program} {w:World} {K:W.Frag} {mg:Str→Option Value} {base:Heap} {k:Nat} {f:Addr} {fd:FuncData} {ps:List Str} {sp:Sp} (F:cg P w K mg base lC k f fd ps sp):cg P w K mg base lC k f fd ps (qdz sp):=
  ⟨fun vs H Q E h=>F.len vs H _ _ h,fun A outer s H args us vs Q E hr h0 hb hv h=>codeAny_mono (F.run A outer s H args us vs _ _ hr h0 hb hv h) fun r s' q=>by
    cases r with
    | ok fl=>cases fl with
      | ret u=>
        obtain⟨v,H',q1,q2,q3,q4,q5,q6⟩:=q;exact⟨v,_,q1,q2,q3.fB,q4.fB,q5,q6⟩
      | _=>exact q
    | error e=>exact q.elim⟩
theorem ints_of:∀{vs:List Value} {ns:List Int},vs.length=ns.length→(∀(j:Nat) v,vs[j]? = some v→∃i t,ns[j]? = some i∧v=Value.int i t)→IntsAre vs ns
  | [],[],_,_=>.nil
  | [],_::_,h,_=>by cases h
  | _::_,[],h,_=>by cases h
  | v::vs,n::ns,h,k=>by
    obtain⟨i,t,e1,rfl⟩:=k 0 v rfl;cases e1;exact .cons _ t (ints_of (by simpa using h) fun j u hu=>k (j+1) u (by simpa using hu))
section
variable {prog:Program} {w:World} {A:Around} {E:Value→Shared→Prop} {s:Shared}
theorem Lg {d:Addr} {kvs:List (Key×Value)} {ep:Nat} {ns:List Int} {Q:Value→Shared→Prop} (hd:(d == sysModules)=false) (hh:A.handled=none) (hD:s.heap.DictAt (bF prog w) d kvs ep) (hk:kvs.map (·.1)=ns.map Sum.inl) (h64:ns.length<64)
    (h:∀(h':Heap) (tk:Nat) (vs:List Value) (out:Array Value) (ns':List Int),(∀b o,s.heap.get? b=some o→h'.get? b=some o)→IntsAre out.toList ns'→ns'.Perm ns→ns'.Pairwise (·≤·)→
      Q (.ref h'.objs.size) {s with heap:=sortedHeap (h'.push (seqObj "list" vs.toArray 0)) h'.objs.size vs out,toks:=tk}) :
    wpAny (model prog w) A (call (.builtin "sorted") [.ref d]) Q E s:=by
  have hl:kvs.length=ns.length:=by
    have:=congrArg List.length hk;simpa using this
  have h16:ns.length≤sizeLine:=Nat.le_trans (Nat.le_of_lt h64) (by decide);refine Calls.call_function_entry kind_sorted plain_sorted entry_sorted (args_sorted1 (.ref d)) ?_;refine wpAny_bind (wpAny_pure (wpAny_bind (W.kdu_collect (A:=A.in1) (W.kdl_dict (ep:=ep) hd) hh hD (by rw[hl];exact h16) fun h' tk acc keep items=>?_)));have hI:IntsAre acc.toList ns:=by
    refine ints_of (by rw[Array.length_toList,items.1];exact hl) fun j v hv=>?_;obtain⟨k,x,e1,e2⟩:=items.2 j v (by simpa using hv);have e3:(kvs.map (·.1))[j]? = some k:=by rw[List.getElem?_map,e1];rfl
    rw[hk,List.getElem?_map] at e3;obtain⟨i,e4,rfl⟩:=Option.map_eq_some_iff.mp e3;rw[Nq] at e2
    rcases cX e2 with⟨i',t,e,ek⟩ | ⟨x,t,e,_⟩
    ·cases e;exact⟨i,t,e4,ek⟩
    ·cases e
  have hal:acc.toList.length=ns.length:=hI.length;refine wpAny_bind (wpAny_newList ?_ (by rw[hal];exact h16));have hoL:(h'.push (seqObj "list" acc.toList.toArray 0)).get? h'.objs.size=some (seqObj "list" acc.toList.toArray 0):=Heap.get?_push_size _ rfl;refine wpAny_bind (wpAny_holding (wpAny_call_entry slot_list_sort ⟨_,hoL,rfl⟩ entry_list_sort (list_sort_tree hoL hI (by rw[hal];exact h64) fun out ns' a1 a2 a3=>⟨.none,rfl,wpAny_pure ⟨.ref h'.objs.size,rfl,?_⟩⟩) (args_list_sort _)));exact h h' tk acc.toList out ns' keep a1 a2 a3
end
section
variable {X:Cx}
def XF:List V→Hp→VK→Prop:=fun xs H Q=>ar1 xs fun v=>isRef v fun a=>∃(fs:List (Int×V)),Rd H a (.dK (fs.map fun e=>((Sum.inl e.1:Key),e.2)))∧fs.length<64∧∀(p:Addr) (ns':List Int),H p=none→ns'.Perm (fs.map (·.1))→ns'.Pairwise (·≤·)→Q (.ref p) (upd H p (.lst (ns'.map V.int)))
@[simp ↓] theorem qgm xs H Q:XF xs H Q=(ar1 xs fun v=>isRef v fun a=>∃(fs:List (Int×V)),Rd H a (.dK (fs.map fun e=>((Sum.inl e.1:Key),e.2)))∧fs.length<64∧∀(p:Addr) (ns':List Int),H p=none→ns'.Perm (fs.map (·.1))→ns'.Pairwise (·≤·)→Q (.ref p) (upd H p (.lst (ns'.map V.int)))):=rfl
theorem qaE {ks:List (Key×V)} {vs:List (Key×Value)} (h:KV ks vs):vs.map (·.1)=ks.map (·.1):=by
  induction h with
  | nil=>rfl
  | cons r _ ih=>rw[List.map_cons,List.map_cons,ih,r.1]
theorem Ub {vs:List Value} {ns:List Int} (h:IntsAre vs ns):Vals (ns.map V.int) vs:=by
  induction h with
  | nil=>exact .nil
  | cons n t _ ih=>exact .cons ⟨t,rfl⟩ ih
theorem Ai (hx:X.calm=true):cF X (.builtin "sorted") XF:=by
  intro p_ s σ H xs us Q I r h;obtain⟨v,rfl,h⟩:=ar1.out h;obtain⟨a,rfl,fs,rd,h64,q⟩:=isRef.out h;obtain⟨u,rfl,ru⟩:=r.one;obtain rfl:u=Value.ref a:=ru;obtain⟨z,hd',vs,rel,o,ds,ep,ho,ex,dat,Ni,prs,Nj⟩:=qx I.hok rd;refine Lg (ns:=fs.map (·.1)) hd' (I.ok.hd hx) ⟨o,ds,ho,ex,dat,Ni,prs,Nj⟩ (by rw[qaE rel,List.map_map,List.map_map];rfl) (by rw[List.length_map];exact h64) fun h' tk ws out ns' keep a1 a2 a3=>?_;have I1:=I.kept (t':=tk) keep;have hn:H h'.objs.size=none:=I1.hok.fresh (Nat.le_refl _);have I2:=I1.kept (t':=tk) (h':=sortedHeap (h'.push (seqObj "list" ws.toArray 0)) h'.objs.size ws out) fun b u e=>by
    have hb:=Heap.lt_size e;rw[sortedHeap_old (Nat.ne_of_lt hb) (Nat.lt_of_lt_of_le hb (by rw[size_push'];exact Nat.le_succ _))];exact Heap.get?_push_of_some _ e
  obtain⟨e,he⟩:=sortedHeap_at (out:=out) (vs:=ws) (Heap.get?_push_size h' (o:=seqObj "list" ws.toArray 0) rfl);have hlen:ns'.length≤sizeLine:=by
    rw[a2.length_eq,List.length_map];exact Nat.le_trans (Nat.le_of_lt h64) (by decide)
  refine⟨.ref h'.objs.size,_,I2.qdA (ob:=.lst (ns'.map V.int)) I1.sz (I1.A_ (Nat.le_refl _) hn) ⟨by rw[List.length_map];exact hlen,out.toList,e,Ub a1,he⟩,rfl,q _ _ hn a2 a3⟩
end
def qmh:Key→PyData
  | .inl i=>.int i
  | .inr x=>.str x
section
variable {X:Cx}
theorem qaF {h:Heap} {a:Addr} {m m':Str→Option Value} (x:h.Ns a m) (y:h.Ns a m'):m=m':=by
  obtain⟨o,es,ep,h1,h2,_,h3⟩:=x;obtain⟨o',es',ep',g1,g2,_,g3⟩:=y;rw[h1] at g1;cases g1;rw[h2] at g2;cases g2
  funext n
  rw[← h3 n,g3 n]
end
end L2
namespace PySem
open Sem (wp)
theorem yj:typeLookup (.type "list") "keys" = pure none:=by rw[typeLookup_type,builtinLookup_eq_fast];kernel_rfl
theorem FP {prog:Program} {w:World} {A:Around} {E:Value→Shared→Prop} {s:Shared} {a:Addr} {o:Obj} {xs:Array Value} {k:Nat} {Q:Option Value→Shared→Prop}
    (hx:s.heap.get? a=some o) (hc:o.cls = .type "list") (hdat:o.data = .seq xs k) (hd:o.dict=none) (hA:A.handled=none)
    (h:∀h' tk,(∀b o,s.heap.get? b=some o→h'.get? b=some o)→Q none {s with heap:=h',toks:=tk}) :
    wpAny (model prog w) A (getAttr? (.ref a) "keys") Q E s:=by
  obtain⟨c,dct,dat,sl⟩:=o;simp only at hc hdat hd;subst hc hdat hd;obtain⟨hp,g,d,tk,os⟩:=s;have hT:∀tk',(⟨hp,g,d,tk',os⟩:Shared).TypeIs (.ref a) "list" :=fun _=>⟨_,hx,rfl⟩;have f1:=sub_AttributeError;have f3:=F.slot_list_getattribute.lookup;have f4:=F.slot_list_getattribute.bind (.ref a);have f5:=am_list_getattr_none;have hname:(["__module__", "__name__", "__qualname__", "__doc__", "__annotations__"]:List Str).contains "keys" = false:=by decide
  unfold getAttr? getAttrBy? getAttrBy
  repeat (any_goals (first | assumption | exact hT _ | ((with_reducible show wpAny _ _ (call (Value.builtin "list.__getattribute__") _ _) _ _ _);refine call_meets F.slot_list_getattribute (hT _) am_entry_list_getattribute (F.args_list_getattribute_2 _ _) (meets_getattribute_miss_list a xs k sl "keys" _ yj hname) ⟨hx,hA,fun h' tk' e hx'=>?_⟩) | wp_step))
  obtain⟨t',u',he⟩:=hx'.there;show wpAny _ _ (getattributeRaised _ _ _ _ _ _ _) _ _ _;unfold getattributeRaised
  repeat (any_goals (first | assumption | wp_step))
  exact h _ _ hx'.of.keeps
end PySem
namespace L2
open PySem PySem.Spec PyProof.Rows
section
variable {X:Cx} {K:W.Frag}
theorem Lh {α β:Type}:∀(ks:List α) (R:Nat→α→β→Prop),(∀j e,ks[j]? = some e→∃e',R j e e')→∃ks':List β,ks'.length=ks.length∧∀j e,ks[j]? = some e→∃e',ks'[j]? = some e'∧R j e e'
  | [],R,h=>⟨[],rfl,fun j e z=>by simp at z⟩
  | x::ks,R,h=>by
    obtain⟨y,hy⟩:=h 0 x rfl;obtain⟨ks',h1,h2⟩:=Lh ks (fun j=>R (j+1)) fun j e z=>h (j+1) e z;refine⟨y::ks',by simp[h1],fun j e z=>?_⟩
    match j with
    | 0=>cases z;exact⟨y,rfl,hy⟩
    | j+1=>exact h2 j e z
end
section
variable {P:Program} {w:World} {A:Around} {R:Result→Shared→Prop} {it l D:Addr}
def Fv {α:Type} (ks:List (Int×α)):List (Key×α):=ks.map fun e=>(Sum.inl e.1,e.2)
theorem qaG {α:Type} {ks:List (Int×α)} {x:Int} (h:(Fv ks).any (fun kv=>decide (kv.1=(Sum.inl x:Key)))=true):x∈ks.map (·.1):=by
  obtain⟨kv,h1,h2⟩:=List.any_eq_true.mp h;obtain⟨e,h3,rfl⟩:=List.mem_map.mp h1;have h4:=of_decide_eq_true h2;injection h4 with h4;exact List.mem_map.mpr ⟨e,h3,h4⟩
theorem qaH {its:List Value} {ks:List (Int×Value)} (hh:A.handled=none) (h2:D≠it) (h3:D≠l) (h4:l≠it) (hs:its.length≤sizeLine) (hk:its.length=ks.length) (hn:(ks.map (·.1)).Nodup) :
    ∀(k i:Nat) (s:Shared),its.length - i=k→i≤its.length→s.heap.IsListIter it l i→s.heap.IsList l its.toArray→s.heap.DictOf (bF P w) D (Fv (ks.take i))→
      (∀(j:Nat) (e:Int×Value),ks[j]? = some e→∃t u,its[j]? = some (.ref t)∧t≠D∧t≠it∧s.heap.IsTuple t #[.int e.1 u,e.2])→
      (∀h' tk,(∀c o,c≠D→c≠it→s.heap.get? c=some o→h'.get? c=some o)→h'.DictOf (bF P w) D (Fv ks)→R (.ok (.ret .none)) {s with heap:=h',toks:=tk})→
      codeAny (model P w) A (.builtin "dict.update.loop" ⟨[.ref D,.ref it,rawInt i,.none],[]⟩) R s:=by
  intro k
  induction k with
  | zero=>
    intro i s hk0 hi hE hl hD hT hR;obtain rfl:i=its.length:=by omega
    refine codeAny_builtin xV ?_;rw[Around.under_plainId nq _];show wpAny _ A.in1 (pyNext (.ref it) >>= _) _ _ s;refine wpAny_bind (wpAny_pyNext_list_end (A:=A.in1) hh hE hl (by simp) fun h' hm=>?_);refine wpAny_bind (wpAny_pure ?_);refine wpAny_pure (hR h' s.toks (fun c o c1 c2 z=>hm c o c2 z) ?_);rw[hk,List.take_length] at hD;exact hD.extBut hm h2
  | succ k ih=>
    intro i s hk0 hi hE hl hD hT hR;have hlt:i<its.length:=by omega
    have hlt2:i<ks.length:=by omega
    obtain⟨t,u,hit,htD,hti,htt⟩:=hT i ks[i] (List.getElem?_eq_getElem hlt2);refine codeAny_builtin xV ?_;rw[Around.under_plainId nq _];show wpAny _ A.in1 (pyNext (.ref it) >>= _) _ _ s;refine wpAny_bind (wpAny_pyNext_list_item hE hl (x:=.ref t) (by simpa using hit) fun h' hE' hsb'=>?_);have km:∀c o,c≠it→s.heap.get? c=some o→h'.get? c=some o:=fun c o c1 z=>(hsb'.2 c c1).trans z;obtain⟨ot,hot,hct,nt,hdt⟩:=id htt;have qgn:=km _ _ hti hot;have hT':(Shared.mk h' s.gens s.drawn s.toks s.os).TypeIs (.ref t) "tuple" :=⟨_,qgn,hct⟩;show wpAny _ A.in1 (holding _ _ >>= _) _ _ _;refine wpAny_bind (wpAny_holding ?_);refine wpAny_bind (wpAny_tryCatch ?_);unfold Builtin.Dict.pairItems;refine wpAny_bind (wpAny_typeOf hT' ?_);rw[if_pos (by decide)];refine wpAny_bind (wpAny_seqItems qgn hdt ?_);refine wpAny_pure ?_;show wpAny _ A.in1 (holding _ (dictSet D (.int ks[i].1 u) ks[i].2)) _ _ _;refine wpAny_holding ?_;have hD':h'.DictOf (bF P w) D (Fv (ks.take i)):=by
      obtain⟨o,es,ep,ho,r⟩:=hD;exact⟨o,es,ep,km D o h2 ho,r⟩
    refine wpAny_dictSet_pairs (knd:=bF P w) (k:=Sum.inl ks[i].1) (s:=Shared.mk h' s.gens s.drawn s.toks s.os) (z_ P w _ u) hD' (fun h2' hD2 hsb=>?_) (by rw[Fv,List.length_map,List.length_take];omega);have est:stored (Fv (ks.take i)) (Sum.inl ks[i].1) ks[i].2=Fv (ks.take (i+1)):=by
      unfold stored;rw[if_neg (fun z=>?_)]
      ·rw[List.take_succ_eq_append_getElem hlt2,Fv,Fv,List.map_append];rfl
      · have h5:=qaG z;rw[List.map_take] at h5;have h6:(ks.map (·.1))[i]? = some ks[i].1:=by rw[List.getElem?_map,List.getElem?_eq_getElem hlt2];rfl
        obtain⟨j,hj⟩:=List.getElem?_of_mem h5;rw[List.getElem?_take] at hj;split at hj
        ·rename_i hji;have hj1:=List.getElem?_eq_some_iff.mp hj;have hi1:=List.getElem?_eq_some_iff.mp h6;have:=(List.getElem?_inj hj1.1 hn).mp (hj.trans h6.symm);omega
        ·cases hj
    rw[est] at hD2;refine wpAny_pure ⟨plainId_quiet nq _,?_⟩;show codeAny _ A (.builtin "dict.update.loop" ⟨[.ref D,.ref it,rawInt ((i:Int)+1),.none],[]⟩) _ _;have ei:(i:Int)+1=((i+1:Nat):Int):=by omega
    rw[ei];have kk:∀c o,c≠D→c≠it→s.heap.get? c=some o→h2'.get? c=some o:=fun c o c1 c2 z=>(hsb.2 c c1).trans (km c o c2 z);refine ih (i+1) _ (by omega) hlt ?_ ?_ hD2 (fun j e he=>?_) fun h3' tk hm3 J3=>?_
    ·obtain⟨o,ho,hc,hd⟩:=hE';exact⟨o,(hsb.2 _ h2.symm).trans ho,hc,hd⟩
    ·obtain⟨o,ho,r⟩:=hl;exact⟨o,kk _ _ h3.symm h4 ho,r⟩
    ·obtain⟨t,u,q1,q2,q3,o,ho,r⟩:=hT j e he;exact⟨t,u,q1,q2,q3,o,kk _ _ q2 q3 ho,r⟩
    ·exact hR h3' tk (fun c o c1 c2 z=>hm3 c o c1 c2 (kk c o c1 c2 z)) J3
end
section
variable {P:Program} {w:World} {A:Around} {E:Value→Shared→Prop} {s:Shared} {l:Addr}
theorem qaI {its:List Value} {ks:List (Int×Value)} {Q:Value→Shared→Prop} (hh:A.handled=none) (hl:PlainL s.heap l its.toArray) (hs:its.length≤sizeLine) (hk:its.length=ks.length) (hn:(ks.map (·.1)).Nodup)
    (hT:∀(j:Nat) (e:Int×Value),ks[j]? = some e→∃t u,its[j]? = some (.ref t)∧s.heap.IsTuple t #[.int e.1 u,e.2])
    (h:∀h' tk,(∀c o,s.heap.get? c=some o→h'.get? c=some o)→h'.DictOf (bF P w) s.heap.objs.size (Fv ks)→Q (.ref s.heap.objs.size) {s with heap:=h',toks:=tk}) :
    wpAny (model P w) A (call (.type "dict") [.ref l]) Q E s:=by
  obtain⟨ol,nl,hol,hcl,hdl,hdat⟩:=id hl;refine callType_codes (Q₁:=fun obj s₁=>obj = .ref s.heap.objs.size∧s₁={s with heap:=s.heap.push {cls:=.type "dict",data:=.dict #[]}}) F.kt_called_dict (F.kt_typeCall_dict_1 _) F.entry_dict_init (kt_code_dict_new _ ⟨rfl,rfl⟩) ?_;rintro obj s₁ ⟨rfl,rfl⟩;have hnew:(s.heap.push {cls:=.type "dict",data:=.dict #[]}).DictOf (bF P w) s.heap.objs.size []:=Heap.DictOf.new s.heap;have kp:∀c o,s.heap.get? c=some o→(s.heap.push {cls:=.type "dict",data:=.dict #[]}).get? c=some o:=fun c o z=>Heap.get?_push_of_some _ z;have ne:∀{c o},s.heap.get? c=some o→s.heap.objs.size≠c:=fun z=>Nat.ne_of_gt (Heap.lt_size z);have hTy:(Shared.mk (s.heap.push {cls:=.type "dict",data:=.dict #[]}) s.gens s.drawn s.toks s.os).TypeIs (.ref l) "list" :=⟨_,kp _ _ hol,hcl⟩;refine⟨hnew.typeIs,F.args_dict_init_2 _ _,?_⟩;unfold Builtin.«dict.__init__»;refine wpAny_bind ?_;unfold Builtin.Dict.selfAndRest;refine wpAny_bind (wpAny_notOrdered_dict hnew.typeIs ?_);show wpAny _ _ (pure (s.heap.objs.size,[Value.ref l])) _ _ _;refine wpAny_pure ?_;show wpAny _ _ (Builtin.Dict.updateFrom "dict.__init__" s.heap.objs.size (.ref l) [] .none) _ _ _;unfold Builtin.Dict.updateFrom;refine wpAny_bind (wpAny_typeOf hTy ?_);rw[if_pos (by decide)];show wpAny (model P w) A.in1.in1 (getAttr? (.ref l) "keys" >>= _) _ _ _;refine wpAny_bind (FP (A:=A.in1.in1) (kp _ _ hol) hcl hdat hdl hh fun h1 tk1 k1=>?_);have hl1:h1.IsList l its.toArray:=⟨ol,k1 _ _ (kp _ _ hol),hcl,nl,hdat⟩;simp only[Option.isNone_none,if_true];refine wpAny_bind (wpAny_rule ?_);refine wpAny_bind (wpAny_pyIter_list (s:=Shared.mk h1 s.gens s.drawn tk1 s.os) hl1 ?_);refine wpAny_pure ⟨plainId_quiet nq _,?_⟩;have kp2:∀c o,s.heap.get? c=some o→(h1.push {cls:=.type "list_iterator",data:=.fields #[.ref l,.int 0 0]}).get? c=some o:=fun c o z=>Heap.get?_push_of_some _ (k1 _ _ (kp _ _ z));have hD1:(h1.push {cls:=.type "list_iterator",data:=.fields #[.ref l,.int 0 0]}).DictOf (bF P w) s.heap.objs.size []:=by
    obtain⟨o,es,ep,ho,r⟩:=hnew;exact⟨o,es,ep,Heap.get?_push_of_some _ (k1 _ o ho),r⟩
  have ltD:s.heap.objs.size<h1.objs.size:=by
    obtain⟨o,es,ep,ho,r⟩:=hnew;exact Heap.lt_size (k1 _ o ho)
  have Z6:∀{c o},s.heap.get? c=some o→c≠h1.objs.size:=fun z=>Nat.ne_of_lt (Nat.lt_trans (Heap.lt_size z) ltD);refine qaH (A:=A.in1) (l:=l) (it:=h1.objs.size) hh (Nat.ne_of_lt ltD) (ne hol) (Z6 hol) hs hk hn its.length 0 _ (by omega) (Nat.zero_le _) ⟨_,Heap.get?_push_size _ rfl,rfl,rfl⟩ ⟨ol,kp2 _ _ hol,hcl,nl,hdat⟩ (by simpa [Fv] using hD1) (fun j e he=>?_) fun h' tk hm hD=>⟨rfl,h h' tk (fun c o z=>hm c o (ne z).symm (Z6 z) (kp2 _ _ z)) hD⟩;obtain⟨t,u,q1,o,ho,r⟩:=hT j e he;exact⟨t,u,q1,(ne ho).symm,Z6 ho,o,kp2 _ _ ho,r⟩
end
section
variable {X:Cx} {K:W.Frag}
def Aj (H:Hp) (tv:List V) (ks:List (Int×V)):Prop:=tv.length=ks.length∧∀(i:Nat) (e:Int×V),ks[i]? = some e→∃t,tv[i]? = some (.ref t)∧H t=some (.tup [.int e.1,e.2])
theorem XH:∀{ks:List (Int×V)} {ks':List (Int×Value)},ks'.length=ks.length→(∀(j:Nat) e e',ks[j]? = some e→ks'[j]? = some e'→e'.1=e.1∧RelV e.2 e'.2)→KV (Fv ks) (Fv ks')
  | [],[],_,_=>.nil
  | [],_::_,h,_=>by simp at h
  | _::_,[],h,_=>by simp at h
  | e::ks,e'::ks',h,hr=>by
    obtain⟨h1,h2⟩:=hr 0 e e' rfl rfl;exact .cons ⟨congrArg Sum.inl h1.symm,h2⟩ (XH (by simpa using h) fun j x y p q=>hr (j+1) x y p q)
def rDI (K:W.Frag):List V→Hp→VK→Prop:=fun xs H Q=>∃l tv ks,xs=[.ref l]∧bw K H l tv∧Aj H tv ks∧(ks.map (·.1)).Nodup∧∀p,H p=none→Q (.ref p) (upd H p (.dK (Fv ks)))
theorem Ox (hK:X.K=K) (hc:X.calm=true):cF X (.type "dict") (rDI K):=by
  subst hK;intro p_ s σ H xs us Q I r h;obtain⟨l,tv,ks,rfl,hl,hp,hn,q⟩:=h;obtain⟨u,rfl,ru⟩:=r.one;obtain rfl:u=Value.ref l:=ru;obtain⟨its,rv,pl,hz⟩:=I.list hl;obtain⟨ks',hl',hr⟩:=Lh ks (fun j (e:Int×V) (e':Int×Value)=>e'.1=e.1∧RelV e.2 e'.2∧∃t u,its[j]? = some (.ref t)∧s.heap.IsTuple t #[.int e'.1 u,e'.2]) fun j e he=>by
    obtain⟨t,h1,h2⟩:=hp.2 j e he;obtain⟨v,e1,e2⟩:=Vals.get rv h1;obtain rfl:v=Value.ref t:=e2;obtain⟨ws,R_,pw,_⟩:=I.tuple (dW.of h2);obtain⟨a,b,rfl,ra,rb⟩:=vals2 R_;obtain⟨u,rfl⟩:=(show ∃u,a=Value.int e.1 u from ra);exact⟨(e.1,b),rfl,rb,t,u,e1,pw⟩
  have hlen:its.length=tv.length:=rv.length.symm;have hkey:ks'.map (·.1)=ks.map (·.1):=by
    refine List.ext_getElem? fun j=>?_;rw[List.getElem?_map,List.getElem?_map];cases e:ks[j]? with
    | none=>
      have:ks'[j]? = none:=by
        rw[List.getElem?_eq_none_iff] at e ⊢;omega
      rw[this];rfl
    | some x=>
      obtain⟨x',h1,h2,_⟩:=hr j x e;rw[h1];simp[h2]
  refine qaI (ks:=ks') (I.ok.hd hc) pl (by omega) (by have:=hp.1;omega) (by rw[hkey];exact hn) (fun j e he=>?_) fun h' tk kk hD=>?_
  · have hj:j<ks.length:=by
      have:=(List.getElem?_eq_some_iff.mp he).1;omega
    obtain⟨e',h1,_,_,t,u,h2,h3⟩:=hr j ks[j] (List.getElem?_eq_getElem hj);rw[he] at h1;cases h1;exact⟨t,u,h2,h3⟩
  · have hf:H s.heap.objs.size=none:=I.hok.fresh (Nat.le_refl _);refine⟨.ref s.heap.objs.size,_,I.laid (o:=.dK (Fv ks)) (t':=tk) kk (Nat.le_refl _) ?_,rfl,q _ hf⟩;refine(show b_ _ _ _ _ _ (.dK (Fv ks)) from⟨by have:=hp.1;rw[Fv,List.length_map];omega,?_,Fv ks',XH hl' fun j x y h1 h2=>?_,hD⟩)
    ·exact beq_eq_false_iff_ne.mpr (Nat.ne_of_gt I.big)
    ·obtain⟨x',h3,h4,h5,_⟩:=hr j x h1;rw[h2] at h3;cases h3;exact⟨h4,h5⟩
def fDI (K:W.Frag):List V→Hp→VK→Prop:=fun xs H Q=>ar1 xs fun x=>isRef x fun l=>∃tv,bw K H l tv∧∃ks,Aj H tv ks∧(ks.map (·.1)).Nodup∧∀p,H p=none→Q (.ref p) (upd H p (.dK (Fv ks)))
@[simp ↓] theorem qo8 (K:W.Frag) xs H Q:fDI K xs H Q=(ar1 xs fun x=>isRef x fun l=>∃tv,bw K H l tv∧∃ks,Aj H tv ks∧(ks.map (·.1)).Nodup∧∀p,H p=none→Q (.ref p) (upd H p (.dK (Fv ks)))):=rfl
theorem qgo {K:W.Frag} {xs H Q} (h:fDI K xs H Q):rDI K xs H Q:=by
  obtain⟨x,rfl,h⟩:=ar1.out h;obtain⟨l,rfl,h⟩:=isRef.out h;obtain⟨tv,h1,ks,h2⟩:=h;exact⟨l,tv,ks,rfl,h1,h2⟩
theorem qdD (hK:X.K=K) (hc:X.calm=true):cF X (.type "dict") (fDI K):=(Ox hK hc).mono qgo
end
def XJ (ts:Addr→TS) (Dn:Ends) (σ1:St) (C:Addr) (od:Option Addr) (H1:Hp):Prop:=∀a,H1 a=none→ts a Dn σ1 (upd H1 a (yh a C od))
def Li (K:W.Frag) (D1 D2:Addr) (t1 t2:Addr→TS) (Dn:Ends):St→Addr→Option Addr→Hp→Prop:=fun σ1 C od H1=>vR K C∧
  ((W.mroIn K C (.ref D1)=some true∧XJ t1 Dn σ1 C od H1)∨(W.mroIn K C (.ref D1)=some false∧W.mroIn K C (.ref D2)=some true∧XJ t2 Dn σ1 C od H1))
def qbV (K:W.Frag) (D1 D2:Addr) (t1 t2:Addr→TS) (tb:(St→Addr→Option Addr→Hp→Prop)→TS):TS:=fun Dn σ H=>tb (Li K D1 D2 t1 t2 Dn) Dn σ H
@[simp ↓] theorem qk3 K D1 D2 t1 t2 tb Dn σ H:qbV K D1 D2 t1 t2 tb Dn σ H=tb (Li K D1 D2 t1 t2 Dn) Dn σ H:=rfl
section
variable {X:Cx} {body su1 su2:List Stmt} {b1 b2:Stmt} {c1 c2:Str} {np1 np2 hp1 hp2 pos:Pos} {D1 D2:Addr} {t1 t2:Addr→TS} {tb:(St→Addr→Option Addr→Hp→Prop)→TS}
theorem qaJ (hst:X.stack=X.env::X.outer) (hfr:X.env.frame=some X.env.locals) (hex:X.ex=[])
    (hb:∀R pn xe,Takes X pn xe R→Bk (X.tried pn xe) body (tb R)) (hg1:Gl X c1) (hm1:X.mg c1=some (.ref D1)) (cl1:Clause X.K D1) (hg2:Gl X c2) (hm2:X.mg c2=some (.ref D2)) (cl2:Clause X.K D2)
    (hs1:∀a,Bk (X.caught a) (b1::su1) (t1 a)) (hs2:∀a,Bk (X.caught a) (b2::su2) (t2 a)) (Xz:(c1 == ("__debug__" : Str))=false:=by decide) (qdB:(c2 == ("__debug__" : Str))=false:=by decide) :
    PS X (.Try body [.ExceptHandler (some (.Name c1 np1)) none (b1::su1) hp1,.ExceptHandler (some (.Name c2 np2)) none (b2::su2) hp2] [] [] pos) (qbV X.K D1 D2 t1 t2 tb):=by
  intro p_ s σ H Dn I h;refine wpAny_Try_except (wpAny_mono (hb (Li X.K D1 D2 t1 t2 Dn) (X.pn++p_) (fun e s1=>∃a C od T σ1 H1,e = .ref a∧Inv X p_ σ1 H1 s1∧T7 X.s₀.heap s1.heap H1 a C od T∧(∀p∈X.pn++p_,p.1≠a∧p.1≠T)∧Li X.K D1 D2 t1 t2 Dn σ1 C od H1) ?_ [] s σ H Dn (I.tried _) h) (fun f s1 hf=>?_) fun e s1 hx=>?_)
  ·intro tO σ1 H1 s1 a C od T J ex hp hR;exact⟨a,C,od,T,σ1,H1,rfl,I.lW J,ex,hp,hR⟩
  · cases f with
    | next=>obtain⟨σ',H',J,q⟩:=hf;exact wpAny_execs_nil ⟨σ',H',I.lW J,q⟩
    | brk=>obtain⟨σ',H',J,q⟩:=hf;exact⟨σ',H',I.lW J,q⟩
    | cont=>obtain⟨σ',H',J,q⟩:=hf;exact⟨σ',H',I.lW J,q⟩
    | ret u=>obtain⟨v,σ',H',J,r,q⟩:=hf;exact⟨v,σ',H',I.lW J,r,q⟩
  · obtain⟨a,C,od,T,σ1,H1,rfl,J,ex,hp,clC,hR⟩:=hx;obtain⟨new,newT,un,unT,oe,vs,oT,tts,t1',t2',t3,t4,t5,t6,t7,t8,t9⟩:=ex;have fr:=J.ok.frames;rw[hst] at fr;have st0:(W.hideAll s1.heap (frs X.stack++[a,T])).StaysIn s1.heap:=fun b o e=>W.of_hideAll _ e;have na:(W.hideAll s1.heap (frs X.stack++[a,T])).get? a=none:=W.hideAll_none _ (by simp);have ff:s1.heap.FunFrames (W.hideAll s1.heap (frs X.stack++[a,T])) (X.env::X.outer):=by
      rw[← hst];exact W.funFrames_hide J.stack fun env he b hb=>List.mem_append_left _ (List.mem_filterMap.mpr ⟨env,he,hb⟩)
    have tr0:Trc (W.hideAll s1.heap (frs X.stack++[a,T])) s1.heap a (.ref C,od) .none T:=⟨oe,vs,oT,tts,t1',t2',t3,t4,t5,W.hideAll_none _ (by simp),t6,t7,t8,t9⟩;have gone:∀(h':Heap),(W.hideAll s1.heap (frs X.stack++[a,T])).StaysIn h'→s1.heap.UpToSlots h'→Inv X p_ σ1 H1 {s1 with heap:=h'}:=fun h' k1 k2=>by
      refine J.gone (t':=s1.toks) (ch:=[a,T]) hex (fun b hb=>?_) (fun b o hf hc e=>k1 b o (W.hideAll_get _ e (by rw[List.mem_append];exact fun z=>z.elim hf hc))) fun b o e hd=>k2 b o e hd;simp only[List.mem_cons,List.not_mem_nil,or_false] at hb
      rcases hb with rfl | rfl
      ·exact⟨new,un,fun _ _ _ _=>trivial,⟨oe,vs,t1',t3⟩,fun p q=>(hp p q).1⟩
      ·exact⟨newT,unT,fun _ _ _ _=>trivial,⟨oT,tts,t7,t8⟩,fun p q=>(hp p q).2⟩
    refine zM fr ff hfr tr0 st0 na fun h4 x4=>?_;obtain⟨T4,tr4⟩:=x4.trc;refine uo (s:={s1 with heap:=h4}) x4.frames tr4 x4.stays fun h5 x5=>?_;obtain⟨T5,tr5⟩:=x5.trc;have J5:=gone h5 x5.stays (x4.slots.trans x5.slots);obtain⟨oe5,vs5,oT5,ts5,u1,u2,u3,_⟩:=id tr5;obtain⟨bm,N,nm,q,bs,hdct,sn,sub,ab,col,dd,k0,k1,k2,k3,k5,hC,hmro⟩:=clC _ J5.oO;obtain⟨bm1,N1,nm1,q1,bs1,qgj,sn1,qmd,ab1,qme,dd1,j0,j1,j2,j3,j5,hD1,XD⟩:=cl1.ob _ J5.oO;obtain⟨bm2,N2,Jj,q2,bs2,qgk,sn2,qmf,ab2,qmg,dd2,i0,i1,i2,i3,i5,hD2,qdC⟩:=cl2.ob _ J5.oO;have run:∀{b₀:Stmt} {suite:List Stmt} {hpos:Pos} {ts:Addr→TS},(∀a,Bk (X.caught a) (b₀::suite) (ts a))→XJ ts Dn σ1 C od H1→
        codeAny (model X.prog X.w) (X.A.mark (some (.ref a))) (.handlers (.ref a) [.ExceptHandler none none (b₀::suite) hpos] X.env) (fun r s₂=>match r with
          | .ok f=>SP X p_ Dn f s₂
          | .error x=>cameBackBy (model X.prog X.w) X.A X.env X.xe x s₂) {s1 with heap:=h5}:=by
      intro b₀ suite hpos ts hsu hR;refine codeAny_handlers_suite ?_;refine uo (s:={s1 with heap:=h5}) x5.frames tr5 x5.stays fun h6 x6=>?_;have J6:=gone h6 x6.stays ((x4.slots.trans x5.slots).trans x6.slots);obtain⟨T6,oe6,vs6,oT6,ts6,v1,v2,v3,v4,_⟩:=x6.trc;have J7:=J6.track hex new un ⟨oe6,vs6,v1,v2,v3,v4⟩ fun p q=>(hp p q).1;refine wpAny_mono (hsu a p_ _ _ _ _ (J7.caught a) (hR a un)) (fun f s9 hf=>?_) fun _ _ z=>False.elim z;cases f with
      | next=>obtain⟨σ',H',J9,q⟩:=hf;exact⟨_,H',I.uncaught J9,q⟩
      | brk=>obtain⟨σ',H',J9,q⟩:=hf;exact⟨_,H',I.uncaught J9,q⟩
      | cont=>obtain⟨σ',H',J9,q⟩:=hf;exact⟨_,H',I.uncaught J9,q⟩
      | ret u=>obtain⟨v,σ',H',J9,r,q⟩:=hf;exact⟨v,_,H',I.uncaught J9,r,q⟩
    rcases hR with⟨hCD,hR⟩ | ⟨Nh,hCD,hR⟩
    ·refine wpAny_handleBy_cons (codeAny_handlers_test (jH (J5.caught a) hg1 hm1 ?_ Xz)) (by intro q;cases q);exact lJ hC hD1 u1 (congrArg Prod.fst u2) (XD _ _ cl1.be) (hmro _ _ hCD) (run hs1 hR)
    ·refine wpAny_handleBy_cons (codeAny_handlers_test (jH (J5.caught a) hg1 hm1 ?_ Xz)) (by intro q;cases q);refine lJ hC hD1 u1 (congrArg Prod.fst u2) (XD _ _ cl1.be) (hmro _ _ Nh) ?_;refine wpAny_handleBy_cons (codeAny_handlers_test (jH (J5.caught a) hg2 hm2 ?_ qdB)) (by intro q;cases q);exact lJ hC hD2 u1 (congrArg Prod.fst u2) (qdC _ _ cl2.be) (hmro _ _ hCD) (run hs2 hR)
end
section
variable {X:Cx}
def qgp (t:TS):TS:=fun D σ H=>t ⟨fun σ' H'=>D.nx σ' (fB H H'),fun v H'=>D.rt v (fB H H'),fun σ' H'=>D.bk σ' (fB H H'),fun σ' H'=>D.ct σ' (fB H H')⟩ σ H
@[simp ↓] theorem qmi (t:TS) (D:Ends) σ H:qgp t D σ H=t ⟨fun σ' H'=>D.nx σ' (fB H H'),fun v H'=>D.rt v (fB H H'),fun σ' H'=>D.bk σ' (fB H H'),fun σ' H'=>D.ct σ' (fB H H')⟩ σ H:=rfl
theorem Bx {st:Stmt} {t:TS} (h:PS X st t):PS X st (qgp t):=by
  intro p_ s σ H D I q;refine cY (h p_ s σ H _ I q) fun f s' z=>?_;unfold SP at z ⊢;cases f with
  | next=>obtain⟨σ',H',J,r⟩:=z;exact⟨σ',_,I.fB J,r⟩
  | brk=>obtain⟨σ',H',J,r⟩:=z;exact⟨σ',_,I.fB J,r⟩
  | cont=>obtain⟨σ',H',J,r⟩:=z;exact⟨σ',_,I.fB J,r⟩
  | ret u=>obtain⟨v,σ',H',J,rv,r⟩:=z;exact⟨v,σ',_,I.fB J,rv,r⟩
def qbW:V→List V→Hp→VK→Prop:=fun x vs H Q=>isRef x fun a=>Vn vs (∃kvs:List (Key×V),H a=some (.dK kvs)∧kvs.length≤sizeLine∧Q .non (upd H a (.dK [])))
@[simp ↓] theorem qaK x vs H Q:qbW x vs H Q=(isRef x fun a=>Vn vs (∃kvs:List (Key×V),H a=some (.dK kvs)∧kvs.length≤sizeLine∧Q .non (upd H a (.dK [])))):=rfl
theorem DG:Nb X "dict.clear" qbW:=by
  intro p_ s σ H x xs v us Q I rx rs h;rw[qaK] at h;obtain⟨a,e1,h1⟩:=isRef.out (x:=x) h;obtain⟨rfl,kvs,ha,hl,q⟩:=Vn.out h1;subst e1;cases rx;cases rs;obtain⟨z,hd,vs,rel,o,ds,ep,ho,ex,dat,Ni,prs,Nj⟩:=QT I.hok ha;obtain⟨m,F⟩:=I.fr;have aL:a≠X.env.locals:=fun w=>by
    have:=I.free;rw[← w,ha] at this;cases this
  have ab:X.base.get? a=none:=by
    cases hq:X.base.get? a with
    | none=>rfl
    | some u=>
      have:=(I.bs a u hq).2;rw[ha] at this;cases this
  refine call_clear_madeIn (enc:=qmh) (own:=[]) (rest:=rest X.base s.heap X.env.locals a) F (news_at aL ab ho) (by simp) (fun p hp=>Zx p hp) ⟨ds,ep,ex,dat,Ni,prs,Nj⟩ (fun h' o' F' N' hI _=>?_) (by rw[rel.len];exact hl);have ho':h'.get? a=some o':=(N' (a,o') List.mem_cons_self).1;have kn:=Hw (d:=a) I.bk F' fun p hp=>N' p (List.mem_cons_of_mem _ hp);have neT:∀{c:Addr} {w:HO},H c=some w→c≠X.env.locals:=fun e z=>by
    have:=I.free;rw[← z,e] at this;cases this
  refine⟨.non,upd H a (.dK []),?_,rfl,q⟩;refine I.step (ch:=[]) (t':=s.toks) (by simp) (fun c w c1 _ _ e hH=>?_) (fun c w c1 _ _ e hH=>?_) (fun c w _ e hH=>?_) (fun c w _ e=>?_) (fun c ys e=>?_) (fun c w y e=>?_) (fun c ps e=>?_) (fun m' hm'=>?_) (fun c w e=>?_) I.bare
  ·exact kn c w c1 (fun z=>by rw[z,ha] at hH;cases hH) e
  ·exact⟨w.slots,kn c w c1 (fun z=>by rw[z,ha] at hH;cases hH) e⟩
  ·rw[aC (fun z=>by rw[z,ha] at hH;cases hH)];exact hH
  · by_cases z1:c=X.env.locals
    ·obtain⟨w',_,_,g,_⟩:=F'.ns;exact⟨w',by rw[z1];exact g⟩
    · by_cases z2:c=a
      ·exact⟨o',by rw[z2];exact ho'⟩
      ·exact⟨w,kn c w z1 z2 e⟩
  ·rw[aC (fun z=>by rw[z,ha] at e;cases e)];exact e
  ·rw[aC (fun z=>by rw[z,ha] at e;cases e)];exact e
  ·exact⟨#[],by rw[aC (fun z=>by rw[z,ha] at e;cases e),e];simp⟩
  ·rw[qaF hm' F.ns];exact F'.ns
  · by_cases z:c=a
    ·subst z;rw[ak] at e;cases e;obtain⟨es',ep',x1,x2,x3,x4,x5⟩:=hI;exact⟨by simp,hd,[],.nil,o',es',ep',ho',x1,x2,x3,x4,x5⟩
    · rw[aC z] at e;refine(I.hok c w e).stay (fun b' u hb' q'=>kn b' u ?_ ?_ q') (fun b' q'=>?_) (fun b' ys q'=>?_)
      · rcases hb' with rfl | hb'
        ·exact neT e
        ·exact neT hb'
      · rcases hb' with rfl | hb'
        ·exact z
        ·intro w';rw[w',ha] at hb';cases hb'
      ·rw[aC (fun z=>by rw[z,ha] at q';cases q')];exact q'
      ·rw[aC (fun z=>by rw[z,ha] at q';cases q')];exact q'
def qgq (K:W.Frag):R2:=fun x y H Q=>isRef x fun a=>isRef y fun b=>∃Vp XM:List (Key×V),Rd H a (.dK Vp)∧Rd H b (.dK XM)∧Vp.length=XM.length∧(∀p∈Vp,∃u,jZ XM p.1=some u∧∃d,Is K H d p.2∧Is K H d u∧d.canLay0=true∧d.depth≤60∧PyData.eqv d d=true)∧Q (.bl true) H
@[simp ↓] theorem qdE (K:W.Frag) x y H Q:qgq K x y H Q=(isRef x fun a=>isRef y fun b=>∃Vp XM:List (Key×V),Rd H a (.dK Vp)∧Rd H b (.dK XM)∧Vp.length=XM.length∧(∀p∈Vp,∃u,jZ XM p.1=some u∧∃d,Is K H d p.2∧Is K H d u∧d.canLay0=true∧d.depth≤60∧PyData.eqv d d=true)∧Q (.bl true) H):=rfl
theorem Rm {p_:List (Addr×Obj)} {σ:St} {H:Hp} {s:Shared} (I:Inv X p_ σ H s) (hu:X.A.in1.units+60<cLine) {XM:List (Key×V)} {vb:List (Key×Value)} (rb:KV XM vb):∀{Vp:List (Key×V)} {va:List (Key×Value)},KV Vp va→(∀p∈Vp,∃u,jZ XM p.1=some u∧∃d,Is X.K H d p.2∧Is X.K H d u∧d.canLay0=true∧d.depth≤60∧PyData.eqv d d=true)→W.KeqHits X.A.in1 s vb va true
  | [],va,ra,_=>by cases ra;exact .nil
  | p::Vp,va,ra,h=>by
    cases ra with
    | @cons _ q _ qs r rs=>
      obtain⟨k,v⟩:=q;obtain⟨r1,r2⟩:=r;simp only at r1 r2;obtain⟨u,hv,d,i1,i2,lay,dp,ee⟩:=h p List.mem_cons_self;obtain⟨y,hy,ry⟩:=mQ.some_of (v:=u) (o:=valueAt vb p.1) (by rw[← hv];exact rb.val p.1);rw[r1] at hy;obtain⟨as,g1⟩:=Is.reads I d p.2 v i1 r2;obtain⟨bs,g2⟩:=Is.reads I d u y i2 ry;have e:=SeqAt.eqAt_reads d d X.A.in1 s v y as bs g1 g2 lay lay (by rw[Nat.min_self];omega);rw[ee] at e;exact W.KeqHits.hit hy e (Rm I hu rb rs fun p hp=>h p (List.mem_cons_of_mem _ hp))
theorem qdF {K:W.Frag} (hK:X.K=K) (hu:X.A.units+64<cLine):jj X (compareOp .Eq) (qgq K):=by
  subst hK;intro p_ s σ H x y v u Q I rx ry h;rw[qdE] at h;obtain⟨a,e1,h1⟩:=isRef.out (x:=x) h;obtain⟨b,e2,Vp,XM,r1,r2,hl,hh,q⟩:=isRef.out (x:=y) h1;subst e1 e2;cases rx;cases ry;obtain⟨_,la,va,ra,da⟩:=qx I.hok r1;obtain⟨_,lb,vb,rb,db⟩:=qx I.hok r2;have hi:X.A.in1.units≤X.A.units+1:=by first | exact Nat.le_refl _ | exact Nat.le_succ _
  refine W.keq_eq la lb da db (Nat.lt_of_le_of_lt (Nat.le_add_right _ _) hu) (fun _=>Rm I (by omega) rb ra hh) ?_;have:va.length=vb.length:=by rw[ra.len,rb.len,hl]
  rw[this,beq_self_eq_true,Bool.true_and];exact⟨.bl _,H,I,rfl,q⟩
end
end L2
namespace L2
open PySem
section
variable {α:Type} {R und:α→α→Prop} {u v:α}
def Both (R:α→α→Prop) (u v:α) (x y:α):Prop:=R x y∨(x=u∧y=v)∨(x=v∧y=u)
def zN (R:α→α→Prop) (u v:α) (x y:α):Prop:=R x y∨(x=u∧y=v)
theorem Uc {y:α} (h:RT (Both R u v) u y):RT R u y∨RT R v y:=by
  induction h with
  | refl=>exact .inl (.refl _)
  | tail _ st ih=>
    rcases st with st | ⟨_,rfl⟩ | ⟨_,rfl⟩
    ·exact ih.imp (fun h=>.tail h st) fun h=>.tail h st
    ·exact .inr (.refl _)
    ·exact .inl (.refl _)
theorem qaL {x z:α} (h:RT (Both R u v) x z):RT R x z∨RT R x u∨RT R x v:=by
  induction h with
  | refl=>exact .inl (.refl _)
  | tail _ st ih=>
    rcases ih with ih | ih
    · rcases st with st | ⟨rfl,_⟩ | ⟨rfl,_⟩
      ·exact .inl (.tail ih st)
      ·exact .inr (.inl ih)
      ·exact .inr (.inr ih)
    ·exact .inr ih
theorem qaM (qdG:∀x y,und x y→R x y∨R y x) (back:∀w,RT (Both R u v) u w→RT (Both R u v) w u) (to:∀x y,RT (Both R u v) u x→und x y→RT (Both R u v) u y) (con:RT und u v):RT R u v∨RT R v u:=by
  apply Classical.byContradiction;intro hno;have h1:¬RT R u v:=fun h=>hno (.inl h);have h2:¬RT R v u:=fun h=>hno (.inr h);have lift:∀{a b:α},RT R a b→RT (Both R u v) a b:=fun h=>by
    induction h with
    | refl=>exact .refl _
    | tail _ st ih=>exact .tail ih (.inl st)
  have dis:∀w,RT R u w→RT R v w→False:=fun w ha hb=>by
    rcases qaL (back w (lift ha)) with h | h | h
    ·exact h2 (hb.trans h)
    ·exact h2 (hb.trans h)
    ·exact h1 (ha.trans h)
  have all:∀y,RT und u y→RT R u y:=fun y hy=>by
    induction hy with
    | refl=>exact .refl _
    | tail _ st ih=>
      rcases qdG _ _ st with r | r
      ·exact .tail ih r
      · rcases Uc (to _ _ (lift ih) st) with h | h
        ·exact h
        ·exact(dis _ ih (.tail h r)).elim
  exact h1 (all v con)
theorem G8 (h:RT R v u) {x y:α} (hb:RT (Both R u v) x y):RT (zN R u v) x y:=by
  have lift:∀{a b:α},RT R a b→RT (zN R u v) a b:=fun h=>by
    induction h with
    | refl=>exact .refl _
    | tail _ st ih=>exact .tail ih (.inl st)
  induction hb with
  | refl=>exact .refl _
  | tail _ st ih=>
    rcases st with st | ⟨rfl,rfl⟩ | ⟨rfl,rfl⟩
    ·exact .tail ih (.inl st)
    ·exact .tail ih (.inr ⟨rfl,rfl⟩)
    ·exact ih.trans (lift h)
theorem Ud (qdG:∀x y,und x y→R x y∨R y x) (back:∀w,RT (Both R u v) u w→RT (Both R u v) w u) (to:∀x y,RT (Both R u v) u x→und x y→RT (Both R u v) u y) (con:RT und u v) :
    (∀x y,RT (Both R u v) x y→RT (zN R u v) x y)∨∀x y,RT (Both R u v) x y→RT (zN R v u) x y:=by
  rcases qaM qdG back to con with h | h
  · refine .inr fun x y hb=>G8 h ?_;have sw:∀{a b:α},RT (Both R u v) a b→RT (Both R v u) a b:=fun h=>by
      induction h with
      | refl=>exact .refl _
      | tail _ st ih=>exact .tail ih (st.imp_right Or.symm)
    exact sw hb
  ·exact .inl fun x y hb=>G8 h hb
end
def Rn (fx:Nat→Option Int) (k:Nat) (d:Int):Nat→Option Int:=fun j=>if j=k then some d else fx j
theorem cZ {fx:Nat→Option Int} {ps:List (Str×Str)} {n:Nat} {a b:Str}:(n,a,b)∈aD fx ps 0↔∃e,ps[n]? = some e∧(((fx n).getD 0=0∧a=e.1∧b=e.2)∨((fx n).getD 1=1∧a=e.2∧b=e.1)):=by
  rw[jV];constructor
  ·rintro⟨j,e,h1,h2⟩;obtain⟨h3,h4⟩:=lH.mp h2;rw[Nat.zero_add] at h3 h4;simp only at h3 h4;subst h3;exact⟨e,h1,h4⟩
  ·rintro⟨e,h1,h2⟩;exact⟨n,e,h1,lH.mpr ⟨by simp,by rw[Nat.zero_add];exact h2⟩⟩
theorem Lj {fx:Nat→Option Int} {ps:List (Str×Str)} {k:Nat} {u v:Str} {xs:List Str} (hfree:fx k=none) (hk:ps[k]? = some (u,v)) (hf:∀j d,fx j=some d→d=0∨d=1)
    (strong:∀x∈xs,∀y∈xs,RT (fC (aD fx ps 0)) x y) (hps:∀e∈ps,e.1∈xs∧e.2∈xs) (con:RT (iW (fun j=>j≠k) ps) u v) :
    (∀x∈xs,∀y∈xs,RT (fC (aD (Rn fx k 0) ps 0)) x y)∨∀x∈xs,∀y∈xs,RT (fC (aD (Rn fx k 1) ps 0)) x y:=by
  have mono:∀{A B:Str→Str→Prop},(∀a b,A a b→B a b)→∀{a b:Str},RT A a b→RT B a b:=by
    intro A B f a b h
    induction h with
    | refl=>exact .refl _
    | tail _ st ih=>exact .tail ih (f _ _ st)
  let R:Str→Str→Prop:=fun x y=>∃n,n≠k∧(n,x,y)∈aD fx ps 0
  have toB:∀a b,fC (aD fx ps 0) a b→Both R u v a b:=fun a b ⟨n,hn⟩=>by
    by_cases e:n=k
    · subst e;obtain⟨e,h1,h2⟩:=cZ.mp hn;rw[hk] at h1;cases h1
      rcases h2 with⟨_,h2⟩ | ⟨_,h2⟩
      ·exact .inr (.inl h2)
      ·exact .inr (.inr h2)
    ·exact .inl ⟨n,e,hn⟩
  have ofB:∀a b,Both R u v a b→fC (aD fx ps 0) a b:=fun a b h=>by
    rcases h with⟨n,_,hn⟩ | ⟨rfl,rfl⟩ | ⟨rfl,rfl⟩
    ·exact⟨n,hn⟩
    ·exact⟨k,cZ.mpr ⟨_,hk,.inl ⟨by rw[hfree];rfl,rfl,rfl⟩⟩⟩
    ·exact⟨k,cZ.mpr ⟨_,hk,.inr ⟨by rw[hfree];rfl,rfl,rfl⟩⟩⟩
  have keep:∀(d:Int) (a b:Str),R a b→fC (aD (Rn fx k d) ps 0) a b:=fun d a b ⟨n,hn,h⟩=>by
    refine⟨n,cZ.mpr ?_⟩;unfold Rn;rw[if_neg hn];exact cZ.mp h
  have o0:∀a b,zN R u v a b→fC (aD (Rn fx k 0) ps 0) a b:=fun a b h=>by
    rcases h with h | ⟨rfl,rfl⟩
    ·exact keep 0 a b h
    ·exact⟨k,cZ.mpr ⟨_,hk,.inl ⟨by unfold Rn;rw[if_pos rfl];rfl,rfl,rfl⟩⟩⟩
  have o1:∀a b,zN R v u a b→fC (aD (Rn fx k 1) ps 0) a b:=fun a b h=>by
    rcases h with h | ⟨rfl,rfl⟩
    ·exact keep 1 a b h
    ·exact⟨k,cZ.mpr ⟨_,hk,.inr ⟨by unfold Rn;rw[if_pos rfl];rfl,rfl,rfl⟩⟩⟩
  have ux:u∈xs:=(hps _ (List.mem_of_getElem? hk)).1;have inx:∀w,RT (Both R u v) u w→w∈xs:=fun w h=>by
    induction h with
    | refl=>exact ux
    | tail _ st _=>
      obtain⟨n,hn⟩:=ofB _ _ st;obtain⟨e,h1,h2⟩:=cZ.mp hn;have:=hps e (List.mem_of_getElem? h1)
      rcases h2 with⟨_,_,rfl⟩ | ⟨_,_,rfl⟩
      ·exact this.2
      ·exact this.1
  have jin:∀x y,iW (fun j=>j≠k) ps x y→y∈xs∧(R x y∨R y x):=fun x y h=>by
    obtain⟨j,hj,h⟩:=h;have dir:(fx j).getD 0=0∨(fx j).getD 1=1:=by
      cases hj:fx j with
      | none=>exact .inl rfl
      | some d=>exact hf j d hj
    rcases h with h | h
    ·refine⟨(hps _ (List.mem_of_getElem? h)).2,dir.imp (fun z=>⟨j,hj,cZ.mpr ⟨_,h,.inl ⟨z,rfl,rfl⟩⟩⟩) fun z=>⟨j,hj,cZ.mpr ⟨_,h,.inr ⟨z,rfl,rfl⟩⟩⟩⟩
    ·refine⟨(hps _ (List.mem_of_getElem? h)).1,(dir.imp (fun z=>⟨j,hj,cZ.mpr ⟨_,h,.inl ⟨z,rfl,rfl⟩⟩⟩) fun z=>⟨j,hj,cZ.mpr ⟨_,h,.inr ⟨z,rfl,rfl⟩⟩⟩).symm⟩
  rcases Ud (R:=R) (und:=iW (fun j=>j≠k) ps) (u:=u) (v:=v) (fun x y h=>(jin x y h).2) (fun w h=>mono toB (strong w (inx w h) u ux)) (fun x y _ h=>mono toB (strong u ux y (jin x y h).1)) con with h | h
  ·exact .inl fun x hx y hy=>mono o0 (h x y (mono toB (strong x hx y hy)))
  ·exact .inr fun x hx y hy=>mono o1 (h x y (mono toB (strong x hx y hy)))
end L2
local macro_rules | `(tactic| left) => `(tactic| simp -dsimp [L2.au,L2.stC,-Bool.exists_bool,-Prod.forall,-Prod.exists])
local macro_rules | `(tactic| right) => `(tactic| simp -dsimp [L2.au,L2.stC,-Bool.exists_bool])
namespace K42
open PySem L2
def top (i:Nat):Stmt:=PySem.Challenge.pw_pointways_k42_whole_forced_ties.main.body.getD i (.Pass ⟨0,0,0,0⟩)
abbrev dw:Stmt:=top 1
abbrev d9:Stmt:=top 2
abbrev cU:Stmt:=top 3
abbrev pP:Stmt:=top 4
abbrev fW:Stmt:=inClass (top 9) 0
abbrev dz:Stmt:=inClass (top 10) 0
abbrev jo:Stmt:=top 16
abbrev gW:Stmt:=top 17
abbrev iG:Stmt:=top 18
abbrev dB:Stmt:=top 19
abbrev jE:Stmt:=top 20
abbrev gA:Stmt:=top 21
abbrev gB:Stmt:=inClass (top 22) 0
abbrev eE:Stmt:=inClass (top 22) 1
abbrev gY:Stmt:=inClass (top 22) 2
abbrev gZ:Stmt:=inClass (top 22) 3
abbrev fX:Stmt:=top 23
abbrev jq:Stmt:=top 25
abbrev bH:Stmt:=top 27
abbrev cJ:Stmt:=top 29
abbrev cL:Stmt:=top 30
abbrev dD:Stmt:=top 31
abbrev bQ:Stmt:=top 32
abbrev eV:Stmt:=top 33
abbrev cG:Stmt:=top 34
abbrev kh:Stmt:=top 35
abbrev yp:Stmt:=top 37
abbrev rA:Stmt:=top 38
abbrev lX:Stmt:=top 39
abbrev nA:Stmt:=top 40
abbrev yq:Stmt:=top 41
abbrev tD:Stmt:=top 42
abbrev jr:Stmt:=top 43
abbrev eX:Stmt:=top 44
abbrev jc:Stmt:=top 45
abbrev gC:Stmt:=top 46
abbrev g8:Stmt:=top 47
abbrev nC:Stmt:=top 48
abbrev lY:Stmt:=top 49
abbrev kj:Stmt:=top 50
abbrev iH:Stmt:=top 51
abbrev rB:Stmt:=top 52
abbrev rC:Stmt:=top 53
abbrev cM:Stmt:=top 54
abbrev rD:Stmt:=top 55
abbrev cH:Stmt:=top 56
abbrev jL:Stmt:=top 57
abbrev ur:Stmt:=top 58
theorem jd:aX ["web", "fixed", "steps", "number", "first", "second"] ["web", "fixed"] (ao dw):=⟨rfl,rfl,rfl,by decide+kernel,rfl,by decide+kernel,by decide+kernel⟩
theorem dF:aX ["start", "steps", "ways", "row", "at", "here", "number", "origin", "goal"] ["start", "steps"] (ao d9):=⟨rfl,rfl,rfl,by decide+kernel,rfl,by decide+kernel,by decide+kernel⟩
theorem uw:aX ["web", "start", "steps", "ways"] ["web", "start", "steps"] (ao cU):=⟨rfl,rfl,rfl,by decide+kernel,rfl,by decide+kernel,by decide+kernel⟩
theorem rE:aX ["web", "steps", "told", "number", "first", "second", "lot"] ["web"] (ao pP):=⟨rfl,rfl,rfl,by decide+kernel,rfl,by decide+kernel,by decide+kernel⟩
theorem Jk:aX ["self", "lot"] ["self", "lot"] (ao fW):=⟨rfl,rfl,rfl,by decide+kernel,rfl,by decide+kernel,by decide+kernel⟩
theorem DK:aX ["self", "tie", "lot"] ["self", "tie", "lot"] (ao dz):=⟨rfl,rfl,rfl,by decide+kernel,rfl,by decide+kernel,by decide+kernel⟩
theorem Oz:aX ["thing"] ["thing"] (ao jo):=⟨rfl,rfl,rfl,by decide+kernel,rfl,by decide+kernel,by decide+kernel⟩
theorem Lk:aX ["thing"] ["thing"] (ao gW):=⟨rfl,rfl,rfl,by decide+kernel,rfl,by decide+kernel,by decide+kernel⟩
theorem OD:aX ["thing"] ["thing"] (ao iG):=⟨rfl,rfl,rfl,by decide+kernel,rfl,by decide+kernel,by decide+kernel⟩
theorem FQ:aX ["thing"] ["thing"] (ao dB):=⟨rfl,rfl,rfl,by decide+kernel,rfl,by decide+kernel,by decide+kernel⟩
theorem Ue:aX ["thing", "points"] ["thing", "points"] (ao jE):=⟨rfl,rfl,rfl,by decide+kernel,rfl,by decide+kernel,by decide+kernel⟩
theorem Ln:aX ["thing", "points"] ["thing", "points"] (ao gA):=⟨rfl,rfl,rfl,by decide+kernel,rfl,by decide+kernel,by decide+kernel⟩
theorem Lq:aX ["self", "points", "ties"] ["self", "points", "ties"] (ao gB):=⟨rfl,rfl,rfl,by decide+kernel,rfl,by decide+kernel,by decide+kernel⟩
theorem FT:aX ["self"] ["self"] (ao eE):=⟨rfl,rfl,rfl,by decide+kernel,rfl,by decide+kernel,by decide+kernel⟩
theorem Lr:aX ["self"] ["self"] (ao gY):=⟨rfl,rfl,rfl,by decide+kernel,rfl,by decide+kernel,by decide+kernel⟩
theorem Ls:aX ["self"] ["self"] (ao gZ):=⟨rfl,rfl,rfl,by decide+kernel,rfl,by decide+kernel,by decide+kernel⟩
theorem Jl:aX ["web", "thing"] ["web", "thing"] (ao fX):=⟨rfl,rfl,rfl,by decide+kernel,rfl,by decide+kernel,by decide+kernel⟩
theorem OJ:aX ["thing"] ["thing"] (ao jq):=⟨rfl,rfl,rfl,by decide+kernel,rfl,by decide+kernel,by decide+kernel⟩
theorem fM:aX ["web", "steps", "points", "point", "found"] ["web", "steps"] (ao bH):=⟨rfl,rfl,rfl,by decide+kernel,rfl,by decide+kernel,by decide+kernel⟩
theorem lK:aX ["web", "thing", "number", "lead"] ["web", "thing"] (ao cJ):=⟨rfl,rfl,rfl,by decide+kernel,rfl,by decide+kernel,by decide+kernel⟩
theorem qz:aX ["fixed", "number", "lead", "more"] ["fixed", "number", "lead"] (ao cL):=⟨rfl,rfl,rfl,by decide+kernel,rfl,by decide+kernel,by decide+kernel⟩
theorem DN:aX ["web", "fixed"] ["web", "fixed"] (ao dD):=⟨rfl,rfl,rfl,by decide+kernel,rfl,by decide+kernel,by decide+kernel⟩
theorem dg:aX ["web", "fixed", "lot", "barring", "number", "side"] ["web", "fixed"] (ao bQ):=⟨rfl,rfl,rfl,by decide+kernel,rfl,by decide+kernel,by decide+kernel⟩
theorem Jm:aX ["web", "fixed"] ["web", "fixed"] (ao eV):=⟨rfl,rfl,rfl,by decide+kernel,rfl,by decide+kernel,by decide+kernel⟩
theorem mX:aX ["web", "fixed", "kept", "number"] ["web", "fixed"] (ao cG):=⟨rfl,rfl,rfl,by decide+kernel,rfl,by decide+kernel,by decide+kernel⟩
theorem qC:aX ["web", "fixed", "told", "number", "lead", "lot"] ["web", "fixed"] (ao kh):=⟨rfl,rfl,rfl,by decide+kernel,rfl,by decide+kernel,by decide+kernel⟩
theorem XQ:aX ["_law_script", "_law_k", "_law_cell"] ["_law_script", "_law_k"] (ao yp):=⟨rfl,rfl,rfl,by decide+kernel,rfl,by decide+kernel,by decide+kernel⟩
theorem Ro:aX ["_law_pot_here", "_law_many", "_law_digit"] ["_law_pot_here", "_law_many"] (ao rA):=⟨rfl,rfl,rfl,by decide+kernel,rfl,by decide+kernel,by decide+kernel⟩
theorem qD:aX ["_law_pot_here", "_law_many", "_law_letters", "_law_begin", "_law_found", "_law_k", "_law_more"] ["_law_pot_here", "_law_many"] (ao lX):=⟨rfl,rfl,rfl,by decide+kernel,rfl,by decide+kernel,by decide+kernel⟩
theorem DP:aX ["_law_pot_here", "_law_things", "_law_found", "_law_thing"] ["_law_pot_here", "_law_things"] (ao nA):=⟨rfl,rfl,rfl,by decide+kernel,rfl,by decide+kernel,by decide+kernel⟩
theorem O1:aX ["_law_pot_here", "_law_names_here", "_law_a", "_law_b"] ["_law_pot_here", "_law_names_here"] (ao yq):=⟨rfl,rfl,rfl,by decide+kernel,rfl,by decide+kernel,by decide+kernel⟩
theorem rF:aX ["_law_pot_here", "_law_points", "_law_most", "_law_names_here", "_law_kind", "_law_ties", "_law_row", "_law_k", "_law_turns"] ["_law_pot_here", "_law_points", "_law_most"] (ao tD):=⟨rfl,rfl,rfl,by decide+kernel,rfl,by decide+kernel,by decide+kernel⟩
theorem lM:aX ["_law_web_here", "_law_pointing", "_law_start", "_law_found", "_law_here", "_law_a", "_law_b", "_law_turn"] ["_law_web_here", "_law_pointing", "_law_start"] (ao jr):=⟨rfl,rfl,rfl,by decide+kernel,rfl,by decide+kernel,by decide+kernel⟩
theorem rG:aX ["_law_web_here", "_law_pointing", "_law_there", "_law_back"] ["_law_web_here", "_law_pointing"] (ao eX):=⟨rfl,rfl,rfl,by decide+kernel,rfl,by decide+kernel,by decide+kernel⟩
theorem Ug:aX ["_law_web_here", "_law_lot"] ["_law_web_here", "_law_lot"] (ao jc):=⟨rfl,rfl,rfl,by decide+kernel,rfl,by decide+kernel,by decide+kernel⟩
theorem Lw:aX ["_law_web_here", "_law_lot"] ["_law_web_here", "_law_lot"] (ao gC):=⟨rfl,rfl,rfl,by decide+kernel,rfl,by decide+kernel,by decide+kernel⟩
theorem Lx:aX ["_law_web_here", "_law_lot", "_law_k", "_law_turn"] ["_law_web_here", "_law_lot", "_law_k", "_law_turn"] (ao g8):=⟨rfl,rfl,rfl,by decide+kernel,rfl,by decide+kernel,by decide+kernel⟩
theorem yr:aX ["_law_pot_here", "_law_web_here", "_law_often", "_law_found", "_law_k"] ["_law_pot_here", "_law_web_here"] (ao nC):=⟨rfl,rfl,rfl,by decide+kernel,rfl,by decide+kernel,by decide+kernel⟩
theorem XR:aX ["_law_web_here", "_law_fixed_here"] ["_law_web_here", "_law_fixed_here"] (ao lY):=⟨rfl,rfl,rfl,by decide+kernel,rfl,by decide+kernel,by decide+kernel⟩
theorem u5:aX ["_law_web_here", "_law_k", "_law_a", "_law_b", "_law_rest"] ["_law_web_here", "_law_k"] (ao kj):=⟨rfl,rfl,rfl,by decide+kernel,rfl,by decide+kernel,by decide+kernel⟩
theorem O2:aX ["_law_web_here", "_law_state_here", "_law_lot"] ["_law_web_here", "_law_state_here", "_law_lot"] (ao iH):=⟨rfl,rfl,rfl,by decide+kernel,rfl,by decide+kernel,by decide+kernel⟩
theorem u6:aX ["_law_made", "_law_fixed_here", "_law_handed", "_law_found", "e"] ["_law_made", "_law_fixed_here"] (ao rB):=⟨rfl,rfl,rfl,by decide+kernel,rfl,by decide+kernel,by decide+kernel⟩
theorem BJ:aX ["_law_made", "_law_fixed_here", "_law_word_here"] ["_law_made", "_law_fixed_here"] (ao rC):=⟨rfl,rfl,rfl,by decide+kernel,rfl,by decide+kernel,by decide+kernel⟩
theorem lN:aX ["_law_web_here", "_law_state_here", "_law_word_here", "_law_told", "_law_k", "_law_lot"] ["_law_web_here", "_law_state_here", "_law_word_here", "_law_told"] (ao cM):=⟨rfl,rfl,rfl,by decide+kernel,rfl,by decide+kernel,by decide+kernel⟩
theorem yt:aX ["_law_web_here", "_law_state_here", "_law_found", "_law_k", "_law_turn", "_law_other"] ["_law_web_here", "_law_state_here"] (ao rD):=⟨rfl,rfl,rfl,by decide+kernel,rfl,by decide+kernel,by decide+kernel⟩
theorem kE:aX ["_law_web_here", "_law_state_here", "_law_k", "_law_turn", "_law_entry", "_law_told", "_law_lot", "_law_others"] ["_law_web_here", "_law_state_here", "_law_k", "_law_turn", "_law_entry"] (ao cH):=⟨rfl,rfl,rfl,by decide+kernel,rfl,by decide+kernel,by decide+kernel⟩
theorem oE:aX ["_law_made", "_law_web_here", "_law_fixed_here", "_law_word_here", "_law_told", "_law_state_here", "_law_due", "_law_kept", "_law_k"] ["_law_made", "_law_web_here", "_law_fixed_here"] (ao jL):=⟨rfl,rfl,rfl,by decide+kernel,rfl,by decide+kernel,by decide+kernel⟩
theorem pQ:aX ["_law_script", "_law_k", "_law_pot_here", "_law_web_here", "_law_fixed_here", "_law_names_here", "_law_ring", "_law_some", "_law_one"] ["_law_script"] (ao ur):=⟨rfl,rfl,rfl,by decide+kernel,rfl,by decide+kernel,by decide+kernel⟩
set_option genInjectivity false in
structure Adr where
  dG:Addr
  kI:FuncData
  eF:Addr
  lZ:FuncData
  dH:Addr
  kJ:FuncData
  rJ:Addr
  BK:FuncData
  eY:Addr
  nF:FuncData
  cV:Addr
  kO:FuncData
  jt:Addr
  rK:FuncData
  g_:Addr
  o_:FuncData
  ju:Addr
  rM:FuncData
  eG:Addr
  mj:FuncData
  kW:Addr
  u9:FuncData
  h_:Addr
  pq:FuncData
  gD:Addr
  pA:FuncData
  dI:Addr
  mq:FuncData
  gF:Addr
  pB:FuncData
  gG:Addr
  pC:FuncData
  fY:Addr
  nG:FuncData
  jw:Addr
  rN:FuncData
  bR:Addr
  fO:FuncData
  cj:Addr
  gR:FuncData
  cN:Addr
  jx:FuncData
  dJ:Addr
  kY:FuncData
  bT:Addr
  fP:FuncData
  fZ:Addr
  nH:FuncData
  cW:Addr
  jM:FuncData
  kZ:Addr
  u_:FuncData
  yu:Addr
  Jo:FuncData
  rO:Addr
  BL:FuncData
  nJ:Addr
  yx:FuncData
  nM:Addr
  yC:FuncData
  yD:Addr
  Jp:FuncData
  yE:Addr
  Jq:FuncData
  jy:Addr
  rP:FuncData
  f9:Addr
  nO:FuncData
  k_:Addr
  vd:FuncData
  ig:Addr
  pD:FuncData
  iu:Addr
  pF:FuncData
  nP:Addr
  yF:FuncData
  nQ:Addr
  yG:FuncData
  lg:Addr
  vf:FuncData
  jz:Addr
  rQ:FuncData
  rR:Addr
  BP:FuncData
  rT:Addr
  BW:FuncData
  cO:Addr
  jA:FuncData
  rU:Addr
  BX:FuncData
  dM:Addr
  lq:FuncData
  nR:Addr
  yH:FuncData
  Ak:Addr
  Jr:FuncData
  lO:Value
  fG:Value
  gH:Value
  je:Value
  bZ:Addr
  aQ:Addr
  gb:Addr
  cQ:Addr
  bW:Addr
  bh:Addr
def XS (a:Adr):List Addr:=[a.gb,a.cQ,a.bW,a.bh]
structure Txt (K:W.Frag) (mg:Str→Option Value) (a:Adr):Prop where
  mz:j7 K "steps_along" "steps_along" dw a.dG a.kI
  pR:Binds K a.kI ["web", "fixed"] []
  pU:mg "steps_along" = some (.ref a.dG)
  rW:j7 K "ways_along" "ways_along" d9 a.eF a.lZ
  yI:Binds K a.lZ ["start", "steps"] []
  yJ:mg "ways_along" = some (.ref a.eF)
  mC:j7 K "found_along" "found_along" cU a.dH a.kJ
  pW:Binds K a.kJ ["web", "start", "steps"] []
  pX:mg "found_along" = some (.ref a.dH)
  O4:j7 K "bars" "bars" pP a.rJ a.BK
  X3:Binds K a.BK ["web"] []
  X4:mg "bars" = some (.ref a.rJ)
  Al:j7 K "__init__" "Shut.__init__" fW a.eY a.nF
  Am:Binds K a.nF ["self", "lot"] []
  vU:j7 K "__init__" "Barred.__init__" dz a.cV a.kO
  vV:Binds K a.kO ["self", "tie", "lot"] []
  qF:j7 K "is_list" "is_list" jo a.jt a.rK
  vg:Binds K a.rK ["thing"] []
  vh:mg "is_list" = some (.ref a.jt)
  rY:j7 K "is_whole" "is_whole" gW a.g_ a.o_
  wH:Binds K a.o_ ["thing"] []
  wI:mg "is_whole" = some (.ref a.g_)
  vm:j7 K "is_name" "is_name" iG a.ju a.rM
  zO:Binds K a.rM ["thing"] []
  zP:mg "is_name" = some (.ref a.ju)
  rZ:j7 K "are_points" "are_points" dB a.eG a.mj
  yK:Binds K a.mj ["thing"] []
  yL:mg "are_points" = some (.ref a.eG)
  DQ:j7 K "is_tie" "is_tie" jE a.kW a.u9
  Ly:Binds K a.u9 ["thing", "points"] []
  Lz:mg "is_tie" = some (.ref a.kW)
  wJ:j7 K "are_ties" "are_ties" gA a.h_ a.pq
  DR:Binds K a.pq ["thing", "points"] []
  DW:mg "are_ties" = some (.ref a.h_)
  DX:j7 K "__init__" "Web.__init__" gB a.gD a.pA
  su:Binds K a.pA ["self", "points", "ties"] []
  yM:j7 K "points" "Web.points" eE a.dI a.mq
  sy:Binds K a.mq ["self"] []
  DY:j7 K "ties" "Web.ties" gY a.gF a.pB
  wK:Binds K a.pB ["self"] []
  D_:j7 K "many" "Web.many" gZ a.gG a.pC
  sE:Binds K a.pC ["self"] []
  uy:j7 K "is_number" "is_number" fX a.fY a.nG
  Ao:Binds K a.nG ["web", "thing"] []
  Aq:mg "is_number" = some (.ref a.fY)
  zQ:j7 K "is_lead" "is_lead" jq a.jw a.rN
  G9:Binds K a.rN ["thing"] []
  G_:mg "is_lead" = some (.ref a.jw)
  jf:j7 K "lot_without_way_in" "lot_without_way_in" bH a.bR a.fO
  mK:Binds K a.fO ["web", "steps"] []
  mL:mg "lot_without_way_in" = some (.ref a.bR)
  jN:j7 K "sure_of_fixed" "sure_of_fixed" cJ a.cj a.gR
  mY:Binds K a.gR ["web", "thing"] []
  mZ:mg "sure_of_fixed" = some (.ref a.cj)
  jO:j7 K "with_one_more" "with_one_more" cL a.cN a.jx
  m5:Binds K a.jx ["fixed", "number", "lead"] []
  m6:mg "with_one_more" = some (.ref a.cN)
  jF:j7 K "lot_shut_by" "lot_shut_by" dD a.dJ a.kY
  mD:Binds K a.kY ["web", "fixed"] []
  mF:mg "lot_shut_by" = some (.ref a.dJ)
  gj:j7 K "sure_of_a_pointing" "sure_of_a_pointing" bQ a.bT a.fP
  jg:Binds K a.fP ["web", "fixed"] []
  jh:mg "sure_of_a_pointing" = some (.ref a.bT)
  pG:j7 K "free_ties" "free_ties" eV a.fZ a.nH
  uz:Binds K a.nH ["web", "fixed"] []
  uD:mg "free_ties" = some (.ref a.fZ)
  oF:j7 K "pointed_with" "pointed_with" cG a.cW a.jM
  uE:Binds K a.jM ["web", "fixed"] []
  uF:mg "pointed_with" = some (.ref a.cW)
  yN:j7 K "forced" "forced" kh a.kZ a.u_
  Ea:Binds K a.u_ ["web", "fixed"] []
  Eb:mg "forced" = some (.ref a.kZ)
  X5:j7 K "_law_pot" "_law_pot" yp a.yu a.Jo
  qbX:Binds K a.Jo ["_law_script", "_law_k"] []
  qbY:mg "_law_pot" = some (.ref a.yu)
  iw:j7 K "_law_take" "_law_take" rA a.rO a.BL
  iQ:Binds K a.BL ["_law_pot_here", "_law_many"] []
  iR:mg "_law_take" = some (.ref a.rO)
  BZ:j7 K "_law_names" "_law_names" lX a.nJ a.yx
  Js:Binds K a.yx ["_law_pot_here", "_law_many"] []
  Jt:mg "_law_names" = some (.ref a.nJ)
  vo:j7 K "_law_mixed" "_law_mixed" nA a.nM a.yC
  yO:Binds K a.yC ["_law_pot_here", "_law_things"] []
  yP:mg "_law_mixed" = some (.ref a.nM)
  Rp:j7 K "_law_tie" "_law_tie" yq a.yD a.Jp
  X6:Binds K a.Jp ["_law_pot_here", "_law_names_here"] []
  X7:mg "_law_tie" = some (.ref a.yD)
  X8:j7 K "_law_web" "_law_web" tD a.yE a.Jq
  qbZ:Binds K a.Jq ["_law_pot_here", "_law_points", "_law_most"] []
  qb0:mg "_law_web" = some (.ref a.yE)
  qG:j7 K "_law_reached" "_law_reached" jr a.jy a.rP
  vp:Binds K a.rP ["_law_web_here", "_law_pointing", "_law_start"] []
  vq:mg "_law_reached" = some (.ref a.jy)
  mO:j7 K "_law_is_strong" "_law_is_strong" eX a.f9 a.nO
  pH:Binds K a.nO ["_law_web_here", "_law_pointing"] []
  pI:mg "_law_is_strong" = some (.ref a.f9)
  uG:j7 K "_law_is_lot" "_law_is_lot" jc a.k_ a.vd
  yQ:Binds K a.vd ["_law_web_here", "_law_lot"] []
  yR:mg "_law_is_lot" = some (.ref a.k_)
  lQ:j7 K "_law_crossing" "_law_crossing" gC a.ig a.pD
  oG:Binds K a.pD ["_law_web_here", "_law_lot"] []
  oH:mg "_law_crossing" = some (.ref a.ig)
  oJ:j7 K "_law_leads_in" "_law_leads_in" g8 a.iu a.pF
  sG:Binds K a.pF ["_law_web_here", "_law_lot", "_law_k", "_law_turn"] []
  sH:mg "_law_leads_in" = some (.ref a.iu)
  B_:j7 K "_law_fixed" "_law_fixed" nC a.nP a.yF
  Ju:Binds K a.yF ["_law_pot_here", "_law_web_here"] []
  Jv:mg "_law_fixed" = some (.ref a.nP)
  Jw:j7 K "_law_state" "_law_state" lY a.nQ a.yG
  Rq:Binds K a.yG ["_law_web_here", "_law_fixed_here"] []
  Rr:mg "_law_state" = some (.ref a.nQ)
  Ec:j7 K "_law_bars" "_law_bars" kj a.lg a.vf
  LC:Binds K a.vf ["_law_web_here", "_law_k"] []
  LK:mg "_law_bars" = some (.ref a.lg)
  zR:j7 K "_law_is_left" "_law_is_left" iH a.jz a.rQ
  Hh:Binds K a.rQ ["_law_web_here", "_law_state_here", "_law_lot"] []
  Hi:mg "_law_is_left" = some (.ref a.jz)
  O5:j7 K "_law_said" "_law_said" rB a.rR a.BP
  X_:Binds K a.BP ["_law_made", "_law_fixed_here"] []
  Yb:mg "_law_said" = some (.ref a.rR)
  O6:j7 K "_law_word" "_law_word" rC a.rT a.BW
  Yc:Binds K a.BW ["_law_made", "_law_fixed_here"] []
  Yd:mg "_law_word" = some (.ref a.rT)
  m7:j7 K "_law_refused_right" "_law_refused_right" cM a.cO a.jA
  tE:Binds K a.jA ["_law_web_here", "_law_state_here", "_law_word_here", "_law_told"] []
  tG:mg "_law_refused_right" = some (.ref a.cO)
  O7:j7 K "_law_dues" "_law_dues" rD a.rU a.BX
  Ye:Binds K a.BX ["_law_web_here", "_law_state_here"] []
  Yg:mg "_law_dues" = some (.ref a.rU)
  pY:j7 K "_law_entry_right" "_law_entry_right" cH a.dM a.lq
  vW:Binds K a.lq ["_law_web_here", "_law_state_here", "_law_k", "_law_turn", "_law_entry"] []
  vX:mg "_law_entry_right" = some (.ref a.dM)
  yS:j7 K "_law_right" "_law_right" jL a.nR a.yH
  Ca:Binds K a.yH ["_law_made", "_law_web_here", "_law_fixed_here"] []
  Cd:mg "_law_right" = some (.ref a.nR)
  qb1:j7 K "law" "law" ur a.Ak a.Jr
  qgr:Binds K a.Jr ["_law_script"] []
  qgs:mg "law" = some (.ref a.Ak)
  Hj:mg "LETTERS" = some a.lO
  Hl:RelV (.str "abcdefghijklmnopqrstuvwxyz") a.lO
  uH:mg "MOST_LETTERS" = some a.fG
  uI:RelV (.int 4) a.fG
  vY:mg "MOST_POINTS" = some a.gH
  vZ:RelV (.int 9) a.gH
  Ar:mg "MOST_TIES" = some a.je
  Av:RelV (.int 20) a.je
  Rt:mg "Web" = some (.ref a.bZ)
  qH:Cls K a.bZ
  Jx:mU K a.bZ "names"
  Ce:mU K a.bZ "pairs"
  Ru:Mk K a.bZ a.gD
  sI:Meth K a.bZ "points" a.dI
  wL:Meth K a.bZ "ties" a.gF
  sJ:Meth K a.bZ "many" a.gG
  sO:mg "PointError" = some (.ref a.aQ)
  qaN:mg "NoWeb" = some (.ref a.gb)
  Uh:mg "NoFixed" = some (.ref a.cQ)
  Jy:mg "Shut" = some (.ref a.bW)
  yU:mg "Barred" = some (.ref a.bh)
  iy:Jd K a.aQ
  yV:Jd K a.gb
  qI:Jd K a.cQ
  Yh:XC K a.gb a.aQ
  O8:XC K a.cQ a.aQ
  pJ:XC K a.bW a.aQ
  gU:XC K a.bh a.aQ
  ib:W.isClsIn K a.aQ=true
  tb:W.typeIn K (.ref a.aQ)=some (.type "type")
  ini:qgd K a.aQ
  LQ:W.specialIn K (.builtin "object.__class__") "__get__" = some (some (.builtin "getset_descriptor.__get__"))
  LR:W.takesIn K (.builtin "object.__class__")=some true
  nd:(a.aQ::XS a).Nodup
  lu:mg "ValueError" = none
  sS:XMk K a.bW a.aQ a.eY
  Rv:wG K a.bW a.aQ
  ji:W.findIn K (.ref a.bW) "lot" = some none
  lR:XMk K a.bh a.aQ a.cV
  zT:wG K a.bh a.aQ
  gJ:W.findIn K (.ref a.bh) "tie" = some none
  gK:W.findIn K (.ref a.bh) "lot" = some none
  nm:Nm mg
  Jj:Nm2 mg
  nm3:Nm3 mg
end K42
namespace K42
open PySem L2
variable {P:Program} {w:World} {K:W.Frag} {mg:Str→Option Value} {base:Heap} {a:Adr}
def lA (H:Hp) (p:Addr):Prop:=∃x y:Int,H p=some (.lst [.int x,.int y])∧0≤x∧0≤y∧y<4294967296
def qdH (K:W.Frag):Sp:=fun vs H Q _=>∃(l:Addr) (ns:List Int) (k:Nat),vs=[.ref l,.int k]∧bw K H l (ns.map V.int)∧k<100∧∀p H',H p=none→lA H' p→But p H H'→Q (.ref p) H'
def qaO:Sp:=fun vs H Q _=>∃(p:Addr) (m:Int),vs=[.ref p,.int m]∧lA H p∧0<m∧m<1000000∧∀(d:Int) H',0≤d→d<m→lA H' p→But p H H'→Q (.int d) H'
theorem qdI (T:Txt K mg a):cg P w K mg base lC 1 a.yu a.Jo ["_law_script", "_law_k"] (qdH K):=by
  refine T.X5.oU XQ (fun vs H Q E h=>?_) (fun cdv A outer s H vs Q E hr h=>?_)
  ·obtain⟨l,ns,k,rfl,_⟩:=h;rfl
  · obtain⟨l,ns,k,rfl,hS,hk,q⟩:=h;refine⟨_,(aB (bC (i:=2) XQ.nd rfl (Or.inl rfl) (Ke (bA uf (aM 1) (aO (cB (K:=K) rfl) rfl T.nm.len PySem.boot_len (aj (aM 0) aq)) (bY _)) (bL (bO (K:=K) rfl) (aM 0) (aM 1) (fun _ _=>rfl)) aK))
      (aF (aY (jP (aj (aO (Du rfl) rfl T.nm.max boot_max (aj aK (aj (cT nu (aO GQ rfl T.nm.abs boot_abs (aj (aM 2) aq)) (cT qar aK aK)) aq))) (aj (cT jJ (cT jJ (cT uY (aO GQ rfl T.nm.abs boot_abs (aj (aM 2) aq)) aK) (cT Bt aK (aM 1))) aK) aq)))))),?_⟩
    have fin:∀(x y:Int),0≤x→0≤y→y<4294967296→∀p:Addr,H p=none→Q (.ref p) (upd H p (.lst [.int x,.int y])):=fun x y h1 h2 h3 p hp=>
      q p _ hp ⟨x,y,ak,h1,h2,h3⟩ fun b o hb e=>by rw[aC hb];exact e
    simp -dsimp[au,stC];refine⟨_,.inl hS,gM.of (fun h=>?_) (fun h=>?_)⟩
    · have hlt:k<ns.length:=by simpa using h
      simp -dsimp[au,stC];refine⟨_,.inl hS,.int (ns[k]'hlt),aU (by simp[hlt]),?_⟩;simp -dsimp[au,stC];exact fin _ _ (zpa _) (zpb _ _) (zpc _ hk)
    ·simp -dsimp[au,stC];exact fin _ _ (by first | omega | (split <;> omega)) (by omega) (by omega)
theorem gq (T:Txt K mg a):cg P w K mg base lC 1 a.rO a.BL ["_law_pot_here", "_law_many"] qaO:=by
  refine T.iw.oU Ro (fun vs H Q E h=>?_) (fun cdv A outer s H vs Q E hr h=>?_)
  ·obtain⟨p,m,rfl,_⟩:=h;rfl
  · obtain⟨p,m,rfl,⟨x,y,hp,hx,hy,hy2⟩,hm,hm2,q⟩:=h;refine⟨_,(aB (cR (bA Dr (bL (bO (K:=K) rfl) (aM 0) aK (fun _ _=>rfl)) aK (bY _)) (aB (wu (aO Jb rfl T.nm.divmod boot_divmod (aj (bL (bO (K:=K) rfl) (aM 0) aK (fun _ _=>rfl)) (aj (aM 1) aq))) (PG.eqv (fJ (K:=K) (n:=2) rfl rfl (jC.eqv (bx (VB (aM 0) aK GR) (jC.eqv (bx (aR (i:=2) Ro.nd rfl (Or.inl rfl)) (jC.mono fH iK)) (bB _ _))) (bB _ _))) (fL _ _ _)))
      (aF (aY (aM 2)))) bG)
      (aB (wu (cT uY (cT jJ (cT Bt (bL (bO (K:=K) rfl) (aM 0) aK (fun _ _=>rfl)) aK) aK) aK) (VB (aM 0) aK GR))
      (aF (aY (cT uY (cT Xj (cT uY (cT Bt (bL (bO (K:=K) rfl) (aM 0) aK (fun _ _=>rfl)) (bL (bO (K:=K) rfl) (aM 0) aK (fun _ _=>rfl))) aK) aK) (aM 1)))))),?_⟩
    have hl:bw K H p [.int x,.int y]:=bw.of hp;simp -dsimp[au,stC];refine⟨_,.inl hl,_,aU (j:=0) rfl,?_⟩;simp -dsimp[au,stC];refine gM.of (fun h=>?_) (fun h=>?_)
    ·simp -dsimp[au,stC];refine⟨_,.inl hl,_,aU (j:=0) rfl,?_⟩;simp -dsimp[au,stC];refine⟨⟨hm,by omega⟩,fun t ht=>?_⟩;have npt:p≠t:=aP hp ht;refine⟨_,dW.of ak,rfl,_,(by rw[aC npt];exact hp),0,rfl,?_⟩;refine q _ _ (Int.emod_nonneg _ (by omega)) (Int.emod_lt_of_pos _ hm) ⟨_,_,ak,Int.ediv_nonneg hx (by omega),hy,hy2⟩ fun b o hb e=>?_;rw[aC hb,aC (aP e ht)];exact e
    ·have z0:0≤(y * 48271+12345) % 2147483647:=Int.emod_nonneg _ (by decide);have z1:(y * 48271+12345) % 2147483647<2147483647:=Int.emod_lt_of_pos _ (by decide);simp -dsimp[au,stC];refine⟨_,.inl hl,_,aU (j:=1) rfl,?_⟩;simp -dsimp[au,stC];refine⟨_,hp,1,rfl,_,.inl (bw.of ak),_,aU (j:=1) rfl,_,.inl (bw.of ak),_,aU (j:=1) rfl,?_⟩;simp -dsimp[au,stC];refine⟨⟨by omega,by omega⟩,hm,?_⟩;refine q _ _ (Int.emod_nonneg _ (by omega)) (Int.emod_lt_of_pos _ hm) ⟨_,_,ak,hx,z0,by omega⟩ fun b o hb e=>?_;rw[aC hb];exact e
def O9:Sp:=fun vs H Q _=>∃p xs,vs=[.ref p]∧Sq H p xs∧∀H',Same H H'→Q (.bl true) H'
theorem wM (T:Txt K mg a):cg P w K mg base lC 1 a.jt a.rK ["thing"] O9:=by
  refine T.qF.oU Oz (fun vs H Q E h=>?_) (fun cdv A outer s H vs Q E hr h=>?_)
  ·obtain⟨p,xs,rfl,_⟩:=h;rfl
  · obtain⟨p,xs,rfl,hp,q⟩:=h;refine⟨_,(aF (aY (aO (qdu (K:=K) rfl) rfl T.nm.isinstance boot_isinstance (aj (aM 0) (aj (fU (aj (jk (v:=.ty "list") rfl T.nm.list boot_list rfl) (aj (jk (v:=.ty "tuple") rfl T.nm.tuple boot_tuple rfl) aq))) aq))))),?_⟩;simp -dsimp[au,stC,-Bool.exists_bool,-List.map_take];refine fun t ht=>⟨_,_,ak,?_⟩
    rcases(hp.same (aA ht)).ty (K:=K) with ty | ty
    ·exact⟨_,ty,true,by simp[W.kitAny,W.kitOne],q _ (aA ht)⟩
    ·exact⟨_,ty,true,by simp[W.kitAny,W.kitOne];rfl,q _ (aA ht)⟩
def O_:Sp:=fun vs H Q _=>∃x,vs=[.str x]∧x.length≤sizeLine∧∀H',Same H H'→Q (.bl (nameB x)) H'
theorem Ed (T:Txt K mg a):cg P w K mg base lC 1 a.ju a.rM ["thing"] O_:=by
  refine T.vm.oU OD (fun vs H Q E h=>?_) (fun cdv A outer s H vs Q E hr h=>?_)
  ·obtain⟨x,rfl,_⟩:=h;rfl
  · obtain⟨x,rfl,hx,q⟩:=h;refine⟨_,(aB (cR (PW.pt (qp (dN (cD (aO (oA (K:=K) rfl) rfl T.nm.isinstance boot_isinstance (aj (aM 0) (aj (jk (v:=.ty "str") rfl T.nm.str boot_str rfl) aq))))) (nY (dN (zH ug ug aK (aO qdt rfl T.nm.len PySem.boot_len (aj (aM 0) aq)) (Bl rfl T.uH T.uI)))))) (aF (aY jT)) bG)
      (aF (aY (aO (jX rfl) rfl T.nm.all jU (aj (dY rfl rfl (show aZ (ao iG) _ ["thing"] ["sign"] [] ["sign"] from⟨rfl,by decide+kernel,by decide+kernel,rfl,by decide+kernel,by decide+kernel⟩) rfl (PI.eqv (qcM (aM 0)) (Xh _)) (fun C s H fp pn=>(aR (i:=0) (show(["sign"]:List Str).Nodup by decide+kernel) rfl (Or.inl rfl))) (fun C s H fp pn=>dX) (fun C s H fp pn=>(gO (ql5 (K:=K) rfl) (aM 0) (Bl rfl T.Hj T.Hl) rfl))) aq))))),?_⟩
    simp -dsimp[au,stC,-Bool.exists_bool,-List.map_take];refine⟨_,.str x,_,Ae K,gM.neg rfl ?_⟩;simp -dsimp[au,stC,-Bool.exists_bool,-List.map_take];refine⟨hx,gM.of (fun h1=>?_) (fun h1=>?_)⟩
    · have h1':1≤x.length:=by simp at h1;omega
      simp -dsimp[au,stC,-Bool.exists_bool,-List.map_take];refine gM.of (fun h2=>?_) (fun h2=>?_)
      · have h2':¬x.length≤4:=by simp at h2;omega
        have e:nameB x=false:=by
          unfold nameB;rw[decide_eq_false h2'];simp
        rw[e] at q;simp -dsimp[au,stC,-Bool.exists_bool,-List.map_take];exact q H (Same.refl H)
      · have h2':x.length≤4:=by simp at h2;omega
        simp -dsimp[au,stC,-Bool.exists_bool,-List.map_take];refine fun D hD=>cmS (fun i σ' H'=>(∃o,σ'=[o])∧Same H H'∧H' D=some (.lst ((x.cps.toList.take i).map fun c=>.bl (Zo c)))) ⟨⟨none,rfl⟩,aA hD,by simpa using ak⟩ ?_ ?_
        · rintro i c σ' H' hc ⟨⟨o,rfl⟩,sm,FW⟩;have h4:4<sizeLine:=by decide
          have hsz:x.cps.size=x.length:=rfl;simp -dsimp[au,stC,-Bool.exists_bool,-List.map_take];refine⟨_,FW,by simp;omega,aW sm hD,?_⟩;rw[ak,take_one (l:=x.cps.toList) (x:=c) (by simpa using hc),List.map_append];rfl
        · rintro σ' H' ⟨⟨o,rfl⟩,sm,FW⟩;simp -dsimp[au,stC,-Bool.exists_bool,-List.map_take];refine⟨_,FW,_,GC Zo _,?_⟩;rw[N_];have e:nameB x=(x.cps.toList.take x.cps.size).all Zo:=by
            unfold nameB;rw[decide_eq_true h1',decide_eq_true h2',show x.cps.toList.take x.cps.size=x.cps.toList from List.take_of_length_le (by simp)];rfl
          rw[← e];exact q H' sm
    · have h1':¬1≤x.length:=by simp at h1;omega
      have e:nameB x=false:=by
        unfold nameB;rw[decide_eq_false h1'];simp
      rw[e] at q;simp -dsimp[au,stC,-Bool.exists_bool,-List.map_take];exact q H (Same.refl H)
theorem Yi {xs:List Str} {i:Nat} {x:V} (h:(xs.map V.str)[i]? = some x):∃z,z∈xs∧x = .str z:=by
  rw[List.getElem?_map] at h;cases e:xs[i]? with
  | none=>rw[e] at h;cases h
  | some z=>
    rw[e] at h;exact⟨z,List.mem_of_getElem? e,(Option.some.inj h).symm⟩
theorem Ef {x:Str} (h:nameB x=true):x.length≤sizeLine:=by
  unfold nameB at h;simp at h;have h4:4≤sizeLine:=by decide
  omega
theorem jY:∀n,oW (List.replicate n (.bl true)) (List.replicate n true)
  | 0=>rfl
  | n+1=>⟨true,_,rfl,rfl,jY n⟩
theorem Eh:∀xs:List Str,keysOf (xs.map V.str)=xs.map Sum.inr
  | []=>rfl
  | x::xs=>by
    show Sum.inr x::keysOf (xs.map V.str)=_;rw[Eh xs];rfl
theorem qdJ {xs:List Str} (h:xs.Nodup):(Fy (fun i=>(keysOf (xs.map V.str))[i]?.getD (Sum.inl 0)) (xs.map V.str).length).length=xs.length:=by
  rw[Eh,List.length_map];refine(Wq _ xs.length fun i j hi hj e=>?_).1;simp[hi,hj] at e;exact(List.getElem_inj h).mp e
structure Pa (xs:List Str):Prop where
  len:1≤xs.length∧xs.length≤9
  nm:∀x∈xs,nameB x=true
  nd:xs.Nodup
def FZ:Sp:=fun vs H Q _=>∃p xs,vs=[.ref p]∧Sq H p (xs.map V.str)∧Pa xs∧∀H',Same H H'→Q (.bl true) H'
theorem Ga (T:Txt K mg a):cg P w K mg base lC 2 a.eG a.mj ["thing"] FZ:=by
  refine T.rZ.oU FQ (fun vs H Q E h=>?_) (fun cdv A outer s H vs Q E hr h=>?_)
  ·obtain⟨p,xs,rfl,_⟩:=h;rfl
  · obtain⟨p,xs,rfl,hp,hx,q⟩:=h;refine⟨_,(aB (cR (PW.pt (qp (dN (cD (PE.eqv (aN (wM (K:=K) T) (hr.mono (by decide)) rfl T.vh T.qF.kp T.vg .nil aV (aj (aM 0) aq)) (aG _ _ _)))) (nY (dN (zH ug ug aK (aO (cB (K:=K) rfl) rfl T.nm.len PySem.boot_len (aj (aM 0) aq)) (Bl rfl T.vY T.vZ)))))) (aF (aY jT)) bG)
      (aF (aY (jK (aO (jX rfl) rfl T.nm.all jU (aj (dY rfl rfl (show aZ (ao dB) _ ["thing"] ["one"] [] ["one"] from⟨rfl,by decide+kernel,by decide+kernel,rfl,by decide+kernel,by decide+kernel⟩) rfl (PI.eqv (Bq (K:=K) rfl (aM 0)) (yc _ _)) (fun C s H fp pn=>(aR (i:=0) (show(["one"]:List Str).Nodup by decide+kernel) rfl (Or.inl rfl))) (fun C s H fp pn=>dX) (fun C s H fp pn=>(PE.eqv (aN (Ed (K:=K) T) (hr.mono (by decide)) rfl T.zP T.vm.kp T.zO .nil aV (aj (aM 0) aq)) (aG _ _ _)))) aq)) (nZ (gO q_ (aO S9 rfl T.nm.len PySem.boot_len (aj (fj (SX rfl) rfl T.nm.set SM (aj (aM 0) aq)) aq)) (aO (cB (K:=K) rfl) rfl T.nm.len PySem.boot_len (aj (aM 0) aq)) (bY _))))))),?_⟩
    have hl:=hx.len;have h60:60<sizeLine:=by decide
    simp -dsimp[au,stC,-Bool.exists_bool,-List.map_take];refine⟨p,_,rfl,hp,fun H1 s1=>?_⟩;have hp1:=hp.same s1;simp -dsimp[au,stC,-Bool.exists_bool,-List.map_take];refine⟨_,hp1.q,gM.pos (by simp;omega) ?_⟩;simp -dsimp[au,stC,-Bool.exists_bool,-List.map_take];refine gM.neg (by simp;omega) ?_;obtain⟨b,hb⟩:=hp.b;simp -dsimp[au,stC,-Bool.exists_bool,-List.map_take];refine⟨b,⟨_,hb K H1 s1⟩,fun D hD=>cmQ (xs.map V.str) (fun i σ' H'=>(∃o,σ'=[o])∧Same H1 H'∧H' D=some (.lst (List.replicate i (.bl true)))) ⟨⟨none,rfl⟩,aA hD,ak⟩ (fun i σ' H' _ h=>hb K H' (s1.trans h.2.1)) ?_ ?_⟩
    · rintro i x σ' H' hi ⟨⟨o,rfl⟩,sm,FW⟩;obtain⟨z,hz,rfl⟩:=Yi hi;have hi2:i<xs.length:=by simpa using (List.getElem?_eq_some_iff.mp hi).1
      simp -dsimp[au,stC,-Bool.exists_bool,-List.map_take];refine⟨z,rfl,Ef (hx.nm z hz),fun H2 s2=>?_⟩;simp -dsimp[au,stC,-Bool.exists_bool,-List.map_take];refine⟨_,s2 _ _ FW,by simp;omega,aW (sm.trans s2) hD,?_⟩;rw[ak,hx.nm z hz,← List.replicate_succ']
    ·rintro σ' H' ⟨⟨o,rfl⟩,sm,FW⟩;have hp2:=hp1.same sm;simp -dsimp[au,stC,-Bool.exists_bool,-List.map_take];refine⟨_,FW,_,jY _,?_⟩;rw[show(List.replicate (xs.map V.str).length true).all id=true by simp];simp -dsimp[au,stC,-Bool.exists_bool,-List.map_take];refine⟨_,hp2.q,by simp[isKey],by simp;unfold scanBound;omega,fun t ht=>⟨_,ak,_,(hp2.same (aA ht)).q,?_⟩⟩;rw[decide_eq_true (by rw[qdJ hx.nd];simp)];exact q _ (s1.trans (sm.trans (aA ht)))
theorem qaP {x:Str} {xs:List Str} (h:x∈xs):inV (.str x) (xs.map V.str)=true:=by
  unfold inV;rw[List.any_eq_true];exact⟨.str x,List.mem_map.mpr ⟨x,h,rfl⟩,by simp[Sd]⟩
theorem Yj (xs:List Str):(xs.map V.str).all j6=true:=by
  rw[List.all_eq_true];intro v hv;obtain⟨x,_,rfl⟩:=List.mem_map.mp hv;rfl
def Ui:Sp:=fun vs H Q _=>∃t p x y xs,vs=[.ref t,.ref p]∧Sq H t [.str x,.str y]∧Sq H p (xs.map V.str)∧Pa xs∧x∈xs∧y∈xs∧x≠y∧∀H',Same H H'→Q (.bl true) H'
theorem Uj (T:Txt K mg a):cg P w K mg base lC 2 a.kW a.u9 ["thing", "points"] Ui:=by
  refine T.DQ.oU Ue (fun vs H Q E h=>?_) (fun cdv A outer s H vs Q E hr h=>?_)
  ·obtain⟨t,p,x,y,xs,rfl,_⟩:=h;rfl
  · obtain⟨t,p,x,y,xs,rfl,ht,hp,hx,L_,hym,hne,q⟩:=h;refine⟨_,(aB (cR (PW.pt (qp (dN (cD (PE.eqv (aN (wM (K:=K) T) (hr.mono (by decide)) rfl T.vh T.qF.kp T.vg .nil aV (aj (aM 0) aq)) (aG _ _ _)))) (nY (bA j_ (aO (cB (K:=K) rfl) rfl T.nm.len PySem.boot_len (aj (aM 0) aq)) aK (bY _))))) (aF (aY jT)) bG)
      (aB (cR (dN (cD (aO (jX rfl) rfl T.nm.all jU (aj (dY rfl rfl (show aZ (ao jE) _ ["thing", "points"] ["end"] [1] ["end", "points"] from⟨rfl,by decide+kernel,by decide+kernel,rfl,by decide+kernel,by decide+kernel⟩) rfl (PI.eqv (Bq (K:=K) rfl (aM 0)) (yc _ _)) (fun C s H fp pn=>(aR (i:=0) (show(["end", "points"]:List Str).Nodup by decide+kernel) rfl (Or.inl rfl))) (fun C s H fp pn=>dX) (fun C s H fp pn=>(jK (PE.eqv (aN (Ed (K:=K) T) (hr.mono (by decide)) rfl T.zP T.vm.kp T.zO .nil aV (aj (aM 0) aq)) (aG _ _ _)) (nZ (gO (Oi (K:=K) rfl) (aM 0) (aM 1) rfl))))) aq)))) (aF (aY jT)) bG)
      (aF (aY (gO j_ (bL (bO (K:=K) rfl) (aM 0) aK (fun _ _=>rfl)) (bL (bO (K:=K) rfl) (aM 0) aK (fun _ _=>rfl)) (bY _)))))),?_⟩
    have h60:60<sizeLine:=by decide
    right;refine⟨t,_,rfl,ht,fun H1 s1=>?_⟩;right;refine⟨_,(ht.same s1).q,false,rfl,gM.neg rfl ?_⟩;obtain⟨b,hb⟩:=ht.b;right;refine⟨b,⟨_,hb K H1 s1⟩,fun D hD=>cmQ [.str x,.str y] (fun i σ' H'=>(∃o,σ'=[o,some (.ref p)])∧Same H1 H'∧H' D=some (.lst (List.replicate i (.bl true)))) ⟨⟨none,rfl⟩,aA hD,ak⟩ (fun i σ' H' _ h=>hb K H' (s1.trans h.2.1)) ?_ ?_⟩
    · rintro i v σ' H' hi ⟨⟨o,rfl⟩,sm,FW⟩;obtain⟨z,hz,rfl⟩:∃z,z∈xs∧v = .str z:=by
        match i,hi with
        | 0,hi=>exact⟨x,L_,(Option.some.inj hi).symm⟩
        | 1,hi=>exact⟨y,hym,(Option.some.inj hi).symm⟩
      have hi2:i<2:=(List.getElem?_eq_some_iff.mp hi).1;right;refine⟨z,rfl,Ef (hx.nm z hz),fun H2 s2=>?_⟩;rw[hx.nm z hz];right;refine⟨_,(hp.same (s1.trans (sm.trans s2))).q,rfl,List.all_eq_true.mp (Yj xs),_,s2 _ _ FW,by simp;omega,aW (sm.trans s2) hD,?_⟩;rw[ak,qaP hz,← List.replicate_succ']
    ·rintro σ' H' ⟨⟨o,rfl⟩,sm,FW⟩;have Jz:=ht.same (s1.trans sm);right;refine⟨_,FW,_,jY _,?_⟩;rw[show(List.replicate [V.str x,V.str y].length true).all id=true by simp];right;refine⟨_,Jz.q,_,aU (j:=0) rfl,_,Jz.q,_,aU (j:=1) rfl,?_⟩;right;refine⟨true,by simp[hne],?_⟩;exact q _ (s1.trans sm)
def Ei (H:Hp) (v:V) (e:Str×Str):Prop:=∃t,v = .ref t∧Sq H t [.str e.1,.str e.2]
theorem Ei.same {H H':Hp} {v:V} {e:Str×Str} (h:Ei H v e) (s:Same H H'):Ei H' v e:=by
  obtain⟨t,rfl,h⟩:=h;exact⟨t,rfl,h.same s⟩
def nU (H:Hp) (vs:List V) (ps:List (Str×Str)):Prop:=vs.length=ps.length∧∀(i:Nat) v e,vs[i]? = some v→ps[i]? = some e→Ei H v e
theorem nU.same {H H':Hp} {vs:List V} {ps:List (Str×Str)} (h:nU H vs ps) (s:Same H H'):nU H' vs ps:=⟨h.1,fun i v e h1 h2=>(h.2 i v e h1 h2).same s⟩
theorem nU.at {H:Hp} {vs:List V} {ps:List (Str×Str)} (h:nU H vs ps) {i:Nat} {v:V} (hv:vs[i]? = some v):∃e,ps[i]? = some e∧Ei H v e:=by
  have hi:i<ps.length:=by rw[← h.1];exact(List.getElem?_eq_some_iff.mp hv).1
  exact⟨ps[i],by simp[hi],h.2 i v _ hv (by simp[hi])⟩
structure oK (xs:List Str) (ps:List (Str×Str)):Prop where
  len:ps.length≤20
  ok:∀e∈ps,e.1∈xs∧e.2∈xs∧e.1≠e.2
def Ma:Sp:=fun vs H Q _=>∃t p tv xs ps,vs=[.ref t,.ref p]∧Sq H t tv∧nU H tv ps∧Sq H p (xs.map V.str)∧Pa xs∧oK xs ps∧∀H',Same H H'→Q (.bl true) H'
theorem Mf (T:Txt K mg a):cg P w K mg base lC 3 a.h_ a.pq ["thing", "points"] Ma:=by
  refine T.wJ.oU Ln (fun vs H Q E h=>?_) (fun cdv A outer s H vs Q E hr h=>?_)
  ·obtain⟨t,p,tv,xs,ps,rfl,_⟩:=h;rfl
  · obtain⟨t,p,tv,xs,ps,rfl,ht,hpr,hp,hx,hts,q⟩:=h;refine⟨_,(aB (cR (PW.pt (qp (dN (cD (PE.eqv (aN (wM (K:=K) T) (hr.mono (by decide)) rfl T.vh T.qF.kp T.vg .nil aV (aj (aM 0) aq)) (aG _ _ _)))) (nY (bA Dr (aO (cB (K:=K) rfl) rfl T.nm.len PySem.boot_len (aj (aM 0) aq)) (Bl rfl T.Ar T.Av) (bY _))))) (aF (aY jT)) bG)
      (aF (aY (aO (jX rfl) rfl T.nm.all jU (aj (dY rfl rfl (show aZ (ao gA) _ ["thing", "points"] ["one"] [1] ["one", "points"] from⟨rfl,by decide+kernel,by decide+kernel,rfl,by decide+kernel,by decide+kernel⟩) rfl (PI.eqv (Bq (K:=K) rfl (aM 0)) (yc _ _)) (fun C s H fp pn=>(aR (i:=0) (show(["one", "points"]:List Str).Nodup by decide+kernel) rfl (Or.inl rfl))) (fun C s H fp pn=>dX) (fun C s H fp pn=>(PE.eqv (aN (Uj (K:=K) T) (hr.mono (by decide)) rfl T.Lz T.DQ.kp T.Ly .nil aV (aj (aM 0) (aj (aM 1) aq))) (aG _ _ _)))) aq))))),?_⟩
    have hlen:=hpr.1;have Ej:=hts.len;have h60:60<sizeLine:=by decide
    right;refine⟨t,_,rfl,ht,fun H1 s1=>?_⟩;right;refine⟨_,(ht.same s1).q,gM.neg (by simp;omega) ?_⟩;obtain⟨b,hb⟩:=ht.b;right;refine⟨b,⟨_,hb K H1 s1⟩,fun D hD=>cmQ tv (fun i σ' H'=>(∃o,σ'=[o,some (.ref p)])∧Same H1 H'∧H' D=some (.lst (List.replicate i (.bl true)))) ⟨⟨none,rfl⟩,aA hD,ak⟩ (fun i σ' H' _ h=>hb K H' (s1.trans h.2.1)) ?_ ?_⟩
    ·rintro i v σ' H' hi ⟨⟨o,rfl⟩,sm,FW⟩;obtain⟨e,he,t2,rfl,Jz⟩:=hpr.at hi;have hi2:i<tv.length:=(List.getElem?_eq_some_iff.mp hi).1;obtain⟨h1,h2,h3⟩:=hts.ok e (List.mem_of_getElem? he);have s2:=s1.trans sm;right;refine⟨t2,p,e.1,e.2,xs,rfl,Jz.same s2,hp.same s2,hx,h1,h2,h3,fun H2 s3=>?_⟩;right;refine⟨_,s3 _ _ FW,by simp;omega,aW (sm.trans s3) hD,?_⟩;rw[ak,← List.replicate_succ']
    ·rintro σ' H' ⟨⟨o,rfl⟩,sm,FW⟩;right;refine⟨_,FW,_,jY _,?_⟩;rw[show(List.replicate tv.length true).all id=true by simp];exact q _ (s1.trans sm)
def bD (H:Hp) (vs:List V) (ps:List (Str×Str)):Prop:=vs.length=ps.length∧∀(i:Nat) v e,vs[i]? = some v→ps[i]? = some e→∃t,v = .ref t∧H t=some (.tup [.str e.1,.str e.2])
def cI (H H':Hp):Prop:=∀b xs,H b=some (.tup xs)→H' b=some (.tup xs)
theorem bD.keep {H H':Hp} {vs:List V} {ps:List (Str×Str)} (h:bD H vs ps) (s:cI H H'):bD H' vs ps:=⟨h.1,fun i v e h1 h2=>by
  obtain⟨t,rfl,e⟩:=h.2 i v e h1 h2;exact⟨t,rfl,s _ _ e⟩⟩
theorem bD.snoc {H:Hp} {vs:List V} {ps:List (Str×Str)} {t:Addr} {e:Str×Str} (h:bD H vs ps) (ht:H t=some (.tup [.str e.1,.str e.2])):bD H (vs++[.ref t]) (ps++[e]):=by
  refine⟨by simp[h.1],fun i v d h1 h2=>?_⟩
  by_cases hi:i<vs.length
  ·rw[List.getElem?_append_left hi] at h1;rw[List.getElem?_append_left (by rw[← h.1];exact hi)] at h2;exact h.2 i v d h1 h2
  · rw[List.getElem?_append_right (by omega)] at h1;rw[List.getElem?_append_right (by rw[← h.1];omega),← h.1] at h2;cases hk:i - vs.length with
    | zero=>
      rw[hk] at h1 h2;cases h1;cases h2;exact⟨t,rfl,ht⟩
    | succ j=>
      rw[hk] at h1;simp at h1
structure fQ (C:Addr) (H:Hp) (o:Addr) (xs:List Str) (ps:List (Str×Str)):Prop where
  ex:∃dx n m tv,H o=some (.ins C dx [("names",V.ref n),("pairs",V.ref m)])∧H n=some (.tup (xs.map V.str))∧H m=some (.tup tv)∧bD H tv ps∧ps.length≤20
def qaQ (C:Addr):Sp:=fun vs H Q _=>∃o dx p t tv xs ps,vs=[.ref o,.ref p,.ref t]∧H o=some (.ins C dx [])∧Sq H t tv∧nU H tv ps∧Sq H p (xs.map V.str)∧Pa xs∧oK xs ps∧
  ∀H',fQ C H' o xs ps→But o H H'→Q .non H'
theorem uJ (T:Txt K mg a):cg P w K mg base lC 4 a.gD a.pA ["self", "points", "ties"] (qaQ a.bZ):=by
  refine T.DX.oU Lq (fun vs H Q E h=>?_) (fun cdv A outer s H vs Q E hr h=>?_)
  ·obtain⟨o,dx,p,t,tv,xs,ps,rfl,_⟩:=h;rfl
  · obtain⟨o,dx,p,t,tv,xs,ps,rfl,ho,ht,hpr,hp,hx,hts,q⟩:=h;refine⟨_,(aB (cR (dN (cD (PE.eqv (aN (Ga (K:=K) T) (hr.mono (by decide)) rfl T.yL T.rZ.kp T.yK .nil aV (aj (aM 1) aq)) (aG _ _ _)))) (aF xu) bG)
      (aB (cR (dN (cD (PE.eqv (aN (Mf (K:=K) T) (hr.mono (by decide)) rfl T.DW T.wJ.kp T.DR .nil aV (aj (aM 2) (aj (aM 1) aq))) (aG _ _ _)))) (aF xu) bG)
      (aB (Q0 (K:=K) rfl (aM 0) (fj GP rfl T.nm.tuple boot_tuple (aj (aM 1) aq)) rfl)
      (aF (Q0 (K:=K) rfl (aM 0) (fj GP rfl T.nm.tuple boot_tuple (aj (dY rfl rfl (show aZ (ao gB) _ ["self", "points", "ties"] ["pair"] [] ["pair"] from⟨rfl,by decide+kernel,by decide+kernel,rfl,by decide+kernel,by decide+kernel⟩) rfl (PI.eqv (Bq (K:=K) rfl (aM 2)) (yc _ _)) (fun C s H fp pn=>(aR (i:=0) (show(["pair"]:List Str).Nodup by decide+kernel) rfl (Or.inl rfl))) (fun C s H fp pn=>dX) (fun C s H fp pn=>(fU (aj (bL (bO (K:=K) rfl) (aM 0) aK (fun _ _=>rfl)) (aj (bL (bO (K:=K) rfl) (aM 0) aK (fun _ _=>rfl)) aq))))) aq)) rfl))))),?_⟩
    right;refine⟨p,xs,rfl,hp,hx,fun H1 s1=>?_⟩;right;refine⟨t,p,tv,xs,ps,rfl,ht.same s1,hpr.same s1,hp.same s1,hx,hts,fun H2 s2'=>?_⟩;have s2:=s1.trans s2';right;refine⟨_,hp.same s2,fun n H3 hn s3'=>?_⟩;have s3:=s2.trans s3';have nno:n≠o:=Cw hn (s3 _ _ ho) (by intro z;cases z);refine⟨_,_,_,s3 _ _ ho,T.qH,T.Jx,by simp,?_⟩;have hto:t≠o:=by rcases ht with z | z <;> exact Cw z ho (by intro y;cases y)
    have qgt:∀{ob:HO} {b:Addr} {u:HO},b≠o→H b=some u→upd H3 o ob b=some u:=fun hb e=>by rw[aC hb];exact s3 _ _ e
    obtain⟨b,hb⟩:∃b,∀H',(∀c u,c≠o→H c=some u→H' c=some u)→SqB b K H' t tv:=by
      rcases ht with z | z
      ·exact⟨true,fun H' k=>bw.of (k _ _ hto z)⟩
      ·exact⟨false,fun H' k=>dW.of (k _ _ hto z)⟩
    have e1:lF "names" (V.ref n) []=([("names",V.ref n)]:List (Str×V)):=rfl;rw[e1];have st4:∀(c:Addr) (u:HO),c≠o→H c=some u→upd H3 o (.ins a.bZ dx [("names",V.ref n)]) c=some u:=fun c u hc e=>qgt hc e;generalize h4:upd H3 o (.ins a.bZ dx [("names",V.ref n)])=H4 at st4 ⊢;have ho4:H4 o=some (.ins a.bZ dx [("names",V.ref n)]):=by rw[← h4];exact ak
    have hn4:H4 n=some (.tup (xs.map V.str)):=by rw[← h4,aC nno];exact hn
    refine⟨b,⟨_,hb H4 st4⟩,fun D hD=>cmQ tv (fun i σ' H'=>(∃o',σ'=[o'])∧Same H4 H'∧∃tvs,H' D=some (.lst tvs)∧bD H' tvs (ps.take i)) ⟨⟨none,rfl⟩,aA hD,[],ak,by simp[bD]⟩ (fun i σ' H' _ h=>hb H' fun c u hc e=>h.2.1 _ _ (st4 c u hc e)) ?_ ?_⟩
    · rintro i v σ' H' hi ⟨⟨o',rfl⟩,sm,tvs,FW,htv⟩;have hi2:i<tv.length:=(List.getElem?_eq_some_iff.mp hi).1;have hlen:=hpr.1;have Ej:=hts.len;obtain⟨e,he,t2,rfl,Jz⟩:=hpr.at hi;have t2o:t2≠o:=by rcases Jz with z | z <;> exact Cw z ho (by intro y;cases y)
      have ht3:Sq H' t2 [.str e.1,.str e.2]:=by
        rcases Jz with z | z
        ·exact .inl (sm _ _ (st4 _ _ t2o z))
        ·exact .inr (sm _ _ (st4 _ _ t2o z))
      right;refine⟨_,ht3.q,_,aU (j:=0) rfl,_,ht3.q,_,aU (j:=1) rfl,fun pt hpt=>?_⟩;have hDp:D≠pt:=aP FW hpt;refine⟨tvs,by rw[aC hDp];exact FW,?_,aW (sm.trans (aA hpt)) hD,_,ak,?_⟩
      · have h4':20<sizeLine:=by decide
        have:=htv.1;simp at this;omega
      · rw[take_one he];refine(htv.keep ?_).snoc ?_
        ·intro c zs ec;rw[aC (Cw ec FW (by intro y;cases y)),aC (aP ec hpt)];exact ec
        ·rw[aC (Ne.symm hDp)];exact ak
    · rintro σ' H' ⟨⟨o',rfl⟩,sm,tvs,FW,htv⟩;right;refine⟨tvs,.inl FW,fun m H5 hm s5=>⟨_,_,_,s5 _ _ (sm _ _ ho4),T.qH,T.Ce,by simp,?_⟩⟩;have ho5:=s5 _ _ (sm _ _ ho4);have mno:m≠o:=Cw hm ho5 (by intro z;cases z);have e2:lF "pairs" (V.ref m) ([("names",V.ref n)]:List (Str×V))=([("names",V.ref n),("pairs",V.ref m)]:List (Str×V)):=by
        show(if ("names" : Str) = "pairs" then _ else (("names" : Str),V.ref n)::lF "pairs" (V.ref m) [])=_
        rw[if_neg (by decide+kernel)];rfl
      rw[e2];refine q _ ⟨dx,n,m,tvs,ak,?_,?_,?_,hts.len⟩ fun c u hc e=>?_
      ·rw[aC nno];exact s5 _ _ (sm _ _ hn4)
      ·rw[aC mno];exact hm
      ·have hl:=hpr.1;rw[hl,List.take_length] at htv;refine htv.keep fun c zs ec=>?_;rw[aC (Cw (s5 _ _ ec) ho5 (by intro z;cases z))];exact s5 _ _ ec
      ·rw[aC hc];exact s5 _ _ (sm _ _ (st4 c u hc e))
def Uk (C:Addr):Sp:=fun vs H Q _=>∃o xs ps,vs=[.ref o]∧fQ C H o xs ps∧∀l,H l=none→Q (.ref l) (upd H l (.lst (xs.map V.str)))
theorem wg (T:Txt K mg a):cg P w K mg base lC 1 a.dI a.mq ["self"] (Uk a.bZ):=by
  refine T.yM.oU FT (fun vs H Q E h=>?_) (fun cdv A outer s H vs Q E hr h=>?_)
  ·obtain⟨o,xs,ps,rfl,_⟩:=h;rfl
  ·obtain⟨o,xs,ps,rfl,⟨dx,n,m,tv,h1,h2,h3,h4,h5⟩,q⟩:=h;refine⟨_,(aF (aY (fj (uh (K:=K) rfl) rfl T.nm.list boot_list (aj (PE.eqv (Ij (K:=K) rfl (aM 0) rfl) (I_ _ _ _)) aq)))),?_⟩;right;refine⟨_,_,_,h1,T.qH,T.Jx,_,rfl,_,.inr (dW.of h2),q⟩
def qaR (C:Addr):Sp:=fun vs H Q _=>∃o xs ps,vs=[.ref o]∧fQ C H o xs ps∧∀l tv,H l=none→bD H tv ps→Q (.ref l) (upd H l (.lst tv))
theorem Aw (T:Txt K mg a):cg P w K mg base lC 1 a.gF a.pB ["self"] (qaR a.bZ):=by
  refine T.DY.oU Lr (fun vs H Q E h=>?_) (fun cdv A outer s H vs Q E hr h=>?_)
  ·obtain⟨o,xs,ps,rfl,_⟩:=h;rfl
  ·obtain⟨o,xs,ps,rfl,⟨dx,n,m,tv,h1,h2,h3,h4,h5⟩,q⟩:=h;refine⟨_,(aF (aY (fj (uh (K:=K) rfl) rfl T.nm.list boot_list (aj (PE.eqv (Ij (K:=K) rfl (aM 0) rfl) (I_ _ _ _)) aq)))),?_⟩;right;refine⟨_,_,_,h1,T.qH,T.Ce,_,rfl,_,.inr (dW.of h3),fun l hl=>q l tv hl h4⟩
theorem lA.upd {p q:Addr} {H:Hp} {u:HO} (x:lA H p) (h:p≠q):lA (L2.upd H q u) p:=by
  obtain⟨a,b,e,r⟩:=x;exact⟨a,b,by rw[aC h];exact e,r⟩
theorem lA.ne {p q:Addr} {H:Hp} (x:lA H p) (h:H q=none):p≠q:=by
  obtain⟨a,b,e,r⟩:=x;exact aP e h
theorem lA.none {p b:Addr} {H H':Hp} (x:But p H H') (hp:lA H' p) (h:H' b = .none):H b = .none:=by
  obtain⟨a,b,e,r⟩:=hp;exact x.none e h
def Yk:Sp:=fun vs H Q _=>∃p l xs,vs=[.ref p,.ref l]∧lA H p∧l≠p∧H l=some (.lst xs)∧xs.length≤100∧∀r ys H',H r=none→H' r=some (.lst ys)→ys.Perm xs→lA H' p→But p H H'→Q (.ref r) H'
theorem yW (T:Txt K mg a):cg P w K mg base lC 2 a.nM a.yC ["_law_pot_here", "_law_things"] Yk:=by
  refine T.vo.oU DP (fun vs H Q E h=>?_) (fun cdv A outer s H vs Q E hr h=>?_)
  ·obtain⟨p,l,xs,rfl,_⟩:=h;rfl
  · obtain⟨p,l,xs,rfl,hp,hlp,hl,h100,q⟩:=h;refine⟨_,(aB (bC (i:=2) DP.nd rfl (Or.inl rfl) (jP aq))
      (aB (iI PassesOwn.never rfl (PI.eqv (dO (K:=K) rfl (aM 1)) (cP _ _)) (aR (i:=3) DP.nd rfl (Or.inl rfl))
      (aF (dZ (pO (K:=K) rfl PySem.F.plainAttrs_list PySem.F.slot_list_insert PySem.F.type_list_insert Om (aM 2) (aj (PE.eqv (aN (gq (K:=K) T) (hr.mono (by decide)) rfl T.iR T.iw.kp T.iQ .nil aV (aj (aM 0) (aj (cT jJ (aO (cB (K:=K) rfl) rfl T.nm.len PySem.boot_len (aj (aM 2) aq)) aK) aq))) (aG _ _ _)) (aj (aM 3) aq))))))
      (aF (aY (aM 2))))),?_⟩
    have h4':100<sizeLine:=by decide
    simp -dsimp[au,stC];intro r hr0;have hpr:p≠r:=hp.ne hr0;refine⟨⟨_,bw.of (bM hl hr0)⟩,frL xs (fun i σ H'=>∃v ys,σ=[some (.ref p),some (.ref l),some (.ref r),v]∧H' r=some (.lst ys)∧ys.Perm (xs.take i)∧lA H' p∧But p H H') ⟨none,[],rfl,ak,by simp,hp.upd hpr,(But.refl _ _).new hr0⟩ (fun i σ H' _ ⟨_,_,_,_,_,_,hb⟩=>bw.of (hb _ _ hlp hl)) ?_ ?_⟩
    · rintro i x σ H' hi ⟨v,ys,rfl,hr',hperm,hP,hB⟩;have hi2:i<xs.length:=(List.getElem?_eq_some_iff.mp hi).1;have hly:ys.length=i:=by
        have:=hperm.length_eq;simp at this;omega
      simp -dsimp[au,stC];refine⟨⟨_,bw.of hr'⟩,ys,.inl (bw.of hr'),p,_,rfl,hP,by omega,by omega,fun d H1 hd0 hd1 Mg Mh=>?_⟩;have hr1:H1 r=some (.lst ys):=Mh _ _ (Ne.symm hpr) hr';simp -dsimp[au,stC];refine⟨ys,hr1,hd0,by omega,by omega,_,ak,?_,Mg.upd hpr,(hB.trans Mh).new hr0⟩
      · rw[take_one hi];have e:(ys.take d.toNat++x::ys.drop d.toNat).Perm (x::ys):=by
          refine List.perm_middle.trans ?_;rw[List.take_append_drop]
        exact e.trans ((List.Perm.cons x hperm).trans (List.perm_append_singleton x _).symm)
    ·rintro σ H' ⟨v,ys,rfl,hr',hperm,hP,hB⟩;rw[List.take_length] at hperm;simp -dsimp[au,stC];exact q r ys H' hr0 hr' hperm hP hB
def qdK:Sp:=fun vs H Q _=>∃(p l:Addr) (xs:List Str),vs=[.ref p,.ref l]∧lA H p∧l≠p∧H l=some (.lst (xs.map V.str))∧2≤xs.length∧xs.length≤9∧xs.Nodup∧∀t x y H',H t=none→H' t=some (.tup [.str x,.str y])→x∈xs→y∈xs→x≠y→lA H' p→But p H H'→Q (.ref t) H'
theorem Yl (T:Txt K mg a):cg P w K mg base lC 2 a.yD a.Jp ["_law_pot_here", "_law_names_here"] qdK:=by
  refine T.Rp.oU O1 (fun vs H Q E h=>?_) (fun cdv A outer s H vs Q E hr h=>?_)
  ·obtain⟨p,l,xs,rfl,_⟩:=h;rfl
  · obtain⟨p,l,xs,rfl,hp,hlp,hl,h2,h9,hnd,q⟩:=h;refine⟨_,(aB (bC (i:=2) O1.nd rfl (Or.inl rfl) (PE.eqv (aN (gq (K:=K) T) (hr.mono (by decide)) rfl T.iR T.iw.kp T.iQ .nil aV (aj (aM 0) (aj (aO (cB (K:=K) rfl) rfl T.nm.len PySem.boot_len (aj (aM 1) aq)) aq))) (aG _ _ _)))
      (aB (bC (i:=3) O1.nd rfl (Or.inl rfl) (cT uY (cT jJ (cT jJ (aM 2) aK) (PE.eqv (aN (gq (K:=K) T) (hr.mono (by decide)) rfl T.iR T.iw.kp T.iQ .nil aV (aj (aM 0) (aj (cT nu (aO (cB (K:=K) rfl) rfl T.nm.len PySem.boot_len (aj (aM 1) aq)) aK) aq))) (aG _ _ _))) (aO (cB (K:=K) rfl) rfl T.nm.len PySem.boot_len (aj (aM 1) aq))))
      (aF (aY (fU (aj (bL (bO (K:=K) rfl) (aM 1) (aM 2) (fun _ _=>rfl)) (aj (bL (bO (K:=K) rfl) (aM 1) (aM 3) (fun _ _=>rfl)) aq))))))),?_⟩
    simp -dsimp[au,stC];refine⟨_,.inl (bw.of hl),p,_,rfl,hp,by simp;omega,by simp;omega,fun d H1 hd0 hd1 Mg Mh=>?_⟩;have hl1:=Mh _ _ hlp hl;simp -dsimp[au,stC];refine⟨_,.inl (bw.of hl1),p,_,rfl,Mg,by simp;omega,by simp;omega,fun e H2 he0 he1 hP2 hB2=>?_⟩;have hl2:=hB2 _ _ hlp hl1;simp only[List.length_map] at hd1 he1;obtain⟨m0,m1,m2⟩:=qcV hd0 hd1 he0 he1;obtain⟨vx,ex,ax⟩:=QS (xs:=xs.map V.str) hd0 (by simpa using hd1);obtain⟨vy,ey,ay⟩:=QS (xs:=xs.map V.str) m0 (by simpa using m1);obtain⟨x,ex',rfl⟩:=tX ex;obtain⟨y,ey',rfl⟩:=tX ey;have sl:=bw.of (K:=K) hl2;simp -dsimp[au,stC];refine⟨_,.inl sl,by simp;omega,_,.inl sl,_,ax,_,.inl sl,_,(by simpa using ay),fun t ht=>?_⟩;refine q t x y _ (lA.none (Mh.trans hB2) hP2 ht) ak (List.mem_of_getElem? ex') (List.mem_of_getElem? ey') (fun z=>?_) (hP2.upd (hP2.ne ht)) ((Mh.trans hB2).same (aA ht));subst z;have:=xQ hnd ex' ey';omega
def Ym:Sp:=fun vs H Q _=>∃(p:Addr) (m:Nat),vs=[.ref p,.int m]∧lA H p∧1≤m∧m≤9∧∀(r:Addr) (xs:List Str) (H':Hp),H r=none→H' r=some (.lst (xs.map V.str))→Pa xs→xs.length=m→lA H' p→But p H H'→Q (.ref r) H'
theorem Mi (T:Txt K mg a):cg P w K mg base lC 2 a.nJ a.yx ["_law_pot_here", "_law_many"] Ym:=by
  refine T.BZ.oU qD (fun vs H Q E h=>?_) (fun cdv A outer s H vs Q E hr h=>?_)
  ·obtain⟨p,m,rfl,_⟩:=h;rfl
  · obtain⟨p,m,rfl,hp,h1,h9,q⟩:=h;refine⟨_,(aB (bC (i:=2) qD.nd rfl (Or.inr rfl) mR)
      (aB (bC (i:=3) qD.nd rfl (Or.inl rfl) (PE.eqv (aN (gq (K:=K) T) (hr.mono (by decide)) rfl T.iR T.iw.kp T.iQ .nil aV (aj (aM 0) (aj aK aq))) (aG _ _ _)))
      (aB (bC (i:=4) qD.nd rfl (Or.inl rfl) (jP aq))
      (aB (iI PassesOwn.never rfl (PI.eqv (iB rfl T.nm.range (aj (aM 1) aq)) (iD _)) (aR (i:=5) qD.nd rfl (Or.inl rfl))
      (aB (jQ (i:=6) qD.nd rfl rfl rfl rfl (show aZ (ao lX) _ ["_law_pot_here", "_law_many", "_law_letters", "_law_begin", "_law_found", "_law_k", "_law_more"] ["_law_j"] [2,0] ["_law_j", "_law_letters", "_law_pot_here"] from⟨rfl,by decide+kernel,by decide+kernel,rfl,by decide+kernel,by decide+kernel⟩) rfl (PI.eqv (iB rfl T.nm.range (aj (PE.eqv (aN (gq (K:=K) T) (hr.mono (by decide)) rfl T.iR T.iw.kp T.iQ .nil aV (aj (aM 0) (aj aK aq))) (aG _ _ _)) aq)) (iD _)) (fun C s H fp pn=>(aR (i:=0) (show(["_law_j", "_law_letters", "_law_pot_here"]:List Str).Nodup by decide+kernel) rfl (Or.inl rfl))) (fun C s H fp pn=>dX) (fun C s H fp pn=>(bL Q8 (aM 1) (PE.eqv (aN (gq (K:=K) T) (hr.mono (by decide)) rfl T.iR T.iw.kp T.iQ .nil aV (aj (aM 2) (aj aK aq))) (aG _ _ _)) (fun _ _=>rfl))))
      (aF (dZ (pO (K:=K) rfl PySem.F.plainAttrs_list PySem.F.slot_list_append PySem.F.type_list_append iZ (aM 4) (aj (cT K4 (bL Q8 (aM 2) (cT uY (cT jJ (aM 3) (cT Bt aK (aM 5))) aK) (fun _ _=>rfl)) (pO (K:=K) rfl PySem.F.plainAttrs_str PySem.F.slot_str_join PySem.F.type_str_join Xl mR (aj (aM 6) aq))) aq))))))
      (aF (aY (aM 4))))))),?_⟩
    simp -dsimp[au,stC];refine⟨p,_,rfl,hp,by decide,by decide,fun d H1 hd0 hd1 Mg Mh=>?_⟩;obtain⟨b,rfl,qpp,hbl⟩:=tY hd0 hd1;have hP2:=Mg;have hB2:=Mh;simp -dsimp[au,stC];intro r hr0;refine⟨by omega,frR (fun i σ H'=>∃v8 v9 ws,σ=[some (.ref p),some (.int m),some (.str (Str.ofString "abcdefghijklmnopqrstuvwxyz")),some (.int b),some (.ref r),v8,v9]∧H' r=some (.lst (ws.map V.str))∧ws.length=i∧(∀(j:Nat) x,ws[j]? = some x→∃k,1≤k∧k≤4∧qX (97+(b+5 * j) % 26) k x)∧lA H' p∧But p H H') ⟨none,none,[],rfl,ak,rfl,fun j x e=>by simp at e,hP2.upd (hP2.ne hr0),hB2.same (aA hr0)⟩ ?_ ?_⟩
    · rintro i σ H' hi ⟨v8,v9,ws,rfl,hr',hl,hw,hP,hB⟩;simp -dsimp[au,stC];obtain⟨c,hc,qmj,hcl⟩:=tY (i:=((b:Int)+5 * i) % 26) (by omega) (by omega);have hc':c=(b+5 * i) % 26:=by omega
      have pr:r≠p:=fun z=>by subst z;obtain⟨_,_,u,_⟩:=hP2;rw[hr0] at u;cases u
      refine⟨p,_,rfl,hP,by decide,by decide,fun e H3 he0 he1 Nk hB3=>?_⟩;simp -dsimp[au,stC];have hDr:∀{D:Addr},H3 D=none→r≠D:=fun hD=>aP (hB3 _ _ pr hr') hD;refine⟨by omega,by omega,fun D hD=>cmR (fun j σ H4=>∃v ys,σ=[v,some (.str (Str.ofString "abcdefghijklmnopqrstuvwxyz")),some (.ref p)]∧H4 D=some (.lst (ys.map V.str))∧H4 r=some (.lst (ws.map V.str))∧ys.length=j∧(∀y∈ys,∃n,n<26∧y=(⟨#[97+n]⟩:Str))∧lA H4 p∧But p H H4) ⟨_,[],rfl,ak,bM (hB3 _ _ pr hr') hD,rfl,by simp,Nk.upd (Nk.ne hD),(hB.trans hB3).same (aA hD)⟩ ?_ ?_⟩
      · rintro j σ H4 hj ⟨v,ys,rfl,Ho,Yn,hyl,hys,Mj,Rw⟩;have hDp:D≠p:=(Nk.ne hD).symm;simp -dsimp[au,stC];refine⟨p,_,rfl,Mj,by decide,by decide,fun f H5 hf0 hf1 Ek Ml=>?_⟩;obtain⟨n,rfl,qmk,hnl⟩:=tY hf0 hf1;simp -dsimp[au,stC,Ac,hnl];have Zr:=of_eq_true Ip;refine⟨_,Ml _ _ hDp Ho,by simp;omega,ys++[⟨#[97+n]⟩],by rw[ak];simp,by rw[aC (hDr hD)];exact Ml _ _ pr Yn,by simp[hyl],fun y hy=>?_,Ek.upd hDp.symm,(Rw.trans Ml).new (lA.none (hB.trans hB3) Nk hD)⟩
        rcases List.mem_append.mp hy with hy | hy
        ·exact hys y hy
        ·exact⟨n,qmk,by simpa using hy⟩
      · rintro σ H4 ⟨v,ys,rfl,Ho,Yn,hyl,hys,Mj,Rw⟩;have hy3:=uc ys hys;simp -dsimp[au,stC];have hw4:=(qX.one qmj).glue (by decide) hys;have Zr:=of_eq_true Ip;refine⟨⟨_,bw.of Yn⟩,Ac,_,hcl,?_⟩;have hlen:(⟨#[97+c]⟩:Str).length+(Txt.join (Str.ofString "") ys).length=1+ys.length:=by
          rw[← hw4.len];exact(Array.size_append).symm
        refine⟨ys,Ho,by rw[hy3.2.2];show _+_ * 0≤_;omega,by omega,_,Yn,by simp;omega,ws++[_],by rw[ak];simp;rfl,by simp[hl],fun j y e=>?_,Mj.upd pr.symm,Rw.new (lA.none hB2 hP2 hr0)⟩
        by_cases hj:j<ws.length
        ·rw[List.getElem?_append_left hj] at e;exact hw j y e
        · rw[List.getElem?_append_right (by omega)] at e;cases hk:j - ws.length with
          | zero=>
            rw[hk] at e;simp at e;subst e;have ej:j=i:=by omega
            subst ej;exact⟨1+ys.length,by omega,by omega,by rw[← hc'];exact hw4⟩
          | succ k=>
            rw[hk] at e;simp at e
    · rintro σ H' ⟨v8,v9,ws,rfl,hr',hl,hw,hP,hB⟩;simp -dsimp[au,stC];have nd:ws.Nodup:=by
        unfold List.Nodup;rw[List.pairwise_iff_getElem];intro i j hi hj hij e;obtain⟨k1,_,_,w1⟩:=hw i _ (by simp[hi]:ws[i]? = some ws[i]);obtain⟨k2,_,_,w2⟩:=hw j _ (by simp[hj]:ws[j]? = some ws[j]);have z:=w1.fst;rw[e,w2.fst] at z;simp at z;omega
      refine q r ws H' (lA.none hB2 hP2 hr0) hr' ⟨by omega,fun x hx=>?_,nd⟩ hl hP hB;obtain⟨j,hj,e⟩:=List.mem_iff_getElem.mp hx;obtain⟨k,k1,k4,w⟩:=hw j x (by simp[hj,e]);exact w.name k1 k4
theorem bD.perm {H:Hp} {vs ys:List V} {ps:List (Str×Str)} (h:bD H vs ps) (hp:ys.Perm vs):∃qs:List (Str×Str),bD H ys qs∧qs.Perm ps:=by
  have e1:vs=(vs.zip ps).map (·.1):=by rw[List.map_fst_zip (by rw[h.1];exact Nat.le_refl _)]
  have e2:ps=(vs.zip ps).map (·.2):=by rw[List.map_snd_zip (by rw[h.1];exact Nat.le_refl _)]
  obtain⟨l',pl,e⟩:=xT hp _ e1;refine⟨l'.map (·.2),⟨by rw[e];simp,fun i v d h1 h2=>?_⟩,by rw[e2];exact pl.map _⟩;rw[e,List.getElem?_map] at h1;rw[List.getElem?_map] at h2;cases hz:l'[i]? with
  | none=>rw[hz] at h1;cases h1
  | some z=>
    rw[hz] at h1 h2;cases h1;cases h2;have hm:z∈vs.zip ps:=pl.mem_iff.mp (List.mem_of_getElem? hz);obtain⟨j,hj,ez⟩:=List.mem_iff_getElem.mp hm;have hj':j<vs.length∧j<ps.length:=by
      simp at hj;omega
    simp at ez;subst ez;exact h.2 j _ _ (by simp[hj'.1]) (by simp[hj'.2])
theorem bD.at {H:Hp} {vs:List V} {ps:List (Str×Str)} (h:bD H vs ps) {i:Nat} {v:V} (hv:vs[i]? = some v):∃e,ps[i]? = some e∧∃t,v = .ref t∧H t=some (.tup [.str e.1,.str e.2]):=by
  have hi:i<ps.length:=by rw[← h.1];exact(List.getElem?_eq_some_iff.mp hv).1
  exact⟨ps[i],by simp[hi],h.2 i v _ hv (by simp[hi])⟩
theorem bD.but {p:Addr} {H H':Hp} {vs:List V} {ps:List (Str×Str)} (h:bD H vs ps) (hp:lA H p) (b:But p H H'):bD H' vs ps:=h.keep fun c xs e=>b c _ (fun z=>by
  subst z;obtain⟨_,_,u,_⟩:=hp;rw[e] at u;cases u) e
theorem bD.same {H H':Hp} {vs:List V} {ps:List (Str×Str)} (h:bD H vs ps) (b:Same H H'):bD H' vs ps:=h.keep fun c xs e=>b c _ e
theorem lA.nl {p q:Addr} {H:Hp} (x:lA H p) (h:H q = .none):q≠p:=fun z=>(x.ne h) z.symm
def qdL:Sp:=fun vs H Q _=>∃(p:Addr) (m k:Nat),vs=[.ref p,.int m,.int k]∧lA H p∧1≤m∧m≤9∧m≤k∧k≤20∧∀(t n l:Addr) (xs:List Str) (tv:List V) (ps:List (Str×Str)) (H':Hp),
  H t=none→H n=none→H l=none→H' t=some (.tup [.ref n,.ref l])→H' n=some (.lst (xs.map V.str))→H' l=some (.lst tv)→bD H' tv ps→Pa xs→oK xs ps→xs.length≤m→ps.length≤k→lA H' p→But p H H'→Q (.ref t) H'
theorem qdM (T:Txt K mg a):cg P w K mg base lC 3 a.yE a.Jq ["_law_pot_here", "_law_points", "_law_most"] qdL:=by
  refine T.X8.oU rF (fun vs H Q E h=>?_) (fun cdv A outer s H vs Q E hr h=>?_)
  ·obtain⟨p,m,k,rfl,_⟩:=h;rfl
  · obtain⟨p,m,k,rfl,hp,h1,h9,hmk,hk,q⟩:=h;refine⟨_,(aB (bC (i:=3) rF.nd rfl (Or.inl rfl) (PE.eqv (aN (Mi (K:=K) T) (hr.mono (by decide)) rfl T.Jt T.BZ.kp T.Js .nil aV (aj (aM 0) (aj (cT jJ aK (PE.eqv (aN (gq (K:=K) T) (hr.mono (by decide)) rfl T.iR T.iw.kp T.iQ .nil aV (aj (aM 0) (aj (aM 1) aq))) (aG _ _ _))) aq))) (aG _ _ _)))
      (aB (bC (i:=4) rF.nd rfl (Or.inl rfl) (PE.eqv (aN (gq (K:=K) T) (hr.mono (by decide)) rfl T.iR T.iw.kp T.iQ .nil aV (aj (aM 0) (aj aK aq))) (aG _ _ _)))
      (aB (bC (i:=5) rF.nd rfl (Or.inl rfl) (jP aq))
      (aB (cR (bA Dr (aO (cB (K:=K) rfl) rfl T.nm.len PySem.boot_len (aj (aM 3) aq)) aK (bY _)) (aB (bC (i:=6) rF.nd rfl (Or.inr rfl) (PE.eqv (aN (yW (K:=K) T) (hr.mono (by decide)) rfl T.yP T.vo.kp T.yO .nil aV (aj (aM 0) (aj (aM 3) aq))) (aG _ _ _)))
      (aB (cR (bA Dr (aM 4) aK (bY _)) (aF (jQ (i:=5) rF.nd rfl rfl rfl rfl (show aZ (ao tD) _ ["_law_pot_here", "_law_points", "_law_most", "_law_names_here", "_law_kind", "_law_ties", "_law_row", "_law_k", "_law_turns"] ["_law_k"] [6] ["_law_k", "_law_row"] from⟨rfl,by decide+kernel,by decide+kernel,rfl,by decide+kernel,by decide+kernel⟩) rfl (PI.eqv (RX rfl T.nm.range (aj (fj Oj rfl T.nm.int Gw (aj (gO q_ (aM 4) aK (bY _)) aq)) (aj (aO (cB (K:=K) rfl) rfl T.nm.len PySem.boot_len (aj (aM 6) aq)) aq))) (TQ _)) (fun C s H fp pn=>(aR (i:=0) (show(["_law_k", "_law_row"]:List Str).Nodup by decide+kernel) rfl (Or.inl rfl))) (fun C s H fp pn=>dX) (fun C s H fp pn=>(fU (aj (bL (bO (K:=K) rfl) (aM 1) (cT nu (aM 0) aK) (fun _ _=>rfl)) (aj (bL (bO (K:=K) rfl) (aM 1) (aM 0) (fun _ _=>rfl)) aq)))))) bG)
      (aF (iI PassesOwn.never rfl (PI.eqv (iB rfl T.nm.range (aj (PE.eqv (aN (gq (K:=K) T) (hr.mono (by decide)) rfl T.iR T.iw.kp T.iQ .nil aV (aj (aM 0) (aj (cT jJ (cT nu (aM 2) (aO (cB (K:=K) rfl) rfl T.nm.len PySem.boot_len (aj (aM 5) aq))) aK) aq))) (aG _ _ _)) aq)) (iD _)) (aR (i:=7) rF.nd rfl (Or.inl rfl))
      (aF (dZ (pO (K:=K) rfl PySem.F.plainAttrs_list PySem.F.slot_list_append PySem.F.type_list_append iZ (aM 5) (aj (PE.eqv (aN (Yl (K:=K) T) (hr.mono (by decide)) rfl T.X7 T.Rp.kp T.X6 .nil aV (aj (aM 0) (aj (aM 3) aq))) (aG _ _ _)) aq)))))))) bG)
      (aB (jQ (i:=8) rF.nd rfl rfl rfl rfl (show aZ (ao tD) _ ["_law_pot_here", "_law_points", "_law_most", "_law_names_here", "_law_kind", "_law_ties", "_law_row", "_law_k", "_law_turns"] ["_law_tie_here"] [0] ["_law_tie_here", "_law_pot_here"] from⟨rfl,by decide+kernel,by decide+kernel,rfl,by decide+kernel,by decide+kernel⟩) rfl (PI.eqv (dO (K:=K) rfl (aM 5)) (cP _ _)) (fun C s H fp pn=>(aR (i:=0) (show(["_law_tie_here", "_law_pot_here"]:List Str).Nodup by decide+kernel) rfl (Or.inl rfl))) (fun C s H fp pn=>dX) (fun C s H fp pn=>(PE.eqv (aN (gq (K:=K) T) (hr.mono (by decide)) rfl T.iR T.iw.kp T.iQ .nil aV (aj (aM 1) (aj aK aq))) (aG _ _ _))))
      (aB (jQ (i:=5) rF.nd rfl rfl rfl rfl (show aZ (ao tD) _ ["_law_pot_here", "_law_points", "_law_most", "_law_names_here", "_law_kind", "_law_ties", "_law_row", "_law_k", "_law_turns"] ["_law_turn", "_law_a", "_law_b"] [] ["_law_turn", "_law_a", "_law_b"] from⟨rfl,by decide+kernel,by decide+kernel,rfl,by decide+kernel,by decide+kernel⟩) rfl (PI.eqv (QZ (K:=K) rfl rfl T.nm.zip (aj (aM 5) (aj (aM 8) aq))) (K8 _ _)) (fun C s H fp pn=>(PG.eqv (fJ (K:=K) (n:=2) rfl rfl (jC.eqv (bx (PG.eqv (fJ (K:=K) (n:=2) rfl rfl (jC.eqv (bx (aR (i:=1) (show(["_law_turn", "_law_a", "_law_b"]:List Str).Nodup by decide+kernel) rfl (Or.inl rfl)) (jC.eqv (bx (aR (i:=2) (show(["_law_turn", "_law_a", "_law_b"]:List Str).Nodup by decide+kernel) rfl (Or.inl rfl)) (jC.mono fH iK)) (bB _ _))) (bB _ _))) (fL _ _ _)) (jC.eqv (bx (aR (i:=0) (show(["_law_turn", "_law_a", "_law_b"]:List Str).Nodup by decide+kernel) rfl (Or.inl rfl)) (jC.mono fH iK)) (bB _ _))) (bB _ _))) (fL _ _ _))) (fun C s H fp pn=>dX) (fun C s H fp pn=>(bL (bO (K:=K) rfl) (jP (aj (fU (aj (aM 1) (aj (aM 2) aq))) (aj (fU (aj (aM 2) (aj (aM 1) aq))) aq))) (aM 0) (fun _ _=>rfl))))
      (aF (aY (fU (aj (aM 3) (aj (PE.eqv (aN (yW (K:=K) T) (hr.mono (by decide)) rfl T.yP T.vo.kp T.yO .nil aV (aj (aM 0) (aj (aM 5) aq))) (aG _ _ _)) aq))))))))))),?_⟩
    left;refine⟨p,_,rfl,hp,ql7 h1,zlt h9 (by decide),fun d H1 hd0 hd1 Mg Mh=>?_⟩;left;refine⟨p,d.toNat+1,?_,Mg,Nat.le_add_left 1 _,ztn hd0 hd1 h9,fun n xs H2 hn hn2 hX hxl hP2 hB2'=>?_⟩
    ·simp;exact ql9 hd0 1
    have L_:xs.length≤m:=by rw[hxl];exact ztn hd0 hd1 (Nat.le_refl m)
    have hx9:=Nat.le_trans L_ h9;have hB2:=Mh.trans hB2';left;refine⟨p,_,rfl,hP2,by decide,by decide,fun kd H3 hk0 hk1 Nk qgu=>?_⟩;have hB3:=hB2.trans qgu;have np:n≠p:=fun z=>by subst z;obtain⟨_,_,u,_⟩:=Mg;rw[hn] at u;cases u
    have hn3:=qgu _ _ np hn2;left;refine fun L hL=>⟨_,.inl (bw.of (bM hn3 hL)),Di (fun σ H4=>∃v6 v7 L tv ps,σ=[some (.ref p),some (.int m),some (.int k),some (.ref n),some (.int kd),some (.ref L),v6,v7,none]∧H L=none∧H4 L=some (.lst tv)∧bD H4 tv ps∧oK xs ps∧ps.length≤k∧H4 n=some (.lst (xs.map V.str))∧lA H4 p∧But p H H4) ?_ ?_⟩
    · rintro σ H4 ⟨v6,v7,L,tv,ps,rfl,hL0,Pb,htv,hts,hpk,hn4,Mj,Rw⟩;left;have Lp:L≠p:=hp.nl hL0;have Pg:tv.length≤20:=by rw[htv.1];exact Nat.le_trans hpk hk
      have Zr:=of_eq_true Ip;refine⟨⟨_,bw.of Pb⟩,fun D hD=>Zq tv (fun i σ H'=>∃v ds,σ=[v,some (.ref p)]∧H' D=some (.lst (ds.map V.int))∧ds.length=i∧(∀d∈ds,0≤d∧d<2)∧H' L=some (.lst tv)∧bD H' tv ps∧H' n=some (.lst (xs.map V.str))∧lA H' p∧But p H H') ⟨none,[],rfl,ak,rfl,by simp,bM Pb hD,htv.same (aA hD),bM hn4 hD,Mj.upd (Mj.ne hD),Rw.same (aA hD)⟩ (fun i σ H' _ h=>by
        obtain⟨_,_,_,_,_,_,z,_⟩:=h;exact bw.of z) ?_ ?_⟩
      · rintro i x σ H5 hi ⟨v,ds,rfl,Hq,hl,hds,hL5,qdN,hn5,Ek,Ml⟩;have hi2:i<tv.length:=(List.getElem?_eq_some_iff.mp hi).1;left;refine⟨p,_,rfl,Ek,by decide,by decide,fun d H6 hd0 hd1 Ph Mp=>?_⟩;have Dp:D≠p:=Mj.nl hD;have LD:L≠D:=aP Pb hD;have nD:n≠D:=aP hn4 hD;have Ul:=Mp _ _ Dp Hq;left;refine⟨_,Ul,by rw[List.length_map,hl];exact zsz hi2 Pg,ds++[d],by rw[ak];simp,by simp[hl],?_,by rw[aC LD];exact Mp _ _ Lp hL5,(qdN.but Ek Mp).keep (fun c zs e=>qW e Ul (by intro z;cases z)),by rw[aC nD];exact Mp _ _ np hn5,Ph.upd (Dp.symm),(Ml.trans Mp).new (lA.none Rw Mj hD)⟩;intro z hz
        rcases List.mem_append.mp hz with y | y
        ·exact hds z y
        ·simp at y;subst y;exact⟨hd0,hd1⟩
      · rintro σ H5 ⟨v,ds,rfl,Hq,hl,hds,hL5,qdN,hn5,Ek,Ml⟩;left;have hD0:=lA.none Rw Mj hD;have LD:L≠D:=aP Pb hD;refine⟨⟨_,bw.of hL5⟩,⟨_,bw.of Hq⟩,fun D2 hD2=>cmZ tv (ds.map V.int) (fun i σ H'=>(∃o1 o2 o3,σ=[o1,o2,o3])∧∃tvs qs,H' D2=some (.lst tvs)∧bD H' tvs qs∧qs.length=i∧(∀e∈qs,e.1∈xs∧e.2∈xs∧e.1≠e.2)∧H' L=some (.lst tv)∧H' D=some (.lst (ds.map V.int))∧bD H' tv ps∧H' n=some (.lst (xs.map V.str))∧lA H' p∧But p H H') ⟨⟨_,_,_,rfl⟩,[],[],ak,⟨rfl,by simp⟩,rfl,by simp,bM hL5 hD2,bM Hq hD2,qdN.same (aA hD2),bM hn5 hD2,Ek.upd (Ek.ne hD2),Ml.same (aA hD2)⟩ (by simp[hl]) (fun i σ H' _ h=>by
          obtain⟨_,_,_,_,_,_,_,z1,z2,_⟩:=h;exact⟨bw.of z1,bw.of z2⟩) ?_ ?_⟩
        · rintro i x y t σ H6 hx hy ht ⟨⟨o1,o2,o3,rfl⟩,tvs,qs,qdO,uK,hql,Yo,hL6,Ul,qdP,hn6,Ph,Mp⟩;left;obtain⟨e,he,tt,rfl,htt⟩:=qdP.at hx;have hi2:i<tv.length:=(List.getElem?_eq_some_iff.mp hx).1;have hem:=List.mem_of_getElem? he;rw[List.getElem?_map] at hy;obtain⟨d,hd,rfl⟩:∃d,ds[i]? = some d∧y = .int d:=by
            cases z:ds[i]? with
            | none=>rw[z] at hy;cases hy
            | some d=>rw[z] at hy;exact⟨d,rfl,(Option.some.inj hy).symm⟩
          have hd2:=hds d (List.mem_of_getElem? hd);refine⟨_,dW.of ak,rfl,_,dW.of (bM htt ht),rfl,?_⟩;left;refine fun p1 h1 p2 h2 p3 h3=>⟨_,.inl (bw.of ak),?_⟩;have hp1:=bM (u:=HO.lst [V.ref p1,V.ref p2]) (bM (u:=HO.tup [.str e.2,.str e.1]) (ak (H:=upd H6 t (HO.tup [V.ref tt,V.int d])) (a:=p1) (o:=HO.tup [.str e.1,.str e.2])) h2) h3;have hp2:=bM (u:=HO.lst [V.ref p1,V.ref p2]) (ak (H:=upd (upd H6 t (HO.tup [V.ref tt,V.int d])) p1 (HO.tup [.str e.1,.str e.2])) (a:=p2) (o:=HO.tup [.str e.2,.str e.1])) h3;have sm:=(((aA (o:=HO.tup [V.ref tt,V.int d]) ht).trans (aA (o:=HO.tup [.str e.1,.str e.2]) h1)).trans (aA (o:=HO.tup [.str e.2,.str e.1]) h2)).trans (aA (o:=HO.lst [V.ref p1,V.ref p2]) h3);generalize upd (upd (upd (upd H6 t (HO.tup [V.ref tt,V.int d])) p1 (HO.tup [.str e.1,.str e.2])) p2 (HO.tup [.str e.2,.str e.1])) p3 (HO.lst [V.ref p1,V.ref p2])=H9 at hp1 hp2 sm ⊢;have key:∃(pp:Addr) (e':Str×Str),Aa [V.ref p1,V.ref p2] d=some (.ref pp)∧H9 pp=some (.tup [.str e'.1,.str e'.2])∧e'.1∈xs∧e'.2∈xs∧e'.1≠e'.2:=by
            have ⟨q1,q2,q3⟩:=hts.ok e hem;have:d=0∨d=1:=z01 hd2.1 hd2.2
            rcases this with rfl | rfl
            ·exact⟨p1,e,rfl,hp1,q1,q2,q3⟩
            ·exact⟨p2,(e.2,e.1),rfl,hp2,q2,q1,Ne.symm q3⟩
          obtain⟨pp,e',a1,hpp,k1,k2,k3⟩:=key;have D2n:=hD2;have D2p:D2≠p:=Ek.nl hD2;have LD2:L≠D2:=aP hL5 hD2;have DD2:D≠D2:=aP Hq hD2;have nD2:n≠D2:=aP hn5 hD2;have Um:=sm _ _ qdO;have kp:cI H9 (upd H9 D2 (.lst (tvs++[.ref pp]))):=fun c zs e=>qW e Um (by intro z;cases z);have hP9:lA H9 p:=by
            obtain⟨u1,u2,u3,u4⟩:=Ph;exact⟨u1,u2,sm _ _ u3,u4⟩
          refine⟨_,a1,_,Um,?_,_,ak,qs++[e'],((uK.same sm).keep kp).snoc (kp _ _ hpp),by simp[hql],?_,by rw[aC LD2];exact sm _ _ hL6,by rw[aC DD2];exact sm _ _ Ul,(qdP.same sm).keep kp,by rw[aC nD2];exact sm _ _ hn6,hP9.upd D2p.symm,(Mp.same sm).new (lA.none Ml Ek hD2)⟩
          ·rw[uK.1,hql];exact zsz hi2 Pg
          · intro z hz
            rcases List.mem_append.mp hz with y | y
            ·exact Yo z y
            ·simp at y;subst y;exact⟨k1,k2,k3⟩
        · rintro σ H6 ⟨⟨o1,o2,o3,rfl⟩,tvs,qs,qdO,uK,hql,Yo,hL6,Ul,qdP,hn6,Ph,Mp⟩;left;have D2p:D2≠p:=Ek.nl hD2;have qpq:=lA.none Ml Ek hD2;have tl:tvs.length=tv.length:=by rw[uK.1,hql]
          refine⟨p,D2,_,rfl,Ph,D2p,qdO,by rw[tl];exact Nat.le_trans Pg (by decide),fun l ys H7 hl0 hl7 hperm Uo Vq=>?_⟩;left;intro t ht;obtain⟨rs,hrs,hrp⟩:=(uK.but Ph Vq).perm hperm;refine q t n l xs ys rs _ (lA.none (Mp.trans Vq) Uo ht) (lA.none Mh Mg hn) (lA.none Mp Ph hl0) ak (bM (Vq _ _ np hn6) ht) (bM hl7 ht) (hrs.same (aA ht)) hX ⟨?_,fun e he=>Yo e (hrp.mem_iff.mp he)⟩ L_ ?_ (Uo.upd (Uo.ne ht)) ((Mp.trans Vq).same (aA ht))
          ·rw[hrp.length_eq,hql];exact Pg
          ·rw[hrp.length_eq,hql,htv.1];exact hpk
    · intro N hN;refine gM.of (fun h=>?_) (fun h=>?_)
      · left;have hx2:2≤xs.length:=by simp at h;exact z2 h
        have qgv:upd H3 L (.lst []) n=some (.lst (xs.map V.str)):=bM hn3 hL;refine⟨p,n,_,rfl,Nk.upd (Nk.ne hL),np,qgv,by rw[List.length_map];exact Nat.le_trans hx9 (by decide),fun rw ys H4 hrw qgw hperm Mj qdQ=>?_⟩;have Rw:=(hB3.same (aA hL)).trans qdQ;obtain⟨zs,hzp,rfl⟩:=xT hperm xs rfl;have hzl:zs.length=xs.length:=hzp.length_eq;have qgx:zs.Nodup:=hzp.nodup_iff.mpr hX.nd;have hn4:=qdQ _ _ np qgv;have Pb:H4 L=some (.lst []):=qdQ _ _ (Nk.nl hL) ak;have hL0:=lA.none hB3 Nk hL;left;refine Di (fun σ H5=>∃v6 v7 L tv ps,σ=[some (.ref p),some (.int m),some (.int k),some (.ref n),some (.int kd),some (.ref L),v6,v7,none]∧H L=none∧H5 L=some (.lst tv)∧bD H5 tv ps∧oK xs ps∧ps.length≤m∧H5 n=some (.lst (xs.map V.str))∧lA H5 p∧But p H H5) ?_ ?_
        · rintro σ H5 ⟨v6,v7,L,tv,ps,rfl,hL0,hL5,htv,hts,hpm,hn5,Ek,Ml⟩;left;have Lp:L≠p:=hp.nl hL0;have Pg:tv.length=ps.length:=htv.1;have Zr:=of_eq_true Ip;have htk:tv.length≤k:=by rw[Pg];exact Nat.le_trans hpm hmk
          refine⟨_,.inl (bw.of hL5),p,_,rfl,Ek,zk1 htk,zk2 hk (by decide),fun f H6 hf0 hf1 Ph qaS=>?_⟩;left;refine⟨zlo hf0,Int.lt_trans hf1 (zk2 hk (by decide)),frR (fun i σ H7=>∃v7 tv ps,σ=[some (.ref p),some (.int m),some (.int k),some (.ref n),some (.int kd),some (.ref L),v6,v7,none]∧H7 L=some (.lst tv)∧bD H7 tv ps∧oK xs ps∧ps.length+f.toNat≤k+i∧H7 n=some (.lst (xs.map V.str))∧lA H7 p∧But p H H7) ⟨v7,tv,ps,rfl,qaS _ _ Lp hL5,htv.but Ek qaS,hts,zk3 hf0 hf1 Pg,qaS _ _ np hn5,Ph,Ml.trans qaS⟩ ?_ ?_⟩
          · rintro i σ H7 hi ⟨v7,tv,ps,rfl,Vr,Mq,qdR,hpl,hn7,Uo,Vq⟩;left;refine⟨⟨_,bw.of Vr⟩,p,n,xs,rfl,Uo,np,hn7,hx2,hx9,hX.nd,fun t x y H8 ht ht8 hx hy hxy hP8 hB8=>?_⟩;left;have hL8:=hB8 _ _ Lp Vr;have hl7:=Mq.1;have kp:cI H8 (upd H8 L (.lst (tv++[.ref t]))):=fun c zs e=>qW e hL8 (by intro z;cases z);have nL:n≠L:=fun z=>by subst z;rw[lA.none Mh Mg hn] at hL0;rw[hn7] at Vr;cases tv with
              | nil=>simp at Vr;rw[Vr] at hx2;simp at hx2
              | cons v tv=>
                obtain⟨e,_,u,rfl,_⟩:=Mq.at (i:=0) rfl;cases xs with
                | nil=>simp at hx2
                | cons x xs=>simp at Vr
            refine⟨_,hL8,zk4 hl7 hpl hi hk,_,ak,ps++[(x,y)],((Mq.but Uo hB8).keep kp).snoc (kp _ _ ht8),⟨by rw[List.length_append];exact Nat.succ_le_succ (zk5 hpl hi hk),?_⟩,by rw[List.length_append];exact zk6 hpl,by rw[aC nL];exact hB8 _ _ np hn7,hP8.upd Lp.symm,(Vq.trans hB8).new hL0⟩;intro e he
            rcases List.mem_append.mp he with z | z
            ·exact qdR.ok e z
            ·simp at z;subst z;exact⟨hx,hy,hxy⟩
          ·rintro σ H7 ⟨v7,tv,ps,rfl,Vr,Mq,qdR,hpl,hn7,Uo,Vq⟩;left;exact hN _ _ ⟨_,_,L,tv,ps,rfl,hL0,Vr,Mq,qdR,zk7 hpl,hn7,Uo,Vq⟩
        · intro N2 hN2;refine gM.of (fun h=>?_) (fun h=>?_)
          · left;obtain⟨lo,hlo,lo1⟩:∃lo:Nat,(if kd=3 then (1:Int) else 0)=lo∧lo≤1:=by
              split
              ·exact⟨1,rfl,Nat.le_refl _⟩
              ·exact⟨0,rfl,by decide⟩
            simp only[hlo];have Zr:=of_eq_true Ip;refine⟨_,.inl (bw.of qgw),⟨ql8,zlt lo1 (by decide),zlt (by rw[List.length_map,hzl];exact hx9) (by decide)⟩,fun D hD=>cmR (fun i σ H5=>(∃o,σ=[o,some (.ref rw)])∧∃tvs qs,H5 D=some (.lst tvs)∧bD H5 tvs qs∧qs.length=i∧(∀e∈qs,e.1∈xs∧e.2∈xs∧e.1≠e.2)∧Same H4 H5) ⟨⟨_,rfl⟩,[],[],ak,⟨rfl,by simp⟩,rfl,by simp,aA hD⟩ ?_ ?_⟩
            · rintro i σ H5 hi ⟨⟨o,rfl⟩,tvs,qs,Hq,uK,hql,Yo,sm⟩;have hk:lo+i<zs.length:=by simp at hi;exact ql_ hi
              obtain⟨j,vx,hj,ex,ax⟩:=WQ (xs:=zs.map V.str) (k:=lo+i) (by rw[List.length_map,hzl];exact hx2) (by simpa using hk);obtain⟨x,ex',rfl⟩:=tX ex;have ey':zs[lo+i]? = some (zs[lo+i]'hk):=by simp[hk]
              have ay:Aa (zs.map V.str) ((lo+i:Nat):Int)=some (.str (zs[lo+i]'hk)):=aU (by rw[List.getElem?_map,ey'];rfl);have c1:((lo+i:Nat):Int)=(lo:Int)+i:=Int.natCast_add ..;rw[c1] at ax ay;have sl:=bw.of (K:=K) (sm _ _ qgw);left;refine⟨_,.inl sl,_,ax,_,.inl sl,_,ay,fun pt hpt=>?_⟩;have Dpt:=aP Hq hpt;have Ul:upd H5 pt (.tup [.str x,.str (zs[lo+i]'hk)]) D=some (.lst tvs):=bM Hq hpt;have kp:cI (upd H5 pt (.tup [.str x,.str (zs[lo+i]'hk)])) (upd (upd H5 pt (.tup [.str x,.str (zs[lo+i]'hk)])) D (.lst (tvs++[.ref pt]))):=fun c zs e=>qW e Ul (by intro z;cases z);have hl:=uK.1;refine⟨_,Ul,by rw[hl,hql];exact zsz (Nat.lt_of_le_of_lt (Nat.le_add_left i lo) hk) (by rw[hzl];exact Nat.le_trans hx9 (by decide)),_,ak,qs++[(x,zs[lo+i]'hk)],((uK.same (aA hpt)).keep kp).snoc (kp _ _ ak),by simp[hql],?_,aW (sm.trans (aA hpt)) hD⟩;intro e he
              rcases List.mem_append.mp he with z | z
              ·exact Yo e z
              ·simp at z;subst z;refine⟨hzp.mem_iff.mp (List.mem_of_getElem? ex'),hzp.mem_iff.mp (List.mem_of_getElem? ey'),fun z=>hj ?_⟩;simp only at z;rw[← z] at ey';exact xQ qgx ex' ey'
            · rintro σ H5 ⟨⟨o,rfl⟩,tvs,qs,Hq,uK,hql,Yo,sm⟩;left;simp at hql;have hqm:qs.length≤m:=by rw[hql,hzl];exact Nat.le_trans (Nat.sub_le ..) L_
              have Ek:lA H5 p:=by
                obtain⟨u1,u2,u3,u4⟩:=Mj;exact⟨u1,u2,sm _ _ u3,u4⟩
              exact hN2 _ _ ⟨_,_,D,tvs,qs,rfl,lA.none Rw Mj hD,Hq,uK,⟨Nat.le_trans hqm (Nat.le_trans h9 (by decide)),Yo⟩,hqm,sm _ _ hn4,Ek,Rw.same sm⟩
          ·left;exact hN2 _ _ ⟨_,_,L,[],[],rfl,hL0,Pb,⟨rfl,by simp⟩,⟨by simp,by simp⟩,by simp,hn4,Mj,Rw⟩
      ·left;exact hN _ _ ⟨_,_,L,[],[],rfl,lA.none hB3 Nk hL,ak,⟨rfl,by simp⟩,⟨by simp,by simp⟩,by simp,bM hn3 hL,Nk.upd (Nk.ne hL),hB3.same (aA hL)⟩
theorem qgy {m:Str} {u v:V} (h1:¬m = "names") (h2:¬m = "pairs"):∀p∈([("names",u),("pairs",v)]:List (Str×V)),¬m=p.1:=fun p hp=>by
  simp at hp
  rcases hp with rfl | rfl
  ·exact h1
  ·exact h2
theorem fQ.same {C:Addr} {H H':Hp} {o:Addr} {xs:List Str} {ps:List (Str×Str)} (h:fQ C H o xs ps) (s:Same H H'):fQ C H' o xs ps:=by
  obtain⟨dx,n,m,tv,h1,h2,h3,h4,h5⟩:=h.ex;exact⟨⟨dx,n,m,tv,s _ _ h1,s _ _ h2,s _ _ h3,bD.same h4 s,h5⟩⟩
theorem fQ.ins {C:Addr} {H:Hp} {o:Addr} {xs:List Str} {ps:List (Str×Str)} (h:fQ C H o xs ps) {m:Str} (h1:¬m = "names") (h2:¬m = "pairs"):∃dx fs,H o=some (.ins C dx fs)∧∀p∈fs,¬m=p.1:=by
  obtain⟨dx,n,mm,tv,e,_⟩:=h.ex;exact⟨dx,_,e,qgy h1 h2⟩
theorem Cg:¬(("ties" : Str) = "names")∧¬(("ties" : Str) = "pairs"):=by decide+kernel
theorem vA:¬(("points" : Str) = "names")∧¬(("points" : Str) = "pairs"):=by decide+kernel
theorem vB:¬(("many" : Str) = "names")∧¬(("many" : Str) = "pairs"):=by decide+kernel
def El (C:Addr):Sp:=fun vs H Q _=>∃o d xs ps fx,vs=[.ref o,.ref d]∧fQ C H o xs ps∧KJ H d fx∧∀l tv H',H l=none→H' l=some (.lst tv)→fK H' tv (aD fx ps 0)→tv.length≤40→Same H H'→Q (.ref l) H'
theorem uL (T:Txt K mg a):cg P w K mg base lC 2 a.dG a.kI ["web", "fixed"] (El a.bZ):=by
  refine T.mz.oU jd (fun vs H Q E h=>?_) (fun cdv A outer s H vs Q E hr h=>?_)
  ·obtain⟨o,d,xs,ps,fx,rfl,_⟩:=h;rfl
  · obtain⟨o,d,xs,ps,fx,rfl,hw,hfx,q⟩:=h;refine⟨_,(aB (bC (i:=2) jd.nd rfl (Or.inl rfl) (jP aq))
      (aB (iI PassesOwn.never rfl (PI.eqv (Im (K:=K) rfl rfl T.Jj.enumerate (aj (PE.eqv (n6 (aM 0) T.qH T.wL (Aw (K:=K) T) (hr.mono (by decide)) T.wK .nil aV) (oh _ _ _ _ _ _)) aq)) (zJ _ _)) (PG.eqv (fJ (K:=K) (n:=2) rfl rfl (jC.eqv (bx (aR (i:=3) jd.nd rfl (Or.inl rfl)) (jC.eqv (bx (PG.eqv (fJ (K:=K) (n:=2) rfl rfl (jC.eqv (bx (aR (i:=4) jd.nd rfl (Or.inl rfl)) (jC.eqv (bx (aR (i:=5) jd.nd rfl (Or.inl rfl)) (jC.mono fH iK)) (bB _ _))) (bB _ _))) (fL _ _ _)) (jC.mono fH iK)) (bB _ _))) (bB _ _))) (fL _ _ _))
      (aB (cR (bA q_ (PE.eqv (Dh (j8 hr) (aM 1) (aM 3) aK ⟨rfl,rfl,rfl,rfl⟩) (zK _ _ _)) aK (bY _)) (aF (dZ (pO (K:=K) rfl PySem.F.plainAttrs_list PySem.F.slot_list_append PySem.F.type_list_append iZ (aM 2) (aj (fU (aj (aM 3) (aj (aM 4) (aj (aM 5) aq)))) aq)))) bG)
      (aF (cR (bA q_ (PE.eqv (Dh (j8 hr) (aM 1) (aM 3) aK ⟨rfl,rfl,rfl,rfl⟩) (zK _ _ _)) aK (bY _)) (aF (dZ (pO (K:=K) rfl PySem.F.plainAttrs_list PySem.F.slot_list_append PySem.F.type_list_append iZ (aM 2) (aj (fU (aj (aM 3) (aj (aM 5) (aj (aM 4) aq)))) aq)))) bG))))
      (aF (aY (aM 2))))),?_⟩
    obtain⟨dx,fs,hi,hno⟩:=hw.ins Cg.1 Cg.2;obtain⟨_,_,_,_,_,_,_,_,Ej⟩:=hw.ex;left;intro L hL;refine⟨_,_,bM hi hL,hno,o,xs,ps,rfl,hw.same (aA hL),fun l2 Ax hl2 qdS=>?_⟩;have sa:Same H (upd (upd H L (.lst [])) l2 (.lst Ax)):=(aA hL).trans (aA hl2);have eL:upd (upd H L (.lst [])) l2 (.lst Ax) L=some (.lst []):=bM ak hl2;have e2:upd (upd H L (.lst [])) l2 (.lst Ax) l2=some (.lst Ax):=ak;have JB:=bD.same qdS (aA (o:=HO.lst Ax) hl2);have L2n:L≠l2:=fun z=>by subst z;rw[ak] at hl2;cases hl2
    generalize upd (upd H L (.lst [])) l2 (.lst Ax)=H1 at sa eL e2 JB ⊢;obtain⟨kvs,hd,hv⟩:=hfx;have dL:d≠L:=aP hd hL;left;refine⟨⟨_,bw.of e2⟩,frE Ax (fun i σ H'=>(∃v3 v4 v5 sv,σ=[some (.ref o),some (.ref d),some (.ref L),v3,v4,v5]∧H' L=some (.lst sv)∧fK H' sv (aD fx (ps.take i) 0)∧sv.length≤2 * i)∧H' l2=some (.lst Ax)∧bD H' Ax ps∧Same H H') ⟨⟨_,_,_,[],rfl,eL,iU.nil,by simp⟩,e2,JB,sa⟩ (fun i σ H' _ h=>bw.of h.2.1) ?_ ?_⟩
    · rintro i x t σ H2 hi ht ⟨⟨v3,v4,v5,sv,rfl,hL2,hsv,hsl⟩,qgz,htv,s2⟩;have hi2:i<Ax.length:=(List.getElem?_eq_some_iff.mp hi).1;have tl:=htv.1;obtain⟨e,he,tt,rfl,htt⟩:=htv.at hi;rw[qZ fx he];unfold j9;left;have st:Same H2 (upd H2 t (.tup [.int i,.ref tt])):=aA ht;refine⟨_,dW.of ak,rfl,_,dW.of (st _ _ htt),rfl,isD (st _ _ (s2 _ _ hd)),_,qfQ i (st _ _ (s2 _ _ hd)),?_⟩;have tL:L≠t:=aP hL2 ht;have Yp:=st _ _ hL2;have Uq:=st _ _ qgz;have JB:=bD.same htv st;have s3:=s2.trans st;have qdT:=fK.keep hsv (L2.cI.of st);generalize upd H2 t (.tup [.int i,.ref tt])=H3 at Yp Uq JB s3 qdT ⊢;have Rx:60≤sizeLine:=by decide
      have add:∀(H3:Hp) (sv:List V) (S:List jl) (n:Nat) (x y:Str) (b:Addr),H3 L=some (.lst sv)→fK H3 sv S→H3 b=none→H3 l2=some (.lst Ax)→bD H3 Ax ps→Same H H3→
          (upd (upd H3 b (.tup [.int n,.str x,.str y])) L (.lst (sv++[.ref b])) L=some (.lst (sv++[.ref b]))∧fK (upd (upd H3 b (.tup [.int n,.str x,.str y])) L (.lst (sv++[.ref b]))) (sv++[.ref b]) (S++[(n,x,y)]))∧upd (upd H3 b (.tup [.int n,.str x,.str y])) L (.lst (sv++[.ref b])) l2=some (.lst Ax)∧bD (upd (upd H3 b (.tup [.int n,.str x,.str y])) L (.lst (sv++[.ref b]))) Ax ps∧Same H (upd (upd H3 b (.tup [.int n,.str x,.str y])) L (.lst (sv++[.ref b]))):=by
        intro H3 sv S n x y b Yp hsv hb hl2 htv s3;have sb:Same H3 (upd H3 b (.tup [.int n,.str x,.str y])):=aA hb;have kp:L2.cI (upd H3 b (.tup [.int n,.str x,.str y])) (upd (upd H3 b (.tup [.int n,.str x,.str y])) L (.lst (sv++[.ref b]))):=L2.cI.set (sb _ _ Yp) (by intro z e;cases e);refine⟨⟨ak,iU.snoc (fK.keep (fK.keep hsv (L2.cI.of sb)) kp) ⟨b,rfl,kp _ _ ak⟩⟩,by rw[aC L2n.symm];exact sb _ _ hl2,(bD.same htv sb).keep kp,aW (s3.trans sb) hL⟩
      rw[hv i,KN];left;refine Di (fun σ H4=>(∃sv,σ=[some (.ref o),some (.ref d),some (.ref L),some (.int i),some (.str e.1),some (.str e.2)]∧H4 L=some (.lst sv)∧fK H4 sv (aD fx (ps.take i) 0++if (fx i).getD 0=0 then [(i,e.1,e.2)] else [])∧sv.length≤2 * i+1)∧H4 l2=some (.lst Ax)∧bD H4 Ax ps∧Same H H4) ?_ ?_
      · rintro σ H4 ⟨⟨sv,rfl,Pb,qgA,qdU⟩,Ur,Us,s4⟩;left;refine⟨isD (s4 _ _ hd),_,qfQ i (s4 _ _ hd),?_⟩;rw[hv i,KN];left;refine gM.of (fun h=>?_) (fun h=>?_)
        · have h':(fx i).getD 1=1:=by simpa using h
          left;refine⟨⟨_,bw.of Pb⟩,fun b hb=>?_⟩;refine⟨_,bM Pb hb,zs1 qdU hi2 tl Ej,?_⟩;obtain⟨⟨k1,k2⟩,k3,k4,k5⟩:=add H4 sv _ i e.2 e.1 b Pb qgA hb Ur Us s4;refine⟨⟨_,k1,?_,by rw[List.length_append];exact zs2 qdU⟩,k3,k4,k5⟩;rw[if_pos h',← List.append_assoc];exact k2
        · have h':¬(fx i).getD 1=1:=by simpa using h
          left;refine⟨⟨_,Pb,?_,Nat.le_of_succ_le (zs2 qdU)⟩,Ur,Us,s4⟩;rw[if_neg h',List.append_nil];exact qgA
      · intro N hN;refine gM.of (fun h=>?_) (fun h=>?_)
        · have h':(fx i).getD 0=0:=by simpa using h
          left;refine⟨⟨_,bw.of Yp⟩,fun b hb=>?_⟩;refine⟨_,bM Yp hb,zs1 (Nat.le_succ_of_le hsl) hi2 tl Ej,?_⟩;obtain⟨⟨k1,k2⟩,k3,k4,k5⟩:=add H3 sv _ i e.1 e.2 b Yp qdT hb Uq JB s3;refine hN _ _ ⟨⟨_,rfl,k1,?_,by rw[List.length_append];exact Nat.succ_le_succ hsl⟩,k3,k4,k5⟩;rw[if_pos h'];exact k2
        · have h':¬(fx i).getD 0=0:=by simpa using h
          left;refine hN _ _ ⟨⟨_,rfl,Yp,?_,Nat.le_succ_of_le hsl⟩,Uq,JB,s3⟩;rw[if_neg h',List.append_nil];exact qdT
    ·rintro σ H2 ⟨⟨v3,v4,v5,sv,rfl,hL2,hsv,hsl⟩,qgz,htv,s2⟩;left;rw[htv.1,List.take_length] at hsv;have tl:=htv.1;exact q L sv H2 hL hL2 hsv (zs3 hsl tl Ej) s2
def Gb:Sp:=fun vs H Q _=>∃(start:Str) (l:Addr) (tv:List V) (S:List jl) (xs:List Str),vs=[.str start,.ref l]∧H l=some (.lst tv)∧fK H tv S∧start∈xs∧(∀s∈S,s.2.2∈xs)∧xs.length≤9∧
  ∀(d:Addr) (kvs:List (Key×V)) (R:BR) (H':Hp),H d=none→H' d=some (.dK kvs)→gQ H' kvs R→Nf S start R.length R→ql6 S start R→rm H kvs→Same H H'→Q (.ref d) H'
theorem Gd (T:Txt K mg a):cg P w K mg base lC 1 a.eF a.lZ ["start", "steps"] Gb:=by
  refine T.rW.oU dF (fun vs H Q E h=>?_) (fun cdv A outer s H vs Q E hr h=>?_)
  ·obtain⟨start,l,tv,S,xs,rfl,_⟩:=h;rfl
  · obtain⟨start,l,tv,S,xs,rfl,hl,hS,hsx,Np,h9,q⟩:=h;refine⟨_,(aB (bC (i:=2) dF.nd rfl (Or.inl rfl) (QW (KC (aM 0) (jP aq) QV) rfl rfl (by simp) (by decide)))
      (aB (bC (i:=3) dF.nd rfl (Or.inl rfl) (jP (aj (aM 0) aq)))
      (aB (bC (i:=4) dF.nd rfl (Or.inl rfl) aK)
      (aB (VD PassesOwn.never (bA uf (aM 4) (aO (cB (K:=K) rfl) rfl T.nm.len PySem.boot_len (aj (aM 3) aq)) (bY _))
      (aB (bC (i:=5) dF.nd rfl (Or.inl rfl) (bL (bO (K:=K) rfl) (aM 3) (aM 4) (fun _ _=>rfl)))
      (aB (iI PassesOwn.never rfl (PI.eqv (dO (K:=K) rfl (aM 1)) (cP _ _)) (PG.eqv (fJ (K:=K) (n:=3) rfl rfl (jC.eqv (bx (aR (i:=6) dF.nd rfl (Or.inl rfl)) (jC.eqv (bx (aR (i:=7) dF.nd rfl (Or.inl rfl)) (jC.eqv (bx (aR (i:=8) dF.nd rfl (Or.inl rfl)) (jC.mono fH iK)) (bB _ _))) (bB _ _))) (bB _ _))) (fL _ _ _))
      (aF (cR (PW.pt (zq (bA q_ (aM 7) (aM 5) (bY _)) (Bm (Iv (PC.eqv (GF (j8 hr) (aM 8) (aM 2)) (Dt _ _)))))) (aB (PS.eqv (uW (j8 hr) (aM 2) (aM 8) (cT xY (PE.eqv (qY (j8 hr) (aM 2) (aM 5) (fun _ _=>rfl)) (ou _ _)) (jP (aj (aM 6) aq))) rfl) (qy _ _ _))
      (aF (dZ (pO (K:=K) rfl PySem.F.plainAttrs_list PySem.F.slot_list_append PySem.F.type_list_append iZ (aM 3) (aj (aM 8) aq))))) bG)))
      (aF (PS.mono (qcm (i:=4) dF.nd rfl (Or.inl rfl) aK qas) qdr)))))
      (aF (aY (aM 2))))))),?_⟩
    simp -dsimp[au,stC];intro d hd p1 hp1;refine⟨bM ak hp1,[(Sum.inr start,.ref p1)],rfl,by simp,fun rl hrl=>?_⟩;have em:t_ [] [((Sum.inr start:Key),V.ref p1)]=[(Sum.inr start,.ref p1)]:=rfl;rw[em] at hrl ⊢;have dp1:d≠p1:=fun z=>by subst z;rw[ak] at hp1;cases hp1
    have qml:H p1=none:=bV (aA hd) hp1;have sa:Same H (upd (upd (upd H d (.dK [])) p1 (.lst [])) d (.dK [(Sum.inr start,.ref p1)])):=aW ((aA hd).trans (aA hp1)) hd;have qmm:H rl=none:=bV sa hrl;have e1:upd (upd (upd H d (.dK [])) p1 (.lst [])) d (.dK [(Sum.inr start,.ref p1)]) d=some (.dK [(Sum.inr start,.ref p1)]):=ak;have e2:upd (upd (upd H d (.dK [])) p1 (.lst [])) d (.dK [(Sum.inr start,.ref p1)]) p1=some (.lst []):=by rw[aC dp1.symm];exact ak
    generalize upd (upd (upd H d (.dK [])) p1 (.lst [])) d (.dK [(Sum.inr start,.ref p1)])=H1 at sa hrl e1 e2 ⊢;have sb:=sa.trans (aA (o:=.lst [.str start]) hrl);have dr:d≠rl:=aP e1 hrl;have qgB:rm H [((Sum.inr start:Key),V.ref p1)]:=by
      intro kv hkv q hq;simp at hkv;subst hkv;cases hq;exact qml
    refine whB (fun σ H'=>∃(n:Nat) (R:BR) (kvs:List (Key×V)) (o5 o6 o7 o8:Option V),σ=[some (.str start),some (.ref l),some (.ref d),some (.ref rl),some (.int n),o5,o6,o7,o8]∧H' d=some (.dK kvs)∧gQ H' kvs R∧H' rl=some (.lst (R.map fun yw=>.str yw.1))∧Nf S start n R∧zL S start n=R∧rm H kvs∧n≤R.length∧Same H H')
      (fun σ _=>qfR 4 σ)
      ⟨0,[(start,[])],[(Sum.inr start,.ref p1)],none,none,none,none,rfl,bM e1 hrl,⟨rfl,?_⟩,ak,Nf.begin S start,rfl,qgB,by simp,sb⟩ ?_ K9
    · intro i kv yw h1 h2;have hi:i=0:=by have:=(List.getElem?_eq_some_iff.mp h1).1;simp at this;omega
      subst hi;simp at h1 h2;subst h1 h2;exact⟨rfl,p1,rfl,bM e2 hrl⟩
    · rintro σ H2 ⟨n,R,kvs,o5,o6,o7,o8,rfl,hd2,hW2,hr2,hB,hF,hN,hnR,s2⟩;have hR9:R.length≤9:=by
        have h1:=iC hB.nd (hB.sub hsx Np);simp at h1;omega
      simp -dsimp[au,stC];refine⟨_,.inl (bw.of hr2),gM.of (fun hlt=>?_) (fun hlt=>?_)⟩
      · have hlt':n<R.length:=by simpa using hlt
        simp -dsimp[au,stC];obtain⟨⟨hh,wh⟩,hR⟩:∃x,R[n]? = some x:=⟨R[n],by simp[hlt']⟩;refine⟨_,.inl (bw.of hr2),.str hh,aU (by rw[List.getElem?_map,hR];rfl),⟨_,bw.of (s2 _ _ hl)⟩,frL tv (fun j σ H'=>∃(R:BR) (kvs:List (Key×V)) (o6 o7 o8:Option V),σ=[some (.str start),some (.ref l),some (.ref d),some (.ref rl),some (.int n),some (.str hh),o6,o7,o8]∧H' d=some (.dK kvs)∧gQ H' kvs R∧H' rl=some (.lst (R.map fun yw=>.str yw.1))∧mV S (S.take j) start n hh wh R∧yg (S.take j) hh wh (zL S start n)=R∧rm H kvs∧Same H H') ⟨R,kvs,o6,o7,o8,rfl,hd2,hW2,hr2,mV.enter hB hR,hF,hN,s2⟩ (fun j σ H' _ h=>by
          obtain⟨_,_,_,_,_,_,_,_,_,_,_,_,z⟩:=h;exact bw.of (z _ _ hl)) ?_ ?_⟩
        · rintro j x σ H3 hj ⟨R,kvs,o6,o7,o8,rfl,hd3,Yq,hr3,hM,Zt,hN3,s3⟩;obtain⟨⟨sn,so,sg⟩,hs,t,rfl,ht⟩:=hS.at hj;have hR9:R.length≤9:=by
            have h1:=iC hM.bf.nd (hM.bf.sub hsx Np);simp at h1;omega
          have hFs:=Oo (S.take j) (sn,so,sg) hh wh (zL S start n);rw[Zt] at hFs;rw[take_one hs];simp -dsimp[au,stC];refine⟨_,dW.of (s3 _ _ ht),rfl,?_⟩;simp -dsimp[au,stC]
          by_cases hoh:so=hh
          · subst hoh;refine gM.pos (by simp) ?_;simp -dsimp[au,stC];refine⟨_,qc3 sg hd3,?_⟩;rw[Yq.qlK hM.bf.nd];refine gM.of (fun hg=>?_) (fun hg=>?_)
            · have hg':¬sg∈R.map (·.1):=by simpa using hg
              obtain⟨pw,hpw,qmn⟩:=Yq.some hM.bf.nd (List.mem_of_getElem? hM.hr);have hwl:=hM.bf.qlI (List.mem_of_getElem? hM.hr);have Zr:=of_eq_true Ip;simp -dsimp[au,stC];refine⟨.ref pw,?_,fun b hb=>?_⟩
              ·have:=qc3 so hd3;rw[hpw] at this;exact this
              refine⟨_,bM qmn hb,_,ak,by simp;omega,fun c hc=>?_⟩;have s4:Same H3 (upd (upd H3 b (.lst [.int sn])) c (.lst (wh.map (fun n:Nat=>V.int n)++[.int sn]))):=(aA hb).trans (aA hc);have ec:upd (upd H3 b (.lst [.int sn])) c (.lst (wh.map (fun n:Nat=>V.int n)++[.int sn])) c=some (.lst (wh.map (fun n:Nat=>V.int n)++[.int sn])):=ak;generalize upd (upd H3 b (.lst [.int sn])) c (.lst (wh.map (fun n:Nat=>V.int n)++[.int sn]))=H4 at s4 ec ⊢;have hd4:=s4 _ _ hd3;have Yn:=s4 _ _ hr3;have hkl:=Yq.len;have epk:putK kvs (Sum.inr sg) (.ref c)=kvs++[(Sum.inr sg,.ref c)]:=qu _ (Yq.none hg');refine⟨_,qlH sg hd4 (by omega),?_⟩;rw[epk];have hr5:upd H4 d (.dK (kvs++[(Sum.inr sg,.ref c)])) rl=some (.lst (R.map fun yw=>.str yw.1)):=by rw[aC dr.symm];exact Yn
              have ne0:∀w:List Nat,R.map (fun yw=>V.str yw.1)≠w.map (fun n:Nat=>V.int n):=fun w e=>by
                have hst:=hM.bf.st;cases R with
                | nil=>simp at hst
                | cons r R=>
                  cases w with
                  | nil=>simp at e
                  | cons n w=>simp at e
              have kp:∀(p:Addr) (w:List Nat),H4 p=some (.lst (w.map fun n:Nat=>V.int n))→upd (upd H4 d (.dK (kvs++[(Sum.inr sg,.ref c)]))) rl (.lst (R.map (fun yw=>V.str yw.1)++[.str sg])) p=some (.lst (w.map fun n:Nat=>V.int n)):=fun p w e=>by
                have h1:p≠d:=fun z=>by subst z;rw[hd4] at e;cases e
                have h2:p≠rl:=fun z=>by subst z;rw[Yn] at e;exact ne0 w (HO.lst.inj (Option.some.inj e))
                rw[aC h2,aC h1];exact e
              have ec':H4 c=some (.lst ((wh++[sn]).map fun n:Nat=>V.int n)):=by rw[ec];simp
              refine⟨⟨_,bw.of hr5⟩,_,hr5,by simp;omega,R++[(sg,wh++[sn])],_,by rw[aC dr];exact ak,?_,by rw[ak];simp,hM.add (List.mem_of_getElem? hs) hg',hFs.trans (if_pos ⟨rfl,hg'⟩),hN3.snoc (bV (s3.trans (aA hb)) hc),aW (aW (s3.trans s4) hd) qmm⟩;refine gQ.snoc (gQ.keep (H:=H4) (gQ.keep Yq fun p w e=>s4 _ _ e) kp) (kp _ _ ec')
            · have hg':sg∈R.map (·.1):=by simpa using hg
              simp -dsimp[au,stC];exact⟨R,kvs,hd3,Yq,hr3,hM.skip fun _=>hg',hFs.trans (if_neg (fun z=>z.2 hg')),hN3,s3⟩
          ·refine gM.neg (by simp[hoh]) ?_;simp -dsimp[au,stC];exact⟨R,kvs,hd3,Yq,hr3,hM.skip fun z=>absurd z hoh,hFs.trans (if_neg (fun z=>hoh z.1)),hN3,s3⟩
        · rintro σ H3 ⟨R,kvs,o6,o7,o8,rfl,hd3,Yq,hr3,hM,Zt,hN3,s3⟩;have hl3:S.take tv.length=S:=by rw[hS.1,List.take_length]
          rw[hl3] at hM Zt;simp -dsimp[au,stC];have hlen:=(List.getElem?_eq_some_iff.mp hM.hr).1;refine⟨⟨n+1,by omega,R,kvs,hd3,Yq,hr3,hM.leave,(TY (by rw[hF];exact hR)).trans Zt,hN3,hlen,s3⟩,?_⟩;simp[qfR];omega
      · have hlt':¬n<R.length:=by simpa using hlt
        have en:n=R.length:=by omega
        subst en;simp -dsimp[au,stC];exact q d kvs R H2 hd hd2 hW2 hB hF hN s2
def Em (C:Addr):Sp:=fun vs H Q _=>∃(o:Addr) (start:Str) (l:Addr) (tv:List V) (S:List jl) (xs:List Str) (ps:List (Str×Str)),vs=[.ref o,.str start,.ref l]∧fQ C H o xs ps∧H l=some (.lst tv)∧fK H tv S∧start∈xs∧(∀s∈S,s.2.2∈xs)∧xs.length≤9∧
  ∀(r:Addr) (H':Hp),H r=none→H' r=some (.lst ((mJ S xs start).map V.str))→Same H H'→Q (.ref r) H'
theorem uM (T:Txt K mg a):cg P w K mg base lC 2 a.dH a.kJ ["web", "start", "steps"] (Em a.bZ):=by
  refine T.mC.oU uw (fun vs H Q E h=>?_) (fun cdv A outer s H vs Q E hr h=>?_)
  ·obtain⟨o,start,l,tv,S,xs,ps,rfl,_⟩:=h;rfl
  · obtain⟨o,start,l,tv,S,xs,ps,rfl,hw,hl,hS,hsx,Np,h9,q⟩:=h;refine⟨_,(aB (bC (i:=3) uw.nd rfl (Or.inr rfl) (PE.eqv (aN (Gd (K:=K) T) (hr.mono (by decide)) rfl T.yJ T.rW.kp T.yI .nil aV (aj (aM 1) (aj (aM 2) aq))) (aG _ _ _)))
      (aF (aY (dY rfl rfl (show aZ (ao cU) _ ["web", "start", "steps", "ways"] ["point"] [3] ["point", "ways"] from⟨rfl,by decide+kernel,by decide+kernel,rfl,by decide+kernel,by decide+kernel⟩) rfl (PI.eqv (dO (K:=K) rfl (PE.eqv (n6 (aM 0) T.qH T.sI (wg (K:=K) T) (hr.mono (by decide)) T.sy .nil aV) (oh _ _ _ _ _ _))) (cP _ _)) (fun C s H fp pn=>(aR (i:=0) (show(["point", "ways"]:List Str).Nodup by decide+kernel) rfl (Or.inl rfl))) (fun C s H fp pn=>(qT (Iv (PC.eqv (qcX (j8 hr) (aM 0) (aM 1)) (qaq _ _))))) (fun C s H fp pn=>(aM 0)))))),?_⟩
    left;refine⟨start,l,tv,S,xs,rfl,hl,hS,hsx,Np,h9,fun d kvs R H1 hd hd1 hW hB _ _ s1=>?_⟩;obtain⟨dx,fs,hi,hno⟩:=(hw.same s1).ins vA.1 vA.2;left;refine⟨_,_,hi,hno,o,xs,ps,rfl,hw.same s1,fun l2 hl2=>?_⟩;have s2:Same H1 (upd H1 l2 (.lst (xs.map V.str))):=aA hl2;have e2:upd H1 l2 (.lst (xs.map V.str)) l2=some (.lst (xs.map V.str)):=ak;generalize upd H1 l2 (.lst (xs.map V.str))=H2 at s2 e2 ⊢;have hd2:=s2 _ _ hd1;have hW2:=hW.keep fun p w e=>s2 _ _ e;have Zr:=of_eq_true Ip;left;refine⟨⟨_,bw.of e2⟩,fun D hD=>Zq (xs.map V.str) (fun i σ H'=>(∃o,σ=[o,some (.ref d)])∧H' D=some (.lst ((mJ S (xs.take i) start).map V.str))∧Same H2 H') ⟨⟨_,rfl⟩,ak,aA hD⟩ (fun i σ H' _ h=>bw.of (h.2.2 _ _ e2)) ?_ ?_⟩
    · rintro i x σ H3 hi ⟨⟨o',rfl⟩,J3,s3⟩;obtain⟨y,hy,rfl⟩:=tX hi;have hi2:i<xs.length:=(List.getElem?_eq_some_iff.mp hy).1;left;refine⟨_,qc3 y (s3 _ _ hd2),?_⟩;rw[hW2.has hB.nd,WT hy (decide (y∈R.map (·.1))) (by rw[decide_eq_true_eq];exact hB.iff y)];refine gM.of (fun h=>?_) (fun h=>?_)
      ·rw[if_pos h];left;have hfl:=Ir (S:=S) (xs:=xs.take i) (x:=start);rw[List.length_take] at hfl;refine⟨_,J3,by simp;omega,by simp[ak],aW s3 hD⟩
      ·rw[if_neg (by rw[h];exact Bool.false_ne_true),List.append_nil];left;exact⟨J3,s3⟩
    ·rintro σ H3 ⟨⟨o',rfl⟩,J3,s3⟩;rw[List.length_map,List.take_length] at J3;left;exact q D H3 (bV (s1.trans s2) hD) J3 ((s1.trans s2).trans s3)
theorem JC {xs:List Str} {ps:List (Str×Str)} {fx:Nat→Option Int} (h:oK xs ps):∀s∈aD fx ps 0,s.2.2∈xs:=by
  intro s hs;obtain⟨j,e,h1,h2⟩:=jV.mp hs;obtain⟨q1,q2,_⟩:=h.ok e (List.mem_of_getElem? h1);obtain⟨_,q | q⟩:=lH.mp h2
  ·rw[q.2.2];exact q2
  ·rw[q.2.2];exact q1
def qaT (C:Addr):Sp:=fun vs H Q _=>∃o xs ps,vs=[.ref o]∧fQ C H o xs ps∧Q (.int ps.length) H
theorem uN (T:Txt K mg a):cg P w K mg base lC 1 a.gG a.pC ["self"] (qaT a.bZ):=by
  refine T.D_.oU Ls (fun vs H Q E h=>?_) (fun cdv A outer s H vs Q E hr h=>?_)
  ·obtain⟨o,xs,ps,rfl,_⟩:=h;rfl
  ·obtain⟨o,xs,ps,rfl,⟨dx,n,m,tv,h1,h2,h3,h4,h5⟩,q⟩:=h;refine⟨_,(aF (aY (aO (cB (K:=K) rfl) rfl T.nm.len PySem.boot_len (aj (PE.eqv (Ij (K:=K) rfl (aM 0) rfl) (I_ _ _ _)) aq)))),?_⟩;left;refine⟨_,_,_,h1,T.qH,T.Ce,_,rfl,_,.inr (dW.of h3),?_⟩;rw[h4.1];exact q
def Mr:Sp:=fun vs H Q _=>∃n:Int,vs=[.int n]∧Q (.bl true) H
theorem Ay (T:Txt K mg a):cg P w K mg base lC 1 a.g_ a.o_ ["thing"] Mr:=by
  refine T.rY.oU Lk (fun vs H Q E h=>?_) (fun cdv A outer s H vs Q E hr h=>?_)
  ·obtain⟨n,rfl,_⟩:=h;rfl
  ·obtain⟨n,rfl,q⟩:=h;refine⟨_,(aF (aY (jK (aO (oA (K:=K) rfl) rfl T.nm.isinstance boot_isinstance (aj (aM 0) (aj (jk (v:=.ty "int") rfl T.nm.int Gw rfl) aq))) (nZ (Bs (aO (oA (K:=K) rfl) rfl T.nm.isinstance boot_isinstance (aj (aM 0) (aj (jk (v:=.ty "bool") rfl T.Jj.bool qU rfl) aq)))))))),?_⟩;left;refine⟨_,.int _,_,KD K,gM.pos rfl ?_⟩;left;refine⟨_,.int _,_,nj K,?_⟩;exact q
def Pj:Sp:=fun vs H Q _=>∃n:Int,vs=[.int n]∧0≤n∧n≤1∧Q (.bl true) H
theorem Pk (T:Txt K mg a):cg P w K mg base lC 2 a.jw a.rN ["thing"] Pj:=by
  refine T.zQ.oU OJ (fun vs H Q E h=>?_) (fun cdv A outer s H vs Q E hr h=>?_)
  ·obtain⟨n,rfl,_⟩:=h;rfl
  ·obtain⟨n,rfl,h0,h1,q⟩:=h;refine⟨_,(aF (aY (jK (PE.eqv (aN (Ay (K:=K) T) (hr.mono (by decide)) rfl T.wI T.rY.kp T.wH .nil aV (aj (aM 0) aq)) (aG _ _ _)) (nZ (zG ug ug aK (aM 0) aK))))),?_⟩;left;refine⟨n,rfl,?_⟩;left;refine gM.pos (by simpa using h0) ?_;left;rw[decide_eq_true h1];exact q
def JD (C:Addr):Sp:=fun vs H Q _=>∃(o:Addr) (n:Nat) (xs:List Str) (ps:List (Str×Str)),vs=[.ref o,.int n]∧fQ C H o xs ps∧n<ps.length∧Q (.bl true) H
theorem JF (T:Txt K mg a):cg P w K mg base lC 2 a.fY a.nG ["web", "thing"] (JD a.bZ):=by
  refine T.uy.oU Jl (fun vs H Q E h=>?_) (fun cdv A outer s H vs Q E hr h=>?_)
  ·obtain⟨o,n,xs,ps,rfl,_⟩:=h;rfl
  ·obtain⟨o,n,xs,ps,rfl,hw,hn,q⟩:=h;refine⟨_,(aF (aY (jK (PE.eqv (aN (Ay (K:=K) T) (hr.mono (by decide)) rfl T.wI T.rY.kp T.wH .nil aV (aj (aM 1) aq)) (aG _ _ _)) (nZ (zG ug uf aK (aM 1) (PE.eqv (n6 (aM 0) T.qH T.sJ (uN (K:=K) T) (hr.mono (by decide)) T.sE .nil aV) (oh _ _ _ _ _ _))))))),?_⟩;obtain⟨dx,fs,hi,hno⟩:=hw.ins vB.1 vB.2;left;refine⟨n,rfl,?_⟩;left;refine⟨_,_,hi,hno,o,xs,ps,rfl,hw,?_⟩;left;rw[decide_eq_true hn];exact q
def tH (C:Addr):Sp:=fun vs H Q _=>∃(o l:Addr) (tv:List V) (S:List jl) (xs:List Str) (ps:List (Str×Str)),vs=[.ref o,.ref l]∧fQ C H o xs ps∧H l=some (.lst tv)∧fK H tv S∧(∀s∈S,s.2.2∈xs)∧xs.length≤9∧
  (∀H',bK S xs xs=none→Same H H'→Q .non H')∧
  ∀(x:Str) (r:Addr) (H':Hp),bK S xs xs=some x→H r=none→H' r=some (.lst ((restOf S xs x).map V.str))→Same H H'→Q (.ref r) H'
theorem tK (T:Txt K mg a):cg P w K mg base lC 3 a.bR a.fO ["web", "steps"] (tH a.bZ):=by
  refine T.jf.oU fM (fun vs H Q E h=>?_) (fun cdv A outer s H vs Q E hr h=>?_)
  ·obtain⟨o,l,tv,S,xs,ps,rfl,_⟩:=h;rfl
  · obtain⟨o,l,tv,S,xs,ps,rfl,hw,hl,hS,Np,h9,q1,q2⟩:=h;refine⟨_,(aB (bC (i:=2) fM.nd rfl (Or.inl rfl) (PE.eqv (n6 (aM 0) T.qH T.sI (wg (K:=K) T) (hr.mono (by decide)) T.sy .nil aV) (oh _ _ _ _ _ _)))
      (aB (iI PassesOwn.never rfl (PI.eqv (dO (K:=K) rfl (aM 2)) (cP _ _)) (aR (i:=3) fM.nd rfl (Or.inl rfl))
      (aB (bC (i:=4) fM.nd rfl (Or.inr rfl) (PE.eqv (aN (uM (K:=K) T) (hr.mono (by decide)) rfl T.pX T.mC.kp T.pW .nil aV (aj (aM 0) (aj (aM 3) (aj (aM 1) aq)))) (aG _ _ _)))
      (aF (cR (bA uf (aO (cB (K:=K) rfl) rfl T.nm.len PySem.boot_len (aj (aM 4) aq)) (aO (cB (K:=K) rfl) rfl T.nm.len PySem.boot_len (aj (aM 2) aq)) (bY _)) (aF (aY (dY rfl rfl (show aZ (ao bH) _ ["web", "steps", "points", "point", "found"] ["other"] [4] ["other", "found"] from⟨rfl,by decide+kernel,by decide+kernel,rfl,by decide+kernel,by decide+kernel⟩) rfl (PI.eqv (dO (K:=K) rfl (aM 2)) (cP _ _)) (fun C s H fp pn=>(aR (i:=0) (show(["other", "found"]:List Str).Nodup by decide+kernel) rfl (Or.inl rfl))) (fun C s H fp pn=>(qT (bA (uZ (K:=K) rfl) (aM 0) (aM 1) rfl))) (fun C s H fp pn=>(aM 0))))) bG))))
      (aF (aY Hx)))),?_⟩
    have Rx:60≤sizeLine:=by decide
    obtain⟨dx,fs,hi,hno⟩:=hw.ins vA.1 vA.2;left;refine⟨_,_,hi,hno,o,xs,ps,rfl,hw,fun p hp=>?_⟩;have s1:Same H (upd H p (.lst (xs.map V.str))):=aA hp;have ep:upd H p (.lst (xs.map V.str)) p=some (.lst (xs.map V.str)):=ak;generalize upd H p (.lst (xs.map V.str))=H1 at s1 ep ⊢;left;refine⟨⟨_,bw.of ep⟩,frL (xs.map V.str) (fun i σ H'=>(∃o3 o4,σ=[some (.ref o),some (.ref l),some (.ref p),o3,o4])∧bK S xs (xs.take i)=none∧Same H1 H') ⟨⟨_,_,rfl⟩,rfl,Same.refl _⟩ (fun i σ H' _ h=>bw.of (h.2.2 _ _ ep)) ?_ ?_⟩
    · rintro i z σ H2 hi ⟨⟨o3,o4,rfl⟩,hno,s2⟩;obtain⟨x,hx,rfl⟩:=tX hi;have hxx:=List.mem_of_getElem? hx;have s12:=s1.trans s2;left;refine⟨o,x,l,tv,S,xs,ps,rfl,hw.same s12,s12 _ _ hl,fK.keep hS (L2.cI.of s12),hxx,Np,h9,fun r H3 hr0 hr3 s3=>?_⟩;have Pn:=s12.trans s3;have ep3:=s3 _ _ (s2 _ _ ep);left;refine⟨_,.inl (bw.of hr3),_,.inl (bw.of ep3),gM.of (fun h=>?_) (fun h=>?_)⟩
      · have h':(mJ S xs x).length<xs.length:=by simpa using h
        have hsh:=K_ hno hx h';left;refine⟨⟨_,bw.of ep3⟩,fun D hD=>Zq (xs.map V.str) (fun j σ H'=>(∃o',σ=[o',some (.ref r)])∧H' D=some (.lst (((xs.take j).filter fun y=>!decide (y∈mJ S xs x)).map V.str))∧Same H3 H') ⟨⟨_,rfl⟩,ak,aA hD⟩ (fun j σ H' _ h=>bw.of (h.2.2 _ _ ep3)) ?_ ?_⟩
        · rintro j z σ H4 hj ⟨⟨o',rfl⟩,Ho,s4⟩;obtain⟨y,hy,rfl⟩:=tX hj;have hj2:j<xs.length:=(List.getElem?_eq_some_iff.mp hy).1;have hfl:((xs.take j).filter fun y=>!decide (y∈mJ S xs x)).length≤(xs.take j).length:=List.length_filter_le _ _;rw[List.length_take] at hfl;rw[take_one hy,List.filter_append,List.map_append];left;have d1:inV (.str y) ((mJ S xs x).map V.str) = !decide (¬y∈mJ S xs x):=by rw[bN];simp
          refine⟨_,.inl (bw.of (s4 _ _ hr3)),rfl,List.all_eq_true.mp (cu _),_,d1,gM.of (fun h=>?_) (fun h=>?_)⟩
          ·have h':¬y∈mJ S xs x:=of_decide_eq_true h;left;refine⟨_,Ho,by simp;omega,by rw[ak];simp[h'],aW s4 hD⟩
          · have h':y∈mJ S xs x:=by simpa using h
            left;refine⟨by rw[Ho];simp[h'],s4⟩
        ·rintro σ H4 ⟨⟨o',rfl⟩,Ho,s4⟩;rw[List.length_map,List.take_length] at Ho;left;exact q2 x D H4 hsh (bV Pn hD) Ho (Pn.trans s4)
      · have h':¬(mJ S xs x).length<xs.length:=by simpa using h
        left;exact⟨La hno hx h',s2.trans s3⟩
    ·rintro σ H2 ⟨⟨o3,o4,rfl⟩,hno,s2⟩;rw[List.length_map,List.take_length] at hno;left;exact q1 _ hno (s1.trans s2)
def Ry (H:Hp) (e C:Addr) (fs:List (Str×V)):Prop:=∃dx,dx≠e∧H e=some (fu e C (some dx))∧H dx=some (i_ dx fs)
def Yr (C:Addr) (f:Str):Sp:=fun vs H Q _=>∃(e l:Addr) (xs:List V),vs=[.ref e,.ref l]∧H e=some (fu e C none)∧H l=some (.lst xs)∧
  ∀(b:Addr) (H':Hp),H b=none→H' b=some (.lst xs)→Ry H' e C [(f,.ref b)]→But e H H'→Q .non H'
theorem Ms {H:Hp} {e l C:Addr} {xs:List V} {f:Str} {Q:VK} {K:W.Frag} (he:H e=some (fu e C none)) (hl:H l=some (.lst xs)) (q:∀(b:Addr) (H':Hp),H b=none→H' b=some (.lst xs)→Ry H' e C [(f,.ref b)]→But e H H'→Q .non H') :
    (∃x,H e=some (fu e C x))∧∃ys,(bw K H l ys∨dW K H l ys)∧∀(l:Addr),H l=none→upd H l (.lst ys) e=some (fu e C none)∧∀dx,upd H l (.lst ys) dx=none→Q .non (upd (upd (upd H l (.lst ys)) dx (i_ dx [(f,.ref l)])) e (fu e C (some dx))):=by
  refine⟨⟨_,he⟩,xs,.inl (bw.of hl),fun b hb=>?_⟩;have s1:Same H (upd H b (.lst xs)):=aA hb;have e1:upd H b (.lst xs) b=some (.lst xs):=ak;generalize upd H b (.lst xs)=H1 at s1 e1 ⊢;refine⟨s1 _ _ he,fun dx hdx=>?_⟩;have ne:dx≠e:=fun z=>by rw[z,s1 _ _ he] at hdx;cases hdx
  have be:b≠e:=fun z=>by rw[z,he] at hb;cases hb
  have bd:b≠dx:=fun z=>by rw[← z,e1] at hdx;cases hdx
  refine q b _ hb (by rw[aC be,aC bd];exact e1) ⟨dx,ne,ak,by rw[aC ne];exact ak⟩ fun c o hc z=>?_;rw[aC hc,aC (fun y=>by rw[← y,s1 _ _ z] at hdx;cases hdx)];exact s1 _ _ z
theorem Mt {H:Hp} {e l C:Addr} {xs:List V} {f g:Str} {y:V} {Q:VK} {K:W.Frag} (fg:g≠f) (he:H e=some (fu e C none)) (hl:H l=some (.lst xs)) (q:∀(b:Addr) (H':Hp),H b=none→H' b=some (.lst xs)→Ry H' e C [(f,y),(g,.ref b)]→But e H H'→Q .non H') :
    (∃x,H e=some (fu e C x))∧H e=some (fu e C none)∧∀dx,H dx=none→∃ys,(bw K (upd (upd H dx (i_ dx [(f,y)])) e (fu e C (some dx))) l ys∨dW K (upd (upd H dx (i_ dx [(f,y)])) e (fu e C (some dx))) l ys)∧
      ∀(l:Addr),upd (upd H dx (i_ dx [(f,y)])) e (fu e C (some dx)) l=none→∃d2,upd (upd (upd H dx (i_ dx [(f,y)])) e (fu e C (some dx))) l (.lst ys) e=some (fu e C (some d2))∧∃fs,upd (upd (upd H dx (i_ dx [(f,y)])) e (fu e C (some dx))) l (.lst ys) d2=some (i_ d2 fs)∧fs.length<1000∧
        Q .non (upd (upd (upd (upd H dx (i_ dx [(f,y)])) e (fu e C (some dx))) l (.lst ys)) d2 (i_ d2 (lF g (.ref l) fs))):=by
  refine⟨⟨_,he⟩,he,fun dx hdx=>?_⟩;have ne:dx≠e:=fun z=>by rw[z,he] at hdx;cases hdx
  have le:l≠e:=fun z=>by rw[z,he] at hl;cases hl
  have ld:l≠dx:=fun z=>by rw[z,hdx] at hl;cases hl
  have e1:upd (upd H dx (i_ dx [(f,y)])) e (fu e C (some dx)) e=some (fu e C (some dx)):=ak;have d1:upd (upd H dx (i_ dx [(f,y)])) e (fu e C (some dx)) dx=some (i_ dx [(f,y)]):=by rw[aC ne];exact ak
  have b1:But e H (upd (upd H dx (i_ dx [(f,y)])) e (fu e C (some dx))):=fun c o hc z=>by
    rw[aC hc,aC (fun y=>by rw[y,hdx] at z;cases z)];exact z
  generalize upd (upd H dx (i_ dx [(f,y)])) e (fu e C (some dx))=H1 at e1 d1 b1 ⊢;refine⟨xs,.inl (bw.of (b1 _ _ le hl)),fun b hb=>?_⟩;have s2:Same H1 (upd H1 b (.lst xs)):=aA hb;have e2:upd H1 b (.lst xs) b=some (.lst xs):=ak;generalize upd H1 b (.lst xs)=H2 at s2 e2 ⊢;refine⟨dx,s2 _ _ e1,_,s2 _ _ d1,by show(1:Nat)<1000;decide,?_⟩;have bd:b≠dx:=fun z=>by rw[z,d1] at hb;cases hb
  have be:b≠e:=fun z=>by rw[z,e1] at hb;cases hb
  have hb0:H b=none:=by
    cases z:H b with
    | none=>rfl
    | some o=>rw[b1 _ _ be z] at hb;cases hb
  have ep:lF g (.ref b) [(f,y)]=[(f,y),(g,.ref b)]:=by
    show(if f=g then _ else _)=_
    rw[if_neg (fun z=>fg z.symm)];rfl
  rw[ep];refine q b _ hb0 (by rw[aC bd];exact e2) ⟨dx,ne,by rw[aC (Ne.symm ne)];exact s2 _ _ e1,ak⟩ fun c o hc z=>?_;rw[aC (fun y=>by rw[y,hdx] at z;cases z)];exact s2 _ _ (b1 _ _ hc z)
def Ys (C:Addr) (f g:Str):Sp:=fun vs H Q _=>∃(e l:Addr) (y:V) (xs:List V),vs=[.ref e,y,.ref l]∧H e=some (fu e C none)∧H l=some (.lst xs)∧
  ∀(b:Addr) (H':Hp),H b=none→H' b=some (.lst xs)→Ry H' e C [(f,y),(g,.ref b)]→But e H H'→Q .non H'
theorem JG (T:Txt K mg a):cg P w K mg base lC 1 a.eY a.nF ["self", "lot"] (Yr a.bW "lot"):=by
  refine T.Al.oU Jk (fun vs H Q E h=>?_) (fun cdv A outer s H vs Q E hr h=>?_)
  ·obtain⟨e,l,xs,rfl,_⟩:=h;rfl
  · obtain⟨e,l,xs,rfl,he,hl,q⟩:=h;refine⟨_,(aB (dZ (Rh T.sS T.ini rfl T.sO (aj (aM 0) (aj mR aq))))
      (aF (qbR T.Rv T.ji (aM 0) (fj (uh (K:=K) rfl) rfl T.nm.list boot_list (aj (aM 1) aq)) rfl))),?_⟩
    left;exact Ms he hl q
theorem En (T:Txt K mg a):cg P w K mg base lC 1 a.cV a.kO ["self", "tie", "lot"] (Ys a.bh "tie" "lot"):=by
  refine T.vU.oU DK (fun vs H Q E h=>?_) (fun cdv A outer s H vs Q E hr h=>?_)
  ·obtain⟨e,l,y,xs,rfl,_⟩:=h;rfl
  · obtain⟨e,l,y,xs,rfl,he,hl,q⟩:=h;refine⟨_,(aB (dZ (Rh T.lR T.ini rfl T.sO (aj (aM 0) (aj mR aq))))
      (aB (qbR T.zT T.gJ (aM 0) (aM 1) rfl)
      (aF (qge T.zT T.gK (aM 0) (fj (uh (K:=K) rfl) rfl T.nm.list boot_list (aj (aM 2) aq)) rfl)))),?_⟩
    left;exact Mt (by decide) he hl q
def qaU (C:Addr):Sp:=fun vs H Q _=>∃(o:Addr) (xs:List Str) (ps:List (Str×Str)),vs=[.ref o]∧fQ C H o xs ps∧Pa xs∧oK xs ps∧
  ∀(l:Addr) (rs:List V) (H':Hp),H l=none→H' l=some (.lst rs)→∀(zs:List (Addr×Nat×List Str)),iU zE H' rs zs→zs.map (·.2)=iJ ps xs→(zs.map (·.1)).Nodup→(∀z∈zs,H z.1=none∧z.1≠l)→Same H H'→Q (.ref l) H'
theorem qaV (T:Txt K mg a):cg P w K mg base lC 3 a.rJ a.BK ["web"] (qaU a.bZ):=by
  refine T.O4.oU rE (fun vs H Q E h=>?_) (fun cdv A outer s H vs Q E hr h=>?_)
  ·obtain⟨o,xs,ps,rfl,_⟩:=h;rfl
  · obtain⟨o,xs,ps,rfl,hw,hX,hTs,q⟩:=h;refine⟨_,(aB (bC (i:=1) rE.nd rfl (Or.inl rfl) (PE.eqv (aN (uL (K:=K) T) (hr.mono (by decide)) rfl T.pU T.mz.kp T.pR .nil aV (aj (aM 0) (aj xR aq))) (aG _ _ _)))
      (aB (bC (i:=2) rE.nd rfl (Or.inl rfl) (jP aq))
      (aB (iI PassesOwn.never rfl (PI.eqv (Im (K:=K) rfl rfl T.Jj.enumerate (aj (PE.eqv (n6 (aM 0) T.qH T.wL (Aw (K:=K) T) (hr.mono (by decide)) T.wK .nil aV) (oh _ _ _ _ _ _)) aq)) (zJ _ _)) (PG.eqv (fJ (K:=K) (n:=2) rfl rfl (jC.eqv (bx (aR (i:=3) rE.nd rfl (Or.inr rfl)) (jC.eqv (bx (PG.eqv (fJ (K:=K) (n:=2) rfl rfl (jC.eqv (bx (aR (i:=4) rE.nd rfl (Or.inl rfl)) (jC.eqv (bx (aR (i:=5) rE.nd rfl (Or.inl rfl)) (jC.mono fH iK)) (bB _ _))) (bB _ _))) (fL _ _ _)) (jC.mono fH iK)) (bB _ _))) (bB _ _))) (fL _ _ _))
      (aB (bC (i:=6) rE.nd rfl (Or.inl rfl) (PE.eqv (aN (uM (K:=K) T) (hr.mono (by decide)) rfl T.pX T.mC.kp T.pW .nil aV (aj (aM 0) (aj (aM 5) (aj (dY rfl rfl (show aZ (ao pP) _ ["web", "steps", "told", "number", "first", "second", "lot"] ["step"] [3] ["step", "number"] from⟨rfl,by decide+kernel,by decide+kernel,rfl,by decide+kernel,by decide+kernel⟩) rfl (PI.eqv (dO (K:=K) rfl (aM 1)) (cP _ _)) (fun C s H fp pn=>(aR (i:=0) (show(["step", "number"]:List Str).Nodup by decide+kernel) rfl (Or.inl rfl))) (fun C s H fp pn=>(qT (bA j_ (bL (bO (K:=K) rfl) (aM 0) aK (fun _ _=>rfl)) (aM 1) (bY _)))) (fun C s H fp pn=>(aM 0))) aq)))) (aG _ _ _)))
      (aF (cR (bA (uZ (K:=K) rfl) (aM 4) (aM 6) rfl) (aF (dZ (pO (K:=K) rfl PySem.F.plainAttrs_list PySem.F.slot_list_append PySem.F.type_list_append iZ (aM 2) (aj (fU (aj (aM 3) (aj (aM 6) aq))) aq)))) bG))))
      (aF (aY (aM 2)))))),?_⟩
    have Np:=JC (fx:=fun _=>none) hTs;have s50:50≤sizeLine:=by decide
    have l9:=hX.len;left;intro d hd;refine⟨o,d,xs,ps,fun _=>none,rfl,hw.same (aA hd),WR ak,fun l tv H1 hl0 hl1 hS qo9 s1'=>?_⟩;have s1:=(aA hd).trans s1';left;intro L hL;obtain⟨dx,fs,hi,hno⟩:=(hw.same (s1.trans (aA (o:=HO.lst []) hL))).ins Cg.1 Cg.2;refine⟨_,_,hi,hno,o,xs,ps,rfl,hw.same (s1.trans (aA hL)),fun l2 Ax hl2 qdS=>?_⟩;have s2:Same H1 (upd (upd H1 L (.lst [])) l2 (.lst Ax)):=(aA hL).trans (aA hl2);have e2:upd (upd H1 L (.lst [])) l2 (.lst Ax) l2=some (.lst Ax):=ak;have eL:upd (upd H1 L (.lst [])) l2 (.lst Ax) L=some (.lst []):=bM ak hl2;have l2L:l2≠L:=fun z=>by subst z;rw[ak] at hl2;cases hl2
    have JB:=bD.same qdS (aA (o:=HO.lst Ax) hl2);generalize upd (upd H1 L (.lst [])) l2 (.lst Ax)=H2 at s2 e2 eL JB ⊢;have hL0:=bV s1 hL;left;refine⟨⟨_,bw.of e2⟩,frE Ax (fun i σ H'=>(∃o3 o4 o5 o6 rs zs,σ=[some (.ref o),some (.ref l),some (.ref L),o3,o4,o5,o6]∧H' L=some (.lst rs)∧iU zE H' rs zs∧zs.map (·.2)=jm (oZ ps xs) (ps.take i) 0∧(zs.map (·.1)).Nodup∧∀z∈zs,H z.1=none∧z.1≠L)∧H' l2=some (.lst Ax)∧bD H' Ax ps∧Same H1 H') ⟨⟨_,_,_,_,[],[],rfl,eL,iU.nil,rfl,by simp,by simp⟩,e2,JB,s2⟩ (fun i σ H' _ h=>bw.of h.2.1) ?_ ?_⟩
    · rintro i x t σ H3 hi ht ⟨⟨o3,o4,o5,o6,rs,zs,rfl,Yp,hrs,hzs,hzn,hfr⟩,Uq,htv,s3⟩;obtain⟨e,he,tt,rfl,htt⟩:=htv.at hi;have hem:=List.mem_of_getElem? he;obtain⟨q1,q2,q3⟩:=hTs.ok e hem;have hi2:i<ps.length:=(List.getElem?_eq_some_iff.mp he).1;have hcl:(jm (oZ ps xs) (ps.take i) 0).length≤20:=by
        have h1:=xU (Tq ps xs) (ps.take i) 0;rw[List.length_take] at h1;have:=hTs.len;omega
      have hrl:rs.length=(jm (oZ ps xs) (ps.take i) 0).length:=by rw[hrs.1,← hzs,List.length_map]
      have st:Same H3 (upd H3 t (.tup [.int i,.ref tt])):=aA ht;rw[zB _ he];generalize hcs:jm (oZ ps xs) (ps.take i) 0=cs at hzs hcl hrl ⊢;left;refine⟨_,dW.of ak,rfl,_,dW.of (st _ _ htt),rfl,?_⟩;have Pb:=st _ _ Yp;have Ur:=st _ _ Uq;have Us:=bD.same htv st;have s4:=s3.trans st;have qdV:=zE.same hrs st;generalize upd H3 t (.tup [.int i,.ref tt])=H4 at Pb Ur Us s4 qdV ⊢;have hl4:=s4 _ _ hl1;have hS4:=fK.keep hS (L2.cI.of s4);refine⟨⟨_,bw.of hl4⟩,fun D hD=>Zq tv (fun j σ H'=>(∃o',σ=[o',some (.int i)])∧(∃fv,H' D=some (.lst fv)∧fv.length≤j∧fK H' fv ((((aD (fun _=>none) ps 0)).take j).filter (Oe i)))∧Same H4 H') ⟨⟨_,rfl⟩,⟨[],ak,by simp,iU.nil⟩,aA hD⟩ (fun j σ H' _ h=>bw.of (h.2.2 _ _ hl4)) ?_ ?_⟩
      · rintro j x σ H5 hj ⟨⟨o',rfl⟩,⟨fv,Hq,hfl,hfv⟩,s5⟩;obtain⟨⟨sn,so,sg⟩,hs,t5,rfl,ht5⟩:=hS4.at hj;have hj2:j<tv.length:=(List.getElem?_eq_some_iff.mp hj).1;rw[take_one hs,List.filter_append];left;refine⟨_,.inr (dW.of (s5 _ _ ht5)),_,aU (j:=0) rfl,?_⟩;left
        by_cases hsi:sn=i
        · refine⟨false,by simp[hsi],gM.neg rfl ?_⟩;have ef : [((sn,so,sg):jl)].filter (Oe i)=[]:=by simp[Oe,hsi]
          rw[ef,List.append_nil];left;exact⟨⟨fv,Hq,by omega,hfv⟩,s5⟩
        · refine⟨true,?_,gM.pos rfl ?_⟩
          ·simp;omega
          have ef : [((sn,so,sg):jl)].filter (Oe i)=[(sn,so,sg)]:=by simp[Oe,hsi]
          rw[ef];left;have kp:L2.cI H5 (upd H5 D (.lst (fv++[.ref t5]))):=L2.cI.set Hq (by intro z e;cases e);exact⟨_,Hq,by omega,⟨_,ak,by simp;omega,iU.snoc (fK.keep hfv kp) ⟨t5,rfl,kp _ _ (s5 _ _ ht5)⟩⟩,aW s5 hD⟩
      · rintro σ H5 ⟨⟨o',rfl⟩,⟨fv,Hq,hfl,hfv⟩,s5⟩;rw[hS.1,List.take_length] at hfv;left;refine⟨o,e.2,D,fv,_,xs,ps,rfl,hw.same ((s1.trans s4).trans s5),Hq,hfv,q2,fun s hs=>Np s ((List.mem_filter.mp hs).1),l9.2,fun r H6 hr0 hr6 s6=>?_⟩;have qgC:H6 r=some (.lst ((eU ps xs i e.2).map V.str)):=hr6;left;refine⟨_,.inl (bw.of qgC),rfl,List.all_eq_true.mp (cu _),?_⟩;rw[bN];have hL6:=s6 _ _ (s5 _ _ Pb);have sH5:Same H H5:=(s1.trans s4).trans s5;have rH:H r=none:=bV sH5 hr0;have rL:r≠L:=fun z=>by subst z;rw[s5 _ _ Pb] at hr0;cases hr0
        have qgD:=zE.same (zE.same qdV s5) s6;refine⟨!decide (e.1∈eU ps xs i e.2),by simp,gM.of (fun h=>?_) (fun h=>?_)⟩
        · have h':¬e.1∈eU ps xs i e.2:=by simpa using h
          have eb:oZ ps xs e i=[(i,eU ps xs i e.2)]:=by unfold oZ;rw[if_neg h']
          rw[eb];left;refine⟨⟨_,bw.of hL6⟩,fun t7 ht7=>?_⟩;have s7:Same H6 (upd H6 t7 (.tup [.int i,.ref r])):=aA ht7;have Vr:=s7 _ _ hL6;have e7:upd H6 t7 (.tup [.int i,.ref r]) t7=some (.tup [.int i,.ref r]):=ak;have hr7:=s7 _ _ qgC;have qdW:=zE.same qgD s7;have t7H:H t7=none:=bV (sH5.trans s6) ht7;have s27:=(s4.trans s5).trans (s6.trans s7);have qgE:=s7 _ _ (s6 _ _ (s5 _ _ Ur));have Mq:=bD.same Us ((s5.trans s6).trans s7);generalize upd H6 t7 (.tup [.int i,.ref r])=H7 at s7 Vr e7 hr7 qdW s27 qgE Mq ⊢;have kt:L2.cI H7 (upd H7 L (.lst (rs++[.ref t7]))):=L2.cI.set Vr (by intro z e;cases e);have rzs:¬r∈zs.map (·.1):=fun z=>by
            obtain⟨y,hy,e0⟩:=List.mem_map.mp z;have:=zE.there (zE.same qdV s5) y hy;rw[e0,hr0] at this;cases this
          refine⟨_,Vr,by omega,⟨_,ak,zs++[(r,i,eU ps xs i e.2)],?_,by simp[hzs],?_,?_⟩,by rw[aC l2L];exact qgE,Mq.keep kt,aW s27 hL⟩
          ·refine iU.snoc ⟨qdW.1,fun j v z h1 h2=>?_⟩ ⟨t7,rfl,kt _ _ e7,by rw[aC rL];exact hr7⟩;obtain⟨t',z1,z2,z3⟩:=qdW.2 j v z h1 h2;exact⟨t',z1,kt _ _ z2,by rw[aC (hfr z (List.mem_of_getElem? h2)).2];exact z3⟩
          ·rw[List.map_append,List.nodup_append];refine⟨hzn,by simp,?_⟩;intro x hx y hy e0;simp at hy;subst hy;exact rzs (e0▸hx)
          · intro z hz
            rcases List.mem_append.mp hz with y | y
            ·exact hfr z y
            ·simp at y;subst y;exact⟨rH,rL⟩
        · have h':e.1∈eU ps xs i e.2:=by simpa using h
          have eb:oZ ps xs e i=[]:=by unfold oZ;rw[if_pos h']
          rw[eb,List.append_nil];left;exact⟨⟨rs,hL6,zs,qgD,hzs,hzn,hfr⟩,s6 _ _ (s5 _ _ Ur),bD.same Us (s5.trans s6),(s4.trans s5).trans s6⟩
    ·rintro σ H3 ⟨⟨o3,o4,o5,o6,rs,zs,rfl,Yp,hrs,hzs,hzn,hfr⟩,Uq,htv,s3⟩;rw[htv.1,List.take_length] at hzs;left;exact q L rs H3 hL0 Yp zs hrs hzs hzn hfr (s1.trans s3)
def cC (fs:List (Nat×Int)):List (Key×V):=fs.map fun e=>(Sum.inl (e.1:Int),V.int e.2)
def bU (fs:List (Nat×Int)) (j:Nat):Option Int:=(fs.find? fun e=>decide (e.1=j)).map (·.2)
structure lU (fs:List (Nat×Int)) (m:Nat):Prop where
  nd:(fs.map (·.1)).Nodup
  ok:∀e∈fs,e.1<m∧0≤e.2∧e.2≤1
theorem lU.len {fs:List (Nat×Int)} {m:Nat} (h:lU fs m):fs.length≤m:=by
  have:=iC (xs:=List.range m) h.nd fun n hn=>by
    obtain⟨e,he,rfl⟩:=List.mem_map.mp hn;exact List.mem_range.mpr (h.ok e he).1
  rwa [List.length_map,List.length_range] at this
theorem lU.snoc {fs:List (Nat×Int)} {m k:Nat} {v:Int} (h:lU fs m) (hk:k<m) (hv:0≤v∧v≤1) (hn:k∉fs.map (·.1)):lU (fs++[(k,v)]) m:=by
  refine⟨?_,fun e he=>?_⟩
  ·rw[List.map_append,List.nodup_append];refine⟨h.nd,by simp,fun x hx y hy=>?_⟩;simp at hy;rw[hy];exact fun z=>hn (z▸hx)
  · rcases List.mem_append.mp he with he | he
    ·exact h.ok e he
    ·rw[List.mem_singleton] at he;rw[he];exact⟨hk,hv⟩
theorem qJ:∀(fs:List (Nat×Int)) (k:Nat),jZ (cC fs) (Sum.inl (k:Int))=(bU fs k).map V.int
  | [],k=>rfl
  | e::fs,k=>by
    have ih:=qJ fs k;unfold jZ cC bU at ih ⊢;rw[List.map_cons,List.find?_cons,List.find?_cons]
    by_cases h:e.1=k
    ·rw[decide_eq_true h,decide_eq_true (by rw[h])];rfl
    ·have h':¬((Sum.inl (e.1:Int):Key)=Sum.inl (k:Int)):=fun z=>h (by injection z with z;omega);rw[decide_eq_false h,decide_eq_false h'];exact ih
theorem JH {H:Hp} {d:Addr} {fs:List (Nat×Int)} (h:H d=some (.dK (cC fs))):KJ H d (bU fs):=⟨_,h,qJ fs⟩
theorem lV {fs:List (Nat×Int)} {k:Nat}:bU fs k=none↔k∉fs.map (·.1):=by
  unfold bU;rw[Option.map_eq_none_iff,List.find?_eq_none];constructor
  ·intro h z;obtain⟨e,he,hk⟩:=List.mem_map.mp z;exact h e he (decide_eq_true hk)
  ·intro h e he z;exact h (List.mem_map.mpr ⟨e,he,of_decide_eq_true z⟩)
theorem qK {fs:List (Nat×Int)} {m k:Nat} {v:Int} (h:lU fs m) (e:bU fs k=some v):0≤v∧v≤1∧k<m:=by
  unfold bU at e;obtain⟨p,hp,rfl⟩:=Option.map_eq_some_iff.mp e;have h1:=List.mem_of_find?_eq_some hp;have h2:p.1=k:=by simpa using List.find?_some hp
  have:=h.ok p h1;exact⟨this.2.1,this.2.2,h2▸this.1⟩
theorem Yt {fs:List (Nat×Int)} (nd:(fs.map (·.1)).Nodup) {e:Nat×Int} (he:e∈fs):bU fs e.1=some e.2:=by
  induction fs with
  | nil=>cases he
  | cons p fs ih=>
    rw[List.map_cons,List.nodup_cons] at nd;unfold bU at ih ⊢;rw[List.find?_cons]
    rcases List.mem_cons.mp he with rfl | he
    ·simp
    ·have:p.1≠e.1:=fun z=>nd.1 (by rw[z];exact List.mem_map_of_mem he);rw[decide_eq_false this];exact ih nd.2 he
theorem qL {fs:List (Nat×Int)} {k:Nat} {v:Int} (hn:k∉fs.map (·.1)):bU (fs++[(k,v)])=Rn (bU fs) k v:=by
  funext j
  unfold Rn
  by_cases h:j=k
  ·subst h;rw[if_pos rfl];have h0:=lV.mpr hn;unfold bU at h0 ⊢;rw[Option.map_eq_none_iff] at h0;rw[List.find?_append,h0];simp
  · rw[if_neg h];unfold bU;rw[List.find?_append];cases hf:fs.find? fun e=>decide (e.1=j) with
    | some e=>rfl
    | none=>
      have:¬k=j:=fun z=>h z.symm;simp[this]
theorem qu {fs:List (Nat×Int)} {k:Nat} {v:Int} (hn:k∉fs.map (·.1)):putK (cC fs) (Sum.inl (k:Int)) (V.int v)=cC (fs++[(k,v)]):=by
  unfold putK;rw[if_neg ?_]
  ·simp[cC]
  · intro z;obtain⟨p,hp,hk⟩:=List.any_eq_true.mp z;obtain⟨e,he,rfl⟩:=List.mem_map.mp hp;have hk:=of_decide_eq_true hk;simp only at hk;injection hk with hk;have:e.1=k:=by omega
    exact hn (this▸List.mem_map_of_mem he)
theorem qaW {C d:Addr} {H:Hp} {o:Addr} {xs:List Str} {ps:List (Str×Str)} {kvs:List (Key×V)} {u:HO} (h:fQ C H o xs ps) (hd:H d=some (.dK kvs)):fQ C (upd H d u) o xs ps:=by
  obtain⟨dx,n,m,tv,h1,h2,h3,h4,h5⟩:=h.ex;have ne:∀{b:Addr} {w:HO},H b=some w→(∀z,w≠.dK z)→upd H d u b=some w:=fun {b w} e hw=>by
    rw[aC (fun z=>by rw[z,hd] at e;injection e with e;exact hw _ e.symm)];exact e
  refine⟨⟨dx,n,m,tv,ne h1 (by intro z y;cases y),ne h2 (by intro z y;cases y),ne h3 (by intro z y;cases y),⟨h4.1,fun i v e a1 a2=>?_⟩,h5⟩⟩;obtain⟨t,rfl,y⟩:=h4.2 i v e a1 a2;exact⟨t,rfl,ne y (by intro z y;cases y)⟩
def yX (C:Addr):Sp:=fun vs H Q _=>∃(o d:Addr) (xs:List Str) (ps:List (Str×Str)) (fs:List (Nat×Int)),vs=[.ref o,.ref d]∧fQ C H o xs ps∧H d=some (.dK (cC fs))∧lU fs ps.length∧
  ∀(ob:Obj) (H':Hp),H' d=some (.gw ob (.dK (cC fs)))→(∀b u,b≠d→H b=some u→H' b=some u)→Q .non H'
theorem yZ (T:Txt K mg a):cg P w K mg base lC 3 a.cj a.gR ["web", "thing"] (yX a.bZ):=by
  refine T.jN.oU lK (fun vs H Q E h=>?_) (fun cdv A outer s H vs Q E hr h=>?_)
  ·obtain⟨o,d,xs,ps,fs,rfl,_⟩:=h;rfl
  · obtain⟨o,d,xs,ps,fs,rfl,hw,hd,hfs,q⟩:=h;refine⟨_,(aB (cR (dN (cD (aO (oA (K:=K) rfl) rfl T.nm.isinstance boot_isinstance (aj (aM 1) (aj (jk (v:=.ty "dict") rfl T.Jj.dict lG rfl) aq))))) (aF xu) bG)
      (aF (iI PassesOwn.never rfl (PI.eqv (Xv (aM 1)) (Xw _)) (PG.eqv (fJ (K:=K) (n:=2) rfl rfl (jC.eqv (bx (aR (i:=2) lK.nd rfl (Or.inl rfl)) (jC.eqv (bx (aR (i:=3) lK.nd rfl (Or.inl rfl)) (jC.mono fH iK)) (bB _ _))) (bB _ _))) (fL _ _ _))
      (aF (cR (PW.pt (qp (dN (cD (PE.eqv (aN (JF (K:=K) T) (hr.mono (by decide)) rfl T.Aq T.uy.kp T.Ao .nil aV (aj (aM 0) (aj (aM 2) aq))) (aG _ _ _)))) (nY (dN (cD (PE.eqv (aN (Pk (K:=K) T) (hr.mono (by decide)) rfl T.G_ T.zQ.kp T.G9 .nil aV (aj (aM 3) aq)) (aG _ _ _))))))) (aF xu) bG))))),?_⟩
    left;refine⟨_,.dK hd,_,vQ K,gM.neg rfl ?_⟩;left;refine⟨_,.inl hd,fun ob hob=>?_⟩;have hwf:fQ a.bZ (upd H d (.gw ob (.dK (cC fs)))) o xs ps:=qaW hw hd;have ef:upd H d (.gw ob (.dK (cC fs))) d=some (.gw ob (.dK (cC fs))):=ak;have kf:∀b u,b≠d→H b=some u→upd H d (.gw ob (.dK (cC fs))) b=some u:=fun b u hb e=>by rw[aC hb];exact e
    generalize upd H d (.gw ob (.dK (cC fs)))=Hf at hwf ef kf ⊢;refine frD (fun i σ H'=>(∃o2 o3,σ=[some (.ref o),some (.ref d),o2,o3])∧Same Hf H') ⟨⟨_,_,rfl⟩,Same.refl _⟩ (fun i σ H' _ h=>h.2 _ _ ef) ?_ ?_
    · rintro i k x t σ H2 hk ht ⟨⟨o2,o3,rfl⟩,s2⟩;obtain⟨e,he,hke⟩:∃e,fs[i]? = some e∧(Sum.inl (e.1:Int),V.int e.2)=(k,x):=by
        unfold cC at hk;rw[List.getElem?_map] at hk;obtain⟨e,he,h2⟩:=Option.map_eq_some_iff.mp hk;exact⟨e,he,h2⟩
      cases hke;obtain⟨h1,h2,h3⟩:=hfs.ok e (List.mem_of_getElem? he);have st:Same H2 (upd H2 t (.tup [.int (e.1:Int),.int e.2])):=aA ht;have et:upd H2 t (.tup [.int (e.1:Int),.int e.2]) t=some (.tup [.int (e.1:Int),.int e.2]):=ak;have ekv:upd H2 t (.tup [kV (Sum.inl (e.1:Int)),.int e.2])=upd H2 t (.tup [.int (e.1:Int),.int e.2]):=rfl;rw[ekv];generalize upd H2 t (.tup [.int (e.1:Int),.int e.2])=H3 at st et ⊢;left;refine⟨_,dW.of et,rfl,?_⟩;left;refine⟨o,e.1,xs,ps,rfl,hwf.same (s2.trans st),h1,?_⟩;left;refine⟨e.2,rfl,h2,h3,?_⟩;left;exact s2.trans st
    ·rintro σ H2 ⟨⟨o2,o3,rfl⟩,s2⟩;left;exact q ob H2 (s2 _ _ ef) fun b u hb e=>s2 _ _ (kf b u hb e)
def zU (C:Addr):Sp:=fun vs H Q _=>∃(o d:Addr) (xs:List Str) (ps:List (Str×Str)) (fs:List (Nat×Int)),vs=[.ref o,.ref d]∧fQ C H o xs ps∧H d=some (.dK (cC fs))∧lU fs ps.length∧∀(H':Hp),Same H H'→Q .non H'
theorem qM (T:Txt K mg a):cg P w K mg base lC 3 a.cj a.gR ["web", "thing"] (zU a.bZ):=by
  refine(yZ T).qgl.imp fun vs H Q E h=>?_;obtain⟨o,d,xs,ps,fs,rfl,hw,hd,hfs,q⟩:=h;refine⟨o,d,xs,ps,fs,rfl,hw,hd,hfs,fun ob H' e k=>q _ (u0 fun b u hb=>?_)⟩
  by_cases z:b=d
  ·subst z;rw[hd] at hb;cases hb;exact .inr ⟨fun o v y=>(by cases y),ob,e⟩
  ·exact .inl (k b u z hb)
def zV:Sp:=fun vs H Q _=>∃(d:Addr) (k:Nat) (v:Int) (fs:List (Nat×Int)),vs=[.ref d,.int k,.int v]∧H d=some (.dK (cC fs))∧fs.length≤100∧k∉fs.map (·.1)∧
  ∀(r:Addr) (H':Hp),H r=none→H' r=some (.dK (cC (fs++[(k,v)])))→Same H H'→Q (.ref r) H'
theorem qN (T:Txt K mg a):cg P w K mg base lC 1 a.cN a.jx ["fixed", "number", "lead"] zV:=by
  refine T.jO.oU qz (fun vs H Q E h=>?_) (fun cdv A outer s H vs Q E hr h=>?_)
  ·obtain⟨d,k,v,fs,rfl,_⟩:=h;rfl
  · obtain⟨d,k,v,fs,rfl,hd,hl,hk,q⟩:=h;refine⟨_,(aB (bC (i:=3) qz.nd rfl (Or.inl rfl) (fj Ov rfl T.Jj.dict lG (aj (aM 0) aq)))
      (aB (PS.eqv (uW (j8 hr) (aM 3) (aM 1) (aM 2) rfl) (qy _ _ _))
      (aF (aY (aM 3))))),?_⟩
    have qaX:200≤sizeLine:=by decide
    left;refine⟨_,.inl hd,fun r hr0=>?_⟩;refine⟨_,.inl ⟨_,Sum.inl (k:Int),ak,rfl,by simp[cC];omega,rfl⟩,?_⟩;refine q r _ hr0 ?_ (aW (aA hr0) hr0);rw[ak,qu hk]
def Eo (C:Addr):Sp:=fun vs H Q _=>∃(o d:Addr) (xs:List Str) (ps:List (Str×Str)) (fx:Nat→Option Int),vs=[.ref o,.ref d]∧fQ C H o xs ps∧Pa xs∧oK xs ps∧KJ H d fx∧
  (∀H',bK (aD fx ps 0) xs xs=none→Same H H'→Q .non H')∧
  ∀(x:Str) (r:Addr) (H':Hp),bK (aD fx ps 0) xs xs=some x→H r=none→H' r=some (.lst ((restOf (aD fx ps 0) xs x).map V.str))→Same H H'→Q (.ref r) H'
theorem oM (T:Txt K mg a):cg P w K mg base lC 4 a.dJ a.kY ["web", "fixed"] (Eo a.bZ):=by
  refine T.jF.oU DN (fun vs H Q E h=>?_) (fun cdv A outer s H vs Q E hr h=>?_)
  ·obtain⟨o,d,xs,ps,fx,rfl,_⟩:=h;rfl
  · obtain⟨o,d,xs,ps,fx,rfl,hw,hX,hTs,hf,q1,q2⟩:=h;refine⟨_,(aF (aY (PE.eqv (aN (tK (K:=K) T) (hr.mono (by decide)) rfl T.mL T.jf.kp T.mK .nil aV (aj (aM 0) (aj (PE.eqv (aN (uL (K:=K) T) (hr.mono (by decide)) rfl T.pU T.mz.kp T.pR .nil aV (aj (aM 0) (aj (aM 1) aq))) (aG _ _ _)) aq))) (aG _ _ _)))),?_⟩;left;refine⟨o,d,xs,ps,fx,rfl,hw,hf,fun l tv H1 hl0 hl1 hS h40 s1=>?_⟩;refine⟨o,l,tv,_,xs,ps,rfl,hw.same s1,hl1,hS,JC hTs,hX.len.2,fun H2 hn s2=>?_,fun x r H2 hx hr0 e2 s2=>?_⟩
    ·exact q1 _ hn (s1.trans s2)
    ·exact q2 x r H2 hx (bV s1 hr0) e2 (s1.trans s2)
def frB (fs:List (Nat×Int)) (j:Nat):Bool:=decide (j∉fs.map (·.1))
def bJ (fs:List (Nat×Int)) (m:Nat):List Nat:=(List.range m).filter (frB fs)
def eZ (ks:List Nat):List V:=ks.map fun n:Nat=>V.int n
def JK (C:Addr):Sp:=fun vs H Q _=>∃(o d:Addr) (xs:List Str) (ps:List (Str×Str)) (fs:List (Nat×Int)),vs=[.ref o,.ref d]∧fQ C H o xs ps∧ps.length≤20∧H d=some (.dK (cC fs))∧
  ∀(r:Addr) (H':Hp),H r=none→H' r=some (.lst (eZ (bJ fs ps.length)))→Same H H'→Q (.ref r) H'
theorem za (T:Txt K mg a):cg P w K mg base lC 2 a.fZ a.nH ["web", "fixed"] (JK a.bZ):=by
  refine T.pG.oU Jm (fun vs H Q E h=>?_) (fun cdv A outer s H vs Q E hr h=>?_)
  ·obtain⟨o,d,xs,ps,fs,rfl,_⟩:=h;rfl
  · obtain⟨o,d,xs,ps,fs,rfl,hw,Ej,hd,q⟩:=h;refine⟨_,(aF (aY (dY rfl rfl (show aZ (ao eV) _ ["web", "fixed"] ["number"] [1] ["number", "fixed"] from⟨rfl,by decide+kernel,by decide+kernel,rfl,by decide+kernel,by decide+kernel⟩) rfl (PI.eqv (iB rfl T.nm.range (aj (PE.eqv (n6 (aM 0) T.qH T.sJ (uN (K:=K) T) (hr.mono (by decide)) T.sE .nil aV) (oh _ _ _ _ _ _)) aq)) (iD _)) (fun C s H fp pn=>(aR (i:=0) (show(["number", "fixed"]:List Str).Nodup by decide+kernel) rfl (Or.inl rfl))) (fun C s H fp pn=>(qT (Iv (PC.eqv (GF (j8 hr) (aM 0) (aM 1)) (Dt _ _))))) (fun C s H fp pn=>(aM 0))))),?_⟩;have Rx:60≤sizeLine:=by decide
    obtain⟨dx,fss,hi,hno⟩:=hw.ins vB.1 vB.2;left;refine⟨_,_,hi,hno,o,xs,ps,rfl,hw,?_⟩;left;refine⟨by omega,fun D hD=>cmR (fun i σ H'=>(∃o',σ=[o',some (.ref d)])∧H' D=some (.lst (eZ ((List.range i).filter (frB fs))))∧Same H H') ⟨⟨_,rfl⟩,ak,aA hD⟩ ?_ ?_⟩
    · rintro i σ H2 hi ⟨⟨o',rfl⟩,hD2,s2⟩;have fl:((List.range i).filter (frB fs)).length≤i:=Nat.le_trans (List.length_filter_le _ _) (by rw[List.length_range];exact Nat.le_refl _);rw[List.range_succ,List.filter_append];have hg:iz H2 d (V.int (i:Int)) ((bU fs i).map V.int):=by
        rw[← qJ];exact iz.k (k:=Sum.inl (i:Int)) (s2 _ _ hd)
      left;refine⟨_,hg,gM.of (fun h=>?_) (fun h=>?_)⟩
      · have h':i∉fs.map (·.1):=lV.mp (by simpa using h);left;refine⟨_,hD2,by unfold eZ;rw[List.length_map];omega,?_,aW s2 hD⟩;rw[ak,List.filter_cons,if_pos (show frB fs i=true from decide_eq_true h')];simp[eZ]
      · have h':¬i∉fs.map (·.1):=fun z=>by
          rw[lV.mpr z] at h;cases h
        left;refine⟨?_,s2⟩;rw[hD2,List.filter_cons,if_neg (show ¬frB fs i=true from fun z=>h' (of_decide_eq_true z))];simp
    ·rintro σ H2 ⟨⟨o',rfl⟩,hD2,s2⟩;left;exact q D H2 hD hD2 s2
def Strong (S:List jl) (xs:List Str):Prop:=∀x∈xs,∀y∈xs,RT (fC S) x y
theorem vC {S:List jl} {xs:List Str} (h:bK S xs xs=none):Strong S xs:=fun x hx y hy=>by
  have h1:=Lb h x hx;have h2:mJ S xs x=xs:=by
    unfold mJ at h1 ⊢;exact List.filter_eq_self.mpr (List.length_filter_eq_length_iff.mp h1)
  have:y∈mJ S xs x:=by rw[h2];exact hy
  exact(oY.mp this).2
theorem vD {S:List jl} {xs:List Str} (h:Strong S xs):bK S xs xs=none:=by
  unfold bK;rw[List.find?_eq_none];intro x hx;rw[decide_eq_true_eq];intro hlt;unfold mJ at hlt;rw[List.length_filter_lt_length_iff_exists] at hlt;obtain⟨y,hy,hn⟩:=hlt;exact hn (by simpa using h x hx y hy)
def tM (C Sh Ba:Addr):Sp:=fun vs H Q E=>∃(o d:Addr) (xs:List Str) (ps:List (Str×Str)) (fx:Nat→Option Int),vs=[.ref o,.ref d]∧fQ C H o xs ps∧Pa xs∧oK xs ps∧KJ H d fx∧
  (bK (aD fx ps 0) xs xs=none→iJ ps xs=[]→∀H',Same H H'→Q .non H')∧
  (∀x,bK (aD fx ps 0) xs xs=some x→∀(dx c:Addr) (H':Hp),H c=none→H' dx=some (i_ dx [("lot",.ref c)])→H' c=some (.lst ((restOf (aD fx ps 0) xs x).map V.str))→Same H H'→E (.ref Sh) (some dx) H')∧
  (bK (aD fx ps 0) xs xs=none→∀k lot rest,iJ ps xs=(k,lot)::rest→∀(dx c:Addr) (H':Hp),H c=none→H' dx=some (i_ dx [("tie",.int (k:Nat)),("lot",.ref c)])→H' c=some (.lst (lot.map V.str))→Same H H'→E (.ref Ba) (some dx) H')
theorem lD (T:Txt K mg a):cg P w K mg base (T8 P w) 5 a.bT a.fP ["web", "fixed"] (tM a.bZ a.bW a.bh):=by
  refine T.gj.qdv dg (fun vs H Q E h=>?_) (fun cdv A outer s H vs Q E hr h=>?_)
  ·obtain⟨o,d,xs,ps,fx,rfl,_⟩:=h;rfl
  · obtain⟨o,d,xs,ps,fx,rfl,hw,hX,hTs,hf,q1,q2,q3⟩:=h;refine⟨_,(aB (bC (i:=2) dg.nd rfl (Or.inl rfl) (PE.eqv (aN (oM (K:=K) T) (hr.mono (by decide)) rfl T.mF T.jF.kp T.mD .nil aV (aj (aM 0) (aj (aM 1) aq))) (aG _ _ _)))
      (aB (cR (bA Qz (aM 2) Hx (bY _)) (aF (G6 (E:=E) Bu rfl rfl T.sS (JG (K:=K) T) (hr.mono (by decide)) rfl T.Jy T.Am (aj (aM 2) aq))) bG)
      (aB (bC (i:=3) dg.nd rfl (Or.inl rfl) (PE.eqv (aN (qaV (K:=K) T) (hr.mono (by decide)) rfl T.X4 T.O4.kp T.X3 .nil aV (aj (aM 0) aq)) (aG _ _ _)))
      (aF (cR (bA Dr (aO (cB (K:=K) rfl) rfl T.nm.len PySem.boot_len (aj (aM 3) aq)) aK (bY _)) (aB (wu (bL (bO (K:=K) rfl) (aM 3) aK (fun _ _=>rfl)) (PG.eqv (fJ (K:=K) (n:=2) rfl rfl (jC.eqv (bx (aR (i:=4) dg.nd rfl (Or.inl rfl)) (jC.eqv (bx (aR (i:=5) dg.nd rfl (Or.inl rfl)) (jC.mono fH iK)) (bB _ _))) (bB _ _))) (fL _ _ _)))
      (aF (G6 (E:=E) Bu rfl rfl T.lR (En (K:=K) T) (hr.mono (by decide)) rfl T.yU T.vV (aj (aM 4) (aj (aM 5) aq))))) bG))))),?_⟩
    simp -dsimp[au,stC];refine⟨o,d,xs,ps,fx,rfl,hw,hX,hTs,hf,fun H1 hn s1=>?_,fun x r H1 hx hr0 e1 s1=>?_⟩
    · simp -dsimp[au,stC];refine⟨o,xs,ps,rfl,hw.same s1,hX,hTs,fun l rs H2 hl0 e2 zs hzs Yu qgx hzn s2=>?_⟩;have S2:=s1.trans s2;simp -dsimp[au,stC];refine⟨_,.inl (bw.of e2),gM.of (fun h=>?_) (fun h=>?_)⟩
      · have hpos:=of_decide_eq_true h;cases rs with
        | nil=>simp at hpos
        | cons v rs=>
        cases zs with
        | nil=>have:=hzs.1;simp at this
        | cons z zs=>
        obtain⟨t,rfl,ht,hc⟩:=hzs.2 0 v z rfl rfl;have hz0:=(hzn z List.mem_cons_self).1;rw[List.map_cons] at Yu;simp -dsimp[au,stC];refine⟨_,.inl (bw.of e2),_,aU (j:=0) rfl,?_⟩;simp -dsimp[au,stC];refine⟨_,dW.of ht,rfl,?_⟩;simp -dsimp[au,stC];intro e5 he5;have s5:Same H2 (upd H2 e5 (fu e5 a.bh none)):=aA he5;have x5:upd H2 e5 (fu e5 a.bh none) e5=some (fu e5 a.bh none):=ak;have hc5:=s5 _ _ hc;have e50:H e5=none:=bV S2 he5;have S5:=S2.trans s5;generalize upd H2 e5 (fu e5 a.bh none)=H5 at s5 x5 hc5 S5 ⊢;refine⟨e5,z.1,.int z.2.1,_,rfl,x5,hc5,fun c H6 hc0 ec hbe hB=>⟨rfl,?_⟩⟩;obtain⟨dx,dxe,hx,hdx⟩:=hbe;have ce:c≠e5:=fun z=>by rw[z,x5] at hc0;cases hc0
        refine⟨_,hx,q3 hn z.2.1 z.2.2 _ Yu.symm dx c _ (bV S5 hc0) (wC dxe hdx) (wC ce ec) fun b' u e=>?_⟩;have be:b'≠e5:=fun z=>by rw[z,e50] at e;cases e
        exact wC be (hB b' u be (S5 _ _ e))
      · have h0:=of_decide_eq_false h;cases zs with
        | cons z zs=>have:=hzs.1;simp at this;omega
        | nil=>
          simp -dsimp[au,stC];exact q1 hn Yu.symm _ S2
    · simp -dsimp[au,stC];intro e5 he5;have s5:Same H1 (upd H1 e5 (fu e5 a.bW none)):=aA he5;have x5:upd H1 e5 (fu e5 a.bW none) e5=some (fu e5 a.bW none):=ak;have hc5:=s5 _ _ e1;have e50:H e5=none:=bV s1 he5;have S5:=s1.trans s5;generalize upd H1 e5 (fu e5 a.bW none)=H5 at s5 x5 hc5 S5 ⊢;refine⟨e5,r,_,rfl,x5,hc5,fun c H6 hc0 ec hbe hB=>⟨rfl,?_⟩⟩;obtain⟨dx,dxe,hx5,hdx⟩:=hbe;have ce:c≠e5:=fun z=>by rw[z,x5] at hc0;cases hc0
      refine⟨_,hx5,q2 x hx dx c _ (bV S5 hc0) (wC dxe hdx) (wC ce ec) fun b' u e=>?_⟩;have be:b'≠e5:=fun z=>by rw[z,e50] at e;cases e
      exact wC be (hB b' u be (S5 _ _ e))
def Mu (ps:List (Str×Str)) (xs:List Str) (fs:List (Nat×Int)) (k:Nat):Int:=if (bK (aD (bU (fs++[(k,0)])) ps 0) xs xs).isNone=true then 0 else 1
def lE (ps:List (Str×Str)) (xs:List Str):List (Nat×Int)→List Nat→List (Nat×Int)
  | acc,[]=>acc
  | acc,k::ks=>lE ps xs (acc++[(k,Mu ps xs acc k)]) ks
theorem Ep (ps:List (Str×Str)) (xs:List Str):∀(ks:List Nat) (acc:List (Nat×Int)) (k:Nat),lE ps xs acc (ks++[k])=lE ps xs acc ks++[(k,Mu ps xs (lE ps xs acc ks) k)]
  | [],acc,k=>rfl
  | j::ks,acc,k=>by
    rw[List.cons_append,lE,lE];exact Ep ps xs ks _ k
theorem qaY (ps:List (Str×Str)) (xs:List Str) (fs:List (Nat×Int)) (k:Nat):0≤Mu ps xs fs k∧Mu ps xs fs k≤1:=by
  unfold Mu;split <;> omega
theorem wN (ps:List (Str×Str)) (xs:List Str):∀(ks:List Nat) (acc:List (Nat×Int)),(lE ps xs acc ks).map (·.1)=acc.map (·.1)++ks
  | [],acc=>by simp[lE]
  | k::ks,acc=>by
    rw[lE,wN ps xs ks];simp
theorem Mv {ps:List (Str×Str)} {xs:List Str} {m:Nat}:∀(ks:List Nat) {acc:List (Nat×Int)},lU acc m→(∀k∈ks,k<m∧k∉acc.map (·.1))→ks.Nodup→lU (lE ps xs acc ks) m
  | [],acc,h,_,_=>h
  | k::ks,acc,h,hk,nd=>by
    rw[lE];have h0:=hk k List.mem_cons_self;refine Mv ks (h.snoc h0.1 (qaY ps xs acc k) h0.2) (fun j hj=>⟨(hk j (List.mem_cons_of_mem _ hj)).1,fun z=>?_⟩) (List.nodup_cons.mp nd).2;rw[List.map_append] at z
    rcases List.mem_append.mp z with z | z
    ·exact(hk j (List.mem_cons_of_mem _ hj)).2 z
    ·simp at z;rw[z] at hj;exact(List.nodup_cons.mp nd).1 hj
theorem jG {fs:List (Nat×Int)} {m k:Nat}:k∈bJ fs m↔k<m∧k∉fs.map (·.1):=by
  unfold bJ frB;rw[List.mem_filter,List.mem_range,decide_eq_true_eq]
theorem Ci (fs:List (Nat×Int)) (m:Nat):(bJ fs m).Nodup:=List.nodup_range.filter _
def zc (ps:List (Str×Str)) (xs:List Str) (fs:List (Nat×Int)):List (Nat×Int):=lE ps xs fs (bJ fs ps.length)
def Pq (ps:List (Str×Str)) (xs:List Str) (fs:List (Nat×Int)):List Int:=(List.range ps.length).map fun j=>(bU (zc ps xs fs) j).getD 0
theorem Mw {ps:List (Str×Str)} {xs:List Str} {fs:List (Nat×Int)} {j:Nat} (hj:j<ps.length):∃v,bU (zc ps xs fs) j=some v:=by
  cases h:bU (zc ps xs fs) j with
  | some v=>exact⟨v,rfl⟩
  | none=>
    have h1:=lV.mp h;unfold zc at h1;rw[wN,List.mem_append] at h1
    by_cases hk:j∈fs.map (·.1)
    ·exact(h1 (.inl hk)).elim
    ·exact(h1 (.inr (jG.mpr ⟨hj,hk⟩))).elim
theorem qdX {ps:List (Str×Str)} {xs:List Str} {fs:List (Nat×Int)} {j:Nat} (hj:j<ps.length):(Pq ps xs fs)[j]? = bU (zc ps xs fs) j:=by
  obtain⟨v,hv⟩:=Mw (ps:=ps) (xs:=xs) (fs:=fs) hj;unfold Pq;rw[List.getElem?_map,List.getElem?_range hj,hv];simp[hv]
theorem Rz (ps:List (Str×Str)) (xs:List Str) (fs:List (Nat×Int)):(Pq ps xs fs).length=ps.length:=by simp[Pq]
theorem Mx {f:Str×Str→Nat→List (Nat×List Str)}:∀{ps:List (Str×Str)} {k:Nat},jm f ps k=[]→∀(j:Nat) e,ps[j]? = some e→f e (k+j)=[]
  | [],k,_,j,e,h=>by simp at h
  | d::ps,k,h,j,e,he=>by
    rw[jm,List.append_eq_nil_iff] at h;cases j with
    | zero=>simp at he;subst he;exact h.1
    | succ j=>
      have:=Mx h.2 j e (by simpa using he)
      rwa [show k+(j+1)=k+1+j by omega]
theorem Mz {f:Str×Str→Nat→List (Nat×List Str)} {z:Nat×List Str}:∀{ps:List (Str×Str)} {k:Nat},z∈jm f ps k→∃(j:Nat) (e:Str×Str),ps[j]? = some e∧z∈f e (k+j)
  | [],k,h=>by simp[jm] at h
  | d::ps,k,h=>by
    rw[jm] at h
    rcases List.mem_append.mp h with h | h
    ·exact⟨0,d,rfl,h⟩
    ·obtain⟨j,e,h1,h2⟩:=Mz h;exact⟨j+1,e,by simpa using h1,by rwa [show k+(j+1)=k+1+j by omega]⟩
theorem Yv {ps:List (Str×Str)} {xs:List Str} (h:iJ ps xs=[]):∀(j:Nat) e,ps[j]? = some e→RT (iW (fun i=>i≠j) ps) e.1 e.2:=fun j e he=>by
  have h1:=Mx h j e he;rw[Nat.zero_add] at h1;unfold oZ at h1;split at h1
  ·rename_i h2;exact((jW.mp h2).2).symm fun _ _ z=>z.symm
  ·cases h1
theorem Ut {ps:List (Str×Str)} {xs:List Str} {k:Nat} {lot:List Str} {rest:List (Nat×List Str)} (h:iJ ps xs=(k,lot)::rest):∃e,ps[k]? = some e∧lot=eU ps xs k e.2∧¬e.1∈eU ps xs k e.2:=by
  obtain⟨j,e,h1,h2⟩:=Mz (f:=oZ ps xs) (ps:=ps) (k:=0) (z:=(k,lot)) (by unfold iJ at h;rw[h];exact List.mem_cons_self);rw[Nat.zero_add] at h2;unfold oZ at h2;split at h2
  ·cases h2
  ·rename_i h3;rw[List.mem_singleton] at h2;cases h2;exact⟨e,h1,rfl,h3⟩
def Bf (C Sh Ba:Addr):Sp:=fun vs H Q E=>∃(o d:Addr) (xs:List Str) (ps:List (Str×Str)) (fs:List (Nat×Int)),vs=[.ref o,.ref d]∧fQ C H o xs ps∧Pa xs∧oK xs ps∧H d=some (.dK (cC fs))∧lU fs ps.length∧
  (bK (aD (bU fs) ps 0) xs xs=none→iJ ps xs=[]→∀(r:Addr) (H':Hp),H r=none→H' r=some (.lst ((Pq ps xs fs).map V.int))→Same H H'→Q (.ref r) H')∧
  (∀x,bK (aD (bU fs) ps 0) xs xs=some x→∀(dx c:Addr) (H':Hp),H c=none→H' dx=some (i_ dx [("lot",.ref c)])→H' c=some (.lst ((restOf (aD (bU fs) ps 0) xs x).map V.str))→Same H H'→E (.ref Sh) (some dx) H')∧
  (bK (aD (bU fs) ps 0) xs xs=none→∀k lot rest,iJ ps xs=(k,lot)::rest→∀(dx c:Addr) (H':Hp),H c=none→H' dx=some (i_ dx [("tie",.int (k:Nat)),("lot",.ref c)])→H' c=some (.lst (lot.map V.str))→Same H H'→E (.ref Ba) (some dx) H')
theorem Bg (T:Txt K mg a):cg P w K mg base (T8 P w) 6 a.cW a.jM ["web", "fixed"] (Bf a.bZ a.bW a.bh):=by
  refine T.oF.qdv mX (fun vs H Q E h=>?_) (fun cdv A outer s H vs Q E hr h=>?_)
  ·obtain⟨o,d,xs,ps,fs,rfl,_⟩:=h;rfl
  · obtain⟨o,d,xs,ps,fs,rfl,hw,hX,hTs,hd,hfs,q1,q2,q3⟩:=h;refine⟨_,(aB (dZ (PE.eqv (aN (qM (K:=K) T) (hr.mono (by decide)) rfl T.mZ T.jN.kp T.mY .nil aV (aj (aM 0) (aj (aM 1) aq))) (aG _ _ _)))
      (aB (dZ (PE.eqv (aN (lD (K:=K) T) (hr.mono (by decide)) rfl T.jh T.gj.kp T.jg .nil (Bu.passes rfl) (aj (aM 0) (aj (aM 1) aq))) (aG _ _ _)))
      (aB (bC (i:=2) mX.nd rfl (Or.inr rfl) (fj Ov rfl T.Jj.dict lG (aj (aM 1) aq)))
      (aB (iI PassesOwn.leaving rfl (PI.eqv (dO (K:=K) rfl (PE.eqv (aN (za (K:=K) T) (hr.mono (by decide)) rfl T.uD T.pG.kp T.uz .nil aV (aj (aM 0) (aj (aM 1) aq))) (aG _ _ _))) (cP _ _)) (aR (i:=3) mX.nd rfl (Or.inl rfl))
      (aF (PS.eqv (uW (j8 hr) (aM 2) (aM 3) (Ke (bA qcx (PE.eqv (aN (oM (K:=K) T) (hr.mono (by decide)) rfl T.mF T.jF.kp T.mD .nil aV (aj (aM 0) (aj (PE.eqv (aN (qN (K:=K) T) (hr.mono (by decide)) rfl T.m6 T.jO.kp T.m5 .nil aV (aj (aM 2) (aj (aM 3) (aj aK aq)))) (aG _ _ _)) aq))) (aG _ _ _)) Hx (bY _)) aK aK) rfl) (qy _ _ _))))
      (aF (aY (dY rfl rfl (show aZ (ao cG) _ ["web", "fixed", "kept", "number"] ["number"] [2] ["number", "kept"] from⟨rfl,by decide+kernel,by decide+kernel,rfl,by decide+kernel,by decide+kernel⟩) rfl (PI.eqv (iB rfl T.nm.range (aj (PE.eqv (n6 (aM 0) T.qH T.sJ (uN (K:=K) T) (hr.mono (by decide)) T.sE .nil aV) (oh _ _ _ _ _ _)) aq)) (iD _)) (fun C s H fp pn=>(aR (i:=0) (show(["number", "kept"]:List Str).Nodup by decide+kernel) rfl (Or.inl rfl))) (fun C s H fp pn=>dX) (fun C s H fp pn=>(PE.eqv (qY (j8 hr) (aM 1) (aM 0) (fun _ _=>rfl)) (ou _ _)))))))))),?_⟩
    have Rx:60≤sizeLine:=by decide
    have Ej:=hTs.len;have g2:∀e∈ps,e.1∈xs∧e.2∈xs:=fun e he=>⟨(hTs.ok e he).1,(hTs.ok e he).2.1⟩;simp -dsimp[au,stC,-Bool.exists_bool,-List.map_take,-Prod.forall,-Prod.exists];refine⟨o,d,xs,ps,fs,rfl,hw,hd,hfs,fun H1 s1=>?_⟩;simp -dsimp[au,stC,-Bool.exists_bool,-List.map_take,-Prod.forall,-Prod.exists];refine⟨o,d,xs,ps,bU fs,rfl,hw.same s1,hX,hTs,JH (s1 _ _ hd),fun hn hb H2 s2=>?_,fun x hx dx c H2 hc hdx ec s2=>?_,fun hn k lot rest hb dx c H2 hc hdx ec s2=>?_⟩
    · have S2:=s1.trans s2;simp -dsimp[au,stC,-Bool.exists_bool,-List.map_take,-Prod.forall,-Prod.exists];refine⟨_,.inl (S2 _ _ hd),fun kd hkd=>?_⟩;have s3:Same H2 (upd H2 kd (.dK (cC fs))):=aA hkd;have e3:upd H2 kd (.dK (cC fs)) kd=some (.dK (cC fs)):=ak;generalize upd H2 kd (.dK (cC fs))=H3 at s3 e3 ⊢;have S3:=S2.trans s3;have kd0:H kd=none:=bV S2 hkd;refine⟨o,d,xs,ps,fs,rfl,hw.same S3,Ej,S3 _ _ hd,fun fl H4 hfl efl s4=>?_⟩;have S4:=S3.trans s4;have flk:fl≠kd:=fun z=>by rw[z,e3] at hfl;cases hfl
      have ndF:=Ci fs ps.length;have Pr:∀k∈bJ fs ps.length,k<ps.length∧k∉fs.map (·.1):=fun k hk=>jG.mp hk;simp -dsimp[au,stC,-Bool.exists_bool,-List.map_take,-Prod.forall,-Prod.exists];refine⟨⟨_,bw.of efl⟩,frL (eZ (bJ fs ps.length)) (fun i σ H'=>(∃o3,σ=[some (.ref o),some (.ref d),some (.ref kd),o3])∧H' kd=some (.dK (cC (lE ps xs fs ((bJ fs ps.length).take i))))∧H' fl=some (.lst (eZ (bJ fs ps.length)))∧Same H H') ⟨⟨_,rfl⟩,s4 _ _ e3,efl,S4⟩ (fun i σ H' _ h=>bw.of h.2.2.1) ?_ ?_⟩
      · rintro i v σ H5 hi ⟨⟨o3,rfl⟩,ek,el,s5⟩;obtain⟨k,hk,rfl⟩:∃k,(bJ fs ps.length)[i]? = some k∧v = .int (k:Nat):=by
          unfold eZ at hi;rw[List.getElem?_map] at hi;obtain⟨k,hk,rfl⟩:=Option.map_eq_some_iff.mp hi;exact⟨k,hk,rfl⟩
        have tk:(bJ fs ps.length).take (i+1)=(bJ fs ps.length).take i++[k]:=take_one hk;have sub:∀j∈(bJ fs ps.length).take i,j<ps.length∧j∉fs.map (·.1):=fun j hj=>Pr j (List.mem_of_mem_take hj);have ndT:((bJ fs ps.length).take i).Nodup:=ndF.sublist (List.take_sublist _ _);have qb2:lU (lE ps xs fs ((bJ fs ps.length).take i)) ps.length:=Mv _ hfs sub ndT;have hkm:=Pr k (List.mem_of_getElem? hk);have kn:k∉(lE ps xs fs ((bJ fs ps.length).take i)).map (·.1):=fun z=>by
          rw[wN,List.mem_append] at z
          rcases z with z | z
          ·exact hkm.2 z
          · have h2:((bJ fs ps.length).take i++[k]).Nodup:=by rw[← tk];exact ndF.sublist (List.take_sublist _ _)
            exact(List.nodup_append.mp h2).2.2 k z k (by simp) rfl
        rw[tk,Ep];have hdv:Mu ps xs (lE ps xs fs ((bJ fs ps.length).take i)) k=if (bK (aD (bU (lE ps xs fs ((bJ fs ps.length).take i)++[(k,0)])) ps 0) xs xs).isNone=true then 0 else 1:=rfl
        generalize lE ps xs fs ((bJ fs ps.length).take i)=acc at ek qb2 kn hdv ⊢;have qpr:=qb2.len;simp -dsimp[au,stC,-Bool.exists_bool,-List.map_take,-Prod.forall,-Prod.exists];refine⟨kd,k,0,acc,rfl,ek,by omega,kn,fun r6 H6 hr6 e6 s6=>?_⟩;have S6:=s5.trans s6;have put:∀(H7:Hp) (v:Int),Same H5 H7→v=Mu ps xs acc k→(∃H8,FJ H7 kd (.int (k:Nat)) (.int v) H8∧H8 kd=some (.dK (cC (acc++[(k,Mu ps xs acc k)])))∧H8 fl=some (.lst (eZ (bJ fs ps.length)))∧Same H H8):=fun H7 v s7 hv=>by
          refine⟨_,.inl ⟨_,Sum.inl ((k:Nat):Int),s7 _ _ ek,rfl,by simp[cC];omega,rfl⟩,?_,?_,aW (s5.trans s7) kd0⟩
          ·rw[ak,qu kn,hv]
          ·rw[aC flk];exact s7 _ _ el
        refine⟨o,r6,xs,ps,_,rfl,hw.same S6,hX,hTs,JH e6,fun H7 hn7 s7=>?_,fun x r H7 hx7 hr7 e7 s7=>?_⟩
        ·obtain⟨H8,p1,p2,p3,p4⟩:=put H7 0 (s6.trans s7) (by rw[hdv,hn7];rfl);simp -dsimp[au,stC,-Bool.exists_bool,-List.map_take,-Prod.forall,-Prod.exists];exact⟨H8,p1,p2,p3,p4⟩
        ·obtain⟨H8,p1,p2,p3,p4⟩:=put H7 1 (s6.trans s7) (by rw[hdv,hx7];rfl);simp -dsimp[au,stC,-Bool.exists_bool,-List.map_take,-Prod.forall,-Prod.exists];exact⟨H8,p1,p2,p3,p4⟩
      · rintro σ H5 ⟨⟨o3,rfl⟩,ek,el,s5⟩;have ek':H5 kd=some (.dK (cC (zc ps xs fs))):=by
          rw[ek];unfold zc eZ;rw[List.length_map,List.take_length]
        obtain⟨dx,fss,hi,hno⟩:=(hw.same s5).ins vB.1 vB.2;simp -dsimp[au,stC,-Bool.exists_bool,-List.map_take,-Prod.forall,-Prod.exists];refine⟨_,_,hi,hno,o,xs,ps,rfl,hw.same s5,?_⟩;simp -dsimp[au,stC,-Bool.exists_bool,-List.map_take,-Prod.forall,-Prod.exists];refine⟨by omega,fun D hD=>cmR (fun i σ H'=>(∃o',σ=[o',some (.ref kd)])∧H' D=some (.lst (((Pq ps xs fs).take i).map V.int))∧Same H5 H') ⟨⟨_,rfl⟩,ak,aA hD⟩ ?_ ?_⟩
        · rintro i σ H6 hi6 ⟨⟨o',rfl⟩,Ul,s6⟩;obtain⟨v,hv⟩:=Mw (ps:=ps) (xs:=xs) (fs:=fs) hi6;have ov:(Pq ps xs fs)[i]? = some v:=by rw[qdX hi6];exact hv
          have hg:iz H6 kd (V.int (i:Int)) (some (.int v)):=by
            have h1:=qJ (zc ps xs fs) i;rw[hv] at h1;have h2:iz H6 kd (V.int (i:Int)) (jZ (cC (zc ps xs fs)) (Sum.inl (i:Int))):=iz.k (k:=Sum.inl (i:Int)) (s6 _ _ ek');rw[h1] at h2;exact h2
          have ol:=Rz ps xs fs;rw[take_one ov];simp -dsimp[au,stC,-Bool.exists_bool,-List.map_take,-Prod.forall,-Prod.exists];refine⟨_,hg,_,Ul,by simp;omega,?_,aW s6 hD⟩;rw[ak]
        ·rintro σ H6 ⟨⟨o',rfl⟩,Ul,s6⟩;rw[← Rz ps xs fs,List.take_length] at Ul;simp -dsimp[au,stC,-Bool.exists_bool,-List.map_take,-Prod.forall,-Prod.exists];exact q1 hn hb D H6 (bV s5 hD) Ul (s5.trans s6)
    ·exact q2 x hx dx c H2 (bV s1 hc) hdx ec (s1.trans s2)
    ·exact q3 hn k lot rest hb dx c H2 (bV s1 hc) hdx ec (s1.trans s2)
def dU (H:Hp) (t n l:Addr) (xs:List Str) (tv:List V) (ps:List (Str×Str)):Prop:=H t=some (.tup [.ref n,.ref l])∧H n=some (.lst (xs.map V.str))∧H l=some (.lst tv)∧bD H tv ps∧Pa xs∧oK xs ps
theorem dU.same {H H':Hp} {t n l:Addr} {xs:List Str} {tv:List V} {ps:List (Str×Str)} (h:dU H t n l xs tv ps) (s:Same H H'):dU H' t n l xs tv ps:=⟨s _ _ h.1,s _ _ h.2.1,s _ _ h.2.2.1,bD.same h.2.2.2.1 s,h.2.2.2.2⟩
theorem int_at {ns:List Int} {i:Nat} {x:V} (h:(ns.map V.int)[i]? = some x):∃m,ns[i]? = some m∧x = .int m:=by
  rw[List.getElem?_map] at h;cases hn:ns[i]? with
  | none=>rw[hn] at h;cases h
  | some n=>rw[hn] at h;cases h;exact⟨n,rfl,rfl⟩
theorem qaZ (e:Str×Str) {m:Int} (h0:0≤m) (h1:m≤1):Aa [V.str e.1,V.str e.2] (1 - m)=some (.str (K1 m e)):=by
  have:m=0∨m=1:=by omega
  rcases this with rfl | rfl
  ·exact aU (j:=1) rfl
  ·exact aU (j:=0) rfl
theorem lA.qa0 {p b:Addr} {H:Hp} {o:HO} (x:lA H p) (h:H b=some o) (hn:∀zs,o≠.lst zs):b≠p:=fun z=>by
  subst z;obtain⟨u,v,e,_⟩:=x;rw[h] at e;exact hn _ (Option.some.inj e)
theorem fQ.but {C p:Addr} {H H':Hp} {o:Addr} {xs:List Str} {ps:List (Str×Str)} (h:fQ C H o xs ps) (hp:lA H p) (b:But p H H'):fQ C H' o xs ps:=by
  obtain⟨dx,n,m,tv,h1,h2,h3,h4,h5⟩:=h.ex;exact⟨⟨dx,n,m,tv,b _ _ (hp.qa0 h1 (by intro zs z;cases z)) h1,b _ _ (hp.qa0 h2 (by intro zs z;cases z)) h2,b _ _ (hp.qa0 h3 (by intro zs z;cases z)) h3,h4.but hp b,h5⟩⟩
theorem dU.but {p:Addr} {H H':Hp} {t n l:Addr} {xs:List Str} {tv:List V} {ps:List (Str×Str)} (h:dU H t n l xs tv ps) (hp:lA H p) (b:But p H H') (np:n≠p) (lp:l≠p):dU H' t n l xs tv ps:=
  ⟨b _ _ (hp.qa0 h.1 (by intro zs z;cases z)) h.1,b _ _ np h.2.1,b _ _ lp h.2.2.1,h.2.2.2.1.but hp b,h.2.2.2.2⟩
theorem lA.keep {p:Addr} {H H':Hp} (x:lA H p) (s:Same H H'):lA H' p:=by
  obtain⟨u1,u2,u3,u4⟩:=x;exact⟨u1,u2,s _ _ u3,u4⟩
def Yw (zs:List Int) (fx:Nat→Option Int):Prop:=∀(j:Nat) z,zs[j]? = some z→(z=0∧fx j=some 0)∨(z=1∧fx j=some 1)∨(z=2∧fx j=none)
theorem qZ {fx:Nat→Option Int} {ps:List (Str×Str)} {j:Nat} {e:Str×Str} (he:ps[j]? = some e):aD fx (ps.take (j+1)) 0=aD fx (ps.take j) 0++j9 fx e j:=by
  have hj:j<ps.length:=(List.getElem?_eq_some_iff.mp he).1;rw[take_one he,n_,List.length_take,Nat.min_eq_left (by omega),Nat.zero_add];simp[aD]
def Pu:Sp:=fun vs H Q _=>∃(t n l g:Addr) (xs:List Str) (tv:List V) (ps:List (Str×Str)) (zs:List Int) (fx:Nat→Option Int) (x:Str),vs=[.ref t,.ref g,.str x]∧dU H t n l xs tv ps∧H g=some (.lst (zs.map V.int))∧zs.length=ps.length∧Yw zs fx∧x∈xs∧
  ∀(r:Addr) (f:List Str) (H':Hp),H r=none→H' r=some (.lst (f.map V.str))→f.length=(mJ (aD fx ps 0) xs x).length→(∀y,y∈f↔RT (fC (aD fx ps 0)) x y)→Same H H'→Q (.ref r) H'
theorem wO (T:Txt K mg a):cg P w K mg base lC 1 a.jy a.rP ["_law_web_here", "_law_pointing", "_law_start"] Pu:=by
  refine T.qG.oU lM (fun vs H Q E h=>?_) (fun cdv A outer s H vs Q E hr h=>?_)
  ·obtain⟨t,n,l,g,xs,tv,ps,zs,fx,x,rfl,_⟩:=h;rfl
  · obtain⟨t,n,l,g,xs,tv,ps,zs,fx,x,rfl,hG,hg,hlen,hst,hx,q⟩:=h;refine⟨_,(aB (bC (i:=3) lM.nd rfl (Or.inl rfl) (jP (aj (aM 2) aq)))
      (aB (iI PassesOwn.never rfl (PI.eqv (dO (K:=K) rfl (bL (bO (K:=K) rfl) (aM 0) aK (fun _ _=>rfl))) (cP _ _)) (aR (i:=4) lM.nd rfl (Or.inl rfl))
      (aF (iI PassesOwn.never rfl (PI.eqv (QZ (K:=K) rfl rfl T.nm.zip (aj (bL (bO (K:=K) rfl) (aM 0) aK (fun _ _=>rfl)) (aj (aM 1) aq))) (K8 _ _)) (PG.eqv (fJ (K:=K) (n:=2) rfl rfl (jC.eqv (bx (PG.eqv (fJ (K:=K) (n:=2) rfl rfl (jC.eqv (bx (aR (i:=5) lM.nd rfl (Or.inl rfl)) (jC.eqv (bx (aR (i:=6) lM.nd rfl (Or.inl rfl)) (jC.mono fH iK)) (bB _ _))) (bB _ _))) (fL _ _ _)) (jC.eqv (bx (aR (i:=7) lM.nd rfl (Or.inl rfl)) (jC.mono fH iK)) (bB _ _))) (bB _ _))) (fL _ _ _))
      (aB (cR (PW.pt (zq (bA j_ (aM 7) aK (bY _)) (zq (bA (Oi (K:=K) rfl) (aM 5) (aM 3) rfl) (Bm (bA (uZ (K:=K) rfl) (aM 6) (aM 3) rfl))))) (aF (dZ (pO (K:=K) rfl PySem.F.plainAttrs_list PySem.F.slot_list_append PySem.F.type_list_append iZ (aM 3) (aj (aM 6) aq)))) bG)
      (aF (cR (PW.pt (zq (bA j_ (aM 7) aK (bY _)) (zq (bA (Oi (K:=K) rfl) (aM 6) (aM 3) rfl) (Bm (bA (uZ (K:=K) rfl) (aM 5) (aM 3) rfl))))) (aF (dZ (pO (K:=K) rfl PySem.F.plainAttrs_list PySem.F.slot_list_append PySem.F.type_list_append iZ (aM 3) (aj (aM 5) aq)))) bG))))))
      (aF (aY (aM 3))))),?_⟩
    have Rx:60≤sizeLine:=by decide
    have hX:=hG.2.2.2.2.1;have hTs:=hG.2.2.2.2.2;have l9:=hX.len;have Ej:=hTs.len;have tl:=hG.2.2.2.1.1;have Np:∀s∈aD fx ps 0,s.2.2∈xs:=JC hTs;right;intro f hf;have sf:Same H (upd H f (.lst [.str x])):=aA hf;have ef:upd H f (.lst [.str x]) f=some (.lst [.str x]):=ak;generalize upd H f (.lst [.str x])=H1 at sf ef ⊢;refine⟨_,.inr (dW.of (sf _ _ hG.1)),_,aU (j:=0) rfl,⟨_,bw.of (sf _ _ hG.2.1)⟩,?_⟩;refine frL (xs.map V.str) (fun i σ H'=>∃(fs:List Str) (o4 o5 o6 o7:Option V),σ=[some (.ref t),some (.ref g),some (.str x),some (.ref f),o4,o5,o6,o7]∧H' f=some (.lst (fs.map V.str))∧Ng (aD fx ps 0) x fs∧(o9 (aD fx ps 0) fs∨i+1≤fs.length)∧Same H H') ⟨[x],none,none,none,none,rfl,ef,Ng.begin _ _,.inr (Nat.le_refl _),sf⟩ (fun i σ H' _ h=>by
      obtain⟨_,_,_,_,_,_,_,_,_,z⟩:=h;exact bw.of (z _ _ hG.2.1)) ?_ ?_
    · rintro i z σ H2 hi ⟨fs,o4,o5,o6,o7,rfl,hf2,hR,hC,s2⟩;right;refine⟨_,.inr (dW.of (s2 _ _ hG.1)),_,aU (j:=1) rfl,?_⟩;right;refine⟨⟨_,bw.of (s2 _ _ hG.2.2.1)⟩,⟨_,bw.of (s2 _ _ hg)⟩,?_⟩;refine frZ tv (zs.map V.int) (fun j σ H'=>∃(fs':List Str) (o5 o6 o7:Option V),σ=[some (.ref t),some (.ref g),some (.str x),some (.ref f),some z,o5,o6,o7]∧H' f=some (.lst (fs'.map V.str))∧gV (aD fx ps 0) (aD fx (ps.take j) 0) x fs fs'∧Same H H') ⟨fs,o5,o6,o7,rfl,hf2,gV.enter hR,s2⟩ (by simp;omega) (fun i σ H' _ h=>by
        obtain⟨_,_,_,_,_,_,_,z⟩:=h;exact⟨bw.of (z _ _ hG.2.2.1),bw.of (z _ _ hg)⟩) ?_ ?_
      · rintro j z1 z2 tt σ H4 hj1 hj2 htt ⟨fs',o5,o6,o7,rfl,hf4,hM,s4⟩;obtain⟨e,he,t2,rfl,Jz⟩:=hG.2.2.2.1.at hj1;obtain⟨m,hm,rfl⟩:=int_at hj2;have st:Same H4 (upd H4 tt (.tup [.ref t2,.int m])):=aA htt;have zf:=st _ _ hf4;have ht5:=st _ _ (s4 _ _ Jz);have s5:=s4.trans st;have Yx:upd H4 tt (.tup [.ref t2,.int m]) tt=some (.tup [.ref t2,.int m]):=ak;generalize upd H4 tt (.tup [.ref t2,.int m])=H5 at zf ht5 s5 Yx ⊢;have hf9:=hM.r.len hx Np;have qa1:∀s∈j9 fx e j,s∈aD fx ps 0:=fun s hs=>jV.mpr ⟨j,e,he,by rw[Nat.zero_add];exact hs⟩;have hT1:=qZ (fx:=fx) he;generalize aD fx (ps.take (j+1)) 0=T1 at hT1 ⊢;right;refine⟨_,dW.of Yx,rfl,_,dW.of ht5,rfl,?_⟩
        rcases hst j m hm with⟨rfl,hfx⟩ | ⟨rfl,hfx⟩ | ⟨rfl,hfx⟩
        · have so:j9 fx e j=[(j,e.1,e.2)]:=by unfold j9;rw[hfx];rfl
          have hin:(j,e.1,e.2)∈aD fx ps 0:=qa1 _ (by rw[so];simp);rw[so] at hT1;have cv:∀{f:List Str},gV (aD fx ps 0) (aD fx (ps.take j) 0++[(j,e.1,e.2)]) x fs f→gV (aD fx ps 0) T1 x fs f:=fun h=>by rw[hT1];exact h
          right;refine⟨_,.inl (bw.of zf),rfl,List.all_eq_true.mp (cu _),?_⟩;rw[bN];refine gM.of (fun h1=>?_) (fun h1=>?_)
          · have h1':e.1∈fs':=of_decide_eq_true h1;have d1:inV (.str e.2) (fs'.map V.str) = !decide (¬e.2∈fs'):=by rw[bN];simp
            right;refine⟨_,.inl (bw.of zf),rfl,List.all_eq_true.mp (cu _),_,d1,gM.of (fun h2=>?_) (fun h2=>?_)⟩
            ·have h2':¬e.2∈fs':=of_decide_eq_true h2;right;refine⟨⟨_,bw.of zf⟩,_,zf,by simp;omega,fs'++[e.2],by rw[ak];simp,cv (hM.add hin h1' h2'),aW s5 hf⟩
            · have h2':e.2∈fs':=by simpa using h2
              right;exact⟨fs',zf,cv (hM.skip (s:=(j,e.1,e.2)) fun _=>h2'),s5⟩
          ·have h1':¬e.1∈fs':=of_decide_eq_false h1;right;exact⟨fs',zf,cv (hM.skip (s:=(j,e.1,e.2)) fun z=>absurd z h1'),s5⟩
        · have so:j9 fx e j=[(j,e.2,e.1)]:=by unfold j9;rw[hfx];rfl
          have Yy:(j,e.2,e.1)∈aD fx ps 0:=qa1 _ (by rw[so];simp);rw[so] at hT1;have cv:∀{f:List Str},gV (aD fx ps 0) (aD fx (ps.take j) 0++[(j,e.2,e.1)]) x fs f→gV (aD fx ps 0) T1 x fs f:=fun h=>by rw[hT1];exact h
          right;refine⟨_,.inl (bw.of zf),rfl,List.all_eq_true.mp (cu _),?_⟩;rw[bN];refine gM.of (fun g1=>?_) (fun g1=>?_)
          · have Px:e.2∈fs':=of_decide_eq_true g1;have d2:inV (.str e.1) ((fs').map V.str) = !decide (¬e.1∈fs'):=by rw[bN];simp
            have l9':=(hM).r.len hx Np;right;refine⟨_,.inl (bw.of zf),rfl,List.all_eq_true.mp (cu _),_,d2,gM.of (fun g2=>?_) (fun g2=>?_)⟩
            ·have Py:¬e.1∈fs':=of_decide_eq_true g2;right;exact⟨⟨_,bw.of zf⟩,_,zf,by rw[List.length_map];omega,fs'++[e.1],by rw[ak];simp,cv ((hM).add Yy Px Py),aW s5 hf⟩
            · have Py:e.1∈fs':=by simpa using g2
              right;exact⟨fs',zf,cv ((hM).skip (s:=(j,e.2,e.1)) fun _=>Py),s5⟩
          ·have Px:¬e.2∈fs':=of_decide_eq_false g1;right;exact⟨fs',zf,cv ((hM).skip (s:=(j,e.2,e.1)) fun z=>absurd z Px),s5⟩
        · have so:j9 fx e j=[(j,e.1,e.2)]++[(j,e.2,e.1)]:=by unfold j9;rw[hfx];rfl
          have hin:(j,e.1,e.2)∈aD fx ps 0:=qa1 _ (by rw[so];simp);have Yy:(j,e.2,e.1)∈aD fx ps 0:=qa1 _ (by rw[so];simp);rw[so,← List.append_assoc] at hT1;have cv:∀{f:List Str},gV (aD fx ps 0) (aD fx (ps.take j) 0++[(j,e.1,e.2)]++[(j,e.2,e.1)]) x fs f→gV (aD fx ps 0) T1 x fs f:=fun h=>by rw[hT1];exact h
          right;refine⟨_,.inl (bw.of zf),rfl,List.all_eq_true.mp (cu _),?_⟩;rw[bN];refine gM.of (fun h1=>?_) (fun h1=>?_)
          · have h1':e.1∈fs':=of_decide_eq_true h1;have d1:inV (.str e.2) (fs'.map V.str) = !decide (¬e.2∈fs'):=by rw[bN];simp
            right;refine⟨_,.inl (bw.of zf),rfl,List.all_eq_true.mp (cu _),_,d1,gM.of (fun h2=>?_) (fun h2=>?_)⟩
            · have h2':¬e.2∈fs':=of_decide_eq_true h2;right;have Yz:=hM.add hin h1' h2';have hf6:upd H5 f (.lst (fs'.map V.str++[.str e.2])) f=some (.lst ((fs'++[e.2]).map V.str)):=by rw[ak];simp
              have s6:Same H (upd H5 f (.lst (fs'.map V.str++[.str e.2]))):=aW s5 hf;refine⟨⟨_,bw.of zf⟩,_,zf,by simp;omega,?_⟩;generalize upd H5 f (.lst (fs'.map V.str++[.str e.2]))=H6 at hf6 s6 ⊢;have YB:gV (aD fx ps 0) (aD fx (ps.take j) 0++[(j,e.1,e.2)]) x fs (fs'++[e.2]):=Yz;generalize fs'++[e.2]=fs6 at hf6 YB;refine⟨_,.inl (bw.of hf6),rfl,List.all_eq_true.mp (cu _),?_⟩;rw[bN];refine gM.of (fun g1=>?_) (fun g1=>?_)
              · have Px:e.2∈fs6:=of_decide_eq_true g1;have d2:inV (.str e.1) ((fs6).map V.str) = !decide (¬e.1∈fs6):=by rw[bN];simp
                have l9':=(YB).r.len hx Np;right;refine⟨_,.inl (bw.of hf6),rfl,List.all_eq_true.mp (cu _),_,d2,gM.of (fun g2=>?_) (fun g2=>?_)⟩
                ·have Py:¬e.1∈fs6:=of_decide_eq_true g2;right;exact⟨⟨_,bw.of hf6⟩,_,hf6,by rw[List.length_map];omega,fs6++[e.1],by rw[ak];simp,cv ((YB).add Yy Px Py),aW s6 hf⟩
                · have Py:e.1∈fs6:=by simpa using g2
                  right;exact⟨fs6,hf6,cv ((YB).skip (s:=(j,e.2,e.1)) fun _=>Py),s6⟩
              ·have Px:¬e.2∈fs6:=of_decide_eq_false g1;right;exact⟨fs6,hf6,cv ((YB).skip (s:=(j,e.2,e.1)) fun z=>absurd z Px),s6⟩
            · have h2':e.2∈fs':=by simpa using h2
              have Yz:=hM.skip (s:=(j,e.1,e.2)) fun _=>h2';right;refine⟨_,.inl (bw.of zf),rfl,List.all_eq_true.mp (cu _),?_⟩;rw[bN];refine gM.of (fun g1=>?_) (fun g1=>?_)
              · have Px:e.2∈fs':=of_decide_eq_true g1;have d2:inV (.str e.1) ((fs').map V.str) = !decide (¬e.1∈fs'):=by rw[bN];simp
                have l9':=(Yz).r.len hx Np;right;refine⟨_,.inl (bw.of zf),rfl,List.all_eq_true.mp (cu _),_,d2,gM.of (fun g2=>?_) (fun g2=>?_)⟩
                ·have Py:¬e.1∈fs':=of_decide_eq_true g2;right;exact⟨⟨_,bw.of zf⟩,_,zf,by rw[List.length_map];omega,fs'++[e.1],by rw[ak];simp,cv ((Yz).add Yy Px Py),aW s5 hf⟩
                · have Py:e.1∈fs':=by simpa using g2
                  right;exact⟨fs',zf,cv ((Yz).skip (s:=(j,e.2,e.1)) fun _=>Py),s5⟩
              ·have Px:¬e.2∈fs':=of_decide_eq_false g1;right;exact⟨fs',zf,cv ((Yz).skip (s:=(j,e.2,e.1)) fun z=>absurd z Px),s5⟩
          · have h1':¬e.1∈fs':=of_decide_eq_false h1;have Yz:=hM.skip (s:=(j,e.1,e.2)) fun z=>absurd z h1';right;refine⟨_,.inl (bw.of zf),rfl,List.all_eq_true.mp (cu _),?_⟩;rw[bN];refine gM.of (fun g1=>?_) (fun g1=>?_)
            · have Px:e.2∈fs':=of_decide_eq_true g1;have d2:inV (.str e.1) ((fs').map V.str) = !decide (¬e.1∈fs'):=by rw[bN];simp
              have l9':=(Yz).r.len hx Np;right;refine⟨_,.inl (bw.of zf),rfl,List.all_eq_true.mp (cu _),_,d2,gM.of (fun g2=>?_) (fun g2=>?_)⟩
              ·have Py:¬e.1∈fs':=of_decide_eq_true g2;right;exact⟨⟨_,bw.of zf⟩,_,zf,by rw[List.length_map];omega,fs'++[e.1],by rw[ak];simp,cv ((Yz).add Yy Px Py),aW s5 hf⟩
              · have Py:e.1∈fs':=by simpa using g2
                right;exact⟨fs',zf,cv ((Yz).skip (s:=(j,e.2,e.1)) fun _=>Py),s5⟩
            ·have Px:¬e.2∈fs':=of_decide_eq_false g1;right;exact⟨fs',zf,cv ((Yz).skip (s:=(j,e.2,e.1)) fun z=>absurd z Px),s5⟩
      ·rintro σ H4 ⟨fs',o5,o6,o7,rfl,hf4,hM,s4⟩;rw[tl,List.take_length] at hM;obtain⟨hR',hC'⟩:=hM.leave hC;right;exact⟨fs',hf4,hR',hC',s4⟩
    ·rintro σ H2 ⟨fs,o4,o5,o6,o7,rfl,hf2,hR,hC,s2⟩;have hle:=hR.len hx Np;rw[List.length_map] at hC;have hcl:o9 (aD fx ps 0) fs:=hC.elim id fun z=>absurd z (by omega);right;exact q f fs H2 hf hf2 (hR.mJ hcl hX.nd hx Np) (hR.closed hcl) s2
theorem YC {R S:Str→Str→Prop} (f:∀a b,R a b→S b a) {a b:Str} (h:RT R a b):RT S b a:=by
  induction h with
  | refl=>exact .refl _
  | tail _ q ih=>exact(RT.one (f _ _ q)).trans ih
def Zu (fx:Nat→Option Int):Nat→Option Int:=fun j=>(fx j).map fun d=>1 - d
theorem Hr {fx:Nat→Option Int} {ps:List (Str×Str)} (h01:∀j d,j<ps.length→fx j=some d→d=0∨d=1) {a b:Str}:fC (aD (Zu fx) ps 0) a b↔fC (aD fx ps 0) b a:=by
  constructor
  · rintro⟨n,hn⟩;refine⟨n,?_⟩;rw[cZ] at hn ⊢;obtain⟨e,he,h⟩:=hn;have hl:n<ps.length:=(List.getElem?_eq_some_iff.mp he).1;refine⟨e,he,?_⟩;unfold Zu at h;cases hf:fx n with
    | none=>rw[hf] at h;simp at h ⊢;rcases h with⟨rfl,rfl⟩ | ⟨rfl,rfl⟩ <;> simp
    | some d=>
      rw[hf] at h
      rcases h01 n d hl hf with rfl | rfl <;> simp at h ⊢ <;> exact⟨h.2,h.1⟩
  · rintro⟨n,hn⟩;refine⟨n,?_⟩;rw[cZ] at hn ⊢;obtain⟨e,he,h⟩:=hn;have hl:n<ps.length:=(List.getElem?_eq_some_iff.mp he).1;refine⟨e,he,?_⟩;unfold Zu;cases hf:fx n with
    | none=>rw[hf] at h;simp at h ⊢;rcases h with⟨rfl,rfl⟩ | ⟨rfl,rfl⟩ <;> simp
    | some d=>
      rw[hf] at h
      rcases h01 n d hl hf with rfl | rfl <;> simp at h ⊢ <;> exact⟨h.2,h.1⟩
theorem RB {S:List jl} {xs:List Str} {x:Str}:(mJ S xs x).length=xs.length↔∀y∈xs,RT (fC S) x y:=by
  constructor
  · intro h y hy;have h2:mJ S xs x=xs:=by
      unfold mJ at h ⊢;exact List.filter_eq_self.mpr (List.length_filter_eq_length_iff.mp h)
    have:y∈mJ S xs x:=by rw[h2];exact hy
    exact(oY.mp this).2
  · intro h;apply Classical.byContradiction;intro hne;have hlt:(mJ S xs x).length<xs.length:=by have:=Ir (S:=S) (xs:=xs) (x:=x);omega
    unfold mJ at hlt;rw[List.length_filter_lt_length_iff_exists] at hlt;obtain⟨y,hy,hn⟩:=hlt;exact hn (by simpa using h y hy)
def JL:Sp:=fun vs H Q _=>∃(t n l g:Addr) (xs:List Str) (tv:List V) (ps:List (Str×Str)) (zs:List Int) (fx:Nat→Option Int),vs=[.ref t,.ref g]∧dU H t n l xs tv ps∧H g=some (.lst (zs.map V.int))∧zs.length=ps.length∧Yw zs fx∧
  ∀(b:Bool) (H':Hp),(b=true↔Strong (aD fx ps 0) xs)→Same H H'→Q (.bl b) H'
theorem sU (T:Txt K mg a):cg P w K mg base lC 2 a.f9 a.nO ["_law_web_here", "_law_pointing"] JL:=by
  refine T.mO.oU rG (fun vs H Q E h=>?_) (fun cdv A outer s H vs Q E hr h=>?_)
  ·obtain⟨t,n,l,g,xs,tv,ps,zs,fx,rfl,_⟩:=h;rfl
  · obtain⟨t,n,l,g,xs,tv,ps,zs,fx,rfl,hG,hg,hlen,hst,q⟩:=h;refine⟨_,(aB (bC (i:=2) rG.nd rfl (Or.inl rfl) (PE.eqv (aN (wO (K:=K) T) (hr.mono (by decide)) rfl T.vq T.qG.kp T.vp .nil aV (aj (aM 0) (aj (aM 1) (aj (bL (bO (K:=K) rfl) (bL (bO (K:=K) rfl) (aM 0) aK (fun _ _=>rfl)) aK (fun _ _=>rfl)) aq)))) (aG _ _ _)))
      (aB (bC (i:=3) rG.nd rfl (Or.inl rfl) (PE.eqv (aN (wO (K:=K) T) (hr.mono (by decide)) rfl T.vq T.qG.kp T.vp .nil aV (aj (aM 0) (aj (dY rfl rfl (show aZ (ao eX) _ ["_law_web_here", "_law_pointing", "_law_there", "_law_back"] ["_law_turn"] [] ["_law_turn"] from⟨rfl,by decide+kernel,by decide+kernel,rfl,by decide+kernel,by decide+kernel⟩) rfl (PI.eqv (dO (K:=K) rfl (aM 1)) (cP _ _)) (fun C s H fp pn=>(aR (i:=0) (show(["_law_turn"]:List Str).Nodup by decide+kernel) rfl (Or.inl rfl))) (fun C s H fp pn=>dX) (fun C s H fp pn=>(bL (bO (K:=K) rfl) (jP (aj aK (aj aK (aj aK aq)))) (aM 0) (fun _ _=>rfl)))) (aj (bL (bO (K:=K) rfl) (bL (bO (K:=K) rfl) (aM 0) aK (fun _ _=>rfl)) aK (fun _ _=>rfl)) aq)))) (aG _ _ _)))
      (aF (aY (jK (gO q_ (aO (cB (K:=K) rfl) rfl T.nm.len PySem.boot_len (aj (aM 2) aq)) (aO (cB (K:=K) rfl) rfl T.nm.len PySem.boot_len (aj (bL (bO (K:=K) rfl) (aM 0) aK (fun _ _=>rfl)) aq)) (bY _)) (nZ (gO q_ (aO (cB (K:=K) rfl) rfl T.nm.len PySem.boot_len (aj (aM 3) aq)) (aO (cB (K:=K) rfl) rfl T.nm.len PySem.boot_len (aj (bL (bO (K:=K) rfl) (aM 0) aK (fun _ _=>rfl)) aq)) (bY _)))))))),?_⟩
    have Rx:60≤sizeLine:=by decide
    have l9:=hG.2.2.2.2.1.len;have Ej:=hG.2.2.2.2.2.len;obtain⟨x0,hx0⟩:∃x0,xs[0]? = some x0:=⟨_,List.getElem?_eq_getElem (show 0<xs.length by omega)⟩;have L_:=List.mem_of_getElem? hx0;have at0:Aa (xs.map V.str) 0=some (.str x0):=aU (j:=0) (by rw[List.getElem?_map,hx0];rfl);right;refine⟨_,.inr (dW.of hG.1),_,aU (j:=0) rfl,?_⟩;right;refine⟨_,.inl (bw.of hG.2.1),_,at0,t,n,l,g,xs,tv,ps,zs,fx,x0,rfl,hG,hg,hlen,hst,L_,fun r1 f1 H1 hr1 e1 hf1 hm1 s1=>?_⟩;right;refine⟨⟨_,bw.of (s1 _ _ hg)⟩,fun D hD=>Zq (zs.map V.int) (fun i σ H'=>(∃o',σ=[o'])∧(∃us:List Int,H' D=some (.lst (us.map V.int))∧us.length=i∧Yw us (Zu fx))∧Same H1 H') ⟨⟨_,rfl⟩,⟨[],ak,rfl,fun j z h=>by simp at h⟩,aA hD⟩ (fun i σ H' _ h=>bw.of (h.2.2 _ _ (s1 _ _ hg))) ?_ ?_⟩
    · rintro i v σ H2 hi ⟨⟨o',rfl⟩,⟨us,hD2,hul,hus⟩,s2⟩;obtain⟨m,hm,rfl⟩:=int_at hi;have hi2:i<zs.length:=(List.getElem?_eq_some_iff.mp hm).1;right;intro p3 hp3;have s3:Same H2 (upd H2 p3 (.lst [.int 1,.int 0,.int 2])):=aA hp3;have e3:upd H2 p3 (.lst [.int 1,.int 0,.int 2]) p3=some (.lst [.int 1,.int 0,.int 2]):=ak;generalize upd H2 p3 (.lst [.int 1,.int 0,.int 2])=H3 at s3 e3 ⊢;obtain⟨v,hv,hv2⟩:∃v:Int,Aa [V.int 1,V.int 0,V.int 2] m=some (.int v)∧((v=0∧Zu fx i=some 0)∨(v=1∧Zu fx i=some 1)∨(v=2∧Zu fx i=none)):=by
        unfold Zu
        rcases hst i m hm with⟨rfl,hf⟩ | ⟨rfl,hf⟩ | ⟨rfl,hf⟩
        ·exact⟨1,aU (j:=0) rfl,.inr (.inl ⟨rfl,by rw[hf];rfl⟩)⟩
        ·exact⟨0,aU (j:=1) rfl,.inl ⟨rfl,by rw[hf];rfl⟩⟩
        ·exact⟨2,aU (j:=2) rfl,.inr (.inr ⟨rfl,by rw[hf];rfl⟩)⟩
      refine⟨_,.inl (bw.of e3),_,hv,_,s3 _ _ hD2,by rw[List.length_map];omega,⟨us++[v],by rw[ak];simp,by simp[hul],fun j z hz=>?_⟩,aW (s2.trans s3) hD⟩
      by_cases hj:j<us.length
      ·rw[List.getElem?_append_left hj] at hz;exact hus j z hz
      · rw[List.getElem?_append_right (by omega)] at hz;have h0:j - us.length=0:=by
          have:=(List.getElem?_eq_some_iff.mp hz).1;simp at this;omega
        rw[h0] at hz;simp at hz;subst hz;have:j=i:=by omega
        subst this;exact hv2
    · rintro σ H2 ⟨⟨o',rfl⟩,⟨us,hD2,hul,hus⟩,s2⟩;rw[List.length_map] at hul;have S2:=s1.trans s2;right;refine⟨_,.inr (dW.of (S2 _ _ hG.1)),_,aU (j:=0) rfl,?_⟩;right;refine⟨_,.inl (bw.of (S2 _ _ hG.2.1)),_,at0,t,n,l,D,xs,tv,ps,us,Zu fx,x0,rfl,hG.same S2,hD2,by omega,hus,L_,fun r3 f3 H3 hr3 e3 hf3 hm3 s3=>?_⟩;have S3:=S2.trans s3;right;refine⟨_,.inl (bw.of ((s2.trans s3) _ _ e1)),_,.inr (dW.of (S3 _ _ hG.1)),_,aU (j:=0) rfl,?_⟩;right;refine⟨_,.inl (bw.of (S3 _ _ hG.2.1)),?_⟩;have h01:∀j d,j<ps.length→fx j=some d→d=0∨d=1:=fun j d hj hd=>by
        obtain⟨z,hz⟩:∃z,zs[j]? = some z:=⟨_,List.getElem?_eq_getElem (show j<zs.length by omega)⟩
        rcases hst j z hz with⟨_,hf⟩ | ⟨_,hf⟩ | ⟨_,hf⟩ <;> rw[hf] at hd <;> cases hd <;> simp
      have key:Strong (aD fx ps 0) xs↔(mJ (aD fx ps 0) xs x0).length=xs.length∧(mJ (aD (Zu fx) ps 0) xs x0).length=xs.length:=by
        rw[RB,RB];constructor
        ·intro h;exact⟨h x0 L_,fun y hy=>YC (fun _ _ z=>(Hr h01).mpr z) (h y hy x0 L_)⟩
        ·rintro⟨h1,h2⟩ y hy z hz;exact(YC (fun _ _ z=>(Hr h01).mp z) (h2 y hy)).trans (h1 z hz)
      simp only[List.length_map];rw[hf1];refine gM.of (fun h=>?_) (fun h=>?_)
      · have h1:(mJ (aD fx ps 0) xs x0).length=xs.length:=by have:=of_decide_eq_true h;omega
        right;refine⟨_,.inl (bw.of e3),_,.inr (dW.of (S3 _ _ hG.1)),_,aU (j:=0) rfl,?_⟩;right;refine⟨_,.inl (bw.of (S3 _ _ hG.2.1)),q _ _ ?_ S3⟩;rw[key,decide_eq_true_eq];simp only[List.length_map];rw[hf3];constructor
        ·intro z;exact⟨h1,by omega⟩
        ·rintro⟨_,z⟩;omega
      · have h1:¬(mJ (aD fx ps 0) xs x0).length=xs.length:=fun z=>by
          have:=of_decide_eq_false h;omega
        refine q _ _ ?_ S3;rw[key];exact⟨fun z=>(by cases z),fun z=>absurd z.1 h1⟩
structure FE where
  k:Nat
  ld:Int
  t:Addr
  c:Addr
  lot:List Str
def xq (e:FE):Key×V:=(Sum.inl (e.k:Int),V.ref e.t)
structure Ge (ps:List (Str×Str)) (xs:List Str) (fs:List (Nat×Int)) (H0 H:Hp) (e:FE):Prop where
  tp:H e.t=some (.tup [.int e.ld,.ref e.c])
  lt:H e.c=some (.lst (e.lot.map V.str))
  nw:H0 e.c=none
  sh:∃x,bK (aD (bU (fs++[(e.k,1 - e.ld)])) ps 0) xs xs=some x∧e.lot=restOf (aD (bU (fs++[(e.k,1 - e.ld)])) ps 0) xs x
theorem Ge.same {ps:List (Str×Str)} {xs:List Str} {fs:List (Nat×Int)} {H0 H H':Hp} {e:FE} (h:Ge ps xs fs H0 H e) (s:Same H H'):Ge ps xs fs H0 H' e:=⟨s _ _ h.tp,s _ _ h.lt,h.nw,h.sh⟩
def zW (ps:List (Str×Str)) (xs:List Str) (fs:List (Nat×Int)) (k:Nat) (v:Int):Bool:=(bK (aD (bU (fs++[(k,v)])) ps 0) xs xs).isSome
def qO (ps:List (Str×Str)) (xs:List Str) (fs:List (Nat×Int)) (k:Nat) (ld:Int):List (Nat×Int):=if zW ps xs fs k (1 - ld)=true then [(k,ld)] else []
def MF (ps:List (Str×Str)) (xs:List Str) (fs:List (Nat×Int)) (k:Nat):List (Nat×Int):=qO ps xs fs k 0++qO ps xs fs k 1
def jB (ps:List (Str×Str)) (xs:List Str) (fs:List (Nat×Int)) (ks:List Nat):List (Nat×Int):=ks.flatMap (MF ps xs fs)
theorem uO {ps:List (Str×Str)} {xs:List Str} {fs:List (Nat×Int)} {k:Nat} {ld:Int} {e:Nat×Int} (h:e∈qO ps xs fs k ld):e=(k,ld)∧zW ps xs fs k (1 - ld)=true:=by
  unfold qO at h;split at h
  ·rename_i h2;rw[List.mem_singleton] at h;exact⟨h,h2⟩
  ·cases h
theorem zj {ps:List (Str×Str)} {xs:List Str} {fs:List (Nat×Int)} {ks:List Nat} {e:Nat×Int} (h:e∈jB ps xs fs ks):e.1∈ks∧(e.2=0∨e.2=1)∧zW ps xs fs e.1 (1 - e.2)=true:=by
  obtain⟨k,hk,h⟩:=List.mem_flatMap.mp h
  rcases List.mem_append.mp h with h | h
  ·obtain⟨rfl,h2⟩:=uO h;exact⟨hk,.inl rfl,h2⟩
  ·obtain⟨rfl,h2⟩:=uO h;exact⟨hk,.inr rfl,h2⟩
theorem uP {ps:List (Str×Str)} {xs:List Str} {fs:List (Nat×Int)} {k:Nat} (hTs:oK xs ps) (hfs:lU fs ps.length) (hk:k<ps.length) (hn:k∉fs.map (·.1)) (hs:bK (aD (bU fs) ps 0) xs xs=none) (hb:iJ ps xs=[]) (h0:zW ps xs fs k 0=true) (h1:zW ps xs fs k 1=true):False:=by
  have hps:∀e∈ps,e.1∈xs∧e.2∈xs:=fun e he=>⟨(hTs.ok e he).1,(hTs.ok e he).2.1⟩;obtain⟨e,he⟩:∃e,ps[k]? = some e:=⟨_,List.getElem?_eq_getElem hk⟩;have two:=Lj (fx:=bU fs) (u:=e.1) (v:=e.2) (lV.mpr hn) (by rw[he]) (fun j d hj=>by have:=qK hfs hj;omega) (vC hs) hps (Yv hb k e he);unfold zW at h0 h1;rw[qL hn] at h0 h1
  rcases two with z | z
  ·rw[vD z] at h0;cases h0
  ·rw[vD z] at h1;cases h1
theorem qdY {es:List FE} {k:Nat} {v:V} (hn:∀e∈es,e.k≠k):putK (es.map xq) (Sum.inl (k:Int)) v=es.map xq++[(Sum.inl (k:Int),v)]:=by
  unfold putK;rw[if_neg ?_];intro z;obtain⟨p,hp,hk⟩:=List.any_eq_true.mp z;obtain⟨e,he,rfl⟩:=List.mem_map.mp hp;have hk:=of_decide_eq_true hk;simp only[xq] at hk;injection hk with hk;exact hn e he (by omega)
def MJ (ps:List (Str×Str)) (xs:List Str) (fs:List (Nat×Int)) (H0 H:Hp) (td:Addr) (g:List (Nat×Int)):Prop:=∃es:List FE,H td=some (.dK (es.map xq))∧(∀e∈es,Ge ps xs fs H0 H e)∧es.map (fun e=>(e.k,e.ld))=g∧(es.map (·.c)).Nodup
theorem MJ.same {ps:List (Str×Str)} {xs:List Str} {fs:List (Nat×Int)} {H0 H H':Hp} {td:Addr} {g:List (Nat×Int)} (h:MJ ps xs fs H0 H td g) (s:Same H H'):MJ ps xs fs H0 H' td g:=by
  obtain⟨es,h1,h2,h3,h4⟩:=h;exact⟨es,s _ _ h1,fun e he=>(h2 e he).same s,h3,h4⟩
def Pz (ps:List (Str×Str)) (xs:List Str) (fs:List (Nat×Int)) (k:Nat):Nat→List (Nat×Int)
  | 0=>[]
  | 1=>qO ps xs fs k 0
  | _=>qO ps xs fs k 0++qO ps xs fs k 1
def Uu (C Sh Ba:Addr):Sp:=fun vs H Q E=>∃(o d:Addr) (xs:List Str) (ps:List (Str×Str)) (fs:List (Nat×Int)),vs=[.ref o,.ref d]∧fQ C H o xs ps∧Pa xs∧oK xs ps∧H d=some (.dK (cC fs))∧lU fs ps.length∧
  (bK (aD (bU fs) ps 0) xs xs=none→iJ ps xs=[]→∀(td:Addr) (es:List FE) (H':Hp),H td=none→H' td=some (.dK (es.map xq))→(∀e∈es,Ge ps xs fs H H' e)→es.map (fun e=>(e.k,e.ld))=jB ps xs fs (bJ fs ps.length)→(es.map (·.c)).Nodup→Same H H'→Q (.ref td) H')∧
  (∀x,bK (aD (bU fs) ps 0) xs xs=some x→∀(dx c:Addr) (H':Hp),H c=none→H' dx=some (i_ dx [("lot",.ref c)])→H' c=some (.lst ((restOf (aD (bU fs) ps 0) xs x).map V.str))→Same H H'→E (.ref Sh) (some dx) H')∧
  (bK (aD (bU fs) ps 0) xs xs=none→∀k lot rest,iJ ps xs=(k,lot)::rest→∀(dx c:Addr) (H':Hp),H c=none→H' dx=some (i_ dx [("tie",.int (k:Nat)),("lot",.ref c)])→H' c=some (.lst (lot.map V.str))→Same H H'→E (.ref Ba) (some dx) H')
theorem Hs (T:Txt K mg a):cg P w K mg base (T8 P w) 6 a.kZ a.u_ ["web", "fixed"] (Uu a.bZ a.bW a.bh):=by
  refine T.yN.qdv qC (fun vs H Q E h=>?_) (fun cdv A outer s H vs Q E hr h=>?_)
  ·obtain⟨o,d,xs,ps,fs,rfl,_⟩:=h;rfl
  · obtain⟨o,d,xs,ps,fs,rfl,hw,hX,hTs,hd,hfs,q1,q2,q3⟩:=h;refine⟨_,(aB (dZ (PE.eqv (aN (qM (K:=K) T) (hr.mono (by decide)) rfl T.mZ T.jN.kp T.mY .nil aV (aj (aM 0) (aj (aM 1) aq))) (aG _ _ _)))
      (aB (dZ (PE.eqv (aN (lD (K:=K) T) (hr.mono (by decide)) rfl T.jh T.gj.kp T.jg .nil (Bu.passes rfl) (aj (aM 0) (aj (aM 1) aq))) (aG _ _ _)))
      (aB (bC (i:=2) qC.nd rfl (Or.inl rfl) xR)
      (aB (iI PassesOwn.leaving rfl (PI.eqv (dO (K:=K) rfl (PE.eqv (aN (za (K:=K) T) (hr.mono (by decide)) rfl T.uD T.pG.kp T.uz .nil aV (aj (aM 0) (aj (aM 1) aq))) (aG _ _ _))) (cP _ _)) (aR (i:=3) qC.nd rfl (Or.inl rfl))
      (aF (iI PassesOwn.leaving rfl (QL (K:=K) rfl (fU (aj aK (aj aK aq)))) (aR (i:=4) qC.nd rfl (Or.inl rfl))
      (aB (bC (i:=5) qC.nd rfl (Or.inl rfl) (PE.eqv (aN (oM (K:=K) T) (hr.mono (by decide)) rfl T.mF T.jF.kp T.mD .nil aV (aj (aM 0) (aj (PE.eqv (aN (qN (K:=K) T) (hr.mono (by decide)) rfl T.m6 T.jO.kp T.m5 .nil aV (aj (aM 1) (aj (aM 3) (aj (cT nu aK (aM 4)) aq)))) (aG _ _ _)) aq))) (aG _ _ _)))
      (aF (cR (bA Qz (aM 5) Hx (bY _)) (aF (PS.eqv (uW (j8 hr) (aM 2) (aM 3) (fU (aj (aM 4) (aj (aM 5) aq))) rfl) (qy _ _ _))) bG))))))
      (aF (aY (aM 2))))))),?_⟩
    have Rx:60≤sizeLine:=by decide
    have Ej:=hTs.len;have qps:=hfs.len;simp -dsimp[au,stC];refine⟨o,d,xs,ps,fs,rfl,hw,hd,hfs,fun H1 s1=>?_⟩;simp -dsimp[au,stC];refine⟨o,d,xs,ps,bU fs,rfl,hw.same s1,hX,hTs,JH (s1 _ _ hd),fun hn hb H2 s2=>?_,fun x hx dx c H2 hc hdx ec s2=>?_,fun hn k lot rest hb dx c H2 hc hdx ec s2=>?_⟩
    · have S2:=s1.trans s2;simp -dsimp[au,stC];intro td htd;have s3:Same H2 (upd H2 td (.dK [])):=aA htd;have e3:upd H2 td (.dK []) td=some (.dK (([]:List FE).map xq)):=ak;generalize upd H2 td (.dK [])=H3 at s3 e3 ⊢;have S3:=S2.trans s3;have td0:H td=none:=bV S2 htd;refine⟨o,d,xs,ps,fs,rfl,hw.same S3,Ej,S3 _ _ hd,fun fl H4 hfl efl s4=>?_⟩;have S4:=S3.trans s4;have flt:fl≠td:=fun z=>by rw[z,e3] at hfl;cases hfl
      have ndF:=Ci fs ps.length;have Pr:∀k∈bJ fs ps.length,k<ps.length∧k∉fs.map (·.1):=fun k hk=>jG.mp hk;simp -dsimp[au,stC];refine⟨⟨_,bw.of efl⟩,frL (eZ (bJ fs ps.length)) (fun i σ H'=>(∃o3 o4 o5,σ=[some (.ref o),some (.ref d),some (.ref td),o3,o4,o5])∧MJ ps xs fs H H' td (jB ps xs fs ((bJ fs ps.length).take i))∧H' fl=some (.lst (eZ (bJ fs ps.length)))∧Same H H') ⟨⟨_,_,_,rfl⟩,⟨[],s4 _ _ e3,by simp,by simp[jB],by simp⟩,efl,S4⟩ (fun i σ H' _ h=>bw.of h.2.2.1) ?_ ?_⟩
      · rintro i v σ H5 hi ⟨⟨o3,o4,o5,rfl⟩,hF5,el,s5⟩;obtain⟨k,hk,rfl⟩:∃k,(bJ fs ps.length)[i]? = some k∧v = .int (k:Nat):=by
          unfold eZ at hi;rw[List.getElem?_map] at hi;obtain⟨k,hk,rfl⟩:=Option.map_eq_some_iff.mp hi;exact⟨k,hk,rfl⟩
        have hi2:=(List.getElem?_eq_some_iff.mp hk).1;have tk:(bJ fs ps.length).take (i+1)=(bJ fs ps.length).take i++[k]:=take_one hk;have hkm:=Pr k (List.mem_of_getElem? hk);have knt:k∉(bJ fs ps.length).take i:=fun z=>by
          have h2:((bJ fs ps.length).take i++[k]).Nodup:=by rw[← tk];exact ndF.sublist (List.take_sublist _ _)
          exact(List.nodup_append.mp h2).2.2 k z k (by simp) rfl
        have nb:=uP hTs hfs hkm.1 hkm.2 hn hb;have tke:jB ps xs fs ((bJ fs ps.length).take (i+1))=jB ps xs fs ((bJ fs ps.length).take i)++(qO ps xs fs k 0++qO ps xs fs k 1):=by
          rw[tk];simp[jB,MF]
        have gk:∀e∈jB ps xs fs ((bJ fs ps.length).take i),e.1≠k:=fun e he z=>knt (z▸(zj he).1);have gl:(jB ps xs fs ((bJ fs ps.length).take i)).length≤40:=by
          have h1:∀ks:List Nat,(jB ps xs fs ks).length≤2 * ks.length:=fun ks=>by
            induction ks with
            | nil=>simp[jB]
            | cons k ks ih=>
              have f1:∀l,(qO ps xs fs k l).length≤1:=fun l=>by unfold qO;split <;> simp
              have:=f1 0;have:=f1 1;simp only[jB,List.flatMap_cons,MF,List.length_append,List.length_cons] at ih ⊢;omega
          have h2:=h1 ((bJ fs ps.length).take i);have h3:(bJ fs ps.length).length≤ps.length:=by
            unfold bJ;exact Nat.le_trans (List.length_filter_le _ _) (by rw[List.length_range];exact Nat.le_refl _)
          rw[List.length_take] at h2;omega
        rw[tke];generalize jB ps xs fs ((bJ fs ps.length).take i)=g0 at hF5 gk gl ⊢;simp -dsimp[au,stC];intro tt htt;have st:Same H5 (upd H5 tt (.tup [.int 0,.int 1])):=aA htt;have et:upd H5 tt (.tup [.int 0,.int 1]) tt=some (.tup [.int 0,.int 1]):=ak;generalize upd H5 tt (.tup [.int 0,.int 1])=H6 at st et ⊢;have ttd:tt≠td:=fun z=>by
          obtain⟨es,h1,_⟩:=hF5;rw[z,h1] at htt;cases htt
        have one:∀(ld:Int) (g:List (Nat×Int)) (σ:St) (H7:Hp),True:=fun _ _ _ _=>trivial;refine⟨⟨_,dW.of et⟩,frT [.int 0,.int 1] (fun j σ H'=>(∃o4 o5,σ=[some (.ref o),some (.ref d),some (.ref td),some (.int (k:Nat)),o4,o5])∧MJ ps xs fs H H' td (g0++Pz ps xs fs k j)∧H' fl=some (.lst (eZ (bJ fs ps.length)))∧H' tt=some (.tup [.int 0,.int 1])∧Same H H') ⟨⟨_,_,rfl⟩,by rw[show Pz ps xs fs k 0=[] from rfl,List.append_nil];exact hF5.same st,st _ _ el,et,s5.trans st⟩ (fun j σ H' _ h=>dW.of h.2.2.2.1) ?_ ?_⟩
        · rintro j v σ H7 hj ⟨⟨o4,o5,rfl⟩,hF7,el7,et7,s7⟩;obtain⟨ld,rfl,hld,hjl⟩:∃ld:Int,v = .int ld∧(ld=0∨ld=1)∧Pz ps xs fs k (j+1)=Pz ps xs fs k j++qO ps xs fs k ld∧(∀e∈Pz ps xs fs k j,zW ps xs fs k (1 - ld)=true→False)∧(Pz ps xs fs k j).length≤1:=by
            match j,hj with
            | 0,hj=>exact⟨0,by simpa using hj.symm,.inl rfl,rfl,fun e he=>(by cases he),Nat.zero_le _⟩
            | 1,hj=>exact⟨1,by simpa using hj.symm,.inr rfl,rfl,fun e he h=>nb h (by have:=(uO he).2;simpa using this),by show(qO ps xs fs k 0).length≤1;unfold qO;split <;> simp⟩
          rw[hjl.1,← List.append_assoc];simp -dsimp[au,stC];refine⟨d,k,1 - ld,fs,rfl,s7 _ _ hd,by omega,hkm.2,fun r8 H8 hr8 e8 s8=>?_⟩;have S8:=s7.trans s8;refine⟨o,r8,xs,ps,_,rfl,hw.same S8,hX,hTs,JH e8,fun H9 hn9 s9=>?_,fun x r H9 hx9 hr9 e9 s9=>?_⟩
          ·have s79:=s8.trans s9;simp -dsimp[au,stC];refine⟨?_,s79 _ _ el7,s79 _ _ et7,s7.trans s79⟩;rw[show qO ps xs fs k ld=[] from if_neg (by unfold zW;rw[hn9];decide),List.append_nil];exact hF7.same s79
          · have s79:=s8.trans s9;have hsh:zW ps xs fs k (1 - ld)=true:=by unfold zW;rw[hx9];rfl
            rw[show qO ps xs fs k ld=[(k,ld)] from if_pos hsh];simp -dsimp[au,stC];intro p hp;have sp:Same H9 (upd H9 p (.tup [.int ld,.ref r])):=aA hp;have ep:upd H9 p (.tup [.int ld,.ref r]) p=some (.tup [.int ld,.ref r]):=ak;have epr:=sp _ _ e9;generalize upd H9 p (.tup [.int ld,.ref r])=PB at sp ep epr ⊢;obtain⟨es,f1,f2,f3,f4⟩:=hF7;have sA:=s79.trans sp;have ekn:∀e∈es,e.k≠k:=fun e he z=>by
              have h1:(e.k,e.ld)∈g0++Pz ps xs fs k j:=by rw[← f3];exact List.mem_map.mpr ⟨e,he,rfl⟩
              rcases List.mem_append.mp h1 with h1 | h1
              ·exact gk _ h1 z
              ·exact hjl.2.1 _ h1 hsh
            have esl:es.length≤41:=by
              have h1:=congrArg List.length f3;rw[List.length_map,List.length_append] at h1;have:=hjl.2.2;omega
            have neT:∀{b:Addr} {u:HO},PB b=some u→(∀kvs,u≠.dK kvs)→b≠td:=fun h1 h2 z=>by
              rw[z,sA _ _ f1] at h1;injection h1 with h1;exact h2 _ h1.symm
            have rtd:r≠td:=neT epr (fun _ z=>by cases z);have ptd:p≠td:=neT ep (fun _ z=>by cases z);refine⟨_,.inl ⟨_,Sum.inl ((k:Nat):Int),sA _ _ f1,rfl,by rw[List.length_map];omega,rfl⟩,⟨es++[⟨k,ld,p,r,restOf (aD (bU (fs++[(k,1 - ld)])) ps 0) xs x⟩],?_,fun e he=>?_,?_,?_⟩,?_,?_,aW (s7.trans sA) td0⟩
            ·rw[ak,qdY ekn,List.map_append];rfl
            · rcases List.mem_append.mp he with he | he
              ·have h1:=(f2 e he).same sA;exact⟨by rw[aC (neT h1.tp (fun _ z=>by cases z))];exact h1.tp,by rw[aC (neT h1.lt (fun _ z=>by cases z))];exact h1.lt,h1.nw,h1.sh⟩
              ·rw[List.mem_singleton] at he;subst he;exact⟨by rw[aC ptd];exact ep,by rw[aC rtd];exact epr,bV S8 hr9,x,hx9,rfl⟩
            ·rw[List.map_append,f3,List.append_assoc];rfl
            ·rw[List.map_append];refine List.nodup_append.mpr ⟨f4,by simp,fun y hy z hz=>?_⟩;obtain⟨e,he,rfl⟩:=List.mem_map.mp hy;simp at hz;subst hz;intro w;have h1:=s8 _ _ (f2 e he).lt;rw[w,hr9] at h1;cases h1
            ·rw[aC flt];exact sA _ _ el7
            ·rw[aC ttd];exact sA _ _ et7
        ·rintro σ H7 ⟨⟨o4,o5,rfl⟩,hF7,el7,et7,s7⟩;simp -dsimp[au,stC];exact⟨hF7,el7,s7⟩
      · rintro σ H5 ⟨⟨o3,o4,o5,rfl⟩,⟨es,f1,f2,f3,f4⟩,el,s5⟩;have hl:(eZ (bJ fs ps.length)).length=(bJ fs ps.length).length:=by simp[eZ]
        rw[hl,List.take_length] at f3;simp -dsimp[au,stC];exact q1 hn hb td es H5 td0 f1 f2 f3 f4 s5
    ·exact q2 x hx dx c H2 (bV s1 hc) hdx ec (s1.trans s2)
    ·exact q3 hn k lot rest hb dx c H2 (bV s1 hc) hdx ec (s1.trans s2)
theorem YD {H:Hp} {t n l:Addr} {xs:List Str} {tv:List V} {ps:List (Str×Str)} (hG:dU H t n l xs tv ps) {k:Nat} {e:Str×Str} (he:ps[k]? = some e):∃t2,tv[k]? = some (.ref t2)∧H t2=some (.tup [.str e.1,.str e.2]):=by
  have hjl:k<tv.length:=by rw[hG.2.2.2.1.1];exact(List.getElem?_eq_some_iff.mp he).1
  obtain⟨e',he',t2,ht,Jz⟩:=hG.2.2.2.1.at (show tv[k]? = some tv[k] by simp[hjl]);rw[he] at he';cases he';exact⟨t2,by rw[← ht];simp[hjl],Jz⟩
def Uv:Sp:=fun vs H Q _=>∃(t n l r:Addr) (xs c:List Str) (tv:List V) (ps:List (Str×Str)),vs=[.ref t,.ref r]∧dU H t n l xs tv ps∧H r=some (.lst (c.map V.str))∧0<c.length∧c.length<xs.length∧(∀x∈c,x∈xs)∧xs.filter (fun y=>decide (y∈c))=c∧
  ∀H',Same H H'→Q (.bl true) H'
theorem zX (T:Txt K mg a):cg P w K mg base lC 1 a.k_ a.vd ["_law_web_here", "_law_lot"] Uv:=by
  refine T.uG.oU Ug (fun vs H Q E h=>?_) (fun cdv A outer s H vs Q E hr h=>?_)
  ·obtain⟨t,n,l,r,xs,c,tv,ps,rfl,_⟩:=h;rfl
  · obtain⟨t,n,l,r,xs,c,tv,ps,rfl,hG,PJ,hc0,hc9,hcx,hcf,q⟩:=h;refine⟨_,(aB (cR (PW.pt (qp (dN (cD (aO (oA (K:=K) rfl) rfl T.nm.isinstance boot_isinstance (aj (aM 1) (aj (jk (v:=.ty "list") rfl T.nm.list boot_list rfl) aq))))) (nY (dN (cD (aO (jX rfl) rfl T.nm.all jU (aj (dY rfl rfl (show aZ (ao jc) _ ["_law_web_here", "_law_lot"] ["_law_point"] [] ["_law_point"] from⟨rfl,by decide+kernel,by decide+kernel,rfl,by decide+kernel,by decide+kernel⟩) rfl (PI.eqv (dO (K:=K) rfl (aM 1)) (cP _ _)) (fun C s H fp pn=>(aR (i:=0) (show(["_law_point"]:List Str).Nodup by decide+kernel) rfl (Or.inl rfl))) (fun C s H fp pn=>dX) (fun C s H fp pn=>(aO (oA (K:=K) rfl) rfl T.nm.isinstance boot_isinstance (aj (aM 0) (aj (jk (v:=.ty "str") rfl T.nm.str boot_str rfl) aq))))) aq))))))) (aF (aY jT)) bG)
      (aF (aY (jK (zG uf uf aK (aO (cB (K:=K) rfl) rfl T.nm.len PySem.boot_len (aj (aM 1) aq)) (aO (cB (K:=K) rfl) rfl T.nm.len PySem.boot_len (aj (bL (bO (K:=K) rfl) (aM 0) aK (fun _ _=>rfl)) aq))) (nZ (gO (Xk (K:=K) rfl hr.units) (aM 1) (dY rfl rfl (show aZ (ao jc) _ ["_law_web_here", "_law_lot"] ["_law_name"] [1] ["_law_name", "_law_lot"] from⟨rfl,by decide+kernel,by decide+kernel,rfl,by decide+kernel,by decide+kernel⟩) rfl (PI.eqv (dO (K:=K) rfl (bL (bO (K:=K) rfl) (aM 0) aK (fun _ _=>rfl))) (cP _ _)) (fun C s H fp pn=>(aR (i:=0) (show(["_law_name", "_law_lot"]:List Str).Nodup by decide+kernel) rfl (Or.inl rfl))) (fun C s H fp pn=>(qT (bA (Oi (K:=K) rfl) (aM 0) (aM 1) rfl))) (fun C s H fp pn=>(aM 0))) (bY _))))))),?_⟩
    have Rx:60≤sizeLine:=by decide
    have hX:=hG.2.2.2.2.1;have l9:=hX.len;left;refine⟨_,.lst PJ,_,FN K,gM.neg rfl ?_⟩;left;refine⟨⟨_,bw.of PJ⟩,fun D hD=>Zq (c.map V.str) (fun j σ H'=>(∃o',σ=[o'])∧H' D=some (.lst (List.replicate j (.bl true)))∧Same H H') ⟨⟨_,rfl⟩,ak,aA hD⟩ (fun j σ H' _ h=>bw.of (h.2.2 _ _ PJ)) ?_ ?_⟩
    ·rintro j z σ H2 hj ⟨⟨o',rfl⟩,hD2,s2⟩;obtain⟨y,hy,rfl⟩:=tX hj;have hj2:j<c.length:=(List.getElem?_eq_some_iff.mp hy).1;left;refine⟨_,.str _,_,Ae K,?_⟩;refine⟨_,hD2,by simp;omega,by rw[ak,List.replicate_succ'],aW s2 hD⟩
    · rintro σ H2 ⟨⟨o',rfl⟩,hD2,s2⟩;left;refine⟨_,hD2,_,jY _,?_⟩;rw[show(List.replicate (c.map V.str).length true).all id=true by simp];left;refine⟨_,.inl (bw.of (s2 _ _ PJ)),gM.pos (by simpa using hc0) ?_⟩;left;refine⟨_,.inr (dW.of (s2 _ _ hG.1)),_,aU (j:=0) rfl,_,.inl (bw.of (s2 _ _ hG.2.1)),?_⟩;rw[decide_eq_true (by simpa using hc9)];left;refine⟨_,.inr (dW.of (s2 _ _ hG.1)),_,aU (j:=0) rfl,⟨_,bw.of (s2 _ _ hG.2.1)⟩,fun F hF=>Zq (xs.map V.str) (fun j σ H'=>(∃o',σ=[o',some (.ref r)])∧H' F=some (.lst (((xs.take j).filter fun y=>decide (y∈c)).map V.str))∧Same H2 H') ⟨⟨_,rfl⟩,ak,aA hF⟩ (fun j σ H' _ h=>bw.of (h.2.2 _ _ (s2 _ _ hG.2.1))) ?_ ?_⟩
      · rintro j z σ H3 hj ⟨⟨o',rfl⟩,Zt,s3⟩;obtain⟨y,hy,rfl⟩:=tX hj;have hj2:j<xs.length:=(List.getElem?_eq_some_iff.mp hy).1;have hfl:((xs.take j).filter fun y=>decide (y∈c)).length≤(xs.take j).length:=List.length_filter_le _ _;rw[List.length_take] at hfl;rw[take_one hy,List.filter_append,List.map_append];left;refine⟨_,.inl (bw.of (s3 _ _ (s2 _ _ PJ))),rfl,List.all_eq_true.mp (cu _),?_⟩;rw[bN];refine gM.of (fun h=>?_) (fun h=>?_)
        ·have h':y∈c:=of_decide_eq_true h;left;refine⟨_,Zt,by simp;omega,by rw[ak];simp[h'],aW s3 hF⟩
        ·have h':¬y∈c:=of_decide_eq_false h;left;refine⟨by rw[Zt];simp[h'],s3⟩
      · rintro σ H3 ⟨⟨o',rfl⟩,Zt,s3⟩;rw[List.length_map,List.take_length,hcf] at Zt;have hcc:PyData.canLay0 (.list (iV c))=true:=by
          have:=Dj c fun x hx=>Q5 (hX.nm x (hcx x hx));simp[PyData.canLay0,this]
        have hcd:(PyData.list (iV c)).depth≤64:=by
          have:=Dk c;simp[PyData.depth];omega
        left;refine⟨.list (iV c),⟨r,_,rfl,bw.of ((s2.trans s3) _ _ PJ),Br _⟩,.list (iV c),⟨F,_,rfl,bw.of Zt,Br _⟩,hcc,hcc,hcd,?_⟩;rw[show PyData.eqv (.list (iV c)) (.list (iV c))=true by simp[PyData.eqv,Dm]];exact q _ (s2.trans s3)
def MK:Sp:=fun vs H Q _=>∃(t n l r:Addr) (xs c:List Str) (tv:List V) (ps:List (Str×Str)),vs=[.ref t,.ref r]∧dU H t n l xs tv ps∧H r=some (.lst (c.map V.str))∧
  ∀(d:Addr) (H':Hp),H d=none→H' d=some (.lst ((dh c ps).map fun k:Nat=>V.int k))→Same H H'→Q (.ref d) H'
theorem pK (T:Txt K mg a):cg P w K mg base lC 1 a.ig a.pD ["_law_web_here", "_law_lot"] MK:=by
  refine T.lQ.oU Lw (fun vs H Q E h=>?_) (fun cdv A outer s H vs Q E hr h=>?_)
  ·obtain⟨t,n,l,r,xs,c,tv,ps,rfl,_⟩:=h;rfl
  · obtain⟨t,n,l,r,xs,c,tv,ps,rfl,hG,PJ,q⟩:=h;refine⟨_,(aF (aY (dY rfl rfl (show aZ (ao gC) _ ["_law_web_here", "_law_lot"] ["_law_k", "_law_a", "_law_b"] [1] ["_law_k", "_law_a", "_law_b", "_law_lot"] from⟨rfl,by decide+kernel,by decide+kernel,rfl,by decide+kernel,by decide+kernel⟩) rfl (PI.eqv (Im (K:=K) rfl rfl T.Jj.enumerate (aj (bL (bO (K:=K) rfl) (aM 0) aK (fun _ _=>rfl)) aq)) (zJ _ _)) (fun C s H fp pn=>(PG.eqv (fJ (K:=K) (n:=2) rfl rfl (jC.eqv (bx (aR (i:=0) (show(["_law_k", "_law_a", "_law_b", "_law_lot"]:List Str).Nodup by decide+kernel) rfl (Or.inl rfl)) (jC.eqv (bx (PG.eqv (fJ (K:=K) (n:=2) rfl rfl (jC.eqv (bx (aR (i:=1) (show(["_law_k", "_law_a", "_law_b", "_law_lot"]:List Str).Nodup by decide+kernel) rfl (Or.inl rfl)) (jC.eqv (bx (aR (i:=2) (show(["_law_k", "_law_a", "_law_b", "_law_lot"]:List Str).Nodup by decide+kernel) rfl (Or.inl rfl)) (jC.mono fH iK)) (bB _ _))) (bB _ _))) (fL _ _ _)) (jC.mono fH iK)) (bB _ _))) (bB _ _))) (fL _ _ _))) (fun C s H fp pn=>(qT (bA j_ (gO (Oi (K:=K) rfl) (aM 1) (aM 3) rfl) (gO (Oi (K:=K) rfl) (aM 2) (aM 3) rfl) (bY _)))) (fun C s H fp pn=>(aM 0))))),?_⟩;have Rx:60≤sizeLine:=by decide
    have Ej:=hG.2.2.2.2.2.len;have tl:=hG.2.2.2.1.1;have hl:=hG.2.2.1;left;refine⟨_,.inr (dW.of hG.1),_,aU (j:=1) rfl,⟨_,bw.of hl⟩,fun D hD=>cmE tv (fun j σ H'=>(∃o1 o2 o3,σ=[o1,o2,o3,some (.ref r)])∧H' D=some (.lst ((dh c (ps.take j)).map fun k:Nat=>V.int k))∧Same H H') ⟨⟨_,_,_,rfl⟩,ak,aA hD⟩ (fun j σ H' _ h=>bw.of (h.2.2 _ _ hl)) ?_ ?_⟩
    · rintro j v tt σ H2 hj htt ⟨⟨o1,o2,o3,rfl⟩,hD2,s2⟩;obtain⟨e,he,t2,rfl,Jz⟩:=hG.2.2.2.1.at hj;have hj2:j<ps.length:=(List.getElem?_eq_some_iff.mp he).1;have st:Same H2 (upd H2 tt (.tup [.int j,.ref t2])):=aA htt;have Yx:upd H2 tt (.tup [.int j,.ref t2]) tt=some (.tup [.int j,.ref t2]):=ak;have s3:=s2.trans st;have J3:=st _ _ hD2;generalize upd H2 tt (.tup [.int j,.ref t2])=H3 at st Yx s3 J3 ⊢;have hcl:(dh c (ps.take j)).length≤(ps.take j).length:=xU (Dq c) _ _;rw[List.length_take] at hcl;have hct:dh c (ps.take (j+1))=dh c (ps.take j)++jR c e j:=zB (jR c) he;rw[hct,List.map_append];left;refine⟨_,dW.of Yx,rfl,_,dW.of (s3 _ _ Jz),rfl,?_⟩;refine⟨_,.inl (bw.of (s3 _ _ PJ)),rfl,List.all_eq_true.mp (cu _),_,.inl (bw.of (s3 _ _ PJ)),rfl,List.all_eq_true.mp (cu _),?_⟩;rw[bN,bN]
      by_cases hx:(e.1∈c↔e.2∈c)
      ·refine⟨false,by simp[hx],gM.neg rfl ?_⟩;left;refine⟨?_,s3⟩;rw[J3,show jR c e j=[] from if_pos hx];simp
      ·refine⟨true,by simpa using hx,gM.pos rfl ?_⟩;left;refine⟨_,J3,by simp;omega,?_,aW s3 hD⟩;rw[ak,show jR c e j=[j] from if_neg hx];simp
    ·rintro σ H2 ⟨⟨o1,o2,o3,rfl⟩,hD2,s2⟩;rw[tl,List.take_length] at hD2;left;exact q D H2 hD hD2 s2
def MN:Sp:=fun vs H Q _=>∃(t n l r:Addr) (xs c:List Str) (tv:List V) (ps:List (Str×Str)) (k:Nat) (m:Int) (e:Str×Str),vs=[.ref t,.ref r,.int k,.int m]∧dU H t n l xs tv ps∧H r=some (.lst (c.map V.str))∧ps[k]? = some e∧0≤m∧m≤1∧
  Q (.bl (decide (K1 m e∈c))) H
theorem uQ (T:Txt K mg a):cg P w K mg base lC 1 a.iu a.pF ["_law_web_here", "_law_lot", "_law_k", "_law_turn"] MN:=by
  refine T.oJ.oU Lx (fun vs H Q E h=>?_) (fun cdv A outer s H vs Q E hr h=>?_)
  ·obtain⟨t,n,l,r,xs,c,tv,ps,k,m,e,rfl,_⟩:=h;rfl
  ·obtain⟨t,n,l,r,xs,c,tv,ps,k,m,e,rfl,hG,PJ,he,h0,h1,q⟩:=h;refine⟨_,(aF (aY (gO (Oi (K:=K) rfl) (bL (bO (K:=K) rfl) (bL (bO (K:=K) rfl) (bL (bO (K:=K) rfl) (aM 0) aK (fun _ _=>rfl)) (aM 2) (fun _ _=>rfl)) (cT nu aK (aM 3)) (fun _ _=>rfl)) (aM 1) rfl))),?_⟩;obtain⟨t2,htv,Jz⟩:=YD hG he;left;refine⟨_,.inr (dW.of hG.1),_,aU (j:=1) rfl,_,.inl (bw.of hG.2.2.1),_,aU htv,_,.inr (dW.of Jz),_,qaZ e h0 h1,_,.inl (bw.of PJ),rfl,List.all_eq_true.mp (cu _),?_⟩;rw[bN];exact q
theorem Er {c:List Str} {ps:List (Str×Str)} {k:Nat}:k∈dh c ps→∃e,ps[k]? = some e∧¬(e.1∈c↔e.2∈c):=by
  have key:∀(ps:List (Str×Str)) (j:Nat),k∈jm (jR c) ps j→∃(i:Nat) (e:Str×Str),ps[i]? = some e∧k=j+i∧¬(e.1∈c↔e.2∈c):=by
    intro ps
    induction ps with
    | nil=>intro j h;simp[jm] at h
    | cons d ps ih=>
      intro j h;rw[jm] at h
      rcases List.mem_append.mp h with h | h
      · unfold jR at h;split at h
        ·cases h
        ·rename_i hn;rw[List.mem_singleton] at h;exact⟨0,d,rfl,h,hn⟩
      ·obtain⟨i,e,h1,h2,h3⟩:=ih (j+1) h;exact⟨i+1,e,by simpa using h1,by omega,h3⟩
  intro h;obtain⟨i,e,h1,h2,h3⟩:=key ps 0 h;rw[Nat.zero_add] at h2;subst h2;exact⟨e,h1,h3⟩
theorem Uw {ys:List V} {m:Nat} (h:ys.Perm (eZ (List.range m))):∃ks:List Nat,ys=eZ ks∧ks.Nodup∧∀k∈ks,k<m:=by
  have all:∀y∈ys,∃k:Nat,y=V.int k:=fun y hy=>by
    obtain⟨z,_,rfl⟩:=List.mem_map.mp (h.mem_iff.mp hy);exact⟨z,rfl⟩
  have:∃ks:List Nat,ys=eZ ks:=by
    clear h
    induction ys with
    | nil=>exact⟨[],rfl⟩
    | cons y ys ih=>
      obtain⟨zs,rfl⟩:=ih fun z hz=>all z (List.mem_cons_of_mem _ hz);obtain⟨z,rfl⟩:=all y List.mem_cons_self;exact⟨z::zs,rfl⟩
  obtain⟨ks,rfl⟩:=this;have e:∀l:List Nat,(eZ l).map (fun v=>match v with | V.int s=>s.toNat | _=>0)=l:=fun l=>by
    induction l with
    | nil=>rfl
    | cons a l ih=>
      simp only[eZ,List.map_cons] at ih ⊢;rw[ih];simp
  have h2:=h.map (fun v=>match v with | V.int s=>s.toNat | _=>0)
  rw[e,e] at h2;exact⟨ks,rfl,h2.nodup_iff.mpr List.nodup_range,fun k hk=>List.mem_range.mp (h2.mem_iff.mp hk)⟩
def YF:Sp:=fun vs H Q _=>∃(p t n l:Addr) (xs:List Str) (tv:List V) (ps:List (Str×Str)),vs=[.ref p,.ref t]∧lA H p∧dU H t n l xs tv ps∧
  ∀(d:Addr) (fs:List (Nat×Int)) (H':Hp),H d=none→H' d=some (.dK (cC fs))→lU fs ps.length→lA H' p→But p H H'→Q (.ref d) H'
theorem MP (T:Txt K mg a):cg P w K mg base lC 3 a.nP a.yF ["_law_pot_here", "_law_web_here"] YF:=by
  refine T.B_.oU yr (fun vs H Q E h=>?_) (fun cdv A outer s H vs Q E hr h=>?_)
  ·obtain⟨p,t,n,l,xs,tv,ps,rfl,_⟩:=h;rfl
  · obtain⟨p,t,n,l,xs,tv,ps,rfl,hP,hG,q⟩:=h;refine⟨_,(aB (bC (i:=2) yr.nd rfl (Or.inl rfl) (PE.eqv (aN (gq (K:=K) T) (hr.mono (by decide)) rfl T.iR T.iw.kp T.iQ .nil aV (aj (aM 0) (aj aK aq))) (aG _ _ _)))
      (aB (bC (i:=3) yr.nd rfl (Or.inl rfl) xR)
      (aB (iI PassesOwn.never rfl (PI.eqv (dO (K:=K) rfl (PE.eqv (aN (yW (K:=K) T) (hr.mono (by decide)) rfl T.yP T.vo.kp T.yO .nil aV (aj (aM 0) (aj (Jc rfl rfl T.nm.list rfl T.nm.range (aj (aO (cB (K:=K) rfl) rfl T.nm.len PySem.boot_len (aj (bL (bO (K:=K) rfl) (aM 1) aK (fun _ _=>rfl)) aq)) aq)) aq))) (aG _ _ _))) (cP _ _)) (aR (i:=4) yr.nd rfl (Or.inl rfl))
      (aF (cR (bA uf (PE.eqv (aN (gq (K:=K) T) (hr.mono (by decide)) rfl T.iR T.iw.kp T.iQ .nil aV (aj (aM 0) (aj aK aq))) (aG _ _ _)) (aM 2) (bY _)) (aF (PS.eqv (uW (j8 hr) (aM 3) (aM 4) (PE.eqv (aN (gq (K:=K) T) (hr.mono (by decide)) rfl T.iR T.iw.kp T.iQ .nil aV (aj (aM 0) (aj aK aq))) (aG _ _ _)) rfl) (qy _ _ _))) bG)))
      (aF (aY (aM 3)))))),?_⟩
    have Rx:60≤sizeLine:=by decide
    have Ej:=hG.2.2.2.2.2.len;have tl:=hG.2.2.2.1.1;have lp:l≠p:=fun z=>by
      subst z;obtain⟨u,v,w,_⟩:=hP;rw[hG.2.2.1] at w;injection w with w;injection w with w;have:=hG.2.2.2.1;rw[w] at this;have h1:=this.1;obtain⟨e,he⟩:∃e,ps[0]? = some e:=⟨_,List.getElem?_eq_getElem (show 0<ps.length by simp at h1;omega)⟩;obtain⟨t',e',_⟩:=this.2 0 _ e rfl he;cases e'
    have tp:t≠p:=fun z=>by
      subst z;obtain⟨u,v,w,_⟩:=hP;rw[hG.1] at w;cases w
    left;refine⟨p,5,rfl,hP,by decide,by decide,fun d1 H1 hd0 hd1 Mg Mh=>?_⟩;left;intro fd hfd;have s2:Same H1 (upd H1 fd (.dK [])):=aA hfd;have e2:upd H1 fd (.dK []) fd=some (.dK (cC [])):=ak;have fdp:fd≠p:=(Mg.ne hfd).symm;have hP2:=Mg.keep s2;generalize upd H1 fd (.dK [])=H2 at s2 e2 hP2 ⊢;have B2:=Mh.same s2;have fd0:H fd=none:=Mg.none Mh hfd;refine⟨_,.inr (dW.of (B2 _ _ tp hG.1)),_,aU (j:=1) rfl,?_⟩;left;refine⟨_,.inl (bw.of (B2 _ _ lp hG.2.2.1)),by omega,fun rl hrl=>?_⟩;have s3:Same H2 (upd H2 rl (.lst (eZ (List.range tv.length)))):=aA hrl;have e3:upd H2 rl (.lst (eZ (List.range tv.length))) rl=some (.lst (eZ (List.range tv.length))):=ak;have rlp:rl≠p:=(hP2.ne hrl).symm;have Nk:=hP2.keep s3;have ee:upd H2 rl (.lst ((List.range tv.length).map fun i=>V.int (i:Nat)))=upd H2 rl (.lst (eZ (List.range tv.length))):=rfl;rw[ee];generalize upd H2 rl (.lst (eZ (List.range tv.length)))=H3 at s3 e3 Nk ⊢;have B3:=B2.same s3;refine⟨p,rl,_,rfl,Nk,rlp,e3,by simp[eZ];omega,fun r4 ys H4 Yn e4 hperm Mj Rw=>?_⟩;obtain⟨ks,rfl,knd,klt⟩:=Uw hperm;have r4p:r4≠p:=(Nk.ne Yn).symm;have qmo:r4≠fd:=fun z=>by rw[z,s3 _ _ e2] at Yn;cases Yn
    have B4:=B3.trans Rw;have e24:H4 fd=some (.dK (cC [])):=Rw _ _ fdp (s3 _ _ e2);left;refine⟨⟨_,bw.of e4⟩,frL (eZ ks) (fun i σ H'=>(∃o4,σ=[some (.ref p),some (.ref t),some (.int d1),some (.ref fd),o4])∧(∃fs:List (Nat×Int),H' fd=some (.dK (cC fs))∧lU fs ps.length∧∀e∈fs,e.1∈ks.take i)∧H' r4=some (.lst (eZ ks))∧lA H' p∧But p H H') ⟨⟨_,rfl⟩,⟨[],e24,⟨by simp,by simp⟩,by simp⟩,e4,Mj,B4⟩ (fun i σ H' _ h=>bw.of h.2.2.1) ?_ ?_⟩
    · rintro i v σ H5 hi ⟨⟨o4,rfl⟩,⟨fs,ef,hfs,hsub⟩,e5,Ek,Ml⟩;obtain⟨k,hk,rfl⟩:∃k,ks[i]? = some k∧v = .int (k:Nat):=by
        unfold eZ at hi;rw[List.getElem?_map] at hi;obtain⟨k,hk,rfl⟩:=Option.map_eq_some_iff.mp hi;exact⟨k,hk,rfl⟩
      have hkm:=klt k (List.mem_of_getElem? hk);have tk:ks.take (i+1)=ks.take i++[k]:=take_one hk;have kn:k∉fs.map (·.1):=fun z=>by
        obtain⟨e,he,rfl⟩:=List.mem_map.mp z;have h2:(ks.take i++[e.1]).Nodup:=by rw[← tk];exact knd.sublist (List.take_sublist _ _)
        exact(List.nodup_append.mp h2).2.2 e.1 (hsub e he) e.1 (by simp) rfl
      have fl:=hfs.len;left;refine⟨p,4,rfl,Ek,by decide,by decide,fun d6 H6 qpt qpu Ph Mp=>?_⟩;have ef6:=Mp _ _ fdp ef;have e56:=Mp _ _ r4p e5;have B6:=Ml.trans Mp;left;refine gM.of (fun h=>?_) (fun h=>?_)
      · left;refine⟨p,2,rfl,Ph,by decide,by decide,fun d7 H7 qpv qpw Uo Vq=>?_⟩;have ef7:=Vq _ _ fdp ef6;left;refine⟨_,.inl ⟨_,Sum.inl ((k:Nat):Int),ef7,rfl,by simp[cC];omega,rfl⟩,⟨fs++[(k,d7)],?_,hfs.snoc (by omega) ⟨by omega,by omega⟩ kn,fun e he=>?_⟩,?_,Uo.upd fdp.symm,(B6.trans Vq).new fd0⟩
        ·rw[ak,qu kn]
        · rw[tk]
          rcases List.mem_append.mp he with he | he
          ·exact List.mem_append_left _ (hsub e he)
          ·rw[List.mem_singleton] at he;rw[he];simp
        ·rw[aC qmo];exact Vq _ _ r4p e56
      ·left;refine⟨⟨fs,ef6,hfs,fun e he=>?_⟩,e56,Ph,B6⟩;rw[tk];exact List.mem_append_left _ (hsub e he)
    ·rintro σ H5 ⟨⟨o4,rfl⟩,⟨fs,ef,hfs,hsub⟩,e5,Ek,Ml⟩;left;exact q fd fs H5 fd0 ef hfs Ek Ml
def stL (fs:List (Nat×Int)) (m:Nat):List Int:=(List.range m).map fun j=>(bU fs j).getD 2
theorem lB (fs:List (Nat×Int)) (m:Nat):(stL fs m).length=m:=by simp[stL]
theorem PK {fs:List (Nat×Int)} {m:Nat} (h:lU fs m):Yw (stL fs m) (bU fs):=fun j z hz=>by
  unfold stL at hz;rw[List.getElem?_map] at hz;obtain⟨i,hi,rfl⟩:=Option.map_eq_some_iff.mp hz;have:i=j:=by
    have hl:=(List.getElem?_eq_some_iff.mp hi).1;rw[List.length_range] at hl;rw[List.getElem?_range hl] at hi;exact(Option.some.inj hi).symm
  subst this;cases hf:bU fs i with
  | none=>exact .inr (.inr ⟨rfl,rfl⟩)
  | some d=>
    have:=qK h hf;obtain rfl | rfl:d=0∨d=1:=by omega
    ·exact .inl ⟨rfl,rfl⟩
    ·exact .inr (.inl ⟨rfl,rfl⟩)
def YG:Sp:=fun vs H Q _=>∃(t n l d:Addr) (xs:List Str) (tv:List V) (ps:List (Str×Str)) (fs:List (Nat×Int)),vs=[.ref t,.ref d]∧dU H t n l xs tv ps∧H d=some (.dK (cC fs))∧
  ∀(r:Addr) (H':Hp),H r=none→H' r=some (.lst ((stL fs ps.length).map V.int))→Same H H'→Q (.ref r) H'
theorem YH (T:Txt K mg a):cg P w K mg base lC 1 a.nQ a.yG ["_law_web_here", "_law_fixed_here"] YG:=by
  refine T.Jw.oU XR (fun vs H Q E h=>?_) (fun cdv A outer s H vs Q E hr h=>?_)
  ·obtain⟨t,n,l,d,xs,tv,ps,fs,rfl,_⟩:=h;rfl
  · obtain⟨t,n,l,d,xs,tv,ps,fs,rfl,hG,hd,q⟩:=h;refine⟨_,(aF (aY (dY rfl rfl (show aZ (ao lY) _ ["_law_web_here", "_law_fixed_here"] ["_law_k"] [1] ["_law_k", "_law_fixed_here"] from⟨rfl,by decide+kernel,by decide+kernel,rfl,by decide+kernel,by decide+kernel⟩) rfl (PI.eqv (iB rfl T.nm.range (aj (aO (cB (K:=K) rfl) rfl T.nm.len PySem.boot_len (aj (bL (bO (K:=K) rfl) (aM 0) aK (fun _ _=>rfl)) aq)) aq)) (iD _)) (fun C s H fp pn=>(aR (i:=0) (show(["_law_k", "_law_fixed_here"]:List Str).Nodup by decide+kernel) rfl (Or.inl rfl))) (fun C s H fp pn=>dX) (fun C s H fp pn=>(PE.eqv (Dh (j8 hr) (aM 1) (aM 0) aK ⟨rfl,rfl,rfl,rfl⟩) (zK _ _ _)))))),?_⟩;have Rx:60≤sizeLine:=by decide
    have Ej:=hG.2.2.2.2.2.len;have tl:=hG.2.2.2.1.1;have sl:=lB fs ps.length;left;refine⟨_,.inr (dW.of hG.1),_,aU (j:=1) rfl,?_⟩;left;refine⟨_,.inl (bw.of hG.2.2.1),by omega,fun D hD=>cmR (fun i σ H'=>(∃o',σ=[o',some (.ref d)])∧H' D=some (.lst (((stL fs ps.length).take i).map V.int))∧Same H H') ⟨⟨_,rfl⟩,ak,aA hD⟩ ?_ ?_⟩
    · rintro i σ H2 hi ⟨⟨o',rfl⟩,hD2,s2⟩;have hi2:i<ps.length:=by omega
      have hz:(stL fs ps.length)[i]? = some ((bU fs i).getD 2):=by
        unfold stL;rw[List.getElem?_map,List.getElem?_range hi2];rfl
      have hg:iz H2 d (V.int (i:Int)) ((bU fs i).map V.int):=by
        rw[← qJ];exact iz.k (k:=Sum.inl (i:Int)) (s2 _ _ hd)
      rw[take_one hz];left;refine⟨isD (s2 _ _ hd),_,hg,_,hD2,by simp;omega,?_,aW s2 hD⟩;rw[ak];cases bU fs i <;> simp
    ·rintro σ H2 ⟨⟨o',rfl⟩,hD2,s2⟩;rw[tl,List.take_of_length_le (by rw[sl];exact Nat.le_refl _)] at hD2;left;exact q D H2 hD hD2 s2
theorem qb3 {n j:Nat} {d:Nat}:HT.HD n d (some (j:Int))=min j n:=by
  simp[HT.HD];intro h;omega
theorem qb4 {xs:List V} {j:Nat}:CN xs none (some (j:Int))=xs.take j:=by
  unfold CN;rw[qb3];simp[HT.HD,List.take_eq_take_iff]
theorem RD {xs:List V} {j:Nat}:CN xs (some (j:Int)) none=xs.drop j:=by
  unfold CN;rw[qb3];simp[HT.HD];rw[List.take_of_length_le (by simp)]
  by_cases h:j≤xs.length
  ·rw[Nat.min_eq_left h]
  ·rw[Nat.min_eq_right (by omega),List.drop_of_length_le (Nat.le_refl _),List.drop_of_length_le (by omega)]
theorem Cj {α:Type} {l:List α} {k:Nat} (j:Nat) (hk:k<l.length):(l.take k++l.drop (k+1))[j]? = if j<k then l[j]? else l[j+1]?:=by
  split
  ·rename_i h;rw[List.getElem?_append_left (by rw[List.length_take];omega),List.getElem?_take_of_lt h]
  ·rename_i h;rw[List.getElem?_append_right (by rw[List.length_take];omega),List.length_take,Nat.min_eq_left (by omega),List.getElem?_drop];congr 1;omega
theorem YJ {H:Hp} {vs:List V} {ps:List (Str×Str)} {k:Nat} (h:bD H vs ps) (hk:k<ps.length):bD H (vs.take k++vs.drop (k+1)) (ps.take k++ps.drop (k+1)):=by
  have hl:=h.1;refine⟨by simp;omega,fun i v e h1 h2=>?_⟩;rw[Cj i (by omega)] at h1;rw[Cj i hk] at h2;split at h1
  ·rename_i hi;rw[if_pos hi] at h2;exact h.2 _ _ _ h1 h2
  ·rename_i hi;rw[if_neg hi] at h2;exact h.2 _ _ _ h1 h2
theorem Ht {ps:List (Str×Str)} {k:Nat} (hk:k<ps.length) {x y:Str}:fC (aD (fun _=>none) (ps.take k++ps.drop (k+1)) 0) x y↔iW (fun i=>i≠k) ps x y:=by
  constructor
  · rintro⟨n,hn⟩;rw[cZ] at hn;obtain⟨e,he,h⟩:=hn;rw[Cj n hk] at he;refine⟨if n<k then n else n+1,by split <;> omega,?_⟩
    have he':ps[if n<k then n else n+1]? = some e:=by
      rw[← he];split <;> rfl
    rw[he']
    rcases h with⟨_,rfl,rfl⟩ | ⟨_,rfl,rfl⟩
    ·exact .inl rfl
    ·exact .inr rfl
  · rintro⟨j,hj,h⟩;refine⟨if j<k then j else j - 1,?_⟩
    rw[cZ];have he:(ps.take k++ps.drop (k+1))[if j<k then j else j - 1]? = ps[j]?:=by
      rw[Cj _ hk]
      by_cases h1:j<k
      ·rw[if_pos h1,if_pos h1]
      ·rw[if_neg h1,if_neg (by omega),show j - 1+1=j by omega]
    rw[he]
    rcases h with h | h
    ·exact⟨_,h,.inl ⟨rfl,rfl,rfl⟩⟩
    ·exact⟨_,h,.inr ⟨rfl,rfl,rfl⟩⟩
def Ux:Sp:=fun vs H Q _=>∃(t n l:Addr) (xs:List Str) (tv:List V) (ps:List (Str×Str)) (k:Nat) (e:Str×Str),vs=[.ref t,.int k]∧dU H t n l xs tv ps∧ps[k]? = some e∧
  ∀(b:Bool) (H':Hp),(b=true↔¬RT (iW (fun i=>i≠k) ps) e.1 e.2)→Same H H'→Q (.bl b) H'
theorem Uy (T:Txt K mg a):cg P w K mg base lC 2 a.lg a.vf ["_law_web_here", "_law_k"] Ux:=by
  refine T.Ec.oU u5 (fun vs H Q E h=>?_) (fun cdv A outer s H vs Q E hr h=>?_)
  ·obtain⟨t,n,l,xs,tv,ps,k,e,rfl,_⟩:=h;rfl
  · obtain⟨t,n,l,xs,tv,ps,k,e,rfl,hG,he,q⟩:=h;refine⟨_,(aB (wu (bL (bO (K:=K) rfl) (bL (bO (K:=K) rfl) (aM 0) aK (fun _ _=>rfl)) (aM 1) (fun _ _=>rfl)) (PG.eqv (fJ (K:=K) (n:=2) rfl rfl (jC.eqv (bx (aR (i:=2) u5.nd rfl (Or.inl rfl)) (jC.eqv (bx (aR (i:=3) u5.nd rfl (Or.inl rfl)) (jC.mono fH iK)) (bB _ _))) (bB _ _))) (fL _ _ _)))
      (aB (bC (i:=4) u5.nd rfl (Or.inl rfl) (fU (aj (bL (bO (K:=K) rfl) (aM 0) aK (fun _ _=>rfl)) (aj (cT xY (xJ (Q9 (K:=K) rfl) (bL (bO (K:=K) rfl) (aM 0) aK (fun _ _=>rfl)) Bo (PO.eqv (Bp (aM 1)) (yd _))) (xJ (Q9 (K:=K) rfl) (bL (bO (K:=K) rfl) (aM 0) aK (fun _ _=>rfl)) (PO.eqv (Bp (cT jJ (aM 1) aK)) (yd _)) Bo)) aq))))
      (aF (aY (gO (uZ (K:=K) rfl) (aM 3) (PE.eqv (aN (wO (K:=K) T) (hr.mono (by decide)) rfl T.vq T.qG.kp T.vp .nil aV (aj (aM 4) (aj (cT qaA (jP (aj aK aq)) (aO (cB (K:=K) rfl) rfl T.nm.len PySem.boot_len (aj (bL (bO (K:=K) rfl) (aM 4) aK (fun _ _=>rfl)) aq))) (aj (aM 2) aq)))) (aG _ _ _)) rfl))))),?_⟩
    have Rx:60≤sizeLine:=by decide
    have hX:=hG.2.2.2.2.1;have hTs:=hG.2.2.2.2.2;have Ej:=hTs.len;have tl:=hG.2.2.2.1.1;have hk:k<ps.length:=(List.getElem?_eq_some_iff.mp he).1;obtain⟨t2,htv,Jz⟩:=YD hG he;right;refine⟨_,.inr (dW.of hG.1),_,aU (j:=1) rfl,?_⟩;right;refine⟨_,.inl (bw.of hG.2.2.1),_,aU htv,_,dW.of Jz,rfl,?_⟩;right;refine⟨_,.inr (dW.of hG.1),_,aU (j:=0) rfl,_,.inr (dW.of hG.1),_,aU (j:=1) rfl,?_⟩;right;refine⟨_,bw.of hG.2.2.1,fun b1 hb1=>?_⟩;rw[qb4];have s1:Same H (upd H b1 (.lst (tv.take k))):=aA hb1;have e1:upd H b1 (.lst (tv.take k)) b1=some (.lst (tv.take k)):=ak;generalize upd H b1 (.lst (tv.take k))=H1 at s1 e1 ⊢;refine⟨_,.inr (dW.of (s1 _ _ hG.1)),_,aU (j:=1) rfl,?_⟩;right;refine⟨_,bw.of (s1 _ _ hG.2.2.1),fun b2 hb2=>?_⟩;rw[show((k:Nat):Int)+1=((k+1:Nat):Int) by omega,RD];have s2:Same H1 (upd H1 b2 (.lst (tv.drop (k+1)))):=aA hb2;have e2:upd H1 b2 (.lst (tv.drop (k+1))) b2=some (.lst (tv.drop (k+1))):=ak;generalize upd H1 b2 (.lst (tv.drop (k+1)))=H2 at s2 e2 ⊢;refine⟨_,s2 _ _ e1,_,e2,by simp;omega,fun b3 hb3=>?_⟩;have s3:Same H2 (upd H2 b3 (.lst (tv.take k++tv.drop (k+1)))):=aA hb3;have e3:upd H2 b3 (.lst (tv.take k++tv.drop (k+1))) b3=some (.lst (tv.take k++tv.drop (k+1))):=ak;generalize upd H2 b3 (.lst (tv.take k++tv.drop (k+1)))=H3 at s3 e3 ⊢;intro b4 hb4;have s4:Same H3 (upd H3 b4 (.tup [.ref n,.ref b3])):=aA hb4;have e4:upd H3 b4 (.tup [.ref n,.ref b3]) b4=some (.tup [.ref n,.ref b3]):=ak;generalize upd H3 b4 (.tup [.ref n,.ref b3])=H4 at s4 e4 ⊢;intro b5 hb5;have s5:Same H4 (upd H4 b5 (.lst [.int 2])):=aA hb5;have e5:upd H4 b5 (.lst [.int 2]) b5=some (.lst [.int 2]):=ak;generalize upd H4 b5 (.lst [.int 2])=H5 at s5 e5 ⊢;have S5:Same H H5:=s1.trans (s2.trans (s3.trans (s4.trans s5)));refine⟨_,.inr (dW.of (s5 _ _ e4)),_,aU (j:=1) rfl,?_⟩;right;have ml:(tv.take k++tv.drop (k+1)).length=(ps.take k++ps.drop (k+1)).length:=by simp;omega
    have m20:(ps.take k++ps.drop (k+1)).length≤20:=by simp;omega
    have hrep:∀m,(List.replicate m [V.int 2]).flatten=(List.replicate m (2:Int)).map V.int:=fun m=>by
      induction m with
      | zero=>rfl
      | succ m ih=>rw[List.replicate_succ,List.flatten_cons,ih];rfl
    refine⟨_,.inl (bw.of (s5 _ _ (s4 _ _ e3))),_,e5,by omega,by simp only[List.length_cons,List.length_nil];omega,fun b6 hb6=>?_⟩;rw[hrep,ml];generalize hm:(ps.take k++ps.drop (k+1)).length=m at ml m20;have s6:Same H5 (upd H5 b6 (.lst ((List.replicate m (2:Int)).map V.int))):=aA hb6;have e6:upd H5 b6 (.lst ((List.replicate m (2:Int)).map V.int)) b6=some (.lst ((List.replicate m (2:Int)).map V.int)):=ak;generalize upd H5 b6 (.lst ((List.replicate m (2:Int)).map V.int))=H6 at s6 e6 ⊢;have S6:=S5.trans s6;have sub:∀d∈ps.take k++ps.drop (k+1),d∈ps:=fun d hd=>(List.mem_append.mp hd).elim List.mem_of_mem_take List.mem_of_mem_drop;have hG6:dU H6 b4 n b3 xs (tv.take k++tv.drop (k+1)) (ps.take k++ps.drop (k+1)):=⟨s6 _ _ (s5 _ _ e4),S6 _ _ hG.2.1,s6 _ _ (s5 _ _ (s4 _ _ e3)),(YJ hG.2.2.2.1 hk).same S6,hX,⟨by omega,fun d hd=>hTs.ok d (sub d hd)⟩⟩;refine⟨b4,n,b3,b6,xs,_,_,List.replicate m 2,fun _=>none,e.1,rfl,hG6,e6,by rw[List.length_replicate,hm],fun j z hz=>?_,(hTs.ok e (List.mem_of_getElem? he)).1,fun r f H7 hr e7 _ hf s7=>?_⟩
    · rw[List.getElem?_replicate] at hz;split at hz
      ·cases hz;exact .inr (.inr ⟨rfl,rfl⟩)
      ·cases hz
    · right;have dd:inV (.str e.2) (f.map V.str) = !decide (¬e.2∈f):=by rw[bN];simp
      refine⟨_,.inl (bw.of e7),rfl,List.all_eq_true.mp (cu _),_,dd,q _ _ ?_ (S6.trans s7)⟩;rw[decide_eq_true_iff,hf];have c1:RT (fC (aD (fun _=>none) (ps.take k++ps.drop (k+1)) 0)) e.1 e.2↔RT (iW (fun i=>i≠k) ps) e.1 e.2:=⟨RT.mono fun _ _=>(Ht hk).mp,RT.mono fun _ _=>(Ht hk).mpr⟩;rw[c1]
def PL:Sp:=fun vs H Q _=>∃(t n l g r:Addr) (xs c:List Str) (tv:List V) (ps:List (Str×Str)) (zs:List Int),vs=[.ref t,.ref g,.ref r]∧dU H t n l xs tv ps∧H g=some (.lst (zs.map V.int))∧H r=some (.lst (c.map V.str))∧0<c.length∧c.length<xs.length∧(∀x∈c,x∈xs)∧xs.filter (fun y=>decide (y∈c))=c∧
  (∀k∈dh c ps,∃z e,zs[k]? = some z∧ps[k]? = some e∧0≤z∧z≤1∧¬K1 z e∈c)∧
  ∀H',Same H H'→Q (.bl true) H'
theorem PN (T:Txt K mg a):cg P w K mg base lC 2 a.jz a.rQ ["_law_web_here", "_law_state_here", "_law_lot"] PL:=by
  refine T.zR.oU O2 (fun vs H Q E h=>?_) (fun cdv A outer s H vs Q E hr h=>?_)
  ·obtain⟨t,n,l,g,r,xs,c,tv,ps,zs,rfl,_⟩:=h;rfl
  · obtain⟨t,n,l,g,r,xs,c,tv,ps,zs,rfl,hG,hg,PJ,hc0,hc9,hcx,hcf,hall,q⟩:=h;refine⟨_,(aB (cR (dN (cD (PE.eqv (aN (zX (K:=K) T) (hr.mono (by decide)) rfl T.yR T.uG.kp T.yQ .nil aV (aj (aM 0) (aj (aM 2) aq))) (aG _ _ _)))) (aF (aY jT)) bG)
      (aF (aY (aO (jX rfl) rfl T.nm.all jU (aj (dY rfl rfl (show aZ (ao iH) _ ["_law_web_here", "_law_state_here", "_law_lot"] ["_law_k"] [1,0,2] ["_law_k", "_law_state_here", "_law_web_here", "_law_lot"] from⟨rfl,by decide+kernel,by decide+kernel,rfl,by decide+kernel,by decide+kernel⟩) rfl (PI.eqv (dO (K:=K) rfl (PE.eqv (aN (pK (K:=K) T) (hr.mono (by decide)) rfl T.oH T.lQ.kp T.oG .nil aV (aj (aM 0) (aj (aM 2) aq))) (aG _ _ _))) (cP _ _)) (fun C s H fp pn=>(aR (i:=0) (show(["_law_k", "_law_state_here", "_law_web_here", "_law_lot"]:List Str).Nodup by decide+kernel) rfl (Or.inl rfl))) (fun C s H fp pn=>dX) (fun C s H fp pn=>(jK (gO j_ (bL (bO (K:=K) rfl) (aM 1) (aM 0) (fun _ _=>rfl)) aK (bY _)) (nZ (Bs (PE.eqv (aN (uQ (K:=K) T) (hr.mono (by decide)) rfl T.sH T.oJ.kp T.sG .nil aV (aj (aM 2) (aj (aM 3) (aj (aM 0) (aj (bL (bO (K:=K) rfl) (aM 1) (aM 0) (fun _ _=>rfl)) aq))))) (aG _ _ _))))))) aq))))),?_⟩
    have Rx:60≤sizeLine:=by decide
    have Ej:=hG.2.2.2.2.2.len;right;refine⟨t,n,l,r,xs,c,tv,ps,rfl,hG,PJ,hc0,hc9,hcx,hcf,fun H1 s1=>?_⟩;right;refine⟨t,n,l,r,xs,c,tv,ps,rfl,hG.same s1,s1 _ _ PJ,fun d H2 hd e2 s2=>?_⟩;have S2:=s1.trans s2;have cl:(dh c ps).length≤ps.length:=xU (Dq c) _ _;right;refine⟨⟨_,bw.of e2⟩,fun D hD=>Zq (eZ (dh c ps)) (fun j σ H'=>(∃o',σ=[o',some (.ref g),some (.ref t),some (.ref r)])∧H' D=some (.lst (List.replicate j (.bl true)))∧Same H2 H') ⟨⟨_,rfl⟩,ak,aA hD⟩ (fun j σ H' _ h=>bw.of (h.2.2 _ _ e2)) ?_ ?_⟩
    · rintro j v σ H3 hj ⟨⟨o',rfl⟩,J3,s3⟩;obtain⟨k,hk,rfl⟩:∃k,(dh c ps)[j]? = some k∧v = .int (k:Nat):=by
        unfold eZ at hj;rw[List.getElem?_map] at hj;obtain⟨k,hk,rfl⟩:=Option.map_eq_some_iff.mp hj;exact⟨k,hk,rfl⟩
      have hj2:=(List.getElem?_eq_some_iff.mp hk).1;obtain⟨z,e,hz,he,z0,z1,hn⟩:=hall k (List.mem_of_getElem? hk);have hzv:(zs.map V.int)[k]? = some (.int z):=by rw[List.getElem?_map,hz];rfl
      have S3:=S2.trans s3;right;refine⟨_,.inl (bw.of (S3 _ _ hg)),_,aU hzv,?_⟩;right;refine⟨true,by simp;omega,gM.pos rfl ?_⟩;right;refine⟨_,.inl (bw.of (S3 _ _ hg)),_,aU hzv,t,n,l,r,xs,c,tv,ps,k,z,e,rfl,hG.same S3,S3 _ _ PJ,he,z0,z1,?_⟩;rw[decide_eq_false hn];right;refine⟨_,J3,by rw[List.length_replicate];omega,by rw[ak,List.replicate_succ'],aW s3 hD⟩
    ·rintro σ H3 ⟨⟨o',rfl⟩,J3,s3⟩;right;refine⟨_,J3,_,jY _,?_⟩;rw[show(List.replicate (eZ (dh c ps)).length true).all id=true by simp];exact q _ (S2.trans s3)
def qa2 (C:Addr):Sp:=fun vs H Q _=>∃(o d:Addr) (xs:List Str) (ps:List (Str×Str)) (fs:List (Nat×Int)),vs=[.ref o,.ref d]∧fQ C H o xs ps∧Pa xs∧oK xs ps∧H d=some (.dK (cC fs))∧lU fs ps.length∧
  (bK (aD (bU fs) ps 0) xs xs=none→iJ ps xs=[]→∀H',Same H H'→Q (.str "told") H')∧
  (∀x,bK (aD (bU fs) ps 0) xs xs=some x→∀H',Same H H'→Q (.str "shut") H')∧
  (bK (aD (bU fs) ps 0) xs xs=none→∀k lot rest,iJ ps xs=(k,lot)::rest→∀H',Same H H'→Q (.str "barred") H')
theorem qa3 (T:Txt K mg a):cg P w K mg base lC 7 a.rT a.BW ["_law_made", "_law_fixed_here"] (qa2 a.bZ):=by
  refine T.O6.oU BJ (fun vs H Q E h=>?_) (fun cdv A outer s H vs Q E hr h=>?_)
  ·obtain⟨o,d,xs,ps,fs,rfl,_⟩:=h;rfl
  · obtain⟨o,d,xs,ps,fs,rfl,hw,hX,hTs,hd,hfs,q1,q2,q3⟩:=h;refine⟨_,(aB (bC (i:=2) BJ.nd rfl (Or.inl rfl) mR)
      (aB (qaJ rfl rfl rfl (fun R pn xe hx=>(aF (dZ (Ld hx rfl (Bg (K:=K) T) (hr.mono (by decide)) rfl T.uF T.oF.kp T.uE (aj (aM 0) (aj (aM 1) aq)))))) rfl T.Jy (Clause.of T.sS T.pJ) rfl T.yU (Clause.of T.lR T.gU) (fun e=>(aF (bC (i:=2) BJ.nd rfl (Or.inl rfl) mR))) (fun e=>(aF (bC (i:=2) BJ.nd rfl (Or.inl rfl) mR))))
      (aF (aY (aM 2))))),?_⟩
    simp -dsimp[au,stC];generalize hR:Li _ a.bW a.bh _ _ _=R;have neB:a.bh≠a.bW:=fun z=>by
      have:=(List.nodup_cons.mp T.nd).2;unfold XS at this;rw[z] at this;simp at this
    have neP:a.bW≠a.aQ:=fun z=>(List.nodup_cons.mp T.nd).1 (by rw[← z];simp[XS]);refine⟨o,d,xs,ps,fs,rfl,hw,hX,hTs,hd,hfs,fun hn hb r H1 hr1 e1 s1=>?_,fun x hx dx c H1 hc hdx ec s1=>⟨_,rfl,?_⟩,fun hn k lot rest hb dx c H1 hc hdx ec s1=>⟨_,rfl,?_⟩⟩
    ·simp -dsimp[au,stC];exact q1 hn hb _ s1
    ·subst hR;refine⟨vR.ofX T.sS T.pJ,.inl ⟨by rw[T.pJ.mro];simp,fun e he=>?_⟩⟩;simp -dsimp[au,stC];exact q2 x hx _ (s1.trans (aA he))
    ·subst hR;refine⟨vR.ofX T.lR T.gU,.inr ⟨by rw[T.gU.mro];simp[neB.symm,neP],by rw[T.gU.mro];simp,fun e he=>?_⟩⟩;simp -dsimp[au,stC];exact q3 hn k lot rest hb _ (s1.trans (aA he))
theorem Uz {ps:List (Str×Str)} {xs:List Str} (hTs:oK xs ps) {e:Str×Str} {k:Nat} (hk:ps[k]? = some e) (hb:¬e.1∈eU ps xs k e.2):dh (eU ps xs k e.2) ps=[k]:=by
  have hps:∀e∈ps,e.1∈xs∧e.2∈xs:=fun e he=>⟨(hTs.ok e he).1,(hTs.ok e he).2.1⟩;have key:∀i,i≤ps.length→jm (jR (eU ps xs k e.2)) (ps.take i) 0=if k<i then [k] else []:=by
    intro i
    induction i with
    | zero=>intro _;simp[jm]
    | succ i ih=>
      intro hi;obtain⟨d,hd⟩:∃d,ps[i]? = some d:=⟨ps[i],by simp[show i<ps.length by omega]⟩;rw[zB _ hd,ih (by omega)];have hc:=Ah hk (hps e (List.mem_of_getElem? hk)).2 hps hb hd;unfold jR
      by_cases hik:i=k
      ·subst hik;rw[if_neg (fun z=>(hc.mp z) rfl),if_neg (by omega),if_pos (by omega)];rfl
      · rw[if_pos (hc.mpr hik),List.append_nil]
        by_cases hki:k<i
        ·rw[if_pos hki,if_pos (by omega)]
        ·rw[if_neg hki,if_neg (by omega)]
  have hkl:k<ps.length:=(List.getElem?_eq_some_iff.mp hk).1;have:=key ps.length (Nat.le_refl _);rw[List.take_length,if_pos hkl] at this;exact this
theorem UG {α:Type} [DecidableEq α] {xs:List α} {p:α→Bool}:xs.filter (fun y=>decide (y∈xs.filter p))=xs.filter p:=
  List.filter_congr fun y hy=>by
    rw[Bool.eq_iff_iff,decide_eq_true_iff,List.mem_filter];exact⟨fun z=>z.2,fun z=>⟨hy,z⟩⟩
theorem qdZ {ps:List (Str×Str)} {xs:List Str} {k:Nat} {e:Str×Str} (hTs:oK xs ps) (he:ps[k]? = some e) (hn:¬e.1∈eU ps xs k e.2) :
    0<(eU ps xs k e.2).length∧(eU ps xs k e.2).length<xs.length∧(∀x∈eU ps xs k e.2,x∈xs)∧xs.filter (fun y=>decide (y∈eU ps xs k e.2))=eU ps xs k e.2:=by
  obtain⟨m1,m2,_⟩:=hTs.ok e (List.mem_of_getElem? he);refine⟨List.length_pos_of_mem (jW.mpr ⟨m2,.refl _⟩),?_,fun x hx=>(jW.mp hx).1,by unfold eU mJ;exact UG⟩;have hle:(eU ps xs k e.2).length≤xs.length:=List.length_filter_le _ _
  by_cases h:(eU ps xs k e.2).length=xs.length
  ·unfold eU mJ at h;have:=List.length_filter_eq_length_iff.mp h e.1 m1;exact absurd (List.mem_filter.mpr ⟨m1,this⟩) hn
  ·omega
theorem YK {ps:List (Str×Str)} {xs:List Str} {k:Nat} {e:Str×Str} {fx:Nat→Option Int} (h01:∀j d,fx j=some d→d=0∨d=1) (hTs:oK xs ps) (he:ps[k]? = some e) (hn:¬e.1∈eU ps xs k e.2) (st:Strong (aD fx ps 0) xs):fx k=none:=by
  obtain⟨m1,m2,_⟩:=hTs.ok e (List.mem_of_getElem? he);have hps:∀e∈ps,e.1∈xs∧e.2∈xs:=fun e he=>⟨(hTs.ok e he).1,(hTs.ok e he).2.1⟩;have hb:e.2∈eU ps xs k e.2:=jW.mpr ⟨m2,.refl _⟩;have cr:=fun {j:Nat} {d:Str×Str} (hj:ps[j]? = some d)=>Ah he m2 hps hn hj;cases hf:fx k with
  | none=>rfl
  | some d=>
    exfalso
    rcases h01 k d hf with rfl | rfl
    · refine hn (RT.closed (P:=fun y=>y∈eU ps xs k e.2) (fun x y h hx=>?_) hb (st e.2 m2 e.1 m1));obtain⟨n,h⟩:=h;obtain⟨d,hd,h⟩:=cZ.mp h
      by_cases hk:n=k
      ·subst hk;rw[he] at hd;cases hd;rw[hf] at h;simp at h;rw[h.1] at hx;exact absurd hx hn
      · have:=(cr hd).mpr hk
        rcases h with⟨_,rfl,rfl⟩ | ⟨_,rfl,rfl⟩
        ·exact this.mp hx
        ·exact this.mpr hx
    · refine RT.closed (P:=fun y=>¬y∈eU ps xs k e.2) (fun x y h hx=>?_) hn (st e.1 m1 e.2 m2) hb;obtain⟨n,h⟩:=h;obtain⟨d,hd,h⟩:=cZ.mp h
      by_cases hk:n=k
      ·subst hk;rw[he] at hd;cases hd;rw[hf] at h;simp at h;rw[h.1] at hx;exact absurd hb hx
      · have:=(cr hd).mpr hk
        rcases h with⟨_,rfl,rfl⟩ | ⟨_,rfl,rfl⟩
        ·exact fun z=>hx (this.mpr z)
        ·exact fun z=>hx (this.mp z)
theorem M4 {ps:List (Str×Str)} {xs:List Str} {x:Str} {fs:List (Nat×Int)} (hfs:lU fs ps.length) (hTs:oK xs ps) {k:Nat} (hk:k∈dh (restOf (aD (bU fs) ps 0) xs x) ps) :
    ∃z e,(stL fs ps.length)[k]? = some z∧ps[k]? = some e∧0≤z∧z≤1∧¬K1 z e∈restOf (aD (bU fs) ps 0) xs x:=by
  obtain⟨e,he,hn⟩:=Er hk;have hkl:=(List.getElem?_eq_some_iff.mp he).1;obtain⟨m1,m2,_⟩:=hTs.ok e (List.mem_of_getElem? he);have hz:(stL fs ps.length)[k]? = some ((bU fs k).getD 2):=by
    unfold stL;rw[List.getElem?_map,List.getElem?_range hkl];rfl
  have f1:∀{p q:Str},p∈xs→q∈xs→(k,p,q)∈aD (bU fs) ps 0→q∈restOf (aD (bU fs) ps 0) xs x→p∈restOf (aD (bU fs) ps 0) xs x:=fun hp hq hs hr=>
    fD.mpr ⟨hp,fun z=>(fD.mp hr).2 (.tail z ⟨k,hs⟩)⟩
  have a12:(bU fs k).getD 0=0→e.2∈restOf (aD (bU fs) ps 0) xs x→e.1∈restOf (aD (bU fs) ps 0) xs x:=fun h=>f1 m1 m2 (cZ.mpr ⟨e,he,.inl ⟨h,rfl,rfl⟩⟩);have a21:(bU fs k).getD 1=1→e.1∈restOf (aD (bU fs) ps 0) xs x→e.2∈restOf (aD (bU fs) ps 0) xs x:=fun h=>f1 m2 m1 (cZ.mpr ⟨e,he,.inr ⟨h,rfl,rfl⟩⟩);cases hf:bU fs k with
  | none=>
    rw[hf] at a12 a21;exact absurd ⟨a21 rfl,a12 rfl⟩ hn
  | some d=>
    have h01:=qK hfs hf;rw[hf] at hz a12 a21;refine⟨d,e,hz,he,h01.1,h01.2.1,fun z=>?_⟩;unfold K1 at z;split at z
    ·rename_i h;subst h;exact hn ⟨fun _=>z,a12 rfl⟩
    · have:d=1:=by omega
      subst this;exact hn ⟨a21 rfl,fun _=>z⟩
theorem YL (fs:List (Nat×Int)) {m i:Nat} (hi:i<m):((stL fs m).map V.int)[i]? = some (.int ((bU fs i).getD 2)):=by
  unfold stL;rw[List.getElem?_map,List.getElem?_map,List.getElem?_range hi];rfl
theorem M5 (x:Int) (xs:List Int):inV (.int x) (xs.map V.int)=decide (x∈xs):=by
  unfold inV
  induction xs with
  | nil=>rfl
  | cons y ys ih=>
    rw[List.map_cons,List.any_cons,ih]
    by_cases h:x=y
    ·subst h;simp[Sd]
    ·simp[Sd,h,Ne.symm h]
theorem UJ (xs:List Int):(xs.map V.int).all j6=true:=by
  rw[List.all_eq_true];intro v hv;obtain⟨x,_,rfl⟩:=List.mem_map.mp hv;rfl
theorem dty {H:Hp} {b:Addr} {kvs:List (Key×V)} (e:H b=some (.dK kvs)):Ss K "dict" (.ref b) H:=by
  unfold Ss;exact .inr (.inr (.inl ⟨rfl,.inl ⟨_,e⟩⟩))
def qa4 (C:Addr):Sp:=fun vs H Q _=>∃(o d:Addr) (xs:List Str) (ps:List (Str×Str)) (fs:List (Nat×Int)),vs=[.ref o,.ref d]∧fQ C H o xs ps∧Pa xs∧oK xs ps∧H d=some (.dK (cC fs))∧lU fs ps.length∧
  (bK (aD (bU fs) ps 0) xs xs=none→iJ ps xs=[]→∀(t td:Addr) (es:List FE) (H':Hp),H td=none→H' td=some (.dK (es.map xq))→(∀e∈es,Ge ps xs fs H H' e)→es.map (fun e=>(e.k,e.ld))=jB ps xs fs (bJ fs ps.length)→(es.map (·.c)).Nodup→H' t=some (.tup [.str "told",.ref td])→Same H H'→Q (.ref t) H')∧
  (∀x,bK (aD (bU fs) ps 0) xs xs=some x→∀(t c:Addr) (H':Hp),H c=none→H' c=some (.lst ((restOf (aD (bU fs) ps 0) xs x).map V.str))→H' t=some (.tup [.str "shut",.ref c])→Same H H'→Q (.ref t) H')∧
  (bK (aD (bU fs) ps 0) xs xs=none→∀k lot rest,iJ ps xs=(k,lot)::rest→∀(t u c:Addr) (H':Hp),H c=none→H' c=some (.lst (lot.map V.str))→H' u=some (.tup [.int (k:Nat),.ref c])→H' t=some (.tup [.str "barred",.ref u])→Same H H'→Q (.ref t) H')
theorem qa5 (T:Txt K mg a):cg P w K mg base lC 7 a.rR a.BP ["_law_made", "_law_fixed_here"] (qa4 a.bZ):=by
  refine T.O5.oU u6 (fun vs H Q E h=>?_) (fun cdv A outer s H vs Q E hr h=>?_)
  ·obtain⟨o,d,xs,ps,fs,rfl,_⟩:=h;rfl
  · obtain⟨o,d,xs,ps,fs,rfl,hw,hX,hTs,hd,hfs,q1,q2,q3⟩:=h;refine⟨_,(aB (bC (i:=2) u6.nd rfl (Or.inl rfl) (fj Ov rfl T.Jj.dict lG (aj (aM 1) aq)))
      (aB (qaD (i:=4) rfl rfl rfl u6.nd rfl rfl (fun R pn xe hx=>(aF (bC (i:=3) u6.nd rfl (Or.inl rfl) (fU (aj mR (aj (Ld hx rfl (Hs (K:=K) T) (hr.mono (by decide)) rfl T.Eb T.yN.kp T.Ea (aj (aM 0) (aj (aM 2) aq))) aq)))))) rfl T.Jy (Clause.of T.sS T.pJ) rfl T.yU (Clause.of T.lR T.gU) (fun e=>(aF (bC (i:=3) u6.nd rfl (Or.inl rfl) (fU (aj mR (aj (Dz T.pJ.get T.ji (aM 4) rfl) aq)))))) (fun e=>(aF (bC (i:=3) u6.nd rfl (Or.inl rfl) (fU (aj mR (aj (fU (aj (Dz T.gU.get T.gJ (aM 4) rfl) (aj (Dz T.gU.get T.gK (aM 4) rfl) aq))) aq)))))))
      (aB (dZ (Io (K:=K) rfl PySem.F.plainAttrs_dict PySem.F.slot_dict_clear PySem.F.type_dict_clear DG (aM 2)))
      (aF (aY (aM 3)))))),?_⟩
    have qaX:200≤sizeLine:=by decide
    have Ej:=hTs.len;have fl:=hfs.len;have neB:a.bh≠a.bW:=fun z=>by
      have:=(List.nodup_cons.mp T.nd).2;unfold XS at this;rw[z] at this;simp at this
    have neP:a.bW≠a.aQ:=fun z=>(List.nodup_cons.mp T.nd).1 (by rw[← z];simp[XS]);simp -dsimp[au,stC];refine⟨_,.inl hd,fun hh hh0=>?_⟩;have s0:Same H (upd H hh (.dK (cC fs))):=aA hh0;have e0:upd H hh (.dK (cC fs)) hh=some (.dK (cC fs)):=ak;generalize upd H hh (.dK (cC fs))=H0 at s0 e0 ⊢;have clr:∀{H':Hp},Same H H'→Same H (upd H' hh (.dK [])):=fun s=>aW s hh0;generalize hR:Le 4 _ a.bW a.bh _ _ _=R;refine⟨o,hh,xs,ps,fs,rfl,hw.same s0,hX,hTs,e0,hfs,fun hn hb td es H1 htd etd hes hel hnc s1=>?_,fun x hx dx c H1 hc hdx ec s1=>⟨_,rfl,?_⟩,fun hn k lot rest hb dx c H1 hc hdx ec s1=>⟨_,rfl,?_⟩⟩
    · have hh1:=s1 _ _ e0;simp -dsimp[au,stC];intro p hp;have s2:Same H1 (upd H1 p (.tup [.str "told",.ref td])):=aA hp;have e2:upd H1 p (.tup [.str "told",.ref td]) p=some (.tup [.str "told",.ref td]):=ak;generalize upd H1 p (.tup [.str "told",.ref td])=H2 at s2 e2 ⊢;have hh2:=s2 _ _ hh1;refine⟨dty hh2,_,hh2,by simp[cC];omega,?_⟩;have ne:∀{b:Addr} {u:HO},H2 b=some u→(∀kvs,u≠.dK kvs)→upd H2 hh (.dK []) b=some u:=fun e k=>by
        rw[aC (fun z=>by rw[z,hh2] at e;injection e with e;exact k _ e.symm)];exact e
      have tdh:td≠hh:=fun z=>by rw[z,e0] at htd;cases htd
      refine q1 hn hb p td es _ (bV s0 htd) (by rw[aC tdh];exact s2 _ _ etd) (fun e he=>?_) hel hnc (ne e2 fun _ z=>by cases z) (clr (s0.trans (s1.trans s2)));have h1:=(hes e he).same s2;exact⟨ne h1.tp (fun _ z=>by cases z),ne h1.lt (fun _ z=>by cases z),bV s0 h1.nw,h1.sh⟩
    · subst hR;refine⟨vR.ofX T.sS T.pJ,.inl ⟨by rw[T.pJ.mro];simp,fun e he=>?_⟩⟩;have se:Same H1 (upd H1 e (yh e a.bW (some dx))):=aA he;have ee:upd H1 e (yh e a.bW (some dx)) e=some (yh e a.bW (some dx)):=ak;have S:=s1.trans se;have M6:=se _ _ hdx;have ec2:=se _ _ ec;generalize upd H1 e (yh e a.bW (some dx))=H2 at se ee S M6 ec2 ⊢;simp -dsimp[au,stC];refine⟨dx,ee,_,M6,.ref c,rfl,fun p hp=>?_⟩;have s3:Same H2 (upd H2 p (.tup [.str "shut",.ref c])):=aA hp;have e3:upd H2 p (.tup [.str "shut",.ref c]) p=some (.tup [.str "shut",.ref c]):=ak;generalize upd H2 p (.tup [.str "shut",.ref c])=H3 at s3 e3 ⊢;have S3:=S.trans s3;have hh3:=S3 _ _ e0;refine⟨dty hh3,_,hh3,by simp[cC];omega,?_⟩;have ne:∀{b:Addr} {u:HO},H3 b=some u→(∀kvs,u≠.dK kvs)→upd H3 hh (.dK []) b=some u:=fun e k=>by
        rw[aC (fun z=>by rw[z,hh3] at e;injection e with e;exact k _ e.symm)];exact e
      exact q2 x hx p c _ (bV s0 hc) (ne (s3 _ _ ec2) fun _ z=>by cases z) (ne e3 fun _ z=>by cases z) (clr (s0.trans S3))
    · subst hR;refine⟨vR.ofX T.lR T.gU,.inr ⟨by rw[T.gU.mro];simp[neB.symm,neP],by rw[T.gU.mro];simp,fun e he=>?_⟩⟩;have se:Same H1 (upd H1 e (yh e a.bh (some dx))):=aA he;have ee:upd H1 e (yh e a.bh (some dx)) e=some (yh e a.bh (some dx)):=ak;have S:=s1.trans se;have M6:=se _ _ hdx;have ec2:=se _ _ ec;generalize upd H1 e (yh e a.bh (some dx))=H2 at se ee S M6 ec2 ⊢;simp -dsimp[au,stC];refine⟨dx,ee,_,M6,_,rfl,dx,ee,_,M6,.ref c,rfl,fun u hu p hp=>?_⟩;have s3:Same H2 (upd (upd H2 u (.tup [.int (k:Nat),.ref c])) p (.tup [.str "barred",.ref u])):=(aA hu).trans (aA hp);have e3:upd (upd H2 u (.tup [.int (k:Nat),.ref c])) p (.tup [.str "barred",.ref u]) p=some (.tup [.str "barred",.ref u]):=ak;have e4:upd (upd H2 u (.tup [.int (k:Nat),.ref c])) p (.tup [.str "barred",.ref u]) u=some (.tup [.int (k:Nat),.ref c]):=bM ak hp;generalize upd (upd H2 u (.tup [.int (k:Nat),.ref c])) p (.tup [.str "barred",.ref u])=H3 at s3 e3 e4 ⊢;have S3:=S.trans s3;have hh3:=S3 _ _ e0;refine⟨dty hh3,_,hh3,by simp[cC];omega,?_⟩;have ne:∀{b:Addr} {u:HO},H3 b=some u→(∀kvs,u≠.dK kvs)→upd H3 hh (.dK []) b=some u:=fun e k=>by
        rw[aC (fun z=>by rw[z,hh3] at e;injection e with e;exact k _ e.symm)];exact e
      exact q3 hn k lot rest hb p u c _ (bV s0 hc) (ne (s3 _ _ ec2) fun _ z=>by cases z) (ne e4 fun _ z=>by cases z) (ne e3 fun _ z=>by cases z) (clr (s0.trans S3))
theorem RG (ns:List Int):(PyData.list (iY ns)).canLay0=true:=by simp[PyData.canLay0,lay_ints]
theorem qgF (x y:List Int):PyData.eqv (.list (iY x)) (.list (iY y))=decide (x=y):=by simp[PyData.eqv,KZ]
theorem qb5 (ns:List Int):(PyData.list (iY ns)).depth≤64:=by
  have:=KY ns;simp[PyData.depth];omega
def zY:Sp:=fun vs H Q _=>∃(t n l g r:Addr) (xs:List Str) (tv:List V) (ps:List (Str×Str)) (fs:List (Nat×Int)) (wd:Str),vs=[.ref t,.ref g,.str wd,.ref r]∧dU H t n l xs tv ps∧H g=some (.lst ((stL fs ps.length).map V.int))∧lU fs ps.length∧
  ((wd=Str.ofString "shut" ∧∃x,bK (aD (bU fs) ps 0) xs xs=some x∧H r=some (.lst ((restOf (aD (bU fs) ps 0) xs x).map V.str)))∨(wd=Str.ofString "barred" ∧bK (aD (bU fs) ps 0) xs xs=none∧∃k lot rest c,iJ ps xs=(k,lot)::rest∧H r=some (.tup [.int (k:Nat),.ref c])∧H c=some (.lst (lot.map V.str))))∧
  ∀H',Same H H'→Q (.bl true) H'
theorem zZ (T:Txt K mg a):cg P w K mg base lC 3 a.cO a.jA ["_law_web_here", "_law_state_here", "_law_word_here", "_law_told"] zY:=by
  refine T.m7.oU lN (fun vs H Q E h=>?_) (fun cdv A outer s H vs Q E hr h=>?_)
  ·obtain⟨t,n,l,g,r,xs,tv,ps,fs,wd,rfl,_⟩:=h;rfl
  · obtain⟨t,n,l,g,r,xs,tv,ps,fs,wd,rfl,hG,hg,hfs,hc,q⟩:=h;refine⟨_,(aB (cR (bA q_ (aM 2) mR (bY _)) (aF (aY (jK (Bs (PE.eqv (aN (sU (K:=K) T) (hr.mono (by decide)) rfl T.pI T.mO.kp T.pH .nil aV (aj (aM 0) (aj (aM 1) aq))) (aG _ _ _))) (nZ (PE.eqv (aN (PN (K:=K) T) (hr.mono (by decide)) rfl T.Hi T.zR.kp T.Hh .nil aV (aj (aM 0) (aj (aM 1) (aj (aM 3) aq)))) (aG _ _ _)))))) bG)
      (aB (wu (aM 3) (PG.eqv (fJ (K:=K) (n:=2) rfl rfl (jC.eqv (bx (aR (i:=4) lN.nd rfl (Or.inl rfl)) (jC.eqv (bx (aR (i:=5) lN.nd rfl (Or.inl rfl)) (jC.mono fH iK)) (bB _ _))) (bB _ _))) (fL _ _ _)))
      (aB (cR (PW.pt (qp (cD (aO (oA (K:=K) rfl) rfl T.nm.isinstance boot_isinstance (aj (aM 4) (aj (jk (v:=.ty "bool") rfl T.Jj.bool qU rfl) aq)))) (qp (dN (zH ug uf aK (aM 4) (aO (cB (K:=K) rfl) rfl T.nm.len PySem.boot_len (aj (aM 1) aq)))) (qp (bA j_ (bL (bO (K:=K) rfl) (aM 1) (aM 4) (fun _ _=>rfl)) aK (bY _)) (nY (dN (cD (PE.eqv (aN (Uy (K:=K) T) (hr.mono (by decide)) rfl T.LK T.Ec.kp T.LC .nil aV (aj (aM 0) (aj (aM 4) aq))) (aG _ _ _))))))))) (aF (aY jT)) bG)
      (aF (aY (jK (PE.eqv (aN (sU (K:=K) T) (hr.mono (by decide)) rfl T.pI T.mO.kp T.pH .nil aV (aj (aM 0) (aj (aM 1) aq))) (aG _ _ _)) (jK (PE.eqv (aN (zX (K:=K) T) (hr.mono (by decide)) rfl T.yR T.uG.kp T.yQ .nil aV (aj (aM 0) (aj (aM 5) aq))) (aG _ _ _)) (nZ (gO (Xk (K:=K) rfl hr.units) (PE.eqv (aN (pK (K:=K) T) (hr.mono (by decide)) rfl T.oH T.lQ.kp T.oG .nil aV (aj (aM 0) (aj (aM 5) aq))) (aG _ _ _)) (jP (aj (aM 4) aq)) (bY _)))))))))),?_⟩
    have Rx:60≤sizeLine:=by decide
    have hX:=hG.2.2.2.2.1;have hTs:=hG.2.2.2.2.2;have Ej:=hTs.len;have g2:∀e∈ps,e.1∈xs∧e.2∈xs:=fun e he=>⟨(hTs.ok e he).1,(hTs.ok e he).2.1⟩
    rcases hc with⟨rfl,x,hx,hrr⟩ | ⟨rfl,hn,k,lot,rest,c,hb,hrr,hcc⟩
    · obtain⟨L_,hxl⟩:=um hx;obtain⟨r0,r9,rf⟩:=wB hX.nd L_ hxl;right;refine⟨t,n,l,g,xs,tv,ps,_,bU fs,rfl,hG,hg,lB _ _,PK hfs,fun b H3 hb3 s3=>?_⟩;have:b=false:=by
        cases b with
        | false=>rfl
        | true=>
          have:=vD (hb3.mp rfl);rw[hx] at this;cases this
      subst this;right;refine⟨t,n,l,g,r,xs,_,tv,ps,stL fs ps.length,rfl,hG.same s3,s3 _ _ hg,s3 _ _ hrr,r0,r9,fun y hy=>(fD.mp hy).1,rf,fun k hk=>M4 hfs hTs hk,fun H4 s4=>?_⟩;exact q _ (s3.trans s4)
    ·have hst:=vC hn;obtain⟨e,he,rfl,hne⟩:=Ut hb;obtain⟨c0,c9,cx,cf⟩:=qdZ hTs he hne;have hk:k<ps.length:=(List.getElem?_eq_some_iff.mp he).1;have hfr:bU fs k=none:=YK (fun j d hj=>by have:=qK hfs hj;omega) hTs he hne hst;have hbar:¬RT (iW (fun i=>i≠k) ps) e.1 e.2:=fun z=>hne (jW.mpr ⟨(g2 e (List.mem_of_getElem? he)).1,z.symm fun _ _ ⟨j,h1,h2⟩=>⟨j,h1,h2.symm⟩⟩);have hz:=YL fs hk;rw[hfr] at hz;right;refine gM.neg (by decide+kernel) ?_;right;refine⟨_,dW.of hrr,rfl,?_⟩;right;refine⟨_,.int _,_,nj K,gM.neg rfl ?_⟩;right;refine⟨_,.inl (bw.of hg),?_⟩;rw[List.length_map,lB];refine gM.neg (by simp[hk]) ?_;right;refine⟨_,.inl (bw.of hg),_,aU hz,?_⟩;right;refine⟨t,n,l,xs,tv,ps,k,e,rfl,hG,he,fun b5 H5 hb5 s5=>?_⟩;rw[show b5=true from hb5.mpr hbar];right;refine⟨t,n,l,g,xs,tv,ps,_,bU fs,rfl,hG.same s5,s5 _ _ hg,lB _ _,PK hfs,fun b6 H6 hb6 s6=>?_⟩;rw[show b6=true from hb6.mpr hst];have S6:=s5.trans s6;right;refine⟨t,n,l,c,xs,_,tv,ps,rfl,hG.same S6,S6 _ _ hcc,c0,c9,cx,cf,fun H7 s7=>?_⟩;have S7:=S6.trans s7;right;refine⟨t,n,l,c,xs,_,tv,ps,rfl,hG.same S7,S7 _ _ hcc,fun d8 H8 hd8 e8 s8=>?_⟩;right;intro p9 hp9;have s9:Same H8 (upd H8 p9 (.lst [.int (k:Nat)])):=aA hp9;have e9:upd H8 p9 (.lst [.int (k:Nat)]) p9=some (.lst [.int (k:Nat)]):=ak;generalize upd H8 p9 (.lst [.int (k:Nat)])=H9 at s9 e9 ⊢;rw[Uz hTs he hne] at e8;refine⟨.list (iY [(k:Int)]),⟨d8,_,rfl,bw.of (s9 _ _ e8),xW [(k:Int)]⟩,.list (iY [(k:Int)]),⟨p9,_,rfl,bw.of e9,xW [(k:Int)]⟩,RG _,RG _,qb5 _,?_⟩;rw[qgF,decide_eq_true rfl];exact q _ (S7.trans (s8.trans s9))
theorem UL {fs:List (Nat×Int)} {i:Nat}:bJ fs (i+1)=bJ fs i++if i∈fs.map (·.1) then [] else [i]:=by
  unfold bJ frB;rw[List.range_succ,List.filter_append];congr 1
  by_cases h:i∈fs.map (·.1) <;> simp[h]
theorem M7 (ps:List (Str×Str)) (xs:List Str) (fs:List (Nat×Int)) (ks:List Nat):(jB ps xs fs ks).length≤2 * ks.length:=by
  induction ks with
  | nil=>simp[jB]
  | cons k ks ih=>
    have f1:∀l,(qO ps xs fs k l).length≤1:=fun l=>by unfold qO;split <;> simp
    have:=f1 0;have:=f1 1;simp only[jB,List.flatMap_cons,MF,List.length_append,List.length_cons] at ih ⊢;omega
def JM (ps:List (Str×Str)) (xs:List Str) (fs:List (Nat×Int)) (k:Nat):Nat→List (Nat×Int)
  | 0=>[]
  | 1=>if zW ps xs fs k 0=true then [(k,1)] else []
  | _=>(if zW ps xs fs k 0=true then [(k,1)] else [])++(if zW ps xs fs k 1=true then [(k,0)] else [])
theorem qa6 {ps:List (Str×Str)} {xs:List Str} {fs:List (Nat×Int)} {k:Nat} (nb:zW ps xs fs k 0=true→zW ps xs fs k 1=true→False):JM ps xs fs k 2=MF ps xs fs k:=by
  unfold JM MF qO;cases h0:zW ps xs fs k 0 <;> cases h1:zW ps xs fs k 1
  ·simp[h0,h1]
  ·simp[h0,h1]
  ·simp[h0,h1]
  ·exact(nb h0 h1).elim
theorem qd0 {l:List Int} {k:Nat} {v:Int} (hk:k<l.length) (j:Nat):(l.take k++[v]++l.drop (k+1))[j]? = if j=k then some v else l[j]?:=by
  have e:l.take k++[v]++l.drop (k+1)=l.set k v:=by
    rw[List.set_eq_take_append_cons_drop,if_pos hk];simp
  rw[e,List.getElem?_set]
  by_cases h:k=j
  ·subst h;simp[hk]
  ·rw[if_neg h,if_neg (fun z=>h z.symm)]
theorem qd1 {fs:List (Nat×Int)} {m k:Nat} {v:Int} (hfs:lU fs m) (hk:k<m) (hn:k∉fs.map (·.1)) (hv:v=0∨v=1):Yw ((stL fs m).take k++[v]++(stL fs m).drop (k+1)) (bU (fs++[(k,v)])):=fun j z hz=>by
  rw[qd0 (by rw[lB];exact hk)] at hz;rw[qL hn];unfold Rn
  by_cases h:j=k
  · subst h;rw[if_pos rfl] at hz;cases hz;simp only[if_true]
    rcases hv with rfl | rfl
    ·exact .inl ⟨rfl,rfl⟩
    ·exact .inr (.inl ⟨rfl,rfl⟩)
  ·rw[if_neg h] at hz;simp only[if_neg h];exact PK hfs j z hz
theorem PX {ps:List (Str×Str)} {xs:List Str} {fs:List (Nat×Int)} {k:Nat} {v:Int} {b:Bool} (h:b=true↔Strong (aD (bU (fs++[(k,v)])) ps 0) xs):zW ps xs fs k v = !b:=by
  unfold zW;cases b with
  | true=>rw[vD (h.mp rfl)];rfl
  | false=>
    cases hs:bK (aD (bU (fs++[(k,v)])) ps 0) xs xs with
    | some x=>rfl
    | none=>exact absurd (h.mpr (vC hs)) (by decide)
def qa7:Sp:=fun vs H Q _=>∃(t n l g:Addr) (xs:List Str) (tv:List V) (ps:List (Str×Str)) (fs:List (Nat×Int)),vs=[.ref t,.ref g]∧dU H t n l xs tv ps∧H g=some (.lst ((stL fs ps.length).map V.int))∧lU fs ps.length∧bK (aD (bU fs) ps 0) xs xs=none∧iJ ps xs=[]∧
  ∀(du:Addr) (H':Hp),H du=none→H' du=some (.dK (cC (jB ps xs fs (bJ fs ps.length))))→Same H H'→Q (.ref du) H'
theorem qa8 (T:Txt K mg a):cg P w K mg base lC 3 a.rU a.BX ["_law_web_here", "_law_state_here"] qa7:=by
  refine T.O7.oU yt (fun vs H Q E h=>?_) (fun cdv A outer s H vs Q E hr h=>?_)
  ·obtain⟨t,n,l,g,xs,tv,ps,fs,rfl,_⟩:=h;rfl
  · obtain⟨t,n,l,g,xs,tv,ps,fs,rfl,hG,hg,hfs,hn,hb,q⟩:=h;refine⟨_,(aB (bC (i:=2) yt.nd rfl (Or.inl rfl) xR)
      (aB (iI PassesOwn.never rfl (PI.eqv (iB rfl T.nm.range (aj (aO (cB (K:=K) rfl) rfl T.nm.len PySem.boot_len (aj (aM 1) aq)) aq)) (iD _)) (aR (i:=3) yt.nd rfl (Or.inl rfl))
      (aF (iI PassesOwn.never rfl (QL (K:=K) rfl (fU (aj aK (aj aK aq)))) (aR (i:=4) yt.nd rfl (Or.inl rfl))
      (aB (bC (i:=5) yt.nd rfl (Or.inl rfl) (cT xY (cT xY (xJ (Q9 (K:=K) rfl) (aM 1) Bo (PO.eqv (Bp (aM 3)) (yd _))) (jP (aj (aM 4) aq))) (xJ (Q9 (K:=K) rfl) (aM 1) (PO.eqv (Bp (cT jJ (aM 3) aK)) (yd _)) Bo)))
      (aF (cR (PW.pt (zq (bA q_ (bL (bO (K:=K) rfl) (aM 1) (aM 3) (fun _ _=>rfl)) aK (bY _)) (Bm (dN (cD (PE.eqv (aN (sU (K:=K) T) (hr.mono (by decide)) rfl T.pI T.mO.kp T.pH .nil aV (aj (aM 0) (aj (aM 5) aq))) (aG _ _ _))))))) (aF (PS.eqv (uW (j8 hr) (aM 2) (aM 3) (cT nu aK (aM 4)) rfl) (qy _ _ _))) bG))))))
      (aF (aY (aM 2))))),?_⟩
    have qaX:200≤sizeLine:=by decide
    have hTs:=hG.2.2.2.2.2;have Ej:=hTs.len;right;intro du hdu;have s1:Same H (upd H du (.dK [])):=aA hdu;have e1:upd H du (.dK []) du=some (.dK (cC (jB ps xs fs (bJ fs 0)))):=by rw[ak];rfl
    generalize upd H du (.dK [])=H1 at s1 e1 ⊢;refine⟨_,.inl (bw.of (s1 _ _ hg)),by rw[List.length_map,lB];omega,frR (fun i σ H'=>(∃o3 o4 o5,σ=[some (.ref t),some (.ref g),some (.ref du),o3,o4,o5])∧H' du=some (.dK (cC (jB ps xs fs (bJ fs i))))∧Same H H') ⟨⟨_,_,_,rfl⟩,e1,s1⟩ ?_ ?_⟩
    · rintro i σ H2 hi ⟨⟨o3,o4,o5,rfl⟩,e2,s2⟩;rw[List.length_map,lB] at hi;have hz:=YL fs hi;have gl:=M7 ps xs fs (bJ fs i);have fl7:(bJ fs i).length≤i:=by
        unfold bJ;exact Nat.le_trans (List.length_filter_le _ _) (by rw[List.length_range];exact Nat.le_refl _)
      have kng:i∉(jB ps xs fs (bJ fs i)).map (·.1):=fun z=>by
        obtain⟨e,he,rfl⟩:=List.mem_map.mp z;have:=(jG.mp (zj he).1).1;omega
      obtain⟨nxt,qmp,hnx⟩:∃nxt:Nat→List (Nat×Int),jB ps xs fs (bJ fs (i+1))=jB ps xs fs (bJ fs i)++nxt 2∧(if i∈fs.map (·.1) then ∀j,nxt j=[] else nxt=JM ps xs fs i):=by
        rw[UL]
        by_cases h:i∈fs.map (·.1)
        ·exact⟨fun _=>[],by rw[if_pos h];simp,by rw[if_pos h];exact fun _=>rfl⟩
        ·refine⟨JM ps xs fs i,?_,by rw[if_neg h]⟩;rw[if_neg h,qa6 (uP hTs hfs hi h hn hb)];simp[jB]
      rw[qmp];generalize jB ps xs fs (bJ fs i)=g0 at e2 gl kng ⊢;right;intro tt htt;have st:Same H2 (upd H2 tt (.tup [.int 0,.int 1])):=aA htt;have et:upd H2 tt (.tup [.int 0,.int 1]) tt=some (.tup [.int 0,.int 1]):=ak;generalize upd H2 tt (.tup [.int 0,.int 1])=H3 at st et ⊢;have n0:nxt 0=[]:=by
        by_cases h:i∈fs.map (·.1)
        ·rw[if_pos h] at hnx;exact hnx 0
        ·rw[if_neg h] at hnx;rw[hnx];rfl
      refine⟨⟨_,dW.of et⟩,frT [.int 0,.int 1] (fun j σ H'=>(∃o4 o5,σ=[some (.ref t),some (.ref g),some (.ref du),some (.int (i:Nat)),o4,o5])∧H' du=some (.dK (cC (g0++nxt j)))∧(H' tt=some (.tup [.int 0,.int 1]))∧Same H H') ⟨⟨_,_,rfl⟩,by rw[n0,List.append_nil];exact st _ _ e2,et,s2.trans st⟩ (fun j σ H' _ h=>dW.of h.2.2.1) ?_ ?_⟩
      · rintro j v σ H4 hj ⟨⟨o4,o5,rfl⟩,e4,et4,s4⟩;obtain⟨ld,rfl,hld,hj2⟩:∃ld:Int,v = .int ld∧((j=0∧ld=0)∨(j=1∧ld=1))∧j<2:=by
          match j,hj with
          | 0,hj=>exact⟨0,by simpa using hj.symm,.inl ⟨rfl,rfl⟩,by decide⟩
          | 1,hj=>exact⟨1,by simpa using hj.symm,.inr ⟨rfl,rfl⟩,by decide⟩
        have hg4:=s4 _ _ hg;right;refine⟨_,bw.of hg4,fun p1 h1 p2 h2=>?_⟩;rw[qb4,← List.map_take] at h2 ⊢;have t1:Same H4 (upd H4 p1 (.lst (((stL fs ps.length).take i).map V.int))):=aA h1;have f1:upd H4 p1 (.lst (((stL fs ps.length).take i).map V.int)) p1=some (.lst (((stL fs ps.length).take i).map V.int)):=ak;generalize upd H4 p1 (.lst (((stL fs ps.length).take i).map V.int))=G1 at t1 f1 h2 ⊢;have t2:Same G1 (upd G1 p2 (.lst [.int ld])):=aA h2;have f2:upd G1 p2 (.lst [.int ld]) p2=some (.lst [.int ld]):=ak;generalize upd G1 p2 (.lst [.int ld])=G2 at t2 f2 ⊢;have tkl:(((stL fs ps.length).take i).map V.int).length=i:=by rw[List.length_map,List.length_take,lB];omega
        refine⟨_,t2 _ _ f1,_,f2,by rw[tkl];simp;omega,fun p3 h3=>?_⟩;have t3:Same G2 (upd G2 p3 (.lst (((stL fs ps.length).take i).map V.int++[.int ld]))):=aA h3;have f3:upd G2 p3 (.lst (((stL fs ps.length).take i).map V.int++[.int ld])) p3=some (.lst (((stL fs ps.length).take i).map V.int++[.int ld])):=ak;generalize upd G2 p3 (.lst (((stL fs ps.length).take i).map V.int++[.int ld]))=G3 at t3 f3 ⊢;have T3:=(t1.trans t2).trans t3;refine⟨_,bw.of (T3 _ _ hg4),fun p4 h4=>?_⟩;rw[show((i:Int)+1)=((i+1:Nat):Int) from rfl,RD,← List.map_drop];have t4:Same G3 (upd G3 p4 (.lst (((stL fs ps.length).drop (i+1)).map V.int))):=aA h4;have f4:upd G3 p4 (.lst (((stL fs ps.length).drop (i+1)).map V.int)) p4=some (.lst (((stL fs ps.length).drop (i+1)).map V.int)):=ak;generalize upd G3 p4 (.lst (((stL fs ps.length).drop (i+1)).map V.int))=G4 at t4 f4 ⊢;have dl:(((stL fs ps.length).drop (i+1)).map V.int).length≤20:=by rw[List.length_map,List.length_drop,lB];omega
        refine⟨_,t4 _ _ f3,_,f4,by rw[List.length_append,tkl];simp at dl ⊢;omega,fun p5 h5=>?_⟩;have eo:((stL fs ps.length).take i).map V.int++[.int ld]++((stL fs ps.length).drop (i+1)).map V.int=((stL fs ps.length).take i++[ld]++(stL fs ps.length).drop (i+1)).map V.int:=by simp
        rw[eo];have t5:Same G4 (upd G4 p5 (.lst (((stL fs ps.length).take i++[ld]++(stL fs ps.length).drop (i+1)).map V.int))):=aA h5;have f5:upd G4 p5 (.lst (((stL fs ps.length).take i++[ld]++(stL fs ps.length).drop (i+1)).map V.int)) p5=some (.lst (((stL fs ps.length).take i++[ld]++(stL fs ps.length).drop (i+1)).map V.int)):=ak;generalize upd G4 p5 (.lst (((stL fs ps.length).take i++[ld]++(stL fs ps.length).drop (i+1)).map V.int))=G5 at t5 f5 ⊢;have T5:=(T3.trans t4).trans t5;have ol:((stL fs ps.length).take i++[ld]++(stL fs ps.length).drop (i+1)).length=ps.length:=by
          simp[lB];omega
        have S5:=s4.trans T5;refine⟨_,.inl (bw.of (T5 _ _ hg4)),_,aU hz,?_⟩;right;refine gM.of (fun h=>?_) (fun h=>?_)
        · have hfi:i∉fs.map (·.1):=by
            have h:=of_decide_eq_true h;intro z;cases hf:bU fs i with
            | none=>exact lV.mp hf z
            | some v=>
              rw[hf] at h;have:=qK hfs hf;simp at h;omega
          rw[if_neg hfi] at hnx;subst hnx;right;refine⟨t,n,l,p5,xs,tv,ps,_,_,rfl,hG.same S5,f5,ol,qd1 hfs hi hfi (by omega),fun b6 H6 hb6 s6=>?_⟩;have hsh:=PX hb6;have S6:=S5.trans s6;have T6:=T5.trans s6;cases b6 with
          | true=>
            have hx:JM ps xs fs i (j+1)=JM ps xs fs i j:=by
              rcases hld with⟨rfl,rfl⟩ | ⟨rfl,rfl⟩
              · show(if _ then _ else _)=_
                rw[if_neg (by rw[hsh];decide)];rfl
              · show _++(if _ then _ else _)=_
                rw[if_neg (c:=zW ps xs fs i 1=true) (by rw[hsh];decide),List.append_nil];rfl
            rw[hx];right;exact⟨T6 _ _ e4,T6 _ _ et4,S6⟩
          | false=>
            have hsh:zW ps xs fs i ld=true:=hsh;have hx:JM ps xs fs i (j+1)=JM ps xs fs i j++[(i,1 - ld)]∧JM ps xs fs i j=[]:=by
              rcases hld with⟨rfl,rfl⟩ | ⟨rfl,rfl⟩
              · refine⟨?_,rfl⟩;show(if _ then _ else _)=_
                rw[if_pos hsh];rfl
              · have h0:¬zW ps xs fs i 0=true:=fun z=>uP hTs hfs hi hfi hn hb z hsh;refine⟨?_,?_⟩
                · show _++(if _ then _ else _)=_
                  rw[if_pos (c:=zW ps xs fs i 1=true) hsh];rfl
                · show(if _ then _ else _)=_
                  rw[if_neg h0]
            rw[hx.1,hx.2,List.nil_append];rw[hx.2,List.append_nil] at e4;have qmq:tt≠du:=fun z=>by rw[z,e4] at et4;cases et4
            right;refine⟨_,.inl ⟨_,Sum.inl (i:Int),T6 _ _ e4,rfl,by simp[cC];omega,rfl⟩,?_,by rw[aC qmq];exact T6 _ _ et4,aW S6 hdu⟩;rw[ak,qu kng]
        · have hfi:i∈fs.map (·.1):=by
            have h:=of_decide_eq_false h;apply Classical.byContradiction;intro z;rw[lV.mpr z] at h;exact h rfl
          rw[if_pos hfi] at hnx;rw[hnx j,List.append_nil] at e4;rw[hnx (j+1)];right;exact⟨T5 _ _ e4,T5 _ _ et4,S5⟩
      ·rintro σ H4 ⟨⟨o4,o5,rfl⟩,e4,et4,s4⟩;right;exact⟨e4,s4⟩
    · rintro σ H2 ⟨⟨o3,o4,o5,rfl⟩,e2,s2⟩;have tl:((stL fs ps.length).map V.int).length=ps.length:=by rw[List.length_map,lB]
      rw[tl] at e2;right;exact q du H2 hdu e2 s2
theorem UW {c:List Str} {ps:List (Str×Str)} {k:Nat} {e:Str×Str} (he:ps[k]? = some e) (hn:¬(e.1∈c↔e.2∈c)):k∈dh c ps:=by
  unfold dh;refine KQ.mpr ⟨k,e,he,?_⟩;unfold jR;rw[if_neg hn];simp
theorem U0 {ps:List (Str×Str)} {xs:List Str} {fs:List (Nat×Int)} {k:Nat} {u:Int} {x:Str} (hX:Pa xs) (hTs:oK xs ps) (hn:k∉fs.map (·.1)) (hk:k<ps.length) (st:Strong (aD (bU fs) ps 0) xs)
    (hx:bK (aD (bU (fs++[(k,u)])) ps 0) xs xs=some x):k∈dh (restOf (aD (bU (fs++[(k,u)])) ps 0) xs x) ps:=by
  obtain⟨L_,hxl⟩:=um hx;obtain⟨r0,_,_⟩:=wB hX.nd L_ hxl;obtain⟨e,he⟩:∃e,ps[k]? = some e:=⟨_,List.getElem?_eq_getElem hk⟩;refine UW he fun hno=>?_;obtain⟨y,hy⟩:∃y,y∈restOf (aD (bU (fs++[(k,u)])) ps 0) xs x:=by
    cases hr:restOf (aD (bU (fs++[(k,u)])) ps 0) xs x with
    | nil=>rw[hr] at r0;simp at r0
    | cons y r=>exact⟨y,List.mem_cons_self⟩
  have path:=st x L_ y (fD.mp hy).1;refine(fD.mp hy).2 (RT.closed (P:=fun z=>RT (fC (aD (bU (fs++[(k,u)])) ps 0)) x z) (fun p q hs hp=>?_) (.refl x) path);obtain⟨n,h⟩:=hs;obtain⟨d,hd,h⟩:=cZ.mp h
  by_cases hnk:n=k
  · subst hnk;rw[he] at hd;cases hd;obtain⟨m1,m2,_⟩:=hTs.ok e (List.mem_of_getElem? he);have out:∀{z:Str},z∈xs→(z∉restOf (aD (bU (fs++[(n,u)])) ps 0) xs x↔RT (fC (aD (bU (fs++[(n,u)])) ps 0)) x z):=fun hz=>by
      rw[fD];constructor
      ·intro g;exact Classical.byContradiction fun w=>g ⟨hz,w⟩
      ·intro g w;exact w.2 g
    rcases h with⟨_,rfl,rfl⟩ | ⟨_,rfl,rfl⟩
    ·exact(out m2).mp fun z=>(out m1).mpr hp (hno.mpr z)
    ·exact(out m1).mp fun z=>(out m2).mpr hp (hno.mp z)
  ·refine .tail hp ⟨n,cZ.mpr ⟨d,hd,?_⟩⟩;rw[qL hn];unfold Rn;simp only[if_neg hnk];exact h
theorem YM {fs:List (Nat×Int)} {k j m:Nat} {u:Int} (hn:k∉fs.map (·.1)) (h:j≠k):(stL (fs++[(k,u)]) m)[j]? = (stL fs m)[j]?:=by
  unfold stL;rw[List.getElem?_map,List.getElem?_map,qL hn];cases hr:(List.range m)[j]? with
  | none=>rfl
  | some i=>
    have:i=j:=by
      have hl:=(List.getElem?_eq_some_iff.mp hr).1;rw[List.length_range] at hl;rw[List.getElem?_range hl] at hr;injection hr with hr;exact hr.symm
    subst this;simp[Rn,h]
theorem P0 {fs:List (Nat×Int)} {k m:Nat} {u:Int} (hn:k∉fs.map (·.1)) (hk:k<m):(stL (fs++[(k,u)]) m)[k]? = some u:=by
  unfold stL;rw[List.getElem?_map,List.getElem?_range hk,qL hn];simp[Rn]
theorem U3 (c:List Str) (ps:List (Str×Str)):(dh c ps).length≤ps.length:=by
  have key:∀(ps:List (Str×Str)) (j:Nat),(jm (jR c) ps j).length≤ps.length:=by
    intro ps
    induction ps with
    | nil=>intro j;simp[jm]
    | cons d ps ih=>
      intro j;have:=ih (j+1);have h1:(jR c d j).length≤1:=by unfold jR;split <;> simp
      rw[jm,List.length_append,List.length_cons];omega
  exact key ps 0
def Es:Sp:=fun vs H Q _=>∃(t n l g et c:Addr) (xs lot:List Str) (tv:List V) (ps:List (Str×Str)) (fs:List (Nat×Int)) (k:Nat) (v:Int) (x:Str),vs=[.ref t,.ref g,.int k,.int v,.ref et]∧dU H t n l xs tv ps∧H g=some (.lst ((stL fs ps.length).map V.int))∧lU fs ps.length∧k<ps.length∧k∉fs.map (·.1)∧(v=0∨v=1)∧H et=some (.tup [.int v,.ref c])∧H c=some (.lst (lot.map V.str))∧
  bK (aD (bU fs) ps 0) xs xs=none∧bK (aD (bU (fs++[(k,1 - v)])) ps 0) xs xs=some x∧lot=restOf (aD (bU (fs++[(k,1 - v)])) ps 0) xs x∧
  ∀H',Same H H'→Q (.bl true) H'
theorem Et (T:Txt K mg a):cg P w K mg base lC 2 a.dM a.lq ["_law_web_here", "_law_state_here", "_law_k", "_law_turn", "_law_entry"] Es:=by
  refine T.pY.oU kE (fun vs H Q E h=>?_) (fun cdv A outer s H vs Q E hr h=>?_)
  ·obtain⟨t,n,l,g,et,c,xs,lot,tv,ps,fs,k,v,x,rfl,_⟩:=h;rfl
  · obtain⟨t,n,l,g,et,c,xs,lot,tv,ps,fs,k,v,x,rfl,hG,hg,hfs,hk,hkn,hv,het,hc,hn,hx,qd2,q⟩:=h;refine⟨_,(aB (cR (PW.pt (qp (dN (cD (aO (oA (K:=K) rfl) rfl T.nm.isinstance boot_isinstance (aj (aM 4) (aj (jk (v:=.ty "tuple") rfl T.nm.tuple boot_tuple rfl) aq))))) (nY (bA j_ (aO (cB (K:=K) rfl) rfl T.nm.len PySem.boot_len (aj (aM 4) aq)) aK (bY _))))) (aF (aY jT)) bG)
      (aB (wu (aM 4) (PG.eqv (fJ (K:=K) (n:=2) rfl rfl (jC.eqv (bx (aR (i:=5) kE.nd rfl (Or.inl rfl)) (jC.eqv (bx (aR (i:=6) kE.nd rfl (Or.inr rfl)) (jC.mono fH iK)) (bB _ _))) (bB _ _))) (fL _ _ _)))
      (aB (cR (PW.pt (qp (cD (aO (oA (K:=K) rfl) rfl T.nm.isinstance boot_isinstance (aj (aM 5) (aj (jk (v:=.ty "bool") rfl T.Jj.bool qU rfl) aq)))) (nY (bA j_ (aM 5) (aM 3) (bY _))))) (aF (aY jT)) bG)
      (aB (cR (PW.pt (qp (dN (cD (PE.eqv (aN (zX (K:=K) T) (hr.mono (by decide)) rfl T.yR T.uG.kp T.yQ .nil aV (aj (aM 0) (aj (aM 6) aq))) (aG _ _ _)))) (nY (bA (uZ (K:=K) rfl) (aM 2) (PE.eqv (aN (pK (K:=K) T) (hr.mono (by decide)) rfl T.oH T.lQ.kp T.oG .nil aV (aj (aM 0) (aj (aM 6) aq))) (aG _ _ _)) rfl)))) (aF (aY jT)) bG)
      (aB (cR (dN (cD (PE.eqv (aN (uQ (K:=K) T) (hr.mono (by decide)) rfl T.sH T.oJ.kp T.sG .nil aV (aj (aM 0) (aj (aM 6) (aj (aM 2) (aj (aM 3) aq))))) (aG _ _ _)))) (aF (aY jT)) bG)
      (aB (jQ (i:=7) kE.nd rfl rfl rfl rfl (show aZ (ao cH) _ ["_law_web_here", "_law_state_here", "_law_k", "_law_turn", "_law_entry", "_law_told", "_law_lot", "_law_others"] ["_law_j"] [2] ["_law_j", "_law_k"] from⟨rfl,by decide+kernel,by decide+kernel,rfl,by decide+kernel,by decide+kernel⟩) rfl (PI.eqv (dO (K:=K) rfl (PE.eqv (aN (pK (K:=K) T) (hr.mono (by decide)) rfl T.oH T.lQ.kp T.oG .nil aV (aj (aM 0) (aj (aM 6) aq))) (aG _ _ _))) (cP _ _)) (fun C s H fp pn=>(aR (i:=0) (show(["_law_j", "_law_k"]:List Str).Nodup by decide+kernel) rfl (Or.inl rfl))) (fun C s H fp pn=>(qT (bA j_ (aM 0) (aM 1) (bY _)))) (fun C s H fp pn=>(aM 0)))
      (aF (aY (aO (jX rfl) rfl T.nm.all jU (aj (dY rfl rfl (show aZ (ao cH) _ ["_law_web_here", "_law_state_here", "_law_k", "_law_turn", "_law_entry", "_law_told", "_law_lot", "_law_others"] ["_law_j"] [1,0,6] ["_law_j", "_law_state_here", "_law_web_here", "_law_lot"] from⟨rfl,by decide+kernel,by decide+kernel,rfl,by decide+kernel,by decide+kernel⟩) rfl (PI.eqv (dO (K:=K) rfl (aM 7)) (cP _ _)) (fun C s H fp pn=>(aR (i:=0) (show(["_law_j", "_law_state_here", "_law_web_here", "_law_lot"]:List Str).Nodup by decide+kernel) rfl (Or.inl rfl))) (fun C s H fp pn=>dX) (fun C s H fp pn=>(jK (gO j_ (bL (bO (K:=K) rfl) (aM 1) (aM 0) (fun _ _=>rfl)) aK (bY _)) (nZ (Bs (PE.eqv (aN (uQ (K:=K) T) (hr.mono (by decide)) rfl T.sH T.oJ.kp T.sG .nil aV (aj (aM 2) (aj (aM 3) (aj (aM 0) (aj (bL (bO (K:=K) rfl) (aM 1) (aM 0) (fun _ _=>rfl)) aq))))) (aG _ _ _))))))) aq)))))))))),?_⟩
    have Rx:60≤sizeLine:=by decide
    have hX:=hG.2.2.2.2.1;have hTs:=hG.2.2.2.2.2;have Ej:=hTs.len;obtain⟨L_,hxl⟩:=um hx;obtain⟨r0,r9,rf⟩:=wB hX.nd L_ hxl;have hf2:=hfs.snoc hk (v:=1 - v) (by omega) hkn;have hcr:=U0 hX hTs hkn hk (vC hn) hx;have hlo:=fun j hj=>M4 (k:=j) hf2 hTs (x:=x) hj;have hsub:∀y∈restOf (aD (bU (fs++[(k,1 - v)])) ps 0) xs x,y∈xs:=fun y hy=>(fD.mp hy).1;rw[← qd2] at r0 r9 rf hcr hlo hsub;obtain⟨e,he,hne⟩:=Er hcr;have hin:K1 v e∈lot:=by
      obtain⟨z,e',h1,h2,h3,h4,h5⟩:=hlo k hcr;rw[he] at h2;cases h2;rw[P0 hkn hk] at h1;cases h1;unfold K1 at h5 ⊢
      rcases hv with rfl | rfl
      ·simp at h5 ⊢;exact Classical.byContradiction fun w=>hne ⟨fun y=>absurd y h5,fun y=>absurd y w⟩
      ·simp at h5 ⊢;exact Classical.byContradiction fun w=>hne ⟨fun y=>absurd y w,fun y=>absurd y h5⟩
    right;refine⟨_,.tup het,_,Bd K,gM.neg rfl ?_⟩;right;refine⟨_,.inr (dW.of het),?_⟩;right;refine⟨_,dW.of het,rfl,?_⟩;right;refine⟨_,.int _,_,nj K,gM.neg rfl ?_⟩;right;refine⟨t,n,l,c,xs,lot,tv,ps,rfl,hG,hc,r0,r9,hsub,rf,fun H1 s1=>?_⟩;right;refine⟨t,n,l,c,xs,lot,tv,ps,rfl,hG.same s1,s1 _ _ hc,fun d2 H2 hd2 e2 s2=>?_⟩;have S2:=s1.trans s2;have eN:((dh lot ps).map fun k:Nat=>V.int k)=((dh lot ps).map fun n:Nat=>(n:Int)).map V.int:=by
      rw[List.map_map];rfl
    rw[eN] at e2;right;refine⟨_,.inl (bw.of e2),rfl,List.all_eq_true.mp (UJ _),false,?_,gM.neg rfl ?_⟩
    ·rw[M5];rw[decide_eq_true (List.mem_map.mpr ⟨k,hcr,rfl⟩)];rfl
    right;refine⟨t,n,l,c,xs,lot,tv,ps,k,v,e,rfl,hG.same S2,S2 _ _ hc,he,by omega,by omega,?_⟩;rw[decide_eq_true hin];right;refine⟨t,n,l,c,xs,lot,tv,ps,rfl,hG.same S2,S2 _ _ hc,fun d3 H3 hd3 e3 s3=>?_⟩;have S3:=S2.trans s3;have c20:(dh lot ps).length≤20:=Nat.le_trans (U3 lot ps) Ej;right;refine⟨⟨_,bw.of e3⟩,fun D hD=>Zq ((dh lot ps).map fun k:Nat=>V.int k) (fun i σ H'=>(∃o',σ=[o',some (.int (k:Nat))])∧H' D=some (.lst ((((dh lot ps).take i).filter fun j=>decide (j≠k)).map fun k:Nat=>V.int k))∧Same H3 H') ⟨⟨_,rfl⟩,ak,aA hD⟩ (fun i σ H' _ h=>bw.of (h.2.2 _ _ e3)) ?_ ?_⟩
    · rintro i w σ H4 hi ⟨⟨o',rfl⟩,Ho,s4⟩;obtain⟨j,hj,rfl⟩:∃j,(dh lot ps)[i]? = some j∧w = .int (j:Nat):=by
        rw[List.getElem?_map] at hi;obtain⟨j,hj,rfl⟩:=Option.map_eq_some_iff.mp hi;exact⟨j,hj,rfl⟩
      have hi2:=(List.getElem?_eq_some_iff.mp hj).1;have fl:(((dh lot ps).take i).filter fun j=>decide (j≠k)).length≤i:=Nat.le_trans (List.length_filter_le _ _) (by rw[List.length_take];omega);rw[take_one hj,List.filter_append];right
      by_cases hjk:j=k
      ·subst hjk;refine⟨false,by simp,gM.neg rfl ?_⟩;right;refine⟨?_,s4⟩;simpa using Ho
      ·refine⟨true,by simp;omega,gM.pos rfl ?_⟩;right;refine⟨_,Ho,by rw[List.length_map];omega,?_,aW s4 hD⟩;rw[ak];simp[hjk]
    · rintro σ H4 ⟨⟨o',rfl⟩,Ho,s4⟩;rw[List.length_map,List.take_length] at Ho;have S4:=S3.trans s4;have hol:((dh lot ps).filter fun j=>decide (j≠k)).length≤20:=Nat.le_trans (List.length_filter_le _ _) c20;have hom:∀j∈(dh lot ps).filter fun j=>decide (j≠k),∃z e,(stL fs ps.length)[j]? = some z∧ps[j]? = some e∧0≤z∧z≤1∧¬K1 z e∈lot:=fun j hj=>by
        rw[List.mem_filter] at hj;obtain⟨z,e,h1,h2⟩:=hlo j hj.1;rw[YM hkn (of_decide_eq_true hj.2)] at h1;exact⟨z,e,h1,h2⟩
      generalize ((dh lot ps).filter fun j=>decide (j≠k))=oth at Ho hol hom;right;refine⟨⟨_,bw.of Ho⟩,fun D2 hD2=>Zq (oth.map fun k:Nat=>V.int k) (fun i σ H'=>(∃o',σ=[o',some (.ref g),some (.ref t),some (.ref c)])∧H' D2=some (.lst (List.replicate i (.bl true)))∧Same H4 H') ⟨⟨_,rfl⟩,ak,aA hD2⟩ (fun i σ H' _ h=>bw.of (h.2.2 _ _ Ho)) ?_ ?_⟩
      · rintro i w σ H5 hi ⟨⟨o',rfl⟩,Hq,s5⟩;obtain⟨j,hj,rfl⟩:∃j,oth[i]? = some j∧w = .int (j:Nat):=by
          rw[List.getElem?_map] at hi;obtain⟨j,hj,rfl⟩:=Option.map_eq_some_iff.mp hi;exact⟨j,hj,rfl⟩
        have hi2:=(List.getElem?_eq_some_iff.mp hj).1;obtain⟨z,e',h1,h2,h3,h4,h5⟩:=hom j (List.mem_of_getElem? hj);have S5:=S4.trans s5;have hz:((stL fs ps.length).map V.int)[j]? = some (.int z):=by rw[List.getElem?_map,h1];rfl
        right;refine⟨_,.inl (bw.of (S5 _ _ hg)),_,aU hz,?_⟩;right;refine⟨true,by simp;omega,gM.pos rfl ?_⟩;right;refine⟨_,.inl (bw.of (S5 _ _ hg)),_,aU hz,t,n,l,c,xs,lot,tv,ps,j,z,e',rfl,hG.same S5,S5 _ _ hc,h2,h3,h4,?_⟩;rw[decide_eq_false h5];right;refine⟨_,Hq,by rw[List.length_replicate];omega,?_,aW s5 hD2⟩;rw[ak,List.replicate_succ']
      ·rintro σ H5 ⟨⟨o',rfl⟩,Hq,s5⟩;right;refine⟨_,Hq,_,jY _,?_⟩;rw[show(List.replicate (oth.map fun k:Nat=>V.int k).length true).all id=true by simp];exact q _ (S4.trans s5)
theorem JN {ps:List (Str×Str)} {xs:List Str} {fs:List (Nat×Int)}:∀{ks:List Nat},ks.Nodup→(∀k∈ks,zW ps xs fs k 0=true→zW ps xs fs k 1=true→False)→((jB ps xs fs ks).map (·.1)).Nodup
  | [],_,_=>by simp[jB]
  | k::ks,nd,h=>by
    rw[List.nodup_cons] at nd;have ih:=JN (ps:=ps) (xs:=xs) (fs:=fs) nd.2 fun j hj=>h j (List.mem_cons_of_mem _ hj);have e:jB ps xs fs (k::ks)=MF ps xs fs k++jB ps xs fs ks:=by simp[jB]
    rw[e,List.map_append];refine List.nodup_append.mpr ⟨?_,ih,fun x hx y hy z=>?_⟩
    · have hk:=h k List.mem_cons_self;unfold MF qO;cases h0:zW ps xs fs k 0 <;> cases h1:zW ps xs fs k 1
      ·simp[h0,h1]
      ·simp[h0,h1]
      ·simp[h0,h1]
      ·exact(hk h0 h1).elim
    · obtain⟨p,hp,rfl⟩:=List.mem_map.mp hx;obtain⟨r,hr,rfl⟩:=List.mem_map.mp hy;have h1:p.1=k:=by
        rcases List.mem_append.mp hp with hp | hp
        ·rw[(uO hp).1]
        ·rw[(uO hp).1]
      have h2:=(zj hr).1;rw[← z,h1] at h2;exact nd.1 h2
theorem YQ {ps:List (Str×Str)} {xs:List Str} {fs:List (Nat×Int)} {es:List FE} (hTs:oK xs ps) (hfs:lU fs ps.length) (hn:bK (aD (bU fs) ps 0) xs xs=none) (hb:iJ ps xs=[]) (hel:es.map (fun e=>(e.k,e.ld))=jB ps xs fs (bJ fs ps.length)):(es.map (·.k)).Nodup∧es.length≤40:=by
  have nd:=JN (ps:=ps) (xs:=xs) (fs:=fs) (Ci fs ps.length) fun k hk h0 h1=>uP hTs hfs (jG.mp hk).1 (jG.mp hk).2 hn hb h0 h1;refine⟨?_,?_⟩
  · have:es.map (·.k)=(jB ps xs fs (bJ fs ps.length)).map (·.1):=by
      rw[← hel,List.map_map];rfl
    rw[this];exact nd
  · have h1:=congrArg List.length hel;have gl:=M7 ps xs fs (bJ fs ps.length);have fl7:(bJ fs ps.length).length≤ps.length:=by
      unfold bJ;exact Nat.le_trans (List.length_filter_le _ _) (by rw[List.length_range];exact Nat.le_refl _)
    have:=hTs.len;rw[List.length_map] at h1;omega
theorem JQ {es:List FE} (nd:(es.map (·.k)).Nodup) {e:FE} (he:e∈es):some (V.ref e.t)=jZ (es.map xq) (Sum.inl (e.k:Int)):=by
  induction es with
  | nil=>cases he
  | cons p es ih=>
    rw[List.map_cons,List.nodup_cons] at nd;unfold jZ at ih ⊢;rw[List.map_cons,List.find?_cons]
    rcases List.mem_cons.mp he with rfl | he
    ·rw[decide_eq_true (show(xq e).1=Sum.inl (e.k:Int) from rfl)];rfl
    · have:¬((xq p).1=Sum.inl (e.k:Int)):=fun z=>nd.1 (by
        have:p.k=e.k:=by
          unfold xq at z;injection z with z;omega
        rw[this];exact List.mem_map_of_mem he)
      rw[decide_eq_false this];exact ih nd.2 he
theorem Az:∀{a b:List Int},a.Perm b→a.Pairwise (·≤·)→b.Pairwise (·≤·)→a=b
  | [],b,h,_,_=>by simp at h;exact h.symm▸rfl
  | x::a,[],h,_,_=>by simp at h
  | x::a,y::b,h,ha,hb=>by
    rw[List.pairwise_cons] at ha hb;have hx:x∈y::b:=h.mem_iff.mp List.mem_cons_self;have hy:y∈x::a:=h.mem_iff.mpr List.mem_cons_self;have e:x=y:=by
      rcases List.mem_cons.mp hx with z | z
      ·exact z
      · rcases List.mem_cons.mp hy with w | w
        ·exact w.symm
        ·have:=ha.1 y w;have:=hb.1 x z;omega
    subst e;rw[Az (List.perm_cons x |>.mp h) ha.2 hb.2]
theorem Eu:∀n,oW (List.replicate n (.bl false)) (List.replicate n false)
  | 0=>rfl
  | n+1=>⟨false,_,rfl,rfl,Eu n⟩
theorem qa9 {H H':Hp} {b:Addr} {u:HO} (h0:H b=some u) (h:H' b=some u∨((∀o v,u≠.gw o v)∧∃o,H' b=some (.gw o u))):fB H H' b=some u:=by
  rcases h with q | ⟨hu,o,q⟩
  · by_cases hx:∃o v,u = .gw o v
    ·obtain⟨o,v,rfl⟩:=hx;exact uq q h0
    ·exact fV q fun o v z=>hx ⟨o,v,z⟩
  ·exact Ji q h0 hu
def qmr (es:List FE) (Hb H:Hp) (D:Addr) (i:Nat):Prop:=∃(tv:List V) (ks:List FE),H D=some (.lst tv)∧Aj H tv (ks.map fun e=>((e.k:Int),V.ref e.t))∧(∀e∈ks,H e.t=some (.tup [.int e.ld,.ref e.c])∧H e.c=some (.lst (e.lot.map V.str))∧Hb e.c=none∧e.c≠D)∧ks.map (fun e=>(e.k,e.ld,e.lot))=(es.take i).map (fun e=>(e.k,e.ld,e.lot))
def qms (es:List FE) (Hb H:Hp):Prop:=(∀b u,b∉es.map (·.c)→Hb b=some u→H b=some u)∧∀e∈es,∃us,H e.c=some (.lst us)
theorem P_ {H:Hp} {tv:List V} {ps:List (Int×V)} {p:Addr} {e:Int×V} (h:Aj H tv ps) (hp:H p=some (.tup [.int e.1,e.2])):Aj H (tv++[.ref p]) (ps++[e]):=by
  have h1:=h.1;refine⟨by simp[h1],fun j e' h2=>?_⟩
  by_cases hj:j<ps.length
  ·rw[List.getElem?_append_left hj] at h2;obtain⟨t,z1,z2⟩:=h.2 j e' h2;exact⟨t,by rw[List.getElem?_append_left (by omega)];exact z1,z2⟩
  · rw[List.getElem?_append_right (by omega)] at h2;have hz:j - ps.length=0:=by
      have:=(List.getElem?_eq_some_iff.mp h2).1;simp at this;omega
    rw[hz] at h2;simp at h2;subst h2;exact⟨p,by rw[List.getElem?_append_right (by omega),show j - tv.length=0 by omega];rfl,hp⟩
theorem Ew {H H':Hp} {tv:List V} {ps:List (Int×V)} (h:Aj H tv ps) (s:cI H H'):Aj H' tv ps:=⟨h.1,fun i e he=>by
  obtain⟨t,z1,z2⟩:=h.2 i e he;exact⟨t,z1,s _ _ z2⟩⟩
theorem qd3 {H:Hp} {b:Addr} {us:List V} (e:H b=some (.lst us)):Ss K "list" (.ref b) H:=by
  unfold Ss;exact .inl ⟨rfl,_,bw.of e⟩
def YS (C:Addr):Sp:=fun vs H Q _=>∃(t n l o d:Addr) (xs:List Str) (tv:List V) (ps:List (Str×Str)) (fs:List (Nat×Int)),vs=[.ref o,.ref t,.ref d]∧dU H t n l xs tv ps∧fQ C H o xs ps∧H d=some (.dK (cC fs))∧lU fs ps.length∧
  ∀(H':Hp),Same H H'→Q (.bl true) H'
theorem Ey (T:Txt K mg a):cg P w K mg base lC 8 a.nR a.yH ["_law_made", "_law_web_here", "_law_fixed_here"] (YS a.bZ):=by
  refine T.yS.oU oE (fun vs H Q E h=>?_) (fun cdv A outer s H vs Q E hr h=>?_)
  ·obtain⟨t,n,l,o,d,xs,tv,ps,fs,rfl,_⟩:=h;rfl
  · obtain⟨t,n,l,o,d,xs,tv,ps,fs,rfl,hG,hw,hd,hfs,q⟩:=h;refine⟨_,(aB (wu (PE.eqv (aN (qa5 (K:=K) T) (hr.mono (by decide)) rfl T.Yb T.O5.kp T.X_ .nil aV (aj (aM 0) (aj (aM 2) aq))) (aG _ _ _)) (PG.eqv (fJ (K:=K) (n:=2) rfl rfl (jC.eqv (bx (aR (i:=3) oE.nd rfl (Or.inl rfl)) (jC.eqv (bx (aR (i:=4) oE.nd rfl (Or.inr rfl)) (jC.mono fH iK)) (bB _ _))) (bB _ _))) (fL _ _ _)))
      (aB (bC (i:=5) oE.nd rfl (Or.inr rfl) (PE.eqv (aN (YH (K:=K) T) (hr.mono (by decide)) rfl T.Rr T.Jw.kp T.Rq .nil aV (aj (aM 1) (aj (aM 2) aq))) (aG _ _ _)))
      (aB (cR (bA j_ (aM 3) (PE.eqv (aN (qa3 (K:=K) T) (hr.mono (by decide)) rfl T.Yd T.O6.kp T.Yc .nil aV (aj (aM 0) (aj (aM 2) aq))) (aG _ _ _)) (bY _)) (aF (aY jT)) bG)
      (aB (cR (bA j_ (aM 3) mR (bY _)) (aF (aY (PE.eqv (aN (zZ (K:=K) T) (hr.mono (by decide)) rfl T.tG T.m7.kp T.tE .nil aV (aj (aM 1) (aj (aM 5) (aj (aM 3) (aj (aM 4) aq))))) (aG _ _ _)))) bG)
      (aB (bC (i:=6) oE.nd rfl (Or.inr rfl) (PE.eqv (aN (qa8 (K:=K) T) (hr.mono (by decide)) rfl T.Yg T.O7.kp T.Ye .nil aV (aj (aM 1) (aj (aM 5) aq))) (aG _ _ _)))
      (aB (cR (PW.pt (qp (dN (cD (aO (oA (K:=K) rfl) rfl T.nm.isinstance boot_isinstance (aj (aM 4) (aj (jk (v:=.ty "dict") rfl T.Jj.dict lG rfl) aq))))) (nY (bA (qds (K:=K) rfl hr.units) (aO (Ai rfl) rfl T.Jj.sorted PyProof.Rows.boot_sorted (aj (aM 4) aq)) (aO (Ai rfl) rfl T.Jj.sorted PyProof.Rows.boot_sorted (aj (aM 6) aq)) (bY _))))) (aF (aY jT)) bG)
      (aB (Bx (cR (cD (aO (TV rfl) rfl T.Jj.any Tc (aj (dY rfl rfl (show aZ (ao jL) _ ["_law_made", "_law_web_here", "_law_fixed_here", "_law_word_here", "_law_told", "_law_state_here", "_law_due", "_law_kept", "_law_k"] ["_law_k"] [] ["_law_k"] from⟨rfl,by decide+kernel,by decide+kernel,rfl,by decide+kernel,by decide+kernel⟩) rfl (Bw (aM 4)) (fun C s H fp pn=>(aR (i:=0) (show(["_law_k"]:List Str).Nodup by decide+kernel) rfl (Or.inl rfl))) (fun C s H fp pn=>dX) (fun C s H fp pn=>(aO (oA (K:=K) rfl) rfl T.nm.isinstance boot_isinstance (aj (aM 0) (aj (jk (v:=.ty "bool") rfl T.Jj.bool qU rfl) aq))))) aq))) (aF (aY jT)) bG))
      (aB (Bx (cR (dN (cD (aO (jX rfl) rfl T.nm.all jU (aj (dY rfl rfl (show aZ (ao jL) _ ["_law_made", "_law_web_here", "_law_fixed_here", "_law_word_here", "_law_told", "_law_state_here", "_law_due", "_law_kept", "_law_k"] ["_law_k"] [1,5,6,4] ["_law_k", "_law_web_here", "_law_state_here", "_law_due", "_law_told"] from⟨rfl,by decide+kernel,by decide+kernel,rfl,by decide+kernel,by decide+kernel⟩) rfl (Bw (aM 6)) (fun C s H fp pn=>(aR (i:=0) (show(["_law_k", "_law_web_here", "_law_state_here", "_law_due", "_law_told"]:List Str).Nodup by decide+kernel) rfl (Or.inl rfl))) (fun C s H fp pn=>dX) (fun C s H fp pn=>(PE.eqv (aN (Et (K:=K) T) (hr.mono (by decide)) rfl T.vX T.pY.kp T.vW .nil aV (aj (aM 1) (aj (aM 2) (aj (aM 0) (aj (PE.eqv (qY (j8 hr) (aM 3) (aM 0) (fun _ _=>rfl)) (ou _ _)) (aj (PE.eqv (qY (j8 hr) (aM 4) (aM 0) (fun _ _=>rfl)) (ou _ _)) aq)))))) (aG _ _ _)))) aq)))) (aF (aY jT)) bG))
      (aB (Bx (bC (i:=7) oE.nd rfl (Or.inl rfl) (fj (qdD (K:=K) rfl rfl) rfl T.Jj.dict lG (aj (dY rfl rfl (show aZ (ao jL) _ ["_law_made", "_law_web_here", "_law_fixed_here", "_law_word_here", "_law_told", "_law_state_here", "_law_due", "_law_kept", "_law_k"] ["_law_k"] [4] ["_law_k", "_law_told"] from⟨rfl,by decide+kernel,by decide+kernel,rfl,by decide+kernel,by decide+kernel⟩) rfl (Bw (aM 4)) (fun C s H fp pn=>(aR (i:=0) (show(["_law_k", "_law_told"]:List Str).Nodup by decide+kernel) rfl (Or.inl rfl))) (fun C s H fp pn=>dX) (fun C s H fp pn=>(fU (aj (aM 0) (aj (fU (aj (bL (bO (K:=K) rfl) (PE.eqv (qY (j8 hr) (aM 1) (aM 0) (fun _ _=>rfl)) (ou _ _)) aK (fun _ _=>rfl)) (aj (fj (uh (K:=K) rfl) rfl T.nm.list boot_list (aj (bL (bO (K:=K) rfl) (PE.eqv (qY (j8 hr) (aM 1) (aM 0) (fun _ _=>rfl)) (ou _ _)) aK (fun _ _=>rfl)) aq)) aq))) aq))))) aq))))
      (aB (Bx (iI PassesOwn.never rfl (Bw (aM 6)) (aR (i:=8) oE.nd rfl (Or.inl rfl))
      (aF (dZ (Io (K:=K) rfl PySem.F.plainAttrs_list PySem.F.slot_list_clear PySem.F.type_list_clear TX (bL (bO (K:=K) rfl) (PE.eqv (qY (j8 hr) (aM 4) (aM 8) (fun _ _=>rfl)) (ou _ _)) aK (fun _ _=>rfl)))))))
      (aB (dZ (Io (K:=K) rfl PySem.F.plainAttrs_dict PySem.F.slot_dict_clear PySem.F.type_dict_clear DG (aM 4)))
      (aF (aY (gO (qdF (K:=K) rfl hr.units) (PE.eqv (aN (Hs (K:=K) T) (hr.mono (by decide)) rfl T.Eb T.yN.kp T.Ea .nil qgb (aj (aM 0) (aj (aM 2) aq))) (aG _ _ _)) (aM 7) (bY _))))))))))))))),?_⟩
    have qaX:200≤sizeLine:=by decide
    have hX:=hG.2.2.2.2.1;have hTs:=hG.2.2.2.2.2;have Ej:=hTs.len;left;refine⟨o,d,xs,ps,fs,rfl,hw,hX,hTs,hd,hfs,fun hn hb tt td es H1 htd etd hes hel hnc Yx s1=>?_,fun x hx tt c H1 hc ec Yx s1=>?_,fun hn k lot rest hb tt u c H1 hc ec eu Yx s1=>?_⟩
    · left;refine⟨_,dW.of Yx,rfl,?_⟩;left;refine⟨t,n,l,d,xs,tv,ps,fs,rfl,hG.same s1,s1 _ _ hd,fun g H2 hg e2 s2=>?_⟩;have S2:=s1.trans s2;left;refine⟨o,d,xs,ps,fs,rfl,hw.same S2,hX,hTs,S2 _ _ hd,hfs,fun _ _ H3 s3=>?_,fun x hx=>(by rw[hn] at hx;cases hx),fun _ k lot rest hb'=>(by rw[hb] at hb';cases hb')⟩;left;have S3:=S2.trans s3;refine⟨t,n,l,g,xs,tv,ps,fs,rfl,hG.same S3,s3 _ _ e2,hfs,hn,hb,fun du H4 hdu edu s4=>?_⟩;have S4:=S3.trans s4;have S14:=(s2.trans s3).trans s4;have qd4:=S14 _ _ etd;have qgG:∀e∈es,Ge ps xs fs H H4 e:=fun e he=>(hes e he).same S14;have g4:=(s3.trans s4) _ _ e2;have qgH:du≠td:=fun z=>by rw[z,(s2.trans s3) _ _ etd] at hdu;cases hdu
      have td0:=htd;have du0:H du=none:=bV S3 hdu;obtain⟨knd,e40⟩:=YQ hTs hfs hn hb hel;have mJ:=JN (ps:=ps) (xs:=xs) (fs:=fs) (Ci fs ps.length) fun k hk h0 h1=>uP hTs hfs (jG.mp hk).1 (jG.mp hk).2 hn hb h0 h1;have Pr:∀e∈jB ps xs fs (bJ fs ps.length),e.1<ps.length∧e.1∉fs.map (·.1)∧(e.2=0∨e.2=1):=fun e he=>by
        obtain⟨h1,h2,_⟩:=zj he;exact⟨(jG.mp h1).1,(jG.mp h1).2,h2⟩
      generalize hF:jB ps xs fs (bJ fs ps.length)=fr at edu hel mJ Pr;have eln:es.length=fr.length:=by
        have:=congrArg List.length hel;simpa using this
      have qmt:H4 td=some (.dK ((es.map fun e=>((e.k:Int),V.ref e.t)).map fun e=>((Sum.inl e.1:Key),e.2))):=by
        rw[qd4,List.map_map];rfl
      have qmu:H4 du=some (.dK ((fr.map fun e=>((e.1:Int),V.int e.2)).map fun e=>((Sum.inl e.1:Key),e.2))):=by
        rw[edu,List.map_map];rfl
      left;refine⟨_,.dK qd4,_,vQ K,gM.neg rfl ?_⟩;left;refine⟨_,.inl qmt,by rw[List.length_map];omega,fun p7 n7 hp7 pm7 so7=>?_⟩;have s7:Same H4 (upd H4 p7 (.lst (n7.map V.int))):=aA hp7;have e7:upd H4 p7 (.lst (n7.map V.int)) p7=some (.lst (n7.map V.int)):=ak;generalize upd H4 p7 (.lst (n7.map V.int))=H7 at s7 e7 ⊢;refine⟨_,.inl (s7 _ _ qmu),by rw[List.length_map];omega,fun p8 n8 hp8 pm8 so8=>?_⟩;have s8:Same H7 (upd H7 p8 (.lst (n8.map V.int))):=aA hp8;have e8:upd H7 p8 (.lst (n8.map V.int)) p8=some (.lst (n8.map V.int)):=ak;generalize upd H7 p8 (.lst (n8.map V.int))=H8 at s8 e8 ⊢;have hke:(es.map fun e=>((e.k:Int),V.ref e.t)).map (·.1)=(fr.map fun e=>((e.1:Int),V.int e.2)).map (·.1):=by
        rw[← hel,List.map_map,List.map_map,List.map_map];rfl
      rw[hke] at pm7;have n78:n7=n8:=Az (pm7.trans pm8.symm) so7 so8;subst n78;refine⟨.list (iY n7),⟨p7,_,rfl,bw.of (s8 _ _ e7),xW _⟩,.list (iY n7),⟨p8,_,rfl,bw.of e8,xW _⟩,RG _,RG _,qb5 _,false,by rw[qgF];simp,gM.neg rfl ?_⟩;have s48:=s7.trans s8;have qd5:=s48 _ _ qd4;have qmv:=s48 _ _ edu;left;refine⟨_,.inl qd5,fun ob hob=>?_⟩;have ef:upd H8 td (.gw ob (.dK (es.map xq))) td=some (.gw ob (.dK (es.map xq))):=ak;have kf:∀b u,b≠td→H8 b=some u→upd H8 td (.gw ob (.dK (es.map xq))) b=some u:=fun b u hb e=>by rw[aC hb];exact e
      generalize upd H8 td (.gw ob (.dK (es.map xq)))=Hf at ef kf ⊢;refine fun D2 hD2=>cmK (fun i σ H'=>(∃o',σ=[o'])∧H' D2=some (.lst (List.replicate i (.bl false)))∧Same Hf H') ⟨⟨_,rfl⟩,ak,aA hD2⟩ (fun i σ H' _ h=>h.2.2 _ _ ef) ?_ ?_
      · rintro i k x σ H9 hk ⟨⟨o',rfl⟩,hD9,s9⟩;obtain⟨e,he,Qa⟩:∃e,es[i]? = some e∧xq e=(k,x):=by
          rw[List.getElem?_map] at hk;obtain⟨e,he,h2⟩:=Option.map_eq_some_iff.mp hk;exact⟨e,he,h2⟩
        cases Qa;have hi2:=(List.getElem?_eq_some_iff.mp he).1;have ekv:kV (Sum.inl (e.k:Int))=V.int (e.k:Int):=rfl;rw[ekv];left;refine⟨_,.int _,_,nj K,_,hD9,by rw[List.length_replicate];omega,?_,aW s9 hD2⟩;rw[ak,List.replicate_succ']
      · rintro σ H9 ⟨⟨o',rfl⟩,hD9,s9⟩;have st9:Same H8 (fB H8 H9):=u0 fun b u hb=>by
          by_cases z:b=td
          ·subst z;rw[qd5] at hb;cases hb;exact .inr ⟨fun o v y=>(by cases y),ob,s9 _ _ ef⟩
          ·exact .inl (s9 _ _ (kf _ _ z hb))
        left;refine⟨_,hD9,_,Eu _,gM.neg (by simp) ?_⟩;left;generalize fB H8 H9=PB at st9 ⊢;have qa_:=s48.trans st9;have S10:=S4.trans qa_;have qb6:=st9 _ _ qd5;have RJ:=st9 _ _ qmv;have g10:=qa_ _ _ g4;have qgI:∀e∈es,Ge ps xs fs H PB e:=fun e he=>(qgG e he).same qa_;have qba:=hG.same S10;refine⟨_,.inl RJ,fun ob2 qpx=>?_⟩;have ef2:upd PB du (.gw ob2 (.dK (cC fr))) du=some (.gw ob2 (.dK (cC fr))):=ak;have kf2:∀b u,b≠du→PB b=some u→upd PB du (.gw ob2 (.dK (cC fr))) b=some u:=fun b u hb e=>by rw[aC hb];exact e
        generalize upd PB du (.gw ob2 (.dK (cC fr)))=Hg at ef2 kf2 ⊢;have nd2:∀{b:Addr} {u:HO},PB b=some u→(∀kvs,u≠.dK kvs)→Hg b=some u:=fun {b u} e k=>kf2 _ _ (fun z=>by rw[z,RJ] at e;injection e with e;exact k _ e.symm) e;have hGg:dU Hg t n l xs tv ps:=⟨nd2 qba.1 (fun _ z=>by cases z),nd2 qba.2.1 (fun _ z=>by cases z),nd2 qba.2.2.1 (fun _ z=>by cases z),qba.2.2.2.1.keep fun c zs e=>nd2 e (fun _ z=>by cases z),hX,hTs⟩;have gg:=nd2 g10 (fun _ z=>by cases z);have tdg:=kf2 _ _ qgH.symm qb6;refine fun D3 J3=>cmK (fun i σ H'=>(∃o',σ=[o',some (.ref t),some (.ref g),some (.ref du),some (.ref td)])∧H' D3=some (.lst (List.replicate i (.bl true)))∧Same Hg H') ⟨⟨_,rfl⟩,ak,aA J3⟩ (fun i σ H' _ h=>h.2.2 _ _ ef2) ?_ ?_
        · rintro i k x σ YT hk ⟨⟨o',rfl⟩,qd6,Vo⟩;obtain⟨e,he,Qa⟩:∃e,fr[i]? = some e∧(Sum.inl (e.1:Int),V.int e.2)=(k,x):=by
            unfold cC at hk;rw[List.getElem?_map] at hk;obtain⟨e,he,h2⟩:=Option.map_eq_some_iff.mp hk;exact⟨e,he,h2⟩
          cases Qa;have hem:=List.mem_of_getElem? he;have hi2:=(List.getElem?_eq_some_iff.mp he).1;obtain⟨m1,m2,m3⟩:=Pr e hem;obtain⟨fe,hfe,hfk⟩:∃fe∈es,(fe.k,fe.ld)=e:=by
            rw[← hel] at hem;obtain⟨fe,h1,h2⟩:=List.mem_map.mp hem;exact⟨fe,h1,h2⟩
          have hk1:fe.k=e.1:=by rw[← hfk]
          have hl1:fe.ld=e.2:=by rw[← hfk]
          have hfo:=qgI fe hfe;obtain⟨x,hx1,hx2⟩:=hfo.sh;rw[hk1,hl1] at hx1 hx2;have hg1:iz YT td (V.int (e.1:Int)) (some (.ref fe.t)):=.inl ⟨_,Sum.inl (e.1:Int),.inl (Vo _ _ tdg),rfl,by rw[← hk1,JQ knd hfe]⟩;have hg2:iz YT du (V.int (e.1:Int)) (some (V.int e.2)):=.inl ⟨_,Sum.inl (e.1:Int),.inr ⟨ob2,Vo _ _ ef2⟩,rfl,by rw[qJ,Yt mJ hem];rfl⟩;have htp:YT fe.t=some (.tup [.int e.2,.ref fe.c]):=by
            rw[← hl1];exact Vo _ _ (nd2 hfo.tp (fun _ z=>by cases z))
          have hlt:=Vo _ _ (nd2 hfo.lt (fun _ z=>by cases z));have ekv:kV (Sum.inl (e.1:Int))=V.int (e.1:Int):=rfl;rw[ekv];left;refine⟨_,hg2,_,hg1,?_⟩;refine⟨t,n,l,g,fe.t,fe.c,xs,fe.lot,tv,ps,fs,e.1,e.2,x,rfl,hGg.same Vo,Vo _ _ gg,hfs,m1,m2,m3,htp,hlt,hn,hx1,hx2,fun Gf s12=>?_⟩;left;refine⟨_,s12 _ _ qd6,by rw[List.length_replicate];omega,?_,aW (Vo.trans s12) J3⟩;rw[ak,List.replicate_succ']
        · rintro σ YT ⟨⟨o',rfl⟩,qd6,Vo⟩;have qbb:Same PB (fB PB YT):=u0 fun b u hb=>by
            by_cases z:b=du
            ·subst z;rw[RJ] at hb;cases hb;exact .inr ⟨fun o v y=>(by cases y),ob2,Vo _ _ ef2⟩
            ·exact .inl (Vo _ _ (kf2 _ _ z hb))
          left;refine⟨_,qd6,_,jY _,?_⟩;rw[show(List.replicate (cC fr).length true).all id=true by simp];left;generalize fB PB YT=Gf at qbb ⊢;have qgJ:=qa_.trans qbb;have S12:=S4.trans qgJ;have RK:=qbb _ _ qb6;have qgK:=qbb _ _ RJ;have YW:∀e∈es,Ge ps xs fs H Gf e:=fun e he=>(qgG e he).same qgJ;refine⟨_,.inl RK,fun ob3 qpy=>?_⟩;have ef3:upd Gf td (.gw ob3 (.dK (es.map xq))) td=some (.gw ob3 (.dK (es.map xq))):=ak;have kf3:∀b u,b≠td→Gf b=some u→upd Gf td (.gw ob3 (.dK (es.map xq))) b=some u:=fun b u hb e=>by rw[aC hb];exact e
          have nn3:∀b,upd Gf td (.gw ob3 (.dK (es.map xq))) b=none→Gf b=none:=fun b e=>by
            by_cases z:b=td
            ·rw[z,ef3] at e;cases e
            ·rw[aC z] at e;exact e
          generalize upd Gf td (.gw ob3 (.dK (es.map xq)))=Hk at ef3 kf3 nn3 ⊢;have nd3:∀{b:Addr} {u:HO},Gf b=some u→(∀kvs,u≠.dK kvs)→Hk b=some u:=fun {b u} e k=>kf3 _ _ (fun z=>by rw[z,RK] at e;injection e with e;exact k _ e.symm) e;refine fun D4 Ho=>cmK (fun i σ H'=>(∃o',σ=[o',some (.ref td)])∧qmr es Hk H' D4 i∧Same Hk H') ⟨⟨_,rfl⟩,⟨[],[],ak,⟨rfl,fun i e h=>by simp at h⟩,fun e he=>(by cases he),rfl⟩,aA Ho⟩ (fun i σ H' _ h=>h.2.2 _ _ ef3) ?_ ?_
          · rintro i k x σ Qc hk ⟨⟨o',rfl⟩,⟨tv4,ks,qbc,hpi,hks,hkm⟩,Pn⟩;obtain⟨e,he,Qa⟩:∃e,es[i]? = some e∧xq e=(k,x):=by
              rw[List.getElem?_map] at hk;obtain⟨e,he,h2⟩:=Option.map_eq_some_iff.mp hk;exact⟨e,he,h2⟩
            cases Qa;have hem:=List.mem_of_getElem? he;have hi2:=(List.getElem?_eq_some_iff.mp he).1;have hfo:=YW e hem;have hg1:iz Qc td (V.int (e.k:Int)) (some (.ref e.t)):=.inl ⟨_,Sum.inl (e.k:Int),.inr ⟨ob3,Pn _ _ ef3⟩,rfl,JQ knd hem⟩;have htp:=Pn _ _ (nd3 hfo.tp (fun _ z=>by cases z));have hlt:=Pn _ _ (nd3 hfo.lt (fun _ z=>by cases z));have ekv:kV (Sum.inl (e.k:Int))=V.int (e.k:Int):=rfl;rw[ekv];left;refine⟨_,hg1,_,.inr (dW.of htp),_,aU (j:=0) rfl,_,hg1,_,.inr (dW.of htp),_,aU (j:=1) rfl,?_⟩;left;refine⟨_,.inl (bw.of hlt),fun p1 h1 p2 h2 p3 h3=>?_⟩;have T:Same Qc (upd (upd (upd Qc p1 (.lst (e.lot.map V.str))) p2 (.tup [.int e.ld,.ref p1])) p3 (.tup [.int (e.k:Int),.ref p2])):=((aA h1).trans (aA h2)).trans (aA h3);have f1:upd (upd (upd Qc p1 (.lst (e.lot.map V.str))) p2 (.tup [.int e.ld,.ref p1])) p3 (.tup [.int (e.k:Int),.ref p2]) p1=some (.lst (e.lot.map V.str)):=bM (bM ak h2) h3;have f2:upd (upd (upd Qc p1 (.lst (e.lot.map V.str))) p2 (.tup [.int e.ld,.ref p1])) p3 (.tup [.int (e.k:Int),.ref p2]) p2=some (.tup [.int e.ld,.ref p1]):=bM ak h3;have f3:upd (upd (upd Qc p1 (.lst (e.lot.map V.str))) p2 (.tup [.int e.ld,.ref p1])) p3 (.tup [.int (e.k:Int),.ref p2]) p3=some (.tup [.int (e.k:Int),.ref p2]):=ak;generalize upd (upd (upd Qc p1 (.lst (e.lot.map V.str))) p2 (.tup [.int e.ld,.ref p1])) p3 (.tup [.int (e.k:Int),.ref p2])=G3 at T f1 f2 f3 ⊢;have qgL:=T _ _ qbc;have kp:cI G3 (upd G3 D4 (.lst (tv4++[.ref p3]))):=fun c zs e=>qW e qgL (by intro z;cases z);have hpl:=hpi.1;have hkl:=congrArg List.length hkm;simp only[List.length_map,List.length_take] at hkl hpl;have p1D:p1≠D4:=fun z=>by rw[z,qbc] at h1;cases h1
            refine⟨_,qgL,by omega,⟨_,ks++[⟨e.k,e.ld,p2,p1,e.lot⟩],ak,?_,fun e' he'=>?_,?_⟩,aW (Pn.trans T) Ho⟩
            ·rw[List.map_append];exact P_ (Ew (Ew hpi fun c zs e=>T _ _ e) kp) (kp _ _ f3)
            · rcases List.mem_append.mp he' with he' | he'
              ·obtain⟨g1,g2,g3,g4⟩:=hks e' he';exact⟨kp _ _ (T _ _ g1),by rw[aC g4];exact T _ _ g2,g3,g4⟩
              ·rw[List.mem_singleton] at he';subst he';exact⟨kp _ _ f2,by rw[aC p1D];exact f1,bV Pn h1,p1D⟩
            ·rw[take_one he,List.map_append,List.map_append,hkm];rfl
          · rintro σ Qc ⟨⟨o',rfl⟩,⟨tv4,ks,qbc,hpi,hks,hkm⟩,Pn⟩;rw[List.length_map,List.take_length] at hkm;have hkk:ks.map (·.k)=es.map (·.k):=by
              have:=congrArg (List.map fun z:Nat×Int×List Str=>z.1) hkm;rw[List.map_map,List.map_map] at this;exact this
            have kkd:(ks.map (·.k)).Nodup:=by rw[hkk];exact knd
            have M9:((ks.map fun e=>((e.k:Int),V.ref e.t)).map (·.1)).Nodup:=by
              have:(ks.map fun e=>((e.k:Int),V.ref e.t)).map (·.1)=(ks.map (·.k)).map fun n:Nat=>(n:Int):=by
                rw[List.map_map,List.map_map];rfl
              rw[this];exact List.Pairwise.map _ (fun x y h z=>h (by omega)) kkd
            left;refine⟨_,bw.of qbc,_,hpi,M9,fun kd hkd=>?_⟩;have ikv:Fv (ks.map fun e=>((e.k:Int),V.ref e.t))=ks.map xq:=by
              unfold Fv;rw[List.map_map];rfl
            rw[ikv];have qgM:=Pn _ _ ef3;have YX:Same Gf (fB Gf (upd Qc kd (.dK (ks.map xq)))):=u0 fun b u hb=>by
              by_cases z:b=td
              ·subst z;rw[RK] at hb;cases hb;exact .inr ⟨fun o v y=>(by cases y),ob3,bM qgM hkd⟩
              ·exact .inl (bM (Pn _ _ (kf3 _ _ z hb)) hkd)
            have YZ:fB Gf (upd Qc kd (.dK (ks.map xq))) kd=some (.dK (ks.map xq)):=fV ak fun _ _ z=>by cases z
            have qgN:∀e∈ks,fB Gf (upd Qc kd (.dK (ks.map xq))) e.t=some (.tup [.int e.ld,.ref e.c])∧fB Gf (upd Qc kd (.dK (ks.map xq))) e.c=some (.lst (e.lot.map V.str))∧Gf e.c=none:=fun e he=>by
              obtain⟨g1,g2,g3,_⟩:=hks e he;exact⟨fV (bM g1 hkd) (fun _ _ z=>by cases z),fV (bM g2 hkd) (fun _ _ z=>by cases z),nn3 _ g3⟩
            generalize fB Gf (upd Qc kd (.dK (ks.map xq)))=Vs at YX YZ qgN ⊢;have S14:=S12.trans YX;have RL:=YX _ _ qgK;have M8:=YX _ _ RK;have Hu:∀e∈es,Ge ps xs fs H Vs e:=fun e he=>(YW e he).same YX;have Y0:∀{b:Addr} {u:HO},Vs b=some u→(∀zs,u≠.lst zs)→b∉es.map (·.c):=fun {b u} e k z=>by
              obtain⟨e',he',rfl⟩:=List.mem_map.mp z;rw[(Hu e' he').lt] at e;injection e with e;exact k _ e.symm
            refine⟨_,.inl RL,fun ob5 qpz=>?_⟩;have ef5:upd Vs du (.gw ob5 (.dK (cC fr))) du=some (.gw ob5 (.dK (cC fr))):=ak;have kf5:∀b u,b≠du→Vs b=some u→upd Vs du (.gw ob5 (.dK (cC fr))) b=some u:=fun b u hb e=>by rw[aC hb];exact e
            generalize upd Vs du (.gw ob5 (.dK (cC fr)))=Hc at ef5 kf5 ⊢;have nd5:∀{b:Addr} {u:HO},Vs b=some u→(∀kvs,u≠.dK kvs)→Hc b=some u:=fun {b u} e k=>kf5 _ _ (fun z=>by rw[z,RL] at e;injection e with e;exact k _ e.symm) e;have duC:du∉es.map (·.c):=Y0 RL fun _ z=>by cases z
            have tdC:td∉es.map (·.c):=Y0 M8 fun _ z=>by cases z
            refine frK (fun i σ H'=>(∃o8,σ=[some (.ref o),some (.ref t),some (.ref d),some (.str (Str.ofString "told")),some (.ref td),some (.ref g),some (.ref du),some (.ref kd),o8])∧qms es Hc H') ⟨⟨_,rfl⟩,fun b u _ e=>e,fun e he=>⟨_,nd5 (Hu e he).lt (fun _ z=>by cases z)⟩⟩ (fun i σ H' _ h=>h.2.1 _ _ duC ef5) ?_ ?_
            · rintro i k x σ H15 hk ⟨⟨o8,rfl⟩,Nh,hC2⟩;obtain⟨e,he,Qa⟩:∃e,fr[i]? = some e∧(Sum.inl (e.1:Int),V.int e.2)=(k,x):=by
                unfold cC at hk;rw[List.getElem?_map] at hk;obtain⟨e,he,h2⟩:=Option.map_eq_some_iff.mp hk;exact⟨e,he,h2⟩
              cases Qa;have hem:=List.mem_of_getElem? he;obtain⟨fe,hfe,hfk⟩:∃fe∈es,(fe.k,fe.ld)=e:=by
                rw[← hel] at hem;obtain⟨fe,h1,h2⟩:=List.mem_map.mp hem;exact⟨fe,h1,h2⟩
              have hk1:fe.k=e.1:=by rw[← hfk]
              have hg1:iz H15 td (V.int (e.1:Int)) (some (.ref fe.t)):=.inl ⟨_,Sum.inl (e.1:Int),.inl (Nh _ _ tdC (kf5 _ _ qgH.symm M8)),rfl,by rw[← hk1,JQ knd hfe]⟩;have htp:=Nh _ _ (Y0 (Hu fe hfe).tp fun _ z=>by cases z) (nd5 (Hu fe hfe).tp (fun _ z=>by cases z));obtain⟨us,hus⟩:=hC2 fe hfe;have ekv:kV (Sum.inl (e.1:Int))=V.int (e.1:Int):=rfl;rw[ekv];left;refine⟨_,hg1,_,.inr (dW.of htp),_,aU (j:=1) rfl,qd3 hus,?_⟩;left;refine⟨⟨_,hus⟩,fun b u hb e=>?_,fun e' he'=>?_⟩
              ·rw[aC (fun z:b=fe.c=>hb (by rw[z];exact List.mem_map_of_mem hfe))];exact Nh b u hb e
              · by_cases z:e'.c=fe.c
                ·exact⟨[],by rw[z];exact ak⟩
                ·obtain⟨us',h'⟩:=hC2 e' he';exact⟨us',by rw[aC z];exact h'⟩
            · rintro σ H15 ⟨⟨o8,rfl⟩,Nh,hC2⟩;have k16:∀b u,b∉es.map (·.c)→Vs b=some u→fB Vs H15 b=some u:=fun b u hb e=>qa9 e (by
                by_cases z:b=du
                ·subst z;rw[RL] at e;cases e;exact .inr ⟨fun o v y=>(by cases y),ob5,Nh _ _ duC ef5⟩
                ·exact .inl (Nh _ _ hb (kf5 _ _ z e)))
              left;generalize fB Vs H15=H16 at k16 ⊢;have qgO:=k16 _ _ tdC M8;refine⟨dty qgO,_,qgO,by rw[List.length_map];omega,?_⟩;have k17:∀b u,b∉es.map (·.c)→b≠td→Vs b=some u→upd H16 td (.dK []) b=some u:=fun b u hb ht e=>by
                rw[aC ht];exact k16 b u hb e
              generalize upd H16 td (.dK [])=H17 at k17 ⊢;have S17:Same H H17:=fun b u e=>k17 b u (fun z=>by
                obtain⟨e',he',z2⟩:=List.mem_map.mp z;have:=(Hu e' he').nw;rw[z2,e] at this;cases this) (fun z=>by rw[z,td0] at e;cases e) (S14 _ _ e)
              have qmw:kd≠td:=fun z=>by rw[z,qgM] at hkd;cases hkd
              have qgP:=k17 _ _ (Y0 YZ fun _ z=>by cases z) qmw YZ;have qmx:∀e∈ks,H17 e.t=some (.tup [.int e.ld,.ref e.c])∧H17 e.c=some (.lst (e.lot.map V.str)):=fun e he=>by
                obtain⟨g1,g2,g3⟩:=qgN e he;refine⟨k17 _ _ (Y0 g1 fun _ z=>by cases z) (fun z=>by rw[z,M8] at g1;cases g1) g1,k17 _ _ (fun z=>?_) (fun z=>by rw[z,M8] at g2;cases g2) g2⟩;obtain⟨e',he',z2⟩:=List.mem_map.mp z;have:=(YW e' he').lt;rw[z2,g3] at this;cases this
              refine⟨o,d,xs,ps,fs,rfl,hw.same S17,hX,hTs,S17 _ _ hd,hfs,fun _ _ td2 es2 H18 qpA qmy qd7 hel2 _ s18=>?_,fun x hx=>(by rw[hn] at hx;cases hx),fun _ k lot rest hb'=>(by rw[hb] at hb';cases hb')⟩;rw[hF] at hel2;have qpB:es2.length=fr.length:=by
                have:=congrArg List.length hel2;simpa using this
              have kln:ks.length=es.length:=by
                have:=congrArg List.length hkm;simpa using this
              left;refine⟨_,.inl qmy,_,.inl (s18 _ _ qgP),by rw[List.length_map,List.length_map];omega,fun p' hp'=>?_,q _ (S17.trans s18)⟩;obtain⟨e2,he2,rfl⟩:=List.mem_map.mp hp';have hm2:(e2.k,e2.ld)∈fr:=by rw[← hel2];exact List.mem_map.mpr ⟨e2,he2,rfl⟩
              rw[← hel] at hm2;obtain⟨e,he,hee⟩:=List.mem_map.mp hm2;have hm3:(e.k,e.ld,e.lot)∈ks.map (fun e=>(e.k,e.ld,e.lot)):=by rw[hkm];exact List.mem_map.mpr ⟨e,he,rfl⟩
              obtain⟨e3,he3,qbd⟩:=List.mem_map.mp hm3;simp only[Prod.mk.injEq] at hee qbd;obtain⟨x,hx1,hx2⟩:=(Hu e he).sh;obtain⟨x2,hy1,hy2⟩:=(qd7 e2 he2).sh;rw[hee.1,hee.2] at hx1 hx2;rw[hx1] at hy1;cases hy1;have qd2:e3.lot=e2.lot:=by rw[qbd.2.2,hx2,hy2]
              have hk3:e3.k=e2.k:=by rw[qbd.1,hee.1]
              have hl3:e3.ld=e2.ld:=by rw[qbd.2.1,hee.2]
              obtain⟨g1,g2⟩:=qmx e3 he3;rw[hl3] at g1;rw[qd2] at g2;have hI:∀{H':Hp} {u c:Addr},H' u=some (.tup [.int e2.ld,.ref c])→H' c=some (.lst (e2.lot.map V.str))→Is K H' (.tuple [.int e2.ld,.list (iV e2.lot)]) (.ref u):=fun {H' u c} h1 h2=>⟨u,_,rfl,dW.of h1,_,_,rfl,rfl,_,_,rfl,⟨c,_,rfl,bw.of h2,Br _⟩,rfl⟩;have hsub:∀y∈e2.lot,PyData.strOk y=true:=fun y hy=>by
                rw[hy2] at hy;exact Q5 (hX.nm y (fD.mp hy).1)
              refine⟨.ref e3.t,?_,.tuple [.int e2.ld,.list (iV e2.lot)],hI (qd7 e2 he2).tp (qd7 e2 he2).lt,hI (s18 _ _ g1) (s18 _ _ g2),?_,?_,?_⟩
              ·rw[show(xq e2).1=Sum.inl (e3.k:Int) by rw[hk3];rfl];exact(JQ kkd he3).symm
              ·have:=Dj _ hsub;simp[PyData.canLay0,PyData.canLayAll0,this]
              ·have:=Dk e2.lot;simp[PyData.depth,PyData.depthAll];omega
              ·simp[PyData.eqv,PyData.eqvAll,Dm]
    ·left;refine⟨_,dW.of Yx,rfl,?_⟩;left;refine⟨t,n,l,d,xs,tv,ps,fs,rfl,hG.same s1,s1 _ _ hd,fun g H2 hg e2 s2=>?_⟩;have S2:=s1.trans s2;left;refine⟨o,d,xs,ps,fs,rfl,hw.same S2,hX,hTs,S2 _ _ hd,hfs,fun h'=>(by rw[hx] at h';cases h'),fun x' hx' H3 s3=>?_,fun h'=>(by rw[hx] at h';cases h')⟩;left;refine⟨true,by decide+kernel,gM.pos rfl ?_⟩;left;have S3:=S2.trans s3;exact⟨t,n,l,g,c,xs,tv,ps,fs,_,rfl,hG.same S3,s3 _ _ e2,hfs,.inl ⟨rfl,x,hx,s3 _ _ (s2 _ _ ec)⟩,fun H4 s4=>q _ (S3.trans s4)⟩
    ·left;refine⟨_,dW.of Yx,rfl,?_⟩;left;refine⟨t,n,l,d,xs,tv,ps,fs,rfl,hG.same s1,s1 _ _ hd,fun g H2 hg e2 s2=>?_⟩;have S2:=s1.trans s2;left;refine⟨o,d,xs,ps,fs,rfl,hw.same S2,hX,hTs,S2 _ _ hd,hfs,fun _ h'=>(by rw[hb] at h';cases h'),fun x' hx'=>(by rw[hn] at hx';cases hx'),fun _ k' qpC rest' hb' H3 s3=>?_⟩;left;refine⟨true,by decide+kernel,gM.pos rfl ?_⟩;left;have S3:=S2.trans s3;exact⟨t,n,l,g,u,xs,tv,ps,fs,_,rfl,hG.same S3,s3 _ _ e2,hfs,.inr ⟨rfl,hn,k,lot,rest,c,hb,s3 _ _ (s2 _ _ eu),s3 _ _ (s2 _ _ ec)⟩,fun H4 s4=>q _ (S3.trans s4)⟩
def rgN (zs:List Str) (j:Nat):Str:=(zs[j]?).getD (Str.ofString "")
def JR (zs:List Str) (j:Nat):Str×Str:=(rgN zs (if j=0 then zs.length - 1 else j - 1),rgN zs j)
theorem Y4 {zs:List Str} {j:Nat} {x:Str} (h:zs[j]? = some x):rgN zs j=x:=by unfold rgN;rw[h];rfl
theorem RM {xs:List Str} {k:Nat} (h2:2≤xs.length) (hk:k<xs.length):Aa (xs.map V.str) ((k:Int) - 1)=some (.str (JR xs k).1)∧Aa (xs.map V.str) (k:Int)=some (.str (JR xs k).2)∧(JR xs k).1∈xs∧(JR xs k).2∈xs∧(xs.Nodup→(JR xs k).1≠(JR xs k).2):=by
  have e2:xs[k]? = some (xs[k]'hk):=by simp[hk]
  obtain⟨x,hx,hj,ha⟩:∃x,xs[if k=0 then xs.length - 1 else k - 1]? = some x∧(if k=0 then xs.length - 1 else k - 1)≠k∧Aa (xs.map V.str) ((k:Int) - 1)=some (.str x):=by
    cases k with
    | zero=>
      have hj:xs.length - 1<xs.length:=by omega
      refine⟨xs[xs.length - 1],by simp[hj],by simp;omega,?_⟩;unfold Aa V_;rw[if_neg (by omega),if_pos (by simp;omega)];have e:(((0:Nat):Int) - 1+(xs.map V.str).length).toNat=xs.length - 1:=by simp;omega
      show(xs.map V.str)[(((0:Nat):Int) - 1+(xs.map V.str).length).toNat]? = _;rw[e];simp[hj]
    | succ k=>
      have hj:k<xs.length:=by omega
      have e:((k+1:Nat):Int) - 1=(k:Int):=by omega
      rw[e];exact⟨xs[k],by simp[hj],by simp,aU (by simp[hj])⟩
  have r1:(JR xs k).1=x:=Y4 hx;have r2:(JR xs k).2=xs[k]'hk:=Y4 e2;rw[r1,r2];refine⟨ha,aU (by rw[List.getElem?_map,e2];rfl),List.mem_of_getElem? hx,List.mem_of_getElem? e2,fun nd z=>hj ?_⟩;rw[z] at hx;exact xQ nd hx e2
theorem bD.app {H:Hp} {vs us:List V} {ps qs:List (Str×Str)} (h:bD H vs ps) (g:bD H us qs):bD H (vs++us) (ps++qs):=by
  refine⟨by simp[h.1,g.1],fun i v e h1 h2=>?_⟩
  by_cases hi:i<vs.length
  ·rw[List.getElem?_append_left hi] at h1;rw[List.getElem?_append_left (by rw[← h.1];exact hi)] at h2;exact h.2 i v e h1 h2
  ·rw[List.getElem?_append_right (by omega)] at h1;rw[List.getElem?_append_right (by rw[← h.1];omega),← h.1] at h2;exact g.2 _ v e h1 h2
def JT (K:W.Frag):Sp:=fun vs H Q _=>∃(l:Addr) (ns:List Int),vs=[.ref l]∧bw K H l (ns.map V.int)∧ns.length≤63∧∀H',Q (.bl true) H'
theorem qd8 (T:Txt K mg a):cg P w K mg base lC 9 a.Ak a.Jr ["_law_script"] (JT K):=by
  refine T.qb1.oU pQ (fun vs H Q E h=>?_) (fun cdv A outer s H vs Q E hr h=>?_)
  ·obtain⟨l,ns,rfl,_⟩:=h;rfl
  · obtain⟨sl,ns0,rfl,hS,qo_,q⟩:=h;refine⟨_,(aB (iI PassesOwn.never rfl (PI.eqv (iB rfl T.nm.range (aj (aO (Du rfl) rfl T.nm.max boot_max (aj aK (aj (aO (Ol rfl) rfl T.nm.min boot_min (aj aK (aj (aO (cB (K:=K) rfl) rfl T.nm.len PySem.boot_len (aj (aM 0) aq)) aq))) aq))) aq)) (iD _)) (aR (i:=1) pQ.nd rfl (Or.inl rfl))
      (aB (bC (i:=2) pQ.nd rfl (Or.inr rfl) (PE.eqv (aN (qdI (K:=K) T) (hr.mono (by decide)) rfl T.qbY T.X5.kp T.qbX .nil aV (aj (aM 0) (aj (aM 1) aq))) (aG _ _ _)))
      (aB (bC (i:=3) pQ.nd rfl (Or.inl rfl) (PE.eqv (aN (qdM (K:=K) T) (hr.mono (by decide)) rfl T.qb0 T.X8.kp T.qbZ .nil aV (aj (aM 2) (aj aK (aj aK aq)))) (aG _ _ _)))
      (aB (bC (i:=4) pQ.nd rfl (Or.inl rfl) (PE.eqv (aN (MP (K:=K) T) (hr.mono (by decide)) rfl T.Jv T.B_.kp T.Ju .nil aV (aj (aM 2) (aj (aM 3) aq))) (aG _ _ _)))
      (aB (cR (dN (cD (PE.eqv (aN (Ey (K:=K) T) (hr.mono (by decide)) rfl T.Cd T.yS.kp T.Ca .nil aV (aj (PE.eqv (HB T.Ru (uJ (K:=K) T) (hr.mono (by decide)) rfl T.Rt T.su .nil aV (aj (bL (bO (K:=K) rfl) (aM 3) aK (fun _ _=>rfl)) (aj (bL (bO (K:=K) rfl) (aM 3) aK (fun _ _=>rfl)) aq))) (Ds _ _ _ _)) (aj (aM 3) (aj (aM 4) aq)))) (aG _ _ _)))) (aF (aY jT)) bG)
      (aB (bC (i:=5) pQ.nd rfl (Or.inr rfl) (PE.eqv (aN (Mi (K:=K) T) (hr.mono (by decide)) rfl T.Jt T.BZ.kp T.Js .nil aV (aj (aM 2) (aj (cT jJ aK (PE.eqv (aN (gq (K:=K) T) (hr.mono (by decide)) rfl T.iR T.iw.kp T.iQ .nil aV (aj (aM 2) (aj aK aq))) (aG _ _ _))) aq))) (aG _ _ _)))
      (aB (jQ (i:=6) pQ.nd rfl rfl rfl rfl (show aZ (ao ur) _ ["_law_script", "_law_k", "_law_pot_here", "_law_web_here", "_law_fixed_here", "_law_names_here", "_law_ring", "_law_some", "_law_one"] ["_law_j"] [5] ["_law_j", "_law_names_here"] from⟨rfl,by decide+kernel,by decide+kernel,rfl,by decide+kernel,by decide+kernel⟩) rfl (PI.eqv (iB rfl T.nm.range (aj (aO (cB (K:=K) rfl) rfl T.nm.len PySem.boot_len (aj (aM 5) aq)) aq)) (iD _)) (fun C s H fp pn=>(aR (i:=0) (show(["_law_j", "_law_names_here"]:List Str).Nodup by decide+kernel) rfl (Or.inl rfl))) (fun C s H fp pn=>dX) (fun C s H fp pn=>(fU (aj (bL (bO (K:=K) rfl) (aM 1) (cT nu (aM 0) aK) (fun _ _=>rfl)) (aj (bL (bO (K:=K) rfl) (aM 1) (aM 0) (fun _ _=>rfl)) aq)))))
      (aB (jQ (i:=7) pQ.nd rfl rfl rfl rfl (show aZ (ao ur) _ ["_law_script", "_law_k", "_law_pot_here", "_law_web_here", "_law_fixed_here", "_law_names_here", "_law_ring", "_law_some", "_law_one"] ["_law_j"] [2,5] ["_law_j", "_law_pot_here", "_law_names_here"] from⟨rfl,by decide+kernel,by decide+kernel,rfl,by decide+kernel,by decide+kernel⟩) rfl (PI.eqv (iB rfl T.nm.range (aj (PE.eqv (aN (gq (K:=K) T) (hr.mono (by decide)) rfl T.iR T.iw.kp T.iQ .nil aV (aj (aM 2) (aj (cT nu aK (aO (cB (K:=K) rfl) rfl T.nm.len PySem.boot_len (aj (aM 6) aq))) aq))) (aG _ _ _)) aq)) (iD _)) (fun C s H fp pn=>(aR (i:=0) (show(["_law_j", "_law_pot_here", "_law_names_here"]:List Str).Nodup by decide+kernel) rfl (Or.inl rfl))) (fun C s H fp pn=>dX) (fun C s H fp pn=>(PE.eqv (aN (Yl (K:=K) T) (hr.mono (by decide)) rfl T.X7 T.Rp.kp T.X6 .nil aV (aj (aM 1) (aj (aM 2) aq))) (aG _ _ _))))
      (aB (bC (i:=3) pQ.nd rfl (Or.inl rfl) (fU (aj (aM 5) (aj (PE.eqv (aN (yW (K:=K) T) (hr.mono (by decide)) rfl T.yP T.vo.kp T.yO .nil aV (aj (aM 2) (aj (cT xY (aM 6) (aM 7)) aq))) (aG _ _ _)) aq))))
      (aB (cR (dN (cD (PE.eqv (aN (Ey (K:=K) T) (hr.mono (by decide)) rfl T.Cd T.yS.kp T.Ca .nil aV (aj (PE.eqv (HB T.Ru (uJ (K:=K) T) (hr.mono (by decide)) rfl T.Rt T.su .nil aV (aj (bL (bO (K:=K) rfl) (aM 3) aK (fun _ _=>rfl)) (aj (bL (bO (K:=K) rfl) (aM 3) aK (fun _ _=>rfl)) aq))) (Ds _ _ _ _)) (aj (aM 3) (aj (PE.eqv (aN (MP (K:=K) T) (hr.mono (by decide)) rfl T.Jv T.B_.kp T.Ju .nil aV (aj (aM 2) (aj (aM 3) aq))) (aG _ _ _)) aq)))) (aG _ _ _)))) (aF (aY jT)) bG)
      (aB (bC (i:=8) pQ.nd rfl (Or.inl rfl) (QW (KC (PE.eqv (aN (gq (K:=K) T) (hr.mono (by decide)) rfl T.iR T.iw.kp T.iQ .nil aV (aj (aM 2) (aj (aO (cB (K:=K) rfl) rfl T.nm.len PySem.boot_len (aj (bL (bO (K:=K) rfl) (aM 3) aK (fun _ _=>rfl)) aq)) aq))) (aG _ _ _)) (PE.eqv (aN (gq (K:=K) T) (hr.mono (by decide)) rfl T.iR T.iw.kp T.iQ .nil aV (aj (aM 2) (aj aK aq))) (aG _ _ _)) QV) rfl rfl (by simp) (by decide)))
      (aF (cR (dN (cD (PE.eqv (aN (Ey (K:=K) T) (hr.mono (by decide)) rfl T.Cd T.yS.kp T.Ca .nil aV (aj (PE.eqv (HB T.Ru (uJ (K:=K) T) (hr.mono (by decide)) rfl T.Rt T.su .nil aV (aj (bL (bO (K:=K) rfl) (aM 3) aK (fun _ _=>rfl)) (aj (bL (bO (K:=K) rfl) (aM 3) aK (fun _ _=>rfl)) aq))) (Ds _ _ _ _)) (aj (aM 3) (aj (aM 8) aq)))) (aG _ _ _)))) (aF (aY jT)) bG)))))))))))))
      (aF (aY jT))),?_⟩
    have qaX:200≤sizeLine:=by decide
    simp -dsimp[au,stC];refine⟨_,.inl hS,?_⟩;simp only[List.length_map];obtain⟨m,hm,hm6⟩:∃m:Nat,(if 1<if (ns0.length:Int)<3 then (ns0.length:Int) else 3 then if (ns0.length:Int)<3 then (ns0.length:Int) else 3 else 1)=m∧m≤3:=by
      by_cases h1:(ns0.length:Int)<3
      · rw[if_pos h1]
        by_cases h2:1<(ns0.length:Int)
        ·exact⟨ns0.length,by rw[if_pos h2],by omega⟩
        ·exact⟨1,by rw[if_neg h2];rfl,by decide⟩
      ·rw[if_neg h1];exact⟨3,rfl,by decide⟩
    simp only[hm,Int.toNat_natCast];refine⟨by omega,by omega,frR (fun i σ H'=>(∃o1 o2 o3 o4 o5 o6 o7 o8,σ=[some (.ref sl),o1,o2,o3,o4,o5,o6,o7,o8])∧Same H H') ⟨⟨_,_,_,_,_,_,_,_,rfl⟩,Same.refl _⟩ ?_ ?_⟩
    · rintro i σ H0 hi ⟨⟨o1,o2,o3,o4,o5,o6,o7,o8,rfl⟩,s0⟩;simp -dsimp[au,stC];refine⟨sl,ns0,i,rfl,s0.seq hS,by omega,fun p Hp hp0 hPp hBp=>?_⟩;have sp1:Same H0 Hp:=fun b o e=>hBp b o (aP e hp0) e;simp -dsimp[au,stC];refine⟨p,9,20,rfl,hPp,by decide,by decide,by decide,by decide,fun t n l xs tv ps H1 ht0 hn0 hl0 ht1 hn1 hl1 qmz hX hTs _ _ Mg Mh=>?_⟩;have np:n≠p:=(hPp.ne hn0).symm;have lp:l≠p:=(hPp.ne hl0).symm;have hG1:dU H1 t n l xs tv ps:=⟨ht1,hn1,hl1,qmz,hX,hTs⟩;simp -dsimp[au,stC];refine⟨p,t,n,l,xs,tv,ps,rfl,Mg,hG1,fun d fs H2 hd0 hd2 hfs hP2 hB2=>?_⟩;have hG2:=hG1.but Mg hB2 np lp;have B2:But p Hp H2:=Mh.trans hB2;simp -dsimp[au,stC];refine⟨_,.inr (dW.of hG2.1),_,aU (j:=0) rfl,_,.inr (dW.of hG2.1),_,aU (j:=1) rfl,fun o dx ho hdx qpD=>?_⟩;have so:Same H2 (upd (upd H2 dx (.own o)) o (.ins a.bZ dx [])):=fun b u e=>by
        rw[aC (aP e ho),aC (aP e hdx)];exact e
      have hpr:nU H2 tv ps:=⟨hG2.2.2.2.1.1,fun i v e h1 h2=>by
        obtain⟨t,rfl,z⟩:=hG2.2.2.2.1.2 i v e h1 h2;exact⟨t,rfl,.inr z⟩⟩
      refine⟨o,dx,n,l,tv,xs,ps,rfl,ak,.inl (so _ _ hG2.2.2.1),hpr.same so,.inl (so _ _ hG2.2.1),hX,hTs,fun H3 Yq hB3=>⟨rfl,?_⟩⟩;have s3:Same H2 H3:=fun b u e=>hB3 b u (aP e ho) (so b u e);simp -dsimp[au,stC];refine⟨t,n,l,o,d,xs,tv,ps,fs,rfl,hG2.same s3,Yq,s3 _ _ hd2,hfs,fun H4 s4=>?_⟩;have B4:But p Hp H4:=B2.same (s3.trans s4);have Mj:lA H4 p:=(hP2.keep s3).keep s4;simp -dsimp[au,stC];refine⟨p,_,rfl,Mj,by decide,by decide,fun dd H5 qpE hd1' Ek Ml=>?_⟩;simp -dsimp[au,stC];refine⟨p,dd.toNat+2,?_,Ek,by omega,by omega,fun n2 ys H6 hn2 en2 hY hyl Ph Mp=>?_⟩
      ·simp;omega
      have B6:But p Hp H6:=(B4.trans Ml).trans Mp;have n2p:n2≠p:=Ek.nl hn2;have hy9:ys.length≤9:=by omega
      have hy2:2≤ys.length:=by omega
      simp -dsimp[au,stC];refine⟨_,.inl (bw.of en2),by rw[List.length_map];omega,fun D hD=>cmR (fun i σ H'=>(∃o,σ=[o,some (.ref n2)])∧∃tvs,H' D=some (.lst tvs)∧bD H' tvs ((List.range i).map (JR ys))∧Same H6 H') ⟨⟨_,rfl⟩,[],ak,⟨rfl,by simp⟩,aA hD⟩ ?_ ?_⟩
      · rintro i σ H7 hi ⟨⟨o,rfl⟩,tvs,hD7,uK,sm⟩;have hk:i<ys.length:=by simp at hi;exact hi
        obtain⟨ax,ay,_⟩:=RM (xs:=ys) (by omega) hk;have sl:=bw.of (K:=K) (sm _ _ en2);simp -dsimp[au,stC];refine⟨_,.inl sl,_,ax,_,.inl sl,_,ay,fun pt hpt=>?_⟩;have hD8:upd H7 pt (.tup [.str (JR ys i).1,.str (JR ys i).2]) D=some (.lst tvs):=bM hD7 hpt;have kp:cI (upd H7 pt (.tup [.str (JR ys i).1,.str (JR ys i).2])) (upd (upd H7 pt (.tup [.str (JR ys i).1,.str (JR ys i).2])) D (.lst (tvs++[.ref pt]))):=fun c zs e=>qW e hD8 (by intro z;cases z);have hl:=uK.1;rw[List.length_map,List.length_range] at hl;refine⟨_,hD8,by omega,_,ak,?_,aW (sm.trans (aA hpt)) hD⟩;rw[List.range_succ,List.map_append];exact((uK.same (aA hpt)).keep kp).snoc (kp _ _ ak)
      · rintro σ H7 ⟨⟨o,rfl⟩,tvs,hD7,uK,sm⟩;have hlD:tvs.length=ys.length:=by have:=uK.1;simpa using this
        have Uo:lA H7 p:=Ph.keep sm;have B7:=B6.same sm;have en7:=sm _ _ en2;have Dp:D≠p:=Ph.nl hD;rw[List.length_map] at uK;simp -dsimp[au,stC];refine⟨_,.inl (bw.of hD7),p,_,rfl,Uo,by omega,by omega,fun f H8 hf0 hf1 hP8 hB8=>?_⟩;have B8:=B7.trans hB8;have hD8:=hB8 _ _ Dp hD7;have qmA:=uK.but Uo hB8;have en8:=hB8 _ _ n2p en7;simp -dsimp[au,stC];refine⟨by omega,by omega,fun D2 hD2=>cmR (fun i σ H'=>(∃o,σ=[o,some (.ref p),some (.ref n2)])∧∃Gg Zv,H' D2=some (.lst Gg)∧bD H' Gg Zv∧Zv.length=i∧(∀e∈Zv,e.1∈ys∧e.2∈ys∧e.1≠e.2)∧lA H' p∧But p H8 H') ⟨⟨_,rfl⟩,[],[],ak,⟨rfl,by simp⟩,rfl,by simp,hP8.upd (hP8.ne hD2),(But.refl _ _).new hD2⟩ ?_ ?_⟩
        · rintro i σ H9 hi ⟨⟨o,rfl⟩,Gg,Zv,Um,Y5,hql,Yo,hP9,hB9⟩;have D2p:D2≠p:=hP8.nl hD2;simp -dsimp[au,stC];refine⟨p,n2,ys,rfl,hP9,n2p,hB9 _ _ n2p en8,hy2,hy9,hY.nd,fun t x y PB ht qmB hx hy hxy Y6 qd9=>?_⟩;have qb7:=qd9 _ _ D2p Um;have kp:cI PB (upd PB D2 (.lst (Gg++[.ref t]))):=fun c zs e=>qW e qb7 (by intro z;cases z);have hl:=Y5.1;refine⟨_,qb7,by omega,⟨_,rfl⟩,_,Zv++[(x,y)],ak,((Y5.but hP9 qd9).keep kp).snoc (kp _ _ qmB),by simp[hql],?_,Y6.upd D2p.symm,(hB9.trans qd9).new hD2⟩;intro e he
          rcases List.mem_append.mp he with z | z
          ·exact Yo e z
          ·simp at z;subst z;exact⟨hx,hy,hxy⟩
        · rintro σ H9 ⟨⟨o,rfl⟩,Gg,Zv,Um,qb8,hql,Yo,hP9,hB9⟩;have D2p:D2≠p:=hP8.nl hD2;have B9:=B8.trans hB9;have hD9:=hB9 _ _ Dp hD8;have Y5:=qmA.but hP8 hB9;have en9:=hB9 _ _ n2p en8;have hl1:=Y5.1;have hl2:=qb8.1;have hall:∀e∈(List.range ys.length).map (JR ys)++Zv,e.1∈ys∧e.2∈ys∧e.1≠e.2:=fun e he=>by
            rcases List.mem_append.mp he with he | he
            ·obtain⟨k,hk,rfl⟩:=List.mem_map.mp he;obtain⟨_,_,m1,m2,m3⟩:=RM (xs:=ys) (by omega) (List.mem_range.mp hk);exact⟨m1,m2,m3 hY.nd⟩
            ·exact Yo e he
          have hlen:((List.range ys.length).map (JR ys)++Zv).length≤20:=by simp;omega
          have hge:ys.length≤((List.range ys.length).map (JR ys)++Zv).length:=by simp
          have qd_:=Y5.app qb8;have hsz:tvs.length+Gg.length≤20:=by
            have:=qd_.1;simp at this hlen;omega
          generalize (List.range ys.length).map (JR ys)++Zv=qA at hall hlen qd_ hge;simp -dsimp[au,stC];refine⟨_,hD9,_,Um,by omega,fun L1 hL1=>?_⟩;have s10:Same H9 (upd H9 L1 (.lst (tvs++Gg))):=aA hL1;have e10:upd H9 L1 (.lst (tvs++Gg)) L1=some (.lst (tvs++Gg)):=ak;generalize upd H9 L1 (.lst (tvs++Gg))=PB at s10 e10 ⊢;have Y6:=hP9.keep s10;have L1p:L1≠p:=hP9.nl hL1;refine⟨p,L1,_,rfl,Y6,L1p,e10,by simp;omega,fun l2 zs YT qmC el2 hperm qmD qea=>?_⟩;obtain⟨rs,hrs,hrp⟩:=((qd_.same s10).but Y6 qea).perm hperm;have l2p:l2≠p:=Y6.nl qmC;have B11:=(B9.same s10).trans qea;have qmE:=qea _ _ n2p (s10 _ _ en9);have Y7:oK ys rs:=⟨by rw[hrp.length_eq];omega,fun e he=>hall e (hrp.mem_iff.mp he)⟩;have rs2:2≤rs.length:=by rw[hrp.length_eq];omega
          simp -dsimp[au,stC];intro t2 Jz;have s12:Same YT (upd YT t2 (.tup [.ref n2,.ref l2])):=aA Jz;have e12:upd YT t2 (.tup [.ref n2,.ref l2]) t2=some (.tup [.ref n2,.ref l2]):=ak;generalize upd YT t2 (.tup [.ref n2,.ref l2])=Gf at s12 e12 ⊢;have qmF:=qmD.keep s12;have B12:=B11.same s12;have U4:dU Gf t2 n2 l2 ys zs rs:=⟨e12,s12 _ _ qmE,s12 _ _ el2,hrs.same s12,hY,Y7⟩;have qpF:=Y7.len;refine⟨_,.inr (dW.of U4.1),_,aU (j:=0) rfl,_,.inr (dW.of U4.1),_,aU (j:=1) rfl,fun o2 dx2 ho2 M6 qpa=>?_⟩;have so2:Same Gf (upd (upd Gf dx2 (.own o2)) o2 (.ins a.bZ dx2 [])):=fun b u e=>by
            rw[aC (aP e ho2),aC (aP e M6)];exact e
          have pr:∀{H:L2.Hp},dU H t2 n2 l2 ys zs rs→nU H zs rs:=fun hG=>⟨hG.2.2.2.1.1,fun i v e h1 h2=>by
            obtain⟨t,rfl,z⟩:=hG.2.2.2.1.2 i v e h1 h2;exact⟨t,rfl,.inr z⟩⟩
          refine⟨o2,dx2,n2,l2,zs,ys,rs,rfl,ak,.inl (so2 _ _ U4.2.2.1),(pr U4).same so2,.inl (so2 _ _ U4.2.1),hY,Y7,fun Qc qmG qmH=>⟨rfl,?_⟩⟩;have Pn:Same Gf Qc:=fun b u e=>qmH b u (aP e ho2) (so2 b u e);have qeb:=qmF.keep Pn;have qgQ:=U4.same Pn;simp -dsimp[au,stC];refine⟨p,t2,n2,l2,ys,zs,rs,rfl,qeb,qgQ,fun d2 fs2 Vs qpG hd2 qmI qmJ qec=>?_⟩;have qgR:=qgQ.but qeb qec n2p l2p;have qmK:=qmG.but qeb qec;have B14:=(B12.same Pn).trans qec;simp -dsimp[au,stC];refine⟨t2,n2,l2,o2,d2,ys,zs,rs,fs2,rfl,qgR,qmK,hd2,qmI,fun H15 s15=>?_⟩;have qmL:=qgR.same s15;have qgS:=qmJ.keep s15;have B15:=B14.same s15;simp -dsimp[au,stC];intro dd2 qee;have s16:Same H15 (upd H15 dd2 (.dK [])):=aA qee;have e16:upd H15 dd2 (.dK []) dd2=some (.dK []):=ak;generalize upd H15 dd2 (.dK [])=H16 at s16 e16 ⊢;have U5:=qmL.same s16;have qgT:=qgS.keep s16;have B16:=B15.same s16;have ddp:dd2≠p:=qgS.nl qee;refine⟨_,.inr (dW.of U5.1),_,aU (j:=1) rfl,?_⟩;simp -dsimp[au,stC];refine⟨_,.inl (bw.of U5.2.2.1),p,_,rfl,qgT,by rw[U5.2.2.2.1.1];omega,by rw[U5.2.2.2.1.1];omega,fun kk H17 hk0 hk1 qgU qef=>?_⟩;rw[U5.2.2.2.1.1] at hk1;simp -dsimp[au,stC];refine⟨p,_,rfl,qgU,by decide,by decide,fun vv H18 hv0 hv1 qpH qeg=>?_⟩;have B18:=(B16.trans qef).trans qeg;have qbe:=(U5.but qgT qef n2p l2p).but qgU qeg n2p l2p;have e18:=qeg _ _ ddp (qef _ _ ddp e16);obtain⟨kn,rfl⟩:∃kn:Nat,kk=(kn:Nat):=⟨kk.toNat,by omega⟩;simp -dsimp[au,stC];refine⟨e18,[(Sum.inl (kn:Int),.int vv)],rfl,by simp,?_⟩;have ek:t_ [] [((Sum.inl (kn:Int):Key),V.int vv)]=cC [(kn,vv)]:=rfl;rw[ek];have e19:upd H18 dd2 (.dK (cC [(kn,vv)])) dd2=some (.dK (cC [(kn,vv)])):=ak;have k19:∀b u,b≠dd2→H18 b=some u→upd H18 dd2 (.dK (cC [(kn,vv)])) b=some u:=fun b u hb e=>by rw[aC hb];exact e
          generalize upd H18 dd2 (.dK (cC [(kn,vv)]))=H19 at e19 k19 ⊢;have qbf:∀{b:Addr} {u:HO},H18 b=some u→(∀kvs,u≠.dK kvs)→H19 b=some u:=fun {b u} e k=>k19 _ _ (fun z=>by rw[z,e18] at e;injection e with e;exact k _ e.symm) e;have U6:dU H19 t2 n2 l2 ys zs rs:=⟨qbf qbe.1 (fun _ z=>by cases z),qbf qbe.2.1 (fun _ z=>by cases z),qbf qbe.2.2.1 (fun _ z=>by cases z),qbe.2.2.2.1.keep fun c zs e=>qbf e (fun _ z=>by cases z),hY,Y7⟩;have qmM:lU [(kn,vv)] rs.length:=⟨by simp,fun e he=>by
            rw[List.mem_singleton] at he;subst he;exact⟨by omega,hv0,by show vv≤1;omega⟩⟩
          refine⟨_,.inr (dW.of U6.1),_,aU (j:=0) rfl,_,.inr (dW.of U6.1),_,aU (j:=1) rfl,fun o3' dx3 ho3 qmN qpb=>?_⟩;have so3:Same H19 (upd (upd H19 dx3 (.own o3')) o3' (.ins a.bZ dx3 [])):=fun b u e=>by
            rw[aC (aP e ho3),aC (aP e qmN)];exact e
          refine⟨o3',dx3,n2,l2,zs,ys,rs,rfl,ak,.inl (so3 _ _ U6.2.2.1),(pr U6).same so3,.inl (so3 _ _ U6.2.1),hY,Y7,fun H20 qmO qmP=>⟨rfl,?_⟩⟩;have Zr:Same H19 H20:=fun b u e=>qmP b u (aP e ho3) (so3 b u e);simp -dsimp[au,stC];refine⟨t2,n2,l2,o3',dd2,ys,zs,rs,[(kn,vv)],rfl,U6.same Zr,qmO,Zr _ _ e19,qmM,fun H21 s21=>?_⟩;simp -dsimp[au,stC];refine s0.trans fun b u e=>?_;have bp:b≠p:=aP e hp0;have eB:=sp1 b u e;have bd:b≠dd2:=fun z=>by
            have:=B15 b u bp eB;rw[z,qee] at this;cases this
          exact s21 _ _ (Zr _ _ (k19 _ _ bd (B18 b u bp eB)))
    ·rintro σ H1 ⟨_,s1⟩;simp -dsimp[au,stC];exact q _
end K42
namespace K42
open PySem L2
theorem Qd {α:Type} {n:Nat} (l:List α) (h:l.length=n+1):∃a r,l=a::r:=by
  cases l with
  | nil=>cases h
  | cons a r=>exact⟨a,r,rfl⟩
theorem pZ {fd:FuncData} {ps:List Str} (h:∀v0,bindArgs fd {pos:=[v0]}=pure (ps.zip [v0])):∀us:List Value,us.length=1→bindArgs fd {pos:=us}=pure (ps.zip us):=by
  intro us hl;obtain⟨v0,us,rfl⟩:=Qd us hl;replace hl:=Nat.succ.inj hl;obtain rfl:=List.eq_nil_of_length_eq_zero hl;exact h v0
theorem dj {fd:FuncData} {ps:List Str} (h:∀v0 v1,bindArgs fd {pos:=[v0,v1]}=pure (ps.zip [v0,v1])):∀us:List Value,us.length=2→bindArgs fd {pos:=us}=pure (ps.zip us):=by
  intro us hl;obtain⟨v0,us,rfl⟩:=Qd us hl;replace hl:=Nat.succ.inj hl;obtain⟨v1,us,rfl⟩:=Qd us hl;replace hl:=Nat.succ.inj hl;obtain rfl:=List.eq_nil_of_length_eq_zero hl;exact h v0 v1
theorem uR {fd:FuncData} {ps:List Str} (h:∀v0 v1 v2,bindArgs fd {pos:=[v0,v1,v2]}=pure (ps.zip [v0,v1,v2])):∀us:List Value,us.length=3→bindArgs fd {pos:=us}=pure (ps.zip us):=by
  intro us hl;obtain⟨v0,us,rfl⟩:=Qd us hl;replace hl:=Nat.succ.inj hl;obtain⟨v1,us,rfl⟩:=Qd us hl;replace hl:=Nat.succ.inj hl;obtain⟨v2,us,rfl⟩:=Qd us hl;replace hl:=Nat.succ.inj hl;obtain rfl:=List.eq_nil_of_length_eq_zero hl;exact h v0 v1 v2
theorem Y8 {fd:FuncData} {ps:List Str} (h:∀v0 v1 v2 v3,bindArgs fd {pos:=[v0,v1,v2,v3]}=pure (ps.zip [v0,v1,v2,v3])):∀us:List Value,us.length=4→bindArgs fd {pos:=us}=pure (ps.zip us):=by
  intro us hl;obtain⟨v0,us,rfl⟩:=Qd us hl;replace hl:=Nat.succ.inj hl;obtain⟨v1,us,rfl⟩:=Qd us hl;replace hl:=Nat.succ.inj hl;obtain⟨v2,us,rfl⟩:=Qd us hl;replace hl:=Nat.succ.inj hl;obtain⟨v3,us,rfl⟩:=Qd us hl;replace hl:=Nat.succ.inj hl;obtain rfl:=List.eq_nil_of_length_eq_zero hl;exact h v0 v1 v2 v3
theorem qeh {fd:FuncData} {ps:List Str} (h:∀v0 v1 v2 v3 v4,bindArgs fd {pos:=[v0,v1,v2,v3,v4]}=pure (ps.zip [v0,v1,v2,v3,v4])):∀us:List Value,us.length=5→bindArgs fd {pos:=us}=pure (ps.zip us):=by
  intro us hl;obtain⟨v0,us,rfl⟩:=Qd us hl;replace hl:=Nat.succ.inj hl;obtain⟨v1,us,rfl⟩:=Qd us hl;replace hl:=Nat.succ.inj hl;obtain⟨v2,us,rfl⟩:=Qd us hl;replace hl:=Nat.succ.inj hl;obtain⟨v3,us,rfl⟩:=Qd us hl;replace hl:=Nat.succ.inj hl;obtain⟨v4,us,rfl⟩:=Qd us hl;replace hl:=Nat.succ.inj hl;obtain rfl:=List.eq_nil_of_length_eq_zero hl;exact h v0 v1 v2 v3 v4
theorem all_mk {l:W.OpenLaw} {w:World} {K:W.Frag} {h:Heap} {mg:Str→Option Value} {fa bZ aQ gb cQ bW bh dG eF dH rJ eY cV jt g_ ju eG kW h_ gD dI gF gG fY jw bR cj cN dJ bT fZ cW kZ yu rO nJ nM yD yE jy f9 k_ ig iu nP nQ lg jz rR rT cO rU dM nR Ak:Addr} (X:K.In h) (G:h.Ns mainGlobals mg) (hfa:mg "law" = some (.ref fa))
    {od1 an1 od2 an2 od3 an3 od4 an4 od5 an5 od6 an6 od7 an7 od8 an8 od9 an9 qmQ qgV qmR qgW qmS qgX qmT qgY qmU qgZ qmV qg0 qmW qg1 qmX qg2 qmY qg3 qmZ qg4 qm0 qg5 qm1 qg6 qm2 qg7 qm3 qg8 qm4 qg9 qm5 qg_ qm6 qha qm7 qhb qm8 qhc qm9 qhd qm_ qhe qna qhf qnb qhg qnc qhh qnd qhi qne qhj qnf qhk qng qhl qnh qhm qni qhn qnj qho qnk qhp qnl qhq qnm qhr qnn qhs qnp qht qnq qhu qnr qhv qns qhw:Option Addr} {sl1 sl2 sl3 sl4 sl5 sl6 sl7 sl8 sl9 qnt qnu qnv qnw qnx qny qnz qnA qnB qnC qnD qnE qnF qnG qnH qnI qnJ qnK qnL qnM qnN qnO qnP qnQ qnR qnS qnT qnU qnV qnW qnX qnY qnZ qn0 qn1 qn2 qn3 qn4 qn5:Array (Option Value)} {oc1 kV1 dc1 pm1 cd1 ct1 oc2 kV2 dc2 pm2 cd2 ct2 oc3 kV3 dc3 pm3 cd3 ct3 oc4 kV4 dc4 pm4 cd4 ct4 oc5 kV5 dc5 pm5 cd5 ct5 oc6 kV6 dc6 pm6 cd6 ct6 oc7 kV7 dc7 pm7 cd7 ct7 oc8 kV8 dc8 pm8 cd8 ct8 oc9 kV9 dc9 pm9 cd9 ct9 qn6 qhx qhy qhz qei qhA qn7 qhB qhC qhD qej qhE qn8 qhF qhG qhH qek qhI qn9 qhJ qhK qhL qel qhM qn_ qhN qhO qhP qem qhQ qoa qhR qhS qhT qen qhU qob qhV qhW qhX qeo qhY qoc qhZ qh0 qh1 qep qh2 qod qh3 qh4 qh5 qeq qh6 qoe qh7 qh8 qh9 qer qh_ qof qia qib qic qes qid qog qie qif qig qet qih qoh qii qij qik qeu qil qoi qim qin qio qev qip qoj qiq qir qis qew qit qok qiu qiv qiw qex qix qol qiy qiz qiA qey qiB qom qiC qiD qiE qez qiF qon qiG qiH qiI qeA qiJ qoo qiK qiL qiM qeB qiN qop qiO qiP qiQ qeC qiR qoq qiS qiT qiU qeD qiV qor qiW qiX qiY qeE qiZ qos qi0 qi1 qi2 qeF qi3 qot qi4 qi5 qi6 qeG qi7 qou qi8 qi9 qi_ qeH qja qov qjb qjc qjd qeI qje qow qjf qjg qjh qeJ qji qox qjj qjk qjl qeK qjm qoy qjn qjo qjp qeL qjq qoz qjr qjs qjt qeM qju qoA qjv qjw qjx qeN qjy qoB qjz qjA qjB qeO qjC qoC qjD qjE qjF qeP qjG qoD qjH qjI qjJ qeQ qjK qoE qjL qjM qjN qeR qjO qoF qjP qjQ qjR qeS qjS qoG qjT qjU qjV qeT qjW qoH qjX qjY qjZ qeU qj0:Value} {wQ m8 oN sV:Tok}
    {wj Ez wR JV z6:ClassData} {qbg qbh:Str} {qeV:Addr} {qbi Y9:List Value} {qbj qbk:Bool} {qbl:List Str} {Y_:Option Bool} {qbm:Option Addr} {qbn qbo qbp qbq qbr:Option Value} {U7 U8:Str} {Za:Addr} {U9 Qe:List Value} {U_ Va:Bool} {Vb:List Str} {Qf:Option Bool} {Vc:Option Addr} {Vd Ve Vf Vg Vh:Option Value}
    (Qg:W.nsIn K mainGlobals "Web" = some (some (.ref bZ)))
    (qe:W.nsIn K mainGlobals "PointError" = some (some (.ref aQ)))
    (EY:W.nsIn K mainGlobals "NoWeb" = some (some (.ref gb)))
    (wU:W.nsIn K mainGlobals "NoFixed" = some (some (.ref cQ)))
    (JW:W.nsIn K mainGlobals "Shut" = some (some (.ref bW)))
    (z7:W.nsIn K mainGlobals "Barred" = some (some (.ref bh)))
    (a1:W.nsIn K mainGlobals "steps_along" = some (some (.ref dG)))
    (l1:K.lookup dG=some ⟨oc1,od1,.func (W.fnOf "steps_along" "steps_along" (aJ dw) (aH dw) (ao dw) .none kV1 dc1 pm1 an1 cd1 ct1),sl1⟩) (c1:W.codeIn K cd1 "steps_along" = true) (k1:W.keepIn K (.ref dG)=true)
    (a2:W.nsIn K mainGlobals "ways_along" = some (some (.ref eF)))
    (l2:K.lookup eF=some ⟨oc2,od2,.func (W.fnOf "ways_along" "ways_along" (aJ d9) (aH d9) (ao d9) .none kV2 dc2 pm2 an2 cd2 ct2),sl2⟩) (c2:W.codeIn K cd2 "ways_along" = true) (k2:W.keepIn K (.ref eF)=true)
    (a3:W.nsIn K mainGlobals "found_along" = some (some (.ref dH)))
    (l3:K.lookup dH=some ⟨oc3,od3,.func (W.fnOf "found_along" "found_along" (aJ cU) (aH cU) (ao cU) .none kV3 dc3 pm3 an3 cd3 ct3),sl3⟩) (c3:W.codeIn K cd3 "found_along" = true) (k3:W.keepIn K (.ref dH)=true)
    (a4:W.nsIn K mainGlobals "bars" = some (some (.ref rJ)))
    (l4:K.lookup rJ=some ⟨oc4,od4,.func (W.fnOf "bars" "bars" (aJ pP) (aH pP) (ao pP) .none kV4 dc4 pm4 an4 cd4 ct4),sl4⟩) (c4:W.codeIn K cd4 "bars" = true) (k4:W.keepIn K (.ref rJ)=true)
    (a5:W.findIn K (.ref bW) "__init__" = some (some (.ref eY))) (i5:W.isFn K (.ref eY)=true)
    (l5:K.lookup eY=some ⟨oc5,od5,.func (W.fnOf "__init__" "Shut.__init__" (aJ fW) (aH fW) (ao fW) .none kV5 dc5 pm5 an5 cd5 ct5),sl5⟩) (c5:W.codeIn K cd5 "Shut.__init__" = true) (k5:W.keepIn K (.ref eY)=true)
    (a6:W.findIn K (.ref bh) "__init__" = some (some (.ref cV))) (i6:W.isFn K (.ref cV)=true)
    (l6:K.lookup cV=some ⟨oc6,od6,.func (W.fnOf "__init__" "Barred.__init__" (aJ dz) (aH dz) (ao dz) .none kV6 dc6 pm6 an6 cd6 ct6),sl6⟩) (c6:W.codeIn K cd6 "Barred.__init__" = true) (k6:W.keepIn K (.ref cV)=true)
    (a7:W.nsIn K mainGlobals "is_list" = some (some (.ref jt)))
    (l7:K.lookup jt=some ⟨oc7,od7,.func (W.fnOf "is_list" "is_list" (aJ jo) (aH jo) (ao jo) .none kV7 dc7 pm7 an7 cd7 ct7),sl7⟩) (c7:W.codeIn K cd7 "is_list" = true) (k7:W.keepIn K (.ref jt)=true)
    (a8:W.nsIn K mainGlobals "is_whole" = some (some (.ref g_)))
    (l8:K.lookup g_=some ⟨oc8,od8,.func (W.fnOf "is_whole" "is_whole" (aJ gW) (aH gW) (ao gW) .none kV8 dc8 pm8 an8 cd8 ct8),sl8⟩) (c8:W.codeIn K cd8 "is_whole" = true) (k8:W.keepIn K (.ref g_)=true)
    (a9:W.nsIn K mainGlobals "is_name" = some (some (.ref ju)))
    (l9:K.lookup ju=some ⟨oc9,od9,.func (W.fnOf "is_name" "is_name" (aJ iG) (aH iG) (ao iG) .none kV9 dc9 pm9 an9 cd9 ct9),sl9⟩) (c9:W.codeIn K cd9 "is_name" = true) (k9:W.keepIn K (.ref ju)=true)
    (a10:W.nsIn K mainGlobals "are_points" = some (some (.ref eG)))
    (l10:K.lookup eG=some ⟨qn6,qmQ,.func (W.fnOf "are_points" "are_points" (aJ dB) (aH dB) (ao dB) .none qhx qhy qhz qgV qei qhA),qnt⟩) (c10:W.codeIn K qei "are_points" = true) (k10:W.keepIn K (.ref eG)=true)
    (a11:W.nsIn K mainGlobals "is_tie" = some (some (.ref kW)))
    (l11:K.lookup kW=some ⟨qn7,qmR,.func (W.fnOf "is_tie" "is_tie" (aJ jE) (aH jE) (ao jE) .none qhB qhC qhD qgW qej qhE),qnu⟩) (c11:W.codeIn K qej "is_tie" = true) (k11:W.keepIn K (.ref kW)=true)
    (a12:W.nsIn K mainGlobals "are_ties" = some (some (.ref h_)))
    (l12:K.lookup h_=some ⟨qn8,qmS,.func (W.fnOf "are_ties" "are_ties" (aJ gA) (aH gA) (ao gA) .none qhF qhG qhH qgX qek qhI),qnv⟩) (c12:W.codeIn K qek "are_ties" = true) (k12:W.keepIn K (.ref h_)=true)
    (a13:W.findIn K (.ref bZ) "__init__" = some (some (.ref gD))) (i13:W.isFn K (.ref gD)=true)
    (l13:K.lookup gD=some ⟨qn9,qmT,.func (W.fnOf "__init__" "Web.__init__" (aJ gB) (aH gB) (ao gB) .none qhJ qhK qhL qgY qel qhM),qnw⟩) (c13:W.codeIn K qel "Web.__init__" = true) (k13:W.keepIn K (.ref gD)=true)
    (a14:W.findIn K (.ref bZ) "points" = some (some (.ref dI))) (i14:W.isFn K (.ref dI)=true)
    (l14:K.lookup dI=some ⟨qn_,qmU,.func (W.fnOf "points" "Web.points" (aJ eE) (aH eE) (ao eE) .none qhN qhO qhP qgZ qem qhQ),qnx⟩) (c14:W.codeIn K qem "Web.points" = true) (k14:W.keepIn K (.ref dI)=true)
    (a15:W.findIn K (.ref bZ) "ties" = some (some (.ref gF))) (i15:W.isFn K (.ref gF)=true)
    (l15:K.lookup gF=some ⟨qoa,qmV,.func (W.fnOf "ties" "Web.ties" (aJ gY) (aH gY) (ao gY) .none qhR qhS qhT qg0 qen qhU),qny⟩) (c15:W.codeIn K qen "Web.ties" = true) (k15:W.keepIn K (.ref gF)=true)
    (a16:W.findIn K (.ref bZ) "many" = some (some (.ref gG))) (i16:W.isFn K (.ref gG)=true)
    (l16:K.lookup gG=some ⟨qob,qmW,.func (W.fnOf "many" "Web.many" (aJ gZ) (aH gZ) (ao gZ) .none qhV qhW qhX qg1 qeo qhY),qnz⟩) (c16:W.codeIn K qeo "Web.many" = true) (k16:W.keepIn K (.ref gG)=true)
    (a17:W.nsIn K mainGlobals "is_number" = some (some (.ref fY)))
    (l17:K.lookup fY=some ⟨qoc,qmX,.func (W.fnOf "is_number" "is_number" (aJ fX) (aH fX) (ao fX) .none qhZ qh0 qh1 qg2 qep qh2),qnA⟩) (c17:W.codeIn K qep "is_number" = true) (k17:W.keepIn K (.ref fY)=true)
    (a18:W.nsIn K mainGlobals "is_lead" = some (some (.ref jw)))
    (l18:K.lookup jw=some ⟨qod,qmY,.func (W.fnOf "is_lead" "is_lead" (aJ jq) (aH jq) (ao jq) .none qh3 qh4 qh5 qg3 qeq qh6),qnB⟩) (c18:W.codeIn K qeq "is_lead" = true) (k18:W.keepIn K (.ref jw)=true)
    (a19:W.nsIn K mainGlobals "lot_without_way_in" = some (some (.ref bR)))
    (l19:K.lookup bR=some ⟨qoe,qmZ,.func (W.fnOf "lot_without_way_in" "lot_without_way_in" (aJ bH) (aH bH) (ao bH) .none qh7 qh8 qh9 qg4 qer qh_),qnC⟩) (c19:W.codeIn K qer "lot_without_way_in" = true) (k19:W.keepIn K (.ref bR)=true)
    (a20:W.nsIn K mainGlobals "sure_of_fixed" = some (some (.ref cj)))
    (l20:K.lookup cj=some ⟨qof,qm0,.func (W.fnOf "sure_of_fixed" "sure_of_fixed" (aJ cJ) (aH cJ) (ao cJ) .none qia qib qic qg5 qes qid),qnD⟩) (c20:W.codeIn K qes "sure_of_fixed" = true) (k20:W.keepIn K (.ref cj)=true)
    (a21:W.nsIn K mainGlobals "with_one_more" = some (some (.ref cN)))
    (l21:K.lookup cN=some ⟨qog,qm1,.func (W.fnOf "with_one_more" "with_one_more" (aJ cL) (aH cL) (ao cL) .none qie qif qig qg6 qet qih),qnE⟩) (c21:W.codeIn K qet "with_one_more" = true) (k21:W.keepIn K (.ref cN)=true)
    (a22:W.nsIn K mainGlobals "lot_shut_by" = some (some (.ref dJ)))
    (l22:K.lookup dJ=some ⟨qoh,qm2,.func (W.fnOf "lot_shut_by" "lot_shut_by" (aJ dD) (aH dD) (ao dD) .none qii qij qik qg7 qeu qil),qnF⟩) (c22:W.codeIn K qeu "lot_shut_by" = true) (k22:W.keepIn K (.ref dJ)=true)
    (a23:W.nsIn K mainGlobals "sure_of_a_pointing" = some (some (.ref bT)))
    (l23:K.lookup bT=some ⟨qoi,qm3,.func (W.fnOf "sure_of_a_pointing" "sure_of_a_pointing" (aJ bQ) (aH bQ) (ao bQ) .none qim qin qio qg8 qev qip),qnG⟩) (c23:W.codeIn K qev "sure_of_a_pointing" = true) (k23:W.keepIn K (.ref bT)=true)
    (a24:W.nsIn K mainGlobals "free_ties" = some (some (.ref fZ)))
    (l24:K.lookup fZ=some ⟨qoj,qm4,.func (W.fnOf "free_ties" "free_ties" (aJ eV) (aH eV) (ao eV) .none qiq qir qis qg9 qew qit),qnH⟩) (c24:W.codeIn K qew "free_ties" = true) (k24:W.keepIn K (.ref fZ)=true)
    (a25:W.nsIn K mainGlobals "pointed_with" = some (some (.ref cW)))
    (l25:K.lookup cW=some ⟨qok,qm5,.func (W.fnOf "pointed_with" "pointed_with" (aJ cG) (aH cG) (ao cG) .none qiu qiv qiw qg_ qex qix),qnI⟩) (c25:W.codeIn K qex "pointed_with" = true) (k25:W.keepIn K (.ref cW)=true)
    (a26:W.nsIn K mainGlobals "forced" = some (some (.ref kZ)))
    (l26:K.lookup kZ=some ⟨qol,qm6,.func (W.fnOf "forced" "forced" (aJ kh) (aH kh) (ao kh) .none qiy qiz qiA qha qey qiB),qnJ⟩) (c26:W.codeIn K qey "forced" = true) (k26:W.keepIn K (.ref kZ)=true)
    (a27:W.nsIn K mainGlobals "_law_pot" = some (some (.ref yu)))
    (l27:K.lookup yu=some ⟨qom,qm7,.func (W.fnOf "_law_pot" "_law_pot" (aJ yp) (aH yp) (ao yp) .none qiC qiD qiE qhb qez qiF),qnK⟩) (c27:W.codeIn K qez "_law_pot" = true) (k27:W.keepIn K (.ref yu)=true)
    (a28:W.nsIn K mainGlobals "_law_take" = some (some (.ref rO)))
    (l28:K.lookup rO=some ⟨qon,qm8,.func (W.fnOf "_law_take" "_law_take" (aJ rA) (aH rA) (ao rA) .none qiG qiH qiI qhc qeA qiJ),qnL⟩) (c28:W.codeIn K qeA "_law_take" = true) (k28:W.keepIn K (.ref rO)=true)
    (a29:W.nsIn K mainGlobals "_law_names" = some (some (.ref nJ)))
    (l29:K.lookup nJ=some ⟨qoo,qm9,.func (W.fnOf "_law_names" "_law_names" (aJ lX) (aH lX) (ao lX) .none qiK qiL qiM qhd qeB qiN),qnM⟩) (c29:W.codeIn K qeB "_law_names" = true) (k29:W.keepIn K (.ref nJ)=true)
    (a30:W.nsIn K mainGlobals "_law_mixed" = some (some (.ref nM)))
    (l30:K.lookup nM=some ⟨qop,qm_,.func (W.fnOf "_law_mixed" "_law_mixed" (aJ nA) (aH nA) (ao nA) .none qiO qiP qiQ qhe qeC qiR),qnN⟩) (c30:W.codeIn K qeC "_law_mixed" = true) (k30:W.keepIn K (.ref nM)=true)
    (a31:W.nsIn K mainGlobals "_law_tie" = some (some (.ref yD)))
    (l31:K.lookup yD=some ⟨qoq,qna,.func (W.fnOf "_law_tie" "_law_tie" (aJ yq) (aH yq) (ao yq) .none qiS qiT qiU qhf qeD qiV),qnO⟩) (c31:W.codeIn K qeD "_law_tie" = true) (k31:W.keepIn K (.ref yD)=true)
    (a32:W.nsIn K mainGlobals "_law_web" = some (some (.ref yE)))
    (l32:K.lookup yE=some ⟨qor,qnb,.func (W.fnOf "_law_web" "_law_web" (aJ tD) (aH tD) (ao tD) .none qiW qiX qiY qhg qeE qiZ),qnP⟩) (c32:W.codeIn K qeE "_law_web" = true) (k32:W.keepIn K (.ref yE)=true)
    (a33:W.nsIn K mainGlobals "_law_reached" = some (some (.ref jy)))
    (l33:K.lookup jy=some ⟨qos,qnc,.func (W.fnOf "_law_reached" "_law_reached" (aJ jr) (aH jr) (ao jr) .none qi0 qi1 qi2 qhh qeF qi3),qnQ⟩) (c33:W.codeIn K qeF "_law_reached" = true) (k33:W.keepIn K (.ref jy)=true)
    (a34:W.nsIn K mainGlobals "_law_is_strong" = some (some (.ref f9)))
    (l34:K.lookup f9=some ⟨qot,qnd,.func (W.fnOf "_law_is_strong" "_law_is_strong" (aJ eX) (aH eX) (ao eX) .none qi4 qi5 qi6 qhi qeG qi7),qnR⟩) (c34:W.codeIn K qeG "_law_is_strong" = true) (k34:W.keepIn K (.ref f9)=true)
    (a35:W.nsIn K mainGlobals "_law_is_lot" = some (some (.ref k_)))
    (l35:K.lookup k_=some ⟨qou,qne,.func (W.fnOf "_law_is_lot" "_law_is_lot" (aJ jc) (aH jc) (ao jc) .none qi8 qi9 qi_ qhj qeH qja),qnS⟩) (c35:W.codeIn K qeH "_law_is_lot" = true) (k35:W.keepIn K (.ref k_)=true)
    (a36:W.nsIn K mainGlobals "_law_crossing" = some (some (.ref ig)))
    (l36:K.lookup ig=some ⟨qov,qnf,.func (W.fnOf "_law_crossing" "_law_crossing" (aJ gC) (aH gC) (ao gC) .none qjb qjc qjd qhk qeI qje),qnT⟩) (c36:W.codeIn K qeI "_law_crossing" = true) (k36:W.keepIn K (.ref ig)=true)
    (a37:W.nsIn K mainGlobals "_law_leads_in" = some (some (.ref iu)))
    (l37:K.lookup iu=some ⟨qow,qng,.func (W.fnOf "_law_leads_in" "_law_leads_in" (aJ g8) (aH g8) (ao g8) .none qjf qjg qjh qhl qeJ qji),qnU⟩) (c37:W.codeIn K qeJ "_law_leads_in" = true) (k37:W.keepIn K (.ref iu)=true)
    (a38:W.nsIn K mainGlobals "_law_fixed" = some (some (.ref nP)))
    (l38:K.lookup nP=some ⟨qox,qnh,.func (W.fnOf "_law_fixed" "_law_fixed" (aJ nC) (aH nC) (ao nC) .none qjj qjk qjl qhm qeK qjm),qnV⟩) (c38:W.codeIn K qeK "_law_fixed" = true) (k38:W.keepIn K (.ref nP)=true)
    (a39:W.nsIn K mainGlobals "_law_state" = some (some (.ref nQ)))
    (l39:K.lookup nQ=some ⟨qoy,qni,.func (W.fnOf "_law_state" "_law_state" (aJ lY) (aH lY) (ao lY) .none qjn qjo qjp qhn qeL qjq),qnW⟩) (c39:W.codeIn K qeL "_law_state" = true) (k39:W.keepIn K (.ref nQ)=true)
    (a40:W.nsIn K mainGlobals "_law_bars" = some (some (.ref lg)))
    (l40:K.lookup lg=some ⟨qoz,qnj,.func (W.fnOf "_law_bars" "_law_bars" (aJ kj) (aH kj) (ao kj) .none qjr qjs qjt qho qeM qju),qnX⟩) (c40:W.codeIn K qeM "_law_bars" = true) (k40:W.keepIn K (.ref lg)=true)
    (a41:W.nsIn K mainGlobals "_law_is_left" = some (some (.ref jz)))
    (l41:K.lookup jz=some ⟨qoA,qnk,.func (W.fnOf "_law_is_left" "_law_is_left" (aJ iH) (aH iH) (ao iH) .none qjv qjw qjx qhp qeN qjy),qnY⟩) (c41:W.codeIn K qeN "_law_is_left" = true) (k41:W.keepIn K (.ref jz)=true)
    (a42:W.nsIn K mainGlobals "_law_said" = some (some (.ref rR)))
    (l42:K.lookup rR=some ⟨qoB,qnl,.func (W.fnOf "_law_said" "_law_said" (aJ rB) (aH rB) (ao rB) .none qjz qjA qjB qhq qeO qjC),qnZ⟩) (c42:W.codeIn K qeO "_law_said" = true) (k42:W.keepIn K (.ref rR)=true)
    (a43:W.nsIn K mainGlobals "_law_word" = some (some (.ref rT)))
    (l43:K.lookup rT=some ⟨qoC,qnm,.func (W.fnOf "_law_word" "_law_word" (aJ rC) (aH rC) (ao rC) .none qjD qjE qjF qhr qeP qjG),qn0⟩) (c43:W.codeIn K qeP "_law_word" = true) (k43:W.keepIn K (.ref rT)=true)
    (a44:W.nsIn K mainGlobals "_law_refused_right" = some (some (.ref cO)))
    (l44:K.lookup cO=some ⟨qoD,qnn,.func (W.fnOf "_law_refused_right" "_law_refused_right" (aJ cM) (aH cM) (ao cM) .none qjH qjI qjJ qhs qeQ qjK),qn1⟩) (c44:W.codeIn K qeQ "_law_refused_right" = true) (k44:W.keepIn K (.ref cO)=true)
    (a45:W.nsIn K mainGlobals "_law_dues" = some (some (.ref rU)))
    (l45:K.lookup rU=some ⟨qoE,qnp,.func (W.fnOf "_law_dues" "_law_dues" (aJ rD) (aH rD) (ao rD) .none qjL qjM qjN qht qeR qjO),qn2⟩) (c45:W.codeIn K qeR "_law_dues" = true) (k45:W.keepIn K (.ref rU)=true)
    (a46:W.nsIn K mainGlobals "_law_entry_right" = some (some (.ref dM)))
    (l46:K.lookup dM=some ⟨qoF,qnq,.func (W.fnOf "_law_entry_right" "_law_entry_right" (aJ cH) (aH cH) (ao cH) .none qjP qjQ qjR qhu qeS qjS),qn3⟩) (c46:W.codeIn K qeS "_law_entry_right" = true) (k46:W.keepIn K (.ref dM)=true)
    (a47:W.nsIn K mainGlobals "_law_right" = some (some (.ref nR)))
    (l47:K.lookup nR=some ⟨qoG,qnr,.func (W.fnOf "_law_right" "_law_right" (aJ jL) (aH jL) (ao jL) .none qjT qjU qjV qhv qeT qjW),qn4⟩) (c47:W.codeIn K qeT "_law_right" = true) (k47:W.keepIn K (.ref nR)=true)
    (a48:W.nsIn K mainGlobals "law" = some (some (.ref Ak)))
    (l48:K.lookup Ak=some ⟨qoH,qns,.func (W.fnOf "law" "law" (aJ ur) (aH ur) (ao ur) .none qjX qjY qjZ qhw qeU qj0),qn5⟩) (c48:W.codeIn K qeU "law" = true) (k48:W.keepIn K (.ref Ak)=true)
    (lO:W.nsIn K mainGlobals "LETTERS" = some (some (.str "abcdefghijklmnopqrstuvwxyz" wQ)))
    (fG:W.nsIn K mainGlobals "MOST_LETTERS" = some (some (.int 4 m8)))
    (gH:W.nsIn K mainGlobals "MOST_POINTS" = some (some (.int 9 oN)))
    (je:W.nsIn K mainGlobals "MOST_TIES" = some (some (.int 20 sV)))
    (Qh:W.plainGet K bZ Str.empty=true) (Qi:W.hasDictIn K bZ=true) (Qj:W.plainOver K bZ=true) (Qk:W.findIn K (.ref bZ) "__setattr__" = some (some (.builtin "object.__setattr__"))) (Ql:W.makesIn K bZ=true) (Qm:W.keepIn K (.ref bZ)=true)
    (E_:W.findIn K (.ref bZ) "names" = some none)
    (Fb:W.findIn K (.ref bZ) "pairs" = some none)
    (Zb:W.nsIn K mainGlobals "len" = some none)
    (Zc:W.nsIn K mainGlobals "max" = some none)
    (Zd:W.nsIn K mainGlobals "min" = some none)
    (Ze:W.nsIn K mainGlobals "abs" = some none)
    (Fd:W.nsIn K mainGlobals "divmod" = some none)
    (JX:W.nsIn K mainGlobals "range" = some none)
    (Zf:W.nsIn K mainGlobals "zip" = some none)
    (Qn:W.nsIn K mainGlobals "list" = some none)
    (JZ:W.nsIn K mainGlobals "tuple" = some none)
    (Zg:W.nsIn K mainGlobals "int" = some none)
    (Zh:W.nsIn K mainGlobals "str" = some none)
    (Zi:W.nsIn K mainGlobals "set" = some none)
    (Zj:W.nsIn K mainGlobals "all" = some none)
    (sW:W.nsIn K mainGlobals "isinstance" = some none)
    (uT:W.nsIn K mainGlobals "enumerate" = some none)
    (Zk:W.nsIn K mainGlobals "any" = some none)
    (Qo:W.nsIn K mainGlobals "dict" = some none)
    (Fe:W.nsIn K mainGlobals "sorted" = some none)
    (Qp:W.nsIn K mainGlobals "repr" = some none)
    (Qq:W.nsIn K mainGlobals "bool" = some none)
    (Zm:W.nsIn K mainGlobals "sum" = some none)
    (mG:W.clsIn K aQ=some wj) (mH:wj.mro=[.ref aQ,.type "ValueError",.type "Exception",.type "BaseException",.type "object"]) (qg:W.typeIn K (.ref aQ)=some (.type "type"))
    (Fg:W.clsIn K gb=some Ez) (Fi:Ez.mro=[.ref gb,.ref aQ,.type "ValueError",.type "Exception",.type "BaseException",.type "object"]) (Fj:W.typeIn K (.ref gb)=some (.type "type"))
    (wV:W.clsIn K cQ=some wR) (wW:wR.mro=[.ref cQ,.ref aQ,.type "ValueError",.type "Exception",.type "BaseException",.type "object"]) (wX:W.typeIn K (.ref cQ)=some (.type "type"))
    (Ck:W.clsIn K bW=some JV) (Cm:JV.mro=[.ref bW,.ref aQ,.type "ValueError",.type "Exception",.type "BaseException",.type "object"]) (Cp:W.typeIn K (.ref bW)=some (.type "type"))
    (vG:W.clsIn K bh=some z6) (vH:z6.mro=[.ref bh,.ref aQ,.type "ValueError",.type "Exception",.type "BaseException",.type "object"]) (vI:W.typeIn K (.ref bh)=some (.type "type"))
    (iy:W.excIn K aQ m9 "ValueError.__new__" = true)
    (yV:W.excIn K gb m9 "ValueError.__new__" = true)
    (qI:W.excIn K cQ m9 "ValueError.__new__" = true)
    (qj:W.isClsIn K aQ=true) (qeW:W.specialIn K (.ref aQ) "__getattribute__" = some (some (.builtin "type.__getattribute__"))) (qeX:W.readsIn K aQ (.type "type")=true) (qeY:W.findCls K (.ref aQ) (.type "type") "__init__" = some (.val (.builtin "ValueError.__init__")))
    (LQ:W.specialIn K (.builtin "object.__class__") "__get__" = some (some (.builtin "getset_descriptor.__get__"))) (LR:W.takesIn K (.builtin "object.__class__")=some true)
    (Qs:Jh [aQ,gb,cQ,bW,bh]=true)
    (Fl:Ez.hasDict=true) (Fo:W.findIn K (.ref gb) "__getattribute__" = some (some (.builtin "BaseException.__getattribute__"))) (Fp:W.findIn K (.ref gb) "__getattr__" = some none) (Fq:W.findIn K (.ref gb) "__class__" = some (some (.builtin "object.__class__"))) (Ft:W.keepIn K (.ref gb)=true)
    (wY:wR.hasDict=true) (wZ:W.findIn K (.ref cQ) "__getattribute__" = some (some (.builtin "BaseException.__getattribute__"))) (w5:W.findIn K (.ref cQ) "__getattr__" = some none) (w6:W.findIn K (.ref cQ) "__class__" = some (some (.builtin "object.__class__"))) (xg:W.keepIn K (.ref cQ)=true)
    (Cq:JV.hasDict=true) (Cr:W.findIn K (.ref bW) "__getattribute__" = some (some (.builtin "BaseException.__getattribute__"))) (Cu:W.findIn K (.ref bW) "__getattr__" = some none) (Cv:W.findIn K (.ref bW) "__class__" = some (some (.builtin "object.__class__"))) (zm:W.keepIn K (.ref bW)=true)
    (vJ:z6.hasDict=true) (vK:W.findIn K (.ref bh) "__getattribute__" = some (some (.builtin "BaseException.__getattribute__"))) (vL:W.findIn K (.ref bh) "__getattr__" = some none) (vM:W.findIn K (.ref bh) "__class__" = some (some (.builtin "object.__class__"))) (qP:W.keepIn K (.ref bh)=true)
    (J0:K.lookup bW=some (excClassObj qbg qbh bW qeV qbi [.ref aQ,.type "ValueError",.type "Exception",.type "BaseException",.type "object"] qbj qbl Y9 qbk Y_ qbm qbn qbo qbp qbq qbr "ValueError.__new__")) (J1:W.findIn K (.ref bW) "__setattr__" = some (some (.builtin "object.__setattr__")))
    (ji:W.findIn K (.ref bW) "lot" = some none)
    (z8:K.lookup bh=some (excClassObj U7 U8 bh Za U9 [.ref aQ,.type "ValueError",.type "Exception",.type "BaseException",.type "object"] U_ Vb Qe Va Qf Vc Vd Ve Vf Vg Vh "ValueError.__new__")) (z9:W.findIn K (.ref bh) "__setattr__" = some (some (.builtin "object.__setattr__")))
    (gJ:W.findIn K (.ref bh) "tie" = some none)
    (gK:W.findIn K (.ref bh) "lot" = some none)
    (lu:W.nsIn K mainGlobals "ValueError" = some none)
    : ∃fd:FuncData,(∀(s:Shared) (v:Value),BindsTo s fd ⟨[v],[]⟩ [("_law_script",v)])∧∀base:Heap,K.In base→base.Ns mainGlobals mg→cg l.prog w K mg base lC 9 fa fd ["_law_script"] (JT K):=by
  have e:=hfa.symm.trans (W.mg_of X G a48);cases e;have F1:=bI (st:=dw) l1 c1 k1;have b1:=F1.binds (ps:=["web", "fixed"]) fun _ _ _ _ _ _=>dj fun _ _=>rfl;have F2:=bI (st:=d9) l2 c2 k2;have b2:=F2.binds (ps:=["start", "steps"]) fun _ _ _ _ _ _=>dj fun _ _=>rfl;have F3:=bI (st:=cU) l3 c3 k3;have b3:=F3.binds (ps:=["web", "start", "steps"]) fun _ _ _ _ _ _=>uR fun _ _ _=>rfl;have F4:=bI (st:=pP) l4 c4 k4;have b4:=F4.binds (ps:=["web"]) fun _ _ _ _ _ _=>pZ fun _=>rfl;have F5:=bI (st:=fW) l5 c5 k5;have b5:=F5.binds (ps:=["self", "lot"]) fun _ _ _ _ _ _=>dj fun _ _=>rfl;have F6:=bI (st:=dz) l6 c6 k6;have b6:=F6.binds (ps:=["self", "tie", "lot"]) fun _ _ _ _ _ _=>uR fun _ _ _=>rfl;have F7:=bI (st:=jo) l7 c7 k7;have b7:=F7.binds (ps:=["thing"]) fun _ _ _ _ _ _=>pZ fun _=>rfl;have F8:=bI (st:=gW) l8 c8 k8;have b8:=F8.binds (ps:=["thing"]) fun _ _ _ _ _ _=>pZ fun _=>rfl;have F9:=bI (st:=iG) l9 c9 k9;have b9:=F9.binds (ps:=["thing"]) fun _ _ _ _ _ _=>pZ fun _=>rfl;have F10:=bI (st:=dB) l10 c10 k10;have b10:=F10.binds (ps:=["thing"]) fun _ _ _ _ _ _=>pZ fun _=>rfl;have F11:=bI (st:=jE) l11 c11 k11;have b11:=F11.binds (ps:=["thing", "points"]) fun _ _ _ _ _ _=>dj fun _ _=>rfl;have F12:=bI (st:=gA) l12 c12 k12;have b12:=F12.binds (ps:=["thing", "points"]) fun _ _ _ _ _ _=>dj fun _ _=>rfl;have F13:=bI (st:=gB) l13 c13 k13;have b13:=F13.binds (ps:=["self", "points", "ties"]) fun _ _ _ _ _ _=>uR fun _ _ _=>rfl;have F14:=bI (st:=eE) l14 c14 k14;have b14:=F14.binds (ps:=["self"]) fun _ _ _ _ _ _=>pZ fun _=>rfl;have F15:=bI (st:=gY) l15 c15 k15;have b15:=F15.binds (ps:=["self"]) fun _ _ _ _ _ _=>pZ fun _=>rfl;have F16:=bI (st:=gZ) l16 c16 k16;have b16:=F16.binds (ps:=["self"]) fun _ _ _ _ _ _=>pZ fun _=>rfl;have F17:=bI (st:=fX) l17 c17 k17;have b17:=F17.binds (ps:=["web", "thing"]) fun _ _ _ _ _ _=>dj fun _ _=>rfl;have F18:=bI (st:=jq) l18 c18 k18;have b18:=F18.binds (ps:=["thing"]) fun _ _ _ _ _ _=>pZ fun _=>rfl;have F19:=bI (st:=bH) l19 c19 k19;have b19:=F19.binds (ps:=["web", "steps"]) fun _ _ _ _ _ _=>dj fun _ _=>rfl;have F20:=bI (st:=cJ) l20 c20 k20;have b20:=F20.binds (ps:=["web", "thing"]) fun _ _ _ _ _ _=>dj fun _ _=>rfl;have F21:=bI (st:=cL) l21 c21 k21;have b21:=F21.binds (ps:=["fixed", "number", "lead"]) fun _ _ _ _ _ _=>uR fun _ _ _=>rfl;have F22:=bI (st:=dD) l22 c22 k22;have b22:=F22.binds (ps:=["web", "fixed"]) fun _ _ _ _ _ _=>dj fun _ _=>rfl;have F23:=bI (st:=bQ) l23 c23 k23;have b23:=F23.binds (ps:=["web", "fixed"]) fun _ _ _ _ _ _=>dj fun _ _=>rfl;have F24:=bI (st:=eV) l24 c24 k24;have b24:=F24.binds (ps:=["web", "fixed"]) fun _ _ _ _ _ _=>dj fun _ _=>rfl;have F25:=bI (st:=cG) l25 c25 k25;have b25:=F25.binds (ps:=["web", "fixed"]) fun _ _ _ _ _ _=>dj fun _ _=>rfl;have F26:=bI (st:=kh) l26 c26 k26;have b26:=F26.binds (ps:=["web", "fixed"]) fun _ _ _ _ _ _=>dj fun _ _=>rfl;have F27:=bI (st:=yp) l27 c27 k27;have b27:=F27.binds (ps:=["_law_script", "_law_k"]) fun _ _ _ _ _ _=>dj fun _ _=>rfl;have F28:=bI (st:=rA) l28 c28 k28;have b28:=F28.binds (ps:=["_law_pot_here", "_law_many"]) fun _ _ _ _ _ _=>dj fun _ _=>rfl;have F29:=bI (st:=lX) l29 c29 k29;have b29:=F29.binds (ps:=["_law_pot_here", "_law_many"]) fun _ _ _ _ _ _=>dj fun _ _=>rfl;have F30:=bI (st:=nA) l30 c30 k30;have b30:=F30.binds (ps:=["_law_pot_here", "_law_things"]) fun _ _ _ _ _ _=>dj fun _ _=>rfl;have F31:=bI (st:=yq) l31 c31 k31;have b31:=F31.binds (ps:=["_law_pot_here", "_law_names_here"]) fun _ _ _ _ _ _=>dj fun _ _=>rfl;have F32:=bI (st:=tD) l32 c32 k32;have b32:=F32.binds (ps:=["_law_pot_here", "_law_points", "_law_most"]) fun _ _ _ _ _ _=>uR fun _ _ _=>rfl;have F33:=bI (st:=jr) l33 c33 k33;have b33:=F33.binds (ps:=["_law_web_here", "_law_pointing", "_law_start"]) fun _ _ _ _ _ _=>uR fun _ _ _=>rfl;have F34:=bI (st:=eX) l34 c34 k34;have b34:=F34.binds (ps:=["_law_web_here", "_law_pointing"]) fun _ _ _ _ _ _=>dj fun _ _=>rfl;have F35:=bI (st:=jc) l35 c35 k35;have b35:=F35.binds (ps:=["_law_web_here", "_law_lot"]) fun _ _ _ _ _ _=>dj fun _ _=>rfl;have F36:=bI (st:=gC) l36 c36 k36;have b36:=F36.binds (ps:=["_law_web_here", "_law_lot"]) fun _ _ _ _ _ _=>dj fun _ _=>rfl;have F37:=bI (st:=g8) l37 c37 k37;have b37:=F37.binds (ps:=["_law_web_here", "_law_lot", "_law_k", "_law_turn"]) fun _ _ _ _ _ _=>Y8 fun _ _ _ _=>rfl;have F38:=bI (st:=nC) l38 c38 k38;have b38:=F38.binds (ps:=["_law_pot_here", "_law_web_here"]) fun _ _ _ _ _ _=>dj fun _ _=>rfl;have F39:=bI (st:=lY) l39 c39 k39;have b39:=F39.binds (ps:=["_law_web_here", "_law_fixed_here"]) fun _ _ _ _ _ _=>dj fun _ _=>rfl;have F40:=bI (st:=kj) l40 c40 k40;have b40:=F40.binds (ps:=["_law_web_here", "_law_k"]) fun _ _ _ _ _ _=>dj fun _ _=>rfl;have F41:=bI (st:=iH) l41 c41 k41;have b41:=F41.binds (ps:=["_law_web_here", "_law_state_here", "_law_lot"]) fun _ _ _ _ _ _=>uR fun _ _ _=>rfl;have F42:=bI (st:=rB) l42 c42 k42;have b42:=F42.binds (ps:=["_law_made", "_law_fixed_here"]) fun _ _ _ _ _ _=>dj fun _ _=>rfl;have F43:=bI (st:=rC) l43 c43 k43;have b43:=F43.binds (ps:=["_law_made", "_law_fixed_here"]) fun _ _ _ _ _ _=>dj fun _ _=>rfl;have F44:=bI (st:=cM) l44 c44 k44;have b44:=F44.binds (ps:=["_law_web_here", "_law_state_here", "_law_word_here", "_law_told"]) fun _ _ _ _ _ _=>Y8 fun _ _ _ _=>rfl;have F45:=bI (st:=rD) l45 c45 k45;have b45:=F45.binds (ps:=["_law_web_here", "_law_state_here"]) fun _ _ _ _ _ _=>dj fun _ _=>rfl;have F46:=bI (st:=cH) l46 c46 k46;have b46:=F46.binds (ps:=["_law_web_here", "_law_state_here", "_law_k", "_law_turn", "_law_entry"]) fun _ _ _ _ _ _=>qeh fun _ _ _ _ _=>rfl;have F47:=bI (st:=jL) l47 c47 k47;have b47:=F47.binds (ps:=["_law_made", "_law_web_here", "_law_fixed_here"]) fun _ _ _ _ _ _=>uR fun _ _ _=>rfl;have F48:=bI (st:=ur) l48 c48 k48;have b48:=F48.binds (ps:=["_law_script"]) fun _ _ _ _ _ _=>pZ fun _=>rfl;have T:Txt K mg {dG:=dG,kI:=W.fnOf "steps_along" "steps_along" (aJ dw) (aH dw) (ao dw) .none kV1 dc1 pm1 an1 cd1 ct1,eF:=eF,lZ:=W.fnOf "ways_along" "ways_along" (aJ d9) (aH d9) (ao d9) .none kV2 dc2 pm2 an2 cd2 ct2,dH:=dH,kJ:=W.fnOf "found_along" "found_along" (aJ cU) (aH cU) (ao cU) .none kV3 dc3 pm3 an3 cd3 ct3,rJ:=rJ,BK:=W.fnOf "bars" "bars" (aJ pP) (aH pP) (ao pP) .none kV4 dc4 pm4 an4 cd4 ct4,eY:=eY,nF:=W.fnOf "__init__" "Shut.__init__" (aJ fW) (aH fW) (ao fW) .none kV5 dc5 pm5 an5 cd5 ct5,cV:=cV,kO:=W.fnOf "__init__" "Barred.__init__" (aJ dz) (aH dz) (ao dz) .none kV6 dc6 pm6 an6 cd6 ct6,jt:=jt,rK:=W.fnOf "is_list" "is_list" (aJ jo) (aH jo) (ao jo) .none kV7 dc7 pm7 an7 cd7 ct7,g_:=g_,o_:=W.fnOf "is_whole" "is_whole" (aJ gW) (aH gW) (ao gW) .none kV8 dc8 pm8 an8 cd8 ct8,ju:=ju,rM:=W.fnOf "is_name" "is_name" (aJ iG) (aH iG) (ao iG) .none kV9 dc9 pm9 an9 cd9 ct9,eG:=eG,mj:=W.fnOf "are_points" "are_points" (aJ dB) (aH dB) (ao dB) .none qhx qhy qhz qgV qei qhA,kW:=kW,u9:=W.fnOf "is_tie" "is_tie" (aJ jE) (aH jE) (ao jE) .none qhB qhC qhD qgW qej qhE,h_:=h_,pq:=W.fnOf "are_ties" "are_ties" (aJ gA) (aH gA) (ao gA) .none qhF qhG qhH qgX qek qhI,gD:=gD,pA:=W.fnOf "__init__" "Web.__init__" (aJ gB) (aH gB) (ao gB) .none qhJ qhK qhL qgY qel qhM,dI:=dI,mq:=W.fnOf "points" "Web.points" (aJ eE) (aH eE) (ao eE) .none qhN qhO qhP qgZ qem qhQ,gF:=gF,pB:=W.fnOf "ties" "Web.ties" (aJ gY) (aH gY) (ao gY) .none qhR qhS qhT qg0 qen qhU,gG:=gG,pC:=W.fnOf "many" "Web.many" (aJ gZ) (aH gZ) (ao gZ) .none qhV qhW qhX qg1 qeo qhY,fY:=fY,nG:=W.fnOf "is_number" "is_number" (aJ fX) (aH fX) (ao fX) .none qhZ qh0 qh1 qg2 qep qh2,jw:=jw,rN:=W.fnOf "is_lead" "is_lead" (aJ jq) (aH jq) (ao jq) .none qh3 qh4 qh5 qg3 qeq qh6,bR:=bR,fO:=W.fnOf "lot_without_way_in" "lot_without_way_in" (aJ bH) (aH bH) (ao bH) .none qh7 qh8 qh9 qg4 qer qh_,cj:=cj,gR:=W.fnOf "sure_of_fixed" "sure_of_fixed" (aJ cJ) (aH cJ) (ao cJ) .none qia qib qic qg5 qes qid,cN:=cN,jx:=W.fnOf "with_one_more" "with_one_more" (aJ cL) (aH cL) (ao cL) .none qie qif qig qg6 qet qih,dJ:=dJ,kY:=W.fnOf "lot_shut_by" "lot_shut_by" (aJ dD) (aH dD) (ao dD) .none qii qij qik qg7 qeu qil,bT:=bT,fP:=W.fnOf "sure_of_a_pointing" "sure_of_a_pointing" (aJ bQ) (aH bQ) (ao bQ) .none qim qin qio qg8 qev qip,fZ:=fZ,nH:=W.fnOf "free_ties" "free_ties" (aJ eV) (aH eV) (ao eV) .none qiq qir qis qg9 qew qit,cW:=cW,jM:=W.fnOf "pointed_with" "pointed_with" (aJ cG) (aH cG) (ao cG) .none qiu qiv qiw qg_ qex qix,kZ:=kZ,u_:=W.fnOf "forced" "forced" (aJ kh) (aH kh) (ao kh) .none qiy qiz qiA qha qey qiB,yu:=yu,Jo:=W.fnOf "_law_pot" "_law_pot" (aJ yp) (aH yp) (ao yp) .none qiC qiD qiE qhb qez qiF,rO:=rO,BL:=W.fnOf "_law_take" "_law_take" (aJ rA) (aH rA) (ao rA) .none qiG qiH qiI qhc qeA qiJ,nJ:=nJ,yx:=W.fnOf "_law_names" "_law_names" (aJ lX) (aH lX) (ao lX) .none qiK qiL qiM qhd qeB qiN,nM:=nM,yC:=W.fnOf "_law_mixed" "_law_mixed" (aJ nA) (aH nA) (ao nA) .none qiO qiP qiQ qhe qeC qiR,yD:=yD,Jp:=W.fnOf "_law_tie" "_law_tie" (aJ yq) (aH yq) (ao yq) .none qiS qiT qiU qhf qeD qiV,yE:=yE,Jq:=W.fnOf "_law_web" "_law_web" (aJ tD) (aH tD) (ao tD) .none qiW qiX qiY qhg qeE qiZ,jy:=jy,rP:=W.fnOf "_law_reached" "_law_reached" (aJ jr) (aH jr) (ao jr) .none qi0 qi1 qi2 qhh qeF qi3,f9:=f9,nO:=W.fnOf "_law_is_strong" "_law_is_strong" (aJ eX) (aH eX) (ao eX) .none qi4 qi5 qi6 qhi qeG qi7,k_:=k_,vd:=W.fnOf "_law_is_lot" "_law_is_lot" (aJ jc) (aH jc) (ao jc) .none qi8 qi9 qi_ qhj qeH qja,ig:=ig,pD:=W.fnOf "_law_crossing" "_law_crossing" (aJ gC) (aH gC) (ao gC) .none qjb qjc qjd qhk qeI qje,iu:=iu,pF:=W.fnOf "_law_leads_in" "_law_leads_in" (aJ g8) (aH g8) (ao g8) .none qjf qjg qjh qhl qeJ qji,nP:=nP,yF:=W.fnOf "_law_fixed" "_law_fixed" (aJ nC) (aH nC) (ao nC) .none qjj qjk qjl qhm qeK qjm,nQ:=nQ,yG:=W.fnOf "_law_state" "_law_state" (aJ lY) (aH lY) (ao lY) .none qjn qjo qjp qhn qeL qjq,lg:=lg,vf:=W.fnOf "_law_bars" "_law_bars" (aJ kj) (aH kj) (ao kj) .none qjr qjs qjt qho qeM qju,jz:=jz,rQ:=W.fnOf "_law_is_left" "_law_is_left" (aJ iH) (aH iH) (ao iH) .none qjv qjw qjx qhp qeN qjy,rR:=rR,BP:=W.fnOf "_law_said" "_law_said" (aJ rB) (aH rB) (ao rB) .none qjz qjA qjB qhq qeO qjC,rT:=rT,BW:=W.fnOf "_law_word" "_law_word" (aJ rC) (aH rC) (ao rC) .none qjD qjE qjF qhr qeP qjG,cO:=cO,jA:=W.fnOf "_law_refused_right" "_law_refused_right" (aJ cM) (aH cM) (ao cM) .none qjH qjI qjJ qhs qeQ qjK,rU:=rU,BX:=W.fnOf "_law_dues" "_law_dues" (aJ rD) (aH rD) (ao rD) .none qjL qjM qjN qht qeR qjO,dM:=dM,lq:=W.fnOf "_law_entry_right" "_law_entry_right" (aJ cH) (aH cH) (ao cH) .none qjP qjQ qjR qhu qeS qjS,nR:=nR,yH:=W.fnOf "_law_right" "_law_right" (aJ jL) (aH jL) (ao jL) .none qjT qjU qjV qhv qeT qjW,Ak:=fa,Jr:=W.fnOf "law" "law" (aJ ur) (aH ur) (ao ur) .none qjX qjY qjZ qhw qeU qj0,lO:=.str "abcdefghijklmnopqrstuvwxyz" wQ,fG:=.int 4 m8,gH:=.int 9 oN,je:=.int 20 sV,bZ:=bZ,aQ:=aQ,gb:=gb,cQ:=cQ,bW:=bW,bh:=bh}:={mz:=F1,pR:=b1,pU:=W.mg_of X G a1,rW:=F2,yI:=b2,yJ:=W.mg_of X G a2,mC:=F3,pW:=b3,pX:=W.mg_of X G a3,O4:=F4,X3:=b4,X4:=W.mg_of X G a4,Al:=F5,Am:=b5,vU:=F6,vV:=b6,qF:=F7,vg:=b7,vh:=W.mg_of X G a7,rY:=F8,wH:=b8,wI:=W.mg_of X G a8,vm:=F9,zO:=b9,zP:=W.mg_of X G a9,rZ:=F10,yK:=b10,yL:=W.mg_of X G a10,DQ:=F11,Ly:=b11,Lz:=W.mg_of X G a11,wJ:=F12,DR:=b12,DW:=W.mg_of X G a12,DX:=F13,su:=b13,yM:=F14,sy:=b14,sI:=⟨a14,i14,k14⟩,DY:=F15,wK:=b15,wL:=⟨a15,i15,k15⟩,D_:=F16,sE:=b16,sJ:=⟨a16,i16,k16⟩,uy:=F17,Ao:=b17,Aq:=W.mg_of X G a17,zQ:=F18,G9:=b18,G_:=W.mg_of X G a18,jf:=F19,mK:=b19,mL:=W.mg_of X G a19,jN:=F20,mY:=b20,mZ:=W.mg_of X G a20,jO:=F21,m5:=b21,m6:=W.mg_of X G a21,jF:=F22,mD:=b22,mF:=W.mg_of X G a22,gj:=F23,jg:=b23,jh:=W.mg_of X G a23,pG:=F24,uz:=b24,uD:=W.mg_of X G a24,oF:=F25,uE:=b25,uF:=W.mg_of X G a25,yN:=F26,Ea:=b26,Eb:=W.mg_of X G a26,X5:=F27,qbX:=b27,qbY:=W.mg_of X G a27,iw:=F28,iQ:=b28,iR:=W.mg_of X G a28,BZ:=F29,Js:=b29,Jt:=W.mg_of X G a29,vo:=F30,yO:=b30,yP:=W.mg_of X G a30,Rp:=F31,X6:=b31,X7:=W.mg_of X G a31,X8:=F32,qbZ:=b32,qb0:=W.mg_of X G a32,qG:=F33,vp:=b33,vq:=W.mg_of X G a33,mO:=F34,pH:=b34,pI:=W.mg_of X G a34,uG:=F35,yQ:=b35,yR:=W.mg_of X G a35,lQ:=F36,oG:=b36,oH:=W.mg_of X G a36,oJ:=F37,sG:=b37,sH:=W.mg_of X G a37,B_:=F38,Ju:=b38,Jv:=W.mg_of X G a38,Jw:=F39,Rq:=b39,Rr:=W.mg_of X G a39,Ec:=F40,LC:=b40,LK:=W.mg_of X G a40,zR:=F41,Hh:=b41,Hi:=W.mg_of X G a41,O5:=F42,X_:=b42,Yb:=W.mg_of X G a42,O6:=F43,Yc:=b43,Yd:=W.mg_of X G a43,m7:=F44,tE:=b44,tG:=W.mg_of X G a44,O7:=F45,Ye:=b45,Yg:=W.mg_of X G a45,pY:=F46,vW:=b46,vX:=W.mg_of X G a46,yS:=F47,Ca:=b47,Cd:=W.mg_of X G a47,qb1:=F48,qgr:=b48,qgs:=W.mg_of X G a48,Hj:=W.mg_of X G lO,Hl:=⟨wQ,rfl⟩,uH:=W.mg_of X G fG,uI:=⟨m8,rfl⟩,vY:=W.mg_of X G gH,vZ:=⟨oN,rfl⟩,Ar:=W.mg_of X G je,Av:=⟨sV,rfl⟩,Jx:=E_,Ce:=Fb,Rt:=W.mg_of X G Qg,qH:=⟨Qh,Qi,Qj,Qk⟩,Ru:=⟨Ql,a13,i13,Qm⟩,nm:=⟨W.mg_none_of X G Zb,W.mg_none_of X G Zc,W.mg_none_of X G Zd,W.mg_none_of X G Ze,W.mg_none_of X G Fd,W.mg_none_of X G JX,W.mg_none_of X G Zf,W.mg_none_of X G Qn,W.mg_none_of X G JZ,W.mg_none_of X G Zg,W.mg_none_of X G Zh,W.mg_none_of X G Zi,W.mg_none_of X G Zj,W.mg_none_of X G sW⟩,Jj:=⟨W.mg_none_of X G uT,W.mg_none_of X G Zk,W.mg_none_of X G Qo,W.mg_none_of X G Fe,W.mg_none_of X G Qp,W.mg_none_of X G Qq⟩,nm3:=⟨W.mg_none_of X G Zm⟩,sO:=W.mg_of X G qe,qaN:=W.mg_of X G EY,Uh:=W.mg_of X G wU,Jy:=W.mg_of X G JW,yU:=W.mg_of X G z7,iy:=iy,yV:=yV,qI:=qI,ib:=qj,tb:=qg,ini:=⟨qeW,qeX,qeY⟩,LQ:=LQ,LR:=LR,nd:=GZ Qs,Yh:=⟨⟨_,Fg,Fi,Fl⟩,Fj,Fo,Fp,Fq,Ft⟩,O8:=⟨⟨_,wV,wW,wY⟩,wX,wZ,w5,w6,xg⟩,pJ:=⟨⟨_,Ck,Cm,Cq⟩,Cp,Cr,Cu,Cv,zm⟩,gU:=⟨⟨_,vG,vH,vJ⟩,vI,vK,vL,vM,qP⟩,sS:=⟨⟨_,_,_,_,_,_,_,_,_,_,_,_,_,_,_,J0⟩,iy,⟨_,mG,mH⟩,a5,beq_iff_eq.mp i5,zm⟩,Rv:=XC.set ⟨⟨_,Ck,Cm,Cq⟩,Cp,Cr,Cu,Cv,zm⟩ J1,ji:=ji,lR:=⟨⟨_,_,_,_,_,_,_,_,_,_,_,_,_,_,_,z8⟩,iy,⟨_,mG,mH⟩,a6,beq_iff_eq.mp i6,qP⟩,zT:=XC.set ⟨⟨_,vG,vH,vJ⟩,vI,vK,vL,vM,qP⟩ z9,gJ:=gJ,gK:=gK,lu:=W.mg_none_of X G lu};exact⟨_,fun s v=>.of_eq rfl,fun base _ _=>qd8 T⟩
theorem walk {l:W.OpenLaw} {q:Program} {loose:List Str} {XP:(Str→Option Value)→Heap→Prop} {YP:World→Heap→Prop} {d:DefRec} {K:Params→W.Frag} (hn:l.most=some 63) (hdf:d.params.defaults=[])
    (hY:∀(w:World) (h:Heap),YP w h→(K w.params).In h)
    (F:∀(w:World) (mg:Str→Option Value) (fa:Addr) (h:Heap),(K w.params).In h→h.Ns mainGlobals mg→mg d.name=some (.ref fa)→
      ∃fd:FuncData,(∀(s:Shared) (u:Value),BindsTo s fd ⟨[u],[]⟩ [("_law_script",u)])∧∀base:Heap,(K w.params).In base→base.Ns mainGlobals mg→cg l.prog w (K w.params) mg base lC 9 fa fd ["_law_script"] (JT (K w.params))) :
    W.WalkO q loose XP YP l.row.toRowW d [] (fun f vs=>PySem.call f vs):=
  L2.Z1 (n:=63) (k:=9) (x:= "_law_script") (CX:=fun _=>lC) (sp:=fun w=>JT (K w.params)) hn (by decide) hdf ⟨rfl,by decide,by decide,rfl⟩ hY F (fun _ _ a ns hl _ hS=>⟨a,ns,rfl,hS,hl,fun _=>rfl⟩) fun _ _ _ _ _ z=>z
end K42
end
set_option Elab.async false
set_option maxRecDepth 100000
set_option maxHeartbeats 4000000
open PySem PySem.W PyProof.Rows
namespace PySem.W.Fast
def tw3589886209218188547:=0
def tw1014889311715826731:=0
def tw7074143863614070182:=0
def tw6837784741470284708:=0
def tw17003820762137974150:=0
def tw16290346387361692058:=0
def tw8288105918850697259:=0
def tw6969606671708722056:=0
end PySem.W.Fast
set_option maxRecDepth 100000 in
set_option maxHeartbeats 0 in
theorem PySem.Challenge.cw_pointways_k42_whole_forced_ties_holds : PySem.Challenge.rw_pointways_k42_whole_forced_ties.Holds := by
  w_on;o_law;k_head;(case hw=>w_witness2)
  k_fill
  refine K42.walk (l:=PySem.Challenge.rw_pointways_k42_whole_forced_ties) rfl rfl (fun w h Y=>W.kIn_of Y) ?F
  case F=>
    intro w mg fa h KX G hmg;refine' K42.all_mk KX G hmg ?Qg ?qe ?EY ?wU ?JW ?z7 ?a1 ?l1 ?c1 ?k1 ?a2 ?l2 ?c2 ?k2 ?a3 ?l3 ?c3 ?k3 ?a4 ?l4 ?c4 ?k4 ?a5 ?i5 ?l5 ?c5 ?k5 ?a6 ?i6 ?l6 ?c6 ?k6 ?a7 ?l7 ?c7 ?k7 ?a8 ?l8 ?c8 ?k8 ?a9 ?l9 ?c9 ?k9 ?a10 ?l10 ?c10 ?k10 ?a11 ?l11 ?c11 ?k11 ?a12 ?l12 ?c12 ?k12 ?a13 ?i13 ?l13 ?c13 ?k13 ?a14 ?i14 ?l14 ?c14 ?k14 ?a15 ?i15 ?l15 ?c15 ?k15 ?a16 ?i16 ?l16 ?c16 ?k16 ?a17 ?l17 ?c17 ?k17 ?a18 ?l18 ?c18 ?k18 ?a19 ?l19 ?c19 ?k19 ?a20 ?l20 ?c20 ?k20 ?a21 ?l21 ?c21 ?k21 ?a22 ?l22 ?c22 ?k22 ?a23 ?l23 ?c23 ?k23 ?a24 ?l24 ?c24 ?k24 ?a25 ?l25 ?c25 ?k25 ?a26 ?l26 ?c26 ?k26 ?a27 ?l27 ?c27 ?k27 ?a28 ?l28 ?c28 ?k28 ?a29 ?l29 ?c29 ?k29 ?a30 ?l30 ?c30 ?k30 ?a31 ?l31 ?c31 ?k31 ?a32 ?l32 ?c32 ?k32 ?a33 ?l33 ?c33 ?k33 ?a34 ?l34 ?c34 ?k34 ?a35 ?l35 ?c35 ?k35 ?a36 ?l36 ?c36 ?k36 ?a37 ?l37 ?c37 ?k37 ?a38 ?l38 ?c38 ?k38 ?a39 ?l39 ?c39 ?k39 ?a40 ?l40 ?c40 ?k40 ?a41 ?l41 ?c41 ?k41 ?a42 ?l42 ?c42 ?k42 ?a43 ?l43 ?c43 ?k43 ?a44 ?l44 ?c44 ?k44 ?a45 ?l45 ?c45 ?k45 ?a46 ?l46 ?c46 ?k46 ?a47 ?l47 ?c47 ?k47 ?a48 ?l48 ?c48 ?k48 ?lO ?fG ?gH ?je ?Qh ?Qi ?Qj ?Qk ?Ql ?Qm ?E_ ?Fb ?Zb ?Zc ?Zd ?Ze ?Fd ?JX ?Zf ?Qn ?JZ ?Zg ?Zh ?Zi ?Zj ?sW ?uT ?Zk ?Qo ?Fe ?Qp ?Qq ?Zm ?mG ?mH ?qg ?Fg ?Fi ?Fj ?wV ?wW ?wX ?Ck ?Cm ?Cp ?vG ?vH ?vI ?iy ?yV ?qI ?qj ?qeW ?qeX ?qeY ?LQ ?LR ?Qs ?Fl ?Fo ?Fp ?Fq ?Ft ?wY ?wZ ?w5 ?w6 ?xg ?Cq ?Cr ?Cu ?Cv ?zm ?vJ ?vK ?vL ?vM ?qP ?J0 ?J1 ?ji ?z8 ?z9 ?gJ ?gK ?lu
    (case Qg=>k_is)
    (case qe=>k_is)
    (case EY=>k_is)
    (case wU=>k_is)
    (case JW=>k_is)
    (case z7=>k_is)
    (case a1=>k_is)
    (case l1=>k_is)
    (case c1=>k_is)
    (case k1=>k_is)
    (case a2=>k_is)
    (case l2=>k_is)
    (case c2=>k_is)
    (case k2=>k_is)
    (case a3=>k_is)
    (case l3=>k_is)
    (case c3=>k_is)
    (case k3=>k_is)
    (case a4=>k_is)
    (case l4=>k_is)
    (case c4=>k_is)
    (case k4=>k_is)
    (case a5=>k_is)
    (case i5=>k_is)
    (case l5=>k_is)
    (case c5=>k_is)
    (case k5=>k_is)
    (case a6=>k_is)
    (case i6=>k_is)
    (case l6=>k_is)
    (case c6=>k_is)
    (case k6=>k_is)
    (case a7=>k_is)
    (case l7=>k_is)
    (case c7=>k_is)
    (case k7=>k_is)
    (case a8=>k_is)
    (case l8=>k_is)
    (case c8=>k_is)
    (case k8=>k_is)
    (case a9=>k_is)
    (case l9=>k_is)
    (case c9=>k_is)
    (case k9=>k_is)
    (case a10=>k_is)
    (case l10=>k_is)
    (case c10=>k_is)
    (case k10=>k_is)
    (case a11=>k_is)
    (case l11=>k_is)
    (case c11=>k_is)
    (case k11=>k_is)
    (case a12=>k_is)
    (case l12=>k_is)
    (case c12=>k_is)
    (case k12=>k_is)
    (case a13=>k_is)
    (case i13=>k_is)
    (case l13=>k_is)
    (case c13=>k_is)
    (case k13=>k_is)
    (case a14=>k_is)
    (case i14=>k_is)
    (case l14=>k_is)
    (case c14=>k_is)
    (case k14=>k_is)
    (case a15=>k_is)
    (case i15=>k_is)
    (case l15=>k_is)
    (case c15=>k_is)
    (case k15=>k_is)
    (case a16=>k_is)
    (case i16=>k_is)
    (case l16=>k_is)
    (case c16=>k_is)
    (case k16=>k_is)
    (case a17=>k_is)
    (case l17=>k_is)
    (case c17=>k_is)
    (case k17=>k_is)
    (case a18=>k_is)
    (case l18=>k_is)
    (case c18=>k_is)
    (case k18=>k_is)
    (case a19=>k_is)
    (case l19=>k_is)
    (case c19=>k_is)
    (case k19=>k_is)
    (case a20=>k_is)
    (case l20=>k_is)
    (case c20=>k_is)
    (case k20=>k_is)
    (case a21=>k_is)
    (case l21=>k_is)
    (case c21=>k_is)
    (case k21=>k_is)
    (case a22=>k_is)
    (case l22=>k_is)
    (case c22=>k_is)
    (case k22=>k_is)
    (case a23=>k_is)
    (case l23=>k_is)
    (case c23=>k_is)
    (case k23=>k_is)
    (case a24=>k_is)
    (case l24=>k_is)
    (case c24=>k_is)
    (case k24=>k_is)
    (case a25=>k_is)
    (case l25=>k_is)
    (case c25=>k_is)
    (case k25=>k_is)
    (case a26=>k_is)
    (case l26=>k_is)
    (case c26=>k_is)
    (case k26=>k_is)
    (case a27=>k_is)
    (case l27=>k_is)
    (case c27=>k_is)
    (case k27=>k_is)
    (case a28=>k_is)
    (case l28=>k_is)
    (case c28=>k_is)
    (case k28=>k_is)
    (case a29=>k_is)
    (case l29=>k_is)
    (case c29=>k_is)
    (case k29=>k_is)
    (case a30=>k_is)
    (case l30=>k_is)
    (case c30=>k_is)
    (case k30=>k_is)
    (case a31=>k_is)
    (case l31=>k_is)
    (case c31=>k_is)
    (case k31=>k_is)
    (case a32=>k_is)
    (case l32=>k_is)
    (case c32=>k_is)
    (case k32=>k_is)
    (case a33=>k_is)
    (case l33=>k_is)
    (case c33=>k_is)
    (case k33=>k_is)
    (case a34=>k_is)
    (case l34=>k_is)
    (case c34=>k_is)
    (case k34=>k_is)
    (case a35=>k_is)
    (case l35=>k_is)
    (case c35=>k_is)
    (case k35=>k_is)
    (case a36=>k_is)
    (case l36=>k_is)
    (case c36=>k_is)
    (case k36=>k_is)
    (case a37=>k_is)
    (case l37=>k_is)
    (case c37=>k_is)
    (case k37=>k_is)
    (case a38=>k_is)
    (case l38=>k_is)
    (case c38=>k_is)
    (case k38=>k_is)
    (case a39=>k_is)
    (case l39=>k_is)
    (case c39=>k_is)
    (case k39=>k_is)
    (case a40=>k_is)
    (case l40=>k_is)
    (case c40=>k_is)
    (case k40=>k_is)
    (case a41=>k_is)
    (case l41=>k_is)
    (case c41=>k_is)
    (case k41=>k_is)
    (case a42=>k_is)
    (case l42=>k_is)
    (case c42=>k_is)
    (case k42=>k_is)
    (case a43=>k_is)
    (case l43=>k_is)
    (case c43=>k_is)
    (case k43=>k_is)
    (case a44=>k_is)
    (case l44=>k_is)
    (case c44=>k_is)
    (case k44=>k_is)
    (case a45=>k_is)
    (case l45=>k_is)
    (case c45=>k_is)
    (case k45=>k_is)
    (case a46=>k_is)
    (case l46=>k_is)
    (case c46=>k_is)
    (case k46=>k_is)
    (case a47=>k_is)
    (case l47=>k_is)
    (case c47=>k_is)
    (case k47=>k_is)
    (case a48=>k_is)
    (case l48=>k_is)
    (case c48=>k_is)
    (case k48=>k_is)
    (case lO=>k_is)
    (case fG=>k_is)
    (case gH=>k_is)
    (case je=>k_is)
    (case Qh=>k_is)
    (case Qi=>k_is)
    (case Qj=>k_is)
    (case Qk=>k_is)
    (case Ql=>k_is)
    (case Qm=>k_is)
    (case E_=>k_is)
    (case Fb=>k_is)
    (case Zb=>k_is)
    (case Zc=>k_is)
    (case Zd=>k_is)
    (case Ze=>k_is)
    (case Fd=>k_is)
    (case JX=>k_is)
    (case Zf=>k_is)
    (case Qn=>k_is)
    (case JZ=>k_is)
    (case Zg=>k_is)
    (case Zh=>k_is)
    (case Zi=>k_is)
    (case Zj=>k_is)
    (case sW=>k_is)
    (case uT=>k_is)
    (case Zk=>k_is)
    (case Qo=>k_is)
    (case Fe=>k_is)
    (case Qp=>k_is)
    (case Qq=>k_is)
    (case Zm=>k_is)
    (case mG=>k_is)
    (case mH=>rfl)
    (case qg=>k_is)
    (case Fg=>k_is)
    (case Fi=>rfl)
    (case Fj=>k_is)
    (case wV=>k_is)
    (case wW=>rfl)
    (case wX=>k_is)
    (case Ck=>k_is)
    (case Cm=>rfl)
    (case Cp=>k_is)
    (case vG=>k_is)
    (case vH=>rfl)
    (case vI=>k_is)
    (case iy=>k_exc)
    (case yV=>k_exc)
    (case qI=>k_exc)
    (case qj=>k_is)
    (case qeW=>k_is)
    (case qeX=>k_is)
    (case qeY=>k_is)
    (case LQ=>k_is)
    (case LR=>k_is)
    (case Qs=>decide+kernel)
    (case Fl=>rfl)
    (case Fo=>k_is)
    (case Fp=>k_is)
    (case Fq=>k_is)
    (case Ft=>k_is)
    (case wY=>rfl)
    (case wZ=>k_is)
    (case w5=>k_is)
    (case w6=>k_is)
    (case xg=>k_is)
    (case Cq=>rfl)
    (case Cr=>k_is)
    (case Cu=>k_is)
    (case Cv=>k_is)
    (case zm=>k_is)
    (case vJ=>rfl)
    (case vK=>k_is)
    (case vL=>k_is)
    (case vM=>k_is)
    (case qP=>k_is)
    (case J0=>k_is)
    (case J1=>k_is)
    (case ji=>k_is)
    (case z8=>k_is)
    (case z9=>k_is)
    (case gJ=>k_is)
    (case gK=>k_is)
    (case lu=>k_is)


